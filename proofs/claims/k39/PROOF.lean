import PyProof.Rows.All
import Wide.All
import OpenK.AllK
import Wide.FinOn
import Lean
import PyProof.EqAt
import PyProof.EqKinds
import PyProof.TupleCall
import PySem.Challenge.RW_othersum_k39_hidden
noncomputable section
set_option Elab.async false
set_option linter.all false
set_option maxRecDepth 100000
namespace L2
open PySem PySem.Spec PyProof.Rows
abbrev Key:=Sum Int Str
def rQ:Key->Value->Bool
 | .inl k,v=>Value.isInt k v
 | .inr x,v=>Value.isStrOf x v
def keyH (w:World):Key->Int
 | .inl k=>hashInt k
 | .inr x=>hashStr w x
theorem aQ:∀ {k:Key} {v:Value},rQ k v=true->(∃ i t,k=Sum.inl i /\ v=Value.int i t)∨(∃ x t,k=Sum.inr x /\ v=Value.str x t)
 | .inl i,v,h=>by
  obtain ⟨t,e⟩:=Value.isInt_shape (k:=i) (v:=v) h
  exact .inl ⟨i,t,rfl,e⟩
 | .inr x,v,h=>by
  obtain ⟨t,e⟩:=Value.isStrOf_shape (x:=x) (v:=v) h
  exact .inr ⟨x,t,rfl,e⟩
theorem sT (i:Int) (t:Tok):rQ (.inl i) (.int i t)=true:=by simp [rQ,Value.isInt]
theorem sU (x:Str) (t:Tok):rQ (.inr x) (.str x t)=true:=by simp [rQ,Value.isStrOf]
theorem zT (a b:Int):decide ((Sum.inl a:Key)=Sum.inl b)=(a == b):=by
 by_cases e:a=b
 ·subst e; simp
 ·have h:¬ (Sum.inl a:Key)=Sum.inl b:=fun q=>e (Sum.inl.inj q)
  rw [decide_eq_false h]
  exact (beq_eq_false_iff_ne.mpr e).symm
theorem zU (a b:Str):decide ((Sum.inr a:Key)=Sum.inr b)=decide (a=b):=by
 by_cases e:a=b
 ·subst e; simp
 ·have h:¬ (Sum.inr a:Key)=Sum.inr b:=fun q=>e (Sum.inr.inj q)
  rw [decide_eq_false h,decide_eq_false e]
theorem zV (a:Int) (b:Str):decide ((Sum.inl a:Key)=Sum.inr b)=false:=decide_eq_false (fun q=>nomatch q)
theorem zW (a:Str) (b:Int):decide ((Sum.inr a:Key)=Sum.inl b)=false:=decide_eq_false (fun q=>nomatch q)
def ay (prog:Program) (w:World):PySem.KeyKind prog w Key where
 is:=rQ
 hash:=keyH w
 inj:=fun v a b ha hb=>by
  rcases aQ ha with ⟨i,t,rfl,rfl⟩ | ⟨x,t,rfl,rfl⟩
  ·rcases aQ hb with ⟨j,u,rfl,e⟩ | ⟨y,u,rfl,e⟩
   ·injection e with e1 _; rw [e1]
   ·exact nomatch e
  ·rcases aQ hb with ⟨j,u,rfl,e⟩ | ⟨y,u,rfl,e⟩
   ·exact nomatch e
   ·injection e with e1 _; rw [e1]
 byValue:=fun k v h=>by
  rcases aQ h with ⟨i,t,rfl,rfl⟩ | ⟨x,t,rfl,rfl⟩ <;> rfl
 pyHash:=fun hv h=>by
  rcases aQ hv with ⟨i,t,rfl,rfl⟩ | ⟨x,t,rfl,rfl⟩
  ·exact wpAny_pyHash_int h
  ·exact wpAny_pyHash_str h
 eqBool:=fun hu hv h=>by
  rcases aQ hu with ⟨i,t,rfl,rfl⟩ | ⟨x,t,rfl,rfl⟩
  ·rcases aQ hv with ⟨j,u,rfl,rfl⟩ | ⟨y,u,rfl,rfl⟩
   ·rw [zT] at h; exact wpAny_eqBool_int h
   ·rw [zV] at h; exact SeqAt.EqAt.int_str i t y u _ _ _ _ h
  ·rcases aQ hv with ⟨j,u,rfl,rfl⟩ | ⟨y,u,rfl,rfl⟩
   ·rw [zW] at h; exact SeqAt.EqAt.str_int x t j u _ _ _ _ h
   ·rw [zU] at h; exact wpAny_eqBool_str h
 «strs»:=fun k x t v h=>by
  rcases aQ h with ⟨i,u,rfl,e⟩ | ⟨y,u,rfl,e⟩
  ·exact nomatch e
  ·injection e with e1 _
   subst e1
   cases v <;> rfl
theorem oX (prog:Program) (w:World) (i:Int) (t:Tok):(ay prog w).is (.inl i) (.int i t)=true:=sT i t
theorem oY (prog:Program) (w:World) (x:Str) (t:Tok):(ay prog w).is (.inr x) (.str x t)=true:=sU x t
end L2
namespace L2
open PySem PySem.Spec PyProof.Rows
inductive V where
 | non | bl (b:Bool) | int (i:Int) | str (x:Str) | byt (b:Array UInt8) | flt (b:UInt64) | ref (a:Addr) | ty (n:String)
 deriving DecidableEq
def RelV:V->Value->Prop
 | .non,u=>u=Value.none
 | .bl b,u=>u=Value.bool b
 | .int i,u=>∃ t,u=Value.int i t
 | .str x,u=>∃ t,u=Value.str x t
 | .byt b,u=>∃ t,u=Value.bytes b t
 | .flt b,u=>∃ t,u=Value.float b t
 | .ref a,u=>u=Value.ref a
 | .ty n,u=>u=Value.type n
abbrev Vals:List V->List Value->Prop:=Paired RelV
theorem Vals.length {xs:List V} {us:List Value} (r:Vals xs us):xs.length=us.length:=Paired.length r
theorem Vals.get:∀ {xs:List V} {us:List Value} {i:Nat} {x:V},Vals xs us->xs[i]? = some x->∃ u,us[i]? = some u /\ RelV x u
 | _,_,_,_,.nil,e=>by simp at e
 | _,_,0,_,.cons r _,e=>by simp at e; subst e; exact ⟨_,rfl,r⟩
 | _,_,i + 1,x,.cons _ t,e=>by
  obtain ⟨u,h1,h2⟩:=Vals.get (i:=i) (x:=x) t (by simpa using e)
  exact ⟨u,by simpa using h1,h2⟩
theorem Vals.set {x:V} {u:Value} (r:RelV x u):∀ {xs:List V} {us:List Value} (i:Nat),Vals xs us->Vals (xs.set i x) (us.set i u)
 | _,_,_,.nil=>.nil
 | _,_,0,.cons _ t=>.cons r t
 | _,_,i + 1,.cons q t=>.cons q (Vals.set r i t)
theorem Vals.append:∀ {xs ys:List V} {us ws:List Value},Vals xs us->Vals ys ws->Vals (xs++ys) (us++ws)
 | _,_,_,_,.nil,s=>s
 | _,_,_,_,.cons r t,s=>.cons r (Vals.append t s)
theorem Vals.take:∀ {xs:List V} {us:List Value} (n:Nat),Vals xs us->Vals (xs.take n) (us.take n)
 | _,_,0,_=>.nil
 | _,_,_ + 1,.nil=>.nil
 | _,_,n + 1,.cons r t=>.cons r (Vals.take n t)
theorem Vals.drop:∀ {xs:List V} {us:List Value} (n:Nat),Vals xs us->Vals (xs.drop n) (us.drop n)
 | _,_,0,r=>r
 | _,_,_ + 1,.nil=>.nil
 | _,_,n + 1,.cons _ t=>Vals.drop n t
def RelO:Option V->Option Value->Prop
 | some v,some u=>RelV v u
 | none,none=>True
 | _,_=>False
def KV {κ:Type}:List (κ×V)->List (κ×Value)->Prop:=Paired fun (p:κ×V) (q:κ×Value)=>p.1=q.1 /\ RelV p.2 q.2
def kV:Key->V
 | .inl i=>.int i
 | .inr x=>.str x
inductive HO where
  | lst (xs:List V)
  | tup (xs:List V)
  | dK (kvs:List (Key×V)) | dT (kvs:List (List Key×V))
  | set (S:Int->Bool) (n:Nat)
  | ins (C dx:Addr) (fs:List (Str×V))
  | own (x:Addr)
  | xd (fs:List (Str×V))
  | met (f x:Addr)
  | rng (lo hi:Int)
  | frz (o:Obj) (u:HO)
  | tbl (ps:Array Value)
  | ext (φ:Heap->Prop)
abbrev Hp:=Addr->Option HO
def upd (H:Hp) (a:Addr) (o:HO):Hp:=fun b=>if b=a then some o else H b
theorem ao {H:Hp} {a:Addr} {o:HO}:upd H a o a=some o:=by unfold upd; rw [if_pos rfl]
theorem ak {H:Hp} {a b:Addr} {o:HO} (h:b≠a):upd H a o b=H b:=by unfold upd; rw [if_neg h]
theorem kH {H:Hp} {a b:Addr} {o u:HO} (h:H a=some o) (h':H b=some u) (d:o≠u):a≠b:=by
 intro e; subst e; rw [h] at h'; exact d (Option.some.inj h')
theorem bO {H:Hp} {a b:Addr} {o:HO} (h:H a=some o) (h':H b=none):a≠b:=by
 intro e; subst e; rw [h] at h'; cases h'
section
variable (P:Program) (w:World)
def ObjOk (H:Hp) (h:Heap) (a:Addr):HO->Prop
 | .lst xs=>xs.length <= sizeLine /\ ∃ (its:List Value) (n:Nat),Vals xs its /\ h.get? a=some { cls:=.type "list",data:=.seq its.toArray n }
 | .tup xs=>xs.length <= sizeLine /\ ∃ its:List Value,Vals xs its /\ IsTup h a its.toArray
 | .dK kvs=>kvs.length <= sizeLine /\ (a == sysModules)=false /\ ∃ vs,KV kvs vs /\ h.DictOf (ay P w) a vs
 | .dT kvs=>kvs.length <= sizeLine /\ (a == sysModules)=false /\ ∃ xs:List (List Key×Addr×Value),
   Paired (fun (p:List Key×V) (q:List Key×Addr×Value)=>p.1=q.1 /\ H q.2.1=some (.tup (p.1.map kV)) /\ RelV p.2 q.2.2) kvs xs /\
   ∃ o es ep,h.get? a=some o /\ o.ExactDict /\ o.data = .dict es ep /\ es.toList=xs.map (entryOfKey (tupleKind (ay P w))) /\ (xs.map (·.1)).Nodup
 | .set S n=>h.SetOf (intKind P w) a S n
 | .ins C dx fs=>H dx=some (.own a) /\ fs.length <= 1000 /\ dx≠a /\ h.get? a=some (PySem.W.instObj C dx) /\
   ∃ mA,h.Ns1 dx mA /\ (∀ f,RelO (fs.lookup f) (mA f)) /\ PySem.Within mA (fs.map (·.1))
 | .own _=>∃ o,h.get? a=some o
 | .xd fs=>∃ mA,h.Ns1 a mA /\ ∀ f,RelO (fs.lookup f) (mA f)
 | .rng lo hi=>∃ t u v,h.get? a=some { cls:=.type "range",data:=.fields #[.int lo t,.int hi u,.int 1 v] }
 | .frz o u=>h.get? a=some o /\ ObjOk H h a u
 | .tbl ps=>h.get? a=some { cls:=.none,data:=.fields ps }
 | .met f x=>h.get? a=some (PySem.W.methodObj (.ref f) (.ref x))
 | .ext φ=>φ h /\ (∃ o,h.get? a=some o) /\ ∀ h1 h2:Heap,φ h1->(∀ o,h1.get? a=some o->h2.get? a=some o)->φ h2
def HOk (H:Hp) (h:Heap):Prop:=∀ a o,H a=some o->ObjOk P w H h a o
end
section
variable {P:Program} {w:World} {H H':Hp} {h h':Heap} {a:Addr} {o:HO}
theorem ObjOk.lt (x:ObjOk P w H h a o):a < h.objs.size:=by
 cases o with
 | lst xs=>obtain ⟨_,_,_,_,e⟩:=x; exact Heap.lt_size e
 | tup xs=>obtain ⟨_,_,_,p⟩:=x; exact p.lt
 | dK kvs=>obtain ⟨_,_,_,_,o,_,_,e,_⟩:=x; exact Heap.lt_size e
 | dT kvs=>obtain ⟨_,_,_,_,o,_,_,e,_⟩:=x; exact Heap.lt_size e
 | set S n=>obtain ⟨o,_,_,_,e,_⟩:=x; exact Heap.lt_size e
 | ins C dx fs=>obtain ⟨_,_,_,e,_⟩:=x; exact Heap.lt_size e
 | own y=>obtain ⟨_,e⟩:=x; exact Heap.lt_size e
 | xd fs=>obtain ⟨_,⟨_,_,_,e,_⟩,_⟩:=x; exact Heap.lt_size e
 | rng lo hi=>obtain ⟨_,_,_,e⟩:=x; exact Heap.lt_size e
 | frz ob u=>obtain ⟨e,_⟩:=x; exact Heap.lt_size e
 | tbl ps=>exact Heap.lt_size (show h.get? a=some _ from x)
 | met f y=>exact Heap.lt_size (show h.get? a=some _ from x)
 | ext φ=>obtain ⟨_,⟨_,e⟩,_⟩:=x; exact Heap.lt_size e
theorem Paired.mapP {α β:Type} {F G:α->β->Prop}:∀ {l₁:List α} {l₂:List β},Paired F l₁ l₂->(∀ a b,F a b->G a b)->Paired G l₁ l₂
 | _,_,.nil,_=>.nil
 | _,_,.cons r t,f=>.cons (f _ _ r) (Paired.mapP t f)
theorem ObjOk.stay (x:ObjOk P w H h a o) (k:∀ b u,(b=a∨H b=some (.own a))->h.get? b=some u->h'.get? b=some u)
  (ho:∀ b,H b=some (.own a)->H' b=some (.own a)) (ht:∀ b xs,H b=some (.tup xs)->H' b=some (.tup xs)):ObjOk P w H' h' a o:=by
 induction o with
 | lst xs=>obtain ⟨z,its,n,r,e⟩:=x; exact ⟨z,its,n,r,k _ _ (.inl rfl) e⟩
 | tup xs=>obtain ⟨z,its,r,ob,e,c⟩:=x; exact ⟨z,its,r,ob,k _ _ (.inl rfl) e,c⟩
 | dK kvs=>obtain ⟨z,y,vs,r,ob,es,ep,e,c⟩:=x; exact ⟨z,y,vs,r,ob,es,ep,k _ _ (.inl rfl) e,c⟩
 | dT kvs =>
  obtain ⟨z,y,xs,r,ob,es,ep,e,c⟩:=x
  exact ⟨z,y,xs,Paired.mapP r fun p q z=>⟨z.1,ht _ _ z.2.1,z.2.2⟩,ob,es,ep,k _ _ (.inl rfl) e,c⟩
 | set S n=>obtain ⟨ob,es,ep,t,e,c⟩:=x; exact ⟨ob,es,ep,t,k _ _ (.inl rfl) e,c⟩
 | ins C dx fs =>
  obtain ⟨d,z,ne,e,mA,⟨od,es,ep,e2,c⟩,r⟩:=x
  exact ⟨ho _ d,z,ne,k _ _ (.inl rfl) e,mA,⟨od,es,ep,k _ _ (.inr d) e2,c⟩,r⟩
 | own y=>obtain ⟨ob,e⟩:=x; exact ⟨ob,k _ _ (.inl rfl) e⟩
 | xd fs=>obtain ⟨mA,⟨od,es,ep,e,c⟩,r⟩:=x; exact ⟨mA,⟨od,es,ep,k _ _ (.inl rfl) e,c⟩,r⟩
 | rng lo hi=>obtain ⟨t,u,v,e⟩:=x; exact ⟨t,u,v,k _ _ (.inl rfl) e⟩
 | frz ob u ih=>obtain ⟨e,q⟩:=x; exact ⟨k _ _ (.inl rfl) e,ih q⟩
 | tbl ps =>
  have e:h.get? a=some { cls:=.none,data:=.fields ps }:=x
  show h'.get? a=some { cls:=.none,data:=.fields ps }
  exact k a _ (.inl rfl) e
 | met f y =>
  have e:h.get? a=some (PySem.W.methodObj (.ref f) (.ref y)):=x
  show h'.get? a=some (PySem.W.methodObj (.ref f) (.ref y))
  exact k a _ (.inl rfl) e
 | ext φ=>obtain ⟨p,⟨o,e⟩,st⟩:=x; exact ⟨st _ _ p fun o q=>k _ _ (.inl rfl) q,⟨o,k _ _ (.inl rfl) e⟩,st⟩
theorem HOk.lt (x:HOk P w H h) (e:H a=some o):a < h.objs.size:=(x a o e).lt
theorem HOk.fresh (x:HOk P w H h) (e:h.objs.size <= a):H a=none:=by
 cases q:H a with
 | none=>rfl
 | some u=>exact absurd (Nat.lt_of_lt_of_le (x.lt q) e) (Nat.lt_irrefl _)
theorem HOk.kept (x:HOk P w H h) (k:∀ b u,h.get? b=some u->h'.get? b=some u):HOk P w H h':=fun a o e =>
 (x a o e).stay (fun b u _ q=>k b u q) (fun _ q=>q) fun _ _ q=>q
theorem HOk.laid (x:HOk P w H h) (k:∀ b u,h.get? b=some u->h'.get? b=some u) (hp:h.objs.size <= a) (new:ObjOk P w (upd H a o) h' a o):HOk P w (upd H a o) h':=fun b u e=>by
 have hn:=x.fresh hp
 by_cases hb:b=a
 ·subst hb; rw [ao] at e; cases e; exact new
 ·rw [ak hb] at e
  exact (x b u e).stay (fun c v _ q=>k c v q) (fun c q=>by rw [ak (bO q hn)]; exact q) fun c xs q=>by rw [ak (bO q hn)]; exact q
end
def Rd (H:Hp) (a:Addr) (u:HO):Prop:=H a=some u∨∃ o,H a=some (.frz o u)
theorem Rd.ok {P:Program} {w:World} {H:Hp} {h:Heap} {a:Addr} {u:HO} (r:Rd H a u) (x:HOk P w H h):ObjOk P w H h a u:=by
 rcases r with r | ⟨o,r⟩
 ·exact x a u r
 ·obtain ⟨_,q⟩:=x a _ r
  exact q
def Mut:Option HO->Prop
 | some (.lst _)=>True
 | some (.dK _)=>True
 | some (.dT _)=>True
 | some (.set _ _)=>True
 | some (.ins _ _ _)=>True
 | some (.ext _)=>True
 | _=>False
section
variable {P:Program} {w:World} {H:Hp} {h h':Heap} {x e:Addr} {o':HO}
theorem HOk.write (ok:HOk P w H h) (mu:Mut (H x)) (he:e=x∨H e=some (.own x)) (k:∀ b u,b≠e->h.get? b=some u->h'.get? b=some u) (heo:∃ u,h'.get? e=some u)
  (new:ObjOk P w (upd H x o') h' x o'):HOk P w (upd H x o') h':=fun b u q=>by
 have nown:∀ c y,H c=some (.own y)->c≠x:=fun c y r z=>by subst z; rw [r] at mu; exact mu
 have ntup:∀ c xs,H c=some (.tup xs)->c≠x:=fun c xs r z=>by subst z; rw [r] at mu; exact mu
 by_cases hb:b=x
 ·subst hb; rw [ao] at q; cases q; exact new
 ·rw [ak hb] at q
  by_cases hbe:b=e
  ·have q':H b=some (.own x):=by
    rcases he with z | z
    ·exact absurd (hbe.trans z) hb
    ·rw [hbe]; exact z
   rw [q] at q'; cases q'
   obtain ⟨v,hv⟩:=heo
   exact ⟨v,by rw [hbe]; exact hv⟩
  ·refine (ok b u q).stay (fun c v hc r=>k c v ?_ r) (fun c r=>by rw [ak (nown c b r)]; exact r) fun c xs r=>by rw [ak (ntup c xs r)]; exact r
   rcases hc with rfl | hc
   ·exact hbe
   ·rintro rfl
    rcases he with z | z
    ·exact nown c b hc z
    ·rw [hc] at z; cases z; exact hb rfl
end
structure Un (fs ex:List Addr) (H H':Hp) (h h':Heap):Prop where
 keep:∀ b o,h.get? b=some o->H b=none->b∉fs->b∉ex->h'.get? b=some o
 slot:∀ b o,h.get? b=some o->H b=none->b∈fs->b∉ex->∃ sl,h'.get? b=some { o with slots:=sl }
 free:∀ b o,h.get? b=some o->H b=none->b∉ex->H' b=none
 there:∀ b o,h.get? b=some o->b∉ex->∃ o',h'.get? b=some o'
 tups:∀ b xs,H b=some (.tup xs)->H' b=some (.tup xs)
 frzs:∀ b o u,H b=some (.frz o u)->H' b=some (.frz o u)
 tbls:∀ b ps,H b=some (.tbl ps)->∃ more,H' b=some (.tbl (ps++more))
section
variable {fs fs' ex ex':List Addr} {H H1 H2:Hp} {h h1 h2 h':Heap} {a x e:Addr} {o:HO}
theorem Un.any (u:Un fs ex H H1 h h1) {b:Addr} {ob:Obj} (q:h.get? b=some ob) (n:H b=none) (hx:b∉ex):∃ sl,h1.get? b=some { ob with slots:=sl }:=by
 by_cases hb:b∈fs
 ·exact u.slot b ob q n hb hx
 ·exact ⟨ob.slots,u.keep b ob q n hb hx⟩
theorem Un.kept (k:∀ b u,h.get? b=some u->h'.get? b=some u):Un fs ex H H h h' :=
 ⟨fun b ob q _ _ _=>k b ob q,fun b ob q _ _ _=>⟨ob.slots,k b ob q⟩,fun _ _ _ n _=>n,fun b ob q _=>⟨ob,k b ob q⟩,fun _ _ q=>q,fun _ _ _ q=>q,fun _ ps q=>⟨#[],by rw [q]; simp⟩⟩
theorem Un.refl:Un fs ex H H h h:=Un.kept fun _ _ q=>q
theorem Un.laid (k:∀ b u,h.get? b=some u->h'.get? b=some u) (hp:h.objs.size <= a) (hn:H a=none):Un fs ex H (upd H a o) h h' where
 keep:=fun b u q _ _ _=>k b u q
 slot:=fun b u q _ _ _=>⟨u.slots,k b u q⟩
 free:=fun b u q n _=>by rw [ak (Nat.ne_of_lt (Nat.lt_of_lt_of_le (Heap.lt_size q) hp))]; exact n
 there:=fun b u q _=>⟨u,k b u q⟩
 tups:=fun b xs q=>by rw [ak (bO q hn)]; exact q
 frzs:=fun b u xs q=>by rw [ak (bO q hn)]; exact q
 tbls:=fun b ps q=>⟨#[],by rw [ak (bO q hn),q]; simp⟩
theorem Un.write (mu:Mut (H x)) (he:e=x∨H e=some (.own x)) (k:∀ b u,b≠e->h.get? b=some u->h'.get? b=some u) (heo:∃ u,h'.get? e=some u):Un fs ex H (upd H x o) h h':=by
 have hx:∀ b,H b=none->b≠x:=fun b n z=>by subst z; rw [n] at mu; exact mu
 have hb:∀ b,H b=none->b≠e:=fun b n z=>by
  subst z
  rcases he with r | r
  ·exact hx b n r
  ·rw [n] at r; cases r
 have hm:∀ b u,H b=some u->¬ Mut (some u)->b≠x:=fun b u q nm z=>by subst z; rw [q] at mu; exact nm mu
 refine ⟨fun b u q n _ _=>k b u (hb b n) q,fun b u q n _ _=>⟨u.slots,k b u (hb b n) q⟩,fun b u q n _=>by rw [ak (hx b n)]; exact n,fun b u q _=>?_,
  fun b xs q=>by rw [ak (hm b _ q fun z=>z)]; exact q,fun b u xs q=>by rw [ak (hm b _ q fun z=>z)]; exact q,fun b ps q=>⟨#[],by rw [ak (hm b _ q fun z=>z),q]; simp⟩⟩
 by_cases hbe:b=e
 ·subst hbe; exact heo
 ·exact ⟨u,k b u hbe q⟩
theorem Un.mono (u:Un fs ex H H1 h h1) (hs:∀ b∈fs,b∈fs') (hx:∀ b∈ex,b∈ex'):Un fs' ex' H H1 h h1 :=
 ⟨fun b ob q n hb he=>u.keep b ob q n (fun z=>hb (hs b z)) fun z=>he (hx b z),fun _ _ q n _ he=>u.any q n fun z=>he (hx _ z),fun b ob q n he=>u.free b ob q n fun z=>he (hx b z),fun b ob q he=>u.there b ob q fun z=>he (hx b z),u.tups,u.frzs,u.tbls⟩
end
def trk (h:Heap) (H:Hp):List Addr:=(List.range h.objs.size).filter fun a=>(H a).isSome
def hidT (h:Heap) (H:Hp):Heap:=PySem.W.hideAll h (trk h H)
theorem sV (h:Heap) (H:Hp):(hidT h H).objs.size=h.objs.size:=PySem.W.hideAll_size _ _
theorem vS {h:Heap} {H:Hp} {b:Addr} {o:Obj} (e:h.get? b=some o) (n:H b=none):(hidT h H).get? b=some o :=
 PySem.W.hideAll_get _ e fun hm=>by
  have q:(H b).isSome=true:=(List.mem_filter.mp hm).2
  rw [n] at q; simp at q
theorem yj {h:Heap} {H:Hp} {b:Addr} {o:Obj} (e:(hidT h H).get? b=some o):h.get? b=some o /\ H b=none:=by
 have e':h.get? b=some o:=PySem.W.of_hideAll (trk h H) e
 refine ⟨e',?_⟩
 cases q:H b with
 | none=>rfl
 | some x =>
  have hm:b∈trk h H:=List.mem_filter.mpr ⟨List.mem_range.mpr (Heap.lt_size e'),by simp [q]⟩
  have z:(hidT h H).get? b=none:=PySem.W.hideAll_none (trk h H) hm
  rw [z] at e; cases e
end L2
namespace L2
open PySem PySem.Spec PyProof.Rows
structure Mod (K:PySem.W.Frag) (mg:Str->Option Value) (base:Heap):Prop where
 kin:K.In base
 glob:base.Ns mainGlobals mg
 blt:∃ mb,base.Ns builtinsNs mb /\ ∀ x:Str,x ≠ "__name__" -> mb x=bootBuiltins x
 nolimit:base.NoLimit
structure Cx where
 prog:Program
 w:World
 K:PySem.W.Frag
 mg:Str->Option Value
 base:Heap
 A:Around
 N:List Str
 s₀:Shared
 H₀:Hp
 env:Env
 outer:List Env
 stack:List Env
 ex:List Addr
 fn:Str->Bool
 calm:Bool
 pn:List (Addr×Obj)
 xe:Value->Shared->Prop
def frs (l:List Env):List Addr:=l.filterMap (·.frame)
abbrev Cx.fs (X:Cx):List Addr:=frs X.outer
def Vis (sc:Scope) (x:Str):Prop:=sc.names.lookup x=some .local∨sc.names.lookup x=some .cell∨sc.names.lookup x=some .free
def Loc (sc:Scope) (x:Str):Prop:=sc.names.lookup x=some .local∨sc.names.lookup x=some .cell
def Look (env:Env) (h:Heap) (m:Str->Option Value) (x:Str) (u:Value):Prop :=
 (env.kindOf x=some .local /\ m x=some u)∨((env.kindOf x=some .cell∨env.kindOf x=some .free) /\ ∃ c,env.cells.lookup x=some c /\ h.IsCell c (some u))
structure Cx.Ok (X:Cx):Prop where
 mod:Mod X.K X.mg X.base
 kind:X.env.scope.kind = .function
 glob:X.env.globals=mainGlobals
 blt:X.env.builtins=builtinsNs
 above:X.s₀.heap.objs.size <= X.env.locals
 inj:∀ x y c,X.env.cells.lookup x=some c->X.env.cells.lookup y=some c->x=y
 has:∀ x,(X.env.kindOf x=some .cell∨X.env.kindOf x=some .free)->∃ c,X.env.cells.lookup x=some c
 cab:∀ x c,X.fn x=true->X.env.cells.lookup x=some c->X.s₀.heap.objs.size <= c
 hd:X.calm=true->X.A.handled=none
 frames:X.A.frames=some X.stack
 stk:X.stack=X.outer∨(X.stack=X.env::X.outer /\ X.env.frame=some X.env.locals)
 exf:∀ b∈X.ex,b≠X.env.locals /\ ∀ x c,X.env.cells.lookup x=some c->c≠b
 bs:∀ b o,X.base.get? b=some o->X.s₀.heap.get? b=some o /\ X.H₀ b=none
 bsz:X.base.objs.size <= X.s₀.heap.objs.size
 noex:∀ b o,X.base.get? b=some o->b∉X.ex
 exfs:∀ b∈X.ex,b∉X.fs
 funs:X.s₀.heap.FunFrames X.base X.outer
 frf:∀ b∈X.fs,X.H₀ b=none
structure Inv (X:Cx) (pins:List (Addr×Obj)) (σ:List (Option V)) (H:Hp) (s:Shared):Prop where
 ok:X.Ok
 os:s.os=X.s₀.os
 bare:AllBare s.gens
 base:Un X.fs X.ex X.H₀ H X.s₀.heap s.heap
 loc:∃ m,s.heap.Ns X.env.locals m /\ ∀ (i:Nat) (x:Str) (v:V),X.N[i]? = some x->σ[i]? = some (some v)->Vis X.env.scope x->∃ u,RelV v u /\ Look X.env s.heap m x u
 cell:∀ x c,X.env.cells.lookup x=some c->∃ v,s.heap.IsCell c v
 free:H X.env.locals=none
 freeC:∀ x c,X.env.cells.lookup x=some c->H c=none
 pin:∀ p∈X.pn++pins,s.heap.get? p.1=some p.2 /\ H p.1=none /\ p.1≠X.env.locals /\ p.1∉X.fs /\ ∀ v,p.2.data ≠ .cell v
 hok:HOk X.prog X.w H s.heap
 len:σ.length=X.N.length
section
variable {X:Cx} {pins:List (Addr×Obj)} {σ:List (Option V)} {H H':Hp} {s:Shared} {h':Heap}
theorem Cx.Ok.nofr (ok:X.Ok) {b:Addr} {o:Obj} (e:X.base.get? b=some o):b∉X.fs:=fun hb=>by
 have:=(ok.funs.mem hb).1
 rw [e] at this; cases this
theorem Inv.bs (I:Inv X pins σ H s):∀ b o,X.base.get? b=some o->s.heap.get? b=some o /\ H b=none:=fun b o e =>
 ⟨I.base.keep b o (I.ok.bs b o e).1 (I.ok.bs b o e).2 (I.ok.nofr e) (I.ok.noex b o e),I.base.free b o (I.ok.bs b o e).1 (I.ok.bs b o e).2 (I.ok.noex b o e)⟩
theorem Inv.bk (I:Inv X pins σ H s):∀ b o,X.base.get? b=some o->s.heap.get? b=some o:=fun b o e=>(I.bs b o e).1
theorem Inv.mod (I:Inv X pins σ H s):Mod X.K X.mg X.base:=I.ok.mod
theorem Inv.kIn (I:Inv X pins σ H s):X.K.In s.heap:=I.ok.mod.kin.keeps I.bk
theorem Inv.lt (I:Inv X pins σ H s):X.env.locals < s.heap.objs.size:=let ⟨_,hn,_⟩:=I.loc; hn.lt
theorem Inv.sz (I:Inv X pins σ H s):X.s₀.heap.objs.size <= s.heap.objs.size:=Nat.le_trans I.ok.above (Nat.le_of_lt I.lt)
theorem Inv.nofs (I:Inv X pins σ H s) {a:Addr} (h:s.heap.objs.size <= a):a∉X.fs:=fun hb=>by
 obtain ⟨_,o,ho,_⟩:=I.ok.funs.mem hb
 exact absurd (Nat.lt_of_lt_of_le (Heap.lt_size ho) (Nat.le_trans I.sz h)) (Nat.lt_irrefl _)
theorem Inv.cne (I:Inv X pins σ H s):∀ x c,X.env.cells.lookup x=some c->c≠X.env.locals:=fun x c e z=>by
 obtain ⟨v,o,ho,hd⟩:=I.cell x c e
 obtain ⟨m,⟨o',es,ep,ho',hd',_⟩,_⟩:=I.loc
 rw [z,ho'] at ho; cases ho; rw [hd'] at hd; cases hd
theorem Inv.funs (I:Inv X pins σ H s):s.heap.FunFrames X.base X.outer:=by
 have all:∀ (l:List Env),(∀ b∈frs l,b∈X.fs)->X.s₀.heap.FunFrames X.base l->s.heap.FunFrames X.base l:=by
  intro l
  induction l with
  | nil=>intro _ _; trivial
  | cons env r ih =>
   intro hs hl
   obtain ⟨hk,⟨L,o,hf,hn,ho,hd⟩,hr⟩:=hl
   have hL:L∈X.fs:=hs L (by unfold frs; rw [List.filterMap_cons,hf]; exact List.mem_cons_self)
   obtain ⟨sl,e⟩:=I.base.slot L o ho (I.ok.frf L hL) hL fun z=>I.ok.exfs L z hL
   exact ⟨hk,⟨L,_,hf,hn,e,hd⟩,ih (fun b hb=>hs b (by unfold frs; rw [List.filterMap_cons,hf]; exact List.mem_cons_of_mem _ hb)) hr⟩
 exact all X.outer (fun _ hb=>hb) I.ok.funs
theorem Inv.stack (I:Inv X pins σ H s):s.heap.FunFrames X.base X.stack:=by
 rcases I.ok.stk with e | ⟨e,hf⟩
 ·rw [e]; exact I.funs
 ·rw [e]
  obtain ⟨m,hn,_⟩:=I.loc
  refine .cons (by rw [I.ok.kind]; decide) hf hn ?_ I.funs
  exact Heap.get?_none_of_le (Nat.le_trans I.ok.bsz I.ok.above)
theorem Inv.stkSub (I:Inv X pins σ H s):∀ b∈frs X.stack,b∈X.env.locals::X.fs:=fun b hb=>by
 rcases I.ok.stk with e | ⟨e,hf⟩
 ·rw [e] at hb; exact List.mem_cons_of_mem _ hb
 ·rw [e] at hb
  unfold frs at hb
  rw [List.filterMap_cons,hf] at hb
  exact hb
theorem Inv.stkFree (I:Inv X pins σ H s):∀ b∈frs X.stack,H b=none:=fun b hb=>by
 rcases List.mem_cons.mp (I.stkSub b hb) with e | hb
 ·rw [e]; exact I.free
 ·obtain ⟨_,o,ho,_⟩:=I.ok.funs.mem hb
  exact I.base.free b o ho (I.ok.frf b hb) fun z=>I.ok.exfs b z hb
theorem Inv.step {g':Array GenState} {t':Nat} {d':Drawn} {ch:List Addr} (I:Inv X pins σ H s)
  (hch:∀ b∈ch,(b∈X.ex∨X.s₀.heap.objs.size <= b) /\ b≠X.env.locals /\ (∀ x c,X.env.cells.lookup x=some c->c≠b) /\ ∀ p∈X.pn++pins,p.1≠b)
  (keep:∀ b o,b≠X.env.locals->b∉X.fs->b∉ch->s.heap.get? b=some o->H b=none->h'.get? b=some o)
  (slot:∀ b o,b≠X.env.locals->b∈X.fs->b∉ch->s.heap.get? b=some o->H b=none->∃ sl,h'.get? b=some { o with slots:=sl }) (free:∀ b o,b∉ch->s.heap.get? b=some o->H b=none->H' b=none)
  (there:∀ b o,b∉ch->s.heap.get? b=some o->∃ o',h'.get? b=some o')
  (tups:∀ b xs,H b=some (.tup xs)->H' b=some (.tup xs)) (frzs:∀ b o u,H b=some (.frz o u)->H' b=some (.frz o u)) (tbls:∀ b ps,H b=some (.tbl ps)->∃ more,H' b=some (.tbl (ps++more)))
  (ns:∀ m,s.heap.Ns X.env.locals m->h'.Ns X.env.locals m) (hok:HOk X.prog X.w H' h') (hg:AllBare g') :
  Inv X pins σ H' { s with heap:=h',gens:=g',drawn:=d',toks:=t' }:=by
 have neL:∀ b o,X.s₀.heap.get? b=some o->b≠X.env.locals:=fun b o e=>Nat.ne_of_lt (Nat.lt_of_lt_of_le (Heap.lt_size e) I.ok.above)
 have neC:∀ b o,X.s₀.heap.get? b=some o->b∉X.ex->b∉ch:=fun b o e hx hb=>by
  rcases (hch b hb).1 with z | z
  ·exact hx z
  ·exact absurd (Nat.lt_of_lt_of_le (Heap.lt_size e) z) (Nat.lt_irrefl _)
 have cellK:∀ x c,X.env.cells.lookup x=some c->∀ v,s.heap.IsCell c v->h'.IsCell c v:=fun x c e v ⟨o,ho,hd⟩=>by
  have nch:c∉ch:=fun z=>(hch c z).2.2.1 x c e rfl
  by_cases hc:c∈X.fs
  ·obtain ⟨sl,q⟩:=slot c o (I.cne x c e) hc nch ho (I.freeC x c e)
   exact ⟨_,q,hd⟩
  ·exact ⟨o,keep c o (I.cne x c e) hc nch ho (I.freeC x c e),hd⟩
 refine ⟨I.ok,I.os,hg,⟨fun b o e n hb hx=>?_,fun b o e n hb hx=>?_,fun b o e n hx=>?_,fun b o e hx=>?_,fun b xs e=>tups b xs (I.base.tups b xs e),fun b o xs e=>frzs b o xs (I.base.frzs b o xs e),fun b ps e=>?_⟩,?_,fun x c e=>?_,?_,fun x c e=>?_,fun p hp=>?_,hok,I.len⟩
 ·exact keep b o (neL b o e) hb (neC b o e hx) (I.base.keep b o e n hb hx) (I.base.free b o e n hx)
 ·obtain ⟨sl,e1⟩:=I.base.slot b o e n hb hx
  obtain ⟨sl',e2⟩:=slot b _ (neL b o e) hb (neC b o e hx) e1 (I.base.free b o e n hx)
  exact ⟨sl',e2⟩
 ·obtain ⟨o',e1⟩:=I.base.there b o e hx
  exact free b o' (neC b o e hx) e1 (I.base.free b o e n hx)
 ·obtain ⟨o',e1⟩:=I.base.there b o e hx
  exact there b o' (neC b o e hx) e1
 ·obtain ⟨m1,e1⟩:=I.base.tbls b ps e
  obtain ⟨m2,e2⟩:=tbls b _ e1
  exact ⟨m1++m2,by rw [e2,Array.append_assoc]⟩
 ·obtain ⟨m,hn,hl⟩:=I.loc
  refine ⟨m,ns m hn,fun i x v e1 e2 e3=>?_⟩
  obtain ⟨u,r,l⟩:=hl i x v e1 e2 e3
  refine ⟨u,r,?_⟩
  rcases l with l | ⟨k,c,e,z⟩
  ·exact .inl l
  ·exact .inr ⟨k,c,e,cellK x c e _ z⟩
 ·obtain ⟨v,z⟩:=I.cell x c e
  exact ⟨v,cellK x c e v z⟩
 ·obtain ⟨m,⟨o,_,_,ho,_⟩,_⟩:=I.loc
  exact free _ o (fun z=>(hch _ z).2.1 rfl) ho I.free
 ·obtain ⟨v,o,ho,hd⟩:=I.cell x c e
  exact free c o (fun z=>(hch c z).2.2.1 x c e rfl) ho (I.freeC x c e)
 ·obtain ⟨e,n,ne,nf,d⟩:=I.pin p hp
  have nch:p.1∉ch:=fun z=>(hch p.1 z).2.2.2 p hp rfl
  exact ⟨keep p.1 p.2 ne nf nch e n,free p.1 p.2 nch e n,ne,nf,d⟩
theorem Inv.un {t':Nat} (I:Inv X pins σ H s) (u:Un X.fs [] H H' s.heap h') (hok:HOk X.prog X.w H' h'):Inv X pins σ H' { s with heap:=h',toks:=t' }:=by
 obtain ⟨m,⟨o,es,ep,ho,r⟩,_⟩:=id I.loc
 obtain ⟨sl,hL⟩:=u.any ho I.free (by simp)
 exact I.step (g':=s.gens) (d':=s.drawn) (ch:=[]) (fun _ z=>nomatch z) (fun b o _ hb _ e n=>u.keep b o e n hb (by simp)) (fun b o _ hb _ e n=>u.slot b o e n hb (by simp)) (fun b o _ e n=>u.free b o e n (by simp)) (fun b o _ e=>u.there b o e (by simp)) u.tups u.frzs u.tbls (fun m' hm=>by
  obtain ⟨o',es',ep',ho',r'⟩:=hm
  rw [ho] at ho'; cases ho'
  exact ⟨_,es',ep',hL,r'⟩) hok I.bare
theorem Inv.call {g':Array GenState} {t':Nat} {d':Drawn} {ch:List Addr} (I:Inv X pins σ H s) (u:Un (frs X.stack) ch H H' s.heap h') (hok:HOk X.prog X.w H' h') (hg:AllBare g')
  (hch:∀ b∈ch,(b∈X.ex∨X.s₀.heap.objs.size <= b) /\ b≠X.env.locals /\ (∀ x c,X.env.cells.lookup x=some c->c≠b) /\ ∀ p∈X.pn++pins,p.1≠b) :
  Inv X pins σ H' { s with heap:=h',gens:=g',drawn:=d',toks:=t' }:=by
 obtain ⟨m,⟨o,es,ep,ho,r⟩,_⟩:=id I.loc
 obtain ⟨sl,hL⟩:=u.any ho I.free fun z=>(hch _ z).2.1 rfl
 exact I.step (ch:=ch) hch (fun b o hL hb hc e n=>u.keep b o e n (fun z=>(List.mem_cons.mp (I.stkSub b z)).elim hL hb) hc) (fun b o _ _ hc e n=>u.any e n hc) (fun b o hc e n=>u.free b o e n hc) (fun b o hc e=>u.there b o e hc) u.tups u.frzs u.tbls (fun m' hm=>by
  obtain ⟨o',es',ep',ho',r'⟩:=hm
  rw [ho] at ho'; cases ho'
  exact ⟨_,es',ep',hL,r'⟩) hok hg
theorem Inv.turned {t':Nat} {it:Addr} (I:Inv X pins σ H s) (k:∀ b o,b≠it->s.heap.get? b=some o->h'.get? b=some o) (hn:H it=none) (hL:it≠X.env.locals)
  (h1:it∈X.ex∨X.s₀.heap.objs.size <= it) (h2:∀ x c,X.env.cells.lookup x=some c->c≠it) (h3:∀ p∈X.pn++pins,p.1≠it):Inv X pins σ H { s with heap:=h',toks:=t' }:=by
 have nit:∀ b u,H b=some u->b≠it:=fun b u e z=>by rw [z,hn] at e; cases e
 refine I.step (g':=s.gens) (d':=s.drawn) (ch:=[it]) (fun b hb=>?_) (fun b o _ _ hc e _=>k b o (fun z=>hc (by simp [z])) e) (fun b o _ _ hc e _=>⟨o.slots,k b o (fun z=>hc (by simp [z])) e⟩) (fun _ _ _ _ n=>n)
  (fun b o hc e=>⟨o,k b o (fun z=>hc (by simp [z])) e⟩) (fun _ _ e=>e) (fun _ _ _ e=>e) (fun b ps e=>⟨#[],by rw [e]; simp⟩) (fun m hm=>?_) (fun b u e=>?_) I.bare
 ·have e:b=it:=by simpa using hb
  subst e
  exact ⟨h1,hL,h2,h3⟩
 ·obtain ⟨o,es,ep,ho,r⟩:=hm
  exact ⟨o,es,ep,k _ o (Ne.symm hL) ho,r⟩
 ·refine (I.hok b u e).stay (fun c v hc q=>k c v ?_ q) (fun _ q=>q) fun _ _ q=>q
  rcases hc with z | z
  ·rw [z]; exact nit b u e
  ·exact nit c _ z
theorem Inv.tok (I:Inv X pins σ H s) (t:Nat):Inv X pins σ H { s with toks:=t }:=I.un (h':=s.heap) (t':=t) Un.refl I.hok
theorem Inv.kept {t':Nat} (I:Inv X pins σ H s) (k:∀ b u,s.heap.get? b=some u->h'.get? b=some u):Inv X pins σ H { s with heap:=h',toks:=t' }:=I.un (Un.kept k) (I.hok.kept k)
theorem Inv.laid {a:Addr} {o:HO} {t':Nat} (I:Inv X pins σ H s) (k:∀ b u,s.heap.get? b=some u->h'.get? b=some u) (hp:s.heap.objs.size <= a) (new:ObjOk X.prog X.w (upd H a o) h' a o) :
  Inv X pins σ (upd H a o) { s with heap:=h',toks:=t' }:=I.un (Un.laid k hp (I.hok.fresh hp)) (I.hok.laid k hp new)
theorem Inv.write {x e:Addr} {o:HO} {t':Nat} (I:Inv X pins σ H s) (mu:Mut (H x)) (he:e=x∨H e=some (.own x)) (k:∀ b u,b≠e->s.heap.get? b=some u->h'.get? b=some u) (heo:∃ u,h'.get? e=some u)
  (new:ObjOk X.prog X.w (upd H x o) h' x o):Inv X pins σ (upd H x o) { s with heap:=h',toks:=t' }:=I.un (Un.write mu he k heo) (I.hok.write mu he k heo new)
theorem Inv.pins_of {pins':List (Addr×Obj)} (I:Inv X pins σ H s) (h:∀ p∈pins',s.heap.get? p.1=some p.2 /\ H p.1=none /\ p.1≠X.env.locals /\ p.1∉X.fs /\ ∀ v,p.2.data ≠ .cell v):Inv X pins' σ H s :=
 ⟨I.ok,I.os,I.bare,I.base,I.loc,I.cell,I.free,I.freeC,fun p hp=>(List.mem_append.mp hp).elim (fun z=>I.pin p (List.mem_append_left _ z)) (h p),I.hok,I.len⟩
theorem qx {N:List Str} (hN:N.Nodup) {i j:Nat} {x:Str} (a:N[i]? = some x) (b:N[j]? = some x):i=j:=by
 obtain ⟨h1,e1⟩:=List.getElem?_eq_some_iff.mp a
 obtain ⟨h2,e2⟩:=List.getElem?_eq_some_iff.mp b
 exact (List.getElem_inj hN).mp (e1.trans e2.symm)
theorem nc {M:Model} {A:Around} {E:Value->Shared->Prop} {i:Nat} {x:Str} {v:V} {u:Value} {Q:Unit->Shared->Prop} (I:Inv X pins σ H s) (hN:X.N.Nodup) (hi:X.N[i]? = some x) (hx:Loc X.env.scope x) (r:RelV v u)
  (h:∀ s',Inv X pins (σ.set i (some v)) H s'->(∃ a,Heap.SameBut a s.heap s'.heap /\ (a=X.env.locals∨X.env.cells.lookup x=some a))->Q () s') (hf:X.fn x=true∨X.env.scope.names.lookup x=some .local:=by first | exact .inl rfl | exact .inr rfl | assumption):wpAny M A (storeName X.env x u) Q E s:=by
 obtain ⟨m,hn,hl⟩:=id I.loc
 have hcls:(X.env.scope.kind == .class || (X.env.scope.kind == .module && X.env.locals != X.env.globals))=false:=by rw [I.ok.kind]; rfl
 have hiσ:i < σ.length:=by rw [I.len]; exact (List.getElem?_eq_some_iff.mp hi).1
 have cne:=I.cne
 have tracked:∀ {a:Addr} {h':Heap},(∃ o,s.heap.get? a=some o /\ H a=none)->Heap.SameBut a s.heap h'->HOk X.prog X.w H h':=fun {a h'} ha hs b ob e=>by
  obtain ⟨_,_,hfree⟩:=ha
  refine (I.hok b ob e).stay (fun c w' hc q=>(hs.2 c ?_).trans q) (fun _ q=>q) fun _ _ q=>q
  rintro rfl
  rcases hc with rfl | hc
  ·rw [hfree] at e; cases e
  ·rw [hfree] at hc; cases hc
 rcases hx with hk | hk
 ·refine wpAny_storeName_local hk hn (fun h' hn' hs=>?_) hcls
  obtain ⟨oL,_,_,hoL,_⟩:=id hn
  refine h _ ⟨I.ok,I.os,I.bare,⟨fun b o e n hb hx=>?_,fun b o e n hb hx=>?_,I.base.free,fun b o e hx=>?_,I.base.tups,I.base.frzs,I.base.tbls⟩,⟨_,hn',fun j y v' e1 e2 e3=>?_⟩,fun y c e=>?_,I.free,I.freeC,fun p hp=>?_,tracked ⟨oL,hoL,I.free⟩ hs,by simpa using I.len⟩ ⟨_,hs,.inl rfl⟩
  ·exact (hs.2 b (Nat.ne_of_lt (Nat.lt_of_lt_of_le (Heap.lt_size e) I.ok.above))).trans (I.base.keep b o e n hb hx)
  ·obtain ⟨sl,e1⟩:=I.base.slot b o e n hb hx
   exact ⟨sl,(hs.2 b (Nat.ne_of_lt (Nat.lt_of_lt_of_le (Heap.lt_size e) I.ok.above))).trans e1⟩
  ·obtain ⟨o',e1⟩:=I.base.there b o e hx
   exact ⟨o',(hs.2 b (Nat.ne_of_lt (Nat.lt_of_lt_of_le (Heap.lt_size e) I.ok.above))).trans e1⟩
  ·by_cases hj:j=i
   ·subst hj
    rw [hi] at e1; cases e1
    rw [List.getElem?_set_self hiσ] at e2
    cases e2
    exact ⟨u,r,.inl ⟨hk,by simp⟩⟩
   ·rw [List.getElem?_set_ne (Ne.symm hj)] at e2
    obtain ⟨u',r',q⟩:=hl j y v' e1 e2 e3
    refine ⟨u',r',?_⟩
    rcases q with ⟨k,e⟩ | ⟨k,c,e,z⟩
    ·refine .inl ⟨k,?_⟩
     have:y≠x:=fun e=>hj (qx hN e1 (e ▸ hi))
     simp [this,e]
    ·exact .inr ⟨k,c,e,z.sameBut hs (cne y c e)⟩
  ·obtain ⟨w',z⟩:=I.cell y c e
   exact ⟨w',z.sameBut hs (cne y c e)⟩
  ·obtain ⟨e,n,ne,nf,d⟩:=I.pin p hp
   exact ⟨(hs.2 p.1 ne).trans e,n,ne,nf,d⟩
 ·have hfn:X.fn x=true:=by
   rcases hf with z | z
   ·exact z
   ·rw [z] at hk; cases hk
  obtain ⟨c,hc⟩:=I.ok.has x (.inl hk)
  obtain ⟨w',z⟩:=I.cell x c hc
  refine wpAny_storeName_cell I.ok.kind hk hc z (fun h' hc' hs=>?_)
  obtain ⟨oc,hoc,hocd⟩:=id z
  refine h { s with heap:=h' } ⟨I.ok,I.os,I.bare,⟨fun b o e n hb hx=>?_,fun b o e n hb hx=>?_,I.base.free,fun b o e hx=>?_,I.base.tups,I.base.frzs,I.base.tbls⟩,⟨m,hn.sameBut hs (Ne.symm (cne x c hc)),fun j y v' e1 e2 e3=>?_⟩,fun y c' e=>?_,I.free,I.freeC,fun p hp=>?_,tracked ⟨oc,hoc,I.freeC x c hc⟩ hs,by simpa using I.len⟩ ⟨c,hs,.inr hc⟩
  ·exact (hs.2 b (Nat.ne_of_lt (Nat.lt_of_lt_of_le (Heap.lt_size e) (I.ok.cab x c hfn hc)))).trans (I.base.keep b o e n hb hx)
  ·obtain ⟨sl,e1⟩:=I.base.slot b o e n hb hx
   exact ⟨sl,(hs.2 b (Nat.ne_of_lt (Nat.lt_of_lt_of_le (Heap.lt_size e) (I.ok.cab x c hfn hc)))).trans e1⟩
  ·obtain ⟨o',e1⟩:=I.base.there b o e hx
   exact ⟨o',(hs.2 b (Nat.ne_of_lt (Nat.lt_of_lt_of_le (Heap.lt_size e) (I.ok.cab x c hfn hc)))).trans e1⟩
  ·by_cases hj:j=i
   ·subst hj
    rw [hi] at e1; cases e1
    rw [List.getElem?_set_self hiσ] at e2
    cases e2
    exact ⟨u,r,.inr ⟨.inl hk,c,hc,hc'⟩⟩
   ·rw [List.getElem?_set_ne (Ne.symm hj)] at e2
    obtain ⟨u',r',q⟩:=hl j y v' e1 e2 e3
    refine ⟨u',r',?_⟩
    rcases q with q | ⟨k,c',e,z'⟩
    ·exact .inl q
    ·refine .inr ⟨k,c',e,z'.sameBut hs ?_⟩
     rintro rfl
     exact hj (qx hN e1 (I.ok.inj _ _ _ e hc ▸ hi))
  ·by_cases hcc:c'=c
   ·subst hcc; exact ⟨_,hc'⟩
   ·obtain ⟨w2,z2⟩:=I.cell y c' e
    exact ⟨w2,z2.sameBut hs hcc⟩
  ·obtain ⟨e,n,ne,nf,d⟩:=I.pin p hp
   refine ⟨(hs.2 p.1 ?_).trans e,n,ne,nf,d⟩
   intro q
   rw [q,hoc] at e
   have q':oc=p.2:=Option.some.inj e
   exact d w' (by rw [← q']; exact hocd)
theorem qy {M:Model} {A:Around} {E:Value->Shared->Prop} {i:Nat} {x:Str} {v:V} {u:Value} {Q:Unit->Shared->Prop} (I:Inv X pins σ H s) (hN:X.N.Nodup) (hi:X.N[i]? = some x) (hx:Loc X.env.scope x) (r:RelV v u)
  (h:∀ s',Inv X pins (σ.set i (some v)) H s'->Q () s') (hf:X.fn x=true∨X.env.scope.names.lookup x=some .local:=by first | exact .inl rfl | exact .inr rfl | assumption):wpAny M A (storeName X.env x u) Q E s :=
 nc I hN hi hx r (fun s' I' _=>h s' I') hf
theorem Inv.call' {s':Shared} {ch:List Addr} (I:Inv X pins σ H s) (ho:s'.os=s.os) (u:Un (frs X.stack) ch H H' s.heap s'.heap) (hok:HOk X.prog X.w H' s'.heap) (hg:AllBare s'.gens)
  (hch:∀ b∈ch,(b∈X.ex∨X.s₀.heap.objs.size <= b) /\ b≠X.env.locals /\ (∀ x c,X.env.cells.lookup x=some c->c≠b) /\ ∀ p∈X.pn++pins,p.1≠b):Inv X pins σ H' s':=by
 obtain ⟨h',g',d',t',o'⟩:=s'
 have e:o'=s.os:=ho
 subst e
 exact I.call (g':=g') (t':=t') (d':=d') u hok hg hch
end
abbrev XK:=Value->Option Addr->Hp->Prop
abbrev St:=List (Option V)
abbrev VK:=V->Hp->Prop
abbrev TE:=St->Hp->VK->Prop
abbrev TT:=St->Hp->(Bool->Hp->Prop)->Prop
abbrev TA:=St->Hp->(List V->Hp->Prop)->Prop
structure Ends where
 nx:St->Hp->Prop
 rt:VK
 bk:St->Hp->Prop:=fun _ _=>False
 ct:St->Hp->Prop:=fun _ _=>False
abbrev TS:=Ends->St->Hp->Prop
def EP (X:Cx) (pins:List (Addr×Obj)) (σ:St) (Q:VK) (u:Value) (s':Shared):Prop:=∃ v H',Inv X pins σ H' s' /\ RelV v u /\ Q v H'
def TP (X:Cx) (pins:List (Addr×Obj)) (σ:St) (Q:Bool->Hp->Prop) (b:Bool) (s':Shared):Prop:=∃ H',Inv X pins σ H' s' /\ Q b H'
def AP (X:Cx) (pins:List (Addr×Obj)) (σ:St) (Q:List V->Hp->Prop) (us:List Value) (s':Shared):Prop:=∃ vs H',Inv X pins σ H' s' /\ Vals vs us /\ Q vs H'
def SP (X:Cx) (pins:List (Addr×Obj)) (D:Ends) (f:Flow) (s':Shared):Prop :=
 match f with
 | .next=>∃ σ' H',Inv X pins σ' H' s' /\ D.nx σ' H'
 | .brk=>∃ σ' H',Inv X pins σ' H' s' /\ D.bk σ' H'
 | .cont=>∃ σ' H',Inv X pins σ' H' s' /\ D.ct σ' H'
 | .ret u=>∃ v σ' H',Inv X pins σ' H' s' /\ RelV v u /\ D.rt v H'
def PE (X:Cx) (e:Expr) (t:TE):Prop :=
 ∀ (pins:List (Addr×Obj)) (s:Shared) (σ:St) (H:Hp) (Q:VK),Inv X pins σ H s->t σ H Q->wpAny (model X.prog X.w) X.A (eval e X.env) (EP X pins σ Q) X.xe s
def PT (X:Cx) (e:Expr) (t:TT):Prop :=
 ∀ (pins:List (Addr×Obj)) (s:Shared) (σ:St) (H:Hp) (Q:Bool->Hp->Prop),Inv X pins σ H s->t σ H Q->wpAny (model X.prog X.w) X.A (isTrue e X.env (eval e X.env)) (TP X pins σ Q) X.xe s
def PW (X:Cx) (e:Expr) (t:TT):Prop :=
 ∀ (whole:Sem Value) (pins:List (Addr×Obj)) (s:Shared) (σ:St) (H:Hp) (Q:Bool->Hp->Prop),Inv X pins σ H s->t σ H Q->wpAny (model X.prog X.w) X.A (isTrue e X.env whole) (TP X pins σ Q) X.xe s
theorem PW.pt {X:Cx} {e:Expr} {t:TT} (h:PW X e t):PT X e t:=h _
def PA (X:Cx) (es:List Expr) (t:TA):Prop :=
 ∀ (pos:Pos) (pins:List (Addr×Obj)) (s:Shared) (σ:St) (H:Hp) (Q:List V->Hp->Prop),Inv X pins σ H s->t σ H Q->wpAny (model X.prog X.w) X.A (spliced (backTo pos (starEach es X.env))) (AP X pins σ Q) X.xe s
def PS (X:Cx) (st:Stmt) (t:TS):Prop :=
 ∀ (pins:List (Addr×Obj)) (s:Shared) (σ:St) (H:Hp) (D:Ends),Inv X pins σ H s->t D σ H->wpAny (model X.prog X.w) X.A (exec st X.env) (SP X pins D) X.xe s
def PSs (X:Cx) (st:List Stmt) (t:TS):Prop :=
 ∀ (pins:List (Addr×Obj)) (s:Shared) (σ:St) (H:Hp) (D:Ends),Inv X pins σ H s->t D σ H->wpAny (model X.prog X.w) X.A (execs st X.env) (SP X pins D) X.xe s
theorem thn {α:Type} {t:Sem α} {Q Q':α->Shared->Prop} {M:Model} {A:Around} {E:Value->Shared->Prop} {s:Shared} (h:wpAny M A t Q E s) (hQ:∀ a s,Q a s->Q' a s):wpAny M A t Q' E s:=wpAny_mono h hQ fun _ _ x=>x
end L2
namespace L2
open PySem PySem.Spec PyProof.Rows
section
variable {X:Cx}
def tVar (i:Nat):TE:=fun σ H Q=>∃ v,σ[i]? = some (some v) /\ Q v H
def tC (v:V):TE:=fun _ H Q=>Q v H
theorem zX {i:Nat} {x:Str} {pos:Pos} (hN:X.N[i]? = some x) (hv:Vis X.env.scope x) (hd:(x == ("__debug__" : Str))=false:=by decide) (hcd:(x == ("__classdict__" : Str))=false:=by decide):PE X (.Name x pos) (tVar i):=by
 intro pins s σ H Q I h
 obtain ⟨v,e,h⟩:=h
 obtain ⟨m,hn,hl⟩:=I.loc
 obtain ⟨u,r,l⟩:=hl i x v hN e hv
 have fin:EP X pins σ Q u s:=⟨v,H,I,r,h⟩
 rcases l with ⟨hk,hm⟩ | ⟨hk,c,hc,hcell⟩
 ·exact wpAny_Name (wpAny_loadName_local I.ok.kind hk hn hm fin) hd
 ·rcases hk with hk | hk
  ·exact wpAny_Name (wpAny_loadName_cell I.ok.kind hk hc hcell fin) hd
  ·exact wpAny_Name (wpAny_loadName_free I.ok.kind hk hc hcell fin hcd) hd
theorem bD {i j pos}:PE X (.Constant (.int i) j pos) (tC (.int i)):=fun _ _ _ H _ I h=>wpAny_Constant_int ⟨.int i,H,I.tok _,⟨_,rfl⟩,h⟩
theorem Ce {b j pos}:PE X (.Constant (.bool b) j pos) (tC (.bl b)):=fun _ _ _ H _ I h=>Constant_bool ⟨.bl b,H,I,rfl,h⟩
theorem zY {j pos}:PE X (.Constant .none j pos) (tC .non):=fun _ _ _ H _ I h=>Constant_none ⟨.non,H,I,rfl,h⟩
def Gl (X:Cx) (x:Str):Prop:=X.env.kindOf x=some .globalImplicit
theorem sW {E:Value->Shared->Prop} {pins:List (Addr×Obj)} {s:Shared} {σ:St} {H:Hp} {x:Str} {u:Value} {pos:Pos} {Q:Value->Shared->Prop} (I:Inv X pins σ H s) (hg:Gl X x) (hm:X.mg x=some u) (h:Q u s)
  (hd:(x == ("__debug__" : Str))=false:=by decide):wpAny (model X.prog X.w) X.A (eval (.Name x pos) X.env) Q E s :=
 Calls.Name_function_global I.ok.kind hg (Calls.loadGlobal_global (by rw [I.ok.glob]; exact I.mod.glob.keeps I.bk) hm h) hd
theorem iW {E:Value->Shared->Prop} {pins:List (Addr×Obj)} {s:Shared} {σ:St} {H:Hp} {x:Str} {u:Value} {pos:Pos} {Q:Value->Shared->Prop} (I:Inv X pins σ H s) (hg:Gl X x) (hm:X.mg x=none) (hv:bootBuiltins x=some u) (h:Q u s)
  (hn:x ≠ "__name__":=by decide) (hd:(x == ("__debug__" : Str))=false:=by decide):wpAny (model X.prog X.w) X.A (eval (.Name x pos) X.env) Q E s:=by
 obtain ⟨mb,h1,h2⟩:=I.mod.blt
 exact Calls.Name_function_global I.ok.kind hg (Calls.loadGlobal_builtin (by rw [I.ok.glob]; exact I.mod.glob.keeps I.bk) hm (by rw [I.ok.blt]; exact h1.keeps I.bk) ((h2 x hn).trans hv) h) hd
theorem yk {x:Str} {v:V} {u:Value} {pos:Pos} (hg:Gl X x) (hm:X.mg x=some u) (r:RelV v u) (hd:(x == ("__debug__" : Str))=false:=by decide):PE X (.Name x pos) (tC v) :=
 fun _ _ _ H _ I h=>sW I hg hm ⟨v,H,I,r,h⟩ hd
theorem yn {x:Str} {v:V} {u:Value} {pos:Pos} (hg:Gl X x) (hm:X.mg x=none) (hv:bootBuiltins x=some u) (r:RelV v u) (hn:x ≠ "__name__":=by decide) (hd:(x == ("__debug__" : Str))=false:=by decide):PE X (.Name x pos) (tC v) :=
 fun _ _ _ H _ I h=>iW I hg hm hv ⟨v,H,I,r,h⟩ hn hd
variable {a b:Expr} {ta tb:TE} {pos:Pos}
def tB (t:TE):TT:=fun σ H Q=>t σ H fun x H1=>∃ c,x = .bl c /\ Q c H1
theorem zZ {e:Expr} {t:TE} (h:PE X e t) (he:∀ whole,isTrue e X.env whole=(do let v ← whole; standAt e.pos; holding [v] (truthy v)):=by intro _; rfl):PT X e (tB t):=by
 intro pins s σ H Q I hw
 refine isTrue_plain (thn (h pins s σ H _ I hw) fun v s1 ⟨x,H1,I1,r1,q1⟩=>?_) (he _)
 obtain ⟨d,rfl,q⟩:=q1
 cases r1
 exact wpAny_truthy_bool ⟨H1,I1,q⟩
variable {tA tB':TT} {rest:List Expr}
def tAnd (t u:TT):TT:=fun σ H Q=>t σ H fun c H1=>if c=true then u σ H1 Q else Q false H1
def tOr (t u:TT):TT:=fun σ H Q=>t σ H fun c H1=>if c=true then Q true H1 else u σ H1 Q
def tNot (t:TT):TT:=fun σ H Q=>t σ H fun c H1=>Q (!c) H1
theorem yo (ha:PT X a tA):PW X (.BoolOp .And [a] pos) tA:=by
 intro wh pins s σ H Q I h
 refine isTrue_and (thn (ha pins s σ H Q I h) fun c s1 e=>?_)
 cases c with
 | true=>exact isTrue_and_nil e
 | false=>exact e
theorem xC (ha:PT X a tA):PW X (.BoolOp .Or [a] pos) tA:=by
 intro wh pins s σ H Q I h
 refine isTrue_or (thn (ha pins s σ H Q I h) fun c s1 e=>?_)
 cases c with
 | false=>exact isTrue_or_nil e
 | true=>exact e
theorem Aa (ha:PT X a tA) (hb:PW X (.BoolOp .And (b::rest) pos) tB'):PW X (.BoolOp .And (a::b::rest) pos) (tAnd tA tB'):=by
 intro wh pins s σ H Q I h
 refine isTrue_and (thn (ha pins s σ H _ I h) fun c s1 ⟨H1,I1,q1⟩=>?_)
 cases c with
 | true=>exact hb wh pins s1 σ H1 Q I1 q1
 | false=>exact ⟨H1,I1,q1⟩
theorem Ab (ha:PT X a tA) (hb:PW X (.BoolOp .Or (b::rest) pos) tB'):PW X (.BoolOp .Or (a::b::rest) pos) (tOr tA tB'):=by
 intro wh pins s σ H Q I h
 refine isTrue_or (thn (ha pins s σ H _ I h) fun c s1 ⟨H1,I1,q1⟩=>?_)
 cases c with
 | true=>exact ⟨H1,I1,q1⟩
 | false=>exact hb wh pins s1 σ H1 Q I1 q1
theorem Ac (ha:PT X a tA):PT X (.UnaryOp .Not a pos) (tNot tA):=by
 intro pins s σ H Q I h
 exact isTrue_not (ha pins s σ H (fun c H1=>Q (!c) H1) I h)
def Cf (ta tb:TE):TE:=fun σ H Q=>ta σ H fun x H1=>∃ c,x = .bl c /\ if c=true then tb σ H1 Q else Q (.bl false) H1
def Cg (ta:TE):TE:=fun σ H Q=>ta σ H fun x H1=>∃ c,x = .bl c /\ Q (.bl (!c)) H1
theorem Ad {op} {t:TE} (h:PE X a t):PE X (.BoolOp op [a] pos) t:=fun pins s σ H Q I hw=>BoolOp_one (h pins s σ H Q I hw)
theorem Ae (ha:PE X a ta) (hb:PE X (.BoolOp .And (b::rest) pos) tb):PE X (.BoolOp .And (a::b::rest) pos) (Cf ta tb):=by
 intro pins s σ H Q I h
 refine BoolOp_and (thn (ha pins s σ H _ I h) fun v s1 ⟨x,H1,I1,r1,q1⟩=>?_)
 obtain ⟨c,rfl,q1⟩:=q1
 cases r1
 refine wpAny_truthy_bool ?_
 cases c with
 | true=>exact hb pins s1 σ H1 Q I1 q1
 | false=>exact ⟨.bl false,H1,I1,rfl,q1⟩
theorem Af (ha:PE X a ta):PE X (.UnaryOp .Not a pos) (Cg ta):=by
 intro pins s σ H Q I h
 refine UnaryOp_ (thn (ha pins s σ H _ I h) fun v s1 ⟨x,H1,I1,r1,q1⟩=>?_)
 obtain ⟨c,rfl,q1⟩:=q1
 cases r1
 exact not_of (wpAny_truthy_bool ⟨.bl (!c),H1,I1,rfl,q1⟩)
def tIf (t:TT) (ta tb:TE):TE:=fun σ H Q=>t σ H fun c H1=>if c=true then ta σ H1 Q else tb σ H1 Q
theorem qz {c:Expr} (hc:PT X c tA) (ha:PE X a ta) (hb:PE X b tb):PE X (.IfExp c a b pos) (tIf tA ta tb):=by
 intro pins s σ H Q I h
 refine wpAny_IfExp (thn (hc pins s σ H _ I h) fun d s1 ⟨H1,I1,q1⟩=>?_)
 cases d with
 | true=>exact ha pins s1 σ H1 Q I1 q1
 | false=>exact hb pins s1 σ H1 Q I1 q1
end
end L2
namespace L2
open PySem PySem.Spec PyProof.Rows
def SqL (K:PySem.W.Frag) (H:Hp) (a:Addr) (xs:List V):Prop :=
 Rd H a (.lst xs) ∨
  ∃ (o:Obj) (its:Array Value) (n:Nat),K.lookup a=some o /\ o.cls = .type "list" /\ o.dict=none /\ o.data = .seq its n /\ its.size <= sizeLine /\ Vals xs its.toList
def SqT (K:PySem.W.Frag) (H:Hp) (a:Addr) (xs:List V):Prop :=
 Rd H a (.tup xs) ∨
  ∃ (o:Obj) (its:Array Value) (n:Nat),K.lookup a=some o /\ o.cls = .type "tuple" /\ o.data = .seq its n /\ its.size <= sizeLine /\ Vals xs its.toList
def absV:Value->Option V
 | .none=>some .non
 | .bool b=>some (.bl b)
 | .int i _=>some (.int i)
 | .str x _=>some (.str x)
 | .bytes b _=>some (.byt b)
 | .float b _=>some (.flt b)
 | .ref a=>some (.ref a)
 | .type n=>some (.ty n)
 | _=>none
theorem RelV.abs {x:V} {u:Value} (r:RelV x u):absV u=some x:=by
 cases x with
 | non=>cases r; rfl
 | bl _=>cases r; rfl
 | int _=>obtain ⟨t,rfl⟩:=r; rfl
 | str _=>obtain ⟨t,rfl⟩:=r; rfl
 | byt _=>obtain ⟨t,rfl⟩:=r; rfl
 | flt _=>obtain ⟨t,rfl⟩:=r; rfl
 | ref _=>cases r; rfl
 | ty _=>cases r; rfl
theorem RelV.inj {x y:V} {u:Value} (r:RelV x u) (q:RelV y u):x=y:=Option.some.inj (r.abs.symm.trans q.abs)
theorem Vals.inj:∀ {xs ys:List V} {us:List Value},Vals xs us->Vals ys us->xs=ys
 | _,_,_,.nil,.nil=>rfl
 | _,_,_,.cons r t,.cons r' t'=>by rw [r.inj r',Vals.inj t t']
section
variable {X:Cx} {pins:List (Addr×Obj)} {σ:St} {H:Hp} {s:Shared} {a:Addr} {xs ys:List V}
theorem SqL.of {K:PySem.W.Frag} (h:H a=some (.lst xs)):SqL K H a xs:=.inl (.inl h)
theorem SqT.of {K:PySem.W.Frag} (h:H a=some (.tup xs)):SqT K H a xs:=.inl (.inl h)
theorem Inv.list (I:Inv X pins σ H s) (h:SqL X.K H a xs):∃ its:List Value,Vals xs its /\ PlainL s.heap a its.toArray /\ xs.length <= sizeLine:=by
 rcases h with h | ⟨o,its,n,hk,hc,hd,hs,hz,r⟩
 ·obtain ⟨z,its,n,r,e⟩:=h.ok I.hok
  exact ⟨its,r,⟨_,n,e,rfl,rfl,rfl⟩,z⟩
 ·refine ⟨its.toList,r,⟨o,n,I.kIn a o hk,hc,hd,by simpa using hs⟩,?_⟩
  have e:=r.length
  simp only [Array.length_toList] at e
  omega
theorem Inv.tuple (I:Inv X pins σ H s) (h:SqT X.K H a xs):∃ its:List Value,Vals xs its /\ IsTup s.heap a its.toArray /\ xs.length <= sizeLine:=by
 rcases h with h | ⟨o,its,n,hk,hc,hs,hz,r⟩
 ·obtain ⟨z,its,r,p⟩:=h.ok I.hok
  exact ⟨its,r,p,z⟩
 ·refine ⟨its.toList,r,⟨o,I.kIn a o hk,hc,n,by simpa using hs⟩,?_⟩
  have e:=r.length
  simp only [Array.length_toList] at e
  omega
theorem Inv.list_inj (I:Inv X pins σ H s) (h:SqL X.K H a xs) (h':SqL X.K H a ys):xs=ys:=by
 obtain ⟨its,r,⟨o,n,e,_,_,d⟩,_⟩:=I.list h
 obtain ⟨its',r',⟨o',n',e',_,_,d'⟩,_⟩:=I.list h'
 rw [e] at e'; cases e'
 rw [d] at d'
 injection d' with d1 _
 have:its=its':=by simpa using congrArg Array.toList d1
 subst this
 exact r.inj r'
theorem Inv.tuple_inj (I:Inv X pins σ H s) (h:SqT X.K H a xs) (h':SqT X.K H a ys):xs=ys:=by
 obtain ⟨its,r,⟨o,e,_,n,d⟩,_⟩:=I.tuple h
 obtain ⟨its',r',⟨o',e',_,n',d'⟩,_⟩:=I.tuple h'
 rw [e] at e'; cases e'
 rw [d] at d'
 injection d' with d1 _
 have:its=its':=by simpa using congrArg Array.toList d1
 subst this
 exact r.inj r'
end
abbrev Cx.wish (X:Cx) (E:Value->Shared->Prop):Cx:={ X with xe:=E }
abbrev Cx.nox (X:Cx):Cx:=X.wish fun _ _=>False
theorem Cx.Ok.wish {X:Cx} (ok:X.Ok) (E:Value->Shared->Prop):(X.wish E).Ok :=
 ⟨ok.mod,ok.kind,ok.glob,ok.blt,ok.above,ok.inj,ok.has,ok.cab,ok.hd,ok.frames,ok.stk,ok.exf,ok.bs,ok.bsz,ok.noex,ok.exfs,ok.funs,ok.frf⟩
theorem Cx.Ok.unwish {X:Cx} {E:Value->Shared->Prop} (ok:(X.wish E).Ok):X.Ok :=
 ⟨ok.mod,ok.kind,ok.glob,ok.blt,ok.above,ok.inj,ok.has,ok.cab,ok.hd,ok.frames,ok.stk,ok.exf,ok.bs,ok.bsz,ok.noex,ok.exfs,ok.funs,ok.frf⟩
section
variable {X:Cx} {pins:List (Addr×Obj)} {σ:St} {H:Hp} {s:Shared} {E:Value->Shared->Prop}
theorem Inv.wish (I:Inv X pins σ H s) (E:Value->Shared->Prop):Inv (X.wish E) pins σ H s:=⟨I.ok.wish E,I.os,I.bare,I.base,I.loc,I.cell,I.free,I.freeC,I.pin,I.hok,I.len⟩
theorem Inv.unwish (I:Inv (X.wish E) pins σ H s):Inv X pins σ H s:=⟨I.ok.unwish,I.os,I.bare,I.base,I.loc,I.cell,I.free,I.freeC,I.pin,I.hok,I.len⟩
theorem SP.unwish {D:Ends} {f:Flow} {s':Shared} (h:SP (X.wish E) pins D f s'):SP X pins D f s':=by
 cases f with
 | next=>obtain ⟨σ',H',I,q⟩:=h; exact ⟨σ',H',I.unwish,q⟩
 | brk=>obtain ⟨σ',H',I,q⟩:=h; exact ⟨σ',H',I.unwish,q⟩
 | cont=>obtain ⟨σ',H',I,q⟩:=h; exact ⟨σ',H',I.unwish,q⟩
 | ret u=>obtain ⟨v,σ',H',I,r,q⟩:=h; exact ⟨v,σ',H',I.unwish,r,q⟩
theorem PSs.nox {st:List Stmt} {t:TS} (h:PSs X.nox st t):PSs X st t:=fun pins s σ H D I hw =>
 wpAny_mono (h pins s σ H D (I.wish _) hw) (fun _ _ q=>q.unwish) fun _ _ z=>False.elim z
end
section
variable {X:Cx} {st:Stmt} {rest:List Stmt} {t u:TS} {e:Expr} {te:TE} {pos:Pos}
def Ch:TS:=fun D σ H=>D.nx σ H
def tSeq (t u:TS):TS:=fun D σ H=>t { D with nx:=u D } σ H
theorem lJ:PSs X [] Ch:=fun _ _ σ H _ I h=>wpAny_execs_nil ⟨σ,H,I,h⟩
theorem br (h1:PS X st t) (h2:PSs X rest u):PSs X (st::rest) (tSeq t u):=by
 intro pins s σ H D I h
 refine wpAny_execs_cons (thn (h1 pins s σ H { D with nx:=u D } I h) fun f s1 q=>?_)
 cases f with
 | next =>
  obtain ⟨σ',H',I',q⟩:=q
  exact h2 pins s1 σ' H' D I' q
 | ret v=>exact q
 | brk=>exact q
 | cont=>exact q
theorem gg (h1:PS X st t):PSs X [st] t:=by
 intro pins s σ H D I h
 refine wpAny_execs_cons (thn (h1 pins s σ H D I h) fun f s1 q=>?_)
 cases f with
 | next=>exact wpAny_execs_nil q
 | ret v=>exact q
 | brk=>exact q
 | cont=>exact q
theorem Inv.quiet {pins:List (Addr×Obj)} {σ:St} {H:Hp} {s:Shared} (I:Inv X pins σ H s):interactive X.env=false:=by simp [interactive,I.ok.kind]
def Ci (te:TE):TS:=fun D σ H=>te σ H fun _ H1=>D.nx σ H1
theorem oZ (he:PE X e te) (hs:swapsWith e none pos.line X.env=pure false:=by rfl):PS X (.Expr e pos) (Ci te):=by
 intro pins s σ H D I h
 exact wpAny_Expr_any (thn (he pins s σ H _ I h) fun v s1 ⟨x,H1,I1,r1,q1⟩=>⟨σ,H1,I1,q1⟩) I.quiet hs
def tRet (te:TE):TS:=fun D σ H=>te σ H D.rt
theorem nj (he:PE X e te):PS X (.Return (some e) pos) (tRet te):=by
 intro pins s σ H D I h
 exact wpAny_Return_some (thn (he pins s σ H _ I h) fun v s1 ⟨x,H1,I1,r1,q1⟩=>⟨x,σ,H1,I1,r1,q1⟩)
def tIfS (c:TT) (t u:TS):TS:=fun D σ H=>c σ H fun b H1=>if b=true then t D σ H1 else u D σ H1
theorem vT {c:Expr} {a b:List Stmt} {tc:TT} (hc:PT X c tc) (ha:PSs X a t) (hb:PSs X b u):PS X (.If c a b pos) (tIfS tc t u):=by
 intro pins s σ H D I h
 refine wpAny_If (thn (hc pins s σ H _ I h) fun d s1 ⟨H1,I1,q1⟩=>?_)
 cases d with
 | true=>exact ha pins s1 σ H1 D I1 q1
 | false=>exact hb pins s1 σ H1 D I1 q1
def Ag:TS:=fun _ _ _=>False
theorem vU:PS X st Ag:=fun _ _ _ _ _ _ h=>h.elim
end
abbrev TG:=V->St->Hp->(St->Hp->Prop)->Prop
abbrev TGs:=List V->St->Hp->(St->Hp->Prop)->Prop
def PG (X:Cx) (target:Expr) (t:TG):Prop :=
 ∀ (pins:List (Addr×Obj)) (s:Shared) (σ:St) (H:Hp) (v:V) (u:Value) (Q:St->Hp->Prop),Inv X pins σ H s->RelV v u->t v σ H Q ->
  wpAny (model X.prog X.w) X.A (assign target X.env u) (fun _ s'=>∃ σ' H',Inv X pins σ' H' s' /\ Q σ' H') X.xe s
def PGs (X:Cx) (ts:List Expr) (t:TGs):Prop :=
 ∀ (pins:List (Addr×Obj)) (s:Shared) (σ:St) (H:Hp) (vs:List V) (us:List Value) (Q:St->Hp->Prop),Inv X pins σ H s->Vals vs us->t vs σ H Q ->
  wpAny (model X.prog X.w) X.A (assignInOrder ((assignEach ts X.env).map (·.2)) us) (fun _ s'=>∃ σ' H',Inv X pins σ' H' s' /\ Q σ' H') X.xe s
abbrev TSet:=V->V->V->Hp->(Hp->Prop)->Prop
def PSet (X:Cx) (t:TSet):Prop :=
 ∀ (pins:List (Addr×Obj)) (s:Shared) (σ:St) (H:Hp) (o i v:V) (ov iv u:Value) (Q:Hp->Prop),Inv X pins σ H s->RelV o ov->RelV i iv->RelV v u->t o i v H Q ->
  wpAny (model X.prog X.w) X.A (setItem ov iv u) (fun _ s'=>∃ H',Inv X pins σ H' s' /\ Q H') X.xe s
section
variable {X:Cx} {pos:Pos}
def sX (i:Nat):TG:=fun v σ H Q=>Q (σ.set i (some v)) H
theorem lK {i:Nat} {x:Str} (hN:X.N.Nodup) (hi:X.N[i]? = some x) (hx:Loc X.env.scope x) (hf:X.fn x=true∨X.env.scope.names.lookup x=some .local:=by first | exact .inl rfl | exact .inr rfl | assumption):PG X (.Name x pos) (sX i):=by
 intro pins s σ H v u Q I r h
 exact wpAny_assign_Name (qy I hN hi hx r (fun s' I'=>⟨_,H,I',h⟩) hf)
def gNil:TGs:=fun vs σ H Q=>vs=[] /\ Q σ H
def Cj (t:TG) (u:TGs):TGs:=fun vs σ H Q=>∃ v r,vs=v::r /\ t v σ H fun σ' H'=>u r σ' H' Q
theorem sY:PGs X [] gNil:=by
 intro pins s σ H vs us Q I r h
 obtain ⟨e,h⟩:=h
 subst e
 cases r
 exact assignInOrder_nil ⟨σ,H,I,h⟩
theorem jq {e:Expr} {es:List Expr} {t:TG} {u:TGs} (h1:PG X e t) (h2:PGs X es u)
  (hs:(assignEach (e::es) X.env).map (·.2)=assign e X.env::(assignEach es X.env).map (·.2):=by rfl):PGs X (e::es) (Cj t u):=by
 intro pins s σ H vs us Q I r h
 obtain ⟨v,vr,e1,h⟩:=h
 subst e1
 cases r with
 | cons r rr =>
  rw [hs]
  refine assignInOrder_cons (thn (h1 pins s σ H _ _ _ I r h) fun _ s1 ⟨σ1,H1,I1,q1⟩=>?_)
  exact h2 pins s1 σ1 H1 _ _ Q I1 rr q1
def gTup (K:PySem.W.Frag) (n:Nat) (t:TGs):TG:=fun v σ H Q=>∃ a xs,v = .ref a /\ SqT K H a xs /\ xs.length=n /\ t xs σ H Q
theorem Ah {es:List Expr} {k:Nat} {t:TGs} {n:Nat} (hc:X.calm=true) (h:PGs X es t)
  (hn:(assignEach es X.env).length=n:=by rfl) (hst:(assignEach es X.env).findIdx? (·.1)=none:=by rfl):PG X (.Tuple es k pos) (gTup X.K n t):=by
 intro pins s σ H v u Q I r hw
 obtain ⟨a,xs,e1,hq,hl,hw⟩:=hw
 subst e1
 cases r
 obtain ⟨its,rv,ht,hz⟩:=I.tuple hq
 refine assign_Tuple_tuple (I.ok.hd hc) ht (by simp [hn,← hl,rv.length]) hst fun h' hx=>?_
 have I1:Inv X pins σ H { s with heap:=h' }:=I.kept (t':=s.toks) fun b o e=>hx b o (Nat.ne_of_lt (Heap.lt_size e)) e
 exact h pins _ σ H xs _ Q I1 (by simpa using rv) hw
def gSub (to ti:TE) (t:TSet):TG:=fun v σ H Q=>to σ H fun o H1=>ti σ H1 fun i H2=>t o i v H2 fun H3=>Q σ H3
theorem sZ {o i:Expr} {to ti:TE} {t:TSet} (ho:PE X o to) (hi:PE X i ti) (hs:PSet X t)
  (ha:∀ v,assign (.Subscript o i pos) X.env v=(do
   let ov ← holding [v] (eval o X.env)
   let iv ← holding [v,ov] (eval i X.env)
   standAt pos
   holding [v,ov,iv] (setItem ov iv v)
   release [v,ov,iv] []):=by intro _; rfl):PG X (.Subscript o i pos) (gSub to ti t):=by
 intro pins s σ H v u Q I r h
 rw [ha]
 refine wpAny_bind (wpAny_holding (thn (ho pins s σ H _ I h) fun ov s1 ⟨x,H1,I1,r1,q1⟩=>?_))
 refine wpAny_bind (wpAny_holding (thn (hi pins s1 σ H1 _ I1 q1) fun iv s2 ⟨y,H2,I2,r2,q2⟩=>?_))
 refine wpAny_bind (wpAny_standAt (wpAny_bind (wpAny_holding (thn (hs pins s2 σ H2 x y v ov iv u _ I2 r1 r2 r q2) fun _ s3 ⟨H3,I3,q3⟩=>?_))))
 exact wpAny_release ⟨σ,H3,I3,q3⟩
def tAsg (te:TE) (g:TG):TS:=fun D σ H=>te σ H fun x H1=>g x σ H1 D.nx
theorem nn {tg e:Expr} {te:TE} {g:TG} (he:PE X e te) (hg:PG X tg g) (hs:swapsWithSole [tg] e pos.line X.env=pure false:=by rfl) (hw:swappedStores [tg] e X.env=pure none:=by rfl)
  (h1:(assignEach [tg] X.env).map (·.2)=[assign tg X.env]:=by rfl):PS X (.Assign [tg] e pos) (tAsg te g):=by
 intro pins s σ H D I h
 refine wpAny_Assign_stores (thn (he pins s σ H _ I h) fun v s1 ⟨x,H1,I1,r1,q1⟩=>?_) hs hw
 rw [h1]
 exact thn (hg pins s1 σ H1 x v _ I1 r1 q1) fun _ s2 q=>q
theorem gJ {i:Nat} {x:Str} {e:Expr} {te:TE} {pos':Pos} (hN:X.N.Nodup) (hi:X.N[i]? = some x) (hx:Loc X.env.scope x) (he:PE X e te) (hs:swapsWith e (some (.Name x pos')) pos.line X.env=pure false:=by rfl) (hf:X.fn x=true∨X.env.scope.names.lookup x=some .local:=by first | exact .inl rfl | exact .inr rfl | assumption) :
  PS X (.Assign [.Name x pos'] e pos) (tAsg te (sX i)):=by
 intro pins s σ H D I h
 refine wpAny_Assign_Name (thn (he pins s σ H _ I h) fun v s1 ⟨y,H1,I1,r1,q1⟩=>?_) hs
 exact qy I1 hN hi hx r1 (fun s2 I2=>⟨_,H1,I2,q1⟩) hf
end
section
variable {X:Cx} {pos:Pos}
end
structure It where
 go:Nat->Hp->Prop
 yld:Nat->Hp->V->Hp->Prop
 stop:Nat->Hp->Prop
def FpOk (X:Cx) (pins:List (Addr×Obj)) (H:Hp) (b:Addr):Prop :=
 H b=none /\ b≠X.env.locals /\ b∉X.fs /\ (b∈X.ex∨X.s₀.heap.objs.size <= b) /\ (∀ x c,X.env.cells.lookup x=some c->c≠b) /\ ∀ p∈X.pn++pins,p.1≠b
theorem Inv.fpOk {X:Cx} {pins:List (Addr×Obj)} {σ:St} {H H':Hp} {s:Shared} {b:Addr} (I:Inv X pins σ H s) (hb:s.heap.objs.size <= b) (hn:H' b=none):FpOk X pins H' b:=by
 refine ⟨hn,Nat.ne_of_gt (Nat.lt_of_lt_of_le I.lt hb),I.nofs hb,.inr (Nat.le_trans I.sz hb),fun x c e z=>?_,fun p hp z=>?_⟩
 ·obtain ⟨v,q⟩:=I.cell x c e
  exact absurd (Nat.lt_of_lt_of_le q.lt (by rw [z]; exact hb)) (Nat.lt_irrefl _)
 ·exact absurd (Nat.lt_of_lt_of_le (Heap.lt_size (I.pin p hp).1) (by rw [z]; exact hb)) (Nat.lt_irrefl _)
structure Turn (P:Program) (w:World) (K:PySem.W.Frag) (tg:Expr) (J:It) (fp:List Addr) (it:Addr) (tn:Nat->Heap->Prop):Prop where
 mem:it∈fp
 obj:∀ i h,tn i h->∀ b∈fp,∃ o,h.get? b=some o /\ ∀ v,o.data ≠ .cell v
 keep:∀ i h h',tn i h->(∀ b∈fp,∀ o,h.get? b=some o->h'.get? b=some o)->tn i h'
 item:∀ (X:Cx),X.prog=P->X.w=w->X.K=K->X.calm=true->∀ (i:Nat) (pins:List (Addr×Obj)) (s:Shared) (σ:St) (H:Hp) (E:Value->Shared->Prop),Inv X pins σ H s->(∀ b∈fp,FpOk X pins H b)->tn i s.heap->J.go i H ->
  wpAny (model P w) X.A (pyNext (.ref it)) (fun r s1=>∃ u,r=some u /\
   wpAny (model P w) X.A (letOwnedTupleGo tg (.ref it) u) (fun _ s2=>∃ x H',Inv X pins σ H' s2 /\ RelV x u /\ J.yld i H x H' /\ tn (i + 1) s2.heap /\ ∀ b∈fp,H' b=none) E s1) E s
 done:∀ (X:Cx),X.prog=P->X.w=w->X.K=K->X.calm=true->∀ (i:Nat) (pins:List (Addr×Obj)) (s:Shared) (σ:St) (H:Hp) (E:Value->Shared->Prop),Inv X pins σ H s->(∀ b∈fp,FpOk X pins H b)->tn i s.heap->J.stop i H ->
  wpAny (model P w) X.A (pyNext (.ref it)) (fun r s1=>r=none /\ Inv X pins σ H s1) E s
 self:∀ (A:Around) (i:Nat) (s:Shared) (Q:Value->Shared->Prop) (E:Value->Shared->Prop),tn i s.heap->Q (.ref it) s->wpAny (model P w) A (pyIter (.ref it)) Q E s
abbrev TI:=St->Hp->(It->Hp->Prop)->Prop
def PIE (X:Cx) (pins:List (Addr×Obj)) (σ:St) (tg:Expr) (R:It->Hp->Prop) (itv:Value) (s2:Shared):Prop :=
 ∃ (it:Addr) (fp:List Addr) (tn:Nat->Heap->Prop) (J:It) (H':Hp),itv = .ref it /\ Inv X pins σ H' s2 /\ Turn X.prog X.w X.K tg J fp it tn /\ tn 0 s2.heap /\ (∀ b∈fp,FpOk X pins H' b) /\ R J H'
def PI (X:Cx) (tg iter:Expr) (wi:TI):Prop :=
 ∀ (pins:List (Addr×Obj)) (s:Shared) (σ:St) (H:Hp) (R:It->Hp->Prop),Inv X pins σ H s->wi σ H R ->
  wpAny (model X.prog X.w) X.A (eval iter X.env) (fun v s1=>wpAny (model X.prog X.w) X.A (pyIter v) (PIE X pins σ tg R) X.xe s1) X.xe s
theorem yp {M:Model} {A:Around} {E:Value->Shared->Prop} {s:Shared} {tg:Expr} {it:Addr} {u:Value} {o:Obj} {n:String} {vs:Array Value} {Q:Unit->Shared->Prop} (ho:s.heap.get? it=some o) (hc:o.cls = .type n) (hd:o.data = .fields vs)
  (hn:["enumerate","zip","dict_itemiterator","dict_reverseitemiterator","odict_iterator","itertools.zip_longest","itertools.pairwise"].contains n=false) (hQ:Q () s):wpAny M A (letOwnedTupleGo tg (.ref it) u) Q E s:=by
 unfold letOwnedTupleGo
 cases tg <;> first
  | exact wpAny_pure hQ
  | (cases u <;> first
    | exact wpAny_pure hQ
    | (refine wpAny_bind (wpAny_load ho ?_)
       rw [hc,hd]
       show wpAny M A (if (["enumerate","zip","dict_itemiterator","dict_reverseitemiterator","odict_iterator","itertools.zip_longest","itertools.pairwise"].contains n && vs[0]? == some (rawInt _))=true then _ else _) Q E s
       rw [if_neg (by intro h; rw [hn,Bool.false_and] at h; cases h)]
       exact wpAny_pure hQ))
def Itl (K:PySem.W.Frag) (a:Addr):It :=
 ⟨fun i H=>∃ xs x,SqL K H a xs /\ xs[i]? = some x,fun i H x H'=>H'=H /\ ∀ xs,SqL K H a xs->xs[i]? = some x,fun i H=>∃ xs,SqL K H a xs /\ xs.length <= i⟩
def Itt (K:PySem.W.Frag) (a:Addr):It :=
 ⟨fun i H=>∃ xs x,SqT K H a xs /\ xs[i]? = some x,fun i H x H'=>H'=H /\ ∀ xs,SqT K H a xs->xs[i]? = some x,fun i H=>∃ xs,SqT K H a xs /\ xs.length <= i⟩
def Itr (lo:Int) (n:Nat):It:=⟨fun i _=>i < n,fun i H x H'=>H'=H /\ x = .int (lo + i),fun i _=>n <= i⟩
theorem nq {P:Program} {w:World} {K:PySem.W.Frag} {tg:Expr} (a it:Addr):Turn P w K tg (Itl K a) [it] it (fun i h=>h.IsListIter it a i) where
 mem:=by simp
 obj:=fun i h st b hb=>by
  have e:b=it:=by simpa using hb
  subst e
  obtain ⟨o,e,c,d⟩:=st
  exact ⟨o,e,fun v z=>by rw [d] at z; cases z⟩
 keep:=fun i h h' st k=>st.at fun o e=>k it (by simp) o e
 item:=by
  intro X hP hw hK hc i pins s σ H E I hf st hg
  subst hP hw hK
  obtain ⟨xs,x,hq,hx⟩:=hg
  obtain ⟨its,rv,p,hz⟩:=I.list hq
  obtain ⟨u,hu,ru⟩:=rv.get hx
  obtain ⟨f0,f1,f2,f3,f4,f5⟩:=hf it (by simp)
  refine wpAny_pyNext_list_item st p.isList (x:=u) (by simpa using hu) fun h' st' sb=>?_
  have I1:Inv X pins σ H { s with heap:=h' }:=I.turned (t':=s.toks) (fun b o hb e=>(sb.2 b hb).trans e) f0 f1 f3 f4 f5
  obtain ⟨o,e,c,d⟩:=id st'
  exact ⟨u,rfl,yp (s:={ s with heap:=h' }) e c d (by decide) ⟨x,H,I1,ru,⟨rfl,fun ys hy=>by rw [I.list_inj hy hq]; exact hx⟩,st',fun b hb=>(hf b hb).1⟩⟩
 done:=by
  intro X hP hw hK hc i pins s σ H E I hf st hg
  subst hP hw hK
  obtain ⟨xs,hq,hx⟩:=hg
  obtain ⟨its,rv,p,hz⟩:=I.list hq
  obtain ⟨f0,f1,f2,f3,f4,f5⟩:=hf it (by simp)
  have hl:=rv.length
  exact wpAny_pyNext_list_end (I.ok.hd hc) st p.isList (by simp; omega) fun h' eb=>⟨rfl,I.turned (t':=s.toks) (fun b o hb e=>eb b o hb e) f0 f1 f3 f4 f5⟩
 self:=fun _ _ _ _ _ st h=>wpAny_pyIter_listiter st h
theorem kX {P:Program} {w:World} {K:PySem.W.Frag} {tg:Expr} (a it:Addr):Turn P w K tg (Itt K a) [it] it (fun i h=>h.IsTupleIter it a i) where
 mem:=by simp
 obj:=fun i h st b hb=>by
  have e:b=it:=by simpa using hb
  subst e
  obtain ⟨o,e,c,d⟩:=st
  exact ⟨o,e,fun v z=>by rw [d] at z; cases z⟩
 keep:=fun i h h' st k=>st.at fun o e=>k it (by simp) o e
 item:=by
  intro X hP hw hK hc i pins s σ H E I hf st hg
  subst hP hw hK
  obtain ⟨xs,x,hq,hx⟩:=hg
  obtain ⟨its,rv,p,hz⟩:=I.tuple hq
  obtain ⟨u,hu,ru⟩:=rv.get hx
  obtain ⟨f0,f1,f2,f3,f4,f5⟩:=hf it (by simp)
  refine wpAny_pyNext_tuple_item st (show s.heap.IsTuple a its.toArray from p) (x:=u) (by simpa using hu) fun h' st' sb=>?_
  have I1:Inv X pins σ H { s with heap:=h' }:=I.turned (t':=s.toks) (fun b o hb e=>(sb.2 b hb).trans e) f0 f1 f3 f4 f5
  obtain ⟨o,e,c,d⟩:=id st'
  exact ⟨u,rfl,yp (s:={ s with heap:=h' }) e c d (by decide) ⟨x,H,I1,ru,⟨rfl,fun ys hy=>by rw [I.tuple_inj hy hq]; exact hx⟩,st',fun b hb=>(hf b hb).1⟩⟩
 done:=by
  intro X hP hw hK hc i pins s σ H E I hf st hg
  subst hP hw hK
  obtain ⟨xs,hq,hx⟩:=hg
  obtain ⟨its,rv,p,hz⟩:=I.tuple hq
  obtain ⟨f0,f1,f2,f3,f4,f5⟩:=hf it (by simp)
  have hl:=rv.length
  exact wpAny_pyNext_tuple_end (I.ok.hd hc) st (show s.heap.IsTuple a its.toArray from p) (by simp; omega) fun h' eb=>⟨rfl,I.turned (t':=s.toks) (fun b o hb e=>eb b o hb e) f0 f1 f3 f4 f5⟩
 self:=fun _ _ _ _ _ st h=>wpAny_pyIter_tupleiter st h
theorem rR {P:Program} {w:World} {K:PySem.W.Frag} {tg:Expr} (it:Addr) (lo:Int) (n:Nat):Turn P w K tg (Itr lo n) [it] it (fun i h=>IsRangeIter h it (lo + (i:Nat) * 1) ((n:Int) - (i:Nat)) 1) where
 mem:=by simp
 obj:=fun i h st b hb=>by
  have e:b=it:=by simpa using hb
  subst e
  exact ⟨_,st,fun v z=>by
   have z':Data.fields _=Data.cell v:=z
   cases z'⟩
 keep:=fun i h h' st k=>k it (by simp) _ st
 item:=by
  intro X hP hw hK hc i pins s σ H E I hf st hg
  subst hP hw hK
  obtain ⟨f0,f1,f2,f3,f4,f5⟩:=hf it (by simp)
  have W:=Walks.range (prog:=X.prog) (w:=X.w) (I.ok.hd hc) it lo 1 n
  refine W.item i s _ _ hg st fun v h' tk hv st' kk=>?_
  obtain ⟨t,rfl⟩:=hv
  have I1:Inv X pins σ H { s with heap:=h',toks:=tk }:=I.turned (fun b o hb e=>kk b o (by simpa using hb) e) f0 f1 f3 f4 f5
  refine ⟨_,rfl,yp (s:={ s with heap:=h',toks:=tk }) (n:="range_iterator") st' rfl rfl (by decide) ⟨.int (lo + i),H,I1,⟨t,?_⟩,⟨rfl,rfl⟩,st',fun b hb=>(hf b hb).1⟩⟩
  rw [Int.mul_one]
 done:=by
  intro X hP hw hK hc i pins s σ H E I hf st hg
  subst hP hw hK
  obtain ⟨f0,f1,f2,f3,f4,f5⟩:=hf it (by simp)
  exact wpAny_pyNext_range_end (I.ok.hd hc) st (by have:n <= i:=hg; omega) fun h' eb=>⟨rfl,I.turned (t':=s.toks) (fun b o hb e=>eb b o hb e) f0 f1 f3 f4 f5⟩
 self:=fun _ _ _ _ _ st h=>wpAny_pyIter_rangeiter st h
end L2
namespace L2
open PySem PySem.Spec PyProof.Rows
section
variable {X:Cx} {tg:Expr}
def Ck (K:PySem.W.Frag) (tl:TE):TI:=fun σ H R=>tl σ H fun x H1=>∃ a,x = .ref a /\ (∃ xs,SqL K H1 a xs) /\ R (Itl K a) H1
def iTup (K:PySem.W.Frag) (tl:TE):TI:=fun σ H R=>tl σ H fun x H1=>∃ a,x = .ref a /\ (∃ xs,SqT K H1 a xs) /\ R (Itt K a) H1
theorem yq {l:Expr} {tl:TE} (hl:PE X l tl):PI X tg l (Ck X.K tl):=by
 intro pins s σ H R I h
 refine thn (hl pins s σ H _ I h) fun v s1 ⟨x,H1,I1,r1,q1⟩=>?_
 obtain ⟨a,e,⟨xs,hq⟩,q⟩:=q1
 subst e
 cases r1
 obtain ⟨its,rv,p,hz⟩:=I1.list hq
 refine wpAny_pyIter_list p.isList ?_
 refine ⟨s1.heap.objs.size,[s1.heap.objs.size],_,_,H1,rfl,I1.kept (t':=s1.toks) fun b o e=>Heap.get?_push_of_some _ e,nq a _,⟨_,Heap.get?_push_size _ rfl,rfl,rfl⟩,fun b hb=>?_,q⟩
 have e:b=s1.heap.objs.size:=by simpa using hb
 subst e
 exact I1.fpOk (Nat.le_refl _) (I1.hok.fresh (Nat.le_refl _))
theorem Ai {l:Expr} {tl:TE} (hl:PE X l tl):PI X tg l (iTup X.K tl):=by
 intro pins s σ H R I h
 refine thn (hl pins s σ H _ I h) fun v s1 ⟨x,H1,I1,r1,q1⟩=>?_
 obtain ⟨a,e,⟨xs,hq⟩,q⟩:=q1
 subst e
 cases r1
 obtain ⟨its,rv,p,hz⟩:=I1.tuple hq
 refine wpAny_pyIter_tuple (show s1.heap.IsTuple a its.toArray from p) ?_
 refine ⟨s1.heap.objs.size,[s1.heap.objs.size],_,_,H1,rfl,I1.kept (t':=s1.toks) fun b o e=>Heap.get?_push_of_some _ e,kX a _,⟨_,Heap.get?_push_size _ rfl,rfl,rfl⟩,fun b hb=>?_,q⟩
 have e:b=s1.heap.objs.size:=by simpa using hb
 subst e
 exact I1.fpOk (Nat.le_refl _) (I1.hok.fresh (Nat.le_refl _))
theorem vV {pins:List (Addr×Obj)} {σ:St} {H:Hp} {s:Shared} {R:It->Hp->Prop} {E:Value->Shared->Prop} {lo hi:Int} {t u v:Tok} {tk:Nat} (I:Inv X pins σ H s) (h1 : -(2 ^ 62) <= lo) (h2:lo < 2 ^ 62) (h3 : -(2 ^ 62) <= hi) (h4:hi < 2 ^ 62)
  (q:R (Itr lo (hi - lo).toNat) H):wpAny (model X.prog X.w) X.A (pyIter (.ref s.heap.objs.size)) (PIE X pins σ tg R) E { s with heap:=s.heap.push { cls:=.type "range",data:=.fields #[.int lo t,.int hi u,.int 1 v] },toks:=tk }:=by
 refine wpAny_pyIter_range (IsRange.new ..) (small_one h1 h2 h3 h4) ?_
 have I1:Inv X pins σ H { s with heap:=s.heap.push { cls:=.type "range",data:=.fields #[.int lo t,.int hi u,.int 1 v] },toks:=tk }:=I.kept fun b o e=>Heap.get?_push_of_some _ e
 refine ⟨(s.heap.push { cls:=.type "range",data:=.fields #[.int lo t,.int hi u,.int 1 v] }).objs.size,[(s.heap.push { cls:=.type "range",data:=.fields #[.int lo t,.int hi u,.int 1 v] }).objs.size],_,_,H,rfl,
  I1.kept (t':=tk) fun b o e=>Heap.get?_push_of_some _ e,rR _ lo (hi - lo).toNat,?_,fun b hb=>?_,q⟩
 ·have e1:lo + ((0:Nat):Int) * 1=lo:=by simp
  have e2:(((hi - lo).toNat:Nat):Int) - ((0:Nat):Int)=Builtin.Range.rangeSize lo hi 1:=by rw [rangeSize_one]; split <;> omega
  show IsRangeIter _ _ (lo + ((0:Nat):Int) * 1) ((((hi - lo).toNat:Nat):Int) - ((0:Nat):Int)) 1
  rw [e1,e2]
  exact Heap.get?_push_size _ rfl
 ·have e:b=(s.heap.push { cls:=.type "range",data:=.fields #[.int lo t,.int hi u,.int 1 v] }).objs.size:=by simpa using hb
  subst e
  exact I1.fpOk (Nat.le_refl _) (I1.hok.fresh (Nat.le_refl _))
def Cl (ta:TA):TI:=fun σ H R=>ta σ H fun vs H1=>∃ j:Int,vs=[.int j] /\ -(2 ^ 62) <= j /\ j < 2 ^ 62 /\ R (Itr 0 j.toNat) H1
theorem tj {a:Expr} {ta:TA} {p pos:Pos} (hg:Gl X "range") (hm:X.mg "range" = none) (ha:PA X [a] ta) (hs:starEach [a] X.env=[(false,eval a X.env)]:=by rfl):PI X tg (.Call (.Name "range" p) [a] [] pos) (Cl ta):=by
 intro pins s σ H R I h
 refine Call_ (iW I hg hm boot_range (PyProof.Rows.callWith_type1 (thn (ha pos pins s σ H _ I h) fun us s1 ⟨vs,H1,I1,r1,q1⟩=>?_) hs rfl))
 obtain ⟨j,e,q1,q2,q⟩:=q1
 subst e
 cases r1 with
 | cons r rr =>
  cases rr
  obtain ⟨t,rfl⟩:=r
  exact call_range_1 (vV I1 (by omega) (by omega) q1 q2 (by simpa using q))
def tFor (wi:TI) (g:TG) (tb:TS):TS:=fun D σ H=>wi σ H fun J H1=>∃ W:Nat->Nat->St->Hp->Prop,(∃ m,W 0 m σ H1) /\ ∀ i m σ H,W i m σ H ->
 (J.stop i H /\ D.nx σ H)∨(J.go i H /\ ∃ N:St->Hp->Prop,(∀ σ' H',N σ' H'->∃ m',m' < m /\ W (i + 1) m' σ' H') /\ ∀ x H',J.yld i H x H'->g x σ H' fun σ2 H2=>tb { D with nx:=N,ct:=N,bk:=D.nx } σ2 H2)
def nr (fp:List Addr) (h:Heap):List (Addr×Obj):=fp.filterMap fun b=>(h.get? b).map fun o=>(b,o)
theorem fL {fp:List Addr} {h:Heap} {b:Addr} {o:Obj} (hb:b∈fp) (e:h.get? b=some o):(b,o)∈nr fp h:=List.mem_filterMap.mpr ⟨b,hb,by rw [e]; rfl⟩
theorem tm {fp:List Addr} {h:Heap} {p:Addr×Obj} (hp:p∈nr fp h):p.1∈fp /\ h.get? p.1=some p.2:=by
 obtain ⟨b,hb,e⟩:=List.mem_filterMap.mp hp
 cases q:h.get? b with
 | none=>rw [q] at e; cases e
 | some o =>
  rw [q] at e
  have e':(b,o)=p:=Option.some.inj e
  subst e'
  exact ⟨hb,q⟩
theorem Inv.pinned {pins:List (Addr×Obj)} {σ:St} {H:Hp} {s:Shared} {fp:List Addr} (I:Inv X pins σ H s) (hf:∀ b∈fp,FpOk X pins H b) (ho:∀ b∈fp,∃ o,s.heap.get? b=some o /\ ∀ v,o.data ≠ .cell v):Inv X (pins++nr fp s.heap) σ H s :=
 I.pins_of fun p hp=>(List.mem_append.mp hp).elim (fun z=>I.pin p (List.mem_append_right _ z)) fun z=>by
  obtain ⟨hb,e⟩:=tm z
  obtain ⟨f0,f1,f2,_⟩:=hf p.1 hb
  obtain ⟨o,e',d⟩:=ho p.1 hb
  rw [e] at e'; cases e'
  exact ⟨e,f0,f1,f2,d⟩
theorem Inv.unpinned {pins pl:List (Addr×Obj)} {σ:St} {H:Hp} {s:Shared} (I:Inv X (pins++pl) σ H s):Inv X pins σ H s:=I.pins_of fun p hp=>I.pin p (List.mem_append_right _ (List.mem_append_left _ hp))
theorem Aj {iter:Expr} {body:List Stmt} {wi:TI} {g:TG} {tb:TS} {pos:Pos} (hp:PassesOwn (model X.prog X.w) X.A X.env X.xe) (hc:X.calm=true) (hi:PI X tg iter wi) (hg:PG X tg g) (hb:PSs X body tb)
  (hs:∀ x,foldedSetIterable iter X.env x=pure x:=by intro _; rfl):PS X (.For tg iter body [] pos) (tFor wi g tb):=by
 intro pins s σ H D I h
 refine wpAny_For (thn (hi pins s σ H _ I h) fun v s1 h1=>thn h1 fun itv s2 h2=>?_) hs
 obtain ⟨it,fp,tn,J,H2,e,I2,T,st2,f2,W,⟨m0,w0⟩,turn⟩:=h2
 subst e
 -- what stays true of the iterator's objects through the loop
 have stat:∀ {H':Hp},(∀ b∈fp,H' b=none)->∀ b∈fp,FpOk X pins H' b:=fun hn b hb=>⟨hn b hb,(f2 b hb).2⟩
 refine codeAny_forLoop_any (fun n s'=>∃ i σ' H',Inv X pins σ' H' s' /\ tn i s'.heap /\ (∀ b∈fp,H' b=none) /\ W i n σ' H') ?_ m0 ⟨0,σ,H2,I2,st2,fun b hb=>(f2 b hb).1,w0⟩
 rintro n s3 ⟨i,σ3,H3,I3,st3,fr3,w3⟩
 rcases turn i n σ3 H3 w3 with ⟨stop,qn⟩ | ⟨go,N,hN,step⟩
 ·refine wpAny_passesOwn hp (thn (T.done X rfl rfl rfl hc i pins s3 σ3 H3 X.xe I3 (stat fr3) st3 stop) fun r s4 ⟨hr,I4⟩=>?_)
  subst hr
  exact wpAny_execs_nil ⟨σ3,H3,I4,qn⟩
 ·refine wpAny_passesOwn hp (thn (T.item X rfl rfl rfl hc i pins s3 σ3 H3 X.xe I3 (stat fr3) st3 go) fun r s4 ⟨u,hr,h4⟩=>?_)
  subst hr
  refine wpAny_passesOwn hp (thn h4 fun _ s5 ⟨x,H5,I5,r5,y5,st5,fr5⟩=>?_)
  have I5':=I5.pinned (stat fr5) (T.obj _ _ st5)
  refine wpAny_passesOwn hp (thn (hg _ s5 σ3 H5 x u _ I5' r5 (step x H5 y5)) fun _ s6 ⟨σ6,H6,I6,q6⟩=>?_)
  refine wpAny_passesOwn hp (thn (hb _ s6 σ6 H6 _ I6 q6) fun f s7 q7=>?_)
  have again:∀ {σ7:St} {H7:Hp},Inv X (pins++nr fp s5.heap) σ7 H7 s7->N σ7 H7->∃ m,m < n /\ ∃ i σ' H',Inv X pins σ' H' s7 /\ tn i s7.heap /\ (∀ b∈fp,H' b=none) /\ W i m σ' H':=fun {σ7 H7} I7 n7=>by
   obtain ⟨m',hm,w7⟩:=hN σ7 H7 n7
   refine ⟨m',hm,i + 1,σ7,H7,I7.unpinned,T.keep _ _ _ st5 fun b hb o e=>(I7.pin (b,o) (List.mem_append_right _ (List.mem_append_right _ (fL hb e)))).1,fun b hb=>?_,w7⟩
   obtain ⟨o,e,d⟩:=T.obj _ _ st5 b hb
   exact (I7.pin (b,o) (List.mem_append_right _ (List.mem_append_right _ (fL hb e)))).2.1
  cases f with
  | next=>obtain ⟨σ7,H7,I7,n7⟩:=q7; exact again I7 n7
  | cont=>obtain ⟨σ7,H7,I7,n7⟩:=q7; exact again I7 n7
  | brk=>obtain ⟨σ7,H7,I7,q7⟩:=q7; exact ⟨σ7,H7,I7.unpinned,q7⟩
  | ret v=>obtain ⟨x7,σ7,H7,I7,r7,q7⟩:=q7; exact ⟨x7,σ7,H7,I7.unpinned,r7,q7⟩
end
end L2
namespace L2
open PySem PySem.Spec PyProof.Rows
abbrev R2:=V->V->Hp->VK->Prop
def OpR (X:Cx) (f:Value->Value->Sem Value) (r:R2):Prop :=
 ∀ (pins:List (Addr×Obj)) (s:Shared) (σ:St) (H:Hp) (x y:V) (v u:Value) (Q:VK),Inv X pins σ H s->RelV x v->RelV y u->r x y H Q ->
  wpAny (model X.prog X.w) X.A (f v u) (EP X pins σ Q) X.xe s
def UnR (X:Cx) (f:Value->Sem Value) (r:V->Hp->VK->Prop):Prop :=
 ∀ (pins:List (Addr×Obj)) (s:Shared) (σ:St) (H:Hp) (x:V) (v:Value) (Q:VK),Inv X pins σ H s->RelV x v->r x H Q ->
  wpAny (model X.prog X.w) X.A (f v) (EP X pins σ Q) X.xe s
def dU (X:Cx) (f:Value) (r:List V->Hp->VK->Prop):Prop :=
 ∀ (pins:List (Addr×Obj)) (s:Shared) (σ:St) (H:Hp) (xs:List V) (us:List Value) (Q:VK),Inv X pins σ H s->Vals xs us->r xs H Q ->
  wpAny (model X.prog X.w) X.A (call f us) (EP X pins σ Q) X.xe s
def tOp (r:R2) (ta tb:TE):TE:=fun σ H Q=>ta σ H fun x H1=>tb σ H1 fun y H2=>r x y H2 Q
def tUn (r:V->Hp->VK->Prop) (ta:TE):TE:=fun σ H Q=>ta σ H fun x H1=>r x H1 Q
def rI (C:Int->Int->Prop) (g:Int->Int->V):R2:=fun x y H Q=>∃ i j,x = .int i /\ y = .int j /\ C i j /\ Q (g i j) H
def rI0 (g:Int->Int->V):R2:=fun x y H Q=>∃ i j,x = .int i /\ y = .int j /\ Q (g i j) H
def rU (g:Int->V):V->Hp->VK->Prop:=fun x H Q=>∃ i,x = .int i /\ Q (g i) H
section
variable {X:Cx} {a b c:Expr} {ta tb tc:TE} {pos:Pos}
theorem binT (ha:PE X a ta) (hb:PE X b tb) {pins:List (Addr×Obj)} {s:Shared} {σ:St} {H:Hp} {R:V->V->Hp->Prop} (I:Inv X pins σ H s)
  (h:ta σ H fun x H1=>tb σ H1 fun y H2=>R x y H2) {Q:Value->Shared->Prop} {f:Value->Value->Sem Value}
  (hf:∀ v u s2 x y H2,Inv X pins σ H2 s2->RelV x v->RelV y u->R x y H2->wpAny (model X.prog X.w) X.A (f v u) Q X.xe s2) :
  wpAny (model X.prog X.w) X.A (eval a X.env) (fun v s₁=>wpAny (model X.prog X.w) X.A (eval b X.env) (fun u s₂=>wpAny (model X.prog X.w) X.A (f v u) Q X.xe s₂) X.xe s₁) X.xe s:=by
 refine thn (ha pins s σ H _ I h) fun v s1 ⟨x,H1,I1,r1,q1⟩=>?_
 refine thn (hb pins s1 σ H1 _ I1 q1) fun u s2 ⟨y,H2,I2,r2,q2⟩=>?_
 exact hf v u s2 x y H2 I2 r1 r2 q2
theorem cL {op:Operator} {r:R2} (ho:OpR X (binaryOp op) r) (ha:PE X a ta) (hb:PE X b tb):PE X (.BinOp a op b pos) (tOp r ta tb):=by
 intro pins s σ H Q I h
 exact wpAny_BinOp (binT ha hb I h fun v u s2 x y H2 I2 rx ry q=>ho pins s2 σ H2 x y v u Q I2 rx ry q)
theorem Cm {op:UnaryOp} {r:V->Hp->VK->Prop} (ho:UnR X (unaryOp op) r) (ha:PE X a ta):PE X (.UnaryOp op a pos) (tUn r ta):=by
 intro pins s σ H Q I h
 exact UnaryOp_ (thn (ha pins s σ H _ I h) fun v s1 ⟨x,H1,I1,r1,q1⟩=>ho pins s1 σ H1 x v Q I1 r1 q1)
theorem opI {f:Value->Value->Sem Value} {C:Int->Int->Prop} {g:Int->Int->Int}
  (rule:∀ (i j:Int) (t u:Tok) (s:Shared) (Q:Value->Shared->Prop) (E:Value->Shared->Prop),C i j->Q (.int (g i j) s.toks) { s with toks:=s.toks + 1 }->wpAny (model X.prog X.w) X.A (f (.int i t) (.int j u)) Q E s) :
  OpR X f (rI C fun i j=>.int (g i j)):=by
 intro pins s σ H x y v u Q I rx ry h
 obtain ⟨i,j,rfl,rfl,hc,q⟩:=h
 obtain ⟨t,rfl⟩:=rx
 obtain ⟨t',rfl⟩:=ry
 exact rule i j t t' s _ _ hc ⟨.int (g i j),H,I.tok _,⟨_,rfl⟩,q⟩
theorem opI0 {f:Value->Value->Sem Value} {g:Int->Int->Int}
  (rule:∀ (i j:Int) (t u:Tok) (s:Shared) (Q:Value->Shared->Prop) (E:Value->Shared->Prop),Q (.int (g i j) s.toks) { s with toks:=s.toks + 1 }->wpAny (model X.prog X.w) X.A (f (.int i t) (.int j u)) Q E s) :
  OpR X f (rI0 fun i j=>.int (g i j)):=by
 intro pins s σ H x y v u Q I rx ry h
 obtain ⟨i,j,rfl,rfl,q⟩:=h
 obtain ⟨t,rfl⟩:=rx
 obtain ⟨t',rfl⟩:=ry
 exact rule i j t t' s _ _ ⟨.int (g i j),H,I.tok _,⟨_,rfl⟩,q⟩
theorem opB0 {f:Value->Value->Sem Value} {g:Int->Int->Bool}
  (rule:∀ (i j:Int) (t u:Tok) (s:Shared) (Q:Value->Shared->Prop) (E:Value->Shared->Prop),Q (.bool (g i j)) s->wpAny (model X.prog X.w) X.A (f (.int i t) (.int j u)) Q E s) :
  OpR X f (rI0 fun i j=>.bl (g i j)):=by
 intro pins s σ H x y v u Q I rx ry h
 obtain ⟨i,j,rfl,rfl,q⟩:=h
 obtain ⟨t,rfl⟩:=rx
 obtain ⟨t',rfl⟩:=ry
 exact rule i j t t' s _ _ ⟨.bl (g i j),H,I,rfl,q⟩
def CPow (i j:Int):Prop:=0 <= j /\ j <= 1000000 /\ i.natAbs < 2 ^ 64
theorem jG:OpR X (binaryOp .Add) (rI0 fun i j=>.int (i + j)):=opI0 fun _ _ _ _ _ _ _ q=>add_int q
theorem Ak:OpR X (binaryOp .Sub) (rI0 fun i j=>.int (i - j)):=opI0 fun _ _ _ _ _ _ _ q=>sub_int q
theorem iX:OpR X (binaryOp .Mod) (rI (fun _ j=>0 < j) fun i j=>.int (i % j)):=opI fun i j _ _ _ _ _ hc q=>by
 have h1:(0:Int) < j:=hc
 exact mod_int' (by omega) (by rw [Int.fmod_eq_emod_of_nonneg i (by omega)]; exact q)
theorem xD:OpR X (binaryOp .Pow) (rI CPow fun i j=>.int (i ^ j.toNat)):=opI fun _ _ _ _ _ _ _ hc q=>pow_int_small hc.1 hc.2.1 hc.2.2 q
theorem unI {f:Value->Sem Value} {g:Int->Int}
  (rule:∀ (i:Int) (t:Tok) (s:Shared) (Q:Value->Shared->Prop) (E:Value->Shared->Prop),Q (.int (g i) s.toks) { s with toks:=s.toks + 1 }->wpAny (model X.prog X.w) X.A (f (.int i t)) Q E s) :
  UnR X f (rU fun i=>.int (g i)):=by
 intro pins s σ H x v Q I rx h
 obtain ⟨i,rfl,q⟩:=h
 obtain ⟨t,rfl⟩:=rx
 exact rule i t s _ _ ⟨.int (g i),H,I.tok _,⟨_,rfl⟩,q⟩
theorem Al:UnR X (unaryOp .USub) (rU fun i=>.int (-i)):=unI fun _ _ _ _ _ q=>neg_int q
end
def scal:V->V->Bool
 | .non,.non=>true | .non,.int _=>true | .int _,.non=>true | .non,.bl _=>true | .bl _,.non=>true | .non,.str _=>true | .str _,.non=>true
 | .int _,.int _=>true | .bl _,.bl _=>true | .str _,.str _=>true | .byt _,.byt _=>true
 | .int _,.str _=>true | .str _,.int _=>true | .bl _,.str _=>true | .str _,.bl _=>true
 | _,_=>false
def rEq:R2:=fun x y H Q=>scal x y=true /\ Q (.bl (decide (x=y))) H
theorem yr {i j:Int}:decide (V.int i=V.int j)=(i == j):=by
 rw [Bool.eq_iff_iff]
 simp
theorem Am {i j:Bool}:decide (V.bl i=V.bl j)=(i == j):=by
 rw [Bool.eq_iff_iff]
 simp
theorem yt {i j:Str}:decide (V.str i=V.str j)=(i == j):=by
 rw [Bool.eq_iff_iff]
 simp
theorem yu {i j:Array UInt8}:decide (V.byt i=V.byt j)=(i.toList == j.toList):=by
 rw [Bool.eq_iff_iff]
 cases i
 cases j
 simp
section
variable {X:Cx} {a b c:Expr} {ta tb tc:TE} {pos:Pos}
theorem bT {pins:List (Addr×Obj)} {σ:St} {H:Hp} {s:Shared} {Q:VK} {k k':Bool} (I:Inv X pins σ H s) (q:Q (.bl k) H) (e:k=k'):EP X pins σ Q (.bool k') s:=by
 subst e
 exact ⟨.bl k,H,I,rfl,q⟩
theorem Cn:OpR X (compareOp .Eq) rEq:=by
 intro pins s σ H x y v u Q I rx ry h
 obtain ⟨hs,q⟩:=h
 cases x with
 | non =>
  cases rx
  cases y with
  | non=>cases ry; exact PySem.EqNone.eq_none_none (bT I q (by simp))
  | bl j=>cases ry; exact PySem.EqNone.eq_none_bool (bT I q (by simp))
  | int j=>obtain ⟨t',rfl⟩:=ry; exact PySem.EqNone.eq_none_int (bT I q (by simp))
  | str j=>obtain ⟨t',rfl⟩:=ry; exact PySem.EqNone.eq_none_str (bT I q (by simp))
  | _=>exact absurd (show false=true from hs) Bool.false_ne_true
 | bl i =>
  cases rx
  cases y with
  | non=>cases ry; exact PySem.EqNone.eq_bool_none (bT I q (by simp))
  | bl j=>cases ry; exact eq_bool (bT I q Am)
  | str j=>obtain ⟨t',rfl⟩:=ry; exact PySem.EqMixed.eq_bool_str (bT I q (by simp))
  | _=>exact absurd (show false=true from hs) Bool.false_ne_true
 | int i =>
  obtain ⟨t,rfl⟩:=rx
  cases y with
  | non=>cases ry; exact PySem.EqNone.eq_int_none (bT I q (by simp))
  | int j=>obtain ⟨t',rfl⟩:=ry; exact eq_int (bT I q yr)
  | str j=>obtain ⟨t',rfl⟩:=ry; exact PySem.EqMixed.eq_int_str (bT I q (by simp))
  | _=>exact absurd (show false=true from hs) Bool.false_ne_true
 | str i =>
  obtain ⟨t,rfl⟩:=rx
  cases y with
  | non=>cases ry; exact PySem.EqNone.eq_str_none (bT I q (by simp))
  | bl j=>cases ry; exact PySem.EqMixed.eq_str_bool (bT I q (by simp))
  | int j=>obtain ⟨t',rfl⟩:=ry; exact PySem.EqMixed.eq_str_int (bT I q (by simp))
  | str j=>obtain ⟨t',rfl⟩:=ry; exact eq_str (bT I q yt)
  | _=>exact absurd (show false=true from hs) Bool.false_ne_true
 | byt i =>
  obtain ⟨t,rfl⟩:=rx
  cases y with
  | byt j=>obtain ⟨t',rfl⟩:=ry; exact PySem.W.eq_bytes (bT I q yu)
  | _=>exact absurd (show false=true from hs) Bool.false_ne_true
 | _=>cases y <;> exact absurd (show false=true from hs) Bool.false_ne_true
theorem An:OpR X (compareOp .Lt) (rI0 fun i j=>.bl (decide (i < j))):=opB0 fun _ _ _ _ _ _ _ q=>lt_int q
theorem Co:OpR X (compareOp .LtE) (rI0 fun i j=>.bl (decide (i <= j))):=opB0 fun _ _ _ _ _ _ _ q=>le_int q
theorem Ao:OpR X (compareOp .Gt) (rI0 fun i j=>.bl (decide (j < i))):=opB0 fun _ _ _ _ _ _ _ q=>gt_int q
theorem Ap:OpR X (compareOp .GtE) (rI0 fun i j=>.bl (decide (j <= i))):=opB0 fun _ _ _ _ _ _ _ q=>ge_int q
theorem Aq:OpR X (compareOp .Is) (fun x y H Q=>y = .non /\ Q (.bl (decide (x = .non))) H):=by
 intro pins s σ H x y v u Q I rx ry h
 obtain ⟨rfl,q⟩:=h
 cases ry
 refine is_none_gen (bT I q ?_)
 cases x <;> first
  | (cases rx; rfl)
  | (obtain ⟨t,rfl⟩:=rx; rfl)
theorem yw:OpR X (compareOp .IsNot) (fun x y H Q=>y = .non /\ Q (.bl (!decide (x = .non))) H):=by
 intro pins s σ H x y v u Q I rx ry h
 obtain ⟨rfl,q⟩:=h
 cases ry
 refine isnot_none_gen (bT I q ?_)
 cases x <;> first
  | (cases rx; rfl)
  | (obtain ⟨t,rfl⟩:=rx; rfl)
theorem aJ (b:Expr) {op:CmpOp} (h:op ≠ .In:=by decide) (h2:op ≠ .NotIn:=by decide):behindInMarks op b=false:=by
 have e1:(op == CmpOp.In)=false:=by cases op <;> first | rfl | exact absurd rfl h
 have e2:(op == CmpOp.NotIn)=false:=by cases op <;> first | rfl | exact absurd rfl h2
 cases b <;> simp [behindInMarks,e1,e2]
theorem yx {op:CmpOp} {r:R2} (ho:OpR X (compareOp op) r) (ha:PE X a ta) (hb:PE X b tb) (hm:behindInMarks op b=false):PE X (.Compare a [op] [b] pos) (tOp r ta tb):=by
 intro pins s σ H Q I h
 exact wpAny_Compare1 (binT ha hb I h fun v u s2 x y H2 I2 rx ry q=>ho pins s2 σ H2 x y v u Q I2 rx ry q) hm
def Ar (t:TE):TT:=fun σ H Q=>t σ H fun x H'=>∃ k,x = .bl k /\ Q k H'
theorem jH {op:CmpOp} {r:R2} (ho:OpR X (compareOp op) r) (ha:PE X a ta) (hb:PE X b tb) (hm:behindInMarks op b=false):PT X (.Compare a [op] [b] pos) (Ar (tOp r ta tb)):=by
 intro pins s σ H Q I h
 refine wpAny_isTrue_Compare1 (thn (ha pins s σ H _ I h) fun v s1 ⟨x,H1,I1,r1,q1⟩=>thn (hb pins s1 σ H1 _ I1 q1) fun u s2 ⟨y,H2,I2,r2,q2⟩ =>
  thn (ho pins s2 σ H2 x y v u _ I2 r1 r2 q2) fun c s3 ⟨z,H3,I3,r3,k,e,q3⟩=>?_) hm
 subst e
 cases r3
 exact wpAny_truthy_bool ⟨H3,I3,q3⟩
def tq (r r':R2) (ta tb tc:TE):TE:=fun σ H Q=>ta σ H fun x H1=>tb σ H1 fun y H2=>r x y H2 fun z H3=>∃ k,z = .bl k /\
 (if k=true then tc σ H3 fun w' H4=>r' y w' H4 Q else Q (.bl false) H3)
theorem vW {op op':CmpOp} {r r':R2} (ho:OpR X (compareOp op) r) (ho':OpR X (compareOp op') r') (ha:PE X a ta) (hb:PE X b tb) (hc:PE X c tc)
  (hm:lastMarks [op,op'] [b,c]=false:=by with_unfolding_all rfl):PE X (.Compare a [op,op'] [b,c] pos) (tq r r' ta tb tc):=by
 intro pins s σ H Q I h
 refine Compare_chain (thn (ha pins s σ H _ I h) fun v s1 ⟨x,H1,I1,r1,q1⟩=>chain_link (thn (hb pins s1 σ H1 _ I1 q1) fun u s2 ⟨y,H2,I2,r2,q2⟩ =>
  thn (ho pins s2 σ H2 x y v u _ I2 r1 r2 q2) fun d s3 ⟨z,H3,I3,r3,k,e,q3⟩=>?_)) hm
 subst e
 cases r3
 refine wpAny_truthy_bool ?_
 cases k with
 | false=>exact ite_ff ⟨.bl false,H3,I3,rfl,q3⟩
 | true=>exact ite_tt (chain_last (thn (hc pins s3 σ H3 _ I3 q3) fun w' s4 ⟨z',H4,I4,r4,q4⟩=>ho' pins s4 σ H4 y z' u w' Q I4 r2 r4 q4))
theorem vX {op op':CmpOp} {r r':R2} (ho:OpR X (compareOp op) r) (ho':OpR X (compareOp op') r') (ha:PE X a ta) (hb:PE X b tb) (hc:PE X c tc)
  (hm:lastMarks [op,op'] [b,c]=false:=by with_unfolding_all rfl):PT X (.Compare a [op,op'] [b,c] pos) (Ar (tq r r' ta tb tc)):=by
 intro pins s σ H Q I h
 refine isTrue_chain (thn (ha pins s σ H _ I h) fun v s1 ⟨x,H1,I1,r1,q1⟩=>test_link (thn (hb pins s1 σ H1 _ I1 q1) fun u s2 ⟨y,H2,I2,r2,q2⟩ =>
  thn (ho pins s2 σ H2 x y v u _ I2 r1 r2 q2) fun d s3 ⟨z,H3,I3,r3,k,e,q3⟩=>?_)) hm
 subst e
 cases r3
 refine wpAny_truthy_bool ?_
 cases k with
 | false =>
  obtain ⟨k',e',q'⟩:=q3
  cases e'
  exact ite_ff ⟨H3,I3,q'⟩
 | true =>
  refine ite_tt (test_last (thn (hc pins s3 σ H3 _ I3 q3) fun w' s4 ⟨z',H4,I4,r4,q4⟩=>thn (ho' pins s4 σ H4 y z' u w' _ I4 r2 r4 q4) fun d' s5 ⟨z2,H5,I5,r5,k2,e2,q5⟩=>?_))
  subst e2
  cases r5
  exact wpAny_truthy_bool ⟨H5,I5,q5⟩
theorem qA:(sizeLine:Nat) < 2 ^ 63:=by rw [sizeLine_eq]; decide
theorem jI {x:V} {us:List Value} (r:Vals [x] us):∃ u,us=[u] /\ RelV x u:=by
 cases r with
 | cons r1 r2=>cases r2; exact ⟨_,rfl,r1⟩
theorem At {x y:V} {us:List Value} (r:Vals [x,y] us):∃ u w',us=[u,w'] /\ RelV x u /\ RelV y w':=by
 cases r with
 | cons r1 r2 =>
  cases r2 with
  | cons r3 r4=>cases r4; exact ⟨_,_,rfl,r1,r3⟩
theorem tt (hc:X.calm=true):dU X (.builtin "min") (fun xs H Q=>∃ i j,xs=[.int i,.int j] /\ Q (.int (if j < i then j else i)) H):=by
 intro pins s σ H xs us Q I r h
 obtain ⟨i,j,rfl,q⟩:=h
 obtain ⟨u,w',rfl,⟨t,rfl⟩,⟨t',rfl⟩⟩:=At r
 refine min_two_ints (I.ok.hd hc) fun h' tk k=>⟨_,H,I.kept k,?_,q⟩
 by_cases hj:j < i
 ·rw [if_pos hj,if_pos hj]; exact ⟨_,rfl⟩
 ·rw [if_neg hj,if_neg hj]; exact ⟨_,rfl⟩
theorem tw:dU X (.type "int") (fun xs H Q=>(∃ i,xs=[.int i] /\ Q (.int i) H)∨∃ k,xs=[.bl k] /\ Q (.int (if k then 1 else 0)) H):=by
 intro pins s σ H xs us Q I r h
 rcases h with ⟨i,rfl,q⟩ | ⟨k,rfl,q⟩
 ·obtain ⟨u,rfl,t,rfl⟩:=jI r
  exact call_int_int ⟨.int i,H,I,⟨_,rfl⟩,q⟩
 ·obtain ⟨u,rfl,r1⟩:=jI r
  cases r1
  exact call_int_bool ⟨.int (if k then 1 else 0),H,I.tok _,⟨_,rfl⟩,q⟩
end
end L2
namespace L2
open PySem PySem.Spec PyProof.Rows
structure ObjM (h:Heap) (x dx C:Addr) (mA:Str->Option Value):Prop where
 obj:h.get? x=some (PySem.W.instObj C dx)
 ns:h.Ns1 dx mA
 ne:dx≠x
theorem tD {h:Heap} {dx:Addr} {mA:Str->Option Value} (n:h.Ns1 dx mA):∃ od,h.get? dx=some od /\ ∀ name,PySem.W.lookIn name od=some (mA name):=by
 obtain ⟨o,es,ep,ho,hd,hk,_,hm⟩:=n
 refine ⟨o,ho,fun name=>?_⟩
 have e:=hm name
 unfold nsFind findBy at e
 rw [← Array.find?_toList] at e
 unfold PySem.W.lookIn
 rw [hd]
 dsimp only
 split
 ·rename_i y q
  rw [q] at e
  exact congrArg some e
 ·rename_i q
  rw [q] at e
  have a:es.toList.any (·.refKey)=false:=by
   rw [List.any_eq_false]
   intro y hy
   obtain ⟨z,t,hkey⟩:=hk y (Array.mem_toList_iff.mp hy)
   simp [DictEntry.refKey,hkey]
  have a':¬ es.toList.any (·.refKey)=true:=by rw [a]; exact Bool.false_ne_true
  rw [if_neg a']
  exact congrArg some e
theorem ObjM.look {h:Heap} {x dx C:Addr} {mA:Str->Option Value} (I:ObjM h x dx C mA):∃ od,PySem.W.InstAt h x (PySem.W.instObj C dx) C (some od) /\ ∀ name,PySem.W.lookIn name od=some (mA name) :=
 let ⟨od,ho,hl⟩:=tD I.ns
 ⟨od,⟨I.obj,rfl,rfl,ho⟩,hl⟩
section
variable {prog:Program} {w:World} {A:Around} {E:Value->Shared->Prop} {s:Shared} {K:PySem.W.Frag} {x dx C f:Addr} {mA:Str->Option Value} {name:Str} {v:Value}
end
theorem RelO.some_of {v:V} {o:Option Value} (r:RelO (some v) o):∃ u,o=some u /\ RelV v u:=by
 cases o with
 | none=>exact (show False from r).elim
 | some u=>exact ⟨u,rfl,r⟩
section
variable {P:Program} {w:World} {H H':Hp} {h h':Heap} {a C dx:Addr} {fs fs':List (Str×V)}
theorem yy (hok:HOk P w H h) (e:H a=some (.ins C dx fs)):∃ mA,ObjM h a dx C mA /\ (∀ f,RelO (fs.lookup f) (mA f)) /\ PySem.Within mA (fs.map (·.1)) /\ fs.length <= 1000 /\ H dx=some (.own a):=by
 obtain ⟨d,z,ne,ob,mA,n,r,q⟩:=(show ObjOk P w H h a (.ins C dx fs) from hok a _ e)
 exact ⟨mA,⟨ob,n,ne⟩,r,q,z,d⟩
end
structure Cls (K:PySem.W.Frag) (C:Addr):Prop where
 pg:PySem.W.plainGet K C Str.empty=true
 hd:PySem.W.hasDictIn K C=true
 po:PySem.W.plainOver K C=true
 sa:PySem.W.findIn K (.ref C) "__setattr__" = some (some (.builtin "object.__setattr__"))
theorem Cls.get {K:PySem.W.Frag} {C:Addr} (c:Cls K C) (f:Str):PySem.W.plainGet K C f=true:=c.pg
section
variable {X:Cx} {pins:List (Addr×Obj)} {σ:St} {H:Hp} {s:Shared} {a C dx:Addr} {fs:List (Str×V)} {f:Str} {v:V} {A:Around} {E:Value->Shared->Prop}
end
section
variable {X:Cx} {o e value:Expr} {f:Str} {pos pos' tpos:Pos} {ta tv:TE}
end
section
variable {X:Cx} {pins:List (Addr×Obj)} {σ:St} {H:Hp} {s:Shared} {A:Around} {E:Value->Shared->Prop} {Q:Value->Shared->Prop} {c:Value} {b:Bool}
inductive TyOf (K:PySem.W.Frag) (H:Hp):V->Value->Prop where
 | non:TyOf K H .non (.type "NoneType")
 | bl (x:Bool):TyOf K H (.bl x) (.type "bool")
 | int (i:Int):TyOf K H (.int i) (.type "int")
 | str (x:Str):TyOf K H (.str x) (.type "str")
 | flt (x:UInt64):TyOf K H (.flt x) (.type "float")
 | lst {a:Addr} {xs:List V} (e:H a=some (.lst xs)):TyOf K H (.ref a) (.type "list")
 | frz {a:Addr} {o:Obj} {xs:List V} (e:H a=some (.frz o (.lst xs))):TyOf K H (.ref a) (.type "list")
 | tup {a:Addr} {xs:List V} (e:H a=some (.tup xs)):TyOf K H (.ref a) (.type "tuple")
 | dK {a:Addr} {kvs:List (Key×V)} (e:H a=some (.dK kvs)):TyOf K H (.ref a) (.type "dict")
 | dT {a:Addr} {kvs:List (List Key×V)} (e:H a=some (.dT kvs)):TyOf K H (.ref a) (.type "dict")
 | ins {a C dx:Addr} {fs:List (Str×V)} (e:H a=some (.ins C dx fs)) (cl:Cls K C) (ha:PySem.W.findIn K (.ref C) "__class__" = some (some (.builtin "object.__class__")))
   (hn:PySem.W.specialIn K (.builtin "object.__class__") "__get__" = some (some (.builtin "getset_descriptor.__get__"))) (htk:PySem.W.takesIn K (.builtin "object.__class__")=some true)
   (hm:PySem.W.mroIn K C (.type "object")=some true):TyOf K H (.ref a) (.ref C)
theorem tE {x:V} {u t:Value} (I:Inv X pins σ H s) (rx:RelV x u) (ty:TyOf X.K H x t) (e:PySem.W.kitOne X.K t c=some b) (h:∀ tk,Q (.bool b) { s with toks:=tk }) :
  wpAny (model X.prog X.w) A (call (.builtin "isinstance") [u,c]) Q E s:=by
 cases ty with
 | non=>cases (show u=Value.none from rx); exact PySem.W.kia_one PySem.W.kitx_none I.kIn True.intro e (fun z=>nomatch z) h
 | bl y=>cases (show u=Value.bool y from rx); exact PySem.W.kia_one PySem.W.kitx_bool I.kIn True.intro e (fun z=>nomatch z) h
 | int i=>obtain ⟨t,q⟩:=(show ∃ t,u=Value.int i t from rx); cases q; exact PySem.W.kia_one PySem.W.kitx_int I.kIn True.intro e (fun z=>nomatch z) h
 | str y=>obtain ⟨t,q⟩:=(show ∃ t,u=Value.str y t from rx); cases q; exact PySem.W.kia_one PySem.W.kitx_str I.kIn True.intro e (fun z=>nomatch z) h
 | flt y=>obtain ⟨t,q⟩:=(show ∃ t,u=Value.float y t from rx); cases q; exact PySem.W.kia_one PySem.W.kitx_float I.kIn True.intro e (fun z=>nomatch z) h
 | @lst a xs ea =>
  cases (show u=Value.ref a from rx)
  obtain ⟨_,_,n,_,h1⟩:=(show ObjOk X.prog X.w H s.heap a (.lst xs) from I.hok a _ ea)
  exact PySem.W.kia_one PySem.W.kitx_list I.kIn ⟨_,h1,rfl⟩ e (fun z=>nomatch z) h
 | @frz a ob xs ea =>
  cases (show u=Value.ref a from rx)
  obtain ⟨_,_,_,n,_,h1⟩:=(show ObjOk X.prog X.w H s.heap a (.frz ob (.lst xs)) from I.hok a _ ea)
  exact PySem.W.kia_one PySem.W.kitx_list I.kIn ⟨_,h1,rfl⟩ e (fun z=>nomatch z) h
 | @tup a xs ea =>
  cases (show u=Value.ref a from rx)
  obtain ⟨_,_,_,p⟩:=(show ObjOk X.prog X.w H s.heap a (.tup xs) from I.hok a _ ea)
  obtain ⟨o,h1,h2,_⟩:=p
  exact PySem.W.kia_one PySem.W.kitx_tuple I.kIn ⟨o,h1,h2⟩ e (fun z=>nomatch z) h
 | @dK a kvs ea =>
  cases (show u=Value.ref a from rx)
  obtain ⟨_,_,vs,_,p⟩:=(show ObjOk X.prog X.w H s.heap a (.dK kvs) from I.hok a _ ea)
  obtain ⟨o,es,ep,h1,h2,_⟩:=p
  exact PySem.W.kia_one PySem.W.kitx_dict I.kIn ⟨o,h1,h2.1⟩ e (fun z=>nomatch z) h
 | @dT a kvs ea =>
  cases (show u=Value.ref a from rx)
  obtain ⟨_,_,xs,_,o,es,ep,h1,h2,_⟩:=(show ObjOk X.prog X.w H s.heap a (.dT kvs) from I.hok a _ ea)
  exact PySem.W.kia_one PySem.W.kitx_dict I.kIn ⟨o,h1,h2.1⟩ e (fun z=>nomatch z) h
 | @ins a C dx fs ea cl ha hn htk hm =>
  cases (show u=Value.ref a from rx)
  obtain ⟨mA,O,_⟩:=yy I.hok ea
  obtain ⟨od,J,_⟩:=O.look
  exact PySem.W.kia_one (PySem.W.kitx_own (cl.get _) cl.hd ha hn htk hm) I.kIn J e (fun z=>nomatch z) h
end
end L2
namespace L2
open PySem PySem.Spec PyProof.Rows
structure Room (k:Nat) (A:Around):Prop where
 hd:A.handled=none
 dp:A.depth + 3 * k + 5 < recursionLimit
 un:A.units + 16 * k + 200 < cLine
theorem Room.mono {j k:Nat} {A:Around} (r:Room k A) (h:j <= k):Room j A:=⟨r.hd,by have:=r.dp; omega,by have:=r.un; omega⟩
theorem Room.deeper {k:Nat} {A:Around} (r:Room (k + 1) A) (env:Env):Room k (A.deeper env) :=
 ⟨r.hd,by have:=r.dp; show A.depth + 1 + 3 * k + 5 < _; omega,by have:=r.un; show A.units + 3 + 16 * k + 200 < _; omega⟩
theorem Room.depth {k:Nat} {A:Around} (r:Room k A):A.depth < recursionLimit:=by have:=r.dp; omega
theorem Room.units {k:Nat} {A:Around} (r:Room k A):A.units + 64 < cLine:=by have:=r.un; omega
def tNil:TA:=fun _ H Q=>Q [] H
def yz (ta:TE) (tr:TA):TA:=fun σ H Q=>ta σ H fun x H1=>tr σ H1 fun xs H2=>Q (x::xs) H2
section
variable {X:Cx} {e:Expr} {es:List Expr} {te:TE} {t:TA} {pos:Pos}
theorem dW:PA X [] tNil:=fun _ _ _ _ H Q I h=>Calls.spliced_nil ⟨[],H,I,.nil,h⟩
theorem bL (ha:PE X e te) (hr:PA X es t) (hs:starEach (e::es) X.env=(false,eval e X.env)::starEach es X.env:=by rfl):PA X (e::es) (yz te t):=by
 intro pos pins s σ H Q I h
 rw [hs]
 show wpAny _ _ (spliced ((false,eval e X.env)::backTo pos (starEach es X.env))) _ _ s
 refine Calls.spliced_cons (thn (ha pins s σ H _ I h) fun u s1 ⟨x,H1,I1,r1,q1⟩=>?_)
 exact thn (hr pos pins s1 σ H1 _ I1 q1) fun us s2 ⟨xs,H2,I2,r2,q2⟩=>⟨x::xs,H2,I2,.cons r1 r2,q2⟩
def tTup (t:TA):TE:=fun σ H Q=>t σ H fun xs H1=>xs.length <= sizeLine /\ ∀ p,H1 p=none->Q (.ref p) (upd H1 p (.tup xs))
def tLst (t:TA):TE:=fun σ H Q=>t σ H fun xs H1=>xs.length <= sizeLine /\ ∀ p,H1 p=none->Q (.ref p) (upd H1 p (.lst xs))
theorem Au {x1} (h:PA X es t):PE X (.Tuple es x1 pos) (tTup t):=by
 intro pins s σ H Q I hq
 refine wpAny_Tuple_spliced (thn (h pos pins s σ H _ I hq) fun us s1 ⟨xs,H1,I1,r,z,q⟩=>⟨by rw [← r.length]; exact z,?_⟩)
 have hf:H1 s1.heap.objs.size=none:=I1.hok.fresh (Nat.le_refl _)
 refine ⟨.ref s1.heap.objs.size,upd H1 s1.heap.objs.size (.tup xs),I1.laid (t':=s1.toks) (fun b u e=>Heap.get?_push_of_some _ e) (Nat.le_refl _) ?_,rfl,q _ hf⟩
 exact ⟨z,us,r,⟨_,Heap.get?_push_size _ rfl,rfl,_,rfl⟩⟩
theorem tF (h:PA X es t):PE X (.List es pos) (tLst t):=by
 intro pins s σ H Q I hq
 refine wpAny_List_spliced (thn (h pos pins s σ H _ I hq) fun us s1 ⟨xs,H1,I1,r,z,q⟩=>⟨by rw [← r.length]; exact z,?_⟩)
 have hf:H1 s1.heap.objs.size=none:=I1.hok.fresh (Nat.le_refl _)
 refine ⟨.ref s1.heap.objs.size,upd H1 s1.heap.objs.size (.lst xs),I1.laid (t':=s1.toks) (fun b u e=>Heap.get?_push_of_some _ e) (Nat.le_refl _) ?_,rfl,q _ hf⟩
 exact ⟨z,us,0,r,Heap.get?_push_size _ rfl⟩
end
abbrev Sp:=List V->Hp->VK->XK->Prop
abbrev CXT:=List Env->Hp->Shared->XK->Value->Shared->Prop
structure Env0 (P:Program) (w:World) (K:PySem.W.Frag) (mg:Str->Option Value) (base:Heap) (A:Around) (outer:List Env) (s:Shared) (H:Hp):Prop where
 frames:A.frames=some outer
 mod:Mod K mg base
 bs:∀ b o,base.get? b=some o->s.heap.get? b=some o /\ H b=none
 bsz:base.objs.size <= s.heap.objs.size
 funs:s.heap.FunFrames base outer
 frf:∀ b∈frs outer,H b=none
 hok:HOk P w H s.heap
 bare:AllBare s.gens
def CE (outer:List Env) (P:Program) (w:World) (H:Hp) (s:Shared) (Q:VK) (u:Value) (s':Shared):Prop :=
 ∃ v H',s'.os=s.os /\ AllBare s'.gens /\ Un (frs outer) [] H H' s.heap s'.heap /\ HOk P w H' s'.heap /\ RelV v u /\ Q v H'
def CR (CX:CXT) (outer:List Env) (P:Program) (w:World) (H:Hp) (s:Shared) (Q:VK) (E:XK) (r:Result) (s':Shared):Prop :=
 match r with
 | .ok (.ret u)=>CE outer P w H s Q u s'
 | .ok _=>False
 | .error e=>CX outer H s E e s'
structure FnOk (P:Program) (w:World) (K:PySem.W.Frag) (mg:Str->Option Value) (base:Heap) (CX:CXT) (k:Nat) (f:Addr) (fd:FuncData) (ps:List Str) (sp:Sp):Prop where
 len:∀ vs H Q E,sp vs H Q E->vs.length=ps.length
 run:∀ (A:Around) (outer:List Env) (s:Shared) (H:Hp) (args:Args) (us:List Value) (vs:List V) (Q:VK) (E:XK),Room k A->Env0 P w K mg base A outer s H->BindsTo s fd args (ps.zip us)->Vals vs us->sp vs H Q E ->
  codeAny (model P w) A (.call (.ref f) args) (CR CX outer P w H s Q E) s
theorem FnOk.imp {P:Program} {w:World} {K:PySem.W.Frag} {mg:Str->Option Value} {base:Heap} {CX:CXT} {k:Nat} {f:Addr} {fd:FuncData} {ps:List Str} {sp sp':Sp} (F:FnOk P w K mg base CX k f fd ps sp)
  (h:∀ vs H Q E,sp' vs H Q E->sp vs H Q E):FnOk P w K mg base CX k f fd ps sp' :=
 ⟨fun vs H Q E q=>F.len vs H Q E (h _ _ _ _ q),fun A outer s H args us vs Q E hr he hb hv hs=>F.run A outer s H args us vs Q E hr he hb hv (h _ _ _ _ hs)⟩
section
variable {X:Cx} {pins:List (Addr×Obj)} {σ:St} {H:Hp} {s s':Shared}
theorem Inv.env0 (I:Inv X pins σ H s):Env0 X.prog X.w X.K X.mg X.base X.A X.stack s H :=
 ⟨I.ok.frames,I.ok.mod,I.bs,Nat.le_trans I.ok.bsz I.sz,I.stack,I.stkFree,I.hok,I.bare⟩
theorem Inv.after {Q:VK} {u:Value} (I:Inv X pins σ H s) (h:CE X.stack X.prog X.w H s Q u s'):EP X pins σ Q u s':=by
 obtain ⟨v,H',os,bare,un,hok,r,q⟩:=h
 obtain ⟨hh,g,d,t,os'⟩:=s'
 obtain rfl:os'=s.os:=os
 exact ⟨v,H',I.call (h':=hh) (g':=g) (d':=d) (t':=t) (ch:=[]) un hok bare (fun b z=>absurd z (by simp)),r,q⟩
end
def Av (sp:Sp) (dvs:List V) (E:XK) (t:TA):TE:=fun σ H Q=>t σ H fun vs H1=>sp (vs++dvs) H1 Q E
def Binds (K:PySem.W.Frag) (fd:FuncData) (ps:List Str) (ds:List Value):Prop :=
 ∀ (s:Shared) (us:List Value),K.In s.heap->(us++ds).length=ps.length->BindsTo s fd ⟨us,[]⟩ (ps.zip (us++ds))
theorem Binds.all {K:PySem.W.Frag} {fd:FuncData} {ps:List Str} (h:∀ us:List Value,us.length=ps.length->bindArgs fd ⟨us,[]⟩=pure (ps.zip us)):Binds K fd ps []:=fun s us _ hl=>by
 rw [List.append_nil] at hl ⊢
 exact .of_eq (h us hl)
def tG (CX:CXT) (X:Cx) (E:XK):Prop:=∀ (pins:List (Addr×Obj)) (σ:St) (H:Hp) (s:Shared) (e:Value) (s':Shared),Inv X pins σ H s->CX X.stack H s E e s'->X.xe e s'
section
variable {X:Cx} {CX:CXT} {k:Nat} {f C:Addr} {fd:FuncData} {ps:List Str} {sp:Sp} {dvs:List V} {ds:List Value} {E:XK} {x m:Str} {p pos apos:Pos} {e o:Expr} {es:List Expr} {ta:TE} {t:TA}
theorem Aw {pins:List (Addr×Obj)} {σ:St} {H:Hp} {s:Shared} {Q:VK} {us:List Value} {vs:List V} (F:FnOk X.prog X.w X.K X.mg X.base CX k f fd ps sp) (hr:Room k X.A) (hb:Binds X.K fd ps ds) (hd:Vals dvs ds) (hx:tG CX X E)
  (I:Inv X pins σ H s) (r:Vals vs us) (h:sp (vs++dvs) H Q E):wpAny (model X.prog X.w) X.A (call (.ref f) us) (EP X pins σ Q) X.xe s:=by
 have r2:Vals (vs++dvs) (us++ds):=r.append hd
 have hl:(us++ds).length=ps.length:=by rw [← r2.length]; exact F.len _ _ _ _ h
 refine wpAny_call (codeAny_mono (F.run X.A X.stack s H ⟨us,[]⟩ (us++ds) (vs++dvs) Q E hr I.env0 (hb s us I.kIn hl) r2 h) fun r s' hq=>?_)
 cases r with
 | error e=>exact hx pins σ H s e s' I hq
 | ok fl =>
  cases fl with
  | ret u=>exact I.after hq
  | next=>exact False.elim hq
  | brk=>exact False.elim hq
  | cont=>exact False.elim hq
theorem tH (F:FnOk X.prog X.w X.K X.mg X.base CX k f fd ps sp) (hr:Room k X.A) (hg:Gl X x) (hm:X.mg x=some (.ref f)) (hk:PySem.W.keepIn X.K (.ref f)=true) (hb:Binds X.K fd ps ds) (hd:Vals dvs ds) (hx:tG CX X E)
  (ha:PA X (e::es) t) (hdb:(x == ("__debug__" : Str))=false:=by decide) (he:starEach (e::es) X.env=(false,eval e X.env)::starEach es X.env:=by rfl) (hpl:(backTo pos (starEach es X.env)).any (·.1)=false:=by rfl) :
  PE X (.Call (.Name x p) (e::es) [] pos) (Av sp dvs E t):=by
 intro pins s σ H Q I h
 refine wpAny_Call_Name_kw (sW I hg hm ?_ hdb)
 refine PySem.W.callWith_K (h₀:=X.base) I.ok.mod.kin hk (thn (ha pos pins s σ H _ I h) fun us s1 ⟨vs,H1,I1,r,q⟩=>⟨I1.kIn,?_⟩) he hpl
 exact Aw F hr hb hd hx I1 r q
end
section
variable {X:Cx} {CX:CXT} {k:Nat} {f C:Addr} {fd:FuncData} {ps ks:List Str} {sp:Sp} {E:XK} {x m:Str} {p pos apos kpos:Pos} {e o:Expr} {es:List Expr} {kws:List Keyword} {te ta:TE} {t tk:TA} {nm:Option Str}
variable {g:List Value->List Value->List Value} {gV:List V->List V->List V}
end
structure FnScope (N P:List Str) (sc:Scope):Prop where
 kind:sc.kind = .function
 co:sc.isCoroutine=false
 gen:sc.isGenerator=false
 nd:N.Nodup
 pre:N.take P.length=P
 par:∀ x∈P,sc.names.lookup x=some .local∨sc.names.lookup x=some .cell
 nofree:∀ y∈sc.names,y.2 ≠ .free
theorem nu {kindOf:Str->Option NameKind} {x:Str}:∀ {binds:List (Str×Value)} {m:Str->Option Value},(∀ v,(x,v)∉binds)->bindL kindOf binds m x=m x
 | [],_,_=>rfl
 | (n,v)::r,m,h=>by
  unfold bindL
  rw [nu fun w hw=>h w (List.mem_cons_of_mem _ hw)]
  split
  ·have:x≠n:=by rintro rfl; exact h v List.mem_cons_self
   simp [this]
  ·rfl
theorem nv {kindOf:Str->Option NameKind} {x:Str}:∀ {binds:List (Str×Value)} {m:Str->Option Value},(∀ v,(x,v)∉binds)->bindC kindOf binds m x=m x
 | [],_,_=>rfl
 | (n,v)::r,m,h=>by
  unfold bindC
  rw [nv fun w hw=>h w (List.mem_cons_of_mem _ hw)]
  split
  ·rfl
  ·have:x≠n:=by rintro rfl; exact h v List.mem_cons_self
   simp [this]
theorem ny {kindOf:Str->Option NameKind} {x:Str} {v:Value}:∀ {P:List Str} {vs:List Value} {i:Nat} {m:Str->Option Value},P.Nodup->P[i]? = some x->vs[i]? = some v->kindOf x=some .local ->
  bindL kindOf (P.zip vs) m x=some v
 | [],_,_,_,_,h,_,_=>by simp at h
 | _::_,[],_,_,_,_,h,_=>by simp at h
 | p::P,w::vs,0,m,nd,h1,h2,hk=>by
  simp at h1 h2; subst h1; subst h2
  show bindL kindOf ((p,w)::P.zip vs) m p=_
  unfold bindL
  rw [nu fun v hv=>(List.nodup_cons.mp nd).1 (List.of_mem_zip hv).1,if_pos hk]
  simp
 | p::P,w::vs,i + 1,m,nd,h1,h2,hk=>by
  show bindL kindOf ((p,w)::P.zip vs) m x=_
  unfold bindL
  exact ny (i:=i) (List.nodup_cons.mp nd).2 (by simpa using h1) (by simpa using h2) hk
theorem nz {kindOf:Str->Option NameKind} {x:Str} {v:Value}:∀ {P:List Str} {vs:List Value} {i:Nat} {m:Str->Option Value},P.Nodup->P[i]? = some x->vs[i]? = some v->kindOf x≠some .local ->
  bindC kindOf (P.zip vs) m x=some v
 | [],_,_,_,_,h,_,_=>by simp at h
 | _::_,[],_,_,_,_,h,_=>by simp at h
 | p::P,w::vs,0,m,nd,h1,h2,hk=>by
  simp at h1 h2; subst h1; subst h2
  show bindC kindOf ((p,w)::P.zip vs) m p=_
  unfold bindC
  rw [nv fun v hv=>(List.nodup_cons.mp nd).1 (List.of_mem_zip hv).1,if_neg hk]
  simp
 | p::P,w::vs,i + 1,m,nd,h1,h2,hk=>by
  show bindC kindOf ((p,w)::P.zip vs) m x=_
  unfold bindC
  exact nz (i:=i) (List.nodup_cons.mp nd).2 (by simpa using h1) (by simpa using h2) hk
def start (N:List Str) (vs:List V):St:=vs.map some++List.replicate (N.length - vs.length) none
def cxOf (CX:CXT) (P:Program) (w:World) (K:PySem.W.Frag) (mg:Str->Option Value) (base:Heap) (N:List Str) (qual:Str) (scope:Scope) (f:Addr) (cd:Value) (A:Around) (outer:List Env) (s:Shared) (H:Hp) (E:XK):Cx where
 prog:=P
 w:=w
 K:=K
 mg:=mg
 base:=base
 A:=A.deeper (envOfC qual scope s.heap.objs.size f cd)
 N:=N
 s₀:=s
 H₀:=H
 env:=envOfC qual scope s.heap.objs.size f cd
 outer:=outer
 stack:=envOfC qual scope s.heap.objs.size f cd::outer
 ex:=[]
 calm:=true
 fn:=fun _=>true
 pn:=[]
 xe:=fun e s'=>wpAny (model P w) (A.deeper (envOfC qual scope s.heap.objs.size f cd)) (leaving (envOfC qual scope s.heap.objs.size f cd) e) (fun _ s''=>CX outer H s E e s'') (fun e' s''=>CX outer H s E e' s'') s'
theorem qB {sc:Scope} {n:Nat} {x:Str} (h:sc.names.lookup x=some .cell):∃ c,(cellsFrom n sc.names []).lookup x=some c:=by
 have q:=PySem.W.cellsFrom_some sc.names n [] (.inl h)
 exact Option.isSome_iff_exists.mp q
theorem tI {CX:CXT} {P:Program} {w:World} {K:PySem.W.Frag} {mg:Str->Option Value} {base:Heap} {N ps:List Str} {qual:Str} {scope:Scope} {f:Addr} {cd:Value} {A:Around} {outer:List Env} {s s1:Shared} {H:Hp} {E:XK} {us:List Value} {vs:List V}
  (S:FnScope N ps scope) (hd:A.handled=none) (e0:Env0 P w K mg base A outer s H) (hl:vs.length=ps.length) (r:Vals vs us)
  (x:InCallC s s.heap.objs.size (bindL (envOfC qual scope s.heap.objs.size f cd).kindOf (ps.zip us) fun _=>none) (cellsFrom (s.heap.objs.size + 1) scope.names []) (bindC (envOfC qual scope s.heap.objs.size f cd).kindOf (ps.zip us) fun _=>none) s1) :
  Inv (cxOf CX P w K mg base N qual scope f cd A outer s H E) [] (start N vs) H s1:=by
 have hpl:ps.length <= N.length:=by have:=congrArg List.length S.pre; rw [List.length_take] at this; omega
 obtain ⟨h1,tk,rfl,hk⟩:=x.done
 have noA:∀ b:Addr,b∉(cxOf CX P w K mg base N qual scope f cd A outer s H E).ex:=fun b z=>absurd (show b∈([]:List Addr) from z) (by simp)
 refine ⟨⟨e0.mod,S.kind,rfl,rfl,Nat.le_refl _,fun y z c h1 h2=>?_,fun y hy=>?_,fun y c _ h=>?_,fun _=>hd,Around.frames_deeper e0.frames,.inr ⟨rfl,rfl⟩,fun b z=>absurd z (noA b),e0.bs,e0.bsz,fun b _ _=>noA b,fun b z=>absurd z (noA b),e0.funs,e0.frf⟩,
  rfl,e0.bare,Un.kept hk,⟨_,x.toInCall.ns,fun i y v h1 h2 h3=>?_⟩,fun y c h=>⟨_,x.cell y c h⟩,e0.hok.fresh (Nat.le_refl _),fun y c h=>?_,fun p hp=>absurd (show p∈([]:List (Addr×Obj)) from hp) (by simp),e0.hok.kept hk,?_⟩
 ·exact name_of_addr x.apart (PySem.mem_of_lookup h1) (PySem.mem_of_lookup h2)
 ·have hy:scope.names.lookup y=some .cell∨scope.names.lookup y=some .free:=hy
  rcases hy with hy | hy
  ·exact qB hy
  ·exact absurd rfl (S.nofree _ (PySem.mem_of_lookup hy))
 ·exact Nat.le_of_lt (x.above y c (PySem.mem_of_lookup h))
 ·have hi:i < vs.length:=by
   unfold start at h2
   by_cases hi:i < vs.length
   ·exact hi
   ·rw [List.getElem?_append_right (by simpa using hi)] at h2
    rw [List.getElem?_replicate] at h2
    split at h2 <;> cases h2
  have ha:vs[i]? = some v:=by
   unfold start at h2
   rw [List.getElem?_append_left (by simpa using hi),List.getElem?_map] at h2
   cases e:vs[i]? with
   | none=>rw [e] at h2; cases h2
   | some a=>rw [e] at h2; cases h2; rfl
  obtain ⟨u,hu,rv⟩:=r.get ha
  have hp:ps[i]? = some y:=by
   rw [← S.pre,List.getElem?_take_of_lt (by omega)]; exact h1
  have ndP:ps.Nodup:=by rw [← S.pre]; exact S.nd.sublist (List.take_sublist _ _)
  refine ⟨u,rv,?_⟩
  rcases S.par y (List.mem_of_getElem? hp) with k | k
  ·exact .inl ⟨k,ny ndP hp hu k⟩
  ·obtain ⟨c,e⟩:=qB (n:=s.heap.objs.size + 1) k
   refine .inr ⟨.inl k,c,e,?_⟩
   have q:=x.cell y c e
   rw [nz ndP hp hu (by show scope.names.lookup y≠_; rw [k]; decide)] at q
   exact q
 ·exact e0.hok.fresh (Nat.le_of_lt (x.above y c (PySem.mem_of_lookup h)))
 ·unfold start
  show _=N.length
  rw [List.length_append,List.length_map,List.length_replicate]
  omega
theorem Cp {CX:CXT} {P:Program} {w:World} {K:PySem.W.Frag} {mg:Str->Option Value} {base:Heap} {k:Nat} {f:Addr} {name qual:Str} {params:Arguments} {body:List Stmt} {scope:Scope} {dV kV doc pm cdv ct oc:Value} {an od:Option Addr}
  {osl:Array (Option Value)} {N ps:List Str} {sp:Sp} (lk:K.lookup f=some ⟨oc,od,.func (PySem.W.fnOf name qual params body scope dV kV doc pm an cdv ct),osl⟩) (hcd:PySem.W.codeIn K cdv qual=true) (S:FnScope N ps scope)
  (len:∀ vs H Q E,sp vs H Q E->vs.length=ps.length)
  (hbody:∀ (A:Around) (outer:List Env) (s:Shared) (H:Hp) (vs:List V) (Q:VK) (E:XK),Room k (A.deeper (envOfC qual scope s.heap.objs.size f cdv))->sp vs H Q E ->
   ∃ t,PSs (cxOf CX P w K mg base N qual scope f cdv A outer s H E) body t /\ t { nx:=fun _ H'=>Q .non H',rt:=Q } (start N vs) H) :
  FnOk P w K mg base CX (k + 1) f (PySem.W.fnOf name qual params body scope dV kV doc pm an cdv ct) ps sp:=by
 refine ⟨len,fun A outer s H args us vs Q E hr e0 hb r hsp=>?_⟩
 have hl:=len _ _ _ _ hsp
 have KX:K.In s.heap:=e0.mod.kin.keeps fun b o e=>(e0.bs b o e).1
 have lim:s.heap.NoLimit:=e0.mod.nolimit.keeps fun b o e=>(e0.bs b o e).1
 have hkind:∀ y∈ps.zip us,scope.names.lookup y.1=some .local∨(scope.names.lookup y.1=some .cell /\ ((cellsFrom (s.heap.objs.size + 1) scope.names []).lookup y.1).isSome=true):=fun ⟨n,v⟩ hy=>by
  rcases S.par n (List.of_mem_zip hy).1 with q | q
  ·exact .inl q
  ·exact .inr ⟨q,PySem.W.cellsFrom_some _ _ _ (.inl q)⟩
 refine codeAny_call_function hr.depth (KX _ _ lk) rfl S.co S.gen rfl (PySem.W.codeRec_of KX hcd) (hb _ _ _ _ ?_)
 refine wpAny_newFunctionEnv_cells S.kind hkind fun env he s1 x=>?_
 subst he
 refine ⟨lim.keeps x.toInCall.keep,codeAny_func ?_⟩
 obtain ⟨t,ht,hq⟩:=hbody A outer s H vs Q E (hr.deeper _) hsp
 have I:Inv (cxOf CX P w K mg base N qual scope f cdv A outer s H E) [] (start N vs) H s1:=tI S hr.hd e0 hl r x
 refine wpAny_mono (ht [] s1 (start N vs) H _ I hq) (fun fl s' hs=>?_) fun e s' hs=>hs
 have fin:∀ {σ':St} {H':Hp} {v:V} {u:Value},Inv (cxOf CX P w K mg base N qual scope f cdv A outer s H E) [] σ' H' s'->RelV v u->Q v H'->CE outer P w H s Q u s' :=
  fun {σ' H' v u} J rv q=>⟨v,H',J.os,J.bare,J.base,J.hok,rv,q⟩
 cases fl with
 | ret u =>
  obtain ⟨v,σ',H',J,rv,q⟩:=hs
  exact fin J rv q
 | next =>
  obtain ⟨σ',H',J,q⟩:=hs
  exact fin (v:=V.non) (u:=Value.none) J rfl q
 | brk =>
  obtain ⟨_,_,_,q⟩:=hs
  exact False.elim q
 | cont =>
  obtain ⟨_,_,_,q⟩:=hs
  exact False.elim q
end L2
namespace L2
open PySem PySem.Spec PyProof.Rows
section
variable {X:Cx} {x:Str} {p pos:Pos} {e:Expr} {es:List Expr} {t:TA} {id T:String} {r:List V->Hp->VK->Prop}
def tCB (r:List V->Hp->VK->Prop) (t:TA):TE:=fun σ H Q=>t σ H fun vs H1=>r vs H1 Q
theorem gK (hc:dU X (.builtin id) r) (hg:Gl X x) (hm:X.mg x=none) (hv:bootBuiltins x=some (.builtin id)) (ha:PA X (e::es) t) (hn:x ≠ "__name__":=by decide) (hdb:(x == ("__debug__" : Str))=false:=by decide)
  (he:starEach (e::es) X.env=(false,eval e X.env)::starEach es X.env:=by rfl) (hpl:(backTo pos (starEach es X.env)).any (·.1)=false:=by rfl):PE X (.Call (.Name x p) (e::es) [] pos) (tCB r t):=by
 intro pins s σ H Q I h
 refine wpAny_Call_Name_kw (iW I hg hm hv ?_ hn hdb)
 exact PyProof.Rows.callWith_builtin1 (thn (ha pos pins s σ H _ I h) fun us s1 ⟨vs,H1,I1,r1,q1⟩=>hc pins s1 σ H1 vs us Q I1 r1 q1) he hpl
theorem jJ (hc:dU X (.type T) r) (hg:Gl X x) (hm:X.mg x=none) (hv:bootBuiltins x=some (.type T)) (ha:PA X (e::es) t) (hn:x ≠ "__name__":=by decide) (hdb:(x == ("__debug__" : Str))=false:=by decide)
  (he:starEach (e::es) X.env=(false,eval e X.env)::starEach es X.env:=by rfl) (hpl:(backTo pos (starEach es X.env)).any (·.1)=false:=by rfl):PE X (.Call (.Name x p) (e::es) [] pos) (tCB r t):=by
 intro pins s σ H Q I h
 refine wpAny_Call_Name_kw (iW I hg hm hv ?_ hn hdb)
 exact PyProof.Rows.callWith_type1 (thn (ha pos pins s σ H _ I h) fun us s1 ⟨vs,H1,I1,r1,q1⟩=>hc pins s1 σ H1 vs us Q I1 r1 q1) he hpl
end
end L2
namespace HT
open PySem PyProof.Rows
section
open PySem.SeqAt
open PySem.AutoSeq1 (wpAny_loadPart')
open PySem.MeetsSeq PySem.MeetsSeq2 PySem.MeetsSeq3
end
section
variable {prog:Program} {w:World} {A:Around} {E:Value->Shared->Prop} {s:Shared}
theorem cat_tup {t b:Addr} {vs ws:List Value} {Q:Value->Shared->Prop} (ht:IsTup s.heap t vs.toArray) (hb:IsTup s.heap b ws.toArray) (hv:vs≠[])
  (h1:ws=[]->Q (.ref t) s) (h2:ws≠[]->Q (.ref s.heap.objs.size) { s with heap:=s.heap.push { cls:=.type "tuple",data:=.seq (vs++ws).toArray } })
  (hsz:vs.length + ws.length <= sizeLine):wpAny (model prog w) A (binaryOp .Add (.ref t) (.ref b)) Q E s:=by
 obtain ⟨⟨cls,dd,data,sl⟩,ho,hc,n,hd⟩:=id ht
 obtain ⟨⟨cls2,dd2,data2,sl2⟩,ho2,hc2,n2,hd2⟩:=id hb
 simp only at hc hd hc2 hd2
 subst hc hd hc2 hd2
 have e:vs.toArray++ws.toArray=(vs++ws).toArray:=by simp
 by_cases hw:ws=[]
 ·exact concat_meets ⟨_,ho,rfl⟩ ⟨_,ho2,rfl⟩ noFill_tuple_add seq_tuple_add PySem.F.slot_tuple_add PySem.F.entry_tuple_add (PySem.F.args_tuple_add_2 _ _)
   (tuple_addW1 t b vs.toArray ws.toArray n n2 dd dd2 sl sl2 (by simpa using hv) (by simp [hw])) ⟨ho,ho2,h1 hw⟩
 ·refine concat_meets ⟨_,ho,rfl⟩ ⟨_,ho2,rfl⟩ noFill_tuple_add seq_tuple_add PySem.F.slot_tuple_add PySem.F.entry_tuple_add (PySem.F.args_tuple_add_2 _ _)
   (tuple_addW2 t b vs.toArray ws.toArray n n2 dd dd2 sl sl2 (by simpa using hv) (by simpa using hw) (by rw [List.size_toArray,List.size_toArray]; exact hsz)) ⟨ho,ho2,?_⟩
  rw [e]
  exact h2 hw
def sIx (n d:Nat):Option Int->Nat
 | none=>d
 | some v=>if v < 0 then (v + (n:Int)).toNat else min v.toNat n
theorem Ax (n d:Nat) (hd:d <= n) (o:Option Int):sIx n d o <= n:=by
 cases o with
 | none=>exact hd
 | some v =>
  show (if v < 0 then (v + (n:Int)).toNat else min v.toNat n) <= n
  by_cases hv:v < 0
  ·rw [if_pos hv]; omega
  ·rw [if_neg hv]; exact Nat.min_le_right _ _
theorem tJ (v:Int) (n d:Nat):(if v < 0 then max (v + (n:Int)) 0 else min v (n:Int))=((sIx n d (some v):Nat):Int):=by
 show (if v < 0 then max (v + (n:Int)) 0 else min v (n:Int))=(((if v < 0 then (v + (n:Int)).toNat else min v.toNat n):Nat):Int)
 by_cases hv:v < 0
 ·simp only [if_pos hv]; omega
 ·simp only [if_neg hv]; omega
theorem rS (lo hi:Option Int) (n:Nat):Builtin.Slice.sliceAdjust lo hi 1 (n:Int)=(((sIx n 0 lo:Nat):Int),((sIx n n hi:Nat):Int)):=by
 have h1:¬ ((1:Int) < 0):=by omega
 unfold Builtin.Slice.sliceAdjust
 simp only [h1,if_false]
 refine Prod.ext ?_ ?_
 ·cases lo with
  | none=>rfl
  | some v=>exact tJ v n 0
 ·cases hi with
  | none=>rfl
  | some v=>exact tJ v n n
theorem rT (i j:Nat):Builtin.Slice.slicePlaces (i:Int) (j:Int) 1=j - i:=by
 unfold Builtin.Slice.slicePlaces
 have h1:(1:Int) > 0:=by omega
 simp only [h1,if_true,Int.ediv_one]
 split <;> omega
theorem kY {v:Value} {o:Option Int} {Q:Option Int->Shared->Prop} (p:IsPart v o) (h:Q o s):wpAny (model prog w) A (Builtin.Slice.slicePartIndex v) Q E s:=by
 cases p with
 | none=>exact slicePart_none h
 | int i t=>exact slicePart_int h
theorem jg {sl:Addr} {vl vu:Value} {lo hi:Option Int} {n:Nat} {Q:Int×Int×Nat->Shared->Prop} (hs:s.heap.IsSliceOf sl vl vu .none) (pl:IsPart vl lo) (pu:IsPart vu hi)
  (h:Q (((sIx n 0 lo:Nat):Int),1,sIx n n hi - sIx n 0 lo) s):wpAny (model prog w) A (Builtin.Slice.sliceApplied (.ref sl) (pure (n:Int))) Q E s:=by
 obtain ⟨os,hos,hcs,hds⟩:=id hs
 unfold Builtin.Slice.sliceApplied Builtin.Slice.sliceFields
 refine wpAny_bind (wpAny_bind (wpAny_field hos hds (x:=vl) rfl (wpAny_bind (wpAny_field hos hds (x:=vu) rfl (wpAny_bind (wpAny_field hos hds (x:=.none) rfl (wpAny_pure ?_)))))))
 refine wpAny_bind (slicePart_none ?_)
 show wpAny _ _ (if ((1:Int) == 0)=true then _ else _) _ _ s
 rw [if_neg (by decide)]
 refine wpAny_bind (kY pl (wpAny_bind (kY pu (wpAny_bind (wpAny_pure ?_)))))
 show wpAny _ _ (match Builtin.Slice.sliceAdjust lo hi 1 (n:Int) with | (lo,hi)=>pure (lo,(1:Int),Builtin.Slice.slicePlaces lo hi 1)) _ _ s
 rw [rS lo hi n]
 show wpAny _ _ (pure (((sIx n 0 lo:Nat):Int),(1:Int),Builtin.Slice.slicePlaces ((sIx n 0 lo:Nat):Int) ((sIx n n hi:Nat):Int) 1)) _ _ s
 rw [rT]
 exact wpAny_pure h
theorem vY (xs:Array Value) (i k:Nat):((List.range k).filterMap fun (m:Nat)=>xs[((i:Int) + (m:Int) * 1).toNat]?).toArray=((xs.toList.drop i).take k).toArray:=by
 have e:(fun (m:Nat)=>xs[((i:Int) + (m:Int) * 1).toNat]?)=fun m=>xs[i + m]?:=by
  funext m
  have:((i:Int) + (m:Int) * 1).toNat=i + m:=by omega
  rw [this]
 rw [e]
 have:=pick_run xs i k
 rw [List.filterMap_map] at this
 have e2:((fun x=>xs[x]?) ∘ fun x=>i + x)=fun m=>xs[i + m]?:=rfl
 rw [e2] at this
 rw [this]
theorem getItem_tuple_cut {t sl:Addr} {items:Array Value} {vl vu:Value} {lo hi:Option Int} {Q:Value->Shared->Prop} (ht:IsTup s.heap t items) (hs:s.heap.IsSliceOf sl vl vu .none) (pl:IsPart vl lo) (pu:IsPart vu hi)
  (hw:¬ (sIx items.size 0 lo=0 /\ sIx items.size items.size hi=items.size))
  (h:Q (.ref s.heap.objs.size) { s with heap:=s.heap.push { cls:=.type "tuple",data:=.seq ((items.toList.drop (sIx items.size 0 lo)).take (sIx items.size items.size hi - sIx items.size 0 lo)).toArray } })
  (hsz:items.size <= sizeLine):wpAny (model prog w) A (getItem (.ref t) (.ref sl)) Q E s:=by
 have htake:sizeOk (.seq ((items.toList.drop (sIx items.size 0 lo)).take (sIx items.size items.size hi - sIx items.size 0 lo)).toArray):=by
  show ((items.toList.drop (sIx items.size 0 lo)).take (sIx items.size items.size hi - sIx items.size 0 lo)).toArray.size <= sizeLine
  rw [List.size_toArray,List.length_take,List.length_drop,Array.length_toList]
  omega
 have hj:sIx items.size items.size hi <= items.size:=Ax _ _ (Nat.le_refl _) hi
 obtain ⟨os,hos,hcs,hds⟩:=id hs
 have hTs:s.TypeIs (.ref sl) "slice":=⟨os,hos,hcs⟩
 unfold getItem
 try with_reducible refine wpAny_holding ?_
 first | refine wpAny_bind (wpAny_pure ?_) | skip
 refine wpAny_bind (wpAny_sequenceKey ht.typeIs (by decide) ?_)
 refine wpAny_bind (wpAny_callSpecial?_slot (name:=Str.ofString "__getitem__") ht.typeIs PyProof.Rows.slot_tuple_getitem
  (wpAny_call_entry PyProof.Rows.slot_tuple_getitem ht.typeIs entry_tuple_getitem ?_ (args_tuple_getitem _ _)))
 show wpAny _ _ (Builtin.Tuple.tupleItemsOf (.ref t) >>= _) _ _ s
 refine wpAny_bind (tupleItemsOf_ ht ?_)
 refine wpAny_bind (wpAny_typeOf hTs ?_)
 rw [if_pos (by decide)]
 refine wpAny_bind (jg hs pl pu ?_)
 have hno:¬ ((((sIx items.size 0 lo:Nat):Int) == 0 && (1:Int) == 1 && (sIx items.size items.size hi - sIx items.size 0 lo) == items.size)=true):=by
  intro q
  rw [Bool.and_eq_true,Bool.and_eq_true] at q
  have q1:((sIx items.size 0 lo:Nat):Int)=0:=eq_of_beq q.1.1
  have q2:sIx items.size items.size hi - sIx items.size 0 lo=items.size:=eq_of_beq q.2
  exact hw ⟨by omega,by omega⟩
 show wpAny _ _ (if (((sIx items.size 0 lo:Nat):Int) == 0 && (1:Int) == 1 && (sIx items.size items.size hi - sIx items.size 0 lo) == items.size)=true then _ else _) _ _ s
 rw [if_neg hno,vY]
 first
  | exact wpAny_bind (m:=Builtin.Tuple.tupleExact _) (wpAny_newObj_type (wpAny_pure ⟨_,rfl,wpAny_pure h⟩) htake)
  | exact wpAny_bind (m:=Builtin.Tuple.tupleExact _) (wpAny_newObj_type (wpAny_bind (wpAny_pure (wpAny_pure ⟨_,rfl,wpAny_pure h⟩))) htake)
  | exact wpAny_bind (wpAny_bind (m:=Builtin.Tuple.tupleExact _) (wpAny_newObj_type (wpAny_pure (wpAny_pure ⟨_,rfl,wpAny_pure h⟩)) htake))
  | exact wpAny_bind (wpAny_bind (m:=Builtin.Tuple.tupleExact _) (wpAny_newObj_type (wpAny_pure ⟨_,rfl,wpAny_pure h⟩) htake))
end
end HT
namespace L2
open PySem PySem.Spec PyProof.Rows
abbrev TO:=St->Hp->(Option Int->Hp->Prop)->Prop
def PO (X:Cx) (e:Option Expr) (t:TO):Prop :=
 ∀ (pins:List (Addr×Obj)) (s:Shared) (σ:St) (H:Hp) (Q:Option Int->Hp->Prop),Inv X pins σ H s->t σ H Q ->
  wpAny (model X.prog X.w) X.A (evalPart e X.env) (fun u s'=>∃ o H',Inv X pins σ H' s' /\ IsPart u o /\ Q o H') X.xe s
def yA:TO:=fun _ H Q=>Q none H
def Cq (t:TE):TO:=fun σ H Q=>t σ H fun x H1=>∃ i,x = .int i /\ Q (some i) H1
theorem rV {ns:List Int}:∀ {us:List Value},Vals (ns.map V.int) us->IntsAre us ns:=by
 induction ns with
 | nil=>intro us r; rw [List.map_nil] at r; cases r; exact .nil
 | cons n ns ih =>
  intro us r
  rw [List.map_cons] at r
  cases r with
  | cons r1 r2 =>
   obtain ⟨t,e⟩:=r1
   subst e
   exact .cons n t (ih r2)
section
variable {X:Cx} {e:Expr} {te:TE} {lo hi:Option Expr} {tl th:TO} {pos p2:Pos}
theorem yB:PO X none yA:=by
 intro pins s σ H Q I h
 rw [evalPart_none]
 exact wpAny_pure ⟨none,H,I,.none,h⟩
theorem yC (h:PE X e te):PO X (some e) (Cq te):=by
 intro pins s σ H Q I hw
 rw [evalPart_some]
 refine thn (h pins s σ H _ I hw) fun u s1 ⟨x,H1,I1,r1,q1⟩=>?_
 obtain ⟨i,rfl,q⟩:=q1
 obtain ⟨t,rfl⟩:=r1
 exact ⟨some i,H1,I1,.int i t,q⟩
def SlR (X:Cx) (r:V->Option Int->Option Int->Hp->VK->Prop):Prop :=
 ∀ (pins:List (Addr×Obj)) (s:Shared) (σ:St) (H:Hp) (x:V) (v vl vu:Value) (lo hi:Option Int) (sl:Addr) (Q:VK),Inv X pins σ H s->RelV x v->s.heap.IsSliceOf sl vl vu .none->IsPart vl lo->IsPart vu hi->r x lo hi H Q ->
  ∃ T id,typeLookup (.type T) "__getitem__" = pure (some (.builtin id)) /\ s.TypeIs v T /\ wpAny (model X.prog X.w) X.A (getItem v (.ref sl)) (EP X pins σ Q) X.xe s
def tSl (r:V->Option Int->Option Int->Hp->VK->Prop) (te:TE) (tl th:TO):TE:=fun σ H Q=>te σ H fun x H1=>tl σ H1 fun l H2=>th σ H2 fun u H3=>r x l u H3 Q
theorem vZ {r:V->Option Int->Option Int->Hp->VK->Prop} (hr:SlR X r) (he:PE X e te) (hl:PO X lo tl) (hu:PO X hi th):PE X (.Subscript e (.Slice lo hi none p2) pos) (tSl r te tl th):=by
 intro pins s σ H Q I h
 refine Subscript_ (thn (he pins s σ H _ I h) fun v s1 ⟨x,H1,I1,r1,q1⟩=>?_)
 refine wpAny_Slice (thn (hl pins s1 σ H1 _ I1 q1) fun vl s2 ⟨l,H2,I2,pl,q2⟩=>thn (hu pins s2 σ H2 _ I2 q2) fun vu s3 ⟨u,H3,I3,pu,q3⟩=>?_)
 rw [evalPart_none]
 refine wpAny_pure ?_
 have I4:Inv X pins σ H3 { s3 with heap:=s3.heap.push { cls:=.type "slice",data:=.fields #[vl,vu,.none] } }:=I3.kept (t':=s3.toks) fun b ob q=>Heap.get?_push_of_some _ q
 obtain ⟨T,id,hT,ht,hg⟩:=hr pins { s3 with heap:=s3.heap.push { cls:=.type "slice",data:=.fields #[vl,vu,.none] } } σ H3 x v vl vu l u s3.heap.objs.size Q I4 r1 (Heap.IsSliceOf.new ..) pl pu q3
 show wpAny (model X.prog X.w) X.A (subscriptTail e (.Slice lo hi none p2) v (.ref s3.heap.objs.size)) (EP X pins σ Q) X.xe { s3 with heap:=s3.heap.push { cls:=.type "slice",data:=.fields #[vl,vu,.none] } }
 exact tail_any (ops:=[.ref s3.heap.objs.size,v]) ht hT hg (by with_unfolding_all rfl)
def cutV (xs:List V) (lo hi:Option Int):List V:=(xs.drop (HT.sIx xs.length 0 lo)).take (HT.sIx xs.length xs.length hi - HT.sIx xs.length 0 lo)
theorem pd (xs:List V) (lo hi:Option Int):(cutV xs lo hi).length <= xs.length:=by
 unfold cutV
 rw [List.length_take,List.length_drop]
 omega
def rSlT (K:PySem.W.Frag):V->Option Int->Option Int->Hp->VK->Prop:=fun x lo hi H Q=>∃ a xs,x = .ref a /\ SqT K H a xs /\
 ¬ (HT.sIx xs.length 0 lo=0 /\ HT.sIx xs.length xs.length hi=xs.length) /\ ∀ p,H p=none->Q (.ref p) (upd H p (.tup (cutV xs lo hi)))
theorem Ay:SlR X (rSlT X.K):=by
 intro pins s σ H x v vl vu lo hi sl Q I rx hs pl pu h
 obtain ⟨a,xs,rfl,hx,hw,q⟩:=h
 cases rx
 obtain ⟨its,r,ht,hz⟩:=I.tuple hx
 have hlen:its.toArray.size=xs.length:=by rw [List.size_toArray]; exact r.length.symm
 refine ⟨"tuple",_,PyProof.Rows.slot_tuple_getitem.lookup,ht.typeIs,?_⟩
 refine HT.getItem_tuple_cut ht hs pl pu (by rw [hlen]; exact hw) ?_ (by rw [hlen]; exact hz)
 rw [hlen]
 refine ⟨.ref s.heap.objs.size,_,I.laid (t':=s.toks) (o:=.tup (cutV xs lo hi)) (fun b ob q=>Heap.get?_push_of_some _ q) (Nat.le_refl _) ?_,rfl,q _ (I.hok.fresh (Nat.le_refl _))⟩
 exact ⟨Nat.le_trans (pd xs lo hi) hz,_,(r.drop (HT.sIx xs.length 0 lo)).take (HT.sIx xs.length xs.length hi - HT.sIx xs.length 0 lo),IsTup.new _ _⟩
def Az (K:PySem.W.Frag):R2:=fun x y H Q=>∃ a b xs ys,x = .ref a /\ y = .ref b /\ SqT K H a xs /\ SqT K H b ys /\ xs≠[] /\ xs.length + ys.length <= sizeLine /\
 (ys=[]->Q (.ref a) H) /\ (ys≠[]->∀ p,H p=none->Q (.ref p) (upd H p (.tup (xs++ys))))
theorem Vals.nil_iff {xs:List V} {us:List Value} (r:Vals xs us):us=[]↔xs=[]:=by
 cases r with
 | nil=>simp
 | cons _ _=>simp
theorem yD:OpR X (binaryOp .Add) (Az X.K):=by
 intro pins s σ H x y v u Q I rx ry h
 obtain ⟨a,b,xs,ys,rfl,rfl,ha,hb,hx,hz,q1,q2⟩:=h
 cases rx
 cases ry
 obtain ⟨its,r1,p1,_⟩:=I.tuple ha
 obtain ⟨its2,r2,p2,_⟩:=I.tuple hb
 refine HT.cat_tup p1 p2 (fun z=>hx (r1.nil_iff.mp z)) (fun z=>⟨.ref a,H,I,rfl,q1 (r2.nil_iff.mp z)⟩) (fun z=>?_) (by rw [← r1.length,← r2.length]; exact hz)
 refine ⟨.ref s.heap.objs.size,_,I.laid (t':=s.toks) (o:=.tup (xs++ys)) (fun b ob q=>Heap.get?_push_of_some _ q) (Nat.le_refl _) ?_,rfl,q2 (fun w=>z (r2.nil_iff.mpr w)) _ (I.hok.fresh (Nat.le_refl _))⟩
 exact ⟨by rw [List.length_append]; exact hz,_,r1.append r2,IsTup.new _ _⟩
end
end L2
namespace L2
open PySem PySem.Spec PyProof.Rows
def ixN (n:Nat) (i:Int):Option Nat:=if 0 <= i then (if i < n then some i.toNat else none) else if -(n:Int) <= i then some (i + n).toNat else none
def atI {α:Type} (xs:List α) (i:Int):Option α:=(ixN xs.length i).bind fun j=>xs[j]?
theorem tK {n:Nat} {i:Int} {j:Nat} (h:ixN n i=some j):seqIndex? i n=some j /\ j < n /\ -(n:Int) <= i /\ i < n:=by
 unfold ixN at h
 by_cases h0:0 <= i
 ·rw [if_pos h0] at h
  by_cases h1:i < n
  ·rw [if_pos h1] at h
   have e:i.toNat=j:=Option.some.inj h
   exact ⟨by rw [seqIndex_of h0 h1,e],by omega,by omega,h1⟩
  ·rw [if_neg h1] at h; cases h
 ·rw [if_neg h0] at h
  by_cases h1 : -(n:Int) <= i
  ·rw [if_pos h1] at h
   have e:(i + n).toNat=j:=Option.some.inj h
   exact ⟨by rw [seqIndex_neg (by omega) h1,e],by omega,h1,by omega⟩
  ·rw [if_neg h1] at h; cases h
theorem tM {α:Type} {xs:List α} {i:Int} {v:α} (h:atI xs i=some v):∃ j,seqIndex? i xs.length=some j /\ xs[j]? = some v /\ j < xs.length /\ -(xs.length:Int) <= i /\ i < xs.length:=by
 unfold atI at h
 cases e:ixN xs.length i with
 | none=>rw [e] at h; cases h
 | some j =>
  rw [e] at h
  obtain ⟨h1,h2,h3,h4⟩:=tK e
  exact ⟨j,h1,h,h2,h3,h4⟩
theorem pf {α:Type} {xs:List α} {j:Nat} {v:α} (h:xs[j]? = some v):atI xs (j:Int)=some v:=by
 have hj:j < xs.length:=(List.getElem?_eq_some_iff.mp h).1
 have e:ixN xs.length (j:Int)=some j:=by
  unfold ixN
  rw [if_pos (by omega),if_pos (by omega)]; simp
 unfold atI; rw [e]; exact h
theorem atI_last {α:Type} (xs:List α) (v:α):atI (xs++[v]) (-1)=some v:=by
 have hl:(xs++[v]).length=xs.length + 1:=by simp
 have e:ixN (xs++[v]).length (-1)=some xs.length:=by
  unfold ixN
  rw [hl,if_neg (by decide),if_pos (by omega)]
  congr 1
  omega
 unfold atI
 rw [e]
 show (xs++[v])[xs.length]? = some v
 simp
def tN (b:Expr):Prop:=∀ o i,subscripted b false o i=operate [o,i] (getItem o i)
def IxR (X:Cx) (r:R2):Prop :=
 ∀ (value slice:Expr) (pins:List (Addr×Obj)) (s:Shared) (σ:St) (H:Hp) (x y:V) (v u:Value) (Q:VK),Inv X pins σ H s->RelV x v->RelV y u->r x y H Q ->
  subscripted slice false v u=operate [v,u] (getItem v u)->wpAny (model X.prog X.w) X.A (subscriptTail value slice v u) (EP X pins σ Q) X.xe s
def MtR (X:Cx) (id:String) (r:V->List V->Hp->VK->Prop):Prop :=
 ∀ (pins:List (Addr×Obj)) (s:Shared) (σ:St) (H:Hp) (x:V) (xs:List V) (v:Value) (us:List Value) (Q:VK),Inv X pins σ H s->RelV x v->Vals xs us->r x xs H Q ->
  wpAny (model X.prog X.w) X.A (call (.builtin id) (v::us)) (EP X pins σ Q) X.xe s
section
variable {X:Cx} {a b:Expr} {ta tb:TE} {pos:Pos}
theorem IxR.or {r r':R2} (h:IxR X r) (h':IxR X r'):IxR X (fun x y H Q=>r x y H Q∨r' x y H Q):=by
 intro value slice pins s σ H x y v u Q I rx ry q hs
 rcases q with q | q
 ·exact h value slice pins s σ H x y v u Q I rx ry q hs
 ·exact h' value slice pins s σ H x y v u Q I rx ry q hs
theorem wa {r:R2} (hr:IxR X r) (ha:PE X a ta) (hb:PE X b tb) (hs:tN b):PE X (.Subscript a b pos) (tOp r ta tb):=by
 intro pins s σ H Q I h
 exact Subscript_ (binT ha hb I h fun v u s2 x y H2 I2 rx ry q=>hr a b pins s2 σ H2 x y v u Q I2 rx ry q (hs _ _))
def rIxL (K:PySem.W.Frag):R2:=fun x y H Q=>∃ p xs i v,x = .ref p /\ y = .int i /\ SqL K H p xs /\ atI xs i=some v /\ Q v H
def rIxT (K:PySem.W.Frag):R2:=fun x y H Q=>∃ p xs i v,x = .ref p /\ y = .int i /\ SqT K H p xs /\ atI xs i=some v /\ Q v H
theorem lL:IxR X (rIxL X.K):=by
 intro value slice pins s σ H x y v u Q I rx ry h hs
 obtain ⟨p,xs,i,z,rfl,rfl,hq,he,q⟩:=h
 cases rx
 obtain ⟨t,rfl⟩:=ry
 obtain ⟨its,r,pl,hz⟩:=I.list hq
 obtain ⟨j,h1,h2,h3,h4,h5⟩:=tM he
 obtain ⟨w,ew,rw'⟩:=r.get h2
 have hl:=r.length
 have hn:=qA
 have fin:EP X pins σ Q w s:=⟨z,H,I,rw',q⟩
 by_cases h0:0 <= i
 ·have hj:i.toNat=j:=by
   rw [seqIndex_of h0 h5] at h1
   exact Option.some.inj h1
  exact item_listR pl.isList h0 (by omega) (by rw [hj]; simpa using ew) fin hs
 ·have hj:(i + (its.toArray.size:Int)).toNat=j:=by
   rw [seqIndex_neg (by omega) h4] at h1
   rw [List.size_toArray,← hl]
   exact Option.some.inj h1
  exact subscriptTail_builtinR (x:=w) pl.isList.typeIs slot_list_getitem.lookup
   (wpAny_getItem_list_neg (Q:=fun r s'=>r=w /\ EP X pins σ Q r s') pl.isList (by omega) (by rw [List.size_toArray] <;> omega) (by omega) (by rw [hj]; simpa using ew) ⟨rfl,fin⟩) hs
theorem AA:IxR X (rIxT X.K):=by
 intro value slice pins s σ H x y v u Q I rx ry h hs
 obtain ⟨p,xs,i,z,rfl,rfl,hq,he,q⟩:=h
 cases rx
 obtain ⟨t,rfl⟩:=ry
 obtain ⟨its,r,pl,hz⟩:=I.tuple hq
 obtain ⟨j,h1,h2,h3,h4,h5⟩:=tM he
 obtain ⟨w,ew,rw'⟩:=r.get h2
 have hl:=r.length
 have hn:=qA
 have fin:EP X pins σ Q w s:=⟨z,H,I,rw',q⟩
 exact subscriptTail_builtinR (x:=w) pl.typeIs slot_tuple_getitem.lookup
  (getItem_tuple (j:=j) (Q:=fun r s'=>r=w /\ EP X pins σ Q r s') pl (by omega) (by omega) (by rw [List.size_toArray,← hl]; exact h1) (by simpa using ew) ⟨rfl,fin⟩) hs
theorem rW (its:List Value) (n j:Nat) (u:Value):Obj.mapSeq (·.setIfInBounds j u) { cls:=.type "list",data:=.seq its.toArray n }={ cls:=.type "list",data:=.seq (its.set j u).toArray n }:=by
 simp [Obj.mapSeq]
theorem Inv.lst {pins:List (Addr×Obj)} {σ:St} {H:Hp} {s:Shared} {p:Addr} {xs:List V} (I:Inv X pins σ H s) (h:H p=some (.lst xs)) :
  ∃ (its:List Value) (n:Nat),Vals xs its /\ s.heap.get? p=some { cls:=.type "list",data:=.seq its.toArray n } /\ xs.length <= sizeLine:=by
 obtain ⟨z,its,n,r,e⟩:=I.hok p _ h
 exact ⟨its,n,r,e,z⟩
theorem Inv.lstUpd {pins:List (Addr×Obj)} {σ:St} {H:Hp} {s:Shared} {p:Addr} {xs ys:List V} {its its':List Value} {n n':Nat} {f:Obj->Obj} (I:Inv X pins σ H s) (h:H p=some (.lst xs))
  (ho:s.heap.get? p=some { cls:=.type "list",data:=.seq its.toArray n }) (hf:f { cls:=.type "list",data:=.seq its.toArray n }={ cls:=.type "list",data:=.seq its'.toArray n' }) (r:Vals ys its') (hz:ys.length <= sizeLine) (t:Nat) :
  Inv X pins σ (upd H p (.lst ys)) { s with heap:=s.heap.update p f,toks:=t }:=by
 have e:(s.heap.update p f).get? p=some { cls:=.type "list",data:=.seq its'.toArray n' }:=by
  rw [Heap.get?_update_self f ho (by rw [hf] <;> rfl),hf]
 refine I.write (x:=p) (e:=p) (by rw [h]; trivial) (.inl rfl) (fun b u hb q=>(Heap.get?_update_other _ _ (Ne.symm hb)).trans q) ⟨_,e⟩ ?_
 exact ⟨hz,its',n',r,e⟩
def Cr:V->V->V->Hp->(Hp->Prop)->Prop:=fun o i v H Q=>∃ p xs k j,o = .ref p /\ i = .int k /\ H p=some (.lst xs) /\ ixN xs.length k=some j /\ Q (upd H p (.lst (xs.set j v)))
theorem lM:PSet X Cr:=by
 intro pins s σ H o i v ov iv u Q I ro ri rv h
 obtain ⟨p,xs,k,j,rfl,rfl,hp,hj,q⟩:=h
 cases ro
 obtain ⟨t,rfl⟩:=ri
 obtain ⟨its,n,r,ho,hz⟩:=I.lst hp
 obtain ⟨h1,h2,h3,h4⟩:=tK hj
 have hl:=r.length
 have hn:=qA
 have I':Inv X pins σ (upd H p (.lst (xs.set j v))) { s with heap:=s.heap.update p (Obj.mapSeq (·.setIfInBounds j u)) } :=
  I.lstUpd hp ho (rW its n j u) (r.set rv j) (by rw [List.length_set]; exact hz) s.toks
 by_cases h0:0 <= k
 ·have hk:k.toNat=j:=by
   rw [seqIndex_of h0 h4] at h1
   exact Option.some.inj h1
  exact PySem.W.ki_setAt ho h0 (by omega) (by rw [List.size_toArray,← hl]; exact h4) (by rw [hk]; exact ⟨_,I',q⟩)
 ·have hk:(k + (its.toArray.size:Int)).toNat=j:=by
   rw [seqIndex_neg (by omega) h3] at h1
   rw [List.size_toArray,← hl]
   exact Option.some.inj h1
  exact PySem.W.ki_setBack ho (by omega) (by rw [List.size_toArray,← hl]; exact h3) (by omega) (by rw [hk]; exact ⟨_,I',q⟩)
def jh:V->Bool
 | .non=>true
 | .bl _=>true
 | .int _=>true
 | .str _=>true
 | _=>false
def eqV:V->V->Bool
 | .non,.non=>true
 | .bl a,.bl b=>a == b
 | .bl a,.int b=>(if a then 1 else 0) == b
 | .int a,.bl b=>a == (if b then 1 else 0)
 | .int a,.int b=>a == b
 | .str a,.str b=>a == b
 | _,_=>false
theorem AB {A:Around} {s:Shared} {y x:V} {u v:Value} (ry:RelV y u) (rx:RelV x v) (fy:jh y=true) (fx:jh x=true):SeqAt.EqAt A s u v (eqV y x):=by
 cases y with
 | non =>
  cases ry
  cases x with
  | non=>cases rx; exact SeqAt.EqAt.same _
  | bl b=>cases rx; exact SeqAt.EqAt.none_bool b
  | int b=>obtain ⟨t,rfl⟩:=rx; exact SeqAt.EqAt.none_int b t
  | str b=>obtain ⟨t,rfl⟩:=rx; exact SeqAt.EqAt.none_str b t
  | _=>exact absurd (show false=true from fx) Bool.false_ne_true
 | bl a =>
  cases ry
  cases x with
  | non=>cases rx; exact SeqAt.EqAt.bool_none a
  | bl b=>cases rx; exact SeqAt.EqAt.bool_bool a b
  | int b=>obtain ⟨t,rfl⟩:=rx; exact SeqAt.EqAt.bool_int a b t
  | str b=>obtain ⟨t,rfl⟩:=rx; exact SeqAt.EqAt.bool_str a b t
  | _=>exact absurd (show false=true from fx) Bool.false_ne_true
 | int a =>
  obtain ⟨t',rfl⟩:=ry
  cases x with
  | non=>cases rx; exact SeqAt.EqAt.int_none a t'
  | bl b=>cases rx; exact SeqAt.EqAt.int_bool a t' b
  | int b=>obtain ⟨t,rfl⟩:=rx; exact SeqAt.EqAt.int_int a t' b t
  | str b=>obtain ⟨t,rfl⟩:=rx; exact SeqAt.EqAt.int_str a t' b t
  | _=>exact absurd (show false=true from fx) Bool.false_ne_true
 | str a =>
  obtain ⟨t',rfl⟩:=ry
  cases x with
  | non=>cases rx; exact SeqAt.EqAt.str_none a t'
  | bl b=>cases rx; exact SeqAt.EqAt.str_bool a t' b
  | int b=>obtain ⟨t,rfl⟩:=rx; exact SeqAt.EqAt.str_int a t' b t
  | str b=>obtain ⟨t,rfl⟩:=rx; exact SeqAt.EqAt.str_str a t' b t
  | _=>exact absurd (show false=true from fx) Bool.false_ne_true
 | _=>exact absurd (show false=true from fy) Bool.false_ne_true
def eqU (x:V) (u:Value):Bool:=match u with
 | .none=>eqV .non x
 | .bool b=>eqV (.bl b) x
 | .int i _=>eqV (.int i) x
 | .str z _=>eqV (.str z) x
 | _=>false
theorem xE {x y:V} {u:Value} (r:RelV y u) (f:jh y=true):eqU x u=eqV y x:=by
 cases y with
 | non=>cases r; rfl
 | bl b=>cases r; rfl
 | int i=>obtain ⟨t,rfl⟩:=r; rfl
 | str z=>obtain ⟨t,rfl⟩:=r; rfl
 | _=>exact absurd (show false=true from f) Bool.false_ne_true
theorem pj {x:V}:∀ {xs:List V} {us:List Value},Vals xs us->xs.all jh=true->us.any (eqU x)=xs.any fun y=>eqV y x
 | _,_,.nil,_=>rfl
 | y::xs,u::us,.cons r t,f=>by
  rw [List.all_cons,Bool.and_eq_true] at f
  rw [List.any_cons,List.any_cons,xE r f.1,pj t f.2]
theorem lN {A:Around} {s:Shared} {x:V} {v:Value} (rx:RelV x v) (fx:jh x=true):∀ {xs:List V} {us:List Value},Vals xs us->xs.all jh=true->∀ u∈us,SeqAt.EqAt A s u v (eqU x u)
 | _,_,.nil,_=>fun u hu=>by cases hu
 | y::xs,u::us,.cons r t,f=>fun u' hu=>by
  rw [List.all_cons,Bool.and_eq_true] at f
  rcases List.mem_cons.mp hu with rfl | hu
  ·rw [xE r f.1]; exact AB r rx f.1 fx
  ·exact lN rx fx t f.2 u' hu
def inV (x:V) (xs:List V):Bool:=xs.any fun y=>eqV y x
def rIn (K:PySem.W.Frag) (neg:Bool):R2:=fun x y H Q=>∃ p xs,y = .ref p /\ (SqL K H p xs∨SqT K H p xs) /\ jh x=true /\ xs.all jh=true /\ Q (.bl (if neg then !inV x xs else inV x xs)) H
theorem nA:OpR X (compareOp .NotIn) (rIn X.K true):=by
 intro pins s σ H x y v u Q I rx ry h
 obtain ⟨p,xs,rfl,hq,fx,fs,q⟩:=h
 cases ry
 rcases hq with hq | hq
 ·obtain ⟨its,r,pl,hz⟩:=I.list hq
  refine SeqAt.notIn_listAt (eqU x) pl.isList (fun w hw=>lN rx fx r fs w (by simpa using hw)) ⟨.bl _,H,I,rfl,?_⟩
  rw [show its.toArray.any (eqU x)=its.any (eqU x) by simp,pj r fs]
  exact q
 ·obtain ⟨its,r,pl,hz⟩:=I.tuple hq
  refine SeqAt.notIn_tupleAt (eqU x) pl (fun w hw=>lN rx fx r fs w (by simpa using hw)) ⟨.bl _,H,I,rfl,?_⟩
  rw [show its.toArray.any (eqU x)=its.any (eqU x) by simp,pj r fs]
  exact q
theorem cr:dU X (.builtin "len") (fun xs H Q=>∃ p ys,xs=[.ref p] /\ (SqL X.K H p ys∨SqT X.K H p ys) /\ Q (.int ys.length) H):=by
 intro pins s σ H xs us Q I r h
 obtain ⟨p,ys,rfl,hq,q⟩:=h
 obtain ⟨u,rfl,rx⟩:=jI r
 cases rx
 have hn:=qA
 rcases hq with hq | hq
 ·obtain ⟨its,r',pl,hz⟩:=I.list hq
  have hlen:=r'.length
  exact Calls.call_len_list pl.isList (by simp only [List.size_toArray] <;> omega) ⟨.int ys.length,H,I.tok _,⟨s.toks + 1,by rw [List.size_toArray,hlen]⟩,q⟩
 ·obtain ⟨its,r',pl,hz⟩:=I.tuple hq
  have hlen:=r'.length
  exact len_tuple pl (by simp only [List.size_toArray] <;> omega) ⟨.int ys.length,H,I.tok _,⟨s.toks + 1,by rw [List.size_toArray,hlen]⟩,q⟩
theorem nB:dU X (.type "list") (fun xs H Q=>∃ p ys,xs=[.ref p] /\ (SqL X.K H p ys∨SqT X.K H p ys) /\ ∀ l,H l=none->Q (.ref l) (upd H l (.lst ys))):=by
 intro pins s σ H xs us Q I r h
 obtain ⟨p,ys,rfl,hq,q⟩:=h
 obtain ⟨u,rfl,rx⟩:=jI r
 cases rx
 have fin:∀ (its:List Value),Vals ys its->ys.length <= sizeLine->∀ (h':Heap) (c':Nat),(∀ b o',s.heap.get? b=some o'->h'.get? b=some o') ->
   h'.get? s.heap.objs.size=some { cls:=.type "list",dict:=none,data:=.seq its.toArray c',slots:=#[] }->EP X pins σ Q (.ref s.heap.objs.size) { s with heap:=h' }:=fun its r' hz h' c' kp e =>
  ⟨.ref s.heap.objs.size,_,I.laid (t':=s.toks) kp (Nat.le_refl _) (show ObjOk X.prog X.w _ h' _ (.lst ys) from ⟨hz,its,c',r',e⟩),rfl,q _ (I.hok.fresh (Nat.le_refl _))⟩
 rcases hq with hq | hq
 ·obtain ⟨its,r',pl,hz⟩:=I.list hq
  have hlen:=r'.length
  obtain ⟨o,ho,hc,n,hd⟩:=pl.isList
  exact call_list_seq p (.inl rfl) ho hc hd (fun h' c' kp e=>fin its r' hz h' c' kp e) (by simp only [List.size_toArray] <;> omega)
 ·obtain ⟨its,r',pl,hz⟩:=I.tuple hq
  have hlen:=r'.length
  obtain ⟨o,ho,hc,n,hd⟩:=pl
  exact call_list_seq p (.inr rfl) ho hc hd (fun h' c' kp e=>fin its r' hz h' c' kp e) (by simp only [List.size_toArray] <;> omega)
theorem lO:dU X (.type "tuple") (fun xs H Q=>∃ p ys,xs=[.ref p] /\ ((SqL X.K H p ys /\ ∀ l,H l=none->Q (.ref l) (upd H l (.tup ys)))∨(SqT X.K H p ys /\ Q (.ref p) H))):=by
 intro pins s σ H xs us Q I r h
 obtain ⟨p,ys,rfl,h⟩:=h
 obtain ⟨u,rfl,rx⟩:=jI r
 cases rx
 rcases h with ⟨hq,q⟩ | ⟨hq,q⟩
 ·obtain ⟨its,r',pl,hz⟩:=I.list hq
  have hlen:=r'.length
  refine call_tuple_list pl.isList (fun h' kp=>?_) (by simp only [List.size_toArray] <;> omega)
  have I1:Inv X pins σ H { s with heap:=h' }:=I.kept (t':=s.toks) kp
  have I2:Inv X pins σ (upd H h'.objs.size (.tup ys)) { s with heap:=h'.push { cls:=.type "tuple",data:=.seq its.toArray } } :=
   I1.laid (t':=s.toks) (fun b o e=>Heap.get?_push_of_some _ e) (Nat.le_refl _) (show ObjOk X.prog X.w _ _ _ (.tup ys) from ⟨hz,its,r',IsTup.new _ _⟩)
  exact ⟨.ref h'.objs.size,_,I2,rfl,q _ (I1.hok.fresh (Nat.le_refl _))⟩
 ·obtain ⟨its,r',pl,hz⟩:=I.tuple hq
  exact call_tuple_same pl ⟨.ref p,H,I,rfl,q⟩
def tyV (K:PySem.W.Frag) (T:String) (x:V) (H:Hp):Prop:=match x with
 | .str _=>T = "str"
 | .int _=>T = "int"
 | .ref p=>(T = "list" /\ ∃ xs,SqL K H p xs)∨(T = "tuple" /\ ∃ o,K.lookup p=some o /\ o.cls = .type "tuple" /\ o.dict=none) ∨
   (T = "dict" /\ ((∃ kvs,H p=some (.dK kvs))∨∃ kvs,H p=some (.dT kvs)))∨(T = "set" /\ ∃ S n,H p=some (.set S n))
 | _=>False
theorem AC {pins:List (Addr×Obj)} {σ:St} {H:Hp} {s:Shared} {T:String} {x:V} {v:Value} (I:Inv X pins σ H s) (r:RelV x v) (ty:tyV X.K T x H) :
  s.TypeIs v T /\ ∀ a,v = .ref a->∃ ob,s.heap.get? a=some ob /\ ob.dict=none:=by
 cases x with
 | str z =>
  obtain ⟨t,rfl⟩:=r
  cases (show T = "str" from ty)
  exact ⟨typeIs_str s z t,fun _ e=>nomatch e⟩
 | int i =>
  obtain ⟨t,rfl⟩:=r
  cases (show T = "int" from ty)
  exact ⟨typeIs_int s i t,fun _ e=>nomatch e⟩
 | ref p =>
  cases r
  rcases ty with ⟨rfl,xs,hq⟩ | ⟨rfl,o,hk,hc,hd⟩ | ⟨rfl,hk⟩ | ⟨rfl,S,n,hk⟩
  ·obtain ⟨its,_,pl,_⟩:=I.list hq
   refine ⟨pl.isList.typeIs,fun a e=>?_⟩
   cases e
   obtain ⟨o,n,e,c,hd,_⟩:=pl
   exact ⟨o,e,hd⟩
  ·refine ⟨⟨o,I.kIn p o hk,hc⟩,fun a e=>?_⟩
   cases e
   exact ⟨o,I.kIn _ o hk,hd⟩
  ·have z:∃ o,s.heap.get? p=some o /\ o.ExactDict:=by
    rcases hk with ⟨kvs,hk⟩ | ⟨kvs,hk⟩
    ·obtain ⟨_,_,_,_,o,_,_,e,ex,_⟩:=I.hok p _ hk
     exact ⟨o,e,ex⟩
    ·obtain ⟨_,_,_,_,o,_,_,e,ex,_⟩:=I.hok p _ hk
     exact ⟨o,e,ex⟩
   obtain ⟨o,e,ex⟩:=z
   refine ⟨⟨o,e,ex.1⟩,fun a e2=>?_⟩
   cases e2
   exact ⟨o,e,ex.2.1⟩
  ·obtain ⟨o,_,_,_,e,ex,_⟩:=I.hok p _ hk
   refine ⟨⟨o,e,ex.1⟩,fun a e2=>?_⟩
   cases e2
   exact ⟨o,e,ex.2.1⟩
 | _=>exact False.elim ty
def tBM (K:PySem.W.Frag) (T:String) (r:V->List V->Hp->VK->Prop) (to:TE) (t:TA):TE:=fun σ H Q=>to σ H fun x H1=>tyV K T x H1 /\ t σ H1 fun xs H2=>r x xs H2 Q
variable {o e:Expr} {es:List Expr} {to:TE} {t:TA} {name:Str} {apos cpos:Pos} {T id:String} {r:V->List V->Hp->VK->Prop}
theorem yE (pa:PlainAttrs T) (slot:Slot T name id) (hty:typeOf (.builtin id)=pure (.type "method_descriptor")) (hm:MtR X id r) (ho:PE X o to) (ha:PA X (e::es) t)
  (hbase:attributeBase o name X.env (eval o X.env)=eval o X.env:=by rfl)
  (hfew:((backTo cpos (starEach (e::es) X.env)).all (fun x=>!x.1) && (backToKw cpos (keywordEach [] X.env)).all (fun x=>x.1.isSome)
   && decide ((e::es).length + ([]:List Keyword).length + (if ([]:List Keyword).isEmpty then 0 else 1) < 30))=true:=by rfl)
  (hline:(apos.endLine == cpos.line)=true:=by rfl) (hs:starEach (e::es) X.env=(false,eval e X.env)::starEach es X.env:=by rfl) (hplain:(backTo cpos (starEach es X.env)).any (·.1)=false:=by rfl) :
  PE X (.Call (.Attribute o name apos) (e::es) [] cpos) (tBM X.K T r to t):=by
 intro pins s σ H Q I h
 refine wpAny_Call_method_late hbase hfew hline rfl (thn (ho pins s σ H _ I h) fun v s1 ⟨x,H1,I1,r1,ty,q1⟩=>?_)
 obtain ⟨h1,h2⟩:=AC I1 r1 ty
 refine ⟨T,id,pa,slot,hty,h1,h2,?_⟩
 have hA:=ha cpos pins s1 σ H1 _ I1 q1
 rw [hs] at hA ⊢
 refine Calls.callWith_builtin (by show (false || (backTo cpos (starEach es X.env)).any (·.1))=false; rw [hplain] <;> rfl) (Calls.evalArgs_plain ?_)
 exact thn hA fun us s2 ⟨vs,H2,I2,r2,q2⟩=>hm pins s2 σ H2 x vs v us Q I2 r1 r2 q2
end
end L2
namespace L2
open PySem PySem.Spec PyProof.Rows
def MtM (X:Cx) (id:String) (r:V->List V->Hp->VK->Prop):Prop :=
 ∀ (pins:List (Addr×Obj)) (s:Shared) (σ:St) (H:Hp) (x:V) (xs:List V) (v:Value) (us:List Value) (Q:VK),Inv X pins σ H s->RelV x v->Vals xs us->r x xs H Q ->
  wpAny (model X.prog X.w) X.A (call (.builtin id) (v::us)) (EP X pins σ Q) X.xe s
theorem Vals.one:∀ {x:V} {us:List Value},Vals [x] us->∃ u,us=[u] /\ RelV x u
 | _,_,.cons r .nil=>⟨_,rfl,r⟩
theorem Vals.two:∀ {x y:V} {us:List Value},Vals [x,y] us->∃ u v,us=[u,v] /\ RelV x u /\ RelV y v
 | _,_,_,.cons r (.cons q .nil)=>⟨_,_,rfl,r,q⟩
theorem Vals.rep {xs:List V} {us:List Value} (h:Vals xs us):∀ k:Nat,Vals (List.replicate k xs).flatten (List.replicate k us).flatten
 | 0=>.nil
 | k + 1=>by
  rw [List.replicate_succ,List.replicate_succ,List.flatten_cons,List.flatten_cons]
  exact Vals.append h (Vals.rep h k)
theorem nC (its:List Value):∀ (k:Nat) (acc:List Value),
  List.foldl (fun x1 x2=>x1++x2) acc.toArray (List.replicate k its.toArray)=(acc++(List.replicate k its).flatten).toArray
 | 0,acc=>by simp
 | k + 1,acc=>by
  have e:acc.toArray++its.toArray=(acc++its).toArray:=by simp
  have e2:(acc++its)++(List.replicate k its).flatten=acc++(List.replicate (k + 1) its).flatten:=by
   rw [List.replicate_succ,List.flatten_cons,List.append_assoc]
  rw [← e2,← nC its k (acc++its),← e,List.replicate_succ,List.foldl_cons]
section
variable {X:Cx} {pins:List (Addr×Obj)} {σ:St} {H:Hp} {s:Shared} {l b:Addr} {xs ys zs:List V}
theorem Inv.lset {its its':List Value} {n:Nat} {f:Array Value->Array Value} {t':Nat} (I:Inv X pins σ H s) (hH:H l=some (.lst xs))
  (e:s.heap.get? l=some { cls:=.type "list",data:=.seq its.toArray n }) (hf:f its.toArray=its'.toArray) (hv:Vals ys its') (hz:ys.length <= sizeLine) :
  Inv X pins σ (upd H l (.lst ys)) { s with heap:=s.heap.update l (Obj.mapSeq f),toks:=t' }:=by
 have q:=PySem.IsL.update e f
 rw [hf] at q
 refine I.write (x:=l) (e:=l) (by rw [hH]; exact trivial) (.inl rfl) (fun b' u hb hu=>(Heap.get?_update_other s.heap (Obj.mapSeq f) (Ne.symm hb)).trans hu) ⟨_,q⟩ ?_
 exact ⟨hz,its',_,hv,q⟩
theorem Inv.lnew {its:List Value} {t':Nat} (I:Inv X pins σ H s) (hv:Vals ys its) (hz:ys.length <= sizeLine) :
  Inv X pins σ (upd H s.heap.objs.size (.lst ys)) { s with heap:=s.heap.push { cls:=.type "list",data:=.seq its.toArray },toks:=t' } :=
 I.laid (fun _ _ q=>Heap.get?_push_of_some _ q) (Nat.le_refl _) ⟨hz,its,0,hv,Heap.get?_push_size _ rfl⟩
theorem Inv.fresh (I:Inv X pins σ H s):H s.heap.objs.size=none:=I.hok.fresh (Nat.le_refl _)
theorem Inv.lstM (I:Inv X pins σ H s) (hH:H l=some (.lst xs)):xs.length <= sizeLine /\ ∃ (its:List Value) (n:Nat),Vals xs its /\ xs.length=its.length /\ s.heap.get? l=some { cls:=.type "list",data:=.seq its.toArray n }:=by
 obtain ⟨z,its,n,r,e⟩:=I.hok l _ hH
 exact ⟨z,its,n,r,r.length,e⟩
theorem wb {n:Nat} (h:n <= sizeLine):Builtin.List.listTooLong n=false:=by
 unfold Builtin.List.listTooLong
 exact decide_eq_false (by omega)
end
section
variable {X:Cx}
def tO:V->List V->Hp->VK->Prop:=fun x vs H Q=>∃ l xs y,x = .ref l /\ vs=[y] /\ H l=some (.lst xs) /\ xs.length < sizeLine /\ Q .non (upd H l (.lst (xs++[y])))
theorem jK:MtM X "list.append" tO:=by
 intro pins s σ H x vs v us Q I rx rv h
 obtain ⟨l,xs,y,rfl,rfl,hH,hz,q⟩:=h
 cases rx
 obtain ⟨u,rfl,ru⟩:=rv.one
 obtain ⟨z,its,n,r,hl,e⟩:=I.lstM hH
 refine call_meets F.slot_list_append ⟨_,e,rfl⟩ F.entry_list_append (F.args_list_append_2 _ _) (PySem.list_append l its.toArray n u (by rw [List.size_toArray]; omega)) ⟨e,?_⟩
 refine ⟨.non,_,I.lset (its':=its++[u]) hH e (by simp) (r.append (.cons ru .nil)) ?_,rfl,q⟩
 rw [List.length_append,List.length_singleton]
 omega
def rCat:R2:=fun x y H Q=>∃ l b xs zs,x = .ref l /\ y = .ref b /\ H l=some (.lst xs) /\ H b=some (.lst zs) /\ xs.length + zs.length <= sizeLine /\ ∀ p,H p=none->Q (.ref p) (upd H p (.lst (xs++zs)))
theorem AD:OpR X (binaryOp .Add) rCat:=by
 intro pins s σ H x y v u Q I rx ry h
 obtain ⟨l,b,xs,zs,rfl,rfl,hH,hB,hz,q⟩:=h
 cases rx
 cases ry
 obtain ⟨z,its,n,r,hl,e⟩:=I.lstM hH
 obtain ⟨z2,its2,n2,r2,hl2,e2⟩:=I.lstM hB
 refine PySem.P.add_list e e2 ?_ (by rw [List.size_toArray,List.size_toArray]; omega)
 have ea:its.toArray++its2.toArray=(its++its2).toArray:=by simp
 rw [ea]
 exact ⟨.ref _,_,I.lnew (t':=s.toks) (r.append r2) (by rw [List.length_append]; omega),rfl,q _ I.fresh⟩
def rRep:R2:=fun x y H Q=>∃ l k xs,x = .ref l /\ y = .int k /\ H l=some (.lst xs) /\ -(2 ^ 63) <= k /\ k < 2 ^ 63 /\ xs.length * k.toNat <= sizeLine /\
 ∀ p,H p=none->Q (.ref p) (upd H p (.lst (List.replicate k.toNat xs).flatten))
theorem yF {α:Type} (xs:List α) (k:Nat):(List.replicate k xs).flatten.length=k * xs.length:=by
 induction k with
 | zero=>simp
 | succ k ih=>rw [List.replicate_succ,List.flatten_cons,List.length_append,ih,Nat.succ_mul,Nat.add_comm]
theorem AE:OpR X (binaryOp .Mult) rRep:=by
 intro pins s σ H x y v u Q I rx ry h
 obtain ⟨l,k,xs,rfl,rfl,hH,h1,h2,hz,q⟩:=h
 cases rx
 obtain ⟨t,rfl⟩:=ry
 obtain ⟨z,its,n,r,hl,e⟩:=I.lstM hH
 have hlen:its.toArray.size * k.toNat <= sizeLine:=by rw [List.size_toArray,← hl]; exact hz
 have hcap:¬ its.toArray.size * k.toNat > (2 ^ 63 - 1) / 8:=by
  have:(sizeLine:Nat) <= (2 ^ 63 - 1) / 8:=by decide
  omega
 have hfit:¬ (!Builtin.List.listFitsIndex k)=true:=by
  rw [fitsIndex_both h1 h2]
  exact Bool.false_ne_true
 have hlong:¬ Builtin.List.listTooLong (its.toArray.size * k.toNat)=true:=by
  rw [wb hlen]
  exact Bool.false_ne_true
 have hnew:List.foldl (fun x1 x2=>x1++x2) #[] (List.replicate (if its.toArray.isEmpty=true then 0 else k.toNat) its.toArray)=(List.replicate k.toNat its).flatten.toArray:=by
  have f0:∀ m:Nat,List.foldl (fun x1 x2=>x1++x2) #[] (List.replicate m its.toArray)=(List.replicate m its).flatten.toArray:=fun m=>by
   have:=nC its m []
   rw [List.nil_append] at this
   exact this
  rw [f0]
  cases its with
  | nil=>simp
  | cons a r'=>rw [if_neg (by simp)]
 refine wpAny_binaryOp_repeat_ref (T:="list") (U:="int") (by decide) ⟨_,e,rfl⟩ (fun s'=>typeIs_int s' k t) noFill_list_mul F.fills_int_mul F.slot_int_rmul repeat_list F.slot_int_index.lookup
  (call_meets F.slot_int_rmul (typeIs_int s k t) F.entry_int_rmul (F.args_int_rmul_2 _ _) (int___rmul___int_list k t l its.toArray n)
   ⟨e,rfl,⟨_,e,rfl⟩,call_meets F.slot_list_mul ⟨_,e,rfl⟩ F.entry_list_mul (F.args_list_mul_2 _ _) (AutoListH.list___mul___list_int_3 l its.toArray n k t hfit hcap hlong) ⟨e,?_⟩⟩)
 rw [hnew]
 exact ⟨.ref _,_,I.lnew (t':=s.toks) (r.rep k.toNat) (by rw [yF,Nat.mul_comm]; exact hz),rfl,q _ I.fresh⟩
end
section
variable {prog:Program} {w:World} {A:Around} {E:Value->Shared->Prop} {s:Shared}
end
section
variable {X:Cx}
end
end L2
namespace L2
open PySem PySem.Spec PyProof.Rows
section
variable {κ:Type} [DecidableEq κ]
def valV (kvs:List (κ×V)) (k:κ):Option V:=(kvs.find? fun kv=>decide (kv.1=k)).map (·.2)
def putK (kvs:List (κ×V)) (k:κ) (v:V):List (κ×V) :=
 if (kvs.any fun kv=>decide (kv.1=k))=true then kvs.map (fun kv=>if kv.1=k then (kv.1,v) else kv) else kvs++[(k,v)]
theorem jr {p:κ×V} {r:List (κ×V)} {k:κ} (e:p.1=k):valV (p::r) k=some p.2:=by simp [valV,List.find?_cons,e]
theorem gL {p:κ×V} {r:List (κ×V)} {k:κ} (e:¬ p.1=k):valV (p::r) k=valV r k:=by simp [valV,List.find?_cons,e]
theorem lP (k:κ):∀ kvs:List (κ×V),(kvs.any fun kv=>decide (kv.1=k))=(valV kvs k).isSome
 | []=>rfl
 | p::r=>by
  rw [List.any_cons]
  by_cases e:p.1=k
  ·simp only [jr e,decide_eq_true e,Bool.true_or,Option.isSome_some]
  ·rw [gL e,decide_eq_false e,Bool.false_or]; exact lP k r
theorem gh (kvs:List (κ×V)) (k:κ) (v:V):(putK kvs k v).length <= kvs.length + 1:=by
 unfold putK
 split
 ·rw [List.length_map]; omega
 ·rw [List.length_append,List.length_cons,List.length_nil]; omega
theorem RelO.isSome_eq {o:Option V} {u:Option Value} (r:RelO o u):o.isSome=u.isSome:=by
 cases o with
 | none=>cases u with
  | none=>rfl
  | some _=>exact (show False from r).elim
 | some _=>cases u with
  | none=>exact (show False from r).elim
  | some _=>rfl
theorem RelO.getD {o:Option V} {u:Option Value} {d:V} {d':Value} (r:RelO o u) (rd:RelV d d'):RelV (o.getD d) (u.getD d'):=by
 cases o with
 | none=>cases u with
  | none=>exact rd
  | some _=>exact (show False from r).elim
 | some _=>cases u with
  | none=>exact (show False from r).elim
  | some _=>exact r
theorem KV.val {kvs:List (κ×V)} {vs:List (κ×Value)} (r:KV kvs vs) (k:κ):RelO (valV kvs k) (valueAt vs k):=by
 unfold KV at r
 induction r with
 | nil=>exact True.intro
 | @cons p q ps qs h t ih =>
  obtain ⟨h1,h2⟩:=h
  by_cases e:p.1=k
  ·have e':q.1=k:=h1.symm.trans e
   have b:valueAt (q::qs) k=some q.2:=by simp [valueAt,List.find?_cons,e']
   rw [jr e,b]; exact h2
  ·have e':¬ q.1=k:=fun z=>e (h1.trans z)
   have b:valueAt (q::qs) k=valueAt qs k:=by simp [valueAt,List.find?_cons,e']
   rw [gL e,b]; exact ih
theorem KV.any {kvs:List (κ×V)} {vs:List (κ×Value)} (r:KV kvs vs) (k:κ):(kvs.any fun kv=>decide (kv.1=k))=vs.any fun kv=>decide (kv.1=k):=by
 unfold KV at r
 induction r with
 | nil=>rfl
 | cons h t ih=>rw [List.any_cons,List.any_cons,ih,h.1]
theorem KV.repl {kvs:List (κ×V)} {vs:List (κ×Value)} (r:KV kvs vs) (k:κ) {y:V} {u:Value} (ry:RelV y u) :
  KV (kvs.map fun kv=>if kv.1=k then (kv.1,y) else kv) (vs.map fun kv=>if kv.1=k then (kv.1,u) else kv):=by
 unfold KV at r ⊢
 induction r with
 | nil=>exact .nil
 | @cons p q ps qs h t ih =>
  rw [List.map_cons,List.map_cons]
  refine .cons ?_ ih
  obtain ⟨h1,h2⟩:=h
  by_cases e:p.1=k
  ·rw [if_pos e,if_pos (h1.symm.trans e)]; exact ⟨h1,ry⟩
  ·rw [if_neg e,if_neg (fun z=>e (h1.trans z))]; exact ⟨h1,h2⟩
theorem KV.put {kvs:List (κ×V)} {vs:List (κ×Value)} (r:KV kvs vs) (k:κ) {y:V} {u:Value} (ry:RelV y u):KV (putK kvs k y) (stored vs k u):=by
 unfold putK stored
 rw [r.any k]
 by_cases e:(vs.any fun kv=>decide (kv.1=k))=true
 ·rw [if_pos e,if_pos e]; exact r.repl k ry
 ·rw [if_neg e,if_neg e]; exact Paired.snoc r ⟨rfl,ry⟩
theorem KV.length {kvs:List (κ×V)} {vs:List (κ×Value)} (r:KV kvs vs):kvs.length=vs.length:=Paired.length r
end
theorem wc {P:Program} {w:World} {k:Key} {u:Value} (r:RelV (kV k) u):(ay P w).is k u=true:=by
 cases k with
 | inl i=>obtain ⟨t,e⟩:=(show ∃ t,u=Value.int i t from r); subst e; exact oX P w i t
 | inr x=>obtain ⟨t,e⟩:=(show ∃ t,u=Value.str x t from r); subst e; exact oY P w x t
theorem nD {P:Program} {w:World}:∀ {ks:List Key} {us:List Value},Vals (ks.map kV) us->ItemsAre (ay P w) ks us
 | [],_,r=>by rw [List.map_nil] at r; cases r; exact .nil
 | k::ks,_,r=>by
  rw [List.map_cons] at r
  cases r with
  | cons h t=>exact .cons (wc h) (nD t)
abbrev KT (H:Hp):List (List Key×V)->List (List Key×Addr×Value)->Prop:=Paired fun p q=>p.1=q.1 /\ H q.2.1=some (.tup (p.1.map kV)) /\ RelV p.2 q.2.2
theorem KT.val {H:Hp} {kvs:List (List Key×V)} {xs:List (List Key×Addr×Value)} (r:KT H kvs xs) (k:List Key):RelO (valV kvs k) ((atKey xs k).map (·.2)):=by
 induction r with
 | nil=>exact True.intro
 | @cons p q ps qs h t ih =>
  obtain ⟨h1,_,h2⟩:=h
  by_cases e:p.1=k
  ·have e':q.1=k:=h1.symm.trans e
   have b:atKey (q::qs) k=some q.2:=by simp [atKey,List.find?_cons,e']
   rw [jr e,b]; exact h2
  ·have e':¬ q.1=k:=fun z=>e (h1.trans z)
   have b:atKey (q::qs) k=atKey qs k:=by simp [atKey,List.find?_cons,e']
   rw [gL e,b]; exact ih
theorem KT.repl {H:Hp} {kvs:List (List Key×V)} {xs:List (List Key×Addr×Value)} (r:KT H kvs xs) (k:List Key) {y:V} {u:Value} (ry:RelV y u) :
  KT H (kvs.map fun kv=>if kv.1=k then (kv.1,y) else kv) (xs.map (putAt k u)):=by
 induction r with
 | nil=>exact .nil
 | @cons p q ps qs h t ih =>
  rw [List.map_cons,List.map_cons]
  refine .cons ?_ ih
  obtain ⟨h1,h2,h3⟩:=h
  unfold putAt
  by_cases e:p.1=k
  ·rw [if_pos e,if_pos (h1.symm.trans e)]; exact ⟨h1,h2,ry⟩
  ·rw [if_neg e,if_neg (fun z=>e (h1.trans z))]; exact ⟨h1,h2,h3⟩
theorem KT.put {H:Hp} {kvs:List (List Key×V)} {xs:List (List Key×Addr×Value)} (r:KT H kvs xs) (k:List Key) {b:Addr} {y:V} {u:Value} (hb:H b=some (.tup (k.map kV))) (ry:RelV y u) :
  KT H (putK kvs k y) (storedH xs k b u):=by
 have e:(kvs.any fun kv=>decide (kv.1=k))=(atKey xs k).isSome:=by
  rw [lP,(r.val k).isSome_eq,Option.isSome_map]
 unfold putK storedH
 rw [e]
 by_cases q:(atKey xs k).isSome=true
 ·rw [if_pos q,if_pos q]; exact r.repl k ry
 ·rw [if_neg q,if_neg q]; exact Paired.snoc r ⟨rfl,hb,ry⟩
theorem KT.keeps {H H':Hp} {kvs:List (List Key×V)} {xs:List (List Key×Addr×Value)} (r:KT H kvs xs) (ht:∀ b ys,H b=some (.tup ys)->H' b=some (.tup ys)):KT H' kvs xs :=
 Paired.mapP r fun _ _ z=>⟨z.1,ht _ _ z.2.1,z.2.2⟩
section
variable {P:Program} {w:World} {H:Hp} {h:Heap} {a:Addr}
theorem AF {u:HO} (ok:HOk P w H h) (e:Rd H a u):ObjOk P w H h a u:=e.ok ok
theorem tP {kvs:List (Key×V)} (ok:HOk P w H h) (e:Rd H a (.dK kvs)):kvs.length <= sizeLine /\ (a == sysModules)=false /\ ∃ vs,KV kvs vs /\ h.DictOf (ay P w) a vs :=
 show ObjOk P w H h a (.dK kvs) from AF ok e
theorem Cs {kvs:List (Key×V)} (ok:HOk P w H h) (e:H a=some (.dK kvs)):kvs.length <= sizeLine /\ (a == sysModules)=false /\ ∃ vs,KV kvs vs /\ h.DictOf (ay P w) a vs:=tP ok (.inl e)
theorem kZ {ks:List Key} (ok:HOk P w H h) (e:H a=some (.tup (ks.map kV))):(tupleKind (ay P w)).is h ks a:=by
 obtain ⟨_,its,r,o,h1,h2,n,h3⟩:=(show ObjOk P w H h a (.tup (ks.map kV)) from ok a _ e)
 exact ⟨o,its.toArray,n,h1,h2,h3,by simpa using nD r⟩
theorem tQ {kvs:List (List Key×V)} (ok:HOk P w H h) (e:Rd H a (.dT kvs)):kvs.length <= sizeLine /\ (a == sysModules)=false /\
  ∃ xs,KT H kvs xs /\ h.DictOfH (tupleKind (ay P w)) a xs:=by
 obtain ⟨z,y,xs,r,o,es,ep,h1,h2,h3,h4,h5⟩:=(show ObjOk P w H h a (.dT kvs) from AF ok e)
 refine ⟨z,y,xs,r,o,es,ep,h1,h2,h3,h4,fun x hx=>?_,h5⟩
 have all:∀ {l:List (List Key×V)} {m:List (List Key×Addr×Value)},KT H l m->∀ x∈m,(tupleKind (ay P w)).is h x.1 x.2.1:=by
  intro l m q
  induction q with
  | nil=>intro x hx; exact nomatch hx
  | @cons p q ps qs hq t ih =>
   intro x hx
   rcases List.mem_cons.mp hx with e | hx
   ·subst e
    exact kZ ok (by rw [← hq.1]; exact hq.2.1)
   ·exact ih x hx
 exact all r x hx
theorem yG {kvs:List (List Key×V)} (ok:HOk P w H h) (e:H a=some (.dT kvs)):kvs.length <= sizeLine /\ (a == sysModules)=false /\
  ∃ xs,KT H kvs xs /\ h.DictOfH (tupleKind (ay P w)) a xs:=tQ ok (.inl e)
end
def DGet (H:Hp) (a:Addr) (y:V) (r:Option V):Prop :=
 (∃ kvs k,Rd H a (.dK kvs) /\ y=kV k /\ r=valV kvs k)∨∃ kvs k b,Rd H a (.dT kvs) /\ y = .ref b /\ H b=some (.tup (k.map kV)) /\ r=valV kvs k
def DPut (H:Hp) (a:Addr) (y v:V) (H':Hp):Prop :=
 (∃ kvs k,H a=some (.dK kvs) /\ y=kV k /\ kvs.length < sizeLine /\ H'=upd H a (.dK (putK kvs k v))) ∨
 ∃ kvs k b,H a=some (.dT kvs) /\ y = .ref b /\ H b=some (.tup (k.map kV)) /\ kvs.length < sizeLine /\ H'=upd H a (.dT (putK kvs k v))
theorem DGet.t {H:Hp} {a b:Addr} {kvs:List (List Key×V)} {k:List Key} (e:H a=some (.dT kvs)) (eb:H b=some (.tup (k.map kV))):DGet H a (.ref b) (valV kvs k):=.inr ⟨kvs,k,b,.inl e,rfl,eb,rfl⟩
theorem DPut.t {H:Hp} {a b:Addr} {kvs:List (List Key×V)} {k:List Key} {v:V} (e:H a=some (.dT kvs)) (eb:H b=some (.tup (k.map kV))) (hl:kvs.length < sizeLine) :
  DPut H a (.ref b) v (upd H a (.dT (putK kvs k v))):=.inr ⟨kvs,k,b,e,rfl,eb,hl,rfl⟩
section
variable {X:Cx} {pins:List (Addr×Obj)} {σ:St} {H:Hp} {s:Shared} {a:Addr} {y v:V} {u r:Value} {o:Option V} {A:Around} {E:Value->Shared->Prop}
theorem Inv.big (I:Inv X pins σ H s):sysModules < s.heap.objs.size:=by
 have h:mainGlobals < s.heap.objs.size:=(I.mod.glob.keeps I.bk).lt
 exact Nat.lt_trans (by decide) h
theorem tR {Q:Value->Shared->Prop} (hu:A.units + 1 < cLine) (I:Inv X pins σ H s) (g:DGet H a y (some v)) (ry:RelV y u) (h:∀ w' s',Inv X pins σ H s'->RelV v w'->Q w' s') :
  wpAny (model X.prog X.w) A (getItem (.ref a) u) Q E s:=by
 rcases g with ⟨kvs,k,e,ey,l⟩ | ⟨kvs,k,b,e,ey,eb,l⟩
 ·subst ey
  obtain ⟨z,hd,vs,rel,dd⟩:=tP I.hok e
  obtain ⟨w',hw,rw'⟩:=RelO.some_of (v:=v) (o:=valueAt vs k) (by rw [l]; exact rel.val k)
  exact wpAny_getItem_of (wc ry) dd.mapOf hw (h w' _ (I.tok _) rw')
 ·subst ey
  cases (show u=Value.ref b from ry)
  obtain ⟨z,hd,xs,rel,dd⟩:=tQ I.hok e
  obtain ⟨w',hw,rw'⟩:=RelO.some_of (v:=v) (o:=(atKey xs k).map (·.2)) (by rw [l]; exact rel.val k)
  obtain ⟨p,hp,hp2⟩:=Option.map_eq_some_iff.mp hw
  refine wpAny_getItem_heap (tupleKind_room_in1 hu) (kZ I.hok eb) dd hp ?_
  rw [hp2]
  exact h w' _ (I.tok _) rw'
theorem pq {h':Heap} {t':Nat} {ob:HO} (I:Inv X pins σ H s) (mu:Mut (H a)) (hs:Heap.SameBut a s.heap h') (he:∃ q,h'.get? a=some q) (new:ObjOk X.prog X.w (upd H a ob) h' a ob) :
  Inv X pins σ (upd H a ob) { s with heap:=h',toks:=t' } :=
 I.write (x:=a) (e:=a) mu (.inl rfl) (fun b q hb z=>(hs.2 b hb).trans z) he new
theorem AG {P:Program} {w:World} {H':Hp} {h':Heap} {kvs:List (Key×V)} {vs:List (Key×Value)} (z:kvs.length <= sizeLine) (hd:(a == sysModules)=false) (rel:KV kvs vs) (dd:h'.DictOf (ay P w) a vs) :
  ObjOk P w H' h' a (.dK kvs):=⟨z,hd,vs,rel,dd⟩
theorem tS {H':Hp} {Q:Unit->Shared->Prop} (hu:A.units + 1 < cLine) (I:Inv X pins σ H s) (g:DPut H a y v H') (ry:RelV y u) (rv:RelV v r) (h:∀ s',Inv X pins σ H' s'->Q () s') :
  wpAny (model X.prog X.w) A (setItem (.ref a) u r) Q E s:=by
 rcases g with ⟨kvs,k,e,ey,l,eH⟩ | ⟨kvs,k,b,e,ey,eb,l,eH⟩
 ·subst ey eH
  obtain ⟨z,hd,vs,rel,dd⟩:=Cs I.hok e
  have hz:vs.length <= sizeLine:=by rw [← rel.length]; exact z
  have hl:(putK kvs k v).length <= sizeLine:=by have:=gh kvs k v; omega
  refine wpAny_setItem_pairs (hsz:=hz) (wc ry) dd fun h' dd' hs=>h _ ?_
  have he:∃ q,h'.get? a=some q:=let ⟨q,_,_,hq,_⟩:=dd'; ⟨q,hq⟩
  exact pq I (by rw [e]; exact True.intro) hs he (AG hl hd (rel.put k rv) dd')
 ·subst ey eH
  cases (show u=Value.ref b from ry)
  obtain ⟨z,hd,xs,rel,dd⟩:=yG I.hok e
  have hz:xs.length <= sizeLine:=by rw [← Paired.length rel]; exact z
  have hl:(putK kvs k v).length <= sizeLine:=by have:=gh kvs k v; omega
  refine wpAny_setItem_heap (hsz:=hz) (tupleKind_room_in1 hu) (kZ I.hok eb) dd fun h' dd' hs=>h _ ?_
  obtain ⟨q,es,ep,hq,h2,h3,h4,_,h5⟩:=dd'
  refine pq I (by rw [e]; exact True.intro) hs ⟨q,hq⟩ ⟨hl,hd,_,(rel.put k eb rv).keeps fun c ys ec=>?_,q,es,ep,hq,h2,h3,h4,h5⟩
  rw [ak (kH ec e (fun z=>nomatch z))]
  exact ec
end
section
variable {X:Cx} {pins:List (Addr×Obj)} {σ:St} {H:Hp} {s:Shared} {a:Addr} {kvs:List (Key×V)} {k:Key} {u:Value} {A:Around} {E:Value->Shared->Prop}
end
def NoSl (i:Expr):Prop:=∀ ov iv,subscripted i false ov iv=operate [ov,iv] (getItem ov iv)
theorem yH {prog:Program} {w:World} {A:Around} {E:Value->Shared->Prop} {s:Shared} {env:Env} {value slice:Expr} {pos:Pos} {T id:String} {Q:Value->Shared->Prop}
  (hl:typeLookup (.type T) "__getitem__" = pure (some (.builtin id))) (hs:NoSl slice)
  (h:wpAny (model prog w) A (eval value env) (fun o s₁=>wpAny (model prog w) A (eval slice env) (fun i s₂=>s₂.TypeIs o T /\ wpAny (model prog w) A (getItem o i) Q E s₂) E s₁) E s) :
  wpAny (model prog w) A (eval (.Subscript value slice pos) env) Q E s:=by
 refine Subscript_ (wpAny_mono h (fun o s₁ h₁=>wpAny_mono h₁ (fun i s₂ h₂=>?_) fun _ _ x=>x) fun _ _ x=>x)
 obtain ⟨hT,h₂⟩:=h₂
 unfold subscriptTail
 refine wpAny_bind ?_
 rw [getitemInPython_of_ne hT.not_modules]
 refine wpAny_bind (wpAny_specialOf hT hl ?_)
 have fin:wpAny (model prog w) A (subscripted slice false o i) (fun r s₃=>wpAny (model prog w) A (letTemporaryGo value o r >>= fun _=>pure r) Q E s₃) E s₂:=by
  rw [hs o i]
  exact wpAny_operating (wpAny_mono h₂ (fun r s₃ h₃=>wpAny_bind (wpAny_letTemporaryGo (wpAny_pure h₃))) fun _ _ x=>x)
 first
  | exact wpAny_pure (wpAny_bind fin)
  | exact wpAny_bind (wpAny_pure (wpAny_bind fin))
  | exact wpAny_bind fin
theorem pr {X:Cx} {pins:List (Addr×Obj)} {σ:St} {H:Hp} {s:Shared} {a:Addr} {y:V} {o:Option V} (I:Inv X pins σ H s) (g:DGet H a y o):s.TypeIs (.ref a) "dict":=by
 rcases g with ⟨kvs,k,e,_,_⟩ | ⟨kvs,k,b,e,_,_,_⟩
 ·obtain ⟨_,_,vs,_,dd⟩:=tP I.hok e
  exact dd.typeIs
 ·obtain ⟨_,_,xs,_,dd⟩:=tQ I.hok e
  exact dd.typeIs
def Ct (td ty:TE):TE:=fun σ H Q=>td σ H fun x H1=>ty σ H1 fun y H2=>∃ a v,x = .ref a /\ DGet H2 a y (some v) /\ Q v H2
def Cu (td ty tv:TE):TS:=fun D σ H=>tv σ H fun v H1=>td σ H1 fun x H2=>ty σ H2 fun y H3=>∃ a H4,x = .ref a /\ DPut H3 a y v H4 /\ D.nx σ H4
section
variable {X:Cx} {o i e value:Expr} {pos pos' tpos:Pos} {td ty tv:TE}
theorem yI (hu:X.A.units + 1 < cLine) (ho:PE X o td) (hi:PE X i ty) (hs:NoSl i):PE X (.Subscript o i pos) (Ct td ty):=by
 intro pins s σ H Q I h
 refine yH PySem.F.slot_dict_getitem.lookup hs (thn (ho pins s σ H _ I h) fun u s1 ⟨x,H1,I1,rx,q1⟩=>thn (hi pins s1 σ H1 _ I1 q1) fun iv s2 ⟨y,H2,I2,ry,a,v,ex,g,q2⟩=>?_)
 subst ex
 obtain rfl:u=Value.ref a:=rx
 exact ⟨pr I2 g,tR hu I2 g ry fun w' s3 I3 rw'=>⟨v,H2,I3,rw',q2⟩⟩
theorem yJ (hu:X.A.units + 1 < cLine) (ho:PE X o td) (hi:PE X i ty) (hv:PE X value tv) (hs:swapsWith value (some (.Subscript o i pos')) pos.line X.env=pure false) :
  PS X (.Assign [.Subscript o i pos'] value pos) (Cu td ty tv):=by
 intro pins s σ H D I h
 refine wpAny_Assign_Subscript (thn (hv pins s σ H _ I h) fun r s1 ⟨v,H1,I1,rv,q1⟩=>thn (ho pins s1 σ H1 _ I1 q1) fun u s2 ⟨x,H2,I2,rx,q2⟩=>thn (hi pins s2 σ H2 _ I2 q2) fun iv s3 ⟨y,H3,I3,ry,a,H4,ex,g,q3⟩=>?_) hs
 subst ex
 obtain rfl:u=Value.ref a:=rx
 exact tS hu I3 g ry rv fun s4 I4=>⟨σ,H4,I4,q3⟩
end
theorem we {P:Program} {w:World} {H:Hp} (h:Heap) (hb:sysModules < h.objs.size):ObjOk P w H (h.push { cls:=.type "dict",data:=.dict #[] }) h.objs.size (.dT []) :=
 ⟨Nat.zero_le _,beq_eq_false_iff_ne.mpr (Ne.symm (Nat.ne_of_lt hb)),[],.nil,_,#[],0,Heap.get?_push_size _ rfl,⟨rfl,rfl,rfl⟩,rfl,rfl,List.nodup_nil⟩
def AH:TE:=fun _ H Q=>∀ p,H p=none->Q (.ref p) (upd H p (.dT []))
section
variable {X:Cx} {pos:Pos}
theorem wf:PE X (.Dict [] [] pos) AH:=fun pins s σ H Q I h =>
 wpAny_Dict_empty ⟨.ref s.heap.objs.size,_,I.laid (a:=s.heap.objs.size) (o:=.dT []) (t':=s.toks) (fun _ _ q=>Heap.get?_push_of_some _ q) (Nat.le_refl _) (we s.heap I.big),rfl,h _ (I.hok.fresh (Nat.le_refl _))⟩
end
structure M2 (X:Cx) (o:Expr) (m:Str) (apos:Pos) (e f:Expr) (cpos:Pos):Prop where
 base:attributeBase o m X.env (eval o X.env)=eval o X.env
 few:((backTo cpos (starEach [e,f] X.env)).all (fun x=>!x.1) && (backToKw cpos (keywordEach [] X.env)).all (fun x=>x.1.isSome)
  && decide (([e,f]:List Expr).length + ([]:List Keyword).length + (if ([]:List Keyword).isEmpty then 0 else 1) < 30))=true
 line:(apos.endLine == cpos.line)=true
 trees:backTo cpos (starEach [e,f] X.env)=[(false,eval e X.env),(false,eval f X.env)]
def IsD (H:Hp) (a:Addr):Prop:=(∃ kvs,Rd H a (.dK kvs))∨∃ kvs,Rd H a (.dT kvs)
theorem AI {X:Cx} {pins:List (Addr×Obj)} {σ:St} {H:Hp} {s:Shared} {a:Addr} (I:Inv X pins σ H s) (d:IsD H a) :
  s.TypeIs (.ref a) "dict" /\ (∀ b,Value.ref a = .ref b->∃ ob,s.heap.get? b=some ob /\ ob.dict=none) /\ (a == sysModules)=false:=by
 rcases d with ⟨kvs,e⟩ | ⟨kvs,e⟩
 ·obtain ⟨_,hd,vs,_,dd⟩:=tP I.hok e
  refine ⟨dd.typeIs,fun b q=>?_,hd⟩
  cases q
  obtain ⟨ob,_,_,h1,h2,_⟩:=dd
  exact ⟨ob,h1,h2.2.1⟩
 ·obtain ⟨_,hd,xs,_,dd⟩:=tQ I.hok e
  refine ⟨dd.typeIs,fun b q=>?_,hd⟩
  cases q
  obtain ⟨ob,_,_,h1,h2,_⟩:=dd
  exact ⟨ob,h1,h2.2.1⟩
section
variable {X:Cx} {pins:List (Addr×Obj)} {σ:St} {H:Hp} {s:Shared} {a:Addr} {y d:V} {u r:Value} {o:Option V} {A:Around} {E:Value->Shared->Prop}
theorem AJ {Q:Value->Shared->Prop} (hu:A.units + 1 < cLine) (I:Inv X pins σ H s) (g:DGet H a y o) (ry:RelV y u) (rd:RelV d r) (h:∀ w' s',Inv X pins σ H s'->RelV (o.getD d) w'->Q w' s') :
  wpAny (model X.prog X.w) A (call (.builtin "dict.get") [.ref a,u,r]) Q E s:=by
 rcases g with ⟨kvs,k,e,ey,l⟩ | ⟨kvs,k,b,e,ey,eb,l⟩
 ·subst ey
  obtain ⟨z,hd,vs,rel,dd⟩:=tP I.hok e
  refine call_meetsIn PySem.F.slot_dict_get dd.typeIs PySem.F.entry_dict_get (PySem.F.args_dict_get_3 _ _ _) (meets_dict_get_default (ay X.prog X.w) a (wc ry) hd r) ⟨_,dd.mapOf,h _ _ (I.tok _) ?_⟩
  rw [l]
  exact (rel.val k).getD rd
 ·subst ey
  cases (show u=Value.ref b from ry)
  obtain ⟨z,hd,xs,rel,dd⟩:=tQ I.hok e
  refine call_meetsIn PySem.F.slot_dict_get dd.typeIs PySem.F.entry_dict_get (PySem.F.args_dict_get_3 _ _ _) (meetsH_dict_get_default (tupleKind (ay X.prog X.w)) a b hd r) ⟨tupleKind_room_in1 hu,k,xs,kZ I.hok eb,dd,h _ _ (I.tok _) ?_⟩
  rw [l]
  exact (rel.val k).getD rd
end
def AK (td ty tx:TE):TE:=fun σ H Q=>td σ H fun x H1=>∃ a,x = .ref a /\ IsD H1 a /\ ty σ H1 fun y H2=>tx σ H2 fun z H3=>∃ o,DGet H3 a y o /\ Q (o.getD z) H3
section
variable {X:Cx} {o e f:Expr} {apos cpos:Pos} {td ty tx:TE}
theorem wg (hu:X.A.units + 1 < cLine) (ho:PE X o td) (he:PE X e ty) (hf:PE X f tx) (m:M2 X o "get" apos e f cpos):PE X (.Call (.Attribute o "get" apos) [e,f] [] cpos) (AK td ty tx):=by
 intro pins s σ H Q I h
 refine wpAny_Call_method m.base m.few m.line PySem.F.plainAttrs_dict PySem.F.slot_dict_get PySem.F.type_dict_get (thn (ho pins s σ H _ I h) fun u s1 ⟨x,H1,I1,rx,a,ex,d,q1⟩=>?_)
 subst ex
 obtain rfl:u=Value.ref a:=rx
 obtain ⟨t1,t2,_⟩:=AI I1 d
 refine ⟨t1,t2,?_⟩
 rw [m.trees]
 refine Calls.callWith_builtin rfl (Calls.evalArgs_plain (Calls.spliced_cons (thn (he pins s1 σ H1 _ I1 q1) fun iv s2 ⟨y,H2,I2,ry,q2⟩ =>
  Calls.spliced_cons (thn (hf pins s2 σ H2 _ I2 q2) fun fv s3 ⟨z,H3,I3,rz,ov,g,q3⟩=>Calls.spliced_nil ?_))))
 exact AJ hu I3 g ry rz fun w' s4 I4 rw'=>⟨_,H3,I4,rw',q3⟩
end
section
variable {X:Cx} {pins:List (Addr×Obj)} {σ:St} {H:Hp} {s:Shared} {a:Addr} {kvs:List (Key×V)} {A:Around} {E:Value->Shared->Prop}
end
section
variable {X:Cx} {pins:List (Addr×Obj)} {σ:St} {H:Hp} {s:Shared} {a:Addr} {y:V} {u:Value} {A:Around} {E:Value->Shared->Prop}
end
end L2
namespace Att
open PySem PySem.W PySem.Calls PyProof.Rows
theorem jL {P:Params} {h:Heap}:∀ (ns:List Int) (vs:List Value),WellAll P h vs (ns.map WData.int)->IntsAre vs ns:=by
 intro ns
 induction ns with
 | nil =>
  intro vs w
  rw [List.map_nil] at w
  cases w
  exact .nil
 | cons n ns ih =>
  intro vs w
  rw [List.map_cons] at w
  cases w with
  | cons a b =>
   cases a
   exact .cons _ _ (ih _ b)
theorem tT {l:OpenLaw} {n:Nat} (hn:l.most=some n) {P:Params} {h:Heap} {args:List WData} {vals:List Value}
  (hpre:l.row.toRowW.claim.pre args=true) (hwl:WellAll P h vals args) :
  ∃ a vs ns,vals=[Value.ref a] /\ args=[WData.list (ns.map WData.int)] /\ h.get? a=some { cls:=.type "list",data:=.seq vs.toArray } /\ IntsAre vs ns /\ ns.length <= n:=by
 have hsh:WShape.hasAll [] args [.list .int]=true:=(pre_splitW hpre).1
 have hc:l.pre.holds [] { args:=args }=true:=(pre_splitW hpre).2
 obtain ⟨d,r,rfl,h1,h2⟩:=hasAllW_cons hsh
 obtain rfl:=hasAllW_nil h2
 obtain ⟨xs,rfl,h3⟩:=hasW_list h1
 obtain ⟨ns,rfl⟩:=items_int h3
 have hlen:ns.length <= n:=by
  unfold OpenLaw.pre at hc
  have h4:(WTm.not (.lt (.lit (.int (n:Int))) (.len (.arg 0)))).holds [] { args:=[.list (ns.map .int)] }=true:=by
   have h4:=(holds_andW hc).1
   rw [hn] at h4
   exact h4
  have h5:=condW_of h4 (w_not (w_lt w_lit (w_len_list (w_arg rfl))))
  rw [List.length_map] at h5
  refine Nat.le_of_not_lt fun q=>?_
  have q':(n:Int) < ((ns.length:Nat):Int):=by omega
  first
   | (rw [decide_eq_true q'] at h5; exact absurd h5 (by decide))
   | (simp at h5; omega)
 cases hwl with
 | cons w1 w2 =>
  cases w2
  cases w1 with
  | list ho hall=>exact ⟨_,_,ns,rfl,rfl,ho,jL ns _ hall,hlen⟩
theorem tU (l:OpenLaw) (args:List WData):l.row.toRowW.claim.post args (.bool true) args=true :=
 postW_of (r:=l.row.toRowW) (X:=(true == true))
  (show WShape.has [] (.bool true) .bool=true by first | rfl | decide | simp [WShape.has,WShape.arms,WShape.armsAll])
  (show (WTm.eq .res (.lit (.bool true))).value [] { args:=args,res:=some (.bool true),after:=args }=some (.bool (true == true)) from w_eq_bool (w_res rfl) w_lit) rfl
theorem attach_call {l:OpenLaw} {n:Nat} {q:Program} {loose:List Str} {XP:(Str->Option Value)->Heap->Prop} {YP:World->Heap->Prop} {d:DefRec}
  (hn:l.most=some n) (hdf:d.params.defaults=[])
  (call:∀ (w:World) (s₀ s₁:Shared) (mg mb:Str->Option Value) (fa:Addr) (o:Obj) (pm cd doc:Value) (a:Addr) (vs:List Value) (ns:List Int),
   Ground q loose [] XP w s₀ mg mb s₁.heap->YP w s₁.heap ->
   s₁.heap.get? fa=some o->o.data = .func (docDef d.name d.params d.body d.scope pm cd doc)->s₁.heap.CodeRec cd d.name->mg d.name=some (.ref fa) ->
   s₁.heap.get? a=some { cls:=.type "list",data:=.seq vs.toArray }->IntsAre vs ns->ns.length <= n->s₁.gens = #[] ->
   codeAny (model l.prog w) callerA (.call (.ref fa) ⟨[.ref a],[]⟩) (fun r s'=>r = .ok (.ret (.bool true)) /\ OldK s₁.heap s'.heap /\ s'.os=s₁.os /\ AllBare s'.gens) s₁) :
  WalkO q loose XP YP l.row.toRowW d [] (fun f vs=>PySem.call f vs):=by
 intro w s₀ s₁ mg mb G Y fa o pm cd doc dV kV ho hd hcd hD hmg hg args vals as hpre hlay hrd hwl hlo
 obtain rfl:dV = .none:=Dflts.none hD hdf
 obtain rfl:kV = .none:=Dflts.noKw hD
 obtain ⟨a,vs,ns,rfl,rfl,hobj,hints,hlen⟩:=tT hn hpre hwl
 refine enter_call (codeAny_mono (call w s₀ s₁ mg mb fa o pm cd doc a vs ns G Y ho (fd_plain hd) hcd hmg hobj hints hlen hg) fun r s' hq=>?_)
 obtain ⟨rfl,h2,h3,h4⟩:=hq
 exact ⟨.inl ⟨.bool true,.bool true,[],rfl,fun _=>rfl,.bool true,tU l _,fun _=>⟨List.Pairwise.nil,fun _ hm=>(nomatch hm)⟩⟩,h2,h3,h4⟩
section
variable {prog:Program} {w:World} {A:Around} {E:Value->Shared->Prop} {s:Shared} {K:Frag}
end
end Att
namespace L2
open PySem PySem.Spec PyProof.Rows
theorem nE:∀ {vs:List Value} {ns:List Int},IntsAre vs ns->Vals (ns.map V.int) vs
 | _,_,.nil=>.nil
 | _,_,.cons n t h=>.cons ⟨t,rfl⟩ (nE h)
def Only (H:Hp):Prop:=∀ b,H b=none∨∃ o xs,H b=some (.frz o (.lst xs))
theorem wj {P:Program} {w:World} {K:PySem.W.Frag} {mg mb:Str->Option Value} {CX:CXT} {k:Nat} {fa a:Addr} {fd:FuncData} {x:Str} {sp:Sp} {s₁:Shared} {vs:List Value} {ns:List Int}
  (KX:K.In s₁.heap) (hns:s₁.heap.Ns mainGlobals mg) (hb:s₁.heap.Ns builtinsNs mb) (hbb:∀ x:Str,x ≠ "__name__" -> mb x=bootBuiltins x) (hlim:s₁.heap.NoLimit) (hg:s₁.gens = #[])
  (ha:s₁.heap.get? a=some { cls:=.type "list",data:=.seq vs.toArray }) (hi:IntsAre vs ns) (hl:ns.length <= sizeLine) (hr:Room k callerA)
  (F:∀ base:Heap,K.In base->base.Ns mainGlobals mg->FnOk P w K mg base CX k fa fd [x] sp) (hbind:∀ (s:Shared) (u:Value),BindsTo s fd ⟨[u],[]⟩ [(x,u)])
  (hsp:∀ H:Hp,Only H->SqL K H a (ns.map V.int)->sp [.ref a] H (fun v _=>v = .bl true) fun _ _ _=>False)
  (hCX:∀ H e s',CX [] H s₁ (fun _ _ _=>False) e s'->False) :
  codeAny (model P w) callerA (.call (.ref fa) ⟨[.ref a],[]⟩) (fun r s'=>r = .ok (.ret (.bool true)) /\ OldK s₁.heap s'.heap /\ s'.os=s₁.os /\ AllBare s'.gens) s₁:=by
 have rv:=nE hi
 have lenV:=hi.length
 -- from an abstract heap in which nothing but the script may be tracked
 have core:∀ H:Hp,Only H->SqL K H a (ns.map V.int)->HOk P w H s₁.heap->(∀ b,H b≠none->b=a)->(H a≠none->K.lookup a=none) ->
   codeAny (model P w) callerA (.call (.ref fa) ⟨[.ref a],[]⟩) (fun r s'=>r = .ok (.ret (.bool true)) /\ OldK s₁.heap s'.heap /\ s'.os=s₁.os /\ AllBare s'.gens) s₁:=by
  intro H hO hS hok hA hK
  have base_of:∀ {b:Addr} {o:Obj},s₁.heap.get? b=some o->H b=none->(hidT s₁.heap H).get? b=some o:=fun e n=>vS e n
  have noA:∀ {b:Addr} {o:Obj} {es:Array DictEntry} {ep:Nat},s₁.heap.get? b=some o->o.data = .dict es ep->H b=none:=fun {b o es ep} e d=>by
   cases q:H b with
   | none=>rfl
   | some u =>
    have e':b=a:=hA b (by rw [q]; simp)
    subst e'
    rw [ha] at e; cases e
    have d':Data.seq vs.toArray _=Data.dict es ep:=d
    cases d'
  have nsK:∀ {b:Addr} {m:Str->Option Value},s₁.heap.Ns b m->(hidT s₁.heap H).Ns b m:=fun {b m} ⟨o,es,ep,e,d,r⟩=>⟨o,es,ep,base_of e (noA e d),d,r⟩
  have hKb:K.In (hidT s₁.heap H):=fun b o e=>base_of (KX b o e) (by
   cases q:H b with
   | none=>rfl
   | some u =>
    have e':b=a:=hA b (by rw [q]; simp)
    subst e'
    rw [hK (by rw [q]; simp)] at e; cases e)
  have hM:Mod K mg (hidT s₁.heap H):=⟨hKb,nsK hns,⟨mb,nsK hb,hbb⟩,let ⟨mc,h1,h2⟩:=hlim; ⟨mc,nsK h1,h2⟩⟩
  have e0:Env0 P w K mg (hidT s₁.heap H) callerA [] s₁ H:=⟨rfl,hM,fun b o e=>yj e,Nat.le_of_eq (sV _ _),trivial,fun b hb=>absurd (show b∈([]:List Addr) from hb) (by simp),hok,.of_eq hg⟩
  refine codeAny_mono ((F _ hKb (nsK hns)).run callerA [] s₁ H ⟨[.ref a],[]⟩ [.ref a] [.ref a] _ _ hr e0 (hbind s₁ (.ref a)) (.cons rfl .nil) (hsp H hO hS)) fun r s' h=>?_
  cases r with
  | error e=>exact (hCX H e s' h).elim
  | ok fl =>
   cases fl with
   | next=>exact False.elim h
   | brk=>exact False.elim h
   | cont=>exact False.elim h
   | ret u =>
    obtain ⟨v,H',os,bare,un,hok',r',q⟩:=h
    have q':v = .bl true:=q
    subst q'
    obtain rfl:u=Value.bool true:=r'
    refine ⟨rfl,OldK.of_keep fun b o e=>?_,os,bare⟩
    cases q:H b with
    | none=>exact un.keep b o e q (by intro z; exact absurd (show b∈([]:List Addr) from z) (by simp)) (by simp)
    | some u =>
     rcases hO b with z | ⟨ob,xs,z⟩
     ·rw [q] at z; cases z
     ·have z2:=un.frzs b ob _ z
      obtain ⟨e1,_⟩:=hok b _ z
      obtain ⟨e2,_⟩:=hok' b _ z2
      rw [e] at e1; cases e1
      exact e2
 cases hk:K.lookup a with
 | some o =>
  -- the script is one of the module's own objects
  have e:=KX a o hk
  rw [ha] at e
  cases e
  refine core (fun _=>none) (fun _=>.inl rfl) (.inr ⟨_,vs.toArray,_,hk,rfl,rfl,rfl,by rw [List.size_toArray,lenV]; exact hl,by simpa using rv⟩) (fun b u z=>by have z':(none:Option HO)=some u:=z; cases z') (fun b z=>absurd rfl z) fun z=>absurd rfl z
 | none =>
  refine core (fun b=>if b=a then some (.frz { cls:=.type "list",data:=.seq vs.toArray } (.lst (ns.map V.int))) else none) (fun b=>?_) (.inl (.inr ⟨{ cls:=.type "list",data:=.seq vs.toArray },if_pos rfl⟩)) (fun b u z=>?_) (fun b z=>?_) fun _=>hk
  ·by_cases hb:b=a
   ·exact .inr ⟨_,_,if_pos hb⟩
   ·exact .inl (if_neg hb)
  ·by_cases hb:b=a
   ·have z':=(if_pos hb).symm.trans z
    cases z'
    subst hb
    exact ⟨ha,by rw [List.length_map]; exact hl,vs,_,rv,ha⟩
   ·have z':=(if_neg hb).symm.trans z
    cases z'
  ·by_cases hb:b=a
   ·exact hb
   ·exact absurd (if_neg hb) z
end L2
namespace L2
open PySem PySem.Spec PyProof.Rows
theorem walk_of {l:PySem.W.OpenLaw} {n k:Nat} {q:Program} {loose:List Str} {XP:(Str->Option Value)->Heap->Prop} {YP:World->Heap->Prop} {d:DefRec} {K:Params->PySem.W.Frag} {CX:World->CXT} {sp:World->Sp} {x:Str}
  (hn:l.most=some n) (hn2:n <= sizeLine) (hdf:d.params.defaults=[]) (hr:Room k callerA)
  (hY:∀ (w:World) (h:Heap),YP w h->(K w.params).In h)
  (F:∀ (w:World) (mg:Str->Option Value) (fa:Addr) (h:Heap),(K w.params).In h->h.Ns mainGlobals mg->mg d.name=some (.ref fa) ->
   ∃ fd:FuncData,(∀ (s:Shared) (u:Value),BindsTo s fd ⟨[u],[]⟩ [(x,u)]) /\
    ∀ base:Heap,(K w.params).In base->base.Ns mainGlobals mg->FnOk l.prog w (K w.params) mg base (CX w) k fa fd [x] (sp w))
  (hsp:∀ (w:World) (H:Hp) (a:Addr) (ns:List Int),ns.length <= n->Only H->SqL (K w.params) H a (ns.map V.int)->sp w [.ref a] H (fun v _=>v = .bl true) fun _ _ _=>False)
  (hCX:∀ (w:World) (H:Hp) (s:Shared) (e:Value) (s':Shared),CX w [] H s (fun _ _ _=>False) e s'->False) :
  PySem.W.WalkO q loose XP YP l.row.toRowW d [] (fun f vs=>PySem.call f vs):=by
 refine Att.attach_call hn hdf fun w s₀ s₁ mg mb fa o pm cd doc a vs ns G Y ho hd hcd hmg hobj hints hlen hg=>?_
 have KX:=hY w _ Y
 obtain ⟨fd,hb,hF⟩:=F w mg fa _ KX G.T.g hmg
 exact wj KX G.T.g G.T.b G.T.builtins G.T.nolimit hg hobj hints (Nat.le_trans hlen hn2) hr hF hb (fun H hO hS=>hsp w H a ns hlen hO hS) fun H e s'=>hCX w H s₁ e s'
theorem walk_ofK {l:PySem.W.OpenLaw} {n k:Nat} {q:Program} {loose:List Str} {XP:(Str->Option Value)->Heap->Prop} {YP:World->Heap->Prop} {d:DefRec} {K:Params->PySem.W.Frag} {CX:CXT} {sp:PySem.W.Frag->Sp} {x:Str}
  (hn:l.most=some n) (hn2:n <= sizeLine) (hdf:d.params.defaults=[]) (hr:Room k callerA)
  (hY:∀ (w:World) (h:Heap),YP w h->(K w.params).In h)
  (F:∀ (w:World) (mg:Str->Option Value) (fa:Addr) (h:Heap),(K w.params).In h->h.Ns mainGlobals mg->mg d.name=some (.ref fa) ->
   ∃ fd:FuncData,(∀ (s:Shared) (u:Value),BindsTo s fd ⟨[u],[]⟩ [(x,u)]) /\
    ∀ base:Heap,(K w.params).In base->base.Ns mainGlobals mg->FnOk l.prog w (K w.params) mg base CX k fa fd [x] (sp (K w.params)))
  (hsp:∀ (K:PySem.W.Frag) (H:Hp) (a:Addr) (ns:List Int),ns.length <= n->Only H->SqL K H a (ns.map V.int)->sp K [.ref a] H (fun v _=>v = .bl true) fun _ _ _=>False)
  (hCX:∀ (H:Hp) (s:Shared) (e:Value) (s':Shared),CX [] H s (fun _ _ _=>False) e s'->False) :
  PySem.W.WalkO q loose XP YP l.row.toRowW d [] (fun f vs=>PySem.call f vs) :=
 walk_of (K:=K) (CX:=fun _=>CX) (sp:=fun w=>sp (K w.params)) hn hn2 hdf hr hY F (fun w H a ns h1 h2 h3=>hsp (K w.params) H a ns h1 h2 h3) fun _ H s e s'=>hCX H s e s'
end L2
/- THE LAST THEOREM (shape; LID,My.* are yours):
  My.Adr: a structure of the addresses that your layer names (classes,functions); My.Txt K t: a structure (Prop) of the equations over K;
  My.txt_mk:{K} {implicit addresses ..} (e1:nsIn K mainGlobals "law" = some (some (.ref f))) (e2:K.lookup f = some ⟨oc,od,.func (fnOf "law" "law" params body scope dV kV doc pm an cdv ct),sl⟩) (e3:codeIn K cdv "law" = true) .. : ∃ t,My.Txt K t
set_option maxRecDepth 100000 in
set_option maxHeartbeats 0 in
theorem PySem.Challenge.cw_LID_holds:PySem.Challenge.rw_LID.Holds:=by
 w_on; o_law; k_head; (case hw=>w_witness2)
 k_fill
 refine L2.walk_of (l:=PySem.Challenge.rw_LID) (n:=63) (k:=40) (x:="script") (CX:=fun w=>..) (sp:=fun _=>My.sp_law) rfl (by decide) rfl ⟨rfl,by decide,by decide⟩ (fun w h Y=>PySem.W.kIn_of Y) ?F ?S ?C
 case F =>
  intro w mg fa h KX G hmg
  have T:∃ t,My.Txt (L2.KOf KX) t:=by
   dsimp only [L2.KOf]                          -- K must stand as «<heap const> w.params» for k_is
   refine' My.txt_mk ?e1 ?e2 ?e3 ..
   (case e1=>PySem.W.k_is)                    -- in the order: a name -> its address -> its object -> its parts
   (case e2=>PySem.W.k_is)
   ..
  obtain ⟨t,T⟩:=T
  have e0:=hmg.symm.trans (PySem.W.mg_of KX G T.law)
  cases e0                                       -- fa is the law's own address
  exact ⟨_,fun s u=>.of_eq rfl,fun base kb nb=>My.law_fn T kb nb⟩     -- if «.of_eq rfl» comes too early: refine' ⟨_,?b,fun base kb nb=>My.law_fn T kb nb⟩; exact fun s u=>.of_eq rfl
 case S=>exact fun w H a ns hl hO hS=>..
 case C=>exact ..
(the tactic k_is has no namespace: write k_is) -/
namespace L2
open PySem PySem.Spec PyProof.Rows
def aA (s:Stmt):Arguments:=match s with
 | .FunctionDef _ a _ _ _ _ _ _ _ _=>a
 | _=>{ posonlyargs:=[],args:=[],vararg:=none,kwonlyargs:=[],kw_defaults:=[],kwarg:=none,defaults:=[] }
def au (s:Stmt):List Stmt:=match s with
 | .FunctionDef _ _ b _ _ _ _ _ _ _=>b
 | _=>[]
def ae (s:Stmt):Scope:=match s with
 | .FunctionDef _ _ _ _ _ _ sc _ _ _=>sc
 | _=>{ kind:=.function,names:=[],isGenerator:=false,isCoroutine:=false }
abbrev CX0:CXT:=fun _ _ _ _ _ _=>False
abbrev E0:XK:=fun _ _ _=>False
theorem AL {X:Cx}:tG CX0 X E0:=fun _ _ _ _ _ _ _ h=>h.elim
structure Fun (K:PySem.W.Frag) (x qual:Str) (st:Stmt) (f:Addr) (fd:FuncData):Prop where
 ex:∃ (oc:Value) (od:Option Addr) (kV doc pm:Value) (an:Option Addr) (cdv ct:Value) (osl:Array (Option Value)),
  fd=PySem.W.fnOf x qual (aA st) (au st) (ae st) .none kV doc pm an cdv ct /\ K.lookup f=some ⟨oc,od,.func fd,osl⟩ /\ PySem.W.codeIn K cdv qual=true
 kp:PySem.W.keepIn K (.ref f)=true
section
variable {P:Program} {w:World} {K:PySem.W.Frag} {mg:Str->Option Value} {base:Heap}
theorem Fun.ok {x qual:Str} {st:Stmt} {f:Addr} {fd:FuncData} {N ps:List Str} {k:Nat} {sp:Sp} (F:Fun K x qual st f fd) (S:FnScope N ps (ae st)) (len:∀ vs H Q E,sp vs H Q E->vs.length=ps.length)
  (hbody:∀ (cdv:Value) (A:Around) (outer:List Env) (s:Shared) (H:Hp) (vs:List V) (Q:VK) (E:XK),Room k (A.deeper (envOfC qual (ae st) s.heap.objs.size f cdv))->sp vs H Q E ->
   ∃ t,PSs (cxOf CX0 P w K mg base N qual (ae st) f cdv A outer s H E).nox (au st) t /\ t { nx:=fun _ H'=>Q .non H',rt:=Q } (start N vs) H):FnOk P w K mg base CX0 (k + 1) f fd ps sp:=by
 obtain ⟨oc,od,kV,doc,pm,an,cdv,ct,osl,rfl,lk,hcd⟩:=F.ex
 refine Cp lk hcd S len fun A outer s H vs Q E hr hsp=>?_
 obtain ⟨t,h,q⟩:=hbody cdv A outer s H vs Q E hr hsp
 exact ⟨t,h.nox,q⟩
theorem Fun.binds {x qual:Str} {st:Stmt} {f:Addr} {fd:FuncData} {ps:List Str} (F:Fun K x qual st f fd)
  (h:∀ (kV doc pm:Value) (an:Option Addr) (cdv ct:Value) (us:List Value),us.length=ps.length->bindArgs (PySem.W.fnOf x qual (aA st) (au st) (ae st) .none kV doc pm an cdv ct) ⟨us,[]⟩=pure (ps.zip us)):Binds K fd ps []:=by
 obtain ⟨oc,od,kV,doc,pm,an,cdv,ct,osl,rfl,lk,hcd⟩:=F.ex
 exact .all (h kV doc pm an cdv ct)
theorem aU {x qual:Str} {st:Stmt} {f:Addr} {oc:Value} {od an:Option Addr} {osl:Array (Option Value)} {kV doc pm cdv ct:Value} (l:K.lookup f=some ⟨oc,od,.func (PySem.W.fnOf x qual (aA st) (au st) (ae st) .none kV doc pm an cdv ct),osl⟩)
  (c:PySem.W.codeIn K cdv qual=true) (k:PySem.W.keepIn K (.ref f)=true):Fun K x qual st f (PySem.W.fnOf x qual (aA st) (au st) (ae st) .none kV doc pm an cdv ct):=⟨⟨oc,od,kV,doc,pm,an,cdv,ct,osl,rfl,l,c⟩,k⟩
end
section
variable {X:Cx}
theorem pv (i:Nat) {x:Str} {pos:Pos} (hN:X.N[i]? = some x:=by rfl) (hv:Vis X.env.scope x:=by first | exact Or.inl rfl | exact Or.inr (Or.inl rfl) | exact Or.inr (Or.inr rfl)) (hd:(x == ("__debug__" : Str))=false:=by decide)
  (hcd:(x == ("__classdict__" : Str))=false:=by decide):PE X (.Name x pos) (tVar i):=zX hN hv hd hcd
end
theorem iteF {A B:Prop} (h:B):if false=true then A else B:=by
 rw [if_neg Bool.false_ne_true]
 exact h
theorem iteT {A B:Prop} (h:A):if true=true then A else B:=by
 rw [if_pos rfl]
 exact h
theorem ite2 {c A B:Prop} [Decidable c] (h1:c->A) (h2:¬ c->B):if c then A else B:=by
 by_cases h:c
 ·rw [if_pos h]
  exact h1 h
 ·rw [if_neg h]
  exact h2 h
def Same (H H':Hp):Prop:=∀ b o,H b=some o->H' b=some o
end L2
namespace L2
open PySem PySem.Spec PyProof.Rows
section
variable {X:Cx}
end
section
variable {κ:Type} [DecidableEq κ]
end
end L2
namespace L2
open PySem PySem.Spec PyProof.Rows
section
variable {X:Cx} {pos:Pos}
def gLs (K:PySem.W.Frag) (n:Nat) (t:TGs):TG:=fun v σ H Q=>∃ a xs,v = .ref a /\ SqL K H a xs /\ xs.length=n /\ t xs σ H Q
theorem Cv {es:List Expr} {k:Nat} {t:TGs} {n:Nat} (hc:X.calm=true) (h:PGs X es t)
  (hn:(assignEach es X.env).length=n:=by rfl) (hst:(assignEach es X.env).findIdx? (·.1)=none:=by rfl):PG X (.Tuple es k pos) (gLs X.K n t):=by
 intro pins s σ H v u Q I r hw
 obtain ⟨a,xs,e1,hq,hl,hw⟩:=hw
 subst e1
 cases r
 obtain ⟨its,rv,pl,hz⟩:=I.list hq
 rw [assign_Tuple]
 refine wpAny_bind (wpAny_standAt ?_)
 unfold unpack
 rw [show (assignEach es X.env).length=its.toArray.size by simp [hn,← hl,rv.length],hst]
 refine wpAny_bind (wpAny_holding (PySem.W.kun_itemsOf (I.ok.hd hc) pl.isList fun h' hx=>?_))
 have I1:Inv X pins σ H { s with heap:=h' }:=I.kept (t':=s.toks) fun b o e=>hx b o (Nat.ne_of_lt (Heap.lt_size e)) e
 exact h pins _ σ H xs _ Q I1 (by simpa using rv) hw
def knV (H:Hp):V->Prop
 | .non=>True | .bl _=>True | .int _=>True | .str _=>True
 | .ref a=>(∃ xs,H a=some (.lst xs))∨(∃ o xs,H a=some (.frz o (.lst xs)))∨(∃ xs,H a=some (.tup xs))∨(∃ kvs,H a=some (.dK kvs))∨(∃ kvs,H a=some (.dT kvs))
 | _=>False
def xF:V->Bool
 | .int _=>true | .bl _=>true | _=>false
def AM:V->Bool
 | .bl _=>true | _=>false
def isTupO:Option HO->Bool
 | some (.tup _)=>true | _=>false
def eX (H:Hp):V->Bool
 | .ref a=>isTupO (H a) | _=>false
theorem bF {K:PySem.W.Frag} {t T:String} {b:Bool}
  (h:(if (Value.type t == Value.type T)=true then some true else if PySem.W.kitMeta T=true then (PySem.fastBuiltinMro t).map (·.contains (.type T)) else none)=some b):PySem.W.kitOne K (.type t) (.type T)=some b:=h
theorem iy {T:String} {f:Hp->V->Bool}
  (hn:∀ (H:Hp),PySem.W.kitOne X.K (.type "NoneType") (.type T)=some (f H .non)) (hb:∀ (H:Hp) c,PySem.W.kitOne X.K (.type "bool") (.type T)=some (f H (.bl c)))
  (hi:∀ (H:Hp) i,PySem.W.kitOne X.K (.type "int") (.type T)=some (f H (.int i))) (hs:∀ (H:Hp) x,PySem.W.kitOne X.K (.type "str") (.type T)=some (f H (.str x)))
  (hl:∀ (H:Hp) a xs,H a=some (.lst xs)->PySem.W.kitOne X.K (.type "list") (.type T)=some (f H (.ref a)))
  (hf:∀ (H:Hp) a o xs,H a=some (.frz o (.lst xs))->PySem.W.kitOne X.K (.type "list") (.type T)=some (f H (.ref a)))
  (ht:∀ (H:Hp) a xs,H a=some (.tup xs)->PySem.W.kitOne X.K (.type "tuple") (.type T)=some (f H (.ref a)))
  (hd:∀ (H:Hp) a kvs,H a=some (.dK kvs)->PySem.W.kitOne X.K (.type "dict") (.type T)=some (f H (.ref a)))
  (hd':∀ (H:Hp) a kvs,H a=some (.dT kvs)->PySem.W.kitOne X.K (.type "dict") (.type T)=some (f H (.ref a))) :
  dU X (.builtin "isinstance") (fun xs H Q=>∃ x,xs=[x,.ty T] /\ knV H x /\ Q (.bl (f H x)) H):=by
 intro pins s σ H xs us Q I r h
 obtain ⟨x,rfl,kn,q⟩:=h
 obtain ⟨u1,u2,rfl,r1,r2⟩:=At r
 cases r2
 have fin:∀ t,TyOf X.K H x t->PySem.W.kitOne X.K t (.type T)=some (f H x)->wpAny (model X.prog X.w) X.A (call (.builtin "isinstance") [u1,.type T]) (EP X pins σ Q) X.xe s :=
  fun t ty e=>tE I r1 ty e fun tk=>⟨.bl (f H x),H,I.tok tk,rfl,q⟩
 cases x with
 | non=>exact fin _ .non (hn H)
 | bl c=>exact fin _ (.bl c) (hb H c)
 | int i=>exact fin _ (.int i) (hi H i)
 | str y=>exact fin _ (.str y) (hs H y)
 | ref a =>
  rcases kn with ⟨ys,e⟩ | ⟨o,ys,e⟩ | ⟨ys,e⟩ | ⟨ys,e⟩ | ⟨ys,e⟩
  ·exact fin _ (.lst e) (hl H a ys e)
  ·exact fin _ (.frz e) (hf H a o ys e)
  ·exact fin _ (.tup e) (ht H a ys e)
  ·exact fin _ (.dK e) (hd H a ys e)
  ·exact fin _ (.dT e) (hd' H a ys e)
 | _=>exact kn.elim
theorem jM {K:PySem.W.Frag}:PySem.W.kitOne K (.type "NoneType") (.type "int")=some false:=bF (by decide +kernel)
theorem pw {K:PySem.W.Frag}:PySem.W.kitOne K (.type "bool") (.type "int")=some true:=bF (by decide +kernel)
theorem rX {K:PySem.W.Frag}:PySem.W.kitOne K (.type "int") (.type "int")=some true:=bF (by decide +kernel)
theorem rY {K:PySem.W.Frag}:PySem.W.kitOne K (.type "str") (.type "int")=some false:=bF (by decide +kernel)
theorem jN {K:PySem.W.Frag}:PySem.W.kitOne K (.type "list") (.type "int")=some false:=bF (by decide +kernel)
theorem nF {K:PySem.W.Frag}:PySem.W.kitOne K (.type "tuple") (.type "int")=some false:=bF (by decide +kernel)
theorem jO {K:PySem.W.Frag}:PySem.W.kitOne K (.type "dict") (.type "int")=some false:=bF (by decide +kernel)
theorem ji {K:PySem.W.Frag}:PySem.W.kitOne K (.type "NoneType") (.type "bool")=some false:=bF (by decide +kernel)
theorem nG {K:PySem.W.Frag}:PySem.W.kitOne K (.type "bool") (.type "bool")=some true:=bF (by decide +kernel)
theorem pz {K:PySem.W.Frag}:PySem.W.kitOne K (.type "int") (.type "bool")=some false:=bF (by decide +kernel)
theorem pA {K:PySem.W.Frag}:PySem.W.kitOne K (.type "str") (.type "bool")=some false:=bF (by decide +kernel)
theorem iY {K:PySem.W.Frag}:PySem.W.kitOne K (.type "list") (.type "bool")=some false:=bF (by decide +kernel)
theorem lQ {K:PySem.W.Frag}:PySem.W.kitOne K (.type "tuple") (.type "bool")=some false:=bF (by decide +kernel)
theorem iZ {K:PySem.W.Frag}:PySem.W.kitOne K (.type "dict") (.type "bool")=some false:=bF (by decide +kernel)
theorem iz {K:PySem.W.Frag}:PySem.W.kitOne K (.type "NoneType") (.type "tuple")=some false:=bF (by decide +kernel)
theorem lR {K:PySem.W.Frag}:PySem.W.kitOne K (.type "bool") (.type "tuple")=some false:=bF (by decide +kernel)
theorem nH {K:PySem.W.Frag}:PySem.W.kitOne K (.type "int") (.type "tuple")=some false:=bF (by decide +kernel)
theorem nI {K:PySem.W.Frag}:PySem.W.kitOne K (.type "str") (.type "tuple")=some false:=bF (by decide +kernel)
theorem gM {K:PySem.W.Frag}:PySem.W.kitOne K (.type "list") (.type "tuple")=some false:=bF (by decide +kernel)
theorem kJ {K:PySem.W.Frag}:PySem.W.kitOne K (.type "tuple") (.type "tuple")=some true:=bF (by decide +kernel)
theorem gN {K:PySem.W.Frag}:PySem.W.kitOne K (.type "dict") (.type "tuple")=some false:=bF (by decide +kernel)
theorem pB:dU X (.builtin "isinstance") (fun xs H Q=>∃ x,xs=[x,.ty "int"] /\ knV H x /\ Q (.bl (xF x)) H) :=
 iy (f:=fun _ x=>xF x) (fun _=>jM) (fun _ _=>pw) (fun _ _=>rX) (fun _ _=>rY) (fun _ _ _ _=>jN) (fun _ _ _ _ _=>jN) (fun _ _ _ _=>nF) (fun _ _ _ _=>jO) (fun _ _ _ _=>jO)
theorem nJ:dU X (.builtin "isinstance") (fun xs H Q=>∃ x,xs=[x,.ty "bool"] /\ knV H x /\ Q (.bl (AM x)) H) :=
 iy (f:=fun _ x=>AM x) (fun _=>ji) (fun _ _=>nG) (fun _ _=>pz) (fun _ _=>pA) (fun _ _ _ _=>iY) (fun _ _ _ _ _=>iY) (fun _ _ _ _=>lQ) (fun _ _ _ _=>iZ) (fun _ _ _ _=>iZ)
theorem lS:dU X (.builtin "isinstance") (fun xs H Q=>∃ x,xs=[x,.ty "tuple"] /\ knV H x /\ Q (.bl (eX H x)) H) :=
 iy (f:=eX) (fun _=>iz) (fun _ _=>lR) (fun _ _=>nH) (fun _ _=>nI) (fun H a xs e=>by simp only [eX,e,isTupO]; exact gM) (fun H a o xs e=>by simp only [eX,e,isTupO]; exact gM) (fun H a xs e=>by simp only [eX,e,isTupO]; exact kJ) (fun H a xs e=>by simp only [eX,e,isTupO]; exact gN) (fun H a xs e=>by simp only [eX,e,isTupO]; exact gN)
def Big (i:Int):Prop:=i.natAbs.log2 < 8000
theorem tV {i:Int} (h:i.natAbs < 2 ^ 8000):Big i:=by
 unfold Big
 rcases Nat.eq_zero_or_pos i.natAbs with h0 | hp
 ·rw [h0]; decide
 ·exact (Nat.log2_lt (Nat.ne_of_gt hp)).mpr h
theorem Big.bits {i:Int} (h:Big i):Builtin.Int.intBits i <= 8000:=by
 unfold Builtin.Int.intBits
 unfold Big at h
 split
 ·exact Nat.zero_le _
 ·omega
def CMulB (i j:Int):Prop:=(-(2 ^ 64) < i /\ i < 2 ^ 64)∨(-(2 ^ 64) < j /\ j < 2 ^ 64)∨(Big i /\ Big j)
theorem CMulB.ok {i j:Int} (h:CMulB i j):IntMulOk i j:=by
 rcases h with ⟨h1,h2⟩ | ⟨h1,h2⟩ | ⟨h1,h2⟩
 ·exact .of_left (intBits_le_64 h1 h2)
 ·exact .of_right (intBits_le_64 h1 h2)
 ·have b1:=h1.bits
  have b2:=h2.bits
  unfold IntMulOk
  have:Builtin.Int.intTooBig (Builtin.Int.intBits i + Builtin.Int.intBits j)=false:=by
   unfold Builtin.Int.intTooBig
   refine decide_eq_false ?_
   have e:bitsLine=134217728:=by decide
   rw [e]
   omega
  rw [this]
  simp
theorem iA:OpR X (binaryOp .Mult) (rI CMulB fun i j=>.int (i * j)):=opI fun _ _ _ _ _ _ _ hc q=>mul_int q hc.ok
def Cw (_ j:Int):Prop:=0 < j /\ Big j
theorem qC:OpR X (binaryOp .FloorDiv) (rI Cw fun i j=>.int (i / j)):=opI fun i j _ _ _ _ _ hc q=>by
 have h1:(0:Int) < j:=hc.1
 exact floordiv_int (by omega) (by rw [Int.fdiv_eq_ediv_of_nonneg i (by omega)]; exact q) (.inl (PyProof.noPylong_of_log2 (Nat.lt_trans hc.2 (by decide))))
end
structure Df (K:PySem.W.Frag) (mg:Str->Option Value) (x:Str) (st:Stmt) (ps:List Str) (f:Addr) (fd:FuncData):Prop where
 F:Fun K x x st f fd
 m:mg x=some (.ref f)
 b:Binds K fd ps []
def SBut (p:Addr) (H H':Hp):Prop:=∀ b o,b≠p->H b=some o->H' b=some o
theorem SBut.trans {p:Addr} {H H1 H2:Hp} (x:SBut p H H1) (y:SBut p H1 H2):SBut p H H2:=fun b o n e=>y b o n (x b o n e)
theorem SBut.upd {p:Addr} {H:Hp} {o:HO}:SBut p H (upd H p o):=fun b u n e=>by rw [ak n]; exact e
theorem lU {q:Addr} {H:Hp} {o:HO} (h:H q=none):Same H (upd H q o):=fun b u e=>by rw [ak (bO e h)]; exact e
theorem gj {H:Hp} {p q:Addr} {o u:HO} (h:H p=none) (e:H q=some u):upd H p o q=some u:=by rw [ak (bO e h)]; exact e
def Scr (K:PySem.W.Frag) (H:Hp) (a:Addr) (ns:List Int):Prop:=(∃ o,H a=some (.frz o (.lst (ns.map V.int))))∨∀ H',SqL K H' a (ns.map V.int)
theorem Scr.sq {K:PySem.W.Frag} {H:Hp} {a:Addr} {ns:List Int} (h:Scr K H a ns):SqL K H a (ns.map V.int):=by
 rcases h with ⟨o,h⟩ | h
 ·exact .inl (.inr ⟨o,h⟩)
 ·exact h H
theorem AN {K:PySem.W.Frag} {H:Hp} {a:Addr} {ns:List Int} (h1:Only H) (h:SqL K H a (ns.map V.int)):Scr K H a ns:=by
 rcases h with (h | ⟨o,h⟩) | h
 ·rcases h1 a with z | ⟨o,xs,z⟩
  ·rw [z] at h; cases h
  ·rw [z] at h; cases h
 ·exact .inl ⟨o,h⟩
 ·exact .inr fun H'=>.inr h
structure Pen (K:PySem.W.Frag) (H:Hp) (p a:Addr) (ns:List Int) (t l:Int):Prop where
 lst:H p=some (.lst [.ref a,.int t,.int l])
 scr:Scr K H a ns
 t0:0 <= t
theorem Pen.put {K:PySem.W.Frag} {H:Hp} {p a:Addr} {ns:List Int} {t l t' l':Int} (h:Pen K H p a ns t l) (h0:0 <= t'):Pen K (upd H p (.lst [.ref a,.int t',.int l'])) p a ns t' l':=by
 refine ⟨ao,?_,h0⟩
 rcases h.scr with ⟨o,e⟩ | e
 ·refine .inl ⟨o,?_⟩
  rw [ak (kH e h.lst (by intro z; cases z))]
  exact e
 ·exact .inr e
theorem Pen.same {K:PySem.W.Frag} {H H':Hp} {p a:Addr} {ns:List Int} {t l:Int} (h:Pen K H p a ns t l) (s:Same H H'):Pen K H' p a ns t l:=by
 refine ⟨s _ _ h.lst,?_,h.t0⟩
 rcases h.scr with ⟨o,e⟩ | e
 ·exact .inl ⟨o,s _ _ e⟩
 ·exact .inr e
theorem tW {ns:List Int} {i:Int} (h0:0 <= i) (h:i < (ns.length:Int)):atI (ns.map V.int) i=some (.int (ns.getD i.toNat 0)):=by
 obtain ⟨j,rfl⟩:=Int.eq_ofNat_of_zero_le h0
 have hj:j < ns.length:=by omega
 refine pf ?_
 simp [List.getElem?_map,hj]
end L2
namespace L2
open PySem PySem.Spec PyProof.Rows
section
variable {X:Cx} {pos:Pos}
def Cy:R2:=fun x y H Q=>∃ p xs i v,x = .ref p /\ y = .int i /\ H p=some (.tup xs) /\ atI xs i=some v /\ Q v H
def Cz:R2:=fun x y H Q=>∃ p xs i v,x = .ref p /\ y = .int i /\ H p=some (.lst xs) /\ atI xs i=some v /\ Q v H
theorem yK:IxR X Cy:=fun value slice pins s σ H x y v u Q I rx ry ⟨p,xs,i,z,e1,e2,h,e3,q⟩ hs=>AA value slice pins s σ H x y v u Q I rx ry ⟨p,xs,i,z,e1,e2,SqT.of h,e3,q⟩ hs
theorem wk:IxR X Cz:=fun value slice pins s σ H x y v u Q I rx ry ⟨p,xs,i,z,e1,e2,h,e3,q⟩ hs=>lL value slice pins s σ H x y v u Q I rx ry ⟨p,xs,i,z,e1,e2,SqL.of h,e3,q⟩ hs
def lenO:Option HO->Option Nat
 | some (.lst xs)=>some xs.length | some (.tup xs)=>some xs.length | _=>none
def CA:List V->Hp->VK->Prop:=fun xs H Q=>∃ p n,xs=[.ref p] /\ lenO (H p)=some n /\ Q (.int n) H
theorem tX:dU X (.builtin "len") CA:=by
 intro pins s σ H xs us Q I r h
 obtain ⟨p,n,rfl,e,q⟩:=h
 cases o:H p with
 | none=>rw [o] at e; cases e
 | some ob =>
  rw [o] at e
  cases ob with
  | lst ys=>cases e; exact cr pins s σ H _ us Q I r ⟨p,ys,rfl,.inl (SqL.of o),q⟩
  | tup ys=>cases e; exact cr pins s σ H _ us Q I r ⟨p,ys,rfl,.inr (SqT.of o),q⟩
  | _=>cases e
def gLsH (n:Nat) (t:TGs):TG:=fun v σ H Q=>∃ a xs,v = .ref a /\ H a=some (.lst xs) /\ xs.length=n /\ t xs σ H Q
theorem AO {es:List Expr} {k:Nat} {t:TGs} {n:Nat} (hc:X.calm=true) (h:PGs X es t)
  (hn:(assignEach es X.env).length=n:=by rfl) (hst:(assignEach es X.env).findIdx? (·.1)=none:=by rfl):PG X (.Tuple es k pos) (gLsH n t) :=
 fun pins s σ H v u Q I r ⟨a,xs,e1,e2,e3,q⟩=>Cv hc h hn hst pins s σ H v u Q I r ⟨a,xs,e1,SqL.of e2,e3,q⟩
def CB (n:Nat) (t:TGs):TG:=fun v σ H Q=>∃ a xs,v = .ref a /\ H a=some (.tup xs) /\ xs.length=n /\ t xs σ H Q
theorem yL {es:List Expr} {k:Nat} {t:TGs} {n:Nat} (hc:X.calm=true) (h:PGs X es t)
  (hn:(assignEach es X.env).length=n:=by rfl) (hst:(assignEach es X.env).findIdx? (·.1)=none:=by rfl):PG X (.Tuple es k pos) (CB n t) :=
 fun pins s σ H v u Q I r ⟨a,xs,e1,e2,e3,q⟩=>Ah hc h hn hst pins s σ H v u Q I r ⟨a,xs,e1,SqT.of e2,e3,q⟩
end
end L2
namespace L2
open PySem PySem.Spec PyProof.Rows
def tY (K:PySem.W.Frag):Sp:=fun vs H Q _=>∃ (p a:Addr) (ns:List Int) (t l m:Int),vs=[.ref p,.int m] /\ Pen K H p a ns t l /\ 1 <= m /\ m <= 10 ^ 60 /\
 ∀ (r t' l':Int) (H':Hp),0 <= r->r < m->Pen K H' p a ns t' l'->SBut p H H'->Q (.int r) H'
def xG (K:PySem.W.Frag):Sp:=fun vs H Q _=>∃ (a:Addr) (ns:List Int),vs=[.ref a] /\ Scr K H a ns /\ ∀ (p:Addr) (H':Hp),H p=none->Pen K H' p a ns 0 0->Same H H'->Q (.ref p) H'
theorem lV {x d y:Int} (h0:0 < d) (h:d <= 18446744073709551616):CMulB (x % d) y:=by
 have h1:=Int.emod_nonneg x (show d≠0 by omega)
 have h2:=Int.emod_lt_of_pos x h0
 exact .inl ⟨by omega,by omega⟩
theorem wm {c y:Int} (h : -18446744073709551616 < c /\ c < 18446744073709551616:=by decide):CMulB c y:=.inl h
theorem AQ {c y:Int} (h : -18446744073709551616 < c /\ c < 18446744073709551616:=by decide):CMulB y c:=.inr (.inl h)
theorem mpos {c:Int} (h:0 < c:=by decide):0 < c:=h
theorem tZ {c:Int} (h0:0 <= c) (h:c <= 10 ^ 60):Big c:=tV (Nat.lt_of_lt_of_le (Nat.lt_of_le_of_lt (show c.natAbs <= 10 ^ 60 by omega) (show 10 ^ 60 < 2 ^ 200 by decide)) (Nat.pow_le_pow_right (by decide) (by decide)))
theorem nK {c:Int} (h0:0 <= c) (h:c <= 18446744073709551616):Big c:=tV (Nat.lt_of_lt_of_le (Nat.lt_of_le_of_lt (show c.natAbs <= 18446744073709551616 by omega) (show 18446744073709551616 < 2 ^ 65 by decide)) (Nat.pow_le_pow_right (by decide) (by decide)))
end L2
namespace Ra
end Ra
namespace L2
open PySem PySem.Spec PyProof.Rows
def dD (cells:List (Str×Addr)):List (Str×NameKind)->List (Str×Addr)->Option (List (Str×Addr))
 | [],cs=>some cs
 | (n,k)::r,cs=>if k == .free then (match cells.lookup n with
  | some c=>dD cells r ((n,c)::cs)
  | none=>none) else dD cells r cs
theorem gO {scope:Scope} {env:Env} {cl:List (Str×Addr)} (h:dD env.cells scope.names []=some cl):closureFor scope env=pure cl:=by
 simp only [closureFor]
 generalize ([]:List (Str×Addr))=cs at h ⊢
 generalize scope.names=l at h ⊢
 induction l generalizing cs with
 | nil=>cases h; rfl
 | cons a r ih =>
  obtain ⟨n,k⟩:=a
  unfold dD at h
  rw [List.forIn_cons]
  by_cases hk:(k == NameKind.free)=true
  ·rw [if_pos hk] at h
   cases e:env.cells.lookup n with
   | none=>rw [e] at h; cases h
   | some c =>
    rw [e] at h
    have:=ih _ h
    simp only [hk,if_true,cellOf,e,pure_bind]
    exact this
  ·rw [if_neg hk] at h
   have:=ih _ h
   simp only [hk,Bool.false_eq_true,if_false,pure_bind]
   exact this
theorem iB {cells cl:List (Str×Addr)}:∀ {l:List (Str×NameKind)} {cs:List (Str×Addr)},dD cells l cs=some cl->(∀ y c,cs.lookup y=some c->cells.lookup y=some c)->∀ y c,cl.lookup y=some c->cells.lookup y=some c
 | [],cs,h,hs,y,c,e=>by cases h; exact hs y c e
 | (n,k)::r,cs,h,hs,y,c,e=>by
  unfold dD at h
  by_cases hk:(k == NameKind.free)=true
  ·rw [if_pos hk] at h
   cases q:cells.lookup n with
   | none=>rw [q] at h; cases h
   | some c' =>
    rw [q] at h
    refine iB h (fun z d hz=>?_) y c e
    by_cases hzn:(z == n)=true
    ·rw [List.lookup_cons,hzn] at hz
     cases hz
     rw [eq_of_beq hzn]; exact q
    ·rw [List.lookup_cons,(Bool.not_eq_true _).mp hzn] at hz
     exact hs z d hz
  ·rw [if_neg hk] at h
   exact iB h hs y c e
theorem fM {cells cl:List (Str×Addr)}:∀ {l:List (Str×NameKind)} {cs:List (Str×Addr)},dD cells l cs=some cl->∀ y,((y,NameKind.free)∈l∨∃ c,cs.lookup y=some c)->∃ c,cl.lookup y=some c
 | [],cs,h,y,e=>by
  cases h
  rcases e with e | e
  ·simp at e
  ·exact e
 | (n,k)::r,cs,h,y,e=>by
  unfold dD at h
  by_cases hk:(k == NameKind.free)=true
  ·rw [if_pos hk] at h
   cases q:cells.lookup n with
   | none=>rw [q] at h; cases h
   | some c' =>
    rw [q] at h
    refine fM h y ?_
    rcases e with e | ⟨c,e⟩
    ·rcases List.mem_cons.mp e with e | e
     ·cases e
      exact .inr ⟨c',by rw [List.lookup_cons,beq_self_eq_true]⟩
     ·exact .inl e
    ·by_cases hyn:(y == n)=true
     ·exact .inr ⟨c',by rw [List.lookup_cons,hyn]⟩
     ·exact .inr ⟨c,by rw [List.lookup_cons,(Bool.not_eq_true _).mp hyn]; exact e⟩
  ·rw [if_neg hk] at h
   refine fM h y ?_
   rcases e with e | e
   ·rcases List.mem_cons.mp e with e | e
    ·cases e
     exact absurd rfl hk
    ·exact .inl e
   ·exact .inr e
inductive Cap (X:Cx) (scope:Scope):List Str->List (Option Nat)->Prop where
 | nil:Cap X scope [] []
 | own {x:Str} {N:List Str} {js:List (Option Nat)} (h:Cap X scope N js):Cap X scope (x::N) (none::js)
 | cap {x:Str} {j:Nat} {N:List Str} {js:List (Option Nat)} (h1:X.N[j]? = some x) (h2:X.env.kindOf x=some .cell∨X.env.kindOf x=some .free)
   (h3:scope.names.lookup x=some .free) (h:Cap X scope N js):Cap X scope (x::N) (some j::js)
def sub1 (σ:St):Option Nat->Option V
 | none=>none
 | some j=>(σ[j]?).join
def sub (js:List (Option Nat)) (σ:St):St:=js.map (sub1 σ)
theorem Cap.len {X:Cx} {scope:Scope} {N:List Str} {js:List (Option Nat)} (h:Cap X scope N js):js.length=N.length:=by induction h <;> simp [*]
theorem Cap.at {X:Cx} {scope:Scope} {N:List Str} {js:List (Option Nat)} (h:Cap X scope N js):∀ {i:Nat} {x:Str} {σ:St} {v:V},N[i]? = some x->(sub js σ)[i]? = some (some v) ->
  ∃ j:Nat,X.N[j]? = some x /\ σ[j]? = some (some v) /\ (X.env.kindOf x=some .cell∨X.env.kindOf x=some .free) /\ scope.names.lookup x=some .free:=by
 induction h with
 | nil=>intro i x σ v h; simp at h
 | own h ih =>
  intro i x σ v h1 h2
  cases i with
  | zero=>simp [sub,sub1] at h2
  | succ i=>exact ih (by simpa using h1) (by simpa [sub] using h2)
 | @cap x j N js k1 k2 k3 h ih =>
  intro i y σ v h1 h2
  cases i with
  | zero =>
   simp at h1
   subst h1
   simp [sub,sub1] at h2
   refine ⟨j,k1,?_,k2,k3⟩
   cases q:σ[j]? with
   | none=>rw [q] at h2; simp at h2
   | some o=>rw [q] at h2; simp at h2; rw [h2]
  | succ i=>exact ih (by simpa using h1) (by simpa [sub] using h2)
def dE (X:Cx) (scope:Scope) (cl:List (Str×Addr)) (C:Addr) (N':List Str) (s₃:Shared) (H₃:Hp) (fp:List Addr) (pins:List (Addr×Obj)):Cx :=
 { X with N:=N',s₀:=s₃,H₀:=H₃,env:=compEnvC scope cl C X.env,outer:=X.stack,ex:=fp,fn:=fun y=>scope.names.lookup y == some .cell,pn:=X.pn++pins,xe:=fun _ _=>False }
structure Blk where
 C:Addr
 s3:Shared
 H3:Hp
 fp:List Addr
 pins:List (Addr×Obj)
abbrev cxB (X:Cx) (scope:Scope) (cl:List (Str×Addr)) (N':List Str) (B:Blk):Cx:=dE X scope (cellsFrom (B.C + 1) scope.names cl) B.C N' B.s3 B.H3 B.fp B.pins
def PTs (X:Cx) (ifs:List Expr) (t:TT):Prop :=
 ∀ (pins:List (Addr×Obj)) (s:Shared) (σ:St) (H:Hp) (Q:Bool->Hp->Prop),Inv X pins σ H s->t σ H Q ->
  wpAny (model X.prog X.w) X.A (forIn ifs true fun c r=>if r=true then do let ok ← isTrue c X.env (eval c X.env); pure (ForInStep.yield ok) else pure (ForInStep.yield r)) (TP X pins σ Q) X.xe s
def yM:TT:=fun _ H Q=>Q true H
theorem yN {X:Cx}:PTs X [] yM:=fun _ _ _ H _ I h=>wpAny_tests_nil ⟨H,I,h⟩
theorem yO {X:Cx} {c:Expr} {t:TT} (h:PT X c t):PTs X [c] t:=fun pins s σ H Q I q=>wpAny_tests_one (h pins s σ H Q I q)
def yP (wi:TI) (js:List (Option Nat)) (g:Blk->TG) (tc:Blk->TT) (te:Blk->TE):TE:=fun σ H Q=>wi σ H fun J H1=>∀ (B:Blk) D,H1 D=none->∃ W:Nat->Nat->St->Hp->Prop,(∃ m,W 0 m (sub js σ) (upd H1 D (.lst []))) /\ ∀ i m σ' H',W i m σ' H' ->
 (J.stop i H' /\ Q (.ref D) H')∨(J.go i H' /\ ∃ N:St->Hp->Prop,(∀ σ2 H2,N σ2 H2->∃ m',m' < m /\ W (i + 1) m' σ2 H2) /\ ∀ y H2,J.yld i H' y H2->g B y σ' H2 fun σ3 H3=>tc B σ3 H3 fun b H4 =>
  if b=true then te B σ3 H4 fun v H5=>∃ ys,H5 D=some (.lst ys) /\ ys.length < sizeLine /\ N σ3 (upd H5 D (.lst (ys++[v]))) else N σ3 H4)
theorem nL {scope:Scope} {env:Env} {y:Str} (h:(relabel scope env).names.lookup y=some .cell∨(relabel scope env).names.lookup y=some .free):(y,NameKind.free)∈scope.names∨(y,NameKind.cell)∈scope.names:=by
 have key:∀ k,(y,k)∈(relabel scope env).names->(k = .cell∨k = .free)->(y,NameKind.free)∈scope.names∨(y,NameKind.cell)∈scope.names:=by
  intro k hm hk
  obtain ⟨⟨n,q⟩,hn,e⟩:=List.mem_map.mp hm
  dsimp only at e
  split at e
  ·rename_i c
   simp only [Bool.and_eq_true] at c
   have:q = .free:=eq_of_beq c.1.1
   subst this
   cases e
   exact .inl hn
  ·cases e
   rcases hk with rfl | rfl
   ·exact .inr hn
   ·exact .inl hn
 rcases h with h | h
 ·exact key _ (PySem.mem_of_lookup h) (.inl rfl)
 ·exact key _ (PySem.mem_of_lookup h) (.inr rfl)
theorem jP {scope:Scope} {env:Env} {y:Str} (h:scope.names.lookup y=some .free):(relabel scope env).names.lookup y=some .cell∨(relabel scope env).names.lookup y=some .free:=by
 show (List.lookup y (scope.names.map _))=_∨(List.lookup y (scope.names.map _))=_
 generalize scope.names=l at h
 induction l with
 | nil=>simp at h
 | cons a r ih =>
  obtain ⟨n,k⟩:=a
  rw [List.lookup_cons] at h
  rw [List.map_cons]
  cases e:y == n with
  | true =>
   rw [e] at h
   cases h
   dsimp only
   split
   ·left; rw [List.lookup_cons,e]
   ·right; rw [List.lookup_cons,e]
  | false =>
   rw [e] at h
   dsimp only
   split <;> (rw [List.lookup_cons,e]; exact ih h)
theorem bA:∀ (names:List (Str×NameKind)) (n:Nat) (acc:List (Str×Addr)),cellsFrom n names acc=cellsFrom n names []++acc
 | [],_,_=>rfl
 | (x,k)::r,n,acc=>by
  unfold cellsFrom
  split
  ·rw [bA r (n + 1) ((x,n)::acc),bA r (n + 1) [(x,n)],List.append_assoc]; rfl
  ·exact bA r n acc
theorem dM:∀ (names:List (Str×NameKind)) (n:Nat) (y:Str) (c:Addr),(y,c)∈cellsFrom n names []->(y,NameKind.cell)∈names
 | [],_,_,_,h=>(nomatch h)
 | (x,k)::r,n,y,c,h=>by
  unfold cellsFrom at h
  split at h
  ·rename_i hk
   rw [bA] at h
   rcases List.mem_append.mp h with h | h
   ·exact List.mem_cons_of_mem _ (dM r _ y c h)
   ·have e:=List.mem_singleton.mp h
    cases e
    rw [show k = .cell from eq_of_beq hk]
    exact List.mem_cons_self
  ·exact List.mem_cons_of_mem _ (dM r _ y c h)
theorem gP:∀ {l:List (Str×Addr)} {y:Str} {c:Addr},(y,c)∈l->∃ d,l.lookup y=some d
 | (x,k)::r,y,c,h=>by
  rw [List.lookup_cons]
  cases e:y == x with
  | true=>exact ⟨_,rfl⟩
  | false =>
   rcases List.mem_cons.mp h with h | h
   ·cases h; simp at e
   ·exact gP h
theorem eJ:∀ (names:List (Str×NameKind)) (n:Nat) (y:Str),(y,NameKind.cell)∈names->∃ c,(y,c)∈cellsFrom n names []
 | (x,k)::r,n,y,h=>by
  unfold cellsFrom
  split
  ·rw [bA]
   rcases List.mem_cons.mp h with h | h
   ·cases h
    exact ⟨n,List.mem_append_right _ (List.mem_singleton.mpr rfl)⟩
   ·obtain ⟨c,q⟩:=eJ r (n + 1) y h
    exact ⟨c,List.mem_append_left _ q⟩
  ·rename_i hk
   rcases List.mem_cons.mp h with h | h
   ·cases h; exact absurd rfl hk
   ·exact eJ r n y h
theorem dX {l r:List (Str×Addr)} {y:Str} {c:Addr} (h:(l++r).lookup y=some c):l.lookup y=some c∨(l.lookup y=none /\ r.lookup y=some c):=by
 rw [List.lookup_append] at h
 cases e:l.lookup y with
 | none=>rw [e] at h; exact .inr ⟨rfl,h⟩
 | some d=>rw [e] at h; exact .inl h
theorem jQ {l r:List (Str×Addr)} {y:Str} {c:Addr} (h:l.lookup y=some c):(l++r).lookup y=some c:=by rw [List.lookup_append,h]; rfl
theorem jR {l r:List (Str×Addr)} {y:Str} (h:l.lookup y=none):(l++r).lookup y=r.lookup y:=by rw [List.lookup_append,h]; rfl
theorem jj {M:Model} {A:Around} {E:Value->Shared->Prop} {s:Shared} {scope:Scope} {globals:Addr} {cl:List (Str×Addr)} {qual:Str} {outer:Env} {Q:Env->Shared->Prop}
  (h:∀ h₁:Heap,h₁.Ns s.heap.objs.size (fun _=>none)->(∀ b o,s.heap.get? b=some o->h₁.get? b=some o)->CellsOk h₁ (s.heap.objs.size + 1) (cellsFrom (s.heap.objs.size + 1) scope.names []) ->
   Q (newEnv scope s.heap.objs.size globals (cellsFrom (s.heap.objs.size + 1) scope.names cl) qual none .none (some outer) builtinsNs) { s with heap:=h₁ }) :
  wpAny M A (newFunctionEnv scope globals cl [] qual none .none (some outer)) Q E s:=by
 simp only [newFunctionEnv,Option.isSome_some,if_true]
 refine wpAny_bind (wpAny_alloc ?_)
 refine wpAny_bind (wpAny_layCells _ (fun name kind cells=>by cases hkc:kind == NameKind.cell <;> simp [hkc]) _ _ _ _ ?_)
 have ok:=cellsFrom_ok scope.names (s.heap.push { cls:=.type "dict",data:=.dict #[] }) (s.heap.objs.size + 1) [] ⟨fun _ _ hm=>(nomatch hm),List.Pairwise.nil⟩ (by rw [Heap.size_push]; exact Nat.le_refl _)
 rw [Heap.size_push] at ok
 rw [show ({ s with heap:=s.heap.push { cls:=.type "dict",data:=.dict #[] } }:Shared).heap.objs.size=s.heap.objs.size + 1 from Heap.size_push ..]
 rw [List.forIn_nil]
 exact wpAny_bind (wpAny_pure (wpAny_pure (h _ ((Heap.Ns.new s.heap (.type "dict")).keeps (pushCells_keeps _ _)) (fun b o e=>pushCells_keeps _ _ b o (Heap.get?_push_of_some _ e)) ok)))
section
variable {X:Cx} {pins:List (Addr×Obj)} {σ:St} {H:Hp} {s:Shared} {scope:Scope} {cl:List (Str×Addr)} {N':List Str} {js:List (Option Nat)}
theorem wn {fp:List Addr} {h₁:Heap} (I:Inv X pins σ H s) (hclo:dD X.env.cells scope.names []=some cl) (hdis:∀ y∈scope.names,y.2 = .free->(y.1,NameKind.cell)∉scope.names) (hkind:scope.kind = .function) (cap:Cap X scope N' js)
  (hf:∀ b∈fp,FpOk X pins H b) (ho:∀ b∈fp,∃ o,s.heap.get? b=some o)
  (hns:h₁.Ns s.heap.objs.size (fun _=>none)) (hk:∀ b o,s.heap.get? b=some o->h₁.get? b=some o) (cok:CellsOk h₁ (s.heap.objs.size + 1) (cellsFrom (s.heap.objs.size + 1) scope.names [])) {t':Nat} :
  Inv (dE X scope (cellsFrom (s.heap.objs.size + 1) scope.names cl) s.heap.objs.size N' s H fp pins) [] (sub js σ) H { s with heap:=h₁,toks:=t' }:=by
 have sb:=iB hclo (fun y c e=>by simp at e)
 rw [bA]
 generalize hnw:cellsFrom (s.heap.objs.size + 1) scope.names []=nw at cok ⊢
 have nk:∀ y c,(y,c)∈nw->(y,NameKind.cell)∈scope.names:=fun y c h=>by rw [← hnw] at h; exact dM _ _ y c h
 have nh:∀ y,(y,NameKind.cell)∈scope.names->∃ c,nw.lookup y=some c:=fun y h=>by
  obtain ⟨c,q⟩:=eJ scope.names (s.heap.objs.size + 1) y h
  rw [hnw] at q
  exact gP q
 have ng:∀ y c,nw.lookup y=some c->h₁.IsCell c none /\ s.heap.objs.size + 1 <= c:=fun y c h=>cok.empty y c (PySem.mem_of_lookup h)
 have old:∀ y c,cl.lookup y=some c->c < s.heap.objs.size:=fun y c h=>by
  obtain ⟨v,o,q1,q2⟩:=I.cell y c (sb y c h)
  exact Heap.lt_size q1
 have nf:∀ y,(y,NameKind.free)∈scope.names->nw.lookup y=none:=fun y h=>by
  cases e:nw.lookup y with
  | none=>rfl
  | some c=>exact absurd (nk y c (PySem.mem_of_lookup e)) (hdis _ h rfl)
 refine ⟨⟨I.ok.mod,hkind,I.ok.glob,I.ok.blt,Nat.le_refl _,fun y z c h1 h2=>?_,fun y hy=>?_,fun y c z h=>?_,I.ok.hd,I.ok.frames,.inl rfl,fun b hb=>⟨?_,fun y c h=>?_⟩,I.bs,Nat.le_trans I.ok.bsz I.sz,fun b o e hb=>?_,fun b hb=>?_,I.stack,I.stkFree⟩,
  rfl,I.bare,Un.kept hk,⟨_,hns,fun i y v h1 h2 h3=>?_⟩,fun y c h=>?_,I.hok.fresh (Nat.le_refl _),fun y c h=>?_,fun p hp=>?_,I.hok.kept hk,?_⟩
 ·rcases dX h1 with a | ⟨_,a⟩ <;> rcases dX h2 with b | ⟨_,b⟩
  ·exact name_of_addr cok.apart (PySem.mem_of_lookup a) (PySem.mem_of_lookup b)
  ·exact absurd (Nat.lt_of_lt_of_le (old z c b) (Nat.le_of_succ_le (ng y c a).2)) (Nat.lt_irrefl _)
  ·exact absurd (Nat.lt_of_lt_of_le (old y c a) (Nat.le_of_succ_le (ng z c b).2)) (Nat.lt_irrefl _)
  ·exact I.ok.inj y z c (sb y c a) (sb z c b)
 ·show ∃ c,(nw++cl).lookup y=some c
  rcases nL hy with q | q
  ·obtain ⟨c,e⟩:=fM hclo y (.inl q)
   exact ⟨c,by rw [jR (nf y q)]; exact e⟩
  ·obtain ⟨c,e⟩:=nh y q
   exact ⟨c,jQ e⟩
 ·have z:(y,NameKind.cell)∈scope.names:=PySem.mem_of_lookup (eq_of_beq z)
  obtain ⟨d,e⟩:=nh y z
  have h:(nw++cl).lookup y=some c:=h
  rw [jQ e] at h
  have h:d=c:=Option.some.inj h
  rw [← h]
  exact Nat.le_of_succ_le (ng y d e).2
 ·obtain ⟨o,e⟩:=ho b hb
  exact Nat.ne_of_lt (Heap.lt_size e)
 ·rcases dX h with a | ⟨_,a⟩
  ·obtain ⟨o,e⟩:=ho b hb
   rintro rfl
   exact absurd (Nat.lt_of_lt_of_le (Heap.lt_size e) (Nat.le_of_succ_le (ng y c a).2)) (Nat.lt_irrefl _)
  ·exact (hf b hb).2.2.2.2.1 y c (sb y c a)
 ·have fb:=hf b hb
  rcases fb.2.2.2.1 with z | z
  ·exact I.ok.noex b o e z
  ·have h1:b < X.base.objs.size:=Heap.lt_size e
   exact absurd (Nat.lt_of_lt_of_le h1 (Nat.le_trans I.ok.bsz z)) (Nat.lt_irrefl _)
 ·intro z
  have:=I.stkSub b z
  rcases List.mem_cons.mp this with z | z
  ·exact (hf b hb).2.1 z
  ·exact (hf b hb).2.2.1 z
 ·obtain ⟨j,k1,k2,k3,k4⟩:=cap.at h1 h2
  obtain ⟨m,hm,hl⟩:=I.loc
  have vis:Vis X.env.scope y:=by
   rcases k3 with k | k
   ·exact .inr (.inl k)
   ·exact .inr (.inr k)
  obtain ⟨u,r,lk⟩:=hl j y v k1 k2 vis
  refine ⟨u,r,.inr ⟨jP k4,?_⟩⟩
  have q4:(y,NameKind.free)∈scope.names:=PySem.mem_of_lookup k4
  rcases lk with ⟨k5,_⟩ | ⟨_,c,e1,e2⟩
  ·rcases k3 with k | k <;> (rw [k] at k5; cases k5)
  ·obtain ⟨c',e3⟩:=fM hclo y (.inl q4)
   have:=sb y c' e3
   rw [e1] at this
   cases this
   refine ⟨c,by show (nw++cl).lookup y=some c; rw [jR (nf y q4)]; exact e3,?_⟩
   obtain ⟨o,q1,q2⟩:=e2
   exact ⟨o,hk _ _ q1,q2⟩
 ·rcases dX h with a | ⟨_,a⟩
  ·exact ⟨_,(ng y c a).1⟩
  ·obtain ⟨v,o,q1,q2⟩:=I.cell y c (sb y c a)
   exact ⟨v,o,hk _ _ q1,q2⟩
 ·rcases dX h with a | ⟨_,a⟩
  ·exact I.hok.fresh (Nat.le_of_succ_le (ng y c a).2)
  ·exact I.freeC y c (sb y c a)
 ·have hp:p∈X.pn++pins:=by simpa [dE] using hp
  obtain ⟨q1,q2,q3,q4,q5⟩:=I.pin p hp
  refine ⟨hk _ _ q1,q2,Nat.ne_of_lt (Heap.lt_size q1),fun z=>?_,q5⟩
  have:=I.stkSub p.1 z
  rcases List.mem_cons.mp this with z | z
  ·exact q3 z
  ·exact q4 z
 ·simp [sub,cap.len]; rfl
theorem AR {fs ex:List Addr} {H:Hp} {h h':Heap} {C:Addr} (hC:C∈ex) (hs:Heap.SameBut C h h'):Un fs ex H H h h' where
 keep:=fun b o e _ _ nx=>by rw [hs.2 b (by rintro rfl; exact nx hC)]; exact e
 slot:=fun b o e _ _ nx=>⟨o.slots,by rw [hs.2 b (by rintro rfl; exact nx hC)]; exact e⟩
 free:=fun b o _ n _=>n
 there:=fun b o e nx=>⟨o,by rw [hs.2 b (by rintro rfl; exact nx hC)]; exact e⟩
 tups:=fun _ _ h=>h
 frzs:=fun _ _ _ h=>h
 tbls:=fun b ps h=>⟨#[],by simpa using h⟩
theorem Inv.but {C:Addr} {h':Heap} (I:Inv X pins σ H s) (f:FpOk X pins H C) (hs:Heap.SameBut C s.heap h'):Inv X pins σ H { s with heap:=h' }:=by
 refine I.call' (s':={ s with heap:=h' }) (ch:=[C]) rfl (AR List.mem_cons_self hs) ?_ I.bare (fun b hb=>?_)
 ·intro a o e
  refine ObjOk.stay (I.hok a o e) (fun b u hb q=>?_) (fun _ h=>h) (fun _ _ h=>h)
  show h'.get? b=some u
  rw [hs.2 b]
  ·exact q
  ·rintro rfl
   rcases hb with rfl | hb
   ·rw [f.1] at e; cases e
   ·rw [f.1] at hb; cases hb
 ·have:b=C:=by simpa using hb
  subst this
  exact ⟨f.2.2.2.1,f.2.1,f.2.2.2.2.1,f.2.2.2.2.2⟩
variable {elt iter:Expr} {x:Str} {px pos:Pos} {ifs:List Expr} {wi:TI} {g:TG} {tc:TT} {te:TE} {Q:VK} {gB:Blk->TG} {tcB:Blk->TT} {teB:Blk->TE}
theorem uc {prog:Program} {w:World} {A:Around} {R:Result->Shared->Prop} {e tg it0:Expr} {cs:List Expr} {sc:Scope} {ps:Pos} {itv av:Value} {cenv:Env} {z:Shared} (J:Nat->Shared->Prop)
  (turn:∀ k z,J k z->wpAny (model prog w) A (pyNext itv) (fun r z1=>match r with
   | none=>R (.ok .next) z1
   | some u=>wpAny (model prog w) A (letOwnedTupleGo tg itv u) (fun _ z2=>wpAny (model prog w) A (assign tg cenv u) (fun _ z3 =>
     wpAny (model prog w) A (forIn cs true fun c r=>if r=true then do let ok ← isTrue c cenv (eval c cenv); pure (ForInStep.yield ok) else pure (ForInStep.yield r)) (fun b z4 =>
      if b=true then wpAny (model prog w) A (eval e cenv) (fun y z5 =>
       wpAny (model prog w) A (call (.builtin "list.append") [av,y]) (fun _ z6=>∃ m,m < k /\ J m z6) (fun _ _=>False) z5) (fun _ _=>False) z4
      else ∃ m,m < k /\ J m z4) (fun _ _=>False) z3) (fun _ _=>False) z2) (fun _ _=>False) z1) (fun _ _=>False) z)
  (k:Nat) (h:J k z):codeAny (model prog w) A (.compLoop (.ListComp e [⟨tg,it0,cs,0⟩] sc ps) 0 itv av cenv) R z:=by
 have no:∀ {α:Type} {m:Sem α} {P:α->Shared->Prop} {E:Value->Shared->Prop} {z:Shared},wpAny (model prog w) A m P (fun _ _=>False) z->wpAny (model prog w) A m P E z:=fun h=>wpAny_mono h (fun _ _ q=>q) fun _ _ q=>q.elim
 refine codeAny_loop rfl J (fun k z hJ=>?_) k h
 show wpAny _ A ((compTurn (.ListComp e [⟨tg,it0,cs,0⟩] sc ps) 0 itv av cenv).onRaise (fun x=>do noteFrame x cenv; theTreesLotGoes x)) _ _ z
 refine wpAny_noted ?_
 rw [compTurn_list]
 refine wpAny_bind (wpAny_standAt (wpAny_bind (no (thn (turn k z hJ) fun r z1 q1=>?_))))
 cases r with
 | none=>exact wpAny_pure q1
 | some u =>
  refine wpAny_bind (no (thn q1 fun _ z2 q2=>wpAny_bind (no (thn q2 fun _ z3 q3=>wpAny_bind (no (thn q3 fun b z4 q4=>?_))))))
  cases b with
  | false=>exact wpAny_pure ⟨rfl,q4⟩
  | true=>exact wpAny_bind (wpAny_bind (no (thn q4 fun y z5 q5=>wpAny_bind (no (thn q5 fun _ z6 q6=>wpAny_pure (wpAny_pure ⟨rfl,q6⟩))))))
theorem rZ {RR:Value->Addr->Result->Shared->Prop} {s3:Shared} {H3:Hp} {D it:Addr} {fp:List Addr} {tn:Nat->Heap->Prop} {J:It} {W:Nat->Nat->St->Hp->Prop} {m0 t':Nat} {h₁:Heap} {tg:Expr}
  (hc:X.calm=true) (hclo:dD X.env.cells scope.names []=some cl) (hdis:∀ y∈scope.names,y.2 = .free->(y.1,NameKind.cell)∉scope.names) (hkind:scope.kind = .function) (cap:Cap X scope N' js)
  (hb:PG (dE X scope (cellsFrom (s3.heap.objs.size + 1) scope.names cl) s3.heap.objs.size N' s3 H3 fp pins) tg g /\ PTs (dE X scope (cellsFrom (s3.heap.objs.size + 1) scope.names cl) s3.heap.objs.size N' s3 H3 fp pins) ifs tc /\ PE (dE X scope (cellsFrom (s3.heap.objs.size + 1) scope.names cl) s3.heap.objs.size N' s3 H3 fp pins) elt te)
  (I3:Inv X pins σ H3 s3) (T:Turn X.prog X.w X.K tg J fp it tn) (st3:tn 0 s3.heap) (f3:∀ b∈fp,FpOk X pins H3 b) (w0:W 0 m0 (sub js σ) H3)
  (turn:∀ i m σ' H',W i m σ' H'->(J.stop i H' /\ Q (.ref D) H')∨(J.go i H' /\ ∃ N:St->Hp->Prop,(∀ σ2 H2,N σ2 H2->∃ m',m' < m /\ W (i + 1) m' σ2 H2) /\ ∀ y H2,J.yld i H' y H2->g y σ' H2 fun σ3 H3=>tc σ3 H3 fun b H4 =>
   if b=true then te σ3 H4 fun v H5=>∃ ys,H5 D=some (.lst ys) /\ ys.length < sizeLine /\ N σ3 (upd H5 D (.lst (ys++[v]))) else N σ3 H4))
  (hns:h₁.Ns s3.heap.objs.size (fun _=>none)) (hk:∀ b o,s3.heap.get? b=some o->h₁.get? b=some o) (cok:CellsOk h₁ (s3.heap.objs.size + 1) (cellsFrom (s3.heap.objs.size + 1) scope.names []))
  (hR:∀ s' H' m,Inv X pins σ H' s'->FpOk X pins H' s3.heap.objs.size->s'.heap.Ns s3.heap.objs.size m->Q (.ref D) H'->RR (.ref D) s3.heap.objs.size (.ok .next) s') :
  codeAny (model X.prog X.w) X.A (.compStart (.ListComp elt [⟨tg,iter,ifs,0⟩] scope pos) 0 (.ref it) (.ref D) (compEnvC scope (cellsFrom (s3.heap.objs.size + 1) scope.names cl) s3.heap.objs.size X.env)) (RR (.ref D) s3.heap.objs.size) { s3 with heap:=h₁,toks:=t' }:=by
 have ob3:∀ b∈fp,∃ o,s3.heap.get? b=some o:=fun b hb=>let ⟨o,e,_⟩:=T.obj _ _ st3 b hb; ⟨o,e⟩
 have I0:Inv (dE X scope (cellsFrom (s3.heap.objs.size + 1) scope.names cl) s3.heap.objs.size N' s3 H3 fp pins) [] (sub js σ) H3 { s3 with heap:=h₁,toks:=t' }:=wn I3 hclo hdis hkind cap f3 ob3 hns hk cok
 have tn0:tn 0 h₁:=T.keep _ _ _ st3 fun b _ o e=>hk b o e
 have hC:FpOk X pins H3 s3.heap.objs.size:=I3.fpOk (Nat.le_refl _) (I3.hok.fresh (Nat.le_refl _))
 obtain ⟨bg,bt,be⟩:=hb
 have stat:∀ {H':Hp},(∀ b∈fp,H' b=none)->∀ b∈fp,FpOk (dE X scope (cellsFrom (s3.heap.objs.size + 1) scope.names cl) s3.heap.objs.size N' s3 H3 fp pins) [] H' b:=fun {H'} hn b hb=>by
  obtain ⟨o,e⟩:=ob3 b hb
  refine ⟨hn b hb,Nat.ne_of_lt (Heap.lt_size e),I0.ok.exfs b hb,.inl hb,fun y c h=>(I0.ok.exf b hb).2 y c h,fun p hp=>?_⟩
  exact (f3 b hb).2.2.2.2.2 p (by simpa [dE] using hp)
 have loop:codeAny (model X.prog X.w) X.A (.compLoop (.ListComp elt [⟨tg,iter,ifs,0⟩] scope pos) 0 (.ref it) (.ref D) (compEnvC scope (cellsFrom (s3.heap.objs.size + 1) scope.names cl) s3.heap.objs.size X.env)) (RR (.ref D) s3.heap.objs.size) { s3 with heap:=h₁,toks:=t' }:=by
  refine uc (fun n s'=>∃ i σ' H',Inv (dE X scope (cellsFrom (s3.heap.objs.size + 1) scope.names cl) s3.heap.objs.size N' s3 H3 fp pins) [] σ' H' s' /\ tn i s'.heap /\ (∀ b∈fp,H' b=none) /\ W i n σ' H') (fun n s4 hJ=>?_) m0 ⟨0,sub js σ,H3,I0,tn0,fun b hb=>(f3 b hb).1,w0⟩
  obtain ⟨i,σ4,H4,I4,st4,fr4,w4⟩:=hJ
  rcases turn i n σ4 H4 w4 with ⟨stop,q⟩ | ⟨go,N,hN,step⟩
  ·refine thn (T.done (dE X scope (cellsFrom (s3.heap.objs.size + 1) scope.names cl) s3.heap.objs.size N' s3 H3 fp pins) rfl rfl rfl hc i [] s4 σ4 H4 _ I4 (stat fr4) st4 stop) fun r s5 ⟨hr,I5⟩=>?_
   subst hr
   have u:Un (frs X.stack) fp H3 H4 s3.heap s5.heap:=I5.base
   have free:H4 s3.heap.objs.size=none:=I5.free
   have back:Inv X pins σ H4 s5:=by
    refine I3.call' (s':=s5) (ch:=s3.heap.objs.size::fp) I5.os (u.mono (fun _ h=>h) fun b h=>List.mem_cons_of_mem _ h) I5.hok I5.bare (fun b hb=>?_)
    rcases List.mem_cons.mp hb with rfl | hb
    ·exact ⟨hC.2.2.2.1,hC.2.1,hC.2.2.2.2.1,hC.2.2.2.2.2⟩
    ·have:=f3 b hb
     exact ⟨this.2.2.2.1,this.2.1,this.2.2.2.2.1,this.2.2.2.2.2⟩
   obtain ⟨m,hm,_⟩:=I5.loc
   exact hR s5 H4 m back ⟨free,hC.2⟩ hm q
  ·refine thn (T.item (dE X scope (cellsFrom (s3.heap.objs.size + 1) scope.names cl) s3.heap.objs.size N' s3 H3 fp pins) rfl rfl rfl hc i [] s4 σ4 H4 _ I4 (stat fr4) st4 go) fun r s5 ⟨u,hr,h5⟩=>?_
   subst hr
   refine thn h5 fun _ s6 ⟨y,H6,I6,r6,y6,st6,fr6⟩=>?_
   have I6':=I6.pinned (stat fr6) (T.obj _ _ st6)
   refine thn (bg _ s6 σ4 H6 y u _ I6' r6 (step y H6 y6)) fun _ s7 ⟨σ7,H7,I7,q7⟩=>?_
   refine thn (bt _ s7 σ7 H7 _ I7 q7) fun b s8 ⟨H8,I8,q8⟩=>?_
   have again:∀ {H':Hp} {s':Shared},Inv (dE X scope (cellsFrom (s3.heap.objs.size + 1) scope.names cl) s3.heap.objs.size N' s3 H3 fp pins) ([]++nr fp s6.heap) σ7 H' s'->N σ7 H'->∃ m,m < n /\ ∃ i σ' H',Inv (dE X scope (cellsFrom (s3.heap.objs.size + 1) scope.names cl) s3.heap.objs.size N' s3 H3 fp pins) [] σ' H' s' /\ tn i s'.heap /\ (∀ b∈fp,H' b=none) /\ W i m σ' H':=fun {H' s'} I9 n9=>by
    obtain ⟨m',hm,w9⟩:=hN σ7 H' n9
    refine ⟨m',hm,i + 1,σ7,H',I9.unpinned,T.keep _ _ _ st6 fun b hb o e=>(I9.pin (b,o) (List.mem_append_right _ (List.mem_append_right _ (fL hb e)))).1,fun b hb=>?_,w9⟩
    obtain ⟨o,e,d⟩:=T.obj _ _ st6 b hb
    exact (I9.pin (b,o) (List.mem_append_right _ (List.mem_append_right _ (fL hb e)))).2.1
   cases b with
   | false=>exact iteF (again I8 q8)
   | true =>
    refine iteT (thn (be _ s8 σ7 H8 _ I8 q8) fun yv s9 ⟨v9,H9,I9,r9,ys,hD,hl,n9⟩=>?_)
    exact thn (jK _ s9 σ7 H9 (.ref D) [v9] (.ref D) [yv] (fun _ H'=>H'=upd H9 D (.lst (ys++[v9]))) I9 rfl (.cons r9 .nil) ⟨D,ys,v9,rfl,rfl,hD,hl,rfl⟩) fun _ s10 ⟨_,H10,I10,_,e10⟩=>by
     subst e10
     exact again I10 n9
 exact codeAny_compStart_list loop (T.self _ 0 _ _ _ tn0 loop)
theorem qD {RR:Value->Addr->Result->Shared->Prop} {tg:Expr} (hc:X.calm=true) (hclo:dD X.env.cells scope.names []=some cl) (hdis:∀ y∈scope.names,y.2 = .free->(y.1,NameKind.cell)∉scope.names) (hkind:scope.kind = .function) (cap:Cap X scope N' js)
  (hi:PI X tg iter wi)
  (hb:∀ B:Blk,PG (cxB X scope cl N' B) tg (gB B) /\ PTs (cxB X scope cl N' B) ifs (tcB B) /\ PE (cxB X scope cl N' B) elt (teB B))
  (I:Inv X pins σ H s) (h:yP wi js gB tcB teB σ H Q)
  (hR:∀ D C s' H' m,Inv X pins σ H' s'->FpOk X pins H' C->s'.heap.Ns C m->Q (.ref D) H'->RR (.ref D) C (.ok .next) s') :
  wpAny (model X.prog X.w) X.A (eval iter X.env) (fun v s1=>wpAny (model X.prog X.w) X.A (pyIter v) (fun it s2=>wpAny (model X.prog X.w) X.A (newList []) (fun acc s3 =>
   wpAny (model X.prog X.w) X.A (newFunctionEnv scope X.env.globals cl [] X.env.qual none .none (some X.env)) (fun cenv s4 =>
    codeAny (model X.prog X.w) X.A (.compStart (.ListComp elt [⟨tg,iter,ifs,0⟩] scope pos) 0 it acc { cenv with scope:=relabel scope X.env }) (RR acc cenv.locals) s4) X.xe s3) X.xe s2) X.xe s1) X.xe s:=by
 refine thn (hi pins s σ H _ I h) fun v s1 h1=>thn h1 fun itv s2 h2=>?_
 obtain ⟨it,fp,tn,J,H2,e,I2,T,st2,f2,h2⟩:=h2
 subst e
 have hD0:H2 s2.heap.objs.size=none:=I2.hok.fresh (Nat.le_refl _)
 obtain ⟨W,⟨m0,w0⟩,turn⟩:=h2 ⟨(s2.heap.push { cls:=.type "list",data:=.seq ([]:List Value).toArray }).objs.size,{ s2 with heap:=s2.heap.push { cls:=.type "list",data:=.seq ([]:List Value).toArray } },upd H2 s2.heap.objs.size (.lst []),fp,pins⟩ s2.heap.objs.size hD0
 refine wpAny_newObj_type (jj (fun h₁ hns₁ hk₁ cok₁=>?_))
 have I3:Inv X pins σ (upd H2 s2.heap.objs.size (.lst [])) { s2 with heap:=s2.heap.push { cls:=.type "list",data:=.seq ([]:List Value).toArray } }:=I2.lnew .nil (Nat.zero_le _)
 refine rZ (s3:={ s2 with heap:=s2.heap.push { cls:=.type "list",data:=.seq ([]:List Value).toArray } }) (cl:=cl) (fp:=fp) hc hclo hdis hkind cap (hb ⟨(s2.heap.push { cls:=.type "list",data:=.seq ([]:List Value).toArray }).objs.size,{ s2 with heap:=s2.heap.push { cls:=.type "list",data:=.seq ([]:List Value).toArray } },upd H2 s2.heap.objs.size (.lst []),fp,pins⟩) I3 T ?_ (fun b hb=>?_) w0 turn hns₁ hk₁ cok₁ (fun s' H' m=>hR _ _ s' H' m)
 ·exact T.keep _ _ _ st2 fun b _ o e=>Heap.get?_push_of_some _ e
 ·have:=f2 b hb
  obtain ⟨o,e,_⟩:=T.obj _ _ st2 b hb
  exact ⟨by show upd H2 s2.heap.objs.size (.lst []) b=none; rw [ak (Nat.ne_of_lt (Heap.lt_size e))]; exact this.1,this.2⟩
theorem yQ {tg:Expr} (hc:X.calm=true) (hclo:dD X.env.cells scope.names []=some cl) (hdis:∀ y∈scope.names,y.2 = .free->(y.1,NameKind.cell)∉scope.names) (hkind:scope.kind = .function) (cap:Cap X scope N' js)
  (hnames:∀ y∈scope.names,y.2 = .local->scope.names.lookup y.1=some .local) (hi:PI X tg iter wi)
  (hb:∀ B:Blk,PG (cxB X scope cl N' B) tg (gB B) /\ PTs (cxB X scope cl N' B) ifs (tcB B) /\ PE (cxB X scope cl N' B) elt (teB B))
  (hs:∀ v,foldedSetIterable iter X.env v=pure v:=by intro _; rfl):PE X (.ListComp elt [⟨tg,iter,ifs,0⟩] scope pos) (yP wi js gB tcB teB):=by
 intro pins s σ H Q I h
 rw [eval_ListComp]
 refine wpAny_comprehension_free (use:=none) rfl hs (gO hclo) hkind hnames (qD (RR:=fun acc C=>compPost (model X.prog X.w) X.A X.xe none (EP X pins σ Q) acc C) hc hclo hdis hkind cap hi hb I h ?_)
 intro D C s' H' m I' f hm q
 exact ⟨m,hm,fun h' hs'=>⟨.ref D,H',I'.but f hs',rfl,q⟩⟩
theorem yR {tg:Expr} {i:Nat} {y:Str} {py spos:Pos} (hN:X.N.Nodup) (hy:X.N[i]? = some y) (hl:X.env.scope.names.lookup y=some .local) (hc:X.calm=true) (hclo:dD X.env.cells scope.names []=some cl) (hdis:∀ y∈scope.names,y.2 = .free->(y.1,NameKind.cell)∉scope.names) (hkind:scope.kind = .function) (cap:Cap X scope N' js)
  (hnames:∀ y∈scope.names,y.2 = .local->scope.names.lookup y.1=some .local) (hi:PI X tg iter wi)
  (hb:∀ B:Blk,PG (cxB X scope cl N' B) tg (gB B) /\ PTs (cxB X scope cl N' B) ifs (tcB B) /\ PE (cxB X scope cl N' B) elt (teB B))
  (hsw:swapsWith (.ListComp elt [⟨tg,iter,ifs,0⟩] scope pos) (some (.Name y py)) spos.line X.env=pure true:=by rfl)
  (hs:∀ v,foldedSetIterable iter X.env v=pure v:=by intro _; rfl):PS X (.Assign [.Name y py] (.ListComp elt [⟨tg,iter,ifs,0⟩] scope pos) spos) (tAsg (yP wi js gB tcB teB) (sX i)):=by
 intro pins s σ H D I h
 rw [exec_Assign_Name_used _ _ _ _ hsw]
 refine wpAny_bind (wpAny_standAt (wpAny_bind ?_))
 show wpAny _ X.A (do let _ ← comprehension (.ListComp elt [⟨tg,iter,ifs,0⟩] scope pos) scope X.env _ (newList []) false (eval iter X.env) (some (assign (.Name y py) X.env))) _ _ s
 refine wpAny_bind (thn (wpAny_comprehension_free (use:=some (assign (.Name y py) X.env)) (Q:=fun _ s'=>SP X pins D .next s') rfl hs (gO hclo) hkind hnames
  (qD (RR:=fun acc C=>compPost (model X.prog X.w) X.A X.xe (some (assign (.Name y py) X.env)) (fun _ s'=>SP X pins D .next s') acc C) hc hclo hdis hkind cap hi hb I h ?_)) fun _ s' q=>wpAny_pure (wpAny_pure q))
 intro Dl C s' H' m I' f hm q
 show wpAny _ X.A (assign (.Name y py) X.env (.ref Dl)) _ _ _
 refine wpAny_assign_Name (nc I' hN hy (.inl hl) (v:=.ref Dl) rfl (fun s2 I2 hch=>?_) (.inr hl))
 obtain ⟨a,hsb,ha⟩:=hch
 have hCa:C≠a:=by
  rcases ha with rfl | ha
  ·exact f.2.1
  ·exact fun z=>f.2.2.2.2.1 y a ha z.symm
 refine ⟨m,hm.sameBut hsb hCa,fun h' hs'=>⟨_,H',I2.but f hs',q⟩⟩
end
end L2
namespace L2
open PySem PySem.Spec PyProof.Rows
section
end
end L2
namespace L2
open PySem PySem.Spec PyProof.Rows
section
variable {P:Program} {w:World} {H:Hp} {h:Heap} {a:Addr} {o:HO}
end
section
variable {X:Cx} {pins:List (Addr×Obj)} {σ:St} {H H':Hp} {s s':Shared} {B h':Heap}
end
section
variable {X:Cx} {pins:List (Addr×Obj)} {σ:St} {H H':Hp} {s s':Shared} {B h':Heap} {W:St->XK} {e:Value}
end
end L2
namespace L2
open PySem PySem.Spec PyProof.Rows
section
variable {X:Cx} {pins:List (Addr×Obj)} {σ:St} {H H':Hp} {s s':Shared} {B h':Heap} {W:St->XK} {e:Value}
end
section
variable {X:Cx} {k:Nat} {f C:Addr} {fd:FuncData} {ps:List Str} {sp:Sp} {dvs:List V} {ds:List Value} {W:St->XK} {x m:Str} {p pos apos:Pos} {e o:Expr} {es:List Expr} {ta:TE} {t:TA}
end
section
variable {X:Cx} {W:St->XK} {C:Addr} {x:Str} {np cpos pos:Pos} {e:Expr} {es:List Expr} {t:TA}
end
end L2
namespace L2
open PySem PySem.Spec PyProof.Rows
def excA (C:Addr) (dd:Option Addr) (ea:Addr):HO:=.ext fun h=>∃ o,h.get? ea=some o /\ o.cls = .ref C /\ o.dict=dd /\ ∃ vs,o.data = .fields vs
abbrev excO (C ea:Addr):HO:=excA C none ea
section
variable {X:Cx} {pins:List (Addr×Obj)} {σ:St} {H H':Hp} {s s':Shared} {B h':Heap} {W:St->XK} {e:Value}
end
section
variable {X:Cx} {body suite:List Stmt} {b0:Stmt} {n x:Str} {np hpos pos:Pos} {C0:Addr} {i:Nat} {Wo:St->XK}
end
end L2
namespace L2
open PySem PySem.Spec PyProof.Rows
open PySem.W (Looks)
section
variable {prog:Program} {w:World} {A:Around} {E:Value->Shared->Prop} {s:Shared} {K:PySem.W.Frag} {x D:Addr}
open PySem.W PySem.Calls Builtin Builtin.ObjectAttr Builtin.Getset_descriptor in
end
end L2
namespace L2
open PySem PySem.Spec PyProof.Rows
open PySem.W (Looks)
section
variable {prog:Program} {w:World} {A:Around} {E:Value->Shared->Prop} {s:Shared} {K:PySem.W.Frag} {x dx C:Addr} {mA:Str->Option Value} {name:Str} {v:Value}
open PySem.W in
end
def exD (fs:List (Str×V)) (dx:Addr):HO:=.ext fun h=>∃ mA,h.Ns1 dx mA /\ (∀ f,RelO (fs.lookup f) (mA f)) /\ PySem.Within mA (fs.map (·.1)) /\ fs.length <= 1000
section
variable {X:Cx} {pins:List (Addr×Obj)} {σ:St} {H:Hp} {s:Shared} {a C dx:Addr} {fs:List (Str×V)} {f:Str} {v:V} {A:Around} {E:Value->Shared->Prop}
end
section
variable {X:Cx} {o e value:Expr} {f:Str} {pos pos' tpos:Pos} {ta tv:TE}
end
section
variable {K:PySem.W.Frag} {C fI:Addr}
section
variable {prog:Program} {w:World} {A:Around} {E:Value->Shared->Prop} {s:Shared}
end
end
end L2
namespace L2
open PySem PySem.Spec PyProof.Rows
section
variable {X:Cx} {pins:List (Addr×Obj)} {σ:St} {H G:Hp} {s s':Shared} {a:Addr} {W:St->XK}
end
section
variable {X:Cx} {W:St->XK} {k:Nat} {C f:Addr} {fd:FuncData} {ps:List Str} {a1 a2 x:Str} {np cpos pos:Pos} {e:Expr} {es:List Expr} {t:TA}
end
end L2
namespace DL
open PySem PySem.Spec L2
open PyProof.Rows hiding St
inductive D where
 | non | bl (b:Bool) | int (i:Int) | str (x:Str) | ty (n:String) | tup (ds:List D) | lst (ds:List D)
 | dK (ks:List Key) (ds:List D) | dT (ks:List (List Key)) (ds:List D) | pen | exc (C:Addr) | cls (C:Addr) | exa (C:Addr) (fs:List (Str×V))
inductive O where
 | val (d:D) | lst (os:List O) | dct (ks:List (List Key)) (os:List O) | tup (os:List O) | dck (ks:List Key) (os:List O)
inductive Sl where
 | nil | val (d:D) | own (ds:List D) | obj (o:O) | pin (v:V) (d:D)
section
variable (K:PySem.W.Frag) (pp:Option Addr) (M:List Addr) (H:Hp)
mutual
def Rep:D->V->Prop
 | .non,v=>v = .non
 | .bl b,v=>v = .bl b
 | .int i,v=>v = .int i
 | .str x,v=>v = .str x
 | .ty n,v=>v = .ty n
 | .tup ds,v=>∃ a xs,v = .ref a /\ H a=some (.tup xs) /\ Reps ds xs
 | .lst ds,v=>∃ a xs,v = .ref a /\ a∉M /\ pp≠some a /\ H a=some (.lst xs) /\ Reps ds xs
 | .dK ks ds,v=>∃ a kvs,v = .ref a /\ a∉M /\ pp≠some a /\ H a=some (.dK kvs) /\ kvs.map (·.1)=ks /\ Reps ds (kvs.map (·.2))
 | .dT ks ds,v=>∃ a kvs,v = .ref a /\ a∉M /\ pp≠some a /\ H a=some (.dT kvs) /\ kvs.map (·.1)=ks /\ Reps ds (kvs.map (·.2))
 | .pen,v=>∃ p,v = .ref p /\ pp=some p /\ ∃ a ns t l,Pen K H p a ns t l
 | .exc C,v=>∃ a,v = .ref a /\ a∉M /\ pp≠some a /\ H a=some (excO C a)
 | .cls C,v=>v = .ref C
 | .exa C fs,v=>∃ a dx,v = .ref a /\ a∉M /\ pp≠some a /\ H a=some (excA C (some dx) a) /\ dx∉M /\ pp≠some dx /\ H dx=some (exD fs dx)
def Reps:List D->List V->Prop
 | [],xs=>xs=[]
 | d::ds,xs=>∃ x r,xs=x::r /\ Rep d x /\ Reps ds r
end
end
section
variable {K:PySem.W.Frag} {pp:Option Addr} {M M' M'':List Addr} {H H' H'':Hp}
class TB where
 tb:List (Addr×Str)
instance (priority:=low) TB.none:TB:=⟨[]⟩
def Tabs [TB] (H:Hp):Prop:=∀ P ql,TB.tb.lookup P=some ql->∃ ps,H P=some (.tbl ps) /\ TriplesOk ps.toList /\
 ∀ pos cv,codeAmong pos ps.toList=some cv->∃ c oc u vs t,cv = .ref c /\ H c=some (.frz oc u) /\ oc.data = .fields vs /\ vs[1]? = some (.str ql t)
def TF (o:HO):Prop:=(∃ ps,o = .tbl ps)∨∃ ob u,o = .frz ob u
theorem Tabs.of [TB] {H H':Hp} (h:Tabs H) (k:∀ b o,H b=some o->TF o->H' b=some o):Tabs H':=fun P ql hq =>
 let ⟨ps,e1,e2,e3⟩:=h P ql hq
 ⟨ps,k _ _ e1 (.inl ⟨_,rfl⟩),e2,fun pos cv e=>let ⟨c,oc,u,vs,t,f1,f2,f3⟩:=e3 pos cv e; ⟨c,oc,u,vs,t,f1,k _ _ f2 (.inr ⟨_,_,rfl⟩),f3⟩⟩
theorem Tabs.upd [TB] {H:Hp} {l:Addr} {o o':HO} (h:Tabs H) (hl:H l=some o) (ht:¬ TF o):Tabs (upd H l o') :=
 h.of fun b x e tf=>by
  rw [ak]
  ·exact e
  ·rintro rfl
   rw [hl] at e; cases e
   exact ht tf
theorem Tabs.new [TB] {H:Hp} {l:Addr} {o':HO} (h:Tabs H) (hl:H l=none):Tabs (L2.upd H l o') :=
 h.of fun b x e _=>gj hl e
theorem lW {xs:List V}:¬ TF (.lst xs):=by rintro (⟨_,e⟩ | ⟨_,_,e⟩) <;> cases e
def NT (o:HO):Prop:=∀ ps,o ≠ .tbl ps
def NP (pp:Option Addr) (a:Addr) (o:HO):Prop:=pp≠some a /\ NT o
theorem np {pp:Option Addr} {a:Addr} {o:HO} (h:pp≠some a) (t:NT o:=by intro _ z; cases z):NP pp a o:=⟨h,t⟩
structure Mv [TB] (K:PySem.W.Frag) (pp:Option Addr) (M:List Addr) (H:Hp) (M':List Addr) (H':Hp):Prop where
 tup:∀ a xs,H a=some (.tup xs)->H' a=some (.tup xs)
 oth:∀ a o,H a=some o->a∉M->NP pp a o->H' a=some o /\ a∉M'
 pen:∀ p,pp=some p->(∃ a ns t l,Pen K H p a ns t l)->∃ a ns t l,Pen K H' p a ns t l
 tb:Tabs H->Tabs H'
variable [TB]
theorem Mv.lst (m:Mv K pp M H M' H') (a:Addr) (xs:List V) (h:H a=some (.lst xs)) (n:a∉M) (q:pp≠some a):H' a=some (.lst xs) /\ a∉M':=m.oth a _ h n (np q)
theorem Mv.refl:Mv K pp M H M H:=⟨fun _ _ h=>h,fun _ _ h n _=>⟨h,n⟩,fun _ _ h=>h,fun h=>h⟩
theorem Mv.trans (x:Mv K pp M H M' H') (y:Mv K pp M' H' M'' H''):Mv K pp M H M'' H'' :=
 ⟨fun a xs h=>y.tup a xs (x.tup a xs h),fun a xs h n q=>y.oth a xs (x.oth a xs h n q).1 (x.oth a xs h n q).2 q,fun p e h=>y.pen p e (x.pen p e h),fun h=>y.tb (x.tb h)⟩
mutual
theorem Rep.mv (m:Mv K pp M H M' H'):∀ (d:D) (v:V),Rep K pp M H d v->Rep K pp M' H' d v
 | .non,_,h=>by simp only [Rep] at h ⊢; exact h
 | .bl _,_,h=>by simp only [Rep] at h ⊢; exact h
 | .int _,_,h=>by simp only [Rep] at h ⊢; exact h
 | .str _,_,h=>by simp only [Rep] at h ⊢; exact h
 | .ty _,_,h=>by simp only [Rep] at h ⊢; exact h
 | .tup ds,_,h=>by
  simp only [Rep] at h ⊢
  obtain ⟨a,xs,e,h1,h2⟩:=h
  exact ⟨a,xs,e,m.tup a xs h1,Reps.mv m ds xs h2⟩
 | .lst ds,_,h=>by
  simp only [Rep] at h ⊢
  obtain ⟨a,xs,e,h0,hp,h1,h2⟩:=h
  exact ⟨a,xs,e,(m.lst a xs h1 h0 hp).2,hp,(m.lst a xs h1 h0 hp).1,Reps.mv m ds xs h2⟩
 | .dK ks ds,_,h=>by
  simp only [Rep] at h ⊢
  obtain ⟨a,xs,e,h0,hp,h1,h2,h3⟩:=h
  exact ⟨a,xs,e,(m.oth a _ h1 h0 (np hp)).2,hp,(m.oth a _ h1 h0 (np hp)).1,h2,Reps.mv m ds _ h3⟩
 | .dT ks ds,_,h=>by
  simp only [Rep] at h ⊢
  obtain ⟨a,xs,e,h0,hp,h1,h2,h3⟩:=h
  exact ⟨a,xs,e,(m.oth a _ h1 h0 (np hp)).2,hp,(m.oth a _ h1 h0 (np hp)).1,h2,Reps.mv m ds _ h3⟩
 | .pen,_,h=>by
  simp only [Rep] at h ⊢
  obtain ⟨p,e,e2,h⟩:=h
  exact ⟨p,e,e2,m.pen p e2 h⟩
 | .exc C,_,h=>by
  simp only [Rep] at h ⊢
  obtain ⟨a,e,h0,hp,h1⟩:=h
  exact ⟨a,e,(m.oth a _ h1 h0 (np hp)).2,hp,(m.oth a _ h1 h0 (np hp)).1⟩
 | .cls _,_,h=>by simp only [Rep] at h ⊢; exact h
 | .exa C fs,_,h=>by
  simp only [Rep] at h ⊢
  obtain ⟨a,dx,e,h0,hp,h1,h2,h3,h4⟩:=h
  exact ⟨a,dx,e,(m.oth a _ h1 h0 (np hp)).2,hp,(m.oth a _ h1 h0 (np hp)).1,(m.oth dx _ h4 h2 (np h3)).2,h3,(m.oth dx _ h4 h2 (np h3)).1⟩
theorem Reps.mv (m:Mv K pp M H M' H'):∀ (ds:List D) (xs:List V),Reps K pp M H ds xs->Reps K pp M' H' ds xs
 | [],_,h=>by simp only [Reps] at h ⊢; exact h
 | d::ds,_,h=>by
  simp only [Reps] at h ⊢
  obtain ⟨x,r,e,h1,h2⟩:=h
  exact ⟨x,r,e,Rep.mv m d x h1,Reps.mv m ds r h2⟩
end
theorem Reps.length:∀ {ds:List D} {xs:List V},Reps K pp M H ds xs->ds.length=xs.length
 | [],_,h=>by simp only [Reps] at h; subst h; rfl
 | _::_,_,h=>by
  simp only [Reps] at h
  obtain ⟨x,r,rfl,_,h2⟩:=h
  simp [Reps.length h2]
theorem Reps.get':∀ {ds:List D} {xs:List V} {i:Nat} {d:D},Reps K pp M H ds xs->ds[i]? = some d->∃ x,xs[i]? = some x /\ Rep K pp M H d x
 | [],_,_,_,h,e=>by simp at e
 | d::ds,_,0,x,h,e=>by
  simp only [Reps] at h
  obtain ⟨y,r,rfl,h1,h2⟩:=h
  simp at e; subst e
  exact ⟨y,rfl,h1⟩
 | d::ds,_,i + 1,x,h,e=>by
  simp only [Reps] at h
  obtain ⟨y,r,rfl,h1,h2⟩:=h
  obtain ⟨d',e1,e2⟩:=Reps.get' (i:=i) h2 (by simpa using e)
  exact ⟨d',by simpa using e1,e2⟩
theorem Reps.append:∀ {ds es:List D} {xs ys:List V},Reps K pp M H ds xs->Reps K pp M H es ys->Reps K pp M H (ds++es) (xs++ys)
 | [],_,_,_,h,q=>by simp only [Reps] at h; subst h; exact q
 | d::ds,_,_,_,h,q=>by
  simp only [Reps] at h
  obtain ⟨y,r,rfl,h1,h2⟩:=h
  simp only [List.cons_append,Reps]
  exact ⟨y,_,rfl,h1,Reps.append h2 q⟩
theorem Reps.drop:∀ {ds:List D} {xs:List V} (n:Nat),Reps K pp M H ds xs->Reps K pp M H (ds.drop n) (xs.drop n)
 | _,_,0,h=>h
 | [],_,n + 1,h=>by simp only [Reps] at h; subst h; simp [Reps]
 | d::ds,_,n + 1,h=>by
  simp only [Reps] at h
  obtain ⟨y,r,rfl,h1,h2⟩:=h
  exact Reps.drop n h2
theorem Reps.take:∀ {ds:List D} {xs:List V} (n:Nat),Reps K pp M H ds xs->Reps K pp M H (ds.take n) (xs.take n)
 | _,_,0,h=>by simp [Reps]
 | [],_,n + 1,h=>by simp only [Reps] at h; subst h; simp [Reps]
 | d::ds,_,n + 1,h=>by
  simp only [Reps] at h
  obtain ⟨y,r,rfl,h1,h2⟩:=h
  simp only [List.take_succ_cons,Reps]
  exact ⟨y,_,rfl,h1,Reps.take n h2⟩
theorem Reps.set {d:D} {x:V} (hd:Rep K pp M H d x):∀ {ds:List D} {xs:List V} (n:Nat),Reps K pp M H ds xs->Reps K pp M H (ds.set n d) (xs.set n x)
 | [],_,n,h=>by simp only [Reps] at h; subst h; simp [Reps]
 | e::ds,_,0,h=>by
  simp only [Reps] at h
  obtain ⟨y,r,rfl,h1,h2⟩:=h
  simp only [List.set_cons_zero,Reps]
  exact ⟨x,r,rfl,hd,h2⟩
 | e::ds,_,n + 1,h=>by
  simp only [Reps] at h
  obtain ⟨y,r,rfl,h1,h2⟩:=h
  simp only [List.set_cons_succ,Reps]
  exact ⟨y,_,rfl,h1,Reps.set hd n h2⟩
theorem Reps.one {d:D} {x:V} (h:Rep K pp M H d x):Reps K pp M H [d] [x]:=by simp only [Reps]; exact ⟨x,[],rfl,h,rfl⟩
theorem Reps.nil:Reps K pp M H [] []:=by simp only [Reps]
theorem Reps.cons {d:D} {x:V} {ds:List D} {xs:List V} (h:Rep K pp M H d x) (q:Reps K pp M H ds xs):Reps K pp M H (d::ds) (x::xs):=by simp only [Reps]; exact ⟨x,xs,rfl,h,q⟩
def NW (pp:Option Addr) (b:Addr) (o:HO):Prop:=(pp=some b->∀ xs,o ≠ .lst xs) /\ NT o
theorem nw {pp:Option Addr} {b:Addr} {o:HO} (h:pp≠some b) (t:NT o:=by intro _ z; cases z):NW pp b o:=⟨fun z=>absurd z h,t⟩
structure SameQ (K:PySem.W.Frag) (pp:Option Addr) (H H':Hp):Prop where
 keep:∀ b o,H b=some o->NW pp b o->H' b=some o
 pen:∀ p,pp=some p->(∃ a ns t l,Pen K H p a ns t l)->∃ a ns t l,Pen K H' p a ns t l
 live:∀ b,H b≠none->H' b≠none
structure SameP (K:PySem.W.Frag) (pp:Option Addr) (H H':Hp):Prop extends SameQ K pp H H' where
 tb:Tabs H->Tabs H'
theorem SameQ.refl:SameQ K pp H H:=⟨fun _ _ h _=>h,fun _ _ h=>h,fun _ h=>h⟩
theorem SameP.refl:SameP K pp H H:=⟨.refl,fun h=>h⟩
theorem SameQ.trans (x:SameQ K pp H H') (y:SameQ K pp H' H''):SameQ K pp H H'' :=
 ⟨fun b o h n=>y.keep b o (x.keep b o h n) n,fun p e h=>y.pen p e (x.pen p e h),fun b h=>y.live b (x.live b h)⟩
theorem SameP.trans (x:SameP K pp H H') (y:SameP K pp H' H''):SameP K pp H H'':=⟨x.toSameQ.trans y.toSameQ,fun h=>y.tb (x.tb h)⟩
theorem SameP.of (s:Same H H'):SameP K pp H H':=⟨⟨fun b o h _=>s b o h,fun _ _ ⟨a,ns,t,l,h⟩=>⟨a,ns,t,l,h.same s⟩,fun b h e=>by
 cases q:H b with
 | none=>exact h q
 | some o=>rw [s b o q] at e; cases e⟩,fun h=>h.of fun b o e _=>s b o e⟩
theorem SameP.new {l:Addr} {o:HO} (h:H l=none):SameP K pp H (upd H l o):=.of (lU h)
theorem SameP.mv (s:SameP K pp H H'):Mv K pp M H M H' :=
 ⟨fun a xs h=>s.keep a _ h ⟨fun _ _ z=>(by cases z),fun _ z=>(by cases z)⟩,fun a xs h n q=>⟨s.keep a _ h ⟨fun z=>absurd z q.1,q.2⟩,n⟩,s.pen,s.tb⟩
theorem Mv.new {l:Addr} {o:HO} (h:H l=none):Mv K pp M H M (upd H l o):=(SameP.new h).mv
theorem Mv.newOwn {l:Addr} {o:HO} (h:H l=none):Mv K pp M H (l::M) (upd H l o) :=
 ⟨fun a xs e=>gj h e,fun a xs e n q=>⟨gj h e,by
  intro z
  rcases List.mem_cons.mp z with rfl | z
  ·rw [h] at e; cases e
  ·exact n z⟩,(SameP.new h).pen,fun t=>t.new h⟩
theorem Mv.less {l:List Addr} (h:∀ a∈l,a∈M):Mv K pp M H l H:=⟨fun _ _ h=>h,fun a xs e n _=>⟨e,fun z=>n (h a z)⟩,fun _ _ h=>h,fun h=>h⟩
theorem yS {p l:Addr} {xs ys:List V} (hl:H l=some (.lst xs)) (hp:p≠l):(∃ a ns t k,Pen K H p a ns t k)->∃ a ns t k,Pen K (upd H l (.lst ys)) p a ns t k:=by
 rintro ⟨a,ns,t,k,h⟩
 refine ⟨a,ns,t,k,?_,?_,h.t0⟩
 ·rw [ak hp]; exact h.lst
 ·rcases h.scr with ⟨o,e⟩ | e
  ·refine .inl ⟨o,?_⟩
   rw [ak (kH e hl (by intro z; cases z))]; exact e
  ·exact .inr e
theorem Mv.write {l:Addr} {xs ys:List V} (hl:H l=some (.lst xs)) (hm:l∈M) (hp:pp≠some l):Mv K pp M H M (upd H l (.lst ys)) :=
 ⟨fun a zs e=>by rw [ak (kH e hl (by intro z; cases z))]; exact e,
  fun a zs e n q=>⟨by rw [ak (by rintro rfl; exact n hm)]; exact e,n⟩,
  fun p e h=>yS hl (by rintro rfl; exact hp e) h,fun t=>t.upd hl lW⟩
end
section
variable (K:PySem.W.Frag) (pp:Option Addr) (M:List Addr) (H:Hp)
mutual
def RO:O->V->List Addr->Prop
 | .val d,v,A=>A=[] /\ Rep K pp M H d v
 | .lst os,v,A=>∃ a xs B,v = .ref a /\ H a=some (.lst xs) /\ A=a::B /\ ROs os xs B
 | .dct ks os,v,A=>∃ a kvs B,v = .ref a /\ H a=some (.dT kvs) /\ kvs.map (·.1)=ks /\ A=a::B /\ ROs os (kvs.map (·.2)) B
 | .tup os,v,A=>∃ a xs,v = .ref a /\ H a=some (.tup xs) /\ ROs os xs A
 | .dck ks os,v,A=>∃ a kvs B,v = .ref a /\ H a=some (.dK kvs) /\ kvs.map (·.1)=ks /\ A=a::B /\ ROs os (kvs.map (·.2)) B
def ROs:List O->List V->List Addr->Prop
 | [],xs,A=>xs=[] /\ A=[]
 | o::os,xs,A=>∃ x r B C,xs=x::r /\ A=B++C /\ RO o x B /\ ROs os r C
end
end
section
variable {K:PySem.W.Frag} {pp:Option Addr} {M M':List Addr} {H H':Hp} [TB]
mutual
theorem RO.mv (m:Mv K pp M H M' H'):∀ (q:O) (v:V) (A:List Addr),(∀ a∈A,∀ o,H a=some o->NT o->H' a=some o)->RO K pp M H q v A->RO K pp M' H' q v A
 | .val d,v,A,_,h=>by
  simp only [RO] at h ⊢
  exact ⟨h.1,Rep.mv m d v h.2⟩
 | .lst os,v,A,k,h=>by
  simp only [RO] at h ⊢
  obtain ⟨a,xs,B,e,ha,rfl,r⟩:=h
  exact ⟨a,xs,B,e,k a List.mem_cons_self _ ha (by intro _ z; cases z),rfl,ROs.mv m os xs B (fun b hb=>k b (List.mem_cons_of_mem _ hb)) r⟩
 | .dct ks os,v,A,k,h=>by
  simp only [RO] at h ⊢
  obtain ⟨a,kvs,B,e,ha,e2,rfl,r⟩:=h
  exact ⟨a,kvs,B,e,k a List.mem_cons_self _ ha (by intro _ z; cases z),e2,rfl,ROs.mv m os _ B (fun b hb=>k b (List.mem_cons_of_mem _ hb)) r⟩
 | .tup os,v,A,k,h=>by
  simp only [RO] at h ⊢
  obtain ⟨a,xs,e,ha,r⟩:=h
  exact ⟨a,xs,e,m.tup a xs ha,ROs.mv m os xs A k r⟩
 | .dck ks os,v,A,k,h=>by
  simp only [RO] at h ⊢
  obtain ⟨a,kvs,B,e,ha,e2,rfl,r⟩:=h
  exact ⟨a,kvs,B,e,k a List.mem_cons_self _ ha (by intro _ z; cases z),e2,rfl,ROs.mv m os _ B (fun b hb=>k b (List.mem_cons_of_mem _ hb)) r⟩
theorem ROs.mv (m:Mv K pp M H M' H'):∀ (os:List O) (xs:List V) (A:List Addr),(∀ a∈A,∀ o,H a=some o->NT o->H' a=some o)->ROs K pp M H os xs A->ROs K pp M' H' os xs A
 | [],xs,A,_,h=>by simp only [ROs] at h ⊢; exact h
 | o::os,xs,A,k,h=>by
  simp only [ROs] at h ⊢
  obtain ⟨x,r,B,C,e,rfl,h1,h2⟩:=h
  exact ⟨x,r,B,C,e,rfl,RO.mv m o x B (fun b hb=>k b (List.mem_append.mpr (.inl hb))) h1,ROs.mv m os r C (fun b hb=>k b (List.mem_append.mpr (.inr hb))) h2⟩
end
mutual
def fzO:O->D
 | .val d=>d
 | .lst os=>.lst (fzOs os)
 | .dct ks os=>.dT ks (fzOs os)
 | .tup os=>.tup (fzOs os)
 | .dck ks os=>.dK ks (fzOs os)
def fzOs:List O->List D
 | []=>[]
 | o::os=>fzO o::fzOs os
end
mutual
theorem RO.fz (m:Mv K pp M H M' H):∀ (q:O) (v:V) (A:List Addr),(∀ a∈A,a∉M' /\ pp≠some a)->RO K pp M H q v A->Rep K pp M' H (fzO q) v
 | .val d,v,A,_,h=>by
  simp only [RO] at h
  simp only [fzO]
  exact Rep.mv m d v h.2
 | .lst os,v,A,k,h=>by
  simp only [RO] at h
  simp only [fzO,Rep]
  obtain ⟨a,xs,B,e,ha,rfl,r⟩:=h
  exact ⟨a,xs,e,(k a List.mem_cons_self).1,(k a List.mem_cons_self).2,ha,ROs.fz m os xs B (fun b hb=>k b (List.mem_cons_of_mem _ hb)) r⟩
 | .dct ks os,v,A,k,h=>by
  simp only [RO] at h
  simp only [fzO,Rep]
  obtain ⟨a,kvs,B,e,ha,e2,rfl,r⟩:=h
  exact ⟨a,kvs,e,(k a List.mem_cons_self).1,(k a List.mem_cons_self).2,ha,e2,ROs.fz m os _ B (fun b hb=>k b (List.mem_cons_of_mem _ hb)) r⟩
 | .tup os,v,A,k,h=>by
  simp only [RO] at h
  simp only [fzO,Rep]
  obtain ⟨a,xs,e,ha,r⟩:=h
  exact ⟨a,xs,e,ha,ROs.fz m os xs A k r⟩
 | .dck ks os,v,A,k,h=>by
  simp only [RO] at h
  simp only [fzO,Rep]
  obtain ⟨a,kvs,B,e,ha,e2,rfl,r⟩:=h
  exact ⟨a,kvs,e,(k a List.mem_cons_self).1,(k a List.mem_cons_self).2,ha,e2,ROs.fz m os _ B (fun b hb=>k b (List.mem_cons_of_mem _ hb)) r⟩
theorem ROs.fz (m:Mv K pp M H M' H):∀ (os:List O) (xs:List V) (A:List Addr),(∀ a∈A,a∉M' /\ pp≠some a)->ROs K pp M H os xs A->Reps K pp M' H (fzOs os) xs
 | [],xs,A,_,h=>by simp only [ROs] at h; simp only [fzOs,Reps]; exact h.1
 | o::os,xs,A,k,h=>by
  simp only [ROs] at h
  simp only [fzOs,Reps]
  obtain ⟨x,r,B,C,e,rfl,h1,h2⟩:=h
  exact ⟨x,r,e,RO.fz m o x B (fun b hb=>k b (List.mem_append.mpr (.inl hb))) h1,ROs.fz m os r C (fun b hb=>k b (List.mem_append.mpr (.inr hb))) h2⟩
end
theorem lX:∀ os:List O,fzOs os=os.map fzO
 | []=>rfl
 | o::os=>by simp only [fzOs,List.map_cons,lX os]
end
structure Fx where
 pp:Option Addr
 M0:List Addr
 H0:Hp
abbrev DS:=List Sl
variable [TB]
class Frm where
 L:PySem.W.Frag->Fx->List Addr->Hp->Prop
 W:DS->Addr->Prop
 cl:∀ K (F:Fx) M H M' H',L K F M H->Mv K F.pp M H M' H'->L K F M' H'
instance (priority:=low) Frm.free:Frm:=⟨fun _ _ _ _=>True,fun _ _=>False,fun _ _ _ _ _ _ h _=>h⟩
variable [Frm]
structure Lv0 (pp:Option Addr) (M:List Addr) (H:Hp):Prop where
 m:∀ a∈M,H a≠none
 p:∀ p,pp=some p->H p≠none
structure Lv (pp:Option Addr) (M:List Addr) (H:Hp):Prop extends Lv0 pp M H where
 t:Tabs H
theorem Lv0.sameQ {K:PySem.W.Frag} {pp:Option Addr} {M:List Addr} {H H':Hp} (l:Lv0 pp M H) (s:SameQ K pp H H'):Lv0 pp M H' :=
 ⟨fun a ha=>s.live a (l.m a ha),fun p e=>s.live p (l.p p e)⟩
theorem Lv0.fresh {pp:Option Addr} {M:List Addr} {H:Hp} {a:Addr} (l:Lv0 pp M H) (h:H a=none):a∉M /\ pp≠some a:=⟨fun z=>l.m a z h,fun z=>l.p a z h⟩
structure Lk (K:PySem.W.Frag) (F:Fx) (M:List Addr) (H:Hp):Prop where
 l:Frm.L K F M H
 t:Tabs H
theorem Lk.cl {K:PySem.W.Frag} {F:Fx} {M M':List Addr} {H H':Hp} (h:Lk K F M H) (m:Mv K F.pp M H M' H'):Lk K F M' H':=⟨Frm.cl _ _ _ _ _ _ h.l m,m.tb h.t⟩
section
variable (K:PySem.W.Frag) (F:Fx) (M:List Addr) (H:Hp)
def RSl:Sl->Option V->Prop
 | .nil,_=>True
 | .val d,o=>∃ v,o=some v /\ Rep K F.pp M H d v
 | .own ds,o=>∃ l xs,o=some (.ref l) /\ l∈M /\ F.H0 l=none /\ F.pp≠some l /\ H l=some (.lst xs) /\ Reps K F.pp M H ds xs
 | .obj _,o=>∃ v,o=some v
 | .pin w d,o=>∃ v,o=some v /\ v=w /\ Rep K F.pp M H d v
def Ow:Sl->Option V->List Addr->Prop
 | .own _,o,A=>∃ l,o=some (.ref l) /\ A=[l]
 | .obj q,o,A=>A.Nodup /\ ∃ v,o=some v /\ RO K F.pp M H q v A
 | _,_,_=>True
def OwF (σ:St) (ρ:DS):Prop:=∃ As:Nat->List Addr,(∀ (i:Nat) s o,ρ[i]? = some s->σ[i]? = some o->Ow K F M H s o (As i)) /\ (∀ i,∀ a∈As i,a∈M /\ F.H0 a=none /\ F.pp≠some a) /\ ∀ i j,i≠j->∀ a∈As i,a∉As j
structure RSt (σ:St) (ρ:DS):Prop where
 len:σ.length=ρ.length
 sl:∀ (i:Nat) s o,ρ[i]? = some s->σ[i]? = some o->RSl K F M H s o
 ow:OwF K F M H σ ρ
 sub:∀ a∈F.M0,a∈M
 same:SameQ K F.pp F.H0 H
 old:∀ a∈F.M0,F.H0 a≠none
 liv0:Lv0 F.pp M H
 lk:Lk K F M H
end
section
variable {K:PySem.W.Frag} {F:Fx} {M M':List Addr} {H H':Hp} {σ:St} {ρ:DS}
theorem RSt.liv (r:RSt K F M H σ ρ):Lv F.pp M H:=⟨r.liv0,r.lk.t⟩
theorem RSt.sameT (r:RSt K F M H σ ρ):SameP K F.pp F.H0 H:=⟨r.same,fun _=>r.lk.t⟩
omit [Frm] in
theorem Ow.mv {s:Sl} {o:Option V} {A:List Addr} (m:Mv K F.pp M H M' H') (k:∀ a∈A,∀ x,H a=some x->NT x->H' a=some x) (h:Ow K F M H s o A):Ow K F M' H' s o A:=by
 cases s with
 | nil=>trivial
 | val d=>trivial
 | pin w d=>trivial
 | own ds=>exact h
 | obj q =>
  obtain ⟨nd,v,e,h⟩:=h
  exact ⟨nd,v,e,RO.mv m q v A k h⟩
omit [Frm] in
theorem OwF.keep (h:OwF K F M H σ ρ) (m:Mv K F.pp M H M' H') (k:∀ a,a∈M->F.pp≠some a->F.H0 a=none->a∈M' /\ ∀ x,H a=some x->NT x->H' a=some x):OwF K F M' H' σ ρ:=by
 obtain ⟨As,h1,h2,h3⟩:=h
 refine ⟨As,fun i s o e1 e2=>(h1 i s o e1 e2).mv m fun a ha=>(k a (h2 i a ha).1 (h2 i a ha).2.2 (h2 i a ha).2.1).2,fun i a ha=>⟨(k a (h2 i a ha).1 (h2 i a ha).2.2 (h2 i a ha).2.1).1,(h2 i a ha).2⟩,h3⟩
omit [Frm] in
theorem OwF.step {σ':St} {ρ':DS} (h:OwF K F M H σ ρ) (m:Mv K F.pp M H M' H') (i:Nat) (hσ:∀ j,j≠i->σ'[j]? = σ[j]?) (hρ:∀ j,j≠i->ρ'[j]? = ρ[j]?)
  (k:∀ A,(∀ s o,ρ[i]? = some s->σ[i]? = some o->Ow K F M H s o A)->(∀ a∈A,a∈M /\ F.H0 a=none /\ F.pp≠some a)->∃ B,(∀ s o,ρ'[i]? = some s->σ'[i]? = some o->Ow K F M' H' s o B) /\
   (∀ b∈B,b∈M' /\ F.H0 b=none /\ F.pp≠some b /\ (b∈A∨b∉M)) /\ ∀ a,a∈M->F.pp≠some a->F.H0 a=none->a∉A->a∈M' /\ ∀ x,H a=some x->NT x->H' a=some x):OwF K F M' H' σ' ρ':=by
 obtain ⟨As,h1,h2,h3⟩:=h
 obtain ⟨B,k1,k2,k3⟩:=k (As i) (h1 i) (h2 i)
 have old:∀ j,j≠i->∀ a∈As j,a∈M' /\ ∀ x,H a=some x->NT x->H' a=some x:=fun j e a ha=>k3 a (h2 j a ha).1 (h2 j a ha).2.2 (h2 j a ha).2.1 (h3 j i e a ha)
 refine ⟨fun j=>if j=i then B else As j,fun j s o e1 e2=>?_,fun j a ha=>?_,fun j l e a ha hb=>?_⟩
 ·show Ow K F M' H' s o (if j=i then B else As j)
  by_cases e:j=i
  ·subst e
   rw [if_pos rfl]
   exact k1 s o e1 e2
  ·rw [if_neg e]
   rw [hρ j e] at e1
   rw [hσ j e] at e2
   exact (h1 j s o e1 e2).mv m fun a ha=>(old j e a ha).2
 ·replace ha:a∈(if j=i then B else As j):=ha
  by_cases e:j=i
  ·subst e
   rw [if_pos rfl] at ha
   exact ⟨(k2 a ha).1,(k2 a ha).2.1,(k2 a ha).2.2.1⟩
  ·rw [if_neg e] at ha
   exact ⟨(old j e a ha).1,(h2 j a ha).2⟩
 ·replace ha:a∈(if j=i then B else As j):=ha
  replace hb:a∈(if l=i then B else As l):=hb
  by_cases e1:j=i
  ·subst e1
   rw [if_pos rfl] at ha
   rw [if_neg (Ne.symm e)] at hb
   rcases (k2 a ha).2.2.2 with z | z
   ·exact h3 j l e a z hb
   ·exact z (h2 l a hb).1
  ·rw [if_neg e1] at ha
   by_cases e2:l=i
   ·subst e2
    rw [if_pos rfl] at hb
    rcases (k2 a hb).2.2.2 with z | z
    ·exact h3 j l e a ha z
    ·exact z (h2 j a ha).1
   ·rw [if_neg e2] at hb
    exact h3 j l e a ha hb
omit [Frm] in
theorem OwF.none (h:∀ (i:Nat) s,ρ[i]? = some s->(∀ ds,s ≠ .own ds) /\ ∀ q,s ≠ .obj q):OwF K F M H σ ρ:=by
 refine ⟨fun _=>[],fun i s o e1 _=>?_,fun _ _ h=>(by simp at h),fun _ _ _ _ h=>(by simp at h)⟩
 cases s with
 | nil=>trivial
 | val d=>trivial
 | pin w d=>trivial
 | own ds=>exact absurd rfl ((h i _ e1).1 ds)
 | obj q=>exact absurd rfl ((h i _ e1).2 q)
theorem RSt.own (r:RSt K F M H σ ρ) (i j:Nat) (ds es:List D) (a:Addr) (h1:ρ[i]? = some (.own ds)) (h2:ρ[j]? = some (.own es)) (h3:σ[i]? = some (some (.ref a))) (h4:σ[j]? = some (some (.ref a))):i=j:=by
 obtain ⟨As,k1,k2,k3⟩:=r.ow
 obtain ⟨l,e,e2⟩:=k1 i _ _ h1 h3
 cases e
 obtain ⟨l,e,e3⟩:=k1 j _ _ h2 h4
 cases e
 by_cases z:i=j
 ·exact z
 ·exact absurd (by rw [e3]; simp) (k3 i j z a (by rw [e2]; simp))
omit [Frm] in
theorem SameP.ow (s:SameP K F.pp H H') (a:Addr) (_:a∈M) (p:F.pp≠some a) (_:F.H0 a=none):a∈M /\ ∀ x,H a=some x->NT x->H' a=some x:=⟨‹_›,fun x e n=>s.keep a x e (nw p n)⟩
theorem RSt.sameP (r:RSt K F M H σ ρ) (s:SameP K F.pp H H'):RSt K F M H' σ ρ:=by
 refine ⟨r.len,fun i q o h1 h2=>?_,r.ow.keep s.mv fun a h1 h2 h3=>s.ow a h1 h2 h3,r.sub,r.same.trans s.toSameQ,r.old,r.liv0.sameQ s.toSameQ,r.lk.cl s.mv⟩
 have:=r.sl i q o h1 h2
 cases q with
 | nil=>trivial
 | val d=>obtain ⟨v,e,h⟩:=this; exact ⟨v,e,h.mv s.mv⟩
 | pin w d=>obtain ⟨v,e,ew,h⟩:=this; exact ⟨v,e,ew,h.mv s.mv⟩
 | own ds =>
  obtain ⟨l,xs,e,hm,h0,hp,hl,hr⟩:=this
  exact ⟨l,xs,e,hm,h0,hp,s.keep l _ hl (nw hp),hr.mv s.mv⟩
 | obj q=>exact this
theorem RSt.at (r:RSt K F M H σ ρ) {i:Nat} {s:Sl} (h:ρ[i]? = some s):∃ o,σ[i]? = some o /\ RSl K F M H s o:=by
 have hi:i < σ.length:=by rw [r.len]; exact (List.getElem?_eq_some_iff.mp h).1
 exact ⟨σ[i],by simp [hi],r.sl i s _ h (by simp [hi])⟩
omit [Frm] in
theorem OwF.drop {σ':St} {ρ':DS} (h:OwF K F M H σ ρ) (i:Nat) (hσ:∀ j,j≠i->σ'[j]? = σ[j]?) (hρ:∀ j,j≠i->ρ'[j]? = ρ[j]?) (hn:∀ s,ρ'[i]? = some s->(∀ ds,s ≠ .own ds) /\ ∀ q,s ≠ .obj q):OwF K F M H σ' ρ' :=
 h.step .refl i hσ hρ fun A _ _=>⟨[],fun s o e _=>(by
  cases s with
  | nil=>trivial
  | val d=>trivial
  | pin w d=>trivial
  | own ds=>exact absurd rfl ((hn _ e).1 ds)
  | obj q=>exact absurd rfl ((hn _ e).2 q)),fun _ h=>(by simp at h),fun a ha _ _ _=>⟨ha,fun _ e _=>e⟩⟩
omit [Frm] in
theorem aN {α:Type} {l:List α} {i:Nat} {x y:α} (h:(l.set i x)[i]? = some y):y=x:=by
 have hi:i < l.length:=by have:=(List.getElem?_eq_some_iff.mp h).1; simpa using this
 simp [hi] at h
 exact h.symm
theorem RSt.set (r:RSt K F M H σ ρ) {d:D} {v:V} (h:Rep K F.pp M H d v) (i:Nat):RSt K F M H (σ.set i (some v)) (ρ.set i (.val d)):=by
 refine ⟨by simp [r.len],fun j s o h1 h2=>?_,r.ow.drop i (fun j e=>List.getElem?_set_ne (Ne.symm e)) (fun j e=>List.getElem?_set_ne (Ne.symm e)) (fun s e=>?_),r.sub,r.same,r.old,r.liv0,r.lk⟩
 ·by_cases e:i=j
  ·subst e
   rw [aN h1,aN h2]
   exact ⟨v,rfl,h⟩
  ·rw [List.getElem?_set_ne e] at h1 h2
   exact r.sl j s o h1 h2
 ·rw [aN e]
  exact ⟨fun ds z=>(by cases z),fun q z=>(by cases z)⟩
end
end DL
namespace DL
open PySem PySem.Spec L2
open PyProof.Rows hiding St
variable [TB]
variable [Frm]
abbrev DE:=DS->(D->DS->Prop)->Prop
abbrev DT:=DS->(Bool->DS->Prop)->Prop
abbrev DA:=DS->(List D->DS->Prop)->Prop
structure DEnds where
 nx:DS->Prop
 rt:D->Prop
 bk:DS->Prop:=fun _=>False
 ct:DS->Prop:=fun _=>False
abbrev DTS:=DEnds->DS->Prop
def slot:DS->Nat->Sl
 | [],_=>.nil
 | s::_,0=>s
 | _::r,n + 1=>slot r n
theorem aO:∀ {ρ:DS} {i:Nat} {s:Sl},slot ρ i=s->s ≠ .nil->ρ[i]? = some s
 | [],_,_,h,n=>absurd h.symm n
 | _::_,0,_,h,_=>by subst h; rfl
 | _::r,i + 1,s,h,n=>by simpa using aO (ρ:=r) (i:=i) h n
section
variable {X:Cx} {F:Fx}
structure PED (X:Cx) (e:Expr) (t:DE):Prop where
 mono:∀ ρ P P',(∀ d ρ',P d ρ'->P' d ρ')->t ρ P->t ρ P'
 run:∃ T:TE,PE X e T /\ ∀ {F:Fx} M H σ ρ (Q:VK),RSt X.K F M H σ ρ ->
  (t ρ fun d ρ'=>∀ M' H' v,Mv X.K F.pp M H M' H'->RSt X.K F M' H' σ ρ'->Rep X.K F.pp M' H' d v->Q v H')->T σ H Q
structure PTD (X:Cx) (e:Expr) (t:DT):Prop where
 mono:∀ ρ P P',(∀ b ρ',P b ρ'->P' b ρ')->t ρ P->t ρ P'
 run:∃ T:TT,PT X e T /\ ∀ {F:Fx} M H σ ρ (Q:Bool->Hp->Prop),RSt X.K F M H σ ρ ->
  (t ρ fun b ρ'=>∀ M' H',Mv X.K F.pp M H M' H'->RSt X.K F M' H' σ ρ'->Q b H')->T σ H Q
structure PWD (X:Cx) (e:Expr) (t:DT):Prop where
 mono:∀ ρ P P',(∀ b ρ',P b ρ'->P' b ρ')->t ρ P->t ρ P'
 run:∃ T:TT,PW X e T /\ ∀ {F:Fx} M H σ ρ (Q:Bool->Hp->Prop),RSt X.K F M H σ ρ ->
  (t ρ fun b ρ'=>∀ M' H',Mv X.K F.pp M H M' H'->RSt X.K F M' H' σ ρ'->Q b H')->T σ H Q
structure PAD (X:Cx) (es:List Expr) (t:DA):Prop where
 mono:∀ ρ P P',(∀ d ρ',P d ρ'->P' d ρ')->t ρ P->t ρ P'
 run:∃ T:TA,PA X es T /\ ∀ {F:Fx} M H σ ρ (Q:List V->Hp->Prop),RSt X.K F M H σ ρ ->
  (t ρ fun ds ρ'=>∀ M' H' vs,Mv X.K F.pp M H M' H'->RSt X.K F M' H' σ ρ'->Reps X.K F.pp M' H' ds vs->Q vs H')->T σ H Q
abbrev dC (d:D):DE:=fun ρ Q=>Q d ρ
theorem PED.con {e:Expr} {d:D} {v:V} (h:PE X e (tC v)) (r:∀ pp M H,Rep X.K pp M H d v):PED X e (dC d) :=
 ⟨fun _ _ _ f h=>f _ _ h,_,h,fun {F} M H _ _ _ rs q=>q M H v .refl rs (r _ M H)⟩
theorem ag {i j pos}:PED X (.Constant (.int i) j pos) (dC (.int i)):=.con bD fun _ _ _=>by simp only [Rep]
theorem fX {i j pos}:PED X (.Constant (.bool i) j pos) (dC (.bl i)):=.con Ce fun _ _ _=>by simp only [Rep]
theorem nM {j pos}:PED X (.Constant .none j pos) (dC .non):=.con zY fun _ _ _=>by simp only [Rep]
theorem gQ {x:Str} {n:String} {pos:Pos} (hg:Gl X x) (hm:X.mg x=none) (hv:bootBuiltins x=some (.type n)) (hn:x ≠ "__name__":=by decide) (hd:(x == ("__debug__" : Str))=false:=by decide):PED X (.Name x pos) (dC (.ty n)) :=
 .con (yn (v:=.ty n) hg hm hv rfl hn hd) fun _ _ _=>by simp only [Rep]
def AS (i:Nat) (ρ:DS) (Q:D->DS->Prop):Sl->Prop
 | .val d=>Q d ρ
 | .own ds=>Q (.lst ds) (ρ.set i (.val (.lst ds)))
 | .obj q=>Q (fzO q) (ρ.set i (.val (fzO q)))
 | .pin _ d=>Q d ρ
 | .nil=>False
abbrev dVar (i:Nat):DE:=fun ρ Q=>AS i ρ Q (slot ρ i)
theorem RSt.freeze {K:PySem.W.Frag} {M:List Addr} {H:Hp} {σ:St} {ρ:DS} {i:Nat} {ds:List D} (r:RSt K F M H σ ρ) (h:ρ[i]? = some (.own ds)) :
  ∃ M' v,σ[i]? = some (some v) /\ Mv K F.pp M H M' H /\ RSt K F M' H σ (ρ.set i (.val (.lst ds))) /\ Rep K F.pp M' H (.lst ds) v:=by
 obtain ⟨o,ho,l,xs,rfl,hm,h0,hp,hl,hr⟩:=r.at h
 have m:Mv K F.pp M H (M.filter fun a=>decide (a≠l)) H:=.less fun a ha=>(List.mem_filter.mp ha).1
 have rl:Rep K F.pp (M.filter fun a=>decide (a≠l)) H (.lst ds) (.ref l):=by
  simp only [Rep]
  exact ⟨l,xs,rfl,by simp,hp,hl,hr.mv m⟩
 refine ⟨_,_,ho,m,⟨by simp [r.len],fun j s o h1 h2=>?_,r.ow.step m i (fun _ _=>rfl) (fun j e=>List.getElem?_set_ne (Ne.symm e)) (fun A hA _=>⟨[],fun s o e _=>?_,fun _ h=>(by simp at h),fun a ha _ _ hn=>⟨?_,fun _ e _=>e⟩⟩),fun a ha=>?_,r.same,r.old,?_,r.lk.cl m⟩,rl⟩
 ·by_cases e:i=j
  ·subst e
   rw [ho] at h2
   rw [aN h1]
   cases h2
   exact ⟨_,rfl,rl⟩
  ·rw [List.getElem?_set_ne e] at h1
   have q:=r.sl j s o h1 h2
   cases s with
   | nil=>trivial
   | val d=>obtain ⟨v,e,q⟩:=q; exact ⟨v,e,q.mv m⟩
   | pin w d=>obtain ⟨v,e,ew,q⟩:=q; exact ⟨v,e,ew,q.mv m⟩
   | own es =>
    obtain ⟨l',ys,rfl,hm',h0',hp',hl',hr'⟩:=q
    refine ⟨l',ys,rfl,List.mem_filter.mpr ⟨hm',?_⟩,h0',hp',hl',hr'.mv m⟩
    by_cases z:l'=l
    ·subst z
     exact absurd (r.own i j _ _ _ h h1 ho h2) e
    ·simpa using z
   | obj q=>exact ‹_›
 ·rw [aN e]
  trivial
 ·obtain ⟨l2,e2,e3⟩:=hA _ _ h ho
  cases e2
  refine List.mem_filter.mpr ⟨ha,?_⟩
  by_cases z:a=l
  ·subst z
   exact absurd (by rw [e3]; simp) hn
  ·simpa using z
 ·refine List.mem_filter.mpr ⟨r.sub a ha,?_⟩
  by_cases z:a=l
  ·subst z
   exact absurd h0 (r.old a ha)
  ·simpa using z
 ·exact ⟨fun a ha=>r.liv.m a (List.mem_filter.mp ha).1,r.liv.p⟩
theorem RSt.objAt {K:PySem.W.Frag} {M:List Addr} {H:Hp} {σ:St} {ρ:DS} {i:Nat} {q:O} (r:RSt K F M H σ ρ) (h:ρ[i]? = some (.obj q)) :
  ∃ v A,σ[i]? = some (some v) /\ A.Nodup /\ RO K F.pp M H q v A /\ (∀ a∈A,a∈M /\ F.H0 a=none /\ F.pp≠some a) /\ ∀ (j:Nat) s o,j≠i->ρ[j]? = some s->σ[j]? = some o->∀ l,(∃ ds,s = .own ds)->o=some (.ref l)->l∉A:=by
 obtain ⟨o,ho,_⟩:=r.at h
 obtain ⟨As,k1,k2,k3⟩:=r.ow
 obtain ⟨nd,v,rfl,hq⟩:=k1 i _ _ h ho
 refine ⟨v,As i,ho,nd,hq,k2 i,fun j s o e h1 h2 l hs ho' hl=>?_⟩
 obtain ⟨ds,rfl⟩:=hs
 subst ho'
 obtain ⟨l2,e2,e3⟩:=k1 j _ _ h1 h2
 cases e2
 exact k3 j i e l (by rw [e3]; simp) hl
theorem RSt.freezeO {K:PySem.W.Frag} {M:List Addr} {H:Hp} {σ:St} {ρ:DS} {i:Nat} {q:O} (r:RSt K F M H σ ρ) (h:ρ[i]? = some (.obj q)) :
  ∃ M' v,σ[i]? = some (some v) /\ Mv K F.pp M H M' H /\ RSt K F M' H σ (ρ.set i (.val (fzO q))) /\ Rep K F.pp M' H (fzO q) v:=by
 obtain ⟨As,k1,k2,k3⟩:=r.ow
 obtain ⟨o,ho,_⟩:=r.at h
 obtain ⟨nd,v,rfl,hq⟩:=k1 i _ _ h ho
 have m:Mv K F.pp M H (M.filter fun a=>decide (a∉As i)) H:=.less fun a ha=>(List.mem_filter.mp ha).1
 have rl:Rep K F.pp (M.filter fun a=>decide (a∉As i)) H (fzO q) v:=RO.fz m q v (As i) (fun a ha=>⟨fun z=>absurd ha (by simpa using (List.mem_filter.mp z).2),(k2 i a ha).2.2⟩) hq
 refine ⟨_,_,ho,m,⟨by simp [r.len],fun j s o h1 h2=>?_,⟨fun j=>if j=i then [] else As j,fun j s o e1 e2=>?_,fun j a ha=>?_,fun j l e a ha hb=>?_⟩,fun a ha=>?_,r.same,r.old,?_,r.lk.cl m⟩,rl⟩
 ·by_cases e:i=j
  ·subst e
   rw [ho] at h2
   rw [aN h1]
   cases h2
   exact ⟨_,rfl,rl⟩
  ·rw [List.getElem?_set_ne e] at h1
   have q':=r.sl j s o h1 h2
   cases s with
   | nil=>trivial
   | val d=>obtain ⟨v,e,q⟩:=q'; exact ⟨v,e,q.mv m⟩
   | pin w d=>obtain ⟨v,e,ew,q⟩:=q'; exact ⟨v,e,ew,q.mv m⟩
   | own es =>
    obtain ⟨l',ys,rfl,hm',h0',hp',hl',hr'⟩:=q'
    refine ⟨l',ys,rfl,List.mem_filter.mpr ⟨hm',?_⟩,h0',hp',hl',hr'.mv m⟩
    obtain ⟨l2,e2,e3⟩:=k1 j _ _ h1 h2
    cases e2
    simpa using k3 j i (Ne.symm e) l' (by rw [e3]; simp)
   | obj q=>exact ‹_›
 ·show Ow K F _ H s o (if j=i then [] else As j)
  by_cases e:j=i
  ·subst e
   rw [aN e1]
   trivial
  ·rw [if_neg e]
   rw [List.getElem?_set_ne (Ne.symm e)] at e1
   exact (k1 j s o e1 e2).mv m fun a _ x z _=>z
 ·replace ha:a∈(if j=i then [] else As j):=ha
  by_cases e:j=i
  ·rw [if_pos e] at ha; simp at ha
  ·rw [if_neg e] at ha
   exact ⟨List.mem_filter.mpr ⟨(k2 j a ha).1,by simpa using k3 j i e a ha⟩,(k2 j a ha).2⟩
 ·replace ha:a∈(if j=i then [] else As j):=ha
  replace hb:a∈(if l=i then [] else As l):=hb
  by_cases e1:j=i
  ·rw [if_pos e1] at ha; simp at ha
  ·by_cases e2:l=i
   ·rw [if_pos e2] at hb; simp at hb
   ·rw [if_neg e1] at ha
    rw [if_neg e2] at hb
    exact k3 j l e a ha hb
 ·refine List.mem_filter.mpr ⟨r.sub a ha,?_⟩
  have:a∉As i:=fun z=>r.old a ha (k2 i a z).2.1
  simpa using this
 ·exact ⟨fun a ha=>r.liv.m a (List.mem_filter.mp ha).1,r.liv.p⟩
theorem ac (i:Nat) {e:Expr} (h:PE X e (tVar i)):PED X e (dVar i):=by
 refine ⟨fun ρ P P' f h=>?_,_,h,fun {F} M H σ ρ Q rs h=>?_⟩
 ·unfold dVar at h ⊢
  cases e:slot ρ i with
  | nil=>rw [e] at h; exact h
  | val d=>rw [e] at h; exact f _ _ h
  | own ds=>rw [e] at h; exact f _ _ h
  | obj q=>rw [e] at h; exact f _ _ h
  | pin w d=>rw [e] at h; exact f _ _ h
 ·unfold dVar at h
  cases e:slot ρ i with
  | nil=>rw [e] at h; exact h.elim
  | val d =>
   rw [e] at h
   obtain ⟨o,ho,v,rfl,r⟩:=rs.at (aO e (by intro z; cases z))
   exact ⟨v,ho,h M H v .refl rs r⟩
  | pin w d =>
   rw [e] at h
   obtain ⟨o,ho,v,rfl,_,r⟩:=rs.at (aO e (by intro z; cases z))
   exact ⟨v,ho,h M H v .refl rs r⟩
  | own ds =>
   rw [e] at h
   obtain ⟨M',v,ho,m,rs',r⟩:=rs.freeze (aO e (by intro z; cases z))
   exact ⟨v,ho,h M' H v m rs' r⟩
  | obj q =>
   rw [e] at h
   obtain ⟨M',v,ho,m,rs',r⟩:=rs.freezeO (aO e (by intro z; cases z))
   exact ⟨v,ho,h M' H v m rs' r⟩
structure OpD (X:Cx) (f:Value->Value->Sem Value) (g:D->D->(D->Prop)->Prop):Prop where
 mono:∀ x y P P',(∀ d,P d->P' d)->g x y P->g x y P'
 run:∃ r:R2,OpR X f r /\ ∀ {pp:Option Addr} M H x y v u (Q:VK),Lv pp M H->Rep X.K pp M H x v->Rep X.K pp M H y u ->
  g x y (fun d=>∀ H' w,SameP X.K pp H H'->Rep X.K pp M H' d w->Q w H')->r v u H Q
abbrev dOp (g:D->D->(D->Prop)->Prop) (ta tb:DE):DE:=fun ρ Q=>ta ρ fun x ρ1=>tb ρ1 fun y ρ2=>g x y fun d=>Q d ρ2
variable {a b c:Expr} {ta tb tc:DE} {pos:Pos} {g g':D->D->(D->Prop)->Prop}
theorem gR {g:D->D->(D->Prop)->Prop} (hg:∀ x y P P',(∀ d,P d->P' d)->g x y P->g x y P') (ha:PED X a ta) (hb:PED X b tb):∀ ρ P P',(∀ d ρ',P d ρ'->P' d ρ')->dOp g ta tb ρ P->dOp g ta tb ρ P' :=
 fun ρ _ _ f h=>ha.mono _ _ _ (fun _ _ h=>hb.mono _ _ _ (fun _ _ h=>hg _ _ _ _ (fun _ h=>f _ _ h) h) h) h
theorem lY {g:D->D->(D->Prop)->Prop} {r:R2} {Ta Tb:TE} (hg:∀ M H x y v u (Q:VK),Lv F.pp M H->Rep X.K F.pp M H x v->Rep X.K F.pp M H y u ->
   g x y (fun d=>∀ H' w,SameP X.K F.pp H H'->Rep X.K F.pp M H' d w->Q w H')->r v u H Q)
  (hgm:∀ x y P P',(∀ d,P d->P' d)->g x y P->g x y P') (ha:PED X a ta) (hb:PED X b tb)
  (ra:∀ M H σ ρ (Q:VK),RSt X.K F M H σ ρ->(ta ρ fun d ρ'=>∀ M' H' v,Mv X.K F.pp M H M' H'->RSt X.K F M' H' σ ρ'->Rep X.K F.pp M' H' d v->Q v H')->Ta σ H Q)
  (rb:∀ M H σ ρ (Q:VK),RSt X.K F M H σ ρ->(tb ρ fun d ρ'=>∀ M' H' v,Mv X.K F.pp M H M' H'->RSt X.K F M' H' σ ρ'->Rep X.K F.pp M' H' d v->Q v H')->Tb σ H Q)
  {M:List Addr} {H:Hp} {σ:St} {ρ:DS} {Q:VK} (rs:RSt X.K F M H σ ρ)
  (h:dOp g ta tb ρ fun d ρ'=>∀ M' H' v,Mv X.K F.pp M H M' H'->RSt X.K F M' H' σ ρ'->Rep X.K F.pp M' H' d v->Q v H'):tOp r Ta Tb σ H Q:=by
 refine ra M H σ ρ _ rs (ha.mono _ _ _ (fun x ρ1 h M1 H1 v m1 rs1 r1=>?_) h)
 refine rb M1 H1 σ ρ1 _ rs1 (hb.mono _ _ _ (fun y ρ2 h M2 H2 u m2 rs2 r2=>?_) h)
 refine hg M2 H2 x y v u _ rs2.liv (r1.mv m2) r2 (hgm _ _ _ _ (fun d h H' w s r=>?_) h)
 exact h M2 H' w ((m1.trans m2).trans s.mv) (rs2.sameP s) r
theorem bS {op:Operator} (ho:OpD X (binaryOp op) g) (ha:PED X a ta) (hb:PED X b tb):PED X (.BinOp a op b pos) (dOp g ta tb):=by
 obtain ⟨r,hr,hg⟩:=ho.run
 obtain ⟨Ta,pa,ra⟩:=ha.run
 obtain ⟨Tb,pb,rb⟩:=hb.run
 exact ⟨gR ho.mono ha hb,_,cL hr pa pb,fun {F} M H σ ρ Q rs h=>lY hg ho.mono ha hb ra rb rs h⟩
theorem jb {op:CmpOp} (ho:OpD X (compareOp op) g) (ha:PED X a ta) (hb:PED X b tb) (hm:behindInMarks op b=false):PED X (.Compare a [op] [b] pos) (dOp g ta tb):=by
 obtain ⟨r,hr,hg⟩:=ho.run
 obtain ⟨Ta,pa,ra⟩:=ha.run
 obtain ⟨Tb,pb,rb⟩:=hb.run
 exact ⟨gR ho.mono ha hb,_,yx hr pa pb hm,fun {F} M H σ ρ Q rs h=>lY hg ho.mono ha hb ra rb rs h⟩
def blD:D->(Bool->Prop)->Prop
 | .bl b,P=>P b
 | _,_=>False
theorem jt {d:D} {P P':Bool->Prop} (f:∀ b,P b->P' b) (h:blD d P):blD d P':=by cases d <;> first | exact h | exact f _ h
abbrev dB (t:DE):DT:=fun ρ Q=>t ρ fun d ρ'=>blD d fun b=>Q b ρ'
theorem iC {K:PySem.W.Frag} {pp:Option Addr} {M:List Addr} {H:Hp} {d:D} {v:V} {P:Bool->Prop} (r:Rep K pp M H d v) (h:blD d P):∃ k,v = .bl k /\ P k:=by
 cases d <;> first | exact h.elim | (simp only [Rep] at r; exact ⟨_,r,h⟩)
theorem pC (ha:PED X a ta):∀ ρ P P',(∀ b ρ',P b ρ'->P' b ρ')->dB ta ρ P->dB ta ρ P':=fun _ _ _ f h=>ha.mono _ _ _ (fun _ _ h=>jt (fun _ h=>f _ _ h) h) h
theorem aV {op:CmpOp} (ho:OpD X (compareOp op) g) (ha:PED X a ta) (hb:PED X b tb) (hm:behindInMarks op b=false):PTD X (.Compare a [op] [b] pos) (dB (dOp g ta tb)):=by
 obtain ⟨r,hr,hg⟩:=ho.run
 obtain ⟨Ta,pa,ra⟩:=ha.run
 obtain ⟨Tb,pb,rb⟩:=hb.run
 refine ⟨pC (X:=X) (a:=.Compare a [op] [b] pos) (jb ho ha hb hm),_,jH hr pa pb hm,fun {F} M H σ ρ Q rs h=>?_⟩
 refine lY hg ho.mono ha hb ra rb rs (gR ho.mono ha hb _ _ _ (fun d ρ' h M' H' v m rs' r=>?_) h)
 obtain ⟨k,e,h⟩:=iC r h
 exact ⟨k,e,h M' H' m rs'⟩
theorem bU {e:Expr} {t:DE} (h:PED X e t) (he:∀ whole,isTrue e X.env whole=(do let v ← whole; standAt e.pos; holding [v] (truthy v)):=by intro _; rfl):PTD X e (dB t):=by
 obtain ⟨T,p,r⟩:=h.run
 refine ⟨pC h,_,zZ p he,fun {F} M H σ ρ Q rs q=>?_⟩
 refine r M H σ ρ _ rs (h.mono _ _ _ (fun d ρ' h M' H' v m rs' r=>?_) q)
 obtain ⟨k,e,h⟩:=iC r h
 exact ⟨k,e,h M' H' m rs'⟩
structure Br (b:Bool) (A B:Prop):Prop where
 yes:b=true->A
 no:b=false->B
theorem Br.t {A B:Prop} (h:A):Br true A B:=⟨fun _=>h,fun e=>nomatch e⟩
theorem Br.f {A B:Prop} (h:B):Br false A B:=⟨(fun e=>nomatch e),fun _=>h⟩
abbrev dNot (t:DT):DT:=fun ρ Q=>t ρ fun b ρ'=>Q (!b) ρ'
abbrev dAnd (t u:DT):DT:=fun ρ Q=>t ρ fun b ρ'=>Br b (u ρ' Q) (Q false ρ')
abbrev dOr (t u:DT):DT:=fun ρ Q=>t ρ fun b ρ'=>Br b (Q true ρ') (u ρ' Q)
variable {tA tB:DT} {rest:List Expr}
theorem cI (h:PTD X a tA):PTD X (.UnaryOp .Not a pos) (dNot tA):=by
 obtain ⟨T,p,r⟩:=h.run
 exact ⟨fun _ _ _ f q=>h.mono _ _ _ (fun _ _ q=>f _ _ q) q,_,Ac p,fun {F} M H σ ρ Q rs q=>r M H σ ρ _ rs q⟩
theorem PWD.pt {e:Expr} {t:DT} (h:PWD X e t):PTD X e t:=by
 obtain ⟨T,p,r⟩:=h.run
 exact ⟨h.mono,T,p.pt,r⟩
theorem yT (h:PTD X a tA):PWD X (.BoolOp .And [a] pos) tA:=by
 obtain ⟨T,p,r⟩:=h.run
 exact ⟨h.mono,T,yo p,r⟩
theorem eY (h:PTD X a tA):PWD X (.BoolOp .Or [a] pos) tA:=by
 obtain ⟨T,p,r⟩:=h.run
 exact ⟨h.mono,T,xC p,r⟩
theorem xH (ha:PTD X a tA) (hb:PWD X (.BoolOp .And (b::rest) pos) tB):PWD X (.BoolOp .And (a::b::rest) pos) (dAnd tA tB):=by
 obtain ⟨T,p,r⟩:=ha.run
 obtain ⟨U,q,s⟩:=hb.run
 refine ⟨fun _ _ _ f h=>ha.mono _ _ _ (fun _ _ h=>⟨fun e=>hb.mono _ _ _ f (h.yes e),fun e=>f _ _ (h.no e)⟩) h,_,Aa p q,fun {F} M H σ ρ Q rs h=>?_⟩
 refine r M H σ ρ _ rs (ha.mono _ _ _ (fun c ρ1 h M1 H1 m1 rs1=>?_) h)
 cases c with
 | true=>exact iteT (s M1 H1 σ ρ1 _ rs1 (hb.mono _ _ _ (fun c ρ2 h M2 H2 m2 rs2=>h M2 H2 (m1.trans m2) rs2) (h.yes rfl)))
 | false=>exact iteF (h.no rfl M1 H1 m1 rs1)
theorem eZ (ha:PTD X a tA) (hb:PWD X (.BoolOp .Or (b::rest) pos) tB):PWD X (.BoolOp .Or (a::b::rest) pos) (dOr tA tB):=by
 obtain ⟨T,p,r⟩:=ha.run
 obtain ⟨U,q,s⟩:=hb.run
 refine ⟨fun _ _ _ f h=>ha.mono _ _ _ (fun _ _ h=>⟨fun e=>f _ _ (h.yes e),fun e=>hb.mono _ _ _ f (h.no e)⟩) h,_,Ab p q,fun {F} M H σ ρ Q rs h=>?_⟩
 refine r M H σ ρ _ rs (ha.mono _ _ _ (fun c ρ1 h M1 H1 m1 rs1=>?_) h)
 cases c with
 | true=>exact iteT (h.yes rfl M1 H1 m1 rs1)
 | false=>exact iteF (s M1 H1 σ ρ1 _ rs1 (hb.mono _ _ _ (fun c ρ2 h M2 H2 m2 rs2=>h M2 H2 (m1.trans m2) rs2) (h.no rfl)))
abbrev CC (t:DE):DE:=fun ρ Q=>t ρ fun d ρ'=>blD d fun b=>Q (.bl (!b)) ρ'
abbrev CD (t u:DE):DE:=fun ρ Q=>t ρ fun d ρ'=>blD d fun b=>Br b (u ρ' Q) (Q (.bl false) ρ')
theorem cJ {K:PySem.W.Frag} {pp:Option Addr} {M:List Addr} {H:Hp} {b:Bool}:Rep K pp M H (.bl b) (.bl b):=by simp only [Rep]
theorem bV {K:PySem.W.Frag} {pp:Option Addr} {M:List Addr} {H:Hp} {b:Int}:Rep K pp M H (.int b) (.int b):=by simp only [Rep]
theorem xI {op} {t:DE} (h:PED X a t):PED X (.BoolOp op [a] pos) t:=by
 obtain ⟨T,p,r⟩:=h.run
 exact ⟨h.mono,T,Ad p,r⟩
theorem AT (h:PED X a ta):PED X (.UnaryOp .Not a pos) (CC ta):=by
 obtain ⟨T,p,r⟩:=h.run
 refine ⟨fun _ _ _ f q=>h.mono _ _ _ (fun _ _ q=>jt (fun _ q=>f _ _ q) q) q,_,Af p,fun {F} M H σ ρ Q rs q=>r M H σ ρ _ rs (h.mono _ _ _ (fun d ρ' q M' H' v m rs' r=>?_) q)⟩
 obtain ⟨k,e,q⟩:=iC r q
 exact ⟨k,e,q M' H' _ m rs' cJ⟩
theorem xJ (ha:PED X a ta) (hb:PED X (.BoolOp .And (b::rest) pos) tb):PED X (.BoolOp .And (a::b::rest) pos) (CD ta tb):=by
 obtain ⟨T,p,r⟩:=ha.run
 obtain ⟨U,q,s⟩:=hb.run
 refine ⟨fun _ _ _ f h=>ha.mono _ _ _ (fun _ _ h=>jt (fun _ h=>⟨fun e=>hb.mono _ _ _ f (h.yes e),fun e=>f _ _ (h.no e)⟩) h) h,_,Ae p q,fun {F} M H σ ρ Q rs h=>?_⟩
 refine r M H σ ρ _ rs (ha.mono _ _ _ (fun d ρ1 h M1 H1 v m1 rs1 r1=>?_) h)
 obtain ⟨c,e,h⟩:=iC r1 h
 refine ⟨c,e,?_⟩
 cases c with
 | true=>exact iteT (s M1 H1 σ ρ1 _ rs1 (hb.mono _ _ _ (fun c ρ2 h M2 H2 v m2 rs2=>h M2 H2 v (m1.trans m2) rs2) (h.yes rfl)))
 | false=>exact iteF (h.no rfl M1 H1 _ m1 rs1 cJ)
abbrev dIf (t:DT) (ta tb:DE):DE:=fun ρ Q=>t ρ fun b ρ'=>Br b (ta ρ' Q) (tb ρ' Q)
theorem wo {c:Expr} (hc:PTD X c tA) (ha:PED X a ta) (hb:PED X b tb):PED X (.IfExp c a b pos) (dIf tA ta tb):=by
 obtain ⟨T,p,r⟩:=hc.run
 obtain ⟨U,q,s⟩:=ha.run
 obtain ⟨U',q',s'⟩:=hb.run
 refine ⟨fun _ _ _ f h=>hc.mono _ _ _ (fun _ _ h=>⟨fun e=>ha.mono _ _ _ f (h.yes e),fun e=>hb.mono _ _ _ f (h.no e)⟩) h,_,qz p q q',fun {F} M H σ ρ Q rs h=>?_⟩
 refine r M H σ ρ _ rs (hc.mono _ _ _ (fun c ρ1 h M1 H1 m1 rs1=>?_) h)
 cases c with
 | true=>exact iteT (s M1 H1 σ ρ1 _ rs1 (ha.mono _ _ _ (fun c ρ2 h M2 H2 v m2 rs2=>h M2 H2 v (m1.trans m2) rs2) (h.yes rfl)))
 | false=>exact iteF (s' M1 H1 σ ρ1 _ rs1 (hb.mono _ _ _ (fun c ρ2 h M2 H2 v m2 rs2=>h M2 H2 v (m1.trans m2) rs2) (h.no rfl)))
abbrev nO (g g':D->D->(D->Prop)->Prop) (ta tb tc:DE):DE:=fun ρ Q=>ta ρ fun x ρ1=>tb ρ1 fun y ρ2=>g x y fun d=>blD d fun k=>Br k (tc ρ2 fun z ρ3=>g' y z fun d=>Q d ρ3) (Q (.bl false) ρ2)
theorem jS (ho:∀ x y P P',(∀ d,P d->P' d)->g x y P->g x y P') (ho':∀ x y P P',(∀ d,P d->P' d)->g' x y P->g' x y P') (ha:PED X a ta) (hb:PED X b tb) (hc:PED X c tc) :
  ∀ ρ P P',(∀ d ρ',P d ρ'->P' d ρ')->nO g g' ta tb tc ρ P->nO g g' ta tb tc ρ P' :=
 fun _ _ _ f h=>ha.mono _ _ _ (fun _ _ h=>hb.mono _ _ _ (fun _ _ h=>ho _ _ _ _ (fun _ h=>jt (fun _ h=>⟨fun e=>hc.mono _ _ _ (fun _ _ h=>ho' _ _ _ _ (fun _ h=>f _ _ h) h) (h.yes e),fun e=>f _ _ (h.no e)⟩) h) h) h) h
theorem lg {op op':CmpOp} (ho:OpD X (compareOp op) g) (ho':OpD X (compareOp op') g') (ha:PED X a ta) (hb:PED X b tb) (hc:PED X c tc)  :
  ∃ (r r':R2) (Ta Tb Tc:TE),OpR X (compareOp op) r /\ OpR X (compareOp op') r' /\ PE X a Ta /\ PE X b Tb /\ PE X c Tc /\ ∀ {F:Fx} M H σ ρ (Q:VK),RSt X.K F M H σ ρ ->
  (nO g g' ta tb tc ρ fun d ρ'=>∀ M' H' v,Mv X.K F.pp M H M' H'->RSt X.K F M' H' σ ρ'->Rep X.K F.pp M' H' d v->Q v H')->tq r r' Ta Tb Tc σ H Q:=by
 obtain ⟨r,hr,hg⟩:=ho.run
 obtain ⟨r',hr',hg'⟩:=ho'.run
 obtain ⟨Ta,pa,ra⟩:=ha.run
 obtain ⟨Tb,pb,rb⟩:=hb.run
 obtain ⟨Tc,pc,rc⟩:=hc.run
 refine ⟨r,r',Ta,Tb,Tc,hr,hr',pa,pb,pc,fun {F} M H σ ρ Q rs h=>?_⟩
 refine ra M H σ ρ _ rs (ha.mono _ _ _ (fun x ρ1 h M1 H1 v m1 rs1 r1=>?_) h)
 refine rb M1 H1 σ ρ1 _ rs1 (hb.mono _ _ _ (fun y ρ2 h M2 H2 u m2 rs2 r2=>?_) h)
 refine hg M2 H2 x y v u _ rs2.liv (r1.mv m2) r2 (ho.mono _ _ _ _ (fun d h H' w s r=>?_) h)
 obtain ⟨k,e,h⟩:=iC r h
 refine ⟨k,e,?_⟩
 have rs3:=rs2.sameP s
 have m3:Mv X.K F.pp M H M2 H':=(m1.trans m2).trans s.mv
 cases k with
 | false=>exact iteF (h.no rfl M2 H' _ m3 rs3 cJ)
 | true =>
  refine iteT (rc M2 H' σ ρ2 _ rs3 (hc.mono _ _ _ (fun z ρ3 h M4 H4 w' m4 rs4 r4=>?_) (h.yes rfl)))
  refine hg' M4 H4 y z u w' _ rs4.liv ((r2.mv s.mv).mv m4) r4 (ho'.mono _ _ _ _ (fun d h H5 w s r=>?_) h)
  exact h M4 H5 w ((m3.trans m4).trans s.mv) (rs4.sameP s) r
theorem lZ {op op':CmpOp} (ho:OpD X (compareOp op) g) (ho':OpD X (compareOp op') g') (ha:PED X a ta) (hb:PED X b tb) (hc:PED X c tc)
  (hm:lastMarks [op,op'] [b,c]=false:=by with_unfolding_all rfl):PED X (.Compare a [op,op'] [b,c] pos) (nO g g' ta tb tc):=by
 obtain ⟨r,r',Ta,Tb,Tc,hr,hr',pa,pb,pc,h⟩:=lg ho ho' ha hb hc
 exact ⟨jS ho.mono ho'.mono ha hb hc,_,vW hr hr' pa pb pc hm,h⟩
theorem wq {op op':CmpOp} (ho:OpD X (compareOp op) g) (ho':OpD X (compareOp op') g') (ha:PED X a ta) (hb:PED X b tb) (hc:PED X c tc)
  (hm:lastMarks [op,op'] [b,c]=false:=by with_unfolding_all rfl):PTD X (.Compare a [op,op'] [b,c] pos) (dB (nO g g' ta tb tc)):=by
 obtain ⟨r,r',Ta,Tb,Tc,hr,hr',pa,pb,pc,h⟩:=lg ho ho' ha hb hc
 refine ⟨pC (X:=X) (a:=.Compare a [op,op'] [b,c] pos) (lZ ho ho' ha hb hc hm),_,vX hr hr' pa pb pc hm,fun {F} M H σ ρ Q rs q=>?_⟩
 refine h M H σ ρ _ rs (jS ho.mono ho'.mono ha hb hc _ _ _ (fun d ρ' h M' H' v m rs' r=>?_) q)
 obtain ⟨k,e,h⟩:=iC r h
 exact ⟨k,e,h M' H' m rs'⟩
variable {tL:DA} {es:List Expr} {e:Expr}
abbrev wt:DA:=fun ρ Q=>Q [] ρ
abbrev qE (t:DE) (u:DA):DA:=fun ρ Q=>t ρ fun x ρ1=>u ρ1 fun xs ρ2=>Q (x::xs) ρ2
theorem ad:PAD X [] wt:=⟨fun _ _ _ f h=>f _ _ h,_,dW,fun {F} M H _ _ _ rs h=>h M H [] .refl rs .nil⟩
theorem aa (ha:PED X e ta) (hr:PAD X es tL) (hs:starEach (e::es) X.env=(false,eval e X.env)::starEach es X.env:=by rfl):PAD X (e::es) (qE ta tL):=by
 obtain ⟨T,p,r⟩:=ha.run
 obtain ⟨U,q,s⟩:=hr.run
 refine ⟨fun _ _ _ f h=>ha.mono _ _ _ (fun _ _ h=>hr.mono _ _ _ (fun _ _ h=>f _ _ h) h) h,_,bL p q hs,fun {F} M H σ ρ Q rs h=>?_⟩
 refine r M H σ ρ _ rs (ha.mono _ _ _ (fun x ρ1 h M1 H1 v m1 rs1 r1=>?_) h)
 exact s M1 H1 σ ρ1 _ rs1 (hr.mono _ _ _ (fun ds ρ2 h M2 H2 vs m2 rs2 r2=>h M2 H2 (v::vs) (m1.trans m2) rs2 (.cons (r1.mv m2) r2)) h)
abbrev dTup (t:DA):DE:=fun ρ Q=>t ρ fun xs ρ1=>xs.length <= sizeLine /\ Q (.tup xs) ρ1
theorem cu {x1} (h:PAD X es tL):PED X (.Tuple es x1 pos) (dTup tL):=by
 obtain ⟨T,p,r⟩:=h.run
 refine ⟨fun _ _ _ f q=>h.mono _ _ _ (fun _ _ q=>⟨q.1,f _ _ q.2⟩) q,_,Au p,fun {F} M H σ ρ Q rs q=>?_⟩
 refine r M H σ ρ _ rs (h.mono _ _ _ (fun ds ρ1 q M1 H1 vs m1 rs1 r1=>?_) q)
 refine ⟨by rw [← r1.length]; exact q.1,fun l hl=>?_⟩
 refine q.2 M1 _ _ (m1.trans (.new hl)) (rs1.sameP (.new hl)) ?_
 simp only [Rep]
 exact ⟨l,vs,rfl,ao,r1.mv (.new hl)⟩
structure PLD (X:Cx) (e:Expr) (t:DA):Prop where
 mono:∀ ρ P P',(∀ d ρ',P d ρ'->P' d ρ')->t ρ P->t ρ P'
 run:∃ T:TE,PE X e T /\ ∀ {F:Fx} M H σ ρ (Q:VK),RSt X.K F M H σ ρ ->
  (t ρ fun ds ρ'=>∀ M' H1 H' l xs,Mv X.K F.pp M H M' H1->RSt X.K F M' H1 σ ρ'->H1 l=none->H'=upd H1 l (.lst xs)->Reps X.K F.pp M' H1 ds xs->Q (.ref l) H')->T σ H Q
abbrev dLst (t:DA):DA:=fun ρ Q=>t ρ fun xs ρ1=>xs.length <= sizeLine /\ Q xs ρ1
theorem fc (h:PAD X es tL):PLD X (.List es pos) (dLst tL):=by
 obtain ⟨T,p,r⟩:=h.run
 refine ⟨fun _ _ _ f q=>h.mono _ _ _ (fun _ _ q=>⟨q.1,f _ _ q.2⟩) q,_,tF p,fun {F} M H σ ρ Q rs q=>?_⟩
 refine r M H σ ρ _ rs (h.mono _ _ _ (fun ds ρ1 q M1 H1 vs m1 rs1 r1=>?_) q)
 exact ⟨by rw [← r1.length]; exact q.1,fun l hl=>q.2 M1 H1 _ l vs m1 rs1 hl rfl r1⟩
abbrev dFrz (t:DA):DE:=fun ρ Q=>t ρ fun xs ρ1=>Q (.lst xs) ρ1
theorem aF (h:PLD X e tL):PED X e (dFrz tL):=by
 obtain ⟨T,p,r⟩:=h.run
 refine ⟨fun _ _ _ f q=>h.mono _ _ _ (fun _ _ q=>f _ _ q) q,T,p,fun {F} M H σ ρ Q rs q=>?_⟩
 refine r M H σ ρ _ rs (h.mono _ _ _ (fun ds ρ1 q M1 H1 H' l xs m1 rs1 hl e r1=>?_) q)
 subst e
 refine q M1 _ _ (m1.trans (.new hl)) (rs1.sameP (.new hl)) ?_
 simp only [Rep]
 exact ⟨l,xs,rfl,(rs1.liv.fresh hl).1,(rs1.liv.fresh hl).2,ao,r1.mv (.new hl)⟩
end
end DL
namespace DL
open PySem PySem.Spec L2
open PyProof.Rows hiding St
variable [TB]
variable [Frm]
abbrev DSp:=List D->(D->Prop)->Prop
def spD (K:PySem.W.Frag) (n:Nat) (g:DSp):Sp:=fun vs H Q _=>∃ pp M ds,Lv pp M H /\ Reps K pp M H ds vs /\ ds.length=n /\ g ds (fun d=>∀ H' v,SameP K pp H H'->Rep K pp M H' d v->Q v H')
def bG (g:DSp):Prop:=∀ ds P P',(∀ d,P d->P' d)->g ds P->g ds P'
structure CallD (X:Cx) (f:Value) (g:DSp):Prop where
 mono:bG g
 run:∃ r:List V->Hp->VK->Prop,dU X f r /\ ∀ {pp:Option Addr} M H ds vs (Q:VK),Lv pp M H->Reps X.K pp M H ds vs->g ds (fun d=>∀ H' w,SameP X.K pp H H'->Rep X.K pp M H' d w->Q w H')->r vs H Q
abbrev dCB (g:DSp) (t:DA):DE:=fun ρ Q=>t ρ fun ds ρ1=>g ds fun d=>Q d ρ1
abbrev yU (n:Nat) (g:DSp) (t:DA):DE:=fun ρ Q=>t ρ fun ds ρ1=>ds.length=n /\ g ds fun d=>Q d ρ1
section
variable {X:Cx} {F:Fx} {x:Str} {p pos:Pos} {e:Expr} {es:List Expr} {t:DA} {id T:String} {g:DSp}
theorem aq (hc:CallD X (.builtin id) g) (hg:Gl X x) (hm:X.mg x=none) (hv:bootBuiltins x=some (.builtin id)) (ha:PAD X (e::es) t) (hn:x ≠ "__name__":=by decide) (hdb:(x == ("__debug__" : Str))=false:=by decide)
  (he:starEach (e::es) X.env=(false,eval e X.env)::starEach es X.env:=by rfl) (hpl:(backTo pos (starEach es X.env)).any (·.1)=false:=by rfl):PED X (.Call (.Name x p) (e::es) [] pos) (dCB g t):=by
 obtain ⟨r,hr,h⟩:=hc.run
 obtain ⟨T,pa,ra⟩:=ha.run
 refine ⟨fun _ _ _ f q=>ha.mono _ _ _ (fun _ _ q=>hc.mono _ _ _ (fun _ q=>f _ _ q) q) q,_,gK hr hg hm hv pa hn hdb he hpl,fun {F} M H σ ρ Q rs q=>?_⟩
 refine ra M H σ ρ _ rs (ha.mono _ _ _ (fun ds ρ1 q M1 H1 vs m1 rs1 r1=>?_) q)
 exact h M1 H1 ds vs _ rs1.liv r1 (hc.mono _ _ _ (fun d q H' w s r=>q M1 H' w (m1.trans s.mv) (rs1.sameP s) r) q)
theorem aW (hc:CallD X (.type T) g) (hg:Gl X x) (hm:X.mg x=none) (hv:bootBuiltins x=some (.type T)) (ha:PAD X (e::es) t) (hn:x ≠ "__name__":=by decide) (hdb:(x == ("__debug__" : Str))=false:=by decide)
  (he:starEach (e::es) X.env=(false,eval e X.env)::starEach es X.env:=by rfl) (hpl:(backTo pos (starEach es X.env)).any (·.1)=false:=by rfl):PED X (.Call (.Name x p) (e::es) [] pos) (dCB g t):=by
 obtain ⟨r,hr,h⟩:=hc.run
 obtain ⟨T,pa,ra⟩:=ha.run
 refine ⟨fun _ _ _ f q=>ha.mono _ _ _ (fun _ _ q=>hc.mono _ _ _ (fun _ q=>f _ _ q) q) q,_,jJ hr hg hm hv pa hn hdb he hpl,fun {F} M H σ ρ Q rs q=>?_⟩
 refine ra M H σ ρ _ rs (ha.mono _ _ _ (fun ds ρ1 q M1 H1 vs m1 rs1 r1=>?_) q)
 exact h M1 H1 ds vs _ rs1.liv r1 (hc.mono _ _ _ (fun d q H' w s r=>q M1 H' w (m1.trans s.mv) (rs1.sameP s) r) q)
theorem aj {k n:Nat} {f:Addr} {fd:FuncData} {ps:List Str} (Fn:FnOk X.prog X.w X.K X.mg X.base CX0 k f fd ps (spD X.K n g)) (gm:bG g) (hr:Room k X.A) (hg:Gl X x) (hm:X.mg x=some (.ref f)) (hk:PySem.W.keepIn X.K (.ref f)=true) (hb:Binds X.K fd ps [])
  (ha:PAD X (e::es) t) (hdb:(x == ("__debug__" : Str))=false:=by decide) (he:starEach (e::es) X.env=(false,eval e X.env)::starEach es X.env:=by rfl) (hpl:(backTo pos (starEach es X.env)).any (·.1)=false:=by rfl) :
  PED X (.Call (.Name x p) (e::es) [] pos) (yU n g t):=by
 obtain ⟨T,pa,ra⟩:=ha.run
 refine ⟨fun _ _ _ f q=>ha.mono _ _ _ (fun _ _ q=>⟨q.1,gm _ _ _ (fun _ q=>f _ _ q) q.2⟩) q,_,tH Fn hr hg hm hk hb .nil AL pa hdb he hpl,fun {F} M H σ ρ Q rs q=>?_⟩
 refine ra M H σ ρ _ rs (ha.mono _ _ _ (fun ds ρ1 q M1 H1 vs m1 rs1 r1=>?_) q)
 rw [List.append_nil]
 exact ⟨F.pp,M1,ds,rs1.liv,r1,q.1,gm _ _ _ (fun d q H' w s r=>q M1 H' w (m1.trans s.mv) (rs1.sameP s) r) q.2⟩
end
structure EO (K:PySem.W.Frag) (F:Fx) (M:List Addr) (H:Hp) (E:DEnds) (D:Ends):Prop where
 nx:∀ M' H' σ' ρ',Mv K F.pp M H M' H'->RSt K F M' H' σ' ρ'->E.nx ρ'->D.nx σ' H'
 bk:∀ M' H' σ' ρ',Mv K F.pp M H M' H'->RSt K F M' H' σ' ρ'->E.bk ρ'->D.bk σ' H'
 ct:∀ M' H' σ' ρ',Mv K F.pp M H M' H'->RSt K F M' H' σ' ρ'->E.ct ρ'->D.ct σ' H'
 rt:∀ M' H' σ' ρ' d v,Mv K F.pp M H M' H'->RSt K F M' H' σ' ρ'->Rep K F.pp M' H' d v->E.rt d->D.rt v H'
theorem EO.mv {K:PySem.W.Frag} {F:Fx} {M M1:List Addr} {H H1:Hp} {E:DEnds} {D:Ends} (o:EO K F M H E D) (m:Mv K F.pp M H M1 H1):EO K F M1 H1 E D :=
 ⟨fun _ _ _ _ m'=>o.nx _ _ _ _ (m.trans m'),fun _ _ _ _ m'=>o.bk _ _ _ _ (m.trans m'),fun _ _ _ _ m'=>o.ct _ _ _ _ (m.trans m'),fun _ _ _ _ _ _ m'=>o.rt _ _ _ _ _ _ (m.trans m')⟩
def PSD (X:Cx) (st:Stmt) (t:DTS):Prop:=∃ T:TS,PS X st T /\ ∀ {F:Fx} M H σ ρ (E:DEnds) (D:Ends),RSt X.K F M H σ ρ->EO X.K F M H E D->t E ρ->T D σ H
def PSsD (X:Cx) (st:List Stmt) (t:DTS):Prop:=∃ T:TS,PSs X st T /\ ∀ {F:Fx} M H σ ρ (E:DEnds) (D:Ends),RSt X.K F M H σ ρ->EO X.K F M H E D->t E ρ->T D σ H
section
variable {X:Cx} {F:Fx} {st:Stmt} {rest a b:List Stmt} {t u:DTS} {e c:Expr} {te:DE} {tc:DT} {tl:DA} {pos:Pos}
abbrev CF:DTS:=fun E ρ=>E.nx ρ
abbrev dSeq (t u:DTS):DTS:=fun E ρ=>t { E with nx:=u E } ρ
abbrev dMid (t u:DTS):DTS:=fun E ρ=>∃ N:DS->Prop,t { E with nx:=N } ρ /\ ∀ ρ',N ρ'->u E ρ'
theorem aP:PSsD X [] CF:=⟨_,lJ,fun {F} M H σ ρ E D rs o h=>o.nx M H σ ρ .refl rs h⟩
theorem ah (h:PSD X st t):PSsD X [st] t:=by
 obtain ⟨T,p,r⟩:=h
 exact ⟨T,gg p,r⟩
theorem al (h1:PSD X st t) (h2:PSsD X rest u):PSsD X (st::rest) (dSeq t u):=by
 obtain ⟨T,p,r⟩:=h1
 obtain ⟨U,q,s⟩:=h2
 refine ⟨_,br p q,fun {F} M H σ ρ E D rs o h=>r M H σ ρ { E with nx:=u E } { D with nx:=U D } rs ⟨fun M' H' σ' ρ' m rs' h=>?_,o.bk,o.ct,o.rt⟩ h⟩
 exact s M' H' σ' ρ' E D rs' (o.mv m) h
theorem ba (h1:PSD X st t) (h2:PSsD X rest u):PSsD X (st::rest) (dMid t u):=by
 obtain ⟨T,p,r⟩:=h1
 obtain ⟨U,q,s⟩:=h2
 refine ⟨_,br p q,fun {F} M H σ ρ E D rs o h=>?_⟩
 obtain ⟨N,h,hn⟩:=h
 refine r M H σ ρ { E with nx:=N } { D with nx:=U D } rs ⟨fun M' H' σ' ρ' m rs' h=>?_,o.bk,o.ct,o.rt⟩ h
 exact s M' H' σ' ρ' E D rs' (o.mv m) (hn _ h)
abbrev AU:DTS:=fun _ _=>False
theorem gS:PSD X st AU:=⟨_,vU,fun _ _ _ _ _ _ _ _ h=>h⟩
abbrev dRet (te:DE):DTS:=fun E ρ=>te ρ fun d _=>E.rt d
theorem aI (h:PED X e te):PSD X (.Return (some e) pos) (dRet te):=by
 obtain ⟨T,p,r⟩:=h.run
 refine ⟨_,nj p,fun {F} M H σ ρ E D rs o q=>r M H σ ρ _ rs (h.mono _ _ _ (fun d ρ' q M' H' v m rs' r'=>?_) q)⟩
 exact o.rt M' H' σ ρ' d v m rs' r' q
abbrev CG (te:DE):DTS:=fun E ρ=>te ρ fun _ ρ'=>E.nx ρ'
theorem pD (h:PED X e te) (hs:swapsWith e none pos.line X.env=pure false:=by rfl):PSD X (.Expr e pos) (CG te):=by
 obtain ⟨T,p,r⟩:=h.run
 refine ⟨_,oZ p hs,fun {F} M H σ ρ E D rs o q=>r M H σ ρ _ rs (h.mono _ _ _ (fun d ρ' q M' H' v m rs' r'=>?_) q)⟩
 exact o.nx M' H' σ ρ' m rs' q
abbrev dIfS (c:DT) (t u:DTS):DTS:=fun E ρ=>c ρ fun b ρ'=>Br b (t E ρ') (u E ρ')
theorem cz (hc:PTD X c tc) (ha:PSsD X a t) (hb:PSsD X b u):PSD X (.If c a b pos) (dIfS tc t u):=by
 obtain ⟨T,p,r⟩:=hc.run
 obtain ⟨U,q,s⟩:=ha
 obtain ⟨U',q',s'⟩:=hb
 refine ⟨_,vT p q q',fun {F} M H σ ρ E D rs o h=>r M H σ ρ _ rs (hc.mono _ _ _ (fun k ρ1 h M1 H1 m1 rs1=>?_) h)⟩
 cases k with
 | true=>exact iteT (s M1 H1 σ ρ1 E D rs1 (o.mv m1) (h.yes rfl))
 | false=>exact iteF (s' M1 H1 σ ρ1 E D rs1 (o.mv m1) (h.no rfl))
abbrev dSet (i:Nat) (te:DE):DTS:=fun E ρ=>te ρ fun d ρ'=>E.nx (ρ'.set i (.val d))
theorem aX {i:Nat} {x:Str} {pos':Pos} (hN:X.N.Nodup) (hi:X.N[i]? = some x) (hx:Loc X.env.scope x) (h:PED X e te) (hs:swapsWith e (some (.Name x pos')) pos.line X.env=pure false:=by rfl) (hf:X.fn x=true∨X.env.scope.names.lookup x=some .local:=by first | exact .inl rfl | exact .inr rfl | assumption) :
  PSD X (.Assign [.Name x pos'] e pos) (dSet i te):=by
 obtain ⟨T,p,r⟩:=h.run
 refine ⟨_,gJ hN hi hx p hs hf,fun {F} M H σ ρ E D rs o q=>r M H σ ρ _ rs (h.mono _ _ _ (fun d ρ' q M' H' v m rs' r'=>?_) q)⟩
 exact o.nx M' H' _ _ m (rs'.set r' i) q
abbrev dOwn (i:Nat) (t:DA):DTS:=fun E ρ=>t ρ fun ds ρ'=>E.nx (ρ'.set i (.own ds))
theorem RSt.newOwn {K:PySem.W.Frag} {M:List Addr} {H:Hp} {σ:St} {ρ:DS} {l:Addr} {xs:List V} {ds:List D} (r:RSt K F M H σ ρ) (hl:H l=none) (hd:Reps K F.pp M H ds xs) (i:Nat) :
  RSt K F (l::M) (upd H l (.lst xs)) (σ.set i (some (.ref l))) (ρ.set i (.own ds)):=by
 have m:Mv K F.pp M H (l::M) (upd H l (.lst xs)):=.newOwn hl
 have s:SameP K F.pp H (upd H l (.lst xs)):=.new hl
 have h0:F.H0 l=none:=by
  cases e:F.H0 l with
  | none=>rfl
  | some o=>exact absurd hl (r.same.live l (by rw [e]; intro z; cases z))
 refine ⟨by simp [r.len],fun j q o h1 h2=>?_,r.ow.step m i (fun j e=>List.getElem?_set_ne (Ne.symm e)) (fun j e=>List.getElem?_set_ne (Ne.symm e)) (fun A _ _=>⟨[l],fun s o e1 e2=>?_,fun b hb=>?_,fun a ha hp h0' _=>⟨List.mem_cons_of_mem _ ha,fun x e _=>gj hl e⟩⟩),fun a ha=>List.mem_cons_of_mem _ (r.sub a ha),r.same.trans s.toSameQ,r.old,?_,r.lk.cl m⟩
 ·by_cases e:i=j
  ·subst e
   rw [aN h1,aN h2]
   exact ⟨l,xs,rfl,List.mem_cons_self,h0,(r.liv.fresh hl).2,ao,hd.mv m⟩
  ·rw [List.getElem?_set_ne e] at h1 h2
   have q':=r.sl j q o h1 h2
   cases q with
   | nil=>trivial
   | val d=>obtain ⟨v,e,q⟩:=q'; exact ⟨v,e,q.mv m⟩
   | pin w d=>obtain ⟨v,e,ew,q⟩:=q'; exact ⟨v,e,ew,q.mv m⟩
   | own es =>
    obtain ⟨l',ys,rfl,hm',h0',hp',hl',hr'⟩:=q'
    exact ⟨l',ys,rfl,List.mem_cons_of_mem _ hm',h0',hp',gj hl hl',hr'.mv m⟩
   | obj q=>exact q'
 ·rw [aN e1,aN e2]
  exact ⟨l,rfl,rfl⟩
 ·rw [List.mem_singleton.mp hb]
  exact ⟨List.mem_cons_self,h0,(r.liv.fresh hl).2,.inr (r.liv.fresh hl).1⟩
 ·refine ⟨fun a ha=>?_,fun p e=>s.live p (r.liv.p p e)⟩
  rcases List.mem_cons.mp ha with rfl | ha
  ·rw [ao]; intro z; cases z
  ·exact s.live a (r.liv.m a ha)
theorem nP {i:Nat} {x:Str} {pos':Pos} (hN:X.N.Nodup) (hi:X.N[i]? = some x) (hx:Loc X.env.scope x) (h:PLD X e tl) (hs:swapsWith e (some (.Name x pos')) pos.line X.env=pure false:=by rfl) (hf:X.fn x=true∨X.env.scope.names.lookup x=some .local:=by first | exact .inl rfl | exact .inr rfl | assumption) :
  PSD X (.Assign [.Name x pos'] e pos) (dOwn i tl):=by
 obtain ⟨T,p,r⟩:=h.run
 refine ⟨_,gJ hN hi hx p hs hf,fun {F} M H σ ρ E D rs o q=>r M H σ ρ _ rs (h.mono _ _ _ (fun ds ρ' q M' H1 H' l xs m rs' hl e r'=>?_) q)⟩
 subst e
 exact o.nx _ _ _ _ (m.trans (.newOwn hl)) (rs'.newOwn hl r' i) q
abbrev DG:=D->DS->(DS->Prop)->Prop
structure PGD (X:Cx) (tg:Expr) (g:DG):Prop where
 mono:∀ d ρ P P',(∀ ρ',P ρ'->P' ρ')->g d ρ P->g d ρ P'
 run:∃ G:TG,PG X tg G /\ ∀ {F:Fx} M H σ ρ d v (Q:St->Hp->Prop),RSt X.K F M H σ ρ->Rep X.K F.pp M H d v->(g d ρ fun ρ'=>∀ M' H' σ',Mv X.K F.pp M H M' H'->RSt X.K F M' H' σ' ρ'->Q σ' H')->G v σ H Q
abbrev cc (i:Nat):DG:=fun d ρ Q=>Q (ρ.set i (.val d))
theorem ai {i:Nat} {x:Str} (hN:X.N.Nodup) (hi:X.N[i]? = some x) (hx:Loc X.env.scope x) (hf:X.fn x=true∨X.env.scope.names.lookup x=some .local:=by first | exact .inl rfl | exact .inr rfl | assumption):PGD X (.Name x pos) (cc i) :=
 ⟨fun _ _ _ _ f h=>f _ h,_,lK hN hi hx hf,fun {F} M H σ ρ d v Q rs r h=>h M H _ .refl (rs.set r i)⟩
abbrev DGs:=List D->DS->(DS->Prop)->Prop
structure PGsD (X:Cx) (tg:List Expr) (g:DGs):Prop where
 mono:∀ d ρ P P',(∀ ρ',P ρ'->P' ρ')->g d ρ P->g d ρ P'
 run:∃ G:TGs,PGs X tg G /\ ∀ {F:Fx} M H σ ρ ds vs (Q:St->Hp->Prop),RSt X.K F M H σ ρ->Reps X.K F.pp M H ds vs->(g ds ρ fun ρ'=>∀ M' H' σ',Mv X.K F.pp M H M' H'->RSt X.K F M' H' σ' ρ'->Q σ' H')->G vs σ H Q
def ud:DGs:=fun ds ρ Q=>match ds with
 | []=>Q ρ
 | _=>False
def gT (g:DG) (u:DGs):DGs:=fun ds ρ Q=>match ds with
 | d::r=>g d ρ fun ρ'=>u r ρ' Q
 | []=>False
theorem ce:PGsD X [] ud:=by
 refine ⟨fun ds _ _ _ f h=>?_,_,sY,fun {F} M H σ ρ ds vs Q rs r h=>?_⟩
 ·cases ds with
  | nil=>exact f _ h
  | cons=>exact h
 ·cases ds with
  | nil=>simp only [Reps] at r; exact ⟨r,h M H σ .refl rs⟩
  | cons=>exact h.elim
theorem aE {e:Expr} {es:List Expr} {g:DG} {u:DGs} (h1:PGD X e g) (h2:PGsD X es u)
  (hs:(assignEach (e::es) X.env).map (·.2)=assign e X.env::(assignEach es X.env).map (·.2):=by rfl):PGsD X (e::es) (gT g u):=by
 obtain ⟨G,p,r⟩:=h1.run
 obtain ⟨G',p',r'⟩:=h2.run
 refine ⟨fun ds _ _ _ f h=>?_,_,jq p p' hs,fun {F} M H σ ρ ds vs Q rs rd h=>?_⟩
 ·cases ds with
  | nil=>exact h
  | cons=>exact h1.mono _ _ _ _ (fun _ h=>h2.mono _ _ _ _ f h) h
 ·cases ds with
  | nil=>exact h.elim
  | cons d ds =>
   simp only [Reps] at rd
   obtain ⟨v,vr,rfl,rd,rr⟩:=rd
   refine ⟨v,vr,rfl,r M H σ ρ d v _ rs rd (h1.mono _ _ _ _ (fun ρ' h M1 H1 σ1 m1 rs1=>?_) h)⟩
   exact r' M1 H1 σ1 ρ' ds vr _ rs1 (rr.mv m1) (h2.mono _ _ _ _ (fun ρ2 h M2 H2 σ2 m2 rs2=>h M2 H2 σ2 (m1.trans m2) rs2) h)
def ue (n:Nat) (g:DGs):DG:=fun d ρ Q=>match d with
 | .tup ds=>ds.length=n /\ g ds ρ Q
 | _=>False
theorem dY {es:List Expr} {k:Nat} {g:DGs} {n:Nat} (hc:X.calm=true) (h:PGsD X es g)
  (hn:(assignEach es X.env).length=n:=by rfl) (hst:(assignEach es X.env).findIdx? (·.1)=none:=by rfl):PGD X (.Tuple es k pos) (ue n g):=by
 obtain ⟨G,p,r⟩:=h.run
 refine ⟨fun d _ _ _ f q=>?_,_,yL hc p hn hst,fun {F} M H σ ρ d v Q rs rd q=>?_⟩
 ·cases d <;> first | exact q.elim | exact ⟨q.1,h.mono _ _ _ _ f q.2⟩
 ·cases d with
  | tup ds =>
   simp only [Rep] at rd
   obtain ⟨a,xs,rfl,ha,rd⟩:=rd
   exact ⟨a,xs,rfl,ha,by rw [← rd.length]; exact q.1,r M H σ ρ ds xs _ rs rd q.2⟩
  | _=>exact q.elim
abbrev dAsg (te:DE) (g:DG):DTS:=fun E ρ=>te ρ fun d ρ'=>g d ρ' E.nx
theorem AV {tg:Expr} {g:DG} (he:PED X e te) (hg:PGD X tg g) (hs:swapsWithSole [tg] e pos.line X.env=pure false:=by rfl) (hw:swappedStores [tg] e X.env=pure none:=by rfl) (hh:PS X (.Assign [tg] e pos) (tAsg (Classical.choose he.run) (Classical.choose hg.run)):=by exact nn (Classical.choose_spec he.run).1 (Classical.choose_spec hg.run).1):PSD X (.Assign [tg] e pos) (dAsg te g):=by
 obtain ⟨_,r⟩:=Classical.choose_spec he.run
 obtain ⟨_,r'⟩:=Classical.choose_spec hg.run
 refine ⟨_,hh,fun {F} M H σ ρ E D rs o q=>r M H σ ρ _ rs (he.mono _ _ _ (fun d ρ' q M' H' v m rs' rd=>?_) q)⟩
 exact r' M' H' σ ρ' d v _ rs' rd (hg.mono _ _ _ _ (fun ρ2 q M2 H2 σ2 m2 rs2=>o.nx M2 H2 σ2 ρ2 (m.trans m2) rs2 q) q)
def jm (g:DG) (b:DTS):List D->DEnds->DS->Prop
 | [],E,ρ=>E.nx ρ
 | d::r,E,ρ=>g d ρ fun ρ1=>b { E with nx:=fun ρ'=>jm g b r E ρ',ct:=fun ρ'=>jm g b r E ρ',bk:=E.nx } ρ1
structure ItOkV (K:PySem.W.Frag) (pp:Option Addr) (J:It) (M:List Addr) (H:Hp) (vs:List V):Prop where
 yld:∀ M2 H2,Mv K pp M H M2 H2->∀ i x H3,i < vs.length->J.yld i H2 x H3->H3=H2 /\ vs[i]? = some x
 go:∀ M2 H2,Mv K pp M H M2 H2->∀ i,i < vs.length->J.go i H2
 stop:∀ M2 H2,Mv K pp M H M2 H2->∀ i,vs.length <= i->J.stop i H2
structure ItOk (K:PySem.W.Frag) (pp:Option Addr) (J:It) (M:List Addr) (H:Hp) (ds:List D):Prop where
 yld:∀ M2 H2,Mv K pp M H M2 H2->∀ i d x H3,ds[i]? = some d->J.yld i H2 x H3->SameP K pp H2 H3 /\ Rep K pp M2 H3 d x
 go:∀ M2 H2,Mv K pp M H M2 H2->∀ i,i < ds.length->J.go i H2
 stop:∀ M2 H2,Mv K pp M H M2 H2->∀ i,ds.length <= i->J.stop i H2
theorem ItOkV.of {K:PySem.W.Frag} {pp:Option Addr} {J:It} {M:List Addr} {H:Hp} {vs:List V} {ds:List D} (o:ItOkV K pp J M H vs) (rd:Reps K pp M H ds vs):ItOk K pp J M H ds where
 yld:=fun M2 H2 m i d x H3 e y=>by
  obtain ⟨v,e1,r⟩:=rd.get' e
  obtain ⟨rfl,e2⟩:=o.yld M2 H2 m i x H3 (List.getElem?_eq_some_iff.mp e1).1 y
  rw [e1] at e2
  cases e2
  exact ⟨.refl,r.mv m⟩
 go:=fun M2 H2 m i h=>o.go M2 H2 m i (by rw [← rd.length]; exact h)
 stop:=fun M2 H2 m i h=>o.stop M2 H2 m i (by rw [← rd.length]; exact h)
structure PID (X:Cx) (tg iter:Expr) (t:DA):Prop where
 mono:∀ ρ P P',(∀ d ρ',P d ρ'->P' d ρ')->t ρ P->t ρ P'
 run:∃ wi:TI,PI X tg iter wi /\ ∀ {F:Fx} M H σ ρ (R:It->Hp->Prop),RSt X.K F M H σ ρ ->
  (t ρ fun ds ρ'=>∀ M' H' J,Mv X.K F.pp M H M' H'->RSt X.K F M' H' σ ρ'->ItOk X.K F.pp J M' H' ds->R J H')->wi σ H R
abbrev dFor (t:DA) (g:DG) (b:DTS):DTS:=fun E ρ=>t ρ fun ds ρ'=>jm g b ds E ρ'
theorem dF {tg iter:Expr} {body:List Stmt} {t:DA} {g:DG} {tb:DTS} {pos:Pos} (hp:PassesOwn (model X.prog X.w) X.A X.env X.xe) (hc:X.calm=true) (hi:PID X tg iter t) (hg:PGD X tg g) (hb:PSsD X body tb)
  (hs:∀ x,foldedSetIterable iter X.env x=pure x:=by intro _; rfl):PSD X (.For tg iter body [] pos) (dFor t g tb):=by
 obtain ⟨wi,pi,ri⟩:=hi.run
 obtain ⟨G,pg,rg⟩:=hg.run
 obtain ⟨T,p,r⟩:=hb
 refine ⟨_,Aj hp hc pi pg p hs,fun {F} M H σ ρ E D rs o h=>ri M H σ ρ _ rs (hi.mono _ _ _ (fun ds ρ1 h M1 H1 J m1 rs1 ok=>?_) h)⟩
 refine ⟨fun i m σ2 H2=>∃ M2 ρ2,m=ds.length - i /\ i <= ds.length /\ Mv X.K F.pp M1 H1 M2 H2 /\ RSt X.K F M2 H2 σ2 ρ2 /\ jm g tb (ds.drop i) E ρ2,⟨ds.length,M1,ρ1,rfl,Nat.zero_le _,.refl,rs1,h⟩,?_⟩
 rintro i m σ2 H2 ⟨M2,ρ2,rfl,hi2,m2,rs2,h2⟩
 by_cases hlt:i < ds.length
 ·have e1:ds[i]? = some ds[i]:=by simp [hlt]
  rw [List.drop_eq_getElem_cons hlt] at h2
  refine .inr ⟨ok.go M2 H2 m2 i hlt,fun σ' H'=>∃ M' ρ',Mv X.K F.pp M1 H1 M' H' /\ RSt X.K F M' H' σ' ρ' /\ jm g tb (ds.drop (i + 1)) E ρ',fun σ' H' ⟨M',ρ',mm,rs',h'⟩=>⟨ds.length - (i + 1),by omega,M',ρ',rfl,hlt,mm,rs',h'⟩,fun x H3 y=>?_⟩
  obtain ⟨sp,rx⟩:=ok.yld M2 H2 m2 i _ x H3 e1 y
  have m23:=m2.trans (sp.mv (M:=M2))
  refine rg M2 H3 σ2 ρ2 _ _ _ (rs2.sameP sp) rx (hg.mono _ _ _ _ (fun ρ3 h3 M3 H3 σ3 m3 rs3=>?_) h2)
  refine r M3 H3 σ3 ρ3 _ _ rs3 ⟨fun M4 H4 σ4 ρ4 m4 rs4 h4=>⟨M4,ρ4,(m23.trans m3).trans m4,rs4,h4⟩,fun M4 H4 σ4 ρ4 m4 rs4 h4=>?_,fun M4 H4 σ4 ρ4 m4 rs4 h4=>⟨M4,ρ4,(m23.trans m3).trans m4,rs4,h4⟩,fun M4 H4 σ4 ρ4 d' v m4 rs4 r4 h4=>?_⟩ h3
  ·exact o.nx M4 H4 σ4 ρ4 (((m1.trans m23).trans m3).trans m4) rs4 h4
  ·exact o.rt M4 H4 σ4 ρ4 d' v (((m1.trans m23).trans m3).trans m4) rs4 r4 h4
 ·have e:i=ds.length:=by omega
  refine .inl ⟨ok.stop M2 H2 m2 i (by omega),?_⟩
  have hd:ds.drop i=[]:=by rw [List.drop_eq_nil_iff]; omega
  rw [hd] at h2
  exact o.nx M2 H2 σ2 ρ2 (m1.trans m2) rs2 h2
abbrev AW (te:DE):DA:=fun ρ Q=>te ρ fun d ρ'=>match d with
 | .lst ds=>Q ds ρ'
 | _=>False
abbrev CH (te:DE):DA:=fun ρ Q=>te ρ fun d ρ'=>match d with
 | .tup ds=>Q ds ρ'
 | _=>False
theorem bn {tg l:Expr} (hl:PED X l te):PID X tg l (AW te):=by
 obtain ⟨T,p,r⟩:=hl.run
 refine ⟨fun _ _ _ f h=>hl.mono _ _ _ (fun d _ h=>?_) h,_,yq p,fun {F} M H σ ρ R rs h=>r M H σ ρ _ rs (hl.mono _ _ _ (fun d ρ' h M' H' v m rs' rd=>?_) h)⟩
 ·cases d <;> first | exact h.elim | exact f _ _ h
 ·cases d with
  | lst ds =>
   simp only [Rep] at rd
   obtain ⟨a,xs,rfl,hm,hp,ha,rd⟩:=rd
   refine ⟨a,rfl,⟨xs,SqL.of ha⟩,h M' H' _ m rs' (ItOkV.of (vs:=xs) ⟨fun M2 H2 m2 i x H3 _ y=>?_,fun M2 H2 m2 i hi=>?_,fun M2 H2 m2 i hi=>?_⟩ rd)⟩
   ·exact ⟨y.1,y.2 xs (SqL.of (m2.lst a xs ha hm hp).1)⟩
   ·exact ⟨xs,xs[i],SqL.of (m2.lst a xs ha hm hp).1,by simp [hi]⟩
   ·exact ⟨xs,SqL.of (m2.lst a xs ha hm hp).1,hi⟩
  | _=>exact h.elim
theorem dG {tg l:Expr} (hl:PED X l te):PID X tg l (CH te):=by
 obtain ⟨T,p,r⟩:=hl.run
 refine ⟨fun _ _ _ f h=>hl.mono _ _ _ (fun d _ h=>?_) h,_,Ai p,fun {F} M H σ ρ R rs h=>r M H σ ρ _ rs (hl.mono _ _ _ (fun d ρ' h M' H' v m rs' rd=>?_) h)⟩
 ·cases d <;> first | exact h.elim | exact f _ _ h
 ·cases d with
  | tup ds =>
   simp only [Rep] at rd
   obtain ⟨a,xs,rfl,ha,rd⟩:=rd
   refine ⟨a,rfl,⟨xs,SqT.of ha⟩,h M' H' _ m rs' (ItOkV.of (vs:=xs) ⟨fun M2 H2 m2 i x H3 _ y=>?_,fun M2 H2 m2 i hi=>?_,fun M2 H2 m2 i hi=>?_⟩ rd)⟩
   ·exact ⟨y.1,y.2 xs (SqT.of (m2.tup a xs ha))⟩
   ·exact ⟨xs,xs[i],SqT.of (m2.tup a xs ha),by simp [hi]⟩
   ·exact ⟨xs,SqT.of (m2.tup a xs ha),hi⟩
  | _=>exact h.elim
def fe (lo:Int):Nat->List D
 | 0=>[]
 | n + 1=>.int lo::fe (lo + 1) n
theorem lh {K:PySem.W.Frag} {pp:Option Addr} {M:List Addr} {H:Hp}:∀ (n:Nat) (lo:Int),Reps K pp M H (fe lo n) ((List.range n).map fun (i:Nat)=>V.int (lo + i))
 | 0,_=>by simp [fe,Reps]
 | n + 1,lo=>by
  rw [List.range_succ_eq_map,List.map_cons,fe]
  refine .cons (by simp [Rep]) ?_
  have:=lh (K:=K) (pp:=pp) (M:=M) (H:=H) n (lo + 1)
  rw [List.map_map]
  refine (congrArg (Reps K pp M H (fe (lo + 1) n)) (List.map_congr_left fun i _=>?_)).mp this
  simp only [Function.comp]
  congr 1
  omega
abbrev diR1 (t:DA):DA:=fun ρ Q=>t ρ fun ds ρ'=>match ds with
 | [.int j]=>(-(2 ^ 62) <= j /\ j < 2 ^ 62) /\ Q (fe 0 j.toNat) ρ'
 | _=>False
theorem itOk_range {K:PySem.W.Frag} {pp:Option Addr} {M:List Addr} {H:Hp} {lo:Int} {n:Nat}:ItOkV K pp (Itr lo n) M H ((List.range n).map fun (i:Nat)=>V.int (lo + i)) where
 yld:=fun M2 H2 _ i x H3 hi y=>by
  obtain ⟨e1,e2⟩:=y
  refine ⟨e1,?_⟩
  have hi':i < n:=by simpa using hi
  simp [hi',e2]
 go:=fun _ _ _ i hi=>by show i < n; simpa using hi
 stop:=fun _ _ _ i hi=>by show n <= i; simpa using hi
variable {es:List Expr} {ea eb:Expr}
theorem bu {tg:Expr} {p:Pos} (hg:Gl X "range") (hm:X.mg "range" = none) (ha:PAD X [ea] tl) (hs:starEach [ea] X.env=[(false,eval ea X.env)]:=by rfl):PID X tg (.Call (.Name "range" p) [ea] [] pos) (diR1 tl):=by
 obtain ⟨T,pa,r⟩:=ha.run
 refine ⟨fun _ _ _ f h=>ha.mono _ _ _ (fun d _ h=>?_) h,_,tj hg hm pa hs,fun {F} M H σ ρ R rs h=>r M H σ ρ _ rs (ha.mono _ _ _ (fun d ρ' h M' H' v m rs' rd=>?_) h)⟩
 ·split at h
  ·exact ⟨h.1,f _ _ h.2⟩
  ·exact h.elim
 ·split at h
  ·rename_i j
   simp only [Reps,Rep] at rd
   obtain ⟨x,r,rfl,rfl,rfl⟩:=rd
   exact ⟨j,rfl,h.1.1,h.1.2,h.2 M' H' _ m rs' (itOk_range.of (lh _ _))⟩
  ·exact h.elim
end
end DL
namespace DL
open PySem PySem.Spec L2
open PyProof.Rows hiding St
variable [TB]
variable [Frm]
def nQ (n:Nat) (ds:List D):DS:=ds.map .val++List.replicate (n - ds.length) .nil
theorem li {K:PySem.W.Frag} {F:Fx} {M:List Addr} {H:Hp}:∀ {ds:List D} {vs:List V},Reps K F.pp M H ds vs->∀ (i:Nat) s o,(ds.map Sl.val)[i]? = some s->(vs.map some)[i]? = some o->RSl K F M H s o
 | [],_,_,_,_,_,h1,_=>by simp at h1
 | d::ds,_,h,0,s,o,h1,h2=>by
  simp only [Reps] at h
  obtain ⟨x,r,rfl,h,_⟩:=h
  simp at h1 h2
  subst h1 h2
  exact ⟨x,rfl,h⟩
 | d::ds,_,h,i + 1,s,o,h1,h2=>by
  simp only [Reps] at h
  obtain ⟨x,r,rfl,_,h⟩:=h
  exact li h i s o (by simpa using h1) (by simpa using h2)
theorem pE {ds:List D} {n i:Nat} {es:List D} (h:(ds.map Sl.val++List.replicate n Sl.nil)[i]? = some (.own es)):False:=by
 have:=List.mem_of_getElem? h
 rcases List.mem_append.mp this with h | h
 ·obtain ⟨d,_,e⟩:=List.mem_map.mp h; cases e
 ·have:=List.eq_of_mem_replicate h; cases this
theorem pF {ds:List D} {n i:Nat} {q:O} (h:(ds.map Sl.val++List.replicate n Sl.nil)[i]? = some (.obj q)):False:=by
 have:=List.mem_of_getElem? h
 rcases List.mem_append.mp this with h | h
 ·obtain ⟨d,_,e⟩:=List.mem_map.mp h; cases e
 ·have:=List.eq_of_mem_replicate h; cases this
theorem nR {K:PySem.W.Frag} {pp:Option Addr} {M:List Addr} {H:Hp} {ds:List D} {vs:List V} {N:List Str} (lv:Lv pp M H) (r:Reps K pp M H ds vs) (lk:Frm.L K ⟨pp,M,H⟩ M H):RSt K ⟨pp,M,H⟩ M H (L2.start N vs) (nQ N.length ds):=by
 have hl:=r.length
 refine ⟨by simp [L2.start,nQ,hl],fun i s o h1 h2=>?_,OwF.none (fun i s e=>⟨fun ds z=>(pE (z ▸ e)).elim,fun q z=>(pF (z ▸ e)).elim⟩),fun a h=>h,.refl,lv.m,lv.toLv0,⟨lk,lv.t⟩⟩
 unfold nQ at h1
 unfold L2.start at h2
 by_cases hi:i < ds.length
 ·rw [List.getElem?_append_left (by simpa using hi)] at h1
  rw [List.getElem?_append_left (by simpa [← hl] using hi)] at h2
  exact li (F:=⟨pp,M,H⟩) r i s o h1 h2
 ·rw [List.getElem?_append_right (by simp; omega)] at h1
  have:=List.eq_of_mem_replicate (List.mem_of_getElem? h1)
  subst this
  trivial
omit [Frm] in
theorem fnD {P:Program} {w:World} {K:PySem.W.Frag} {mg:Str->Option Value} {base:Heap} {x qual:Str} {st:Stmt} {f:Addr} {fd:FuncData} {N ps:List Str} {k:Nat} {g:DSp} {t:DTS} (Fn:Fun K x qual st f fd) (S:FnScope N ps (ae st))
  (hb:∀ (cdv:Value) (A:Around) (outer:List Env) (s:Shared) (H:Hp) (E:XK),Room k (A.deeper (envOfC qual (ae st) s.heap.objs.size f cdv)) -> @PSsD _ Frm.free (cxOf CX0 P w K mg base N qual (ae st) f cdv A outer s H E).nox (au st) t)
  (hg:∀ ds Q,ds.length=ps.length->g ds Q->t { nx:=fun _=>Q .non,rt:=Q } (nQ N.length ds)):FnOk P w K mg base CX0 (k + 1) f fd ps (spD K ps.length g):=by
 refine Fn.ok S (fun vs H Q E h=>?_) (fun cdv A outer s H vs Q E hr h=>?_)
 ·obtain ⟨pp,M,ds,_,r,e,_⟩:=h
  rw [← r.length,e]
 ·obtain ⟨pp,M,ds,lv,r,e,h⟩:=h
  obtain ⟨T,p,run⟩:=hb cdv A outer s H E hr
  refine ⟨T,p,run M H _ _ _ _ (nR lv r trivial) ⟨fun M' H' σ' ρ' m rs q=>?_,fun _ _ _ _ _ _ q=>q,fun _ _ _ _ _ _ q=>q,fun M' H' σ' ρ' d v m rs rd q=>?_⟩ (hg ds _ e h)⟩
  ·exact q H' .non rs.sameT (by simp only [Rep])
  ·exact q H' v rs.sameT (rd.mv (.less rs.sub))
section
variable {X:Cx} {pp:Option Addr}
def g2I (C:Int->Int->Prop) (f:Int->Int->D):D->D->(D->Prop)->Prop
 | .int i,.int j,P=>C i j /\ P (f i j)
 | _,_,_=>False
def g2I0 (f:Int->Int->D):D->D->(D->Prop)->Prop
 | .int i,.int j,P=>P (f i j)
 | _,_,_=>False
theorem OpD.ofI {f:Value->Value->Sem Value} {C:Int->Int->Prop} {h:Int->Int->V} {h':Int->Int->D} (o:OpR X f (rI C h)) (e:∀ pp M H i j,Rep X.K pp M H (h' i j) (h i j)):OpD X f (g2I C h'):=by
 refine ⟨fun x y P P' f h=>?_,_,o,fun {pp} M H x y v u Q _ rx ry h=>?_⟩
 ·cases x <;> cases y <;> first | exact h.elim | exact ⟨h.1,f _ h.2⟩
 ·cases x <;> first | exact h.elim | skip
  cases y <;> first | exact h.elim | skip
  simp only [Rep] at rx ry
  exact ⟨_,_,rx,ry,h.1,h.2 H _ .refl (e _ M H _ _)⟩
theorem OpD.ofI0 {f:Value->Value->Sem Value} {h:Int->Int->V} {h':Int->Int->D} (o:OpR X f (rI0 h)) (e:∀ pp M H i j,Rep X.K pp M H (h' i j) (h i j)):OpD X f (g2I0 h'):=by
 refine ⟨fun x y P P' f h=>?_,_,o,fun {pp} M H x y v u Q _ rx ry h=>?_⟩
 ·cases x <;> cases y <;> first | exact h.elim | exact f _ h
 ·cases x <;> first | exact h.elim | skip
  cases y <;> first | exact h.elim | skip
  simp only [Rep] at rx ry
  exact ⟨_,_,rx,ry,h H _ .refl (e _ M H _ _)⟩
theorem ga:OpD X (binaryOp .Add) (g2I0 fun i j=>.int (i + j)):=.ofI0 jG fun _ _ _ _ _=>bV
theorem gb:OpD X (binaryOp .Sub) (g2I0 fun i j=>.int (i - j)):=.ofI0 Ak fun _ _ _ _ _=>bV
theorem qF:OpD X (binaryOp .Mult) (g2I CMulB fun i j=>.int (i * j)):=.ofI iA fun _ _ _ _ _=>bV
theorem AX:OpD X (binaryOp .Mod) (g2I (fun _ j=>0 < j) fun i j=>.int (i % j)):=.ofI iX fun _ _ _ _ _=>bV
theorem xK:OpD X (binaryOp .Pow) (g2I CPow fun i j=>.int (i ^ j.toNat)):=.ofI xD fun _ _ _ _ _=>bV
theorem se:OpD X (compareOp .Lt) (g2I0 fun i j=>.bl (decide (i < j))):=.ofI0 An fun _ _ _ _ _=>cJ
theorem uf:OpD X (compareOp .LtE) (g2I0 fun i j=>.bl (decide (i <= j))):=.ofI0 Co fun _ _ _ _ _=>cJ
theorem wu:OpD X (compareOp .Gt) (g2I0 fun i j=>.bl (decide (j < i))):=.ofI0 Ao fun _ _ _ _ _=>cJ
theorem CI:OpD X (compareOp .GtE) (g2I0 fun i j=>.bl (decide (j <= i))):=.ofI0 Ap fun _ _ _ _ _=>cJ
def yV:D->Bool
 | .non=>true
 | _=>false
theorem nS {K:PySem.W.Frag} {M:List Addr} {H:Hp} {d:D} {v:V} (r:Rep K pp M H d v):decide (v = .non)=yV d:=by
 cases d <;> simp only [Rep] at r
 case non=>subst r; rfl
 case bl=>subst r; rfl
 case int=>subst r; rfl
 case str=>subst r; rfl
 case ty=>subst r; rfl
 case tup=>obtain ⟨a,xs,rfl,_⟩:=r; rfl
 case lst=>obtain ⟨a,xs,rfl,_⟩:=r; rfl
 case dK=>obtain ⟨a,xs,rfl,_⟩:=r; rfl
 case dT=>obtain ⟨a,xs,rfl,_⟩:=r; rfl
 case pen=>obtain ⟨a,rfl,_⟩:=r; rfl
 case exc=>obtain ⟨a,rfl,_⟩:=r; rfl
 case exa=>obtain ⟨a,dx,rfl,_⟩:=r; rfl
 case cls=>subst r; rfl
def gIsN (n:Bool):D->D->(D->Prop)->Prop
 | x,.non,P=>P (.bl (if n then !yV x else yV x))
 | _,_,_=>False
theorem AY:OpD X (compareOp .Is) (gIsN false):=by
 refine ⟨fun x y P P' f h=>?_,_,Aq,fun {pp} M H x y v u Q _ rx ry h=>?_⟩
 ·cases y <;> first | exact h.elim | exact f _ h
 ·cases y <;> first | exact h.elim | skip
  simp only [Rep] at ry
  exact ⟨ry,h H _ .refl (by rw [nS rx]; exact cJ)⟩
theorem yW:OpD X (compareOp .IsNot) (gIsN true):=by
 refine ⟨fun x y P P' f h=>?_,_,yw,fun {pp} M H x y v u Q _ rx ry h=>?_⟩
 ·cases y <;> first | exact h.elim | exact f _ h
 ·cases y <;> first | exact h.elim | skip
  simp only [Rep] at ry
  exact ⟨ry,h H _ .refl (by rw [nS rx]; exact cJ)⟩
structure UnD (X:Cx) (f:Value->Sem Value) (g:D->(D->Prop)->Prop):Prop where
 mono:∀ x P P',(∀ d,P d->P' d)->g x P->g x P'
 run:∃ r,UnR X f r /\ ∀ {pp:Option Addr} M H x v (Q:VK),Lv pp M H->Rep X.K pp M H x v->g x (fun d=>∀ H' w,SameP X.K pp H H'->Rep X.K pp M H' d w->Q w H')->r v H Q
abbrev dUn (g:D->(D->Prop)->Prop) (ta:DE):DE:=fun ρ Q=>ta ρ fun x ρ1=>g x fun d=>Q d ρ1
theorem ug {op:UnaryOp} {g:D->(D->Prop)->Prop} {a:Expr} {ta:DE} {pos:Pos} (ho:UnD X (unaryOp op) g) (ha:PED X a ta):PED X (.UnaryOp op a pos) (dUn g ta):=by
 obtain ⟨r,hr,hg⟩:=ho.run
 obtain ⟨Ta,pa,ra⟩:=ha.run
 refine ⟨fun _ _ _ f h=>ha.mono _ _ _ (fun _ _ h=>ho.mono _ _ _ (fun _ h=>f _ _ h) h) h,_,Cm hr pa,fun {F} M H σ ρ Q rs h=>ra M H σ ρ _ rs (ha.mono _ _ _ (fun x ρ1 h M1 H1 v m1 rs1 r1=>?_) h)⟩
 exact hg M1 H1 x v _ rs1.liv r1 (ho.mono _ _ _ (fun d h H' w s r=>h M1 H' w (m1.trans s.mv) (rs1.sameP s) r) h)
def gNeg:D->(D->Prop)->Prop
 | .int i,P=>P (.int (-i))
 | _,_=>False
theorem nT:UnD X (unaryOp .USub) gNeg:=by
 refine ⟨fun x P P' f h=>?_,_,Al,fun {pp} M H x v Q _ rx h=>?_⟩
 ·cases x <;> first | exact h.elim | exact f _ h
 ·cases x <;> first | exact h.elim | skip
  simp only [Rep] at rx
  exact ⟨_,rx,h H _ .refl bV⟩
def AZ:D->Bool
 | .int _=>true
 | .bl _=>true
 | _=>false
def yX:D->Bool
 | .bl _=>true
 | _=>false
def nU:D->Bool
 | .tup _=>true
 | _=>false
def wv:D->Bool
 | .pen=>false
 | .exc _=>false
 | .exa _ _=>false
 | .cls _=>false
 | .ty _=>false
 | _=>true
theorem Ba {K:PySem.W.Frag} {M:List Addr} {H:Hp} {d:D} {v:V} (r:Rep K pp M H d v) (f:wv d=true):knV H v:=by
 cases d <;> first | cases f | skip
 all_goals simp only [Rep] at r
 case non=>subst r; trivial
 case bl=>subst r; trivial
 case int=>subst r; trivial
 case str=>subst r; trivial
 case tup=>obtain ⟨a,xs,rfl,h,_⟩:=r; exact .inr (.inr (.inl ⟨xs,h⟩))
 case lst=>obtain ⟨a,xs,rfl,_,_,h,_⟩:=r; exact .inl ⟨xs,h⟩
 case dK=>obtain ⟨a,xs,rfl,_,_,h,_⟩:=r; exact .inr (.inr (.inr (.inl ⟨xs,h⟩)))
 case dT=>obtain ⟨a,xs,rfl,_,_,h,_⟩:=r; exact .inr (.inr (.inr (.inr ⟨xs,h⟩)))
def gIs (T:String) (f:D->Bool):DSp:=fun ds P=>match ds with
 | [d,.ty T']=>T'=T /\ wv d=true /\ P (.bl (f d))
 | _=>False
theorem CallD.isOf {T:String} {f:Hp->V->Bool} {fD:D->Bool} (hc:dU X (.builtin "isinstance") (fun xs H Q=>∃ x,xs=[x,.ty T] /\ knV H x /\ Q (.bl (f H x)) H))
  (e:∀ pp M H d v,Rep X.K pp M H d v->wv d=true->f H v=fD d):CallD X (.builtin "isinstance") (gIs T fD):=by
 refine ⟨fun ds P P' f h=>?_,_,hc,fun {pp} M H ds vs Q _ r h=>?_⟩
 ·unfold gIs at h ⊢; split at h
  ·exact ⟨h.1,h.2.1,f _ h.2.2⟩
  ·exact h.elim
 ·unfold gIs at h; split at h
  case h_2=>exact h.elim
  ·rename_i d T'
   obtain ⟨e1,e2,h⟩:=h
   simp only [Reps] at r
   obtain ⟨x,r,rfl,rx,y,r',rfl,ry,rfl⟩:=r
   simp only [Rep] at ry
   subst ry e1
   exact ⟨x,rfl,Ba rx e2,h H _ .refl (by rw [e _ M H d x rx e2]; exact cJ)⟩
theorem jT:CallD X (.builtin "isinstance") (gIs "int" AZ):=.isOf pB fun pp M H d v r _=>by
 cases d <;> simp only [Rep] at r
 case non=>subst r; rfl
 case bl=>subst r; rfl
 case int=>subst r; rfl
 case str=>subst r; rfl
 case ty=>subst r; rfl
 case tup=>obtain ⟨a,xs,rfl,_⟩:=r; rfl
 case lst=>obtain ⟨a,xs,rfl,_⟩:=r; rfl
 case dK=>obtain ⟨a,xs,rfl,_⟩:=r; rfl
 case dT=>obtain ⟨a,xs,rfl,_⟩:=r; rfl
 case pen=>obtain ⟨a,rfl,_⟩:=r; rfl
 case exc=>obtain ⟨a,rfl,_⟩:=r; rfl
 case exa=>obtain ⟨a,dx,rfl,_⟩:=r; rfl
 case cls=>subst r; rfl
theorem fN:CallD X (.builtin "isinstance") (gIs "bool" yX):=.isOf nJ fun pp M H d v r _=>by
 cases d <;> simp only [Rep] at r
 case non=>subst r; rfl
 case bl=>subst r; rfl
 case int=>subst r; rfl
 case str=>subst r; rfl
 case ty=>subst r; rfl
 case tup=>obtain ⟨a,xs,rfl,_⟩:=r; rfl
 case lst=>obtain ⟨a,xs,rfl,_⟩:=r; rfl
 case dK=>obtain ⟨a,xs,rfl,_⟩:=r; rfl
 case dT=>obtain ⟨a,xs,rfl,_⟩:=r; rfl
 case pen=>obtain ⟨a,rfl,_⟩:=r; rfl
 case exc=>obtain ⟨a,rfl,_⟩:=r; rfl
 case exa=>obtain ⟨a,dx,rfl,_⟩:=r; rfl
 case cls=>subst r; rfl
theorem bM:CallD X (.builtin "isinstance") (gIs "tuple" nU):=.isOf lS fun pp M H d v r f=>by
 cases d <;> first | cases f | skip
 all_goals simp only [Rep] at r
 case non=>subst r; rfl
 case bl=>subst r; rfl
 case int=>subst r; rfl
 case str=>subst r; rfl
 case tup=>obtain ⟨a,xs,rfl,h,_⟩:=r; simp [eX,h,isTupO,nU]
 case lst=>obtain ⟨a,xs,rfl,_,_,h,_⟩:=r; simp [eX,h,isTupO,nU]
 case dK=>obtain ⟨a,xs,rfl,_,_,h,_⟩:=r; simp [eX,h,isTupO,nU]
 case dT=>obtain ⟨a,xs,rfl,_,_,h,_⟩:=r; simp [eX,h,isTupO,nU]
def gLen:DSp:=fun ds P=>match ds with
 | [.tup xs]=>P (.int xs.length)
 | [.lst xs]=>P (.int xs.length)
 | _=>False
theorem gU:CallD X (.builtin "len") gLen:=by
 refine ⟨fun ds P P' f h=>?_,_,tX,fun {pp} M H ds vs Q _ r h=>?_⟩
 ·unfold gLen at h ⊢; split at h
  ·exact f _ h
  ·exact f _ h
  ·exact h.elim
 ·unfold gLen at h; split at h
  case h_3=>exact h.elim
  ·simp only [Reps,Rep] at r
   obtain ⟨x,r,rfl,⟨a,ys,rfl,ha,ry⟩,rfl⟩:=r
   exact ⟨a,ys.length,rfl,by rw [ha]; rfl,h H _ .refl (by rw [← ry.length]; exact bV)⟩
  ·simp only [Reps,Rep] at r
   obtain ⟨x,r,rfl,⟨a,ys,rfl,_,_,ha,ry⟩,rfl⟩:=r
   exact ⟨a,ys.length,rfl,by rw [ha]; rfl,h H _ .refl (by rw [← ry.length]; exact bV)⟩
def yY:DSp:=fun ds P=>match ds with
 | [.int i]=>P (.int i)
 | [.bl b]=>P (.int (if b then 1 else 0))
 | _=>False
theorem nV:CallD X (.type "int") yY:=by
 refine ⟨fun ds P P' f h=>?_,_,tw,fun {pp} M H ds vs Q _ r h=>?_⟩
 ·unfold yY at h ⊢; split at h
  ·exact f _ h
  ·exact f _ h
  ·exact h.elim
 ·unfold yY at h; split at h
  case h_3=>exact h.elim
  ·rename_i i
   simp only [Reps,Rep] at r
   obtain ⟨x,r,rfl,rfl,rfl⟩:=r
   exact .inl ⟨i,rfl,h H _ .refl bV⟩
  ·rename_i i
   simp only [Reps,Rep] at r
   obtain ⟨x,r,rfl,rfl,rfl⟩:=r
   exact .inr ⟨i,rfl,h H _ .refl bV⟩
def uh:DSp:=fun ds P=>match ds with
 | [.tup xs]=>P (.tup xs)
 | [.lst xs]=>P (.tup xs)
 | _=>False
theorem cM:CallD X (.type "tuple") uh:=by
 refine ⟨fun ds P P' f h=>?_,_,lO,fun {pp} M H ds vs Q _ r h=>?_⟩
 ·unfold uh at h ⊢; split at h
  ·exact f _ h
  ·exact f _ h
  ·exact h.elim
 ·unfold uh at h; split at h
  case h_3=>exact h.elim
  ·simp only [Reps] at r
   obtain ⟨x,r,rfl,rx,rfl⟩:=r
   have rx':=rx
   simp only [Rep] at rx
   obtain ⟨a,ys,rfl,ha,ry⟩:=rx
   exact ⟨a,ys,rfl,.inr ⟨SqT.of ha,h H _ .refl rx'⟩⟩
  ·simp only [Reps,Rep] at r
   obtain ⟨x,r,rfl,⟨a,ys,rfl,_,_,ha,ry⟩,rfl⟩:=r
   refine ⟨a,ys,rfl,.inl ⟨SqL.of ha,fun l hl=>h _ _ (.new hl) ?_⟩⟩
   simp only [Rep]
   exact ⟨l,ys,rfl,ao,ry.mv (.new hl)⟩
abbrev yZ (te:DE):DA:=fun ρ Q=>te ρ fun d ρ'=>match d with
 | .tup xs=>Q xs ρ'
 | .lst xs=>Q xs ρ'
 | _=>False
theorem ui {x:Str} {e:Expr} {p pos:Pos} {te:DE} (hg:Gl X x) (hm:X.mg x=none) (hv:bootBuiltins x=some (.type "list")) (he:PED X e te) (hn:x ≠ "__name__":=by decide) (hdb:(x == ("__debug__" : Str))=false:=by decide)
  (hs:starEach [e] X.env=(false,eval e X.env)::starEach [] X.env:=by rfl) (hpl:(backTo pos (starEach [] X.env)).any (·.1)=false:=by rfl):PLD X (.Call (.Name x p) [e] [] pos) (yZ te):=by
 obtain ⟨T,pa,ra⟩:=he.run
 refine ⟨fun _ _ _ f h=>he.mono _ _ _ (fun d _ h=>?_) h,_,jJ nB hg hm hv (bL pa dW hs) hn hdb hs hpl,fun {F} M H σ ρ Q rs h=>ra M H σ ρ _ rs (he.mono _ _ _ (fun d ρ1 h M1 H1 v m1 rs1 r1=>?_) h)⟩
 ·cases d <;> first | exact h.elim | exact f _ _ h
 ·cases d <;> first | exact h.elim | skip
  all_goals simp only [Rep] at r1
  case tup xs =>
   obtain ⟨a,ys,rfl,ha,ry⟩:=r1
   exact ⟨a,ys,rfl,.inr (SqT.of ha),fun l hl=>h M1 H1 _ l ys m1 rs1 hl rfl ry⟩
  case lst xs =>
   obtain ⟨a,ys,rfl,_,_,ha,ry⟩:=r1
   exact ⟨a,ys,rfl,.inl (SqL.of ha),fun l hl=>h M1 H1 _ l ys m1 rs1 hl rfl ry⟩
def opt (o:Option D) (P:D->Prop):Prop:=match o with
 | some d=>P d
 | none=>False
theorem ww {o:Option D} {P P':D->Prop} (f:∀ d,P d->P' d) (h:opt o P):opt o P':=by cases o <;> first | exact h.elim | exact f _ h
theorem wx {o:Option D} {P:D->Prop} (h:opt o P):∃ d,o=some d /\ P d:=by cases o <;> first | exact h.elim | exact ⟨_,rfl,h⟩
def gIx:D->D->(D->Prop)->Prop
 | .tup xs,.int i,P=>opt (atI xs i) P
 | .lst xs,.int i,P=>opt (atI xs i) P
 | _,_,_=>False
theorem uj {K:PySem.W.Frag} {M:List Addr} {H:Hp} {ds:List D} {xs:List V} {i:Int} {d:D} (r:Reps K pp M H ds xs) (h:atI ds i=some d):∃ v,atI xs i=some v /\ Rep K pp M H d v:=by
 unfold atI at h ⊢
 rw [r.length] at h
 cases q:ixN xs.length i with
 | none=>rw [q] at h; cases h
 | some j =>
  rw [q] at h
  obtain ⟨v,e1,e2⟩:=r.get' (i:=j) h
  exact ⟨v,e1,e2⟩
theorem ar {a b:Expr} {ta tb:DE} {pos:Pos} (ha:PED X a ta) (hb:PED X b tb) (hs:tN b):PED X (.Subscript a b pos) (dOp gIx ta tb):=by
 have gm:∀ x y P P',(∀ d,P d->P' d)->gIx x y P->gIx x y P':=fun x y P P' f h=>by
  cases x <;> first | exact h.elim | skip
  all_goals cases y <;> first | exact h.elim | exact ww f h
 obtain ⟨Ta,pa,ra⟩:=ha.run
 obtain ⟨Tb,pb,rb⟩:=hb.run
 refine ⟨gR gm ha hb,_,wa (IxR.or yK wk) pa pb hs,fun {F} M H σ ρ Q rs h=>lY (fun M H x y v u Q _ rx ry h=>?_) gm ha hb ra rb rs h⟩
 cases x <;> first | exact h.elim | skip
 all_goals cases y <;> first | exact h.elim | skip
 all_goals
  obtain ⟨d,e,h⟩:=wx h
  simp only [Rep] at rx ry
 ·obtain ⟨p,xs,rfl,hp,r⟩:=rx
  obtain ⟨z,e2,rz⟩:=uj r e
  exact .inl ⟨p,xs,_,z,rfl,ry,hp,e2,h H z .refl rz⟩
 ·obtain ⟨p,xs,rfl,_,_,hp,r⟩:=rx
  obtain ⟨z,e2,rz⟩:=uj r e
  exact .inr ⟨p,xs,_,z,rfl,ry,hp,e2,h H z .refl rz⟩
end
end DL
namespace DL
open PySem PySem.Spec L2
open PyProof.Rows hiding St
variable [TB]
variable [Frm]
section
variable {X:Cx} {F:Fx}
def CJ (i:Nat) (E:DEnds) (ρ:DS) (d:D):Sl->Prop
 | .own ds=>ds.length < sizeLine /\ E.nx (ρ.set i (.own (ds++[d])))
 | _=>False
def Bb:Sl->Prop
 | .own _=>True
 | _=>False
abbrev dApp (i:Nat) (te:DE):DTS:=fun E ρ=>Bb (slot ρ i) /\ te ρ fun d ρ'=>CJ i E ρ' d (slot ρ' i)
theorem RSt.write {K:PySem.W.Frag} {M:List Addr} {H:Hp} {σ:St} {ρ:DS} {l:Addr} {ys:List V} {ds es:List D} {i:Nat} (r:RSt K F M H σ ρ) (h:ρ[i]? = some (.own ds)) (hl:σ[i]? = some (some (.ref l))) (hd:Reps K F.pp M H es ys) :
  Mv K F.pp M H M (upd H l (.lst ys)) /\ RSt K F M (upd H l (.lst ys)) σ (ρ.set i (.own es)):=by
 obtain ⟨l',xs,e,hm,h0,hp,hl',hr⟩:=r.sl i _ _ h hl
 cases e
 have m:Mv K F.pp M H M (upd H l (.lst ys)):=.write hl' hm hp
 refine ⟨m,⟨by simp [r.len],fun j q o h1 h2=>?_,r.ow.step m i (fun _ _=>rfl) (fun j e=>List.getElem?_set_ne (Ne.symm e)) (fun A hA hB=>⟨A,fun s o e1 e2=>?_,fun b hb=>⟨(hB b hb).1,(hB b hb).2.1,(hB b hb).2.2,.inl hb⟩,fun a ha _ _ hn=>⟨ha,fun x e _=>?_⟩⟩),r.sub,?_,r.old,?_,r.lk.cl m⟩⟩
 ·by_cases e:i=j
  ·subst e
   rw [hl] at h2
   rw [aN h1]
   cases h2
   exact ⟨l,ys,rfl,hm,h0,hp,ao,hd.mv m⟩
  ·rw [List.getElem?_set_ne e] at h1
   have q':=r.sl j q o h1 h2
   cases q with
   | nil=>trivial
   | val d=>obtain ⟨v,e,q⟩:=q'; exact ⟨v,e,q.mv m⟩
   | pin w d=>obtain ⟨v,e,ew,q⟩:=q'; exact ⟨v,e,ew,q.mv m⟩
   | own es =>
    obtain ⟨l',zs,rfl,hm',h0',hp',hl'',hr'⟩:=q'
    refine ⟨l',zs,rfl,hm',h0',hp',?_,hr'.mv m⟩
    rw [ak]
    ·exact hl''
    ·rintro rfl
     exact e (r.own i j _ _ _ h h1 hl h2)
   | obj q=>exact q'
 ·rw [aN e1]
  exact hA _ _ h e2
 ·obtain ⟨l2,e2,e3⟩:=hA _ _ h hl
  cases e2
  rw [ak (by rintro rfl; exact hn (by rw [e3]; simp))]
  exact e
 ·refine ⟨fun b o e n=>?_,fun p e h=>m.pen p e (r.same.pen p e h),fun b e=>?_⟩
  ·rw [ak (by rintro rfl; rw [h0] at e; cases e)]
   exact r.same.keep b o e n
  ·by_cases z:b=l
   ·subst z; rw [ao]; intro z; cases z
   ·rw [ak z]; exact r.same.live b e
 ·refine ⟨fun a ha=>?_,fun p e=>?_⟩
  ·by_cases z:a=l
   ·subst z; rw [ao]; intro z; cases z
   ·rw [ak z]; exact r.liv.m a ha
  ·by_cases z:p=l
   ·subst z; rw [ao]; intro z; cases z
   ·rw [ak z]; exact r.liv.p p e
theorem qG {i:Nat} {o e:Expr} {apos cpos pos:Pos} {te:DE} (ho:PE X o (tVar i)) (he:PED X e te)
  (hbase:attributeBase o "append" X.env (eval o X.env)=eval o X.env:=by rfl)
  (hfew:((backTo cpos (starEach [e] X.env)).all (fun x=>!x.1) && (backToKw cpos (keywordEach [] X.env)).all (fun x=>x.1.isSome)
   && decide ([e].length + ([]:List Keyword).length + (if ([]:List Keyword).isEmpty then 0 else 1) < 30))=true:=by rfl)
  (hline:(apos.endLine == cpos.line)=true:=by rfl) (hst:starEach [e] X.env=(false,eval e X.env)::starEach [] X.env:=by rfl) (hpl:(backTo cpos (starEach [] X.env)).any (·.1)=false:=by rfl)
  (hs:swapsWith (.Call (.Attribute o "append" apos) [e] [] cpos) none pos.line X.env=pure false:=by rfl):PSD X (.Expr (.Call (.Attribute o "append" apos) [e] [] cpos) pos) (dApp i te):=by
 have hm:PE X (.Call (.Attribute o "append" apos) [e] [] cpos) (tBM X.K "list" tO (tVar i) (yz (Classical.choose he.run) tNil)):=yE PySem.F.plainAttrs_list PySem.F.slot_list_append PySem.F.type_list_append jK ho (bL (Classical.choose_spec he.run).1 dW hst) hbase hfew hline hst hpl
 obtain ⟨_,r⟩:=Classical.choose_spec he.run
 refine ⟨_,oZ hm hs,fun {F} M H σ ρ E D rs oo h=>?_⟩
 obtain ⟨h0,h⟩:=h
 cases q:slot ρ i with
 | nil=>rw [q] at h0; exact h0.elim
 | val d=>rw [q] at h0; exact h0.elim
 | pin w d=>rw [q] at h0; exact h0.elim
 | obj z=>rw [q] at h0; exact h0.elim
 | own ds =>
  obtain ⟨oo1,ho1,l,xs,rfl,hm1,h01,hp1,hl1,hr1⟩:=rs.at (aO q (by intro z; cases z))
  refine ⟨.ref l,ho1,.inl ⟨rfl,xs,SqL.of hl1⟩,?_⟩
  refine r M H σ ρ _ rs (he.mono _ _ _ (fun d ρ' h M' H' v m rs' rd=>?_) h)
  cases q':slot ρ' i with
  | nil=>rw [q'] at h; exact h.elim
  | val d=>rw [q'] at h; exact h.elim
  | pin w d=>rw [q'] at h; exact h.elim
  | obj z=>rw [q'] at h; exact h.elim
  | own ds' =>
   rw [q'] at h
   have g1:=aO q' (by intro z; cases z)
   obtain ⟨l',xs',e',hm',h0',hp',hl',hr'⟩:=rs'.sl i _ _ g1 ho1
   cases e'
   obtain ⟨m2,rs2⟩:=rs'.write g1 ho1 (hr'.append (.one rd))
   exact ⟨l,xs',v,rfl,rfl,hl',by rw [← hr'.length]; exact h.1,oo.nx M' _ _ _ (m.trans m2) rs2 h.2⟩
end
def sf:DSp:=fun ds P=>match ds with
 | [.pen,.int m]=>(1 <= m /\ m <= 10 ^ 60) /\ ∀ r,0 <= r->r < m->P (.int r)
 | _=>False
theorem uk:bG sf:=fun ds P P' f h=>by
 unfold sf at h ⊢
 split at h
 ·exact ⟨h.1,fun r h0 h1=>f _ (h.2 r h0 h1)⟩
 ·exact h.elim
theorem za {P:Program} {w:World} {K:PySem.W.Frag} {mg:Str->Option Value} {base:Heap} {k:Nat} {f:Addr} {fd:FuncData} {ps:List Str} (h:FnOk P w K mg base CX0 k f fd ps (tY K)):FnOk P w K mg base CX0 k f fd ps (spD K 2 sf) :=
 h.imp fun vs H Q E h=>by
  obtain ⟨pp,M,ds,lv,r,e,h⟩:=h
  unfold sf at h
  split at h
  case h_2=>exact h.elim
  ·rename_i m
   obtain ⟨⟨m1,m2⟩,h⟩:=h
   simp only [Reps,Rep] at r
   obtain ⟨x,_,rfl,⟨p,rfl,ep,a,ns,t,l,pen⟩,y,_,rfl,rfl,rfl⟩:=r
   refine ⟨p,a,ns,t,l,m,rfl,pen,m1,m2,fun r t' l' H' h0 h1 pen' sb=>h r h0 h1 H' _ ⟨⟨fun b o hb n=>?_,fun q e _=>?_,fun b hb=>?_⟩,fun tb=>tb.of fun b o e tf=>sb b o (by rintro rfl; rw [pen.lst] at e; cases e; exact lW tf) e⟩ bV⟩
   ·by_cases z:b=p
    ·subst z
     rw [pen.lst] at hb
     cases hb
     exact absurd rfl (n.1 ep _)
    ·exact sb b o z hb
   ·rw [ep] at e; cases e
    exact ⟨a,ns,t',l',pen'⟩
   ·by_cases z:b=p
    ·subst z; rw [pen'.lst]; intro z; cases z
    ·cases q:H b with
     | none=>exact absurd q hb
     | some o=>rw [sb b o z q]; intro z; cases z
def spLaw (K:PySem.W.Frag):Sp:=fun vs H Q _=>∃ a ns,vs=[.ref a] /\ Scr K H a ns /\ Tabs H /\ ∀ H',Q (.bl true) H'
omit [TB] [Frm] in
theorem law_sp (K:PySem.W.Frag) (H:Hp) (a:Addr) (ns:List Int) (_:ns.length <= 63) (h1:Only H) (h:SqL K H a (ns.map V.int)) : @spLaw TB.none K [.ref a] H (fun v _=>v = .bl true) fun _ _ _=>False :=
 ⟨a,ns,rfl,AN h1 h,fun _ _ e=>(by cases e),fun _=>rfl⟩
omit [Frm] in
theorem lawD {P:Program} {w:World} {K:PySem.W.Frag} {mg:Str->Option Value} {base:Heap} {st:Stmt} {f:Addr} {fd:FuncData} {N:List Str} {x:Str} {k:Nat} {t:DTS} {s1:Stmt} {rest:List Stmt} (Fn:Fun K "law" "law" st f fd) (S:FnScope N [x] (ae st)) (hs:au st=s1::rest) (hN:2 <= N.length)
  (h1:∀ (cdv:Value) (A:Around) (outer:List Env) (s:Shared) (H:Hp) (E:XK),Room k (A.deeper (envOfC "law" (ae st) s.heap.objs.size f cdv))->PS (cxOf CX0 P w K mg base N "law" (ae st) f cdv A outer s H E).nox s1 (tAsg (Av (xG K) [] E0 (yz (tVar 0) tNil)) (sX 1)))
  (hb:∀ (cdv:Value) (A:Around) (outer:List Env) (s:Shared) (H:Hp) (E:XK),Room k (A.deeper (envOfC "law" (ae st) s.heap.objs.size f cdv)) -> @PSsD _ Frm.free (cxOf CX0 P w K mg base N "law" (ae st) f cdv A outer s H E).nox rest t)
  (hg:t { nx:=fun _=>False,rt:=fun d=>d = .bl true } (.nil :: .val .pen::List.replicate (N.length - 2) .nil)):FnOk P w K mg base CX0 (k + 1) f fd [x] (spLaw K):=by
 refine Fn.ok S (fun vs H Q E h=>?_) (fun cdv A outer s H vs Q E hr h=>?_)
 ·obtain ⟨a,ns,rfl,_⟩:=h
  rfl
 ·obtain ⟨a,ns,rfl,hs',hT,h⟩:=h
  rw [hs]
  refine ⟨_,br (u:=fun D σ H'=>∃ p:Addr,@RSt _ Frm.free K ⟨some p,[],H'⟩ [] H' σ (.nil :: .val .pen::List.replicate (N.length - 2) .nil) /\ ∀ H'',D.rt (.bl true) H'') (h1 cdv A outer s H E hr) ?_,?_⟩
  ·intro pins s' σ H' D I ⟨p,rs,q⟩
   obtain ⟨T,pT,run⟩:=hb cdv A outer s H E hr
   refine pT pins s' σ H' D I (run [] H' σ _ { nx:=fun _=>False,rt:=fun d=>d = .bl true } D rs ⟨fun _ _ _ _ _ _ q=>q.elim,fun _ _ _ _ _ _ q=>q.elim,fun _ _ _ _ _ _ q=>q.elim,fun M2 H2 σ2 ρ2 d v _ _ rd e=>?_⟩ hg)
   subst e
   simp only [Rep] at rd
   subst rd
   exact q H2
  ·refine ⟨.ref a,?_,a,ns,rfl,hs',fun p H' hp pen sm=>⟨p,⟨?_,fun i s o e1 e2=>?_,OwF.none (fun i s e1=>?_),fun a z=>by simp at z,.refl,fun a z=>by simp at z,⟨fun a z=>by simp at z,fun q e=>?_⟩,⟨trivial,hT.of fun b o e _=>sm b o e⟩⟩,h⟩⟩
   ·simp [L2.start]
   ·simp [L2.start]; omega
   ·match i,e1 with
    | 0,e1=>simp at e1; subst e1; trivial
    | 1,e1 =>
     simp at e1
     subst e1
     have hi:1 < (L2.start N [V.ref a]).length:=by simp [L2.start]; omega
     simp [hi] at e2
     subst e2
     refine ⟨_,rfl,?_⟩
     simp only [Rep]
     exact ⟨p,rfl,rfl,a,ns,0,0,pen⟩
    | i + 2,e1 =>
     have:=List.eq_of_mem_replicate (List.mem_of_getElem? (by simpa using e1))
     subst this
     trivial
   ·have:=List.mem_of_getElem? e1
    simp at this
    rcases this with rfl | rfl | ⟨_,rfl⟩ <;> exact ⟨fun ds z=>(by cases z),fun q z=>(by cases z)⟩
   ·cases e
    rw [pen.lst]; intro z; cases z
end DL
namespace DL
open PySem PySem.Spec L2
open PyProof.Rows hiding St
variable [TB]
variable [Frm]
mutual
def toPy:D->PyData
 | .non=>.none
 | .bl b=>.bool b
 | .int i=>.int i
 | .str x=>.str x
 | .tup ds=>.tuple (ma ds)
 | .lst ds=>.list (ma ds)
 | .ty _=>.none
 | .dK _ _=>.none
 | .dT _ _=>.none
 | .pen=>.none
 | .exc _=>.none
 | .exa _ _=>.none
 | .cls _=>.none
def ma:List D->List PyData
 | []=>[]
 | d::ds=>toPy d::ma ds
def pln:D->Bool
 | .pen=>false
 | .exc _=>false
 | .exa _ _=>false
 | .cls _=>false
 | .ty _=>false
 | .dK _ _=>false
 | .dT _ _=>false
 | .tup ds=>plns ds
 | .lst ds=>plns ds
 | _=>true
def plns:List D->Bool
 | []=>true
 | d::ds=>pln d && plns ds
end
def eqD (x y:D):Bool:=PyData.eqv (toPy x) (toPy y)
def shp (d:D):Bool:=pln d && SeqAt.shaped (toPy d)
mutual
theorem gX {P:Program} {w:World} {K:PySem.W.Frag} {pp:Option Addr} {M:List Addr} {H:Hp} {h:Heap} (ok:HOk P w H h):∀ (d:D) (v:V) (u:Value),pln d=true->Rep K pp M H d v->RelV v u->∃ as,Reads h u (toPy d) as
 | .non,_,_,_,r,q=>by simp only [Rep] at r; subst r; cases q; exact ⟨_,.none⟩
 | .bl b,_,_,_,r,q=>by simp only [Rep] at r; subst r; cases q; exact ⟨_,.bool b⟩
 | .int i,_,_,_,r,q=>by simp only [Rep] at r; subst r; obtain ⟨t,rfl⟩:=q; exact ⟨_,.int i t⟩
 | .str x,_,_,_,r,q=>by simp only [Rep] at r; subst r; obtain ⟨t,rfl⟩:=q; exact ⟨_,.str x t⟩
 | .tup ds,_,_,p,r,q=>by
  simp only [Rep] at r
  obtain ⟨a,xs,rfl,ha,r⟩:=r
  cases q
  obtain ⟨_,its,vs,o,ho,hc,n,hd⟩:=ok a _ ha
  obtain ⟨as,z⟩:=jU ok ds xs its (by simpa only [pln] using p) r vs
  exact ⟨_,by rw [toPy]; exact .tuple ho hc hd (by simpa using z)⟩
 | .lst ds,_,_,p,r,q=>by
  simp only [Rep] at r
  obtain ⟨a,xs,rfl,_,_,ha,r⟩:=r
  cases q
  obtain ⟨_,its,n,vs,ho⟩:=ok a _ ha
  obtain ⟨as,z⟩:=jU ok ds xs its (by simpa only [pln] using p) r vs
  exact ⟨_,by rw [toPy]; exact .list ho rfl rfl (by simpa using z)⟩
 | .ty _,_,_,p,_,_=>by simp [pln] at p
 | .dK _ _,_,_,p,_,_=>by simp [pln] at p
 | .dT _ _,_,_,p,_,_=>by simp [pln] at p
 | .pen,_,_,p,_,_=>by simp [pln] at p
 | .exc _,_,_,p,_,_=>by simp [pln] at p
 | .exa _ _,_,_,p,_,_=>by simp [pln] at p
 | .cls _,_,_,p,_,_=>by simp [pln] at p
theorem jU {P:Program} {w:World} {K:PySem.W.Frag} {pp:Option Addr} {M:List Addr} {H:Hp} {h:Heap} (ok:HOk P w H h):∀ (ds:List D) (vs:List V) (us:List Value),plns ds=true->Reps K pp M H ds vs->Vals vs us->∃ as,ReadsAll h us (ma ds) as
 | [],_,_,_,r,q=>by simp only [Reps] at r; subst r; cases q; exact ⟨_,.nil⟩
 | d::ds,_,_,p,r,q=>by
  simp only [Reps] at r
  obtain ⟨x,r',rfl,r1,r2⟩:=r
  simp only [plns,Bool.and_eq_true] at p
  cases q with
  | cons q1 q2 =>
   obtain ⟨as,z1⟩:=gX ok d _ _ p.1 r1 q1
   obtain ⟨bs,z2⟩:=jU ok ds _ _ p.2 r2 q2
   exact ⟨_,by rw [ma]; exact .cons z1 z2⟩
end
section
variable {X:Cx} {pp:Option Addr} {k:Nat}
def rEqD (K:PySem.W.Frag) (n:Bool):R2:=fun x y H Q=>∃ pp M dx dy,Rep K pp M H dx x /\ Rep K pp M H dy y /\ shp dx=true /\ shp dy=true /\ Q (.bl (if n then !eqD dx dy else eqD dx dy)) H
theorem Bc (hr:Room k X.A):OpR X (compareOp .Eq) (rEqD X.K false):=by
 intro pins s σ H x y v u Q I rx ry h
 obtain ⟨pp,M,dx,dy,r1,r2,s1,s2,q⟩:=h
 unfold shp at s1 s2
 rw [Bool.and_eq_true] at s1 s2
 obtain ⟨as,z1⟩:=gX I.hok dx x v s1.1 r1 rx
 obtain ⟨bs,z2⟩:=gX I.hok dy y u s2.1 r2 ry
 exact SeqAt.compareEq_shaped z1 z2 s1.2 s2.2 (by have:=hr.un; omega) (bT I q rfl)
theorem Be (hr:Room k X.A):OpR X (compareOp .NotEq) (rEqD X.K true):=by
 intro pins s σ H x y v u Q I rx ry h
 obtain ⟨pp,M,dx,dy,r1,r2,s1,s2,q⟩:=h
 unfold shp at s1 s2
 rw [Bool.and_eq_true] at s1 s2
 obtain ⟨as,z1⟩:=gX I.hok dx x v s1.1 r1 rx
 obtain ⟨bs,z2⟩:=gX I.hok dy y u s2.1 r2 ry
 exact SeqAt.compareNe_shaped z1 z2 s1.2 s2.2 (by have:=hr.un; omega) (bT I q rfl)
def gEq (n:Bool):D->D->(D->Prop)->Prop:=fun x y P=>(shp x=true /\ shp y=true) /\ P (.bl (if n then !eqD x y else eqD x y))
theorem iD (hr:Room k X.A):OpD X (compareOp .Eq) (gEq false) :=
 ⟨fun _ _ _ _ f h=>⟨h.1,f _ h.2⟩,_,Bc hr,fun {pp} M H x y v u Q _ rx ry h=>⟨pp,M,x,y,rx,ry,h.1.1,h.1.2,h.2 H _ .refl cJ⟩⟩
theorem jV (hr:Room k X.A):OpD X (compareOp .NotEq) (gEq true) :=
 ⟨fun _ _ _ _ f h=>⟨h.1,f _ h.2⟩,_,Be hr,fun {pp} M H x y v u Q _ rx ry h=>⟨pp,M,x,y,rx,ry,h.1.1,h.1.2,h.2 H _ .refl cJ⟩⟩
end
end DL
namespace DL
open PySem PySem.Spec L2
open PyProof.Rows hiding St
variable [TB]
variable [Frm]
section
variable {X:Cx} {F:Fx} {pp:Option Addr}
abbrev DO:=DS->(Option Int->DS->Prop)->Prop
structure POD (X:Cx) (e:Option Expr) (t:DO):Prop where
 mono:∀ ρ P P',(∀ b ρ',P b ρ'->P' b ρ')->t ρ P->t ρ P'
 run:∃ T:TO,PO X e T /\ ∀ {F:Fx} M H σ ρ (Q:Option Int->Hp->Prop),RSt X.K F M H σ ρ ->
  (t ρ fun o ρ'=>∀ M' H',Mv X.K F.pp M H M' H'->RSt X.K F M' H' σ ρ'->Q o H')->T σ H Q
abbrev Bf:DO:=fun ρ Q=>Q none ρ
abbrev Bg (te:DE):DO:=fun ρ Q=>te ρ fun d ρ'=>match d with
 | .int i=>Q (some i) ρ'
 | _=>False
theorem ul:POD X none Bf:=⟨fun _ _ _ f h=>f _ _ h,_,yB,fun {F} M H σ ρ Q rs h=>h M H .refl rs⟩
theorem um {e:Expr} {te:DE} (he:PED X e te):POD X (some e) (Bg te):=by
 obtain ⟨T,p,r⟩:=he.run
 refine ⟨fun _ _ _ f h=>he.mono _ _ _ (fun d _ h=>?_) h,_,yC p,fun {F} M H σ ρ Q rs h=>r M H σ ρ _ rs (he.mono _ _ _ (fun d ρ' h M' H' v m rs' rd=>?_) h)⟩
 ·cases d <;> first | exact h.elim | exact f _ _ h
 ·cases d <;> first | exact h.elim | skip
  simp only [Rep] at rd
  exact ⟨_,rd,h M' H' m rs'⟩
def cutD (xs:List D) (lo hi:Option Int):List D:=(xs.drop (HT.sIx xs.length 0 lo)).take (HT.sIx xs.length xs.length hi - HT.sIx xs.length 0 lo)
theorem Reps.cut {K:PySem.W.Frag} {M:List Addr} {H:Hp} {ds:List D} {xs:List V} (lo hi:Option Int) (r:Reps K pp M H ds xs):Reps K pp M H (cutD ds lo hi) (cutV xs lo hi):=by
 unfold cutD cutV
 rw [r.length]
 exact (r.drop _).take _
def gSlT:D->Option Int->Option Int->(D->Prop)->Prop
 | .tup xs,lo,hi,P=>¬ (HT.sIx xs.length 0 lo=0 /\ HT.sIx xs.length xs.length hi=xs.length) /\ P (.tup (cutD xs lo hi))
 | _,_,_,_=>False
abbrev dSlT (te:DE) (tl th:DO):DE:=fun ρ Q=>te ρ fun x ρ1=>tl ρ1 fun lo ρ2=>th ρ2 fun hi ρ3=>gSlT x lo hi fun d=>Q d ρ3
theorem xL {e:Expr} {lo hi:Option Expr} {te:DE} {tl th:DO} {pos p2:Pos} (he:PED X e te) (hl:POD X lo tl) (hh:POD X hi th):PED X (.Subscript e (.Slice lo hi none p2) pos) (dSlT te tl th):=by
 obtain ⟨T,p,r⟩:=he.run
 obtain ⟨Tl,pl,rl⟩:=hl.run
 obtain ⟨Th,ph,rh⟩:=hh.run
 have gm:∀ x lo hi P P',(∀ d,P d->P' d)->gSlT x lo hi P->gSlT x lo hi P':=fun x lo hi P P' f h=>by
  cases x <;> first | exact h.elim | exact ⟨h.1,f _ h.2⟩
 refine ⟨fun _ _ _ f h=>he.mono _ _ _ (fun _ _ h=>hl.mono _ _ _ (fun _ _ h=>hh.mono _ _ _ (fun _ _ h=>gm _ _ _ _ _ (fun _ h=>f _ _ h) h) h) h) h,_,vZ Ay p pl ph,fun {F} M H σ ρ Q rs h=>?_⟩
 refine r M H σ ρ _ rs (he.mono _ _ _ (fun x ρ1 h M1 H1 v m1 rs1 r1=>?_) h)
 refine rl M1 H1 σ ρ1 _ rs1 (hl.mono _ _ _ (fun lo ρ2 h M2 H2 m2 rs2=>?_) h)
 refine rh M2 H2 σ ρ2 _ rs2 (hh.mono _ _ _ (fun hi ρ3 h M3 H3 m3 rs3=>?_) h)
 have r3:=(r1.mv m2).mv m3
 cases x <;> first | exact h.elim | skip
 simp only [Rep] at r3
 obtain ⟨a,xs,rfl,ha,rx⟩:=r3
 refine ⟨a,xs,rfl,SqT.of ha,by rw [← rx.length]; exact h.1,fun l hl=>h.2 M3 _ _ (((m1.trans m2).trans m3).trans (.new hl)) (rs3.sameP (.new hl)) ?_⟩
 simp only [Rep]
 exact ⟨l,_,rfl,ao,(rx.cut lo hi).mv (.new hl)⟩
end
end DL
namespace DL
open PySem PySem.Spec L2
open PyProof.Rows hiding St
variable [TB]
variable [Frm]
theorem dZ {g:DG} {b:DTS} {E:DEnds} {ds:List D} (N:DS->Prop) (hn:∀ ρ,N ρ->E.nx ρ)
  (hs:∀ d∈ds,∀ (ρ:DS) (X:DS->Prop),N ρ->(∀ ρ',N ρ'->X ρ')->g d ρ fun ρ1=>b { E with nx:=X,ct:=X,bk:=E.nx } ρ1):∀ ρ,N ρ->jm g b ds E ρ:=by
 induction ds with
 | nil=>exact hn
 | cons d r ih=>exact fun ρ h=>hs d List.mem_cons_self ρ _ h (ih fun d hd=>hs d (List.mem_cons_of_mem _ hd))
theorem ff {g:DG} {b:DTS} {E:DEnds} {ds:List D} (N:List D->DS->Prop) (hn:∀ ρ,N ds ρ->E.nx ρ)
  (hs:∀ (pre:List D) (d:D) (post:List D) (ρ:DS) (X:DS->Prop),ds=pre++d::post->N pre ρ->(∀ ρ',N (pre++[d]) ρ'->X ρ')->g d ρ fun ρ1=>b { E with nx:=X,ct:=X,bk:=E.nx } ρ1) (ρ:DS) (h:N [] ρ):jm g b ds E ρ:=by
 have key:∀ (post pre:List D),ds=pre++post->∀ ρ,N pre ρ->jm g b post E ρ:=by
  intro post
  induction post with
  | nil=>intro pre e ρ h; rw [List.append_nil] at e; subst e; exact hn ρ h
  | cons d r ih=>intro pre e ρ h; exact hs pre d r ρ _ e h (ih (pre++[d]) (by rw [e,List.append_assoc]; rfl))
 exact key ds [] rfl ρ h
theorem Bh {α:Type} {xs:List α} {r:Int} (h0:0 <= r) (h1:r < xs.length):∃ d,atI xs r=some d /\ xs[r.toNat]? = some d:=by
 obtain ⟨j,rfl⟩:=Int.eq_ofNat_of_zero_le h0
 have hj:j < xs.length:=by omega
 exact ⟨xs[j],pf (by simp [hj]),by simp [hj]⟩
theorem zb {xs:List D} {r:Int} {Q:D->Prop} (h0:0 <= r) (h1:r < xs.length) (h:∀ d∈xs,Q d):opt (atI xs r) Q:=by
 obtain ⟨d,e,e2⟩:=Bh h0 h1
 rw [e]
 exact h d (List.mem_of_getElem? e2)
theorem jc {xs:List D} {r:Int} {d:D} {Q:D->Prop} (h0:0 <= r) (e:xs[r.toNat]? = some d) (h:Q d):opt (atI xs r) Q:=by
 obtain ⟨j,rfl⟩:=Int.eq_ofNat_of_zero_le h0
 rw [pf (show xs[j]? = some d from e)]
 exact h
theorem cpow {i j:Int} (h:0 <= j /\ j <= 1000000 /\ i.natAbs < 2 ^ 64:=by decide):CPow i j:=h
theorem sz {n:Nat} (h:Nat.ble n 1000=true:=by rfl):n <= sizeLine:=Nat.le_trans (Nat.le_of_ble_eq_true h) (by decide)
theorem cZ {i j:Int}:eqD (.int i) (.int j)=decide (i=j):=by
 show (i == j)=_
 by_cases h:i=j <;> simp [h]
end DL
namespace DL
open PySem PySem.Spec L2
open PyProof.Rows hiding St
variable [TB]
variable [Frm]
def Bd (n:Nat) (i:Int):Prop:=i.natAbs < 2 ^ n
theorem Bd.mono {m n:Nat} {i:Int} (h:Bd m i) (l:m <= n):Bd n i:=Nat.lt_of_lt_of_le h (Nat.pow_le_pow_right (by decide) l)
theorem Bd.le {m:Nat} {i j:Int} (h:Bd m j) (l:i.natAbs <= j.natAbs):Bd m i:=Nat.lt_of_le_of_lt l h
theorem Bd.big {m:Nat} {i:Int} (h:Bd m i) (l:m <= 8000):Big i:=tV (h.mono l)
theorem Bd.cmul {m n:Nat} {i j:Int} (h:Bd m i) (q:Bd n j) (l:m <= 8000:=by decide) (l':n <= 8000:=by decide):CMulB i j:=.inr (.inr ⟨h.big l,q.big l'⟩)
end DL
namespace DL
open PySem PySem.Spec L2
open PyProof.Rows hiding St
variable [TB]
variable [Frm]
end DL
namespace DL
open PySem PySem.Spec L2
open PyProof.Rows hiding St
variable [TB]
def nW:Sl->Sl
 | .own _=>.nil
 | .obj _=>.nil
 | s=>s
theorem gk (s:Sl):(∀ ds,nW s ≠ .own ds) /\ ∀ q,nW s ≠ .obj q:=by
 cases s <;> exact ⟨fun ds z=>(by cases z),fun q z=>(by cases z)⟩
def bW (ρ:DS):DS:=ρ.map nW
def Bi (ρ:DS):Option Nat->Sl
 | none=>.nil
 | some j=>nW (slot ρ j)
def subD (js:List (Option Nat)) (ρ:DS):DS:=js.map (Bi ρ)
def bX (g:DG) (tc:DT) (te:DE):List D->List D->DS->(List D->Prop)->Prop
 | [],acc,_,Q=>Q acc
 | d::r,acc,ρ,Q=>g d ρ fun ρ1=>tc ρ1 fun b ρ2=>Br b (te ρ2 fun y ρ3=>acc.length < sizeLine /\ bX g tc te r (acc++[y]) (bW ρ3) Q) (bX g tc te r acc (bW ρ2) Q)
abbrev Bj (t:DA) (js:List (Option Nat)) (g:DG) (tc:DT) (te:DE):DA:=fun ρ Q=>t ρ fun ds ρ1=>bX g tc te ds [] (subD js ρ1) fun ys=>Q ys ρ1
def delH (H:Hp) (a:Addr):Hp:=fun b=>if b=a then none else H b
theorem uo {H:Hp} {a:Addr}:delH H a a=none:=by simp [delH]
theorem dN {H:Hp} {a b:Addr} (h:b≠a):delH H a b=H b:=by simp [delH,h]
theorem Tabs.del {H:Hp} {l:Addr} {o:HO} (h:Tabs H) (hl:H l=some o) (ht:¬ TF o):Tabs (delH H l) :=
 h.of fun b x e tf=>by
  rw [dN]
  ·exact e
  ·rintro rfl
   rw [hl] at e; cases e
   exact ht tf
theorem wy {H:Hp} {a:Addr} {o:HO} (h:H a=some o):upd (delH H a) a o=H:=by
 funext b
 by_cases e:b=a
 ·subst e; rw [ao,h]
 ·rw [ak e,dN e]
section
variable {X:Cx} {F:Fx} {K:PySem.W.Frag} {pp:Option Addr}
theorem RSt.rebase {M:List Addr} {H:Hp} {σ:St} {ρ:DS} (r:RSt K F M H σ ρ):RSt K ⟨F.pp,M,H⟩ M H σ (bW ρ):=by
 refine ⟨by simp [bW,r.len],fun i s o h1 h2=>?_,OwF.none (fun i s h1=>?_),fun a h=>h,.refl,r.liv.m,r.liv0,⟨trivial,r.lk.t⟩⟩
 ·simp only [bW,List.getElem?_map] at h1
  cases q:ρ[i]? with
  | none=>rw [q] at h1; cases h1
  | some s' =>
   rw [q] at h1
   cases h1
   have:=r.sl i s' o q h2
   cases s' with
   | nil=>trivial
   | val d=>exact this
   | pin w d=>exact this
   | own ds=>trivial
   | obj q=>trivial
 ·simp only [bW,List.getElem?_map] at h1
  cases q:ρ[i]? with
  | none=>rw [q] at h1; cases h1
  | some s' =>
   rw [q] at h1
   cases h1
   exact gk s'
theorem RSt.writeFree {M:List Addr} {H:Hp} {σ:St} {ρ:DS} {D:Addr} {xs ys:List V} (r:RSt K ⟨F.pp,M,H⟩ M H σ (bW ρ)) (hD:D∈M) (hp:F.pp≠some D) (h:H D=some (.lst xs)) :
  RSt K ⟨F.pp,M,upd H D (.lst ys)⟩ M (upd H D (.lst ys)) σ (bW ρ):=by
 have m:Mv K F.pp M H M (upd H D (.lst ys)):=.write h hD hp
 have lv:Lv0 F.pp M (upd H D (.lst ys)):=by
  refine ⟨fun a ha=>?_,fun p e=>?_⟩
  ·by_cases z:a=D
   ·subst z; rw [ao]; intro z; cases z
   ·rw [ak z]; exact r.liv.m a ha
  ·by_cases z:p=D
   ·subst z; rw [ao]; intro z; cases z
   ·rw [ak z]; exact r.liv.p p e
 refine ⟨r.len,fun i s o h1 h2=>?_,OwF.none (fun i s h1=>?_),fun a h=>h,.refl,lv.m,lv,⟨trivial,m.tb r.lk.t⟩⟩
 rotate_left
 ·simp only [bW,List.getElem?_map] at h1
  cases q:ρ[i]? with
  | none=>rw [q] at h1; cases h1
  | some s' =>
   rw [q] at h1
   cases h1
   exact gk s'
 have q:=r.sl i s o h1 h2
 cases s with
 | nil=>trivial
 | val d=>obtain ⟨v,e,q⟩:=q; exact ⟨v,e,q.mv m⟩
 | pin w d=>obtain ⟨v,e,ew,q⟩:=q; exact ⟨v,e,ew,q.mv m⟩
 | obj z=>exact q
 | own ds =>
  exfalso
  simp only [bW,List.getElem?_map] at h1
  cases q:ρ[i]? with
  | none=>rw [q] at h1; cases h1
  | some s'=>rw [q] at h1; cases s' <;> cases h1
theorem pG (ρ:DS):bW (bW ρ)=bW ρ:=by
 simp only [bW,List.map_map]
 refine List.map_congr_left fun s _=>?_
 cases s <;> rfl
theorem lj (js:List (Option Nat)) (ρ:DS):bW (subD js ρ)=subD js ρ:=by
 simp only [bW,subD,List.map_map]
 refine List.map_congr_left fun o _=>?_
 cases o with
 | none=>rfl
 | some j=>simp only [Function.comp,Bi]; cases slot ρ j <;> rfl
theorem RSt.block {M:List Addr} {H:Hp} {σ:St} {ρ:DS} {D:Addr} (r:RSt K F M H σ ρ) (js:List (Option Nat)) (hD:H D=none) :
  RSt K ⟨F.pp,D::M,upd H D (.lst [])⟩ (D::M) (upd H D (.lst [])) (L2.sub js σ) (subD js ρ):=by
 have m:Mv K F.pp M H (D::M) (upd H D (.lst [])):=.newOwn hD
 have lv:Lv0 F.pp (D::M) (upd H D (.lst [])):=by
  refine ⟨fun a ha=>?_,fun p e=>(SameP.new (K:=K) (pp:=F.pp) hD).live p (r.liv.p p e)⟩
  rcases List.mem_cons.mp ha with rfl | ha
  ·rw [ao]; intro z; cases z
  ·exact (SameP.new (K:=K) (pp:=F.pp) hD).live a (r.liv.m a ha)
 refine ⟨by simp [L2.sub,subD],fun i s o h1 h2=>?_,OwF.none (fun i s h1=>?_),fun a h=>h,.refl,lv.m,lv,⟨trivial,m.tb r.lk.t⟩⟩
 ·simp only [subD,List.getElem?_map] at h1
  simp only [L2.sub,List.getElem?_map] at h2
  cases q:js[i]? with
  | none=>rw [q] at h1; cases h1
  | some jo =>
   rw [q] at h1 h2
   cases h1
   cases h2
   cases jo with
   | none=>trivial
   | some j =>
    show RSl K _ _ _ (nW (slot ρ j)) _
    cases e:slot ρ j with
    | nil=>trivial
    | own ds=>trivial
    | obj q=>trivial
    | val d =>
     obtain ⟨o,ho,v,rfl,hr⟩:=r.at (aO e (by intro z; cases z))
     exact ⟨v,by simp [sub1,ho],hr.mv m⟩
    | pin w d =>
     obtain ⟨o,ho,v,rfl,ew,hr⟩:=r.at (aO e (by intro z; cases z))
     exact ⟨v,by simp [sub1,ho],ew,hr.mv m⟩
 ·simp only [subD,List.getElem?_map] at h1
  cases q:js[i]? with
  | none=>rw [q] at h1; cases h1
  | some jo =>
   rw [q] at h1
   cases jo with
   | none=>cases h1; exact ⟨fun ds z=>(by cases z),fun q z=>(by cases z)⟩
   | some j =>
    cases h1
    exact gk (slot ρ j)
structure PTsD (X:Cx) (ifs:List Expr) (t:DT):Prop where
 mono:∀ ρ P P',(∀ b ρ',P b ρ'->P' b ρ')->t ρ P->t ρ P'
 run:∃ T:TT,PTs X ifs T /\ ∀ {F:Fx} M H σ ρ (Q:Bool->Hp->Prop),RSt X.K F M H σ ρ ->
  (t ρ fun b ρ'=>∀ M' H',Mv X.K F.pp M H M' H'->RSt X.K F M' H' σ ρ'->Q b H')->T σ H Q
abbrev bp:DT:=fun ρ Q=>Q true ρ
theorem aD:PTsD X [] bp:=⟨fun _ _ _ f h=>f _ _ h,_,yN,fun {F} M H σ ρ Q rs h=>h M H .refl rs⟩
theorem pH {c:Expr} {t:DT} (h:PTD X c t):PTsD X [c] t:=by
 obtain ⟨T,p,r⟩:=h.run
 exact ⟨h.mono,T,yO p,r⟩
structure PCD (X:Cx) (e:Expr) (t:DA):Prop where
 mono:∀ ρ P P',(∀ d ρ',P d ρ'->P' d ρ')->t ρ P->t ρ P'
 run:∃ T:TE,PE X e T /\ (∀ (i:Nat) (y:Str) (py spos:Pos),X.N.Nodup->X.N[i]? = some y->X.env.scope.names.lookup y=some .local->swapsWith e (some (.Name y py)) spos.line X.env=pure true->PS X (.Assign [.Name y py] e spos) (tAsg T (sX i))) /\
  ∀ {F:Fx} M H σ ρ (Q:VK),RSt X.K F M H σ ρ ->
  (t ρ fun ds ρ'=>∀ M' H1 H' l xs,Mv X.K F.pp M H M' H1->RSt X.K F M' H1 σ ρ'->H1 l=none->H'=upd H1 l (.lst xs)->Reps X.K F.pp M' H1 ds xs->Q (.ref l) H')->T σ H Q
theorem PCD.pld {e:Expr} {t:DA} (h:PCD X e t):PLD X e t:=by
 obtain ⟨T,p,_,r⟩:=h.run
 exact ⟨h.mono,T,p,r⟩
theorem iE {g:DG} {tc:DT} {te:DE} (hg:∀ d ρ P P',(∀ ρ',P ρ'->P' ρ')->g d ρ P->g d ρ P') (hc:∀ ρ P P',(∀ b ρ',P b ρ'->P' b ρ')->tc ρ P->tc ρ P') (he:∀ ρ P P',(∀ d ρ',P d ρ'->P' d ρ')->te ρ P->te ρ P') {Q Q':List D->Prop} (f:∀ ys,Q ys->Q' ys) :
  ∀ (ds acc:List D) (ρ:DS),bX g tc te ds acc ρ Q->bX g tc te ds acc ρ Q'
 | [],acc,ρ,h=>f _ h
 | d::r,acc,ρ,h=>hg _ _ _ _ (fun ρ1 h=>hc _ _ _ (fun b ρ2 h=>⟨fun e=>he _ _ _ (fun y ρ3 h=>⟨h.1,iE hg hc he f r _ _ h.2⟩) (h.yes e),fun e=>iE hg hc he f r _ _ (h.no e)⟩) h) h
theorem aw {tg elt iter:Expr} {ifs:List Expr} {scope:Scope} {cl:List (Str×Addr)} {N':List Str} {js:List (Option Nat)} {pos:Pos} {t:DA} {g:DG} {tc:DT} {te:DE}
  (hc:X.calm=true) (hclo:dD X.env.cells scope.names []=some cl) (hdis:∀ y∈scope.names,y.2 = .free->(y.1,NameKind.cell)∉scope.names) (hkind:scope.kind = .function) (cap:Cap X scope N' js)
  (hnames:∀ y∈scope.names,y.2 = .local->scope.names.lookup y.1=some .local) (hi:PID X tg iter t)
  (hg:∀ B:Blk,PGD (cxB X scope cl N' B) tg g) (ht:∀ B:Blk,PTsD (cxB X scope cl N' B) ifs tc) (he:∀ B:Blk,PED (cxB X scope cl N' B) elt te)
  (hs:∀ v,foldedSetIterable iter X.env v=pure v:=by intro _; rfl):PCD X (.ListComp elt [⟨tg,iter,ifs,0⟩] scope pos) (Bj t js g tc te):=by
 obtain ⟨wi,pi,ri⟩:=hi.run
 have hb:∀ B:Blk,PG (cxB X scope cl N' B) tg (Classical.choose (hg B).run) /\ PTs (cxB X scope cl N' B) ifs (Classical.choose (ht B).run) /\ PE (cxB X scope cl N' B) elt (Classical.choose (he B).run):=fun B =>
  ⟨(Classical.choose_spec (hg B).run).1,(Classical.choose_spec (ht B).run).1,(Classical.choose_spec (he B).run).1⟩
 let B0:Blk:=⟨0,X.s₀,X.H₀,[],[]⟩
 refine ⟨fun _ _ _ f h=>hi.mono _ _ _ (fun ds ρ1 h=>iE (hg B0).mono (ht B0).mono (he B0).mono (fun ys h=>f _ _ h) _ _ _ h) h,_,yQ hc hclo hdis hkind cap hnames pi hb hs,fun i y py spos hN hy hl hsw=>yR hN hy hl hc hclo hdis hkind cap hnames pi hb hsw hs,fun {F} M H σ ρ Q rs h=>?_⟩
 refine ri M H σ ρ _ rs (hi.mono _ _ _ (fun ds ρ1 h M1 H1 J m1 rs1 ok=>?_) h)
 intro B Dl hD
 obtain ⟨_,rg⟩:=Classical.choose_spec (hg B).run
 obtain ⟨_,rt⟩:=Classical.choose_spec (ht B).run
 obtain ⟨_,re⟩:=Classical.choose_spec (he B).run
 have fr:=rs1.liv.fresh hD
 have m3:Mv X.K F.pp M1 H1 (Dl::M1) (upd H1 Dl (.lst [])):=.newOwn hD
 refine ⟨fun i m σ' H'=>∃ M' ρ' acc ys,m=ds.length - i /\ i <= ds.length /\ Mv X.K F.pp M1 H1 M' H' /\ SameP X.K F.pp H1 H' /\ RSt X.K ⟨F.pp,M',H'⟩ M' H' σ' (bW ρ') /\ Dl∈M' /\ (∀ a∈M1,a∈M') /\ H' Dl=some (.lst ys) /\ Reps X.K F.pp M' H' acc ys /\
  bX g tc te (ds.drop i) acc (bW ρ') fun ys=>∀ M' H1 H' l xs,Mv X.K F.pp M H M' H1->RSt X.K F M' H1 σ ρ1->H1 l=none->H'=upd H1 l (.lst xs)->Reps X.K F.pp M' H1 ys xs->Q (.ref l) H',
  ⟨ds.length,Dl::M1,subD js ρ1,[],[],rfl,Nat.zero_le _,m3,.new hD,by rw [lj]; exact rs1.block js hD,List.mem_cons_self,fun a ha=>List.mem_cons_of_mem _ ha,ao,.nil,by rw [lj]; exact h⟩,?_⟩
 rintro i m σ' H' ⟨M',ρ',acc,ys,rfl,hil,mv,sm,rs',hDm,hsub,hDl,ra,hcoll⟩
 by_cases hlt:i < ds.length
 ·have e1:ds[i]? = some ds[i]:=by simp [hlt]
  rw [List.drop_eq_getElem_cons hlt] at hcoll
  refine .inr ⟨ok.go M' H' mv i hlt,fun σ2 H2=>∃ M2 ρ2 acc ys,Mv X.K F.pp M1 H1 M2 H2 /\ SameP X.K F.pp H1 H2 /\ RSt X.K ⟨F.pp,M2,H2⟩ M2 H2 σ2 (bW ρ2) /\ Dl∈M2 /\ (∀ a∈M1,a∈M2) /\ H2 Dl=some (.lst ys) /\ Reps X.K F.pp M2 H2 acc ys /\
   bX g tc te (ds.drop (i + 1)) acc (bW ρ2) fun ys=>∀ M' H1 H' l xs,Mv X.K F.pp M H M' H1->RSt X.K F M' H1 σ ρ1->H1 l=none->H'=upd H1 l (.lst xs)->Reps X.K F.pp M' H1 ys xs->Q (.ref l) H',
   fun σ2 H2 ⟨M2,ρ2,acc,ys,a1,a2,a3,a4,a5,a6,a7,a8⟩=>⟨ds.length - (i + 1),by omega,M2,ρ2,acc,ys,rfl,hlt,a1,a2,a3,a4,a5,a6,a7,a8⟩,fun y H2 yl=>?_⟩
  obtain ⟨sp,rx⟩:=ok.yld M' H' mv i _ y H2 e1 yl
  have rs'':RSt X.K ⟨F.pp,M',H2⟩ M' H2 σ' (bW ρ'):=by
   have:=(rs'.sameP sp).rebase
   rw [pG] at this
   exact this
  have mv2:=mv.trans (sp.mv (M:=M'))
  have sm2:=sm.trans sp
  have ra2:=ra.mv (sp.mv (M:=M'))
  have hDl2:H2 Dl=some (.lst ys):=sp.keep Dl _ hDl (nw fr.2)
  refine rg M' H2 σ' (bW ρ') _ _ _ rs'' rx ((hg B).mono _ _ _ _ (fun ρ3 h3 M3 H3 σ3 m3 rs3=>?_) hcoll)
  refine rt M3 H3 σ3 ρ3 _ rs3 ((ht B).mono _ _ _ (fun b ρ4 h4 M4 H4 m4 rs4=>?_) h3)
  -- what stands behind a step within this turn
  have keep:∀ {M5:List Addr} {H5:Hp} {σ5:St} {ρ5:DS},Mv X.K F.pp M' H2 M5 H5->RSt X.K ⟨F.pp,M',H2⟩ M5 H5 σ5 ρ5->Mv X.K F.pp M1 H1 M5 H5 /\ SameP X.K F.pp H1 H5 /\ RSt X.K ⟨F.pp,M5,H5⟩ M5 H5 σ5 (bW ρ5) /\ Dl∈M5 /\ (∀ a∈M1,a∈M5) /\ H5 Dl=some (.lst ys) /\ Reps X.K F.pp M5 H5 acc ys:=fun mm rr =>
   ⟨mv2.trans mm,sm2.trans rr.sameT,rr.rebase,rr.sub _ hDm,fun a ha=>rr.sub _ (hsub a ha),rr.same.keep Dl _ hDl2 (nw fr.2),ra2.mv mm⟩
  cases b with
  | false =>
   refine iteF ?_
   obtain ⟨a1,a2,a3,a4,a5,a6,a7⟩:=keep (m3.trans m4) rs4
   exact ⟨M4,ρ4,acc,ys,a1,a2,a3,a4,a5,a6,a7,h4.no rfl⟩
  | true =>
   refine iteT (re M4 H4 σ3 ρ4 _ rs4 ((he B).mono _ _ _ (fun y ρ5 h5 M5 H5 v m5 rs5 r5=>?_) (h4.yes rfl)))
   obtain ⟨a1,a2,a3,a4,a5,a6,a7⟩:=keep ((m3.trans m4).trans m5) rs5
   have mw:Mv X.K F.pp M5 H5 M5 (upd H5 Dl (.lst (ys++[v]))):=.write a6 a4 fr.2
   refine ⟨ys,a6,by rw [← a7.length]; exact h5.1,M5,ρ5,acc++[y],ys++[v],a1.trans mw,?_,a3.writeFree a4 fr.2 a6,a4,a5,ao,(a7.append (.one r5)).mv mw,h5.2⟩
   refine ⟨⟨fun b o e n=>?_,fun p e hp=>mw.pen p e (a2.pen p e hp),fun b hb=>?_⟩,fun tb=>mw.tb (a2.tb tb)⟩
   ·rw [ak (by rintro rfl; rw [hD] at e; cases e)]
    exact a2.keep b o e n
   ·by_cases z:b=Dl
    ·subst z; rw [ao]; intro z; cases z
    ·rw [ak z]; exact a2.live b hb
 ·have e:i=ds.length:=by omega
  refine .inl ⟨ok.stop M' H' mv i (by omega),?_⟩
  have hd:ds.drop i=[]:=by rw [List.drop_eq_nil_iff]; omega
  rw [hd] at hcoll
  have sd:SameP X.K F.pp H1 (delH H' Dl):=by
   refine ⟨⟨fun b o e n=>?_,fun p e hp=>?_,fun b hb=>?_⟩,fun tb=>(sm.tb tb).del hDl lW⟩
   ·rw [dN (by rintro rfl; rw [hD] at e; cases e)]
    exact sm.keep b o e n
   ·obtain ⟨a,ns,t,l,pn⟩:=sm.pen p e hp
    have np:p≠Dl:=by rintro rfl; exact fr.2 e
    refine ⟨a,ns,t,l,by rw [dN np]; exact pn.lst,?_,pn.t0⟩
    rcases pn.scr with ⟨o,q⟩ | q
    ·exact .inl ⟨o,by rw [dN (kH q hDl (by intro z; cases z))]; exact q⟩
    ·exact .inr q
   ·rw [dN (by rintro rfl; exact hb hD)]
    exact sm.live b hb
  have md:Mv X.K F.pp M' H' M1 (delH H' Dl):=by
   refine ⟨fun a xs q=>by rw [dN (kH q hDl (by intro z; cases z))]; exact q,fun a o q n p=>⟨by rw [dN (by rintro rfl; exact n hDm)]; exact q,fun z=>n (hsub a z)⟩,fun p e hp=>?_,fun tb=>tb.del hDl lW⟩
   obtain ⟨a,ns,t,l,pn⟩:=hp
   have np:p≠Dl:=by rintro rfl; exact fr.2 e
   refine ⟨a,ns,t,l,by rw [dN np]; exact pn.lst,?_,pn.t0⟩
   rcases pn.scr with ⟨o,q⟩ | q
   ·exact .inl ⟨o,by rw [dN (kH q hDl (by intro z; cases z))]; exact q⟩
   ·exact .inr q
  exact hcoll M1 (delH H' Dl) H' Dl ys (m1.trans sd.mv) (rs1.sameP sd) uo (wy hDl).symm (ra.mv md)
theorem me {e:Expr} {t:DA} {i:Nat} {y:Str} {py pos:Pos} (hN:X.N.Nodup) (hy:X.N[i]? = some y) (hl:X.env.scope.names.lookup y=some .local) (h:PCD X e t) (hsw:swapsWith e (some (.Name y py)) pos.line X.env=pure true:=by rfl):PSD X (.Assign [.Name y py] e pos) (dSet i (dFrz t)):=by
 obtain ⟨T,_,p,r⟩:=h.run
 refine ⟨_,p i y py pos hN hy hl hsw,fun {F} M H σ ρ E D rs o q=>r M H σ ρ _ rs (h.mono _ _ _ (fun ds ρ1 q M1 H1 H' l xs m1 rs1 hl e r1=>?_) q)⟩
 subst e
 refine o.nx M1 _ _ _ (m1.trans (.new hl)) ((rs1.sameP (.new hl)).set ?_ i) q
 simp only [Rep]
 exact ⟨l,xs,rfl,(rs1.liv.fresh hl).1,(rs1.liv.fresh hl).2,ao,r1.mv (.new hl)⟩
end
end DL
namespace L2
open PySem PySem.Spec PyProof.Rows
section
variable {X:Cx} {tg:Expr}
theorem wz (hc:X.calm=true):dU X (.builtin "sum") (fun xs H Q=>∃ (p:Addr) (ns:List Int),xs=[.ref p] /\ SqL X.K H p (ns.map V.int) /\ Q (.int ns.sum) H):=by
 intro pins s σ H xs us Q I r h
 obtain ⟨p,ns,rfl,hl,q⟩:=h
 obtain ⟨u,rfl,e⟩:=jI r
 cases e
 obtain ⟨its,rv,pl,_⟩:=I.list hl
 have hi:IntsAre its ns:=rV rv
 obtain ⟨ps,e⟩:=hi.allInts.items
 have il:=pl.isList
 rw [e] at il
 refine sum_intListG (I.ok.hd hc) il fun h' tk t' hk=>⟨.int ns.sum,H,I.kept hk,⟨t',?_⟩,q⟩
 have e2:numsOf its=ns:=hi.numsOf
 have e3:=nums_intItems ps
 rw [← e] at e3
 have e4:ps.toList.map (·.1)=ns:=by rw [← e3,← e2]
 rw [preSum_eq,List.take_of_length_le (by simp),e4]
def iSeq (K:PySem.W.Frag) (tl:TE):TI:=fun σ H R=>tl σ H fun x H1=>(∃ a,x = .ref a /\ (∃ xs,SqL K H1 a xs) /\ R (Itl K a) H1)∨(∃ a,x = .ref a /\ (∃ xs,SqT K H1 a xs) /\ R (Itt K a) H1)
theorem Bl {l:Expr} {tl:TE} (hl:PE X l tl):PI X tg l (iSeq X.K tl):=by
 intro pins s σ H R I h
 refine thn (hl pins s σ H _ I h) fun v s1 ⟨x,H1,I1,r1,q1⟩=>?_
 rcases q1 with ⟨a,rfl,⟨xs,hq⟩,q⟩ | ⟨a,rfl,⟨xs,hq⟩,q⟩
 ·cases r1
  obtain ⟨its,rv,p,hz⟩:=I1.list hq
  refine wpAny_pyIter_list p.isList ⟨s1.heap.objs.size,[s1.heap.objs.size],_,_,H1,rfl,I1.kept (t':=s1.toks) (fun b o e=>Heap.get?_push_of_some _ e),nq a _,⟨_,Heap.get?_push_size _ rfl,rfl,rfl⟩,fun b hb=>?_,q⟩
  rw [show b=s1.heap.objs.size by simpa using hb]
  exact I1.fpOk (Nat.le_refl _) (I1.hok.fresh (Nat.le_refl _))
 ·cases r1
  obtain ⟨its,rv,p,hz⟩:=I1.tuple hq
  refine wpAny_pyIter_tuple (show s1.heap.IsTuple a its.toArray from p) ⟨s1.heap.objs.size,[s1.heap.objs.size],_,_,H1,rfl,I1.kept (t':=s1.toks) (fun b o e=>Heap.get?_push_of_some _ e),kX a _,⟨_,Heap.get?_push_size _ rfl,rfl,rfl⟩,fun b hb=>?_,q⟩
  rw [show b=s1.heap.objs.size by simpa using hb]
  exact I1.fpOk (Nat.le_refl _) (I1.hok.fresh (Nat.le_refl _))
end
end L2
namespace DL
open PySem PySem.Spec L2
open PyProof.Rows hiding St
variable [TB]
variable [Frm]
section
variable {X:Cx}
def jW:List D->Option (List Int)
 | []=>some []
 | .int i::r=>(jW r).map (i :: ·)
 | _=>none
theorem lq:∀ ns:List Int,jW (ns.map D.int)=some ns
 | []=>rfl
 | n::r=>by simp [jW,lq r]
theorem nX:∀ {ds:List D} {ns:List Int},jW ds=some ns->ds=ns.map D.int
 | [],ns,h=>by cases h; rfl
 | .int i::r,ns,h=>by
  simp only [jW,Option.map_eq_some_iff] at h
  obtain ⟨ms,h,rfl⟩:=h
  rw [nX h]; rfl
theorem nY {K:PySem.W.Frag} {pp:Option Addr} {M:List Addr} {H:Hp}:∀ {ns:List Int} {xs:List V},Reps K pp M H (ns.map D.int) xs->xs=ns.map V.int
 | [],xs,h=>by simpa only [List.map_nil,Reps] using h
 | n::r,xs,h=>by
  simp only [List.map_cons,Reps,Rep] at h
  obtain ⟨x,t,rfl,rfl,h⟩:=h
  rw [nY h]; rfl
def gSum:DSp:=fun ds P=>match ds with
 | [.lst xs]=>match jW xs with
  | some ns=>P (.int ns.sum)
  | none=>False
 | _=>False
theorem gl {ns:List Int} {P:D->Prop} (h:P (.int ns.sum)):gSum [.lst (ns.map D.int)] P:=by
 unfold gSum
 simp only [lq]
 exact h
theorem qH {ds:List D} {P:D->Prop} (h:gSum ds P):∃ ns:List Int,ds=[.lst (ns.map D.int)] /\ P (.int ns.sum):=by
 unfold gSum at h
 split at h
 ·rename_i xs
  cases e:jW xs with
  | none=>rw [e] at h; exact h.elim
  | some ns =>
   rw [e] at h
   exact ⟨ns,by rw [nX e],h⟩
 ·exact h.elim
theorem lr (hc:X.calm=true:=by rfl):CallD X (.builtin "sum") gSum:=by
 refine ⟨fun ds P P' f h=>?_,_,wz hc,fun {pp} M H ds vs Q _ r h=>?_⟩
 ·obtain ⟨ns,rfl,h2⟩:=qH h
  exact gl (f _ h2)
 ·obtain ⟨ns,rfl,h2⟩:=qH h
  simp only [Reps,Rep] at r
  obtain ⟨x,_,rfl,⟨a,ys,rfl,_,_,ha,ry⟩,rfl⟩:=r
  refine ⟨a,ns,rfl,SqL.of (by rw [ha,nY ry]),h2 H _ .refl bV⟩
abbrev CK (te:DE):DA:=fun ρ Q=>te ρ fun d ρ'=>match d with
 | .lst ds=>Q ds ρ'
 | .tup ds=>Q ds ρ'
 | _=>False
theorem qI {tg l:Expr} {te:DE} (hl:PED X l te):PID X tg l (CK te):=by
 obtain ⟨T,p,r⟩:=hl.run
 refine ⟨fun _ _ _ f h=>hl.mono _ _ _ (fun d _ h=>?_) h,_,Bl p,fun {F} M H σ ρ R rs h=>r M H σ ρ _ rs (hl.mono _ _ _ (fun d ρ' h M' H' v m rs' rd=>?_) h)⟩
 ·cases d <;> first | exact h.elim | exact f _ _ h
 ·cases d <;> first | exact h.elim | skip
  all_goals simp only [Rep] at rd
  case tup ds =>
   obtain ⟨a,xs,rfl,ha,rd⟩:=rd
   refine .inr ⟨a,rfl,⟨xs,SqT.of ha⟩,h M' H' _ m rs' (ItOkV.of (vs:=xs) ⟨fun M2 H2 m2 i x H3 _ y=>?_,fun M2 H2 m2 i hi=>?_,fun M2 H2 m2 i hi=>?_⟩ rd)⟩
   ·exact ⟨y.1,y.2 xs (SqT.of (m2.tup a xs ha))⟩
   ·exact ⟨xs,xs[i],SqT.of (m2.tup a xs ha),by simp [hi]⟩
   ·exact ⟨xs,SqT.of (m2.tup a xs ha),hi⟩
  case lst ds =>
   obtain ⟨a,xs,rfl,hm,hp,ha,rd⟩:=rd
   refine .inl ⟨a,rfl,⟨xs,SqL.of ha⟩,h M' H' _ m rs' (ItOkV.of (vs:=xs) ⟨fun M2 H2 m2 i x H3 _ y=>?_,fun M2 H2 m2 i hi=>?_,fun M2 H2 m2 i hi=>?_⟩ rd)⟩
   ·exact ⟨y.1,y.2 xs (SqL.of (m2.lst a xs ha hm hp).1)⟩
   ·exact ⟨xs,xs[i],SqL.of (m2.lst a xs ha hm hp).1,by simp [hi]⟩
   ·exact ⟨xs,SqL.of (m2.lst a xs ha hm hp).1,hi⟩
end
theorem bH {g:DG} {tc:DT} {te:DE} {ds:List D} {Q:List D->Prop} (N:List D->List D->DS->Prop) (hn:∀ acc ρ,N ds acc ρ->Q acc)
  (hs:∀ (pre:List D) (d:D) (post acc:List D) (ρ:DS) (Y:List D->DS->Prop),ds=pre++d::post->N pre acc ρ->(∀ acc' ρ',N (pre++[d]) acc' (bW ρ')->Y acc' ρ') ->
   g d ρ fun ρ1=>tc ρ1 fun b ρ2=>Br b (te ρ2 fun y ρ3=>acc.length < sizeLine /\ Y (acc++[y]) ρ3) (Y acc ρ2)) (ρ:DS) (h:N [] [] ρ):bX g tc te ds [] ρ Q:=by
 have key:∀ (post pre acc:List D),ds=pre++post->∀ ρ,N pre acc ρ->bX g tc te post acc ρ Q:=by
  intro post
  induction post with
  | nil=>intro pre acc e ρ h; rw [List.append_nil] at e; subst e; exact hn acc ρ h
  | cons d r ih=>intro pre acc e ρ h; exact hs pre d r acc ρ (fun acc' ρ'=>bX g tc te r acc' (bW ρ') Q) e h (fun acc' ρ' h'=>ih (pre++[d]) acc' (by rw [e,List.append_assoc]; rfl) _ h')
 exact key ds [] [] rfl ρ h
theorem aY {g:DG} {te:DE} {ds:List D} {Q:List D->Prop} (f:D->D) (N:DS->Prop) (hl:ds.length <= sizeLine)
  (hs:∀ d∈ds,∀ (ρ:DS) (Y:D->DS->Prop) (Z:DS->Prop),N ρ->(∀ ρ',N (bW ρ')->Y (f d) ρ')->g d ρ fun ρ1=>bp ρ1 fun b ρ2=>Br b (te ρ2 Y) (Z ρ2)) (ρ:DS) (h:N ρ) (hq:Q (ds.map f)):bX g bp te ds [] ρ Q:=by
 refine bH (fun pre acc ρ=>acc=pre.map f /\ N ρ) (fun acc ρ h=>by rw [h.1]; exact hq) (fun pre d post acc ρ Y e hN hY=>?_) ρ ⟨rfl,h⟩
 obtain ⟨rfl,hN⟩:=hN
 have hlt:(pre.map f).length < sizeLine:=by
  rw [List.length_map]
  have:ds.length=pre.length + (post.length + 1):=by rw [e]; simp
  omega
 refine hs d (by rw [e]; simp) ρ (fun y ρ3=>(pre.map f).length < sizeLine /\ Y (pre.map f++[y]) ρ3) (fun ρ2=>Y (pre.map f) ρ2) hN fun ρ' h'=>⟨hlt,hY _ ρ' ⟨by simp,h'⟩⟩
end DL
namespace DL
open PySem PySem.Spec L2
open PyProof.Rows hiding St
variable [TB]
variable [Frm]
structure Shp (n:Nat) (d:D):Prop where
 p:pln d=true
 c:(toPy d).canLay0=true
 d:(toPy d).depth <= n
theorem Shp.shp {n:Nat} {d:D} (h:Shp n d) (l:n <= 64:=by decide):shp d=true:=by
 unfold DL.shp SeqAt.shaped
 rw [h.p,h.c,decide_eq_true (Nat.le_trans h.d l)]; rfl
theorem Shp.int {i:Int} {n:Nat}:Shp n (.int i):=⟨rfl,rfl,Nat.zero_le _⟩
theorem pI {n:Nat}:∀ {ds:List D},(∀ d∈ds,Shp n d)->plns ds=true /\ PyData.canLayAll0 (ma ds)=true /\ PyData.depthAll (ma ds) <= n
 | [],_=>⟨rfl,rfl,Nat.zero_le _⟩
 | d::ds,h=>by
  obtain ⟨a,b,c⟩:=pI (ds:=ds) fun x hx=>h x (List.mem_cons_of_mem _ hx)
  have q:=h d List.mem_cons_self
  refine ⟨by simp only [plns,q.p,a,Bool.and_self],by simp only [ma,PyData.canLayAll0,q.c,b,Bool.and_self],?_⟩
  simp only [ma,PyData.depthAll]
  exact Nat.max_le.mpr ⟨q.d,c⟩
theorem Shp.tup {n:Nat} {ds:List D} (h:∀ d∈ds,Shp n d):Shp (n + 1) (.tup ds):=by
 obtain ⟨a,b,c⟩:=pI h
 exact ⟨by simp only [pln,a],by simp only [toPy,PyData.canLay0,b],by simp only [toPy,PyData.depth]; omega⟩
theorem Shp.lst {n:Nat} {ds:List D} (h:∀ d∈ds,Shp n d):Shp (n + 1) (.lst ds):=by
 obtain ⟨a,b,c⟩:=pI h
 exact ⟨by simp only [pln,a],by simp only [toPy,PyData.canLay0,b],by simp only [toPy,PyData.depth]; omega⟩
theorem qJ {d:D} (h:shp d=true):eqD d d=true:=by
 unfold shp at h
 rw [Bool.and_eq_true] at h
 exact SeqAt.eqv_refl _ (SeqAt.canLay_of_shaped h.2)
theorem Shp.pair {n:Nat} {i j:Int}:Shp (n + 1) (.tup [.int i,.int j]):=.tup fun d hd=>by
 simp only [List.mem_cons,List.not_mem_nil,or_false] at hd
 rcases hd with rfl | rfl <;> exact .int
end DL
namespace DL
open PySem PySem.Spec L2
open PyProof.Rows hiding St
variable [TB]
section
variable [Frm] {X:Cx} {x:Str} {p pos np cpos:Pos} {e:Expr} {es:List Expr} {t:DA} {g:DSpE} {W:DS->Addr->Prop}
end
section
variable [fr0:Frm] {X:Cx} {body suite:List Stmt} {b0:Stmt} {n x:Str} {np hpos pos:Pos} {C0:Addr} {i:Nat} {tb:(DS->Addr->Prop)->DTS} {th:DTS} {K:PySem.W.Frag}
end
section
variable [Frm] {X:Cx} {x:Str} {pos:Pos}
theorem pJ {e tg:Expr} {te:DE} {g:DG} (he:PED X e te) (hg:PGD X tg g) (hs:swapsWithSole [tg] e pos.line X.env=pure false:=by rfl) (hw:swappedStores [tg] e X.env=pure none:=by rfl)
  (h1:(assignEach [tg] X.env).map (·.2)=[assign tg X.env]:=by rfl):PSD X (.Assign [tg] e pos) (dAsg te g) :=
 AV he hg hs hw (nn (Classical.choose_spec he.run).1 (Classical.choose_spec hg.run).1 hs hw h1)
end
end DL
namespace L2
open PySem PySem.Spec PyProof.Rows
section
variable {X:Cx} {tg:Expr}
end
end L2
namespace DL
open PySem PySem.Spec L2
open PyProof.Rows hiding St
variable [TB]
variable [Frm]
section
variable {X:Cx}
def zc:DSp:=fun ds P=>match ds with
 | [.int i,.int j]=>P (.int (if j < i then j else i))
 | _=>False
theorem Bm (hc:X.calm=true:=by rfl):CallD X (.builtin "min") zc:=by
 refine ⟨fun ds P P' f h=>?_,_,tt hc,fun {pp} M H ds vs Q _ r h=>?_⟩
 ·unfold zc at h ⊢; split at h
  ·exact f _ h
  ·exact h.elim
 ·unfold zc at h; split at h
  case h_2=>exact h.elim
  ·rename_i i j
   simp only [Reps,Rep] at r
   obtain ⟨x,r,rfl,rfl,y,r',rfl,rfl,rfl⟩:=r
   exact ⟨i,j,rfl,h H _ .refl bV⟩
end
omit [Frm] in
theorem Br.dn {p:Prop} [Decidable p] {A B:Prop} (h:¬p) (b:B):Br (decide p) A B:=⟨fun z=>absurd (of_decide_eq_true z) h,fun _=>b⟩
omit [Frm] in
theorem Br.dt {p:Prop} [Decidable p] {A B:Prop} (h:p) (a:A):Br (decide p) A B:=⟨fun _=>a,fun z=>absurd h (of_decide_eq_false z)⟩
omit [Frm] in
theorem Br.di {p:Prop} [Decidable p] {A B:Prop} (a:p->A) (b:¬p->B):Br (decide p) A B:=⟨fun z=>a (of_decide_eq_true z),fun z=>b (of_decide_eq_false z)⟩
theorem mf {g:DG} {b:DTS} {E:DEnds} (N:Int->DS->Prop):∀ (n:Nat) (lo:Int),(∀ ρ,N (lo + n) ρ->E.nx ρ) ->
  (∀ (k:Int) (ρ:DS) (X:DS->Prop),lo <= k->k < lo + n->N k ρ->(∀ ρ',N (k + 1) ρ'->X ρ')->g (.int k) ρ fun ρ1=>b { E with nx:=X,ct:=X,bk:=E.nx } ρ1)->∀ ρ,N lo ρ->jm g b (fe lo n) E ρ
 | 0,lo,hn,_,ρ,h=>hn ρ (by simpa using h)
 | n + 1,lo,hn,hs,ρ,h=>hs lo ρ _ (Int.le_refl _) (by omega) h fun ρ' h'=>mf N n (lo + 1) (fun ρ h=>hn ρ (by rw [show lo + ((n + 1:Nat):Int)=lo + 1 + (n:Int) by omega]; exact h)) (fun k ρ X h1 h2=>hs k ρ X (by omega) (by omega)) ρ' h'
end DL
namespace L2
open PySem PySem.Spec PyProof.Rows
section
variable {X:Cx} {pins:List (Addr×Obj)} {σ:St} {H:Hp} {s:Shared} {h':Heap}
theorem Inv.turnedN {ch:List Addr} {T:Addr} {o:HO} {t':Nat} (I:Inv X pins σ H s) (hf:∀ b∈ch,FpOk X pins H b) (k:∀ b u,b∉ch->s.heap.get? b=some u->h'.get? b=some u) (hT:s.heap.objs.size <= T)
  (new:ObjOk X.prog X.w (upd H T o) h' T o):Inv X pins σ (upd H T o) { s with heap:=h',toks:=t' }:=by
 have hn:=I.hok.fresh hT
 refine I.call' (s':={ s with heap:=h',toks:=t' }) (ch:=ch) rfl ⟨fun b u q _ _ hx=>k b u hx q,fun b u q _ _ hx=>⟨u.slots,k b u hx q⟩,fun b u q n _=>?_,fun b u q hx=>⟨u,k b u hx q⟩,fun b xs e=>?_,fun b p u e=>?_,fun b ps e=>⟨#[],?_⟩⟩ (fun a q e=>?_) I.bare
  (fun b hb=>⟨(hf b hb).2.2.2.1,(hf b hb).2.1,(hf b hb).2.2.2.2.1,(hf b hb).2.2.2.2.2⟩)
 ·rw [ak (Nat.ne_of_lt (Nat.lt_of_lt_of_le (Heap.lt_size q) hT))]; exact n
 ·rw [ak (by rintro rfl; rw [hn] at e; cases e)]; exact e
 ·rw [ak (by rintro rfl; rw [hn] at e; cases e)]; exact e
 ·rw [ak (by rintro rfl; rw [hn] at e; cases e)]; simpa using e
 ·by_cases z:a=T
  ·subst z
   rw [ao] at e
   cases e
   exact new
  ·rw [ak z] at e
   refine ObjOk.stay (I.hok a q e) (fun b u hb q'=>k b u (fun hc=>?_) q') (fun b hb=>?_) (fun b xs hb=>?_)
   ·have:=(hf b hc).1
    rcases hb with rfl | hb
    ·rw [this] at e; cases e
    ·rw [this] at hb; cases hb
   ·rw [ak (by rintro rfl; rw [hn] at hb; cases hb)]; exact hb
   ·rw [ak (by rintro rfl; rw [hn] at hb; cases hb)]; exact hb
theorem Inv.turnedL {ch:List Addr} {t':Nat} (I:Inv X pins σ H s) (hf:∀ b∈ch,FpOk X pins H b) (k:∀ b u,b∉ch->s.heap.get? b=some u->h'.get? b=some u):Inv X pins σ H { s with heap:=h',toks:=t' }:=by
 refine I.call' (s':={ s with heap:=h',toks:=t' }) (ch:=ch) rfl ⟨fun b u q _ _ hx=>k b u hx q,fun b u q _ _ hx=>⟨u.slots,k b u hx q⟩,fun b u q n _=>n,fun b u q hx=>⟨u,k b u hx q⟩,fun b xs e=>e,fun b p u e=>e,fun b ps e=>⟨#[],by simpa using e⟩⟩ (fun a q e=>?_) I.bare
  (fun b hb=>⟨(hf b hb).2.2.2.1,(hf b hb).2.1,(hf b hb).2.2.2.2.1,(hf b hb).2.2.2.2.2⟩)
 refine ObjOk.stay (I.hok a q e) (fun b u hb q'=>k b u (fun hc=>?_) q') (fun b hb=>hb) (fun b xs hb=>hb)
 have:=(hf b hc).1
 rcases hb with rfl | hb
 ·rw [this] at e; cases e
 ·rw [this] at hb; cases hb
end
theorem uq:bootBuiltins "enumerate" = some (.type "enumerate"):=by decide +kernel
theorem qK:bootBuiltins "zip" = some (.type "zip"):=by decide +kernel
section
variable {X:Cx}
end
section
variable {X:Cx}
end
end L2
namespace DL
open PySem PySem.Spec L2
open PyProof.Rows hiding St
variable [TB]
variable [Frm]
section
variable {X:Cx} {F:Fx}
def kK (k:Nat):List D->List D
 | []=>[]
 | d::r=>.tup [.int k,d]::kK (k + 1) r
omit [Frm] in
theorem fg:∀ (ds:List D) (k:Nat),(kK k ds).length=ds.length
 | [],_=>rfl
 | _::r,k=>by simp [kK,fg r]
omit [Frm] in
theorem nZ:∀ (ds:List D) (k i:Nat) (d:D),(kK k ds)[i]? = some d->∃ e,ds[i]? = some e /\ d = .tup [.int ((k + i:Nat):Int),e]
 | [],_,i,d,h=>by simp [kK] at h
 | e::r,k,0,d,h=>by
  simp [kK] at h
  exact ⟨e,rfl,h.symm⟩
 | e::r,k,i + 1,d,h=>by
  simp only [kK,List.getElem?_cons_succ] at h ⊢
  obtain ⟨e',h1,h2⟩:=nZ r (k + 1) i d h
  exact ⟨e',h1,by rw [h2]; congr 3; congr 1; omega⟩
def zipD:List D->List D->List D
 | x::xs,y::ys=>.tup [x,y]::zipD xs ys
 | _,_=>[]
omit [Frm] in
theorem eK:∀ (xs ys:List D),(zipD xs ys).length=min xs.length ys.length
 | [],_=>by simp [zipD]
 | _::_,[]=>by simp [zipD]
 | _::xs,_::ys=>by simp [zipD,eK xs ys]
omit [Frm] in
theorem ju:∀ (xs ys:List D) (i:Nat) (d:D),(zipD xs ys)[i]? = some d->∃ x y,xs[i]? = some x /\ ys[i]? = some y /\ d = .tup [x,y]
 | [],_,i,d,h=>by simp [zipD] at h
 | _::_,[],i,d,h=>by simp [zipD] at h
 | x::xs,y::ys,0,d,h=>by
  simp [zipD] at h
  exact ⟨x,y,rfl,rfl,h.symm⟩
 | x::xs,y::ys,i + 1,d,h=>by
  simp only [zipD,List.getElem?_cons_succ] at h ⊢
  exact ju xs ys i d h
def Bn (k:Nat) (d:D) (ρ:DS) (Q:DS->Prop) (j:D):Sl->Prop
 | .own ds=>match j with
  | .int i=>∃ n,ixN ds.length i=some n /\ Q (ρ.set k (.own (ds.set n d)))
  | _=>False
 | _=>False
abbrev CL (k:Nat) (ti:DE):DG:=fun d ρ Q=>Bb (slot ρ k) /\ ti ρ fun j ρ'=>Bn k d ρ' Q j (slot ρ' k)
theorem xM {k:Nat} {o i:Expr} {ti:DE} {pos:Pos} (ho:PE X o (tVar k)) (hi:PED X i ti)
  (ha:∀ v,assign (.Subscript o i pos) X.env v=(do
   let ov ← holding [v] (eval o X.env)
   let iv ← holding [v,ov] (eval i X.env)
   standAt pos
   holding [v,ov,iv] (setItem ov iv v)
   release [v,ov,iv] []):=by intro _; rfl):PGD X (.Subscript o i pos) (CL k ti):=by
 obtain ⟨T,p,r⟩:=hi.run
 refine ⟨fun d ρ P P' f h=>⟨h.1,hi.mono _ _ _ (fun j ρ' h=>?_) h.2⟩,_,sZ ho p lM ha,fun {F} M H σ ρ d v Q rs rd h=>?_⟩
 ·cases q:slot ρ' k with
  | nil=>rw [q] at h; exact h.elim
  | val d=>rw [q] at h; exact h.elim
  | pin w d=>rw [q] at h; exact h.elim
  | obj z=>rw [q] at h; exact h.elim
  | own ds =>
   rw [q] at h
   cases j <;> first | exact h.elim | (obtain ⟨n,e,h⟩:=h; exact ⟨n,e,f _ h⟩)
 ·obtain ⟨h0,h⟩:=h
  cases q:slot ρ k with
  | nil=>rw [q] at h0; exact h0.elim
  | val d=>rw [q] at h0; exact h0.elim
  | pin w d=>rw [q] at h0; exact h0.elim
  | obj z=>rw [q] at h0; exact h0.elim
  | own ds =>
   obtain ⟨oo1,ho1,l,xs,rfl,hm1,h01,hp1,hl1,hr1⟩:=rs.at (aO q (by intro z; cases z))
   refine ⟨.ref l,ho1,?_⟩
   refine r M H σ ρ _ rs (hi.mono _ _ _ (fun j ρ' h M' H' w m rs' rj=>?_) h)
   cases q':slot ρ' k with
   | nil=>rw [q'] at h; exact h.elim
   | val d=>rw [q'] at h; exact h.elim
   | pin w d=>rw [q'] at h; exact h.elim
   | obj z=>rw [q'] at h; exact h.elim
   | own ds' =>
    rw [q'] at h
    cases j <;> first | exact h.elim | skip
    rename_i j
    obtain ⟨n,e,h⟩:=h
    have g1:=aO q' (by intro z; cases z)
    obtain ⟨l',xs',e',hm',h0',hp',hl',hr'⟩:=rs'.sl k _ _ g1 ho1
    cases e'
    simp only [Rep] at rj
    subst rj
    obtain ⟨m2,rs2⟩:=rs'.write g1 ho1 (hr'.set (rd.mv m) n)
    exact ⟨l,xs',j,n,rfl,rfl,hl',by rw [← hr'.length]; exact e,h M' _ _ (m.trans m2) rs2⟩
omit [Frm] in
theorem xN {n:Nat} {i:Int} (h0:0 <= i) (h:i < n):ixN n i=some i.toNat:=by
 unfold ixN
 rw [if_pos h0,if_pos h]
end
end DL
namespace DL
open PySem PySem.Spec L2
open PyProof.Rows hiding St
variable [TB]
abbrev DTN:=(D->Prop)->(List D->Prop)->DS->Prop
section
variable [Frm]
structure EN (K:PySem.W.Frag) (F:Fx) (M:List Addr) (H:Hp) (Q:D->Prop) (L:List D->Prop) (D:Ends):Prop where
 rt:∀ M' H' σ' ρ' d v,Mv K F.pp M H M' H'->RSt K F M' H' σ' ρ'->Rep K F.pp M' H' d v->Q d->D.rt v H'
 nx:∀ M' H' σ' ρ',Mv K F.pp M H M' H'->RSt K F M' H' σ' ρ'->Q .non->D.nx σ' H'
 nw:∀ M' H' ds l xs,SameP K F.pp F.H0 H'->(∀ a∈F.M0,a∈M')->F.H0 l=none->F.pp≠some l->l∈M'->H' l=some (.lst xs)->Reps K F.pp M' H' ds xs->L ds->D.rt (.ref l) H'
theorem EN.mv {K:PySem.W.Frag} {F:Fx} {M M1:List Addr} {H H1:Hp} {Q:DL.D->Prop} {L:List DL.D->Prop} {D:Ends} (o:EN K F M H Q L D) (m:Mv K F.pp M H M1 H1):EN K F M1 H1 Q L D :=
 ⟨fun _ _ _ _ _ _ m'=>o.rt _ _ _ _ _ _ (m.trans m'),fun _ _ _ _ m'=>o.nx _ _ _ _ (m.trans m'),o.nw⟩
def PSsN (X:Cx) (st:List Stmt) (t:DTN):Prop:=∃ T:TS,PSs X st T /\ ∀ {F:Fx} M H σ ρ (Q:D->Prop) (L:List D->Prop) (D:Ends),RSt X.K F M H σ ρ->EN X.K F M H Q L D->t Q L ρ->T D σ H
variable {X:Cx} {st:Stmt} {rest:List Stmt} {t:DTS} {u:DTN} {e:Expr} {tl:DA} {pos:Pos}
theorem ur (h:PLD X e tl):PSsN X [.Return (some e) pos] (fun _ L ρ=>tl ρ fun ds _=>L ds):=by
 obtain ⟨T,p,r⟩:=h.run
 refine ⟨_,gg (nj p),fun {F} M H σ ρ Q L D rs en q=>r M H σ ρ _ rs (h.mono _ _ _ (fun ds ρ' q M' H1 H' l xs m rs' hl e r'=>?_) q)⟩
 subst e
 have h0:F.H0 l=none:=by
  cases e:F.H0 l with
  | none=>rfl
  | some o=>exact absurd hl (rs'.same.live l (by rw [e]; intro z; cases z))
 exact en.nw (l::M') _ ds l xs (rs'.sameT.trans (.new hl)) (fun a ha=>List.mem_cons_of_mem _ (rs'.sub a ha)) h0 (rs'.liv.fresh hl).2 List.mem_cons_self ao (r'.mv (.newOwn hl)) q
theorem fO (h1:PSD X st t) (h2:PSsN X rest u):PSsN X (st::rest) (fun Q L ρ=>t { nx:=u Q L,rt:=Q } ρ):=by
 obtain ⟨T,p,r⟩:=h1
 obtain ⟨U,q,s⟩:=h2
 refine ⟨_,br p q,fun {F} M H σ ρ Q L D rs en h=>r M H σ ρ { nx:=u Q L,rt:=Q } { D with nx:=U D } rs ⟨fun M' H' σ' ρ' m rs' h=>?_,fun _ _ _ _ _ _ q=>q.elim,fun _ _ _ _ _ _ q=>q.elim,en.rt⟩ h⟩
 exact s M' H' σ' ρ' Q L D rs' (en.mv m) h
theorem zd (h1:PSD X st t) (h2:PSsN X rest u):PSsN X (st::rest) (fun Q L ρ=>∃ N:DS->Prop,t { nx:=N,rt:=Q } ρ /\ ∀ ρ',N ρ'->u Q L ρ'):=by
 obtain ⟨T,p,r⟩:=h1
 obtain ⟨U,q,s⟩:=h2
 refine ⟨_,br p q,fun {F} M H σ ρ Q L D rs en h=>?_⟩
 obtain ⟨N,h,hn⟩:=h
 refine r M H σ ρ { nx:=N,rt:=Q } { D with nx:=U D } rs ⟨fun M' H' σ' ρ' m rs' h=>?_,fun _ _ _ _ _ _ q=>q.elim,fun _ _ _ _ _ _ q=>q.elim,en.rt⟩ h
 exact s M' H' σ' ρ' Q L D rs' (en.mv m) (hn ρ' h)
end
abbrev DSpN:=List D->(D->Prop)->(List D->Prop)->Prop
def spDN (K:PySem.W.Frag) (n:Nat) (g:DSpN):Sp:=fun vs H Q _=>∃ pp M ds,Lv pp M H /\ Reps K pp M H ds vs /\ ds.length=n /\ g ds (fun d=>∀ H' v,SameP K pp H H'->Rep K pp M H' d v->Q v H')
 (fun es=>∀ M' H' l xs,SameP K pp H H'->(∀ a∈M,a∈M')->H l=none->pp≠some l->l∈M'->H' l=some (.lst xs)->Reps K pp M' H' es xs->Q (.ref l) H')
def ze (g:DSpN):Prop:=∀ ds P P' L L',(∀ d,P d->P' d)->(∀ es,L es->L' es)->g ds P L->g ds P' L'
theorem fnDN {P:Program} {w:World} {K:PySem.W.Frag} {mg:Str->Option Value} {base:Heap} {x qual:Str} {st:Stmt} {f:Addr} {fd:FuncData} {N ps:List Str} {k:Nat} {g:DSpN} {t:DTN} (Fn:Fun K x qual st f fd) (S:FnScope N ps (ae st))
  (hb:∀ (cdv:Value) (A:Around) (outer:List Env) (s:Shared) (H:Hp) (E:XK),Room k (A.deeper (envOfC qual (ae st) s.heap.objs.size f cdv)) -> @PSsN _ Frm.free (cxOf CX0 P w K mg base N qual (ae st) f cdv A outer s H E).nox (au st) t)
  (hg:∀ ds Q L,ds.length=ps.length->g ds Q L->t Q L (nQ N.length ds)):FnOk P w K mg base CX0 (k + 1) f fd ps (spDN K ps.length g):=by
 refine Fn.ok S (fun vs H Q E h=>?_) (fun cdv A outer s H vs Q E hr h=>?_)
 ·obtain ⟨pp,M,ds,_,r,e,_⟩:=h
  rw [← r.length,e]
 ·obtain ⟨pp,M,ds,lv,r,e,h⟩:=h
  obtain ⟨T,p,run⟩:=hb cdv A outer s H E hr
  refine ⟨T,p,run M H _ _ _ _ _ (nR lv r trivial) ⟨fun M' H' σ' ρ' d v m rs rd q=>?_,fun M' H' σ' ρ' m rs q=>?_,fun M' H' es l xs s sub h0 hp hm hl rr q=>?_⟩ (hg ds _ _ e h)⟩
  ·exact q H' v rs.sameT (rd.mv (.less rs.sub))
  ·exact q H' .non rs.sameT (by simp only [Rep])
  ·exact q M' H' l xs s sub h0 hp hm hl rr
theorem FnOk.asD {P:Program} {w:World} {K:PySem.W.Frag} {mg:Str->Option Value} {base:Heap} {k n:Nat} {f:Addr} {fd:FuncData} {ps:List Str} {g:DSpN} {g':DSp} (h:FnOk P w K mg base CX0 k f fd ps (spDN K n g)) (hg:∀ ds Q,g' ds Q->g ds Q (fun es=>Q (.lst es))) (gm:ze g):FnOk P w K mg base CX0 k f fd ps (spD K n g') :=
 h.imp fun vs H Q E h=>by
  obtain ⟨pp,M,ds,lv,r,e,h⟩:=h
  refine ⟨pp,M,ds,lv,r,e,gm _ _ _ _ _ (fun d q=>q) (fun es q M' H' l xs s sub hl hp hm hH rr=>q H' _ s ?_) (hg _ _ h)⟩
  simp only [Rep]
  exact ⟨l,xs,rfl,(lv.fresh hl).1,hp,hH,rr.mv (.less sub)⟩
section
variable [Frm] {X:Cx}
end
end DL
namespace DL
open PySem PySem.Spec L2
open PyProof.Rows hiding St
variable [TB]
variable [Frm]
def kL:DS->Bool
 | []=>true
 | .own _::_=>false
 | .obj _::_=>false
 | _::r=>kL r
def cf:Nat->DS->Bool
 | _,[]=>true
 | 0,_::r=>kL r
 | _ + 1,.own _::_=>false
 | _ + 1,.obj _::_=>false
 | k + 1,_::r=>cf k r
omit [Frm] in
theorem jX:∀ {ρ:DS} {j:Nat} {ds:List D},kL ρ=true->ρ[j]? = some (.own ds)->False
 | [],j,ds,_,h=>by simp at h
 | s::r,0,ds,h,e=>by
  simp at e
  subst e
  simp [kL] at h
 | s::r,j + 1,ds,h,e=>by
  cases s <;> first | (simp [kL] at h; done) | exact jX (ρ:=r) (by simpa [kL] using h) (by simpa using e)
omit [Frm] in
theorem iF:∀ {ρ:DS} {k j:Nat} {ds:List D},cf k ρ=true->ρ[j]? = some (.own ds)->j=k
 | [],k,j,ds,_,h=>by simp at h
 | s::r,0,0,ds,h,e=>rfl
 | s::r,0,j + 1,ds,h,e=>(jX (ρ:=r) (by simpa [cf] using h) (by simpa using e)).elim
 | s::r,k + 1,0,ds,h,e=>by
  simp at e
  subst e
  simp [cf] at h
 | s::r,k + 1,j + 1,ds,h,e=>by
  cases s <;> first | (simp [cf] at h; done) | exact congrArg Nat.succ (iF (ρ:=r) (k:=k) (by simpa [cf] using h) (by simpa using e))
omit [Frm] in
theorem jY:∀ {ρ:DS} {j:Nat} {q:O},kL ρ=true->ρ[j]? = some (.obj q)->False
 | [],j,ds,_,h=>by simp at h
 | s::r,0,ds,h,e=>by
  simp at e
  subst e
  simp [kL] at h
 | s::r,j + 1,ds,h,e=>by
  cases s <;> first | (simp [kL] at h; done) | exact jY (ρ:=r) (by simpa [kL] using h) (by simpa using e)
omit [Frm] in
theorem lu:∀ {ρ:DS} {k j:Nat} {q:O},cf k ρ=true->ρ[j]? = some (.obj q)->j=k
 | [],k,j,ds,_,h=>by simp at h
 | s::r,0,0,ds,h,e=>rfl
 | s::r,0,j + 1,ds,h,e=>(jY (ρ:=r) (by simpa [cf] using h) (by simpa using e)).elim
 | s::r,k + 1,0,ds,h,e=>by
  simp at e
  subst e
  simp [cf] at h
 | s::r,k + 1,j + 1,ds,h,e=>by
  cases s <;> first | (simp [cf] at h; done) | exact congrArg Nat.succ (lu (ρ:=r) (k:=k) (by simpa [cf] using h) (by simpa using e))
section
variable {K:PySem.W.Frag} {F:Fx} {M M0 M':List Addr} {H H':Hp} {σ:St} {ρ:DS} {i:Nat} {ds:List D} {v:V}
theorem RSt.thaw (r:RSt K F M H σ ρ) (h:ρ[i]? = some (.own ds)) (oo:cf i ρ=true) (ho:σ[i]? = some (some v)) (m0:Mv K F.pp M H M0 H) (rl:Rep K F.pp M0 H (.lst ds) v) (m:Mv K F.pp M0 H M' H') (r':RSt K F M' H' σ (ρ.set i (.val (.lst ds)))) :
  ∃ M'',Mv K F.pp M H M'' H' /\ RSt K F M'' H' σ ρ:=by
 obtain ⟨o,ho1,l,xs,rfl,hm,h0,hp,hl,hr⟩:=r.at h
 rw [ho1] at ho
 cases ho
 simp only [Rep] at rl
 obtain ⟨l2,xs2,e,n2,p2,h2,r2⟩:=rl
 cases e
 rw [hl] at h2
 cases h2
 obtain ⟨hl',hn'⟩:=m.lst l xs hl n2 p2
 have mm:=m0.trans m
 have m2:Mv K F.pp M H (l::M') H':=by
  refine ⟨mm.tup,fun a o e n p=>?_,mm.pen,mm.tb⟩
  obtain ⟨q1,q2⟩:=mm.oth a o e n p
  refine ⟨q1,fun z=>?_⟩
  rcases List.mem_cons.mp z with rfl | z
  ·exact n hm
  ·exact q2 z
 refine ⟨l::M',m2,⟨r.len,fun j s o h1 h2=>?_,⟨fun j=>if j=i then [l] else [],fun j s o h1 h2=>?_,fun j a ha=>?_,fun j k e a ha hb=>?_⟩,fun a ha=>List.mem_cons_of_mem _ (r'.sub a ha),r'.same,r.old,⟨fun a ha=>?_,r'.liv.p⟩,r.lk.cl m2⟩⟩
 ·have q:=r.sl j s o h1 h2
  cases s with
  | nil=>trivial
  | val d=>obtain ⟨v,e,q⟩:=q; exact ⟨v,e,q.mv m2⟩
  | pin w d=>obtain ⟨v,e,ew,q⟩:=q; exact ⟨v,e,ew,q.mv m2⟩
  | own es =>
   have e:=iF oo h1
   subst e
   rw [h] at h1
   cases h1
   rw [ho1] at h2
   cases h2
   exact ⟨l,xs,rfl,List.mem_cons_self,h0,hp,hl',hr.mv m2⟩
  | obj z=>exact q
 ·show Ow K F _ H' s o (if j=i then [l] else [])
  cases s with
  | nil=>trivial
  | val d=>trivial
  | pin w d=>trivial
  | own es =>
   have e:=iF oo h1
   subst e
   rw [ho1] at h2
   cases h2
   rw [if_pos rfl]
   exact ⟨l,rfl,rfl⟩
  | obj z =>
   have e:=lu oo h1
   subst e
   rw [h] at h1
   cases h1
 ·replace ha:a∈(if j=i then [l] else []):=ha
  by_cases e:j=i
  ·rw [if_pos e] at ha
   rw [List.mem_singleton.mp ha]
   exact ⟨List.mem_cons_self,h0,hp⟩
  ·rw [if_neg e] at ha; simp at ha
 ·replace ha:a∈(if j=i then [l] else []):=ha
  replace hb:a∈(if k=i then [l] else []):=hb
  by_cases e1:j=i
  ·subst e1
   rw [if_neg (Ne.symm e)] at hb; simp at hb
  ·rw [if_neg e1] at ha; simp at ha
 ·rcases List.mem_cons.mp ha with rfl | ha
  ·rw [hl']; intro z; cases z
  ·exact r'.liv.m a ha
end
section
variable {X:Cx} {e:Expr}
def scD:D->Prop
 | .int _=>True
 | .bl _=>True
 | .non=>True
 | _=>False
abbrev CM (k:Nat) (t:DE):DE:=fun ρ Q=>∃ ds,slot ρ k = .own ds /\ cf k ρ=true /\ t (ρ.set k (.val (.lst ds))) fun d ρ'=>(scD d /\ ρ'=ρ.set k (.val (.lst ds))) /\ Q d ρ
theorem zf {t:DE} (k:Nat) (h:PED X e t):PED X e (CM k t):=by
 obtain ⟨T,p,r⟩:=h.run
 refine ⟨fun ρ P P' f ⟨ds,e,o,q⟩=>⟨ds,e,o,h.mono _ _ _ (fun b ρ' q=>⟨q.1,f _ _ q.2⟩) q⟩,T,p,fun {F} M H σ ρ Q rs ⟨ds,e,o,q⟩=>?_⟩
 have g:=aO e (by intro z; cases z)
 obtain ⟨M0,v,ho,m0,rs0,rl⟩:=rs.freeze g
 refine r M0 H σ _ Q rs0 (h.mono _ _ _ (fun d ρ' q M' H' u m rs' rd=>?_) q)
 obtain ⟨⟨sc,rfl⟩,q⟩:=q
 obtain ⟨M2,m2,rs2⟩:=rs.thaw g o ho m0 rl m rs'
 refine q M2 H' u m2 rs2 ?_
 cases d <;> first | exact sc.elim | (simp only [Rep] at rd ⊢; exact rd)
end
end DL
namespace DL
open PySem PySem.Spec L2
open PyProof.Rows hiding St
variable [TB]
variable [Frm]
end DL
namespace L2
open PySem PySem.Spec PyProof.Rows
section
variable {prog:Program} {w:World} {A:Around} {E:Value->Shared->Prop} {s:Shared}
end
section
variable {X:Cx} {e st:Expr} {te:TE} {tk:TO} {pos p2:Pos}
end
end L2
namespace PySem
end PySem
namespace L2
open PySem PySem.Spec PyProof.Rows
section
variable {X:Cx}
end
end L2
namespace DL
open PySem PySem.Spec L2
open PyProof.Rows hiding St
variable [TB]
variable [Frm]
section
variable {X:Cx} {pp:Option Addr}
end
end DL
namespace DL
open PySem PySem.Spec L2
open PyProof.Rows hiding St
variable [TB]
variable [Frm]
section
variable {X:Cx} {pp:Option Addr}
end
end DL
namespace L2
open PySem PySem.Spec PyProof.Rows
section
variable {X:Cx}
end
end L2
namespace DL
open PySem PySem.Spec L2
open PyProof.Rows hiding St
variable [TB]
def oa:D->Bool
 | .non=>true
 | .bl _=>true
 | .int _=>true
 | .str _=>true
 | _=>false
def toV:D->V
 | .bl b=>.bl b
 | .int i=>.int i
 | .str s=>.str s
 | _=>.non
def eqF (x y:D):Bool:=eqV (toV x) (toV y)
section
variable {K:PySem.W.Frag} {pp:Option Addr} {M:List Addr} {H:Hp}
theorem qL {d:D} {v:V} (f:oa d=true) (r:Rep K pp M H d v):v=toV d /\ jh v=true:=by
 cases d <;> first | exact absurd (show false=true from f) Bool.false_ne_true | skip
 all_goals
  simp only [Rep] at r
  subst r
  exact ⟨rfl,rfl⟩
theorem og:∀ {ds:List D} {xs:List V},ds.all oa=true->Reps K pp M H ds xs->xs=ds.map toV /\ xs.all jh=true
 | [],xs,_,r=>by
  simp only [Reps] at r
  subst r
  exact ⟨rfl,rfl⟩
 | d::ds,xs,f,r=>by
  simp only [Reps] at r
  obtain ⟨x,r',rfl,hd,hr⟩:=r
  rw [List.all_cons,Bool.and_eq_true] at f
  obtain ⟨e1,e2⟩:=qL f.1 hd
  obtain ⟨e3,e4⟩:=og f.2 hr
  subst e1 e3
  exact ⟨rfl,by rw [List.all_cons,e2,e4]; rfl⟩
end
variable [Frm]
section
variable {X:Cx}
end
end DL
namespace DL
open PySem PySem.Spec L2
open PyProof.Rows hiding St
variable [TB]
variable [Frm]
theorem sg {g:DG} {b:DTS} {E:DEnds} {ds:List D} (N:Nat->DS->Prop) (hn:∀ ρ,N ds.length ρ->E.nx ρ)
  (hs:∀ (i:Nat) (d:D) (ρ:DS) (X:DS->Prop),ds[i]? = some d->N i ρ->(∀ ρ',N (i + 1) ρ'->X ρ')->g (.tup [.int i,d]) ρ fun ρ1=>b { E with nx:=X,ct:=X,bk:=E.nx } ρ1) (ρ:DS) (h:N 0 ρ):jm g b (kK 0 ds) E ρ:=by
 have key:∀ (post:List D) (k:Nat),k <= ds.length->ds.drop k=post->∀ ρ,N k ρ->jm g b (kK k post) E ρ:=by
  intro post
  induction post with
  | nil =>
   intro k hk e ρ h
   have h1:ds.length <= k:=List.drop_eq_nil_iff.mp e
   have z:k=ds.length:=Nat.le_antisymm hk h1
   subst z
   exact hn ρ h
  | cons d r ih =>
   intro k hk e ρ h
   have hd:ds[k]? = some d:=by
    have:=congrArg (fun l=>l[0]?) e
    simpa using this
   refine hs k d ρ _ hd h (ih (k + 1) (List.getElem?_eq_some_iff.mp hd).1 ?_)
   rw [← List.drop_drop,e]
   rfl
 exact key ds 0 (Nat.zero_le _) rfl ρ h
end DL
namespace L2
open PySem PySem.Spec PyProof.Rows
section
variable {prog:Program} {w:World} {A:Around} {E:Value->Shared->Prop} {s:Shared}
end
end L2
namespace DL
open PySem PySem.Spec L2
open PyProof.Rows hiding St
variable [TB]
section
variable [Frm]
variable {X:Cx} {F:Fx} {pp:Option Addr}
abbrev CN (ta tb:DE):DA:=fun ρ Q=>ta ρ fun x ρ1=>tb ρ1 fun y ρ2=>match x,y with
 | .lst xs,.lst ys=>xs.length + ys.length <= sizeLine /\ Q (xs++ys) ρ2
 | _,_=>False
theorem xO {a b:Expr} {ta tb:DE} {pos:Pos} (ha:PED X a ta) (hb:PED X b tb):PLD X (.BinOp a .Add b pos) (CN ta tb):=by
 obtain ⟨Ta,pa,ra⟩:=ha.run
 obtain ⟨Tb,pb,rb⟩:=hb.run
 refine ⟨fun _ _ _ f h=>ha.mono _ _ _ (fun x _ h=>hb.mono _ _ _ (fun y _ h=>?_) h) h,_,cL AD pa pb,fun {F} M H σ ρ Q rs h=>?_⟩
 ·cases x <;> first | exact h.elim | skip
  cases y <;> first | exact h.elim | exact ⟨h.1,f _ _ h.2⟩
 refine ra M H σ ρ _ rs (ha.mono _ _ _ (fun x ρ1 h M1 H1 v m1 rs1 r1=>?_) h)
 refine rb M1 H1 σ ρ1 _ rs1 (hb.mono _ _ _ (fun y ρ2 h M2 H2 u m2 rs2 r2=>?_) h)
 have r1:=r1.mv m2
 cases x <;> first | exact h.elim | skip
 cases y <;> first | exact h.elim | skip
 simp only [Rep] at r1 r2
 obtain ⟨l,xs,rfl,_,_,hl,rx⟩:=r1
 obtain ⟨l',ys,rfl,_,_,hl',ry⟩:=r2
 exact ⟨l,l',xs,ys,rfl,rfl,hl,hl',by rw [← rx.length,← ry.length]; exact h.1,fun p hp=>h.2 M2 H2 _ p _ (m1.trans m2) rs2 hp rfl (rx.append ry)⟩
abbrev CO (ta tb:DE):DA:=fun ρ Q=>ta ρ fun x ρ1=>tb ρ1 fun y ρ2=>match x,y with
 | .lst xs,.int k=>((-(2 ^ 63) <= k /\ k < 2 ^ 63) /\ xs.length * k.toNat <= sizeLine) /\ Q (List.replicate k.toNat xs).flatten ρ2
 | _,_=>False
theorem Reps.reps {K:PySem.W.Frag} {M:List Addr} {H:Hp} {ds:List D} {xs:List V} (r:Reps K pp M H ds xs):∀ k:Nat,Reps K pp M H (List.replicate k ds).flatten (List.replicate k xs).flatten
 | 0=>by simp [Reps]
 | k + 1=>by
  rw [List.replicate_succ,List.replicate_succ,List.flatten_cons,List.flatten_cons]
  exact r.append (Reps.reps r k)
theorem xP {a b:Expr} {ta tb:DE} {pos:Pos} (ha:PED X a ta) (hb:PED X b tb):PLD X (.BinOp a .Mult b pos) (CO ta tb):=by
 obtain ⟨Ta,pa,ra⟩:=ha.run
 obtain ⟨Tb,pb,rb⟩:=hb.run
 refine ⟨fun _ _ _ f h=>ha.mono _ _ _ (fun x _ h=>hb.mono _ _ _ (fun y _ h=>?_) h) h,_,cL AE pa pb,fun {F} M H σ ρ Q rs h=>?_⟩
 ·cases x <;> first | exact h.elim | skip
  cases y <;> first | exact h.elim | exact ⟨h.1,f _ _ h.2⟩
 refine ra M H σ ρ _ rs (ha.mono _ _ _ (fun x ρ1 h M1 H1 v m1 rs1 r1=>?_) h)
 refine rb M1 H1 σ ρ1 _ rs1 (hb.mono _ _ _ (fun y ρ2 h M2 H2 u m2 rs2 r2=>?_) h)
 have r1:=r1.mv m2
 cases x <;> first | exact h.elim | skip
 cases y <;> first | exact h.elim | skip
 simp only [Rep] at r1 r2
 obtain ⟨l,xs,rfl,_,_,hl,rx⟩:=r1
 subst r2
 exact ⟨l,_,xs,rfl,rfl,hl,h.1.1.1,h.1.1.2,by rw [← rx.length]; exact h.1.2,fun p hp=>h.2 M2 H2 _ p _ (m1.trans m2) rs2 hp rfl (Reps.reps rx _)⟩
end
end DL
namespace L2
open PySem PySem.Spec PyProof.Rows
abbrev db (h:Heap) (z TI TO:Addr) (f0 f1:Value):Prop :=
 h.get? z=some { cls:=.type "zip",dict:=none,data:=.fields #[f0,f1,.bool false,.ref TI,.ref TO],slots:=#[] }
abbrev cK (h:Heap) (T:Addr) (xs:Array Value):Prop:=h.get? T=some { cls:=.type "tuple",data:=.seq xs }
def OwnF (f:Value):Prop:=f = .none∨∃ a:Int,f = .int a 0
abbrev itsL (n m:Nat):List Value:=(List.range m).map fun j=>Value.ref (n + j)
def KeptZ (n m:Nat) (h h':Heap):Prop:=∀ (b:Nat) o,b < n∨b=n + m∨n + m + 2 < b->h.get? b=some o->h'.get? b=some o
section
variable {prog:Program} {w:World} {A:Around} {E:Value->Shared->Prop} {s:Shared}
theorem iG {a:Addr} {Q:Option Obj->Shared->Prop} (h:Q (s.heap.get? a) s):wpAny (model prog w) A (loadIfAlive a) Q E s :=
 fun Γ p _=>by
  show Sem.wp _ Γ (.loadIfAlive a .pure) _ _ p s
  rw [Sem.wp_loadIfAlive]
  exact h
theorem wA {z TI TO:Addr} {f0 f1:Value} {Q:Bool->Shared->Prop} (hf:OwnF f0) (hz:db s.heap z TI TO f0 f1) (q1:Q true s)
  (q2:∀ h' f1',db h' z TI TO f0 f1'->Heap.SameBut z s.heap h'->Q false { s with heap:=h' }) :
  wpAny (model prog w) A (Builtin.SmallTypes.ownedTupleIsFree (.ref z)) Q E s:=by
 unfold Builtin.SmallTypes.ownedTupleIsFree
 refine wpAny_bind (wpAny_field hz rfl (x:=f0) rfl ?_)
 rcases hf with rfl | ⟨a,rfl⟩
 ·exact wpAny_pure q1
 ·show wpAny _ _ (loadIfAlive a.toNat >>= _) _ _ _
  refine wpAny_bind (iG ?_)
  cases e:s.heap.get? a.toNat with
  | none=>exact wpAny_pure q1
  | some o =>
   show wpAny _ _ (field (.ref z) 1 >>= _) _ _ _
   refine wpAny_bind (wpAny_field hz rfl (x:=f1) rfl ?_)
   by_cases hb:(f1 != .bool true)=true
   ·rw [if_pos hb]
    refine wpAny_bind (wpAny_setField_rec hz (by simp) fun h' hz' hs=>wpAny_pure (q2 h' (.bool true) ?_ hs))
    exact hz'
   ·rw [if_neg hb]
    refine wpAny_bind (wpAny_pure ?_)
    exact wpAny_pure (q2 s.heap f1 hz (Heap.SameBut.refl ..))
end
end L2
namespace L2
open PySem PySem.Spec PyProof.Rows
theorem cN {α:Type} {l:List α} {j:Nat} {p:α} (h:l[j]? = some p):j < l.length:=(List.getElem?_eq_some_iff.mp h).1
section
variable {h0 h h':Heap} {n k c:Nat} {src:List (Addr×Array Value)}
end
section
variable {prog:Program} {w:World} {A:Around} {E:Value->Shared->Prop} {s:Shared}
theorem gq {T:Addr} {ws:Array Value} {x:Value} {k:Nat} {Q:Unit->Shared->Prop} (hT:cK s.heap T ws) (hz:ws.size <= sizeLine)
  (h:∀ h',cK h' T (ws.setIfInBounds k x)->Heap.SameBut T s.heap h'->Q () { s with heap:=h' }) :
  wpAny (model prog w) A (updateSeq T (·.setIfInBounds k x)) Q E s:=by
 refine wpAny_updateSeq hT rfl (h _ ?_ (Heap.SameBut.update ..)) hz (by simp; omega)
 show Heap.get? _ _=_
 rw [Heap.get?_update_self _ hT rfl]
 simp [Obj.mapSeq]
theorem ut {α:Type} {l:List α} {c:Nat} {x:α} {r:List α} (h:l.drop c=x::r):l[c]? = some x /\ l.drop (c + 1)=r:=by
 have hc:c < l.length:=by
  rcases Nat.lt_or_ge c l.length with h' | h'
  ·exact h'
  ·rw [List.drop_eq_nil_of_le h'] at h; cases h
 rw [List.drop_eq_getElem_cons hc] at h
 cases h
 exact ⟨by simp,rfl⟩
theorem uu {n m c:Nat} (h:c < m):(itsL n m)[c]? = some (.ref (n + c)):=by
 unfold itsL
 rw [List.getElem?_map,List.getElem?_range h]
 rfl
def Told (src:List (Addr×Array Value)) (k c:Nat) (vs:List Value):Prop:=vs.length=c /\ ∀ (j:Nat) (p:Addr×Array Value),j < c->src[j]? = some p->p.2[k]? = vs[j]?
theorem Told.push {src:List (Addr×Array Value)} {k c:Nat} {vs:List Value} {p:Addr×Array Value} {v:Value} (t:Told src k c vs) (hc:src[c]? = some p) (hv:p.2[k]? = some v):Told src k (c + 1) (vs++[v]):=by
 refine ⟨by simp [t.1],fun j q hj hq=>?_⟩
 by_cases z:j=c
 ·subst z
  rw [hc] at hq
  cases hq
  rw [hv,List.getElem?_append_right (by rw [t.1]; exact Nat.le_refl _),t.1]
  simp
 ·rw [t.2 j q (by omega) hq,List.getElem?_append_left (by rw [t.1]; omega)]
end
end L2
namespace PySem
namespace F
end F
end PySem
namespace L2
open PySem PySem.Spec PyProof.Rows
abbrev tuO (xs:List Value):Obj:={ cls:=.type "tuple",data:=.seq xs.toArray }
abbrev ziO (TI TO:Addr):Obj:={ cls:=.type "zip",data:=.fields #[.none,.bool false,.bool false,.ref TI,.ref TO] }
section
variable {prog:Program} {w:World} {A:Around} {E:Value->Shared->Prop} {s:Shared}
end
end L2
namespace L2
open PySem PySem.Spec PyProof.Rows
section
variable {X:Cx} {pins:List (Addr×Obj)} {σ:St} {H:Hp} {s:Shared} {h':Heap}
theorem Inv.trackF {a:Addr} {o:HO} (I:Inv X pins σ H s) (hf:FpOk X pins H a) (new:ObjOk X.prog X.w (upd H a o) s.heap a o):Inv X pins σ (upd H a o) s:=by
 obtain ⟨hn,hl,hfs,hs,hc,hp⟩:=hf
 have tr:∀ b q,H b=some q->upd H a o b=some q:=fun b q e=>by rw [ak (bO e hn)]; exact e
 refine ⟨I.ok,I.os,I.bare,⟨I.base.keep,I.base.slot,fun b q e n hx=>?_,I.base.there,fun b xs q=>tr _ _ (I.base.tups b xs q),fun b o u q=>tr _ _ (I.base.frzs b o u q),fun b ps q=>?_⟩,I.loc,I.cell,?_,fun x d q=>?_,fun p hq=>?_,fun b q e=>?_,I.len⟩
 ·have:b≠a:=by
   rintro rfl
   rcases hs with h | h
   ·exact hx h
   ·exact absurd (Nat.lt_of_lt_of_le (Heap.lt_size e) h) (Nat.lt_irrefl _)
  rw [ak this]; exact I.base.free b q e n hx
 ·obtain ⟨m,z⟩:=I.base.tbls b ps q
  exact ⟨m,tr _ _ z⟩
 ·rw [ak (Ne.symm hl)]; exact I.free
 ·rw [ak (hc x d q)]; exact I.freeC x d q
 ·obtain ⟨e1,e2,r⟩:=I.pin p hq
  exact ⟨e1,by rw [ak (hp p hq)]; exact e2,r⟩
 ·by_cases z:b=a
  ·subst z
   rw [ao] at e; cases e
   exact new
  ·rw [ak z] at e
   exact (I.hok b q e).stay (fun _ _ _ q=>q) (fun d q=>tr _ _ q) fun d xs q=>tr _ _ q
theorem FpOk.upd {a b:Addr} {o:HO} (f:FpOk X pins H b) (hne:b≠a):FpOk X pins (upd H a o) b:=⟨by rw [ak hne]; exact f.1,f.2⟩
end
inductive Laid:Hp->List (List V)->List Addr->Hp->Prop
 | nil {H:Hp}:Laid H [] [] H
 | snoc {H H1:Hp} {rows:List (List V)} {Ts:List Addr} {r:List V} {T:Addr}:Laid H rows Ts H1->H1 T=none->Laid H (rows++[r]) (Ts++[T]) (upd H1 T (.tup r))
def uv (xss:List (List V)) (i:Nat) (r:List V):Prop:=r.length=xss.length /\ ∀ (j:Nat) xs,xss[j]? = some xs->xs[i]? = r[j]?
def uw (xss:List (List V)) (rows:List (List V)):Prop:=(∀ (i:Nat) r,rows[i]? = some r->uv xss i r) /\ ∃ xs∈xss,xs.length <= rows.length
def SrcV (xss:List (List V)) (src:List (Addr×Array Value)):Prop:=xss.length=src.length /\ ∀ (j:Nat) xs (p:Addr×Array Value),xss[j]? = some xs->src[j]? = some p->Vals xs p.2.toList
theorem Vals.got:∀ {xs:List V} {us:List Value} {i:Nat} {u:Value},Vals xs us->us[i]? = some u->∃ x,xs[i]? = some x /\ RelV x u:=fun {xs us i u} r e=>by
 have hi:i < us.length:=cN e
 have hx:xs[i]? = some (xs[i]'(by rw [r.length]; exact hi)):=by simp
 obtain ⟨u',e',ru⟩:=r.get hx
 rw [e] at e'
 cases e'
 exact ⟨_,hx,ru⟩
theorem oh {i:Nat}:∀ {xss:List (List V)} {src:List (Addr×Array Value)} {vs:List Value},SrcV xss src->vs.length=src.length->(∀ (j:Nat) (p:Addr×Array Value),src[j]? = some p->p.2[i]? = vs[j]?)->∃ r,uv xss i r /\ Vals r vs
 | [],src,vs,hv,hl,_=>by
  have h0:src=[]:=List.length_eq_zero_iff.mp (by rw [← hv.1]; rfl)
  subst h0
  have h1:vs=[]:=List.length_eq_zero_iff.mp (by rw [hl]; rfl)
  subst h1
  exact ⟨[],⟨rfl,fun j xs h=>by simp at h⟩,.nil⟩
 | xs::xss,[],vs,hv,hl,_=>absurd hv.1 (by simp)
 | xs::xss,p::src,[],hv,hl,_=>absurd hl (by simp)
 | xs::xss,p::src,v::vs,hv,hl,h=>by
  obtain ⟨r,hr,rv⟩:=oh (xss:=xss) (src:=src) (vs:=vs) (i:=i) ⟨by simpa using hv.1,fun j xs p h1 h2=>hv.2 (j + 1) xs p (by simpa using h1) (by simpa using h2)⟩ (by simpa using hl) fun j p hj=>by
   have:=h (j + 1) p (by simpa using hj)
   simpa using this
  have h0:=h 0 p rfl
  have h0:p.2[i]? = some v:=by simpa using h0
  obtain ⟨x,hx,rx⟩:=(hv.2 0 xs p rfl rfl).got (u:=v) (i:=i) (by rw [Array.getElem?_toList]; exact h0)
  refine ⟨x::r,⟨by simp [hr.1],fun j ys hj=>?_⟩,.cons rx rv⟩
  cases j with
  | zero=>simp at hj; subst hj; simpa using hx
  | succ j=>simpa using hr.2 j ys (by simpa using hj)
theorem jv {xss:List (List V)} {src:List (Addr×Array Value)} {i:Nat} {vs:List Value} (hv:SrcV xss src) (ht:Told src i src.length vs):∃ r,uv xss i r /\ Vals r vs :=
 oh hv ht.1 fun j p hj=>ht.2 j p (cN hj) hj
theorem CP {xss:List (List V)} {src:List (Addr×Array Value)} {i:Nat} (hv:SrcV xss src) (h:∃ (j:Nat) (p:Addr×Array Value),src[j]? = some p /\ p.2[i]? = none):∃ xs∈xss,xs.length <= i:=by
 obtain ⟨j,p,hj,hp⟩:=h
 have lt:j < xss.length:=by rw [hv.1]; exact cN hj
 have hx:xss[j]? = some xss[j]:=by simp [lt]
 have r:=hv.2 j _ p hx hj
 refine ⟨xss[j],List.getElem_mem lt,?_⟩
 have e:xss[j].length=p.2.size:=by have:=r.length; simpa using this
 have hp:=Array.getElem?_eq_none_iff.mp hp
 rw [e]
 exact hp
section
variable {X:Cx}
def ownZ (n m S:Nat):List Addr:=S::(List.range (m + 3)).map (n + ·)
theorem ownZ_mem {n m S b:Nat}:b∈ownZ n m S↔b=S∨n <= b /\ b < n + m + 3:=by
 unfold ownZ
 simp only [List.mem_cons,List.mem_map,List.mem_range]
 constructor
 ·rintro (h | ⟨a,h1,h2⟩)
  ·exact .inl h
  ·exact .inr ⟨by omega,by omega⟩
 ·rintro (h | ⟨h1,h2⟩)
  ·exact .inl h
  ·exact .inr ⟨b - n,by omega,by omega⟩
theorem mh {n m S b:Nat} (h:b∉ownZ n m S):b≠S /\ (b < n∨n + m + 2 < b):=by
 have h1:¬ (b=S):=fun z=>h (ownZ_mem.mpr (.inl z))
 have h2:¬ (n <= b /\ b < n + m + 3):=fun z=>h (ownZ_mem.mpr (.inr z))
 exact ⟨h1,by omega⟩
theorem jw {n m b:Nat} (h:b < n∨n + m + 2 < b):b < n∨b=n + m∨n + m + 2 < b:=h.imp_right .inr
theorem Laid.len {H H':Hp} {rows:List (List V)} {Ts:List Addr} (l:Laid H rows Ts H'):Ts.length=rows.length:=by
 induction l with
 | nil=>rfl
 | snoc _ _ ih=>simp [ih]
end
end L2
namespace PySem
namespace F
theorem zip_no_len:typeLookup (.type "zip") "__len__" = pure none:=by rw [typeLookup_type,builtinLookup_eq_fast]; kernel_rfl
theorem zip_no_hint:typeLookup (.type "zip") "__length_hint__" = pure none:=by rw [typeLookup_type,builtinLookup_eq_fast]; kernel_rfl
end F
end PySem
namespace L2
open PySem PySem.Spec PyProof.Rows
section
variable {X:Cx}
def Bo (xss:List (List V)) (H:Hp) (Q:VK):Prop:=∀ (rows:List (List V)) (Ts:List Addr) (H':Hp) (l:Addr),uw xss rows->Laid H rows Ts H'->H' l=none->Ts.length <= sizeLine->Q (.ref l) (upd H' l (.lst (Ts.map V.ref)))
theorem oj:∀ (Ts:List Addr),Vals (Ts.map V.ref) (Ts.map Value.ref)
 | []=>.nil
 | T::Ts=>.cons rfl (oj Ts)
end
end L2
namespace L2
open PySem PySem.Spec PyProof.Rows
section
variable {X:Cx}
theorem oq:bootBuiltins "list" = some (.type "list"):=by decide +kernel
end
end L2
namespace DL
open PySem PySem.Spec PyProof.Rows L2
variable [TB]
variable [Frm]
omit [Frm] in
theorem Reps.of {K:PySem.W.Frag} {pp:Option Addr} {M:List Addr} {H:Hp}:∀ {ds:List D} {xs:List V},ds.length=xs.length->(∀ (i:Nat) d v,ds[i]? = some d->xs[i]? = some v->Rep K pp M H d v)->Reps K pp M H ds xs
 | [],[],_,_=>.nil
 | [],_::_,h,_=>absurd h (by simp)
 | _::_,[],h,_=>absurd h (by simp)
 | d::ds,x::xs,hl,h=>.cons (h 0 d x rfl rfl) (Reps.of (by simpa using hl) fun i d v hd hv=>h (i + 1) d v (by simpa using hd) (by simpa using hv))
omit [Frm] in
theorem pK {H H':Hp} {rows:List (List V)} {Ts:List Addr} (l:Laid H rows Ts H'):Same H H' /\ ∀ (i:Nat) T r,Ts[i]? = some T->rows[i]? = some r->H' T=some (.tup r):=by
 induction l with
 | nil=>exact ⟨fun _ _ h=>h,fun i T r h=>by simp at h⟩
 | @snoc H1 rows Ts r T l hn ih =>
  have s1:Same H1 (upd H1 T (.tup r)):=lU hn
  refine ⟨fun b o h=>s1 b o (ih.1 b o h),fun i T' r' hT hr=>?_⟩
  have ln:=l.len
  rcases Nat.lt_or_ge i Ts.length with z | z
  ·rw [List.getElem?_append_left z] at hT
   rw [List.getElem?_append_left (by omega)] at hr
   exact s1 _ _ (ih.2 i T' r' hT hr)
  ·have hi:i=Ts.length:=by
    have:=cN hT
    simp at this
    omega
   subst hi
   rw [List.getElem?_append_right (Nat.le_refl _)] at hT
   rw [List.getElem?_append_right (by omega),ln] at hr
   simp at hT hr
   subst hT hr
   exact ao
def xQ (dss:List (List D)) (zs:List D):Prop:=(∃ l∈dss,zs.length=l.length) /\ (∀ l∈dss,zs.length <= l.length) /\ ∀ (i:Nat) d,zs[i]? = some d->∃ r:List D,d = .tup r /\ r.length=dss.length /\ ∀ (j:Nat) l,dss[j]? = some l->l[i]? = r[j]?
omit [Frm] in
theorem ux {K:PySem.W.Frag} {pp:Option Addr} {M:List Addr} {H H':Hp} {dss:List (List D)} {xss rows:List (List V)} {Ts:List Addr} {zs:List D} (hz:xQ dss zs) (hl:dss.length=xss.length) (hr:∀ (j:Nat) ds xs,dss[j]? = some ds->xss[j]? = some xs->Reps K pp M H ds xs)
  (ho:uw xss rows) (l:Laid H rows Ts H'):Reps K pp M H' zs (Ts.map V.ref):=by
 obtain ⟨⟨l0,hl0,e0⟩,hle,hrow⟩:=hz
 obtain ⟨hro,xs0,hx0,e1⟩:=ho
 obtain ⟨sm,hat⟩:=pK l
 have mv:Mv K pp M H M H':=(SameP.of sm).mv
 have lens:∀ (j:Nat) ds xs,dss[j]? = some ds->xss[j]? = some xs->ds.length=xs.length:=fun j ds xs h1 h2=>(hr j ds xs h1 h2).length
 have n1:zs.length <= rows.length:=by
  obtain ⟨j,hj⟩:=List.mem_iff_getElem?.mp hx0
  have lt:j < dss.length:=by rw [hl]; exact cN hj
  have:=lens j dss[j] xs0 (by simp [lt]) hj
  have:=hle dss[j] (List.getElem_mem lt)
  omega
 have n2:rows.length <= zs.length:=by
  obtain ⟨j,hj⟩:=List.mem_iff_getElem?.mp hl0
  have lt:j < xss.length:=by rw [← hl]; exact cN hj
  have h2:=lens j l0 xss[j] hj (by simp [lt])
  rcases Nat.eq_zero_or_pos rows.length with z | z
  ·omega
  ·have hlast:rows[rows.length - 1]? = some (rows[rows.length - 1]'(by omega)):=by simp
   obtain ⟨q1,q2⟩:=hro _ _ hlast
   have:=q2 j xss[j] (by simp [lt])
   rw [List.getElem?_eq_getElem (l:=rows[rows.length - 1]) (i:=j) (by rw [q1]; exact lt)] at this
   have:=cN this
   omega
 refine Reps.of (by rw [List.length_map,l.len]; omega) fun i d v hd hv=>?_
 rw [List.getElem?_map] at hv
 have hiT:i < Ts.length:=by rw [l.len]; have:=cN hd; omega
 rw [List.getElem?_eq_getElem hiT] at hv
 simp at hv
 subst hv
 have hir:i < rows.length:=by rw [← l.len]; exact hiT
 have hri:rows[i]? = some rows[i]:=by simp [hir]
 obtain ⟨r,rfl,r1,r2⟩:=hrow i d hd
 obtain ⟨q1,q2⟩:=hro i _ hri
 simp only [Rep]
 refine ⟨Ts[i],rows[i],rfl,hat i _ _ (by simp [hiT]) hri,Reps.of (by rw [r1,q1,hl]) fun j d v hd hv=>?_⟩
 have lt:j < dss.length:=by rw [← r1]; exact cN hd
 have lt':j < xss.length:=by rw [← hl]; exact lt
 have a1:=r2 j dss[j] (by simp [lt])
 have a2:=q2 j xss[j] (by simp [lt'])
 rw [hd] at a1
 rw [hv] at a2
 obtain ⟨v',e,rv⟩:=(hr j dss[j] xss[j] (by simp [lt]) (by simp [lt'])).get' a1
 rw [a2] at e
 cases e
 exact rv.mv mv
omit [Frm] in
theorem zg (xs ys:List D):xQ [xs,ys] (zipD xs ys):=by
 have L:=eK xs ys
 refine ⟨?_,fun l hl=>?_,fun i d h=>?_⟩
 ·rcases Nat.le_total xs.length ys.length with z | z
  ·exact ⟨xs,by simp,by omega⟩
  ·exact ⟨ys,by simp,by omega⟩
 ·simp only [List.mem_cons,List.not_mem_nil,or_false] at hl
  rcases hl with rfl | rfl <;> omega
 ·obtain ⟨x,y,h1,h2,rfl⟩:=ju xs ys i d h
  refine ⟨_,rfl,rfl,fun j l hj=>?_⟩
  rcases j with _ | _ | j <;> simp at hj <;> (subst hj; simpa)
section
variable {X:Cx}
end
end DL
namespace L2
open PySem PySem.Spec PyProof.Rows
section
variable {X:Cx}
theorem uy (f:Bool->Bool):∀ (bs:List Bool),(List.range bs.length).all (fun i=>f (bs.getD i false))=bs.all f:=by
 intro bs
 rw [Bool.eq_iff_iff]
 simp only [List.all_eq_true,List.mem_range]
 constructor
 ·intro h b hb
  obtain ⟨i,hi,e⟩:=List.mem_iff_getElem.mp hb
  have:=h i hi
  rw [List.getD_eq_getElem?_getD,List.getElem?_eq_getElem hi] at this
  subst e
  simpa using this
 ·intro h i hi
  have:=h bs[i] (List.getElem_mem hi)
  rw [List.getD_eq_getElem?_getD,List.getElem?_eq_getElem hi]
  simpa using this
theorem uz:∀ (bs:List Bool),(List.range bs.length).any (fun i=>bs.getD i false)=bs.any id:=by
 intro bs
 rw [Bool.eq_iff_iff]
 simp only [List.any_eq_true,List.mem_range]
 constructor
 ·rintro ⟨i,hi,h⟩
  rw [List.getD_eq_getElem?_getD,List.getElem?_eq_getElem hi] at h
  exact ⟨bs[i],List.getElem_mem hi,by simpa using h⟩
 ·rintro ⟨b,hb,h⟩
  obtain ⟨i,hi,e⟩:=List.mem_iff_getElem.mp hb
  refine ⟨i,hi,?_⟩
  rw [List.getD_eq_getElem?_getD,List.getElem?_eq_getElem hi]
  subst e
  simpa using h
theorem jZ {prog:Program} {w:World} {A:Around} {bs:List Bool} {its:List Value} (r:Vals (bs.map V.bl) its):TruthOf prog w A (fun i v=>its.toArray[i]? = some v) (fun i=>bs.getD i false):=by
 intro i v s Q E h q
 have h:its[i]? = some v:=by simpa using h
 have hi:i < bs.length:=by
  have:=r.length
  have:=cN h
  simp at *
  omega
 obtain ⟨u,hu,ru⟩:=r.get (i:=i) (x:=.bl bs[i]) (by simp [hi])
 rw [h] at hu
 cases hu
 cases ru
 have q:Q (bs.getD i false) s:=q
 rw [List.getD_eq_getElem?_getD,List.getElem?_eq_getElem hi] at q
 exact wpAny_truthy_bool q
theorem wB (hc:X.calm=true):dU X (.builtin "all") (fun xs H Q=>∃ (p:Addr) (bs:List Bool),xs=[.ref p] /\ SqL X.K H p (bs.map V.bl) /\ Q (.bl (bs.all id)) H):=by
 intro pins s σ H xs us Q I r h
 obtain ⟨p,bs,rfl,hl,q⟩:=h
 obtain ⟨u,rfl,e⟩:=jI r
 cases e
 obtain ⟨its,rv,pl,_⟩:=I.list hl
 have hlen:its.toArray.size=bs.length:=by have:=rv.length; simpa using this.symm
 have hne:p≠s.heap.objs.size:=by
  obtain ⟨o,ho,_⟩:=pl.isList
  exact Nat.ne_of_lt (Heap.lt_size ho)
 refine call_all_walk (wpAny_pyIter_list pl.isList ⟨s.heap.objs.size,_,_,_,_,_,_,rfl,Walks.list (A:=X.A.in1) (I.ok.hd hc) s.heap.objs.size p hne its.toArray,⟨⟨_,Heap.get?_push_size _ rfl,rfl,rfl⟩,pl.isList.push _⟩,jZ rv,fun h' tk hk=>⟨.bl (bs.all id),H,I.kept fun b o e=>hk b o ?_ (Heap.get?_push_of_some _ e),?_,q⟩⟩)
 ·intro hb
  have:b=s.heap.objs.size:=by simpa using hb
  exact absurd (Heap.lt_size e) (by rw [this]; exact Nat.lt_irrefl _)
 ·show Value.bool _=Value.bool _
  rw [hlen]
  have:=uy id bs
  simp only [id] at this ⊢
  rw [this]
theorem wC (hc:X.calm=true):dU X (.builtin "any") (fun xs H Q=>∃ (p:Addr) (bs:List Bool),xs=[.ref p] /\ SqL X.K H p (bs.map V.bl) /\ Q (.bl (bs.any id)) H):=by
 intro pins s σ H xs us Q I r h
 obtain ⟨p,bs,rfl,hl,q⟩:=h
 obtain ⟨u,rfl,e⟩:=jI r
 cases e
 obtain ⟨its,rv,pl,_⟩:=I.list hl
 have hlen:its.toArray.size=bs.length:=by have:=rv.length; simpa using this.symm
 have hne:p≠s.heap.objs.size:=by
  obtain ⟨o,ho,_⟩:=pl.isList
  exact Nat.ne_of_lt (Heap.lt_size ho)
 refine call_any_walk (wpAny_pyIter_list pl.isList ⟨s.heap.objs.size,_,_,_,_,_,_,rfl,Walks.list (A:=X.A.in1) (I.ok.hd hc) s.heap.objs.size p hne its.toArray,⟨⟨_,Heap.get?_push_size _ rfl,rfl,rfl⟩,pl.isList.push _⟩,jZ rv,fun h' tk hk=>⟨.bl (bs.any id),H,I.kept fun b o e=>hk b o ?_ (Heap.get?_push_of_some _ e),?_,q⟩⟩)
 ·intro hb
  have:b=s.heap.objs.size:=by simpa using hb
  exact absurd (Heap.lt_size e) (by rw [this]; exact Nat.lt_irrefl _)
 ·show Value.bool _=Value.bool _
  rw [hlen,uz]
end
end L2
namespace DL
open PySem PySem.Spec L2
open PyProof.Rows hiding St
variable [TB]
variable [Frm]
section
variable {X:Cx}
def pL:List D->Option (List Bool)
 | []=>some []
 | .bl b::r=>(pL r).map (b :: ·)
 | _=>none
theorem ou:∀ bs:List Bool,pL (bs.map D.bl)=some bs
 | []=>rfl
 | n::r=>by simp [pL,ou r]
theorem qM:∀ {ds:List D} {bs:List Bool},pL ds=some bs->ds=bs.map D.bl
 | [],ns,h=>by cases h; rfl
 | .bl i::r,ns,h=>by
  simp only [pL,Option.map_eq_some_iff] at h
  obtain ⟨ms,h,rfl⟩:=h
  rw [qM h]; rfl
theorem mi {K:PySem.W.Frag} {pp:Option Addr} {M:List Addr} {H:Hp}:∀ {ns:List Bool} {xs:List V},Reps K pp M H (ns.map D.bl) xs->xs=ns.map V.bl
 | [],xs,h=>by simpa only [List.map_nil,Reps] using h
 | n::r,xs,h=>by
  simp only [List.map_cons,Reps,Rep] at h
  obtain ⟨x,t,rfl,rfl,h⟩:=h
  rw [mi h]; rfl
def gTru (f:List Bool->Bool):DSp:=fun ds P=>match ds with
 | [.lst xs]=>match pL xs with
  | some bs=>P (.bl (f bs))
  | none=>False
 | _=>False
theorem mj {f:List Bool->Bool} {bs:List Bool} {P:D->Prop} (h:P (.bl (f bs))):gTru f [.lst (bs.map D.bl)] P:=by
 unfold gTru
 simp only [ou]
 exact h
theorem jx {f:List Bool->Bool} {ds:List D} {P:D->Prop} (h:gTru f ds P):∃ bs:List Bool,ds=[.lst (bs.map D.bl)] /\ P (.bl (f bs)):=by
 unfold gTru at h
 split at h
 ·rename_i xs
  cases e:pL xs with
  | none=>rw [e] at h; exact h.elim
  | some ns =>
   rw [e] at h
   exact ⟨ns,by rw [qM e],h⟩
 ·exact h.elim
theorem Bp (hc:X.calm=true:=by rfl):CallD X (.builtin "all") (gTru fun bs=>bs.all id):=by
 refine ⟨fun ds P P' f h=>?_,_,wB hc,fun {pp} M H ds vs Q _ r h=>?_⟩
 ·obtain ⟨ns,rfl,h2⟩:=jx h
  exact mj (f _ h2)
 ·obtain ⟨ns,rfl,h2⟩:=jx h
  simp only [Reps,Rep] at r
  obtain ⟨x,_,rfl,⟨a,ys,rfl,_,_,ha,ry⟩,rfl⟩:=r
  refine ⟨a,ns,rfl,SqL.of (by rw [ha,mi ry]),h2 H _ .refl cJ⟩
theorem Bq (hc:X.calm=true:=by rfl):CallD X (.builtin "any") (gTru fun bs=>bs.any id):=by
 refine ⟨fun ds P P' f h=>?_,_,wC hc,fun {pp} M H ds vs Q _ r h=>?_⟩
 ·obtain ⟨ns,rfl,h2⟩:=jx h
  exact mj (f _ h2)
 ·obtain ⟨ns,rfl,h2⟩:=jx h
  simp only [Reps,Rep] at r
  obtain ⟨x,_,rfl,⟨a,ys,rfl,_,_,ha,ry⟩,rfl⟩:=r
  refine ⟨a,ns,rfl,SqL.of (by rw [ha,mi ry]),h2 H _ .refl cJ⟩
theorem jy {x:Str} {pos:Pos} {i:Int} {t:Tok} (hg:Gl X x) (hm:X.mg x=some (.int i t)) (hd:(x == ("__debug__" : Str))=false:=by decide):PED X (.Name x pos) (dC (.int i)) :=
 .con (yk (v:=.int i) hg hm ⟨t,rfl⟩ hd) fun _ _ _=>by simp only [Rep]
end
end DL
namespace L2
open PySem PySem.Spec PyProof.Rows
section
variable {prog:Program} {w:World} {A:Around} {E:Value->Shared->Prop} {s:Shared}
theorem zh {elts:List Expr} {x1} {pos:Pos} {z TI TO T:Addr} {f0 f1:Value} {Q:Unit->Shared->Prop} (hf:OwnF f0) (hz:db s.heap z TI TO f0 f1)
  (hQ:∀ h' f0',OwnF f0'->db h' z TI TO f0' f1->Heap.SameBut z s.heap h'->Q () { s with heap:=h' }) :
  wpAny (model prog w) A (letOwnedTupleGo (.Tuple elts x1 pos) (.ref z) (.ref T)) Q E s:=by
 unfold letOwnedTupleGo
 refine wpAny_bind (wpAny_load hz ?_)
 show wpAny _ _ (if (["enumerate","zip","dict_itemiterator","dict_reverseitemiterator","odict_iterator","itertools.zip_longest","itertools.pairwise"].contains "zip" &&
   (#[f0,f1,.bool false,.ref TI,.ref TO]:Array Value)[0]? == some (rawInt T))=true then _ else _) Q E s
 split
 ·refine wpAny_bind (wpAny_rule ?_)
  show wpAny _ _ (setField (.ref z) 0 .none) Q E s
  exact wpAny_setField_rec hz (by simp) fun h' hz' hs'=>hQ h' .none (.inl rfl) hz' hs'
 ·exact wpAny_pure (hQ s.heap f0 hf hz (Heap.SameBut.refl _ _))
end
def fpZ (n m:Nat):List Addr:=(List.range (m + 3)).map (n + ·)
theorem fpZ_mem {n m b:Nat}:b∈fpZ n m↔n <= b /\ b < n + m + 3:=by
 unfold fpZ
 simp only [List.mem_map,List.mem_range]
 constructor
 ·rintro ⟨a,h1,h2⟩
  omega
 ·rintro ⟨h1,h2⟩
  exact ⟨b - n,by omega,by omega⟩
theorem uA {n m c:Nat} (h:c∈fpZ n m):c=n + m + 2∨c=n + m∨c=n + m + 1∨(c - n < m /\ n + (c - n)=c):=by
 have:=fpZ_mem.mp h
 omega
theorem pM {n m b:Nat} (h:b∉fpZ n m):b < n∨n + m + 2 < b:=by
 have:¬ (n <= b /\ b < n + m + 3):=fun z=>h (fpZ_mem.mpr z)
 omega
theorem Bs {n m b:Nat} (h:b∉fpZ n m):b≠n + m + 2:=by
 have:=pM h
 omega
section
variable {X:Cx}
end
end L2
namespace DL
open PySem PySem.Spec PyProof.Rows L2
variable [TB]
variable [Frm]
section
variable {X:Cx}
end
end DL
namespace DL
open PySem PySem.Spec L2
open PyProof.Rows hiding St
variable [TB]
variable [Frm]
mutual
def flD:D->Prop
 | .non=>True
 | .bl _=>True
 | .int _=>True
 | .str _=>True
 | .ty _=>True
 | .cls _=>True
 | .tup ds=>flDs ds
 | _=>False
def flDs:List D->Prop
 | []=>True
 | d::r=>flD d /\ flDs r
end
omit [Frm] in
mutual
theorem Rep.flat {K:PySem.W.Frag} {pp:Option Addr} {M M':List Addr} {H:Hp}:∀ (d:D) (v:V),flD d->Rep K pp M H d v->Rep K pp M' H d v
 | .non,_,_,h=>by simp only [Rep] at h ⊢; exact h
 | .bl _,_,_,h=>by simp only [Rep] at h ⊢; exact h
 | .int _,_,_,h=>by simp only [Rep] at h ⊢; exact h
 | .str _,_,_,h=>by simp only [Rep] at h ⊢; exact h
 | .ty _,_,_,h=>by simp only [Rep] at h ⊢; exact h
 | .cls _,_,_,h=>by simp only [Rep] at h ⊢; exact h
 | .tup ds,_,f,h=>by
  simp only [Rep] at h ⊢
  simp only [flD] at f
  obtain ⟨a,xs,e,ha,r⟩:=h
  exact ⟨a,xs,e,ha,Reps.flat ds xs f r⟩
 | .lst _,_,f,_=>by simp only [flD] at f
 | .dK _ _,_,f,_=>by simp only [flD] at f
 | .dT _ _,_,f,_=>by simp only [flD] at f
 | .pen,_,f,_=>by simp only [flD] at f
 | .exc _,_,f,_=>by simp only [flD] at f
 | .exa _ _,_,f,_=>by simp only [flD] at f
theorem Reps.flat {K:PySem.W.Frag} {pp:Option Addr} {M M':List Addr} {H:Hp}:∀ (ds:List D) (xs:List V),flDs ds->Reps K pp M H ds xs->Reps K pp M' H ds xs
 | [],xs,_,h=>by simp only [Reps] at h ⊢; exact h
 | d::ds,xs,f,h=>by
  simp only [Reps] at h ⊢
  simp only [flDs] at f
  obtain ⟨x,r,e,h1,h2⟩:=h
  exact ⟨x,r,e,Rep.flat d x f.1 h1,Reps.flat ds r f.2 h2⟩
end
section
variable {K:PySem.W.Frag} {F:Fx} {M:List Addr} {H:Hp} {σ:St} {ρ:DS}
omit [TB] [Frm] in
mutual
theorem RO.nt {pp:Option Addr}:∀ (q:O) (v:V) (A:List Addr),RO K pp M H q v A->∀ a∈A,∀ ps,H a≠some (.tbl ps)
 | .val d,v,A,h,a,ha=>by simp only [RO] at h; rw [h.1] at ha; simp at ha
 | .lst os,v,A,h,a,ha=>by
  simp only [RO] at h
  obtain ⟨b,xs,B,e,hb,rfl,r⟩:=h
  rcases List.mem_cons.mp ha with rfl | ha
  ·rw [hb]; intro _ z; cases z
  ·exact ROs.nt os xs B r a ha
 | .dct ks os,v,A,h,a,ha=>by
  simp only [RO] at h
  obtain ⟨b,kvs,B,e,hb,e2,rfl,r⟩:=h
  rcases List.mem_cons.mp ha with rfl | ha
  ·rw [hb]; intro _ z; cases z
  ·exact ROs.nt os _ B r a ha
 | .tup os,v,A,h,a,ha=>by
  simp only [RO] at h
  obtain ⟨b,xs,e,hb,r⟩:=h
  exact ROs.nt os xs A r a ha
 | .dck ks os,v,A,h,a,ha=>by
  simp only [RO] at h
  obtain ⟨b,kvs,B,e,hb,e2,rfl,r⟩:=h
  rcases List.mem_cons.mp ha with rfl | ha
  ·rw [hb]; intro _ z; cases z
  ·exact ROs.nt os _ B r a ha
theorem ROs.nt {pp:Option Addr}:∀ (os:List O) (xs:List V) (A:List Addr),ROs K pp M H os xs A->∀ a∈A,∀ ps,H a≠some (.tbl ps)
 | [],xs,A,h,a,ha=>by simp only [ROs] at h; rw [h.2] at ha; simp at ha
 | o::os,xs,A,h,a,ha=>by
  simp only [ROs] at h
  obtain ⟨x,r,B,C,e,rfl,h1,h2⟩:=h
  rcases List.mem_append.mp ha with ha | ha
  ·exact RO.nt o x B h1 a ha
  ·exact ROs.nt os r C h2 a ha
end
open Classical in
open Classical in
end
section
variable {X:Cx} {e:Expr} {st:Stmt}
end
section
variable {K:PySem.W.Frag} {pp:Option Addr} {M:List Addr} {H:Hp}
omit [Frm] in
mutual
theorem RO.live:∀ (q:O) (v:V) (A:List Addr),RO K pp M H q v A->∀ a∈A,H a≠none
 | .val d,v,A,h,a,ha=>by simp only [RO] at h; rw [h.1] at ha; simp at ha
 | .lst os,v,A,h,a,ha=>by
  simp only [RO] at h
  obtain ⟨b,xs,B,e,hb,rfl,r⟩:=h
  rcases List.mem_cons.mp ha with rfl | ha
  ·rw [hb]; intro z; cases z
  ·exact ROs.live os xs B r a ha
 | .dct ks os,v,A,h,a,ha=>by
  simp only [RO] at h
  obtain ⟨b,kvs,B,e,hb,e2,rfl,r⟩:=h
  rcases List.mem_cons.mp ha with rfl | ha
  ·rw [hb]; intro z; cases z
  ·exact ROs.live os _ B r a ha
 | .tup os,v,A,h,a,ha=>by
  simp only [RO] at h
  obtain ⟨b,xs,e,hb,r⟩:=h
  exact ROs.live os xs A r a ha
 | .dck ks os,v,A,h,a,ha=>by
  simp only [RO] at h
  obtain ⟨b,kvs,B,e,hb,e2,rfl,r⟩:=h
  rcases List.mem_cons.mp ha with rfl | ha
  ·rw [hb]; intro z; cases z
  ·exact ROs.live os _ B r a ha
theorem ROs.live:∀ (os:List O) (xs:List V) (A:List Addr),ROs K pp M H os xs A->∀ a∈A,H a≠none
 | [],xs,A,h,a,ha=>by simp only [ROs] at h; rw [h.2] at ha; simp at ha
 | o::os,xs,A,h,a,ha=>by
  simp only [ROs] at h
  obtain ⟨x,r,B,C,e,rfl,h1,h2⟩:=h
  rcases List.mem_append.mp ha with ha | ha
  ·exact RO.live o x B h1 a ha
  ·exact ROs.live os r C h2 a ha
end
omit [Frm] in
theorem ROs.vals:∀ {ds:List D} {xs:List V},Reps K pp M H ds xs->ROs K pp M H (ds.map O.val) xs []
 | [],xs,h=>by simp only [Reps] at h; simp only [List.map_nil,ROs]; exact ⟨h,trivial⟩
 | d::ds,xs,h=>by
  simp only [Reps] at h
  obtain ⟨x,r,rfl,h1,h2⟩:=h
  simp only [List.map_cons,ROs,RO]
  exact ⟨x,r,[],[],rfl,rfl,⟨rfl,h1⟩,ROs.vals h2⟩
end
section
variable {K:PySem.W.Frag} {F:Fx} {M:List Addr} {H:Hp} {σ:St} {ρ:DS} {i:Nat} {q q':O} {l:Addr} {xs ys:List V}
theorem RSt.newObj {M1:List Addr} {H1 H':Hp} {A:List Addr} {v:V} (r:RSt K F M1 H1 σ ρ) (s:SameP K F.pp H1 H') (hn:A.Nodup) (hA:∀ a∈A,H1 a=none /\ F.pp≠some a) (ro:RO K F.pp (A++M1) H' q v A) (i:Nat) :
  Mv K F.pp M1 H1 (A++M1) H' /\ RSt K F (A++M1) H' (σ.set i (some v)) (ρ.set i (.obj q)):=by
 have m1:Mv K F.pp M1 H1 M1 H':=s.mv
 have m:Mv K F.pp M1 H1 (A++M1) H':=by
  refine ⟨m1.tup,fun a o e n p=>⟨(m1.oth a o e n p).1,fun z=>?_⟩,m1.pen,m1.tb⟩
  rcases List.mem_append.mp z with z | z
  ·rw [(hA a z).1] at e; cases e
  ·exact n z
 have f0:∀ a∈A,F.H0 a=none:=fun a ha=>by
  cases e:F.H0 a with
  | none=>rfl
  | some o=>exact absurd (hA a ha).1 (r.same.live a (by rw [e]; intro z; cases z))
 refine ⟨m,⟨by simp [r.len],fun j t o h1 h2=>?_,r.ow.step m i (fun j e=>List.getElem?_set_ne (Ne.symm e)) (fun j e=>List.getElem?_set_ne (Ne.symm e)) (fun A0 _ _=>⟨A,fun t o e1 e2=>?_,fun b hb=>⟨List.mem_append.mpr (.inl hb),f0 b hb,(hA b hb).2,.inr fun z=>r.liv.m b z (hA b hb).1⟩,fun a ha p0 z0 _=>⟨List.mem_append.mpr (.inr ha),(s.ow (M:=M1) a ha p0 z0).2⟩⟩),fun a ha=>List.mem_append.mpr (.inr (r.sub a ha)),r.same.trans s.toSameQ,r.old,⟨fun a ha=>?_,fun p e=>s.live p (r.liv.p p e)⟩,r.lk.cl m⟩⟩
 ·by_cases e:i=j
  ·subst e
   rw [aN h1,aN h2]
   exact ⟨v,rfl⟩
  ·rw [List.getElem?_set_ne e] at h1 h2
   have q':=r.sl j t o h1 h2
   cases t with
   | nil=>trivial
   | val d=>obtain ⟨v,e,q⟩:=q'; exact ⟨v,e,q.mv m⟩
   | pin w d=>obtain ⟨v,e,ew,q⟩:=q'; exact ⟨v,e,ew,q.mv m⟩
   | own es =>
    obtain ⟨l',zs,rfl,hm',h0',hp',hl'',hr'⟩:=q'
    exact ⟨l',zs,rfl,List.mem_append.mpr (.inr hm'),h0',hp',(s.ow (M:=M1) l' hm' hp' h0').2 _ hl'' (by intro _ z; cases z),hr'.mv m⟩
   | obj q=>exact q'
 ·rw [aN e1,aN e2]
  exact ⟨hn,v,rfl,ro⟩
 ·rcases List.mem_append.mp ha with ha | ha
  ·exact RO.live q v A ro a ha
  ·exact s.live a (r.liv.m a ha)
end
section
variable {X:Cx} {st:Stmt} {rest:List Stmt} {t:DTS} {u:DTB} {e:Expr} {te:DE} {pos:Pos}
end
section
variable {X:Cx}
end
end DL
namespace L2
open PySem PySem.Spec PyProof.Rows
section
variable {X:Cx}
end
end L2
namespace DL
open PySem PySem.Spec L2
open PyProof.Rows hiding St
variable [TB]
variable [Frm]
section
variable {X:Cx}
end
section
variable {X:Cx}
end
end DL
namespace PySem
section
variable {prog:Program} {w:World} {K:Type} [DecidableEq K] {knd:HeapKind prog w K} {A:Around} {E:Value->Shared->Prop} {z:Shared}
theorem wD {c b:Addr} {ps:List (K×Addr×Value)} {q:K} {x:Value} {R:Value->Shared->Prop} (room:knd.room A) (isK:knd.is z.heap q b) (D:z.heap.DictOfH knd c ps) (few:ps.length <= sizeLine)
  (old:∀ p,atKey ps q=some p->R p.2 { z with toks:=z.toks + knd.draws q })
  (new:atKey ps q=none->∀ h2,h2.DictOfH knd c (storedH ps q b x)->Heap.SameBut c z.heap h2->R x { z with heap:=h2,toks:=z.toks + knd.draws q }) :
  wpAny (model prog w) A (dictSetDefault c (.ref b) x) R E z:=by
 obtain ⟨ob,en,ep,g1,g2,g3,g4,g5,g6⟩:=D
 unfold dictSetDefault
 try with_reducible refine wpAny_holding ?_
 refine wpAny_bind (knd.pyHash room isK ?_)
 refine wpAny_bind (wpAny_dictFind_heap (s:={ z with toks:=z.toks + knd.draws q }) room isK g1 g3 g4 g5 g6 (fun none_=>?_) (fun j p at_=>?_))
 ·have few2:en.size <= sizeLine:=by rw [size_of_entries g4]; exact few
  have a0:=atKey_none_of_get none_
  refine wpAny_bind (wpAny_rule (wpAny_bind (wpAny_updateDictKeys (hz:=few2) (s:={ z with toks:=z.toks + knd.draws q }) g1 g3 (wpAny_pure (new a0 _ ⟨_,_,ep + 1,Heap.get?_update_self _ g1 (Obj.isFreed_of_dict (Obj.data_mapDictKeys g3 _)),g2.mapDictKeys _,Obj.data_mapDictKeys g3 _,?_,?_,?_⟩ (Heap.SameBut.update ..))))))
  all_goals rw [storedH_new a0]
  ·simp [g4,entryOfKey]
  ·intro y hy
   rcases List.mem_append.mp hy with hy | hy
   ·exact knd.keeps (g5 y hy) g1 g3 (Heap.SameBut.update ..)
   ·rw [List.mem_singleton.mp hy]
    exact knd.keeps isK g1 g3 (Heap.SameBut.update ..)
  ·rw [List.map_append,List.map_singleton]
   refine List.nodup_append.mpr ⟨g6,List.nodup_cons.mpr ⟨by simp,List.nodup_nil⟩,fun y hy u hu e=>?_⟩
   have e:y=q:=by rw [List.mem_singleton.mp hu] at e; exact e
   subst e
   exact not_mem_keys_of_get none_ hy
 ·refine wpAny_bind (wpAny_dictEntries (s:={ z with toks:=z.toks + knd.draws q }) g1 g3 ?_)
  rw [entry_at g4 j,at_]
  exact wpAny_bind (wpAny_rule (wpAny_pure (old p (atKey_of_get g6 at_))))
theorem kM (knd:HeapKind prog w K) (c b:Addr) (x:Value) (plain:(c == sysModules)=false) :
  MeetsIn prog w (Builtin.«dict.setdefault» ⟨[.ref c,.ref b,x],[]⟩) (fun A R z=>knd.room A.in1 /\ ∃ q ps,knd.is z.heap q b /\ z.heap.DictOfH knd c ps /\ ps.length <= sizeLine /\
   (∀ p,atKey ps q=some p->R (.ok (.ret p.2)) { z with toks:=z.toks + knd.draws q }) /\
   (atKey ps q=none->∀ h2,h2.DictOfH knd c (storedH ps q b x)->Heap.SameBut c z.heap h2->R (.ok (.ret x)) { z with heap:=h2,toks:=z.toks + knd.draws q })) :=
 .of_wp fun A R z ⟨room,q,ps,isK,D,few,old,new⟩=>by
  unfold Builtin.«dict.setdefault»
  refine wpAny_bind ?_
  unfold Builtin.Dict.keyAndDefault
  refine wpAny_bind (wpAny_notOrdered_dict D.typeIs ?_)
  show wpAny _ _ (pure (c,Value.ref b,some x)) _ _ z
  refine wpAny_pure ?_
  show wpAny _ _ (if (c == sysModules)=true then _ else (dictSetDefault c (.ref b) x >>= _)) _ _ z
  rw [if_neg (by rw [plain]; exact Bool.false_ne_true)]
  exact wpAny_bind (wD room isK D few (fun p e=>wpAny_pure ⟨p.2,rfl,old p e⟩) fun e h2 D2 sb=>wpAny_pure ⟨x,rfl,new e h2 D2 sb⟩)
end
end PySem
namespace L2
open PySem PySem.Spec PyProof.Rows
section
variable {X:Cx}
def CQ:V->List V->Hp->VK->Prop:=fun x vs H Q=>∃ a kvs k b y,x = .ref a /\ vs=[.ref b,y] /\ H a=some (.dT kvs) /\ H b=some (.tup (k.map kV)) /\ kvs.length < sizeLine /\
 (∀ v,valV kvs k=some v->Q v H) /\ (valV kvs k=none->Q y (upd H a (.dT (putK kvs k y))))
theorem mq (hu:X.A.units + 1 < cLine):MtM X "dict.setdefault" CQ:=by
 intro pins s σ H x vs v us Q I rx rv h
 obtain ⟨a,kvs,k,b,y,rfl,rfl,e,eb,l,h1,h2⟩:=h
 cases rx
 cases rv with
 | cons r1 rr =>
  obtain ⟨u,rfl,ru⟩:=Vals.one rr
  cases r1
  obtain ⟨z,plain,xs,rel,dd⟩:=yG I.hok e
  have hz:xs.length <= sizeLine:=by rw [← Paired.length rel]; exact z
  have hl:(putK kvs k y).length <= sizeLine:=by have:=gh kvs k y; omega
  refine call_meetsIn F.slot_dict_setdefault dd.typeIs F.entry_dict_setdefault (F.args_dict_setdefault_3 _ _ _) (kM (tupleKind (ay X.prog X.w)) a b u plain) ⟨tupleKind_room_in1 hu,k,xs,kZ I.hok eb,dd,hz,fun p hp=>?_,fun hn h' dd' hs=>?_⟩
  ·have q:=rel.val k
   rw [hp] at q
   cases ev:valV kvs k with
   | none=>rw [ev] at q; exact q.elim
   | some v' =>
    rw [ev] at q
    exact ⟨v',H,I.tok _,q,h1 v' ev⟩
  ·have q:=rel.val k
   rw [hn] at q
   cases ev:valV kvs k with
   | some v'=>rw [ev] at q; exact q.elim
   | none =>
    obtain ⟨q,es,ep,hq,h2',h3,h4,_,h5⟩:=dd'
    refine ⟨y,_,pq (ob:=.dT (putK kvs k y)) I (by rw [e]; exact True.intro) hs ⟨q,hq⟩ ⟨hl,plain,_,(rel.put k eb ru).keeps fun c ys ec=>?_,q,es,ep,hq,h2',h3,h4,h5⟩,ru,h2 ev⟩
    rw [ak (kH ec e (fun z=>nomatch z))]
    exact ec
end
end L2
namespace L2
open PySem PySem.Spec PyProof.Rows PySem.W
def kRun {α:Type} (c:Nat->Nat->Bool):KasT α->α
 | .ret a=>a
 | .ask i j k=>kRun c (k (c i j))
def KGood {α:Type} (N:Nat) (P:α->Prop):KasT α->Prop
 | .ret a=>P a
 | .ask i j k=>(i < N /\ j < N) /\ ∀ b,KGood N P (k b)
theorem KGood.bind {α β:Type} {N:Nat} {P:α->Prop} {R:β->Prop} {f:α->KasT β} (hf:∀ a,P a->KGood N R (f a)):∀ (t:KasT α),KGood N P t->KGood N R (t.bind f)
 | .ret a,h=>hf a h
 | .ask i j k,h=>⟨h.1,fun b=>KGood.bind hf (k b) (h.2 b)⟩
theorem KGood.end {α:Type} {N:Nat} {P:α->Prop} (c:Nat->Nat->Bool):∀ (t:KasT α),KGood N P t->P (kRun c t)
 | .ret a,h=>h
 | .ask i j k,h=>KGood.end c (k (c i j)) (h.2 _)
theorem KGood.wp {α:Type} {N:Nat} {P:α->Prop} {c:Nat->Nat->Bool} {cmp:Nat->Nat->(Bool->Shared->Prop)->Shared->Prop} {s:Shared}
  (hc:∀ i j (C:Bool->Shared->Prop),i < N->j < N->C (c i j) s->cmp i j C s):∀ (t:KasT α) (Q:α->Shared->Prop),KGood N P t->Q (kRun c t) s->t.kasWp cmp Q s
 | .ret a,Q,_,q=>q
 | .ask i j k,Q,h,q=>hc i j _ h.1.1 h.1.2 (KGood.wp hc (k (c i j)) Q (h.2 _) q)
def PmN (N:Nat) (p:Array Nat):Prop:=p.toList.Perm (List.range N)
section
variable {N:Nat} {p:Array Nat}
theorem PmN.lt (h:PmN N p) (h0:0 < N) (i:Nat):p.getD i 0 < N:=by
 by_cases hi:i < p.size
 ·have e:p.getD i 0=p[i]:=by simp [Array.getD,hi]
  have hm:p[i]∈p.toList:=Array.mem_toList_iff.mpr (Array.getElem_mem hi)
  rw [e]
  exact List.mem_range.mp (h.mem_iff.mp hm)
 ·have e:p.getD i 0=0:=by simp [Array.getD,hi]
  rw [e]
  exact h0
theorem PmN.rev (h:PmN N p) (i j:Nat):PmN N (kas_rev p i j):=(Array.perm_iff_toList_perm.mp (mirror_perm _ _ _ _)).trans h
theorem PmN.bub (h:PmN N p) (i j:Nat):PmN N (bubble p i j):=(Array.perm_iff_toList_perm.mp (bubble_perm _ _ _)).trans h
theorem mt (h0:0 < N) (h:PmN N p):∀ (f n:Nat),KGood N (fun _=>True) (kas_asc p f n)
 | 0,n=>trivial
 | f + 1,n=>⟨⟨h.lt h0 _,h.lt h0 _⟩,fun b=>by
  dsimp only
  split
  ·trivial
  ·exact mt h0 h f (n + 1)⟩
theorem gY (h0:0 < N):∀ (f:Nat) (p:Array Nat) (n q:Nat),PmN N p->KGood N (fun r=>PmN N r.1) (kas_desc f p n q)
 | 0,p,n,q,h=>h
 | f + 1,p,n,q,h=>⟨⟨h.lt h0 _,h.lt h0 _⟩,fun b=>by
  dsimp only
  split
  ·split
   ·exact gY h0 f _ _ _ (h.rev _ _)
   ·exact gY h0 f _ _ _ h
  ·refine ⟨⟨h.lt h0 _,h.lt h0 _⟩,fun d=>?_⟩
   dsimp only
   split
   ·exact h
   ·exact gY h0 f _ _ _ h⟩
theorem lw (h0:0 < N) (h:PmN N p) (n m:Nat):KGood N (fun r=>PmN N r.2) (kas_tail3 n m p):=by
 unfold kas_tail3
 refine KGood.bind (N:=N) (P:=fun _=>True) (R:=fun (r:Nat×Array Nat)=>PmN N r.2) ?_ _ (mt h0 (h.rev 0 n) _ _)
 intro m _
 exact h.rev 0 n
theorem gZ (h0:0 < N) (h:PmN N p) (n m:Nat):KGood N (fun r=>PmN N r.2) (kas_descPart n m p):=KGood.bind (fun r hr=>by
 split
 ·exact lw h0 (hr.rev _ _) _ _
 ·exact lw h0 hr _ _) _ (gY h0 _ _ _ _ h)
theorem lx (h0:0 < N) (h:PmN N p) (m:Nat):KGood N (fun r=>PmN N r.2) (kas_count m p):=KGood.bind (fun n _=>by
 split
 ·exact h
 ·split
  ·refine ⟨⟨h.lt h0 _,h.lt h0 _⟩,fun b=>?_⟩
   dsimp only
   split
   ·exact h
   ·exact gZ h0 (h.rev _ _) _ _
  ·exact gZ h0 h _ _) _ (mt h0 h _ _)
theorem iH (h0:0 < N) (h:PmN N p) (k:Nat):∀ (f l r:Nat),KGood N (fun _=>True) (kas_place p k f l r)
 | 0,l,r=>trivial
 | f + 1,l,r=>by
  unfold kas_place
  split
  ·trivial
  ·refine ⟨⟨h.lt h0 _,h.lt h0 _⟩,fun b=>?_⟩
   dsimp only
   split
   ·exact iH h0 h k f _ _
   ·exact iH h0 h k f _ _
theorem qN (h0:0 < N):∀ (f:Nat) (p:Array Nat) (k:Nat),PmN N p->KGood N (PmN N) (kas_bin f p k)
 | 0,p,k,h=>h
 | f + 1,p,k,h=>KGood.bind (fun l _=>qN h0 f _ _ (h.bub _ _)) _ (iH h0 h k _ _ _)
theorem de (h0:0 < N):KGood N (PmN N) (kas_sort N):=by
 have hp:PmN N (List.toArray (List.range N)):=by unfold PmN; rw [List.toList_toArray]
 exact KGood.bind (fun r hr=>by
  split
  ·exact qN h0 _ _ _ hr
  ·exact hr) _ (lx h0 hp N)
end
def lexI:List Key->List Key->Bool
 | [],[]=>false
 | [],_::_=>true
 | _::_,[]=>false
 | .inl a::r,.inl b::r'=>if a=b then lexI r r' else decide (a < b)
 | _,_=>false
def srtK (ks:List (List Key)):List (List Key):=if ks.length < 2 then ks else (kRun (fun i j=>lexI (ks.getD i []) (ks.getD j [])) (kas_sort ks.length)).toList.map fun i=>ks.getD i []
theorem kc {α:Type} {xs:List α} {d:α} {is:List Nat} (h:is.Perm (List.range xs.length)):(is.map fun i=>xs.getD i d).Perm xs:=by
 refine (h.map _).trans ?_
 have:(List.range xs.length).map (fun i=>xs.getD i d)=xs:=by
  apply List.ext_getElem
  ·simp
  ·intro i h1 h2
   simp [h2]
 rw [this]
theorem hG (ks:List (List Key)):(srtK ks).Perm ks:=by
 unfold srtK
 split
 ·exact List.Perm.refl _
 ·exact kc (KGood.end _ _ (de (by omega)))
def isI (k:Key) (u:Value):Prop:=∃ i t,k = .inl i /\ u=Value.int i t
def TupI (h:Heap) (k:List Key) (v:Value):Prop:=∃ a o xs n,v = .ref a /\ h.get? a=some o /\ o.cls = .type "tuple" /\ o.data = .seq xs n /\ Paired isI k xs.toList
theorem fP {α β:Type} {R:α->β->Prop} {xs:List α} {ys:List β} (h:Paired R xs ys):xs.length=ys.length:=by
 induction h with
 | nil=>rfl
 | cons _ _ ih=>simp [ih]
section
variable {prog:Program} {w:World} {A:Around} {E:Value->Shared->Prop} {s:Shared} {b fin:Bool} {Q:Bool->Shared->Prop}
theorem Bt (o:Bool) {x y:Int} {t u:Tok} {Q:Bool->Shared->Prop} (h:Q (decide (x < y)) s):wpAny (model prog w) A (oneLt' o (.int x t) (.int y u)) Q E s:=by
 cases o with
 | true=>exact oneLt_int h
 | false=>exact kat_one _ _ (wpAny_lt_int h)
theorem qO:∀ {k1 k2:List Key} {xs ys:List Value} (i:Nat),Paired isI k1 xs->Paired isI k2 ys->fin=decide (xs.length < ys.length)->Q (lexI k1 k2) s->KatLex prog w A b fin Q (xs.zip ys) i s
 | _,_,_,_,i,.nil,.nil,e,q=>by
  subst e
  exact q
 | _,_,_,_,i,.nil,.cons _ _,e,q=>by
  subst e
  exact q
 | _,_,_,_,i,.cons _ _,.nil,e,q=>by
  subst e
  exact q
 | _,_,_,_,i,.cons h1 r1,.cons h2 r2,e,q=>by
  obtain ⟨x,t,rfl,rfl⟩:=h1
  obtain ⟨y,u,rfl,rfl⟩:=h2
  refine kat_cons (wpAny_eqBool_int ?_)
  by_cases z:x=y
  ·subst z
   have e1:(x == x)=true:=by simp
   rw [e1]
   refine kat_yes (qO (i + 1) r1 r2 (by rw [e]; simp) ?_)
   simpa [lexI] using q
  ·have e1:(x == y)=false:=by simpa using z
   rw [e1]
   refine kat_no (Bt _ ?_)
   simpa [lexI,z] using q
theorem zi {k1 k2:List Key} {v1 v2:Value} (h1:TupI s.heap k1 v1) (h2:TupI s.heap k2 v2) (q:Q (lexI k1 k2) s):wpAny (model prog w) A (keyLt' (tuples' b) v1 v2) Q E s:=by
 obtain ⟨x,ox,xs,n,rfl,hx,_,dx,px⟩:=h1
 obtain ⟨y,oy,ys,m,rfl,hy,_,dy,py⟩:=h2
 exact kat_lt hx dx hy dy (qO 0 px py (by simp) q)
end
def RawD (d:Addr) (es:Array DictEntry) (ep:Nat) (h:Heap):Prop:=∃ o,h.get? d=some o /\ o.ExactDict /\ o.data = .dict es ep
theorem RawD.type {d:Addr} {es:Array DictEntry} {ep:Nat} {s:Shared} (h:RawD d es ep s.heap):s.TypeIs (.ref d) "dict":=let ⟨o,e,x,_⟩:=h; ⟨o,e,x.1⟩
theorem RawD.keep {d:Addr} {es:Array DictEntry} {ep:Nat} {h h':Heap} (r:RawD d es ep h) (k:∀ o,h.get? d=some o->h'.get? d=some o):RawD d es ep h':=let ⟨o,e,x⟩:=r; ⟨o,k o e,x⟩
section
variable {prog:Program} {w:World} {A:Around} {E:Value->Shared->Prop} {s:Shared} {d it:Addr} {es:Array DictEntry} {ep i:Nat}
theorem wE {Q:Value->Shared->Prop} (lo:(d == sysModules)=false) (r:RawD d es ep s.heap)
  (q:Q (.ref s.heap.objs.size) { s with heap:=s.heap.push { cls:=.type "dict_keyiterator",data:=.fields #[.ref d,.int 0 0,.int es.size 0,.int ep 0] } }):wpAny (model prog w) A (pyIter (.ref d)) Q E s:=by
 have ty:=r.type
 obtain ⟨o,g1,_,g2⟩:=r
 refine wpAny_pyIter_slot ty F.slot_dict_iter (wpAny_call_entry F.slot_dict_iter ty F.entry_dict_iter ?_ (F.args_dict_iter_1 _))
 unfold Builtin.«dict.__iter__» Builtin.Dict.dictSlotNone
 refine wpAny_bind (wpAny_bind (wpAny_notOrdered_dict ty (wpAny_pure ?_)))
 unfold Builtin.Dict.showsAll
 show wpAny _ _ ((if (d == sysModules)=true then unsupported "sys.modules:all-start-up-values-wanted" else pure ()) >>= _) _ _ s
 rw [if_neg (by rw [lo]; exact Bool.false_ne_true)]
 refine wpAny_bind (wpAny_pure (wpAny_bind (wpAny_dictEntries g1 g2 (wpAny_bind (wpAny_dictEpoch g1 g2 ?_)))))
 exact wpAny_bind (wpAny_newObj_type (wpAny_pure ⟨_,rfl,"dict_keyiterator",_,⟨_,Heap.get?_push_size _ rfl,rfl⟩,F.slot_dict_keyiterator_next.lookup,q⟩))
theorem wF {n:Nat} {Q:Option Value->Shared->Prop} (hi:i < es.size) (en:es.size=n) (g:s.heap.IsKeyIter it d i n ep) (r:RawD d es ep s.heap)
  (q:∀ h',h'.IsKeyIter it d (i + 1) n ep->Heap.SameBut it s.heap h'->Q (some es[i].key) { s with heap:=h' }):wpAny (model prog w) A (pyNext (.ref it)) Q E s:=by
 subst en
 have ty:=g.typeIs
 obtain ⟨o,g1,g2,g3⟩:=g
 obtain ⟨od,r1,_,r2⟩:=r
 unfold pyNext
 refine wpAny_bind (wpAny_attempt (wpAny_callSpecial?_slot (name:=Str.ofString "__next__") ty F.slot_dict_keyiterator_next (wpAny_call_entry F.slot_dict_keyiterator_next ty F.entry_dict_keyiterator_next ?_ (F.args_dict_keyiterator_next_1 _))))
 refine wpAny_bind (wpAny_pure (wpAny_bind (wpAny_bind (wpAny_bind (wpAny_typeNameOfWhole_keyiter ty (wpAny_pure (wpAny_bind (wpAny_fieldsOf g1 g3 ?_))))))))
 simp only [show Builtin.Dict_items.ownsTuple "dict_keyiterator" = false by decide,Bool.false_eq_true,if_false]
 show wpAny _ _ (if (Value.ref d == Value.none)=true then _ else _) _ _ s
 rw [if_neg (show ¬ ((Value.ref d == Value.none)=true) from Bool.false_ne_true)]
 refine wpAny_bind (wpAny_pure (wpAny_bind (wpAny_dictEntries r1 r2 ?_)))
 rw [if_neg (by simp)]
 refine wpAny_bind (wpAny_pure (wpAny_bind (wpAny_dictEpoch r1 r2 ?_)))
 rw [if_neg (by simp)]
 refine wpAny_pure ?_
 simp only [show ¬ ((i:Int) < 0) from by omega,if_false,Int.toNat_natCast,Array.getElem?_eq_getElem hi]
 refine wpAny_bind (wpAny_bind (wpAny_typeNameOfWhole_keyiter ty (wpAny_pure (wpAny_bind (wpAny_isOneOf_keyiter ty ?_)))))
 show wpAny _ _ (setField (.ref it) 1 (rawInt ((i:Int) + 1)) >>= _) _ _ s
 refine wpAny_bind (wpAny_setField g1 g3 (by simp) ?_)
 have g':(s.heap.update it (Obj.mapFields (·.setIfInBounds 1 (rawInt ((i:Int) + 1))))).IsKeyIter it d (i + 1) es.size ep :=
  ⟨_,Heap.get?_update_self _ g1 (Obj.isFreed_of_fields (Obj.data_mapFields g3 _)),(Obj.cls_mapFields ..).trans g2,by rw [Obj.data_mapFields g3]; simp [rawInt]⟩
 refine wpAny_bind (wpAny_holding (wpAny_bind (wpAny_isOneOf_keyiter (s:={ s with heap:=s.heap.update it (Obj.mapFields (·.setIfInBounds 1 (rawInt ((i:Int) + 1)))) }) g'.typeIs ?_)))
 show wpAny _ _ (pure es[i].key) _ _ _
 exact wpAny_pure (wpAny_pure ⟨_,rfl,wpAny_pure (q _ g' (Heap.SameBut.update ..))⟩)
theorem zj {n:Nat} {Q:Option Value->Shared->Prop} (hh:A.handled=none) (hi:es.size <= i) (en:es.size=n) (g:s.heap.IsKeyIter it d i n ep) (r:RawD d es ep s.heap)
  (q:∀ h',Heap.ExtBut it s.heap h'->Q none { s with heap:=h' }):wpAny (model prog w) A (pyNext (.ref it)) Q E s:=by
 subst en
 have ty:=g.typeIs
 obtain ⟨o,g1,g2,g3⟩:=g
 obtain ⟨od,r1,_,r2⟩:=r
 unfold pyNext
 refine wpAny_bind (wpAny_attempt (wpAny_callSpecial?_slot (name:=Str.ofString "__next__") ty F.slot_dict_keyiterator_next (wpAny_call_entry F.slot_dict_keyiterator_next ty F.entry_dict_keyiterator_next ?_ (F.args_dict_keyiterator_next_1 _))))
 refine wpAny_bind (wpAny_pure (wpAny_bind (wpAny_bind (wpAny_bind (wpAny_typeNameOfWhole_keyiter ty (wpAny_pure (wpAny_bind (wpAny_fieldsOf g1 g3 ?_))))))))
 simp only [show Builtin.Dict_items.ownsTuple "dict_keyiterator" = false by decide,Bool.false_eq_true,if_false]
 show wpAny _ _ (if (Value.ref d == Value.none)=true then _ else _) _ _ s
 rw [if_neg (show ¬ ((Value.ref d == Value.none)=true) from Bool.false_ne_true)]
 refine wpAny_bind (wpAny_pure (wpAny_bind (wpAny_dictEntries r1 r2 ?_)))
 rw [if_neg (by simp)]
 refine wpAny_bind (wpAny_pure (wpAny_bind (wpAny_dictEpoch r1 r2 ?_)))
 rw [if_neg (by simp)]
 refine wpAny_pure ?_
 simp only [show ¬ ((i:Int) < 0) from by omega,if_false,Int.toNat_natCast,Array.getElem?_eq_none hi]
 refine wpAny_bind (wpAny_bind (wpAny_typeNameOfWhole_keyiter ty (wpAny_pure ?_)))
 show wpAny _ _ (setField (.ref it) 0 .none >>= _) _ _ s
 refine wpAny_bind (wpAny_setField g1 g3 (by simp) ?_)
 show wpAny _ _ (newExc (.type "StopIteration") [] >>= _) _ _ _
 refine wpAny_bind ?_
 simp only [newExc,newTuple]
 refine wpAny_bind (wpAny_newObj_type ?_ (by size_fits))
 refine wpAny_bind (m:=firstArgMember _ _) (wpAny_of_eq (a:=Value.none) (by first | rfl | (simp only [firstArgMember]; rfl)) ?_)
 refine wpAny_newObj_type ?_ (by size_fits)
 simp only [raiseNew]
 refine wpAny_bind (wpAny_handled ?_)
 rw [show A.in1.handled=none from hh]
 refine wpAny_bind (wpAny_pure (wpAny_throw ?_))
 refine wpAny_bind (wpAny_isInstance (T:="StopIteration") (b:=true) ⟨_,Heap.get?_push_size _ rfl,rfl⟩ isSubtype_stop ?_)
 exact wpAny_pure (q _ (((Heap.SameBut.update ..).extBut.push _).push _))
theorem zk (lo:(d == sysModules)=false) (es:Array DictEntry) (ep:Nat):KdlSrc prog w "dict" d d es.size (fun i v=>(es[i]?).map (·.key)=some v) (RawD d es ep) where
 type:=fun _ r=>r.type
 there:=fun _ ⟨_,e,_⟩=>⟨Heap.lt_size e,Heap.lt_size e⟩
 keep:=fun _ _ r k=>r.keep fun o e=>k d (.inl rfl) o e
 notList:=by decide
 notTuple:=by decide
 hint:=fun _ _ _ _ r q=>kdl_hint_dict r.type q
 iter:=fun A s hh r=>⟨_,fun i h=>h.IsKeyIter s.heap.objs.size d i es.size ep /\ RawD d es ep h,(fun _ _ q=>wE lo r q),{
  sub:=fun b hb=>by simp at hb; simp [hb]
  frame:=fun _ _ _ st k=>⟨st.1.at fun o e=>k _ (by simp) o e,st.2.keep fun o e=>k d (by simp) o e⟩
  item:=fun i s' Q E hi st q=>wF hi rfl st.1 st.2 fun h' g' sb=>by
   have ne:d≠s.heap.objs.size:=by
    obtain ⟨_,e,_⟩:=r
    exact Nat.ne_of_lt (Heap.lt_size e)
   refine q es[i].key h' s'.toks (by simp [hi]) ⟨g',st.2.keep fun o e=>(sb.2 d ne).trans e⟩ fun b o hb e=>?_
   have hb:b≠s.heap.objs.size:=by simpa using hb
   exact (sb.2 b hb).trans e
  done:=fun s' Q E st q=>zj hh (Nat.le_refl _) rfl st.1 st.2 fun h' eb=>q h' s'.toks fun b o hb e=>eb b o (by simpa using hb) e
  self:=fun _ _ _ _ st q=>wpAny_pyIter_keyiter st.1 q },⟨⟨_,Heap.get?_push_size _ rfl,rfl,rfl⟩,r.keep fun o e=>Heap.get?_push_of_some _ e⟩⟩
end
end L2
namespace L2
open PySem PySem.Spec PyProof.Rows PySem.W
section
variable {prog:Program} {w:World} {A:Around} {E:Value->Shared->Prop} {s:Shared}
theorem TupI.keep {h h':Heap} {k:List Key} {v:Value} {a:Addr} {xs:Array Value} {n:Nat} (t:TupI h k v) (ha:h.get? a=some (seqObj "list" xs n)) (kp:∀ b o,b≠a->h.get? b=some o->h'.get? b=some o):TupI h' k v:=by
 obtain ⟨b,o,ys,m,rfl,e,c,d,p⟩:=t
 refine ⟨b,o,ys,m,rfl,kp b o ?_ e,c,d,p⟩
 rintro rfl
 rw [ha] at e
 cases e
 simp [seqObj] at c
theorem eL {α β:Type} {R S:α->β->Prop} {xs:List α} {ys:List β} (h:Paired R xs ys) (f:∀ a b,R a b->S a b):Paired S xs ys:=by
 induction h with
 | nil=>exact .nil
 | cons h _ ih=>exact .cons (f _ _ h) ih
theorem iI {α β:Type} {R:α->β->Prop} {d:α} {e:β} {xs:List α} {ys:List β} (h:Paired R xs ys):∀ i,i < xs.length->R (xs.getD i d) (ys.getD i e):=by
 induction h with
 | nil=>intro i hi; simp at hi
 | cons h _ ih =>
  intro i hi
  cases i with
  | zero=>simpa using h
  | succ i=>simpa using ih i (by simpa using hi)
theorem kd {α β:Type} {R:α->β->Prop} {d:α} {e:β} {xs:List α} {ys:List β} (h:Paired R xs ys):∀ (is:List Nat),(∀ i∈is,i < xs.length)->Paired R (is.map fun i=>xs.getD i d) (is.map fun i=>ys.getD i e)
 | [],_=>.nil
 | i::is,hi=>.cons (iI h i (hi i List.mem_cons_self)) (kd h is fun j hj=>hi j (List.mem_cons_of_mem _ hj))
theorem xR {h:Heap}:∀ {ks:List (List Key)} {vs:List Value},Paired (TupI h) ks vs->(∀ k∈ks,k≠[])->∃ fs,KatTups h vs fs /\ fs.length=vs.length /\ ∀ v∈fs,∃ i t,v=Value.int i t
 | _,_,.nil,_=>⟨[],.nil,rfl,fun v hv=>by simp at hv⟩
 | k::ks,v::vs,.cons h1 r,ne=>by
  obtain ⟨fs,h2,h3,h4⟩:=xR r fun k hk=>ne k (List.mem_cons_of_mem _ hk)
  obtain ⟨a,o,xs,n,rfl,e,c,d,p⟩:=h1
  have hk:=ne k List.mem_cons_self
  generalize hxs:xs.toList=l at p
  cases p with
  | nil=>exact absurd rfl hk
  | @cons x u ks' us hx hr =>
   obtain ⟨i,t,rfl,rfl⟩:=hx
   refine ⟨Value.int i t::fs,.cons e c d ?_ h2,by simp [h3],fun v hv=>?_⟩
   ·rw [← Array.getElem?_toList,hxs]
    rfl
   ·rcases List.mem_cons.mp hv with rfl | hv
    ·exact ⟨i,t,rfl⟩
    ·exact h4 v hv
theorem oz {a:Addr} {vs:List Value} {ks:List (List Key)} {n:Nat} {P:PySem.Fin->Shared->Prop} (ho:s.heap.get? a=some (seqObj "list" vs.toArray n)) (hp:Paired (TupI s.heap) ks vs) (hne:2 <= ks.length->∀ k∈ks,k≠[]) (h64:vs.length < 64)
  (q:∀ (h':Heap) (out:List Value) (c:Nat),(∀ b o,b≠a->s.heap.get? b=some o->h'.get? b=some o)->h'.get? a=some (seqObj "list" out.toArray c)->(∀ R:List Key->Value->Prop,Paired R ks vs->Paired R (srtK ks) out)->P (.done (.ret .none)) { s with heap:=h' }) :
  wpAny (model prog w) A (Builtin.«list.sort» ⟨[.ref a],[]⟩) P E s:=by
 have hl:=fP hp
 have ha:a < s.heap.objs.size:=Heap.lt_size ho
 have sb:=Heap.SameBut.update s.heap a (Obj.mapSeq fun _=>(#[]:Array Value))
 obtain ⟨e1,ho1⟩:∃ e1,(s.heap.update a (Obj.mapSeq fun _=>(#[]:Array Value))).get? a=some (seqObj "list" #[] e1):=⟨_,get?_update_seq ho fun _=>#[]⟩
 rw [list_sort_plain]
 refine wpAny_bind (listItems_at ho rfl (wpAny_bind (listUpdate_at ho rfl ?_ (by rw [List.size_toArray,sizeLine_eq]; omega) (Nat.zero_le _))))
 refine wpAny_bind (seqEpoch_at ho1 rfl (wpAny_bind (wpAny_newTuple ?_ (by show vs.length <= _; rw [sizeLine_eq]; omega))))
 refine wpAny_bind (wpAny_newList (wpAny_holding ?_) (Nat.zero_le _))
 show wpAny (model prog w) A _ P E { s with heap:=((s.heap.update a (Obj.mapSeq fun _=>(#[]:Array Value))).push (seqObj "tuple" vs.toArray 0)).push (seqObj "list" #[] 0) }
 have kp:∀ b o,b≠a->s.heap.get? b=some o->(((s.heap.update a (Obj.mapSeq fun _=>(#[]:Array Value))).push (seqObj "tuple" vs.toArray 0)).push (seqObj "list" #[] 0)).get? b=some o:=fun b o hb e =>
  Heap.get?_push_of_some _ (Heap.get?_push_of_some _ ((sb.2 b hb).trans e))
 have ho3:(((s.heap.update a (Obj.mapSeq fun _=>(#[]:Array Value))).push (seqObj "tuple" vs.toArray 0)).push (seqObj "list" #[] 0)).get? a=some (seqObj "list" #[] e1):=Heap.get?_push_of_some _ (Heap.get?_push_of_some _ ho1)
 generalize ((s.heap.update a (Obj.mapSeq fun _=>(#[]:Array Value))).push (seqObj "tuple" vs.toArray 0)).push (seqObj "list" #[] 0)=h3 at kp ho3
 have hp3:Paired (TupI h3) ks vs:=eL hp fun k v t=>t.keep ho kp
 dsimp only
 have fin:∀ (st:SortSt) (out:List Value),(arrOf st).map (·.2)=out.toArray->failedOf st=none->out.length < 64->(∀ R:List Key->Value->Prop,Paired R ks vs->Paired R (srtK ks) out) ->
   wpAny (model prog w) A (do
    let touched:=(← seqEpoch a) != e1
    Builtin.List.listUpdate (.ref a) fun _=>(arrOf st).map (·.2)
    if let some e:=failedOf st then rule "list.sort.comparison-raised"; throw e
    if touched then rule "list.sort.modified"; raiseError "ValueError" "list modified during sort"
    ret .none) P E { s with heap:=h3 }:=by
  intro st out e f hz hR
  rw [e,f]
  refine wpAny_bind (seqEpoch_at ho3 rfl ?_)
  refine wpAny_bind (listUpdate_at ho3 rfl ?_ (Nat.zero_le _) (by show out.toArray.size <= _; rw [List.size_toArray,sizeLine_eq]; omega))
  simp only [bne_self_eq_false,Bool.false_eq_true,if_false]
  refine wpAny_pure (q _ out _ (fun b o hb e=>?_) (get?_update_seq ho3 fun _=>out.toArray) hR)
  exact ((Heap.SameBut.update h3 a (Obj.mapSeq fun _=>out.toArray)).2 b hb).trans (kp b o hb e)
 by_cases h2:vs.length < 2
 ·have hz:vs.toArray.size < 2:=by rw [List.size_toArray]; exact h2
  rw [if_pos hz,if_pos hz]
  refine wpAny_bind (wpAny_pure (wpAny_bind (wpAny_pure ?_)))
  refine fin _ vs ?_ rfl h64 fun R hR=>?_
  ·show (vs.toArray.zip vs.toArray).map (·.2)=vs.toArray
   apply Array.toList_inj.mp
   simp [List.map_snd_zip]
  ·unfold srtK
   rw [if_pos (by omega)]
   exact hR
 ·have hz:¬ vs.toArray.size < 2:=by rw [List.size_toArray]; exact h2
  rw [if_neg hz,if_neg hz]
  obtain ⟨fs,t1,t2,t3⟩:=xR hp3 (hne (by omega))
  refine wpAny_bind (kat_kind (s:={ s with heap:=h3 }) (T:=.type "int") t1 (by omega) (fun v hv=>?_) (by decide) ?_)
  ·obtain ⟨i,t,rfl⟩:=t3 v hv
   exact Looks.of_pure rfl
  ·refine wpAny_bind (wpAny_mono (kat_run (Q:=fun st' s'=>s'={ s with heap:=h3 } /\ (arrOf st').map (·.2)=List.toArray ((kRun (fun i j=>lexI (ks.getD i []) (ks.getD j [])) (kas_sort ks.length)).toList.map fun i=>vs.getD i Value.none) /\ failedOf st'=none) (G:=fun p s'=>s'={ s with heap:=h3 } /\ p=kRun (fun i j=>lexI (ks.getD i []) (ks.getD j [])) (kas_sort ks.length)) rfl (by omega) h64 (fun p st' s' a1 a2 a3 a4=>?_) ?_) (fun r s' hq=>?_) fun _ _ x=>x)
   ·obtain ⟨rfl,rfl⟩:=a4
    exact ⟨rfl,kat_snds rfl a2,a3⟩
   ·rw [← hl]
    refine KGood.wp (N:=ks.length) (P:=PmN ks.length) (fun i j C hi hj hC=>?_) _ _ (de (by omega)) ⟨rfl,rfl⟩
    show wpAny (model prog w) A (keyLt' _ (vs.getD i Value.none) (vs.getD j Value.none)) C (fun _ _=>False) _
    exact zi (s:={ s with heap:=h3 }) (iI hp3 i hi) (iI hp3 j hj) hC
   ·obtain ⟨⟨⟩,st'⟩:=r
    obtain ⟨rfl,e,f⟩:=hq
    refine fin st' _ e f ?_ fun R hR=>?_
    ·have:=(KGood.end (fun i j=>lexI (ks.getD i []) (ks.getD j [])) _ (de (N:=ks.length) (by omega))).length_eq
     rw [List.length_range] at this
     rw [List.length_map,this,hl]
     exact h64
    ·unfold srtK
     rw [if_neg (by omega)]
     refine kd hR _ fun i hi=>?_
     have:=KGood.end (fun i j=>lexI (ks.getD i []) (ks.getD j [])) _ (de (N:=ks.length) (by omega))
     exact List.mem_range.mp (this.mem_iff.mp hi)
end
end L2
namespace L2
open PySem PySem.Spec PyProof.Rows PySem.W
section
variable {X:Cx}
def wG (H:Hp) (k:List Key) (v:V):Prop:=∃ b,v = .ref b /\ H b=some (.tup (k.map kV))
def dA (k:List Key):Prop:=∀ x∈k,∃ i:Int,x = .inl i
theorem qP:∀ {k:List Key} {us:List Value},dA k->Vals (k.map kV) us->Paired isI k us
 | [],us,_,h=>by cases h; exact .nil
 | x::k,us,hi,h=>by
  obtain ⟨i,rfl⟩:=hi _ List.mem_cons_self
  rw [List.map_cons] at h
  cases h with
  | cons h1 h2 =>
   obtain ⟨t,rfl⟩:=(show ∃ t,_=Value.int i t from h1)
   exact .cons ⟨i,t,rfl,rfl⟩ (qP (fun y hy=>hi y (List.mem_cons_of_mem _ hy)) h2)
theorem Inv.tupI {pins:List (Addr×Obj)} {σ:St} {H:Hp} {s:Shared} {k:List Key} {b:Addr} (I:Inv X pins σ H s) (hi:dA k) (e:H b=some (.tup (k.map kV))):TupI s.heap k (.ref b):=by
 obtain ⟨_,its,r,o,h1,h2,n,h3⟩:=(show ObjOk X.prog X.w H s.heap b (.tup (k.map kV)) from I.hok b _ e)
 refine ⟨b,o,its.toArray,n,rfl,h1,?_,h3,?_⟩
 ·exact h2
 ·rw [List.toList_toArray]
  exact qP hi r
theorem pN {H:Hp}:∀ {ks:List (List Key)} {out:List Value},Paired (fun k v=>∃ b,v=Value.ref b /\ H b=some (.tup (k.map kV))) ks out->∃ bs,Paired (wG H) ks bs /\ Vals bs out
 | _,_,.nil=>⟨[],.nil,.nil⟩
 | _,_,.cons h r=>by
  obtain ⟨b,rfl,e⟩:=h
  obtain ⟨bs,h1,h2⟩:=pN r
  exact ⟨.ref b::bs,.cons ⟨b,rfl,e⟩ h1,.cons rfl h2⟩
theorem zl {H:Hp} {kvs:List (List Key×V)} {xs:List (List Key×Addr×Value)} (r:KT H kvs xs):Paired (fun k v=>∃ b,v=Value.ref b /\ H b=some (.tup (k.map kV))) (kvs.map (·.1)) (xs.map fun x=>Value.ref x.2.1):=by
 induction r with
 | nil=>exact .nil
 | @cons p q ps qs h t ih=>exact .cons ⟨q.2.1,rfl,h.2.1⟩ ih
theorem ly {α β:Type} {R:α->β->Prop} {xs:List α} {ys:List β} (h:Paired R xs ys):Paired (fun a b=>a∈xs /\ R a b) xs ys:=by
 induction h with
 | nil=>exact .nil
 | cons h _ ih=>exact .cons ⟨List.mem_cons_self,h⟩ (eL ih fun a b z=>⟨List.mem_cons_of_mem _ z.1,z.2⟩)
theorem sj (hc:X.calm=true):dU X (.builtin "sorted") (fun xs H Q=>∃ a kvs,xs=[.ref a] /\ H a=some (.dT kvs) /\ (∀ k∈kvs.map (·.1),dA k) /\ (2 <= kvs.length->∀ k∈kvs.map (·.1),k≠[]) /\ kvs.length < 64 /\
  ∀ l bs,H l=none->Paired (wG H) (srtK (kvs.map (·.1))) bs->Q (.ref l) (upd H l (.lst bs))):=by
 intro pins s σ H xs us Q I r h
 obtain ⟨a,kvs,rfl,e,hi,hne,h64,q⟩:=h
 obtain ⟨u,rfl,e2⟩:=jI r
 cases e2
 obtain ⟨z,lo,xs,rel,o,es,ep,g1,g2,g3,g4,g5,g6⟩:=yG I.hok e
 have hsz:es.size=xs.length:=size_of_entries g4
 have hxl:kvs.length=xs.length:=Paired.length rel
 refine Calls.call_function_entry kind_sorted plain_sorted entry_sorted (args_sorted1 _) ?_
 unfold Builtin.«sorted»
 refine wpAny_bind (m:=checkCount "sorted" 1 1 _) (wpAny_pure ?_)
 refine wpAny_bind (kdu_collect (zk lo es ep) (I.ok.hd hc) ⟨o,g1,g2,g3⟩ (by rw [sizeLine_eq]; omega) fun h' tk acc hk hI=>?_)
 have hacc:acc.toList=xs.map fun x=>Value.ref x.2.1:=by
  apply List.ext_getElem?
  intro i
  rw [Array.getElem?_toList]
  cases hx:xs[i]? with
  | none =>
   have h1:xs.length <= i:=by simpa using hx
   rw [List.getElem?_map,hx,Array.getElem?_eq_none (by rw [hI.1]; omega)]
   rfl
  | some x =>
   have h1:i < xs.length:=(List.getElem?_eq_some_iff.mp hx).1
   obtain ⟨v,hv⟩:∃ v,acc[i]? = some v:=⟨acc[i]'(by rw [hI.1]; omega),by simp [hI.1,hsz,h1]⟩
   have h2:(es[i]?).map (·.key)=some v:=hI.2 i v hv
   rw [entry_at g4 i,hx] at h2
   rw [hv,List.getElem?_map,hx]
   simpa [entryOfKey] using h2.symm
 rw [hacc]
 have I1:Inv X pins σ H { s with heap:=h',toks:=tk }:=I.kept hk
 refine wpAny_bind (wpAny_newList ?_ (by rw [List.length_map,sizeLine_eq]; omega))
 have hoL:(h'.push (seqObj "list" (xs.map fun x=>Value.ref x.2.1).toArray 0)).get? h'.objs.size=some (seqObj "list" (xs.map fun x=>Value.ref x.2.1).toArray 0):=Heap.get?_push_size _ rfl
 refine wpAny_bind (wpAny_holding (wpAny_call_entry slot_list_sort ⟨_,hoL,rfl⟩ entry_list_sort ?body (args_list_sort _)))
 case body =>
  have kk:=zl rel
  refine oz (s:={ s with heap:=h'.push (seqObj "list" (xs.map fun x=>Value.ref x.2.1).toArray 0),toks:=tk }) hoL (ks:=kvs.map (·.1)) (eL (ly kk) (S:=TupI _) fun k v z=>?_) (fun h2=>hne (by simpa using h2)) (by rw [List.length_map]; omega) fun h4 out c kp ho hR=>?_
  ·obtain ⟨hm,b,rfl,hb⟩:=z
   exact ((I1.kept (t':=tk) fun b o e=>Heap.get?_push_of_some _ e).tupI (hi k hm) hb)
  ·obtain ⟨bs,p1,p2⟩:=pN (hR _ kk)
   have hb:bs.length <= sizeLine:=by
    rw [← fP p1,(hG _).length_eq,List.length_map]
    exact z
   exact ⟨_,rfl,wpAny_pure ⟨_,rfl,.ref h'.objs.size,upd H h'.objs.size (.lst bs),I1.laid (o:=.lst bs) (fun b u e=>kp b u (Nat.ne_of_lt (Heap.lt_size e)) (Heap.get?_push_of_some _ e)) (Nat.le_refl _) ⟨hb,out,c,p2,ho⟩,rfl,q _ bs (I1.hok.fresh (Nat.le_refl _)) p1⟩⟩
end
end L2
namespace PySem
section
variable {prog:Program} {w:World} {A:Around} {E:Value->Shared->Prop} {s:Shared}
end
end PySem
namespace DL
open PySem PySem.Spec L2
open PyProof.Rows hiding St
variable [TB]
def Bu:HO->Prop
 | .lst _=>True
 | .dT _=>True
 | _=>False
section
variable {K:PySem.W.Frag} {pp:Option Addr} {M:List Addr} {H:Hp}
theorem Mv.writeX {l:Addr} {o u:HO} (hl:H l=some o) (ho:Bu o) (hm:l∈M) (hp:pp≠some l):Mv K pp M H M (upd H l u):=by
 refine ⟨fun a zs e=>by rw [ak (kH e hl (by rintro rfl; exact ho))]; exact e,fun a zs e n q=>⟨by rw [ak (by rintro rfl; exact n hm)]; exact e,n⟩,fun p e h=>?_,fun tb=>tb.upd hl (by rintro (⟨_,rfl⟩ | ⟨_,_,rfl⟩) <;> exact ho)⟩
 obtain ⟨a,ns,t,k,h⟩:=h
 refine ⟨a,ns,t,k,?_,?_,h.t0⟩
 ·rw [ak (by rintro rfl; exact hp e)]; exact h.lst
 ·rcases h.scr with ⟨o',e⟩ | e
  ·refine .inl ⟨o',?_⟩
   rw [ak (kH e hl (by rintro rfl; exact ho))]; exact e
  ·exact .inr e
end
def k1D:Key->D
 | .inl i=>.int i
 | .inr x=>.str x
def keyD (k:List Key):D:=.tup (k.map k1D)
theorem jz {K:PySem.W.Frag} {pp:Option Addr} {M:List Addr} {H:Hp}:∀ {k:List Key} {xs:List V},Reps K pp M H (k.map k1D) xs->xs=k.map kV
 | [],xs,h=>by simpa only [List.map_nil,Reps] using h
 | .inl i::r,xs,h=>by
  simp only [List.map_cons,k1D,Reps,Rep] at h
  obtain ⟨x,t,rfl,rfl,h⟩:=h
  rw [jz h]; rfl
 | .inr i::r,xs,h=>by
  simp only [List.map_cons,k1D,Reps,Rep] at h
  obtain ⟨x,t,rfl,rfl,h⟩:=h
  rw [jz h]; rfl
theorem my {K:PySem.W.Frag} {pp:Option Addr} {M:List Addr} {H:Hp}:∀ (k:List Key),Reps K pp M H (k.map k1D) (k.map kV)
 | []=>by simp only [List.map_nil,Reps]
 | .inl i::r=>by
  simp only [List.map_cons,k1D,kV,Reps,Rep]
  exact ⟨_,_,rfl,rfl,my r⟩
 | .inr i::r=>by
  simp only [List.map_cons,k1D,kV,Reps,Rep]
  exact ⟨_,_,rfl,rfl,my r⟩
theorem jA {K:PySem.W.Frag} {pp:Option Addr} {M:List Addr} {H:Hp} {k:List Key} {v:V} (h:Rep K pp M H (keyD k) v):∃ b,v = .ref b /\ H b=some (.tup (k.map kV)):=by
 simp only [keyD,Rep] at h
 obtain ⟨b,xs,rfl,hb,h⟩:=h
 rw [jz h] at hb
 exact ⟨b,rfl,hb⟩
theorem wH {K:PySem.W.Frag} {pp:Option Addr} {M:List Addr} {H:Hp} {k:List Key} {b:Addr} (h:H b=some (.tup (k.map kV))):Rep K pp M H (keyD k) (.ref b):=by
 simp only [keyD,Rep]
 exact ⟨b,_,rfl,h,my k⟩
section
variable {α β:Type}
def fY (ps:List (List Key×α)) (k:List Key):Option α:=(ps.find? fun p=>decide (p.1=k)).map (·.2)
def putA (ps:List (List Key×α)) (k:List Key) (x:α):List (List Key×α) :=
 if (ps.any fun p=>decide (p.1=k))=true then ps.map (fun p=>if p.1=k then (p.1,x) else p) else ps++[(k,x)]
abbrev PK (R:α->β->Prop):List (List Key×α)->List (List Key×β)->Prop:=Paired fun p q=>p.1=q.1 /\ R p.2 q.2
theorem PK.find {R:α->β->Prop} {ps:List (List Key×α)} {qs:List (List Key×β)} (h:PK R ps qs) (k:List Key):(fY ps k=none /\ fY qs k=none)∨∃ x y,fY ps k=some x /\ fY qs k=some y /\ R x y:=by
 induction h with
 | nil=>exact .inl ⟨rfl,rfl⟩
 | @cons p q ps qs h _ ih =>
  unfold fY at ih ⊢
  by_cases e:p.1=k
  ·have e':q.1=k:=h.1.symm.trans e
   refine .inr ⟨p.2,q.2,?_,?_,h.2⟩
   ·rw [List.find?_cons_of_pos (by simpa using e)]; rfl
   ·rw [List.find?_cons_of_pos (by simpa using e')]; rfl
  ·have e':¬ q.1=k:=fun z=>e (h.1.trans z)
   rw [List.find?_cons_of_neg (by simpa using e),List.find?_cons_of_neg (by simpa using e')]
   exact ih
theorem PK.any {R:α->β->Prop} {ps:List (List Key×α)} {qs:List (List Key×β)} (h:PK R ps qs) (k:List Key):(ps.any fun p=>decide (p.1=k))=qs.any fun p=>decide (p.1=k):=by
 induction h with
 | nil=>rfl
 | @cons p q ps qs h _ ih=>simp only [List.any_cons,ih,h.1]
theorem PK.put {R:α->β->Prop} {ps:List (List Key×α)} {qs:List (List Key×β)} (h:PK R ps qs) (k:List Key) {x:α} {y:β} (r:R x y):PK R (putA ps k x) (putA qs k y):=by
 unfold putA
 rw [h.any k]
 by_cases e:(qs.any fun p=>decide (p.1=k))=true
 ·rw [if_pos e,if_pos e]
  clear e
  induction h with
  | nil=>exact .nil
  | @cons p q ps qs h _ ih =>
   rw [List.map_cons,List.map_cons]
   refine .cons ?_ ih
   by_cases e:p.1=k
   ·rw [if_pos e,if_pos (h.1.symm.trans e)]; exact ⟨h.1,r⟩
   ·rw [if_neg e,if_neg (fun z=>e (h.1.trans z))]; exact h
 ·rw [if_neg e,if_neg e]
  exact Paired.snoc h ⟨rfl,r⟩
theorem PK.keys {R:α->β->Prop} {ps:List (List Key×α)} {qs:List (List Key×β)} (h:PK R ps qs):ps.map (·.1)=qs.map (·.1):=by
 induction h with
 | nil=>rfl
 | cons h _ ih=>simp only [List.map_cons,ih,h.1]
end
theorem mz (kvs:List (List Key×V)) (k:List Key):fY kvs k=valV kvs k:=rfl
section
variable {K:PySem.W.Frag} {pp:Option Addr} {M M':List Addr} {H H':Hp}
theorem zm:∀ {kds:List (List Key×D)} {kvs:List (List Key×V)},kvs.map (·.1)=kds.map (·.1)->Reps K pp M H (kds.map (·.2)) (kvs.map (·.2))->PK (Rep K pp M H) kds kvs
 | [],[],_,_=>.nil
 | [],_::_,h,_=>by simp at h
 | _::_,[],h,_=>by simp at h
 | p::ps,q::qs,h,r=>by
  simp only [List.map_cons,List.cons.injEq] at h
  simp only [List.map_cons,Reps] at r
  obtain ⟨x,t,e,r1,r2⟩:=r
  injection e with e1 e2
  subst e1 e2
  exact .cons ⟨h.1.symm,r1⟩ (zm h.2 r2)
theorem zn {kds:List (List Key×D)} {kvs:List (List Key×V)} (h:PK (Rep K pp M H) kds kvs):Reps K pp M H (kds.map (·.2)) (kvs.map (·.2)):=by
 induction h with
 | nil=>simp only [List.map_nil,Reps]
 | cons h _ ih=>exact .cons h.2 ih
theorem PK.imp {α β:Type} {R S:α->β->Prop} {ps:List (List Key×α)} {qs:List (List Key×β)} (h:PK R ps qs) (f:∀ a b,R a b->S a b):PK S ps qs:=by
 induction h with
 | nil=>exact .nil
 | cons h _ ih=>exact .cons ⟨h.1,f _ _ h.2⟩ ih
def dvO (kds:List (List Key×D)):O:=.dct (kds.map (·.1)) (kds.map fun p=>.val p.2)
theorem ro_dv {kds:List (List Key×D)} {v:V} {A:List Addr}:RO K pp M H (dvO kds) v A↔∃ a kvs,v = .ref a /\ H a=some (.dT kvs) /\ A=[a] /\ PK (Rep K pp M H) kds kvs:=by
 have vals:∀ {kds:List (List Key×D)} {xs:List V} {B:List Addr},ROs K pp M H (kds.map fun p=>O.val p.2) xs B->B=[] /\ Reps K pp M H (kds.map (·.2)) xs:=by
  intro kds
  induction kds with
  | nil=>intro xs B h; simp only [List.map_nil,ROs] at h; exact ⟨h.2,by simp only [List.map_nil,Reps]; exact h.1⟩
  | cons p ps ih =>
   intro xs B h
   simp only [List.map_cons,ROs,RO] at h
   obtain ⟨x,r,B1,C,rfl,rfl,⟨rfl,h1⟩,h2⟩:=h
   obtain ⟨rfl,h3⟩:=ih h2
   exact ⟨rfl,.cons h1 h3⟩
 constructor
 ·intro h
  simp only [dvO,RO] at h
  obtain ⟨a,kvs,B,rfl,ha,ek,rfl,r⟩:=h
  obtain ⟨rfl,r2⟩:=vals r
  exact ⟨a,kvs,rfl,ha,rfl,zm ek r2⟩
 ·rintro ⟨a,kvs,rfl,ha,rfl,r⟩
  simp only [dvO,RO]
  refine ⟨a,kvs,[],rfl,ha,r.keys.symm,rfl,?_⟩
  have:=ROs.vals (zn r)
  rw [List.map_map] at this
  exact this
def dlO (kls:List (List Key×List D)):O:=.dct (kls.map (·.1)) (kls.map fun p=>.lst (p.2.map .val))
def PL (K:PySem.W.Frag) (pp:Option Addr) (M:List Addr) (H:Hp):List (List Key×List D)->List (List Key×V)->List Addr->Prop
 | [],kvs,ls=>kvs=[] /\ ls=[]
 | p::ps,kvs,ls=>∃ l xs r t,kvs=(p.1,.ref l)::r /\ ls=l::t /\ H l=some (.lst xs) /\ Reps K pp M H p.2 xs /\ PL K pp M H ps r t
theorem wI {ds:List D} {xs:List V} {B:List Addr} (h:ROs K pp M H (ds.map O.val) xs B):B=[] /\ Reps K pp M H ds xs:=by
 induction ds generalizing xs B with
 | nil=>simp only [List.map_nil,ROs] at h; exact ⟨h.2,by simp only [Reps]; exact h.1⟩
 | cons d ds ih =>
  simp only [List.map_cons,ROs,RO] at h
  obtain ⟨x,r,B1,C,rfl,rfl,⟨rfl,h1⟩,h2⟩:=h
  obtain ⟨rfl,h3⟩:=ih h2
  exact ⟨rfl,.cons h1 h3⟩
theorem Bv:∀ {kls:List (List Key×List D)} {kvs:List (List Key×V)} {B:List Addr},kvs.map (·.1)=kls.map (·.1)->ROs K pp M H (kls.map fun p=>O.lst (p.2.map .val)) (kvs.map (·.2)) B->PL K pp M H kls kvs B
 | [],[],B,_,h=>by simp only [List.map_nil,ROs] at h; exact ⟨rfl,h.2⟩
 | [],_::_,_,h,_=>by simp at h
 | _::_,[],_,h,_=>by simp at h
 | p::ps,q::qs,B,e,h=>by
  simp only [List.map_cons,List.cons.injEq] at e
  simp only [List.map_cons,ROs,RO] at h
  obtain ⟨x,r,B1,C,e1,rfl,⟨l,xs,B2,rfl,hl,rfl,h1⟩,h2⟩:=h
  injection e1 with e2 e3
  subst e3
  obtain ⟨rfl,h3⟩:=wI h1
  exact ⟨l,xs,qs,C,by rw [← e.1,← e2],rfl,hl,h3,Bv e.2 h2⟩
theorem Bw:∀ {kls:List (List Key×List D)} {kvs:List (List Key×V)} {B:List Addr},PL K pp M H kls kvs B->kvs.map (·.1)=kls.map (·.1) /\ ROs K pp M H (kls.map fun p=>O.lst (p.2.map .val)) (kvs.map (·.2)) B
 | [],kvs,B,h=>by
  obtain ⟨rfl,rfl⟩:=h
  simp only [List.map_nil,ROs]
  exact ⟨trivial,trivial,trivial⟩
 | p::ps,kvs,B,h=>by
  obtain ⟨l,xs,r,t,rfl,rfl,hl,h1,h2⟩:=h
  obtain ⟨e,h3⟩:=Bw h2
  refine ⟨by simp only [List.map_cons,e],?_⟩
  simp only [List.map_cons,ROs,RO]
  exact ⟨.ref l,_,[l],t,rfl,rfl,⟨l,xs,[],rfl,hl,rfl,ROs.vals h1⟩,h3⟩
theorem ro_dl {kls:List (List Key×List D)} {v:V} {A:List Addr}:RO K pp M H (dlO kls) v A↔∃ a kvs ls,v = .ref a /\ H a=some (.dT kvs) /\ A=a::ls /\ PL K pp M H kls kvs ls:=by
 constructor
 ·intro h
  simp only [dlO,RO] at h
  obtain ⟨a,kvs,B,rfl,ha,ek,rfl,r⟩:=h
  exact ⟨a,kvs,B,rfl,ha,rfl,Bv ek r⟩
 ·rintro ⟨a,kvs,ls,rfl,ha,rfl,r⟩
  simp only [dlO,RO]
  obtain ⟨e,r⟩:=Bw r
  exact ⟨a,kvs,ls,rfl,ha,e,rfl,r⟩
end
end DL
namespace DL
open PySem PySem.Spec L2
open PyProof.Rows hiding St
variable [TB]
variable [Frm]
section
variable {K:PySem.W.Frag} {F:Fx} {M M':List Addr} {H H':Hp} {σ:St} {ρ:DS} {i:Nat} {q q':O}
theorem RSt.objStep (r:RSt K F M H σ ρ) (h:ρ[i]? = some (.obj q)) (m:Mv K F.pp M H M' H')
  (k:∀ v A,σ[i]? = some (some v)->A.Nodup->RO K F.pp M H q v A->(∀ a∈A,a∈M /\ F.H0 a=none /\ F.pp≠some a)->∃ A',A'.Nodup /\ RO K F.pp M' H' q' v A' /\ (∀ b∈A',b∈M' /\ F.H0 b=none /\ F.pp≠some b /\ (b∈A∨b∉M)) /\
   ∀ a,a∈M->F.pp≠some a->F.H0 a=none->a∉A->a∈M' /\ ∀ x,H a=some x->NT x->H' a=some x)
  (sub:∀ a∈F.M0,a∈M') (same:SameQ K F.pp F.H0 H') (liv:Lv0 F.pp M' H'):RSt K F M' H' σ (ρ.set i (.obj q')):=by
 obtain ⟨v,A,ho,nd,hq,hA,hoth⟩:=r.objAt h
 obtain ⟨_,_,_,_,ke⟩:=k v A ho nd hq hA
 refine ⟨by simp [r.len],fun j s o h1 h2=>?_,r.ow.step m i (fun _ _=>rfl) (fun j e=>List.getElem?_set_ne (Ne.symm e)) (fun A1 hA1 hB1=>?_),sub,same,r.old,liv,r.lk.cl m⟩
 ·by_cases e:i=j
  ·subst e
   rw [ho] at h2
   rw [aN h1]
   cases h2
   exact ⟨v,rfl⟩
  ·rw [List.getElem?_set_ne e] at h1
   have q':=r.sl j s o h1 h2
   cases s with
   | nil=>trivial
   | val d=>obtain ⟨v,e,q⟩:=q'; exact ⟨v,e,q.mv m⟩
   | pin w d=>obtain ⟨v,e,ew,q⟩:=q'; exact ⟨v,e,ew,q.mv m⟩
   | own es =>
    obtain ⟨l',zs,rfl,hm',h0',hp',hl'',hr'⟩:=q'
    have nl:l'∉A:=hoth j _ _ (Ne.symm e) h1 h2 _ ⟨es,rfl⟩ rfl
    obtain ⟨k1,k2⟩:=ke l' hm' hp' h0' nl
    exact ⟨l',zs,rfl,k1,h0',hp',k2 _ hl'' (by intro _ z; cases z),hr'.mv m⟩
   | obj q=>exact q'
 ·obtain ⟨nd1,v1,e1,hq1⟩:=hA1 _ _ h ho
  cases e1
  obtain ⟨A',nd',ro,hb,ha⟩:=k v A1 ho nd1 hq1 hB1
  refine ⟨A',fun s o e1 e2=>?_,hb,ha⟩
  rw [ho] at e2
  cases e2
  rw [aN e1]
  exact ⟨nd',v,rfl,ro⟩
theorem Lv0.upd {pp:Option Addr} {l:Addr} {o:HO} (h:Lv0 pp M H):Lv0 pp M (L2.upd H l o):=by
 refine ⟨fun a ha=>?_,fun p e=>?_⟩
 ·by_cases z:a=l
  ·subst z; rw [ao]; intro z; cases z
  ·rw [ak z]; exact h.m a ha
 ·by_cases z:p=l
  ·subst z; rw [ao]; intro z; cases z
  ·rw [ak z]; exact h.p p e
theorem RSt.sameW {l:Addr} {o:HO} (r:RSt K F M H σ ρ) (h0:F.H0 l=none) (m:Mv K F.pp M H M' (L2.upd H l o)):SameQ K F.pp F.H0 (L2.upd H l o):=by
 refine ⟨fun b o e n=>?_,fun p e h=>m.pen p e (r.same.pen p e h),fun b e=>?_⟩
 ·rw [ak (by rintro rfl; rw [h0] at e; cases e)]
  exact r.same.keep b o e n
 ·by_cases z:b=l
  ·subst z; rw [ao]; intro z; cases z
  ·rw [ak z]; exact r.same.live b e
end
section
variable {X:Cx}
def Bx:Sl->Prop
 | .obj _=>True
 | _=>False
omit [Frm] in
theorem wJ {s:Sl} (h:Bx s):∃ q,s = .obj q:=by
 cases s <;> first | exact ⟨_,rfl⟩ | exact h.elim
abbrev CS (i:Nat):DTS:=fun E ρ=>E.nx (ρ.set i (.obj (.dct [] [])))
theorem pO {i:Nat} {y:Str} {py dpos pos:Pos} (hN:X.N.Nodup) (hi:X.N[i]? = some y) (hx:Loc X.env.scope y) (hs:swapsWith (.Dict [] [] dpos) (some (.Name y py)) pos.line X.env=pure false:=by rfl)
  (hf:X.fn y=true∨X.env.scope.names.lookup y=some .local:=by first | exact .inl rfl | exact .inr rfl | assumption):PSD X (.Assign [.Name y py] (.Dict [] [] dpos) pos) (CS i):=by
 refine ⟨_,gJ hN hi hx wf hs hf,fun {F} M H σ ρ E D rs o q p hp=>?_⟩
 have lf:=rs.liv.fresh hp
 obtain ⟨m,rs2⟩:=rs.newObj (q:=.dct [] []) (A:=[p]) (v:=.ref p) (.new hp) (by simp) (fun a ha=>by rw [List.mem_singleton.mp ha]; exact ⟨hp,lf.2⟩) (by simp only [RO,ROs]; exact ⟨p,[],[],rfl,ao,rfl,rfl,rfl,rfl⟩) i
 exact o.nx _ _ _ _ m rs2 q
abbrev CT (i:Nat) (tk te:DE):DTS:=fun E ρ=>te ρ fun d ρ1=>Bx (slot ρ1 i) /\ tk ρ1 fun dk ρ2=>∃ kds k,slot ρ2 i = .obj (dvO kds) /\ dk=keyD k /\ kds.length < sizeLine /\ E.nx (ρ2.set i (.obj (dvO (putA kds k d))))
omit [Frm] in
theorem By {α β:Type} {R:α->β->Prop} {ps:List (List Key×α)} {qs:List (List Key×β)} (h:PK R ps qs):ps.length=qs.length:=fP h
theorem uB {i r:Nat} {o ek e:Expr} {pos' pos:Pos} {tk te:DE} (hr:Room r X.A) (ho:PE X o (tVar i)) (hk:PED X ek tk) (he:PED X e te) (hs:swapsWith e (some (.Subscript o ek pos')) pos.line X.env=pure false:=by rfl) :
  PSD X (.Assign [.Subscript o ek pos'] e pos) (CT i tk te):=by
 obtain ⟨Tk,pk,rk⟩:=hk.run
 obtain ⟨Te,pe,re⟩:=he.run
 refine ⟨_,yJ (by have:=hr.units; omega) ho pk pe hs,fun {F} M H σ ρ E D rs oo h=>re M H σ ρ _ rs (he.mono _ _ _ (fun d ρ1 h M1 H1 v m1 rs1 r1=>?_) h)⟩
 obtain ⟨q0,e0⟩:=wJ h.1
 obtain ⟨v0,_,hv0,_⟩:=rs1.objAt (aO e0 (by intro z; cases z))
 refine ⟨v0,hv0,rk M1 H1 σ ρ1 _ rs1 (hk.mono _ _ _ (fun dk ρ2 h M2 H2 y m2 rs2 r2=>?_) h.2)⟩
 obtain ⟨kds,k,es,rfl,hl,h⟩:=h
 obtain ⟨b,rfl,hb⟩:=jA r2
 have g:=aO es (by intro z; cases z)
 obtain ⟨v1,A,hv1,nd,hq,hA,_⟩:=rs2.objAt g
 rw [hv0] at hv1
 cases hv1
 obtain ⟨a,kvs,rfl,ha,rfl,pk⟩:=ro_dv.mp hq
 obtain ⟨am,a0,ap⟩:=hA a (by simp)
 have mw:Mv X.K F.pp M2 H2 M2 (upd H2 a (.dT (putK kvs k v))):=.writeX ha trivial am ap
 refine ⟨a,_,rfl,DPut.t ha hb (by rw [← By pk]; exact hl),oo.nx M2 _ σ _ ((m1.trans m2).trans mw) ?_ h⟩
 refine rs2.objStep g mw (fun v' A' hv' _ hq' hA'=>?_) rs2.sub (rs2.sameW a0 mw) rs2.liv.upd
 rw [hv0] at hv'
 cases hv'
 obtain ⟨a',kvs',e,ha',rfl,pk'⟩:=ro_dv.mp hq'
 cases e
 rw [ha] at ha'
 cases ha'
 refine ⟨[a],by simp,ro_dv.mpr ⟨a,_,rfl,ao,rfl,(pk'.imp fun x y z=>z.mv mw).put k ((r1.mv m2).mv mw)⟩,fun c hc=>?_,fun c hc _ _ hn=>⟨hc,fun x e _=>?_⟩⟩
 ·rw [List.mem_singleton.mp hc]
  exact ⟨am,a0,ap,.inl (by simp)⟩
 ·rw [ak (by rintro rfl; exact hn (by simp))]
  exact e
def Bz:Sl->Prop
 | .obj (.dct _ _)=>True
 | _=>False
omit [Frm] in
theorem wK {s:Sl} (h:Bz s):∃ ks os,s = .obj (.dct ks os):=by
 cases s with
 | obj q=>cases q with
  | dct ks os=>exact ⟨ks,os,rfl⟩
  | _=>exact h.elim
 | _=>exact h.elim
abbrev CU (i:Nat) (tk te:DE):DE:=fun ρ Q=>Bz (slot ρ i) /\ tk ρ fun dk ρ1=>te ρ1 fun d ρ2=>∃ kds k,slot ρ2 i = .obj (dvO kds) /\ dk=keyD k /\ Q ((fY kds k).getD d) ρ2
theorem zo {i r:Nat} {o ek e:Expr} {apos cpos:Pos} {tk te:DE} (hr:Room r X.A) (ho:PE X o (tVar i)) (hk:PED X ek tk) (he:PED X e te) (m:M2 X o "get" apos ek e cpos:=by exact ⟨rfl,rfl,rfl,rfl⟩) :
  PED X (.Call (.Attribute o "get" apos) [ek,e] [] cpos) (CU i tk te):=by
 obtain ⟨Tk,pk,rk⟩:=hk.run
 obtain ⟨Te,pe,re⟩:=he.run
 refine ⟨fun ρ P P' f h=>⟨h.1,hk.mono _ _ _ (fun dk ρ1 h=>he.mono _ _ _ (fun d ρ2 ⟨kds,k,h1,h2,h3⟩=>⟨kds,k,h1,h2,f _ _ h3⟩) h) h.2⟩,_,wg (by have:=hr.units; omega) ho pk pe m,fun {F} M H σ ρ Q rs h=>?_⟩
 obtain ⟨ks,os,e0⟩:=wK h.1
 obtain ⟨v0,A0,hv0,_,hq0,_⟩:=rs.objAt (aO e0 (by intro z; cases z))
 simp only [RO] at hq0
 obtain ⟨a,kvs0,B,rfl,ha0,_⟩:=hq0
 refine ⟨.ref a,hv0,a,rfl,.inr ⟨kvs0,.inl ha0⟩,?_⟩
 refine rk M H σ ρ _ rs (hk.mono _ _ _ (fun dk ρ1 h M1 H1 y m1 rs1 r1=>?_) h.2)
 refine re M1 H1 σ ρ1 _ rs1 (he.mono _ _ _ (fun d ρ2 h M2 H2 z m2 rs2 r2=>?_) h)
 obtain ⟨kds,k,es,ek,h9⟩:=h
 subst ek
 obtain ⟨b,rfl,hb⟩:=jA (r1.mv m2)
 have g:=aO es (by intro z; cases z)
 obtain ⟨v1,A,hv1,nd,hq,hA,_⟩:=rs2.objAt g
 rw [hv0] at hv1
 cases hv1
 obtain ⟨a',kvs,e,ha,rfl,pk⟩:=ro_dv.mp hq
 cases e
 refine ⟨_,DGet.t ha hb,h9 M2 H2 _ (m1.trans m2) rs2 ?_⟩
 rcases pk.find k with ⟨e1,e2⟩ | ⟨x,y,e1,e2,rr⟩
 ·rw [mz] at e2
  rw [e1,e2]
  exact r2
 ·rw [mz] at e2
  rw [e1,e2]
  exact rr
def gIxT:D->D->(D->Prop)->Prop:=fun x y P=>∃ (kds:List (List Key×D)) (k:List Key) (d:D),x = .dT (kds.map (·.1)) (kds.map (·.2)) /\ y=keyD k /\ fY kds k=some d /\ P d
theorem uC {r:Nat} {a b:Expr} {ta tb:DE} {pos:Pos} (hr:Room r X.A) (ha:PED X a ta) (hb:PED X b tb) (hs:NoSl b):PED X (.Subscript a b pos) (dOp gIxT ta tb):=by
 have gm:∀ x y P P',(∀ d,P d->P' d)->gIxT x y P->gIxT x y P':=fun x y P P' f ⟨kds,k,d,h1,h2,h3,h4⟩=>⟨kds,k,d,h1,h2,h3,f _ h4⟩
 obtain ⟨Ta,pa,ra⟩:=ha.run
 obtain ⟨Tb,pb,rb⟩:=hb.run
 refine ⟨gR gm ha hb,_,yI (by have:=hr.units; omega) pa pb hs,fun {F} M H σ ρ Q rs h=>?_⟩
 refine ra M H σ ρ _ rs (ha.mono _ _ _ (fun x ρ1 h M1 H1 v m1 rs1 r1=>?_) h)
 refine rb M1 H1 σ ρ1 _ rs1 (hb.mono _ _ _ (fun y ρ2 h M2 H2 u m2 rs2 r2=>?_) h)
 obtain ⟨kds,k,d,rfl,rfl,ef,h⟩:=h
 obtain ⟨b,rfl,hb⟩:=jA r2
 have r1:=r1.mv m2
 simp only [Rep] at r1
 obtain ⟨c,kvs,rfl,_,_,hc,ek,rr⟩:=r1
 rcases (zm ek rr).find k with ⟨e1,e2⟩ | ⟨x,y,e1,e2,rxy⟩
 ·rw [ef] at e1; cases e1
 ·rw [ef] at e1
  cases e1
  rw [mz] at e2
  exact ⟨c,y,rfl,e2 ▸ DGet.t hc hb,h M2 H2 y (m1.trans m2) rs2 rxy⟩
def uD:DSp:=fun ds P=>match ds with
 | [.dT ks _]=>((∀ k∈ks,dA k) /\ (2 <= ks.length->∀ k∈ks,k≠[]) /\ ks.length < 64) /\ P (.lst ((srtK ks).map keyD))
 | _=>False
omit [Frm] in
theorem oA {K:PySem.W.Frag} {pp:Option Addr} {M:List Addr} {H:Hp} {ks:List (List Key)} {bs:List V} (h:Paired (wG H) ks bs):Reps K pp M H (ks.map keyD) bs:=by
 induction h with
 | nil=>simp only [List.map_nil,Reps]
 | cons h _ ih =>
  obtain ⟨b,rfl,hb⟩:=h
  exact .cons (wH hb) ih
theorem mB (hc:X.calm=true:=by rfl):CallD X (.builtin "sorted") uD:=by
 refine ⟨fun ds P P' f h=>?_,_,sj hc,fun {pp} M H ds vs Q lv r h=>?_⟩
 ·unfold uD at h ⊢
  split at h
  ·exact ⟨h.1,f _ h.2⟩
  ·exact h.elim
 ·unfold uD at h
  split at h
  ·rename_i ks es
   obtain ⟨⟨h1,h2,h3⟩,h⟩:=h
   simp only [Reps,Rep] at r
   obtain ⟨x,t,rfl,⟨a,kvs,rfl,_,_,ha,rfl,_⟩,rfl⟩:=r
   rw [List.length_map] at h2 h3
   refine ⟨a,kvs,rfl,ha,h1,h2,h3,fun l bs hl hp=>h _ _ (.new hl) ?_⟩
   simp only [Rep]
   exact ⟨l,bs,rfl,(lv.fresh hl).1,(lv.fresh hl).2,ao,(oA hp).mv (.new hl)⟩
  ·exact h.elim
end
end DL
namespace L2
open PySem PySem.Spec PyProof.Rows
section
variable {X:Cx}
end
end L2
namespace DL
open PySem PySem.Spec L2
open PyProof.Rows hiding St
variable [TB]
variable [Frm]
section
variable {X:Cx}
end
section
variable {K:PySem.W.Frag} {pp:Option Addr} {M M':List Addr} {H H':Hp}
omit [Frm] in
theorem PL.mv (m:Mv K pp M H M' H'):∀ {kls:List (List Key×List D)} {kvs:List (List Key×V)} {ls:List Addr},(∀ b∈ls,∀ o,H b=some o->H' b=some o)->PL K pp M H kls kvs ls->PL K pp M' H' kls kvs ls
 | [],kvs,ls,_,h=>h
 | p::ps,kvs,ls,kp,h=>by
  obtain ⟨l,xs,r,t,rfl,rfl,hl,h1,h2⟩:=h
  exact ⟨l,xs,r,t,rfl,rfl,kp l List.mem_cons_self _ hl,h1.mv m,PL.mv m (fun b hb=>kp b (List.mem_cons_of_mem _ hb)) h2⟩
omit [Frm] in
theorem PL.snoc {k:List Key} {es:List D} {l:Addr} {xs:List V} (hl:H l=some (.lst xs)) (hr:Reps K pp M H es xs):∀ {kls:List (List Key×List D)} {kvs:List (List Key×V)} {ls:List Addr},PL K pp M H kls kvs ls->PL K pp M H (kls++[(k,es)]) (kvs++[(k,.ref l)]) (ls++[l])
 | [],kvs,ls,h=>by
  obtain ⟨rfl,rfl⟩:=h
  exact ⟨l,xs,[],[],rfl,rfl,hl,hr,rfl,rfl⟩
 | p::ps,kvs,ls,h=>by
  obtain ⟨l',xs',r,t,rfl,rfl,hl',h1,h2⟩:=h
  exact ⟨l',xs',r++[(k,.ref l)],t++[l],rfl,rfl,hl',h1,PL.snoc hl hr h2⟩
def kN (k:List Key) (d:D):List (List Key×List D)->List (List Key×List D)
 | []=>[(k,[d])]
 | p::r=>if p.1=k then (p.1,p.2++[d])::r else p::kN k d r
omit [Frm] in
theorem PL.add (k:List Key) (d:D):∀ {kls:List (List Key×List D)} {kvs:List (List Key×V)} {ls:List Addr},PL K pp M H kls kvs ls->ls.Nodup ->
  (valV kvs k=none /\ kN k d kls=kls++[(k,[d])])∨∃ l0 xs,valV kvs k=some (.ref l0) /\ l0∈ls /\ H l0=some (.lst xs) /\ (∃ p∈kls,p.1=k /\ p.2.length=xs.length) /\
   ∀ {M':List Addr} {H':Hp} {v:V},Mv K pp M H M' H'->Rep K pp M' H' d v->H' l0=some (.lst (xs++[v]))->(∀ b∈ls,b≠l0->∀ o,H b=some o->H' b=some o)->PL K pp M' H' (kN k d kls) kvs ls
 | [],kvs,ls,h,_=>by
  obtain ⟨rfl,rfl⟩:=h
  exact .inl ⟨rfl,rfl⟩
 | p::ps,kvs,ls,h,nd=>by
  obtain ⟨l,xs,r,t,rfl,rfl,hl,h1,h2⟩:=h
  obtain ⟨n1,n2⟩:=List.nodup_cons.mp nd
  by_cases e:p.1=k
  ·refine .inr ⟨l,xs,jr (p:=(p.1,V.ref l)) e,List.mem_cons_self,hl,⟨p,List.mem_cons_self,e,h1.length⟩,fun {M' H' v} m rd hv kp=>?_⟩
   unfold kN
   rw [if_pos e]
   exact ⟨l,_,r,t,rfl,rfl,hv,(h1.mv m).append (.one rd),PL.mv m (fun b hb=>kp b (List.mem_cons_of_mem _ hb) (by rintro rfl; exact n1 hb)) h2⟩
  ·rcases PL.add k d h2 n2 with ⟨a1,a2⟩ | ⟨l0,ys,a1,a2,a3,⟨p',a4,a5⟩,f⟩
   ·refine .inl ⟨by rw [gL (p:=(p.1,V.ref l)) e]; exact a1,?_⟩
    unfold kN
    rw [if_neg e,a2]
    rfl
   ·refine .inr ⟨l0,ys,by rw [gL (p:=(p.1,V.ref l)) e]; exact a1,List.mem_cons_of_mem _ a2,a3,⟨p',List.mem_cons_of_mem _ a4,a5⟩,fun {M' H' v} m rd hv kp=>?_⟩
    unfold kN
    rw [if_neg e]
    exact ⟨l,xs,r,t,rfl,rfl,kp l List.mem_cons_self (by rintro rfl; exact n1 a2) _ hl,h1.mv m,f m rd hv fun b hb=>kp b (List.mem_cons_of_mem _ hb)⟩
end
section
variable {X:Cx}
abbrev dSda (i jk ja:Nat):DTS:=fun E ρ=>∃ (kls:List (List Key×List D)) (k:List Key) (d:D),slot ρ i = .obj (dlO kls) /\ slot ρ jk = .val (keyD k) /\ slot ρ ja = .val d /\ kls.length < sizeLine /\ (∀ p∈kls,p.2.length < sizeLine) /\ E.nx (ρ.set i (.obj (dlO (kN k d kls))))
omit [Frm] in
theorem PL.len {K:PySem.W.Frag} {pp:Option Addr} {M:List Addr} {H:Hp}:∀ {kls:List (List Key×List D)} {kvs:List (List Key×V)} {ls:List Addr},PL K pp M H kls kvs ls->kls.length=kvs.length
 | [],kvs,ls,h=>by rw [h.1]; rfl
 | p::ps,kvs,ls,h=>by
  obtain ⟨l,xs,r,t,rfl,rfl,hl,h1,h2⟩:=h
  simp [PL.len h2]
theorem BA {i jk ja r:Nat} {o ek ea:Expr} {lp p1 p2 p3 p4 pos:Pos} (hr:Room r X.A) (ho:PE X o (tVar i)) (hk:PE X ek (tVar jk)) (ha:PE X ea (tVar ja))
  (b1:attributeBase o "setdefault" X.env (eval o X.env)=eval o X.env:=by rfl)
  (f1:((backTo p2 (starEach [ek,.List [] lp] X.env)).all (fun x=>!x.1) && (backToKw p2 (keywordEach [] X.env)).all (fun x=>x.1.isSome)
   && decide ([ek,.List [] lp].length + ([]:List Keyword).length + (if ([]:List Keyword).isEmpty then 0 else 1) < 30))=true:=by rfl)
  (l1:(p1.endLine == p2.line)=true:=by rfl) (s1:starEach [ek,.List [] lp] X.env=(false,eval ek X.env)::starEach [.List [] lp] X.env:=by rfl) (s1':starEach [.List [] lp] X.env=(false,eval (.List [] lp) X.env)::starEach [] X.env:=by rfl)
  (q1:(backTo p2 (starEach [.List [] lp] X.env)).any (·.1)=false:=by rfl)
  (b2:attributeBase (.Call (.Attribute o "setdefault" p1) [ek,.List [] lp] [] p2) "append" X.env (eval (.Call (.Attribute o "setdefault" p1) [ek,.List [] lp] [] p2) X.env)=eval (.Call (.Attribute o "setdefault" p1) [ek,.List [] lp] [] p2) X.env:=by rfl)
  (f2:((backTo p4 (starEach [ea] X.env)).all (fun x=>!x.1) && (backToKw p4 (keywordEach [] X.env)).all (fun x=>x.1.isSome)
   && decide ([ea].length + ([]:List Keyword).length + (if ([]:List Keyword).isEmpty then 0 else 1) < 30))=true:=by rfl)
  (l2:(p3.endLine == p4.line)=true:=by rfl) (s2:starEach [ea] X.env=(false,eval ea X.env)::starEach [] X.env:=by rfl) (q2:(backTo p4 (starEach [] X.env)).any (·.1)=false:=by rfl)
  (hs:swapsWith (.Call (.Attribute (.Call (.Attribute o "setdefault" p1) [ek,.List [] lp] [] p2) "append" p3) [ea] [] p4) none pos.line X.env=pure false:=by rfl) :
  PSD X (.Expr (.Call (.Attribute (.Call (.Attribute o "setdefault" p1) [ek,.List [] lp] [] p2) "append" p3) [ea] [] p4) pos) (dSda i jk ja):=by
 have hm:=yE PySem.F.plainAttrs_list PySem.F.slot_list_append PySem.F.type_list_append jK (yE PySem.F.plainAttrs_dict PySem.F.slot_dict_setdefault PySem.F.type_dict_setdefault (mq (X:=X) (by have:=hr.units; omega)) ho (bL hk (bL (tF (pos:=lp) dW) dW s1') s1) b1 f1 l1 s1 q1) (bL ha dW s2) b2 f2 l2 s2 q2
 refine ⟨_,oZ hm hs,fun {F} M H σ ρ E D rs oo h=>?_⟩
 obtain ⟨kls,k,d,e1,e2,e3,hlen,hlens,h9⟩:=h
 have g1:=aO e1 (by intro z; cases z)
 obtain ⟨v0,A,hv0,nd,hq,hA,_⟩:=rs.objAt g1
 obtain ⟨a,kvs,ls,rfl,hd,rfl,pl⟩:=ro_dl.mp hq
 obtain ⟨_,hk0,vk,rfl,rk⟩:=rs.at (aO e2 (by intro z; cases z))
 obtain ⟨_,ha0,va,rfl,ra⟩:=rs.at (aO e3 (by intro z; cases z))
 obtain ⟨b,rfl,hb⟩:=jA rk
 obtain ⟨am,a0,ap⟩:=hA a List.mem_cons_self
 obtain ⟨nd1,nd2⟩:=List.nodup_cons.mp nd
 refine ⟨.ref a,hv0,.inr (.inr (.inl ⟨rfl,.inr ⟨kvs,hd⟩⟩)),.ref b,hk0,Nat.zero_le _,fun l hl=>?_⟩
 have la:a≠l:=by rintro rfl; rw [hd] at hl; cases hl
 have lb:b≠l:=by rintro rfl; rw [hb] at hl; cases hl
 have lf:=rs.liv.fresh hl
 have hd1:upd H l (.lst []) a=some (.dT kvs):=by rw [ak la]; exact hd
 have mn:Mv X.K F.pp M H M (upd H l (.lst [])):=.new hl
 have rs1:RSt X.K F M (upd H l (.lst [])) σ ρ:=rs.sameP (.new hl)
 have f0:F.H0 l=none:=by
  cases e:F.H0 l with
  | none=>rfl
  | some o=>exact absurd hl (rs.same.live l (by rw [e]; intro z; cases z))
 refine ⟨a,kvs,k,b,.ref l,rfl,rfl,hd1,by rw [ak lb]; exact hb,by rw [← pl.len]; exact hlen,fun v hv=>?_,fun hn=>?_⟩
 ·rcases pl.add k d nd2 with ⟨a1,_⟩ | ⟨l0,xs,a1,a2,a3,⟨p',c1,c2,c3⟩,_⟩
  ·rw [hv] at a1; cases a1
  rw [hv] at a1
  cases a1
  obtain ⟨lm,l00,lp0⟩:=hA l0 (List.mem_cons_of_mem _ a2)
  have n0:l0≠l:=by rintro rfl; rw [hl] at a3; cases a3
  have hl1:upd H l (.lst []) l0=some (.lst xs):=by rw [ak n0]; exact a3
  have mw:Mv X.K F.pp M (upd H l (.lst [])) M (upd (upd H l (.lst [])) l0 (.lst (xs++[va]))):=.writeX hl1 trivial lm lp0
  have m:=mn.trans mw
  refine ⟨.inl ⟨rfl,xs,SqL.of hl1⟩,va,ha0,l0,xs,va,rfl,rfl,hl1,by rw [← c3]; exact hlens p' c1,oo.nx M _ σ _ m ?_ h9⟩
  refine rs.objStep g1 m (fun v' A' hv' nd' hq' hA'=>?_) rs.sub (rs1.sameW l00 mw) rs1.liv.upd
  rw [hv0] at hv'
  cases hv'
  obtain ⟨a',kvs',ls',e,hd',rfl,pl'⟩:=ro_dl.mp hq'
  cases e
  rw [hd] at hd'
  cases hd'
  obtain ⟨nd1',nd2'⟩:=List.nodup_cons.mp nd'
  rcases pl'.add k d nd2' with ⟨z,_⟩ | ⟨l0',xs',z1,z2,z3,_,f⟩
  ·rw [hv] at z; cases z
  rw [hv] at z1
  cases z1
  rw [a3] at z3
  cases z3
  have na:a≠l0:=by rintro rfl; exact nd1' z2
  have keep:∀ c x,c≠l0->H c=some x->upd (upd H l (.lst [])) l0 (.lst (xs++[va])) c=some x:=fun c x h1 h2=>by
   rw [ak h1,ak (by rintro rfl; rw [hl] at h2; cases h2)]
   exact h2
  refine ⟨a::ls',nd',ro_dl.mpr ⟨a,kvs,ls',rfl,keep a _ na hd,rfl,f m (ra.mv m) ao fun c _ h1 x h2=>keep c x h1 h2⟩,fun c hc=>⟨(hA' c hc).1,(hA' c hc).2.1,(hA' c hc).2.2,.inl hc⟩,fun c hc _ _ hn=>⟨hc,fun x e _=>keep c x (by rintro rfl; exact hn (List.mem_cons_of_mem _ z2)) e⟩⟩
 ·have hput:putK kvs k (.ref l)=kvs++[(k,.ref l)]:=by
   unfold putK
   rw [lP,hn]
   rfl
  rw [hput]
  have m1:Mv X.K F.pp M H (l::M) (upd H l (.lst [])):=.newOwn hl
  have m2:Mv X.K F.pp (l::M) (upd H l (.lst [])) (l::M) (upd (upd H l (.lst [])) a (.dT (kvs++[(k,.ref l)]))):=.writeX hd1 trivial (List.mem_cons_of_mem _ am) ap
  have m2':Mv X.K F.pp M (upd H l (.lst [])) M (upd (upd H l (.lst [])) a (.dT (kvs++[(k,.ref l)]))):=.writeX hd1 trivial am ap
  have hl2:upd (upd H l (.lst [])) a (.dT (kvs++[(k,.ref l)])) l=some (.lst []):=by rw [ak (Ne.symm la),ao]
  have m3:Mv X.K F.pp (l::M) (upd (upd H l (.lst [])) a (.dT (kvs++[(k,.ref l)]))) (l::M) (upd (upd (upd H l (.lst [])) a (.dT (kvs++[(k,.ref l)]))) l (.lst ([]++[va]))):=.writeX hl2 trivial List.mem_cons_self lf.2
  have m:=(m1.trans m2).trans m3
  have same2:=rs1.sameW a0 m2'
  have same3:SameQ X.K F.pp F.H0 (upd (upd (upd H l (.lst [])) a (.dT (kvs++[(k,.ref l)]))) l (.lst ([]++[va]))):=by
   refine ⟨fun c x e n=>?_,fun p e h=>m3.pen p e (same2.pen p e h),fun c e=>?_⟩
   ·rw [ak (by rintro rfl; rw [f0] at e; cases e)]
    exact same2.keep c x e n
   ·by_cases z:c=l
    ·subst z; rw [ao]; intro z; cases z
    ·rw [ak z]; exact same2.live c e
  have lv3:=(rs1.liv.upd (l:=a) (o:=.dT (kvs++[(k,.ref l)]))).upd (l:=l) (o:=.lst ([]++[va]))
  refine ⟨.inl ⟨rfl,[],SqL.of hl2⟩,va,ha0,l,[],va,rfl,rfl,hl2,by decide,oo.nx (l::M) _ σ _ m ?_ h9⟩
  refine rs.objStep g1 m (fun v' A' hv' nd' hq' hA'=>?_) (fun c hc=>List.mem_cons_of_mem _ (rs.sub c hc)) same3 ⟨fun c hc=>?_,lv3.p⟩
  ·rw [hv0] at hv'
   cases hv'
   obtain ⟨a',kvs',ls',e,hd',rfl,pl'⟩:=ro_dl.mp hq'
   cases e
   rw [hd] at hd'
   cases hd'
   obtain ⟨nd1',nd2'⟩:=List.nodup_cons.mp nd'
   have lls:l∉ls':=fun z=>lf.1 (hA' l (List.mem_cons_of_mem _ z)).1
   rcases pl'.add k d nd2' with ⟨_,z⟩ | ⟨l0',xs',z1,_⟩
   ·have keep:∀ c x,c≠a->c≠l->H c=some x->upd (upd (upd H l (.lst [])) a (.dT (kvs++[(k,.ref l)]))) l (.lst ([]++[va])) c=some x:=fun c x h1 h2 h3=>by
     rw [ak h2,ak h1,ak h2]
     exact h3
    have hal:upd (upd (upd H l (.lst [])) a (.dT (kvs++[(k,.ref l)]))) l (.lst ([]++[va])) a=some (.dT (kvs++[(k,.ref l)])):=by rw [ak la,ao]
    refine ⟨a::(ls'++[l]),?_,ro_dl.mpr ⟨a,_,ls'++[l],rfl,hal,rfl,?_⟩,fun c hc=>?_,fun c hc _ _ hn=>⟨List.mem_cons_of_mem _ hc,fun x e _=>keep c x (by rintro rfl; exact hn List.mem_cons_self) (by rintro rfl; exact lf.1 hc) e⟩⟩
    ·refine List.nodup_cons.mpr ⟨fun z=>?_,List.nodup_append.mpr ⟨nd2',by simp,fun x hx y hy e=>?_⟩⟩
     ·rcases List.mem_append.mp z with z | z
      ·exact nd1' z
      ·exact la (List.mem_singleton.mp z)
     ·rw [List.mem_singleton.mp hy] at e
      subst e
      exact lls hx
    ·rw [z]
     exact PL.snoc ao (.one (ra.mv m)) (pl'.mv m fun c hc x e=>keep c x (by rintro rfl; exact nd1' hc) (by rintro rfl; exact lls hc) e)
    ·rcases List.mem_cons.mp hc with rfl | hc
     ·exact ⟨List.mem_cons_of_mem _ am,a0,ap,.inl List.mem_cons_self⟩
     rcases List.mem_append.mp hc with hc | hc
     ·have:=hA' c (List.mem_cons_of_mem _ hc)
      exact ⟨List.mem_cons_of_mem _ this.1,this.2.1,this.2.2,.inl (List.mem_cons_of_mem _ hc)⟩
     ·rw [List.mem_singleton.mp hc]
      exact ⟨List.mem_cons_self,f0,lf.2,.inr lf.1⟩
   ·rw [hn] at z1; cases z1
  ·rcases List.mem_cons.mp hc with rfl | hc
   ·rw [ao]; intro z; cases z
   ·exact lv3.m c hc
end
end DL
namespace DL
open PySem PySem.Spec L2
open PyProof.Rows hiding St
variable [TB]
variable [Frm]
section
variable {K:PySem.W.Frag} {F:Fx} {M:List Addr} {H:Hp} {σ:St} {ρ:DS} {i:Nat}
end
section
variable {X:Cx}
end
end DL
namespace DL
open PySem PySem.Spec L2
open PyProof.Rows hiding St
variable [TB]
variable [Frm] {X:Cx} {st:Stmt}
end DL
namespace DL
open PySem PySem.Spec L2
open PyProof.Rows hiding St
variable [TB]
section
variable {P:Program} {w:World} {K:PySem.W.Frag} {mg:Str->Option Value} {base:Heap} {k:Nat} {f:Addr} {fd:FuncData} {ps:List Str} {n:Nat}
end
end DL
namespace DL
open PySem PySem.Spec L2
open PyProof.Rows hiding St
variable [TB]
section
variable {X:Cx}
end
end DL
namespace L2
open PySem PySem.Spec PyProof.Rows PySem.W
theorem ee {α β:Type} (c:Nat->Nat->Bool) (f:α->KasT β):∀ t:KasT α,kRun c (t.bind f)=kRun c (f (kRun c t))
 | .ret _=>rfl
 | .ask i j k=>ee c f (k (c i j))
structure StrO (N:Nat) (c:Nat->Nat->Bool):Prop where
 tr:∀ i j k,i < N->j < N->k < N->c i j=true->c j k=true->c i k=true
 as:∀ i j,i < N->j < N->c i j=true->c j i=false
 to:∀ i j,i < N->j < N->i≠j->c i j=false->c j i=true
section
variable {N:Nat} {c:Nat->Nat->Bool} {p:Array Nat}
theorem PmN.size (h:PmN N p):p.size=N:=by
 have:=h.length_eq
 simpa using this
theorem PmN.ne (h:PmN N p) {i j:Nat} (hi:i < N) (hj:j < N) (e:i≠j):p.getD i 0≠p.getD j 0:=by
 have nd:p.toList.Nodup:=h.nodup_iff.mpr List.nodup_range
 have s:=h.size
 have e1:p.getD i 0=p.toList[i]'(by simpa [s] using hi):=by simp [Array.getD,s,hi]
 have e2:p.getD j 0=p.toList[j]'(by simpa [s] using hj):=by simp [Array.getD,s,hj]
 rw [e1,e2]
 intro z
 exact e ((List.getElem_inj nd).mp z)
def Asc (c:Nat->Nat->Bool) (p:Array Nat) (n:Nat):Prop:=∀ i j,i < j->j < n->c (p.getD i 0) (p.getD j 0)=true
def Dsc (c:Nat->Nat->Bool) (p:Array Nat) (n:Nat):Prop:=∀ i j,i < j->j < n->c (p.getD j 0) (p.getD i 0)=true
theorem Asc.step (O:StrO N c) (h:PmN N p) {n:Nat} (hn:1 <= n) (hN:n < N) (a:Asc c p n) (e:c (p.getD n 0) (p.getD (n - 1) 0)=false):Asc c p (n + 1):=by
 have h0:0 < N:=by omega
 have last:c (p.getD (n - 1) 0) (p.getD n 0)=true:=O.to _ _ (h.lt h0 _) (h.lt h0 _) (h.ne hN (by omega) (by omega)) e
 intro i j hij hj
 by_cases z:j=n
 ·subst z
  by_cases y:i=j - 1
  ·subst y; exact last
  ·exact O.tr _ _ _ (h.lt h0 _) (h.lt h0 _) (h.lt h0 _) (a i (j - 1) (by omega) (by omega)) last
 ·exact a i j hij (by omega)
theorem Dsc.step (O:StrO N c) (h:PmN N p) {n:Nat} (hn:1 <= n) (hN:n < N) (a:Dsc c p n) (last:c (p.getD n 0) (p.getD (n - 1) 0)=true):Dsc c p (n + 1):=by
 have h0:0 < N:=by omega
 intro i j hij hj
 by_cases z:j=n
 ·subst z
  by_cases y:i=j - 1
  ·subst y; exact last
  ·exact O.tr _ _ _ (h.lt h0 _) (h.lt h0 _) (h.lt h0 _) last (a i (j - 1) (by omega) (by omega))
 ·exact a i j hij (by omega)
theorem pP (O:StrO N c) (h:PmN N p):∀ (f n:Nat),1 <= n->n + f <= N->Asc c p n->Asc c p (kRun c (kas_asc p f n)) /\ n <= kRun c (kas_asc p f n) /\ kRun c (kas_asc p f n) <= n + f /\ (kRun c (kas_asc p f n)=n + f∨c (p.getD (kRun c (kas_asc p f n)) 0) (p.getD (kRun c (kas_asc p f n) - 1) 0)=true)
 | 0,n,_,_,a=>⟨a,Nat.le_refl _,Nat.le_refl _,.inl rfl⟩
 | f + 1,n,hn,hN,a=>by
  have e0:kRun c (kas_asc p (f + 1) n)=kRun c (if c (p.getD n 0) (p.getD (n - 1) 0)=true then .ret n else kas_asc p f (n + 1)):=rfl
  cases e:c (p.getD n 0) (p.getD (n - 1) 0) with
  | true =>
   rw [e0,if_pos e]
   exact ⟨a,Nat.le_refl _,by show n <= _; omega,.inr e⟩
  | false =>
   rw [e0,if_neg (by rw [e]; intro z; cases z)]
   obtain ⟨b1,b2,b3,b4⟩:=pP O h f (n + 1) (by omega) (by omega) (a.step O h hn (by omega) e)
   refine ⟨b1,by omega,by omega,?_⟩
   rcases b4 with b4 | b4
   ·exact .inl (by omega)
   ·exact .inr b4
theorem qQ (O:StrO N c) (h:PmN N p):∀ (f n:Nat),1 <= n->n + f <= N->Dsc c p n->∃ m,kRun c (kas_desc f p n 0)=(p,m,0) /\ Dsc c p m /\ n <= m /\ m <= n + f
 | 0,n,_,_,a=>⟨n,rfl,a,Nat.le_refl _,Nat.le_refl _⟩
 | f + 1,n,hn,hN,a=>by
  have h0:0 < N:=by omega
  have e0:kRun c (kas_desc (f + 1) p n 0)=kRun c (if c (p.getD n 0) (p.getD (n - 1) 0)=true then (if 0 > 0 then kas_desc f (kas_rev p (n - (0 + 1)) n) (n + 1) 0 else kas_desc f p (n + 1) 0)
   else .ask (p.getD (n - 1) 0) (p.getD n 0) fun d=>if d=true then .ret (p,n,0) else kas_desc f p (n + 1) (0 + 1)):=rfl
  rw [e0]
  cases e:c (p.getD n 0) (p.getD (n - 1) 0) with
  | true =>
   rw [if_pos rfl,if_neg (by omega)]
   obtain ⟨m,b1,b2,b3,b4⟩:=qQ O h f (n + 1) (by omega) (by omega) (a.step O h hn (by omega) e)
   exact ⟨m,b1,b2,by omega,by omega⟩
  | false =>
   rw [if_neg (by intro z; cases z)]
   have last:c (p.getD (n - 1) 0) (p.getD n 0)=true:=O.to _ _ (h.lt h0 _) (h.lt h0 _) (h.ne (by omega) (by omega) (by omega)) e
   have e1:kRun c (.ask (p.getD (n - 1) 0) (p.getD n 0) fun d=>if d=true then .ret (p,n,0) else kas_desc f p (n + 1) (0 + 1))=kRun c (if c (p.getD (n - 1) 0) (p.getD n 0)=true then .ret (p,n,0) else kas_desc f p (n + 1) (0 + 1)):=rfl
   rw [e1,if_pos last]
   exact ⟨n,rfl,a,Nat.le_refl _,by omega⟩
theorem uE {p:Array Nat} {a b:Nat} (ha:a < p.size) (hb:b < p.size) (i:Nat):(p.swapIfInBounds a b).getD i 0=if i=a then p.getD b 0 else if i=b then p.getD a 0 else p.getD i 0:=by
 have e:∀ (q:Array Nat) (j:Nat),q.getD j 0=(q[j]?).getD 0:=fun q j=>by
  by_cases h:j < q.size <;> simp [Array.getD,h]
 rw [e,e,e,e,Array.swapIfInBounds_def,dif_pos ha,dif_pos hb,Array.getElem?_swap]
 by_cases h1:i=a
 ·subst h1
  by_cases h2:i=b
  ·subst h2; simp [hb]
  ·simp [h2,hb,Ne.symm h2]
 ·by_cases h2:i=b
  ·subst h2
   simp [h1,ha,hb]
  ·simp [h1,h2,Ne.symm h1,Ne.symm h2]
theorem qR {p:Array Nat} {k:Nat} (hk:k < p.size):∀ (d:Nat),d <= k->∀ i,(bubble p k d).getD i 0=if i=k - d then p.getD k 0 else if k - d < i /\ i <= k then p.getD (i - 1) 0 else p.getD i 0
 | 0,_,i=>by
  show p.getD i 0=_
  by_cases h:i=k
  ·subst h; simp
  ·rw [if_neg (by omega),if_neg (by omega)]
 | d + 1,hd,i=>by
  rw [bubble_succ,uE (by rw [bubble_size]; omega) (by rw [bubble_size]; omega),qR hk d (by omega),qR hk d (by omega),qR hk d (by omega)]
  by_cases h1:i=k - d
  ·rw [if_pos h1,if_neg (by omega),if_neg (by omega),if_neg (by omega),if_pos (by omega),show k - d - 1=i - 1 by omega]
  ·rw [if_neg h1]
   by_cases h2:i=k - d - 1
   ·rw [if_pos h2,if_pos rfl,if_pos (by omega)]
   ·rw [if_neg h2,if_neg h1,if_neg (show ¬ i=k - (d + 1) by omega)]
    by_cases h3:k - d < i /\ i <= k
    ·rw [if_pos h3,if_pos (by omega)]
    ·rw [if_neg h3,if_neg (by omega)]
theorem qS {p:Array Nat} {n:Nat} (hn:n <= p.size):∀ (d:Nat),d <= n / 2->∀ i,(mirror p 0 n d).getD i 0=if i < d∨(n - d <= i /\ i < n) then p.getD (n - 1 - i) 0 else p.getD i 0
 | 0,_,i=>by
  show p.getD i 0=_
  rw [if_neg (by omega)]
 | d + 1,hd,i=>by
  rw [mirror_succ,uE (by rw [mirror_size]; omega) (by rw [mirror_size]; omega),qS hn d (by omega),qS hn d (by omega),qS hn d (by omega)]
  by_cases h1:i=0 + d
  ·rw [if_pos h1,if_neg (by omega),if_pos (by omega),show n - 1 - d=n - 1 - i by omega]
  ·rw [if_neg h1]
   by_cases h2:i=n - 1 - d
   ·rw [if_pos h2,if_neg (by omega),if_pos (by omega),show n - 1 - i=0 + d by omega]
   ·rw [if_neg h2]
    by_cases h3:i < d∨(n - d <= i /\ i < n)
    ·rw [if_pos h3,if_pos (by omega)]
    ·rw [if_neg h3,if_neg (by omega)]
theorem xS {p:Array Nat} {n:Nat} (hn:n <= p.size) (i:Nat):(kas_rev p 0 n).getD i 0=if i < n then p.getD (n - 1 - i) 0 else p.getD i 0:=by
 unfold kas_rev
 rw [qS hn _ (by omega)]
 by_cases h:i < (n - 0) / 2∨(n - (n - 0) / 2 <= i /\ i < n)
 ·rw [if_pos h,if_pos (by omega)]
 ·rw [if_neg h]
  by_cases h2:i < n
  ·rw [if_pos h2,show n - 1 - i=i by omega]
  ·rw [if_neg h2]
theorem Dsc.rev {n:Nat} (h:PmN N p) (hn:n <= N) (a:Dsc c p n):Asc c (kas_rev p 0 n) n:=by
 intro i j hij hj
 have s:=h.size
 rw [xS (by omega),xS (by omega),if_pos (by omega),if_pos hj]
 exact a _ _ (by omega) (by omega)
theorem uF (O:StrO N c) (h:PmN N p) (h2:2 <= N):Asc c (kRun c (kas_count N p)).2 (kRun c (kas_count N p)).1 /\ 1 <= (kRun c (kas_count N p)).1 /\ (kRun c (kas_count N p)).1 <= N:=by
 obtain ⟨a1,a2,a3,a4⟩:=pP O h (N - 1) 1 (Nat.le_refl _) (by omega) (fun i j hij hj=>by omega)
 unfold kas_count
 rw [ee]
 generalize kRun c (kas_asc p (N - 1) 1)=n at a1 a2 a3 a4
 by_cases e1:(n == N)=true
 ·rw [if_pos e1]
  exact ⟨a1,a2,by show n <= N; omega⟩
 ·rw [if_neg e1]
  have nN:n≠N:=fun z=>e1 (by rw [z]; exact beq_self_eq_true _)
  by_cases e2:n > 1
  ·rw [if_pos e2]
   have e3:kRun c (.ask (p.getD 0 0) (p.getD (n - 1) 0) fun b=>if b=true then .ret (n,p) else kas_descPart n N (kas_rev p 0 n))=kRun c (if c (p.getD 0 0) (p.getD (n - 1) 0)=true then .ret (n,p) else kas_descPart n N (kas_rev p 0 n)):=rfl
   rw [e3,if_pos (a1 0 (n - 1) (by omega) (by omega))]
   exact ⟨a1,a2,by show n <= N; omega⟩
  ·rw [if_neg e2]
   have n1:n=1:=by omega
   subst n1
   have last:c (p.getD 1 0) (p.getD (1 - 1) 0)=true:=by
    rcases a4 with a4 | a4
    ·exact absurd a4 (by omega)
    ·exact a4
   have d2:Dsc c p (1 + 1):=Dsc.step O h (Nat.le_refl _) (by omega) (fun i j hij hj=>by omega) last
   unfold kas_descPart
   rw [ee]
   obtain ⟨m,b1,b2,b3,b4⟩:=qQ O h (N - (1 + 1)) (1 + 1) (by omega) (by omega) d2
   rw [b1]
   show Asc c (kRun c (if (0:Nat) > 0 then _ else kas_tail3 m N p)).2 _ /\ _
   rw [if_neg (by omega)]
   have mN:m <= N:=by omega
   unfold kas_tail3
   rw [ee]
   obtain ⟨c1,c2,c3,_⟩:=pP O (h.rev 0 m) (N - m) m (by omega) (by omega) (b2.rev h mN)
   exact ⟨c1,by show 1 <= kRun c _; omega,by show kRun c _ <= N; omega⟩
theorem kf (O:StrO N c) (h:PmN N p) {k:Nat} (hk:k < N) (a:Asc c p k):∀ (f l r:Nat),r - l <= f->l <= r->r <= k->(∀ i,i < l->c (p.getD i 0) (p.getD k 0)=true)->(∀ i,r <= i->i < k->c (p.getD k 0) (p.getD i 0)=true) ->
  (kRun c (kas_place p k f l r) <= k /\ (∀ i,i < kRun c (kas_place p k f l r)->c (p.getD i 0) (p.getD k 0)=true) /\ ∀ i,kRun c (kas_place p k f l r) <= i->i < k->c (p.getD k 0) (p.getD i 0)=true)
 | 0,l,r,hf,hlr,hr,h1,h2=>by
  show l <= k /\ _
  have:l=r:=by omega
  subst this
  exact ⟨hr,h1,h2⟩
 | f + 1,l,r,hf,hlr,hr,h1,h2=>by
  have h0:0 < N:=by omega
  unfold kas_place
  by_cases e:l ≥ r
  ·rw [if_pos e]
   have:l=r:=by omega
   subst this
   exact ⟨hr,h1,h2⟩
  ·rw [if_neg e]
   have e3:∀ (t u:KasT Nat),kRun c (.ask (p.getD k 0) (p.getD ((l + r) / 2) 0) fun b=>if b=true then t else u)=kRun c (if c (p.getD k 0) (p.getD ((l + r) / 2) 0)=true then t else u):=fun _ _=>rfl
   rw [e3]
   cases z:c (p.getD k 0) (p.getD ((l + r) / 2) 0) with
   | true =>
    rw [if_pos rfl]
    refine kf O h hk a f l ((l + r) / 2) (by omega) (by omega) (by omega) h1 fun i hi hik=>?_
    by_cases y:i=(l + r) / 2
    ·rw [y]; exact z
    ·exact O.tr _ _ _ (h.lt h0 _) (h.lt h0 _) (h.lt h0 _) z (a _ _ (by omega) hik)
   | false =>
    rw [if_neg (by intro z; cases z)]
    have z':c (p.getD ((l + r) / 2) 0) (p.getD k 0)=true:=O.to _ _ (h.lt h0 _) (h.lt h0 _) (h.ne hk (by omega) (by omega)) z
    refine kf O h hk a f ((l + r) / 2 + 1) r (by omega) (by omega) hr (fun i hi=>?_) h2
    by_cases y:i=(l + r) / 2
    ·rw [y]; exact z'
    ·exact O.tr _ _ _ (h.lt h0 _) (h.lt h0 _) (h.lt h0 _) (a i _ (by omega) (by omega)) z'
theorem Asc.bub (h:PmN N p) {k l:Nat} (hk:k < N) (a:Asc c p k) (hl:l <= k) (h1:∀ i,i < l->c (p.getD i 0) (p.getD k 0)=true) (h2:∀ i,l <= i->i < k->c (p.getD k 0) (p.getD i 0)=true):Asc c (bubble p k (k - l)) (k + 1):=by
 intro i j hij hj
 have s:=h.size
 have e:=qR (p:=p) (k:=k) (by omega) (k - l) (by omega)
 have el:k - (k - l)=l:=by omega
 rw [e i,e j,el]
 by_cases i1:i=l
 ·rw [if_pos i1,if_neg (by omega),if_pos (by omega)]
  exact h2 (j - 1) (by omega) (by omega)
 ·rw [if_neg i1]
  by_cases j1:j=l
  ·rw [if_pos j1,if_neg (by omega)]
   exact h1 i (by omega)
  ·rw [if_neg j1]
   by_cases i2:l < i /\ i <= k
   ·rw [if_pos i2,if_pos (by omega)]
    exact a _ _ (by omega) (by omega)
   ·rw [if_neg i2]
    by_cases j2:l < j /\ j <= k
    ·rw [if_pos j2]
     exact a _ _ (by omega) (by omega)
    ·rw [if_neg j2]
     exact a _ _ hij (by omega)
theorem uG (O:StrO N c):∀ (f:Nat) (p:Array Nat) (k:Nat),PmN N p->1 <= k->k + f=N->Asc c p k->Asc c (kRun c (kas_bin f p k)) N
 | 0,p,k,h,_,e,a=>by
  have:k=N:=by omega
  subst this
  exact a
 | f + 1,p,k,h,hk,e,a=>by
  unfold kas_bin
  rw [ee]
  obtain ⟨b1,b2,b3⟩:=kf O h (k:=k) (by omega) a k 0 k (by omega) (by omega) (Nat.le_refl _) (fun i hi=>by omega) (fun i hi hik=>by omega)
  exact uG O f _ (k + 1) (h.bub _ _) (by omega) (by omega) (a.bub h (by omega) b1 b2 b3)
theorem qT (O:StrO N c) (h2:2 <= N):Asc c (kRun c (kas_sort N)) N:=by
 have hp:PmN N (List.toArray (List.range N)):=by unfold PmN; rw [List.toList_toArray]
 unfold kas_sort
 rw [ee]
 obtain ⟨a1,a2,a3⟩:=uF O hp h2
 have pm:=KGood.end c _ (lx (N:=N) (by omega) hp N)
 generalize kRun c (kas_count N (List.toArray (List.range N)))=r at a1 a2 a3 pm
 by_cases e:r.1 < N
 ·rw [if_pos e]
  have em:max r.1 1=r.1:=by omega
  rw [em]
  exact uG O _ _ _ pm a2 (by omega) a1
 ·rw [if_neg e]
  have:r.1=N:=by omega
  rw [this] at a1
  exact a1
end
end L2
namespace L2
open PySem PySem.Spec PyProof.Rows
def IterX:Bool->Heap->Addr->Addr->Nat->Prop
 | true,h,i,a,k=>h.IsTupleIter i a k
 | false,h,i,a,k=>h.IsListIter i a k
def SeqX:Bool->Heap->Addr->Array Value->Prop
 | true,h,a,xs=>h.IsTuple a xs
 | false,h,a,xs=>h.IsList a xs
theorem IterX.extBut {t:Bool} {h h':Heap} {i a b:Addr} {k:Nat} (x:IterX t h i a k) (hs:Heap.ExtBut b h h') (e:i≠b):IterX t h' i a k:=by
 cases t with
 | true=>exact Heap.IsTupleIter.extBut x hs e
 | false=>exact Heap.IsListIter.extBut x hs e
theorem IterX.at {t:Bool} {h h':Heap} {i a:Addr} {k:Nat} (x:IterX t h i a k) (e:∀ o,h.get? i=some o->h'.get? i=some o):IterX t h' i a k:=by
 cases t with
 | true=>exact Heap.IsTupleIter.at x e
 | false=>exact Heap.IsListIter.at x e
theorem IterX.cell {t:Bool} {h:Heap} {i a:Addr} {k:Nat} (x:IterX t h i a k):∃ o,h.get? i=some o /\ ∀ v,o.data ≠ .cell v:=by
 cases t with
 | true=>obtain ⟨o,e,_,d⟩:=(show h.IsTupleIter i a k from x); exact ⟨o,e,fun v z=>by rw [d] at z; cases z⟩
 | false=>obtain ⟨o,e,_,d⟩:=(show h.IsListIter i a k from x); exact ⟨o,e,fun v z=>by rw [d] at z; cases z⟩
theorem SeqX.extBut {t:Bool} {h h':Heap} {a b:Addr} {xs:Array Value} (x:SeqX t h a xs) (hs:Heap.ExtBut b h h') (e:a≠b):SeqX t h' a xs:=by
 cases t with
 | true=>exact Heap.IsTuple.extBut x hs e
 | false=>exact Heap.IsList.extBut x hs e
theorem SeqX.at {t:Bool} {h h':Heap} {a:Addr} {xs:Array Value} (x:SeqX t h a xs) (e:∀ o,h.get? a=some o->h'.get? a=some o):SeqX t h' a xs:=by
 cases t with
 | true=>obtain ⟨o,ho,r⟩:=(show h.IsTuple a xs from x); exact ⟨o,e o ho,r⟩
 | false=>exact Heap.IsList.at x e
theorem SeqX.lt {t:Bool} {h:Heap} {a:Addr} {xs:Array Value} (x:SeqX t h a xs):a < h.objs.size:=by
 cases t with
 | true=>obtain ⟨o,ho,_⟩:=(show h.IsTuple a xs from x); exact Heap.lt_size ho
 | false=>obtain ⟨o,ho,_⟩:=(show h.IsList a xs from x); exact Heap.lt_size ho
section
variable {prog:Program} {w:World} {A:Around} {E:Value->Shared->Prop} {s:Shared}
theorem fh {it t:Addr} {i:Nat} {xs:Array Value} {v:Value} {Q:Value->Shared->Prop} (h1:s.heap.IsTupleIter it t i) (h2:s.heap.IsTuple t xs) (h3:xs[i]? = some v)
  (q:∀ h',h'.IsTupleIter it t (i + 1)->Heap.SameBut it s.heap h'->Q v { s with heap:=h' }):wpAny (model prog w) A (Builtin.SmallTypes.nextOf (.ref it)) Q E s:=by
 obtain ⟨ob,ho,oc,od⟩:=id h1
 obtain ⟨ot,hot,_,nt,odt⟩:=h2
 unfold Builtin.SmallTypes.nextOf
 refine wpAny_bind (wpAny_callSpecial?_slot (name:=Str.ofString "__next__") h1.typeIs F.slot_tuple_iterator_next (wpAny_call_entry F.slot_tuple_iterator_next h1.typeIs F.entry_tuple_iterator_next ?_ (F.args_tuple_iterator_next_1 _)))
 refine (show wpAny _ _ (field (.ref it) 0 >>= _) _ _ s from wpAny_bind (wpAny_field ho od (x:=.ref t) rfl ?_))
 refine (show wpAny _ _ (if (Value.ref t == Value.none)=true then _ else _) _ _ s from ?_)
 rw [if_neg (show ¬ ((Value.ref t == Value.none)=true) from fun z=>nomatch z)]
 refine (show wpAny _ _ (field (.ref it) 1 >>= _) _ _ s from wpAny_bind (wpAny_field ho od (x:=.int i 0) rfl ?_))
 refine (show wpAny _ _ (seqItems? (.ref t) >>= _) _ _ s from wpAny_bind (wpAny_seqItems hot odt ?_))
 simp only [Int.toNat_natCast,h3]
 refine wpAny_bind (wpAny_setField ho od (by simp) (wpAny_pure ⟨v,rfl,wpAny_pure (q _ ⟨_,Heap.get?_update_self _ ho (Obj.isFreed_of_fields (Obj.data_mapFields od _)),(Obj.cls_mapFields ..).trans oc,by rw [Obj.data_mapFields od]; simp [rawInt]⟩ (Heap.SameBut.update ..))⟩))
theorem dO {it t:Addr} {i:Nat} {xs:Array Value} {Q:Value->Shared->Prop} (hh:A.handled=none) (h1:s.heap.IsTupleIter it t i) (h2:s.heap.IsTuple t xs) (h3:xs[i]? = none)
  (q:∀ h' e,Heap.ExtBut it s.heap h'->(∃ o,h'.get? e=some o /\ o.cls = .type "StopIteration")->E (.ref e) { s with heap:=h' }):wpAny (model prog w) A (Builtin.SmallTypes.nextOf (.ref it)) Q E s:=by
 obtain ⟨ob,ho,oc,od⟩:=id h1
 obtain ⟨ot,hot,_,nt,odt⟩:=h2
 unfold Builtin.SmallTypes.nextOf
 refine wpAny_bind (wpAny_callSpecial?_slot (name:=Str.ofString "__next__") h1.typeIs F.slot_tuple_iterator_next (wpAny_call_entry F.slot_tuple_iterator_next h1.typeIs F.entry_tuple_iterator_next ?_ (F.args_tuple_iterator_next_1 _)))
 refine (show wpAny _ _ (field (.ref it) 0 >>= _) _ _ s from wpAny_bind (wpAny_field ho od (x:=.ref t) rfl ?_))
 refine (show wpAny _ _ (if (Value.ref t == Value.none)=true then _ else _) _ _ s from ?_)
 rw [if_neg (show ¬ ((Value.ref t == Value.none)=true) from fun z=>nomatch z)]
 refine (show wpAny _ _ (field (.ref it) 1 >>= _) _ _ s from wpAny_bind (wpAny_field ho od (x:=.int i 0) rfl ?_))
 refine (show wpAny _ _ (seqItems? (.ref t) >>= _) _ _ s from wpAny_bind (wpAny_seqItems hot odt ?_))
 simp only [Int.toNat_natCast,h3]
 refine wpAny_bind (wpAny_rule (wpAny_bind (wpAny_setField ho od (by simp) ?_)))
 refine (show wpAny _ _ (newExc (.type "StopIteration") [] >>= _) _ _ _ from wpAny_bind ?_)
 simp only [newExc,newTuple]
 refine wpAny_bind (wpAny_newObj_type (wpAny_bind (m:=firstArgMember _ _) (wpAny_of_eq (a:=Value.none) (by first | rfl | (simp only [firstArgMember]; rfl)) (wpAny_newObj_type ?_ (by size_fits)))) (by size_fits))
 simp only [raiseNew]; refine wpAny_bind (wpAny_handled ?_); (first | rw [show A.in1.handled=none from hh] | rw [hh]); refine wpAny_bind (wpAny_pure (wpAny_throw ?_))
 exact q _ _ (((Heap.SameBut.update ..).extBut.push _).push _) ⟨_,Heap.get?_push_size _ rfl,rfl⟩
theorem hU {b:Bool} {it t:Addr} {i:Nat} {xs:Array Value} {v:Value} {Q:Value->Shared->Prop} (h1:IterX b s.heap it t i) (h2:SeqX b s.heap t xs) (h3:xs[i]? = some v)
  (q:∀ h',IterX b h' it t (i + 1)->Heap.SameBut it s.heap h'->Q v { s with heap:=h' }):wpAny (model prog w) A (Builtin.SmallTypes.nextOf (.ref it)) Q E s:=by
 cases b with
 | true=>exact fh h1 h2 h3 q
 | false=>exact wpAny_nextOf_list_item h1 h2 h3 q
theorem jd {b:Bool} {it t:Addr} {i:Nat} {xs:Array Value} {Q:Value->Shared->Prop} (hh:A.handled=none) (h1:IterX b s.heap it t i) (h2:SeqX b s.heap t xs) (h3:xs[i]? = none)
  (q:∀ h' e,Heap.ExtBut it s.heap h'->(∃ o,h'.get? e=some o /\ o.cls = .type "StopIteration")->E (.ref e) { s with heap:=h' }):wpAny (model prog w) A (Builtin.SmallTypes.nextOf (.ref it)) Q E s:=by
 cases b with
 | true=>exact dO hh h1 h2 h3 q
 | false=>exact wpAny_nextOf_list_end hh h1 h2 h3 q
end
end L2
namespace L2
open PySem PySem.Spec PyProof.Rows
section
variable {tk:Addr->Bool}
def xT (tk:Addr->Bool) (h:Heap) (n:Nat) (src:List (Addr×Array Value)) (k c:Nat):Prop:=∀ (j:Nat) (p:Addr×Array Value),src[j]? = some p->IterX (tk p.1) h (n + j) p.1 (if j < c then k + 1 else k)
def xU (tk:Addr->Bool) (h:Heap) (n:Nat) (src:List (Addr×Array Value)):Prop:=∀ (j:Nat) (p:Addr×Array Value),src[j]? = some p->p.1 < n /\ SeqX (tk p.1) h p.1 p.2
structure ZipStM (tk:Addr->Bool) (h:Heap) (n:Nat) (src:List (Addr×Array Value)) (k:Nat):Prop where
 zip:∃ f0 f1,OwnF f0 /\ db h (n + src.length + 2) (n + src.length) (n + src.length + 1) f0 f1
 ti:cK h (n + src.length) (itsL n src.length).toArray
 to:∃ ws:Array Value,ws.size=src.length /\ cK h (n + src.length + 1) ws
 its:xT tk h n src k 0
 ls:xU tk h n src
 ne:src≠[]
structure ZipLpM (tk:Addr->Bool) (h0:Heap) (n:Nat) (src:List (Addr×Array Value)) (k c:Nat) (h:Heap):Prop where
 ti:cK h (n + src.length) (itsL n src.length).toArray
 its:xT tk h n src k c
 ls:xU tk h n src
 kept:KeptZ n src.length h0 h
 sz:h.objs.size=h0.objs.size
section
variable {h0 h h':Heap} {n k c:Nat} {src:List (Addr×Array Value)}
theorem ZipLpM.same {a:Nat} (L:ZipLpM tk h0 n src k c h) (hs:Heap.SameBut a h h') (ha:a=n + src.length + 1∨a=n + src.length + 2):ZipLpM tk h0 n src k c h' where
 ti:=hs.extBut _ _ (by intro e; have e:(_:Nat)=(_:Nat):=e; omega) L.ti
 its:=fun j p hj=>(L.its j p hj).extBut hs.extBut (by have:=cN hj; intro e; have e:(_:Nat)=(_:Nat):=e; omega)
 ls:=fun j p hj=>⟨(L.ls j p hj).1,(L.ls j p hj).2.extBut hs.extBut (Nat.ne_of_lt (Nat.lt_of_lt_of_le (L.ls j p hj).1 (show n <= a by omega)))⟩
 kept:=fun b o hb e=>hs.extBut _ _ (by intro e; have e:(_:Nat)=(_:Nat):=e; omega) (L.kept b o hb e)
 sz:=hs.1.trans L.sz
theorem ZipLpM.next {p:Addr×Array Value} (L:ZipLpM tk h0 n src k c h) (hc:src[c]? = some p) (hit:IterX (tk p.1) h' (n + c) p.1 (k + 1)) (hs:Heap.SameBut (n + c) h h'):ZipLpM tk h0 n src k (c + 1) h':=by
 have lt:=cN hc
 refine ⟨hs.extBut _ _ (by intro e; have e:(_:Nat)=(_:Nat):=e; omega) L.ti,fun j q hj=>?_,fun j q hj=>⟨(L.ls j q hj).1,(L.ls j q hj).2.extBut hs.extBut (Nat.ne_of_lt (Nat.lt_of_lt_of_le (L.ls j q hj).1 (Nat.le_add_right n c)))⟩,fun b o hb e=>hs.extBut _ _ (by intro e; have e:(_:Nat)=(_:Nat):=e; omega) (L.kept b o hb e),hs.1.trans L.sz⟩
 by_cases z:j=c
 ·subst z
  rw [hc] at hj
  cases hj
  rw [if_pos (by omega)]
  exact hit
 ·have:=(L.its j q hj).extBut hs.extBut (by intro e; have e:(_:Nat)=(_:Nat):=e; omega)
  by_cases y:j < c
  ·rw [if_pos y] at this
   rw [if_pos (by omega)]
   exact this
  ·rw [if_neg y] at this
   rw [if_neg (by omega)]
   exact this
theorem KeptZ.stepM {a:Nat} (L:ZipLpM tk h0 n src k c h) (hs:Heap.ExtBut a h h') (ha:(n <= a /\ a < n + src.length)∨a=n + src.length + 1∨a=n + src.length + 2):KeptZ n src.length h0 h' :=
 fun b o hb e=>hs _ _ (by intro e; have e:(_:Nat)=(_:Nat):=e; omega) (L.kept b o hb e)
end
section
variable {prog:Program} {w:World} {A:Around} {E:Value->Shared->Prop} {s:Shared}
set_option maxHeartbeats 1000000 in
theorem uH {n k:Nat} {src:List (Addr×Array Value)} {Q:Value->Shared->Prop} (hh:A.handled=none) (hsz:src.length <= sizeLine) (hs:ZipStM tk s.heap n src k)
  (hQ:∀ vs h',Told src k src.length vs->ZipStM tk h' n src (k + 1)->cK h' s.heap.objs.size vs.toArray->h'.objs.size=s.heap.objs.size + 1->KeptZ n src.length s.heap h'->Q (.ref s.heap.objs.size) { s with heap:=h' })
  (hE:(∃ (j:Nat) (p:Addr×Array Value),src[j]? = some p /\ p.2[k]? = none)->∀ h' e,KeptZ n src.length s.heap h'->(∃ o,h'.get? e=some o /\ o.cls = .type "StopIteration")->E (.ref e) { s with heap:=h' }) :
  wpAny (model prog w) A (Builtin.«zip.__next__» ⟨[.ref (n + src.length + 2)],[]⟩) (fun fin s'=>∃ v,fin = .done (.ret v) /\ Q v s') E s:=by
 obtain ⟨⟨f0,f1,hf,hz⟩,hTI,⟨ws,hws,hTO⟩,hit,hls,hne⟩:=hs
 show wpAny _ _ (field (.ref (n + src.length + 2)) 2 >>= _) _ _ _
 refine wpAny_bind (wpAny_field hz rfl (x:=.bool false) rfl ?_)
 show wpAny _ _ (field (.ref (n + src.length + 2)) 3 >>= _) _ _ _
 refine wpAny_bind (wpAny_field hz rfl (x:=.ref (n + src.length)) rfl ?_)
 refine wpAny_bind (wpAny_seqItems hTI rfl ?_)
 have hem:((itsL n src.length).toArray.isEmpty)=false:=by
  cases src with
  | nil=>exact absurd rfl hne
  | cons a l=>simp [itsL]
 simp only [hem,Bool.false_eq_true,if_false]
 refine wpAny_bind (wA hf hz ?_ fun h1 f1' hz1 hs1=>?_)
 ·simp only [if_true]
  refine wpAny_bind (wpAny_rule ?_)
  refine wpAny_bind (wpAny_field hz rfl (x:=.ref (n + src.length + 1)) rfl ?_)
  refine wpAny_bind (wpAny_setField_rec hz (by simp) fun h₁ hz₁ hs₁=>?_)
  replace hz₁:db h₁ (n + src.length + 2) (n + src.length) (n + src.length + 1) .ellipsis f1:=hz₁
  have L0:ZipLpM tk s.heap n src k 0 s.heap:=⟨hTI,hit,hls,fun _ _ _ e=>e,rfl⟩
  have L1:=L0.same hs₁ (.inr rfl)
  have hTO₁:cK h₁ (n + src.length + 1) ws:=hs₁.extBut _ _ (by intro e; have e:(_:Nat)=(_:Nat):=e; omega) hTO
  refine wpAny_bind (wpAny_forIn_list _ (fun rest b s'=>∃ c h ws vs,rest=((itsL n src.length).toArray.toList.zipIdx).drop c /\ c <= src.length /\ b=(none,()) /\ s'={ s with heap:=h } /\ db h (n + src.length + 2) (n + src.length) (n + src.length + 1) .ellipsis f1 /\ ZipLpM tk s.heap n src k c h /\ Told src k c vs /\ ws.size=src.length /\ cK h (n + src.length + 1) ws /\ ∀ j,j < c->ws[j]? = vs[j]?) _ ?turn ?fin _ _ ⟨0,h₁,ws,[],rfl,Nat.zero_le _,rfl,rfl,hz₁,L1,⟨rfl,fun j p hj=>absurd hj (Nat.not_lt_zero _)⟩,hws,hTO₁,fun j hj=>absurd hj (Nat.not_lt_zero _)⟩)
  case turn =>
   rintro x rest b s' ⟨c,h,ws,vs,hr,hc,rfl,rfl,hz,L,ht,hws,hTO,hw⟩
   obtain ⟨hx,hr2⟩:=ut hr.symm
   have hc:c < src.length:=by
    have:=cN hx
    simpa using this
   rw [List.toList_toArray,List.getElem?_zipIdx,uu hc] at hx
   simp only [Option.map_some,Nat.zero_add,Option.some.injEq] at hx
   subst hx
   have hp:src[c]? = some src[c]:=by simp [hc]
   have hi:=L.its c _ hp
   rw [if_neg (Nat.lt_irrefl _)] at hi
   have hl:=(L.ls c _ hp).2
   refine wpAny_bind (wpAny_onRaise ?_)
   show wpAny _ _ (Builtin.SmallTypes.nextOf (.ref (n + c)) >>= _) _ _ _
   cases ev:(src[c]).2[k]? with
   | none =>
    refine wpAny_bind (jd hh hi hl ev fun h₂ e hs₂ he=>?_)
    obtain ⟨oe,hoe,hce⟩:=he
    have hz₂:db h₂ (n + src.length + 2) (n + src.length) (n + src.length + 1) .ellipsis f1:=hs₂ _ _ (by intro e; have e:(_:Nat)=(_:Nat):=e; omega) hz
    have hez:e≠n + src.length + 2:=fun x=>by subst x; rw [hz₂] at hoe; cases hoe; simp at hce
    refine wpAny_setField_rec hz₂ (by simp) fun h₃ _ hs₃=>hE ⟨c,_,hp,ev⟩ h₃ e (fun b o hb x=>hs₃.extBut _ _ (by intro e; have e:(_:Nat)=(_:Nat):=e; omega) (KeptZ.stepM L hs₂ (.inl ⟨Nat.le_add_right _ _,by omega⟩) b o hb x)) ⟨oe,hs₃.extBut _ _ hez hoe,hce⟩
   | some v =>
    refine wpAny_bind (hU hi hl ev fun h₂ hi₂ hs₂=>wpAny_pure ?_)
    have hTO₂:cK h₂ (n + src.length + 1) ws:=hs₂.extBut _ _ (by intro e; have e:(_:Nat)=(_:Nat):=e; omega) hTO
    have hz₂:db h₂ (n + src.length + 2) (n + src.length) (n + src.length + 1) .ellipsis f1:=hs₂.extBut _ _ (by intro e; have e:(_:Nat)=(_:Nat):=e; omega) hz
    refine wpAny_bind (wpAny_seqItems hTO₂ rfl ?_)
    refine wpAny_bind (gq hTO₂ (by omega) fun h₃ hTO₃ hs₃=>?_)
    refine wpAny_bind (wpAny_letGo (wpAny_pure ?_))
    refine ⟨c + 1,h₃,_,vs++[v],hr2.symm,hc,rfl,rfl,hs₃.extBut _ _ (by intro e; have e:(_:Nat)=(_:Nat):=e; omega) hz₂,(L.next hp hi₂ hs₂).same hs₃ (.inl rfl),ht.push hp ev,by simp [hws],hTO₃,fun j hj=>?_⟩
    rw [Array.getElem?_setIfInBounds]
    by_cases z:c=j
    ·subst z
     rw [if_pos rfl,if_pos (by omega),List.getElem?_append_right (by rw [ht.1]; exact Nat.le_refl _),ht.1]
     simp
    ·rw [if_neg z,hw j (by omega),List.getElem?_append_left (by rw [ht.1]; omega)]
  case fin =>
   rintro b s' ⟨c,h,ws,vs,hr,hc,rfl,rfl,hz,L,ht,hws,hTO,hw⟩
   have hc:c=src.length:=by
    have:=congrArg List.length hr
    simp at this
    omega
   subst hc
   refine wpAny_bind (wpAny_seqItems hTO rfl ?_)
   have ews:ws=vs.toArray:=by
    have:ws.toList=vs:=List.ext_getElem? fun j=>by
     rw [Array.getElem?_toList]
     by_cases z:j < src.length
     ·exact hw j z
     ·rw [Array.getElem?_eq_none (by omega),List.getElem?_eq_none (by rw [ht.1]; omega)]
    rw [← this]
   subst ews
   refine wpAny_bind (wpAny_newTuple ?_ (by simp [ht.1]; exact hsz))
   show wpAny _ _ (Builtin.SmallTypes.ownedTupleHandOut (.ref (n + src.length + 2)) (.ref h.objs.size) >>= _) _ _ _
   refine wpAny_bind ?_
   unfold Builtin.SmallTypes.ownedTupleHandOut
   have hzlt:n + src.length + 2 < h.objs.size:=Heap.lt_size hz
   have hz₆:db (h.push { cls:=.type "tuple",data:=.seq vs.toArray.toList.toArray }) (n + src.length + 2) (n + src.length) (n + src.length + 1) .ellipsis f1:=Heap.get?_push_of_some _ hz
   refine wpAny_bind (wpAny_setField_rec hz₆ (by simp) fun h₇ hz₇ hs₇=>?_)
   replace hz₇:db h₇ (n + src.length + 2) (n + src.length) (n + src.length + 1) (rawInt h.objs.size) f1:=hz₇
   refine wpAny_setField_rec hz₇ (by simp) fun h₈ hz₈ hs₈=>?_
   replace hz₈:db h₈ (n + src.length + 2) (n + src.length) (n + src.length + 1) (rawInt h.objs.size) (.bool false):=hz₈
   have up:∀ c o,c≠n + src.length + 2->h.get? c=some o->h₈.get? c=some o:=fun c o c1 e=>hs₈.extBut _ _ c1 (hs₇.extBut _ _ c1 (Heap.get?_push_of_some _ e))
   have hT₈:cK h₈ h.objs.size vs.toArray:=hs₈.extBut _ _ (Nat.ne_of_gt hzlt) (hs₇.extBut _ _ (Nat.ne_of_gt hzlt) (Heap.get?_push_size _ rfl))
   have hz8:h₈.objs.size=h.objs.size + 1:=by rw [hs₈.1,hs₇.1,Heap.size_push]
   have esz:=L.sz
   rw [esz] at hT₈ hz8
   refine wpAny_pure ⟨_,rfl,?_⟩
   show Q (.ref h.objs.size) _
   rw [esz]
   refine hQ vs h₈ ht ⟨⟨_,_,.inr ⟨_,rfl⟩,hz₈⟩,up _ _ (by intro e; have e:(_:Nat)=(_:Nat):=e; omega) L.ti,⟨_,hws,up _ _ (by intro e; have e:(_:Nat)=(_:Nat):=e; omega) hTO⟩,fun j p hj=>?_,fun j p hj=>⟨(L.ls j p hj).1,(L.ls j p hj).2.at fun o e=>up _ o (Nat.ne_of_lt (Nat.lt_of_lt_of_le (L.ls j p hj).1 (show n <= n + src.length + 2 by omega))) e⟩,hne⟩ hT₈ hz8 fun b o hb e=>up b o (by intro e; have e:(_:Nat)=(_:Nat):=e; omega) (L.kept b o hb e)
   have:=cN hj
   have h1:=(L.its j p hj).at fun o e=>up _ o (by intro e; have e:(_:Nat)=(_:Nat):=e; omega) e
   rw [if_pos this] at h1
   rw [if_neg (Nat.not_lt_zero _)]
   exact h1
 ·simp only [Bool.false_eq_true,if_false]
  have L0:ZipLpM tk s.heap n src k 0 s.heap:=⟨hTI,hit,hls,fun _ _ _ e=>e,rfl⟩
  have L1:=L0.same hs1 (.inr rfl)
  have hTO₁:cK h1 (n + src.length + 1) ws:=hs1.extBut _ _ (by intro e; have e:(_:Nat)=(_:Nat):=e; omega) hTO
  refine wpAny_bind (wpAny_forIn_array' _ (fun rest b s'=>∃ c h vs,rest=((itsL n src.length).toArray.toList).drop c /\ c <= src.length /\ b=(none,vs.toArray) /\ s'={ s with heap:=h } /\ db h (n + src.length + 2) (n + src.length) (n + src.length + 1) f0 f1' /\ ZipLpM tk s.heap n src k c h /\ Told src k c vs /\ cK h (n + src.length + 1) ws) _ ?turn2 ?fin2 _ _ ⟨0,h1,[],rfl,Nat.zero_le _,rfl,rfl,hz1,L1,⟨rfl,fun j p hj=>absurd hj (Nat.not_lt_zero _)⟩,hTO₁⟩)
  case turn2 =>
   rintro x rest b s' ⟨c,h,vs,hr,hc,rfl,rfl,hz,L,ht,hTO⟩
   obtain ⟨hx,hr2⟩:=ut hr.symm
   have hc:c < src.length:=by
    have:=cN hx
    simpa using this
   rw [List.toList_toArray,uu hc] at hx
   cases hx
   have hp:src[c]? = some src[c]:=by simp [hc]
   have hi:=L.its c _ hp
   rw [if_neg (Nat.lt_irrefl _)] at hi
   have hl:=(L.ls c _ hp).2
   refine wpAny_bind (wpAny_holding ?_)
   show wpAny _ _ (Builtin.SmallTypes.nextOf (.ref (n + c)) >>= _) _ _ _
   cases ev:(src[c]).2[k]? with
   | none =>
    refine wpAny_bind (jd hh hi hl ev fun h₂ e hs₂ he=>?_)
    exact hE ⟨c,_,hp,ev⟩ h₂ e (KeptZ.stepM L hs₂ (.inl ⟨Nat.le_add_right _ _,by omega⟩)) he
   | some v =>
    refine wpAny_bind (hU hi hl ev fun h₂ hi₂ hs₂=>wpAny_pure ?_)
    refine wpAny_pure ⟨c + 1,h₂,vs++[v],hr2.symm,hc,by simp,rfl,hs₂.extBut _ _ (by intro e; have e:(_:Nat)=(_:Nat):=e; omega) hz,L.next hp hi₂ hs₂,ht.push hp ev,hs₂.extBut _ _ (by intro e; have e:(_:Nat)=(_:Nat):=e; omega) hTO⟩
  case fin2 =>
   rintro b s' ⟨c,h,vs,hr,hc,rfl,rfl,hz,L,ht,hTO⟩
   have hc:c=src.length:=by
    have:=congrArg List.length hr
    simp at this
    omega
   subst hc
   refine wpAny_bind (wpAny_newTuple ?_ (by simp [ht.1]; exact hsz))
   have hT₈:cK (h.push { cls:=.type "tuple",data:=.seq vs.toArray.toList.toArray }) h.objs.size vs.toArray:=Heap.get?_push_size _ rfl
   have up:∀ c o,h.get? c=some o->(h.push { cls:=.type "tuple",data:=.seq vs.toArray.toList.toArray }).get? c=some o:=fun c o e=>Heap.get?_push_of_some _ e
   have hz8:(h.push { cls:=.type "tuple",data:=.seq vs.toArray.toList.toArray }).objs.size=h.objs.size + 1:=Heap.size_push ..
   have esz:=L.sz
   rw [esz] at hT₈ hz8
   refine wpAny_pure ⟨_,rfl,?_⟩
   show Q (.ref h.objs.size) _
   rw [esz]
   refine hQ vs _ ht ⟨⟨_,_,hf,up _ _ hz⟩,up _ _ L.ti,⟨_,hws,up _ _ hTO⟩,fun j p hj=>?_,fun j p hj=>⟨(L.ls j p hj).1,(L.ls j p hj).2.at fun o e=>up _ o e⟩,hne⟩ hT₈ hz8 fun b o hb e=>up b o (L.kept b o hb e)
   have:=cN hj
   have h1:=(L.its j p hj).at fun o e=>up _ o e
   rw [if_pos this] at h1
   rw [if_neg (Nat.not_lt_zero _)]
   exact h1
end
theorem bB {prog:Program} {w:World} {A:Around} {E:Value->Shared->Prop} {s:Shared} {n k:Nat} {src:List (Addr×Array Value)} {Q:Option Value->Shared->Prop} (hh:A.handled=none) (hsz:src.length <= sizeLine) (hs:ZipStM tk s.heap n src k)
  (hQ:∀ vs h',Told src k src.length vs->ZipStM tk h' n src (k + 1)->cK h' s.heap.objs.size vs.toArray->h'.objs.size=s.heap.objs.size + 1->KeptZ n src.length s.heap h'->Q (some (.ref s.heap.objs.size)) { s with heap:=h' })
  (hE:(∃ (j:Nat) (p:Addr×Array Value),src[j]? = some p /\ p.2[k]? = none)->∀ h',KeptZ n src.length s.heap h'->Q none { s with heap:=h' }) :
  wpAny (model prog w) A (pyNext (.ref (n + src.length + 2))) Q E s:=by
 obtain ⟨f0,f1,_,hz⟩:=hs.zip
 have hT:s.TypeIs (.ref (n + src.length + 2)) "zip":=⟨_,hz,rfl⟩
 unfold pyNext
 refine wpAny_bind (wpAny_attempt (wpAny_callSpecial?_slot (name:=Str.ofString "__next__") hT F.slot_zip_next
  (wpAny_call_entry F.slot_zip_next hT F.entry_zip_next (uH hh hsz hs (fun vs h' a1 a2 a3 a4 a5=>wpAny_pure (hQ vs h' a1 a2 a3 a4 a5)) fun a h' e hk he=>?_) (F.args_zip_next_1 _))))
 obtain ⟨o,ho,hc⟩:=he
 refine wpAny_bind (wpAny_isInstance (T:="StopIteration") (b:=true) ⟨o,ho,hc⟩ isSubtype_stop ?_)
 exact wpAny_pure (hE a _ hk)
def wL (tk:Addr->Bool) (s:Shared) (src:List (Addr×Array Value)) (Q:Value->Shared->Prop):Prop :=
 ∀ h',ZipStM tk h' s.heap.objs.size src 0->h'.objs.size=s.heap.objs.size + src.length + 3->(∀ c o,s.heap.get? c=some o->h'.get? c=some o)->Q (.ref (s.heap.objs.size + src.length + 2)) { s with heap:=h' }
def SqX (tk:Addr->Bool) (K:PySem.W.Frag) (H:Hp) (a:Addr) (xs:List V):Prop:=if tk a=true then SqT K H a xs else SqL K H a xs
theorem SqX.inj {X:Cx} {pins:List (Addr×Obj)} {σ:St} {H:Hp} {s:Shared} (I:Inv X pins σ H s) {a:Addr} {xs ys:List V} (h1:SqX tk X.K H a xs) (h2:SqX tk X.K H a ys):xs=ys:=by
 unfold SqX at h1 h2
 cases e:tk a with
 | true=>rw [if_pos e] at h1 h2; exact I.tuple_inj h1 h2
 | false=>rw [if_neg (by rw [e]; intro z; cases z)] at h1 h2; exact I.list_inj h1 h2
theorem SqX.at {X:Cx} {pins:List (Addr×Obj)} {σ:St} {H:Hp} {s:Shared} (I:Inv X pins σ H s) {a:Addr} {xs:List V} (h:SqX tk X.K H a xs):∃ its:List Value,Vals xs its /\ SeqX (tk a) s.heap a its.toArray /\ xs.length <= sizeLine:=by
 unfold SqX at h
 cases e:tk a with
 | true =>
  rw [if_pos e] at h
  obtain ⟨its,rv,p,hz⟩:=I.tuple h
  exact ⟨its,rv,p,hz⟩
 | false =>
  rw [if_neg (by rw [e]; intro z; cases z)] at h
  obtain ⟨its,rv,p,hz⟩:=I.list h
  exact ⟨its,rv,p.isList,hz⟩
theorem mC {X:Cx} {K:PySem.W.Frag} {pins:List (Addr×Obj)} {σ:St} {H:Hp} {s:Shared} (hK:X.K=K) (I:Inv X pins σ H s):∀ {as:List Addr} {xss:List (List V)},as.length=xss.length->(∀ (j:Nat) a xs,as[j]? = some a->xss[j]? = some xs->SqX tk K H a xs) ->
  ∃ src:List (Addr×Array Value),src.map (·.1)=as /\ SrcV xss src /\ (∀ p∈src,SeqX (tk p.1) s.heap p.1 p.2) /\ ∀ xs∈xss,xs.length <= sizeLine
 | [],xss,hl,_=>by
  have h0:xss=[]:=List.length_eq_zero_iff.mp (by rw [← hl]; rfl)
  subst h0
  exact ⟨[],rfl,⟨rfl,fun j xs p h=>by simp at h⟩,fun p hp=>by simp at hp,fun xs hx=>by simp at hx⟩
 | a::as,[],hl,_=>absurd hl (by simp)
 | a::as,xs::xss,hl,h=>by
  subst hK
  obtain ⟨src,h1,h2,h3,h4⟩:=mC rfl I (as:=as) (xss:=xss) (by simpa using hl) fun j a xs ha hx=>h (j + 1) a xs (by simpa using ha) (by simpa using hx)
  obtain ⟨its,rv,pl,hz⟩:=(h 0 a xs rfl rfl).at I
  refine ⟨(a,its.toArray)::src,by simp [h1],⟨by simp [h2.1],fun j ys p hy hp=>?_⟩,fun p hp=>?_,fun ys hy=>?_⟩
  ·cases j with
   | zero=>simp at hy hp; subst hy hp; simpa using rv
   | succ j=>exact h2.2 j ys p (by simpa using hy) (by simpa using hp)
  ·rcases List.mem_cons.mp hp with rfl | hp
   ·exact pl
   ·exact h3 p hp
  ·rcases List.mem_cons.mp hy with rfl | hy
   ·exact hz
   ·exact h4 ys hy
abbrev itO (t:Bool) (l:Addr):Obj:={ cls:=.type (match t with | true=>"tuple_iterator" | false=>"list_iterator"),data:=.fields #[.ref l,.int 0 0] }
abbrev m2H (t u:Bool) (h:Heap) (l1 l2:Addr):Heap:=(h.push (itO t l1)).push (itO u l2)
abbrev m2T (t u:Bool) (h:Heap) (l1 l2:Addr):Heap:=(m2H t u h l1 l2).push (tuO [.ref h.objs.size,.ref (h.push (itO t l1)).objs.size])
abbrev m2U (t u:Bool) (h:Heap) (l1 l2:Addr):Heap:=(m2T t u h l1 l2).push (tuO [.none,.none])
abbrev m2Z (t u:Bool) (h:Heap) (l1 l2:Addr):Heap:=(m2U t u h l1 l2).push (ziO (m2H t u h l1 l2).objs.size (m2T t u h l1 l2).objs.size)
theorem SeqX.push {t:Bool} {h:Heap} {a:Addr} {xs:Array Value} (x:SeqX t h a xs) (o:Obj):SeqX t (h.push o) a xs:=x.at fun o e=>Heap.get?_push_of_some _ e
theorem xV {prog:Program} {w:World} {A:Around} {E:Value->Shared->Prop} {s:Shared} {t:Bool} {l:Addr} {xs:Array Value} {Q:Value->Shared->Prop} (h:SeqX t s.heap l xs) (q:Q (.ref s.heap.objs.size) { s with heap:=s.heap.push (itO t l) }):wpAny (model prog w) A (pyIter (.ref l)) Q E s:=by
 cases t with
 | true=>exact wpAny_pyIter_tuple h q
 | false=>exact wpAny_pyIter_list h q
set_option maxHeartbeats 0 in
theorem kO (t u:Bool) (l1 l2:Addr) (xs ys:Array Value) :
  Meets (Builtin.«zip.__new__» ⟨[.type "zip",.ref l1,.ref l2],[]⟩) (fun _ R s=>SeqX t s.heap l1 xs /\ SeqX u s.heap l2 ys /\
   R (.ok (.ret (.ref (m2U t u s.heap l1 l2).objs.size))) { s with heap:=m2Z t u s.heap l1 l2 }) :=
 .of_wp fun prog w A R s h=>by
  obtain ⟨hp,g,d,tok,os⟩:=s; obtain ⟨hl1,hl2,h⟩:=h
  have hsub:=sub_zip
  have hL1:SeqX t (Shared.heap ⟨hp,g,d,tok,os⟩) l1 xs:=hl1
  have hL2:SeqX u (Shared.heap ⟨hp.push (itO t l1),g,d,tok,os⟩) l2 ys:=hl2.push _
  wp_walk using xV hL1,xV hL2
  exact ⟨_,rfl,h⟩
section
variable {prog:Program} {w:World} {A:Around} {E:Value->Shared->Prop} {s:Shared}
theorem IterX.new {t:Bool} {h:Heap} {i a:Addr} (e:h.get? i=some (itO t a)):IterX t h i a 0:=by
 cases t with
 | true=>exact ⟨_,e,rfl,rfl⟩
 | false=>exact ⟨_,e,rfl,rfl⟩
theorem oB {p1 p2:Addr×Array Value} {Q:Value->Shared->Prop} (h1:SeqX (tk p1.1) s.heap p1.1 p1.2) (h2:SeqX (tk p2.1) s.heap p2.1 p2.2) (h:wL tk s [p1,p2] Q) :
  wpAny (model prog w) A (call (.type "zip") [.ref p1.1,.ref p2.1]) Q E s:=by
 refine callType_new F.called_zip (by decide) (F.typeCall_zip_2 _ _) (F.newCall_zip_2 _ _) (fun obj=>F.args_object_init_3 obj _ _) F.entry_zip_new (kO (tk p1.1) (tk p2.1) p1.1 p2.1 p1.2 p2.2) ⟨h1,h2,?_⟩
 have z1:(s.heap.push (itO (tk p1.1) p1.1)).objs.size=s.heap.objs.size + 1:=Heap.size_push ..
 have z2:(m2H (tk p1.1) (tk p2.1) s.heap p1.1 p2.1).objs.size=s.heap.objs.size + 2:=by rw [Heap.size_push,z1]
 have z3:(m2T (tk p1.1) (tk p2.1) s.heap p1.1 p2.1).objs.size=s.heap.objs.size + 3:=by rw [Heap.size_push,z2]
 have z4:(m2U (tk p1.1) (tk p2.1) s.heap p1.1 p2.1).objs.size=s.heap.objs.size + 4:=by rw [Heap.size_push,z3]
 have z5:(m2Z (tk p1.1) (tk p2.1) s.heap p1.1 p2.1).objs.size=s.heap.objs.size + 5:=by rw [Heap.size_push,z4]
 have up:∀ c o,(m2H (tk p1.1) (tk p2.1) s.heap p1.1 p2.1).get? c=some o->(m2Z (tk p1.1) (tk p2.1) s.heap p1.1 p2.1).get? c=some o:=fun c o e=>Heap.get?_push_of_some _ (Heap.get?_push_of_some _ (Heap.get?_push_of_some _ e))
 have g5:(m2Z (tk p1.1) (tk p2.1) s.heap p1.1 p2.1).get? (m2U (tk p1.1) (tk p2.1) s.heap p1.1 p2.1).objs.size=some _:=Heap.get?_push_size _ rfl
 have g4:(m2Z (tk p1.1) (tk p2.1) s.heap p1.1 p2.1).get? (m2T (tk p1.1) (tk p2.1) s.heap p1.1 p2.1).objs.size=some _:=Heap.get?_push_of_some _ (Heap.get?_push_size _ rfl)
 have g3:(m2Z (tk p1.1) (tk p2.1) s.heap p1.1 p2.1).get? (m2H (tk p1.1) (tk p2.1) s.heap p1.1 p2.1).objs.size=some _:=Heap.get?_push_of_some _ (Heap.get?_push_of_some _ (Heap.get?_push_size _ rfl))
 have g2:(m2Z (tk p1.1) (tk p2.1) s.heap p1.1 p2.1).get? (s.heap.push (itO (tk p1.1) p1.1)).objs.size=some (itO (tk p2.1) p2.1):=up _ _ (Heap.get?_push_size _ rfl)
 have g1:(m2Z (tk p1.1) (tk p2.1) s.heap p1.1 p2.1).get? s.heap.objs.size=some (itO (tk p1.1) p1.1):=up _ _ (Heap.get?_push_of_some _ (Heap.get?_push_size _ rfl))
 have kp:∀ c o,s.heap.get? c=some o->(m2Z (tk p1.1) (tk p2.1) s.heap p1.1 p2.1).get? c=some o:=fun c o x=>up _ _ (Heap.get?_push_of_some _ (Heap.get?_push_of_some _ x))
 show _ /\ _
 rw [z2,z3,z4] at g5
 rw [z1,z2] at g3
 rw [z3] at g4
 rw [z1] at g2
 rw [z4]
 refine ⟨⟨_,g5,rfl⟩,h _ ⟨⟨_,_,.inl rfl,g5⟩,g3,⟨_,rfl,g4⟩,fun j p hj=>?_,fun j p hj=>?_,by simp⟩ z5 kp⟩
 ·rw [if_neg (Nat.not_lt_zero _)]
  rcases j with _ | _ | j
  ·simp at hj; subst hj; exact .new g1
  ·simp at hj; subst hj; exact .new g2
  ·simp at hj
 ·rcases j with _ | _ | j
  ·simp at hj; subst hj; exact ⟨h1.lt,h1.at fun o e=>kp _ o e⟩
  ·simp at hj; subst hj; exact ⟨h2.lt,h2.at fun o e=>kp _ o e⟩
  ·simp at hj
end
def ItzM (tk:Addr->Bool) (K:PySem.W.Frag) (as:List Addr):It :=
 ⟨fun i H=>∀ a∈as,∃ xs x,SqX tk K H a xs /\ xs[i]? = some x,
  fun i H v H'=>∃ T r,H T=none /\ v = .ref T /\ (r.length=as.length /\ ∀ (j:Nat) a xs,as[j]? = some a->SqX tk K H a xs->xs[i]? = r[j]?) /\ H'=upd H T (.tup r),
  fun i H=>(∀ a∈as,∃ xs,SqX tk K H a xs) /\ ∃ a∈as,∃ xs,SqX tk K H a xs /\ xs.length <= i⟩
structure ZipTnM (tk:Addr->Bool) (n:Nat) (as:List Addr) (k:Nat) (h:Heap):Prop where
 zip:∃ f0 f1,OwnF f0 /\ db h (n + as.length + 2) (n + as.length) (n + as.length + 1) f0 f1
 ti:cK h (n + as.length) (itsL n as.length).toArray
 to:∃ ws:Array Value,ws.size=as.length /\ cK h (n + as.length + 1) ws
 its:∀ (j:Nat) (a:Addr),as[j]? = some a->IterX (tk a) h (n + j) a k
theorem pQ {K:PySem.W.Frag} {H:Hp}:∀ {as:List Addr},(∀ a∈as,∃ xs,SqX tk K H a xs)->∃ xss:List (List V),as.length=xss.length /\ ∀ (j:Nat) a xs,as[j]? = some a->xss[j]? = some xs->SqX tk K H a xs
 | [],_=>⟨[],rfl,fun j a xs h=>by simp at h⟩
 | a::as,h=>by
  obtain ⟨xs,hx⟩:=h a List.mem_cons_self
  obtain ⟨xss,h1,h2⟩:=pQ fun b hb=>h b (List.mem_cons_of_mem _ hb)
  refine ⟨xs::xss,by simp [h1],fun j b ys hb hy=>?_⟩
  cases j with
  | zero=>simp at hb hy; subst hb hy; exact hx
  | succ j=>exact h2 j b ys (by simpa using hb) (by simpa using hy)
theorem ZipTnM.st {n k:Nat} {as:List Addr} {h:Heap} {src:List (Addr×Array Value)} (t:ZipTnM tk n as k h) (hs:src.map (·.1)=as) (hl:∀ p∈src,SeqX (tk p.1) h p.1 p.2) (hlt:∀ a∈as,a < n) (hne:as≠[]):ZipStM tk h n src k:=by
 have hlen:src.length=as.length:=by rw [← hs,List.length_map]
 obtain ⟨z,ti,to,its⟩:=t
 have at_:∀ (j:Nat) (p:Addr×Array Value),src[j]? = some p->as[j]? = some p.1:=fun j p hp=>by rw [← hs,List.getElem?_map,hp]; rfl
 refine ⟨by rw [hlen]; exact z,by rw [hlen]; exact ti,by rw [hlen]; exact to,fun j p hp=>?_,fun j p hp=>⟨hlt p.1 (List.mem_of_getElem? (at_ j p hp)),hl p (List.mem_of_getElem? hp)⟩,fun e=>hne (by rw [← hs,e]; rfl)⟩
 rw [if_neg (Nat.not_lt_zero _)]
 exact its j p.1 (at_ j p hp)
theorem ZipStM.tn {n k:Nat} {as:List Addr} {h:Heap} {src:List (Addr×Array Value)} (z:ZipStM tk h n src k) (hs:src.map (·.1)=as):ZipTnM tk n as k h:=by
 have hlen:src.length=as.length:=by rw [← hs,List.length_map]
 refine ⟨by rw [← hlen]; exact z.zip,by rw [← hlen]; exact z.ti,by rw [← hlen]; exact z.to,fun j a ha=>?_⟩
 have hj:j < src.length:=by rw [hlen]; exact cN ha
 have hp:src[j]? = some src[j]:=by simp [hj]
 have:=z.its j _ hp
 rw [if_neg (Nat.not_lt_zero _)] at this
 have e:(src[j]).1=a:=by
  have:as[j]? = some (src[j]).1:=by rw [← hs,List.getElem?_map,hp]; rfl
  rw [ha] at this
  exact (Option.some.inj this).symm
 rw [← e]
 exact this
theorem uI {P:Program} {w:World} {K:PySem.W.Frag} {elts:List Expr} {k:Nat} {tp:Pos} (n:Nat) (as:List Addr) (hlt:∀ a∈as,a < n) (h1:as≠[]) (hm4:as.length <= 4) :
  Turn P w K (.Tuple elts k tp) (ItzM tk K as) (fpZ n as.length) (n + as.length + 2) (fun i h=>ZipTnM tk n as i h) where
 mem:=fpZ_mem.mpr ⟨by omega,by omega⟩
 obj:=fun i h st c hc=>by
  obtain ⟨⟨f0,f1,_,hz⟩,hTI,⟨ws,_,hTO⟩,its⟩:=st
  rcases uA hc with rfl | rfl | rfl | ⟨lt,e⟩
  ·exact ⟨_,hz,fun v z=>by have z':Data.fields _=Data.cell v:=z; cases z'⟩
  ·exact ⟨_,hTI,fun v z=>by have z':Data.seq _ _=Data.cell v:=z; cases z'⟩
  ·exact ⟨_,hTO,fun v z=>by have z':Data.seq _ _=Data.cell v:=z; cases z'⟩
  ·obtain ⟨o,eo,d⟩:=(its (c - n) as[c - n] (by simp [lt])).cell
   rw [e] at eo
   exact ⟨o,eo,d⟩
 keep:=fun i h h' st kk=>by
  obtain ⟨⟨f0,f1,hf,hz⟩,hTI,⟨ws,hws,hTO⟩,its⟩:=st
  exact ⟨⟨f0,f1,hf,kk _ (fpZ_mem.mpr ⟨by omega,by omega⟩) _ hz⟩,kk _ (fpZ_mem.mpr ⟨by omega,by omega⟩) _ hTI,⟨ws,hws,kk _ (fpZ_mem.mpr ⟨by omega,by omega⟩) _ hTO⟩,fun j a ha=>(its j a ha).at fun o e=>kk _ (fpZ_mem.mpr ⟨by omega,by have:=cN ha; omega⟩) o e⟩
 item:=by
  intro X hP hw hK hc i pins s σ H E I hf st hg
  subst hP hw hK
  obtain ⟨xss,hl,hsq⟩:=pQ (tk:=tk) (K:=X.K) (H:=H) (as:=as) fun a ha=>let ⟨xs,x,h,_⟩:=hg a ha; ⟨xs,h⟩
  obtain ⟨src,hsa,hv,hls,hb⟩:=mC (tk:=tk) rfl I hl hsq
  have hls4:src.length=as.length:=by rw [← hsa,List.length_map]
  have hst:=st.st hsa hls hlt h1
  have sz4:src.length <= sizeLine:=Nat.le_trans (show src.length <= 4 by omega) (by decide)
  rw [show n + as.length + 2=n + src.length + 2 by rw [hls4]]
  refine bB (I.ok.hd hc) sz4 hst (fun vs h' ht hz' hT' hs' hk=>?_) (fun he h' hk=>?_)
  ·obtain ⟨r,hr,rv⟩:=jv hv ht
   obtain ⟨f0,f1,hf0,hzz⟩:=hz'.zip
   refine ⟨_,rfl,zh hf0 hzz fun h4 f0' hf0' hz4 hs4=>?_⟩
   have hzl:n + src.length + 2 < s.heap.objs.size:=by
    obtain ⟨_,_,_,q⟩:=st.zip
    rw [hls4]
    exact Heap.lt_size q
   have hz4st:ZipTnM tk n as (i + 1) h4:=by
    have z0:=hz'.tn hsa
    obtain ⟨_,hTI,⟨ws,hws,hTO⟩,its⟩:=z0
    rw [hls4] at hz4 hs4
    refine ⟨⟨f0',f1,hf0',hz4⟩,hs4.extBut _ _ (by intro e; have e:(_:Nat)=(_:Nat):=e; omega) hTI,⟨ws,hws,hs4.extBut _ _ (by intro e; have e:(_:Nat)=(_:Nat):=e; omega) hTO⟩,fun j a ha=>(its j a ha).extBut hs4.extBut (by have:=cN ha; intro e; have e:(_:Nat)=(_:Nat):=e; omega)⟩
   have I2:Inv X pins σ (upd H s.heap.objs.size (.tup r)) { s with heap:=h4 }:=by
    refine I.turnedN (t':=s.toks) (ch:=fpZ n as.length) hf (fun b o hb q=>?_) (Nat.le_refl _) ⟨?_,vs,rv,?_⟩
    ·rw [← hls4] at hb
     exact hs4.extBut _ _ (Bs hb) (hk b o (jw (pM hb)) q)
    ·rw [hr.1,← hl]; exact Nat.le_trans hm4 (by decide)
    ·exact ⟨_,hs4.extBut _ _ (by intro e; have e:(_:Nat)=(_:Nat):=e; omega) hT',rfl,_,rfl⟩
   refine ⟨.ref s.heap.objs.size,_,I2,rfl,⟨s.heap.objs.size,r,I.hok.fresh (Nat.le_refl _),rfl,⟨by rw [hr.1,hl],fun j a xs ha hx=>?_⟩,rfl⟩,hz4st,fun b hb=>?_⟩
   ·have hj:j < xss.length:=by rw [← hl]; exact cN ha
    have hxs:xss[j]? = some xss[j]:=by simp [hj]
    have:=hsq j a xss[j] ha hxs
    rw [SqX.inj I hx this]
    exact hr.2 j _ hxs
   ·have:=fpZ_mem.mp hb
    rw [ak (by intro e; have e:(_:Nat)=(_:Nat):=e; omega)]
    exact (hf b hb).1
  ·exfalso
   obtain ⟨j,p,hj,hp⟩:=he
   have ha:as[j]? = some p.1:=by rw [← hsa,List.getElem?_map,hj]; rfl
   obtain ⟨xs,x,h,hx⟩:=hg p.1 (List.mem_of_getElem? ha)
   have hjx:j < xss.length:=by rw [← hl]; exact cN ha
   have hxs:xss[j]? = some xss[j]:=by simp [hjx]
   rw [SqX.inj I h (hsq j p.1 _ ha hxs)] at hx
   obtain ⟨u,hu,_⟩:=(hv.2 j _ p hxs hj).get hx
   rw [Array.getElem?_toList,hp] at hu
   cases hu
 done:=by
  intro X hP hw hK hc i pins s σ H E I hf st hg
  subst hP hw hK
  obtain ⟨hall,a0,ha0,xs0,hx0,hle⟩:=hg
  obtain ⟨xss,hl,hsq⟩:=pQ (tk:=tk) (K:=X.K) (H:=H) (as:=as) hall
  obtain ⟨src,hsa,hv,hls,hb⟩:=mC (tk:=tk) rfl I hl hsq
  have hls4:src.length=as.length:=by rw [← hsa,List.length_map]
  have hst:=st.st hsa hls hlt h1
  have sz4:src.length <= sizeLine:=Nat.le_trans (show src.length <= 4 by omega) (by decide)
  rw [show n + as.length + 2=n + src.length + 2 by rw [hls4]]
  refine bB (I.ok.hd hc) sz4 hst (fun vs h' ht hz' hT' hs' hk=>?_) (fun he h' hk=>⟨rfl,?_⟩)
  ·exfalso
   obtain ⟨r,hr,rv⟩:=jv hv ht
   obtain ⟨j,hj⟩:=List.mem_iff_getElem?.mp ha0
   have hjx:j < xss.length:=by rw [← hl]; exact cN hj
   have hxs:xss[j]? = some xss[j]:=by simp [hjx]
   have e:=SqX.inj I hx0 (hsq j a0 _ hj hxs)
   have:=hr.2 j _ hxs
   rw [← e,List.getElem?_eq_none hle,List.getElem?_eq_getElem (by rw [hr.1]; exact hjx)] at this
   cases this
  ·refine I.turnedL (t':=s.toks) (ch:=fpZ n as.length) hf fun b o hb q=>hk b o ?_ q
   rw [← hls4] at hb
   exact jw (pM hb)
 self:=fun A i s Q E st h=>by
  obtain ⟨f0,f1,_,hz⟩:=st.zip
  have hT:s.TypeIs (.ref (n + as.length + 2)) "zip":=⟨_,hz,rfl⟩
  refine wpAny_pyIter_slot hT F.slot_zip_iter (wpAny_call_entry F.slot_zip_iter hT F.entry_zip_iter ?_ (F.args_zip_iter_1 _))
  show wpAny _ _ (ret (.ref (n + as.length + 2))) _ _ s
  exact wpAny_pure ⟨_,rfl,"zip",_,hT,F.slot_zip_next.lookup,h⟩
end
section
variable {X:Cx}
def CV (K:PySem.W.Frag) (ta:TA):TI:=fun σ H R=>ta σ H fun vs H1=>∃ (tk:Addr->Bool) (a b:Addr),vs=[.ref a,.ref b] /\ (∃ xs,SqX tk K H1 a xs) /\ (∃ xs,SqX tk K H1 b xs) /\ R (ItzM tk K [a,b]) H1
theorem zp {l l':Expr} {ta:TA} {p pos tp:Pos} {elts:List Expr} {k:Nat} (hg:Gl X "zip") (hm:X.mg "zip" = none) (ha:PA X [l,l'] ta) (he:starEach [l,l'] X.env=(false,eval l X.env)::starEach [l'] X.env:=by rfl) (hpl:(backTo pos (starEach [l'] X.env)).any (·.1)=false:=by rfl) :
  PI X (.Tuple elts k tp) (.Call (.Name "zip" p) [l,l'] [] pos) (CV X.K ta):=by
 intro pins s σ H R I h
 refine Call_ (iW I hg hm qK (PyProof.Rows.callWith_type1 (thn (ha pos pins s σ H _ I h) fun us s1 ⟨vs,H1,I1,r1,q1⟩=>?_) he hpl))
 obtain ⟨tk,a,b,e,⟨xs,hq⟩,⟨ys,hq'⟩,q⟩:=q1
 subst e
 obtain ⟨u,u',rfl,ru,ru'⟩:=r1.two
 cases ru
 cases ru'
 obtain ⟨its,rv,pl,hz⟩:=hq.at I1
 obtain ⟨its',rv',pl',hz'⟩:=hq'.at I1
 refine oB (tk:=tk) (p1:=(a,its.toArray)) (p2:=(b,its'.toArray)) pl pl' fun h' hz hz' hk=>?_
 have I2:Inv X pins σ H1 { s1 with heap:=h' }:=I1.kept (t':=s1.toks) hk
 have hlt:∀ c∈[a,b],c < s1.heap.objs.size:=fun c hc=>by
  simp only [List.mem_cons,List.not_mem_nil,or_false] at hc
  rcases hc with rfl | rfl
  ·exact pl.lt
  ·exact pl'.lt
 have tz:=uI (tk:=tk) (P:=X.prog) (w:=X.w) (K:=X.K) (elts:=elts) (k:=k) (tp:=tp) s1.heap.objs.size [a,b] hlt (by simp) (by simp)
 have tn:=hz.tn (as:=[a,b]) rfl
 exact tz.self X.A 0 _ _ _ tn ⟨_,_,_,ItzM tk X.K [a,b],H1,rfl,I2,tz,tn,fun b hb=>I1.fpOk (fpZ_mem.mp hb).1 (I1.hok.fresh (fpZ_mem.mp hb).1),q⟩
end
end L2
namespace DL
open PySem PySem.Spec PyProof.Rows L2
variable [TB]
variable [Frm]
def seqD:D->Option (List D)
 | .lst xs=>some xs
 | .tup xs=>some xs
 | _=>none
omit [Frm] in
theorem xW {K:PySem.W.Frag} {pp:Option Addr} {M:List Addr} {H:Hp} {d:D} {v:V} {ds:List D} (r:Rep K pp M H d v) (e:seqD d=some ds) :
  ∃ a xs,v = .ref a /\ Reps K pp M H ds xs /\ ∀ M2 H2,Mv K pp M H M2 H2->SqX (fun c=>L2.isTupO (H c)) K H2 a xs:=by
 cases d <;> simp only [seqD] at e <;> cases e
 all_goals simp only [Rep] at r
 ·obtain ⟨a,xs,rfl,ha,rd⟩:=r
  refine ⟨a,xs,rfl,rd,fun M2 H2 m2=>?_⟩
  unfold SqX
  rw [if_pos (show L2.isTupO (H a)=true by rw [ha]; rfl)]
  exact SqT.of (m2.tup a xs ha)
 ·obtain ⟨a,xs,rfl,hm,hp,ha,rd⟩:=r
  refine ⟨a,xs,rfl,rd,fun M2 H2 m2=>?_⟩
  unfold SqX
  rw [if_neg (show ¬ L2.isTupO (H a)=true by rw [ha]; intro z; cases z)]
  exact SqL.of (m2.lst a xs ha hm hp).1
section
variable {X:Cx}
abbrev BB (t:DA):DA:=fun ρ Q=>t ρ fun ds ρ'=>match ds with
 | [a,b]=>∃ xs ys,seqD a=some xs /\ seqD b=some ys /\ Q (zipD xs ys) ρ'
 | _=>False
theorem pR {l l':Expr} {tl:DA} {p pos tp:Pos} {elts:List Expr} {k:Nat} (hg:Gl X "zip") (hm:X.mg "zip" = none) (ha:PAD X [l,l'] tl) (he:starEach [l,l'] X.env=(false,eval l X.env)::starEach [l'] X.env:=by rfl) (hpl:(backTo pos (starEach [l'] X.env)).any (·.1)=false:=by rfl) :
  PID X (.Tuple elts k tp) (.Call (.Name "zip" p) [l,l'] [] pos) (BB tl):=by
 obtain ⟨T,pa,r⟩:=ha.run
 refine ⟨fun _ _ _ f h=>ha.mono _ _ _ (fun d _ h=>?_) h,_,zp hg hm pa he hpl,fun {F} M H σ ρ R rs h=>r M H σ ρ _ rs (ha.mono _ _ _ (fun d ρ' h M' H' v m rs' rd=>?_) h)⟩
 ·split at h
  ·obtain ⟨xs,ys,a,b,h⟩:=h
   exact ⟨xs,ys,a,b,f _ _ h⟩
  ·exact h.elim
 ·split at h
  case h_2=>exact h.elim
  rename_i d1 d2
  obtain ⟨ds,ds',e1,e2,h⟩:=h
  simp only [Reps] at rd
  obtain ⟨x,r0,rfl,hx,x',r0',rfl,hx',rfl⟩:=rd
  obtain ⟨a,xs,rfl,rd,ka⟩:=xW hx e1
  obtain ⟨b,ys,rfl,rd',kb⟩:=xW hx' e2
  have L:=eK ds ds'
  refine ⟨fun c=>L2.isTupO (H' c),a,b,rfl,⟨xs,ka _ _ .refl⟩,⟨ys,kb _ _ .refl⟩,h M' H' _ m rs' ⟨fun M2 H2 m2 i d y H3 e yl=>?_,fun M2 H2 m2 i hi=>?_,fun M2 H2 m2 i hi=>?_⟩⟩
  ·obtain ⟨T,r,hT,rfl,⟨hr,hz⟩,rfl⟩:=yl
   obtain ⟨d1,d2,hd1,hd2,rfl⟩:=ju ds ds' i d e
   obtain ⟨v1,hv1,rv1⟩:=rd.get' hd1
   obtain ⟨v2,hv2,rv2⟩:=rd'.get' hd2
   have z1:=hz 0 a xs rfl (ka _ _ m2)
   have z2:=hz 1 b ys rfl (kb _ _ m2)
   rw [hv1] at z1
   rw [hv2] at z2
   have er:r=[v1,v2]:=by
    match r,hr,z1,z2 with
    | [p,q],_,z1,z2 =>
     cases z1
     cases z2
     rfl
   subst er
   refine ⟨.new hT,?_⟩
   simp only [Rep]
   exact ⟨T,_,rfl,ao,.cons ((rv1.mv m2).mv (.new hT)) (.one ((rv2.mv m2).mv (.new hT)))⟩
  ·rw [L,rd.length,rd'.length] at hi
   intro c hc
   simp only [List.mem_cons,List.not_mem_nil,or_false] at hc
   rcases hc with rfl | rfl
   ·exact ⟨xs,xs[i]'(by omega),ka _ _ m2,by simp⟩
   ·exact ⟨ys,ys[i]'(by omega),kb _ _ m2,by simp⟩
  ·rw [L,rd.length,rd'.length] at hi
   refine ⟨fun c hc=>?_,?_⟩
   ·simp only [List.mem_cons,List.not_mem_nil,or_false] at hc
    rcases hc with rfl | rfl
    ·exact ⟨xs,ka _ _ m2⟩
    ·exact ⟨ys,kb _ _ m2⟩
   ·rcases Nat.lt_or_ge ys.length xs.length with z | z
    ·exact ⟨b,by simp,ys,kb _ _ m2,by omega⟩
    ·exact ⟨a,by simp,xs,ka _ _ m2,by omega⟩
end
end DL
namespace DL
open PySem PySem.Spec L2
open PyProof.Rows hiding St
variable [TB]
section
variable [Frm] {X:Cx}
end
end DL
namespace L2
open PySem PySem.Spec PyProof.Rows
open AutoSeq1 (wpAny_loadPart')
section
variable {prog:Program} {w:World} {A:Around} {E:Value->Shared->Prop} {s:Shared}
end
section
variable {prog:Program} {w:World} {A:Around} {E:Value->Shared->Prop} {s:Shared}
end
section
variable {X:Cx}
end
end L2
namespace DL
open PySem PySem.Spec L2
open PyProof.Rows hiding St
variable [TB]
section
variable [Frm] {X:Cx}
end
end DL
namespace DL
open PySem PySem.Spec L2
open PyProof.Rows hiding St
variable [TB]
section
variable [Frm] {X:Cx}
end
end DL
namespace DL
open PySem PySem.Spec L2
open PyProof.Rows hiding St
variable [TB]
section
variable [Frm] {X:Cx} {xi:XI} {x:Str} {p pos np cpos:Pos} {e:Expr} {es:List Expr} {t:DA} {g:DSpE} {W:DS->Addr->Prop}
end
section
variable {xi:XI} {P:Program} {w:World} {K:PySem.W.Frag} {mg:Str->Option Value} {base:Heap} {k:Nat} {f:Addr} {fd:FuncData} {ps:List Str} {n:Nat}
end
section
variable [fr0:Frm] {xi:XI} {X:Cx} {body suite:List Stmt} {b0:Stmt} {n x:Str} {np hpos pos:Pos} {C0:Addr} {i:Nat} {tb:(DS->Addr->Prop)->DTS} {th:DTS} {K:PySem.W.Frag}
end
section
variable [Frm] {X:Cx}
end
end DL
namespace L2
open PySem PySem.Spec PyProof.Rows
section
variable {prog:Program} {w:World} {A:Around} {E:Value->Shared->Prop} {s:Shared}
theorem wM {t b:Addr} {vs ws:List Value} {Q:Value->Shared->Prop} (ht:IsTup s.heap t vs.toArray) (hb:IsTup s.heap b ws.toArray) (hv:vs=[])
  (h:Q (.ref b) s):wpAny (model prog w) A (binaryOp .Add (.ref t) (.ref b)) Q E s:=by
 obtain ⟨⟨cls,dd,data,sl⟩,ho,hc,n,hd⟩:=id ht
 obtain ⟨⟨cls2,dd2,data2,sl2⟩,ho2,hc2,n2,hd2⟩:=id hb
 simp only at hc hd hc2 hd2
 subst hc hd hc2 hd2
 exact concat_meets ⟨_,ho,rfl⟩ ⟨_,ho2,rfl⟩ noFill_tuple_add seq_tuple_add PySem.F.slot_tuple_add PySem.F.entry_tuple_add (PySem.F.args_tuple_add_2 _ _)
   (tuple_addW0 t b vs.toArray ws.toArray n n2 dd dd2 sl sl2 (by simp [hv])) ⟨ho,ho2,h⟩
end
section
variable {X:Cx}
def BC (K:PySem.W.Frag):R2:=fun x y H Q=>∃ a b ys,x = .ref a /\ y = .ref b /\ SqT K H a [] /\ SqT K H b ys /\ Q (.ref b) H
theorem zq:OpR X (binaryOp .Add) (fun x y H Q=>Az X.K x y H Q∨BC X.K x y H Q):=by
 intro pins s σ H x y v u Q I rx ry h
 rcases h with h | h
 ·exact yD pins s σ H x y v u Q I rx ry h
 ·obtain ⟨a,b,ys,rfl,rfl,ha,hb,q⟩:=h
  cases rx
  cases ry
  obtain ⟨its,r1,p1,_⟩:=I.tuple ha
  obtain ⟨its2,r2,p2,_⟩:=I.tuple hb
  exact wM p1 p2 (r1.nil_iff.mpr rfl) ⟨.ref b,H,I,rfl,q⟩
end
end L2
namespace DL
open PySem PySem.Spec L2
open PyProof.Rows hiding St
variable [TB]
section
variable {X:Cx}
def CW:D->D->(D->Prop)->Prop
 | .tup xs,.tup ys,P=>(xs.length + ys.length <= sizeLine) /\ P (.tup (xs++ys))
 | _,_,_=>False
theorem pS:OpD X (binaryOp .Add) CW:=by
 refine ⟨fun x y P P' f h=>?_,_,zq,fun {pp} M H x y v u Q lv rx ry h=>?_⟩
 ·cases x <;> first | exact h.elim | skip
  cases y <;> first | exact h.elim | exact ⟨h.1,f _ h.2⟩
 ·cases x <;> first | exact h.elim | skip
  cases y <;> first | exact h.elim | skip
  rename_i xs ys
  by_cases z:xs=[]
  ·subst z
   have ry':=ry
   simp only [Rep] at rx ry
   obtain ⟨a,us,rfl,ha,ra⟩:=rx
   obtain ⟨b,ws,rfl,hb,rb⟩:=ry
   have e:us=[]:=List.length_eq_zero_iff.mp ra.length.symm
   subst e
   exact .inr ⟨a,b,ws,rfl,rfl,SqT.of ha,SqT.of hb,h.2 H _ .refl ry'⟩
  ·have rx':=rx
   simp only [Rep] at rx ry
   obtain ⟨a,us,rfl,ha,ra⟩:=rx
   obtain ⟨b,ws,rfl,hb,rb⟩:=ry
   obtain ⟨h2,h⟩:=h
   refine .inl ⟨a,b,us,ws,rfl,rfl,SqT.of ha,SqT.of hb,?_,by rw [← ra.length,← rb.length]; exact h2,fun e=>?_,fun e l hl=>?_⟩
   ·rintro rfl
    exact z (List.length_eq_zero_iff.mp ra.length)
   ·subst e
    have e2:ys=[]:=List.length_eq_zero_iff.mp rb.length
    subst e2
    rw [List.append_nil] at h
    exact h H _ .refl rx'
   ·refine h _ _ (.new hl) ?_
    simp only [Rep]
    exact ⟨l,_,rfl,ao,(ra.append rb).mv (.new hl)⟩
end
end DL
namespace DL
open PySem PySem.Spec L2
open PyProof.Rows hiding St
variable [TB]
section
variable [Frm] {X:Cx}
end
end DL
namespace L2
open PySem PySem.Spec PyProof.Rows
open AutoSeq1 (wpAny_loadPart')
abbrev uJ (t:Addr):Obj:={ cls:=.type "tuple_iterator",data:=.fields #[.ref t,.int 0 0] }
abbrev zr (it:Addr):Obj:={ cls:=.type "enumerate",data:=.fields #[.none,.bool false,.ref it,rawInt 0,.none,.none] }
set_option maxHeartbeats 1000000 in
theorem uK (t:Addr) (xs:Array Value) (n:Nat) (dd:Option Addr) (sl:Array (Option Value)) :
  Meets (Builtin.«enumerate.__new__» ⟨[.type "enumerate",.ref t],[]⟩) (fun _ R s=>s.heap.get? t=some ⟨.type "tuple",dd,.seq xs n,sl⟩ /\ R (.ok (.ret (.ref (s.heap.push (uJ t)).objs.size))) { s with heap:=(s.heap.push (uJ t)).push (zr s.heap.objs.size) }):=by
 refine .of_wp fun prog w A R s ⟨ht,q⟩=>?_
 obtain ⟨hp,g,d,tk,os⟩:=s
 have hs:=sub_enumerate
 have it:Heap.IsTuple (Shared.heap ⟨hp,g,d,tk,os⟩) t xs:=⟨_,ht,rfl,n,rfl⟩
 wp_walk using wpAny_loadPart' ht
 refine wpAny_stack_any (fun σs=>wpAny_pure ?_)
 split
 ·rename_i c _ _ _ _ _
  rcases hcc:(c == Value.type "enumerate") with _ | _
  ·(wp_walk using wpAny_loadPart' ht,wpAny_pyIter_tuple it); exact ⟨_,rfl,q⟩
  ·(wp_walk using wpAny_loadPart' ht,wpAny_pyIter_tuple it); exact ⟨_,rfl,q⟩
 ·(wp_walk using wpAny_loadPart' ht,wpAny_pyIter_tuple it); exact ⟨_,rfl,q⟩
section
variable {prog:Program} {w:World} {A:Around} {E:Value->Shared->Prop} {s:Shared}
theorem wN {t:Addr} {xs:Array Value} {Q:Value->Shared->Prop} (ht:IsTup s.heap t xs)
  (q:∀ h',IsEnum h' (s.heap.objs.size + 1) s.heap.objs.size 0 .none->h'.IsTupleIter s.heap.objs.size t 0->(∀ b o,s.heap.get? b=some o->h'.get? b=some o)->Q (.ref (s.heap.objs.size + 1)) { s with heap:=h' }) :
  wpAny (model prog w) A (call (.type "enumerate") [.ref t]) Q E s:=by
 obtain ⟨⟨cl,dd,da,sl⟩,ho,oc,n,od⟩:=ht
 simp only at oc od
 subst oc od
 have z:(s.heap.push (uJ t)).objs.size=s.heap.objs.size + 1:=Heap.size_push ..
 refine callType_new F.called_enumerate (by decide) (F.typeCall_enumerate_1 _) (F.newCall_enumerate_1 _) (fun o=>F.args_object_init_2 o _) F.entry_enumerate_new (uK t xs n dd sl) ⟨ho,?_⟩
 have e:IsEnum ((s.heap.push (uJ t)).push (zr s.heap.objs.size)) (s.heap.objs.size + 1) s.heap.objs.size 0 .none:=by
  have:=Heap.get?_push_size (s.heap.push (uJ t)) (o:=zr s.heap.objs.size) rfl
  rwa [z] at this
 show _ /\ _
 rw [z]
 exact ⟨⟨_,e,rfl⟩,q _ e ⟨_,Heap.get?_push_of_some _ (Heap.get?_push_size _ rfl),rfl,rfl⟩ fun b o x=>Heap.get?_push_of_some _ (Heap.get?_push_of_some _ x)⟩
theorem uL (hh:A.handled=none) (it t:Addr) (ne:t≠it) (xs:Array Value):Draws prog w A it [it,t] xs.size (fun i v=>xs[i]? = some v) (fun i h=>h.IsTupleIter it t i /\ h.IsTuple t xs):=by
 refine ⟨fun i h x=>?_,fun i h h' x k=>?_,fun i s Q E hi x q=>?_,fun s Q E x q=>dO hh x.1 x.2 (by simp) q⟩
 ·obtain ⟨⟨o,e,_⟩,_⟩:=x
  exact ⟨o,e⟩
 ·obtain ⟨⟨o,e,r⟩,o2,e2,r2⟩:=x
  exact ⟨⟨o,k it (by simp) o e,r⟩,o2,k t (by simp) o2 e2,r2⟩
 ·refine fh x.1 x.2 (v:=xs[i]) (by simp [hi]) fun h' it' sb=>?_
  exact q _ h' s.toks (by simp [hi]) ⟨it',x.2.extBut sb.extBut ne⟩ sb
theorem uM (hh:A.handled=none) (it t:Addr) {i:Nat} {xs:Array Value} (hx:xs[i]? = none):Draws prog w A it [it,t] 0 (fun _ _=>False) (fun _ h=>h.IsTupleIter it t i /\ h.IsTuple t xs):=by
 refine ⟨fun j h x=>?_,fun j h h' x k=>?_,fun j s Q E hj _ _=>absurd hj (Nat.not_lt_zero _),fun s Q E x q=>dO hh x.1 x.2 hx q⟩
 ·obtain ⟨⟨o,e,_⟩,_⟩:=x
  exact ⟨o,e⟩
 ·obtain ⟨⟨o,e,r⟩,o2,e2,r2⟩:=x
  exact ⟨⟨o,k it (by simp) o e,r⟩,o2,k t (by simp) o2 e2,r2⟩
end
def IteT (K:PySem.W.Frag) (a:Addr):It :=
 ⟨fun i H=>∃ xs x,SqT K H a xs /\ xs[i]? = some x,fun i H x H'=>∃ T y,H T=none /\ x = .ref T /\ (∀ xs,SqT K H a xs->xs[i]? = some y) /\ H'=upd H T (.tup [.int i,y]),fun i H=>∃ xs,SqT K H a xs /\ xs.length <= i⟩
theorem uN {h:Heap} {a b:Addr} {its:Array Value} {o:Obj} {n:String} (hl:IsTup h a its) (ho:h.get? b=some o) (hc:o.cls = .type n) (hn:n ≠ "tuple"):a≠b:=by
 rintro rfl
 obtain ⟨o',e,c,_⟩:=hl
 rw [ho] at e
 cases e
 rw [hc] at c
 cases c
 exact hn rfl
theorem sk {P:Program} {w:World} {K:PySem.W.Frag} {elts:List Expr} {k:Nat} {tp:Pos} (a e it:Addr) (hei:e≠it):Turn P w K (.Tuple elts k tp) (IteT K a) [e,it] e (fun i h=>(∃ old,IsEnum h e it i old) /\ h.IsTupleIter it a i) where
 mem:=by simp
 obj:=fun i h st b hb=>by
  obtain ⟨⟨old,he⟩,ho⟩:=st
  rcases List.mem_cons.mp hb with rfl | hb
  ·exact ⟨_,he,fun v z=>by
    have z':Data.fields _=Data.cell v:=z
    cases z'⟩
  ·have:b=it:=by simpa using hb
   subst this
   obtain ⟨o,eo,c,d⟩:=ho
   exact ⟨o,eo,fun v z=>by rw [d] at z; cases z⟩
 keep:=fun i h h' st k=>by
  obtain ⟨⟨old,he⟩,o,eo,r⟩:=st
  exact ⟨⟨old,k e (by simp) _ he⟩,o,k it (by simp) o eo,r⟩
 item:=by
  intro X hP hw hK hc i pins s σ H E I hf st hg
  subst hP hw hK
  obtain ⟨xs,x,hq,hx⟩:=hg
  obtain ⟨its,rv,p,hz⟩:=I.tuple hq
  obtain ⟨u,hu,ru⟩:=rv.get hx
  obtain ⟨⟨old,he⟩,hit⟩:=st
  have hae:a≠e:=uN p he rfl (by decide)
  have hai:a≠it:=by
   obtain ⟨o,eo,c,d⟩:=id hit
   exact uN p eo c (by decide)
  have W:=WalksT.enumerateD (prog:=X.prog) (w:=X.w) (A:=X.A) (uL (A:=X.A.in1) (I.ok.hd hc) it a hai its.toArray) e hei (by simp [hei,Ne.symm hae]) (by simp)
  have hi:i < its.toArray.size:=by
   have:=(List.getElem?_eq_some_iff.mp hu).1
   simpa using this
  refine W.item i s _ _ hi ⟨⟨old,he⟩,hit,p⟩ fun T vals h1 tk hP hT hIs hMid hk=>?_
  obtain ⟨t,z,hz',rfl⟩:=hP
  have ezu:z=u:=by
   have:its.toArray[i]? = some u:=by simpa using hu
   rw [this] at hz'
   cases hz'
   rfl
  subst ezu
  have ap:=W.apart i T h1 hMid
  refine ⟨_,rfl,W.go elts k tp i T { s with heap:=h1,toks:=tk } _ _ hMid fun h2 st2 hk2=>?_⟩
  obtain ⟨st21,st22,_⟩:=st2
  have I2:Inv X pins σ (upd H T (.tup [.int i,x])) { s with heap:=h2,toks:=tk }:=by
   refine I.turnedN (ch:=[e,it]) hf (fun b o hb q=>hk2 b o hb (hk b o hb q)) hT ⟨?_,[.int i t,z],.cons ⟨t,rfl⟩ (.cons ru .nil),?_⟩
   ·show 2 <= sizeLine
    decide
   ·obtain ⟨o,eo,r⟩:=hIs
    exact ⟨o,hk2 T o ap eo,r⟩
  refine ⟨.ref T,_,I2,rfl,⟨T,x,I.hok.fresh hT,rfl,fun ys hy=>by rw [I.tuple_inj hy hq]; exact hx,rfl⟩,⟨by simpa using st21,st22⟩,fun b hb=>?_⟩
  have fb:=hf b hb
  rw [ak]
  ·exact fb.1
  ·rintro rfl
   exact ap hb
 done:=by
  intro X hP hw hK hc i pins s σ H E I hf st hg
  subst hP hw hK
  obtain ⟨xs,hq,hx⟩:=hg
  obtain ⟨its,rv,p,hz⟩:=I.tuple hq
  obtain ⟨⟨old,he⟩,hit⟩:=st
  have hl:=rv.length
  refine wpAny_pyNext_enum_endD (uM (A:=X.A.in1) (I.ok.hd hc) it a (i:=i) (xs:=its.toArray) (by simp; omega)) he ⟨hit,p⟩ fun h1 hx1=>⟨rfl,?_⟩
  exact I.turnedL (t':=s.toks) (ch:=[e,it]) hf fun b o hb q=>hx1 b o (fun z=>hb (by simp [z])) q
 self:=fun _ _ _ _ _ st h=>let ⟨_,he⟩:=st.1; wpAny_pyIter_enum he h
section
variable {X:Cx}
def BD (K:PySem.W.Frag) (ta:TA):TI:=fun σ H R=>ta σ H fun vs H1=>∃ a,vs=[.ref a] /\ (∃ xs,SqT K H1 a xs) /\ R (IteT K a) H1
theorem wO {l:Expr} {ta:TA} {p pos tp:Pos} {elts:List Expr} {k:Nat} (hg:Gl X "enumerate") (hm:X.mg "enumerate" = none) (ha:PA X [l] ta) (he:starEach [l] X.env=(false,eval l X.env)::starEach [] X.env:=by rfl) (hpl:(backTo pos (starEach [] X.env)).any (·.1)=false:=by rfl) :
  PI X (.Tuple elts k tp) (.Call (.Name "enumerate" p) [l] [] pos) (BD X.K ta):=by
 intro pins s σ H R I h
 refine Call_ (iW I hg hm uq (PyProof.Rows.callWith_type1 (thn (ha pos pins s σ H _ I h) fun us s1 ⟨vs,H1,I1,r1,q1⟩=>?_) he hpl))
 obtain ⟨a,e,⟨xs,hq⟩,q⟩:=q1
 subst e
 obtain ⟨u,rfl,ru⟩:=r1.one
 cases ru
 obtain ⟨its,rv,pl,hz⟩:=I1.tuple hq
 refine wN pl fun h1 hE hit hk=>?_
 refine wpAny_pyIter_enum hE ?_
 have ne:s1.heap.objs.size + 1≠s1.heap.objs.size:=by omega
 refine ⟨_,[s1.heap.objs.size + 1,s1.heap.objs.size],_,IteT X.K a,H1,rfl,I1.kept (t':=s1.toks) hk,sk a _ _ ne,⟨⟨_,hE⟩,hit⟩,fun b hb=>?_,q⟩
 rcases List.mem_cons.mp hb with rfl | hb
 ·exact I1.fpOk (Nat.le_succ _) (I1.hok.fresh (Nat.le_succ _))
 ·have:b=s1.heap.objs.size:=by simpa using hb
  subst this
  exact I1.fpOk (Nat.le_refl _) (I1.hok.fresh (Nat.le_refl _))
end
end L2
namespace DL
open PySem PySem.Spec L2
open PyProof.Rows hiding St
variable [TB]
section
variable [Frm] {X:Cx}
abbrev zt (t:DA):DA:=fun ρ Q=>t ρ fun ds ρ'=>match ds with
 | [.tup xs]=>Q (kK 0 xs) ρ'
 | _=>False
theorem wP {l:Expr} {tl:DA} {p pos tp:Pos} {elts:List Expr} {k:Nat} (hg:Gl X "enumerate") (hm:X.mg "enumerate" = none) (ha:PAD X [l] tl) (he:starEach [l] X.env=(false,eval l X.env)::starEach [] X.env:=by rfl) (hpl:(backTo pos (starEach [] X.env)).any (·.1)=false:=by rfl) :
  PID X (.Tuple elts k tp) (.Call (.Name "enumerate" p) [l] [] pos) (zt tl):=by
 obtain ⟨T,pa,r⟩:=ha.run
 refine ⟨fun _ _ _ f h=>ha.mono _ _ _ (fun d _ h=>?_) h,_,wO hg hm pa he hpl,fun {F} M H σ ρ R rs h=>r M H σ ρ _ rs (ha.mono _ _ _ (fun d ρ' h M' H' v m rs' rd=>?_) h)⟩
 ·split at h
  ·exact f _ _ h
  ·exact h.elim
 ·split at h
  case h_2=>exact h.elim
  rename_i ds
  simp only [Reps,Rep] at rd
  obtain ⟨x,r0,rfl,⟨a,xs,rfl,ha,rd⟩,rfl⟩:=rd
  refine ⟨a,rfl,⟨xs,SqT.of ha⟩,h M' H' _ m rs' ⟨fun M2 H2 m2 i d y H3 e yl=>?_,fun M2 H2 m2 i hi=>?_,fun M2 H2 m2 i hi=>?_⟩⟩
  ·obtain ⟨T,z,hT,rfl,hz,rfl⟩:=yl
   obtain ⟨d',hd',rfl⟩:=nZ ds 0 i d e
   obtain ⟨v',hv',rv'⟩:=rd.get' hd'
   have:=hz xs (SqT.of (m2.tup a xs ha))
   rw [hv'] at this
   cases this
   refine ⟨.new hT,?_⟩
   simp only [Rep]
   exact ⟨T,_,rfl,ao,.cons (by rw [Nat.zero_add]; exact bV) (.one ((rv'.mv m2).mv (.new hT)))⟩
  ·have hi':i < xs.length:=by rw [← rd.length,← fg ds 0]; exact hi
   exact ⟨xs,xs[i],SqT.of (m2.tup a xs ha),by simp [hi']⟩
  ·exact ⟨xs,SqT.of (m2.tup a xs ha),by rw [← rd.length,← fg ds 0]; exact hi⟩
abbrev dIfL (tc:DT) (ta tb:DA):DA:=fun ρ Q=>tc ρ fun b ρ1=>Br b (ta ρ1 Q) (tb ρ1 Q)
theorem wQ {a b c:Expr} {pos:Pos} {tc:DT} {ta tb:DA} (hc:PTD X c tc) (ha:PLD X a ta) (hb:PLD X b tb):PLD X (.IfExp c a b pos) (dIfL tc ta tb):=by
 obtain ⟨T,p,r⟩:=hc.run
 obtain ⟨U,q,s⟩:=ha.run
 obtain ⟨U',q',s'⟩:=hb.run
 refine ⟨fun _ _ _ f h=>hc.mono _ _ _ (fun _ _ h=>⟨fun e=>ha.mono _ _ _ f (h.yes e),fun e=>hb.mono _ _ _ f (h.no e)⟩) h,_,qz p q q',fun {F} M H σ ρ Q rs h=>?_⟩
 refine r M H σ ρ _ rs (hc.mono _ _ _ (fun c ρ1 h M1 H1 m1 rs1=>?_) h)
 cases c with
 | true=>exact iteT (s M1 H1 σ ρ1 _ rs1 (ha.mono _ _ _ (fun c ρ2 h M2 H2 H3 l xs m2 rs2 e1 e2 e3=>h M2 H2 H3 l xs (m1.trans m2) rs2 e1 e2 e3) (h.yes rfl)))
 | false=>exact iteF (s' M1 H1 σ ρ1 _ rs1 (hb.mono _ _ _ (fun c ρ2 h M2 H2 H3 l xs m2 rs2 e1 e2 e3=>h M2 H2 H3 l xs (m1.trans m2) rs2 e1 e2 e3) (h.no rfl)))
end
end DL
namespace L2
open PySem PySem.Spec PyProof.Rows
section
variable {X:Cx}
end
end L2
namespace DL
open PySem PySem.Spec L2
open PyProof.Rows hiding St
variable [TB]
section
variable [Frm] {X:Cx}
end
end DL
namespace DL
open PySem PySem.Spec L2
open PyProof.Rows hiding St
variable [TB]
section
variable {X:Cx}
def BE (x y:D) (P:D->Prop):Prop:=match y with
 | .tup ys=>(oa x=true /\ ys.all oa=true) /\ P (.bl (!(ys.any fun y=>eqF y x)))
 | .lst ys=>(oa x=true /\ ys.all oa=true) /\ P (.bl (!(ys.any fun y=>eqF y x)))
 | _=>False
theorem wR:OpD X (compareOp .NotIn) BE:=by
 refine ⟨fun x y P P' f h=>?_,_,nA,fun {pp} M H x y v u Q _ rx ry h=>?_⟩
 ·cases y <;> first | exact ⟨h.1,f _ h.2⟩ | exact False.elim h
 ·have go:∀ ys:List D,(oa x=true /\ ys.all oa=true)->∀ us:List V,Reps X.K pp M H ys us->jh v=true /\ us.all jh=true /\ inV v us=ys.any fun y=>eqF y x:=fun ys ⟨f1,f2⟩ us r=>by
   obtain ⟨e1,e2⟩:=qL f1 rx
   obtain ⟨e3,e4⟩:=og f2 r
   refine ⟨e2,e4,?_⟩
   unfold inV
   rw [e3,e1,List.any_map]
   rfl
  cases y <;> first | exact False.elim h | skip
  ·rename_i ys
   simp only [Rep] at ry
   obtain ⟨a,us,rfl,ha,r⟩:=ry
   obtain ⟨g1,g2,g3⟩:=go ys h.1 us r
   refine ⟨a,us,rfl,.inr (SqT.of ha),g1,g2,?_⟩
   rw [if_pos rfl,g3]
   exact h.2 H _ .refl cJ
  ·rename_i ys
   simp only [Rep] at ry
   obtain ⟨a,us,rfl,hm,hp,ha,r⟩:=ry
   obtain ⟨g1,g2,g3⟩:=go ys h.1 us r
   refine ⟨a,us,rfl,.inl (SqL.of ha),g1,g2,?_⟩
   rw [if_pos rfl,g3]
   exact h.2 H _ .refl cJ
end
end DL
namespace L2
open PySem PySem.Spec PyProof.Rows
section
variable {P:Program} {w:World} {K:PySem.W.Frag} {mg:Str->Option Value} {base:Heap} {N:List Str} {qual:Str} {scope:Scope} {f:Addr} {cd:Value} {cl:List (Str×Addr)} {A:Around} {outer:List Env} {s:Shared} {H:Hp} {E:XK} {vs:List V}
end
section
variable {X:Cx}
end
end L2
namespace DL
open PySem PySem.Spec L2
open PyProof.Rows hiding St
variable [TB]
section
variable {P:Program} {w:World} {K:PySem.W.Frag} {mg:Str->Option Value} {base:Heap} {N:List Str} {qual:Str} {scope:Scope} {f c':Addr} {cl:List (Str×Addr)} {A:Around} {outer:List Env} {s:Shared} {H:Hp} {E:XK} {vs:List V}
end
end DL
namespace DL
open PySem PySem.Spec L2
open PyProof.Rows hiding St
variable [TB]
section
variable {X:Cx} {k:Nat} {cn a hn n xn qual:Str} {st:Stmt} {f C0 fa c':Addr} {fd:FuncData} {gn N2:List Str} {params:Arguments} {body:Expr} {scope:Scope} {cl:List (Str×Addr)} {vs:List V} {ds:List D} {te:(DS->Addr->Prop)->DE}
end
end DL
namespace L2
open PySem PySem.Spec PyProof.Rows
end L2
namespace DL
open PySem PySem.Spec L2
open PyProof.Rows hiding St
section
variable [TB]
end
end DL
namespace DL
open PySem PySem.Spec L2
open PyProof.Rows hiding St
variable [TB]
end DL
namespace DL
open PySem PySem.Spec L2
open PyProof.Rows hiding St
section
variable [TB]
end
end DL
namespace DL
open PySem PySem.Spec L2
open PyProof.Rows hiding St
variable [TB]
section
variable {P:Program} {w:World} {K:PySem.W.Frag} {mg:Str->Option Value} {base:Heap} {N:List Str} {qual:Str} {scope:Scope} {f c':Addr} {cl:List (Str×Addr)} {A:Around} {outer:List Env} {s:Shared} {H:Hp} {E:XK} {vs:List V}
end
section
variable {X:Cx} {k:Nat} {cn a hn n xn qual:Str} {st:Stmt} {f C0 fa c':Addr} {fd:FuncData} {gn N2:List Str} {params:Arguments} {body:Expr} {scope:Scope} {cl:List (Str×Addr)} {vs:List V} {ds:List D} {te:(DS->Addr->Prop)->DE}
end
end DL
namespace DL
open PySem PySem.Spec L2
open PyProof.Rows hiding St
variable [TB]
section
variable [Frm] {X:Cx}
end
end DL
namespace L2
open PySem PySem.Spec PyProof.Rows
section
variable {X:Cx}
end
end L2
namespace DL
open PySem PySem.Spec L2
open PyProof.Rows hiding St
variable [TB]
section
variable [Frm] {X:Cx}
end
end DL
namespace DL
open PySem PySem.Spec L2
open PyProof.Rows hiding St
variable [TB]
section
variable [Frm] {X:Cx}
end
end DL
namespace DL
open PySem PySem.Spec L2
open PyProof.Rows hiding St
variable [TB]
section
variable {K:PySem.W.Frag} {pp:Option Addr} {M M':List Addr} {H H':Hp}
end
section
variable {X:Cx}
end
section
variable [Frm] {X:Cx}
end
end DL
namespace DL
open PySem PySem.Spec L2
open PyProof.Rows hiding St
variable [TB]
section
variable {K:PySem.W.Frag} {pp:Option Addr} {M M':List Addr} {H H':Hp}
end
section
variable [Frm] {X:Cx}
end
section
variable {X:Cx} {k:Nat}
end
end DL
namespace DL
open PySem PySem.Spec L2
open PyProof.Rows hiding St
variable [TB]
section
variable {K:PySem.W.Frag} {pp:Option Addr} {M M':List Addr} {H H' H1 H5:Hp}
end
section
variable [Frm] {X:Cx}
end
end DL
namespace DL
open PySem PySem.Spec L2
open PyProof.Rows hiding St
variable [TB]
variable [Frm]
section
variable {K:PySem.W.Frag} {F:Fx} {pp:Option Addr} {M:List Addr} {H H1:Hp} {σ:St} {ρ:DS} {i:Nat}
end
section
variable {X:Cx}
end
section
variable {K:PySem.W.Frag} {F:Fx} {M:List Addr} {H:Hp} {σ:St} {ρ:DS} {i n:Nat}
end
section
variable {X:Cx}
end
section
variable {K:PySem.W.Frag} {pp:Option Addr} {M M':List Addr} {H H' H'':Hp}
end
section
variable {X:Cx}
end
end DL
namespace L2
open PySem PySem.Spec PyProof.Rows
section
variable {P:Program} {w:World} {K:PySem.W.Frag} {mg:Str->Option Value} {base:Heap} {N:List Str} {qual:Str} {scope:Scope} {f:Addr} {cd:Value} {cl:List (Str×Addr)} {A:Around} {outer:List Env} {s:Shared} {H:Hp} {E:XK} {vs:List V}
end
end L2
namespace L2
open PySem PySem.Spec PyProof.Rows PySem.W
section
variable {prog:Program} {w:World} {A:Around} {E:Value->Shared->Prop} {s:Shared} {a kS:Addr} {keys:Array Value} {vs:List Value} {kz:List Int} {e e1:Nat} {P:PySem.Fin->Shared->Prop}
end
end L2
namespace L2
open PySem PySem.Spec PyProof.Rows PySem.W
section
variable {X:Cx} {pins:List (Addr×Obj)} {σ:St} {H:Hp} {s:Shared} {l fa:Addr} {xs:List V} {kz:List Int} {R:Hp->Prop} {Q:VK}
end
end L2
namespace DL
open PySem PySem.Spec L2
open PyProof.Rows hiding St
variable [TB]
section
variable {P:Program} {w:World} {K:PySem.W.Frag} {mg:Str->Option Value} {base:Heap} {N:List Str} {qual:Str} {scope:Scope} {f c':Addr} {cl:List (Str×Addr)} {A:Around} {outer:List Env} {s:Shared} {H:Hp} {E:XK} {vs:List V}
end
section
variable {X:Cx} {k:Nat} {qual:Str} {fa c':Addr} {N2:List Str} {params:Arguments} {body:Expr} {scope:Scope} {cl:List (Str×Addr)} {vs:List V} {te:DE}
end
end DL
namespace L2
open PySem PySem.Spec PyProof.Rows PySem.W
section
variable {X:Cx}
end
end L2
namespace DL
open PySem PySem.Spec L2
open PyProof.Rows hiding St
variable [TB]
variable [Frm]
section
variable {X:Cx}
end
end DL
namespace L2
open PySem PySem.Spec PyProof.Rows
section
variable {X:Cx} {body suite:List Stmt} {b0:Stmt} {x:Str} {np hpos pos:Pos} {C0:Addr} {Wo:St->XK}
end
end L2
namespace DL
open PySem PySem.Spec L2
open PyProof.Rows hiding St
variable [TB]
section
variable [fr0:Frm] {X:Cx} {body suite:List Stmt} {b0:Stmt} {x:Str} {np hpos pos:Pos} {C0:Addr} {tb:(DS->Addr->Prop)->DTS} {th:DTS} {K:PySem.W.Frag}
end
end DL
namespace L2
open PySem PySem.Spec PyProof.Rows
section
variable {M:Model} {A:Around} {E:Value->Shared->Prop} {s:Shared} {env:Env}
end
section
variable {X:Cx} {pins:List (Addr×Obj)} {σ:St} {H H':Hp} {s s':Shared} {B h':Heap} {W:St->XK} {e:Value}
end
section
variable {X:Cx} {pins:List (Addr×Obj)} {σ:St} {H:Hp} {s:Shared} {scope:Scope} {cl:List (Str×Addr)} {N':List Str} {js:List (Option Nat)}
variable {elt iter:Expr} {x:Str} {px pos:Pos} {ifs:List Expr} {wi:TI} {g:TG} {tc:TT} {te:TE} {Q:VK}
variable {gB:Blk->TG} {tcB:Blk->TT}
end
end L2
namespace DL
open PySem PySem.Spec L2
open PyProof.Rows hiding St
variable [TB]
section
variable [fr0:Frm] {X:Cx}
end
end DL
namespace L2
open PySem PySem.Spec PyProof.Rows
section
variable {X:Cx}
end
end L2
namespace DL
open PySem PySem.Spec L2
open PyProof.Rows hiding St
variable [TB]
variable [Frm]
section
variable {X:Cx}
end
end DL
namespace TS
open PySem PyProof.Rows
section
variable {prog:Program} {w:World} {A:Around} {E:Value->Shared->Prop} {s:Shared}
variable {κ:SortKind} {S:Keyed->Prop} {r:Keyed->Nat}
end
end TS
namespace TS
open PySem PyProof.Rows
section
variable {prog:Program} {w:World} {A:Around} {E:Value->Shared->Prop} {s:Shared}
variable {κ:SortKind} {S:Keyed->Prop} {r:Keyed->Nat}
abbrev Up (r:Keyed->Nat) (l:List Keyed):Prop:=l.Pairwise fun x y=>r x <= r y
section
variable {a b:Array Keyed} {out:Array Keyed} {ia ib:Nat}
variable (ua:Up r a.toList) (ub:Up r b.toList) (na:0 < a.size) (hl:∀ y∈b.toList,r y <= r (a[a.size - 1]'(by omega)))
include ua ub hl
end
end
end TS
namespace TS
open PySem PyProof.Rows
section
variable {prog:Program} {w:World} {A:Around} {E:Value->Shared->Prop} {s:Shared}
variable {κ:SortKind} {S:Keyed->Prop} {r:Keyed->Nat}
section
variable {a b:Array Keyed} {out:Array Keyed} {na nb:Nat}
variable (ua:Up r a.toList) (ub:Up r b.toList) (b0:0 < b.size) (hf:∀ y∈a.toList,r (b[0]'b0) <= r y)
include ua ub hf
end
end
end TS
namespace TS
open PySem PyProof.Rows
section
variable {prog:Program} {w:World} {A:Around} {E:Value->Shared->Prop} {s:Shared}
variable {κ:SortKind} {S:Keyed->Prop} {r:Keyed->Nat}
end
end TS
namespace TS
open PySem PyProof.Rows
section
variable {prog:Program} {w:World} {A:Around} {E:Value->Shared->Prop} {s:Shared}
variable {κ:SortKind} {S:Keyed->Prop} {r:Keyed->Nat}
end
end TS
namespace TS
open PySem PyProof.Rows
section
variable {prog:Program} {w:World} {A:Around} {E:Value->Shared->Prop} {s:Shared}
variable {κ:SortKind} {S:Keyed->Prop} {r:Keyed->Nat}
variable {A0:Array Keyed}
end
end TS
namespace L2
open PySem PySem.Spec PyProof.Rows PySem.W
theorem mD (a b:Int) (r r':List Key):lexI (.inl a::r) (.inl b::r')=if a=b then lexI r r' else decide (a < b):=rfl
theorem pU:∀ k:List Key,lexI k k=false
 | []=>rfl
 | .inl a::r=>by rw [mD,if_pos rfl]; exact pU r
 | .inr a::r=>rfl
theorem uO:∀ a b c:List Key,lexI a b=true->lexI b c=true->lexI a c=true
 | [],[],_,h,_=>by cases h
 | [],_::_,[],_,h=>by cases h
 | [],_::_,_::_,_,_=>rfl
 | _::_,[],_,h,_=>by cases h
 | _::_,_::_,[],_,h=>by cases h
 | .inr _::_,.inl _::_,_::_,h,_=>by cases h
 | .inr _::_,.inr _::_,_::_,h,_=>by cases h
 | .inl _::_,.inr _::_,_::_,h,_=>by cases h
 | .inl _::_,.inl _::_,.inr _::_,_,h=>by cases h
 | .inl a::r,.inl b::s,.inl c::t,h1,h2=>by
  rw [mD] at h1 h2 ⊢
  by_cases e1:a=b
  ·rw [if_pos e1] at h1
   subst e1
   by_cases e2:a=c
   ·rw [if_pos e2] at h2 ⊢
    exact uO r s t h1 h2
   ·rw [if_neg e2] at h2 ⊢
    exact h2
  ·rw [if_neg e1] at h1
   have h1:=of_decide_eq_true h1
   by_cases e2:b=c
   ·subst e2
    rw [if_neg e1]
    exact decide_eq_true h1
   ·rw [if_neg e2] at h2
    have h2:=of_decide_eq_true h2
    rw [if_neg (by omega)]
    exact decide_eq_true (by omega)
theorem xX {a b:List Key} (h:lexI a b=true):lexI b a=false:=by
 cases e:lexI b a with
 | false=>rfl
 | true =>
  have:=uO a b a h e
  rw [pU] at this
  cases this
theorem xY:∀ {a b:List Key},dA a->dA b->a≠b->lexI a b=false->lexI b a=true
 | [],[],_,_,h,_=>absurd rfl h
 | [],_::_,_,_,_,h=>by cases h
 | _::_,[],_,_,_,_=>rfl
 | x::r,y::s,ha,hb,h,e=>by
  obtain ⟨a,rfl⟩:=ha x List.mem_cons_self
  obtain ⟨b,rfl⟩:=hb y List.mem_cons_self
  rw [mD] at e ⊢
  by_cases z:a=b
  ·subst z
   rw [if_pos rfl] at e ⊢
   exact xY (fun x hx=>ha x (List.mem_cons_of_mem _ hx)) (fun x hx=>hb x (List.mem_cons_of_mem _ hx)) (fun z=>h (by rw [z])) e
  ·rw [if_neg z] at e
   rw [if_neg (Ne.symm z)]
   have:=of_decide_eq_false e
   exact decide_eq_true (by omega)
theorem uP {ks:List (List Key)} (hi:∀ k∈ks,dA k) (nd:ks.Nodup):(srtK ks).Pairwise fun a b=>lexI a b=true:=by
 unfold srtK
 by_cases h:ks.length < 2
 ·rw [if_pos h]
  match ks,h with
  | [],_=>exact .nil
  | [_],_=>exact List.pairwise_singleton _ _
 ·rw [if_neg h]
  have ge:∀ i (hi:i < ks.length),ks.getD i []=ks[i]:=fun i hi=>by simp [hi]
  have O:StrO ks.length (fun i j=>lexI (ks.getD i []) (ks.getD j [])):=by
   refine ⟨fun i j k _ _ _ h1 h2=>uO _ _ _ h1 h2,fun i j _ _ h1=>xX h1,fun i j hi' hj e h1=>?_⟩
   rw [ge i hi',ge j hj] at h1 ⊢
   exact xY (hi _ (by simp)) (hi _ (by simp)) (fun z=>e ((List.getElem_inj nd).mp z)) h1
  have pm:=KGood.end (fun i j=>lexI (ks.getD i []) (ks.getD j [])) _ (de (N:=ks.length) (by omega))
  have as:=qT O (by omega)
  have sz:=pm.size
  generalize kRun (fun i j=>lexI (ks.getD i []) (ks.getD j [])) (kas_sort ks.length)=p at pm as sz
  rw [List.pairwise_map,List.pairwise_iff_getElem]
  intro i j hi hj hij
  have:=as i j hij (by rw [Array.length_toList] at hj; omega)
  rw [Array.length_toList] at hi hj
  have e1:p.getD i 0=p[i]:=by simp [Array.getD,hi]
  have e2:p.getD j 0=p[j]:=by simp [Array.getD,hj]
  rw [e1,e2] at this
  simpa using this
theorem xZ:∀ {xs ys:List (List Key)},xs.Pairwise (fun a b=>lexI a b=true)->ys.Pairwise (fun a b=>lexI a b=true)->(∀ k,k∈xs↔k∈ys)->xs=ys
 | [],[],_,_,_=>rfl
 | [],y::ys,_,_,h=>absurd ((h y).mpr List.mem_cons_self) (by simp)
 | x::xs,[],_,_,h=>absurd ((h x).mp List.mem_cons_self) (by simp)
 | x::xs,y::ys,hx,hy,h=>by
  obtain ⟨hx1,hx2⟩:=List.pairwise_cons.mp hx
  obtain ⟨hy1,hy2⟩:=List.pairwise_cons.mp hy
  have exy:x=y:=by
   rcases List.mem_cons.mp ((h x).mp List.mem_cons_self) with e | e
   ·exact e
   ·rcases List.mem_cons.mp ((h y).mpr List.mem_cons_self) with e' | e'
    ·exact e'.symm
    ·have a:=hy1 x e
     have b:=hx1 y e'
     rw [xX a] at b
     cases b
  subst exy
  have ni:∀ {zs:List (List Key)},(∀ z∈zs,lexI x z=true)->x∉zs:=fun hz m=>by
   have:=hz x m
   rw [pU] at this
   cases this
  rw [xZ hx2 hy2 fun k=>⟨fun hk=>?_,fun hk=>?_⟩]
  ·rcases List.mem_cons.mp ((h k).mp (List.mem_cons_of_mem _ hk)) with rfl | e
   ·exact absurd hk (ni hx1)
   ·exact e
  ·rcases List.mem_cons.mp ((h k).mpr (List.mem_cons_of_mem _ hk)) with rfl | e
   ·exact absurd hk (ni hy1)
   ·exact e
open Classical in
section
variable {prog:Program} {w:World} {A:Around} {E:Value->Shared->Prop} {s:Shared} {b fin:Bool} {Q:Bool->Shared->Prop}
end
section
variable {X:Cx}
end
end L2
namespace DL
open PySem PySem.Spec L2
open PyProof.Rows hiding St
variable [TB]
variable [Frm]
section
variable {X:Cx}
end
end DL
namespace DL
open PySem PySem.Spec L2
open PyProof.Rows hiding St
variable [TB]
variable [Frm]
section
variable {X:Cx}
end
end DL
namespace L2
open PySem PySem.Spec PyProof.Rows PySem.W
section
variable {prog:Program} {w:World} {A:Around} {E:Value->Shared->Prop} {s:Shared} {b:Bool} {Q:Bool->Shared->Prop}
end
open Classical in
section
variable {prog:Program} {w:World} {A:Around} {E:Value->Shared->Prop} {s:Shared} {a kS:Addr} {keys:Array Value} {vs:List Value} {kz:List (Int×List Key)} {e e1:Nat} {P:PySem.Fin->Shared->Prop}
end
end L2
namespace L2
open PySem PySem.Spec PyProof.Rows PySem.W
section
variable {X:Cx} {pins:List (Addr×Obj)} {σ:St} {H:Hp} {s:Shared} {l fa:Addr} {xs:List V} {kz:List (Int×List Key)} {R:Hp->Prop} {RR:Hp->Hp->Prop} {KP:Hp->Int×List Key->V->Prop} {Q:VK}
end
end L2
namespace DL
open PySem PySem.Spec L2
open PyProof.Rows hiding St
variable [TB]
section
variable {X:Cx}
end
section
variable {X:Cx}
variable [Frm]
end
section
variable {X:Cx} {k:Nat} {qual:Str} {fa c':Addr} {N2:List Str} {params:Arguments} {body:Expr} {scope:Scope} {cl:List (Str×Addr)} {vs:List V} {te:DE}
end
end DL
namespace DL
open PySem PySem.Spec L2
open PyProof.Rows hiding St
variable [TB] [Frm]
section
variable {X:Cx} {st:Stmt} {rest:List Stmt} {t:DTS} {u:DTN} {e c:Expr} {tl:DA} {tc:DT} {pos p2:Pos}
end
end DL
namespace SS
open PySem PySem.SetTable
def Ris (xs:Array Nat):Prop:=∀ i k,i < k->k < xs.size->xs.getD i 0 < xs.getD k 0
theorem zu {xs:Array Nat} {i:Nat} (h:i < xs.size) (d e:Nat):xs.getD i d=xs.getD i e:=by simp [Array.getD,h]
theorem pV {xs:Array Nat} (r:Ris xs) (j:Nat):∀ fuel lo hi,lo <= hi->hi <= xs.size->hi - lo <= fuel->(∀ i,i < lo->xs.getD i 0 < j)->(∀ i,hi <= i->i < xs.size->j <= xs.getD i 0) ->
  (below.go xs j fuel lo hi <= xs.size) /\ (∀ i,i < below.go xs j fuel lo hi->xs.getD i 0 < j) /\ ∀ i,below.go xs j fuel lo hi <= i->i < xs.size->j <= xs.getD i 0
 | 0,lo,hi,h1,h2,h3,h4,h5=>by
  have e:below.go xs j 0 lo hi=lo:=rfl
  rw [e]
  exact ⟨by omega,h4,fun i hi'=>h5 i (by omega)⟩
 | fuel + 1,lo,hi,h1,h2,h3,h4,h5=>by
  have e:below.go xs j (fuel + 1) lo hi=if lo < hi then (if xs.getD ((lo + hi) / 2) j < j then below.go xs j fuel ((lo + hi) / 2 + 1) hi else below.go xs j fuel lo ((lo + hi) / 2)) else lo:=rfl
  rw [e]
  by_cases z:lo < hi
  ·rw [if_pos z]
   have hm:(lo + hi) / 2 < hi:=by omega
   have hm2:(lo + hi) / 2 < xs.size:=by omega
   rw [zu hm2 j 0]
   by_cases c:xs.getD ((lo + hi) / 2) 0 < j
   ·rw [if_pos c]
    refine pV r j fuel _ _ (by omega) h2 (by omega) (fun i hi'=>?_) h5
    by_cases q:i=(lo + hi) / 2
    ·rw [q]; exact c
    ·have:=r i ((lo + hi) / 2) (by omega) hm2
     omega
   ·rw [if_neg c]
    refine pV r j fuel _ _ (by omega) (by omega) (by omega) h4 (fun i hi' hs=>?_)
    by_cases q:i=(lo + hi) / 2
    ·rw [q]; omega
    ·have:=r ((lo + hi) / 2) i (by omega) hs
     omega
  ·rw [if_neg z]
   exact ⟨by omega,h4,fun i hi'=>h5 i (by omega)⟩
theorem eh {xs:Array Nat} (r:Ris xs) (j:Nat):below xs j <= xs.size /\ (∀ i,i < below xs j->xs.getD i 0 < j) /\ ∀ i,below xs j <= i->i < xs.size->j <= xs.getD i 0 :=
 pV r j xs.size 0 xs.size (Nat.zero_le _) (Nat.le_refl _) (by omega) (fun i h=>absurd h (Nat.not_lt_zero i)) (fun i h h'=>absurd h' (by omega))
structure TOk (t:SetTable) (n:Nat):Prop where
 mask:t.mask=7∨t.mask=31∨t.mask=127
 dm:t.dummies = #[]
 size:t.place.size=n
 ris:Ris t.place
 le:∀ i,i < n->t.place.getD i 0 <= t.mask
 plain:t.plain=true
 few:n <= t.mask
theorem get_getD {xs:Array Nat} {i j:Nat}:xs[i]? = some j↔i < xs.size /\ xs.getD i 0=j:=by
 constructor
 ·intro h
  obtain ⟨h1,h2⟩:=Array.getElem?_eq_some_iff.mp h
  exact ⟨h1,by simp [Array.getD,h1,h2]⟩
 ·rintro ⟨h1,h2⟩
  rw [Array.getElem?_eq_getElem h1]
  simp [Array.getD,h1] at h2
  rw [h2]
theorem iJ {t:SetTable} {n:Nat} (o:TOk t n) (j:Nat):(t.slot j = .empty /\ ∀ i,i < n->t.place.getD i 0≠j)∨∃ i,i < n /\ t.slot j = .live i /\ t.place.getD i 0=j:=by
 have e:t.slot j=if t.place[below t.place j]? == some j then .live (below t.place j) else if has t.dummies j then .dummy else .empty:=rfl
 obtain ⟨b1,b2,b3⟩:=eh o.ris j
 have sz:=o.size
 by_cases z:t.place[below t.place j]? = some j
 ·right
  obtain ⟨z1,z2⟩:=get_getD.mp z
  exact ⟨below t.place j,by omega,by rw [e,if_pos (by simp [z])],z2⟩
 ·left
  have hd:has t.dummies j=false:=by rw [o.dm]; unfold has; simp
  refine ⟨by rw [e,if_neg (by simp [z]),hd]; rfl,fun i hi q=>?_⟩
  by_cases c:i < below t.place j
  ·have:=b2 i c; omega
  ·by_cases c2:i=below t.place j
   ·exact z (get_getD.mpr ⟨by omega,by rw [← c2]; exact q⟩)
   ·have h1:=o.ris (below t.place j) i (by omega) (by omega)
    have h2:=b3 (below t.place j) (Nat.le_refl _) (by omega)
    omega
theorem oC {t:SetTable} {n:Nat} (o:TOk t n) {j:Nat} (h:∀ i,i < n->t.place.getD i 0≠j):t.slot j = .empty:=by
 rcases iJ o j with ⟨e,_⟩ | ⟨i,hi,_,e⟩
 ·exact e
 ·exact absurd e (h i hi)
theorem sn {t:SetTable} {n:Nat} (o:TOk t n):∃ j,j <= t.mask /\ t.slot j = .empty:=by
 have ge:∀ i,i < n->i <= t.place.getD i 0:=fun i=>by
  induction i with
  | zero=>intro _; omega
  | succ i ih =>
   intro hi
   have h1:=ih (by omega)
   have h2:=o.ris i (i + 1) (by omega) (by rw [o.size]; exact hi)
   omega
 by_cases all:∀ i,i < n->t.place.getD i 0=i
 ·refine ⟨n,o.few,oC o fun i hi q=>?_⟩
  rw [all i hi] at q
  omega
 ·have ex:∃ i,i < n /\ t.place.getD i 0≠i:=by
   apply Classical.byContradiction
   intro h
   exact all fun i hi=>Classical.byContradiction fun q=>h ⟨i,hi,q⟩
  obtain ⟨i,hi,hne,hmin⟩:∃ i,i < n /\ t.place.getD i 0≠i /\ ∀ k,k < i->t.place.getD k 0=k:=by
   obtain ⟨i,hi,hne⟩:=ex
   induction i using Nat.strongRecOn with
   | ind i ih =>
    by_cases q:∀ k,k < i->t.place.getD k 0=k
    ·exact ⟨i,hi,hne,q⟩
    ·have:∃ k,k < i /\ t.place.getD k 0≠k:=by
      apply Classical.byContradiction
      intro h
      exact q fun k hk=>Classical.byContradiction fun z=>h ⟨k,hk,z⟩
     obtain ⟨k,hk,hk2⟩:=this
     exact ih k hk (by omega) hk2
  have gi:=ge i hi
  refine ⟨i,Nat.le_trans gi (o.le i hi),oC o fun k hk q=>?_⟩
  by_cases c:k < i
  ·rw [hmin k c] at q; omega
  ·by_cases c2:k=i
   ·rw [c2] at q; exact hne q
   ·have:=o.ris i k (by omega) (by rw [o.size]; exact hk)
    omega
def Reach (t:SetTable):Nat->Probe->Prop
 | 0,p=>t.slot p.j = .empty
 | n + 1,p=>t.slot p.j = .empty∨Reach t n (t.advance p)
theorem Reach.of {t:SetTable} {p:Probe} (h:t.slot p.j = .empty):∀ n,Reach t n p
 | 0=>h
 | _ + 1=>.inl h
theorem Reach.mono {t:SetTable}:∀ {n m:Nat} {p:Probe},Reach t n p->n <= m->Reach t m p
 | 0,m,_,h,_=>.of h m
 | n + 1,0,_,_,h=>by omega
 | n + 1,m + 1,_,.inl h,_=>.inl h
 | n + 1,m + 1,_,.inr h,l=>.inr (h.mono (by omega))
theorem uQ (t:SetTable) (p:Probe):(t.advance p).dummy=p.dummy:=by
 unfold SetTable.advance
 split
 ·rfl
 ·rfl
def PO (t:SetTable) (p:Probe):Prop:=p.j + p.more <= t.mask /\ p.dummy=none
theorem ya {mask i:Nat} (h:i <= mask):i + (runEnd mask i - i) <= mask:=by
 unfold runEnd
 split <;> omega
theorem PO.adv {t:SetTable} {p:Probe} (h:PO t p):PO t (t.advance p):=by
 refine ⟨?_,by rw [uQ]; exact h.2⟩
 have h1:=h.1
 unfold SetTable.advance
 split
 ·show p.j + 1 + (p.more - 1) <= t.mask
  omega
 ·show (leap t.mask p.i p.perturb).1 + (runEnd t.mask (leap t.mask p.i p.perturb).1 - (leap t.mask p.i p.perturb).1) <= t.mask
  refine ya ?_
  have:(leap t.mask p.i p.perturb).1 < t.mask + 1:=Nat.mod_lt _ (by omega)
  omega
theorem PO.start (t:SetTable) (h:Int):PO t (t.probeStart h):=by
 refine ⟨?_,rfl⟩
 show bits h % (t.mask + 1) + (runEnd t.mask (bits h % (t.mask + 1)) - bits h % (t.mask + 1)) <= t.mask
 refine ya ?_
 have:bits h % (t.mask + 1) < t.mask + 1:=Nat.mod_lt _ (by omega)
 omega
theorem lz {t:SetTable} {k:Nat} (o:TOk t k) {hashAt:Nat->Int} {h:Int}:∀ (n fuel:Nat) (p:Probe),PO t p->Reach t n p->n < fuel ->
  (∃ j,probe.go t hashAt h fuel p=some (.empty j none) /\ t.slot j = .empty /\ j <= t.mask)∨∃ j i nx n',probe.go t hashAt h fuel p=some (.candidate j i nx) /\ t.slot j = .live i /\ i < k /\ hashAt i=h /\ n' < n /\ Reach t n' nx /\ PO t nx
 | n,0,_,_,_,l=>absurd l (Nat.not_lt_zero n)
 | n,fuel + 1,p,hd,hr,l=>by
  have e:probe.go t hashAt h (fuel + 1) p=match t.slot p.j with
   | .empty=>some (.empty p.j p.dummy)
   | .dummy=>probe.go t hashAt h fuel (t.advance { p with dummy:=some p.j })
   | .live i=>if hashAt i == h then some (.candidate p.j i (t.advance p)) else probe.go t hashAt h fuel (t.advance p):=rfl
  rw [e]
  rcases iJ o p.j with ⟨z,_⟩ | ⟨i,hi,z,_⟩
  ·left
   rw [z]
   exact ⟨p.j,by rw [hd.2],z,by have:=hd.1; omega⟩
  ·rw [z]
   dsimp only
   cases n with
   | zero=>rw [show Reach t 0 p↔t.slot p.j = .empty from Iff.rfl,z] at hr; cases hr
   | succ n =>
    have hr':Reach t n (t.advance p):=by
     rcases hr with q | q
     ·rw [z] at q; cases q
     ·exact q
    by_cases c:hashAt i=h
    ·right
     rw [if_pos (by simp [c])]
     exact ⟨p.j,i,t.advance p,n,rfl,z,hi,c,by omega,hr',hd.adv⟩
    ·rw [if_neg (by simp [c])]
     rcases lz o n fuel (t.advance p) hd.adv hr' (by omega) with q | ⟨j,i',nx,n',q1,q2,q3,q4,q5,q6⟩
     ·exact .inl q
     ·exact .inr ⟨j,i',nx,n',q1,q2,q3,q4,by omega,q6⟩
def LP (mask:Nat) (s:Nat×Nat):Probe:={ j:=s.1,more:=runEnd mask s.1 - s.1,i:=s.1,perturb:=s.2,dummy:=none }
theorem oD {t:SetTable} {n:Nat}:∀ (r:Nat) (p:Probe),p.more=r->p.dummy=none->Reach t n (LP t.mask (leap t.mask p.i p.perturb))->Reach t (n + r + 1) p
 | 0,p,hm,hd,h=>by
  right
  have:t.advance p=LP t.mask (leap t.mask p.i p.perturb):=by
   unfold SetTable.advance
   rw [if_neg (by omega)]
   unfold LP
   rw [← hd]
  rw [this]
  exact h
 | r + 1,p,hm,hd,h=>by
  right
  have e:t.advance p={ p with j:=p.j + 1,more:=p.more - 1 }:=by
   unfold SetTable.advance
   rw [if_pos (by omega)]
  rw [e]
  exact oD r { p with j:=p.j + 1,more:=p.more - 1 } (by show p.more - 1=r; omega) hd h
theorem sr {t:SetTable} {n:Nat} (s:Nat×Nat) (h:Reach t n (LP t.mask (leap t.mask s.1 s.2))):Reach t (n + 10) (LP t.mask s):=by
 have hm:(LP t.mask s).more <= 9:=by
  show runEnd t.mask s.1 - s.1 <= 9
  unfold runEnd
  split <;> omega
 exact (oD (LP t.mask s).more (LP t.mask s) rfl rfl h).mono (by omega)
def gr (mask:Nat):Nat->Nat×Nat->Nat×Nat
 | 0,s=>s
 | l + 1,s=>gr mask l (leap mask s.1 s.2)
theorem qU {t:SetTable}:∀ (l:Nat) (s:Nat×Nat),t.slot (gr t.mask l s).1 = .empty->Reach t (10 * l) (LP t.mask s)
 | 0,s,h=>h
 | l + 1,s,h=>(sr s (qU l (leap t.mask s.1 s.2) h)).mono (by omega)
theorem oE (mask:Nat):∀ (a b:Nat) (s:Nat×Nat),gr mask (a + b) s=gr mask b (gr mask a s)
 | 0,b,s=>by rw [Nat.zero_add]; rfl
 | a + 1,b,s=>by rw [Nat.succ_add]; exact oE mask a b _
theorem uR (mask:Nat):∀ (l:Nat) (s:Nat×Nat),(gr mask l s).2=s.2 / 32 ^ l
 | 0,s=>by show s.2=s.2 / 1; rw [Nat.div_one]
 | l + 1,s=>by
  show (gr mask l (leap mask s.1 s.2)).2=_
  rw [uR mask l]
  show s.2 / 32 / 32 ^ l=_
  rw [Nat.div_div_eq_div_mul,Nat.pow_succ,Nat.mul_comm]
theorem qV (mask:Nat):∀ (l:Nat) (s:Nat×Nat),s.1 < mask + 1->(gr mask l s).1 < mask + 1
 | 0,_,h=>h
 | l + 1,s,_=>qV mask l _ (Nat.mod_lt _ (by omega))
def orb (M:Nat):Nat->Nat->Nat
 | 0,i=>i
 | k + 1,i=>orb M k ((i * 5 + 1) % M)
theorem lA (mask:Nat):∀ (l i:Nat),(gr mask l (i,0)).1=orb (mask + 1) l i
 | 0,_=>rfl
 | l + 1,i=>by
  show (gr mask l ((i * 5 + 1 + 0 / 32) % (mask + 1),0 / 32)).1=orb (mask + 1) l ((i * 5 + 1) % (mask + 1))
  rw [Nat.zero_div,Nat.add_zero]
  exact lA mask l _
def orbs (M:Nat):Nat->Nat->List Nat
 | 0,_=>[]
 | k + 1,i=>i::orbs M k ((i * 5 + 1) % M)
theorem mE (M:Nat):∀ (n i j:Nat),j∈orbs M n i->∃ k,k < n /\ orb M k i=j
 | 0,_,_,h=>by simp [orbs] at h
 | n + 1,i,j,h=>by
  rcases List.mem_cons.mp h with rfl | h
  ·exact ⟨0,by omega,rfl⟩
  ·obtain ⟨k,hk,e⟩:=mE M n _ j h
   exact ⟨k + 1,by omega,e⟩
theorem mF (M:Nat):∀ a b i,orb M (a + b) i=orb M b (orb M a i)
 | 0,b,i=>by rw [Nat.zero_add]; rfl
 | a + 1,b,i=>by rw [Nat.succ_add]; exact mF M a b _
theorem cyc (M:Nat) (hM:M=8∨M=32∨M=128):(∀ j,j < M->j∈orbs M M 0) /\ orb M M 0=0:=by
 rcases hM with rfl | rfl | rfl <;> decide +kernel
theorem BF {M:Nat} (hM:M=8∨M=32∨M=128) {i j:Nat} (hi:i < M) (hj:j < M):∃ k,k < M /\ orb M k i=j:=by
 obtain ⟨c1,c2⟩:=cyc M hM
 obtain ⟨a,ha,ea⟩:=mE M M 0 i (c1 i hi)
 obtain ⟨b,hb,eb⟩:=mE M M 0 j (c1 j hj)
 by_cases z:a <= b
 ·refine ⟨b - a,by omega,?_⟩
  rw [← ea,← mF,show a + (b - a)=b by omega]
  exact eb
 ·refine ⟨M - a + b,by omega,?_⟩
  rw [← ea,← mF,show a + (M - a + b)=M + b by omega,mF,c2]
  exact eb
theorem BG {mask:Nat} (hM:mask=7∨mask=31∨mask=127) {s:Nat×Nat} (h1:s.1 < mask + 1) (h2:s.2 < 2 ^ 64) {j:Nat} (hj:j <= mask):∃ l,l <= mask + 13 /\ (gr mask l s).1=j:=by
 have q:(gr mask 13 s).2=0:=by
  rw [uR]
  exact Nat.div_eq_of_lt (Nat.lt_trans h2 (by decide))
 obtain ⟨k,hk,e⟩:=BF (M:=mask + 1) (by omega) (qV mask 13 s h1) (show j < mask + 1 by omega)
 refine ⟨13 + k,by omega,?_⟩
 rw [oE]
 have:gr mask 13 s=((gr mask 13 s).1,0):=Prod.ext rfl q
 rw [this,lA]
 exact e
theorem uS (h:Int):bits h < 2 ^ 64:=by
 unfold bits
 have:=Int.emod_lt_of_pos h (show (0:Int) < 2 ^ 64 by decide)
 have:=Int.emod_nonneg h (show (2:Int) ^ 64≠0 by decide)
 omega
theorem pW {t:SetTable} {n:Nat} (o:TOk t n) (h:Int):∃ k,k < 10 * turns t.mask /\ Reach t k (t.probeStart h):=by
 obtain ⟨j,hj,e⟩:=sn o
 obtain ⟨l,hl,el⟩:=BG o.mask (s:=(bits h % (t.mask + 1),bits h)) (Nat.mod_lt _ (by omega)) (uS h) hj
 refine ⟨10 * l,by unfold turns; omega,?_⟩
 exact qU l (bits h % (t.mask + 1),bits h) (by rw [el]; exact e)
end SS
namespace SS
open PySem PySem.SetTable
theorem ris_list {xs:Array Nat}:Ris xs↔xs.toList.Pairwise (· < ·):=by
 rw [List.pairwise_iff_getElem]
 constructor
 ·intro h i j hi hj hij
  have hi':i < xs.size:=by simpa using hi
  have hj':j < xs.size:=by simpa using hj
  have:=h i j hij hj'
  simpa [Array.getD,hi',hj'] using this
 ·intro h i k hik hk
  have hi:i < xs.size:=by omega
  have:=h i k (by simpa using hi) (by simpa using hk) hik
  simpa [Array.getD,hi,hk] using this
theorem eM {α:Type} (xs:Array α) {p:Nat} (hp:p <= xs.size) (x:α):(insertAt xs p x).toList=xs.toList.take p++x::xs.toList.drop p:=by
 unfold insertAt
 have h1:(xs.extract 0 p).toList=xs.toList.take p:=by simp
 have h2:(xs.extract p xs.size).toList=xs.toList.drop p:=by
  simp
  rw [List.take_of_length_le (by rw [List.length_drop,Array.length_toList]; omega)]
 rw [Array.toList_append,Array.toList_push,h1,h2,List.append_assoc]
 rfl
theorem gs {α:Type} (xs:Array α) {p:Nat} (hp:p <= xs.size) (x:α):(insertAt xs p x).size=xs.size + 1:=by
 have:=congrArg List.length (eM xs hp x)
 rw [Array.length_toList,List.length_append,List.length_cons,List.length_take,List.length_drop,Array.length_toList] at this
 omega
theorem pX {α:Type} (xs:Array α) {p:Nat} (hp:p <= xs.size) (x:α):(insertAt xs p x).toList.Perm (x::xs.toList):=by
 rw [eM xs hp x]
 refine List.perm_middle.trans ?_
 rw [List.take_append_drop]
theorem yb {t:SetTable} {n:Nat} (o:TOk t n) (j:Nat):t.put j=({ t with place:=insertAt t.place (below t.place j) j },below t.place j):=by
 have hd:has t.dummies j=false:=by rw [o.dm]; unfold has; simp
 unfold SetTable.put
 rw [hd]
 rfl
theorem wS {xs:Array Nat} {j:Nat} (h:j∈xs.toList):∃ i,i < xs.size /\ xs.getD i 0=j:=by
 obtain ⟨i,hi⟩:=List.getElem?_of_mem h
 rw [Array.getElem?_toList] at hi
 obtain ⟨a,b⟩:=get_getD.mp hi
 exact ⟨i,a,b⟩
theorem BH {t:SetTable} {n:Nat} (o:TOk t n) {j:Nat} (hj:j <= t.mask) (he:t.slot j = .empty) (hn:n + 1 <= t.mask):TOk (t.put j).1 (n + 1):=by
 obtain ⟨b1,b2,b3⟩:=eh o.ris j
 have ne:∀ i,i < n->t.place.getD i 0≠j:=by
  rcases iJ o j with ⟨_,z⟩ | ⟨i,_,z,_⟩
  ·exact z
  ·rw [z] at he; cases he
 have sz:=o.size
 rw [yb o]
 have lst:=eM t.place b1 j
 have rl:=ris_list.mp o.ris
 refine ⟨o.mask,o.dm,by show (insertAt t.place _ j).size=_; rw [gs _ b1,sz],ris_list.mpr ?_,fun i hi=>?_,o.plain,hn⟩
 ·show (insertAt t.place _ j).toList.Pairwise _
  rw [lst,List.pairwise_append,List.pairwise_cons]
  refine ⟨rl.sublist (List.take_sublist _ _),⟨fun k hk=>?_,rl.sublist (List.drop_sublist _ _)⟩,fun a ha b hb=>?_⟩
  ·obtain ⟨i,hi,e⟩:=List.getElem_of_mem hk
   rw [List.getElem_drop] at e
   rw [List.length_drop,Array.length_toList] at hi
   have hi':below t.place j + i < t.place.size:=by omega
   have h1:=b3 (below t.place j + i) (by omega) hi'
   have h2:=ne (below t.place j + i) (by omega)
   have h3:t.place.getD (below t.place j + i) 0=k:=by
    simp [Array.getD,hi']
    simpa using e
   omega
  ·obtain ⟨i,hi,e⟩:=List.getElem_of_mem ha
   rw [List.getElem_take] at e
   rw [List.length_take,Array.length_toList] at hi
   have hi':i < t.place.size:=by omega
   have h1:=b2 i (by omega)
   have h3:t.place.getD i 0=a:=by
    simp [Array.getD,hi']
    simpa using e
   rcases List.mem_cons.mp hb with rfl | hb
   ·omega
   ·obtain ⟨k,hk,e2⟩:=List.getElem_of_mem hb
    rw [List.getElem_drop] at e2
    rw [List.length_drop,Array.length_toList] at hk
    have hk':below t.place j + k < t.place.size:=by omega
    have h4:=b3 (below t.place j + k) (by omega) hk'
    have h5:t.place.getD (below t.place j + k) 0=b:=by
     simp [Array.getD,hk']
     simpa using e2
    omega
 ·show (insertAt t.place (below t.place j) j).getD i 0 <= t.mask
  have is:i < (insertAt t.place (below t.place j) j).size:=by rw [gs _ b1,sz]; exact hi
  have hm:(insertAt t.place (below t.place j) j).getD i 0∈(insertAt t.place (below t.place j) j).toList:=by
   simp [Array.getD,is]
  generalize (insertAt t.place (below t.place j) j).getD i 0=v at hm
  rw [(pX t.place b1 j).mem_iff] at hm
  rcases List.mem_cons.mp hm with rfl | hm
  ·exact hj
  ·obtain ⟨i',hi',rfl⟩:=wS hm
   exact o.le i' (by omega)
theorem yc:∀ (n:Nat) (f:Nat->Nat),(∀ i,i < n + 1->f i < n)->∃ i j,i < j /\ j < n + 1 /\ f i=f j
 | 0,f,h=>absurd (h 0 (by omega)) (Nat.not_lt_zero _)
 | n + 1,f,h=>by
  by_cases ex:∃ i,i < n + 1 /\ f i=f (n + 1)
  ·obtain ⟨i,hi,e⟩:=ex
   exact ⟨i,n + 1,by omega,by omega,e⟩
  ·have ne:∀ i,i < n + 1->f i≠f (n + 1):=fun i hi e=>ex ⟨i,hi,e⟩
   have hl:=h (n + 1) (by omega)
   obtain ⟨i,j,hij,hj,e⟩:=yc n (fun i=>if f i < f (n + 1) then f i else f i - 1) (fun i hi=>by
    have h1:=h i (by omega)
    have h2:=ne i hi
    show (if f i < f (n + 1) then f i else f i - 1) < n
    split <;> omega)
   refine ⟨i,j,hij,by omega,?_⟩
   have h1:=ne i (by omega)
   have h2:=ne j hj
   have e:(if f i < f (n + 1) then f i else f i - 1)=if f j < f (n + 1) then f j else f j - 1:=e
   split at e <;> split at e <;> omega
structure OInv (mask:Nat) (owner:Array (Option Nat)) (k:Nat):Prop where
 size:owner.size=mask + 1
 cov:∀ k':Nat,k' < k->∃ j:Nat,owner[j]? = some (some k')
 inj:∀ j j' k':Nat,owner[j]? = some (some k')->owner[j']? = some (some k')->j=j'
 bd:∀ j k':Nat,owner[j]? = some (some k')->k' < k
theorem OInv.free {mask:Nat} {owner:Array (Option Nat)} {k:Nat} (o:OInv mask owner k) (hk:k <= mask):∃ j,j <= mask /\ owner[j]? = some none:=by
 apply Classical.byContradiction
 intro h
 have all:∀ j,j < mask + 1->∃ k',owner[j]? = some (some k'):=fun j hj=>by
  have hs:j < owner.size:=by rw [o.size]; exact hj
  cases e:owner[j] with
  | none=>exact absurd ⟨j,by omega,by rw [Array.getElem?_eq_getElem hs,e]⟩ h
  | some k'=>exact ⟨k',by rw [Array.getElem?_eq_getElem hs,e]⟩
 obtain ⟨i,j,hij,hj,e⟩:=yc mask (fun j=>if z:j < mask + 1 then Classical.choose (all j z) else 0) (fun i hi=>by
  show (if z:i < mask + 1 then Classical.choose (all i z) else 0) < mask
  rw [dif_pos hi]
  have:=o.bd i _ (Classical.choose_spec (all i hi))
  omega)
 have e:(if z:i < mask + 1 then Classical.choose (all i z) else 0)=if z:j < mask + 1 then Classical.choose (all j z) else 0:=e
 rw [dif_pos (by omega),dif_pos hj] at e
 have h1:=Classical.choose_spec (all i (by omega))
 have h2:=Classical.choose_spec (all j hj)
 rw [e] at h1
 have:=o.inj i j _ h1 h2
 omega
theorem zv {owner:Array (Option Nat)} {i:Nat} (h:(owner.getD i (some 0)).isNone=true):owner[i]? = some none:=by
 by_cases z:i < owner.size
 ·rw [Array.getElem?_eq_getElem z]
  simp [Array.getD,z] at h
  rw [h]
 ·simp [Array.getD,z] at h
theorem zw {owner:Array (Option Nat)} {i:Nat} (h:owner[i]? = some none):(owner.getD i (some 0)).isNone=true:=by
 obtain ⟨z,e⟩:=Array.getElem?_eq_some_iff.mp h
 simp [Array.getD,z,e]
theorem uT {mask:Nat} {owner:Array (Option Nat)}:∀ (l fuel:Nat) (s:Nat×Nat),owner[(gr mask l s).1]? = some none->l < fuel->∃ j,layClean.free mask owner fuel s.1 s.2=some j /\ owner[j]? = some none
 | l,0,_,_,h=>absurd h (Nat.not_lt_zero l)
 | l,fuel + 1,s,hn,hl=>by
  have e:layClean.free mask owner (fuel + 1) s.1 s.2=match (List.range (runEnd mask s.1 + 1 - s.1)).find? fun k=>(owner.getD (s.1 + k) (some 0)).isNone with
   | some k=>some (s.1 + k)
   | none=>layClean.free mask owner fuel (leap mask s.1 s.2).1 (leap mask s.1 s.2).2:=rfl
  rw [e]
  cases f:(List.range (runEnd mask s.1 + 1 - s.1)).find? fun k=>(owner.getD (s.1 + k) (some 0)).isNone with
  | some k =>
   have:=List.find?_some (p:=fun k=>(owner.getD (s.1 + k) (some 0)).isNone) f
   exact ⟨s.1 + k,rfl,zv this⟩
  | none =>
   dsimp only
   cases l with
   | zero =>
    have h1:=List.find?_eq_none.mp f 0 (List.mem_range.mpr (by unfold runEnd; split <;> omega))
    exact absurd (zw hn) h1
   | succ l=>exact uT l fuel _ hn (by omega)
theorem OInv.step {mask:Nat} {owner:Array (Option Nat)} {k:Nat} (o:OInv mask owner k) {j:Nat} (hj:owner[j]? = some none):OInv mask (owner.setIfInBounds j (some k)) (k + 1):=by
 have js:j < owner.size:=(Array.getElem?_eq_some_iff.mp hj).1
 have g:∀ i,(owner.setIfInBounds j (some k))[i]? = if j=i then some (some k) else owner[i]?:=fun i=>by
  rw [Array.getElem?_setIfInBounds]
  by_cases z:j=i
  ·subst z; simp [js]
  ·simp [z]
 refine ⟨by rw [Array.size_setIfInBounds]; exact o.size,fun k' hk'=>?_,fun a b k' ha hb=>?_,fun a k' ha=>?_⟩
 ·by_cases z:k'=k
  ·exact ⟨j,by rw [g,if_pos rfl,z]⟩
  ·obtain ⟨i,hi⟩:=o.cov k' (by omega)
   refine ⟨i,?_⟩
   rw [g,if_neg]
   ·exact hi
   ·rintro rfl; rw [hj] at hi; cases hi
 ·rw [g] at ha hb
  by_cases z1:j=a
  ·by_cases z2:j=b
   ·omega
   ·rw [if_pos z1] at ha
    rw [if_neg z2] at hb
    cases ha
    have:=o.bd b _ hb
    omega
  ·by_cases z2:j=b
   ·rw [if_neg z1] at ha
    rw [if_pos z2] at hb
    cases hb
    have:=o.bd a _ ha
    omega
   ·rw [if_neg z1] at ha
    rw [if_neg z2] at hb
    exact o.inj a b k' ha hb
 ·rw [g] at ha
  by_cases z1:j=a
  ·rw [if_pos z1] at ha
   cases ha
   omega
  ·rw [if_neg z1] at ha
   have:=o.bd a _ ha
   omega
theorem yd {mask:Nat} (hm:mask=7∨mask=31∨mask=127):∀ (hs:List Int) (owner:Array (Option Nat)) (k:Nat),OInv mask owner k->k + hs.length <= mask + 1 ->
  ∃ owner',hs.foldl (fun acc h=>do
   let (owner,k) ← acc
   let j ← layClean.free mask owner (turns mask) (bits h % (mask + 1)) (bits h)
   pure (owner.setIfInBounds j (some k),k + 1)) (some (owner,k))=some (owner',k + hs.length) /\ OInv mask owner' (k + hs.length)
 | [],owner,k,o,_=>⟨owner,rfl,o⟩
 | h::hs,owner,k,o,hl=>by
  rw [List.length_cons] at hl
  obtain ⟨j,hj,ej⟩:=o.free (by omega)
  obtain ⟨l,ll,el⟩:=BG hm (s:=(bits h % (mask + 1),bits h)) (Nat.mod_lt _ (by omega)) (uS h) hj
  obtain ⟨j',e1,e2⟩:=uT (mask:=mask) (owner:=owner) l (turns mask) (bits h % (mask + 1),bits h) (by rw [el]; exact ej) (by unfold turns; omega)
  have e1:layClean.free mask owner (turns mask) (bits h % (mask + 1)) (bits h)=some j':=e1
  obtain ⟨owner',f1,f2⟩:=yd hm hs _ (k + 1) (o.step e2) (by omega)
  refine ⟨owner',?_,by rw [List.length_cons,show k + (hs.length + 1)=k + 1 + hs.length by omega]; exact f2⟩
  rw [List.foldl_cons,List.length_cons,show k + (hs.length + 1)=k + 1 + hs.length by omega,← f1]
  congr 1
  simp [e1]
theorem zx {mask finger moves:Nat} {led:Bool} {hashes:Array Int} (hm:mask=7∨mask=31∨mask=127) (hn:hashes.size <= mask) :
  ∃ t order,laid mask finger moves led true hashes=some (t,order) /\ TOk t hashes.size /\ order.toList.Perm (List.range hashes.size) /\ t.mask=mask /\ t.led=led:=by
 have o0:OInv mask (Array.replicate (mask + 1) none) 0:=by
  refine ⟨by simp,fun k' h=>absurd h (Nat.not_lt_zero _),fun j j' k' h=>?_,fun j k' h=>?_⟩
  ·rw [Array.getElem?_replicate] at h
   split at h <;> cases h
  ·rw [Array.getElem?_replicate] at h
   split at h <;> cases h
 obtain ⟨owner,f1,f2⟩:=yd hm hashes.toList _ 0 o0 (by rw [Array.length_toList]; omega)
 rw [Nat.zero_add,Array.length_toList] at f1 f2
 have lc:layClean mask hashes=some owner:=by
  unfold layClean
  rw [← Array.foldl_toList,f1]
  rfl
 obtain ⟨live,hl⟩:∃ live,live=(List.range (mask + 1)).filterMap fun j=>(owner.getD j none).map (j,·):=⟨_,rfl⟩
 have mem:∀ j k',(j,k')∈live↔owner[j]? = some (some k'):=fun j k'=>by
  rw [hl,List.mem_filterMap]
  constructor
  ·rintro ⟨i,hi,e⟩
   obtain ⟨k2,e2,e3⟩:=Option.map_eq_some_iff.mp e
   cases e3
   by_cases z:j < owner.size
   ·rw [Array.getElem?_eq_getElem z]
    simp [Array.getD,z] at e2
    rw [e2]
   ·simp [Array.getD,z] at e2
  ·intro h
   obtain ⟨z,e⟩:=Array.getElem?_eq_some_iff.mp h
   refine ⟨j,List.mem_range.mpr (by rw [← f2.size]; exact z),?_⟩
   simp [Array.getD,z,e]
 have up:live.Pairwise fun a b=>a.1 < b.1:=by
  rw [hl,List.pairwise_filterMap]
  refine List.pairwise_lt_range.imp fun {a b} hab x hx y hy=>?_
  obtain ⟨_,_,rfl⟩:=Option.map_eq_some_iff.mp hx
  obtain ⟨_,_,rfl⟩:=Option.map_eq_some_iff.mp hy
  exact hab
 have nd:(live.map (·.2)).Nodup:=by
  unfold List.Nodup
  rw [List.pairwise_map]
  refine List.Pairwise.imp_of_mem (fun {a b} ha hb hab e=>?_) up
  have h1:=(mem a.1 a.2).mp ha
  have h2:=(mem b.1 b.2).mp hb
  rw [e] at h1
  have:=f2.inj _ _ _ h1 h2
  omega
 have pm:(live.map (·.2)).Perm (List.range hashes.size):=by
  rw [List.perm_ext_iff_of_nodup nd List.nodup_range]
  intro k
  rw [List.mem_range,List.mem_map]
  constructor
  ·rintro ⟨p,hp,rfl⟩
   exact f2.bd _ _ ((mem p.1 p.2).mp hp)
  ·intro hk
   obtain ⟨j,hj⟩:=f2.cov k hk
   exact ⟨(j,k),(mem j k).mpr hj,rfl⟩
 have ll:live.length=hashes.size:=by
  have:=pm.length_eq
  rw [List.length_map,List.length_range] at this
  exact this
 refine ⟨{ mask,place:=(live.map (·.1)).toArray,dummies:=#[],finger,led,moves,plain:=true },(live.map (·.2)).toArray,?_,⟨hm,rfl,by simp [ll],ris_list.mpr ?_,fun i hi=>?_,rfl,hn⟩,pm,rfl,rfl⟩
 ·unfold laid
  rw [lc,hl]
  rfl
 ·show ((live.map (·.1)).toArray).toList.Pairwise _
  rw [List.toList_toArray,List.pairwise_map]
  exact up
 ·show ((live.map (·.1)).toArray).getD i 0 <= mask
  have is:i < ((live.map (·.1)).toArray).size:=by simp [ll]; exact hi
  have hm:((live.map (·.1)).toArray).getD i 0∈((live.map (·.1)).toArray).toList:=by
   simp only [Array.getD,is,dif_pos]
   exact Array.mem_toList_iff.mpr (Array.getElem_mem is)
  rw [List.toList_toArray] at hm
  obtain ⟨p,hp,e⟩:=List.mem_map.mp hm
  rw [← e]
  have:=(mem p.1 p.2).mp hp
  have:=(Array.getElem?_eq_some_iff.mp this).1
  rw [f2.size] at this
  omega
end SS
namespace SS
open PySem PySem.SetTable PyProof.Rows L2
def RawS (a:Addr) (es:Array (Int×Value)) (ep:Nat) (t:SetTable) (h:Heap):Prop:=∃ o,h.get? a=some o /\ o.ExactSet /\ o.data = .set es ep t
section
variable {prog:Program} {w:World} {A:Around} {E:Value->Shared->Prop} {s:Shared}
abbrev IsK (prog:Program) (w:World) (h:Heap) (x:List Key×Addr):Prop:=IsTupleKey (ay prog w) h x.1 x.2
def enc (prog:Program) (w:World) (x:List Key×Addr):Int×Value:=(tupleKeyHash (ay prog w) x.1,.ref x.2)
theorem ss {k:List Key} {vs:List Value} (h:ItemsAre (ay prog w) k vs):∀ v∈vs,(∃ i t,v=Value.int i t)∨∃ x t,v=Value.str x t:=by
 induction h with
 | nil=>intro v hv; simp at hv
 | @cons k v ks vs h1 _ ih =>
  intro u hu
  rcases List.mem_cons.mp hu with rfl | hu
  ·rcases aQ h1 with ⟨i,t,_,rfl⟩ | ⟨x,t,_,rfl⟩
   ·exact .inl ⟨i,t,rfl⟩
   ·exact .inr ⟨x,t,rfl⟩
  ·exact ih u hu
theorem su {k:List Key} {vs:List Value} (h:ItemsAre (ay prog w) k vs) (hi:dA k):∀ v∈vs,∃ i t,v=Value.int i t:=by
 induction h with
 | nil=>intro v hv; simp at hv
 | @cons k v ks vs h1 _ ih =>
  intro u hu
  rcases List.mem_cons.mp hu with rfl | hu
  ·obtain ⟨j,ej⟩:=hi k List.mem_cons_self
   rcases aQ h1 with ⟨i,t,_,rfl⟩ | ⟨x,t,e,_⟩
   ·exact ⟨i,t,rfl⟩
   ·rw [ej] at e; cases e
  ·exact ih (fun y hy=>hi y (List.mem_cons_of_mem _ hy)) u hu
theorem kg {a:Addr} {o:Obj} {items:Array Value} {n:Nat} {Q:Option (Array Value)->Shared->Prop} (ho:s.heap.get? a=some o) (hd:o.data = .seq items n) (h:Q (some items) s):wpAny (model prog w) A (seqItems? (.ref a)) Q E s:=by
 unfold seqItems?
 refine wpAny_bind (wpAny_load ho ?_)
 rw [hd]
 exact wpAny_pure h
theorem qW {x:List Key×Addr} {Q:Bool->Shared->Prop} (hk:IsK prog w s.heap x) (h:Q false s):wpAny (model prog w) A (ofAClassStatement 8 (.ref x.2)) Q E s:=by
 have hT:=hk.typeIs
 obtain ⟨o,items,n,ho,_,hd,hi⟩:=hk
 have fl:=ss hi
 unfold ofAClassStatement
 refine wpAny_bind (wpAny_typeOf hT ?_)
 dsimp only
 refine wpAny_bind (wpAny_pure ?_)
 simp only [beq_self_eq_true,if_true,Bool.not_true,Bool.false_eq_true,if_false]
 refine wpAny_bind (kg ho hd ?_)
 dsimp only
 refine wpAny_bind ?_
 rw [← Array.forIn_toList]
 refine wpAny_forIn_list _ (fun rest r s'=>r.1=none /\ s'=s /\ ∀ v∈rest,(∃ i t,v=Value.int i t)∨∃ x t,v=Value.str x t) _ ?_ ?_ _ _ ⟨rfl,rfl,fl⟩
 ·rintro v rest r s' ⟨hr,rfl,hall⟩
  have e:ofAClassStatement 7 v=pure false:=by
   rcases hall v List.mem_cons_self with ⟨i,t,rfl⟩ | ⟨x,t,rfl⟩ <;> rfl
  rw [e]
  refine wpAny_bind (wpAny_pure ?_)
  simp only [Bool.false_eq_true,if_false]
  exact wpAny_pure ⟨rfl,rfl,fun u hu=>hall u (List.mem_cons_of_mem _ hu)⟩
 ·rintro ⟨r1,r2⟩ s' ⟨hr,rfl,_⟩
  simp only at hr
  subst hr
  exact wpAny_pure h
theorem zy {x:List Key×Addr} {stored:List Value} {Q:Bool->Shared->Prop} (hk:IsK prog w s.heap x) (hs:∀ v∈stored,∃ y,v = .ref y.2 /\ IsK prog w s.heap y) (h:Q false s):wpAny (model prog w) A (searchCouldBeSeen (.ref x.2) stored) Q E s:=by
 unfold searchCouldBeSeen
 refine wpAny_bind ?_
 refine wpAny_forIn_list _ (fun rest r s'=>r.1=none /\ s'=s /\ ∀ v∈rest,∃ y,v = .ref y.2 /\ IsK prog w s.heap y) _ ?_ ?_ _ _ ⟨rfl,rfl,hs⟩
 ·rintro v rest r s' ⟨hr,rfl,hall⟩
  obtain ⟨y,rfl,hy⟩:=hall v List.mem_cons_self
  dsimp only
  have cb:carriedByValue (Value.ref x.2)=false:=rfl
  rw [cb,Bool.false_and,Bool.or_false]
  by_cases z:(x.2 == y.2)=true
  ·rw [if_pos z]
   exact wpAny_pure ⟨rfl,rfl,fun u hu=>hall u (List.mem_cons_of_mem _ hu)⟩
  ·rw [if_neg z]
   refine wpAny_bind (wpAny_eqIsQuiet_tuple hk ?_)
   simp only [Bool.not_true,Bool.false_eq_true,if_false]
   refine wpAny_bind (wpAny_eqIsQuiet_tuple hy ?_)
   simp only [Bool.not_true,Bool.false_eq_true,if_false]
   refine wpAny_bind (qW hk ?_)
   simp only [Bool.false_eq_true,if_false]
   refine wpAny_bind (qW hy ?_)
   simp only [Bool.false_eq_true,if_false]
   exact wpAny_pure ⟨rfl,rfl,fun u hu=>hall u (List.mem_cons_of_mem _ hu)⟩
 ·rintro ⟨r1,r2⟩ s' ⟨hr,rfl,_⟩
  simp only at hr
  subst hr
  exact wpAny_pure h
theorem zz {x:List Key×Addr} {Q:Bool->Shared->Prop} (hk:IsK prog w s.heap x) (hi:dA x.1) (h:Q true s):wpAny (model prog w) A (hashByValue 8 (.ref x.2)) Q E s:=by
 have hT:=hk.typeIs
 obtain ⟨o,items,n,ho,_,hd,hit⟩:=hk
 have fl:=su hit hi
 unfold hashByValue
 refine wpAny_bind (wpAny_specialOf hT F.slot_tuple_hash.lookup ?_)
 dsimp only
 refine wpAny_bind (kg ho hd ?_)
 dsimp only [Option.getD_some]
 refine wpAny_bind ?_
 rw [← Array.forIn_toList]
 refine wpAny_forIn_list _ (fun rest r s'=>r.1=none /\ s'=s /\ ∀ v∈rest,∃ i t,v=Value.int i t) _ ?_ ?_ _ _ ⟨rfl,rfl,fl⟩
 ·rintro v rest r s' ⟨hr,rfl,hall⟩
  obtain ⟨i,t,rfl⟩:=hall v List.mem_cons_self
  have e:hashByValue 7 (Value.int i t)=pure true:=rfl
  rw [e]
  refine wpAny_bind (wpAny_pure ?_)
  simp only [Bool.not_true,Bool.false_eq_true,if_false]
  exact wpAny_pure ⟨rfl,rfl,fun u hu=>hall u (List.mem_cons_of_mem _ hu)⟩
 ·rintro ⟨r1,r2⟩ s' ⟨hr,rfl,_⟩
  simp only at hr
  subst hr
  exact wpAny_pure h
theorem eN {t:SetTable} {n:Nat} (o:TOk t n):t.fits n=true:=by
 unfold SetTable.fits SetTable.fill
 rw [o.dm,o.size]
 have:=o.few
 simp
 exact this
theorem wT {t:SetTable} {n:Nat} (o:TOk t n):t.gaveWay=false:=by
 unfold SetTable.gaveWay
 rcases o.mask with e | e | e <;> rw [e] <;> rfl
structure SOk (prog:Program) (w:World) (h:Heap) (a:Addr) (xs:List (List Key×Addr)) (es:Array (Int×Value)) (ep:Nat) (t:SetTable):Prop where
 raw:RawS a es ep t h
 tok:TOk t es.size
 lst:es.toList=xs.map (enc prog w)
 key:∀ x∈xs,IsK prog w h x /\ dA x.1
 nd:(xs.map (·.1)).Nodup
 full:es.size * 5 < t.mask * 3
 led:t.led = !w.params.followText "set-order"
theorem pY {a:Addr} {Q:Bool->Shared->Prop} (h:Q true s):wpAny (model prog w) A (isSame (.ref a) (.ref a)) Q E s:=by
 unfold isSame
 simp only [beq_self_eq_true,if_true]
 exact wpAny_pure h
theorem sv (hu:A.units < cLine) {a:Addr} {xs:List (List Key×Addr)} {es:Array (Int×Value)} {ep:Nat} {t:SetTable} {x:List Key×Addr} (S:SOk prog w s.heap a xs es ep t) (hk:IsK prog w s.heap x) (hn:x.1∉xs.map (·.1)) {Q:SetFound->Shared->Prop} (q:∀ j,t.slot j = .empty->j <= t.mask->Q (.free j false) s) :
  ∀ (n fuel:Nat) (stand:Option Probe),n < fuel->n < 10 * turns t.mask->PO t (stand.getD (t.probeStart (tupleKeyHash (ay prog w) x.1)))->Reach t n (stand.getD (t.probeStart (tupleKeyHash (ay prog w) x.1))) ->
   wpAny (model prog w) A (setSearchFrom a (.ref x.2) (tupleKeyHash (ay prog w) x.1) true fuel stand) Q E s:=by
 intro n
 induction n using Nat.strongRecOn with
 | ind n ih =>
  intro fuel stand hf ht hp hr
  obtain ⟨o,ho,hex,hd⟩:=S.raw
  have ft:=eN S.tok
  cases fuel with
  | zero=>exact absurd hf (Nat.not_lt_zero _)
  | succ fuel =>
   unfold setSearchFrom
   refine wpAny_bind (wpAny_setState_of ho hd ft ?_)
   dsimp only
   rw [wT S.tok]
   simp only [Bool.false_eq_true,if_false]
   rcases lz S.tok (h:=tupleKeyHash (ay prog w) x.1) n (10 * turns t.mask) _ hp hr ht with ⟨j,e,z1,z2⟩ | ⟨j,i,nx,n',e,z1,z2,z3,z4,z5,z6⟩
   ·have e:t.probe _ (tupleKeyHash (ay prog w) x.1) (stand.getD (t.probeStart (tupleKeyHash (ay prog w) x.1)))=some (.empty j none):=e
    rw [e]
    exact wpAny_pure (q j z1 z2)
   ·have e:t.probe _ (tupleKeyHash (ay prog w) x.1) (stand.getD (t.probeStart (tupleKeyHash (ay prog w) x.1)))=some (.candidate j i nx):=e
    rw [e]
    dsimp only
    have xl:xs.length=es.size:=by rw [← Array.length_toList,S.lst,List.length_map]
    obtain ⟨y,hy⟩:∃ y,xs[i]? = some y:=⟨_,List.getElem?_eq_getElem (by omega)⟩
    have hi:es[i]? = some (enc prog w y):=by rw [← Array.getElem?_toList,S.lst,List.getElem?_map,hy]; rfl
    have ym:=List.mem_of_getElem? hy
    have ky:=(S.key y ym).1
    have ne:¬ y.1=x.1:=fun z=>hn (z ▸ List.mem_map.mpr ⟨y,ym,rfl⟩)
    have stored:∀ v∈(es.filter fun e=>e.1 == tupleKeyHash (ay prog w) x.1).toList.map (·.2),∃ y:List Key×Addr,v = .ref y.2 /\ IsK prog w s.heap y:=fun v hv=>by
     obtain ⟨e,he,rfl⟩:=List.mem_map.mp hv
     have he:e∈es.toList:=by
      have:=Array.mem_toList_iff.mp he
      exact Array.mem_toList_iff.mpr (Array.mem_filter.mp this).1
     rw [S.lst] at he
     obtain ⟨y,hy,rfl⟩:=List.mem_map.mp he
     exact ⟨y,rfl,(S.key y hy).1⟩
    have sm:t.sameMemory t.moves t.mask=some true:=by unfold SetTable.sameMemory; simp
    cases led:t.led
    all_goals simp only [led,Bool.not_true,Bool.not_false,Bool.false_eq_true,if_false,if_true]
    case' false =>
     refine wpAny_bind (zy hk stored ?_)
     simp only [Bool.false_eq_true,if_false]
    all_goals
     rw [hi]
     unfold enc
     dsimp only
     refine wpAny_bind (wpAny_holding (wpAny_eqBool_tuple hu ky hk ?_))
     rw [decide_eq_false ne]
     refine wpAny_bind (wpAny_setState_of ho hd ft ?_)
     simp only [Bool.and_false,Bool.false_eq_true,if_false]
     rw [sm]
     dsimp only
     rw [if_pos rfl,z1]
     dsimp only
     rw [hi]
     unfold enc
     dsimp only
     refine wpAny_bind (pY ?_)
     refine wpAny_bind (wpAny_pure ?_)
     simp only [if_true]
     exact ih n' z4 fuel (some nx) (by omega) (by omega) z6 z5
end
end SS
namespace SS
open PySem PySem.SetTable PyProof.Rows L2
section
variable {prog:Program} {w:World} {A:Around} {E:Value->Shared->Prop} {s:Shared}
theorem fi {α:Type} {c:Prop} [Decidable c] {d e:Sem α} {Q:α->Shared->Prop} (h:¬ c) (q:wpAny (model prog w) A e Q E s):wpAny (model prog w) A (if c then d else e) Q E s:=by rw [if_neg h]; exact q
theorem IsK.keep {h h':Heap} {a:Addr} {o:Obj} {x:List Key×Addr} (k:IsK prog w h x) (ho:h.get? a=some o) (hc:o.cls = .type "set") (sb:Heap.SameBut a h h'):IsK prog w h' x:=by
 obtain ⟨o',items,n,h1,h2,h3,h4⟩:=k
 have ne:x.2≠a:=by
  intro z
  rw [z,ho] at h1
  cases h1
  rw [hc] at h2
  exact absurd h2 (by decide)
 exact ⟨o',items,n,(sb.2 _ ne).trans h1,h2,h3,h4⟩
theorem IsK.kept {h h':Heap} {x:List Key×Addr} (k:IsK prog w h x) (kp:∀ b o,h.get? b=some o->h'.get? b=some o):IsK prog w h' x:=by
 obtain ⟨o',items,n,h1,h2,h3,h4⟩:=k
 exact ⟨o',items,n,kp _ _ h1,h2,h3,h4⟩
theorem lB {h:Heap} {a:Addr} {o:Obj} {es:Array (Int×Value)} {ep:Nat} {t:SetTable} (ho:h.get? a=some o) (hex:o.ExactSet) (hd:o.data = .set es ep t) (es':Array (Int×Value)) (t':SetTable) :
  RawS a es' (ep + 1) t' (h.update a (Obj.putSet es' t')):=by
 have hg:(h.update a (Obj.putSet es' t')).get? a=some { o with data:=.set es' (ep + 1) t' }:=by
  have:=Heap.get?_update_self (Obj.putSet es' t') ho (by rw [putSet_of es' t' hd]; rfl)
  rw [putSet_of es' t' hd] at this; exact this
 exact ⟨_,hg,hex,rfl⟩
theorem uU (t:SetTable) (hashes:Array Int) (wanted:Nat):t.relaid hashes wanted=laid (sizeAbove wanted - 1) t.finger (t.movedTo (sizeAbove wanted - 1)) t.led t.plain hashes:=rfl
theorem wU {a:Addr} {xs:List (List Key×Addr)} {es:Array (Int×Value)} {ep:Nat} {t:SetTable} {wanted mk:Nat} (raw:RawS a es ep t s.heap) (tok:TOk t es.size) (lst:es.toList=xs.map (enc prog w)) (key:∀ x∈xs,IsK prog w s.heap x /\ dA x.1) (nd:(xs.map (·.1)).Nodup)
  (hw:sizeAbove wanted - 1=mk) (hm:mk=7∨mk=31∨mk=127) (hz:sizeAbove wanted <= sizeLine) (hn:es.size * 5 < mk * 3) (hled:t.led = !w.params.followText "set-order") {Q:Unit->Shared->Prop}
  (q:∀ h' xs' es' ep' t',Heap.SameBut a s.heap h'->SOk prog w h' a xs' es' ep' t'->xs'.Perm xs->es'.size=es.size->Q () { s with heap:=h' }) :
  wpAny (model prog w) A (setRelay a wanted) Q E s:=by
 obtain ⟨o,ho,hex,hd⟩:=raw
 have ft:=eN tok
 have xl:xs.length=es.size:=by rw [← Array.length_toList,lst,List.length_map]
 obtain ⟨t',order,e1,e2,e3,e4,e5⟩:=zx (mask:=mk) (finger:=t.finger) (moves:=t.movedTo mk) (led:=t.led) (hashes:=es.map (·.1)) hm (by rw [Array.size_map]; omega)
 rw [Array.size_map] at e2 e3
 have er:t.relaid (es.map (·.1)) wanted=some (t',order):=by rw [uU,hw,tok.plain]; exact e1
 have om:∀ i∈order.toList,i < es.size:=fun i hi=>List.mem_range.mp (e3.mem_iff.mp hi)
 obtain ⟨xs',hxs⟩:∃ xs',xs'=order.toList.map fun i=>xs.getD i ([],0):=⟨_,rfl⟩
 have pm:xs'.Perm xs:=by rw [hxs]; exact kc (by rw [xl]; exact e3)
 have el:(order.filterMap (es[·]?)).toList=xs'.map (enc prog w):=by
  rw [Array.toList_filterMap,hxs,List.map_map]
  have:∀ l:List Nat,(∀ i∈l,i < es.size)->l.filterMap (es[·]?)=l.map (enc prog w ∘ fun i=>xs.getD i ([],0)):=fun l hl=>by
   induction l with
   | nil=>rfl
   | cons i l ih =>
    have hi:=hl i List.mem_cons_self
    have e5:es[i]? = some (enc prog w (xs.getD i ([],0))):=by
     rw [← Array.getElem?_toList,lst,List.getElem?_map,List.getD_eq_getElem?_getD,List.getElem?_eq_getElem (by omega)]
     rfl
    rw [List.filterMap_cons,e5,List.map_cons,ih fun j hj=>hl j (List.mem_cons_of_mem _ hj)]
    rfl
  exact this _ om
 have es_sz:(order.filterMap (es[·]?)).size=es.size:=by
  have:=congrArg List.length el
  rw [Array.length_toList,List.length_map,pm.length_eq,xl] at this
  exact this
 unfold setRelay
 refine wpAny_bind (wpAny_setState_of ho hd ft ?_)
 dsimp only
 rw [if_neg (Nat.not_lt.mpr hz)]
 rw [er]
 have fin:wpAny (model prog w) A (storeSet a (order.filterMap (es[·]?)) t') Q E s:=by
  refine wpAny_storeSet_of ho hd ?_ (by rw [es_sz,sizeLine_eq]; have:=tok.few; rcases tok.mask with z | z | z <;> omega)
  have sb:=Heap.SameBut.update s.heap a (Obj.putSet (order.filterMap (es[·]?)) t')
  refine q _ xs' _ (ep + 1) t' sb ⟨lB ho hex hd _ _,by rw [es_sz]; exact e2,el,fun x hx=>?_,?_,by rw [es_sz,e4]; exact hn,by rw [e5]; exact hled⟩ pm es_sz
  ·have:=key x (pm.mem_iff.mp hx)
   exact ⟨this.1.keep ho hex.1 sb,this.2⟩
  ·exact (pm.map (·.1)).nodup_iff.mpr nd
 refine wpAny_bind (fi (by rw [bne_iff_ne]; exact fun z=>z es_sz) (wpAny_pure ?_))
 exact fin
theorem zA (hu:A.units < cLine) {a:Addr} {xs:List (List Key×Addr)} {es:Array (Int×Value)} {ep:Nat} {t:SetTable} {x:List Key×Addr} (S:SOk prog w s.heap a xs es ep t) (hk:IsK prog w s.heap x) (hi:dA x.1) (hn:x.1∉xs.map (·.1)) (h60:es.size < 60) {Q:Bool->Shared->Prop}
  (q:∀ h' tk xs' es' ep' t',Heap.SameBut a s.heap h'->SOk prog w h' a xs' es' ep' t'->xs'.Perm (x::xs)->es'.size=es.size + 1->s.toks <= tk->Q true { s with heap:=h',toks:=tk }) :
  wpAny (model prog w) A (setAdd a (.ref x.2)) Q E s:=by
 obtain ⟨o,ho,hex,hd⟩:=id S.raw
 have tok:=S.tok
 have ft:=eN tok
 obtain ⟨n0,n1,n2⟩:=pW tok (tupleKeyHash (ay prog w) x.1)
 have t142:turns t.mask <= 142:=by unfold turns; rcases tok.mask with z | z | z <;> omega
 unfold setAdd
 refine wpAny_holding (wpAny_bind (wpAny_pyHash_tuple hu hk ?_))
 unfold setAddHashed
 refine wpAny_holding ?_
 unfold setAddHashedIn
 refine wpAny_bind (wpAny_setState_of (s:={ s with toks:=s.toks + (x.1.length + 1) }) ho hd ft ?_)
 dsimp only
 have bs:byScan (.ref x.2) es=false:=rfl
 rw [bs]
 simp only [Bool.false_eq_true,if_false]
 have S':SOk prog w { s with toks:=s.toks + (x.1.length + 1) }.heap a xs es ep t:=S
 refine wpAny_bind (sv (s:={ s with toks:=s.toks + (x.1.length + 1) }) hu S' hk hn (fun j z1 z2=>?_) n0 100000 none (by omega) n1 (PO.start _ _) n2)
 dsimp only
 refine wpAny_bind (wpAny_setState_of (s:={ s with toks:=s.toks + (x.1.length + 1) }) ho hd ft ?_)
 dsimp only
 have b1:=(eh tok.ris j).1
 have hle:es.size + 1 <= t.mask:=by
  have:=S.full
  rcases tok.mask with z | z | z <;> omega
 have pok:=BH tok z2 z1 hle
 have pis:=yb tok j
 rw [pis] at pok ⊢
 dsimp only at pok ⊢
 have bsz:below t.place j <= es.size:=by rw [← tok.size]; exact b1
 rw [if_pos pok.plain]
 refine wpAny_bind (zz (s:={ s with toks:=s.toks + (x.1.length + 1) }) hk hi ?_)
 rw [if_pos rfl]
 have isz:(insertAt es (below t.place j) (tupleKeyHash (ay prog w) x.1,Value.ref x.2)).size=es.size + 1:=gs es bsz _
 refine wpAny_bind (wpAny_storeSet_of (s:={ s with toks:=s.toks + (x.1.length + 1) }) ho hd ?_ (by rw [isz,sizeLine_eq]; omega))
 obtain ⟨t1,ht1⟩:∃ t1:SetTable,t1={ t with place:=insertAt t.place (below t.place j) j }:=⟨_,rfl⟩
 rw [← ht1] at pok ⊢
 have mk1:t1.mask=t.mask:=by rw [ht1]
 have ld1:t1.led = !w.params.followText "set-order":=by rw [ht1]; exact S.led
 have raw1:=lB ho hex hd (insertAt es (below t.place j) (tupleKeyHash (ay prog w) x.1,Value.ref x.2)) t1
 have sb:=Heap.SameBut.update s.heap a (Obj.putSet (insertAt es (below t.place j) (tupleKeyHash (ay prog w) x.1,Value.ref x.2)) t1)
 obtain ⟨xs1,hxs1⟩:∃ xs1,xs1=xs.take (below t.place j)++x::xs.drop (below t.place j):=⟨_,rfl⟩
 have p1:xs1.Perm (x::xs):=by
  rw [hxs1]
  refine List.perm_middle.trans ?_
  rw [List.take_append_drop]
 have l1:(insertAt es (below t.place j) (tupleKeyHash (ay prog w) x.1,Value.ref x.2)).toList=xs1.map (enc prog w):=by
  rw [eM es bsz,S.lst,hxs1,List.map_append,List.map_cons,List.map_take,List.map_drop]
  rfl
 have nd1:(xs1.map (·.1)).Nodup:=(p1.map (·.1)).nodup_iff.mpr (by rw [List.map_cons]; exact List.nodup_cons.mpr ⟨hn,S.nd⟩)
 have k1:∀ y∈xs1,IsK prog w (s.heap.update a (Obj.putSet (insertAt es (below t.place j) (tupleKeyHash (ay prog w) x.1,Value.ref x.2)) t1)) y /\ dA y.1:=fun y hy=>by
  rcases List.mem_cons.mp (p1.mem_iff.mp hy) with rfl | hy
  ·exact ⟨hk.keep ho hex.1 sb,hi⟩
  ·exact ⟨(S.key y hy).1.keep ho hex.1 sb,(S.key y hy).2⟩
 have tf:t1.tooFull=decide (t.mask * 3 <= (es.size + 1) * 5):=by
  unfold SetTable.tooFull SetTable.fill
  rw [pok.dm,pok.size,mk1]
  rfl
 rw [← isz] at pok
 generalize insertAt es (below t.place j) (tupleKeyHash (ay prog w) x.1,Value.ref x.2)=es1 at *
 simp only [Bool.not_false,Bool.true_and]
 by_cases fl:t.mask * 3 <= (es.size + 1) * 5
 ·rw [tf,decide_eq_true fl,if_pos rfl]
  have cases:(t.mask=7 /\ es.size + 1=5)∨(t.mask=31 /\ es.size + 1=19):=by
   have:=S.full
   rcases tok.mask with z | z | z <;> omega
  have go:∀ mk,sizeAbove (grown (es.size + 1)) - 1=mk->(mk=7∨mk=31∨mk=127)->sizeAbove (grown (es.size + 1)) <= sizeLine->es1.size * 5 < mk * 3 ->
    wpAny (model prog w) A (setRelay a (grown (es.size + 1))) (fun _ s'=>wpAny (model prog w) A (pure true) Q E s') E { s with heap:=s.heap.update a (Obj.putSet es1 t1),toks:=s.toks + (x.1.length + 1) }:=fun mk e1 e2 e3 e4 =>
   wU (s:={ s with heap:=s.heap.update a (Obj.putSet es1 t1),toks:=s.toks + (x.1.length + 1) }) raw1 pok l1 k1 nd1 e1 e2 e3 e4 ld1 fun h' xs' es' ep' t' sb' S2 p2 z=>wpAny_pure (q h' _ xs' es' ep' t' (sb.trans sb') S2 (p2.trans p1) (by rw [z,isz]) (Nat.le_add_right _ _))
  refine wpAny_bind ?_
  rcases cases with ⟨c1,c2⟩ | ⟨c1,c2⟩
  ·refine go 31 (by rw [c2]; rfl) (by omega) (by rw [c2,sizeLine_eq]; decide) (by rw [isz]; omega)
  ·refine go 127 (by rw [c2]; rfl) (by omega) (by rw [c2,sizeLine_eq]; decide) (by rw [isz]; omega)
 ·rw [tf,decide_eq_false fl,if_neg Bool.false_ne_true]
  refine wpAny_pure (q _ _ xs1 es1 (ep + 1) t1 sb ⟨raw1,pok,l1,k1,nd1,by rw [isz,mk1]; omega,ld1⟩ p1 isz (Nat.le_add_right _ _))
end
end SS
namespace SS
open PySem PySem.SetTable PyProof.Rows L2
section
variable {prog:Program} {w:World} {A:Around} {R:Result->Shared->Prop} {I:Addr} {fp wr:List Addr} {G:Array GenState->Array GenState->Prop} {n:Nat} {P:Nat->Value->Prop} {St:Nat->Shared->Prop}
theorem SOk.moved {h h':Heap} {a:Addr} {xs:List (List Key×Addr)} {es:Array (Int×Value)} {ep:Nat} {t:SetTable} (S:SOk prog w h a xs es ep t) (ha:∀ o,h.get? a=some o->h'.get? a=some o) (hx:∀ x∈xs,∀ o,h.get? x.2=some o->h'.get? x.2=some o):SOk prog w h' a xs es ep t:=by
 obtain ⟨o,h1,h2⟩:=S.raw
 refine ⟨⟨o,ha o h1,h2⟩,S.tok,S.lst,fun x hxm=>⟨?_,(S.key x hxm).2⟩,S.nd,S.full,S.led⟩
 obtain ⟨o',items,m,k1,k2⟩:=(S.key x hxm).1
 exact ⟨o',items,m,hx x hxm o' k1,k2⟩
theorem wV (W:WalksS prog w A.in1 I fp wr G n P St) (S:Addr) (hSf:S∉fp) (hu:A.in1.units < cLine) {xs0:List (List Key×Addr)} (hn:xs0.length=n) (hP:∀ i v,P i v->∃ x,xs0[i]? = some x /\ v = .ref x.2) (hwr:∀ x∈xs0,x.2∉wr) (nd:(xs0.map (·.1)).Nodup) (only:∀ x∈xs0,dA x.1) (h60:n <= 60) :
  ∀ (k i:Nat) (s:Shared),n - i=k->i <= n->St i s->(∀ x∈xs0,IsK prog w s.heap x)->(∃ xs es ep t,SOk prog w s.heap S xs es ep t /\ xs.Perm (xs0.take i) /\ es.size=i) ->
   (∀ s',Moved (S::wr) G s s'->(∃ xs es ep t,SOk prog w s'.heap S xs es ep t /\ xs.Perm xs0)->R (.ok (.ret .none)) s') ->
   codeAny (model prog w) A (.builtin "set.update.loop" ⟨[.ref S,.ref I],[]⟩) R s:=by
 have hSw:S∉wr:=fun h=>hSf (W.sub _ h)
 have hsub:∀ b∈wr,b∈S::wr:=fun b hb=>List.mem_cons_of_mem _ hb
 intro k
 induction k with
 | zero =>
  intro i s hk hi hst hK hS hR
  have hin:i=n:=by omega
  subst hin
  refine codeAny_builtin F.entry_set_update_loop ?_
  rw [Around.under_plainId F.plain_set_update_loop _]
  show wpAny _ A.in1 (pyNext (.ref I) >>= _) _ _ s
  refine wpAny_bind (W.done s _ _ hst fun s' hm=>?_)
  show wpAny _ A.in1 (ret Value.none) _ _ s'
  obtain ⟨xs,es,ep,t,so,p,_⟩:=hS
  rw [List.take_of_length_le (by omega)] at p
  exact wpAny_pure (hR s' (hm.mono hsub) ⟨xs,es,ep,t,so.moved (fun o e=>hm.heap S o hSw e) fun x hx o e=>hm.heap _ o (hwr x (p.mem_iff.mp hx)) e,p⟩)
 | succ k ih =>
  intro i s hk hi hst hK hS hR
  have hlt:i < n:=by omega
  refine codeAny_builtin F.entry_set_update_loop ?_
  rw [Around.under_plainId F.plain_set_update_loop _]
  show wpAny _ A.in1 (pyNext (.ref I) >>= _) _ _ s
  refine wpAny_bind (W.item i s _ _ hlt hst fun v s' hPv hst' hm=>?_)
  obtain ⟨x,hx,rfl⟩:=hP i v hPv
  have xm:=List.mem_of_getElem? hx
  obtain ⟨xs,es,ep,t,so,p,sz⟩:=hS
  have mem0:∀ y∈xs,y∈xs0:=fun y hy=>List.mem_of_mem_take (p.mem_iff.mp hy)
  have so':SOk prog w s'.heap S xs es ep t:=so.moved (fun o e=>hm.heap S o hSw e) fun y hy o e=>hm.heap _ o (hwr y (mem0 y hy)) e
  have hK':∀ y∈xs0,IsK prog w s'.heap y:=fun y hy=>by
   obtain ⟨o',items,m,k1,k2⟩:=hK y hy
   exact ⟨o',items,m,hm.heap _ o' (hwr y hy) k1,k2⟩
  have hnx:x.1∉xs.map (·.1):=fun z=>by
   have z:=(p.map (·.1)).mem_iff.mp z
   have hi':i < (xs0.map (·.1)).length:=by rw [List.length_map,hn]; exact hlt
   rw [List.map_take] at z
   obtain ⟨j,hj,e⟩:=List.getElem_of_mem z
   rw [List.length_take] at hj
   rw [List.getElem_take] at e
   have e2:(xs0.map (·.1))[i]=x.1:=by
    rw [List.getElem_map]
    obtain ⟨_,e3⟩:=List.getElem?_eq_some_iff.mp hx
    rw [e3]
   rw [← e2] at e
   have:=(List.getElem_inj nd).mp e
   omega
  show wpAny _ A.in1 (holding [Value.ref x.2] (setAdd S (.ref x.2)) >>= _) _ _ s'
  refine wpAny_bind (wpAny_holding ?_)
  obtain ⟨o,ho,hex,hd⟩:=id so'.raw
  refine zA hu so' (hK' x xm) (only x xm) hnx (by omega) fun h' tk xs' es' ep' t' sb so2 p2 sz2 tk2=>?_
  refine wpAny_pure ⟨plainId_quiet F.plain_set_update_loop _,ih (i + 1) _ (by omega) hlt (W.frame _ s' _ _ hst' tk2 fun b hb o e=>?_) (fun y hy=>(hK' y hy).keep ho hex.1 sb) ⟨xs',es',ep',t',so2,?_,by omega⟩ fun s'' hm'' hS''=>?_⟩
  ·rw [sb.2 b (fun h:b=S=>hSf (by rw [← h]; exact hb))]; exact e
  ·refine p2.trans ?_
   have e:xs0.take (i + 1)=xs0.take i++[x]:=by rw [List.take_add_one,hx]; rfl
   rw [e]
   exact (List.Perm.cons x p).trans (List.perm_append_singleton x (xs0.take i)).symm
  ·refine hR s'' (Moved.trans W.gtrans ((hm.mono hsub).then_heap tk2 fun b o hb e=>?_) hm'') hS''
   rw [sb.2 b (fun h:b=S=>hb (by rw [h]; exact List.mem_cons_self))]; exact e
end
section
variable {prog:Program} {w:World} {A:Around} {E:Value->Shared->Prop} {s:Shared}
theorem pZ (a:Value) {Q₁:Value->Shared->Prop}
  (h:Q₁ (.ref s.heap.objs.size) { s with heap:=s.heap.push { cls:=.type "set",dict:=none,data:=.set #[] 0 (.fresh 0 0 (!w.params.followText "set-order")) } }) :
  codeAny (model prog w) A (.call (.builtin "set.__new__") ⟨[.type "set",a],[]⟩) (wants Q₁ E) s:=by
 refine codeAny_of_tree ?_
 show wpAny _ A.in1 (do checkBuiltinCall "set.__new__" ⟨[.type "set",a],[]⟩; again (.builtin "set.__new__" ⟨[.type "set",a],[]⟩)) _ _ s
 refine wpAny_bind (wpAny_of_eq (F.newCall_set_1 a) (wpAny_pure ⟨plainId_quiet F.plain_set_new _,codeAny_builtin F.entry_set_new ?_⟩))
 rw [Around.under_plainId F.plain_set_new _]
 unfold Builtin.«set.__new__» Builtin.Frozenset.newClass
 have hsub:=sub_set_self
 obtain ⟨hp,g,d,tk,os⟩:=s
 dsimp only
 wp_walk
 refine wpAny_askSetting (wpAny_pure ?_)
 dsimp only
 simp only [newObj]
 refine wpAny_bind (wpAny_alloc (wpAny_pure ?_))
 exact wpAny_pure h
theorem uV {A:Around} (h:A.units + 16 < cLine):A.in1.in1.in1.units < cLine:=by
 show A.units + 1 + 1 + 1 < cLine
 omega
theorem wW {led:Bool} (hl:led = !w.params.followText "set-order") {h:Heap} {a:Addr} (hg:h.get? a=some { cls:=.type "set",dict:=none,data:=.set #[] 0 (.fresh 0 0 led) }):SOk prog w h a [] #[] 0 (.fresh 0 0 led) :=
 ⟨⟨_,hg,⟨rfl,rfl,rfl⟩,rfl⟩,⟨.inl rfl,rfl,rfl,fun i k _ hk=>absurd hk (Nat.not_lt_zero k),fun i hi=>absurd hi (Nat.not_lt_zero i),rfl,Nat.zero_le _⟩,rfl,fun x hx=>by simp at hx,List.nodup_nil,by show 0 * 5 < 7 * 3; decide,hl⟩
set_option maxRecDepth 100000 in
set_option maxHeartbeats 3200000 in
theorem set_of_list {l:Addr} {items:Array Value} {xs0:List (List Key×Addr)} {Q:Value->Shared->Prop} (hu:A.units + 16 < cLine)
  (hh:A.handled=none) (hl:s.heap.IsList l items) (hi:items.toList=xs0.map fun x=>Value.ref x.2) (hK:∀ x∈xs0,IsK prog w s.heap x) (nd:(xs0.map (·.1)).Nodup) (only:∀ x∈xs0,dA x.1) (h60:xs0.length <= 60)
  (h:∀ (h':Heap) (tk:Nat),(∃ xs es ep t,SOk prog w h' s.heap.objs.size xs es ep t /\ xs.Perm xs0)->(∀ b o,b < s.heap.objs.size->s.heap.get? b=some o->h'.get? b=some o)->Q (.ref s.heap.objs.size) { s with heap:=h',toks:=tk }) :
  wpAny (model prog w) A (call (.type "set") [.ref l]) Q E s:=by
 have isz:items.size=xs0.length:=by rw [← Array.length_toList,hi,List.length_map]
 obtain ⟨c,tl,hmro⟩:=F.called_set.mro
 have hmade:=F.called_set.made
 have hsub:=F.called_set.sub
 refine wpAny_call (codeAny_of_tree ?_)
 show wpAny _ _ (callAny (.type "set") _) _ _ _
 refine wpAny_pure ⟨Code.quiet_builtin _ (by decide +kernel),codeAny_builtin F.entry_type_call ?_⟩
 rw [Around.under_plain (weight_type_call_type "set" [.ref l] []) rfl]
 have h1:=F.called_set.notType
 have h2:=F.called_set.canCreate
 have hct:=F.typeCall_set_1 (.ref l)
 repeat (any_goals (first | assumption | wp_step))
 refine codeAny_mono (pZ (.ref l) (E:=E) (Q₁:=fun obj s₁=>∃ led:Bool,led=(!w.params.followText "set-order") /\ obj = .ref s.heap.objs.size /\ s₁={ s with heap:=s.heap.push { cls:=.type "set",dict:=none,data:=.set #[] 0 (.fresh 0 0 led) } }) ⟨_,rfl,rfl,rfl⟩) fun r s₁ hr=>?_
 cases r with
 | error e=>exact hr
 | ok fl =>
  cases fl with
  | ret obj =>
   obtain ⟨led,hld,rfl,rfl⟩:=hr
   have hS:(s.heap.push { cls:=.type "set",dict:=none,data:=.set #[] 0 (.fresh 0 0 led) }).get? s.heap.objs.size=some { cls:=.type "set",dict:=none,data:=.set #[] 0 (.fresh 0 0 led) }:=Heap.get?_push_size _ rfl
   have hT:Shared.TypeIs { s with heap:=s.heap.push { cls:=.type "set",dict:=none,data:=.set #[] 0 (.fresh 0 0 led) } } (.ref s.heap.objs.size) "set":=⟨_,hS,rfl⟩
   have hli:=F.called_set.init.lookup
   have hbi:=F.called_set.init.bind (.ref s.heap.objs.size)
   repeat (any_goals (first | assumption | wp_step))
   refine codeAny_mono (codeAny_call_builtin (R:=wants (fun r s₂=>r = .none /\ ∃ h' tk,s₂={ s with heap:=h',toks:=tk } /\
     (∃ xs es ep t,SOk prog w h' s.heap.objs.size xs es ep t /\ xs.Perm xs0) /\
     (∀ b o,b < s.heap.objs.size->s.heap.get? b=some o->h'.get? b=some o)) E) F.called_set.init.plain F.entry_set_init (check_set_init_1 hT ?_)) fun r₂ s₂ hr₂=>?_
   ·obtain ⟨ol,hol,hcl,nl,hdl⟩:=hl
    obtain ⟨ocls,odict,odata,oslots⟩:=ol
    simp only at hcl hdl
    subst hcl; subst hdl
    have hol':(s.heap.push { cls:=.type "set",dict:=none,data:=.set #[] 0 (.fresh 0 0 led) }).get? l=some { cls:=.type "list",dict:=odict,data:=.seq items nl,slots:=oslots }:=Heap.get?_push_of_some _ hol
    have hsls:=F.sub_list_set
    have hslf:=F.sub_list_frozenset
    have hne:(Value.type "list" == Value.type "dict")=false:=by decide
    have hl1:(s.heap.push { cls:=.type "set",dict:=none,data:=.set #[] 0 (.fresh 0 0 led) }).IsList l items:=⟨_,hol',rfl,nl,rfl⟩
    unfold Builtin.«set.__init__» noKeywords Builtin.Frozenset.updateFrom
    generalize hPI:pyIter=PI
    wp_walk
    subst hPI
    refine wpAny_pyIter_list hl1 ?_
    refine wpAny_bind (wpAny_runValue ?_)
    have hlS:l < s.heap.objs.size:=Heap.lt_size hol
    have hh3:A.in1.in1.in1.handled=none:=by simp [hh]
    have hneI:l≠(s.heap.push { cls:=.type "set",dict:=none,data:=.set #[] 0 (.fresh 0 0 led) }).objs.size:=by
     rw [Heap.size_push]; exact Nat.ne_of_lt (Nat.lt_succ_of_lt hlS)
    have hSf:s.heap.objs.size∉[(s.heap.push { cls:=.type "set",dict:=none,data:=.set #[] 0 (.fresh 0 0 led) }).objs.size,l]:=by
     rw [Heap.size_push]; simp only [List.mem_cons,List.mem_singleton,List.not_mem_nil,or_false,not_or]
     exact ⟨Nat.ne_of_lt (Nat.lt_succ_self _),Nat.ne_of_gt hlS⟩
    have hval:∀ (i:Nat) (v:Value),items[i]? = some v->∃ x,xs0[i]? = some x /\ v = .ref x.2:=fun i v hv=>by
     rw [← Array.getElem?_toList,hi,List.getElem?_map] at hv
     obtain ⟨x,hx,rfl⟩:=Option.map_eq_some_iff.mp hv
     exact ⟨x,hx,rfl⟩
    have klt:∀ x∈xs0,x.2 < s.heap.objs.size:=fun x hx=>by
     obtain ⟨o',items,m,k1,_⟩:=hK x hx
     exact Heap.lt_size k1
    refine wV ((Walks.list hh3 _ l hneI items).toS) s.heap.objs.size
     hSf ?hu isz.symm hval (fun x hx z=>?hw) nd only (by omega) (items.size - 0) 0 _ (by omega) (Nat.zero_le _)
     ⟨⟨_,Heap.get?_push_size _ rfl,rfl,rfl⟩,(hl1.push _)⟩ (fun x hx=>(hK x hx).kept fun b o e=>Heap.get?_push_of_some _ (Heap.get?_push_of_some _ e)) ⟨[],#[],0,_,wW hld (Heap.get?_push_of_some _ hS),.nil,rfl⟩ ?hR
    case hu=>exact uV hu
    case hw =>
     have:=klt x hx
     simp only [List.mem_cons,List.not_mem_nil,or_false] at z
     rw [z,Heap.size_push] at this
     exact absurd this (Nat.not_lt.mpr (Nat.le_succ _))
    case hR =>
     intro s' hm hS'
     obtain ⟨h',g',d',tk',os'⟩:=s'
     have eg:g'=s.gens:=hm.gens
     have ed:d'=s.drawn:=hm.drawn
     have eo:os'=s.os:=hm.os
     subst eg; subst ed; subst eo
     show wpAny _ _ _ _ _ _
     refine wpAny_pure ?_
     show wpAny _ _ (ret Value.none) _ _ _
     refine wpAny_pure ⟨rfl,h',tk',rfl,hS',fun b o hb e=>?_⟩
     have hb1:b≠s.heap.objs.size:=Nat.ne_of_lt hb
     have hb2:b≠(s.heap.push { cls:=.type "set",dict:=none,data:=.set #[] 0 (.fresh 0 0 led) }).objs.size:=by
      rw [Heap.size_push]; exact Nat.ne_of_lt (Nat.lt_succ_of_lt hb)
     exact hm.heap b o (by simp only [List.mem_cons,List.mem_singleton,List.not_mem_nil,or_false,not_or]; exact ⟨hb1,hb2⟩) (Heap.get?_push_of_some _ (Heap.get?_push_of_some _ e))
   ·cases r₂ with
    | error e=>exact hr₂
    | ok fl₂ =>
     cases fl₂ with
     | ret r =>
      obtain ⟨rfl,h',tk,rfl,hS',hk'⟩:=hr₂
      repeat (any_goals (first | assumption | wp_step))
      exact h _ _ hS' hk'
     | _=>exact hr₂.elim
  | _=>exact hr.elim
end
end SS
namespace SS
open PySem PySem.SetTable PyProof.Rows L2
set_option maxRecDepth 100000
theorem kP:entryFor table "set.__iter__" = some Builtin.«frozenset.__iter__»:=entryFor_alias (id':="frozenset.__iter__") (by kernel_rfl) rfl (by decide +kernel) (by kernel_rfl)
theorem slot_si_next:Slot "set_iterator" "__next__" "set_iterator.__next__" :=
 .of (owner:="set_iterator") (n:="__next__") (by rw [typeLookup_type,builtinLookup_eq_fast]; kernel_rfl) (by decide +kernel) (by decide +kernel) (by decide +kernel)
  (by first | exact .inl (by decide +kernel) | exact .inr (by decide +kernel)) (by rw [isSubtype_type]; kernel_rfl)
theorem hV:entryFor table "set_iterator.__next__" = some Builtin.«set_iterator.__next__»:=entryFor_of_tree (by kernel_rfl)
theorem je (a:Value):argsOk "set_iterator.__next__" ⟨[a],[]⟩:=by unfold argsOk; kernel_rfl
theorem jf:Slot "set_iterator" "__iter__" "set_iterator.__iter__" :=
 .of (owner:="set_iterator") (n:="__iter__") (by rw [typeLookup_type,builtinLookup_eq_fast]; kernel_rfl) (by decide +kernel) (by decide +kernel) (by decide +kernel)
  (by first | exact .inl (by decide +kernel) | exact .inr (by decide +kernel)) (by rw [isSubtype_type]; kernel_rfl)
theorem mG:entryFor table "set_iterator.__iter__" = some Builtin.«dict_keyiterator.__iter__»:=entryFor_alias (id':="dict_keyiterator.__iter__") (by kernel_rfl) rfl (by decide +kernel) (by kernel_rfl)
theorem oF (a:Value):argsOk "set_iterator.__iter__" ⟨[a],[]⟩:=by unfold argsOk; kernel_rfl
theorem lC {α:Type}:∀ (l:List α) (i:Nat) (x:α),l[i]? = some x->(x::l.eraseIdx i).Perm l
 | [],_,_,h=>by simp at h
 | y::l,0,x,h=>by
  have:y=x:=by simpa using h
  subst this
  exact List.Perm.refl _
 | y::l,i + 1,x,h=>by
  have ih:=lC l i x (by simpa using h)
  rw [List.eraseIdx_cons_succ]
  exact (List.Perm.swap y x _).trans (ih.cons y)
theorem uW {α:Type} (next:Nat->Nat):∀ (fuel k:Nat) (left:List α) (out:Array α),left.length=fuel->(pickOrder.go next fuel k left out).toList.Perm (out.toList++left)
 | 0,k,left,out,h=>by
  have:left=[]:=List.length_eq_zero_iff.mp h
  subst this
  rw [List.append_nil]
  exact List.Perm.refl _
 | fuel + 1,k,left,out,h=>by
  have e:pickOrder.go next (fuel + 1) k left out=match left[next k % left.length]? with
   | some x=>pickOrder.go next fuel (k + 1) (left.eraseIdx (next k % left.length)) (out.push x)
   | none=>out:=rfl
  have hlt:next k % left.length < left.length:=Nat.mod_lt _ (by omega)
  have hx:left[next k % left.length]? = some left[next k % left.length]:=List.getElem?_eq_getElem hlt
  rw [e,hx]
  dsimp only
  refine (uW next fuel (k + 1) _ _ (by rw [List.length_eraseIdx]; simp [hlt]; omega)).trans ?_
  rw [Array.toList_push,List.append_assoc]
  exact (lC left _ _ hx).append_left _
theorem kh {α:Type} (next:Nat->Nat) (xs:Array α):(pickOrder next xs).toList.Perm xs.toList:=by
 have:=uW next xs.size 0 xs.toList #[] (by simp)
 unfold pickOrder
 simpa using this
section
variable {prog:Program} {w:World} {A:Around} {E:Value->Shared->Prop} {s:Shared} {a it:Addr} {xs:List (List Key×Addr)} {es:Array (Int×Value)} {ep:Nat} {t:SetTable}
def walk (w:World) (a:Addr) (ep:Nat) (es:Array (Int×Value)):Array (Int×Value):=if w.params.followText "set-order" = true then pickOrder (w.params.setOrder a ep) es else es
theorem walk_perm (w:World) (a:Addr) (ep:Nat) (es:Array (Int×Value)):(walk w a ep es).toList.Perm es.toList:=by
 unfold walk
 split
 ·exact kh _ _
 ·exact List.Perm.refl _
def IsIt (h:Heap) (it a:Addr) (slot i n ep:Nat):Prop:=∃ o,h.get? it=some o /\ o.cls = .type "set_iterator" /\ o.data = .fields #[.int slot 0,.int i 0,.ref a,.int n 0,.int ep 0]
theorem IsIt.typeIs {slot i n:Nat} (h:IsIt s.heap it a slot i n ep):s.TypeIs (.ref it) "set_iterator":=let ⟨o,e,c,_⟩:=h; ⟨o,e,c⟩
theorem IsIt.at {h h':Heap} {slot i n:Nat} (x:IsIt h it a slot i n ep) (k:∀ o,h.get? it=some o->h'.get? it=some o):IsIt h' it a slot i n ep:=let ⟨o,e,r⟩:=x; ⟨o,k o e,r⟩
theorem wX (raw:RawS a es ep t s.heap) (tok:TOk t es.size) {Q:Bool->Shared->Prop} (q:Q false s):wpAny (model prog w) A (setDrawn a) Q E s:=by
 obtain ⟨o,ho,hex,hd⟩:=raw
 unfold setDrawn
 refine wpAny_bind (wpAny_setState_of ho hd (eN tok) ?_)
 dsimp only
 refine wpAny_bind ?_
 unfold setsByText
 refine wpAny_bind (wpAny_askSetting (wpAny_pure ?_))
 refine wpAny_pure ?_
 show Q (!_ && (!t.plain && decide (es.size > 1))) s
 rw [tok.plain]
 simpa using q
theorem uX (raw:RawS a es ep t s.heap) (tok:TOk t es.size) {Q:Value->Shared->Prop} (q:Q (.ref s.heap.objs.size) { s with heap:=s.heap.push { cls:=.type "set_iterator",data:=.fields #[.int 0 0,.int 0 0,.ref a,.int es.size 0,.int ep 0] } }):wpAny (model prog w) A (pyIter (.ref a)) Q E s:=by
 obtain ⟨o,ho,hex,hd⟩:=id raw
 have ty:s.TypeIs (.ref a) "set":=⟨o,ho,hex.1⟩
 have ft:=eN tok
 refine wpAny_pyIter_slot ty F.slot_set_iter (wpAny_call_entry F.slot_set_iter ty kP ?_ (F.args_set_iter_1 _))
 unfold Builtin.«frozenset.__iter__»
 refine wpAny_bind (m:=Builtin.Frozenset.slot0 _ _) (wpAny_pure ?_)
 refine wpAny_bind (m:=Builtin.Frozenset.sizeOf a) ?_
 unfold Builtin.Frozenset.sizeOf setEntries
 refine wpAny_bind (wpAny_bind (wpAny_setState_of ho hd ft (wpAny_pure (wpAny_pure ?_))))
 dsimp only
 refine wpAny_bind (wX raw tok ?_)
 simp only [Bool.false_eq_true,if_false]
 refine wpAny_bind (wpAny_pure ?_)
 refine wpAny_bind (wpAny_setEpoch_of ho hd ft ?_)
 unfold newFields
 refine wpAny_bind (wpAny_newObj_type ?_ (by size_fits))
 exact wpAny_pure ⟨_,rfl,"set_iterator",_,⟨_,Heap.get?_push_size _ rfl,rfl⟩,slot_si_next.lookup,q⟩
theorem uY (raw:RawS a es ep t s.heap) (tok:TOk t es.size) (led:t.led = !w.params.followText "set-order") {slot i:Nat} (hi:i < es.size) (hs:w.params.followText "set-order" = false->below t.place slot=i) {Q:Option (Value×Nat)->Shared->Prop}
  (q:∀ v slot',(walk w a ep es)[i]?.map (·.2)=some v->(w.params.followText "set-order" = false->below t.place slot'=i + 1)->Q (some (v,slot')) s):wpAny (model prog w) A (setNext a slot i ep) Q E s:=by
 obtain ⟨o,ho,hex,hd⟩:=id raw
 have ft:=eN tok
 have wl:(walk w a ep es).size=es.size:=by
  have:=(walk_perm w a ep es).length_eq
  simpa using this
 unfold setNext
 refine wpAny_bind (wpAny_setState_of ho hd ft ?_)
 dsimp only
 refine wpAny_bind ?_
 unfold setsByText
 refine wpAny_bind (wpAny_askSetting (wpAny_pure ?_))
 cases hb:w.params.followText "set-order" with
 | true =>
  have hb':(model prog w).w.params.followText "set-order" = true:=hb
  rw [show (Setting.mk (model prog w).prog (model prog w).w.params).params.followText "set-order" = true from hb]
  simp only [if_true,bne_self_eq_false,Bool.false_eq_true,if_false]
  unfold setWalk
  refine wpAny_bind (wpAny_bind (wpAny_setState_of ho hd ft ?_))
  dsimp only
  refine wpAny_bind ?_
  unfold setsByText
  refine wpAny_bind (wpAny_askSetting (wpAny_pure ?_))
  rw [show (Setting.mk (model prog w).prog (model prog w).w.params).params.followText "set-order" = true from hb]
  simp only [if_true]
  refine wpAny_bind (wpAny_askSetting (wpAny_pure ?_))
  refine wpAny_pure ?_
  have ew:walk w a ep es=pickOrder (w.params.setOrder a ep) es:=by unfold walk; rw [if_pos hb]
  have hx:(walk w a ep es)[i]? = some ((walk w a ep es)[i]'(by omega)):=Array.getElem?_eq_getElem (by omega)
  rw [show (Setting.mk (model prog w).prog (model prog w).w.params).params.setOrder a ep=w.params.setOrder a ep from rfl,← ew,hx]
  exact q _ _ (by rw [hx]; rfl) (fun z=>by rw [hb] at z; cases z)
 | false =>
  rw [show (Setting.mk (model prog w).prog (model prog w).w.params).params.followText "set-order" = false from hb]
  simp only [Bool.false_eq_true,if_false]
  have ld:t.led=true:=by rw [led,hb]; rfl
  have bi:=hs hb
  have ew:walk w a ep es=es:=by unfold walk; rw [if_neg (by rw [hb]; exact Bool.false_ne_true)]
  refine fi (show ¬ ((!t.plain && decide (es.size > 1))=true) by rw [tok.plain]; simp) ?_
  refine wpAny_bind (fi (show ¬ ((!t.led && !es.isEmpty)=true) by rw [ld]; simp) (wpAny_pure ?_))
  rw [bi]
  have he:es[i]? = some es[i]:=Array.getElem?_eq_getElem hi
  have hp:i < t.place.size:=by rw [tok.size]; exact hi
  have hpl:t.place[i]? = some t.place[i]:=Array.getElem?_eq_getElem hp
  rw [he,hpl]
  refine wpAny_pure (q _ _ (by rw [ew,he]; rfl) fun _=>?_)
  obtain ⟨b1,b2,b3⟩:=eh tok.ris (t.place[i] + 1)
  have gi:t.place.getD i 0=t.place[i]:=by simp [Array.getD,hp]
  have n1:¬ below t.place (t.place[i] + 1) <= i:=fun z=>by
   have:=b3 i z hp
   omega
  have n2:¬ i + 1 < below t.place (t.place[i] + 1):=fun z=>by
   have h1:=b2 (i + 1) z
   have h2:=tok.ris i (i + 1) (by omega) (by omega)
   omega
  omega
theorem uZ (raw:RawS a es ep t s.heap) (tok:TOk t es.size) (led:t.led = !w.params.followText "set-order") {slot i:Nat} (hi:es.size <= i) (hs:w.params.followText "set-order" = false->below t.place slot=i) {Q:Option (Value×Nat)->Shared->Prop}
  (q:Q none s):wpAny (model prog w) A (setNext a slot i ep) Q E s:=by
 obtain ⟨o,ho,hex,hd⟩:=id raw
 have ft:=eN tok
 have wl:(walk w a ep es).size=es.size:=by
  have:=(walk_perm w a ep es).length_eq
  simpa using this
 unfold setNext
 refine wpAny_bind (wpAny_setState_of ho hd ft ?_)
 dsimp only
 refine wpAny_bind ?_
 unfold setsByText
 refine wpAny_bind (wpAny_askSetting (wpAny_pure ?_))
 cases hb:w.params.followText "set-order" with
 | true =>
  rw [show (Setting.mk (model prog w).prog (model prog w).w.params).params.followText "set-order" = true from hb]
  simp only [if_true,bne_self_eq_false,Bool.false_eq_true,if_false]
  unfold setWalk
  refine wpAny_bind (wpAny_bind (wpAny_setState_of ho hd ft ?_))
  dsimp only
  refine wpAny_bind ?_
  unfold setsByText
  refine wpAny_bind (wpAny_askSetting (wpAny_pure ?_))
  rw [show (Setting.mk (model prog w).prog (model prog w).w.params).params.followText "set-order" = true from hb]
  simp only [if_true]
  refine wpAny_bind (wpAny_askSetting (wpAny_pure ?_))
  refine wpAny_pure ?_
  have ew:walk w a ep es=pickOrder (w.params.setOrder a ep) es:=by unfold walk; rw [if_pos hb]
  have hx:(walk w a ep es)[i]? = none:=Array.getElem?_eq_none (by omega)
  rw [show (Setting.mk (model prog w).prog (model prog w).w.params).params.setOrder a ep=w.params.setOrder a ep from rfl,← ew,hx]
  exact q
 | false =>
  rw [show (Setting.mk (model prog w).prog (model prog w).w.params).params.followText "set-order" = false from hb]
  simp only [Bool.false_eq_true,if_false]
  have ld:t.led=true:=by rw [led,hb]; rfl
  have bi:=hs hb
  refine fi (show ¬ ((!t.plain && decide (es.size > 1))=true) by rw [tok.plain]; simp) ?_
  refine wpAny_bind (fi (show ¬ ((!t.led && !es.isEmpty)=true) by rw [ld]; simp) (wpAny_pure ?_))
  rw [bi]
  have he:es[i]? = none:=Array.getElem?_eq_none hi
  rw [he]
  exact wpAny_pure q
end
end SS
namespace SS
open PySem PySem.SetTable PyProof.Rows L2 PySem.W
set_option maxRecDepth 100000
section
variable {prog:Program} {w:World} {A:Around} {E:Value->Shared->Prop} {s:Shared} {a it:Addr} {xs:List (List Key×Addr)} {es:Array (Int×Value)} {ep:Nat} {t:SetTable}
theorem vb (raw:RawS a es ep t s.heap) (tok:TOk t es.size) (led:t.led = !w.params.followText "set-order") {slot i:Nat} (hi:i < es.size) (hs:w.params.followText "set-order" = false->below t.place slot=i) (g:IsIt s.heap it a slot i es.size ep) {Q:Option Value->Shared->Prop}
  (q:∀ h' v slot',(walk w a ep es)[i]?.map (·.2)=some v->(w.params.followText "set-order" = false->below t.place slot'=i + 1)->IsIt h' it a slot' (i + 1) es.size ep->Heap.SameBut it s.heap h'->Q (some v) { s with heap:=h' }):wpAny (model prog w) A (pyNext (.ref it)) Q E s:=by
 have ty:=g.typeIs
 obtain ⟨oi,g1,g2,g3⟩:=g
 obtain ⟨o,ho,hex,hd⟩:=id raw
 have ft:=eN tok
 unfold pyNext
 refine wpAny_bind (wpAny_attempt (wpAny_callSpecial?_slot (name:=Str.ofString "__next__") ty slot_si_next (wpAny_call_entry slot_si_next ty hV ?_ (je _))))
 unfold Builtin.«set_iterator.__next__»
 refine wpAny_bind (wpAny_pure ?_)
 refine wpAny_bind (wpAny_fieldsOf g1 g3 ?_)
 dsimp only
 unfold setEntries
 refine wpAny_bind (wpAny_bind (wpAny_setState_of ho hd ft (wpAny_pure ?_)))
 simp only [bne_self_eq_false,Bool.false_eq_true,if_false,Int.toNat_natCast]
 refine wpAny_bind (uY raw tok led hi hs fun v slot' e1 e2=>?_)
 dsimp only
 refine wpAny_bind (wpAny_setField g1 g3 (by simp) ?_)
 have u1:(s.heap.update it (Obj.mapFields (·.setIfInBounds 0 (rawInt (slot':Int))))).get? it=some (Obj.mapFields (·.setIfInBounds 0 (rawInt (slot':Int))) oi):=Heap.get?_update_self _ g1 (Obj.isFreed_of_fields (Obj.data_mapFields g3 _))
 have d1:(Obj.mapFields (·.setIfInBounds 0 (rawInt (slot':Int))) oi).data = .fields #[.int slot' 0,.int i 0,.ref a,.int es.size 0,.int ep 0]:=by rw [Obj.data_mapFields g3]; simp [rawInt]
 refine wpAny_bind (wpAny_setField (s:={ s with heap:=s.heap.update it (Obj.mapFields (·.setIfInBounds 0 (rawInt (slot':Int)))) }) u1 d1 (by simp) ?_)
 have sb1:=Heap.SameBut.update s.heap it (Obj.mapFields (·.setIfInBounds 0 (rawInt (slot':Int))))
 have sb2:=Heap.SameBut.update (s.heap.update it (Obj.mapFields (·.setIfInBounds 0 (rawInt (slot':Int))))) it (Obj.mapFields (·.setIfInBounds 1 (rawInt ((i:Int) + 1))))
 refine wpAny_pure ?_
 refine ⟨_,rfl,wpAny_pure (q _ v slot' e1 e2 ⟨_,Heap.get?_update_self _ u1 (Obj.isFreed_of_fields (Obj.data_mapFields d1 _)),?_,?_⟩ (sb1.trans sb2))⟩
 ·exact ((Obj.cls_mapFields ..).trans (Obj.cls_mapFields ..)).trans g2
 ·rw [Obj.data_mapFields d1]; simp [rawInt]
theorem wY (hh:A.handled=none) (raw:RawS a es ep t s.heap) (tok:TOk t es.size) (led:t.led = !w.params.followText "set-order") {slot i:Nat} (hi:es.size <= i) (hs:w.params.followText "set-order" = false->below t.place slot=i) (g:IsIt s.heap it a slot i es.size ep) {Q:Option Value->Shared->Prop}
  (q:∀ h',Heap.ExtBut it s.heap h'->Q none { s with heap:=h' }):wpAny (model prog w) A (pyNext (.ref it)) Q E s:=by
 have ty:=g.typeIs
 obtain ⟨oi,g1,g2,g3⟩:=g
 obtain ⟨o,ho,hex,hd⟩:=id raw
 have ft:=eN tok
 unfold pyNext
 refine wpAny_bind (wpAny_attempt (wpAny_callSpecial?_slot (name:=Str.ofString "__next__") ty slot_si_next (wpAny_call_entry slot_si_next ty hV ?_ (je _))))
 unfold Builtin.«set_iterator.__next__»
 refine wpAny_bind (wpAny_pure ?_)
 refine wpAny_bind (wpAny_fieldsOf g1 g3 ?_)
 dsimp only
 unfold setEntries
 refine wpAny_bind (wpAny_bind (wpAny_setState_of ho hd ft (wpAny_pure ?_)))
 simp only [bne_self_eq_false,Bool.false_eq_true,if_false,Int.toNat_natCast]
 refine wpAny_bind (uZ raw tok led hi hs ?_)
 dsimp only
 refine wpAny_bind (wpAny_setField g1 g3 (by simp) ?_)
 show wpAny _ _ (newExc (.type "StopIteration") [] >>= _) _ _ _
 refine wpAny_bind ?_
 simp only [newExc,newTuple]
 refine wpAny_bind (wpAny_newObj_type ?_ (by size_fits))
 refine wpAny_bind (m:=firstArgMember _ _) (wpAny_of_eq (a:=Value.none) (by first | rfl | (simp only [firstArgMember]; rfl)) ?_)
 refine wpAny_newObj_type ?_ (by size_fits)
 simp only [raiseNew]
 refine wpAny_bind (wpAny_handled ?_)
 rw [show A.in1.handled=none from hh]
 refine wpAny_bind (wpAny_pure (wpAny_throw ?_))
 refine wpAny_bind (wpAny_isInstance (T:="StopIteration") (b:=true) ⟨_,Heap.get?_push_size _ rfl,rfl⟩ isSubtype_stop ?_)
 exact wpAny_pure (q _ (((Heap.SameBut.update ..).extBut.push _).push _))
theorem CY (hT:s.TypeIs (.ref a) "set") {Q:Bool->Shared->Prop} (h:Q false s):wpAny (model prog w) A (Builtin.List.listLengthHint (.ref a)) Q E s:=by
 unfold Builtin.List.listLengthHint
 refine wpAny_bind (wpAny_specialOf hT F.slot_set_len.lookup ?_)
 generalize hid:("set.__len__" : String)=id0
 wp_delta
 rw [show splitId id0=some ("set","__len__") from by subst hid; decide +kernel]
 subst hid
 refine wpAny_bind (wpAny_isInstance (T:="set") (b:=true) hT (by rw [isSubtype_type]; kernel_rfl) ?_)
 refine wpAny_ite_split (fun hab=>absurd hab (by decide)) (fun _=>?_)
 refine wpAny_ite_split (fun _=>?_) (fun hab=>absurd (by decide +kernel) hab)
 refine wpAny_bind (wpAny_typeOf hT ?_)
 exact wpAny_pure h
theorem sA {ys:Array Nat} (r:Ris ys):below ys 0=0:=by
 obtain ⟨_,b2,_⟩:=eh r 0
 cases e:below ys 0 with
 | zero=>rfl
 | succ n=>rw [e] at b2; exact absurd (b2 0 (by omega)) (Nat.not_lt_zero _)
theorem src_set:KdlSrc prog w "set" a a es.size (fun i v=>(walk w a ep es)[i]?.map (·.2)=some v) (fun h=>RawS a es ep t h /\ TOk t es.size /\ t.led = !w.params.followText "set-order") where
 type:=fun _ ⟨⟨o,e,x,_⟩,_⟩=>⟨o,e,x.1⟩
 there:=fun _ ⟨⟨_,e,_⟩,_⟩=>⟨Heap.lt_size e,Heap.lt_size e⟩
 keep:=fun _ _ ⟨⟨o,e,x⟩,r⟩ k=>⟨⟨o,k a (.inl rfl) o e,x⟩,r⟩
 notList:=by decide
 notTuple:=by decide
 hint:=fun _ _ _ _ ⟨⟨o,e,x,_⟩,_⟩ q=>CY ⟨o,e,x.1⟩ q
 iter:=fun A s hh r=>⟨_,fun i h=>(∃ slot,IsIt h s.heap.objs.size a slot i es.size ep /\ (w.params.followText "set-order" = false->below t.place slot=i)) /\ RawS a es ep t h,(fun _ _ q=>uX r.1 r.2.1 q),{
  sub:=fun b hb=>by simp at hb; simp [hb]
  frame:=fun _ _ _ st k=>by
   obtain ⟨⟨slot,g,e⟩,o,ho,x⟩:=st
   exact ⟨⟨slot,g.at fun o e=>k _ (by simp) o e,e⟩,o,k a (by simp) o ho,x⟩
  item:=fun i s' Q E hi st q=>by
   obtain ⟨⟨slot,g,e⟩,raw⟩:=st
   have ne:a≠s.heap.objs.size:=by
    obtain ⟨⟨_,e,_⟩,_⟩:=r
    exact Nat.ne_of_lt (Heap.lt_size e)
   refine vb raw r.2.1 r.2.2 hi e g fun h' v slot' e1 e2 g' sb=>?_
   refine q v h' s'.toks e1 ⟨⟨slot',g',e2⟩,?_⟩ fun b o hb e=>?_
   ·obtain ⟨o,ho,x⟩:=raw
    exact ⟨o,(sb.2 a ne).trans ho,x⟩
   ·have hb:b≠s.heap.objs.size:=by simpa using hb
    exact (sb.2 b hb).trans e
  done:=fun s' Q E st q=>by
   obtain ⟨⟨slot,g,e⟩,raw⟩:=st
   exact wY hh raw r.2.1 r.2.2 (Nat.le_refl _) e g fun h' eb=>q h' s'.toks fun b o hb e=>eb b o (by simpa using hb) e
  self:=fun _ s' _ _ st q=>by
   obtain ⟨⟨slot,g,e⟩,raw⟩:=st
   refine wpAny_pyIter_slot g.typeIs jf (wpAny_call_entry jf g.typeIs mG ?_ (oF _))
   show wpAny _ _ (ret (.ref s.heap.objs.size)) _ _ _
   exact wpAny_pure ⟨_,rfl,"set_iterator",_,g.typeIs,slot_si_next.lookup,q⟩ },⟨⟨0,⟨_,Heap.get?_push_size _ rfl,rfl,rfl⟩,fun _=>sA r.2.1.ris⟩,let ⟨o,ho,x⟩:=r.1; ⟨o,Heap.get?_push_of_some _ ho,x⟩⟩⟩
end
end SS
namespace L2
open PySem PySem.Spec PyProof.Rows PySem.W
def BI (prog:Program) (w:World) (a:Addr) (xs0:List (List Key×Addr)) (o:Obj):Prop:=∃ (xs:List (List Key×Addr)) (es:Array (Int×Value)) (ep:Nat) (t:SetTable),o.ExactSet /\ o.data = .set es ep t /\ SS.TOk t es.size /\ t.led=(!w.params.followText "set-order") /\ es.toList=xs.map (SS.enc prog w) /\ xs.Perm xs0
section
variable {X:Cx}
theorem vc (hr:X.A.units + 16 < cLine) (hc:X.calm=true):dU X (.type "set") (fun vs H Q=>∃ (l:Addr) (xs0:List (List Key×Addr)),vs=[.ref l] /\ H l=some (.lst (xs0.map fun x=>.ref x.2)) /\ (∀ x∈xs0,H x.2=some (.tup (x.1.map kV)) /\ dA x.1) /\ (xs0.map (·.1)).Nodup /\ xs0.length <= 60 /\
  ∀ a o,H a=none->BI X.prog X.w a xs0 o->Q (.ref a) (upd H a (.frz o (.own a)))):=by
 intro pins s σ H vs us Q I r h
 obtain ⟨l,xs0,rfl,e,hk,nd,h60,q⟩:=h
 obtain ⟨u,rfl,e2⟩:=jI r
 cases e2
 obtain ⟨z,its,n,rv,el⟩:=I.hok l _ e
 have hit:its=xs0.map fun x=>Value.ref x.2:=by
  have:∀ {ys:List (List Key×Addr)} {us:List Value},Vals (ys.map fun x=>V.ref x.2) us->us=ys.map fun x=>Value.ref x.2:=fun {ys}=>by
   induction ys with
   | nil=>intro us h; cases h; rfl
   | cons y ys ih =>
    intro us h
    cases h with
    | cons h1 h2=>rw [ih h2]; cases h1; rfl
  exact this rv
 refine SS.set_of_list (xs0:=xs0) hr (I.ok.hd hc) ⟨_,el,rfl,n,rfl⟩ (by rw [List.toList_toArray]; exact hit) (fun x hx=>kZ I.hok (hk x hx).1) nd (fun x hx=>(hk x hx).2) h60 fun h' tk hS kp=>?_
 obtain ⟨xs,es,ep,t,so,pm⟩:=hS
 obtain ⟨o,ho,hex,hd⟩:=so.raw
 exact ⟨.ref s.heap.objs.size,_,I.laid (o:=.frz o (.own s.heap.objs.size)) (fun b u e=>kp b u (Heap.lt_size e) e) (Nat.le_refl _) ⟨ho,o,ho⟩,rfl,q _ o (I.hok.fresh (Nat.le_refl _)) ⟨xs,es,ep,t,hex,hd,so.tok,so.led,so.lst,pm⟩⟩
theorem sB (hc:X.calm=true):dU X (.builtin "sorted") (fun vs H Q=>∃ (a:Addr) (o:Obj) (xs0:List (List Key×Addr)),vs=[.ref a] /\ H a=some (.frz o (.own a)) /\ BI X.prog X.w a xs0 o /\ (∀ x∈xs0,H x.2=some (.tup (x.1.map kV)) /\ dA x.1) /\ (xs0.map (·.1)).Nodup /\ (2 <= xs0.length->∀ x∈xs0,x.1≠[]) /\ xs0.length <= 60 /\
  ∀ l bs,H l=none->Paired (wG H) (srtK (xs0.map (·.1))) bs->Q (.ref l) (upd H l (.lst bs))):=by
 intro pins s σ H vs us Q I r h
 obtain ⟨a,o,xs0,rfl,e,so,hk,nd,hne,h60,q⟩:=h
 obtain ⟨u,rfl,e2⟩:=jI r
 cases e2
 obtain ⟨xs,es,ep,t,hex,hd,tok,led,lst,pm⟩:=so
 have ho:s.heap.get? a=some o:=(I.hok a _ e).1
 have xl:xs.length=es.size:=by rw [← Array.length_toList,lst,List.length_map]
 have xl0:xs.length=xs0.length:=pm.length_eq
 refine Calls.call_function_entry kind_sorted plain_sorted entry_sorted (args_sorted1 _) ?_
 unfold Builtin.«sorted»
 refine wpAny_bind (m:=checkCount "sorted" 1 1 _) (wpAny_pure ?_)
 refine wpAny_bind (kdu_collect (SS.src_set (t:=t) (es:=es) (ep:=ep)) (I.ok.hd hc) ⟨⟨o,ho,hex,hd⟩,tok,led⟩ (by rw [sizeLine_eq]; omega) fun h' tk acc hkp hI=>?_)
 have wp:=SS.walk_perm X.w a ep es
 rw [lst] at wp
 have hacc:acc.toList=(SS.walk X.w a ep es).toList.map (·.2):=by
  have wl:(SS.walk X.w a ep es).size=es.size:=by
   have:=wp.length_eq
   rw [Array.length_toList,List.length_map] at this
   omega
  apply List.ext_getElem?
  intro i
  rw [Array.getElem?_toList,List.getElem?_map,Array.getElem?_toList]
  by_cases z:i < es.size
  ·have hv:acc[i]? = some (acc[i]'(by rw [hI.1]; exact z)):=Array.getElem?_eq_getElem _
   have:=hI.2 i _ hv
   rw [hv,this]
  ·rw [Array.getElem?_eq_none (by rw [hI.1]; omega),Array.getElem?_eq_none (by omega)]
   rfl
 obtain ⟨xs2,p2,e2⟩:∃ xs2:List (List Key×Addr),xs2.Perm xs0 /\ acc.toList=xs2.map fun x=>Value.ref x.2:=by
  have pl:∀ {l:List (List Key×Addr)} {ps:List (Int×Value)},ps.Perm (l.map (SS.enc X.prog X.w))->∃ rs:List (List Key×Addr),rs.Perm l /\ ps=rs.map (SS.enc X.prog X.w):=fun {l ps} p=>by
   have h0:∀ l:List (List Key×Addr),Paired (fun a b=>b=SS.enc X.prog X.w a) l (l.map (SS.enc X.prog X.w)):=fun l=>by
    induction l with
    | nil=>exact .nil
    | cons a l ih=>exact .cons rfl ih
   have h9:∀ {rs:List (List Key×Addr)} {ps:List (Int×Value)},Paired (fun a b=>b=SS.enc X.prog X.w a) rs ps->ps=rs.map (SS.enc X.prog X.w):=fun h=>by
    induction h with
    | nil=>rfl
    | cons h _ ih=>rw [List.map_cons,h,ih]
   have lift:∀ {l l':List (Int×Value)},l'.Perm l->∀ {m:List (List Key×Addr)},Paired (fun a b=>b=SS.enc X.prog X.w a) m l->∃ m',m'.Perm m /\ Paired (fun a b=>b=SS.enc X.prog X.w a) m' l':=fun {l l'} p=>by
    induction p with
    | nil=>intro m h; cases h; exact ⟨[],.nil,.nil⟩
    | cons x _ ih =>
     intro m h
     cases h with
     | cons h1 h2 =>
      obtain ⟨m',p,q⟩:=ih h2
      exact ⟨_::m',p.cons _,.cons h1 q⟩
    | swap x y l =>
     intro m h
     cases h with
     | cons h1 h2 =>
      cases h2 with
      | cons h3 h4=>exact ⟨_,.swap _ _ _,.cons h3 (.cons h1 h4)⟩
    | trans _ _ ih1 ih2 =>
     intro m h
     obtain ⟨m1,p1,q1⟩:=ih2 h
     obtain ⟨m2,p2,q2⟩:=ih1 q1
     exact ⟨m2,p2.trans p1,q2⟩
   obtain ⟨rs,h1,h2⟩:=lift p (h0 l)
   exact ⟨rs,h1,h9 h2⟩
  obtain ⟨rs,h1,h2⟩:=pl wp
  refine ⟨rs,h1.trans pm,?_⟩
  rw [hacc,h2,List.map_map]
  rfl
 rw [e2]
 have I1:Inv X pins σ H { s with heap:=h',toks:=tk }:=I.kept hkp
 have l2:xs2.length=xs0.length:=p2.length_eq
 refine wpAny_bind (wpAny_newList ?_ (by rw [List.length_map,sizeLine_eq]; omega))
 have hoL:(h'.push (seqObj "list" (xs2.map fun x=>Value.ref x.2).toArray 0)).get? h'.objs.size=some (seqObj "list" (xs2.map fun x=>Value.ref x.2).toArray 0):=Heap.get?_push_size _ rfl
 have kk:Paired (fun k v=>∃ b,v=Value.ref b /\ H b=some (.tup (k.map kV))) (xs2.map (·.1)) (xs2.map fun x=>Value.ref x.2):=by
  have:∀ ys:List (List Key×Addr),(∀ y∈ys,y∈xs0)->Paired (fun k v=>∃ b,v=Value.ref b /\ H b=some (.tup (k.map kV))) (ys.map (·.1)) (ys.map fun x=>Value.ref x.2):=fun ys=>by
   induction ys with
   | nil=>intro _; exact .nil
   | cons y ys ih=>intro hy; exact .cons ⟨y.2,rfl,(hk y (hy y List.mem_cons_self)).1⟩ (ih fun z hz=>hy z (List.mem_cons_of_mem _ hz))
  exact this xs2 fun y hy=>p2.mem_iff.mp hy
 have only2:∀ k∈xs2.map (·.1),dA k:=fun k hk'=>by
  obtain ⟨x,hx,rfl⟩:=List.mem_map.mp hk'
  exact (hk x (p2.mem_iff.mp hx)).2
 have nd2:(xs2.map (·.1)).Nodup:=(p2.map (·.1)).nodup_iff.mpr nd
 have eS:srtK (xs2.map (·.1))=srtK (xs0.map (·.1)):=xZ (uP only2 nd2) (uP (fun k hk'=>by
  obtain ⟨x,hx,rfl⟩:=List.mem_map.mp hk'
  exact (hk x hx).2) nd) fun k=>by rw [(hG _).mem_iff,(hG _).mem_iff,(p2.map (·.1)).mem_iff]
 refine wpAny_bind (wpAny_holding (wpAny_call_entry slot_list_sort ⟨_,hoL,rfl⟩ entry_list_sort ?body (args_list_sort _)))
 case body =>
  refine oz (s:={ s with heap:=h'.push (seqObj "list" (xs2.map fun x=>Value.ref x.2).toArray 0),toks:=tk }) hoL (ks:=xs2.map (·.1)) (eL (ly kk) (S:=TupI _) fun k v z=>?_) (fun h2 k hk'=>?_) (by rw [List.length_map]; omega) fun h4 out c kp ho hR=>?_
  ·obtain ⟨hm,b,rfl,hb⟩:=z
   exact ((I1.kept (t':=tk) fun b o e=>Heap.get?_push_of_some _ e).tupI (only2 k hm) hb)
  ·obtain ⟨x,hx,rfl⟩:=List.mem_map.mp hk'
   exact hne (by rw [List.length_map] at h2; omega) x (p2.mem_iff.mp hx)
  ·obtain ⟨bs,p1,p3⟩:=pN (hR _ kk)
   have hb:bs.length <= sizeLine:=by
    rw [← fP p1,(hG _).length_eq,List.length_map,sizeLine_eq]
    omega
   rw [eS] at p1
   exact ⟨_,rfl,wpAny_pure ⟨_,rfl,.ref h'.objs.size,upd H h'.objs.size (.lst bs),I1.laid (o:=.lst bs) (fun b u e=>kp b u (Nat.ne_of_lt (Heap.lt_size e)) (Heap.get?_push_of_some _ e)) (Nat.le_refl _) ⟨hb,out,c,p3,ho⟩,rfl,q _ bs (I1.hok.fresh (Nat.le_refl _)) p1⟩⟩
end
end L2
namespace DL
open PySem PySem.Spec L2
open PyProof.Rows hiding St
variable [TB]
variable [Frm]
section
variable {X:Cx}
omit [Frm] in
theorem lD {K:PySem.W.Frag} {pp:Option Addr} {M:List Addr} {H:Hp}:∀ {ks:List (List Key)} {vs:List V},Reps K pp M H (ks.map keyD) vs->∃ xs0:List (List Key×Addr),xs0.map (·.1)=ks /\ vs=xs0.map (fun x=>V.ref x.2) /\ ∀ x∈xs0,H x.2=some (.tup (x.1.map kV))
 | [],vs,h=>⟨[],rfl,by simpa only [List.map_nil,Reps] using h,fun x hx=>by simp at hx⟩
 | k::ks,vs,h=>by
  simp only [List.map_cons,Reps] at h
  obtain ⟨v,r,rfl,h1,h2⟩:=h
  obtain ⟨xs0,e1,rfl,e3⟩:=lD h2
  simp only [keyD,Rep] at h1
  obtain ⟨b,ys,rfl,hb,ry⟩:=h1
  rw [jz ry] at hb
  refine ⟨(k,b)::xs0,by rw [List.map_cons,e1],rfl,fun x hx=>?_⟩
  rcases List.mem_cons.mp hx with rfl | hx
  ·exact hb
  ·exact e3 x hx
abbrev wZ (te:DE):DE:=fun ρ Q=>te ρ fun d ρ'=>∃ ks:List (List Key),d = .lst (ks.map keyD) /\ (∀ k∈ks,dA k) /\ ks.Nodup /\ (2 <= ks.length->∀ k∈ks,k≠[]) /\ ks.length <= 60 /\ Q (.lst ((srtK ks).map keyD)) ρ'
theorem sC {n:Nat} {e:Expr} {te:DE} {p p' pos pos':Pos} (hr:Room n X.A) (hc:X.calm=true) (hgl:Gl X "sorted") (hml:X.mg "sorted" = none) (hgs:Gl X "set") (hms:X.mg "set" = none) (he:PED X e te)
  (h1:starEach [e] X.env=(false,eval e X.env)::starEach [] X.env:=by rfl)
  (h2:starEach [.Call (.Name "set" p') [e] [] pos'] X.env=(false,eval (.Call (.Name "set" p') [e] [] pos') X.env)::starEach [] X.env:=by rfl)
  (hp:(backTo pos (starEach [] X.env)).any (·.1)=false:=by rfl) (hp':(backTo pos' (starEach [] X.env)).any (·.1)=false:=by rfl) :
  PED X (.Call (.Name "sorted" p) [.Call (.Name "set" p') [e] [] pos'] [] pos) (wZ te):=by
 obtain ⟨T,pe,re⟩:=he.run
 have hu:X.A.units + 16 < cLine:=by have:=hr.units; omega
 refine ⟨fun ρ P P' f h=>he.mono _ _ _ (fun d ρ1 ⟨ks,e1,e2,e3,e4,e5,h⟩=>⟨ks,e1,e2,e3,e4,e5,f _ _ h⟩) h,_,gK (he:=h2) (hpl:=hp) (sB hc) hgl hml (by decide +kernel) (bL (jJ (he:=h1) (hpl:=hp') (vc hu hc) hgs hms rfl (bL pe dW h1)) dW h2),fun {F} M H σ ρ Q rs h=>?_⟩
 refine re M H σ ρ _ rs (he.mono _ _ _ (fun d ρ1 h M1 H1 v m1 rs1 r1=>?_) h)
 obtain ⟨ks,rfl,on,nd,ne,l60,h9⟩:=h
 simp only [Rep] at r1
 obtain ⟨a,vs,rfl,_,_,ha,rr⟩:=r1
 obtain ⟨xs0,ek,rfl,hk⟩:=lD rr
 have xl:xs0.length=ks.length:=by rw [← ek,List.length_map]
 have hmem:∀ x∈xs0,x.1∈ks:=fun x hx=>by rw [← ek]; exact List.mem_map.mpr ⟨x,hx,rfl⟩
 refine ⟨a,xs0,rfl,ha,fun x hx=>⟨hk x hx,on _ (hmem x hx)⟩,by rw [ek]; exact nd,by omega,fun a2 o hn so=>?_⟩
 refine ⟨a2,o,xs0,rfl,ao,so,fun x hx=>⟨?_,on _ (hmem x hx)⟩,by rw [ek]; exact nd,fun h2 x hx=>ne (by omega) _ (hmem x hx),by omega,fun l bs hl hp=>?_⟩
 ·exact gj hn (hk x hx)
 ·rw [ek] at hp
  have s1:SameP X.K F.pp H1 (upd H1 a2 (.frz o (.own a2))):=.new hn
  have s2:SameP X.K F.pp (upd H1 a2 (.frz o (.own a2))) (upd (upd H1 a2 (.frz o (.own a2))) l (.lst bs)):=.new hl
  have rs2:=(rs1.sameP s1)
  have fr:=rs2.liv.fresh hl
  refine h9 M1 _ _ (m1.trans (s1.trans s2).mv) (rs1.sameP (s1.trans s2)) ?_
  simp only [Rep]
  exact ⟨l,bs,rfl,fr.1,fr.2,ao,(oA hp).mv s2.mv⟩
end
end DL
namespace L2
open PySem PySem.Spec PyProof.Rows
section
variable {X:Cx}
theorem ZipStM.keep {tk:Addr->Bool} {h h':Heap} {n k:Nat} {src:List (Addr×Array Value)} (z:ZipStM tk h n src k) (kk:∀ (b:Nat) o,b < n + src.length + 3->h.get? b=some o->h'.get? b=some o):ZipStM tk h' n src k:=by
 obtain ⟨⟨f0,f1,hf,hz⟩,hTI,⟨ws,hws,hTO⟩,hit,hls,hne⟩:=z
 exact ⟨⟨f0,f1,hf,kk _ _ (by omega) hz⟩,kk _ _ (by omega) hTI,⟨ws,hws,kk _ _ (by omega) hTO⟩,fun j p hj=>(hit j p hj).at fun o e=>kk _ o (by have:=cN hj; omega) e,fun j p hj=>⟨(hls j p hj).1,(hls j p hj).2.at fun o e=>kk _ o (Nat.lt_of_lt_of_le (hls j p hj).1 (by omega)) e⟩,hne⟩
theorem vd {tk:Addr->Bool} {n S:Nat} {src:List (Addr×Array Value)} {xss:List (List V)} {pins:List (Addr×Obj)} {σ:St} {H0:Hp} {A:Around} {R:Result->Shared->Prop} {res:Value} (hh:A.handled=none) (hsz:src.length <= sizeLine) (hv:SrcV xss src)
  (hS:n + src.length + 3 <= S)
  (hR:∀ s' rows Ts H' c,uw xss rows->Laid H0 rows Ts H'->Inv X pins σ H' s'->FpOk X pins H' S->Ts.length <= sizeLine->s'.heap.get? S=some { cls:=.type "list",dict:=none,data:=.seq (Ts.map Value.ref).toArray c,slots:=#[] }->R (.ok (.ret res)) s') :
  ∀ (m i:Nat) (s:Shared) (H:Hp) (rows:List (List V)) (Ts:List Addr) (c:Nat),(∀ xs∈xss,xs.length <= i + m)->i <= sizeLine->(∀ xs∈xss,xs.length <= sizeLine)->rows.length=i->(∀ (j:Nat) r,rows[j]? = some r->uv xss j r)->Laid H0 rows Ts H->Inv X pins σ H s->(∀ b∈ownZ n src.length S,FpOk X pins H b)->ZipStM tk s.heap n src i ->
   s.heap.get? S=some { cls:=.type "list",dict:=none,data:=.seq (Ts.map Value.ref).toArray c,slots:=#[] } ->
   codeAny (model X.prog X.w) A (.builtin "list.extend.loop" ⟨[.ref S,.ref (n + src.length + 2),res],[]⟩) R s:=by
 have fin:∀ (i:Nat) (s:Shared) (H:Hp) (rows:List (List V)) (Ts:List Addr) (c:Nat),i <= sizeLine->rows.length=i->(∀ (j:Nat) r,rows[j]? = some r->uv xss j r)->Laid H0 rows Ts H->Inv X pins σ H s->(∀ b∈ownZ n src.length S,FpOk X pins H b) ->
   s.heap.get? S=some { cls:=.type "list",dict:=none,data:=.seq (Ts.map Value.ref).toArray c,slots:=#[] }->(∃ (j:Nat) (p:Addr×Array Value),src[j]? = some p /\ p.2[i]? = none)->∀ h',KeptZ n src.length s.heap h'->R (.ok (.ret res)) { s with heap:=h' }:=by
  intro i s H rows Ts c hi hrow hrows L I hf hS' he h' hk
  refine hR _ rows Ts H c ⟨hrows,?_⟩ L (I.turnedL (t':=s.toks) (ch:=ownZ n src.length S) hf fun b u hb q=>hk b u ?_ q) (hf S (ownZ_mem.mpr (.inl rfl))) (by rw [L.len]; omega) (hk S _ (by omega) hS')
  ·obtain ⟨xs,h1,h2⟩:=CP hv he
   exact ⟨xs,h1,by omega⟩
  ·exact jw (mh hb).2
 intro m
 induction m with
 | zero =>
  intro i s H rows Ts c hm hi hb hrow hrows L I hf hz hS'
  refine codeAny_builtin F.entry_extend_loop ?_
  rw [Around.under_plainId F.plain_extend_loop _]
  show wpAny _ A.in1 (pyNext (.ref _) >>= _) _ _ s
  refine wpAny_bind (bB hh hsz hz (fun vs h' ht _ _ _ _=>?_) (fun he h' hk=>wpAny_pure (fin i s H rows Ts c hi hrow hrows L I hf hS' he h' hk)))
  exfalso
  obtain ⟨r,⟨hr1,hr2⟩,_⟩:=jv hv ht
  have hne:=hz.ne
  have h0:0 < src.length:=List.length_pos_iff.mpr hne
  have lt:0 < xss.length:=by rw [hv.1]; exact h0
  have:=hr2 0 xss[0] (by simp [lt])
  have hl:=hm xss[0] (List.getElem_mem lt)
  rw [List.getElem?_eq_none (by omega)] at this
  rw [List.getElem?_eq_getElem (by omega)] at this
  cases this
 | succ m ih =>
  intro i s H rows Ts c hm hi hb hrow hrows L I hf hz hS'
  refine codeAny_builtin F.entry_extend_loop ?_
  rw [Around.under_plainId F.plain_extend_loop _]
  show wpAny _ A.in1 (pyNext (.ref _) >>= _) _ _ s
  refine wpAny_bind (bB hh hsz hz (fun vs h' ht hz' hT' hs' hk=>?_) (fun he h' hk=>wpAny_pure (fin i s H rows Ts c hi hrow hrows L I hf hS' he h' hk)))
  obtain ⟨r,hr,rv⟩:=jv hv ht
  have hi1:i < sizeLine:=by
   have h0:0 < src.length:=List.length_pos_iff.mpr hz.ne
   have lt:0 < xss.length:=by rw [hv.1]; exact h0
   have:=hr.2 0 xss[0] (by simp [lt])
   have hl:=hb xss[0] (List.getElem_mem lt)
   rcases Nat.lt_or_ge i xss[0].length with z | z
   ·omega
   ·rw [List.getElem?_eq_none z,List.getElem?_eq_getElem (by rw [hr.1]; exact lt)] at this
    cases this
  have hSlt:S < s.heap.objs.size:=Heap.lt_size hS'
  have hS'':=hk S _ (by omega) hS'
  have lT:=L.len
  have eTs:((Ts++[s.heap.objs.size]).map Value.ref).toArray=(Ts.map Value.ref).toArray.push (.ref s.heap.objs.size):=by simp
  have hS3:=Heap.get?_update_self (Obj.mapSeq (·.push (Value.ref s.heap.objs.size))) hS'' rfl
  obtain ⟨c3,hS4⟩:∃ c3,(h'.update S (Obj.mapSeq (·.push (Value.ref s.heap.objs.size)))).get? S=some { cls:=.type "list",dict:=none,data:=.seq ((Ts++[s.heap.objs.size]).map Value.ref).toArray c3,slots:=#[] }:=⟨_,by rw [eTs]; exact hS3⟩
  show wpAny _ A.in1 (updateSeq S (·.push (.ref s.heap.objs.size)) >>= _) _ _ _
  refine wpAny_bind (wpAny_updateSeq hS'' rfl (wpAny_pure ⟨plainId_quiet F.plain_extend_loop _,ih (i + 1) _ (upd H s.heap.objs.size (.tup r)) (rows++[r]) (Ts++[s.heap.objs.size]) c3 (fun xs hx=>by have:=hm xs hx; omega) hi1 hb (by simp [hrow]) (fun j r' hj=>?_) (.snoc L (I.hok.fresh (Nat.le_refl _))) ?_ (fun b hb=>?_) (hz'.keep fun b o hb e=>?_) hS4⟩) (by simp; omega) (by simp; omega))
  ·rcases Nat.lt_or_ge j rows.length with z | z
   ·rw [List.getElem?_append_left z] at hj
    exact hrows j r' hj
   ·rw [List.getElem?_append_right z] at hj
    have:j=rows.length:=by
     have:=cN hj
     simp at this
     omega
    subst this
    simp at hj
    subst hj
    rw [hrow]
    exact hr
  ·refine I.turnedN (t':=s.toks) (ch:=ownZ n src.length S) hf (fun b o hb q=>?_) (Nat.le_refl _) ⟨?_,vs,rv,?_⟩
   ·exact (Heap.get?_update_other _ _ (Ne.symm (mh hb).1)).trans (hk b o (jw (mh hb).2) q)
   ·rw [hr.1,hv.1]; exact hsz
   ·exact ⟨_,(Heap.get?_update_other _ _ (by intro e; have e:(_:Nat)=(_:Nat):=e; omega)).trans hT',rfl,_,rfl⟩
  ·have:=ownZ_mem.mp hb
   exact (hf b hb).upd (by intro e; have e:(_:Nat)=(_:Nat):=e; omega)
  ·exact (Heap.get?_update_other _ _ (by intro e; have e:(_:Nat)=(_:Nat):=e; omega)).trans e
theorem ve {tk:Addr->Bool} {n:Nat} {src:List (Addr×Array Value)} {xss:List (List V)} {pins:List (Addr×Obj)} {σ:St} {H:Hp} {s:Shared} {Q:VK} (hh:X.A.handled=none) (hsz:src.length <= sizeLine) (hv:SrcV xss src) (hb:∀ xs∈xss,xs.length <= sizeLine)
  (I:Inv X pins σ H s) (hf:∀ b:Nat,n <= b->FpOk X pins H b) (hz:ZipStM tk s.heap n src 0) (hq:Bo xss H Q) :
  wpAny (model X.prog X.w) X.A (call (.type "list") [.ref (n + src.length + 2)]) (EP X pins σ Q) X.xe s:=by
 obtain ⟨f0,f1,hf0,hzz⟩:=hz.zip
 have hzlt:n + src.length + 2 < s.heap.objs.size:=Heap.lt_size hzz
 refine callType_codes (Q₁:=fun obj s₁=>obj = .ref s.heap.objs.size /\ s₁={ s with heap:=s.heap.push { cls:=.type "list",data:=.seq #[] } }) F.called_list (F.typeCall_list_1 _) F.entry_list_init
  (code_list_new _ ⟨rfl,rfl⟩) fun obj s₁ h₁=>?_
 obtain ⟨rfl,rfl⟩:=h₁
 have hS:(s.heap.push { cls:=.type "list",data:=.seq #[] }).get? s.heap.objs.size=some { cls:=.type "list",data:=.seq #[] }:=Heap.get?_push_size _ rfl
 refine ⟨⟨_,hS,rfl⟩,F.args_list_init_2 _ _,?_⟩
 generalize hR:(wants (fun r s₂=>r=Value.none /\ EP X pins σ Q (.ref s.heap.objs.size) s₂) X.xe)=R
 show wpAny _ _ (do let old ← Builtin.List.listItems (.ref s.heap.objs.size); Builtin.List.listUpdate (.ref s.heap.objs.size) (fun _=>#[]); letGo old.toList.reverse; Builtin.List.listExtendWith (.ref s.heap.objs.size) (.ref (n + src.length + 2)) .none) _ _ _
 refine wpAny_bind ?_
 unfold Builtin.List.listItems
 refine wpAny_bind (wpAny_seqItems hS rfl (wpAny_pure ?_))
 show wpAny _ _ (updateSeq s.heap.objs.size (fun _=>#[]) >>= fun _=>letGo (#[]:Array Value).toList.reverse >>= fun _=>Builtin.List.listExtendWith (.ref s.heap.objs.size) (.ref (n + src.length + 2)) .none) _ _ _
 refine wpAny_bind (wpAny_updateSeq hS rfl ?_)
 have hS₂:=Heap.get?_update_self (Obj.mapSeq (fun _=>(#[]:Array Value))) hS rfl
 have o2:∀ b o,s.heap.get? b=some o->((s.heap.push { cls:=.type "list",data:=.seq #[] }).update s.heap.objs.size (Obj.mapSeq (fun _=>(#[]:Array Value)))).get? b=some o :=
  fun b o e=>(Heap.get?_update_other _ _ (Nat.ne_of_gt (Heap.lt_size e))).trans (Heap.get?_push_of_some _ e)
 refine wpAny_bind (wpAny_letGo ?_)
 generalize hh2:(s.heap.push { cls:=.type "list",data:=.seq #[] }).update s.heap.objs.size (Obj.mapSeq (fun _=>(#[]:Array Value)))=h2 at hS₂ o2 ⊢
 have hz2:db h2 (n + src.length + 2) (n + src.length) (n + src.length + 1) f0 f1:=o2 _ _ hzz
 have hT:Shared.TypeIs { s with heap:=h2 } (.ref (n + src.length + 2)) "zip":=⟨_,hz2,rfl⟩
 have hne:s.heap.objs.size≠n + src.length + 2:=Nat.ne_of_gt hzlt
 unfold Builtin.List.listExtendWith
 refine wpAny_bind (wpAny_typeOf hT ?_)
 have h1:Builtin.List.listSameRef (.ref s.heap.objs.size) (.ref (n + src.length + 2))=false:=by simp [Builtin.List.listSameRef,hne]
 have h2':(Value.type "zip" == Value.type "list")=false:=by decide
 have h3:(Value.type "zip" == Value.type "tuple")=false:=by decide
 simp only [h1,h2',h3,Bool.or_false,Bool.false_eq_true,if_false]
 have hT0:Shared.TypeIs { s with heap:=h2 } (.ref (n + src.length + 2)) "zip":=hT
 refine wpAny_bind (wpAny_pyIter_slot hT F.slot_zip_iter (wpAny_call_entry F.slot_zip_iter hT F.entry_zip_iter ?_ (F.args_zip_iter_1 _)))
 show wpAny _ _ (ret (.ref (n + src.length + 2))) _ _ _
 refine wpAny_pure ⟨_,rfl,"zip",_,hT,F.slot_zip_next.lookup,?_⟩
 refine wpAny_bind (wpAny_holding ?_)
 unfold Builtin.List.listLengthHint
 refine wpAny_bind (wpAny_specialOf hT F.zip_no_len ?_)
 show wpAny _ _ (specialOf (Value.ref (n + src.length + 2)) (Str.ofString "__length_hint__") >>= _) _ _ _
 refine wpAny_bind (wpAny_specialOf hT F.zip_no_hint ?_)
 refine wpAny_pure ?_
 show wpAny _ _ (rule "list.extend.makes-room" >>= fun _=>Builtin.List.listTouch (.ref s.heap.objs.size) >>= fun _ =>
  again (.builtin "list.extend.loop" ⟨[.ref s.heap.objs.size,.ref (n + src.length + 2),.none],[]⟩)) _ _ _
 refine wpAny_bind (wpAny_rule ?_)
 refine wpAny_bind ?_
 show wpAny _ _ (updateSeq s.heap.objs.size (·.push .none) >>= fun _=>updateSeq s.heap.objs.size (·.pop)) _ _ _
 refine wpAny_bind (wpAny_updateSeq hS₂ rfl ?_)
 have hS₃:=Heap.get?_update_self (Obj.mapSeq (·.push Value.none)) hS₂ rfl
 refine wpAny_updateSeq (hz:=by seq_fits) hS₃ rfl ?_
 have hS₄:=Heap.get?_update_self (Obj.mapSeq (·.pop)) hS₃ rfl
 have o4:∀ b o,s.heap.get? b=some o->((h2.update s.heap.objs.size (Obj.mapSeq (·.push Value.none))).update s.heap.objs.size (Obj.mapSeq (·.pop))).get? b=some o :=
  fun b o e=>(Heap.get?_update_other _ _ (Nat.ne_of_gt (Heap.lt_size e))).trans ((Heap.get?_update_other _ _ (Nat.ne_of_gt (Heap.lt_size e))).trans (o2 b o e))
 generalize (h2.update s.heap.objs.size (Obj.mapSeq (·.push Value.none))).update s.heap.objs.size (Obj.mapSeq (·.pop))=h4 at hS₄ o4 ⊢
 have hS₅:∃ c,h4.get? s.heap.objs.size=some { cls:=.type "list",dict:=none,data:=.seq (([]:List Addr).map Value.ref).toArray c,slots:=#[] }:=⟨_,hS₄⟩
 obtain ⟨c5,hS₅⟩:=hS₅
 have I4:Inv X pins σ H { s with heap:=h4 }:=I.kept (t':=s.toks) o4
 refine wpAny_pure ⟨plainId_quiet F.plain_extend_loop _,vd (A:=X.A.in1) (R:=R) (X:=X) (pins:=pins) (σ:=σ) (H0:=H) (xss:=xss) hh hsz hv (by omega) (fun s' rows Ts H' c hr L I' hf' hl hS'=>?_) sizeLine 0 { s with heap:=h4 } H [] [] c5 (fun xs hx=>by have:=hb xs hx; omega) (Nat.zero_le _) hb rfl (fun j r hj=>by simp at hj) .nil I4 (fun b hb=>?_) (hz.keep fun b o _ e=>o4 b o e) hS₅⟩
 ·subst hR
  refine ⟨rfl,.ref s.heap.objs.size,upd H' s.heap.objs.size (.lst (Ts.map V.ref)),I'.trackF hf' ⟨by simpa using hl,Ts.map Value.ref,c,oj Ts,hS'⟩,rfl,hq rows Ts H' _ hr L hf'.1 hl⟩
 ·rcases ownZ_mem.mp hb with h | h
  ·exact hf b (by omega)
  ·exact hf b h.1
def zB (K:PySem.W.Frag) (ta:TA):TE:=fun σ H Q=>ta σ H fun vs H1=>∃ (a b:Addr) (xs ys:List V),vs=[.ref a,.ref b] /\ SqL K H1 a xs /\ SqL K H1 b ys /\ Bo [xs,ys] H1 Q
theorem qa {l l':Expr} {ta:TA} {p p' pos pos':Pos} (hc:X.calm=true) (hgl:Gl X "list") (hml:X.mg "list" = none) (hg:Gl X "zip") (hm:X.mg "zip" = none) (ha:PA X [l,l'] ta)
  (he:starEach [l,l'] X.env=(false,eval l X.env)::starEach [l'] X.env:=by rfl) (hpl:(backTo pos' (starEach [l'] X.env)).any (·.1)=false:=by rfl)
  (hs:starEach [.Call (.Name "zip" p') [l,l'] [] pos'] X.env=(false,eval (.Call (.Name "zip" p') [l,l'] [] pos') X.env)::starEach [] X.env:=by rfl) (hpl0:(backTo pos (starEach [] X.env)).any (·.1)=false:=by rfl) :
  PE X (.Call (.Name "list" p) [.Call (.Name "zip" p') [l,l'] [] pos'] [] pos) (zB X.K ta):=by
 intro pins s σ H Q I h
 refine wpAny_Call_Name_kw (iW I hgl hml oq ?_ (by decide) (by decide))
 refine PyProof.Rows.callWith_type1 ?_ hs hpl0
 rw [hs]
 show wpAny _ _ (spliced ((false,eval (.Call (.Name "zip" p') [l,l'] [] pos') X.env)::backTo pos (starEach [] X.env))) _ _ s
 refine Calls.spliced_cons ?_
 refine wpAny_Call_Name_kw (iW I hg hm qK ?_ (by decide) (by decide))
 refine PyProof.Rows.callWith_type1 (thn (ha pos' pins s σ H _ I h) fun us s1 ⟨vs,H1,I1,r1,a,b,xs,ys,e,h1,h2,q⟩=>?_) he hpl
 subst e
 obtain ⟨u,u',rfl,ru,ru'⟩:=r1.two
 cases ru
 cases ru'
 obtain ⟨its,rv,pl,hz⟩:=I1.list h1
 obtain ⟨its',rv',pl',hz'⟩:=I1.list h2
 have hv:SrcV [xs,ys] [(a,its.toArray),(b,its'.toArray)]:=⟨rfl,fun j zs p h1 h2=>by
  match j with
  | 0=>simp at h1 h2; subst h1 h2; simpa using rv
  | 1=>simp at h1 h2; subst h1 h2; simpa using rv'
  | j + 2=>simp at h1⟩
 refine oB (tk:=fun _=>false) (p1:=(a,its.toArray)) (p2:=(b,its'.toArray)) pl.isList pl'.isList fun h' hz2 hz' hk=>?_
 have I2:Inv X pins σ H1 { s1 with heap:=h' }:=I1.kept (t':=s1.toks) hk
 have fp:∀ b:Nat,s1.heap.objs.size <= b->FpOk X pins H1 b:=fun b hb=>I1.fpOk hb (I1.hok.fresh hb)
 refine Calls.spliced_nil ?_
 exact ve (X:=X) (I.ok.hd hc) (show 2 <= sizeLine by decide) hv (fun zs hx=>by simp only [List.mem_cons,List.not_mem_nil,or_false] at hx; rcases hx with rfl | rfl <;> assumption) I2 fp hz2 q
end
end L2
namespace DL
open PySem PySem.Spec PyProof.Rows L2
variable [TB]
variable [Frm]
section
variable {X:Cx}
abbrev zC (t:DA):DA:=fun ρ Q=>t ρ fun ds ρ'=>match ds with
 | [.lst xs,.lst ys]=>Q (zipD xs ys) ρ'
 | _=>False
theorem vf {l l':Expr} {tl:DA} {p p' pos pos':Pos} (hc:X.calm=true) (hgl:Gl X "list") (hml:X.mg "list" = none) (hg:Gl X "zip") (hm:X.mg "zip" = none) (ha:PAD X [l,l'] tl)
  (he:starEach [l,l'] X.env=(false,eval l X.env)::starEach [l'] X.env:=by rfl) (hpl:(backTo pos' (starEach [l'] X.env)).any (·.1)=false:=by rfl)
  (hs:starEach [.Call (.Name "zip" p') [l,l'] [] pos'] X.env=(false,eval (.Call (.Name "zip" p') [l,l'] [] pos') X.env)::starEach [] X.env:=by rfl) (hpl0:(backTo pos (starEach [] X.env)).any (·.1)=false:=by rfl) :
  PLD X (.Call (.Name "list" p) [.Call (.Name "zip" p') [l,l'] [] pos'] [] pos) (zC tl):=by
 obtain ⟨T,pa,ra⟩:=ha.run
 refine ⟨fun _ _ _ f h=>ha.mono _ _ _ (fun d _ h=>?_) h,_,qa hc hgl hml hg hm pa he hpl hs hpl0,fun {F} M H σ ρ Q rs h=>ra M H σ ρ _ rs (ha.mono _ _ _ (fun d ρ1 h M1 H1 v m1 rs1 r1=>?_) h)⟩
 ·split at h
  ·exact f _ _ h
  ·exact h.elim
 ·split at h
  case h_2=>exact h.elim
  rename_i xs ys
  simp only [Reps,Rep] at r1
  obtain ⟨_,_,rfl,⟨a,us,rfl,_,_,ha1,ru⟩,_,_,rfl,⟨b,ws,rfl,_,_,hb1,rw'⟩,rfl⟩:=r1
  refine ⟨a,b,us,ws,rfl,SqL.of ha1,SqL.of hb1,fun rows Ts H' l ho ld hn _=>?_⟩
  refine h M1 H' _ l _ (m1.trans (SameP.of (pK ld).1).mv) (rs1.sameP (SameP.of (pK ld).1)) hn rfl (ux (zg xs ys) rfl (fun j ds zs h1 h2=>?_) ho ld)
  match j with
  | 0=>simp at h1 h2; subst h1 h2; exact ru
  | 1=>simp at h1 h2; subst h1 h2; exact rw'
  | j + 2=>simp at h1
end
end DL
namespace My
open PySem L2
def top (i:Nat):Stmt:=PySem.Challenge.pw_othersum_k39_hidden.main.body.getD i (.Pass ⟨0,0,0,0⟩)
abbrev cP:Stmt:=top 6
theorem qb:FnScope ["thing"] ["thing"] (ae cP):=⟨rfl,rfl,rfl,by decide +kernel,rfl,by decide +kernel,by decide +kernel⟩
abbrev cg:Stmt:=top 7
theorem oG:FnScope ["thing","least","most"] ["thing","least","most"] (ae cg):=⟨rfl,rfl,rfl,by decide +kernel,rfl,by decide +kernel,by decide +kernel⟩
abbrev cQ:Stmt:=top 8
theorem sc_together:FnScope ["counts","tried","well"] ["counts"] (ae cQ):=⟨rfl,rfl,rfl,by decide +kernel,rfl,by decide +kernel,by decide +kernel⟩
abbrev aK:Stmt:=top 9
theorem fZ:FnScope ["many","rows"] ["many","rows"] (ae aK):=⟨rfl,rfl,rfl,by decide +kernel,rfl,by decide +kernel,by decide +kernel⟩
abbrev cR:Stmt:=top 13
theorem sc_gathered:FnScope ["many","pairs","found","kinds","counts","cells"] ["many","pairs"] (ae cR):=⟨rfl,rfl,rfl,by decide +kernel,rfl,by decide +kernel,by decide +kernel⟩
abbrev cS:Stmt:=top 14
theorem qc:FnScope ["counts"] ["counts"] (ae cS):=⟨rfl,rfl,rfl,by decide +kernel,rfl,by decide +kernel,by decide +kernel⟩
abbrev bC:Stmt:=top 16
theorem kQ:FnScope ["many","house"] ["many","house"] (ae bC):=⟨rfl,rfl,rfl,by decide +kernel,rfl,by decide +kernel,by decide +kernel⟩
abbrev bP:Stmt:=top 17
theorem mH:FnScope ["many","a","b"] ["many","a","b"] (ae bP):=⟨rfl,rfl,rfl,by decide +kernel,rfl,by decide +kernel,by decide +kernel⟩
abbrev fQ:Stmt:=top 21
theorem sc_parted:FnScope ["one","other","many","ones","others"] ["one","other","many"] (ae fQ):=⟨rfl,rfl,rfl,by decide +kernel,rfl,by decide +kernel,by decide +kernel⟩
abbrev eA:Stmt:=top 22
theorem sD:FnScope ["count"] ["count"] (ae eA):=⟨rfl,rfl,rfl,by decide +kernel,rfl,by decide +kernel,by decide +kernel⟩
abbrev ci:Stmt:=top 23
theorem oH:FnScope ["wells","ills"] ["wells","ills"] (ae ci):=⟨rfl,rfl,rfl,by decide +kernel,rfl,by decide +kernel,by decide +kernel⟩
abbrev fR:Stmt:=top 24
theorem vg:FnScope ["place","number","many"] ["place","number","many"] (ae fR):=⟨rfl,rfl,rfl,by decide +kernel,rfl,by decide +kernel,by decide +kernel⟩
abbrev fS:Stmt:=top 25
theorem vh:FnScope ["number","many"] ["number","many"] (ae fS):=⟨rfl,rfl,rfl,by decide +kernel,rfl,by decide +kernel,by decide +kernel⟩
abbrev cT:Stmt:=top 27
theorem qd:FnScope ["book"] ["book"] (ae cT):=⟨rfl,rfl,rfl,by decide +kernel,rfl,by decide +kernel,by decide +kernel⟩
abbrev fT:Stmt:=top 29
theorem sc_hidden:FnScope ["book","a","b","many","whole","table","ones","others","pairs","place","cell","kind","counts"] ["book","a","b","many"] (ae fT):=⟨rfl,rfl,rfl,by decide +kernel,rfl,by decide +kernel,by decide +kernel⟩
abbrev iK:Stmt:=top 30
theorem sc_split:FnScope ["counts","parts","wells","ills"] ["counts","parts"] (ae iK):=⟨rfl,rfl,rfl,by decide +kernel,rfl,by decide +kernel,by decide +kernel⟩
abbrev fU:Stmt:=top 31
theorem sc_poured:FnScope ["numbers","rooms","left","told","number","taken"] ["numbers","rooms"] (ae fU):=⟨rfl,rfl,rfl,by decide +kernel,rfl,by decide +kernel,by decide +kernel⟩
abbrev fV:Stmt:=top 32
theorem sc_filled:FnScope ["number","rooms","taken","room"] ["number","rooms"] (ae fV):=⟨rfl,rfl,rfl,by decide +kernel,rfl,by decide +kernel,by decide +kernel⟩
abbrev cU:Stmt:=top 34
theorem qe:FnScope ["_law_script"] ["_law_script"] (ae cU):=⟨rfl,rfl,rfl,by decide +kernel,rfl,by decide +kernel,by decide +kernel⟩
abbrev cj:Stmt:=top 35
theorem sc__law_next:FnScope ["_law_pen_here","_law_many","_law_script","_law_turn","_law_left","_law_cell","_law_number"] ["_law_pen_here","_law_many"] (ae cj):=⟨rfl,rfl,rfl,by decide +kernel,rfl,by decide +kernel,by decide +kernel⟩
abbrev bQ:Stmt:=top 36
theorem sc__law_count:FnScope ["_law_pen_here","_law_way","_law_tried"] ["_law_pen_here"] (ae bQ):=⟨rfl,rfl,rfl,by decide +kernel,rfl,by decide +kernel,by decide +kernel⟩
abbrev ck:Stmt:=top 37
theorem sc__law_book:FnScope ["_law_pen_here","_law_most","_law_many","_law_marks","_law_found","_law_k","_law_kinds","_law_counts"] ["_law_pen_here","_law_most"] (ae ck):=⟨rfl,rfl,rfl,by decide +kernel,rfl,by decide +kernel,by decide +kernel⟩
abbrev cV:Stmt:=top 38
theorem sc__law_two:FnScope ["_law_pen_here","_law_many","_law_a"] ["_law_pen_here","_law_many"] (ae cV):=⟨rfl,rfl,rfl,by decide +kernel,rfl,by decide +kernel,by decide +kernel⟩
abbrev bc:Stmt:=top 39
theorem jn:FnScope ["_law_thing"] ["_law_thing"] (ae bc):=⟨rfl,rfl,rfl,by decide +kernel,rfl,by decide +kernel,by decide +kernel⟩
abbrev cW:Stmt:=top 40
theorem qf:FnScope ["_law_counts"] ["_law_counts"] (ae cW):=⟨rfl,rfl,rfl,by decide +kernel,rfl,by decide +kernel,by decide +kernel⟩
abbrev cp:Stmt:=top 41
theorem sc__law_said:FnScope ["_law_one","_law_other","_law_left","_law_right"] ["_law_one","_law_other"] (ae cp):=⟨rfl,rfl,rfl,by decide +kernel,rfl,by decide +kernel,by decide +kernel⟩
abbrev bj:Stmt:=top 42
theorem sc__law_is_book:FnScope ["_law_found","_law_many","_law_marks","_law_cell","_law_kind","_law_kinds","_law_rows"] ["_law_found","_law_many","_law_marks"] (ae bj):=⟨rfl,rfl,rfl,by decide +kernel,rfl,by decide +kernel,by decide +kernel⟩
abbrev bm:Stmt:=top 43
theorem sc__law_without:FnScope ["_law_found","_law_many","_law_cells","_law_kinds","_law_counts","_law_told","_law_rows"] ["_law_found","_law_many"] (ae bm):=⟨rfl,rfl,rfl,by decide +kernel,rfl,by decide +kernel,by decide +kernel⟩
abbrev bR:Stmt:=top 44
theorem sc__law_turns:FnScope ["_law_found","_law_a","_law_b","_law_kinds","_law_kind","_law_rows","_law_counts","_law_house"] ["_law_found","_law_a","_law_b","_law_kinds"] (ae bR):=⟨rfl,rfl,rfl,by decide +kernel,rfl,by decide +kernel,by decide +kernel⟩
abbrev mI:Stmt:=top 45
theorem sc_law:FnScope ["_law_script","_law_pen_here","_law_book_here","_law_a","_law_b","_law_kinds","_law_one","_law_other","_law_turn","_law_found"] ["_law_script"] (ae mI):=⟨rfl,rfl,rfl,by decide +kernel,rfl,by decide +kernel,by decide +kernel⟩
set_option genInjectivity false in
set_option genSizeOf false in
structure Tx (K:PySem.W.Frag) (mg:Str->Option Value) where
 iU:Addr
 gD:FuncData
 eG:Df K mg "is_whole" cP ["thing"] iU gD
 gz:Addr
 fA:FuncData
 aS:Df K mg "is_within" cg ["thing","least","most"] gz fA
 iN:Addr
 gG:FuncData
 eB:Df K mg "together" cQ ["counts"] iN gG
 bN:Addr
 bE:FuncData
 aC:Df K mg "together_by_house" aK ["many","rows"] bN bE
 fW:Addr
 eU:FuncData
 eC:Df K mg "gathered" cR ["many","pairs"] fW eU
 iQ:Addr
 gy:FuncData
 eI:Df K mg "is_tried" cS ["counts"] iQ gy
 eV:Addr
 dS:FuncData
 aZ:Df K mg "check_house" bC ["many","house"] eV dS
 fK:Addr
 eP:FuncData
 cE:Df K mg "check_pair" bP ["many","a","b"] fK eP
 jF:Addr
 ir:FuncData
 im:Df K mg "parted" fQ ["one","other","many"] jF ir
 kG:Addr
 iO:FuncData
 aL:Df K mg "ills_of" eA ["count"] kG iO
 gA:Addr
 fG:FuncData
 aT:Df K mg "counts_of" ci ["wells","ills"] gA fG
 mV:Addr
 kD:FuncData
 dI:Df K mg "all_at" fR ["place","number","many"] mV kD
 mW:Addr
 kC:FuncData
 dL:Df K mg "spread" fS ["number","many"] mW kC
 iS:Addr
 gx:FuncData
 eD:Df K mg "whole_of" cT ["book"] iS gx
 mU:Addr
 kB:FuncData
 iq:Df K mg "hidden" fT ["book","a","b","many"] mU kB
 qv:Addr
 mX:FuncData
 fE:Df K mg "split" iK ["counts","parts"] qv mX
 mY:Addr
 kE:FuncData
 dJ:Df K mg "poured" fU ["numbers","rooms"] mY kE
 mT:Addr
 kA:FuncData
 iu:Df K mg "filled" fV ["number","rooms"] mT kA
 iV:Addr
 gE:FuncData
 eF:Df K mg "_law_pen" cU ["_law_script"] iV gE
 eQ:Addr
 dH:FuncData
 af:Df K mg "_law_next" cj ["_law_pen_here","_law_many"] eQ dH
 fu:Addr
 eW:FuncData
 cF:Df K mg "_law_count" bQ ["_law_pen_here"] fu eW
 gH:Addr
 fF:FuncData
 dw:Df K mg "_law_book" ck ["_law_pen_here","_law_most"] gH fF
 iP:Addr
 gF:FuncData
 eE:Df K mg "_law_two" cV ["_law_pen_here","_law_many"] iP gF
 du:Addr
 cG:FuncData
 bz:Df K mg "_law_is_count" bc ["_law_thing"] du cG
 iT:Addr
 gI:FuncData
 az:Df K mg "_law_sum" cW ["_law_counts"] iT gI
 gC:Addr
 fH:FuncData
 dz:Df K mg "_law_said" cp ["_law_one","_law_other"] gC fH
 dQ:Addr
 dv:FuncData
 bJ:Df K mg "_law_is_book" bj ["_law_found","_law_many","_law_marks"] dQ dv
 dR:Addr
 dr:FuncData
 bI:Df K mg "_law_without" bm ["_law_found","_law_many"] dR dr
 fC:Addr
 eT:FuncData
 cD:Df K mg "_law_turns" bR ["_law_found","_law_a","_law_b","_law_kinds"] fC eT
 zS:Addr
 vR:FuncData
 Cc:Df K mg "law" mI ["_law_script"] zS vR
 oW:mg "ValueError" = none
 qw:mg "sum" = none
 bv:mg "tuple" = none
 BZ:mg "any" = none
 rP:mg "list" = none
 kF:mg "enumerate" = none
 cH:mg "range" = none
 ix:mg "sorted" = none
 aB:mg "isinstance" = none
 mZ:mg "int" = none
 vQ:mg "zip" = none
 iR:mg "len" = none
 oV:mg "bool" = none
 Ca:mg "min" = none
 Cd:mg "set" = none
 Cb:mg "all" = none
 ca:Tok
 ip:mg "MOST_KINDS" = some (.int 6 ca)
 bY:Tok
 iw:mg "MOST_MARKS" = some (.int 5 bY)
 bK:Tok
 gf:mg "LEAST_PARTS" = some (.int 2 bK)
 bZ:Tok
 io:mg "MOST_PARTS" = some (.int 8 bZ)
open DL
section
variable {P:Program} {w:World} {K:PySem.W.Frag} {mg:Str->Option Value} {base:Heap}
theorem qg (T:Tx K mg):FnOk P w K mg base CX0 1 T.iV T.gE ["_law_script"] (xG K):=by
 refine T.eF.F.ok qe (fun vs H Q E h=>?_) (fun cdv A outer s H vs Q E hr h=>?_)
 ·obtain ⟨a,ns,rfl,_⟩:=h
  rfl
 ·obtain ⟨a,ns,rfl,hs,k⟩:=h
  refine ⟨_,(gg (nj (tF (bL (pv 0) (bL bD (bL bD dW)))))),?_⟩
  refine ⟨_,rfl,(by show (3:Nat) <= sizeLine; decide),fun p hp=>?_⟩
  refine k p _ hp ⟨ao,?_,Int.le_refl 0⟩ (lU hp)
  rcases hs with ⟨o,e⟩ | e
  ·exact .inl ⟨o,gj hp e⟩
  ·exact .inr e
theorem oI (T:Tx K mg):FnOk P w K mg base CX0 1 T.eQ T.dH ["_law_pen_here","_law_many"] (tY K):=by
 refine T.af.F.ok sc__law_next (fun vs H Q E h=>?_) (fun cdv A outer s H vs Q E hr h=>?_)
 ·obtain ⟨p,a,ns,t,l,m,rfl,_⟩:=h
  rfl
 ·obtain ⟨p,a,ns,t,l,m,rfl,pen,m1,m2,k⟩:=h
  refine ⟨_,(br (nn (pv 0) (AO rfl (jq (lK (i:=2) sc__law_next.nd rfl (Or.inl rfl)) (jq (lK (i:=3) sc__law_next.nd rfl (Or.inl rfl)) (jq (lK (i:=4) sc__law_next.nd rfl (Or.inl rfl)) sY)))))
   (br (vT (jH Cn (pv 4) bD (aJ _)) (br (nn (cL jG (pv 3) bD) (sZ (pv 0) bD lM))
   (br (vT (PW.pt (Ab (jH Ap (pv 3) (gK cr rfl T.iR PySem.boot_len (bL (pv 2) dW)) (aJ _)) (xC (jH An (wa lL (pv 2) (pv 3) (fun _ _=>rfl)) (cL xD bD bD) (aJ _))))) (br (gJ (i:=5) sc__law_next.nd rfl (Or.inl rfl) bD)
   (br (vT (jH Ao (gK cr rfl T.iR PySem.boot_len (bL (pv 2) dW)) bD (aJ _)) (gg (gJ (i:=5) sc__law_next.nd rfl (Or.inl rfl) (cL iX (wa lL (pv 2) (cL iX (pv 3) (gK cr rfl T.iR PySem.boot_len (bL (pv 2) dW))) (fun _ _=>rfl)) bD))) lJ)
   (br (gJ (i:=6) sc__law_next.nd rfl (Or.inl rfl) (cL iX (cL iA (cL jG (cL jG (pv 5) (cL iA bD (pv 3))) bD) bD) bD))
   (br (gJ (i:=6) sc__law_next.nd rfl (Or.inl rfl) (cL iX (cL jG (cL jG (cL iA (pv 6) (pv 6)) (cL iA bD (pv 3))) bD) bD))
   (gg (nj (cL iX (cL qC (cL iX (cL iA (pv 6) (cL jG (pv 6) bD)) bD) bD) (pv 1)))))))) lJ)
   (gg (gJ (i:=4) sc__law_next.nd rfl (Or.inl rfl) (wa lL (pv 2) (pv 3) (fun _ _=>rfl)))))) lJ)
   (br (nn (cL qC (pv 4) (pv 1)) (sZ (pv 0) bD lM))
   (gg (nj (cL iX (pv 4) (pv 1))))))),?_⟩
  have ht:=pen.t0
  have hm:(0:Int) < m:=by omega
  -- the pen's three parts
  refine ⟨_,rfl,p,_,rfl,pen.lst,rfl,_,_,rfl,_,_,rfl,_,_,rfl,rfl,?_⟩
  -- if left == 0
  refine ⟨_,rfl,rfl,_,rfl,?_⟩
  refine ite2 (fun hl=>?_) (fun hl=>?_)
  ·-- pen[1]=turn + 1
   refine ⟨_,rfl,_,_,rfl,rfl,_,rfl,p,_,1,1,rfl,rfl,pen.lst,rfl,?_⟩
   have pen1:Pen K (upd H p (.lst [.ref a,.int (t + 1),.int l])) p a ns (t + 1) l:=pen.put (by omega)
   have sq:=pen1.scr.sq
   -- if turn >= len(script) or script[turn] < 10 ** 18
   refine ⟨_,rfl,_,rfl,a,_,rfl,.inl sq,_,_,rfl,rfl,_,rfl,?_⟩
   refine ite2 (fun h1=>iteT ?_) (fun h1=>⟨_,rfl,_,rfl,a,_,t,_,rfl,rfl,sq,tW ht (by simp only [decide_eq_true_eq,List.length_map] at h1; omega),_,_,rfl,rfl,⟨by decide,by decide,by decide⟩,_,_,rfl,rfl,_,rfl,ite2 (fun h2=>?_) (fun h2=>?_)⟩)
   rotate_left 2
   ·-- left=script[turn]; pen[2]=left // many; return left % many
    simp only [decide_eq_true_eq,List.length_map] at h1
    refine ⟨_,rfl,_,rfl,a,_,t,_,rfl,rfl,sq,tW ht (by omega),?_⟩
    refine ⟨_,rfl,_,rfl,_,_,rfl,rfl,⟨hm,tZ (by omega) (by omega)⟩,_,rfl,p,_,2,2,rfl,rfl,pen1.lst,rfl,?_⟩
    refine ⟨_,rfl,_,rfl,_,_,rfl,rfl,hm,?_⟩
    exact k _ (t + 1) _ _ (Int.emod_nonneg _ (by omega)) (Int.emod_lt_of_pos _ hm) (pen1.put (by omega)) (SBut.upd.trans SBut.upd)
   all_goals
    -- cell = ..; if len(script) > 0: cell=script[turn % len(script)] % ..
    refine ⟨_,rfl,a,_,rfl,.inl sq,_,_,rfl,rfl,_,rfl,?_⟩
    refine ite2 (fun h3=>?_) (fun h3=>?_)
    ·simp only [decide_eq_true_eq,List.length_map] at h3
     refine ⟨_,rfl,_,rfl,_,rfl,a,_,rfl,.inl sq,_,_,rfl,rfl,(by show (0:Int) < ((ns.map V.int).length:Int); rw [List.length_map]; omega),a,_,_,_,rfl,rfl,sq,tW (by rw [List.length_map]; exact Int.emod_nonneg _ (by omega)) (by rw [List.length_map]; exact Int.emod_lt_of_pos _ (by omega)),_,_,rfl,rfl,mpos,?_⟩
     refine ⟨_,rfl,_,rfl,_,_,rfl,rfl,wm,_,_,rfl,rfl,_,_,rfl,rfl,_,_,rfl,rfl,AQ,_,_,rfl,rfl,mpos,?_⟩
     refine ⟨_,rfl,_,rfl,_,_,rfl,rfl,lV (by decide) (by decide),_,rfl,_,_,rfl,rfl,wm,_,_,rfl,rfl,_,_,rfl,rfl,_,_,rfl,rfl,mpos,?_⟩
     refine ⟨_,rfl,_,rfl,_,_,rfl,rfl,_,_,rfl,rfl,lV (by decide) (by decide),_,_,rfl,rfl,mpos,_,_,rfl,rfl,⟨by decide,nK (by decide) (by decide)⟩,_,rfl,_,_,rfl,rfl,hm,?_⟩
     exact k _ (t + 1) _ _ (Int.emod_nonneg _ (by omega)) (Int.emod_lt_of_pos _ hm) pen1 SBut.upd
    ·refine ⟨_,rfl,_,rfl,_,_,rfl,rfl,wm,_,_,rfl,rfl,_,_,rfl,rfl,_,_,rfl,rfl,AQ,_,_,rfl,rfl,mpos,?_⟩
     refine ⟨_,rfl,_,rfl,_,_,rfl,rfl,lV (by decide) (by decide),_,rfl,_,_,rfl,rfl,wm,_,_,rfl,rfl,_,_,rfl,rfl,_,_,rfl,rfl,mpos,?_⟩
     refine ⟨_,rfl,_,rfl,_,_,rfl,rfl,_,_,rfl,rfl,lV (by decide) (by decide),_,_,rfl,rfl,mpos,_,_,rfl,rfl,⟨by decide,nK (by decide) (by decide)⟩,_,rfl,_,_,rfl,rfl,hm,?_⟩
     exact k _ (t + 1) _ _ (Int.emod_nonneg _ (by omega)) (Int.emod_lt_of_pos _ hm) pen1 SBut.upd
  ·-- pen[2]=left // many; return left % many
   refine ⟨_,rfl,_,rfl,_,_,rfl,rfl,⟨hm,tZ (by omega) (by omega)⟩,_,rfl,p,_,2,2,rfl,rfl,pen.lst,rfl,?_⟩
   refine ⟨_,rfl,_,rfl,_,_,rfl,rfl,hm,?_⟩
   exact k _ t _ _ (Int.emod_nonneg _ (by omega)) (Int.emod_lt_of_pos _ hm) (pen.put ht) SBut.upd
theorem aG (T:Tx K mg):FnOk P w K mg base CX0 1 T.eQ T.dH ["_law_pen_here","_law_many"] (spD K 2 sf):=za (oI T)
theorem aH:bG sf:=uk
def BJ:D->Bool
 | .int _=>true
 | _=>false
def gW:DSp:=fun ds Q=>match ds with
 | [d]=>wv d=true /\ Q (.bl (BJ d))
 | _=>False
theorem sE:bG gW:=fun ds P P' f h=>by
 unfold gW at h ⊢
 split at h
 ·exact ⟨h.1,f _ h.2⟩
 ·exact h.elim
theorem sF (T:Tx K mg):FnOk P w K mg base CX0 1 T.iU T.gD ["thing"] (spD K 1 gW):=by
 refine fnD (k:=0) T.eG.F qb (fun cdv A outer s H E hr=>(ah (aI (xJ (aq jT rfl T.aB rfl (aa (ac 0 (pv 0)) (aa (gQ (n:="int") rfl T.mZ rfl) ad))) (xI (AT (aq fN rfl T.aB rfl (aa (ac 0 (pv 0)) (aa (gQ (n:="bool") rfl T.oV rfl) ad))))))))) (fun ds Q hl h=>?_)
 unfold gW at h
 split at h
 case h_2=>exact h.elim
 rename_i d
 obtain ⟨h1,h⟩:=h
 refine ⟨rfl,h1,?_⟩
 cases d with
 | int i=>exact Br.t ⟨rfl,h1,h⟩
 | bl i=>exact Br.t ⟨rfl,h1,h⟩
 | _=>exact Br.f h
def ax (c:Int×Int):D:=.tup [.int c.1,.int c.2]
def gTog:DSp:=fun ds Q=>match ds with
 | [.lst xs]=>∃ cs:List (Int×Int),xs=cs.map ax /\ cs.length <= 1000 /\ Q (.tup [.int (cs.map (·.1)).sum,.int (cs.map (·.2)).sum])
 | [.tup xs]=>∃ cs:List (Int×Int),xs=cs.map ax /\ cs.length <= 1000 /\ Q (.tup [.int (cs.map (·.1)).sum,.int (cs.map (·.2)).sum])
 | _=>False
theorem sG:bG gTog:=fun ds P P' f h=>by
 unfold gTog at h ⊢
 split at h
 ·obtain ⟨cs,a,b,h⟩:=h
  exact ⟨cs,a,b,f _ h⟩
 ·obtain ⟨cs,a,b,h⟩:=h
  exact ⟨cs,a,b,f _ h⟩
 ·exact h.elim
theorem BK (cs:List (Int×Int)):(cs.map ax).map (fun d=>match d with | .tup (x::_)=>x | _=>.non)=(cs.map (·.1)).map D.int:=by
 rw [List.map_map,List.map_map]; rfl
theorem zD (cs:List (Int×Int)):(cs.map ax).map (fun d=>match d with | .tup [_,x]=>x | _=>.non)=(cs.map (·.2)).map D.int:=by
 rw [List.map_map,List.map_map]; rfl
theorem CZ {cs:List (Int×Int)} {s:Sl} {Q:List D->Prop} (hc:cs.length <= 1000) (hq:Q ((cs.map (·.1)).map D.int)):bX (cc 0) bp (dOp gIx (dVar 0) (dC (.int 0))) (cs.map ax) [] [s] Q:=by
 refine aY (fun d=>match d with | .tup (x::_)=>x | _=>.non) (fun ρ=>∃ s,ρ=[s]) ?_ (fun d hd ρ Y Z hN hY=>?_) _ ⟨_,rfl⟩ ?_
 ·rw [List.length_map]; exact Nat.le_trans hc (by decide)
 ·obtain ⟨s,rfl⟩:=hN
  obtain ⟨c,_,rfl⟩:=List.mem_map.mp hd
  exact Br.t (hY _ ⟨_,rfl⟩)
 ·rw [BK]; exact hq
theorem zE {cs:List (Int×Int)} {s:Sl} {Q:List D->Prop} (hc:cs.length <= 1000) (hq:Q ((cs.map (·.2)).map D.int)):bX (cc 0) bp (dOp gIx (dVar 0) (dC (.int 1))) (cs.map ax) [] [s] Q:=by
 refine aY (fun d=>match d with | .tup [_,x]=>x | _=>.non) (fun ρ=>∃ s,ρ=[s]) ?_ (fun d hd ρ Y Z hN hY=>?_) _ ⟨_,rfl⟩ ?_
 ·rw [List.length_map]; exact Nat.le_trans hc (by decide)
 ·obtain ⟨s,rfl⟩:=hN
  obtain ⟨c,_,rfl⟩:=List.mem_map.mp hd
  exact Br.t (hY _ ⟨_,rfl⟩)
 ·rw [zD]; exact hq
theorem sH (T:Tx K mg):FnOk P w K mg base CX0 1 T.iN T.gG ["counts"] (spD K 1 gTog):=by
 refine fnD (k:=0) T.eB.F sc_together (fun cdv A outer s H E hr=>(al (aX (i:=1) sc_together.nd rfl (by first | exact Or.inl rfl | exact Or.inr rfl) (aq lr rfl T.qw PyProof.Rows.boot_sum (aa (aF (PCD.pld (aw (N':=["count"]) rfl rfl (by decide +kernel) rfl (.own .nil) (by decide +kernel) (qI (ac 0 (pv 0))) (fun B=>(ai (i:=0) (show List.Nodup (α:=PySem.Str) ["count"] by decide +kernel) rfl (by first | exact Or.inl rfl | exact Or.inr rfl))) (fun B=>aD) (fun B=>(ar (ac 0 (pv 0)) ag (fun _ _=>rfl)))))) ad)))
   (al (aX (i:=2) sc_together.nd rfl (by first | exact Or.inl rfl | exact Or.inr rfl) (aq lr rfl T.qw PyProof.Rows.boot_sum (aa (aF (PCD.pld (aw (N':=["count"]) rfl rfl (by decide +kernel) rfl (.own .nil) (by decide +kernel) (qI (ac 0 (pv 0))) (fun B=>(ai (i:=0) (show List.Nodup (α:=PySem.Str) ["count"] by decide +kernel) rfl (by first | exact Or.inl rfl | exact Or.inr rfl))) (fun B=>aD) (fun B=>(ar (ac 0 (pv 0)) ag (fun _ _=>rfl)))))) ad)))
   (ah (aI (cu (aa (ac 1 (pv 1)) (aa (ac 2 (pv 2)) ad)))))))) (fun ds Q hl h=>?_)
 unfold gTog at h
 split at h
 case h_3=>exact h.elim
 all_goals
  obtain ⟨cs,rfl,hc,h⟩:=h
  refine CZ hc (gl ?_)
  refine zE hc (gl ?_)
  exact ⟨sz,h⟩
structure Cnt (n:Nat) (t w:Int):Prop where
 lo:0 <= w
 hi:w <= t
 bt:Bd n t
 bw:Bd n w
theorem Cnt.mono {m n:Nat} {t w:Int} (h:Cnt m t w) (l:m <= n):Cnt n t w:=⟨h.lo,h.hi,h.bt.mono l,h.bw.mono l⟩
theorem qX {n:Nat} {t w:Int} (lo:0 <= w) (hi:w <= t) (b:Bd n t):Cnt n t w:=⟨lo,hi,b,b.le (by omega)⟩
abbrev Row:=List (Int×Int)
def rowD (r:Row):D:=.tup (r.map ax)
def RowN (n m:Nat) (r:Row):Prop:=r.length=m /\ ∀ c∈r,Cnt n c.1 c.2
abbrev vi (m:Nat) (r:Row):Prop:=RowN 200 m r
theorem RowN.up {n m:Nat} {r:Row} (o:RowN n m r) (h:n <= 200:=by decide):vi m r:=⟨o.1,fun c hc=>(o.2 c hc).mono h⟩
def at_ (r:Row) (h:Nat):Int×Int:=r.getD h (0,0)
def col (t:List Row) (h:Nat):List (Int×Int):=t.map fun r=>at_ r h
def sumP (cs:List (Int×Int)):Int×Int:=((cs.map (·.1)).sum,(cs.map (·.2)).sum)
def sums (t:List Row) (m:Nat):Row:=(List.range m).map fun h=>sumP (col t h)
theorem gc {n m:Nat} {r:Row} (o:RowN n m r) {h:Nat} (hh:h < m):r[h]? = some (at_ r h) /\ Cnt n (at_ r h).1 (at_ r h).2:=by
 have hl:h < r.length:=by rw [o.1]; exact hh
 have e:r[h]? = some (at_ r h):=by
  unfold at_
  rw [List.getD_eq_getElem?_getD]
  simp [hl]
 exact ⟨e,o.2 _ (List.mem_of_getElem? e)⟩
theorem qY {n m:Nat} {r:Row} (o:RowN n m r) {h:Int} {Q:D->Prop} (h0:0 <= h) (h1:h < m) (q:Q (ax (at_ r h.toNat))):opt (atI (r.map ax) h) Q:=by
 refine jc h0 ?_ q
 rw [List.getElem?_map,(gc o (h:=h.toNat) (by omega)).1]
 rfl
def xa:DSp:=fun ds Q=>match ds with
 | [.int x,.int lo,.int hi]=>(lo <= x /\ x <= hi) /\ Q (.bl true)
 | _=>False
theorem gt:bG xa:=fun ds P P' f h=>by
 unfold xa at h ⊢
 split at h
 ·exact ⟨h.1,f _ h.2⟩
 ·exact h.elim
theorem gu (T:Tx K mg):FnOk P w K mg base CX0 2 T.gz T.fA ["thing","least","most"] (spD K 3 xa):=by
 refine fnD (k:=1) T.aS.F oG (fun cdv A outer s H E hr=>(ah (aI (xJ (aj (sF T) sE (hr.mono (by decide)) rfl T.eG.m T.eG.F.kp T.eG.b (aa (ac 0 (pv 0)) ad)) (xI (lZ uf uf (ac 1 (pv 1)) (ac 0 (pv 0)) (ac 2 (pv 2)))))))) (fun ds Q hl h=>?_)
 unfold xa at h
 split at h
 case h_2=>exact h.elim
 rename_i x lo hi
 obtain ⟨⟨h1,h2⟩,h⟩:=h
 have h':Q (.bl (decide (x <= hi))):=by rw [decide_eq_true h2]; exact h
 exact ⟨rfl,rfl,Br.t (Br.dt h1 h')⟩
theorem jB {m:Nat} {t:List Row} (ho:∀ r∈t,vi m r) (hl:t.length <= 1000) {h:Int} (h0:0 <= h) (h1:h < m) {s:Sl} {Q:List D->Prop} (q:Q ((col t h.toNat).map ax)) :
  bX (cc 0) bp (dOp gIx (dVar 0) (dVar 1)) (t.map rowD) [] [s,.val (.int h)] Q:=by
 refine bH (fun pre acc ρ=>∃ t0 t1:List Row,t=t0++t1 /\ pre=t0.map rowD /\ acc=(col t0 h.toNat).map ax /\ ∃ s,ρ=[s,.val (.int h)]) (fun acc ρ hN=>?_) (fun pre d post acc ρ Y e hN hY=>?_) _ ⟨[],t,rfl,rfl,rfl,_,rfl⟩
 ·obtain ⟨t0,t1,rfl,e,rfl,_⟩:=hN
  have:t1=[]:=by
   have:=congrArg List.length e
   simp at this
   exact this
  subst this
  simpa using q
 ·obtain ⟨t0,t1,rfl,rfl,rfl,s,rfl⟩:=hN
  rw [List.map_append] at e
  have e:=List.append_cancel_left e
  cases t1 with
  | nil=>simp at e
  | cons r t1 =>
   rw [List.map_cons] at e
   injection e with e1 e2
   subst e1
   have o:=ho r (by simp)
   refine Br.t (qY o h0 h1 ⟨?_,hY _ _ ⟨t0++[r],t1,by simp,by simp,by simp [col],_,rfl⟩⟩)
   rw [List.length_map]
   unfold col
   rw [List.length_map]
   have:t0.length <= 1000:=by rw [List.length_append] at hl; omega
   exact Nat.lt_of_le_of_lt this (by decide)
def gTbh:DSp:=fun ds Q=>match ds with
 | [.int m,.lst xs]=>∃ (n:Nat) (t:List Row),m=n /\ xs=t.map rowD /\ (n <= 6 /\ t.length <= 1000 /\ ∀ r∈t,vi n r) /\ Q (rowD (sums t n))
 | _=>False
theorem df:bG gTbh:=fun ds P P' f h=>by
 unfold gTbh at h ⊢
 split at h
 ·obtain ⟨n,t,a,b,c,h⟩:=h
  exact ⟨n,t,a,b,c,f _ h⟩
 ·exact h.elim
theorem aR:∀ (n:Nat) (lo:Int),fe lo n=(List.range n).map fun (i:Nat)=>D.int (lo + i)
 | 0,_=>rfl
 | n + 1,lo=>by
  rw [List.range_succ_eq_map,List.map_cons,List.map_map,fe,aR n (lo + 1)]
  congr 1
  ·simp
  ·apply List.map_congr_left
   intro i _
   simp only [Function.comp]
   congr 1
   omega
theorem dg (T:Tx K mg):FnOk P w K mg base CX0 2 T.bN T.bE ["many","rows"] (spD K 2 gTbh):=by
 refine fnD (k:=1) T.aC.F fZ (fun cdv A outer s H E hr=>(ah (aI (aW cM rfl T.bv rfl (aa (aF (PCD.pld (aw (N':=["house","rows"]) rfl rfl (by decide +kernel) rfl (.own (.cap (j:=1) rfl (by first | exact Or.inl rfl | exact Or.inr rfl) rfl .nil)) (by decide +kernel) (bu rfl T.cH (aa (ac 0 (pv 0)) ad)) (fun B=>(ai (i:=0) (show List.Nodup (α:=PySem.Str) ["house","rows"] by decide +kernel) rfl (by first | exact Or.inl rfl | exact Or.inr rfl))) (fun B=>aD) (fun B=>(aj (sH T) sG (hr.mono (by decide)) rfl T.eB.m T.eB.F.kp T.eB.b (aa (aF (PCD.pld (aw (N':=["row","house"]) rfl rfl (by decide +kernel) rfl (.own (.cap (j:=0) rfl (by first | exact Or.inl rfl | exact Or.inr rfl) rfl .nil)) (by decide +kernel) (bn (ac 1 (pv 1))) (fun B=>(ai (i:=0) (show List.Nodup (α:=PySem.Str) ["row","house"] by decide +kernel) rfl (by first | exact Or.inl rfl | exact Or.inr rfl))) (fun B=>aD) (fun B=>(ar (ac 0 (pv 0)) (ac 1 (pv 1)) (fun _ _=>rfl)))))) ad)))))) ad))))) (fun ds Q hl h=>?_)
 unfold gTbh at h
 split at h
 case h_2=>exact h.elim
 obtain ⟨n,t,rfl,rfl,⟨h6,h1000,ho⟩,h⟩:=h
 refine ⟨⟨by omega,by omega⟩,?_⟩
 rw [Int.toNat_natCast]
 refine aY (fun d=>match d with | .int i=>ax (sumP (col t i.toNat)) | _=>.non) (fun ρ=>∃ s,ρ=[s,.val (.lst (t.map rowD))]) ?_ (fun d hd ρ Y Z hN hY=>?_) _ ⟨_,rfl⟩ ?_
 ·rw [aR,List.length_map,List.length_range]
  exact Nat.le_trans h6 (by decide)
 ·obtain ⟨s,rfl⟩:=hN
  rw [aR] at hd
  obtain ⟨i,hi,rfl⟩:=List.mem_map.mp hd
  have hi:=List.mem_range.mp hi
  refine Br.t (jB ho h1000 (by omega) (by omega) ⟨rfl,col t (0 + (i:Int)).toNat,rfl,?_,hY _ ⟨_,rfl⟩⟩)
  unfold col
  rw [List.length_map]
  exact h1000
 ·show Q (.tup (List.map _ (fe 0 n)))
  have e:(fe 0 n).map (fun d=>match d with | .int i=>ax (sumP (col t i.toNat)) | _=>.non)=(sums t n).map ax:=by
   rw [aR,List.map_map]
   unfold sums
   rw [List.map_map]
   apply List.map_congr_left
   intro i _
   show ax (sumP (col t (0 + (i:Int)).toNat))=ax (sumP (col t i))
   congr 3
   omega
  rw [e]
  exact h
def gChH:DSp:=fun ds Q=>match ds with
 | [.int m,.int h]=>(0 <= h /\ h < m) /\ Q .non
 | _=>False
theorem hW:bG gChH:=fun ds P P' f h=>by
 unfold gChH at h ⊢
 split at h
 ·exact ⟨h.1,f _ h.2⟩
 ·exact h.elim
theorem ic (T:Tx K mg):FnOk P w K mg base CX0 3 T.eV T.dS ["many","house"] (spD K 2 gChH):=by
 refine fnD (k:=2) T.aZ.F kQ (fun cdv A outer s H E hr=>(ah (cz (cI (bU (aj (gu T) gt (hr.mono (by decide)) rfl T.aS.m T.aS.F.kp T.aS.b (aa (ac 1 (pv 1)) (aa ag (aa (bS gb (ac 0 (pv 0)) ag) ad)))))) (ah gS) aP))) (fun ds Q hl h=>?_)
 unfold gChH at h
 split at h
 case h_2=>exact h.elim
 obtain ⟨⟨h1,h2⟩,h⟩:=h
 exact ⟨rfl,⟨h1,by omega⟩,Br.f h⟩
def gChP:DSp:=fun ds Q=>match ds with
 | [.int m,.int a,.int b]=>(0 <= a /\ a < m /\ 0 <= b /\ b < m /\ a≠b) /\ Q .non
 | _=>False
theorem oJ:bG gChP:=fun ds P P' f h=>by
 unfold gChP at h ⊢
 split at h
 ·exact ⟨h.1,f _ h.2⟩
 ·exact h.elim
theorem oK (T:Tx K mg):FnOk P w K mg base CX0 4 T.fK T.eP ["many","a","b"] (spD K 3 gChP):=by
 refine fnD (k:=3) T.cE.F mH (fun cdv A outer s H E hr=>(al (pD (aj (ic T) hW (hr.mono (by decide)) rfl T.aZ.m T.aZ.F.kp T.aZ.b (aa (ac 0 (pv 0)) (aa (ac 1 (pv 1)) ad))))
   (al (pD (aj (ic T) hW (hr.mono (by decide)) rfl T.aZ.m T.aZ.F.kp T.aZ.b (aa (ac 0 (pv 0)) (aa (ac 2 (pv 2)) ad))))
   (ah (cz (aV (iD hr) (ac 1 (pv 1)) (ac 2 (pv 2)) (aJ _)) (ah gS) aP))))) (fun ds Q hl h=>?_)
 unfold gChP at h
 split at h
 case h_2=>exact h.elim
 obtain ⟨⟨h1,h2,h3,h4,h5⟩,h⟩:=h
 refine ⟨rfl,⟨h1,h2⟩,rfl,⟨h3,h4⟩,⟨rfl,rfl⟩,fun z=>?_,fun _=>h⟩
 exact absurd (by simpa [cZ] using z) h5
def kI (ks:List Int):List Key:=ks.map .inl
def cq (ks:List Int):D:=.tup (ks.map .int)
theorem dP (ks:List Int):cq ks=keyD (kI ks):=by
 unfold keyD kI cq
 rw [List.map_map]
 rfl
theorem ie {a b:List Int} (h:kI a=kI b):a=b:=by
 unfold kI at h
 exact (List.map_inj_right (fun _ _ e=>Sum.inl.inj e)).mp h
theorem sI {a b:List Int}:(kI a=kI b)↔a=b:=⟨ie,fun e=>by rw [e]⟩
theorem jC (ks:List Int):dA (kI ks):=fun x hx=>by
 obtain ⟨i,_,rfl⟩:=List.mem_map.mp hx
 exact ⟨i,rfl⟩
def addG (k:List Int) (r:Row):List (List Int×List Row)->List (List Int×List Row)
 | []=>[(k,[r])]
 | p::t=>if p.1=k then (p.1,p.2++[r])::t else p::addG k r t
def grp (ps:List (List Int×Row)):List (List Int×List Row):=ps.foldl (fun g p=>addG p.1 p.2 g) []
theorem mJ (ps:List (List Int×Row)) (p:List Int×Row):grp (ps++[p])=addG p.1 p.2 (grp ps):=by
 unfold grp
 rw [List.foldl_append]
 rfl
def emb (g:List (List Int×List Row)):List (List Key×List D):=g.map fun p=>(kI p.1,p.2.map rowD)
def embV (g:List (List Int×List Row)):List (List Key×D):=g.map fun p=>(kI p.1,.lst (p.2.map rowD))
theorem vj (k:List Int) (r:Row):∀ g,kN (kI k) (rowD r) (emb g)=emb (addG k r g)
 | []=>rfl
 | p::t=>by
  show kN (kI k) (rowD r) ((kI p.1,p.2.map rowD)::emb t)=_
  unfold kN addG
  by_cases e:p.1=k
  ·rw [if_pos (show (kI p.1,p.2.map rowD).1=kI k by rw [e]),if_pos e]
   simp [emb]
  ·rw [if_neg (show ¬ (kI p.1,p.2.map rowD).1=kI k from fun z=>e (ie z)),if_neg e,vj k r t]
   rfl
theorem jD (k:List Int) (r:Row):∀ g:List (List Int×List Row),(addG k r g).map (·.1)=if k∈g.map (·.1) then g.map (·.1) else g.map (·.1)++[k]
 | []=>rfl
 | p::t=>by
  unfold addG
  by_cases e:p.1=k
  ·rw [if_pos e,if_pos (by simp [e])]
   rfl
  ·rw [if_neg e,List.map_cons,jD k r t]
   by_cases m:k∈t.map (·.1)
   ·rw [if_pos m,if_pos (by rw [List.map_cons]; exact List.mem_cons_of_mem _ m),List.map_cons]
   ·rw [if_neg m,if_neg (by rw [List.map_cons]; intro z; rcases List.mem_cons.mp z with z | z; exact e z.symm; exact m z),List.map_cons]
    rfl
structure GOk (C:List Int->Prop) (R:Row->Prop) (n:Nat) (g:List (List Int×List Row)):Prop where
 nd:(g.map (·.1)).Nodup
 it:∀ p∈g,C p.1 /\ p.2≠[] /\ p.2.length <= n /\ ∀ r∈p.2,R r
 len:g.length <= n
theorem GOk.add {C:List Int->Prop} {R:Row->Prop} {n:Nat} {g:List (List Int×List Row)} (h:GOk C R n g) {k:List Int} {r:Row} (hk:C k) (hr:R r):GOk C R (n + 1) (addG k r g):=by
 refine ⟨?_,?_,?_⟩
 ·rw [jD]
  split
  ·exact h.nd
  ·rename_i m
   refine List.nodup_append.mpr ⟨h.nd,by simp,fun a ha b hb e=>?_⟩
   rw [List.mem_singleton.mp hb] at e
   exact m (e ▸ ha)
 ·have key:∀ g:List (List Int×List Row),(∀ p∈g,C p.1 /\ p.2≠[] /\ p.2.length <= n /\ ∀ r∈p.2,R r)->∀ p∈addG k r g,C p.1 /\ p.2≠[] /\ p.2.length <= n + 1 /\ ∀ r∈p.2,R r:=by
   intro g
   induction g with
   | nil =>
    intro _ p hp
    rw [List.mem_singleton.mp hp]
    exact ⟨hk,by simp,by simp,fun x hx=>by rw [List.mem_singleton.mp hx]; exact hr⟩
   | cons q t ih =>
    intro h p hp
    unfold addG at hp
    split at hp
    ·rcases List.mem_cons.mp hp with rfl | hp
     ·have:=h q List.mem_cons_self
      refine ⟨this.1,by simp,by simp; exact this.2.2.1,fun x hx=>?_⟩
      rcases List.mem_append.mp hx with hx | hx
      ·exact this.2.2.2 x hx
      ·rw [List.mem_singleton.mp hx]; exact hr
     ·have:=h p (List.mem_cons_of_mem _ hp)
      exact ⟨this.1,this.2.1,Nat.le_succ_of_le this.2.2.1,this.2.2.2⟩
    ·rcases List.mem_cons.mp hp with rfl | hp
     ·have:=h p List.mem_cons_self
      exact ⟨this.1,this.2.1,Nat.le_succ_of_le this.2.2.1,this.2.2.2⟩
     ·exact ih (fun p hp=>h p (List.mem_cons_of_mem _ hp)) p hp
  exact key g h.it
 ·have:=congrArg List.length (jD k r g)
  rw [List.length_map] at this
  rw [this]
  split
  ·rw [List.length_map]; exact Nat.le_succ_of_le h.len
  ·rw [List.length_append,List.length_map]; simp; exact h.len
theorem vm {C:List Int->Prop} {R:Row->Prop}:∀ (ps:List (List Int×Row)),(∀ p∈ps,C p.1 /\ R p.2)->GOk C R ps.length (grp ps):=by
 intro ps
 generalize hn:ps.length=n
 induction n generalizing ps with
 | zero =>
  intro _
  have:ps=[]:=List.length_eq_zero_iff.mp hn
  subst this
  exact ⟨List.nodup_nil,fun p hp=>by simp [grp] at hp,Nat.zero_le _⟩
 | succ n ih =>
  intro h
  obtain ⟨qs,p,rfl⟩:∃ qs p,ps=qs++[p]:=⟨ps.dropLast,ps.getLast (by intro z; rw [z] at hn; simp at hn),(List.dropLast_concat_getLast _).symm⟩
  rw [mJ]
  have hp:=h p (by simp)
  exact (ih qs (by simp at hn; exact hn) fun q hq=>h q (by simp [hq])).add hp.1 hp.2
def bb (g:List (List Int×List Row)) (k:List Int):List Row:=((g.find? fun p=>decide (p.1=k)).map (·.2)).getD []
theorem mK {g:List (List Int×List Row)} {k:List Int} (h:k∈g.map (·.1)):∃ p∈g,p.1=k /\ bb g k=p.2 /\ fY (embV g) (kI k)=some (.lst (p.2.map rowD)):=by
 induction g with
 | nil=>simp at h
 | cons q t ih =>
  by_cases e:q.1=k
  ·refine ⟨q,List.mem_cons_self,e,?_,?_⟩
   ·unfold bb
    rw [List.find?_cons_of_pos (by simpa using e)]
    rfl
   ·unfold fY embV
    rw [List.map_cons,List.find?_cons_of_pos (by simpa [sI] using e)]
    rfl
  ·have h':k∈t.map (·.1):=by
    rw [List.map_cons] at h
    rcases List.mem_cons.mp h with h | h
    ·exact absurd h.symm e
    ·exact h
   obtain ⟨p,h1,h2,h3,h4⟩:=ih h'
   refine ⟨p,List.mem_cons_of_mem _ h1,h2,?_,?_⟩
   ·unfold bb at h3 ⊢
    rw [List.find?_cons_of_neg (by simpa using e)]
    exact h3
   ·unfold fY embV at h4 ⊢
    rw [List.map_cons,List.find?_cons_of_neg (by simpa [sI] using e)]
    exact h4
def dh (ks:List (List Int)):List (List Int):=if ks.length < 2 then ks else (kRun (fun i j=>lexI ((ks.map kI).getD i []) ((ks.map kI).getD j [])) (PySem.W.kas_sort ks.length)).toList.map fun i=>ks.getD i []
theorem ki (ks:List (List Int)) (i:Nat):(ks.map kI).getD i []=kI (ks.getD i []):=by
 rw [List.getD_eq_getElem?_getD,List.getD_eq_getElem?_getD,List.getElem?_map]
 cases ks[i]? <;> rfl
theorem mL (ks:List (List Int)):srtK (ks.map kI)=(dh ks).map kI:=by
 unfold srtK dh
 rw [List.length_map]
 split
 ·rfl
 ·rw [List.map_map]
  apply List.map_congr_left
  intro i _
  exact ki ks i
theorem bf (ks:List (List Int)):(dh ks).Perm ks:=by
 unfold dh
 split
 ·exact List.Perm.refl _
 ·exact kc (KGood.end _ _ (de (by omega)))
def bq (c:List Int×Row):D:=.tup [cq c.1,rowD c.2]
def bh (m:Nat) (ps:List (List Int×Row)):List (List Int×Row):=(dh ((grp ps).map (·.1))).map fun k=>(k,sums (bb (grp ps) k) m)
def fj (r:Row):Prop:=∃ c∈r,0 < c.1
theorem BL (ds:List D):fzOs (ds.map O.val)=ds:=by
 induction ds with
 | nil=>rfl
 | cons d r ih=>simp only [List.map_cons,fzOs,fzO,ih]
theorem Da (g:List (List Int×List Row)):fzO (dlO (emb g)) = .dT ((embV g).map (·.1)) ((embV g).map (·.2)):=by
 unfold dlO emb embV
 simp only [fzO]
 refine congr (congrArg D.dT ?_) ?_
 ·rw [List.map_map,List.map_map]
  rfl
 ·rw [lX,List.map_map,List.map_map,List.map_map]
  apply List.map_congr_left
  intro p _
  simp only [Function.comp,fzO,BL]
theorem qh {l:Nat} {ks:List (List Int)} (nd:ks.Nodup) (hl:∀ k∈ks,k.length=l) (h2:2 <= ks.length):∀ k∈ks,k≠[]:=by
 intro k hk z
 subst z
 have l0:l=0:=(hl [] hk).symm
 subst l0
 match ks,nd,hl,h2 with
 | a::b::r,nd,hl,_ =>
  have ha:a=[]:=List.length_eq_zero_iff.mp (hl a (by simp))
  have hb:b=[]:=List.length_eq_zero_iff.mp (hl b (by simp))
  subst ha hb
  simp at nd
 | [_],_,_,h2=>simp at h2
 | [],_,_,h2=>simp at h2
def ltI:List Int->List Int->Bool
 | [],[]=>false
 | [],_::_=>true
 | _::_,[]=>false
 | a::r,b::r'=>if a=b then ltI r r' else decide (a < b)
theorem kj:∀ a b:List Int,lexI (kI a) (kI b)=ltI a b
 | [],[]=>rfl
 | [],_::_=>rfl
 | _::_,[]=>rfl
 | a::r,b::r'=>by
  show (if a=b then lexI (kI r) (kI r') else decide (a < b))=if a=b then ltI r r' else decide (a < b)
  rw [kj r r']
theorem iL:∀ a:List Int,ltI a a=false
 | []=>rfl
 | a::r=>by
  show (if a=a then ltI r r else _)=_
  rw [if_pos rfl]
  exact iL r
theorem vn:∀ a b c:List Int,ltI a b=true->ltI b c=true->ltI a c=true
 | [],[],_,h,_=>by cases h
 | [],_::_,[],_,h=>by cases h
 | [],_::_,_::_,_,_=>rfl
 | _::_,[],_,h,_=>by cases h
 | _::_,_::_,[],_,h=>by cases h
 | a::r,b::s,c::t,h1,h2=>by
  unfold ltI at h1 h2 ⊢
  by_cases e1:a=b
  ·rw [if_pos e1] at h1
   subst e1
   by_cases e2:a=c
   ·rw [if_pos e2] at h2 ⊢
    exact vn r s t h1 h2
   ·rw [if_neg e2] at h2 ⊢
    exact h2
  ·rw [if_neg e1] at h1
   have h1:=of_decide_eq_true h1
   by_cases e2:b=c
   ·subst e2
    rw [if_neg e1]
    exact decide_eq_true h1
   ·rw [if_neg e2] at h2
    have h2:=of_decide_eq_true h2
    rw [if_neg (by omega)]
    exact decide_eq_true (by omega)
theorem ye {a b:List Int} (h:ltI a b=true):ltI b a=false:=by
 cases e:ltI b a with
 | false=>rfl
 | true =>
  have:=vn a b a h e
  rw [iL] at this
  cases this
theorem yf:∀ a b:List Int,a≠b->ltI a b=false->ltI b a=true
 | [],[],h,_=>absurd rfl h
 | [],_::_,_,h=>by cases h
 | _::_,[],_,_=>rfl
 | a::r,b::s,h,e=>by
  unfold ltI at e ⊢
  by_cases z:a=b
  ·subst z
   rw [if_pos rfl] at e ⊢
   exact yf r s (fun z=>h (by rw [z])) e
  ·rw [if_neg z] at e
   rw [if_neg (Ne.symm z)]
   have:=of_decide_eq_false e
   exact decide_eq_true (by omega)
theorem ig {ks:List (List Int)} (nd:ks.Nodup):(dh ks).Pairwise fun a b=>ltI a b=true:=by
 unfold dh
 by_cases h:ks.length < 2
 ·rw [if_pos h]
  match ks,h with
  | [],_=>exact .nil
  | [_],_=>exact List.pairwise_singleton _ _
 ·rw [if_neg h]
  have gd:∀ i,i < ks.length->ks[i]? = some (ks.getD i []):=fun i hi=>by simp [hi]
  have O:StrO ks.length (fun i j=>lexI ((ks.map kI).getD i []) ((ks.map kI).getD j [])):=by
   refine ⟨fun i j k _ _ _ h1 h2=>?_,fun i j _ _ h1=>?_,fun i j hi hj e h1=>?_⟩
   ·simp only [ki,kj] at *
    exact vn _ _ _ h1 h2
   ·simp only [ki,kj] at *
    exact ye h1
   ·simp only [ki,kj] at *
    refine yf _ _ (fun z=>e ?_) h1
    have e1:ks.getD i []=ks[i]:=by simp [hi]
    have e2:ks.getD j []=ks[j]:=by simp [hj]
    rw [e1,e2] at z
    exact (List.getElem_inj nd).mp z
  have pm:=KGood.end (fun i j=>lexI ((ks.map kI).getD i []) ((ks.map kI).getD j [])) _ (de (N:=ks.length) (by omega))
  have as:=qT O (by omega)
  have sz:=pm.size
  generalize kRun (fun i j=>lexI ((ks.map kI).getD i []) ((ks.map kI).getD j [])) (PySem.W.kas_sort ks.length)=p at pm as sz
  rw [List.pairwise_map,List.pairwise_iff_getElem]
  intro i j hi hj hij
  have:=as i j hij (by rw [Array.length_toList] at hj; omega)
  simp only [ki,kj] at this
  rw [Array.length_toList] at hi hj
  have e1:p.getD i 0=p[i]:=by simp [Array.getD,hi]
  have e2:p.getD j 0=p[j]:=by simp [Array.getD,hj]
  rw [e1,e2] at this
  simpa using this
theorem xb:∀ {xs ys:List (List Int)},xs.Pairwise (fun a b=>ltI a b=true)->ys.Pairwise (fun a b=>ltI a b=true)->(∀ k,k∈xs↔k∈ys)->xs=ys
 | [],[],_,_,_=>rfl
 | [],y::ys,_,_,h=>absurd ((h y).mpr List.mem_cons_self) (by simp)
 | x::xs,[],_,_,h=>absurd ((h x).mp List.mem_cons_self) (by simp)
 | x::xs,y::ys,hx,hy,h=>by
  obtain ⟨hx1,hx2⟩:=List.pairwise_cons.mp hx
  obtain ⟨hy1,hy2⟩:=List.pairwise_cons.mp hy
  have exy:x=y:=by
   rcases List.mem_cons.mp ((h x).mp List.mem_cons_self) with e | e
   ·exact e
   ·rcases List.mem_cons.mp ((h y).mpr List.mem_cons_self) with e' | e'
    ·exact e'.symm
    ·have a:=hy1 x e
     have b:=hx1 y e'
     rw [ye a] at b
     cases b
  subst exy
  have ni:∀ {zs:List (List Int)},(∀ z∈zs,ltI x z=true)->x∉zs:=fun hz m=>by
   have:=hz x m
   rw [iL] at this
   cases this
  rw [xb hx2 hy2 fun k=>⟨fun hk=>?_,fun hk=>?_⟩]
  ·rcases List.mem_cons.mp ((h k).mp (List.mem_cons_of_mem _ hk)) with rfl | e
   ·exact absurd hk (ni hx1)
   ·exact e
  ·rcases List.mem_cons.mp ((h k).mpr (List.mem_cons_of_mem _ hk)) with rfl | e
   ·exact absurd hk (ni hy1)
   ·exact e
theorem vo {xs ys:List (List Int)} (hx:xs.Nodup) (hy:ys.Nodup) (h:∀ k,k∈xs↔k∈ys):dh xs=dh ys :=
 xb (ig hx) (ig hy) fun k=>by rw [(bf xs).mem_iff,(bf ys).mem_iff]; exact h k
theorem vp (ps:List (List Int×Row)):((grp ps).map (·.1)).Nodup:=(vm (C:=fun _=>True) (R:=fun _=>True) ps fun _ _=>⟨trivial,trivial⟩).nd
theorem qZ (k:List Int) (r:Row) (k':List Int):∀ g:List (List Int×List Row),bb (addG k r g) k'=if k=k' then bb g k'++[r] else bb g k'
 | []=>by
  unfold addG bb
  by_cases e:k=k'
  ·rw [if_pos e,List.find?_cons_of_pos (by simpa using e)]
   rfl
  ·rw [if_neg e,List.find?_cons_of_neg (by simpa using e)]
 | p::t=>by
  have ih:=qZ k r k' t
  unfold addG
  unfold bb at ih ⊢
  by_cases e:p.1=k
  ·rw [if_pos e]
   by_cases e2:k=k'
   ·rw [if_pos e2,List.find?_cons_of_pos (by simp [e,e2]),List.find?_cons_of_pos (by simp [e,e2])]
    rfl
   ·rw [if_neg e2,List.find?_cons_of_neg (by simp [e,e2]),List.find?_cons_of_neg (by simp [e,e2])]
  ·rw [if_neg e]
   by_cases e2:p.1=k'
   ·rw [List.find?_cons_of_pos (by simpa using e2),List.find?_cons_of_pos (by simpa using e2),if_neg (fun z=>e (by rw [e2,z]))]
   ·rw [List.find?_cons_of_neg (by simpa using e2),List.find?_cons_of_neg (by simpa using e2)]
    exact ih
theorem iM (ps:List (List Int×Row)) (k:List Int):bb (grp ps) k=(ps.filter fun p=>decide (p.1=k)).map (·.2):=by
 have key:∀ (qs:List (List Int×Row)) g,bb (qs.foldl (fun g (p:List Int×Row)=>addG p.1 p.2 g) g) k=bb g k++(qs.filter fun p=>decide (p.1=k)).map (·.2):=by
  intro qs
  induction qs with
  | nil=>intro g; simp
  | cons q t ih =>
   intro g
   rw [List.foldl_cons,ih,qZ]
   by_cases e:q.1=k
   ·rw [if_pos e,List.filter_cons_of_pos (by simpa using e),List.map_cons,List.append_assoc]
    rfl
   ·rw [if_neg e,List.filter_cons_of_neg (by simpa using e)]
 rw [grp,key]
 rfl
theorem mM (ps:List (List Int×Row)) (k:List Int):k∈(grp ps).map (·.1)↔k∈ps.map (·.1):=by
 have key:∀ (qs:List (List Int×Row)) g,k∈(qs.foldl (fun g (p:List Int×Row)=>addG p.1 p.2 g) g).map (·.1)↔k∈g.map (·.1)∨k∈qs.map (·.1):=by
  intro qs
  induction qs with
  | nil=>intro g; simp
  | cons q t ih =>
   intro g
   rw [List.foldl_cons,ih,jD,List.map_cons,List.mem_cons]
   by_cases m:q.1∈g.map (·.1)
   ·rw [if_pos m]
    constructor
    ·rintro (h | h)
     ·exact .inl h
     ·exact .inr (.inr h)
    ·rintro (h | h | h)
     ·exact .inl h
     ·exact .inl (h ▸ m)
     ·exact .inr h
   ·rw [if_neg m,List.mem_append,List.mem_singleton]
    constructor
    ·rintro ((h | h) | h)
     ·exact .inl h
     ·exact .inr (.inl h)
     ·exact .inr (.inr h)
    ·rintro (h | h | h)
     ·exact .inl (.inl h)
     ·exact .inl (.inr h)
     ·exact .inr h
 rw [grp,key]
 simp
theorem sJ {m:Nat} {ps qs:List (List Int×Row)} (hk:∀ k,k∈ps.map (·.1)↔k∈qs.map (·.1)) (hs:∀ k∈ps.map (·.1),sums ((ps.filter fun p=>decide (p.1=k)).map (·.2)) m=sums ((qs.filter fun p=>decide (p.1=k)).map (·.2)) m):bh m ps=bh m qs:=by
 unfold bh
 rw [vo (vp ps) (vp qs) fun k=>by rw [mM,mM]; exact hk k]
 apply List.map_congr_left
 intro k h
 have h:k∈ps.map (·.1):=by
  rw [(bf _).mem_iff,mM] at h
  exact (hk k).mpr h
 rw [iM,iM,hs k h]
def dj (r:Row):Bool:=(r.map fun c=>decide (0 < c.1)).any id
theorem triedB_iff {r:Row}:dj r=true↔fj r:=by
 unfold dj fj
 rw [List.any_eq_true]
 constructor
 ·rintro ⟨b,hb,e⟩
  obtain ⟨c,hc,rfl⟩:=List.mem_map.mp hb
  exact ⟨c,hc,by simpa using e⟩
 ·rintro ⟨c,hc,hp⟩
  exact ⟨true,List.mem_map.mpr ⟨c,hc,by simpa using hp⟩,rfl⟩
def rf:DSp:=fun ds Q=>match ds with
 | [.tup xs]=>∃ r:Row,xs=r.map ax /\ r.length <= 1000 /\ Q (.bl (dj r))
 | _=>False
theorem sK:bG rf:=fun ds P P' f h=>by
 unfold rf at h ⊢
 split at h
 ·obtain ⟨r,a,b,h⟩:=h
  exact ⟨r,a,b,f _ h⟩
 ·exact h.elim
theorem sL (T:Tx K mg):FnOk P w K mg base CX0 1 T.iQ T.gy ["counts"] (spD K 1 rf):=by
 refine fnD (k:=0) T.eI.F qc (fun cdv A outer s H E hr=>(ah (aI (aq Bq rfl T.BZ PyProof.Rows.boot_any (aa (aF (PCD.pld (aw (N':=["count"]) rfl rfl (by decide +kernel) rfl (.own .nil) (by decide +kernel) (dG (ac 0 (pv 0))) (fun B=>(ai (i:=0) (show List.Nodup (α:=PySem.Str) ["count"] by decide +kernel) rfl (by first | exact Or.inl rfl | exact Or.inr rfl))) (fun B=>aD) (fun B=>(jb wu (ar (ac 0 (pv 0)) ag (fun _ _=>rfl)) ag (aJ _)))))) ad))))) (fun ds Q hl h=>?_)
 unfold rf at h
 split at h
 case h_2=>exact h.elim
 obtain ⟨r,rfl,hl,h⟩:=h
 refine aY (fun d=>match d with | .tup (.int t::_)=>.bl (decide (0 < t)) | _=>.non) (fun ρ=>∃ s,ρ=[s]) (by rw [List.length_map]; exact Nat.le_trans hl (by decide)) (fun d hd ρ Y Z hN hY=>?_) _ ⟨_,rfl⟩ ?_
 ·obtain ⟨s,rfl⟩:=hN
  obtain ⟨c,_,rfl⟩:=List.mem_map.mp hd
  exact Br.t (hY _ ⟨_,rfl⟩)
 ·have e:(r.map ax).map (fun d=>match d with | .tup (.int t::_)=>D.bl (decide (0 < t)) | _=>.non)=(r.map fun c=>decide (0 < c.1)).map D.bl:=by
   rw [List.map_map,List.map_map]
   rfl
  rw [e]
  exact mj h
def gath (n:Nat) (ps:List (List Int×Row)):List (List Int×Row):=(bh n ps).filter fun c=>dj c.2
def oM:DSpN:=fun ds _ L=>match ds with
 | [.int m,.lst xs]=>∃ (n:Nat) (ps:List (List Int×Row)) (l:Nat),m=n /\ xs=ps.map bq /\ (n <= 6 /\ ps.length <= 60 /\ ∀ p∈ps,p.1.length=l /\ RowN 110 n p.2) /\ L ((gath n ps).map bq)
 | _=>False
theorem km:ze oM:=fun ds P P' L L' f fl h=>by
 unfold oM at h ⊢
 split at h
 ·obtain ⟨n,ps,l,a,b,c,h⟩:=h
  exact ⟨n,ps,l,a,b,c,fl _ h⟩
 ·exact h.elim
theorem qi (T:Tx K mg):FnOk P w K mg base CX0 3 T.fW T.eU ["many","pairs"] (spDN K 2 oM):=by
 refine fnDN (k:=2) T.eC.F sc_gathered (fun cdv A outer s H E hr=>(fO (pO (i:=2) sc_gathered.nd rfl (by first | exact Or.inl rfl | exact Or.inr rfl))
   (zd (dF PassesOwn.never rfl (bn (ac 1 (pv 1))) (dY (n:=2) rfl (aE (ai (i:=3) sc_gathered.nd rfl (by first | exact Or.inl rfl | exact Or.inr rfl)) (aE (ai (i:=4) sc_gathered.nd rfl (by first | exact Or.inl rfl | exact Or.inr rfl)) ce))) (ah (BA hr (pv 2) (pv 3) (pv 4))))
   (fO (me (i:=5) sc_gathered.nd rfl rfl (aw (N':=["kinds","many","found"]) rfl rfl (by decide +kernel) rfl (.own (.cap (j:=0) rfl (by first | exact Or.inl rfl | exact Or.inr rfl) rfl (.cap (j:=2) rfl (by first | exact Or.inl rfl | exact Or.inr rfl) rfl .nil))) (by decide +kernel) (bn (aq mB rfl T.ix (by decide +kernel) (aa (ac 2 (pv 2)) ad))) (fun B=>(ai (i:=0) (show List.Nodup (α:=PySem.Str) ["kinds","many","found"] by decide +kernel) rfl (by first | exact Or.inl rfl | exact Or.inr rfl))) (fun B=>aD) (fun B=>(cu (aa (ac 0 (pv 0)) (aa (aj (dg T) df (hr.mono (by decide)) rfl T.aC.m T.aC.F.kp T.aC.b (aa (ac 1 (pv 1)) (aa (uC hr (ac 2 (pv 2)) (ac 0 (pv 0)) (fun _ _=>rfl)) ad))) ad))))))
   (ur (PCD.pld (aw (N':=["cell"]) rfl rfl (by decide +kernel) rfl (.own .nil) (by decide +kernel) (bn (ac 5 (pv 5))) (fun B=>(ai (i:=0) (show List.Nodup (α:=PySem.Str) ["cell"] by decide +kernel) rfl (by first | exact Or.inl rfl | exact Or.inr rfl))) (fun B=>(pH (bU (aj (sL T) sK (hr.mono (by decide)) rfl T.eI.m T.eI.F.kp T.eI.b (aa (ar (ac 0 (pv 0)) ag (fun _ _=>rfl)) ad))))) (fun B=>(ac 0 (pv 0)))))))))) (fun ds Q L hl h=>?_)
 unfold oM at h
 split at h
 case h_2=>exact h.elim
 obtain ⟨n,ps,l,rfl,rfl,⟨n6,p60,hps⟩,h⟩:=h
 have gok:∀ qs:List (List Int×Row),(∀ p∈qs,p∈ps)->GOk (fun k=>k.length=l) (fun r=>RowN 110 n r) qs.length (grp qs):=fun qs hq=>vm qs fun p hp=>hps p (hq p hp)
 refine ⟨fun ρ=>∃ a b:Sl,ρ=[.val (.int n),.val (.lst (ps.map bq)),.obj (dlO (emb (grp ps))),a,b,.nil],?_,?_⟩
 ·refine ff (fun pre ρ=>∃ p0 p1:List (List Int×Row),ps=p0++p1 /\ pre=p0.map bq /\ ∃ a b:Sl,ρ=[.val (.int n),.val (.lst (ps.map bq)),.obj (dlO (emb (grp p0))),a,b,.nil]) (fun ρ hN=>?_) (fun pre d post ρ X e hN hX=>?_) _ ⟨[],ps,rfl,rfl,_,_,rfl⟩
  ·obtain ⟨p0,p1,rfl,e,a,b,rfl⟩:=hN
   have:p1=[]:=by
    have:=congrArg List.length e
    simp at this
    exact this
   subst this
   rw [List.append_nil]
   exact ⟨a,b,rfl⟩
  ·obtain ⟨p0,p1,rfl,rfl,a,b,rfl⟩:=hN
   rw [List.map_append] at e
   have e:=List.append_cancel_left e
   cases p1 with
   | nil=>simp at e
   | cons p p1 =>
    rw [List.map_cons] at e
    injection e with e1 e2
    subst e1
    have go:=gok p0 fun q hq=>by simp [hq]
    have pl:p0.length <= 60:=by rw [List.length_append] at p60; omega
    refine ⟨rfl,emb (grp p0),kI p.1,rowD p.2,rfl,?_,rfl,?_,fun q hq=>?_,hX _ ⟨p0++[p],p1,by simp,by simp,_,_,by rw [vj,← mJ]; rfl⟩⟩
    ·show Sl.val (cq p.1)=_
     rw [dP]
    ·unfold emb
     rw [List.length_map]
     exact Nat.lt_of_le_of_lt (show (grp p0).length <= 60 from Nat.le_trans go.len pl) (by decide)
    ·obtain ⟨q',hq',rfl⟩:=List.mem_map.mp hq
     rw [List.length_map]
     exact Nat.lt_of_le_of_lt (show q'.2.length <= 60 from Nat.le_trans (go.it q' hq').2.2.1 pl) (by decide)
 ·rintro _ ⟨a,b,rfl⟩
  have go:=gok ps fun q hq=>hq
  have hk:(emb (grp ps)).map (·.1)=((grp ps).map (·.1)).map kI:=by unfold emb; rw [List.map_map,List.map_map]; rfl
  have kl:((grp ps).map (·.1)).length <= 60:=by rw [List.length_map]; exact Nat.le_trans go.len p60
  have kln:∀ k∈(grp ps).map (·.1),k.length=l:=fun k hk=>by
   obtain ⟨p,hp,rfl⟩:=List.mem_map.mp hk
   exact (go.it p hp).1
  have sl:(dh ((grp ps).map (·.1))).length <= 60:=by rw [(bf _).length_eq]; exact kl
  refine ⟨⟨fun k hk'=>?_,fun h2 k hk'=>?_,?_⟩,?_⟩
  ·rw [hk] at hk'
   obtain ⟨k',_,rfl⟩:=List.mem_map.mp hk'
   exact jC k'
  ·rw [hk] at h2 hk'
   rw [List.length_map] at h2
   obtain ⟨k',hk2,rfl⟩:=List.mem_map.mp hk'
   intro z
   exact qh go.nd kln h2 k' hk2 (ie (b:=[]) z)
  ·rw [hk,List.length_map]
   omega
  ·have e1:(srtK ((emb (grp ps)).map (·.1))).map keyD=(dh ((grp ps).map (·.1))).map cq:=by
    rw [hk,mL,List.map_map]
    apply List.map_congr_left
    intro k _
    exact (dP k).symm
   show bX _ _ _ ((srtK ((emb (grp ps)).map (·.1))).map keyD) _ _ _
   rw [e1]
   refine bH (fun pre acc ρ=>∃ k0 k1:List (List Int),dh ((grp ps).map (·.1))=k0++k1 /\ pre=k0.map cq /\ acc=(k0.map fun k=>(k,sums (bb (grp ps) k) n)).map bq /\ ∃ s:Sl,ρ=[s,.val (.int n),.val (fzO (dlO (emb (grp ps))))]) (fun acc ρ hN=>?_) (fun pre d post acc ρ Y e hN hY=>?_) _ ⟨[],_,rfl,rfl,rfl,_,rfl⟩
   ·obtain ⟨k0,k1,e,e2,rfl,s,rfl⟩:=hN
    have:k1=[]:=by
     have:=congrArg List.length e2
     rw [e] at this
     simp at this
     exact this
    subst this
    rw [List.append_nil] at e
    rw [← e]
    have epl:((dh ((grp ps).map (·.1))).map fun k=>(k,sums (bb (grp ps) k) n))=bh n ps:=rfl
    rw [epl]
    have pll:(bh n ps).length <= 60:=by unfold bh; rw [List.length_map]; exact sl
    refine bH (fun pre acc ρ=>∃ c0 c1:List (List Int×Row),bh n ps=c0++c1 /\ pre=c0.map bq /\ acc=(c0.filter fun c=>dj c.2).map bq /\ ∃ s:Sl,ρ=[s]) (fun acc ρ hN=>?_) (fun pre d post acc ρ Y e hN hY=>?_) _ ⟨[],_,rfl,rfl,rfl,_,rfl⟩
    ·obtain ⟨c0,c1,e3,e4,rfl,s,rfl⟩:=hN
     have:c1=[]:=by
      have:=congrArg List.length e4
      rw [e3] at this
      simp at this
      exact this
     subst this
     rw [List.append_nil] at e3
     rw [← e3]
     exact h
    ·obtain ⟨c0,c1,e3,rfl,rfl,s,rfl⟩:=hN
     rw [e3,List.map_append] at e
     have e:=List.append_cancel_left e
     cases c1 with
     | nil=>simp at e
     | cons c c1 =>
      rw [List.map_cons] at e
      injection e with e1 e2
      subst e1
      rw [e3,List.length_append] at pll
      have hc:c∈bh n ps:=by rw [e3]; simp
      have hcl:c.2.length <= 1000:=by
       obtain ⟨k,_,rfl⟩:=List.mem_map.mp hc
       show (sums _ n).length <= 1000
       unfold sums
       rw [List.length_map,List.length_range]
       omega
      refine ⟨rfl,c.2,rfl,hcl,?_⟩
      cases z:dj c.2 with
      | true =>
       refine Br.t ⟨?_,hY _ _ ⟨c0++[c],c1,by rw [e3]; simp,by simp,by rw [List.filter_append,List.filter_cons_of_pos (by simpa using z)]; simp,_,rfl⟩⟩
       rw [List.length_map]
       exact Nat.lt_of_le_of_lt (show _ <= 60 from Nat.le_trans (List.length_filter_le _ _) (by omega)) (by decide)
      | false=>exact Br.f (hY _ _ ⟨c0++[c],c1,by rw [e3]; simp,by simp,by rw [List.filter_append,List.filter_cons_of_neg (by simp [z])]; simp,_,rfl⟩)
   ·obtain ⟨k0,k1,e3,rfl,rfl,s,rfl⟩:=hN
    rw [e3,List.map_append] at e
    have e:=List.append_cancel_left e
    cases k1 with
    | nil=>simp at e
    | cons k k1 =>
     rw [List.map_cons] at e
     injection e with e1 e2
     subst e1
     have hk':k∈dh ((grp ps).map (·.1)):=by rw [e3]; simp
     obtain ⟨p,hp,_,h3,h4⟩:=mK ((bf _).mem_iff.mp hk')
     have gp:=go.it p hp
     rw [e3,List.length_append] at sl
     refine Br.t ⟨embV (grp ps),kI k,.lst (p.2.map rowD),Da _,dP k,h4,rfl,n,p.2,rfl,rfl,⟨n6,Nat.le_trans gp.2.2.1 (by omega),fun r hr=>(gp.2.2.2 r hr).up⟩,sz,?_,hY _ _ ⟨k0++[k],k1,by rw [e3]; simp,by simp,by rw [List.map_append,List.map_append,← h3]; rfl,_,rfl⟩⟩
     rw [List.length_map,List.length_map]
     exact Nat.lt_of_le_of_lt (show k0.length <= 60 by omega) (by decide)
def BM:DSp:=fun ds Q=>oM ds Q fun es=>Q (.lst es)
theorem sM:bG BM:=fun ds P P' f h=>km _ _ _ _ _ f (fun es q=>f _ q) h
theorem sN (T:Tx K mg):FnOk P w K mg base CX0 3 T.fW T.eU ["many","pairs"] (spD K 2 BM):=DL.FnOk.asD (qi T) (fun ds Q h=>h) km
structure Bk where
 m:Nat
 marks:List Int
 cells:List (List Int×Row)
def eO (b:Bk):D:=.tup [.int b.m,cq b.marks,.tup (b.cells.map bq)]
structure BkOk (b:Bk):Prop where
 m2:2 <= b.m
 m6:b.m <= 6
 mk5:b.marks.length <= 5
 c60:b.cells.length <= 60
 it:∀ c∈b.cells,c.1.length=b.marks.length /\ RowN 110 b.m c.2 /\ fj c.2
theorem mO {d:D} (h:shp d=true) {A B:Prop} (q:B):Br (!eqD d d) A B:=by
 rw [qJ h]
 exact Br.f q
theorem BN {d e:D} (h:d=e) (s:shp e=true) {A B:Prop} (q:B):Br (!eqD d e) A B:=by rw [h]; exact mO s q
theorem ii {α:Type} {g:DG} {te:DE} {l:List α} {Q:List D->Prop} (F G:α->D) (N:DS->Prop) (hl:l.length <= 1000)
  (hs:∀ i∈l,∀ (ρ:DS) (Y:D->DS->Prop) (Z:DS->Prop),N ρ->(∀ ρ',N (bW ρ')->Y (G i) ρ')->g (F i) ρ fun ρ1=>bp ρ1 fun b ρ2=>Br b (te ρ2 Y) (Z ρ2)) (ρ:DS) (h:N ρ) (hq:Q (l.map G)):bX g bp te (l.map F) [] ρ Q:=by
 refine bH (fun pre acc ρ=>acc=(l.take pre.length).map G /\ N ρ) (fun acc ρ hN=>by rw [hN.1,List.length_map,List.take_length]; exact hq) (fun pre d post acc ρ Y e hN hY=>?_) _ ⟨rfl,h⟩
 obtain ⟨rfl,hN⟩:=hN
 have hg:(l.map F)[pre.length]? = some d:=by
  rw [e,List.getElem?_append_right (Nat.le_refl _),Nat.sub_self]
  rfl
 have lt:pre.length < l.length:=by
  have:=(List.getElem?_eq_some_iff.mp hg).1
  simpa using this
 rw [List.getElem?_map,List.getElem?_eq_getElem lt] at hg
 have hg:F l[pre.length]=d:=by simpa using hg
 rw [← hg]
 have tk:l.take (pre.length + 1)=l.take pre.length++[l[pre.length]]:=(List.take_append_getElem lt).symm
 refine hs l[pre.length] (List.getElem_mem lt) ρ _ _ hN fun ρ' h'=>⟨?_,hY _ _ ⟨?_,h'⟩⟩
 ·rw [List.length_map,List.length_take]
  exact Nat.lt_of_le_of_lt (show min pre.length l.length <= 1000 by omega) (by decide)
 ·rw [List.length_append,List.length_singleton,tk,List.map_append]
  rfl
theorem xc {α:Type} {g:DG} {tc:DT} {te:DE} {l:List α} {Q:List D->Prop} (F G:α->D) (p:α->Bool) (N:DS->Prop) (hl:l.length <= 1000)
  (hs:∀ i∈l,∀ (ρ:DS) (Y:D->DS->Prop) (Z:DS->Prop),N ρ->(p i=true->∀ ρ',N (bW ρ')->Y (G i) ρ')->(p i=false->∀ ρ',N (bW ρ')->Z ρ')->g (F i) ρ fun ρ1=>tc ρ1 fun b ρ2=>Br b (te ρ2 Y) (Z ρ2)) (ρ:DS) (h:N ρ) (hq:Q ((l.filter p).map G)):bX g tc te (l.map F) [] ρ Q:=by
 refine bH (fun pre acc ρ=>acc=((l.take pre.length).filter p).map G /\ N ρ) (fun acc ρ hN=>by rw [hN.1,List.length_map,List.take_length]; exact hq) (fun pre d post acc ρ Y e hN hY=>?_) _ ⟨rfl,h⟩
 obtain ⟨rfl,hN⟩:=hN
 have hg:(l.map F)[pre.length]? = some d:=by
  rw [e,List.getElem?_append_right (Nat.le_refl _),Nat.sub_self]
  rfl
 have lt:pre.length < l.length:=by
  have:=(List.getElem?_eq_some_iff.mp hg).1
  simpa using this
 rw [List.getElem?_map,List.getElem?_eq_getElem lt] at hg
 have e1:F l[pre.length]=d:=by simpa using hg
 subst e1
 have e2:l.take (pre++[F l[pre.length]]).length=l.take pre.length++[l[pre.length]]:=by
  rw [List.length_append,List.length_singleton,List.take_succ_eq_append_getElem lt]
 have ll:(((l.take pre.length).filter p).map G).length <= 1000:=by
  rw [List.length_map]
  exact Nat.le_trans (List.length_filter_le _ _) (by rw [List.length_take]; omega)
 refine hs _ (List.getElem_mem lt) ρ _ _ hN (fun z ρ' hN'=>⟨Nat.lt_of_le_of_lt ll (by decide),hY _ _ ⟨?_,hN'⟩⟩) (fun z ρ' hN'=>hY _ _ ⟨?_,hN'⟩)
 ·rw [e2,List.filter_append,List.filter_cons_of_pos z,List.map_append]
  rfl
 ·rw [e2,List.filter_append,List.filter_cons_of_neg (by rw [z]; exact Bool.false_ne_true)]
  simp
def vq:DSp:=fun ds Q=>match ds with
 | [.tup [.int t,.int w]]=>Q (.int (t - w))
 | _=>False
theorem fk:bG vq:=fun ds P P' f h=>by
 unfold vq at h ⊢
 split at h
 ·exact f _ h
 ·exact h.elim
theorem fq (T:Tx K mg):FnOk P w K mg base CX0 1 T.kG T.iO ["count"] (spD K 1 vq):=by
 refine fnD (k:=0) T.aL.F sD (fun cdv A outer s H E hr=>(ah (aI (bS gb (ar (ac 0 (pv 0)) ag (fun _ _=>rfl)) (ar (ac 0 (pv 0)) ag (fun _ _=>rfl)))))) (fun ds Q hl h=>?_)
 unfold vq at h
 split at h
 case h_2=>exact h.elim
 exact h
def gCo:DSp:=fun ds Q=>match ds with
 | [.lst xs,.lst ys]=>∃ ws is:List Int,xs=ws.map D.int /\ ys=is.map D.int /\ ws.length=is.length /\ ws.length <= 100 /\ Q (.lst ((List.zipWith (fun w i=>(w + i,w)) ws is).map ax))
 | _=>False
theorem gv:bG gCo:=fun ds P P' f h=>by
 unfold gCo at h ⊢
 split at h
 ·obtain ⟨a,b,c,d,e,g,h⟩:=h
  exact ⟨a,b,c,d,e,g,f _ h⟩
 ·exact h.elim
theorem rm:∀ (ws is:List Int),zipD (ws.map D.int) (is.map D.int)=(List.zip ws is).map fun p=>.tup [.int p.1,.int p.2]
 | [],_=>by simp [zipD]
 | _::_,[]=>by simp [zipD]
 | w::ws,i::is=>by simp [zipD,rm ws is]
def qj:D->D
 | .tup [.int w,.int i]=>.tup [.int (w + i),.int w]
 | d=>d
theorem yg:∀ (ws is:List Int),(zipD (ws.map D.int) (is.map D.int)).map qj=(List.zipWith (fun w i=>(w + i,w)) ws is).map ax
 | [],_=>by simp [zipD]
 | _::_,[]=>by simp [zipD]
 | w::ws,i::is=>by simp [zipD,yg ws is,qj,ax]
theorem gw (T:Tx K mg):FnOk P w K mg base CX0 1 T.gA T.fG ["wells","ills"] (spD K 2 gCo):=by
 refine fnD (k:=0) T.aT.F oH (fun cdv A outer s H E hr=>(ah (aI (aF (PCD.pld (aw (N':=["well","ill"]) rfl rfl (by decide +kernel) rfl (.own (.own .nil)) (by decide +kernel) (pR rfl T.vQ (aa (ac 0 (pv 0)) (aa (ac 1 (pv 1)) ad))) (fun B=>(dY (n:=2) rfl (aE (ai (i:=0) (show List.Nodup (α:=PySem.Str) ["well","ill"] by decide +kernel) rfl (by first | exact Or.inl rfl | exact Or.inr rfl)) (aE (ai (i:=1) (show List.Nodup (α:=PySem.Str) ["well","ill"] by decide +kernel) rfl (by first | exact Or.inl rfl | exact Or.inr rfl)) ce)))) (fun B=>aD) (fun B=>(cu (aa (bS ga (ac 0 (pv 0)) (ac 1 (pv 1))) (aa (ac 0 (pv 0)) ad)))))))))) (fun ds Q hl h=>?_)
 unfold gCo at h
 split at h
 case h_2=>exact h.elim
 obtain ⟨ws,is,rfl,rfl,e,l,h⟩:=h
 have hz:=rm ws is
 refine ⟨_,_,rfl,rfl,aY qj (fun ρ=>∃ a b:Sl,ρ=[a,b]) (by rw [eK,List.length_map,List.length_map]; exact Nat.le_trans (Nat.le_trans (Nat.min_le_left _ _) l) (by decide)) (fun d hd ρ Y Z hN hY=>?_) _ ⟨_,_,rfl⟩ ?_⟩
 ·obtain ⟨a,b,rfl⟩:=hN
  rw [hz] at hd
  obtain ⟨⟨w,i⟩,_,rfl⟩:=List.mem_map.mp hd
  exact ⟨rfl,Br.t ⟨sz,hY _ ⟨_,_,rfl⟩⟩⟩
 ·rw [yg]
  exact h
def gAt:DSp:=fun ds Q=>match ds with
 | [.int p,.int n,.int m]=>(0 <= m /\ m <= 100) /\ Q (.lst (((List.range m.toNat).map fun j:Nat=>if (j:Int)=p then n else 0).map D.int))
 | _=>False
theorem rn:bG gAt:=fun ds P P' f h=>by
 unfold gAt at h ⊢
 split at h
 ·exact ⟨h.1,f _ h.2⟩
 ·exact h.elim
def atPl (p n:Int):D->D
 | .int j=>.int (if j=p then n else 0)
 | d=>d
theorem rp (T:Tx K mg):FnOk P w K mg base CX0 1 T.mV T.kD ["place","number","many"] (spD K 3 gAt):=by
 refine fnD (k:=0) T.dI.F vg (fun cdv A outer s H E hr=>(ah (aI (aF (PCD.pld (aw (N':=["part","place","number"]) rfl rfl (by decide +kernel) rfl (.own (.cap (j:=0) rfl (by first | exact Or.inl rfl | exact Or.inr rfl) rfl (.cap (j:=1) rfl (by first | exact Or.inl rfl | exact Or.inr rfl) rfl .nil))) (by decide +kernel) (bu rfl T.cH (aa (ac 2 (pv 2)) ad)) (fun B=>(ai (i:=0) (show List.Nodup (α:=PySem.Str) ["part","place","number"] by decide +kernel) rfl (by first | exact Or.inl rfl | exact Or.inr rfl))) (fun B=>aD) (fun B=>(wo (aV (iD hr) (ac 0 (pv 0)) (ac 1 (pv 1)) (aJ _)) (ac 2 (pv 2)) ag)))))))) (fun ds Q hl h=>?_)
 unfold gAt at h
 split at h
 case h_2=>exact h.elim
 rename_i p n m
 obtain ⟨⟨m0,m1⟩,h⟩:=h
 refine ⟨⟨by omega,by omega⟩,?_⟩
 show bX _ _ _ (fe 0 m.toNat) _ _ _
 rw [aR]
 refine aY (atPl p n) (fun ρ=>∃ a:Sl,ρ=[a,.val (.int p),.val (.int n)]) (by rw [List.length_map,List.length_range]; exact Nat.le_trans (show m.toNat <= 100 by omega) (by decide)) (fun d hd ρ Y Z hN hY=>?_) _ ⟨_,rfl⟩ ?_
 ·obtain ⟨a,rfl⟩:=hN
  obtain ⟨j,_,rfl⟩:=List.mem_map.mp hd
  refine Br.t ⟨⟨rfl,rfl⟩,fun c=>?_,fun c=>?_⟩
  ·have c:(0 + (j:Int))=p:=by simpa [cZ] using c
   have e:atPl p n (.int (0 + (j:Int))) = .int n:=by show D.int (if 0 + (j:Int)=p then n else 0)=_; rw [if_pos c]
   rw [e] at hY
   exact hY _ ⟨_,rfl⟩
  ·have c:¬ (0 + (j:Int))=p:=by simpa [cZ] using c
   have e:atPl p n (.int (0 + (j:Int))) = .int 0:=by show D.int (if 0 + (j:Int)=p then n else 0)=_; rw [if_neg c]
   rw [e] at hY
   exact hY _ ⟨_,rfl⟩
 ·have e:((List.range m.toNat).map fun i:Nat=>D.int (0 + (i:Int))).map (atPl p n)=((List.range m.toNat).map fun j:Nat=>if (j:Int)=p then n else 0).map D.int:=by
   rw [List.map_map,List.map_map]
   apply List.map_congr_left
   intro j _
   show D.int (if 0 + (j:Int)=p then n else 0)=_
   rw [Int.zero_add]
   rfl
  rw [e]
  exact h
def gSpr:DSp:=fun ds Q=>match ds with
 | [.int n,.int m]=>(1 <= m /\ m <= 100) /\ Q (.lst (((n - (m - 1))::List.replicate (m - 1).toNat 1).map D.int))
 | _=>False
theorem rq:bG gSpr:=fun ds P P' f h=>by
 unfold gSpr at h ⊢
 split at h
 ·exact ⟨h.1,f _ h.2⟩
 ·exact h.elim
theorem rA (T:Tx K mg):FnOk P w K mg base CX0 1 T.mW T.kC ["number","many"] (spD K 2 gSpr):=by
 refine fnD (k:=0) T.dL.F vh (fun cdv A outer s H E hr=>(ah (aI (aF (xO (aF (fc (aa (bS gb (ac 0 (pv 0)) (bS gb (ac 1 (pv 1)) ag)) ad))) (aF (xP (aF (fc (aa ag ad))) (bS gb (ac 1 (pv 1)) ag)))))))) (fun ds Q hl h=>?_)
 unfold gSpr at h
 split at h
 case h_2=>exact h.elim
 rename_i n m
 obtain ⟨⟨m0,m1⟩,h⟩:=h
 refine ⟨sz,sz,⟨⟨by omega,by omega⟩,?_⟩,?_,?_⟩
 ·exact Nat.le_trans (m:=100) (by simp; omega) (by decide)
 ·exact Nat.le_trans (m:=101) (by simp; omega) (by decide)
 ·have e:[D.int (n - (m - 1))]++(List.replicate (m - 1).toNat [D.int 1]).flatten=((n - (m - 1))::List.replicate (m - 1).toNat 1).map D.int:=by simp
  show Q (.lst ([D.int (n - (m - 1))]++(List.replicate (m - 1).toNat [D.int 1]).flatten))
  rw [e]
  exact h
abbrev Prt:=(Int×Int)×(Int×Int)
def qk (r:Prt):D:=.tup [ax r.1,ax r.2]
structure Good (r:Prt):Prop where
 a0:0 <= r.1.2
 a1:r.1.2 <= r.1.1
 b0:0 <= r.2.2
 b1:r.2.2 <= r.2.1
 a2:1 <= r.1.1
 b2:1 <= r.2.1
 less:r.1.2 * r.2.1 < r.2.2 * r.1.1
structure Parts (m:Int) (c d:Int×Int) (rows:List Prt):Prop where
 len:rows.length=m.toNat
 good:∀ r∈rows,Good r
 s1:(rows.map fun r=>r.1.1).sum=c.1
 s2:(rows.map fun r=>r.1.2).sum=c.2
 s3:(rows.map fun r=>r.2.1).sum=d.1
 s4:(rows.map fun r=>r.2.2).sum=d.2
abbrev rB (p n m:Int):List Int:=(List.range m.toNat).map fun j:Nat=>if (j:Int)=p then n else 0
abbrev sprA (n m:Int):List Int:=(n - (m - 1))::List.replicate (m - 1).toNat 1
abbrev xf (ws is:List Int):List (Int×Int):=List.zipWith (fun w i=>(w + i,w)) ws is
theorem oN:∀ (xs ys:List (Int×Int)),zipD (xs.map ax) (ys.map ax)=(List.zip xs ys).map qk
 | [],_=>by simp [zipD]
 | _::_,[]=>by simp [zipD]
 | x::xs,y::ys=>by simp [zipD,oN xs ys,qk]
theorem Db {a i b:Int} (ha:0 <= a) (hi:1 <= i) (hb:1 <= b):Good ((a + i,a),(b + 0,b)):=by
 refine ⟨ha,by show a <= a + i; omega,by show 0 <= b; omega,by show b <= b + 0; omega,by show 1 <= a + i; omega,by show 1 <= b + 0; omega,?_⟩
 show a * (b + 0) < b * (a + i)
 rw [Int.add_zero,Int.mul_add,Int.mul_comm b a]
 have:0 < b * i:=Int.mul_pos (by omega) (by omega)
 omega
theorem BO {b i:Int} (hb:1 <= b) (hi:0 <= i):Good ((0 + 1,0),(b + i,b)):=by
 refine ⟨Int.le_refl 0,by show (0:Int) <= 0 + 1; decide,by show 0 <= b; omega,by show b <= b + i; omega,by show (1:Int) <= 0 + 1; decide,by show 1 <= b + i; omega,?_⟩
 show 0 * (b + i) < b * (0 + 1)
 omega
theorem xg {t w t' w' m:Int} (m2:2 <= m) (m8:m <= 8) (w0:0 <= w) (w1:w <= t) (w0':0 <= w') (w1':w' <= t') (hi:m <= t - w) (hw:m <= w'):Parts m (t,w) (t',w') (List.zip (xf (rB 0 w m) (sprA (t - w) m)) (xf (sprA w' m) (rB 1 (t' - w') m))):=by
 have g0:Good ((w + (t - w - (m - 1)),w),(w' - (m - 1) + 0,w' - (m - 1))):=Db w0 (by omega) (by omega)
 have g1:Good ((0 + 1,0),(1 + (t' - w'),1)):=BO (by decide) (by omega)
 have g2:Good ((0 + 1,0),(1 + 0,1)):=BO (by decide) (by decide)
 have hm:m=2∨m=3∨m=4∨m=5∨m=6∨m=7∨m=8:=by omega
 rcases hm with rfl | rfl | rfl | rfl | rfl | rfl | rfl
 all_goals
  refine ⟨rfl,fun r hr=>?_,?_,?_,?_,?_⟩
  ·simp [xf,rB,sprA,List.range_succ,List.replicate] at hr g0 g1 g2
   rcases hr with hr | hr <;> first | (subst hr; simpa using g0) | skip
   all_goals first | (subst hr; simpa using g1) | skip
   all_goals (rcases hr with hr | hr <;> (subst hr; first | simpa using g1 | simpa using g2))
  all_goals (simp [xf,rB,sprA,List.range_succ,List.replicate]; try omega)
def kq:DSpN:=fun ds Q L=>match ds with
 | [.tup [.int t,.int w],.tup [.int t',.int w'],.int m]=>(2 <= m /\ m <= 8) /\ (0 <= w /\ w <= t /\ 0 <= w' /\ w' <= t') /\ ((t - w < m∨w' < m)->Q .non) /\ (¬ (t - w < m∨w' < m)->∀ rows,Parts m (t,w) (t',w') rows->L (rows.map qk))
 | _=>False
theorem vt:ze kq:=fun ds P P' L L' f fl h=>by
 unfold kq at h ⊢
 split at h
 ·exact ⟨h.1,h.2.1,fun z=>f _ (h.2.2.1 z),fun z r o=>fl _ (h.2.2.2 z r o)⟩
 ·exact h.elim
theorem vv (T:Tx K mg):FnOk P w K mg base CX0 3 T.jF T.ir ["one","other","many"] (spDN K 3 kq):=by
 refine fnDN (k:=2) T.im.F sc_parted (fun cdv A outer s H E hr=>(fO (cz (cI (bU (aj (gu T) gt (hr.mono (by decide)) rfl T.aS.m T.aS.F.kp T.aS.b (aa (ac 2 (pv 2)) (aa (jy rfl T.gf) (aa (jy rfl T.io) ad)))))) (ah gS) aP)
   (fO (cz (PWD.pt (eZ (aV se (aj (fq T) fk (hr.mono (by decide)) rfl T.aL.m T.aL.F.kp T.aL.b (aa (ac 0 (pv 0)) ad)) (ac 2 (pv 2)) (aJ _)) (eY (aV se (ar (ac 1 (pv 1)) ag (fun _ _=>rfl)) (ac 2 (pv 2)) (aJ _))))) (ah (aI nM)) aP)
   (fO (aX (i:=3) sc_parted.nd rfl (by first | exact Or.inl rfl | exact Or.inr rfl) (aj (gw T) gv (hr.mono (by decide)) rfl T.aT.m T.aT.F.kp T.aT.b (aa (aj (rp T) rn (hr.mono (by decide)) rfl T.dI.m T.dI.F.kp T.dI.b (aa ag (aa (ar (ac 0 (pv 0)) ag (fun _ _=>rfl)) (aa (ac 2 (pv 2)) ad)))) (aa (aj (rA T) rq (hr.mono (by decide)) rfl T.dL.m T.dL.F.kp T.dL.b (aa (aj (fq T) fk (hr.mono (by decide)) rfl T.aL.m T.aL.F.kp T.aL.b (aa (ac 0 (pv 0)) ad)) (aa (ac 2 (pv 2)) ad))) ad))))
   (fO (aX (i:=4) sc_parted.nd rfl (by first | exact Or.inl rfl | exact Or.inr rfl) (aj (gw T) gv (hr.mono (by decide)) rfl T.aT.m T.aT.F.kp T.aT.b (aa (aj (rA T) rq (hr.mono (by decide)) rfl T.dL.m T.dL.F.kp T.dL.b (aa (ar (ac 1 (pv 1)) ag (fun _ _=>rfl)) (aa (ac 2 (pv 2)) ad))) (aa (aj (rp T) rn (hr.mono (by decide)) rfl T.dI.m T.dI.F.kp T.dI.b (aa ag (aa (aj (fq T) fk (hr.mono (by decide)) rfl T.aL.m T.aL.F.kp T.aL.b (aa (ac 1 (pv 1)) ad)) (aa (ac 2 (pv 2)) ad)))) ad))))
   (ur (vf rfl rfl T.rP rfl T.vQ (aa (ac 3 (pv 3)) (aa (ac 4 (pv 4)) ad))))))))) (fun ds Q L hl h=>?_)
 unfold kq at h
 split at h
 case h_2=>exact h.elim
 rename_i t w t' w' m
 obtain ⟨⟨m2,m8⟩,⟨w0,w1,w0',w1'⟩,hq,hL⟩:=h
 refine ⟨rfl,⟨m2,m8⟩,Br.f ⟨rfl,fun c=>Br.t ?_,fun c=>⟨fun c'=>?_,fun c'=>?_⟩⟩⟩
 ·exact hq (.inl (by simpa using c))
 ·exact hq (.inr (by simpa using c'))
 ·have c:¬ t - w < m:=by simpa using c
  have c':¬ w' < m:=by simpa using c'
  refine ⟨rfl,⟨by omega,by omega⟩,rfl,rfl,⟨by omega,by omega⟩,rfl,_,_,rfl,rfl,by simp; omega,by simp; omega,?_⟩
  refine ⟨rfl,⟨by omega,by omega⟩,rfl,rfl,⟨by omega,by omega⟩,rfl,_,_,rfl,rfl,by simp; omega,by simp; omega,?_⟩
  show L (zipD _ _)
  rw [oN]
  exact hL (by omega) _ (xg m2 m8 w0 w1 w0' w1' (by omega) (by omega))
def jE:DSp:=fun ds Q=>match ds with
 | [.tup [.int t,.int w],.tup [.int t',.int w'],.int m]=>(2 <= m /\ m <= 8) /\ (0 <= w /\ w <= t /\ 0 <= w' /\ w' <= t') /\ ((t - w < m∨w' < m)->Q .non) /\ (¬ (t - w < m∨w' < m)->∀ rows,Parts m (t,w) (t',w') rows->Q (.lst (rows.map qk)))
 | _=>False
theorem xh:bG jE:=fun ds P P' f h=>by
 unfold jE at h ⊢
 split at h
 ·exact ⟨h.1,h.2.1,fun z=>f _ (h.2.2.1 z),fun z r o=>f _ (h.2.2.2 z r o)⟩
 ·exact h.elim
theorem xj (T:Tx K mg):FnOk P w K mg base CX0 3 T.jF T.ir ["one","other","many"] (spD K 3 jE):=DL.FnOk.asD (vv T) (fun ds Q h=>by
 unfold jE at h
 unfold kq
 split at h
 ·exact h
 ·exact h.elim) vt
theorem zF {k:Nat} {ws:List Int} {ρ:DS} {Q:D->DS->Prop} (h:slot ρ k = .val (.lst (ws.map D.int))) (q:Q (.int ws.sum) ρ):dCB gSum (qE (dVar k) wt) ρ Q:=by
 show AS k ρ _ (slot ρ k)
 rw [h]
 exact gl (P:=fun d=>Q d ρ) q
def gFil:DSp:=fun ds Q=>∃ (x:Int) (rs:List Int),ds=[.int x,.lst (rs.map D.int)] /\ 0 <= x /\ (∀ r∈rs,0 <= r) /\ rs.length <= 100 /\ ∀ ts:List Int,ts.length=rs.length->(∀ t∈ts,0 <= t /\ t <= x)->(∀ (i:Nat) (t r:Int),ts[i]? = some t->rs[i]? = some r->t <= r)->(x <= rs.sum->ts.sum=x)->Q (.lst (ts.map D.int))
theorem xk:bG gFil:=fun ds P P' f ⟨x,rs,a,b,c,d,h⟩=>⟨x,rs,a,b,c,d,fun ts e g k z=>f _ (h ts e g k z)⟩
theorem xo (T:Tx K mg):FnOk P w K mg base CX0 1 T.mT T.kA ["number","rooms"] (spD K 2 gFil):=by
 refine fnD (k:=0) T.iu.F sc_filled (fun cdv A outer s H E hr=>(al (nP (i:=2) sc_filled.nd rfl (by first | exact Or.inl rfl | exact Or.inr rfl) (fc ad))
   (ba (dF PassesOwn.never rfl (bn (ac 1 (pv 1))) (ai (i:=3) sc_filled.nd rfl (by first | exact Or.inl rfl | exact Or.inr rfl)) (ah (qG (pv 2) (aq Bm rfl T.Ca PyProof.Rows.boot_min (aa (ac 3 (pv 3)) (aa (bS gb (ac 0 (pv 0)) (zf 2 (aq lr rfl T.qw PyProof.Rows.boot_sum (aa (ac 2 (pv 2)) ad)))) ad))))))
   (ah (aI (ac 2 (pv 2))))))) (fun ds Q hl h=>?_)
 obtain ⟨x,rs,rfl,x0,r0,rl,h⟩:=h
 refine ⟨sz,fun ρ=>∃ (ts:List Int) (s:Sl),ts.length=rs.length /\ (∀ t∈ts,0 <= t /\ t <= x) /\ (∀ (i:Nat) (t r:Int),ts[i]? = some t->rs[i]? = some r->t <= r) /\ (x <= rs.sum->ts.sum=x) /\ ρ=[.val (.int x),.val (.lst (rs.map D.int)),.own (ts.map D.int),s],?_,?_⟩
 ·refine ff (fun pre ρ=>∃ (q0 q1 ts:List Int) (s:Sl),rs=q0++q1 /\ pre=q0.map D.int /\ ts.length=q0.length /\ (∀ t∈ts,0 <= t /\ t <= x) /\ (0 <= ts.sum /\ ts.sum <= x /\ (ts.sum=x∨ts.sum=q0.sum)) /\ (∀ (i:Nat) (t r:Int),ts[i]? = some t->q0[i]? = some r->t <= r) /\ ρ=[.val (.int x),.val (.lst (rs.map D.int)),.own (ts.map D.int),s]) (fun ρ hN=>?_) (fun pre d post ρ X e hN hX=>?_) _ ⟨[],rs,[],_,rfl,rfl,rfl,fun t ht=>by simp at ht,⟨by simp,by simpa using x0,.inr rfl⟩,fun i t r ht=>by simp at ht,rfl⟩
  ·obtain ⟨q0,q1,ts,s,e1,e2,tl,tb,⟨s0,s1,s2⟩,tr,rfl⟩:=hN
   have:q1=[]:=by
    have:=congrArg List.length e2
    rw [e1] at this
    simp at this
    exact this
   subst this
   rw [List.append_nil] at e1
   subst e1
   exact ⟨ts,s,tl,tb,tr,fun z=>by omega,rfl⟩
  ·obtain ⟨q0,q1,ts,s,e1,rfl,tl,tb,⟨s0,s1,s2⟩,tr,rfl⟩:=hN
   rw [e1,List.map_append] at e
   have e:=List.append_cancel_left e
   cases q1 with
   | nil=>simp at e
   | cons r q1 =>
    rw [List.map_cons] at e
    injection e with e3 e4
    subst e3
    have r0':=r0 r (by rw [e1]; simp)
    have ll:ts.length <= 100:=by rw [e1,List.length_append] at rl; omega
    refine ⟨trivial,ts.map D.int,rfl,rfl,zF (ws:=ts) rfl ⟨⟨trivial,rfl⟩,?_⟩⟩
    obtain ⟨m,hm,m0,mr,mx,m3⟩:∃ m:Int,(if x - ts.sum < r then x - ts.sum else r)=m /\ 0 <= m /\ m <= r /\ m <= x - ts.sum /\ (m=x - ts.sum∨m=r):=⟨_,rfl,by split <;> omega,by split <;> omega,by split <;> omega,by split <;> omega⟩
    have key:(ts.map D.int).length < sizeLine /\ X [.val (.int x),.val (.lst (rs.map D.int)),.own (ts.map D.int++[.int m]),.val (.int r)]:=by
     refine ⟨by rw [List.length_map]; exact Nat.lt_of_le_of_lt ll (by decide),hX _ ⟨q0++[r],q1,ts++[m],_,by rw [e1]; simp,by simp,by simp [tl],fun t ht=>?_,⟨?_,?_,?_⟩,fun i t r' ht hr'=>?_,by rw [List.map_append]; rfl⟩⟩
     ·rcases List.mem_append.mp ht with ht | ht
      ·exact tb t ht
      ·rw [List.mem_singleton.mp ht]; omega
     ·rw [List.sum_append]; simp; omega
     ·rw [List.sum_append]; simp; omega
     ·rw [List.sum_append,List.sum_append]; simp; omega
     ·by_cases z:i < ts.length
      ·rw [List.getElem?_append_left z] at ht
       rw [List.getElem?_append_left (by omega)] at hr'
       exact tr i t r' ht hr'
      ·rw [List.getElem?_append_right (by omega)] at ht hr'
       have z2:i - ts.length=0:=by
        have:=(List.getElem?_eq_some_iff.mp ht).1
        simp at this
        omega
       rw [z2] at ht
       rw [← tl,z2] at hr'
       simp at ht hr'
       omega
    rw [← hm] at key
    exact key
 ·rintro _ ⟨ts,s,tl,tb,tr,ts2,rfl⟩
  exact h ts tl tb tr ts2
def lsD (ts:List Int):D:=.lst (ts.map D.int)
theorem kr:∀ {l ts:List Int},l.length=ts.length->(List.zipWith (· - ·) l ts).sum=l.sum - ts.sum
 | [],[],_=>rfl
 | a::l,b::ts,h=>by
  have:=kr (l:=l) (ts:=ts) (by simpa using h)
  rw [List.zipWith_cons_cons,List.sum_cons,List.sum_cons,List.sum_cons,this]
  omega
theorem rC:∀ {l:List Int},(∀ r∈l,0 <= r)->l.sum=0->∀ r∈l,r=0
 | [],_,_,r,hr=>by simp at hr
 | a::l,h,s,r,hr=>by
  have h0:=h a List.mem_cons_self
  have hl:∀ r∈l,0 <= r:=fun r hr=>h r (List.mem_cons_of_mem _ hr)
  have ls:0 <= l.sum:=by
   clear s hr
   induction l with
   | nil=>simp
   | cons b l ih =>
    have:=ih (fun r hr=>h r (by rcases List.mem_cons.mp hr with rfl | hr; exact List.mem_cons_self; exact List.mem_cons_of_mem _ (List.mem_cons_of_mem _ hr))) fun r hr=>hl r (List.mem_cons_of_mem _ hr)
    have:=hl b List.mem_cons_self
    rw [List.sum_cons]
    omega
  rw [List.sum_cons] at s
  rcases List.mem_cons.mp hr with rfl | hr
  ·omega
  ·exact rC hl (by omega) r hr
structure PouL (ns rs:List Int) (tss:List (List Int)) (l:List Int):Prop where
 len:tss.length=ns.length
 it:∀ (i:Nat) (ts:List Int) (n:Int),tss[i]? = some ts->ns[i]? = some n->ts.length=rs.length /\ (∀ t∈ts,0 <= t /\ t <= n) /\ ts.sum=n
 ll:l.length=rs.length
 l0:∀ r∈l,0 <= r
 cl:∀ (k:Nat) (r:Int),rs[k]? = some r->(tss.map fun ts=>ts.getD k 0).sum + l.getD k 0=r
 sm:ns.sum + l.sum=rs.sum
theorem PouL.snoc {ns rs l ts:List Int} {n:Int} {tss:List (List Int)} (h:PouL ns rs tss l) (tl:ts.length=l.length) (tb:∀ t∈ts,0 <= t /\ t <= n) (tr:∀ (i:Nat) (t r:Int),ts[i]? = some t->l[i]? = some r->t <= r) (tsum:ts.sum=n):PouL (ns++[n]) rs (tss++[ts]) (List.zipWith (· - ·) l ts):=by
 have pl:=h.len
 have ll:=h.ll
 refine ⟨by simp [pl],fun i ts' n' ht' hn'=>?_,by rw [List.length_zipWith]; omega,fun r hr=>?_,fun k r hk=>?_,?_⟩
 ·by_cases z:i < tss.length
  ·rw [List.getElem?_append_left z] at ht'
   rw [List.getElem?_append_left (by omega)] at hn'
   exact h.it i ts' n' ht' hn'
  ·rw [List.getElem?_append_right (by omega)] at ht' hn'
   have z2:i - tss.length=0:=by
    have:=(List.getElem?_eq_some_iff.mp ht').1
    simp at this
    omega
   rw [z2] at ht'
   rw [← pl,z2] at hn'
   simp at ht' hn'
   subst ht' hn'
   exact ⟨by omega,tb,tsum⟩
 ·obtain ⟨k,hk⟩:=List.mem_iff_getElem?.mp hr
  rw [List.getElem?_zipWith] at hk
  cases ea:l[k]? with
  | none=>rw [ea] at hk; cases hk
  | some a =>
   cases eb:ts[k]? with
   | none=>rw [ea,eb] at hk; cases hk
   | some b =>
    rw [ea,eb] at hk
    have hk:a - b=r:=by simpa using hk
    have:=tr k b a eb ea
    omega
 ·have:=h.cl k r hk
  have kl:k < rs.length:=(List.getElem?_eq_some_iff.mp hk).1
  rw [List.map_append,List.sum_append,List.getD_eq_getElem?_getD,List.getElem?_zipWith,List.getElem?_eq_getElem (show k < l.length by omega),List.getElem?_eq_getElem (show k < ts.length by omega)]
  rw [List.getD_eq_getElem?_getD,List.getElem?_eq_getElem (show k < l.length by omega)] at this
  simp [List.getElem?_eq_getElem (show k < ts.length by omega)] at this ⊢
  omega
 ·have:=h.sm
  rw [kr (by omega),List.sum_append]
  simp
  omega
structure PouF (n l:Nat) (ns rs:Nat->Int) (F:Nat->Nat->Int):Prop where
 lo:∀ i < n,∀ k < l,0 <= F i k /\ F i k <= ns i
 row:∀ i < n,((List.range l).map (F i)).sum=ns i
 col:∀ k < l,((List.range n).map fun i=>F i k).sum=rs k
def pouD (n l:Nat) (F:Nat->Nat->Int):D:=.lst ((List.range n).map fun i=>lsD ((List.range l).map (F i)))
theorem ij {α:Type} (d:α) (l:List α):(List.range l.length).map (fun i=>l.getD i d)=l:=by
 apply List.ext_getElem
 ·simp
 ·intro i h1 h2
  simp [h2]
theorem PouL.f {ns rs l:List Int} {tss:List (List Int)} (h:PouL ns rs tss l) (e:ns.sum=rs.sum):∃ F,PouF ns.length rs.length (fun i=>ns.getD i 0) (fun k=>rs.getD k 0) F /\ D.lst (tss.map lsD)=pouD ns.length rs.length F:=by
 have tl:=h.len
 have z0:∀ r∈l,r=0:=rC h.l0 (by have:=h.sm; omega)
 have it:∀ i,(hi:i < ns.length)->(tss.getD i []).length=rs.length /\ (∀ t∈tss.getD i [],0 <= t /\ t <= ns.getD i 0) /\ (tss.getD i []).sum=ns.getD i 0:=fun i hi=>by
  have h1:tss[i]? = some (tss.getD i []):=by rw [List.getD_eq_getElem?_getD,List.getElem?_eq_getElem (by omega)]; rfl
  have h2:ns[i]? = some (ns.getD i 0):=by rw [List.getD_eq_getElem?_getD,List.getElem?_eq_getElem hi]; rfl
  exact h.it i _ _ h1 h2
 have er:∀ i,i < ns.length->(List.range rs.length).map (fun k=>(tss.getD i []).getD k 0)=tss.getD i []:=fun i hi=>by
  have:=ij 0 (tss.getD i [])
  rw [(it i hi).1] at this
  exact this
 refine ⟨fun i k=>(tss.getD i []).getD k 0,⟨fun i hi k hk=>?_,fun i hi=>?_,fun k hk=>?_⟩,?_⟩
 ·have:=(it i hi).2.1 ((tss.getD i []).getD k 0) (by
   have hk':k < (tss.getD i []).length:=by rw [(it i hi).1]; exact hk
   rw [List.getD_eq_getElem?_getD (i:=k),List.getElem?_eq_getElem hk']
   exact List.getElem_mem hk')
  exact this
 ·rw [er i hi]
  exact (it i hi).2.2
 ·have h2:rs[k]? = some (rs.getD k 0):=by rw [List.getD_eq_getElem?_getD,List.getElem?_eq_getElem hk]; rfl
  have h3:=h.cl k _ h2
  have hkl:k < l.length:=by rw [h.ll]; exact hk
  have h4:l.getD k 0=0:=by
   rw [List.getD_eq_getElem?_getD,List.getElem?_eq_getElem hkl]
   exact z0 _ (List.getElem_mem hkl)
  have h5:(List.range ns.length).map (fun i=>(tss.getD i []).getD k 0)=tss.map fun ts=>ts.getD k 0:=by
   have:=congrArg (List.map fun ts:List Int=>ts.getD k 0) (ij [] tss)
   rw [List.map_map,tl] at this
   exact this
  rw [h5]
  omega
 ·unfold pouD
  have h6:(List.range ns.length).map (fun i=>lsD ((List.range rs.length).map fun k=>(tss.getD i []).getD k 0))=(List.range ns.length).map fun i=>lsD (tss.getD i []):=by
   apply List.map_congr_left
   intro i hi
   rw [er i (List.mem_range.mp hi)]
  rw [h6]
  have:=congrArg (List.map lsD) (ij [] tss)
  rw [List.map_map,tl] at this
  rw [← this]
  rfl
def gPou:DSp:=fun ds Q=>∃ (ns rs:List Int),ds=[.lst (ns.map D.int),.lst (rs.map D.int)] /\ ((∀ n∈ns,0 <= n) /\ (∀ r∈rs,0 <= r) /\ ns.length <= 100 /\ rs.length <= 100 /\ ns.sum=rs.sum) /\ ∀ F,PouF ns.length rs.length (fun i=>ns.getD i 0) (fun k=>rs.getD k 0) F->Q (pouD ns.length rs.length F)
theorem rD:bG gPou:=fun ds P P' f ⟨ns,rs,a,b,h⟩=>⟨ns,rs,a,b,fun F o=>f _ (h F o)⟩
theorem vw {l ts:List Int} (el:l.length=ts.length) (hl:l.length <= 100) {x y:Sl} {Q:List D->Prop} (q:Q ((List.zipWith (· - ·) l ts).map D.int)) :
  bX (ue 2 (gT (cc 0) (gT (cc 1) ud))) bp (dOp (g2I0 fun i j=>.int (i - j)) (dVar 0) (dVar 1)) (zipD (l.map D.int) (ts.map D.int)) [] [x,y] Q:=by
 have ez:zipD (l.map D.int) (ts.map D.int)=(l.zip ts).map fun p=>D.tup [.int p.1,.int p.2]:=by
  clear hl q el
  induction l generalizing ts with
  | nil=>simp [zipD]
  | cons a l ih =>
   cases ts with
   | nil=>simp [zipD]
   | cons b ts=>simp [zipD,ih]
 rw [ez]
 refine ii (fun p:Int×Int=>D.tup [.int p.1,.int p.2]) (fun p=>D.int (p.1 - p.2)) (fun ρ=>∃ a b,ρ=[a,b]) (by rw [List.length_zip]; omega) (fun p hp ρ Y Z hN hY=>?_) _ ⟨_,_,rfl⟩ ?_
 ·obtain ⟨a,b,rfl⟩:=hN
  exact ⟨rfl,Br.t (hY _ ⟨_,_,rfl⟩)⟩
 ·have:(l.zip ts).map (fun p=>D.int (p.1 - p.2))=(List.zipWith (· - ·) l ts).map D.int:=by
   rw [List.zip,List.map_zipWith,List.map_zipWith]
  rw [this]
  exact q
theorem rE (T:Tx K mg):FnOk P w K mg base CX0 2 T.mY T.kE ["numbers","rooms"] (spD K 2 gPou):=by
 refine fnD (k:=1) T.dJ.F sc_poured (fun cdv A outer s H E hr=>(al (aX (i:=2) sc_poured.nd rfl (by first | exact Or.inl rfl | exact Or.inr rfl) (aF (ui rfl T.rP rfl (ac 1 (pv 1)))))
   (al (nP (i:=3) sc_poured.nd rfl (by first | exact Or.inl rfl | exact Or.inr rfl) (fc ad))
   (ba (dF PassesOwn.never rfl (bn (ac 0 (pv 0))) (ai (i:=4) sc_poured.nd rfl (by first | exact Or.inl rfl | exact Or.inr rfl)) (al (aX (i:=5) sc_poured.nd rfl (by first | exact Or.inl rfl | exact Or.inr rfl) (aj (xo T) xk (hr.mono (by decide)) rfl T.iu.m T.iu.F.kp T.iu.b (aa (ac 4 (pv 4)) (aa (ac 2 (pv 2)) ad))))
   (al (qG (pv 3) (ac 5 (pv 5)))
   (ah (me (i:=2) sc_poured.nd rfl rfl (aw (N':=["room","part"]) rfl rfl (by decide +kernel) rfl (.own (.own .nil)) (by decide +kernel) (pR rfl T.vQ (aa (ac 2 (pv 2)) (aa (ac 5 (pv 5)) ad))) (fun B=>(dY (n:=2) rfl (aE (ai (i:=0) (show List.Nodup (α:=PySem.Str) ["room","part"] by decide +kernel) rfl (by first | exact Or.inl rfl | exact Or.inr rfl)) (aE (ai (i:=1) (show List.Nodup (α:=PySem.Str) ["room","part"] by decide +kernel) rfl (by first | exact Or.inl rfl | exact Or.inr rfl)) ce)))) (fun B=>aD) (fun B=>(bS gb (ac 0 (pv 0)) (ac 1 (pv 1))))))))))
   (ah (aI (ac 3 (pv 3)))))))) (fun ds Q hl h=>?_)
 obtain ⟨ns,rs,rfl,⟨n0,r0,nl,rl,es⟩,h⟩:=h
 refine ⟨sz,fun ρ=>∃ (tss:List (List Int)) (l:List Int) (a b c:Sl),PouL ns rs tss l /\ ρ=[.val (.lst (ns.map D.int)),.val (.lst (rs.map D.int)),a,.own (tss.map lsD),b,c],?_,?_⟩
 ·refine ff (fun pre ρ=>∃ (q0 q1 l:List Int) (tss:List (List Int)) (a b:Sl),ns=q0++q1 /\ pre=q0.map D.int /\ PouL q0 rs tss l /\ ρ=[.val (.lst (ns.map D.int)),.val (.lst (rs.map D.int)),.val (.lst (l.map D.int)),.own (tss.map lsD),a,b]) (fun ρ hN=>?_) (fun pre d post ρ X e hN hX=>?_) _ ⟨[],ns,rs,[],_,_,rfl,rfl,⟨rfl,fun i ts n ht=>by simp at ht,rfl,r0,fun k r hk=>by simp [hk],by simp⟩,rfl⟩
  ·obtain ⟨q0,q1,l,tss,a,b,e1,e2,po,rfl⟩:=hN
   have:q1=[]:=by
    have:=congrArg List.length e2
    rw [e1] at this
    simp at this
    exact this
   subst this
   rw [List.append_nil] at e1
   subst e1
   exact ⟨tss,l,_,_,_,po,rfl⟩
  ·obtain ⟨q0,q1,l,tss,a,b,e1,rfl,po,rfl⟩:=hN
   rw [e1,List.map_append] at e
   have e:=List.append_cancel_left e
   cases q1 with
   | nil=>simp at e
   | cons n q1 =>
    rw [List.map_cons] at e
    injection e with e3 e4
    subst e3
    have hn:=n0 n (by rw [e1]; simp)
    have pl:=po.len
    have ll:=po.ll
    have l100:q0.length <= 100:=by rw [e1,List.length_append] at nl; omega
    have nle:n <= l.sum:=by
     have h1:=po.sm
     have h2:0 <= q1.sum:=by
      have:∀ l:List Int,(∀ r∈l,0 <= r)->0 <= l.sum:=fun l hl=>by
       induction l with
       | nil=>simp
       | cons b l ih =>
        have:=ih fun r hr=>hl r (List.mem_cons_of_mem _ hr)
        have:=hl b List.mem_cons_self
        rw [List.sum_cons]
        omega
      exact this q1 fun r hr=>n0 r (by rw [e1]; simp [hr])
     have h3:ns.sum=q0.sum + (n + q1.sum):=by rw [e1,List.sum_append,List.sum_cons]
     omega
    refine ⟨rfl,n,l,rfl,hn,po.l0,by omega,fun ts tl tb tr tsum=>⟨trivial,?_,?_⟩⟩
    ·rw [List.length_map]
     exact Nat.lt_of_le_of_lt (show tss.length <= 100 by omega) (by decide)
    refine ⟨l.map D.int,ts.map D.int,rfl,rfl,vw (by omega) (by omega) (hX _ ⟨q0++[n],q1,List.zipWith (· - ·) l ts,tss++[ts],_,_,by rw [e1]; simp,by simp,po.snoc tl tb tr (tsum nle),by rw [List.map_append]; rfl⟩)⟩
 ·rintro _ ⟨tss,l,a,b,c,po,rfl⟩
  obtain ⟨F,f1,f2⟩:=po.f es
  have:=h F f1
  rw [← f2] at this
  exact this
def csD (cs:List (Int×Int)):D:=.lst (cs.map ax)
def entS (F G:Nat->Nat->Int) (i k:Nat):Int×Int:=(F i k + G i k,F i k)
def splD (n l:Nat) (F G:Nat->Nat->Int):D:=.lst ((List.range n).map fun i=>csD ((List.range l).map (entS F G i)))
structure SplF (cs ps:List (Int×Int)) (F G:Nat->Nat->Int):Prop where
 w:PouF cs.length ps.length (fun i=>(cs.getD i (0,0)).2) (fun k=>(ps.getD k (0,0)).2) F
 i:PouF cs.length ps.length (fun i=>(cs.getD i (0,0)).1 - (cs.getD i (0,0)).2) (fun k=>(ps.getD k (0,0)).1 - (ps.getD k (0,0)).2) G
def gSpl:DSp:=fun ds Q=>∃ (cs ps:List (Int×Int)),ds=[csD cs,csD ps] /\ ((∀ c∈cs,0 <= c.2 /\ c.2 <= c.1) /\ (∀ c∈ps,0 <= c.2 /\ c.2 <= c.1) /\ cs.length <= 100 /\ ps.length <= 100 /\ (cs.map (·.2)).sum=(ps.map (·.2)).sum /\ (cs.map fun c=>c.1 - c.2).sum=(ps.map fun c=>c.1 - c.2).sum) /\ ∀ F G,SplF cs ps F G->Q (splD cs.length ps.length F G)
theorem vx:bG gSpl:=fun ds P P' f ⟨cs,ps,a,b,h⟩=>⟨cs,ps,a,b,fun F G o=>f _ (h F G o)⟩
theorem oO {cs:List (Int×Int)} (hl:cs.length <= 100) {s:Sl} {Q:List D->Prop} (q:Q ((cs.map fun c=>c.1 - c.2).map D.int)):bX (cc 0) bp (yU 1 vq (qE (dVar 0) wt)) (cs.map ax) [] [s] Q:=by
 refine aY (fun d=>match d with | .tup [.int t,.int v]=>.int (t - v) | _=>.non) (fun ρ=>∃ s,ρ=[s]) (by rw [List.length_map]; exact Nat.le_trans hl (by decide)) (fun d hd ρ Y Z hN hY=>?_) _ ⟨_,rfl⟩ ?_
 ·obtain ⟨s,rfl⟩:=hN
  obtain ⟨c,_,rfl⟩:=List.mem_map.mp hd
  exact Br.t ⟨rfl,hY _ ⟨_,rfl⟩⟩
 ·rw [List.map_map] at q ⊢
  exact q
theorem ik {α:Type} (f:α->Int) (d:α) (hd:f d=0) (l:List α) (i:Nat):(l.map f).getD i 0=f (l.getD i d):=by
 rw [List.getD_eq_getElem?_getD,List.getD_eq_getElem?_getD,List.getElem?_map]
 cases l[i]? with
 | none=>exact hd.symm
 | some a=>rfl
theorem BP (F G:Nat->Nat->Int) (i l:Nat):List.zipWith (fun w i=>(w + i,w)) ((List.range l).map (F i)) ((List.range l).map (G i))=(List.range l).map (entS F G i):=by
 apply List.ext_getElem
 ·simp
 ·intro k h1 h2
  simp [entS]
theorem vy (T:Tx K mg):FnOk P w K mg base CX0 3 T.qv T.mX ["counts","parts"] (spD K 2 gSpl):=by
 refine fnD (k:=2) T.fE.F sc_split (fun cdv A outer s H E hr=>(al (aX (i:=2) sc_split.nd rfl (by first | exact Or.inl rfl | exact Or.inr rfl) (aj (rE T) rD (hr.mono (by decide)) rfl T.dJ.m T.dJ.F.kp T.dJ.b (aa (aF (PCD.pld (aw (N':=["count"]) rfl rfl (by decide +kernel) rfl (.own .nil) (by decide +kernel) (bn (ac 0 (pv 0))) (fun B=>(ai (i:=0) (show List.Nodup (α:=PySem.Str) ["count"] by decide +kernel) rfl (by first | exact Or.inl rfl | exact Or.inr rfl))) (fun B=>aD) (fun B=>(ar (ac 0 (pv 0)) ag (fun _ _=>rfl)))))) (aa (aF (PCD.pld (aw (N':=["part"]) rfl rfl (by decide +kernel) rfl (.own .nil) (by decide +kernel) (bn (ac 1 (pv 1))) (fun B=>(ai (i:=0) (show List.Nodup (α:=PySem.Str) ["part"] by decide +kernel) rfl (by first | exact Or.inl rfl | exact Or.inr rfl))) (fun B=>aD) (fun B=>(ar (ac 0 (pv 0)) ag (fun _ _=>rfl)))))) ad))))
   (al (aX (i:=3) sc_split.nd rfl (by first | exact Or.inl rfl | exact Or.inr rfl) (aj (rE T) rD (hr.mono (by decide)) rfl T.dJ.m T.dJ.F.kp T.dJ.b (aa (aF (PCD.pld (aw (N':=["count"]) rfl rfl (by decide +kernel) rfl (.own .nil) (by decide +kernel) (bn (ac 0 (pv 0))) (fun B=>(ai (i:=0) (show List.Nodup (α:=PySem.Str) ["count"] by decide +kernel) rfl (by first | exact Or.inl rfl | exact Or.inr rfl))) (fun B=>aD) (fun B=>(aj (fq T) fk (hr.mono (by decide)) rfl T.aL.m T.aL.F.kp T.aL.b (aa (ac 0 (pv 0)) ad)))))) (aa (aF (PCD.pld (aw (N':=["part"]) rfl rfl (by decide +kernel) rfl (.own .nil) (by decide +kernel) (bn (ac 1 (pv 1))) (fun B=>(ai (i:=0) (show List.Nodup (α:=PySem.Str) ["part"] by decide +kernel) rfl (by first | exact Or.inl rfl | exact Or.inr rfl))) (fun B=>aD) (fun B=>(aj (fq T) fk (hr.mono (by decide)) rfl T.aL.m T.aL.F.kp T.aL.b (aa (ac 0 (pv 0)) ad)))))) ad))))
   (ah (aI (aF (PCD.pld (aw (N':=["place","wells","ills"]) rfl rfl (by decide +kernel) rfl (.own (.cap (j:=2) rfl (by first | exact Or.inl rfl | exact Or.inr rfl) rfl (.cap (j:=3) rfl (by first | exact Or.inl rfl | exact Or.inr rfl) rfl .nil))) (by decide +kernel) (bu rfl T.cH (aa (aq gU rfl T.iR PySem.boot_len (aa (ac 0 (pv 0)) ad)) ad)) (fun B=>(ai (i:=0) (show List.Nodup (α:=PySem.Str) ["place","wells","ills"] by decide +kernel) rfl (by first | exact Or.inl rfl | exact Or.inr rfl))) (fun B=>aD) (fun B=>(aj (gw T) gv (hr.mono (by decide)) rfl T.aT.m T.aT.F.kp T.aT.b (aa (ar (ac 1 (pv 1)) (ac 0 (pv 0)) (fun _ _=>rfl)) (aa (ar (ac 2 (pv 2)) (ac 0 (pv 0)) (fun _ _=>rfl)) ad)))))))))))) (fun ds Q hl h=>?_)
 obtain ⟨cs,ps,rfl,⟨c0,p0,cl,pl,sw,si⟩,h⟩:=h
 refine zE (Nat.le_trans cl (by decide)) (zE (Nat.le_trans pl (by decide)) ⟨rfl,cs.map (·.2),ps.map (·.2),rfl,⟨?_,?_,by rw [List.length_map]; exact cl,by rw [List.length_map]; exact pl,sw⟩,fun F fo=>?_⟩)
 ·intro n hn
  obtain ⟨c,hc,rfl⟩:=List.mem_map.mp hn
  exact (c0 c hc).1
 ·intro n hn
  obtain ⟨c,hc,rfl⟩:=List.mem_map.mp hn
  exact (p0 c hc).1
 refine oO cl (oO pl ⟨rfl,cs.map (fun c=>c.1 - c.2),ps.map (fun c=>c.1 - c.2),rfl,⟨?_,?_,by rw [List.length_map]; exact cl,by rw [List.length_map]; exact pl,si⟩,fun G go=>?_⟩)
 ·intro n hn
  obtain ⟨c,hc,rfl⟩:=List.mem_map.mp hn
  have:=c0 c hc
  omega
 ·intro n hn
  obtain ⟨c,hc,rfl⟩:=List.mem_map.mp hn
  have:=p0 c hc
  omega
 simp only [List.length_map] at fo go ⊢
 have e1:(fun i=>(cs.map (·.2)).getD i 0)=fun i=>(cs.getD i (0,0)).2:=funext fun i=>ik (·.2) (0,0) rfl cs i
 have e2:(fun k=>(ps.map (·.2)).getD k 0)=fun k=>(ps.getD k (0,0)).2:=funext fun i=>ik (·.2) (0,0) rfl ps i
 have e3:(fun i=>(cs.map fun c=>c.1 - c.2).getD i 0)=fun i=>(cs.getD i (0,0)).1 - (cs.getD i (0,0)).2:=funext fun i=>ik (fun c:Int×Int=>c.1 - c.2) (0,0) rfl cs i
 have e4:(fun k=>(ps.map fun c=>c.1 - c.2).getD k 0)=fun k=>(ps.getD k (0,0)).1 - (ps.getD k (0,0)).2:=funext fun i=>ik (fun c:Int×Int=>c.1 - c.2) (0,0) rfl ps i
 rw [e1,e2] at fo
 rw [e3,e4] at go
 have sp:SplF cs ps F G:=⟨fo,go⟩
 have el:((cs.map ax).length:Int)=cs.length:=by rw [List.length_map]
 refine ⟨⟨by omega,by omega⟩,?_⟩
 show bX _ _ _ (fe 0 (((cs.map ax).length:Nat):Int).toNat) _ _ _
 rw [show ((cs.map ax).length:Int).toNat=cs.length by omega,aR]
 refine ii (fun (i:Nat)=>D.int (0 + (i:Int))) (fun i=>csD ((List.range ps.length).map (entS F G i))) (fun ρ=>∃ s,ρ=[s,.val (pouD cs.length ps.length F),.val (pouD cs.length ps.length G)]) (by rw [List.length_range]; omega) (fun i hi ρ Y Z hN hY=>?_) _ ⟨_,rfl⟩ (h F G sp)
 obtain ⟨s,rfl⟩:=hN
 have hi:=List.mem_range.mp hi
 have g:∀ F:Nat->Nat->Int,((List.range cs.length).map fun i=>lsD ((List.range ps.length).map (F i)))[(0 + (i:Int)).toNat]? = some (lsD ((List.range ps.length).map (F i))):=fun F=>by
  rw [show (0 + (i:Int)).toNat=i by omega,List.getElem?_map,List.getElem?_range hi]
  rfl
 have hY':=hY [.val (.int (0 + (i:Int))),.val (pouD cs.length ps.length F),.val (pouD cs.length ps.length G)] ⟨_,rfl⟩
 rw [← BP] at hY'
 exact Br.t (jc (by omega) (g F) (jc (by omega) (g G) ⟨rfl,(List.range ps.length).map (F i),(List.range ps.length).map (G i),rfl,rfl,by rw [List.length_map,List.length_map],by rw [List.length_map,List.length_range]; omega,hY'⟩))
def yh:DSp:=fun ds Q=>∃ b:Bk,ds=[eO b] /\ BkOk b /\ Q (rowD (sums (b.cells.map (·.2)) b.m))
theorem sO:bG yh:=fun ds P P' f ⟨b,a,c,h⟩=>⟨b,a,c,f _ h⟩
theorem sP (T:Tx K mg):FnOk P w K mg base CX0 3 T.iS T.gx ["book"] (spD K 1 yh):=by
 refine fnD (k:=2) T.eD.F qd (fun cdv A outer s H E hr=>(ah (aI (aj (dg T) df (hr.mono (by decide)) rfl T.aC.m T.aC.F.kp T.aC.b (aa (ar (ac 0 (pv 0)) ag (fun _ _=>rfl)) (aa (aF (PCD.pld (aw (N':=["cell"]) rfl rfl (by decide +kernel) rfl (.own .nil) (by decide +kernel) (dG (ar (ac 0 (pv 0)) ag (fun _ _=>rfl))) (fun B=>(ai (i:=0) (show List.Nodup (α:=PySem.Str) ["cell"] by decide +kernel) rfl (by first | exact Or.inl rfl | exact Or.inr rfl))) (fun B=>aD) (fun B=>(ar (ac 0 (pv 0)) ag (fun _ _=>rfl)))))) ad)))))) (fun ds Q hl h=>?_)
 obtain ⟨b,rfl,bo,h⟩:=h
 refine aY (fun d=>match d with | .tup [_,x]=>x | _=>.non) (fun ρ=>∃ s,ρ=[s]) ?_ (fun d hd ρ Y Z hN hY=>?_) _ ⟨_,rfl⟩ ?_
 ·rw [List.length_map]
  exact Nat.le_trans bo.c60 (by decide)
 ·obtain ⟨s,rfl⟩:=hN
  obtain ⟨c,_,rfl⟩:=List.mem_map.mp hd
  exact Br.t (hY _ ⟨_,rfl⟩)
 ·have e:(b.cells.map bq).map (fun d=>match d with | .tup [_,x]=>x | _=>.non)=(b.cells.map (·.2)).map rowD:=by
   rw [List.map_map,List.map_map]
   rfl
  have fin:gTbh [.int b.m,.lst ((b.cells.map bq).map (fun d=>match d with | .tup [_,x]=>x | _=>.non))] Q:=by
   rw [e]
   refine ⟨b.m,_,rfl,rfl,⟨bo.m6,by rw [List.length_map]; exact Nat.le_trans bo.c60 (by decide),fun r hr=>?_⟩,h⟩
   obtain ⟨c,hc,rfl⟩:=List.mem_map.mp hr
   exact (bo.it c hc).2.1.up
  exact ⟨rfl,fin⟩
theorem vz {b:Bk} (bo:BkOk b) {a:Int} (a0:0 <= a) (a1:a < b.m) {s:Sl} {Q:List D->Prop} (q:Q ((b.cells.map fun c=>at_ c.2 a.toNat).map ax)) :
  bX (cc 0) bp (dOp gIx (dOp gIx (dVar 0) (dC (.int 1))) (dVar 1)) (b.cells.map bq) [] [s,.val (.int a)] Q:=by
 refine aY (fun d=>match d with | .tup [_,.tup r]=>r.getD a.toNat .non | _=>.non) (fun ρ=>∃ s,ρ=[s,.val (.int a)]) (by rw [List.length_map]; exact Nat.le_trans bo.c60 (by decide)) (fun d hd ρ Y Z hN hY=>?_) _ ⟨_,rfl⟩ ?_
 ·obtain ⟨s,rfl⟩:=hN
  obtain ⟨c,hc,rfl⟩:=List.mem_map.mp hd
  have ro:=(bo.it c hc).2.1
  have e:(c.2.map ax).getD a.toNat .non=ax (at_ c.2 a.toNat):=by
   rw [List.getD_eq_getElem?_getD,List.getElem?_map,(gc ro (h:=a.toNat) (by omega)).1]
   rfl
  refine Br.t (qY ro a0 a1 ?_)
  have hY':=hY [.val (bq c),.val (.int a)] ⟨_,rfl⟩
  have hY':Y ((c.2.map ax).getD a.toNat .non) [.val (bq c),.val (.int a)]:=hY'
  rw [e] at hY'
  exact hY'
 ·have e:(b.cells.map bq).map (fun d=>match d with | .tup [_,.tup r]=>r.getD a.toNat .non | _=>.non)=(b.cells.map fun c=>at_ c.2 a.toNat).map ax:=by
   rw [List.map_map,List.map_map]
   apply List.map_congr_left
   intro c hc
   show (c.2.map ax).getD a.toNat .non=ax (at_ c.2 a.toNat)
   rw [List.getD_eq_getElem?_getD,List.getElem?_map,(gc (bo.it c hc).2.1 (h:=a.toNat) (by omega)).1]
   rfl
  rw [e]
  exact q
theorem zG {rows:List Prt} (hl:rows.length <= 100) {s:Sl} {Q:List D->Prop} (q:Q ((rows.map (·.1)).map ax)):bX (cc 0) bp (dOp gIx (dVar 0) (dC (.int 0))) (rows.map qk) [] [s] Q:=by
 refine aY (fun d=>match d with | .tup [x,_]=>x | _=>.non) (fun ρ=>∃ s,ρ=[s]) (by rw [List.length_map]; exact Nat.le_trans hl (by decide)) (fun d hd ρ Y Z hN hY=>?_) _ ⟨_,rfl⟩ ?_
 ·obtain ⟨s,rfl⟩:=hN
  obtain ⟨c,_,rfl⟩:=List.mem_map.mp hd
  exact Br.t (hY _ ⟨_,rfl⟩)
 ·rw [List.map_map] at q ⊢
  exact q
theorem zH {rows:List Prt} (hl:rows.length <= 100) {s:Sl} {Q:List D->Prop} (q:Q ((rows.map (·.2)).map ax)):bX (cc 0) bp (dOp gIx (dVar 0) (dC (.int 1))) (rows.map qk) [] [s] Q:=by
 refine aY (fun d=>match d with | .tup [_,x]=>x | _=>.non) (fun ρ=>∃ s,ρ=[s]) (by rw [List.length_map]; exact Nat.le_trans hl (by decide)) (fun d hd ρ Y Z hN hY=>?_) _ ⟨_,rfl⟩ ?_
 ·obtain ⟨s,rfl⟩:=hN
  obtain ⟨c,_,rfl⟩:=List.mem_map.mp hd
  exact Br.t (hY _ ⟨_,rfl⟩)
 ·rw [List.map_map] at q ⊢
  exact q
structure HOk (b:Bk) (x y m:Int):Prop where
 bo:BkOk b
 c9:b.cells.length <= 10
 x0:0 <= x
 x1:x < b.m
 y0:0 <= y
 y1:y < b.m
 xy:x≠y
 m2:2 <= m
 m6:m <= 6
 l4:b.marks.length < 5
def aM (b:Bk) (i:Nat):List Int×Row:=b.cells.getD i ([],[])
def zR (m:Nat):Row:=List.replicate m (0,0)
def rowH (b:Bk) (x y:Nat) (S1 S2:Nat->Nat->Int×Int) (i k:Nat):Row:=((if k=0 then (aM b i).2 else zR b.m).set x (S1 i k)).set y (S2 i k)
def psI (b:Bk) (x y:Nat) (S1 S2:Nat->Nat->Int×Int) (i k:Nat):List Int×Row:=((aM b i).1++[(k:Int)],rowH b x y S1 S2 i k)
def psH (b:Bk) (x y m:Nat) (S1 S2:Nat->Nat->Int×Int) (n:Nat):List (List Int×Row):=(List.range n).flatMap fun i=>(List.range m).map (psI b x y S1 S2 i)
def whB (b:Bk) (h:Nat):Int×Int:=sumP (col (b.cells.map (·.2)) h)
structure HidF (b:Bk) (x y:Nat) (m:Int) (rows:List Prt) (F1 G1 F2 G2:Nat->Nat->Int):Prop where
 pt:Parts m (whB b x) (whB b y) rows
 s1:SplF (b.cells.map fun c=>at_ c.2 x) (rows.map (·.1)) F1 G1
 s2:SplF (b.cells.map fun c=>at_ c.2 y) (rows.map (·.2)) F2 G2
def hidB (b:Bk) (x y:Nat) (m:Int) (F1 G1 F2 G2:Nat->Nat->Int):Bk:=⟨b.m,b.marks++[m],gath b.m (psH b x y m.toNat (entS F1 G1) (entS F2 G2) b.cells.length)⟩
def gHid:DSp:=fun ds Q=>∃ (b:Bk) (x y m:Int),ds=[eO b,.int x,.int y,.int m] /\ HOk b x y m /\ (((whB b x.toNat).1 - (whB b x.toNat).2 < m∨(whB b y.toNat).2 < m)->Q .non) /\ (¬ ((whB b x.toNat).1 - (whB b x.toNat).2 < m∨(whB b y.toNat).2 < m)->∀ rows F1 G1 F2 G2,HidF b x.toNat y.toNat m rows F1 G1 F2 G2->Q (eO (hidB b x.toNat y.toNat m F1 G1 F2 G2)))
theorem xp:bG gHid:=fun ds P P' f ⟨b,x,y,m,a,c,d,h⟩=>⟨b,x,y,m,a,c,fun z=>f _ (d z),fun z rows F1 G1 F2 G2 o=>f _ (h z rows F1 G1 F2 G2 o)⟩
theorem rF {b:Bk} (bo:BkOk b) {h:Nat} (hh:h < b.m):0 <= (sumP (col (b.cells.map (·.2)) h)).2 /\ (sumP (col (b.cells.map (·.2)) h)).2 <= (sumP (col (b.cells.map (·.2)) h)).1:=by
 have it:=bo.it
 generalize b.cells=cs at it
 induction cs with
 | nil=>exact ⟨Int.le_refl 0,Int.le_refl 0⟩
 | cons c cs ih =>
  have h1:=ih fun c hc=>it c (List.mem_cons_of_mem _ hc)
  have h2:=(gc (it c List.mem_cons_self).2.1 hh).2
  have:=h2.lo
  have:=h2.hi
  unfold sumP col at h1 ⊢
  simp only [List.map_cons,List.sum_cons] at h1 ⊢
  omega
theorem vA {m:Nat} {t:List Row} {h:Int} {Q:D->Prop} (h0:0 <= h) (h1:h < m) (q:Q (ax (sumP (col t h.toNat)))):opt (atI ((sums t m).map ax) h) Q:=by
 refine jc h0 ?_ q
 unfold sums
 rw [List.getElem?_map,List.getElem?_map,List.getElem?_range (by omega)]
 rfl
theorem kt:∀ l:List (Int×Int),(l.map fun c=>c.1 - c.2).sum=(l.map (·.1)).sum - (l.map (·.2)).sum
 | []=>rfl
 | a::l=>by
  rw [List.map_cons,List.map_cons,List.map_cons,List.sum_cons,List.sum_cons,List.sum_cons,kt l]
  omega
theorem wh_1 (b:Bk) (h:Nat):((b.cells.map fun c=>at_ c.2 h).map (·.1)).sum=(whB b h).1:=by
 unfold whB sumP col
 simp only [List.map_map]
 rfl
theorem wh_2 (b:Bk) (h:Nat):((b.cells.map fun c=>at_ c.2 h).map (·.2)).sum=(whB b h).2:=by
 unfold whB sumP col
 simp only [List.map_map]
 rfl
theorem mP (b:Bk) (x y m:Nat) (S1 S2:Nat->Nat->Int×Int):∀ n,(psH b x y m S1 S2 n).length=n * m
 | 0=>by simp [psH]
 | n + 1=>by
  have:=mP b x y m S1 S2 n
  unfold psH at this ⊢
  rw [List.range_succ,List.flatMap_append,List.length_append,this,List.flatMap_singleton,List.length_map,List.length_range,Nat.succ_mul]
theorem rG (b:Bk) (x y m:Nat) (S1 S2:Nat->Nat->Int×Int) (n:Nat):psH b x y m S1 S2 (n + 1)=psH b x y m S1 S2 n++(List.range m).map (psI b x y S1 S2 n):=by
 unfold psH
 rw [List.range_succ,List.flatMap_append,List.flatMap_singleton]
theorem yi {cs ps:List (Int×Int)} {F G:Nat->Nat->Int} (s:SplF cs ps F G) {i k:Nat} (hi:i < cs.length) (hk:k < ps.length):0 <= (entS F G i k).2 /\ (entS F G i k).2 <= (entS F G i k).1 /\ (entS F G i k).1 <= (cs.getD i (0,0)).1:=by
 have a:=s.w.lo i hi k hk
 have c:=s.i.lo i hi k hk
 unfold entS
 dsimp only
 omega
theorem qm {b:Bk} (bo:BkOk b) {x y m:Int} (x0:0 <= x) (x1:x < b.m) (y0:0 <= y) (y1:y < b.m) {rows:List Prt} {F1 G1 F2 G2:Nat->Nat->Int} (h:HidF b x.toNat y.toNat m rows F1 G1 F2 G2) {i k:Nat} (hi:i < b.cells.length) (hk:k < rows.length):RowN 110 b.m (rowH b x.toNat y.toNat (entS F1 G1) (entS F2 G2) i k):=by
 have hc:aM b i∈b.cells:=by
  unfold aM
  rw [List.getD_eq_getElem?_getD,List.getElem?_eq_getElem hi]
  exact List.getElem_mem hi
 have co:=bo.it _ hc
 have e1:(b.cells.map fun c=>at_ c.2 x.toNat).getD i (0,0)=at_ (aM b i).2 x.toNat:=by
  unfold aM
  rw [List.getD_eq_getElem?_getD,List.getD_eq_getElem?_getD,List.getElem?_map,List.getElem?_eq_getElem hi]
  rfl
 have e2:(b.cells.map fun c=>at_ c.2 y.toNat).getD i (0,0)=at_ (aM b i).2 y.toNat:=by
  unfold aM
  rw [List.getD_eq_getElem?_getD,List.getD_eq_getElem?_getD,List.getElem?_map,List.getElem?_eq_getElem hi]
  rfl
 have q1:=yi h.s1 (i:=i) (k:=k) (by rw [List.length_map]; exact hi) (by rw [List.length_map]; exact hk)
 have q2:=yi h.s2 (i:=i) (k:=k) (by rw [List.length_map]; exact hi) (by rw [List.length_map]; exact hk)
 rw [e1] at q1
 rw [e2] at q2
 have bx:=(gc co.2.1 (h:=x.toNat) (by omega)).2.bt
 have by_:=(gc co.2.1 (h:=y.toNat) (by omega)).2.bt
 have c1:Cnt 110 (entS F1 G1 i k).1 (entS F1 G1 i k).2:=qX q1.1 q1.2.1 (bx.le (by omega))
 have c2:Cnt 110 (entS F2 G2 i k).1 (entS F2 G2 i k).2:=qX q2.1 q2.2.1 (by_.le (by omega))
 have r0:RowN 110 b.m (if k=0 then (aM b i).2 else zR b.m):=by
  split
  ·exact co.2.1
  ·refine ⟨by unfold zR; simp,fun c hc=>?_⟩
   rw [List.eq_of_mem_replicate hc]
   exact qX (Int.le_refl 0) (Int.le_refl 0) (by unfold Bd; exact Nat.two_pow_pos _)
 unfold rowH
 refine ⟨by rw [List.length_set,List.length_set]; exact r0.1,fun z hz=>?_⟩
 rcases List.mem_or_eq_of_mem_set hz with hz | rfl
 ·rcases List.mem_or_eq_of_mem_set hz with hz | rfl
  ·exact r0.2 z hz
  ·exact c1
 ·exact c2
set_option maxHeartbeats 1000000 in
theorem xq (T:Tx K mg):FnOk P w K mg base CX0 5 T.mU T.kB ["book","a","b","many"] (spD K 4 gHid):=by
 refine fnD (k:=4) T.iq.F sc_hidden (fun cdv A outer s H E hr=>(al (pD (aj (oK T) oJ (hr.mono (by decide)) rfl T.cE.m T.cE.F.kp T.cE.b (aa (ar (ac 0 (pv 0)) ag (fun _ _=>rfl)) (aa (ac 1 (pv 1)) (aa (ac 2 (pv 2)) ad)))))
   (al (cz (cI (bU (aj (gu T) gt (hr.mono (by decide)) rfl T.aS.m T.aS.F.kp T.aS.b (aa (ac 3 (pv 3)) (aa ag (aa (jy rfl T.ip) ad)))))) (ah gS) aP)
   (al (cz (aV CI (aq gU rfl T.iR PySem.boot_len (aa (ar (ac 0 (pv 0)) ag (fun _ _=>rfl)) ad)) (jy rfl T.iw) (aJ _)) (ah gS) aP)
   (al (aX (i:=4) sc_hidden.nd rfl (by first | exact Or.inl rfl | exact Or.inr rfl) (aj (sP T) sO (hr.mono (by decide)) rfl T.eD.m T.eD.F.kp T.eD.b (aa (ac 0 (pv 0)) ad)))
   (al (aX (i:=5) sc_hidden.nd rfl (by first | exact Or.inl rfl | exact Or.inr rfl) (aj (xj T) xh (hr.mono (by decide)) rfl T.im.m T.im.F.kp T.im.b (aa (ar (ac 4 (pv 4)) (ac 1 (pv 1)) (fun _ _=>rfl)) (aa (ar (ac 4 (pv 4)) (ac 2 (pv 2)) (fun _ _=>rfl)) (aa (ac 3 (pv 3)) ad)))))
   (al (cz (aV AY (ac 5 (pv 5)) nM (aJ _)) (ah (aI nM)) aP)
   (ba (aX (i:=6) sc_hidden.nd rfl (by first | exact Or.inl rfl | exact Or.inr rfl) (aj (vy T) vx (hr.mono (by decide)) rfl T.fE.m T.fE.F.kp T.fE.b (aa (aF (PCD.pld (aw (N':=["cell","a"]) rfl rfl (by decide +kernel) rfl (.own (.cap (j:=1) rfl (by first | exact Or.inl rfl | exact Or.inr rfl) rfl .nil)) (by decide +kernel) (dG (ar (ac 0 (pv 0)) ag (fun _ _=>rfl))) (fun B=>(ai (i:=0) (show List.Nodup (α:=PySem.Str) ["cell","a"] by decide +kernel) rfl (by first | exact Or.inl rfl | exact Or.inr rfl))) (fun B=>aD) (fun B=>(ar (ar (ac 0 (pv 0)) ag (fun _ _=>rfl)) (ac 1 (pv 1)) (fun _ _=>rfl)))))) (aa (aF (PCD.pld (aw (N':=["part"]) rfl rfl (by decide +kernel) rfl (.own .nil) (by decide +kernel) (bn (ac 5 (pv 5))) (fun B=>(ai (i:=0) (show List.Nodup (α:=PySem.Str) ["part"] by decide +kernel) rfl (by first | exact Or.inl rfl | exact Or.inr rfl))) (fun B=>aD) (fun B=>(ar (ac 0 (pv 0)) ag (fun _ _=>rfl)))))) ad))))
   (ba (aX (i:=7) sc_hidden.nd rfl (by first | exact Or.inl rfl | exact Or.inr rfl) (aj (vy T) vx (hr.mono (by decide)) rfl T.fE.m T.fE.F.kp T.fE.b (aa (aF (PCD.pld (aw (N':=["cell","b"]) rfl rfl (by decide +kernel) rfl (.own (.cap (j:=2) rfl (by first | exact Or.inl rfl | exact Or.inr rfl) rfl .nil)) (by decide +kernel) (dG (ar (ac 0 (pv 0)) ag (fun _ _=>rfl))) (fun B=>(ai (i:=0) (show List.Nodup (α:=PySem.Str) ["cell","b"] by decide +kernel) rfl (by first | exact Or.inl rfl | exact Or.inr rfl))) (fun B=>aD) (fun B=>(ar (ar (ac 0 (pv 0)) ag (fun _ _=>rfl)) (ac 1 (pv 1)) (fun _ _=>rfl)))))) (aa (aF (PCD.pld (aw (N':=["part"]) rfl rfl (by decide +kernel) rfl (.own .nil) (by decide +kernel) (bn (ac 5 (pv 5))) (fun B=>(ai (i:=0) (show List.Nodup (α:=PySem.Str) ["part"] by decide +kernel) rfl (by first | exact Or.inl rfl | exact Or.inr rfl))) (fun B=>aD) (fun B=>(ar (ac 0 (pv 0)) ag (fun _ _=>rfl)))))) ad))))
   (ba (nP (i:=8) sc_hidden.nd rfl (by first | exact Or.inl rfl | exact Or.inr rfl) (fc ad))
   (ba (dF PassesOwn.never rfl (wP rfl T.kF (aa (ar (ac 0 (pv 0)) ag (fun _ _=>rfl)) ad)) (dY (n:=2) rfl (aE (ai (i:=9) sc_hidden.nd rfl (by first | exact Or.inl rfl | exact Or.inr rfl)) (aE (ai (i:=10) sc_hidden.nd rfl (by first | exact Or.inl rfl | exact Or.inr rfl)) ce))) (ah (dF PassesOwn.never rfl (bu rfl T.cH (aa (ac 3 (pv 3)) ad)) (ai (i:=11) sc_hidden.nd rfl (by first | exact Or.inl rfl | exact Or.inr rfl)) (ba (nP (i:=12) sc_hidden.nd rfl (by first | exact Or.inl rfl | exact Or.inr rfl) (wQ (aV (iD hr) (ac 11 (pv 11)) ag (aJ _)) (ui rfl T.rP rfl (ar (ac 10 (pv 10)) ag (fun _ _=>rfl))) (xP (aF (fc (aa (cu (aa ag (aa ag ad))) ad))) (ar (ac 0 (pv 0)) ag (fun _ _=>rfl)))))
   (al (pJ (ar (ar (ac 6 (pv 6)) (ac 9 (pv 9)) (fun _ _=>rfl)) (ac 11 (pv 11)) (fun _ _=>rfl)) (xM (pv 12) (ac 1 (pv 1))))
   (al (pJ (ar (ar (ac 7 (pv 7)) (ac 9 (pv 9)) (fun _ _=>rfl)) (ac 11 (pv 11)) (fun _ _=>rfl)) (xM (pv 12) (ac 2 (pv 2))))
   (ah (qG (pv 8) (cu (aa (bS pS (ar (ac 10 (pv 10)) ag (fun _ _=>rfl)) (cu (aa (ac 11 (pv 11)) ad))) (aa (aW cM rfl T.bv rfl (aa (ac 12 (pv 12)) ad)) ad)))))))))))
   (ah (aI (cu (aa (ar (ac 0 (pv 0)) ag (fun _ _=>rfl)) (aa (bS pS (ar (ac 0 (pv 0)) ag (fun _ _=>rfl)) (cu (aa (ac 3 (pv 3)) ad))) (aa (aW cM rfl T.bv rfl (aa (aj (sN T) sM (hr.mono (by decide)) rfl T.eC.m T.eC.F.kp T.eC.b (aa (ar (ac 0 (pv 0)) ag (fun _ _=>rfl)) (aa (ac 8 (pv 8)) ad))) ad)) ad))))))))))))))))) (fun ds Q hl h=>?_)
 obtain ⟨b,x,y,m,rfl,o,hno,h⟩:=h
 have bo:=o.bo
 have m2:=o.m2
 have m6:=o.m6
 have c9:=o.c9
 have x0:=o.x0
 have x1:=o.x1
 have y0:=o.y0
 have y1:=o.y1
 have l4:=o.l4
 have b6:=bo.m6
 have el:((b.marks.map D.int).length:Int)=b.marks.length:=by rw [List.length_map]
 have sx:=rF bo (h:=x.toNat) (by omega)
 have sy:=rF bo (h:=y.toNat) (by omega)
 refine ⟨rfl,⟨x0,x1,y0,y1,o.xy⟩,rfl,⟨m2,m6⟩,Br.f (Br.dn (by omega) ⟨rfl,b,rfl,bo,?_⟩)⟩
 refine vA x0 x1 (vA y0 y1 ⟨rfl,⟨m2,by omega⟩,⟨sx.1,sx.2,sy.1,sy.2⟩,fun z=>Br.t (hno z),fun hz rows ro=>Br.f ?_⟩)
 have ro:Parts m (whB b x.toNat) (whB b y.toNat) rows:=ro
 have rl:rows.length=m.toNat:=ro.len
 have cx:∀ c∈b.cells.map (fun c=>at_ c.2 x.toNat),0 <= c.2 /\ c.2 <= c.1:=fun c hc=>by
  obtain ⟨e,he,rfl⟩:=List.mem_map.mp hc
  have:=(gc (bo.it e he).2.1 (h:=x.toNat) (by omega)).2
  exact ⟨this.lo,this.hi⟩
 have cy:∀ c∈b.cells.map (fun c=>at_ c.2 y.toNat),0 <= c.2 /\ c.2 <= c.1:=fun c hc=>by
  obtain ⟨e,he,rfl⟩:=List.mem_map.mp hc
  have:=(gc (bo.it e he).2.1 (h:=y.toNat) (by omega)).2
  exact ⟨this.lo,this.hi⟩
 have r1:∀ c∈rows.map (·.1),0 <= c.2 /\ c.2 <= c.1:=fun c hc=>by
  obtain ⟨e,he,rfl⟩:=List.mem_map.mp hc
  exact ⟨(ro.good e he).a0,(ro.good e he).a1⟩
 have r2:∀ c∈rows.map (·.2),0 <= c.2 /\ c.2 <= c.1:=fun c hc=>by
  obtain ⟨e,he,rfl⟩:=List.mem_map.mp hc
  exact ⟨(ro.good e he).b0,(ro.good e he).b1⟩
 have p1:((rows.map (·.1)).map (·.1)).sum=(whB b x.toNat).1 /\ ((rows.map (·.1)).map (·.2)).sum=(whB b x.toNat).2 /\ ((rows.map (·.2)).map (·.1)).sum=(whB b y.toNat).1 /\ ((rows.map (·.2)).map (·.2)).sum=(whB b y.toNat).2:=by
  simp only [List.map_map]
  exact ⟨ro.s1,ro.s2,ro.s3,ro.s4⟩
 obtain ⟨wd,hwd⟩:∃ wd,wd=rowD (sums (b.cells.map (·.2)) b.m):=⟨_,rfl⟩
 obtain ⟨tb,htb⟩:∃ tb,tb=rows.map qk:=⟨_,rfl⟩
 refine ⟨fun ρ=>∃ F1 G1,SplF (b.cells.map fun c=>at_ c.2 x.toNat) (rows.map (·.1)) F1 G1 /\ ρ=[.val (eO b),.val (.int x),.val (.int y),.val (.int m),.val wd,.val (.lst tb),.val (splD b.cells.length m.toNat F1 G1),.nil,.nil,.nil,.nil,.nil,.nil],vz bo x0 x1 (zG (by omega) ⟨rfl,b.cells.map (fun c=>at_ c.2 x.toNat),rows.map (·.1),rfl,⟨cx,r1,by rw [List.length_map]; omega,by rw [List.length_map]; omega,by rw [wh_2,p1.2.1],by rw [kt,kt,wh_1,wh_2,p1.1,p1.2.1]⟩,fun F1 G1 s1=>⟨F1,G1,s1,by rw [hwd,htb,List.length_map,List.length_map,rl]; rfl⟩⟩),?_⟩
 rintro _ ⟨F1,G1,s1,rfl⟩
 refine ⟨fun ρ=>∃ F2 G2,SplF (b.cells.map fun c=>at_ c.2 y.toNat) (rows.map (·.2)) F2 G2 /\ ρ=[.val (eO b),.val (.int x),.val (.int y),.val (.int m),.val wd,.val (.lst tb),.val (splD b.cells.length m.toNat F1 G1),.val (splD b.cells.length m.toNat F2 G2),.nil,.nil,.nil,.nil,.nil],vz bo y0 y1 ?_,?_⟩
 ·rw [htb]
  exact zH (by omega) ⟨rfl,b.cells.map (fun c=>at_ c.2 y.toNat),rows.map (·.2),rfl,⟨cy,r2,by rw [List.length_map]; omega,by rw [List.length_map]; omega,by rw [wh_2,p1.2.2.2],by rw [kt,kt,wh_1,wh_2,p1.2.2.1,p1.2.2.2]⟩,fun F2 G2 s2=>⟨F2,G2,s2,by rw [List.length_map,List.length_map,rl]; rfl⟩⟩
 rintro _ ⟨F2,G2,s2,rfl⟩
 have hf:HidF b x.toNat y.toNat m rows F1 G1 F2 G2:=⟨ro,s1,s2⟩
 refine ⟨fun ρ=>ρ=[.val (eO b),.val (.int x),.val (.int y),.val (.int m),.val wd,.val (.lst tb),.val (splD b.cells.length m.toNat F1 G1),.val (splD b.cells.length m.toNat F2 G2),.own [],.nil,.nil,.nil,.nil],⟨sz,rfl⟩,?_⟩
 rintro _ rfl
 have i60:∀ i,i < b.cells.length->i * m.toNat + m.toNat <= 60:=fun i hi=>by
  have:i * m.toNat <= 9 * 6:=Nat.mul_le_mul (by omega) (by omega)
  omega
 refine ⟨fun ρ=>∃ p q r t:Sl,ρ=[.val (eO b),.val (.int x),.val (.int y),.val (.int m),.val wd,.val (.lst tb),.val (splD b.cells.length m.toNat F1 G1),.val (splD b.cells.length m.toNat F2 G2),.own ((psH b x.toNat y.toNat m.toNat (entS F1 G1) (entS F2 G2) b.cells.length).map bq),p,q,r,t],?_,?_⟩
 ·refine sg (fun i ρ=>∃ p q r t:Sl,ρ=[.val (eO b),.val (.int x),.val (.int y),.val (.int m),.val wd,.val (.lst tb),.val (splD b.cells.length m.toNat F1 G1),.val (splD b.cells.length m.toNat F2 G2),.own ((psH b x.toNat y.toNat m.toNat (entS F1 G1) (entS F2 G2) i).map bq),p,q,r,t]) (fun ρ hN=>?_) (fun i d ρ X hd hN hX=>?_) _ ⟨_,_,_,_,rfl⟩
  ·obtain ⟨p,q,r,t,rfl⟩:=hN
   rw [List.length_map]
   exact ⟨p,q,r,t,rfl⟩
  ·obtain ⟨p,q,r,t,rfl⟩:=hN
   rw [List.getElem?_map] at hd
   obtain ⟨c,hc,rfl⟩:=Option.map_eq_some_iff.mp hd
   have hi:i < b.cells.length:=(List.getElem?_eq_some_iff.mp hc).1
   have cm:=bo.it c (List.mem_of_getElem? hc)
   have ec:aM b i=c:=by unfold aM; rw [List.getD_eq_getElem?_getD,hc]; rfl
   have pl:=mP b x.toNat y.toNat m.toNat (entS F1 G1) (entS F2 G2) i
   have i6:=i60 i hi
   refine ⟨rfl,⟨by omega,by omega⟩,?_⟩
   refine mf (fun k ρ=>∃ r t:Sl,ρ=[.val (eO b),.val (.int x),.val (.int y),.val (.int m),.val wd,.val (.lst tb),.val (splD b.cells.length m.toNat F1 G1),.val (splD b.cells.length m.toNat F2 G2),.own ((psH b x.toNat y.toNat m.toNat (entS F1 G1) (entS F2 G2) i++(List.range k.toNat).map (psI b x.toNat y.toNat (entS F1 G1) (entS F2 G2) i)).map bq),.val (.int i),.val (bq c),r,t]) _ _ ?_ ?_ _ ⟨_,_,by rw [Int.toNat_zero,List.range_zero,List.map_nil,List.append_nil]; rfl⟩
   ·rintro ρ ⟨r,t,rfl⟩
    refine hX _ ⟨.val (.int i),.val (bq c),r,t,?_⟩
    rw [rG,show (0 + ((m.toNat:Nat):Int)).toNat=m.toNat by omega]
   ·rintro k ρ X' k0 kk ⟨r,t,rfl⟩ hX'
    have kn:k.toNat < m.toNat:=by omega
    refine ⟨fun ρ=>ρ=[.val (eO b),.val (.int x),.val (.int y),.val (.int m),.val wd,.val (.lst tb),.val (splD b.cells.length m.toNat F1 G1),.val (splD b.cells.length m.toNat F2 G2),.own ((psH b x.toNat y.toNat m.toNat (entS F1 G1) (entS F2 G2) i++(List.range k.toNat).map (psI b x.toNat y.toNat (entS F1 G1) (entS F2 G2) i)).map bq),.val (.int i),.val (bq c),.val (.int k),.own ((if k.toNat=0 then (aM b i).2 else zR b.m).map ax)],?_,?_⟩
    ·have e:∀ k:Nat,(List.replicate k [D.tup [.int 0,.int 0]]).flatten=(List.replicate k ((0,0):Int×Int)).map ax:=fun k=>by
      induction k with
      | zero=>rfl
      | succ k ih=>rw [List.replicate_succ,List.replicate_succ,List.flatten_cons,List.map_cons,ih]; rfl
     refine ⟨⟨rfl,rfl⟩,fun z=>?_,fun z=>⟨sz,sz,⟨⟨by omega,by omega⟩,?_⟩,?_⟩⟩
     ·have z:k=0:=by simpa [cZ] using z
      rw [if_pos (by omega),ec]
      rfl
     ·rw [Int.toNat_natCast]
      exact Nat.le_trans (show 1 * b.m <= 6 by omega) (by decide)
     ·have z:¬ k=0:=by simpa [cZ] using z
      rw [if_neg (by omega),Int.toNat_natCast,e]
      rfl
    rintro _ rfl
    have hg:∀ F G:Nat->Nat->Int,((List.range b.cells.length).map fun i=>csD ((List.range m.toNat).map (entS F G i)))[((i:Nat):Int).toNat]? = some (csD ((List.range m.toNat).map (entS F G i))):=fun F G=>by
     rw [Int.toNat_natCast,List.getElem?_map,List.getElem?_range hi]
     rfl
    have hk:∀ F G:Nat->Nat->Int,(((List.range m.toNat).map (entS F G i)).map ax)[k.toNat]? = some (ax (entS F G i k.toNat)):=fun F G=>by
     rw [List.getElem?_map,List.getElem?_map,List.getElem?_range kn]
     rfl
    have rl0:(if k.toNat=0 then (aM b i).2 else zR b.m).length=b.m:=by
     split
     ·rw [ec]; exact cm.2.1.1
     ·unfold zR; simp
    generalize hr0:(if k.toNat=0 then (aM b i).2 else zR b.m)=r0 at rl0
    refine jc (by omega) (hg F1 G1) (jc (by omega) (hk F1 G1) ⟨trivial,x.toNat,xN x0 (by rw [List.length_map,rl0]; exact x1),?_⟩)
    rw [← List.map_set]
    refine jc (by omega) (hg F2 G2) (jc (by omega) (hk F2 G2) ⟨trivial,y.toNat,xN y0 (by rw [List.length_map,List.length_set,rl0]; exact y1),?_⟩)
    rw [← List.map_set]
    refine ⟨trivial,sz,?_,sz,?_,hX' _ ⟨.val (.int k),.val (.lst (((r0.set x.toNat (entS F1 G1 i k.toNat)).set y.toNat (entS F2 G2 i k.toNat)).map ax)),?_⟩⟩
    ·rw [List.length_map,cm.1]
     exact Nat.le_trans (show b.marks.length + 1 <= 10 by omega) (by decide)
    ·rw [List.length_map,List.length_append,pl,List.length_map,List.length_range]
     exact Nat.lt_of_le_of_lt (show _ <= 100 by omega) (by decide)
    ·have ecd:bq (psI b x.toNat y.toNat (entS F1 G1) (entS F2 G2) i k.toNat) = .tup [.tup (c.1.map D.int++[.int k]),.tup (((r0.set x.toNat (entS F1 G1 i k.toNat)).set y.toNat (entS F2 G2 i k.toNat)).map ax)]:=by
      unfold psI rowH
      rw [hr0,ec]
      show D.tup [.tup ((c.1++[((k.toNat:Nat):Int)]).map D.int),_]=_
      rw [List.map_append,show ((k.toNat:Nat):Int)=k by omega]
      rfl
     have e9:psH b x.toNat y.toNat m.toNat (entS F1 G1) (entS F2 G2) i++(List.range (k + 1).toNat).map (psI b x.toNat y.toNat (entS F1 G1) (entS F2 G2) i)=(psH b x.toNat y.toNat m.toNat (entS F1 G1) (entS F2 G2) i++(List.range k.toNat).map (psI b x.toNat y.toNat (entS F1 G1) (entS F2 G2) i))++[psI b x.toNat y.toNat (entS F1 G1) (entS F2 G2) i k.toNat]:=by
      rw [show (k + 1).toNat=k.toNat + 1 by omega,List.range_succ,List.map_append,List.append_assoc]
      rfl
     rw [e9,List.map_append (l₂:=[_]),List.map_singleton,ecd]
     rfl
 ·rintro _ ⟨p,q,r,t,rfl⟩
  have fin:=h hz rows F1 G1 F2 G2 hf
  have el2:(psH b x.toNat y.toNat m.toNat (entS F1 G1) (entS F2 G2) b.cells.length).length <= 60:=by
   rw [mP]
   exact Nat.le_trans (Nat.mul_le_mul c9 (show m.toNat <= 6 by omega)) (by decide)
  have ok:∀ p∈psH b x.toNat y.toNat m.toNat (entS F1 G1) (entS F2 G2) b.cells.length,p.1.length=b.marks.length + 1 /\ RowN 110 b.m p.2:=fun p hp=>by
   obtain ⟨i,hi,hp⟩:=List.mem_flatMap.mp hp
   obtain ⟨k,hk,rfl⟩:=List.mem_map.mp hp
   have hi:=List.mem_range.mp hi
   have hk:=List.mem_range.mp hk
   refine ⟨?_,qm bo x0 x1 y0 y1 hf hi (by omega)⟩
   have:aM b i∈b.cells:=by
    unfold aM
    rw [List.getD_eq_getElem?_getD,List.getElem?_eq_getElem hi]
    exact List.getElem_mem hi
   show ((aM b i).1++[_]).length=_
   rw [List.length_append,List.length_singleton,(bo.it _ this).1]
  have em:eO (hidB b x.toNat y.toNat m F1 G1 F2 G2) = .tup [.int b.m,.tup (b.marks.map D.int++[.int m]),.tup ((gath b.m (psH b x.toNat y.toNat m.toNat (entS F1 G1) (entS F2 G2) b.cells.length)).map bq)]:=by
   unfold eO hidB cq
   dsimp only
   rw [List.map_append]
   rfl
  rw [em] at fin
  refine ⟨sz,?_,rfl,b.m,_,b.marks.length + 1,rfl,rfl,⟨b6,el2,ok⟩,sz,fin⟩
  rw [List.length_map]
  exact Nat.le_trans (show b.marks.length + 1 <= 10 by omega) (by decide)
theorem vB {cs:List (Int×Int)} (hl:cs.length <= 1000) {x y:Sl} {Q:List D->Prop} (q:Q ((cs.map (·.1)).map D.int)):bX (ue 2 (gT (cc 0) (gT (cc 1) ud))) bp (dVar 0) (cs.map ax) [] [x,y] Q:=by
 refine aY (fun d=>match d with | .tup (x::_)=>x | _=>.non) (fun ρ=>∃ x y,ρ=[x,y]) (by rw [List.length_map]; exact Nat.le_trans hl (by decide)) (fun d hd ρ Y Z hN hY=>?_) _ ⟨_,_,rfl⟩ ?_
 ·obtain ⟨x,y,rfl⟩:=hN
  obtain ⟨c,_,rfl⟩:=List.mem_map.mp hd
  exact ⟨rfl,Br.t (hY _ ⟨_,_,rfl⟩)⟩
 ·rw [List.map_map] at q ⊢
  exact q
theorem zI {cs:List (Int×Int)} (hl:cs.length <= 1000) {x y:Sl} {Q:List D->Prop} (q:Q ((cs.map (·.2)).map D.int)):bX (ue 2 (gT (cc 0) (gT (cc 1) ud))) bp (dVar 1) (cs.map ax) [] [x,y] Q:=by
 refine aY (fun d=>match d with | .tup [_,x]=>x | _=>.non) (fun ρ=>∃ x y,ρ=[x,y]) (by rw [List.length_map]; exact Nat.le_trans hl (by decide)) (fun d hd ρ Y Z hN hY=>?_) _ ⟨_,_,rfl⟩ ?_
 ·obtain ⟨x,y,rfl⟩:=hN
  obtain ⟨c,_,rfl⟩:=List.mem_map.mp hd
  exact ⟨rfl,Br.t (hY _ ⟨_,_,rfl⟩)⟩
 ·rw [List.map_map] at q ⊢
  exact q
def zJ:DSp:=fun ds Q=>∃ cs:List (Int×Int),(ds=[.lst (cs.map ax)]∨ds=[.tup (cs.map ax)]) /\ cs.length <= 1000 /\ Q (ax (sumP cs))
theorem cX:bG zJ:=fun ds P P' f ⟨cs,a,b,h⟩=>⟨cs,a,b,f _ h⟩
theorem cY (T:Tx K mg):FnOk P w K mg base CX0 1 T.iT T.gI ["_law_counts"] (spD K 1 zJ):=by
 refine fnD (k:=0) T.az.F qf (fun cdv A outer s H E hr=>(ah (aI (cu (aa (aq lr rfl T.qw PyProof.Rows.boot_sum (aa (aF (PCD.pld (aw (N':=["_law_tried","_law_well"]) rfl rfl (by decide +kernel) rfl (.own (.own .nil)) (by decide +kernel) (qI (ac 0 (pv 0))) (fun B=>(dY (n:=2) rfl (aE (ai (i:=0) (show List.Nodup (α:=PySem.Str) ["_law_tried","_law_well"] by decide +kernel) rfl (by first | exact Or.inl rfl | exact Or.inr rfl)) (aE (ai (i:=1) (show List.Nodup (α:=PySem.Str) ["_law_tried","_law_well"] by decide +kernel) rfl (by first | exact Or.inl rfl | exact Or.inr rfl)) ce)))) (fun B=>aD) (fun B=>(ac 0 (pv 0)))))) ad)) (aa (aq lr rfl T.qw PyProof.Rows.boot_sum (aa (aF (PCD.pld (aw (N':=["_law_tried","_law_well"]) rfl rfl (by decide +kernel) rfl (.own (.own .nil)) (by decide +kernel) (qI (ac 0 (pv 0))) (fun B=>(dY (n:=2) rfl (aE (ai (i:=0) (show List.Nodup (α:=PySem.Str) ["_law_tried","_law_well"] by decide +kernel) rfl (by first | exact Or.inl rfl | exact Or.inr rfl)) (aE (ai (i:=1) (show List.Nodup (α:=PySem.Str) ["_law_tried","_law_well"] by decide +kernel) rfl (by first | exact Or.inl rfl | exact Or.inr rfl)) ce)))) (fun B=>aD) (fun B=>(ac 1 (pv 1)))))) ad)) ad)))))) (fun ds Q hl h=>?_)
 obtain ⟨cs,e,hc,h⟩:=h
 rcases e with rfl | rfl <;> exact vB hc (gl (zI hc (gl ⟨sz,h⟩)))
theorem vC (g:List (List Int×List Row)) (k:List Int):(fY (embV g) (kI k)).getD (.lst []) = .lst ((bb g k).map rowD):=by
 by_cases h:k∈g.map (·.1)
 ·obtain ⟨p,_,_,h3,h4⟩:=mK h
  rw [h4,h3]
  rfl
 ·have e1:(embV g).find? (fun p=>decide (p.1=kI k))=none:=by
   rw [List.find?_eq_none]
   intro p hp z
   obtain ⟨q,hq,rfl⟩:=List.mem_map.mp hp
   have z:kI q.1=kI k:=by simpa using z
   exact h (List.mem_map.mpr ⟨q,hq,ie z⟩)
  have e2:g.find? (fun p=>decide (p.1=k))=none:=by
   rw [List.find?_eq_none]
   intro q hq z
   exact h (List.mem_map.mpr ⟨q,hq,by simpa using z⟩)
  unfold fY bb
  rw [e1,e2]
  rfl
theorem rH (k:List Int) (r:Row):∀ (g:List (List Int×List Row)),(g.map (·.1)).Nodup->putA (embV g) (kI k) (.lst ((bb g k).map rowD++[rowD r]))=embV (addG k r g)
 | [],_=>rfl
 | p::t,nd=>by
  have nd':=List.nodup_cons.mp (by simpa using nd:(p.1::t.map (·.1)).Nodup)
  by_cases e:p.1=k
  ·have er:bb (p::t) k=p.2:=by
    unfold bb
    rw [List.find?_cons_of_pos (by simpa using e)]
    rfl
   have et:(embV t).map (fun q=>if q.1=kI k then (q.1,D.lst ((bb (p::t) k).map rowD++[rowD r])) else q)=embV t:=by
    rw [← List.map_id (embV t),List.map_map]
    apply List.map_congr_left
    intro q hq
    obtain ⟨q',hq',rfl⟩:=List.mem_map.mp hq
    simp only [Function.comp,id]
    rw [if_neg]
    intro z
    exact nd'.1 (by rw [e,← ie z]; exact List.mem_map.mpr ⟨q',hq',rfl⟩)
   unfold putA addG
   rw [if_pos e]
   have ea:((embV (p::t)).any fun q=>decide (q.1=kI k))=true:=by
    rw [List.any_eq_true]
    exact ⟨(kI p.1,.lst (p.2.map rowD)),List.mem_cons_self,by simp [e]⟩
   rw [if_pos ea]
   show (if kI p.1=kI k then (kI p.1,D.lst ((bb (p::t) k).map rowD++[rowD r])) else (kI p.1,.lst (p.2.map rowD)))::(embV t).map _=(kI p.1,.lst ((p.2++[r]).map rowD))::embV t
   rw [if_pos (by rw [e]),et,er,List.map_append]
   rfl
  ·have er:bb (p::t) k=bb t k:=by
    unfold bb
    rw [List.find?_cons_of_neg (by simpa using e)]
   have ih:=rH k r t nd'.2
   have nk:¬ kI p.1=kI k:=fun z=>e (ie z)
   unfold putA at ih ⊢
   unfold addG
   rw [if_neg e,er]
   have ea:((embV (p::t)).any fun q=>decide (q.1=kI k))=(embV t).any fun q=>decide (q.1=kI k):=by
    show (decide (kI p.1=kI k) || (embV t).any fun q=>decide (q.1=kI k))=_
    rw [decide_eq_false nk,Bool.false_or]
   rw [ea]
   by_cases a:((embV t).any fun q=>decide (q.1=kI k))=true
   ·rw [if_pos a] at ih ⊢
    show (if kI p.1=kI k then _ else (kI p.1,D.lst (p.2.map rowD)))::(embV t).map _=(kI p.1,.lst (p.2.map rowD))::embV (addG k r t)
    rw [if_neg nk,ih]
   ·rw [if_neg a] at ih ⊢
    show (kI p.1,D.lst (p.2.map rowD))::(embV t++_)=(kI p.1,.lst (p.2.map rowD))::embV (addG k r t)
    rw [ih]
theorem BQ (kds:List (List Key×D)):fzO (dvO kds) = .dT (kds.map (·.1)) (kds.map (·.2)):=by
 unfold dvO
 simp only [fzO]
 congr 1
 rw [lX,List.map_map]
 apply List.map_congr_left
 intro p _
 simp only [Function.comp,fzO]
theorem vD {m:Nat} {t:List Row} (m6:m <= 6) (ho:∀ r∈t,vi m r) (hl:t.length <= 1000) {s:Sl} {Q:List D->Prop} (q:Q ((sums t m).map ax)) :
  bX (cc 0) bp (yU 1 zJ (qE (dFrz (Bj (AW (dVar 1)) [none,some 0] (cc 0) bp (dOp gIx (dVar 0) (dVar 1)))) wt)) (fe 0 m) [] [s,.val (.lst (t.map rowD))] Q:=by
 refine aY (fun d=>match d with | .int i=>ax (sumP (col t i.toNat)) | _=>.non) (fun ρ=>∃ s,ρ=[s,.val (.lst (t.map rowD))]) ?_ (fun d hd ρ Y Z hN hY=>?_) _ ⟨_,rfl⟩ ?_
 ·rw [aR,List.length_map,List.length_range]
  exact Nat.le_trans m6 (by decide)
 ·obtain ⟨s,rfl⟩:=hN
  rw [aR] at hd
  obtain ⟨i,hi,rfl⟩:=List.mem_map.mp hd
  have hi:=List.mem_range.mp hi
  refine Br.t (jB ho hl (by omega) (by omega) ⟨rfl,col t (0 + (i:Int)).toNat,.inl rfl,?_,hY _ ⟨_,rfl⟩⟩)
  unfold col
  rw [List.length_map]
  exact hl
 ·have e:(fe 0 m).map (fun d=>match d with | .int i=>ax (sumP (col t i.toNat)) | _=>.non)=(sums t m).map ax:=by
   rw [aR,List.map_map]
   unfold sums
   rw [List.map_map]
   apply List.map_congr_left
   intro i _
   show ax (sumP (col t (0 + (i:Int)).toNat))=ax (sumP (col t i))
   congr 3
   omega
  rw [e]
  exact q
def rJ:DSp:=fun ds Q=>match ds with
 | [.pen]=>∀ t w,Cnt 110 t w->Q (.tup [.int t,.int w])
 | _=>False
theorem oP:bG rJ:=fun ds P P' f h=>by
 unfold rJ at h ⊢
 split at h
 ·exact fun x y l=>f _ (h x y l)
 ·exact h.elim
theorem oQ (T:Tx K mg):FnOk P w K mg base CX0 2 T.fu T.eW ["_law_pen_here"] (spD K 1 rJ):=by
 refine fnD (k:=1) T.cF.F sc__law_count (fun cdv A outer s H E hr=>(al (aX (i:=1) sc__law_count.nd rfl (by first | exact Or.inl rfl | exact Or.inr rfl) (aj (aG T) aH (hr.mono (by decide)) rfl T.af.m T.af.F.kp T.af.b (aa (ac 0 (pv 0)) (aa ag ad))))
   (al (aX (i:=2) sc__law_count.nd rfl (by first | exact Or.inl rfl | exact Or.inr rfl) (bS ga ag (aj (aG T) aH (hr.mono (by decide)) rfl T.af.m T.af.F.kp T.af.b (aa (ac 0 (pv 0)) (aa ag ad)))))
   (ba (cz (aV (iD hr) (ac 1 (pv 1)) ag (aJ _)) (ah (aX (i:=2) sc__law_count.nd rfl (by first | exact Or.inl rfl | exact Or.inr rfl) ag)) aP)
   (ba (cz (aV (iD hr) (ac 1 (pv 1)) ag (aJ _)) (ah (aX (i:=2) sc__law_count.nd rfl (by first | exact Or.inl rfl | exact Or.inr rfl) (bS ga (bS xK ag ag) (aj (aG T) aH (hr.mono (by decide)) rfl T.af.m T.af.F.kp T.af.b (aa (ac 0 (pv 0)) (aa (bS xK ag ag) ad)))))) aP)
   (ah (aI (cu (aa (ac 2 (pv 2)) (aa (aj (aG T) aH (hr.mono (by decide)) rfl T.af.m T.af.F.kp T.af.b (aa (ac 0 (pv 0)) (aa (bS ga (ac 2 (pv 2)) ag) ad))) ad)))))))))) (fun ds Q hl h=>?_)
 unfold rJ at h
 split at h
 case h_2=>exact h.elim
 refine ⟨rfl,⟨by decide,by decide⟩,fun way w0 w1=>⟨rfl,⟨by decide,by decide⟩,fun r r0 r1=>?_⟩⟩
 refine ⟨fun ρ=>∃ t:Int,0 <= t /\ t <= 10 /\ ρ=[.val .pen,.val (.int way),.val (.int t)],⟨⟨rfl,rfl⟩,fun _=>⟨0,by decide,by decide,rfl⟩,fun _=>⟨1 + r,by omega,by omega,rfl⟩⟩,?_⟩
 rintro _ ⟨t,t0,t1,rfl⟩
 refine ⟨fun ρ=>∃ t:Int,0 <= t /\ t <= 10 ^ 12 /\ ρ=[.val .pen,.val (.int way),.val (.int t)],⟨⟨rfl,rfl⟩,fun _=>?_,fun _=>⟨t,t0,by omega,rfl⟩⟩,?_⟩
 ·refine ⟨cpow,cpow,rfl,⟨by decide,by decide⟩,fun p p0 p1=>⟨_,?_,?_,rfl⟩⟩
  all_goals simp only [Int.reduceToNat,Int.reducePow] at *
  ·omega
  ·omega
 rintro _ ⟨t,t0,t1,rfl⟩
 have bt:Bd 110 t:=by show t.natAbs < 2 ^ 110; omega
 exact ⟨rfl,⟨by omega,by omega⟩,fun w w0 w1=>⟨sz,h t w (qX w0 (by omega) bt)⟩⟩
def embB (f:List (List Int×Row)):List (List Key×D):=f.map fun p=>(kI p.1,rowD p.2)
def KsOk (ms ks:List Int):Prop:=ks.length=ms.length /\ ∀ i,i < ks.length->0 <= ks.getD i 0 /\ ks.getD i 0 < ms.getD i 0
theorem KsOk.snoc {ms ks:List Int} (h:KsOk ms ks) {x r:Int} (r0:0 <= r) (r1:r < x):KsOk (ms++[x]) (ks++[r]):=by
 obtain ⟨h1,h2⟩:=h
 refine ⟨by simp [h1],fun i hi=>?_⟩
 rw [List.length_append,List.length_singleton] at hi
 rw [List.getD_eq_getElem?_getD,List.getD_eq_getElem?_getD]
 by_cases z:i < ks.length
 ·have:=h2 i z
  rw [List.getD_eq_getElem?_getD,List.getD_eq_getElem?_getD] at this
  rw [List.getElem?_append_left z,List.getElem?_append_left (by omega)]
  exact this
 ·have e:i=ks.length:=by omega
  subst e
  rw [List.getElem?_append_right (Nat.le_refl _),List.getElem?_append_right (by omega),Nat.sub_self,← h1,Nat.sub_self]
  exact ⟨r0,r1⟩
def BkK (b:Bk):Prop:=∀ c∈b.cells,KsOk b.marks c.1
structure FOk (m:Nat) (ms:List Int) (f:List (List Int×Row)):Prop where
 nd:(f.map (·.1)).Nodup
 it:∀ p∈f,KsOk ms p.1 /\ RowN 110 m p.2 /\ fj p.2
theorem FOk.put {m:Nat} {ms:List Int} {f:List (List Int×Row)} (h:FOk m ms f) {k:List Int} {r:Row} (hk:KsOk ms k) (hr:RowN 110 m r /\ fj r):∃ f',putA (embB f) (kI k) (rowD r)=embB f' /\ FOk m ms f' /\ f'.length <= f.length + 1:=by
 have ea:((embB f).any fun q=>decide (q.1=kI k))=f.any fun q=>decide (q.1=k):=by
  unfold embB
  rw [List.any_map]
  congr 1
  funext q
  simp [sI]
 unfold putA
 rw [ea]
 by_cases a:(f.any fun q=>decide (q.1=k))=true
 ·rw [if_pos a]
  refine ⟨f.map fun p=>if p.1=k then (p.1,r) else p,?_,⟨?_,fun p hp=>?_⟩,by rw [List.length_map]; omega⟩
  ·unfold embB
   rw [List.map_map,List.map_map]
   apply List.map_congr_left
   intro p _
   simp only [Function.comp,sI]
   split <;> rfl
  ·rw [List.map_map]
   have:f.map ((fun x=>x.1) ∘ fun p=>if p.1=k then (p.1,r) else p)=f.map (·.1):=by
    apply List.map_congr_left
    intro p _
    simp only [Function.comp]
    split <;> rfl
   rw [this]
   exact h.nd
  ·obtain ⟨q,hq,rfl⟩:=List.mem_map.mp hp
   split
   ·rename_i e
    exact ⟨by rw [e]; exact hk,hr⟩
   ·exact h.it q hq
 ·rw [if_neg a]
  refine ⟨f++[(k,r)],by unfold embB; rw [List.map_append]; rfl,⟨?_,fun p hp=>?_⟩,by simp⟩
  ·rw [List.map_append]
   refine List.nodup_append.mpr ⟨h.nd,by simp,fun x hx y hy e=>?_⟩
   have hy:y=k:=by simpa using hy
   subst hy
   subst e
   obtain ⟨q,hq,e⟩:=List.mem_map.mp hx
   exact a (List.any_eq_true.mpr ⟨q,hq,by simpa using e⟩)
  ·rcases List.mem_append.mp hp with hp | hp
   ·exact h.it p hp
   ·rw [List.mem_singleton.mp hp]
    exact ⟨hk,hr⟩
theorem BR {f:List (List Int×Row)} {k:List Int} (h:k∈f.map (·.1)):∃ p∈f,p.1=k /\ fY (embB f) (kI k)=some (rowD p.2):=by
 induction f with
 | nil=>simp at h
 | cons q t ih =>
  by_cases e:q.1=k
  ·refine ⟨q,List.mem_cons_self,e,?_⟩
   unfold fY embB
   rw [List.map_cons,List.find?_cons_of_pos (by simpa [sI] using e)]
   rfl
  ·have h':k∈t.map (·.1):=by
    rw [List.map_cons] at h
    rcases List.mem_cons.mp h with h | h
    ·exact absurd h.symm e
    ·exact h
   obtain ⟨p,h1,h2,h4⟩:=ih h'
   refine ⟨p,List.mem_cons_of_mem _ h1,h2,?_⟩
   unfold fY embB at h4 ⊢
   rw [List.map_cons,List.find?_cons_of_neg (by simpa [sI] using e)]
   exact h4
theorem oR {r:Row} (h:0 < (r.map (·.1)).sum):fj r:=by
 induction r with
 | nil=>simp at h
 | cons c t ih =>
  rw [List.map_cons,List.sum_cons] at h
  by_cases e:0 < c.1
  ·exact ⟨c,List.mem_cons_self,e⟩
  ·obtain ⟨d,hd,hp⟩:=ih (by omega)
   exact ⟨d,List.mem_cons_of_mem _ hd,hp⟩
theorem bl01 (b:Bool) {P:Int->Prop} (h0:P 0) (h1:P 1):P (if b=true then 1 else 0):=by cases b <;> assumption
theorem zK {ns:List Int} {k:Int} {Q:D->Prop} {lo hi:Int} (k0:0 <= k) (k1:k < ns.length) (hb:∀ n∈ns,lo <= n /\ n <= hi) (q:∀ n,lo <= n->n <= hi->Q (.int n)):opt (atI (ns.map D.int) k) Q:=by
 refine zb k0 (by rw [List.length_map]; exact k1) fun d hd=>?_
 obtain ⟨n,hn,rfl⟩:=List.mem_map.mp hd
 exact q n (hb n hn).1 (hb n hn).2
structure BkS (b:Bk) (mo:Int):Prop where
 c9:b.cells.length <= 9
 mks:(b.marks.length:Int) <= mo
 m1:∀ x∈b.marks,1 <= x /\ x <= 6
 up:(b.cells.map (·.1)).Pairwise fun x y=>ltI x y=true
def xr:DSp:=fun ds Q=>match ds with
 | [.pen,.int mo]=>(0 <= mo /\ mo <= 5) /\ ∀ b:Bk,BkOk b->BkK b->BkS b mo->Q (eO b)
 | _=>False
theorem qo:bG xr:=fun ds P P' f h=>by
 unfold xr at h ⊢
 split at h
 ·exact ⟨h.1,fun b o q z=>f _ (h.2 b o q z)⟩
 ·exact h.elim
theorem qp (T:Tx K mg):FnOk P w K mg base CX0 3 T.gH T.fF ["_law_pen_here","_law_most"] (spD K 2 xr):=by
 refine fnD (k:=2) T.dw.F sc__law_book (fun cdv A outer s H E hr=>(ba (aX (i:=2) sc__law_book.nd rfl (by first | exact Or.inl rfl | exact Or.inr rfl) (bS ga ag (bS qF (aj (aG T) aH (hr.mono (by decide)) rfl T.af.m T.af.F.kp T.af.b (aa (ac 0 (pv 0)) (aa ag ad))) (aW nV rfl T.mZ rfl (aa (jb (iD hr) (aj (aG T) aH (hr.mono (by decide)) rfl T.af.m T.af.F.kp T.af.b (aa (ac 0 (pv 0)) (aa ag ad))) ag (aJ _)) ad)))))
   (ba (aX (i:=3) sc__law_book.nd rfl (by first | exact Or.inl rfl | exact Or.inr rfl) (aW cM rfl T.bv rfl (aa (aF (PCD.pld (aw (N':=["_law_k","_law_pen_here"]) rfl rfl (by decide +kernel) rfl (.own (.cap (j:=0) rfl (by first | exact Or.inl rfl | exact Or.inr rfl) rfl .nil)) (by decide +kernel) (bu rfl T.cH (aa (aj (aG T) aH (hr.mono (by decide)) rfl T.af.m T.af.F.kp T.af.b (aa (ac 0 (pv 0)) (aa (bS ga (ac 1 (pv 1)) ag) ad))) ad)) (fun B=>(ai (i:=0) (show List.Nodup (α:=PySem.Str) ["_law_k","_law_pen_here"] by decide +kernel) rfl (by first | exact Or.inl rfl | exact Or.inr rfl))) (fun B=>aD) (fun B=>(bS ga ag (aj (aG T) aH (hr.mono (by decide)) rfl T.af.m T.af.F.kp T.af.b (aa (ac 1 (pv 1)) (aa (ar (aF (fc (aa ag (aa ag ad)))) (aW nV rfl T.mZ rfl (aa (jb (iD hr) (aj (aG T) aH (hr.mono (by decide)) rfl T.af.m T.af.F.kp T.af.b (aa (ac 1 (pv 1)) (aa ag ad))) ag (aJ _)) ad)) (fun _ _=>rfl)) ad)))))))) ad)))
   (al (pO (i:=4) sc__law_book.nd rfl (by first | exact Or.inl rfl | exact Or.inr rfl))
   (ba (dF PassesOwn.never rfl (bu rfl T.cH (aa (aj (aG T) aH (hr.mono (by decide)) rfl T.af.m T.af.F.kp T.af.b (aa (ac 0 (pv 0)) (aa ag ad))) ad)) (ai (i:=5) sc__law_book.nd rfl (by first | exact Or.inl rfl | exact Or.inr rfl)) (al (aX (i:=6) sc__law_book.nd rfl (by first | exact Or.inl rfl | exact Or.inr rfl) (aW cM rfl T.bv rfl (aa (aF (PCD.pld (aw (N':=["_law_kinds","_law_pen_here"]) rfl rfl (by decide +kernel) rfl (.own (.cap (j:=0) rfl (by first | exact Or.inl rfl | exact Or.inr rfl) rfl .nil)) (by decide +kernel) (dG (ac 3 (pv 3))) (fun B=>(ai (i:=0) (show List.Nodup (α:=PySem.Str) ["_law_kinds","_law_pen_here"] by decide +kernel) rfl (by first | exact Or.inl rfl | exact Or.inr rfl))) (fun B=>aD) (fun B=>(aj (aG T) aH (hr.mono (by decide)) rfl T.af.m T.af.F.kp T.af.b (aa (ac 1 (pv 1)) (aa (ac 0 (pv 0)) ad))))))) ad)))
   (al (aX (i:=7) sc__law_book.nd rfl (by first | exact Or.inl rfl | exact Or.inr rfl) (aW cM rfl T.bv rfl (aa (aF (PCD.pld (aw (N':=["_law_house","_law_pen_here"]) rfl rfl (by decide +kernel) rfl (.own (.cap (j:=0) rfl (by first | exact Or.inl rfl | exact Or.inr rfl) rfl .nil)) (by decide +kernel) (bu rfl T.cH (aa (ac 2 (pv 2)) ad)) (fun B=>(ai (i:=0) (show List.Nodup (α:=PySem.Str) ["_law_house","_law_pen_here"] by decide +kernel) rfl (by first | exact Or.inl rfl | exact Or.inr rfl))) (fun B=>aD) (fun B=>(aj (oQ T) oP (hr.mono (by decide)) rfl T.cF.m T.cF.F.kp T.cF.b (aa (ac 1 (pv 1)) ad)))))) ad)))
   (ah (cz (aV wu (aq lr rfl T.qw PyProof.Rows.boot_sum (aa (aF (PCD.pld (aw (N':=["_law_tried","_law_well"]) rfl rfl (by decide +kernel) rfl (.own (.own .nil)) (by decide +kernel) (dG (ac 7 (pv 7))) (fun B=>(dY (n:=2) rfl (aE (ai (i:=0) (show List.Nodup (α:=PySem.Str) ["_law_tried","_law_well"] by decide +kernel) rfl (by first | exact Or.inl rfl | exact Or.inr rfl)) (aE (ai (i:=1) (show List.Nodup (α:=PySem.Str) ["_law_tried","_law_well"] by decide +kernel) rfl (by first | exact Or.inl rfl | exact Or.inr rfl)) ce)))) (fun B=>aD) (fun B=>(ac 0 (pv 0)))))) ad)) ag (aJ _)) (ah (uB hr (pv 4) (ac 6 (pv 6)) (ac 7 (pv 7)))) aP)))))
   (ah (aI (cu (aa (ac 2 (pv 2)) (aa (ac 3 (pv 3)) (aa (aW cM rfl T.bv rfl (aa (aF (PCD.pld (aw (N':=["_law_kinds","_law_found"]) rfl rfl (by decide +kernel) rfl (.own (.cap (j:=4) rfl (by first | exact Or.inl rfl | exact Or.inr rfl) rfl .nil)) (by decide +kernel) (bn (aq mB rfl T.ix (by decide +kernel) (aa (ac 4 (pv 4)) ad))) (fun B=>(ai (i:=0) (show List.Nodup (α:=PySem.Str) ["_law_kinds","_law_found"] by decide +kernel) rfl (by first | exact Or.inl rfl | exact Or.inr rfl))) (fun B=>aD) (fun B=>(cu (aa (ac 0 (pv 0)) (aa (uC hr (ac 1 (pv 1)) (ac 0 (pv 0)) (fun _ _=>rfl)) ad))))))) ad)) ad))))))))))) (fun ds Q hl h=>?_)
 unfold xr at h
 split at h
 case h_2=>exact h.elim
 rename_i mo
 obtain ⟨⟨mo0,mo1⟩,h⟩:=h
 refine ⟨fun ρ=>∃ m:Nat,2 <= m /\ m <= 6 /\ ρ=[.val .pen,.val (.int mo),.val (.int m),.nil,.nil,.nil,.nil,.nil],⟨rfl,⟨by decide,by decide⟩,fun a a0 a1=>⟨rfl,⟨by decide,by decide⟩,fun c c0 c1=>⟨⟨rfl,rfl⟩,.inl ⟨by omega,by omega⟩,?_⟩⟩⟩,?_⟩
 ·have hm:∃ m:Nat,2 <= m /\ m <= 6 /\ 2 + a * (if eqD (.int c) (.int 1)=true then (1:Int) else 0)=(m:Int):=by
   refine bl01 (P:=fun x=>∃ m:Nat,2 <= m /\ m <= 6 /\ 2 + a * x=(m:Int)) _ ⟨2,by omega,by omega,by omega⟩ ⟨(2 + a).toNat,by omega,by omega,by omega⟩
  obtain ⟨m,m2,m6,em⟩:=hm
  exact ⟨m,m2,m6,by rw [← em]; rfl⟩
 rintro _ ⟨m,m2,m6,rfl⟩
 refine ⟨fun ρ=>∃ ms:List Int,(ms.length <= 5 /\ (ms.length:Int) <= mo) /\ (∀ x∈ms,1 <= x /\ x <= 6) /\ ρ=[.val .pen,.val (.int mo),.val (.int m),.val (cq ms),.nil,.nil,.nil,.nil],⟨rfl,⟨by omega,by omega⟩,fun n n0 n1=>⟨⟨by omega,by omega⟩,?_⟩⟩,?_⟩
 ·refine bH (fun pre acc ρ=>∃ ms:List Int,acc=ms.map D.int /\ ms.length=pre.length /\ (∀ x∈ms,1 <= x /\ x <= 6) /\ ∃ s,ρ=[s,.val .pen]) (fun acc ρ hN=>?_) (fun pre d post acc ρ Y e hN hY=>?_) _ ⟨[],rfl,rfl,fun x hx=>by simp at hx,_,rfl⟩
  ·obtain ⟨ms,rfl,el,hv,_⟩:=hN
   rw [aR,List.length_map,List.length_range] at el
   exact ⟨ms,⟨by omega,by omega⟩,hv,rfl⟩
  ·obtain ⟨ms,rfl,el,hv,s,rfl⟩:=hN
   have hlen:(fe 0 n.toNat).length=pre.length + (post.length + 1):=by rw [e]; simp
   rw [aR,List.length_map,List.length_range] at hlen
   refine Br.t ⟨sz,rfl,⟨by decide,by decide⟩,fun q q0 q1=>⟨⟨rfl,rfl⟩,zK (ns:=[3,6]) (lo:=1) (hi:=6) (bl01 (P:=fun x=>0 <= x) _ (by decide) (by decide)) (bl01 (P:=fun x=>x < ([3,6]:List Int).length) _ (by decide) (by decide)) (by decide) fun v v1 v2=>⟨rfl,⟨by omega,by omega⟩,fun r r0 r1=>⟨?_,hY _ _ ⟨ms++[1 + r],by simp,by simp [el],fun x hx=>?_,_,rfl⟩⟩⟩⟩⟩
   ·rw [List.length_map]
    exact Nat.lt_of_le_of_lt (show ms.length <= 10 by omega) (by decide)
   ·rcases List.mem_append.mp hx with hx | hx
    ·exact hv x hx
    ·rw [List.mem_singleton.mp hx]
     omega
 rintro _ ⟨ms,⟨ml,mlo⟩,mv,rfl⟩
 refine ⟨fun ρ=>∃ f:List (List Int×Row),FOk m ms f /\ f.length <= 9 /\ ∃ a b c:Sl,ρ=[.val .pen,.val (.int mo),.val (.int m),.val (cq ms),.obj (dvO (embB f)),a,b,c],⟨rfl,⟨by decide,by decide⟩,fun n n0 n1=>⟨⟨by omega,by omega⟩,?_⟩⟩,?_⟩
 ·refine mf (fun k ρ=>∃ f:List (List Int×Row),FOk m ms f /\ (f.length:Int) <= k /\ ∃ a b c:Sl,ρ=[.val .pen,.val (.int mo),.val (.int m),.val (cq ms),.obj (dvO (embB f)),a,b,c]) _ _ ?_ ?_ _ ⟨[],⟨List.nodup_nil,fun p hp=>by simp at hp⟩,by simp,_,_,_,rfl⟩
  ·rintro ρ ⟨f,fo,fl,a,b,c,rfl⟩
   exact ⟨f,fo,by omega,a,b,c,rfl⟩
  ·rintro k ρ X k0 k1 ⟨f,fo,fl,a,b,c,rfl⟩ hX
   refine bH (fun pre acc ρ=>∃ m0 m1 ks:List Int,ms=m0++m1 /\ pre=m0.map D.int /\ acc=ks.map D.int /\ KsOk m0 ks /\ ∃ s,ρ=[s,.val .pen]) (fun acc ρ hN=>?_) (fun pre d post acc ρ Y e hN hY=>?_) _ ⟨[],ms,[],rfl,rfl,rfl,⟨rfl,fun i hi=>absurd hi (Nat.not_lt_zero i)⟩,_,rfl⟩
   ·obtain ⟨m0,m1,ks,e1,e2,rfl,kl,s,rfl⟩:=hN
    have:m1=[]:=by
     have:=congrArg List.length e2
     rw [e1] at this
     simp at this
     exact this
    subst this
    rw [List.append_nil] at e1
    rw [← e1] at kl
    refine ⟨⟨by omega,by omega⟩,?_⟩
    refine bH (fun pre acc ρ=>∃ r:Row,acc=r.map ax /\ r.length=pre.length /\ (∀ c∈r,Cnt 110 c.1 c.2) /\ ∃ s,ρ=[s,.val .pen]) (fun acc ρ hN=>?_) (fun pre d post acc ρ Y e hN hY=>?_) _ ⟨[],rfl,rfl,fun c hc=>by simp at hc,_,rfl⟩
    ·obtain ⟨r,rfl,hl,hc,_⟩:=hN
     rw [aR,List.length_map,List.length_range] at hl
     have hl':r.length=m:=by omega
     refine vB (by omega) (gl (Br.di (fun z=>?_) (fun z=>hX _ ⟨f,fo,by omega,_,_,_,rfl⟩)))
     obtain ⟨f',e,fo',fl'⟩:=fo.put (k:=ks) (r:=r) kl ⟨⟨hl',hc⟩,oR z⟩
     refine ⟨trivial,embB f,kI ks,rfl,dP ks,?_,?_⟩
     ·unfold embB
      rw [List.length_map]
      exact Nat.lt_of_le_of_lt (show f.length <= 100 by omega) (by decide)
     ·have e':putA (embB f) (kI ks) (.tup (r.map ax))=embB f':=e
      rw [e']
      exact hX _ ⟨f',fo',by omega,_,_,_,rfl⟩
    ·obtain ⟨r,rfl,hl,hc,s,rfl⟩:=hN
     refine Br.t ⟨rfl,fun t w cw=>⟨?_,hY _ _ ⟨r++[(t,w)],by simp [ax],by simp [hl],fun c hc'=>?_,_,rfl⟩⟩⟩
     ·have hlen:(fe 0 ((m:Int)).toNat).length=pre.length + (post.length + 1):=by rw [e]; simp
      rw [aR,List.length_map,List.length_range] at hlen
      rw [List.length_map]
      exact Nat.lt_of_le_of_lt (show r.length <= 100 by omega) (by decide)
     ·rcases List.mem_append.mp hc' with hc' | hc'
      ·exact hc c hc'
      ·rw [List.mem_singleton.mp hc']; exact cw
   ·obtain ⟨m0,m1,ks,e1,rfl,rfl,kl,s,rfl⟩:=hN
    rw [e1,List.map_append] at e
    have e:=List.append_cancel_left e
    cases m1 with
    | nil=>simp at e
    | cons x m1 =>
     rw [List.map_cons] at e
     injection e with e3 e4
     subst e3
     have hx:=mv x (by rw [e1]; simp)
     rw [e1,List.length_append] at ml
     refine Br.t ⟨rfl,⟨by omega,by omega⟩,fun r r0 r1=>⟨?_,hY _ _ ⟨m0++[x],m1,ks++[r],by rw [e1]; simp,by simp,by simp,kl.snoc r0 r1,_,rfl⟩⟩⟩
     rw [List.length_map,kl.1]
     exact Nat.lt_of_le_of_lt (show m0.length <= 10 by omega) (by decide)
 rintro _ ⟨f,fo,fl,a,b,c,rfl⟩
 have hk:(embB f).map (·.1)=(f.map (·.1)).map kI:=by unfold embB; rw [List.map_map,List.map_map]; rfl
 have kl:(f.map (·.1)).length <= 9:=by rw [List.length_map]; exact fl
 have kln:∀ k∈f.map (·.1),k.length=ms.length:=fun k hk=>by
  obtain ⟨p,hp,rfl⟩:=List.mem_map.mp hk
  exact (fo.it p hp).1.1
 have sl:(dh (f.map (·.1))).length <= 9:=by rw [(bf _).length_eq]; exact kl
 have cA:∀ k∈(embB f).map (·.1),dA k:=fun k hk'=>by
  rw [hk] at hk'
  obtain ⟨k',_,rfl⟩:=List.mem_map.mp hk'
  exact jC k'
 have cB:2 <= ((embB f).map (·.1)).length->∀ k∈(embB f).map (·.1),k≠[]:=fun h2 k hk'=>by
  rw [hk] at h2 hk'
  rw [List.length_map] at h2
  obtain ⟨k',hk2,rfl⟩:=List.mem_map.mp hk'
  intro z
  exact qh fo.nd kln h2 k' hk2 (ie (b:=[]) z)
 have cC:((embB f).map (·.1)).length < 64:=by rw [hk,List.length_map]; omega
 have e1:(srtK ((embB f).map (·.1))).map keyD=(dh (f.map (·.1))).map cq:=by
  rw [hk,mL,List.map_map]
  apply List.map_congr_left
  intro k _
  exact (dP k).symm
 refine ⟨⟨cA,cB,cC⟩,?_⟩
 show bX _ _ _ ((srtK ((embB f).map (·.1))).map keyD) _ _ _
 rw [e1]
 refine bH (fun pre acc ρ=>∃ k0 k1:List (List Int),∃ cs:List (List Int×Row),dh (f.map (·.1))=k0++k1 /\ pre=k0.map cq /\ acc=cs.map bq /\ cs.map (·.1)=k0 /\ (∀ p∈cs,p∈f) /\ ∃ s:Sl,ρ=[s,.val (fzO (dvO (embB f)))]) (fun acc ρ hN=>?_) (fun pre d post acc ρ Y e hN hY=>?_) _ ⟨[],_,[],rfl,rfl,rfl,rfl,fun p hp=>by simp at hp,_,rfl⟩
 ·obtain ⟨k0,k1,cs,e3,e4,rfl,cl,hc,s,rfl⟩:=hN
  have:k1=[]:=by
   have:=congrArg List.length e4
   rw [e3] at this
   simp at this
   exact this
  subst this
  rw [List.append_nil] at e3
  have up:=ig fo.nd
  rw [e3] at sl up
  have cl9:cs.length <= 9:=by rw [← List.length_map (·.1) (as:=cs),cl]; exact sl
  exact ⟨sz,h ⟨m,ms,cs⟩ ⟨m2,m6,ml,by show cs.length <= 60; omega,fun c hc'=>⟨(fo.it c (hc c hc')).1.1,(fo.it c (hc c hc')).2⟩⟩ (fun c hc'=>(fo.it c (hc c hc')).1) ⟨cl9,mlo,mv,by show (cs.map (·.1)).Pairwise _; rw [cl]; exact up⟩⟩
 ·obtain ⟨k0,k1,cs,e3,rfl,rfl,cl,hc,s,rfl⟩:=hN
  rw [e3,List.map_append] at e
  have e:=List.append_cancel_left e
  cases k1 with
  | nil=>simp at e
  | cons k k1 =>
   rw [List.map_cons] at e
   injection e with e4 e5
   subst e4
   have hk':k∈dh (f.map (·.1)):=by rw [e3]; simp
   obtain ⟨p,hp,hpk,h4⟩:=BR ((bf _).mem_iff.mp hk')
   rw [e3,List.length_append] at sl
   refine Br.t ⟨embB f,kI k,rowD p.2,BQ _,dP k,h4,sz,?_,hY _ _ ⟨k0++[k],k1,cs++[p],by rw [e3]; simp,by simp,by rw [List.map_append,← hpk]; rfl,by rw [List.map_append,cl]; show k0++[p.1]=_; rw [hpk],fun q hq=>?_,_,rfl⟩⟩
   ·have cl9:cs.length <= 9:=by rw [← List.length_map (·.1) (as:=cs),cl]; omega
    rw [List.length_map]
    exact Nat.lt_of_le_of_lt cl9 (by decide)
   ·rcases List.mem_append.mp hq with hq | hq
    ·exact hc q hq
    ·rw [List.mem_singleton.mp hq]; exact hp
theorem lE (m:Nat) (ps:List (List Int×Row)):(bh m ps).map (·.1)=dh ((grp ps).map (·.1)):=by
 unfold bh
 rw [List.map_map]
 exact List.map_id _
theorem xt (m:Nat) (ps:List (List Int×Row)):((bh m ps).map (·.1)).Pairwise fun a b=>ltI a b=true:=by
 rw [lE]
 exact ig (vp _)
theorem vE {m:Nat} {ps:List (List Int×Row)} {k:List Int}:k∈(bh m ps).map (·.1)↔k∈ps.map (·.1):=by
 rw [lE,(bf _).mem_iff,mM]
theorem vF {m:Nat} {ps:List (List Int×Row)} {c:List Int×Row} (h:c∈bh m ps):c.2=sums ((ps.filter fun p=>decide (p.1=c.1)).map (·.2)) m:=by
 unfold bh at h
 obtain ⟨k,_,rfl⟩:=List.mem_map.mp h
 show sums (bb (grp ps) k) m=_
 rw [iM]
theorem xu (m:Nat) (ps:List (List Int×Row)):bh m ps=((bh m ps).map (·.1)).map fun k=>(k,sums ((ps.filter fun p=>decide (p.1=k)).map (·.2)) m):=by
 rw [List.map_map]
 conv=>lhs; rw [← List.map_id (bh m ps)]
 apply List.map_congr_left
 intro c hc
 show c=(c.1,_)
 rw [← vF hc]
theorem vG {rows:List Row} {n h:Nat} (hh:h < n):at_ (sums rows n) h=sumP (col rows h):=by
 unfold at_ sums
 rw [List.getD_eq_getElem?_getD,List.getElem?_map,List.getElem?_range hh]
 rfl
theorem sum1 {r:Row} {m:Nat} (h:r.length=m):sums [r] m=r:=by
 subst h
 unfold sums
 have:(List.range r.length).map (fun h=>sumP (col [r] h))=(List.range r.length).map fun h=>r.getD h (0,0):=by
  apply List.map_congr_left
  intro h _
  unfold sumP col at_
  simp
 rw [this]
 exact ij (0,0) r
theorem lF {ps:List (List Int×Row)} (nd:(ps.map (·.1)).Nodup) {p:List Int×Row} (hp:p∈ps):ps.filter (fun q=>decide (q.1=p.1))=[p]:=by
 induction ps with
 | nil=>simp at hp
 | cons q ps ih =>
  obtain ⟨n1,n2⟩:=List.nodup_cons.mp (by simpa using nd:(q.1::ps.map (·.1)).Nodup)
  rcases List.mem_cons.mp hp with rfl | hp
  ·rw [List.filter_cons_of_pos (by simp),List.filter_eq_nil_iff.mpr]
   intro q' hq' z
   exact n1 (List.mem_map.mpr ⟨q',hq',by simpa using z⟩)
  ·rw [List.filter_cons_of_neg,ih n2 hp]
   intro z
   have z:q.1=p.1:=by simpa using z
   exact n1 (List.mem_map.mpr ⟨p,hp,z.symm⟩)
theorem zL {l:List (List Int)} (h:l.Pairwise fun a b=>ltI a b=true):l.Nodup:=h.imp fun {a b} hab z=>by
 rw [z,iL] at hab
 cases hab
theorem lG {m:Nat} {ps:List (List Int×Row)} (up:(ps.map (·.1)).Pairwise fun a b=>ltI a b=true) (hl:∀ p∈ps,p.2.length=m):bh m ps=ps:=by
 rw [xu]
 have ek:(bh m ps).map (·.1)=ps.map (·.1):=xb (xt m ps) up fun k=>vE
 rw [ek,List.map_map]
 conv=>rhs; rw [← List.map_id ps]
 apply List.map_congr_left
 intro p hp
 show (p.1,sums ((ps.filter fun q=>decide (q.1=p.1)).map (·.2)) m)=p
 rw [lF (zL up) hp,List.map_singleton,sum1 (hl p hp)]
theorem zM {n m:Nat} {r:Row} (o:RowN n m r) (h:dj r=false) {k:Nat} (hk:k < m):at_ r k=(0,0):=by
 have c:=(gc o hk)
 have nt:¬ fj r:=fun z=>by rw [triedB_iff.mpr z] at h; cases h
 have:¬ 0 < (at_ r k).1:=fun z=>nt ⟨_,List.mem_of_getElem? c.1,z⟩
 have l:=c.2.lo
 have u:=c.2.hi
 exact Prod.ext (by show _=(0:Int); omega) (by show _=(0:Int); omega)
theorem lH {n m:Nat} {rows:List Row} (ho:∀ r∈rows,RowN n m r):sums (rows.filter dj) m=sums rows m:=by
 unfold sums
 apply List.map_congr_left
 intro h hh
 have hh:=List.mem_range.mp hh
 induction rows with
 | nil=>rfl
 | cons r rows ih =>
  have ih:=ih fun r hr=>ho r (List.mem_cons_of_mem _ hr)
  cases z:dj r with
  | true =>
   rw [List.filter_cons_of_pos z]
   unfold sumP col at ih ⊢
   simp only [List.map_cons,List.sum_cons]
   injection ih with i1 i2
   rw [i1,i2]
  | false =>
   rw [List.filter_cons_of_neg (by rw [z]; exact Bool.false_ne_true),ih]
   have:=zM (ho r List.mem_cons_self) z hh
   unfold sumP col
   simp only [List.map_cons,List.sum_cons,this]
   simp
theorem vH:∀ {a b:List Int} (x y:List Int),a.length=b.length->ltI a b=true->ltI (a++x) (b++y)=true
 | [],[],_,_,_,h=>by cases h
 | [],_::_,_,_,h,_=>by simp at h
 | _::_,[],_,_,h,_=>by simp at h
 | a::r,b::s,x,y,h,e=>by
  have e:(if a=b then ltI r s else decide (a < b))=true:=e
  show (if a=b then ltI (r++x) (s++y) else decide (a < b))=true
  by_cases z:a=b
  ·rw [if_pos z] at e ⊢
   exact vH x y (by simpa using h) e
  ·rw [if_neg z] at e ⊢
   exact e
theorem rK:∀ (c:List Int) {a b:Int},a < b->ltI (c++[a]) (c++[b])=true
 | [],a,b,h=>by
  show (if a=b then false else decide (a < b))=true
  rw [if_neg (by omega)]
  exact decide_eq_true h
 | d::c,a,b,h=>by
  show (if d=d then ltI (c++[a]) (c++[b]) else _)=true
  rw [if_pos rfl]
  exact rK c h
theorem psH_mem {b:Bk} {x y m n:Nat} {S1 S2:Nat->Nat->Int×Int} {p:List Int×Row}:p∈psH b x y m S1 S2 n↔∃ i,i < n /\ ∃ k,k < m /\ p=psI b x y S1 S2 i k:=by
 unfold psH
 rw [List.mem_flatMap]
 constructor
 ·rintro ⟨i,hi,hp⟩
  obtain ⟨k,hk,rfl⟩:=List.mem_map.mp hp
  exact ⟨i,List.mem_range.mp hi,k,List.mem_range.mp hk,rfl⟩
 ·rintro ⟨i,hi,k,hk,rfl⟩
  exact ⟨i,List.mem_range.mpr hi,List.mem_map.mpr ⟨k,List.mem_range.mpr hk,rfl⟩⟩
theorem cO {b:Bk} {i:Nat} (hi:i < b.cells.length):aM b i∈b.cells:=by
 unfold aM
 rw [List.getD_eq_getElem?_getD,List.getElem?_eq_getElem hi]
 exact List.getElem_mem hi
theorem mQ {b:Bk} {i:Nat} (hi:i < b.cells.length):aM b i=b.cells[i]:=by
 unfold aM
 rw [List.getD_eq_getElem?_getD,List.getElem?_eq_getElem hi]
 rfl
theorem qq {b:Bk} (up:(b.cells.map (·.1)).Pairwise fun x y=>ltI x y=true) {i j:Nat} (hij:i < j) (hj:j < b.cells.length):ltI (aM b i).1 (aM b j).1=true:=by
 rw [List.pairwise_iff_getElem] at up
 have:=up i j (by rw [List.length_map]; omega) (by rw [List.length_map]; omega) hij
 rw [List.getElem_map,List.getElem_map] at this
 rw [mQ (by omega),mQ hj]
 exact this
theorem vI {b:Bk} (bo:BkOk b) (up:(b.cells.map (·.1)).Pairwise fun x y=>ltI x y=true) {x y m:Nat} {S1 S2:Nat->Nat->Int×Int}:∀ n,n <= b.cells.length->((psH b x y m S1 S2 n).map (·.1)).Pairwise fun x y=>ltI x y=true
 | 0,_=>by simp [psH]
 | n + 1,h=>by
  rw [rG,List.map_append,List.map_map,List.pairwise_append]
  refine ⟨vI bo up n (by omega),?_,fun p hp q hq=>?_⟩
  ·rw [List.pairwise_map]
   exact List.pairwise_lt_range.imp fun {i j} hij=>rK _ (by omega)
  ·obtain ⟨p',hp',rfl⟩:=List.mem_map.mp hp
   obtain ⟨i,hi,k,_,rfl⟩:=psH_mem.mp hp'
   obtain ⟨k',_,rfl⟩:=List.mem_map.mp hq
   exact vH _ _ (by rw [(bo.it _ (cO (show i < b.cells.length by omega))).1,(bo.it _ (cO (show n < b.cells.length by omega))).1]) (qq up hi (by omega))
theorem mR {b:Bk} (bo:BkOk b) {x y:Nat} (hxy:x≠y) (hx:x < b.m) (hy:y < b.m) (S1 S2:Nat->Nat->Int×Int) {i:Nat} (hi:i < b.cells.length) (k:Nat) {h:Nat} (hh:h < b.m) :
  at_ (rowH b x y S1 S2 i k) h=if h=y then S2 i k else if h=x then S1 i k else if k=0 then at_ (aM b i).2 h else (0,0):=by
 have l0:(if k=0 then (aM b i).2 else zR b.m).length=b.m:=by
  split
  ·exact (bo.it _ (cO hi)).2.1.1
  ·unfold zR; simp
 have e0:at_ (if k=0 then (aM b i).2 else zR b.m) h=if k=0 then at_ (aM b i).2 h else (0,0):=by
  split
  ·rfl
  ·unfold at_ zR
   rw [List.getD_eq_getElem?_getD,List.getElem?_replicate,if_pos hh]
   rfl
 unfold rowH
 generalize (if k=0 then (aM b i).2 else zR b.m)=r0 at l0 e0
 show ((r0.set x (S1 i k)).set y (S2 i k)).getD h (0,0)=_
 by_cases z1:h=y
 ·subst z1
  rw [if_pos rfl,List.getD_eq_getElem?_getD,List.getElem?_set_self (by rw [List.length_set,l0]; exact hy)]
  rfl
 ·rw [if_neg z1,List.getD_eq_getElem?_getD,List.getElem?_set_ne (fun e=>z1 e.symm)]
  by_cases z2:h=x
  ·subst z2
   rw [if_pos rfl,List.getElem?_set_self (by rw [l0]; exact hx)]
   rfl
  ·rw [if_neg z2,List.getElem?_set_ne (fun e=>z2 e.symm),← List.getD_eq_getElem?_getD]
   exact e0
theorem ku {α:Type} (f g:α->Int):∀ l:List α,(l.map fun a=>f a + g a).sum=(l.map f).sum + (l.map g).sum
 | []=>rfl
 | a::l=>by
  rw [List.map_cons,List.map_cons,List.map_cons,List.sum_cons,List.sum_cons,List.sum_cons,ku f g l]
  omega
theorem mS (F G:Nat->Nat->Int) {α:Type} (l:List α) (u v:α->Nat):sumP (l.map fun a=>entS F G (u a) (v a))=((l.map fun a=>F (u a) (v a)).sum + (l.map fun a=>G (u a) (v a)).sum,(l.map fun a=>F (u a) (v a)).sum):=by
 unfold sumP
 rw [List.map_map,List.map_map]
 exact Prod.ext (ku (fun a=>F (u a) (v a)) (fun a=>G (u a) (v a)) l) rfl
theorem vJ (c:Int×Int) (m:Nat):sumP ((List.range (m + 1)).map fun k=>if k=0 then c else (0,0))=c:=by
 have:∀ m:Nat,(List.range (m + 1)).map (fun k=>if k=0 then c else ((0,0):Int×Int))=c::List.replicate m (0,0):=fun m=>by
  rw [List.range_succ_eq_map,List.map_cons,List.map_map,if_pos rfl]
  congr 1
  apply List.ext_getElem
  ·simp
  ·intro i h1 h2
   simp
 rw [this]
 unfold sumP
 simp
section
variable {b:Bk} {x y m:Int} {rows:List Prt} {F1 G1 F2 G2:Nat->Nat->Int}
theorem BS (b:Bk) (x:Nat) {i:Nat} (hi:i < b.cells.length):(b.cells.map fun c=>at_ c.2 x).getD i (0,0)=at_ (aM b i).2 x:=by
 unfold aM
 rw [List.getD_eq_getElem?_getD,List.getD_eq_getElem?_getD,List.getElem?_map,List.getElem?_eq_getElem hi]
 rfl
theorem xv (o:HOk b x y m) (h:HidF b x.toNat y.toNat m rows F1 G1 F2 G2) {i:Nat} (hi:i < b.cells.length):sums ((List.range m.toNat).map (rowH b x.toNat y.toNat (entS F1 G1) (entS F2 G2) i)) b.m=(aM b i).2:=by
 have bo:=o.bo
 have x0:=o.x0
 have x1:=o.x1
 have y0:=o.y0
 have y1:=o.y1
 have xy:x.toNat≠y.toNat:=fun z=>o.xy (by omega)
 have m2:=o.m2
 have rl:=h.pt.len
 have cl:=(bo.it _ (cO hi)).2.1.1
 have hi1:i < (b.cells.map fun c=>at_ c.2 x.toNat).length:=by rw [List.length_map]; exact hi
 have hi2:i < (b.cells.map fun c=>at_ c.2 y.toNat).length:=by rw [List.length_map]; exact hi
 have e:∀ h',h' < b.m->sumP (col ((List.range m.toNat).map (rowH b x.toNat y.toNat (entS F1 G1) (entS F2 G2) i)) h')=at_ (aM b i).2 h':=fun h' hh=>by
  have ec:col ((List.range m.toNat).map (rowH b x.toNat y.toNat (entS F1 G1) (entS F2 G2) i)) h'=(List.range m.toNat).map fun k=>if h'=y.toNat then entS F2 G2 i k else if h'=x.toNat then entS F1 G1 i k else if k=0 then at_ (aM b i).2 h' else (0,0):=by
   unfold col
   rw [List.map_map]
   apply List.map_congr_left
   intro k _
   exact mR bo xy (by omega) (by omega) _ _ hi k hh
  rw [ec]
  by_cases z1:h'=y.toNat
  ·simp only [if_pos z1]
   have w:=h.s2.w.row i hi2
   have j:=h.s2.i.row i hi2
   rw [List.length_map,rl,BS b y.toNat hi] at w j
   rw [mS F2 G2 (List.range m.toNat) (fun _=>i) (fun k=>k),z1]
   show (((List.range m.toNat).map (F2 i)).sum + ((List.range m.toNat).map (G2 i)).sum,((List.range m.toNat).map (F2 i)).sum)=_
   rw [w,j]
   exact Prod.ext (by show _ + _=_; omega) rfl
  ·simp only [if_neg z1]
   by_cases z2:h'=x.toNat
   ·simp only [if_pos z2]
    have w:=h.s1.w.row i hi1
    have j:=h.s1.i.row i hi1
    rw [List.length_map,rl,BS b x.toNat hi] at w j
    rw [mS F1 G1 (List.range m.toNat) (fun _=>i) (fun k=>k),z2]
    show (((List.range m.toNat).map (F1 i)).sum + ((List.range m.toNat).map (G1 i)).sum,((List.range m.toNat).map (F1 i)).sum)=_
    rw [w,j]
    exact Prod.ext (by show _ + _=_; omega) rfl
   ·simp only [if_neg z2]
    obtain ⟨m',em⟩:∃ m',m.toNat=m' + 1:=⟨m.toNat - 1,by omega⟩
    rw [em]
    exact vJ _ _
 unfold sums
 have e2:(List.range b.m).map (fun h'=>sumP (col ((List.range m.toNat).map (rowH b x.toNat y.toNat (entS F1 G1) (entS F2 G2) i)) h'))=(List.range b.m).map fun h'=>(aM b i).2.getD h' (0,0):=by
  apply List.map_congr_left
  intro h' hh
  exact e h' (List.mem_range.mp hh)
 rw [e2]
 have:=ij (0,0) (aM b i).2
 rw [cl] at this
 exact this
theorem xw (o:HOk b x y m) (h:HidF b x.toNat y.toNat m rows F1 G1 F2 G2) {k:Nat} {r:Prt} (hk:rows[k]? = some r) :
  sumP (col ((List.range b.cells.length).map fun i=>rowH b x.toNat y.toNat (entS F1 G1) (entS F2 G2) i k) x.toNat)=r.1 /\ sumP (col ((List.range b.cells.length).map fun i=>rowH b x.toNat y.toNat (entS F1 G1) (entS F2 G2) i k) y.toNat)=r.2:=by
 have bo:=o.bo
 have x0:=o.x0
 have x1:=o.x1
 have y0:=o.y0
 have y1:=o.y1
 have xy:x.toNat≠y.toNat:=fun z=>o.xy (by omega)
 have kl:k < rows.length:=(List.getElem?_eq_some_iff.mp hk).1
 have e1:(rows.map (·.1)).getD k (0,0)=r.1:=by rw [List.getD_eq_getElem?_getD,List.getElem?_map,hk]; rfl
 have e2:(rows.map (·.2)).getD k (0,0)=r.2:=by rw [List.getD_eq_getElem?_getD,List.getElem?_map,hk]; rfl
 have c1:col ((List.range b.cells.length).map fun i=>rowH b x.toNat y.toNat (entS F1 G1) (entS F2 G2) i k) x.toNat=(List.range b.cells.length).map fun i=>entS F1 G1 i k:=by
  unfold col
  rw [List.map_map]
  apply List.map_congr_left
  intro i hi
  show at_ (rowH b x.toNat y.toNat (entS F1 G1) (entS F2 G2) i k) x.toNat=_
  rw [mR bo xy (by omega) (by omega) _ _ (List.mem_range.mp hi) k (by omega),if_neg xy,if_pos rfl]
 have c2:col ((List.range b.cells.length).map fun i=>rowH b x.toNat y.toNat (entS F1 G1) (entS F2 G2) i k) y.toNat=(List.range b.cells.length).map fun i=>entS F2 G2 i k:=by
  unfold col
  rw [List.map_map]
  apply List.map_congr_left
  intro i hi
  show at_ (rowH b x.toNat y.toNat (entS F1 G1) (entS F2 G2) i k) y.toNat=_
  rw [mR bo xy (by omega) (by omega) _ _ (List.mem_range.mp hi) k (by omega),if_pos rfl]
 have w1:=h.s1.w.col k (by rw [List.length_map]; exact kl)
 have j1:=h.s1.i.col k (by rw [List.length_map]; exact kl)
 have w2:=h.s2.w.col k (by rw [List.length_map]; exact kl)
 have j2:=h.s2.i.col k (by rw [List.length_map]; exact kl)
 rw [List.length_map,e1] at w1 j1
 rw [List.length_map,e2] at w2 j2
 rw [c1,c2,mS F1 G1 _ (fun i=>i) (fun _=>k),mS F2 G2 _ (fun i=>i) (fun _=>k),w1,j1,w2,j2]
 exact ⟨Prod.ext (by show _ + _=_; omega) rfl,Prod.ext (by show _ + _=_; omega) rfl⟩
end
def dq (ks:List Int):Int:=ks.getLast?.getD 0
theorem oS (ks:List Int) (k:Int):dq (ks++[k])=k:=by unfold dq; simp
theorem xx {α:Type} {l:List Nat} (nd:l.Nodup) {i:Nat} (hi:i∈l) {f:Nat->List α} (h:∀ j∈l,j≠i->f j=[]):l.flatMap f=f i:=by
 induction l with
 | nil=>simp at hi
 | cons a l ih =>
  obtain ⟨n1,n2⟩:=List.nodup_cons.mp nd
  rw [List.flatMap_cons]
  by_cases z:a=i
  ·subst z
   have:l.flatMap f=[]:=by
    rw [List.flatMap_eq_nil_iff]
    intro j hj
    exact h j (List.mem_cons_of_mem _ hj) fun e=>n1 (e ▸ hj)
   rw [this,List.append_nil]
  ·rw [h a List.mem_cons_self z,List.nil_append]
   rcases List.mem_cons.mp hi with e | hi
   ·exact absurd e.symm z
   ·exact ih n2 hi fun j hj=>h j (List.mem_cons_of_mem _ hj)
section
variable {b:Bk} {x y m:Int} {rows:List Prt} {F1 G1 F2 G2:Nat->Nat->Int}
abbrev hps (b:Bk) (x y m:Int) (F1 G1 F2 G2:Nat->Nat->Int):List (List Int×Row):=psH b x.toNat y.toNat m.toNat (entS F1 G1) (entS F2 G2) b.cells.length
abbrev fnd (b:Bk) (x y m:Int) (F1 G1 F2 G2:Nat->Nat->Int):List (List Int×Row):=(hps b x y m F1 G1 F2 G2).filter fun c=>dj c.2
theorem vK (o:HOk b x y m) (h:HidF b x.toNat y.toNat m rows F1 G1 F2 G2):∀ p∈hps b x y m F1 G1 F2 G2,p.1.length=b.marks.length + 1 /\ RowN 110 b.m p.2:=fun p hp=>by
 obtain ⟨i,hi,k,hk,rfl⟩:=psH_mem.mp hp
 have rl:=h.pt.len
 refine ⟨?_,qm o.bo o.x0 o.x1 o.y0 o.y1 h hi (by omega)⟩
 show ((aM b i).1++[_]).length=_
 rw [List.length_append,List.length_singleton,(o.bo.it _ (cO hi)).1]
theorem xz (o:HOk b x y m) (up:(b.cells.map (·.1)).Pairwise fun x y=>ltI x y=true) (h:HidF b x.toNat y.toNat m rows F1 G1 F2 G2):(hidB b x.toNat y.toNat m F1 G1 F2 G2).cells=fnd b x y m F1 G1 F2 G2:=by
 show gath b.m (hps b x y m F1 G1 F2 G2)=_
 unfold gath
 rw [lG (vI o.bo up _ (Nat.le_refl _)) fun p hp=>(vK o h p hp).2.1]
theorem BT (o:HOk b x y m) (up:(b.cells.map (·.1)).Pairwise fun x y=>ltI x y=true):((fnd b x y m F1 G1 F2 G2).map (·.1)).Pairwise fun x y=>ltI x y=true :=
 (vI o.bo up _ (Nat.le_refl _)).sublist (List.filter_sublist.map _)
theorem zN (o:HOk b x y m):(fnd b x y m F1 G1 F2 G2).length <= 60:=by
 refine Nat.le_trans (List.length_filter_le _ _) ?_
 rw [mP]
 exact Nat.le_trans (Nat.mul_le_mul o.c9 (show m.toNat <= 6 by have:=o.m6; omega)) (by decide)
theorem lI {n mm:Nat} (ps:List (List Int×Row)) (ho:∀ p∈ps,RowN n mm p.2) {h:Nat} (hh:h < mm):sumP (col ((ps.filter fun c=>dj c.2).map (·.2)) h)=sumP (col (ps.map (·.2)) h):=by
 have e:(ps.filter fun c=>dj c.2).map (·.2)=(ps.map (·.2)).filter dj:=by rw [List.filter_map]; rfl
 rw [e,← vG (n:=mm) hh,← vG (n:=mm) hh,lH fun r hr=>by obtain ⟨p,hp,rfl⟩:=List.mem_map.mp hr; exact ho p hp]
theorem vL (b:Bk) (x y mm:Nat) (S1 S2:Nat->Nat->Int×Int) (n:Nat) {k:Nat} (hk:k < mm):(psH b x y mm S1 S2 n).filter (fun c=>decide (dq c.1=(k:Int)))=(List.range n).map fun i=>psI b x y S1 S2 i k:=by
 unfold psH
 rw [List.filter_flatMap]
 have:∀ i,((List.range mm).map (psI b x y S1 S2 i)).filter (fun c=>decide (dq c.1=(k:Int)))=[psI b x y S1 S2 i k]:=fun i=>by
  rw [List.filter_map]
  have e:((List.range mm).filter ((fun c=>decide (dq c.1=(k:Int))) ∘ psI b x y S1 S2 i))=(List.range mm).filter fun j=>decide (j=k):=by
   apply List.filter_congr
   intro j _
   show decide (dq ((aM b i).1++[(j:Int)])=(k:Int))=_
   rw [oS]
   by_cases z:j=k
   ·simp [z]
   ·rw [decide_eq_false (by omega),decide_eq_false z]
  rw [e]
  have:(List.range mm).filter (fun j=>decide (j=k))=[k]:=by
   have nd:=List.nodup_range (n:=mm)
   have hm:k∈List.range mm:=List.mem_range.mpr hk
   generalize List.range mm=l at nd hm
   induction l with
   | nil=>simp at hm
   | cons a l ih =>
    obtain ⟨n1,n2⟩:=List.nodup_cons.mp nd
    rcases List.mem_cons.mp hm with rfl | hm
    ·rw [List.filter_cons_of_pos (by simp),List.filter_eq_nil_iff.mpr]
     intro j hj z
     have z:j=k:=by simpa using z
     exact n1 (z ▸ hj)
    ·rw [List.filter_cons_of_neg,ih n2 hm]
     intro z
     have z:a=k:=by simpa using z
     exact n1 (z ▸ hm)
  rw [this]
  rfl
 rw [show (fun a=>((List.range mm).map (psI b x y S1 S2 a)).filter (fun c=>decide (dq c.1=(k:Int))))=fun a=>[psI b x y S1 S2 a k] from funext this,← List.map_eq_flatMap]
theorem xA (o:HOk b x y m) (h:HidF b x.toNat y.toNat m rows F1 G1 F2 G2) {k:Nat} {r:Prt} (hk:rows[k]? = some r) :
  sumP (col (((fnd b x y m F1 G1 F2 G2).filter fun c=>decide (dq c.1=(k:Int))).map (·.2)) x.toNat)=r.1 /\ sumP (col (((fnd b x y m F1 G1 F2 G2).filter fun c=>decide (dq c.1=(k:Int))).map (·.2)) y.toNat)=r.2:=by
 have rl:=h.pt.len
 have kl:k < m.toNat:=by rw [← rl]; exact (List.getElem?_eq_some_iff.mp hk).1
 have e:(fnd b x y m F1 G1 F2 G2).filter (fun c=>decide (dq c.1=(k:Int)))=((hps b x y m F1 G1 F2 G2).filter fun c=>decide (dq c.1=(k:Int))).filter fun c=>dj c.2:=by
  unfold fnd
  rw [List.filter_filter,List.filter_filter]
  apply List.filter_congr
  intro c _
  exact Bool.and_comm _ _
 have ok:∀ p∈(hps b x y m F1 G1 F2 G2).filter (fun c=>decide (dq c.1=(k:Int))),RowN 110 b.m p.2:=fun p hp=>(vK o h p (List.mem_filter.mp hp).1).2
 have x0:=o.x0
 have x1:=o.x1
 have y0:=o.y0
 have y1:=o.y1
 rw [e,lI _ ok (h:=x.toNat) (by omega),lI _ ok (h:=y.toNat) (by omega),vL _ _ _ _ _ _ _ kl,List.map_map]
 exact xw o h hk
theorem qr (o:HOk b x y m) (up:(b.cells.map (·.1)).Pairwise fun x y=>ltI x y=true) (h:HidF b x.toNat y.toNat m rows F1 G1 F2 G2):bh b.m ((fnd b x y m F1 G1 F2 G2).map fun c=>(c.1.dropLast,c.2))=b.cells:=by
 have bo:=o.bo
 have rl:=h.pt.len
 have dl:∀ i k,(psI b x.toNat y.toNat (entS F1 G1) (entS F2 G2) i k).1.dropLast=(aM b i).1:=fun i k=>by
  show ((aM b i).1++[_]).dropLast=_
  simp
 have inj:∀ i j,i < b.cells.length->j < b.cells.length->(aM b i).1=(aM b j).1->i=j:=fun i j hi hj e=>by
  rcases Nat.lt_trichotomy i j with z | z | z
  ·have:=qq up z hj
   rw [e,iL] at this
   cases this
  ·exact z
  ·have:=qq up z hi
   rw [e,iL] at this
   cases this
 have fl:∀ i,i < b.cells.length->(hps b x y m F1 G1 F2 G2).filter (fun c=>decide (c.1.dropLast=(aM b i).1))=(List.range m.toNat).map (psI b x.toNat y.toNat (entS F1 G1) (entS F2 G2) i):=fun i hi=>by
  unfold hps psH
  rw [List.filter_flatMap,xx (i:=i) List.nodup_range (List.mem_range.mpr hi)]
  ·rw [List.filter_eq_self]
   intro c hc
   obtain ⟨k,_,rfl⟩:=List.mem_map.mp hc
   exact decide_eq_true (dl i k)
  ·intro j hj hne
   rw [List.filter_eq_nil_iff]
   intro c hc z
   obtain ⟨k,_,rfl⟩:=List.mem_map.mp hc
   have z:(psI b x.toNat y.toNat (entS F1 G1) (entS F2 G2) j k).1.dropLast=(aM b i).1:=by simpa using z
   rw [dl] at z
   exact hne (inj j i (List.mem_range.mp hj) hi z)
 have sm:∀ i,i < b.cells.length->sums ((((fnd b x y m F1 G1 F2 G2).map fun c=>(c.1.dropLast,c.2)).filter fun p=>decide (p.1=(aM b i).1)).map (·.2)) b.m=(aM b i).2:=fun i hi=>by
  have e:(((fnd b x y m F1 G1 F2 G2).map fun c=>(c.1.dropLast,c.2)).filter fun p=>decide (p.1=(aM b i).1)).map (·.2)=(((hps b x y m F1 G1 F2 G2).filter fun c=>decide (c.1.dropLast=(aM b i).1)).map (·.2)).filter dj:=by
   rw [List.filter_map,List.map_map,List.filter_map]
   unfold fnd
   rw [List.filter_filter,List.filter_filter]
   congr 1
   apply List.filter_congr
   intro c _
   exact Bool.and_comm _ _
  rw [e,fl i hi,List.map_map]
  rw [lH (n:=110) fun r hr=>?_]
  ·exact xv o h hi
  ·obtain ⟨k,hk,rfl⟩:=List.mem_map.mp hr
   exact qm bo o.x0 o.x1 o.y0 o.y1 h hi (by have:=List.mem_range.mp hk; omega)
 have ps:bh b.m b.cells=b.cells:=lG up fun c hc=>(bo.it c hc).2.1.1
 conv=>rhs; rw [← ps]
 apply sJ
 ·intro k
  constructor
  ·intro hk
   obtain ⟨p,hp,rfl⟩:=List.mem_map.mp hk
   obtain ⟨c,hc,rfl⟩:=List.mem_map.mp hp
   obtain ⟨i,hi,k,hk,rfl⟩:=psH_mem.mp (List.mem_filter.mp hc).1
   exact List.mem_map.mpr ⟨aM b i,cO hi,(dl i k).symm⟩
  ·intro hk
   obtain ⟨c,hc,rfl⟩:=List.mem_map.mp hk
   obtain ⟨i,hi,ei⟩:=List.getElem_of_mem hc
   have ec:aM b i=c:=by rw [mQ hi,ei]
   by_cases z:c.1∈((fnd b x y m F1 G1 F2 G2).map fun c=>(c.1.dropLast,c.2)).map (·.1)
   ·exact z
   ·exfalso
    have s:=sm i hi
    rw [ec] at s
    have e0:((fnd b x y m F1 G1 F2 G2).map fun c=>(c.1.dropLast,c.2)).filter (fun p=>decide (p.1=c.1))=[]:=by
     rw [List.filter_eq_nil_iff]
     intro p hp w
     exact z (List.mem_map.mpr ⟨p,hp,by simpa using w⟩)
    rw [e0] at s
    obtain ⟨c',hc',pos⟩:=(bo.it c hc).2.2
    rw [← s] at hc'
    obtain ⟨h',_,rfl⟩:=List.mem_map.mp hc'
    exact absurd (show (0:Int) < 0 from pos) (by decide)
 ·intro k hk
  obtain ⟨p,hp,rfl⟩:=List.mem_map.mp hk
  obtain ⟨c,hc,rfl⟩:=List.mem_map.mp hp
  obtain ⟨i,hi,k,_,rfl⟩:=psH_mem.mp (List.mem_filter.mp hc).1
  show sums ((((fnd b x y m F1 G1 F2 G2).map fun c=>(c.1.dropLast,c.2)).filter fun p=>decide (p.1=(psI b x.toNat y.toNat (entS F1 G1) (entS F2 G2) i k).1.dropLast)).map (·.2)) b.m=sums ((b.cells.filter fun p=>decide (p.1=(psI b x.toNat y.toNat (entS F1 G1) (entS F2 G2) i k).1.dropLast)).map (·.2)) b.m
  rw [dl,sm i hi,lF (zL up) (cO hi),List.map_singleton,sum1 (bo.it _ (cO hi)).2.1.1]
end
def vM (t w t' w':Int):D:=if t=0∨t'=0 then .non else if t * w' < w * t' then .int 1 else if w * t' < t * w' then .int (-1) else .int 0
def BU:DSp:=fun ds Q=>match ds with
 | [.tup [.int t,.int w],.tup [.int t',.int w']]=>(Bd 7000 t /\ Bd 7000 w /\ Bd 7000 t' /\ Bd 7000 w') /\ Q (vM t w t' w')
 | _=>False
theorem BV:bG BU:=fun ds P P' f h=>by
 unfold BU at h ⊢
 split at h
 ·exact ⟨h.1,f _ h.2⟩
 ·exact h.elim
def gDue:DSp:=fun ds Q=>match ds with
 | [.tup [.int t,.int w],.tup [.int t',.int w']]=>(Bd 7000 t /\ Bd 7000 w /\ Bd 7000 t' /\ Bd 7000 w') /\ Q (vM t w t' w')
 | _=>False
theorem qt:bG gDue:=BV
theorem qu (T:Tx K mg):FnOk P w K mg base CX0 1 T.gC T.fH ["_law_one","_law_other"] (spD K 2 gDue):=by
 refine fnD (k:=0) T.dz.F sc__law_said (fun cdv A outer s H E hr=>(al (cz (PWD.pt (eZ (aV (iD hr) (ar (ac 0 (pv 0)) ag (fun _ _=>rfl)) ag (aJ _)) (eY (aV (iD hr) (ar (ac 1 (pv 1)) ag (fun _ _=>rfl)) ag (aJ _))))) (ah (aI nM)) aP)
   (al (aX (i:=2) sc__law_said.nd rfl (by first | exact Or.inl rfl | exact Or.inr rfl) (bS qF (ar (ac 0 (pv 0)) ag (fun _ _=>rfl)) (ar (ac 1 (pv 1)) ag (fun _ _=>rfl))))
   (al (aX (i:=3) sc__law_said.nd rfl (by first | exact Or.inl rfl | exact Or.inr rfl) (bS qF (ar (ac 1 (pv 1)) ag (fun _ _=>rfl)) (ar (ac 0 (pv 0)) ag (fun _ _=>rfl))))
   (ah (aI (bS gb (aW nV rfl T.mZ rfl (aa (jb wu (ac 2 (pv 2)) (ac 3 (pv 3)) (aJ _)) ad)) (aW nV rfl T.mZ rfl (aa (jb se (ac 2 (pv 2)) (ac 3 (pv 3)) (aJ _)) ad))))))))) (fun ds Q hl h=>?_)
 unfold gDue at h
 split at h
 case h_2=>exact h.elim
 rename_i t w t' w'
 obtain ⟨⟨b1,b2,b3,b4⟩,h⟩:=h
 unfold vM at h
 refine ⟨⟨rfl,rfl⟩,fun e=>Br.t ?_,fun e=>⟨⟨rfl,rfl⟩,fun e'=>?_,fun e'=>?_⟩⟩
 ·have e:t=0:=by simpa [cZ] using e
  rw [if_pos (.inl e)] at h
  exact h
 ·have e':t'=0:=by simpa [cZ] using e'
  rw [if_pos (.inr e')] at h
  exact h
 ·have e:t≠0:=by simpa [cZ] using e
  have e':t'≠0:=by simpa [cZ] using e'
  rw [if_neg (by simp [e,e'])] at h
  refine ⟨b2.cmul b3,b4.cmul b1,?_⟩
  show Q (.int ((if decide (w' * t < w * t')=true then 1 else 0) - (if decide (w * t' < w' * t)=true then 1 else 0)))
  rw [Int.mul_comm t w'] at h
  by_cases c:w' * t < w * t'
  ·have c':¬ w * t' < w' * t:=by omega
   simpa [c,c'] using h
  ·by_cases c':w * t' < w' * t
   ·simpa [c,c'] using h
   ·simpa [c,c'] using h
structure AbOk (m:Nat) (a b:Int):Prop where
 a0:0 <= a
 a1:a < m
 b0:0 <= b
 b1:b < m
 ne:a≠b
def gTwo:DSp:=fun ds Q=>∃ m:Nat,ds=[.pen,.int m] /\ (2 <= m /\ m <= 6) /\ ∀ a b,AbOk m a b->Q (.tup [.int a,.int b])
theorem sQ:bG gTwo:=fun ds P P' f ⟨m,x,y,h⟩=>⟨m,x,y,fun a b o=>f _ (h a b o)⟩
theorem BW {m:Nat} (m2:2 <= m) (m6:m <= 6) {a r:Int} (a0:0 <= a) (a1:a < m) (r0:0 <= r) (r1:r < (m:Int) - 1):AbOk m a ((a + 1 + r) % m):=by
 have:m=2∨m=3∨m=4∨m=5∨m=6:=by omega
 rcases this with rfl | rfl | rfl | rfl | rfl <;> exact ⟨a0,a1,by omega,by omega,by omega⟩
theorem sR (T:Tx K mg):FnOk P w K mg base CX0 2 T.iP T.gF ["_law_pen_here","_law_many"] (spD K 2 gTwo):=by
 refine fnD (k:=1) T.eE.F sc__law_two (fun cdv A outer s H E hr=>(al (aX (i:=2) sc__law_two.nd rfl (by first | exact Or.inl rfl | exact Or.inr rfl) (aj (aG T) aH (hr.mono (by decide)) rfl T.af.m T.af.F.kp T.af.b (aa (ac 0 (pv 0)) (aa (ac 1 (pv 1)) ad))))
   (ah (aI (cu (aa (ac 2 (pv 2)) (aa (bS AX (bS ga (bS ga (ac 2 (pv 2)) ag) (aj (aG T) aH (hr.mono (by decide)) rfl T.af.m T.af.F.kp T.af.b (aa (ac 0 (pv 0)) (aa (bS gb (ac 1 (pv 1)) ag) ad)))) (ac 1 (pv 1))) ad))))))) (fun ds Q hl h=>?_)
 obtain ⟨m,rfl,⟨m2,m6⟩,h⟩:=h
 refine ⟨rfl,⟨by omega,by omega⟩,fun a a0 a1=>⟨rfl,⟨by omega,by omega⟩,fun r r0 r1=>⟨by omega,sz,h _ _ (BW m2 m6 a0 a1 r0 r1)⟩⟩⟩
theorem zO (r:Row):Shp 2 (rowD r):=.tup fun d hd=>by
 obtain ⟨c,_,rfl⟩:=List.mem_map.mp hd
 exact .pair
theorem vN (cs:List (List Int×Row)):∀ d∈cs.map bq,Shp 3 d:=fun d hd=>by
 obtain ⟨c,_,rfl⟩:=List.mem_map.mp hd
 exact .tup fun d hd=>by
  simp only [List.mem_cons,List.not_mem_nil,or_false] at hd
  rcases hd with rfl | rfl
  ·exact .tup fun d hd=>by
    obtain ⟨k,_,rfl⟩:=List.mem_map.mp hd
    exact .int
  ·exact zO _
theorem xB {v:List Int}:cutD (v.map D.int) none (some (-1))=v.dropLast.map D.int:=by
 unfold cutD
 have s1:HT.sIx (v.map D.int).length 0 none=0:=rfl
 have s2:HT.sIx (v.map D.int).length (v.map D.int).length (some (-1))=v.length - 1:=by
  rw [List.length_map]
  unfold HT.sIx
  simp
  omega
 rw [s1,s2,List.drop_zero,Nat.sub_zero,List.dropLast_eq_take,List.map_take]
def gIsC:DSp:=fun ds Q=>∃ c:Int×Int,ds=[ax c] /\ (0 <= c.2 /\ c.2 <= c.1) /\ Q (.bl true)
theorem kw:bG gIsC:=fun ds P P' f ⟨c,a,b,h⟩=>⟨c,a,b,f _ h⟩
theorem kx (T:Tx K mg):FnOk P w K mg base CX0 1 T.du T.cG ["_law_thing"] (spD K 1 gIsC):=by
 refine fnD (k:=0) T.bz.F jn (fun cdv A outer s H E hr=>(al (cz (PWD.pt (eZ (cI (bU (aq bM rfl T.aB rfl (aa (ac 0 (pv 0)) (aa (gQ (n:="tuple") rfl T.bv rfl) ad))))) (eY (aV (jV hr) (aq gU rfl T.iR PySem.boot_len (aa (ac 0 (pv 0)) ad)) ag (aJ _))))) (ah (aI fX)) aP)
   (al (cz (aV (jV hr) (aF (PCD.pld (aw (N':=["_law_number"]) rfl rfl (by decide +kernel) rfl (.own .nil) (by decide +kernel) (dG (ac 0 (pv 0))) (fun B=>(ai (i:=0) (show List.Nodup (α:=PySem.Str) ["_law_number"] by decide +kernel) rfl (by first | exact Or.inl rfl | exact Or.inr rfl))) (fun B=>(pH (PWD.pt (eZ (cI (bU (aq jT rfl T.aB rfl (aa (ac 0 (pv 0)) (aa (gQ (n:="int") rfl T.mZ rfl) ad))))) (eY (bU (aq fN rfl T.aB rfl (aa (ac 0 (pv 0)) (aa (gQ (n:="bool") rfl T.oV rfl) ad))))))))) (fun B=>(ac 0 (pv 0)))))) (aF (fc ad)) (aJ _)) (ah (aI fX)) aP)
   (ah (aI (lZ uf uf ag (ar (ac 0 (pv 0)) ag (fun _ _=>rfl)) (ar (ac 0 (pv 0)) ag (fun _ _=>rfl)))))))) (fun ds Q hl h=>?_)
 obtain ⟨⟨t,w⟩,rfl,⟨c0,c1⟩,h⟩:=h
 refine ⟨rfl,rfl,Br.f ⟨⟨rfl,rfl⟩,Br.f ?_⟩⟩
 refine ⟨rfl,rfl,Br.f ⟨rfl,rfl,Br.f ⟨rfl,rfl,Br.f ⟨rfl,rfl,Br.f ⟨sz,⟨rfl,rfl⟩,Br.f ?_⟩⟩⟩⟩⟩
 refine Br.dt c0 ?_
 show Q (.bl (decide (w <= t)))
 rw [decide_eq_true c1]
 exact h
structure FbOk (m:Nat) (ms:List Int) (fs:List (List Int×Row)):Prop where
 m6:m <= 6
 m0:ms≠[]
 l6:ms.length <= 6
 c60:fs.length <= 60
 it:∀ c∈fs,KsOk ms c.1 /\ RowN 110 m c.2 /\ fj c.2
 up:(fs.map (·.1)).Pairwise fun x y=>ltI x y=true
def fbD (m:Nat) (ms:List Int) (fs:List (List Int×Row)):D:=.tup [.int m,cq ms,.tup (fs.map bq)]
theorem rL (ms:List Int):Shp 2 (cq ms):=.tup fun d hd=>by
 obtain ⟨k,_,rfl⟩:=List.mem_map.mp hd
 exact .int
theorem zP {n m:Nat} {r:Row} (o:RowN n m r) (h:fj r):0 < (sumP r).1:=by
 obtain ⟨c,hc,pos⟩:=h
 have key:∀ (l:Row),(∀ c∈l,Cnt n c.1 c.2)->0 <= (l.map (·.1)).sum /\ (c∈l->0 < (l.map (·.1)).sum):=by
  intro l
  induction l with
  | nil=>intro _; exact ⟨Int.le_refl _,fun h=>by simp at h⟩
  | cons d l ih =>
   intro hl
   have i:=ih fun x hx=>hl x (List.mem_cons_of_mem _ hx)
   have d0:=(hl d List.mem_cons_self).lo
   have d1:=(hl d List.mem_cons_self).hi
   rw [List.map_cons,List.sum_cons]
   refine ⟨by have:=i.1; omega,fun hm=>?_⟩
   rcases List.mem_cons.mp hm with rfl | hm
   ·have:=i.1; omega
   ·have:=i.2 hm; omega
 exact (key r o.2).2 hc
theorem sS {ks:List Int} (h:ks≠[]):∃ v,ks=v++[dq ks]:=by
 refine ⟨ks.dropLast,?_⟩
 unfold dq
 rw [List.getLast?_eq_some_getLast h]
 exact (List.dropLast_concat_getLast h).symm
theorem vO {ks:List Int} (h:ks≠[]):atI (ks.map D.int) (-1)=some (.int (dq ks)):=by
 obtain ⟨v,e⟩:=sS h
 conv=>lhs; rw [e]
 rw [List.map_append]
 exact L2.atI_last _ _
theorem zQ {ms ks:List Int} (h:KsOk ms ks) (m0:ms≠[]):ks≠[]:=fun z=>by
 have:=h.1
 rw [z] at this
 exact m0 (List.length_eq_zero_iff.mp this.symm)
def gIsB:DSp:=fun ds Q=>∃ (m:Nat) (ms:List Int) (fs:List (List Int×Row)),ds=[fbD m ms fs,.int m,cq ms] /\ FbOk m ms fs /\ Q (.bl true)
theorem kR:bG gIsB:=fun ds P P' f ⟨m,ms,fs,a,b,h⟩=>⟨m,ms,fs,a,b,f _ h⟩
set_option maxHeartbeats 1000000 in
theorem kT (T:Tx K mg):FnOk P w K mg base CX0 2 T.dQ T.dv ["_law_found","_law_many","_law_marks"] (spD K 3 gIsB):=by
 refine fnD (k:=1) T.bJ.F sc__law_is_book (fun cdv A outer s H E hr=>(al (cz (PWD.pt (eZ (cI (bU (aq bM rfl T.aB rfl (aa (ac 0 (pv 0)) (aa (gQ (n:="tuple") rfl T.bv rfl) ad))))) (eZ (aV (jV hr) (aq gU rfl T.iR PySem.boot_len (aa (ac 0 (pv 0)) ad)) ag (aJ _)) (eZ (aV (jV hr) (ar (ac 0 (pv 0)) ag (fun _ _=>rfl)) (ac 1 (pv 1)) (aJ _)) (eY (aV (jV hr) (ar (ac 0 (pv 0)) ag (fun _ _=>rfl)) (ac 2 (pv 2)) (aJ _))))))) (ah (aI fX)) aP)
   (al (cz (PWD.pt (eZ (cI (bU (aq bM rfl T.aB rfl (aa (ar (ac 0 (pv 0)) ag (fun _ _=>rfl)) (aa (gQ (n:="tuple") rfl T.bv rfl) ad))))) (eZ (cI (bU (aq bM rfl T.aB rfl (aa (ar (ac 0 (pv 0)) ag (fun _ _=>rfl)) (aa (gQ (n:="tuple") rfl T.bv rfl) ad))))) (eY (bU (aq fN rfl T.aB rfl (aa (ar (ar (ac 0 (pv 0)) ag (fun _ _=>rfl)) (ug nT ag) (fun _ _=>rfl)) (aa (gQ (n:="bool") rfl T.oV rfl) ad)))))))) (ah (aI fX)) aP)
   (ba (dF PassesOwn.never rfl (dG (ar (ac 0 (pv 0)) ag (fun _ _=>rfl))) (ai (i:=3) sc__law_is_book.nd rfl (by first | exact Or.inl rfl | exact Or.inr rfl)) (al (cz (PWD.pt (eZ (cI (bU (aq bM rfl T.aB rfl (aa (ac 3 (pv 3)) (aa (gQ (n:="tuple") rfl T.bv rfl) ad))))) (eZ (aV (jV hr) (aq gU rfl T.iR PySem.boot_len (aa (ac 3 (pv 3)) ad)) ag (aJ _)) (eY (cI (bU (aq bM rfl T.aB rfl (aa (ar (ac 3 (pv 3)) ag (fun _ _=>rfl)) (aa (gQ (n:="tuple") rfl T.bv rfl) ad))))))))) (ah (aI fX)) aP)
   (al (cz (aV (jV hr) (aq gU rfl T.iR PySem.boot_len (aa (ar (ac 3 (pv 3)) ag (fun _ _=>rfl)) ad)) (aq gU rfl T.iR PySem.boot_len (aa (ac 2 (pv 2)) ad)) (aJ _)) (ah (aI fX)) aP)
   (ba (dF PassesOwn.never rfl (pR rfl T.vQ (aa (ar (ac 3 (pv 3)) ag (fun _ _=>rfl)) (aa (ac 2 (pv 2)) ad))) (dY (n:=2) rfl (aE (ai (i:=4) sc__law_is_book.nd rfl (by first | exact Or.inl rfl | exact Or.inr rfl)) (aE (ai (i:=5) sc__law_is_book.nd rfl (by first | exact Or.inl rfl | exact Or.inr rfl)) ce))) (ah (cz (PWD.pt (eZ (cI (bU (aq jT rfl T.aB rfl (aa (ac 4 (pv 4)) (aa (gQ (n:="int") rfl T.mZ rfl) ad))))) (eZ (bU (aq fN rfl T.aB rfl (aa (ac 4 (pv 4)) (aa (gQ (n:="bool") rfl T.oV rfl) ad)))) (eY (cI (wq uf se ag (ac 4 (pv 4)) (ac 5 (pv 5)))))))) (ah (aI fX)) aP)))
   (al (cz (PWD.pt (eZ (cI (bU (aq bM rfl T.aB rfl (aa (ar (ac 3 (pv 3)) ag (fun _ _=>rfl)) (aa (gQ (n:="tuple") rfl T.bv rfl) ad))))) (eZ (aV (jV hr) (aq gU rfl T.iR PySem.boot_len (aa (ar (ac 3 (pv 3)) ag (fun _ _=>rfl)) ad)) (ac 1 (pv 1)) (aJ _)) (eY (cI (bU (aq Bp rfl T.Cb PyProof.Rows.boot_all (aa (aF (PCD.pld (aw (N':=["_law_one"]) rfl rfl (by decide +kernel) rfl (.own .nil) (by decide +kernel) (dG (ar (ac 3 (pv 3)) ag (fun _ _=>rfl))) (fun B=>(ai (i:=0) (show List.Nodup (α:=PySem.Str) ["_law_one"] by decide +kernel) rfl (by first | exact Or.inl rfl | exact Or.inr rfl))) (fun B=>aD) (fun B=>(aj (kx T) kw (hr.mono (by decide)) rfl T.bz.m T.bz.F.kp T.bz.b (aa (ac 0 (pv 0)) ad)))))) ad)))))))) (ah (aI fX)) aP)
   (ah (cz (aV (iD hr) (ar (aj (cY T) cX (hr.mono (by decide)) rfl T.az.m T.az.F.kp T.az.b (aa (ar (ac 3 (pv 3)) ag (fun _ _=>rfl)) ad)) ag (fun _ _=>rfl)) ag (aJ _)) (ah (aI fX)) aP)))))))
   (al (me (i:=6) sc__law_is_book.nd rfl rfl (aw (N':=["_law_cell"]) rfl rfl (by decide +kernel) rfl (.own .nil) (by decide +kernel) (dG (ar (ac 0 (pv 0)) ag (fun _ _=>rfl))) (fun B=>(ai (i:=0) (show List.Nodup (α:=PySem.Str) ["_law_cell"] by decide +kernel) rfl (by first | exact Or.inl rfl | exact Or.inr rfl))) (fun B=>aD) (fun B=>(ar (ac 0 (pv 0)) ag (fun _ _=>rfl)))))
   (ah (aI (jb (iD hr) (ac 6 (pv 6)) (sC hr rfl rfl T.ix rfl T.Cd (ac 6 (pv 6))) (aJ _))))))))) (fun ds Q hl h=>?_)
 obtain ⟨m,ms,fs,rfl,fo,h⟩:=h
 have si:shp (cq ms)=true:=(rL ms).shp
 refine ⟨rfl,rfl,Br.f ⟨⟨rfl,rfl⟩,Br.f ⟨⟨rfl,rfl⟩,mO (d:=.int m) rfl ⟨⟨si,si⟩,mO si ?_⟩⟩⟩⟩
 refine ⟨rfl,rfl,Br.f ⟨rfl,rfl,Br.f ?_⟩⟩
 show opt (atI (ms.map D.int) (-1)) _
 rw [vO fo.m0]
 refine ⟨rfl,rfl,Br.f ?_⟩
 refine ⟨fun ρ=>∃ s3 s4 s5 s6:Sl,ρ=[.val (fbD m ms fs),.val (.int m),.val (cq ms),s3,s4,s5,s6],?_,?_⟩
 ·refine dZ _ (fun ρ h=>h) (fun d hd ρ X hN hX=>?_) _ ⟨_,_,_,_,rfl⟩
  obtain ⟨s3,s4,s5,s6,rfl⟩:=hN
  obtain ⟨c,hc,rfl⟩:=List.mem_map.mp hd
  obtain ⟨ko,ro,tr⟩:=fo.it c hc
  refine ⟨rfl,rfl,Br.f ⟨⟨rfl,rfl⟩,Br.f ⟨rfl,rfl,Br.f ?_⟩⟩⟩
  refine ⟨⟨rfl,rfl⟩,BN (by show D.int ((c.1.map D.int).length:Nat) = .int ((ms.map D.int).length:Nat); rw [List.length_map,List.length_map,ko.1]) rfl ?_⟩
  refine ⟨fun ρ=>∃ s4 s5:Sl,ρ=[.val (fbD m ms fs),.val (.int m),.val (cq ms),.val (bq c),s4,s5,s6],⟨c.1.map D.int,ms.map D.int,rfl,rfl,?_⟩,?_⟩
  ·refine dZ _ (fun ρ h=>h) (fun d hd ρ X hN hX=>?_) _ ⟨_,_,rfl⟩
   obtain ⟨s4,s5,rfl⟩:=hN
   obtain ⟨i,hi⟩:=List.mem_iff_getElem?.mp hd
   obtain ⟨u,v,eu,ev,rfl⟩:=ju _ _ _ _ hi
   rw [List.getElem?_map] at eu ev
   obtain ⟨k,ek,rfl⟩:=Option.map_eq_some_iff.mp eu
   obtain ⟨n,en,rfl⟩:=Option.map_eq_some_iff.mp ev
   have il:i < c.1.length:=(List.getElem?_eq_some_iff.mp ek).1
   have b:=ko.2 i il
   rw [List.getD_eq_getElem?_getD,List.getD_eq_getElem?_getD,ek,en] at b
   have b:0 <= k /\ k < n:=b
   refine ⟨rfl,rfl,rfl,Br.f ⟨rfl,rfl,Br.f (Br.dt b.1 ?_)⟩⟩
   show Br (!decide (k < n)) _ _
   rw [decide_eq_true b.2]
   exact Br.f (hX _ ⟨_,_,rfl⟩)
  ·rintro _ ⟨s4,s5,rfl⟩
   refine ⟨rfl,rfl,Br.f ⟨⟨rfl,rfl⟩,BN (by show D.int ((c.2.map ax).length:Nat) = .int (m:Nat); rw [List.length_map,ro.1]) rfl ?_⟩⟩
   refine ii (l:=c.2) ax (fun _=>.bl true) (fun ρ=>∃ s,ρ=[s]) (by rw [ro.1]; exact Nat.le_trans fo.m6 (by decide)) (fun k hk ρ Y Z hN hY=>?_) _ ⟨_,rfl⟩ ?_
   ·obtain ⟨s,rfl⟩:=hN
    exact Br.t ⟨rfl,k,rfl,⟨(ro.2 k hk).lo,(ro.2 k hk).hi⟩,hY _ ⟨_,rfl⟩⟩
   ·have e:c.2.map (fun _=>D.bl true)=(c.2.map fun _=>true).map D.bl:=by rw [List.map_map]; rfl
    rw [e]
    refine mj ?_
    have e2:(c.2.map fun _=>true).all id=true:=by simp
    rw [e2]
    refine Br.f ⟨rfl,c.2,.inr rfl,by rw [ro.1]; exact Nat.le_trans fo.m6 (by decide),⟨rfl,rfl⟩,?_⟩
    have p:=zP ro tr
    show Br (eqD (.int (sumP c.2).1) (.int 0)) _ _
    rw [cZ,decide_eq_false (by omega)]
    exact Br.f (hX _ ⟨_,_,_,_,rfl⟩)
 ·rintro _ ⟨s3,s4,s5,s6,rfl⟩
  refine ii (l:=fs) bq (fun c=>cq c.1) (fun ρ=>∃ s,ρ=[s]) (Nat.le_trans fo.c60 (by decide)) (fun k hk ρ Y Z hN hY=>?_) _ ⟨_,rfl⟩ ?_
  ·obtain ⟨s,rfl⟩:=hN
   exact Br.t (hY _ ⟨_,rfl⟩)
  ·have ek:fs.map (fun c=>cq c.1)=((fs.map (·.1)).map kI).map keyD:=by
    rw [List.map_map,List.map_map]
    apply List.map_congr_left
    intro c _
    exact dP _
   have nd:=zL fo.up
   have es:srtK ((fs.map (·.1)).map kI)=(fs.map (·.1)).map kI:=by
    rw [mL,xb (ig nd) fo.up fun k=>(bf _).mem_iff]
   have sh:shp (.lst (fs.map fun c=>cq c.1))=true:=Shp.shp (n:=3) (.lst fun d hd=>by
    obtain ⟨c,_,rfl⟩:=List.mem_map.mp hd
    exact rL _)
   refine ⟨(fs.map (·.1)).map kI,by rw [ek],fun k hk=>?_,?_,fun _ k hk=>?_,by rw [List.length_map,List.length_map]; exact fo.c60,?_⟩
   ·obtain ⟨k',_,rfl⟩:=List.mem_map.mp hk
    exact jC k'
   ·exact List.Pairwise.map _ (fun a b h z=>h (ie z)) nd
   ·obtain ⟨k',hk',rfl⟩:=List.mem_map.mp hk
    obtain ⟨c,hc,rfl⟩:=List.mem_map.mp hk'
    have:=zQ (fo.it c hc).1 fo.m0
    intro z
    exact this (List.map_eq_nil_iff.mp z)
   ·rw [es,← ek]
    refine ⟨⟨sh,sh⟩,?_⟩
    show Q (.bl (eqD _ _))
    rw [qJ sh]
    exact h
theorem rM {v:List Int}:D.tup (cutD (v.map D.int) none (some (-1)))=keyD (kI v.dropLast):=by rw [xB,← dP]; rfl
def gWo:DSp:=fun ds Q=>∃ (m:Nat) (ms:List Int) (fs:List (List Int×Row)),ds=[fbD m ms fs,.int m] /\ FbOk m ms fs /\ Q (.tup ((bh m (fs.map fun c=>(c.1.dropLast,c.2))).map bq))
theorem kU:bG gWo:=fun ds P P' f ⟨m,ms,fs,a,b,h⟩=>⟨m,ms,fs,a,b,f _ h⟩
set_option maxHeartbeats 1000000 in
theorem kW (T:Tx K mg):FnOk P w K mg base CX0 2 T.dR T.dr ["_law_found","_law_many"] (spD K 2 gWo):=by
 refine fnD (k:=1) T.bI.F sc__law_without (fun cdv A outer s H E hr=>(al (pO (i:=2) sc__law_without.nd rfl (by first | exact Or.inl rfl | exact Or.inr rfl))
   (ba (dF PassesOwn.never rfl (dG (ar (ac 0 (pv 0)) ag (fun _ _=>rfl))) (dY (n:=2) rfl (aE (ai (i:=3) sc__law_without.nd rfl (by first | exact Or.inl rfl | exact Or.inr rfl)) (aE (ai (i:=4) sc__law_without.nd rfl (by first | exact Or.inl rfl | exact Or.inr rfl)) ce))) (ah (uB hr (pv 2) (xL (ac 3 (pv 3)) ul (um (ug nT ag))) (aF (xO (zo hr (pv 2) (xL (ac 3 (pv 3)) ul (um (ug nT ag))) (aF (fc ad))) (aF (fc (aa (ac 4 (pv 4)) ad))))))))
   (al (nP (i:=5) sc__law_without.nd rfl (by first | exact Or.inl rfl | exact Or.inr rfl) (fc ad))
   (ba (dF PassesOwn.never rfl (bn (aq mB rfl T.ix (by decide +kernel) (aa (ac 2 (pv 2)) ad))) (ai (i:=3) sc__law_without.nd rfl (by first | exact Or.inl rfl | exact Or.inr rfl)) (al (aX (i:=6) sc__law_without.nd rfl (by first | exact Or.inl rfl | exact Or.inr rfl) (uC hr (ac 2 (pv 2)) (ac 3 (pv 3)) (fun _ _=>rfl)))
   (ah (qG (pv 5) (cu (aa (ac 3 (pv 3)) (aa (aW cM rfl T.bv rfl (aa (aF (PCD.pld (aw (N':=["_law_house","_law_rows"]) rfl rfl (by decide +kernel) rfl (.own (.cap (j:=6) rfl (by first | exact Or.inl rfl | exact Or.inr rfl) rfl .nil)) (by decide +kernel) (bu rfl T.cH (aa (ac 1 (pv 1)) ad)) (fun B=>(ai (i:=0) (show List.Nodup (α:=PySem.Str) ["_law_house","_law_rows"] by decide +kernel) rfl (by first | exact Or.inl rfl | exact Or.inr rfl))) (fun B=>aD) (fun B=>(aj (cY T) cX (hr.mono (by decide)) rfl T.az.m T.az.F.kp T.az.b (aa (aF (PCD.pld (aw (N':=["_law_counts","_law_house"]) rfl rfl (by decide +kernel) rfl (.own (.cap (j:=0) rfl (by first | exact Or.inl rfl | exact Or.inr rfl) rfl .nil)) (by decide +kernel) (bn (ac 1 (pv 1))) (fun B=>(ai (i:=0) (show List.Nodup (α:=PySem.Str) ["_law_counts","_law_house"] by decide +kernel) rfl (by first | exact Or.inl rfl | exact Or.inr rfl))) (fun B=>aD) (fun B=>(ar (ac 0 (pv 0)) (ac 1 (pv 1)) (fun _ _=>rfl)))))) ad)))))) ad)) ad)))))))
   (ah (aI (aW cM rfl T.bv rfl (aa (ac 5 (pv 5)) ad))))))))) (fun ds Q hl h=>?_)
 obtain ⟨m,ms,fs,rfl,fo,h⟩:=h
 have c60:=fo.c60
 have gok:∀ c0:List (List Int×Row),(∀ c∈c0,c∈fs)->GOk (fun k=>k.length=ms.length - 1) (fun r=>RowN 110 m r /\ fj r) c0.length (grp (c0.map fun c=>(c.1.dropLast,c.2))):=fun c0 hc=>by
  have:=vm (C:=fun k=>k.length=ms.length - 1) (R:=fun r=>RowN 110 m r /\ fj r) (c0.map fun c=>(c.1.dropLast,c.2)) fun p hp=>by
   obtain ⟨c,h1,rfl⟩:=List.mem_map.mp hp
   obtain ⟨ko,ro⟩:=fo.it c (hc c h1)
   exact ⟨by rw [List.length_dropLast,ko.1],ro⟩
  rw [List.length_map] at this
  exact this
 refine ⟨fun ρ=>∃ a c:Sl,ρ=[.val (fbD m ms fs),.val (.int m),.obj (dvO (embV (grp (fs.map fun c=>(c.1.dropLast,c.2))))),a,c,.nil,.nil],?_,?_⟩
 ·refine ff (fun pre ρ=>∃ c0 c1:List (List Int×Row),fs=c0++c1 /\ pre=c0.map bq /\ ∃ a c:Sl,ρ=[.val (fbD m ms fs),.val (.int m),.obj (dvO (embV (grp (c0.map fun c=>(c.1.dropLast,c.2))))),a,c,.nil,.nil]) (fun ρ hN=>?_) (fun pre d post ρ X e hN hX=>?_) _ ⟨[],_,rfl,rfl,_,_,rfl⟩
  ·obtain ⟨c0,c1,e,e2,a,c,rfl⟩:=hN
   have:c1=[]:=by
    have:=congrArg List.length e2
    rw [e] at this
    simp at this
    exact this
   subst this
   rw [List.append_nil] at e
   rw [← e]
   exact ⟨a,c,rfl⟩
  ·obtain ⟨c0,c1,e3,rfl,a,c',rfl⟩:=hN
   rw [e3,List.map_append] at e
   have e:=List.append_cancel_left e
   cases c1 with
   | nil=>simp at e
   | cons c c1 =>
    rw [List.map_cons] at e
    injection e with e1 e2
    subst e1
    obtain ⟨ko,ro⟩:=fo.it c (by rw [e3]; simp)
    have go:=gok c0 fun x hx=>by rw [e3]; simp [hx]
    rw [e3,List.length_append] at c60
    have ne:=zQ ko fo.m0
    have hcut:¬ (HT.sIx (c.1.map D.int).length 0 none=0 /\ HT.sIx (c.1.map D.int).length (c.1.map D.int).length (some (-1))=(c.1.map D.int).length):=by
     have:=List.length_pos_iff.mpr ne
     rw [List.length_map]
     unfold HT.sIx
     simp
     omega
    refine ⟨rfl,trivial,hcut,sz,embV (grp (c0.map fun c=>(c.1.dropLast,c.2))),kI c.1.dropLast,rfl,rM,?_⟩
    rw [vC]
    have hlen:((bb (grp (c0.map fun c=>(c.1.dropLast,c.2))) c.1.dropLast).map rowD).length <= 60:=by
     rw [List.length_map]
     by_cases hk:c.1.dropLast∈(grp (c0.map fun c=>(c.1.dropLast,c.2))).map (·.1)
     ·obtain ⟨p,hp,_,h3,_⟩:=mK hk
      rw [h3]
      exact Nat.le_trans (go.it p hp).2.2.1 (by omega)
     ·have:(grp (c0.map fun c=>(c.1.dropLast,c.2))).find? (fun p=>decide (p.1=c.1.dropLast))=none:=by
       rw [List.find?_eq_none]
       intro q hq z
       exact hk (List.mem_map.mpr ⟨q,hq,by simpa using z⟩)
      unfold bb
      rw [this]
      simp
    refine ⟨sz,Nat.le_trans (show _ <= 61 by simp only [List.length_singleton]; omega) (by decide),trivial,hcut,embV (grp (c0.map fun c=>(c.1.dropLast,c.2))),kI c.1.dropLast,rfl,rM,?_,hX _ ⟨c0++[c],c1,by rw [e3]; simp,by simp,.val (cq c.1),.val (rowD c.2),?_⟩⟩
    ·unfold embV
     rw [List.length_map]
     exact Nat.lt_of_le_of_lt (show _ <= 60 from Nat.le_trans go.len (by omega)) (by decide)
    ·rw [rH _ _ _ go.nd,List.map_append,List.map_singleton,mJ]
     rfl
 ·rintro _ ⟨a,c,rfl⟩
  have go:=gok fs fun x hx=>hx
  obtain ⟨ps,hps⟩:∃ ps,ps=fs.map fun c=>(c.1.dropLast,c.2):=⟨_,rfl⟩
  rw [← hps] at go h ⊢
  have hk:(embV (grp ps)).map (·.1)=((grp ps).map (·.1)).map kI:=by unfold embV; rw [List.map_map,List.map_map]; rfl
  have kl:((grp ps).map (·.1)).length <= 60:=by rw [List.length_map]; exact Nat.le_trans go.len c60
  have kln:∀ k∈(grp ps).map (·.1),k.length=ms.length - 1:=fun k hk=>by
   obtain ⟨p,hp,rfl⟩:=List.mem_map.mp hk
   exact (go.it p hp).1
  have sl:(dh ((grp ps).map (·.1))).length <= 60:=by rw [(bf _).length_eq]; exact kl
  have cA:∀ k∈(embV (grp ps)).map (·.1),dA k:=fun k hk'=>by
   rw [hk] at hk'
   obtain ⟨k',_,rfl⟩:=List.mem_map.mp hk'
   exact jC k'
  have cB:2 <= ((embV (grp ps)).map (·.1)).length->∀ k∈(embV (grp ps)).map (·.1),k≠[]:=fun h2 k hk'=>by
   rw [hk] at h2 hk'
   rw [List.length_map] at h2
   obtain ⟨k',hk2,rfl⟩:=List.mem_map.mp hk'
   intro z
   exact qh go.nd kln h2 k' hk2 (ie (b:=[]) z)
  have cC:((embV (grp ps)).map (·.1)).length < 64:=by rw [hk,List.length_map]; omega
  have e1:(srtK ((embV (grp ps)).map (·.1))).map keyD=(dh ((grp ps).map (·.1))).map cq:=by
   rw [hk,mL,List.map_map]
   apply List.map_congr_left
   intro k _
   exact (dP k).symm
  refine ⟨sz,fun ρ=>∃ a c d:Sl,ρ=[.val (fbD m ms fs),.val (.int m),.val (fzO (dvO (embV (grp ps)))),a,c,.own ((bh m ps).map bq),d],?_,?_⟩
  ·refine ⟨⟨cA,cB,cC⟩,?_⟩
   show jm _ _ ((srtK ((embV (grp ps)).map (·.1))).map keyD) _ _
   rw [e1]
   refine ff (fun pre ρ=>∃ k0 k1:List (List Int),dh ((grp ps).map (·.1))=k0++k1 /\ pre=k0.map cq /\ ∃ a c d:Sl,ρ=[.val (fbD m ms fs),.val (.int m),.val (fzO (dvO (embV (grp ps)))),a,c,.own ((k0.map fun k=>(k,sums (bb (grp ps) k) m)).map bq),d]) (fun ρ hN=>?_) (fun pre d post ρ X e hN hX=>?_) _ ⟨[],_,rfl,rfl,_,_,_,rfl⟩
   ·obtain ⟨k0,k1,e3,e4,a,c,d,rfl⟩:=hN
    have:k1=[]:=by
     have:=congrArg List.length e4
     rw [e3] at this
     simp at this
     exact this
    subst this
    rw [List.append_nil] at e3
    refine ⟨a,c,d,?_⟩
    unfold bh
    rw [e3]
   ·obtain ⟨k0,k1,e3,rfl,a,c,d',rfl⟩:=hN
    rw [e3,List.map_append] at e
    have e:=List.append_cancel_left e
    cases k1 with
    | nil=>simp at e
    | cons k k1 =>
     rw [List.map_cons] at e
     injection e with e1 e2
     subst e1
     have hk':k∈dh ((grp ps).map (·.1)):=by rw [e3]; simp
     obtain ⟨p,hp,_,h3,h4⟩:=mK ((bf _).mem_iff.mp hk')
     have gp:=go.it p hp
     rw [e3,List.length_append] at sl
     have m6:=fo.m6
     refine ⟨embV (grp ps),kI k,.lst (p.2.map rowD),BQ _,dP k,h4,trivial,⟨by omega,by omega⟩,?_⟩
     rw [Int.toNat_natCast]
     refine vD m6 (fun r hr=>(gp.2.2.2 r hr).1.up) (Nat.le_trans gp.2.2.1 (by omega)) ⟨sz,?_,hX _ ⟨k0++[k],k1,by rw [e3]; simp,by simp,_,_,_,by rw [List.map_append,List.map_append,← h3]; rfl⟩⟩
     rw [List.length_map,List.length_map]
     exact Nat.lt_of_le_of_lt (show k0.length <= 60 by omega) (by decide)
  ·rintro _ ⟨a,c,d,rfl⟩
   exact h
theorem rN {m:Nat} {t:List Row} (ho:∀ r∈t,RowN 110 m r) (hl:t.length <= 60) {h:Nat} (hh:h < m):Bd 7000 (sumP (col t h)).1 /\ Bd 7000 (sumP (col t h)).2:=by
 have key:∀ l:List (Int×Int),(∀ c∈l,Cnt 110 c.1 c.2)->0 <= (l.map (·.2)).sum /\ (l.map (·.2)).sum <= (l.map (·.1)).sum /\ (l.map (·.1)).sum <= l.length * 2 ^ 110:=by
  intro l
  induction l with
  | nil=>intro _; exact ⟨Int.le_refl _,Int.le_refl _,by simp⟩
  | cons d l ih =>
   intro hl
   have i:=ih fun x hx=>hl x (List.mem_cons_of_mem _ hx)
   have dc:=hl d List.mem_cons_self
   have d0:=dc.lo
   have d1:=dc.hi
   have d2:d.1.natAbs < 2 ^ 110:=dc.bt
   rw [List.map_cons,List.sum_cons,List.map_cons,List.sum_cons,List.length_cons]
   omega
 have k:=key (col t h) fun c hc=>by
  obtain ⟨r,hr,rfl⟩:=List.mem_map.mp hc
  exact (gc (ho r hr) hh).2
 have cl:(col t h).length <= 60:=by unfold col; rw [List.length_map]; exact hl
 have p1:(sumP (col t h)).1=((col t h).map (·.1)).sum:=rfl
 have p2:(sumP (col t h)).2=((col t h).map (·.2)).sum:=rfl
 rw [p1,p2]
 have w:Bd 120 ((col t h).map (·.1)).sum:=by
  show (List.map (fun c:Int×Int=>c.1) (col t h)).sum.natAbs < 2 ^ 120
  omega
 exact ⟨w.mono (by decide),(w.le (by omega)).mono (by decide)⟩
structure TnOk (m:Nat) (fs:List (List Int×Row)) (a b k:Int):Prop where
 k0:0 <= k
 k6:k <= 6
 say:∀ j:Nat,(j:Int) < k->∃ r:Prt,Good r /\ sumP (col ((fs.filter fun c=>decide (dq c.1=(j:Int))).map (·.2)) a.toNat)=r.1 /\ sumP (col ((fs.filter fun c=>decide (dq c.1=(j:Int))).map (·.2)) b.toNat)=r.2
 oth:∀ c∈fs,0 < dq c.1->∀ h:Nat,h < m->(h:Int)≠a->(h:Int)≠b->at_ c.2 h=(0,0)
def gTn:DSp:=fun ds Q=>∃ (m:Nat) (ms:List Int) (fs:List (List Int×Row)) (a b k:Int),ds=[fbD m ms fs,.int a,.int b,.int k] /\ FbOk m ms fs /\ AbOk m a b /\ TnOk m fs a b k /\ Q (.bl true)
theorem oT:bG gTn:=fun ds P P' f ⟨m,ms,fs,a,b,k,e,x,y,z,h⟩=>⟨m,ms,fs,a,b,k,e,x,y,z,f _ h⟩
theorem vP {r:Prt} (g:Good r):vM r.1.1 r.1.2 r.2.1 r.2.2 = .int (-1):=by
 obtain ⟨a0,a1,b0,b1,a2,b2,l⟩:=g
 unfold vM
 rw [if_neg (by omega),if_neg (by rw [Int.mul_comm r.1.1]; omega),if_pos (by rw [Int.mul_comm r.1.1]; exact l)]
set_option maxHeartbeats 1000000 in
theorem oU (T:Tx K mg):FnOk P w K mg base CX0 2 T.fC T.eT ["_law_found","_law_a","_law_b","_law_kinds"] (spD K 4 gTn):=by
 refine fnD (k:=1) T.cD.F sc__law_turns (fun cdv A outer s H E hr=>(ba (dF PassesOwn.never rfl (bu rfl T.cH (aa (ac 3 (pv 3)) ad)) (ai (i:=4) sc__law_turns.nd rfl (by first | exact Or.inl rfl | exact Or.inr rfl)) (al (me (i:=5) sc__law_turns.nd rfl rfl (aw (N':=["_law_values","_law_counts","_law_kind"]) rfl rfl (by decide +kernel) rfl (.own (.own (.cap (j:=4) rfl (by first | exact Or.inl rfl | exact Or.inr rfl) rfl .nil))) (by decide +kernel) (dG (ar (ac 0 (pv 0)) ag (fun _ _=>rfl))) (fun B=>(dY (n:=2) rfl (aE (ai (i:=0) (show List.Nodup (α:=PySem.Str) ["_law_values","_law_counts","_law_kind"] by decide +kernel) rfl (by first | exact Or.inl rfl | exact Or.inr rfl)) (aE (ai (i:=1) (show List.Nodup (α:=PySem.Str) ["_law_values","_law_counts","_law_kind"] by decide +kernel) rfl (by first | exact Or.inl rfl | exact Or.inr rfl)) ce)))) (fun B=>(pH (aV (iD hr) (ar (ac 0 (pv 0)) (ug nT ag) (fun _ _=>rfl)) (ac 2 (pv 2)) (aJ _)))) (fun B=>(ac 1 (pv 1)))))
   (al (cz (aV (jV hr) (aj (qu T) qt (hr.mono (by decide)) rfl T.dz.m T.dz.F.kp T.dz.b (aa (aj (cY T) cX (hr.mono (by decide)) rfl T.az.m T.az.F.kp T.az.b (aa (aF (PCD.pld (aw (N':=["_law_counts","_law_a"]) rfl rfl (by decide +kernel) rfl (.own (.cap (j:=1) rfl (by first | exact Or.inl rfl | exact Or.inr rfl) rfl .nil)) (by decide +kernel) (bn (ac 5 (pv 5))) (fun B=>(ai (i:=0) (show List.Nodup (α:=PySem.Str) ["_law_counts","_law_a"] by decide +kernel) rfl (by first | exact Or.inl rfl | exact Or.inr rfl))) (fun B=>aD) (fun B=>(ar (ac 0 (pv 0)) (ac 1 (pv 1)) (fun _ _=>rfl)))))) ad)) (aa (aj (cY T) cX (hr.mono (by decide)) rfl T.az.m T.az.F.kp T.az.b (aa (aF (PCD.pld (aw (N':=["_law_counts","_law_b"]) rfl rfl (by decide +kernel) rfl (.own (.cap (j:=2) rfl (by first | exact Or.inl rfl | exact Or.inr rfl) rfl .nil)) (by decide +kernel) (bn (ac 5 (pv 5))) (fun B=>(ai (i:=0) (show List.Nodup (α:=PySem.Str) ["_law_counts","_law_b"] by decide +kernel) rfl (by first | exact Or.inl rfl | exact Or.inr rfl))) (fun B=>aD) (fun B=>(ar (ac 0 (pv 0)) (ac 1 (pv 1)) (fun _ _=>rfl)))))) ad)) ad))) (ug nT ag) (aJ _)) (ah (aI fX)) aP)
   (ah (dF PassesOwn.never rfl (bn (ac 5 (pv 5))) (ai (i:=6) sc__law_turns.nd rfl (by first | exact Or.inl rfl | exact Or.inr rfl)) (ah (dF PassesOwn.never rfl (bu rfl T.cH (aa (aq gU rfl T.iR PySem.boot_len (aa (ac 6 (pv 6)) ad)) ad)) (ai (i:=7) sc__law_turns.nd rfl (by first | exact Or.inl rfl | exact Or.inr rfl)) (ah (cz (PWD.pt (xH (aV wu (ac 4 (pv 4)) ag (aJ _)) (xH (aV wR (ac 7 (pv 7)) (cu (aa (ac 1 (pv 1)) (aa (ac 2 (pv 2)) ad))) rfl) (yT (aV (jV hr) (ar (ac 6 (pv 6)) (ac 7 (pv 7)) (fun _ _=>rfl)) (cu (aa ag (aa ag ad))) (aJ _)))))) (ah (aI fX)) aP)))))))))
   (ah (aI fX)))) (fun ds Q hl h=>?_)
 obtain ⟨m,ms,fs,a,b,k,rfl,fo,ab,tn,h⟩:=h
 refine ⟨fun ρ=>∃ s4 s5 s6 s7:Sl,ρ=[.val (fbD m ms fs),.val (.int a),.val (.int b),.val (.int k),s4,s5,s6,s7],⟨⟨by have:=tn.k0; have:=tn.k6; omega,by have:=tn.k6; omega⟩,?_⟩,?_⟩
 ·refine dZ _ (fun ρ h=>h) (fun d hd ρ X hN hX=>?_) _ ⟨_,_,_,_,rfl⟩
  obtain ⟨s4,s5,s6,s7,rfl⟩:=hN
  rw [aR] at hd
  obtain ⟨j,hj,rfl⟩:=List.mem_map.mp hd
  have hj:=List.mem_range.mp hj
  rw [show (0:Int) + (j:Int)=j by omega]
  refine xc (l:=fs) bq (fun c=>rowD c.2) (fun c=>decide (dq c.1=(j:Int))) (fun ρ=>∃ s s',ρ=[s,s',.val (.int j)]) (Nat.le_trans fo.c60 (by decide)) (fun c hc ρ Y Z hN hY hZ=>?_) _ ⟨_,_,rfl⟩ ?_
  ·obtain ⟨s,s',rfl⟩:=hN
   refine ⟨rfl,?_⟩
   show opt (atI (c.1.map D.int) (-1)) _
   rw [vO (zQ (fo.it c hc).1 fo.m0)]
   refine ⟨⟨rfl,rfl⟩,?_⟩
   show Br (eqD (.int (dq c.1)) (.int j)) _ _
   rw [cZ]
   exact ⟨fun z=>hY z _ ⟨_,_,rfl⟩,fun z=>hZ z _ ⟨_,_,rfl⟩⟩
  ·obtain ⟨fl,hfl⟩:∃ fl,fl=fs.filter fun c=>decide (dq c.1=(j:Int)):=⟨_,rfl⟩
   have fm:∀ c∈fl,c∈fs /\ dq c.1=j:=fun c hc=>by
    rw [hfl] at hc
    exact ⟨(List.mem_filter.mp hc).1,by simpa using (List.mem_filter.mp hc).2⟩
   have fl6:fl.length <= 60:=by rw [hfl]; exact Nat.le_trans (List.length_filter_le _ _) fo.c60
   obtain ⟨r,g,e1,e2⟩:=tn.say j (by omega)
   rw [← hfl] at e1 e2 ⊢
   have er:fl.map (fun c=>rowD c.2)=(fl.map (·.2)).map rowD:=by rw [List.map_map]; rfl
   rw [er]
   have tl:(fl.map (·.2)).length <= 60:=by rw [List.length_map]; exact fl6
   have to:∀ r∈fl.map (·.2),RowN 110 m r:=fun r hr=>by
    obtain ⟨c,hc,rfl⟩:=List.mem_map.mp hr
    exact (fo.it c (fm c hc).1).2.1
   have tu:∀ r∈fl.map (·.2),vi m r:=fun r hr=>(to r hr).up
   have lc:∀ h,(col (fl.map (·.2)) h).length <= 1000:=fun h=>by
    unfold col
    rw [List.length_map]
    exact Nat.le_trans tl (by decide)
   have a0:=ab.a0
   have a1:=ab.a1
   have b0:=ab.b0
   have b1:=ab.b1
   have x1:=rN to tl (h:=a.toNat) (by omega)
   have x2:=rN to tl (h:=b.toNat) (by omega)
   rw [e1] at x1
   rw [e2] at x2
   refine jB tu (Nat.le_trans tl (by decide)) a0 a1 ⟨rfl,col (fl.map (·.2)) a.toNat,.inl rfl,lc _,?_⟩
   refine jB tu (Nat.le_trans tl (by decide)) b0 b1 ⟨rfl,col (fl.map (·.2)) b.toNat,.inl rfl,lc _,?_⟩
   rw [e1,e2]
   refine ⟨rfl,⟨x1.1,x1.2,x2.1,x2.2⟩,?_⟩
   rw [vP g]
   refine ⟨⟨rfl,rfl⟩,Br.f ?_⟩
   refine dZ (fun ρ=>∃ s6 s7:Sl,ρ=[.val (fbD m ms fs),.val (.int a),.val (.int b),.val (.int k),.val (.int j),.val (.lst ((fl.map (·.2)).map rowD)),s6,s7]) (fun ρ hN=>?_) (fun d hd ρ X1 hN hX1=>?_) _ ⟨_,_,rfl⟩
   ·obtain ⟨s6,s7,rfl⟩:=hN
    exact hX _ ⟨_,_,_,_,rfl⟩
   obtain ⟨s6,s7,rfl⟩:=hN
   obtain ⟨r',hr',rfl⟩:=List.mem_map.mp hd
   obtain ⟨c,hc,ec⟩:=List.mem_map.mp hr'
   have ec:r'=c.2:=ec.symm
   subst ec
   obtain ⟨hcf,hcl⟩:=fm c hc
   have ro:=(fo.it c hcf).2.1
   have m6:=fo.m6
   have ll:(((c.2.map ax).length:Nat):Int)=m:=by rw [List.length_map,ro.1]
   refine ⟨⟨by omega,by omega⟩,?_⟩
   refine dZ (fun ρ=>∃ s7:Sl,ρ=[.val (fbD m ms fs),.val (.int a),.val (.int b),.val (.int k),.val (.int j),.val (.lst ((fl.map (·.2)).map rowD)),.val (rowD c.2),s7]) (fun ρ hN=>?_) (fun d hd ρ X2 hN hX2=>?_) _ ⟨_,rfl⟩
   ·obtain ⟨s7,rfl⟩:=hN
    exact hX1 _ ⟨_,_,rfl⟩
   obtain ⟨s7,rfl⟩:=hN
   rw [aR] at hd
   obtain ⟨i,hi,rfl⟩:=List.mem_map.mp hd
   have hi:=List.mem_range.mp hi
   have hi:i < m:=by omega
   rw [show (0:Int) + (i:Int)=i by omega]
   refine Br.di (fun jp=>⟨sz,⟨rfl,rfl⟩,?_⟩) (fun _=>Br.f (hX2 _ ⟨_,rfl⟩))
   by_cases z:(i:Int)=a∨(i:Int)=b
   ·have:([D.int a,D.int b].any fun y=>eqF y (.int i))=true:=by
     show (eqV (.int a) (.int i) || (eqV (.int b) (.int i) || false))=true
     rcases z with z | z <;> simp [eqV,z]
    show Br (!([D.int a,D.int b].any fun y=>eqF y (.int i))) _ _
    rw [this]
    exact Br.f (Br.f (hX2 _ ⟨_,rfl⟩))
   ·have:([D.int a,D.int b].any fun y=>eqF y (.int i))=false:=by
     have z1:¬ a=(i:Int):=fun e=>z (.inl e.symm)
     have z2:¬ b=(i:Int):=fun e=>z (.inr e.symm)
     show (eqV (.int a) (.int i) || (eqV (.int b) (.int i) || false))=false
     simp [eqV,z1,z2]
    show Br (!([D.int a,D.int b].any fun y=>eqF y (.int i))) _ _
    rw [this]
    refine Br.t (qY ro (by omega) (by omega) ⟨sz,?_⟩)
    rw [Int.toNat_natCast,tn.oth c hcf (by rw [hcl]; exact jp) i hi (fun e=>z (.inl e)) (fun e=>z (.inr e))]
    exact ⟨⟨rfl,rfl⟩,Br.f (hX2 _ ⟨_,rfl⟩)⟩
 ·rintro _ ⟨s4,s5,s6,s7,rfl⟩
  exact h
section
variable {b:Bk} {x y m:Int} {rows:List Prt} {F1 G1 F2 G2:Nat->Nat->Int}
theorem BX (o:HOk b x y m) (bk:BkK b) (up:(b.cells.map (·.1)).Pairwise fun x y=>ltI x y=true) (h:HidF b x.toNat y.toNat m rows F1 G1 F2 G2):FbOk b.m (b.marks++[m]) (fnd b x y m F1 G1 F2 G2):=by
 refine ⟨o.bo.m6,by simp,?_,zN o,fun c hc=>?_,BT o up⟩
 ·have:=o.l4
  rw [List.length_append,List.length_singleton]
  omega
 ·obtain ⟨hp,ht⟩:=List.mem_filter.mp hc
  refine ⟨?_,(vK o h c hp).2,triedB_iff.mp ht⟩
  obtain ⟨i,hi,k,hk,rfl⟩:=psH_mem.mp hp
  exact (bk _ (cO hi)).snoc (by omega) (by omega)
theorem BY (o:HOk b x y m) (h:HidF b x.toNat y.toNat m rows F1 G1 F2 G2):TnOk b.m (fnd b x y m F1 G1 F2 G2) x y m:=by
 have m2:=o.m2
 have x0:=o.x0
 have x1:=o.x1
 have y0:=o.y0
 have y1:=o.y1
 have xy:=o.xy
 refine ⟨by omega,o.m6,fun j hj=>?_,fun c hc l hh hlt hx hy=>?_⟩
 ·have rl:=h.pt.len
  have jl:j < rows.length:=by omega
  obtain ⟨e1,e2⟩:=xA o h (List.getElem?_eq_getElem jl)
  exact ⟨rows[j],h.pt.good _ (List.getElem_mem jl),e1,e2⟩
 ·obtain ⟨i,hi,k,hk,rfl⟩:=psH_mem.mp (List.mem_filter.mp hc).1
  have l:0 < dq ((aM b i).1++[(k:Int)]):=l
  rw [oS] at l
  show at_ (rowH b x.toNat y.toNat _ _ i k) hh=_
  rw [mR o.bo (by omega) (by omega) (by omega) _ _ hi k hlt,if_neg (by omega),if_neg (by omega),if_neg (by omega)]
end
theorem rO {m:Nat} {cs:List (List Int×Row)} (ho:∀ c∈cs,RowN 110 m c.2) (hl:cs.length <= 1000) {a:Int} (a0:0 <= a) (a1:a < m) {s s':Sl} {Q:List D->Prop} (q:Q ((col (cs.map (·.2)) a.toNat).map ax)) :
  bX (ue 2 (gT (cc 0) (gT (cc 1) ud))) bp (dOp gIx (dVar 1) (dVar 2)) (cs.map bq) [] [s,s',.val (.int a)] Q:=by
 refine ii (l:=cs) bq (fun c=>ax (at_ c.2 a.toNat)) (fun ρ=>∃ s s',ρ=[s,s',.val (.int a)]) hl (fun c hc ρ Y Z hN hY=>?_) _ ⟨_,_,rfl⟩ ?_
 ·obtain ⟨s,s',rfl⟩:=hN
  exact ⟨rfl,Br.t (qY (ho c hc) a0 a1 (hY _ ⟨_,_,rfl⟩))⟩
 ·have e:cs.map (fun c=>ax (at_ c.2 a.toNat))=(col (cs.map (·.2)) a.toNat).map ax:=by
   unfold col
   rw [List.map_map,List.map_map]
   rfl
  rw [e]
  exact q
set_option maxHeartbeats 1000000 in
theorem Dc (T:Tx K mg):FnOk P w K mg base CX0 9 T.zS T.vR ["_law_script"] (DL.spLaw K):=by
 refine lawD (k:=8) T.Cc.F sc_law rfl (by decide) (fun cdv A outer s H E hr=>gJ (i:=1) sc_law.nd rfl (by first | exact Or.inl rfl | exact Or.inr rfl) (tH (qg T) (hr.mono (by decide)) rfl T.eF.m T.eF.F.kp T.eF.b .nil AL (bL (pv 0) dW))) (fun cdv A outer s H E hr=>(al (aX (i:=2) sc_law.nd rfl (by first | exact Or.inl rfl | exact Or.inr rfl) (aj (qp T) qo (hr.mono (by decide)) rfl T.dw.m T.dw.F.kp T.dw.b (aa (ac 1 (pv 1)) (aa ag ad))))
   (al (pJ (aj (sR T) sQ (hr.mono (by decide)) rfl T.eE.m T.eE.F.kp T.eE.b (aa (ac 1 (pv 1)) (aa (ar (ac 2 (pv 2)) ag (fun _ _=>rfl)) ad))) (dY (n:=2) rfl (aE (ai (i:=3) sc_law.nd rfl (by first | exact Or.inl rfl | exact Or.inr rfl)) (aE (ai (i:=4) sc_law.nd rfl (by first | exact Or.inl rfl | exact Or.inr rfl)) ce))))
   (ba (aX (i:=5) sc_law.nd rfl (by first | exact Or.inl rfl | exact Or.inr rfl) (bS ga ag (bS qF (aj (aG T) aH (hr.mono (by decide)) rfl T.af.m T.af.F.kp T.af.b (aa (ac 1 (pv 1)) (aa ag ad))) (aW nV rfl T.mZ rfl (aa (jb (iD hr) (aj (aG T) aH (hr.mono (by decide)) rfl T.af.m T.af.F.kp T.af.b (aa (ac 1 (pv 1)) (aa ag ad))) ag (aJ _)) ad)))))
   (ba (aX (i:=6) sc_law.nd rfl (by first | exact Or.inl rfl | exact Or.inr rfl) (aj (cY T) cX (hr.mono (by decide)) rfl T.az.m T.az.F.kp T.az.b (aa (aF (PCD.pld (aw (N':=["_law_values","_law_counts","_law_a"]) rfl rfl (by decide +kernel) rfl (.own (.own (.cap (j:=3) rfl (by first | exact Or.inl rfl | exact Or.inr rfl) rfl .nil))) (by decide +kernel) (dG (ar (ac 2 (pv 2)) ag (fun _ _=>rfl))) (fun B=>(dY (n:=2) rfl (aE (ai (i:=0) (show List.Nodup (α:=PySem.Str) ["_law_values","_law_counts","_law_a"] by decide +kernel) rfl (by first | exact Or.inl rfl | exact Or.inr rfl)) (aE (ai (i:=1) (show List.Nodup (α:=PySem.Str) ["_law_values","_law_counts","_law_a"] by decide +kernel) rfl (by first | exact Or.inl rfl | exact Or.inr rfl)) ce)))) (fun B=>aD) (fun B=>(ar (ac 1 (pv 1)) (ac 2 (pv 2)) (fun _ _=>rfl)))))) ad)))
   (ba (aX (i:=7) sc_law.nd rfl (by first | exact Or.inl rfl | exact Or.inr rfl) (aj (cY T) cX (hr.mono (by decide)) rfl T.az.m T.az.F.kp T.az.b (aa (aF (PCD.pld (aw (N':=["_law_values","_law_counts","_law_b"]) rfl rfl (by decide +kernel) rfl (.own (.own (.cap (j:=4) rfl (by first | exact Or.inl rfl | exact Or.inr rfl) rfl .nil))) (by decide +kernel) (dG (ar (ac 2 (pv 2)) ag (fun _ _=>rfl))) (fun B=>(dY (n:=2) rfl (aE (ai (i:=0) (show List.Nodup (α:=PySem.Str) ["_law_values","_law_counts","_law_b"] by decide +kernel) rfl (by first | exact Or.inl rfl | exact Or.inr rfl)) (aE (ai (i:=1) (show List.Nodup (α:=PySem.Str) ["_law_values","_law_counts","_law_b"] by decide +kernel) rfl (by first | exact Or.inl rfl | exact Or.inr rfl)) ce)))) (fun B=>aD) (fun B=>(ar (ac 1 (pv 1)) (ac 2 (pv 2)) (fun _ _=>rfl)))))) ad)))
   (ba (dF PassesOwn.never rfl (bu rfl T.cH (aa ag ad)) (ai (i:=8) sc_law.nd rfl (by first | exact Or.inl rfl | exact Or.inr rfl)) (al (aX (i:=9) sc_law.nd rfl (by first | exact Or.inl rfl | exact Or.inr rfl) (aj (xq T) xp (hr.mono (by decide)) rfl T.iq.m T.iq.F.kp T.iq.b (aa (ac 2 (pv 2)) (aa (ac 3 (pv 3)) (aa (ac 4 (pv 4)) (aa (ac 5 (pv 5)) ad))))))
   (ah (cz (PWD.pt (eZ (aV se (ar (ac 7 (pv 7)) ag (fun _ _=>rfl)) (ac 5 (pv 5)) (aJ _)) (eY (aV se (bS gb (ar (ac 6 (pv 6)) ag (fun _ _=>rfl)) (ar (ac 6 (pv 6)) ag (fun _ _=>rfl))) (ac 5 (pv 5)) (aJ _))))) (ah (cz (aV yW (ac 9 (pv 9)) nM (aJ _)) (ah (aI fX)) aP)) (ah (cz (cI (bU (aj (kT T) kR (hr.mono (by decide)) rfl T.bJ.m T.bJ.F.kp T.bJ.b (aa (ac 9 (pv 9)) (aa (ar (ac 2 (pv 2)) ag (fun _ _=>rfl)) (aa (bS pS (ar (ac 2 (pv 2)) ag (fun _ _=>rfl)) (cu (aa (ac 5 (pv 5)) ad))) ad)))))) (ah (aI fX)) (ah (cz (PWD.pt (eZ (aV (jV hr) (aj (kW T) kU (hr.mono (by decide)) rfl T.bI.m T.bI.F.kp T.bI.b (aa (ac 9 (pv 9)) (aa (ar (ac 2 (pv 2)) ag (fun _ _=>rfl)) ad))) (ar (ac 2 (pv 2)) ag (fun _ _=>rfl)) (aJ _)) (eY (cI (bU (aj (oU T) oT (hr.mono (by decide)) rfl T.cD.m T.cD.F.kp T.cD.b (aa (ac 9 (pv 9)) (aa (ac 3 (pv 3)) (aa (ac 4 (pv 4)) (aa (ac 5 (pv 5)) ad)))))))))) (ah (aI fX)) aP))))))))
   (ah (aI fX))))))))) ?_
 refine ⟨rfl,⟨by decide,by decide⟩,fun b bo bk bs=>⟨rfl,b.m,rfl,⟨bo.m2,bo.m6⟩,fun x y ab=>⟨rfl,?_⟩⟩⟩
 refine ⟨fun ρ=>∃ m:Int,2 <= m /\ m <= 6 /\ ρ=[.nil,.val .pen,.val (eO b),.val (.int x),.val (.int y),.val (.int m),.nil,.nil,.nil,.nil],⟨rfl,⟨by decide,by decide⟩,fun a a0 a1=>⟨rfl,⟨by decide,by decide⟩,fun c c0 c1=>⟨⟨rfl,rfl⟩,.inl ⟨by omega,by omega⟩,?_⟩⟩⟩,?_⟩
 ·have hm:∃ m:Int,2 <= m /\ m <= 6 /\ 2 + a * (if eqD (.int c) (.int 0)=true then (1:Int) else 0)=m:=by
   refine bl01 (P:=fun x=>∃ m:Int,2 <= m /\ m <= 6 /\ 2 + a * x=m) _ ⟨2,by omega,by omega,by omega⟩ ⟨2 + a,by omega,by omega,by omega⟩
  obtain ⟨m,m2,m6,em⟩:=hm
  exact ⟨m,m2,m6,by rw [← em]; rfl⟩
 rintro _ ⟨m,m2,m6,rfl⟩
 have mks:=bs.mks
 have c9:=bs.c9
 have ho:HOk b x y m:=⟨bo,by omega,ab.a0,ab.a1,ab.b0,ab.b1,ab.ne,m2,m6,by omega⟩
 have rws:∀ c∈b.cells,RowN 110 b.m c.2:=fun c hc=>(bo.it c hc).2.1
 have cl:∀ h,(col (b.cells.map (·.2)) h).length <= 1000:=fun h=>by
  unfold col
  rw [List.length_map,List.length_map]
  omega
 refine ⟨fun ρ=>ρ=[.nil,.val .pen,.val (eO b),.val (.int x),.val (.int y),.val (.int m),.val (ax (whB b x.toNat)),.nil,.nil,.nil],rO rws (by omega) ab.a0 ab.a1 ⟨rfl,col (b.cells.map (·.2)) x.toNat,.inl rfl,cl _,rfl⟩,?_⟩
 rintro _ rfl
 refine ⟨fun ρ=>ρ=[.nil,.val .pen,.val (eO b),.val (.int x),.val (.int y),.val (.int m),.val (ax (whB b x.toNat)),.val (ax (whB b y.toNat)),.nil,.nil],rO rws (by omega) ab.b0 ab.b1 ⟨rfl,col (b.cells.map (·.2)) y.toNat,.inl rfl,cl _,rfl⟩,?_⟩
 rintro _ rfl
 refine ⟨fun ρ=>∃ s8 s9:Sl,ρ=[.nil,.val .pen,.val (eO b),.val (.int x),.val (.int y),.val (.int m),.val (ax (whB b x.toNat)),.val (ax (whB b y.toNat)),s8,s9],⟨⟨by decide,by decide⟩,?_⟩,?_⟩
 ·refine dZ _ (fun ρ h=>h) (fun d hd ρ X hN hX=>?_) _ ⟨_,_,rfl⟩
  obtain ⟨s8,s9,rfl⟩:=hN
  refine ⟨rfl,b,x,y,m,rfl,ho,fun few=>?_,fun many rows F1 G1 F2 G2 hf=>?_⟩
  ·refine Br.di (fun z=>Br.t (Br.f (hX _ ⟨_,_,rfl⟩))) (fun z=>Br.dt (few.resolve_right z) (Br.f (hX _ ⟨_,_,rfl⟩)))
  ·refine Br.dn (fun z=>many (.inr z)) (Br.dn (fun z=>many (.inl z)) ?_)
   have fo:=BX ho bk bs.up hf
   have eb:eO (hidB b x.toNat y.toNat m F1 G1 F2 G2)=fbD b.m (b.marks++[m]) (fnd b x y m F1 G1 F2 G2):=by
    unfold eO fbD
    rw [xz ho bs.up hf]
    rfl
   rw [eb]
   have ei:cq (b.marks++[m]) = .tup (b.marks.map D.int++[.int m]):=by unfold cq; rw [List.map_append]; rfl
   have l4:=ho.l4
   refine ⟨sz,Nat.le_trans (show _ <= 6 by rw [List.length_map,List.length_singleton]; omega) (by decide),rfl,b.m,b.marks++[m],fnd b x y m F1 G1 F2 G2,by rw [ei],fo,Br.f ?_⟩
   have sc:shp (.tup (b.cells.map bq))=true:=Shp.shp (n:=4) (.tup (vN _))
   refine ⟨rfl,b.m,b.marks++[m],fnd b x y m F1 G1 F2 G2,rfl,fo,?_⟩
   rw [qr ho bs.up hf]
   exact ⟨⟨sc,sc⟩,mO sc ⟨rfl,b.m,b.marks++[m],fnd b x y m F1 G1 F2 G2,x,y,m,rfl,fo,ab,BY ho hf,Br.f (hX _ ⟨_,_,rfl⟩)⟩⟩
 ·rintro _ ⟨s8,s9,rfl⟩
  rfl
end
set_option maxHeartbeats 0 in
theorem all_mk {l:PySem.W.OpenLaw} {w:World} {K:PySem.W.Frag} {h:Heap} {mg:Str->Option Value} {fa f0 f1 f2 f3 f4 f5 f6 f7 f8 f9 f10 f11 f12 f13 f14 f15 f16 f17 f18 f19 f20 f21 f22 f23 f24 f25 f26 f27 f28 f29:Addr} (X:K.In h) (G:h.Ns mainGlobals mg) (hfa:mg "law" = some (.ref fa))
  {od0 an0 od1 an1 od2 an2 od3 an3 od4 an4 od5 an5 od6 an6 od7 an7 od8 an8 od9 an9 od10 an10 od11 an11 od12 an12 od13 an13 od14 an14 od15 an15 od16 an16 od17 an17 od18 an18 od19 an19 od20 an20 od21 an21 od22 an22 od23 an23 od24 an24 od25 an25 od26 an26 od27 an27 od28 an28 od29 an29:Option Addr} {sl0 sl1 sl2 sl3 sl4 sl5 sl6 sl7 sl8 sl9 sl10 sl11 sl12 sl13 sl14 sl15 sl16 sl17 sl18 sl19 sl20 sl21 sl22 sl23 sl24 sl25 sl26 sl27 sl28 sl29:Array (Option Value)} {oc0 kV0 dc0 pm0 cd0 ct0 oc1 kV1 dc1 pm1 cd1 ct1 oc2 kV2 dc2 pm2 cd2 ct2 oc3 kV3 dc3 pm3 cd3 ct3 oc4 kV4 dc4 pm4 cd4 ct4 oc5 kV5 dc5 pm5 cd5 ct5 oc6 kV6 dc6 pm6 cd6 ct6 oc7 kV7 dc7 pm7 cd7 ct7 oc8 kV8 dc8 pm8 cd8 ct8 oc9 kV9 dc9 pm9 cd9 ct9 oc10 kV10 dc10 pm10 cd10 ct10 oc11 kV11 dc11 pm11 cd11 ct11 oc12 kV12 dc12 pm12 cd12 ct12 oc13 kV13 dc13 pm13 cd13 ct13 oc14 kV14 dc14 pm14 cd14 ct14 oc15 kV15 dc15 pm15 cd15 ct15 oc16 kV16 dc16 pm16 cd16 ct16 oc17 kV17 dc17 pm17 cd17 ct17 oc18 kV18 dc18 pm18 cd18 ct18 oc19 kV19 dc19 pm19 cd19 ct19 oc20 kV20 dc20 pm20 cd20 ct20 oc21 kV21 dc21 pm21 cd21 ct21 oc22 kV22 dc22 pm22 cd22 ct22 oc23 kV23 dc23 pm23 cd23 ct23 oc24 kV24 dc24 pm24 cd24 ct24 oc25 kV25 dc25 pm25 cd25 ct25 oc26 kV26 dc26 pm26 cd26 ct26 oc27 kV27 dc27 pm27 cd27 ct27 oc28 kV28 dc28 pm28 cd28 ct28 oc29 kV29 dc29 pm29 cd29 ct29:Value}
  (a0:PySem.W.nsIn K mainGlobals "is_whole" = some (some (.ref f0))) (l0:K.lookup f0=some ⟨oc0,od0,.func (PySem.W.fnOf "is_whole" "is_whole" (aA cP) (au cP) (ae cP) .none kV0 dc0 pm0 an0 cd0 ct0),sl0⟩) (c0:PySem.W.codeIn K cd0 "is_whole" = true) (k0:PySem.W.keepIn K (.ref f0)=true)
  (a1:PySem.W.nsIn K mainGlobals "is_within" = some (some (.ref f1))) (l1:K.lookup f1=some ⟨oc1,od1,.func (PySem.W.fnOf "is_within" "is_within" (aA cg) (au cg) (ae cg) .none kV1 dc1 pm1 an1 cd1 ct1),sl1⟩) (c1:PySem.W.codeIn K cd1 "is_within" = true) (k1:PySem.W.keepIn K (.ref f1)=true)
  (a2:PySem.W.nsIn K mainGlobals "together" = some (some (.ref f2))) (l2:K.lookup f2=some ⟨oc2,od2,.func (PySem.W.fnOf "together" "together" (aA cQ) (au cQ) (ae cQ) .none kV2 dc2 pm2 an2 cd2 ct2),sl2⟩) (c2:PySem.W.codeIn K cd2 "together" = true) (k2:PySem.W.keepIn K (.ref f2)=true)
  (a3:PySem.W.nsIn K mainGlobals "together_by_house" = some (some (.ref f3))) (l3:K.lookup f3=some ⟨oc3,od3,.func (PySem.W.fnOf "together_by_house" "together_by_house" (aA aK) (au aK) (ae aK) .none kV3 dc3 pm3 an3 cd3 ct3),sl3⟩) (c3:PySem.W.codeIn K cd3 "together_by_house" = true) (k3:PySem.W.keepIn K (.ref f3)=true)
  (a4:PySem.W.nsIn K mainGlobals "gathered" = some (some (.ref f4))) (l4:K.lookup f4=some ⟨oc4,od4,.func (PySem.W.fnOf "gathered" "gathered" (aA cR) (au cR) (ae cR) .none kV4 dc4 pm4 an4 cd4 ct4),sl4⟩) (c4:PySem.W.codeIn K cd4 "gathered" = true) (k4:PySem.W.keepIn K (.ref f4)=true)
  (a5:PySem.W.nsIn K mainGlobals "is_tried" = some (some (.ref f5))) (l5:K.lookup f5=some ⟨oc5,od5,.func (PySem.W.fnOf "is_tried" "is_tried" (aA cS) (au cS) (ae cS) .none kV5 dc5 pm5 an5 cd5 ct5),sl5⟩) (c5:PySem.W.codeIn K cd5 "is_tried" = true) (k5:PySem.W.keepIn K (.ref f5)=true)
  (a6:PySem.W.nsIn K mainGlobals "check_house" = some (some (.ref f6))) (l6:K.lookup f6=some ⟨oc6,od6,.func (PySem.W.fnOf "check_house" "check_house" (aA bC) (au bC) (ae bC) .none kV6 dc6 pm6 an6 cd6 ct6),sl6⟩) (c6:PySem.W.codeIn K cd6 "check_house" = true) (k6:PySem.W.keepIn K (.ref f6)=true)
  (a7:PySem.W.nsIn K mainGlobals "check_pair" = some (some (.ref f7))) (l7:K.lookup f7=some ⟨oc7,od7,.func (PySem.W.fnOf "check_pair" "check_pair" (aA bP) (au bP) (ae bP) .none kV7 dc7 pm7 an7 cd7 ct7),sl7⟩) (c7:PySem.W.codeIn K cd7 "check_pair" = true) (k7:PySem.W.keepIn K (.ref f7)=true)
  (a8:PySem.W.nsIn K mainGlobals "parted" = some (some (.ref f8))) (l8:K.lookup f8=some ⟨oc8,od8,.func (PySem.W.fnOf "parted" "parted" (aA fQ) (au fQ) (ae fQ) .none kV8 dc8 pm8 an8 cd8 ct8),sl8⟩) (c8:PySem.W.codeIn K cd8 "parted" = true) (k8:PySem.W.keepIn K (.ref f8)=true)
  (a9:PySem.W.nsIn K mainGlobals "ills_of" = some (some (.ref f9))) (l9:K.lookup f9=some ⟨oc9,od9,.func (PySem.W.fnOf "ills_of" "ills_of" (aA eA) (au eA) (ae eA) .none kV9 dc9 pm9 an9 cd9 ct9),sl9⟩) (c9:PySem.W.codeIn K cd9 "ills_of" = true) (k9:PySem.W.keepIn K (.ref f9)=true)
  (a10:PySem.W.nsIn K mainGlobals "counts_of" = some (some (.ref f10))) (l10:K.lookup f10=some ⟨oc10,od10,.func (PySem.W.fnOf "counts_of" "counts_of" (aA ci) (au ci) (ae ci) .none kV10 dc10 pm10 an10 cd10 ct10),sl10⟩) (c10:PySem.W.codeIn K cd10 "counts_of" = true) (k10:PySem.W.keepIn K (.ref f10)=true)
  (a11:PySem.W.nsIn K mainGlobals "all_at" = some (some (.ref f11))) (l11:K.lookup f11=some ⟨oc11,od11,.func (PySem.W.fnOf "all_at" "all_at" (aA fR) (au fR) (ae fR) .none kV11 dc11 pm11 an11 cd11 ct11),sl11⟩) (c11:PySem.W.codeIn K cd11 "all_at" = true) (k11:PySem.W.keepIn K (.ref f11)=true)
  (a12:PySem.W.nsIn K mainGlobals "spread" = some (some (.ref f12))) (l12:K.lookup f12=some ⟨oc12,od12,.func (PySem.W.fnOf "spread" "spread" (aA fS) (au fS) (ae fS) .none kV12 dc12 pm12 an12 cd12 ct12),sl12⟩) (c12:PySem.W.codeIn K cd12 "spread" = true) (k12:PySem.W.keepIn K (.ref f12)=true)
  (a13:PySem.W.nsIn K mainGlobals "whole_of" = some (some (.ref f13))) (l13:K.lookup f13=some ⟨oc13,od13,.func (PySem.W.fnOf "whole_of" "whole_of" (aA cT) (au cT) (ae cT) .none kV13 dc13 pm13 an13 cd13 ct13),sl13⟩) (c13:PySem.W.codeIn K cd13 "whole_of" = true) (k13:PySem.W.keepIn K (.ref f13)=true)
  (a14:PySem.W.nsIn K mainGlobals "hidden" = some (some (.ref f14))) (l14:K.lookup f14=some ⟨oc14,od14,.func (PySem.W.fnOf "hidden" "hidden" (aA fT) (au fT) (ae fT) .none kV14 dc14 pm14 an14 cd14 ct14),sl14⟩) (c14:PySem.W.codeIn K cd14 "hidden" = true) (k14:PySem.W.keepIn K (.ref f14)=true)
  (a15:PySem.W.nsIn K mainGlobals "split" = some (some (.ref f15))) (l15:K.lookup f15=some ⟨oc15,od15,.func (PySem.W.fnOf "split" "split" (aA iK) (au iK) (ae iK) .none kV15 dc15 pm15 an15 cd15 ct15),sl15⟩) (c15:PySem.W.codeIn K cd15 "split" = true) (k15:PySem.W.keepIn K (.ref f15)=true)
  (a16:PySem.W.nsIn K mainGlobals "poured" = some (some (.ref f16))) (l16:K.lookup f16=some ⟨oc16,od16,.func (PySem.W.fnOf "poured" "poured" (aA fU) (au fU) (ae fU) .none kV16 dc16 pm16 an16 cd16 ct16),sl16⟩) (c16:PySem.W.codeIn K cd16 "poured" = true) (k16:PySem.W.keepIn K (.ref f16)=true)
  (a17:PySem.W.nsIn K mainGlobals "filled" = some (some (.ref f17))) (l17:K.lookup f17=some ⟨oc17,od17,.func (PySem.W.fnOf "filled" "filled" (aA fV) (au fV) (ae fV) .none kV17 dc17 pm17 an17 cd17 ct17),sl17⟩) (c17:PySem.W.codeIn K cd17 "filled" = true) (k17:PySem.W.keepIn K (.ref f17)=true)
  (a18:PySem.W.nsIn K mainGlobals "_law_pen" = some (some (.ref f18))) (l18:K.lookup f18=some ⟨oc18,od18,.func (PySem.W.fnOf "_law_pen" "_law_pen" (aA cU) (au cU) (ae cU) .none kV18 dc18 pm18 an18 cd18 ct18),sl18⟩) (c18:PySem.W.codeIn K cd18 "_law_pen" = true) (k18:PySem.W.keepIn K (.ref f18)=true)
  (a19:PySem.W.nsIn K mainGlobals "_law_next" = some (some (.ref f19))) (l19:K.lookup f19=some ⟨oc19,od19,.func (PySem.W.fnOf "_law_next" "_law_next" (aA cj) (au cj) (ae cj) .none kV19 dc19 pm19 an19 cd19 ct19),sl19⟩) (c19:PySem.W.codeIn K cd19 "_law_next" = true) (k19:PySem.W.keepIn K (.ref f19)=true)
  (a20:PySem.W.nsIn K mainGlobals "_law_count" = some (some (.ref f20))) (l20:K.lookup f20=some ⟨oc20,od20,.func (PySem.W.fnOf "_law_count" "_law_count" (aA bQ) (au bQ) (ae bQ) .none kV20 dc20 pm20 an20 cd20 ct20),sl20⟩) (c20:PySem.W.codeIn K cd20 "_law_count" = true) (k20:PySem.W.keepIn K (.ref f20)=true)
  (a21:PySem.W.nsIn K mainGlobals "_law_book" = some (some (.ref f21))) (l21:K.lookup f21=some ⟨oc21,od21,.func (PySem.W.fnOf "_law_book" "_law_book" (aA ck) (au ck) (ae ck) .none kV21 dc21 pm21 an21 cd21 ct21),sl21⟩) (c21:PySem.W.codeIn K cd21 "_law_book" = true) (k21:PySem.W.keepIn K (.ref f21)=true)
  (a22:PySem.W.nsIn K mainGlobals "_law_two" = some (some (.ref f22))) (l22:K.lookup f22=some ⟨oc22,od22,.func (PySem.W.fnOf "_law_two" "_law_two" (aA cV) (au cV) (ae cV) .none kV22 dc22 pm22 an22 cd22 ct22),sl22⟩) (c22:PySem.W.codeIn K cd22 "_law_two" = true) (k22:PySem.W.keepIn K (.ref f22)=true)
  (a23:PySem.W.nsIn K mainGlobals "_law_is_count" = some (some (.ref f23))) (l23:K.lookup f23=some ⟨oc23,od23,.func (PySem.W.fnOf "_law_is_count" "_law_is_count" (aA bc) (au bc) (ae bc) .none kV23 dc23 pm23 an23 cd23 ct23),sl23⟩) (c23:PySem.W.codeIn K cd23 "_law_is_count" = true) (k23:PySem.W.keepIn K (.ref f23)=true)
  (a24:PySem.W.nsIn K mainGlobals "_law_sum" = some (some (.ref f24))) (l24:K.lookup f24=some ⟨oc24,od24,.func (PySem.W.fnOf "_law_sum" "_law_sum" (aA cW) (au cW) (ae cW) .none kV24 dc24 pm24 an24 cd24 ct24),sl24⟩) (c24:PySem.W.codeIn K cd24 "_law_sum" = true) (k24:PySem.W.keepIn K (.ref f24)=true)
  (a25:PySem.W.nsIn K mainGlobals "_law_said" = some (some (.ref f25))) (l25:K.lookup f25=some ⟨oc25,od25,.func (PySem.W.fnOf "_law_said" "_law_said" (aA cp) (au cp) (ae cp) .none kV25 dc25 pm25 an25 cd25 ct25),sl25⟩) (c25:PySem.W.codeIn K cd25 "_law_said" = true) (k25:PySem.W.keepIn K (.ref f25)=true)
  (a26:PySem.W.nsIn K mainGlobals "_law_is_book" = some (some (.ref f26))) (l26:K.lookup f26=some ⟨oc26,od26,.func (PySem.W.fnOf "_law_is_book" "_law_is_book" (aA bj) (au bj) (ae bj) .none kV26 dc26 pm26 an26 cd26 ct26),sl26⟩) (c26:PySem.W.codeIn K cd26 "_law_is_book" = true) (k26:PySem.W.keepIn K (.ref f26)=true)
  (a27:PySem.W.nsIn K mainGlobals "_law_without" = some (some (.ref f27))) (l27:K.lookup f27=some ⟨oc27,od27,.func (PySem.W.fnOf "_law_without" "_law_without" (aA bm) (au bm) (ae bm) .none kV27 dc27 pm27 an27 cd27 ct27),sl27⟩) (c27:PySem.W.codeIn K cd27 "_law_without" = true) (k27:PySem.W.keepIn K (.ref f27)=true)
  (a28:PySem.W.nsIn K mainGlobals "_law_turns" = some (some (.ref f28))) (l28:K.lookup f28=some ⟨oc28,od28,.func (PySem.W.fnOf "_law_turns" "_law_turns" (aA bR) (au bR) (ae bR) .none kV28 dc28 pm28 an28 cd28 ct28),sl28⟩) (c28:PySem.W.codeIn K cd28 "_law_turns" = true) (k28:PySem.W.keepIn K (.ref f28)=true)
  (a29:PySem.W.nsIn K mainGlobals "law" = some (some (.ref f29))) (l29:K.lookup f29=some ⟨oc29,od29,.func (PySem.W.fnOf "law" "law" (aA mI) (au mI) (ae mI) .none kV29 dc29 pm29 an29 cd29 ct29),sl29⟩) (c29:PySem.W.codeIn K cd29 "law" = true) (k29:PySem.W.keepIn K (.ref f29)=true)
  (z0:PySem.W.nsIn K mainGlobals "ValueError" = some none) (z1:PySem.W.nsIn K mainGlobals "sum" = some none) (z2:PySem.W.nsIn K mainGlobals "tuple" = some none) (z3:PySem.W.nsIn K mainGlobals "any" = some none) (z4:PySem.W.nsIn K mainGlobals "list" = some none) (z5:PySem.W.nsIn K mainGlobals "enumerate" = some none) (z6:PySem.W.nsIn K mainGlobals "range" = some none) (z7:PySem.W.nsIn K mainGlobals "sorted" = some none) (z8:PySem.W.nsIn K mainGlobals "isinstance" = some none) (z9:PySem.W.nsIn K mainGlobals "int" = some none) (z10:PySem.W.nsIn K mainGlobals "zip" = some none) (z11:PySem.W.nsIn K mainGlobals "len" = some none) (z12:PySem.W.nsIn K mainGlobals "bool" = some none) (z13:PySem.W.nsIn K mainGlobals "min" = some none) (z14:PySem.W.nsIn K mainGlobals "set" = some none) (z15:PySem.W.nsIn K mainGlobals "all" = some none)
  {ca bY bK bZ:Tok}
  (fw:PySem.W.nsIn K mainGlobals "MOST_KINDS" = some (some (.int 6 ca)))
  (fJ:PySem.W.nsIn K mainGlobals "MOST_MARKS" = some (some (.int 5 bY)))
  (eR:PySem.W.nsIn K mainGlobals "LEAST_PARTS" = some (some (.int 2 bK)))
  (fB:PySem.W.nsIn K mainGlobals "MOST_PARTS" = some (some (.int 8 bZ)))
  :
  ∃ fd:FuncData,(∀ (s:Shared) (v:Value),BindsTo s fd ⟨[v],[]⟩ [("_law_script",v)]) /\ ∀ base:Heap,K.In base->base.Ns mainGlobals mg->FnOk l.prog w K mg base CX0 9 fa fd ["_law_script"] (DL.spLaw K):=by
 have e:=hfa.symm.trans (PySem.W.mg_of X G a29)
 cases e
 have F0:=aU (st:=cP) l0 c0 k0
 have F1:=aU (st:=cg) l1 c1 k1
 have F2:=aU (st:=cQ) l2 c2 k2
 have F3:=aU (st:=aK) l3 c3 k3
 have F4:=aU (st:=cR) l4 c4 k4
 have F5:=aU (st:=cS) l5 c5 k5
 have F6:=aU (st:=bC) l6 c6 k6
 have F7:=aU (st:=bP) l7 c7 k7
 have F8:=aU (st:=fQ) l8 c8 k8
 have F9:=aU (st:=eA) l9 c9 k9
 have F10:=aU (st:=ci) l10 c10 k10
 have F11:=aU (st:=fR) l11 c11 k11
 have F12:=aU (st:=fS) l12 c12 k12
 have F13:=aU (st:=cT) l13 c13 k13
 have F14:=aU (st:=fT) l14 c14 k14
 have F15:=aU (st:=iK) l15 c15 k15
 have F16:=aU (st:=fU) l16 c16 k16
 have F17:=aU (st:=fV) l17 c17 k17
 have F18:=aU (st:=cU) l18 c18 k18
 have F19:=aU (st:=cj) l19 c19 k19
 have F20:=aU (st:=bQ) l20 c20 k20
 have F21:=aU (st:=ck) l21 c21 k21
 have F22:=aU (st:=cV) l22 c22 k22
 have F23:=aU (st:=bc) l23 c23 k23
 have F24:=aU (st:=cW) l24 c24 k24
 have F25:=aU (st:=cp) l25 c25 k25
 have F26:=aU (st:=bj) l26 c26 k26
 have F27:=aU (st:=bm) l27 c27 k27
 have F28:=aU (st:=bR) l28 c28 k28
 have F29:=aU (st:=mI) l29 c29 k29
 let T:Tx K mg:={ iU:=f0,gD:=_,eG:=⟨F0,PySem.W.mg_of X G a0,F0.binds (ps:=["thing"]) (fun _ _ _ _ _ _ us hl=>match us,hl with | [_],_=>rfl)⟩,gz:=f1,fA:=_,aS:=⟨F1,PySem.W.mg_of X G a1,F1.binds (ps:=["thing","least","most"]) (fun _ _ _ _ _ _ us hl=>match us,hl with | [_,_,_],_=>rfl)⟩,iN:=f2,gG:=_,eB:=⟨F2,PySem.W.mg_of X G a2,F2.binds (ps:=["counts"]) (fun _ _ _ _ _ _ us hl=>match us,hl with | [_],_=>rfl)⟩,bN:=f3,bE:=_,aC:=⟨F3,PySem.W.mg_of X G a3,F3.binds (ps:=["many","rows"]) (fun _ _ _ _ _ _ us hl=>match us,hl with | [_,_],_=>rfl)⟩,fW:=f4,eU:=_,eC:=⟨F4,PySem.W.mg_of X G a4,F4.binds (ps:=["many","pairs"]) (fun _ _ _ _ _ _ us hl=>match us,hl with | [_,_],_=>rfl)⟩,iQ:=f5,gy:=_,eI:=⟨F5,PySem.W.mg_of X G a5,F5.binds (ps:=["counts"]) (fun _ _ _ _ _ _ us hl=>match us,hl with | [_],_=>rfl)⟩,eV:=f6,dS:=_,aZ:=⟨F6,PySem.W.mg_of X G a6,F6.binds (ps:=["many","house"]) (fun _ _ _ _ _ _ us hl=>match us,hl with | [_,_],_=>rfl)⟩,fK:=f7,eP:=_,cE:=⟨F7,PySem.W.mg_of X G a7,F7.binds (ps:=["many","a","b"]) (fun _ _ _ _ _ _ us hl=>match us,hl with | [_,_,_],_=>rfl)⟩,jF:=f8,ir:=_,im:=⟨F8,PySem.W.mg_of X G a8,F8.binds (ps:=["one","other","many"]) (fun _ _ _ _ _ _ us hl=>match us,hl with | [_,_,_],_=>rfl)⟩,kG:=f9,iO:=_,aL:=⟨F9,PySem.W.mg_of X G a9,F9.binds (ps:=["count"]) (fun _ _ _ _ _ _ us hl=>match us,hl with | [_],_=>rfl)⟩,gA:=f10,fG:=_,aT:=⟨F10,PySem.W.mg_of X G a10,F10.binds (ps:=["wells","ills"]) (fun _ _ _ _ _ _ us hl=>match us,hl with | [_,_],_=>rfl)⟩,mV:=f11,kD:=_,dI:=⟨F11,PySem.W.mg_of X G a11,F11.binds (ps:=["place","number","many"]) (fun _ _ _ _ _ _ us hl=>match us,hl with | [_,_,_],_=>rfl)⟩,mW:=f12,kC:=_,dL:=⟨F12,PySem.W.mg_of X G a12,F12.binds (ps:=["number","many"]) (fun _ _ _ _ _ _ us hl=>match us,hl with | [_,_],_=>rfl)⟩,iS:=f13,gx:=_,eD:=⟨F13,PySem.W.mg_of X G a13,F13.binds (ps:=["book"]) (fun _ _ _ _ _ _ us hl=>match us,hl with | [_],_=>rfl)⟩,mU:=f14,kB:=_,iq:=⟨F14,PySem.W.mg_of X G a14,F14.binds (ps:=["book","a","b","many"]) (fun _ _ _ _ _ _ us hl=>match us,hl with | [_,_,_,_],_=>rfl)⟩,qv:=f15,mX:=_,fE:=⟨F15,PySem.W.mg_of X G a15,F15.binds (ps:=["counts","parts"]) (fun _ _ _ _ _ _ us hl=>match us,hl with | [_,_],_=>rfl)⟩,mY:=f16,kE:=_,dJ:=⟨F16,PySem.W.mg_of X G a16,F16.binds (ps:=["numbers","rooms"]) (fun _ _ _ _ _ _ us hl=>match us,hl with | [_,_],_=>rfl)⟩,mT:=f17,kA:=_,iu:=⟨F17,PySem.W.mg_of X G a17,F17.binds (ps:=["number","rooms"]) (fun _ _ _ _ _ _ us hl=>match us,hl with | [_,_],_=>rfl)⟩,iV:=f18,gE:=_,eF:=⟨F18,PySem.W.mg_of X G a18,F18.binds (ps:=["_law_script"]) (fun _ _ _ _ _ _ us hl=>match us,hl with | [_],_=>rfl)⟩,eQ:=f19,dH:=_,af:=⟨F19,PySem.W.mg_of X G a19,F19.binds (ps:=["_law_pen_here","_law_many"]) (fun _ _ _ _ _ _ us hl=>match us,hl with | [_,_],_=>rfl)⟩,fu:=f20,eW:=_,cF:=⟨F20,PySem.W.mg_of X G a20,F20.binds (ps:=["_law_pen_here"]) (fun _ _ _ _ _ _ us hl=>match us,hl with | [_],_=>rfl)⟩,gH:=f21,fF:=_,dw:=⟨F21,PySem.W.mg_of X G a21,F21.binds (ps:=["_law_pen_here","_law_most"]) (fun _ _ _ _ _ _ us hl=>match us,hl with | [_,_],_=>rfl)⟩,iP:=f22,gF:=_,eE:=⟨F22,PySem.W.mg_of X G a22,F22.binds (ps:=["_law_pen_here","_law_many"]) (fun _ _ _ _ _ _ us hl=>match us,hl with | [_,_],_=>rfl)⟩,du:=f23,cG:=_,bz:=⟨F23,PySem.W.mg_of X G a23,F23.binds (ps:=["_law_thing"]) (fun _ _ _ _ _ _ us hl=>match us,hl with | [_],_=>rfl)⟩,iT:=f24,gI:=_,az:=⟨F24,PySem.W.mg_of X G a24,F24.binds (ps:=["_law_counts"]) (fun _ _ _ _ _ _ us hl=>match us,hl with | [_],_=>rfl)⟩,gC:=f25,fH:=_,dz:=⟨F25,PySem.W.mg_of X G a25,F25.binds (ps:=["_law_one","_law_other"]) (fun _ _ _ _ _ _ us hl=>match us,hl with | [_,_],_=>rfl)⟩,dQ:=f26,dv:=_,bJ:=⟨F26,PySem.W.mg_of X G a26,F26.binds (ps:=["_law_found","_law_many","_law_marks"]) (fun _ _ _ _ _ _ us hl=>match us,hl with | [_,_,_],_=>rfl)⟩,dR:=f27,dr:=_,bI:=⟨F27,PySem.W.mg_of X G a27,F27.binds (ps:=["_law_found","_law_many"]) (fun _ _ _ _ _ _ us hl=>match us,hl with | [_,_],_=>rfl)⟩,fC:=f28,eT:=_,cD:=⟨F28,PySem.W.mg_of X G a28,F28.binds (ps:=["_law_found","_law_a","_law_b","_law_kinds"]) (fun _ _ _ _ _ _ us hl=>match us,hl with | [_,_,_,_],_=>rfl)⟩,zS:=fa,vR:=_,Cc:=⟨F29,PySem.W.mg_of X G a29,F29.binds (ps:=["_law_script"]) (fun _ _ _ _ _ _ us hl=>match us,hl with | [_],_=>rfl)⟩,oW:=PySem.W.mg_none_of X G z0,qw:=PySem.W.mg_none_of X G z1,bv:=PySem.W.mg_none_of X G z2,BZ:=PySem.W.mg_none_of X G z3,rP:=PySem.W.mg_none_of X G z4,kF:=PySem.W.mg_none_of X G z5,cH:=PySem.W.mg_none_of X G z6,ix:=PySem.W.mg_none_of X G z7,aB:=PySem.W.mg_none_of X G z8,mZ:=PySem.W.mg_none_of X G z9,vQ:=PySem.W.mg_none_of X G z10,iR:=PySem.W.mg_none_of X G z11,oV:=PySem.W.mg_none_of X G z12,Ca:=PySem.W.mg_none_of X G z13,Cd:=PySem.W.mg_none_of X G z14,Cb:=PySem.W.mg_none_of X G z15,ca:=ca,ip:=PySem.W.mg_of X G fw,bY:=bY,iw:=PySem.W.mg_of X G fJ,bK:=bK,gf:=PySem.W.mg_of X G eR,bZ:=bZ,io:=PySem.W.mg_of X G fB }
 exact ⟨PySem.W.fnOf "law" "law" (aA mI) (au mI) (ae mI) .none kV29 dc29 pm29 an29 cd29 ct29,fun s v=>.of_eq rfl,fun base _ _=>Dc T⟩
end My
theorem PySem.W.Fast.tw6634414139185912581:True:=trivial
theorem PySem.W.Fast.tw8782582654989920300:True:=trivial
theorem PySem.W.Fast.tw8595443146221893012:True:=trivial
theorem PySem.W.Fast.tw13101384865352610432:True:=trivial
theorem PySem.W.Fast.tw3908865045948067928:True:=trivial
theorem PySem.W.Fast.tw7925247560371097738:True:=trivial
theorem PySem.W.Fast.tw2060701440935050086:True:=trivial
theorem PySem.W.Fast.tw11864503114359899350:True:=trivial
theorem PySem.W.Fast.tw13544929859290414925:True:=trivial
theorem PySem.W.Fast.tw7926120924694470365:True:=trivial
theorem PySem.W.Fast.tw13195220077540791004:True:=trivial
theorem PySem.W.Fast.tw13138691310837077176:True:=trivial
theorem PySem.W.Fast.tw12674342658540531429:True:=trivial
theorem PySem.W.Fast.tw13406479260850994521:True:=trivial
theorem PySem.W.Fast.tw2261109487929021985:True:=trivial
theorem PySem.W.Fast.tw2698129099058360386:True:=trivial
theorem PySem.W.Fast.tw5051161604520023525:True:=trivial
theorem PySem.W.Fast.tw15070996661007268921:True:=trivial
theorem PySem.W.Fast.tw6312900848732016306:True:=trivial
theorem PySem.W.Fast.tw13048800801878617447:True:=trivial
theorem PySem.W.Fast.tw17801592521500197534:True:=trivial
theorem PySem.W.Fast.tw5986303909347033909:True:=trivial
theorem PySem.W.Fast.tw8399106433130316346:True:=trivial
theorem PySem.W.Fast.tw12340897244375358178:True:=trivial
theorem PySem.W.Fast.tw1299927149692898367:True:=trivial
theorem PySem.W.Fast.tw14796253531096542963:True:=trivial
theorem PySem.W.Fast.tw9998160434809526594:True:=trivial
theorem PySem.W.Fast.tw9638112330477278857:True:=trivial
theorem PySem.W.Fast.tw2706631365072433636:True:=trivial
theorem PySem.W.Fast.tw7466569842628013507:True:=trivial
theorem PySem.W.Fast.tw1309552260305699721:True:=trivial
theorem PySem.W.Fast.tw18007970612979935765:True:=trivial
theorem PySem.W.Fast.tw9495558543088028821:True:=trivial
theorem PySem.W.Fast.tw4755467475051362430:True:=trivial
theorem PySem.W.Fast.tw17321721965027983971:True:=trivial
theorem PySem.W.Fast.tw1374869815023985304:True:=trivial
theorem PySem.W.Fast.tw10874632262568416190:True:=trivial
theorem PySem.W.Fast.tw10907298438689471245:True:=trivial
theorem PySem.W.Fast.tw2694855681656662709:True:=trivial
theorem PySem.W.Fast.tw18257471094200860048:True:=trivial
theorem PySem.W.Fast.tw6375235281249036036:True:=trivial
theorem PySem.W.Fast.tw16366180620738666591:True:=trivial
theorem PySem.W.Fast.tw1123708576080915472:True:=trivial
theorem PySem.W.Fast.tw12777341990722519640:True:=trivial
theorem PySem.W.Fast.tw1845957030015200336:True:=trivial
theorem PySem.W.Fast.tw16955430320656047936:True:=trivial
theorem PySem.W.Fast.tw12093884603726465223:True:=trivial
theorem PySem.W.Fast.tw20266066313376405:True:=trivial
theorem PySem.W.Fast.tw5126589195421656286:True:=trivial
theorem PySem.W.Fast.tw14707280776770419773:True:=trivial
theorem PySem.W.Fast.tw375681932243216887:True:=trivial
theorem PySem.W.Fast.tw770281371484342635:True:=trivial
theorem PySem.W.Fast.tw978771241586782643:True:=trivial
theorem PySem.W.Fast.tw6388872310204677982:True:=trivial
theorem PySem.W.Fast.tw2450475116919239591:True:=trivial
theorem PySem.W.Fast.tw7266050631776596670:True:=trivial
theorem PySem.W.Fast.tw10016951198918979700:True:=trivial
theorem PySem.W.Fast.tw3602830090642688913:True:=trivial
theorem PySem.W.Fast.tw17273830582029902575:True:=trivial
theorem PySem.W.Fast.tw9789879341480658057:True:=trivial
theorem PySem.W.Fast.tw10628230375135373864:True:=trivial
theorem PySem.W.Fast.tw10395815197810693760:True:=trivial
theorem PySem.W.Fast.tw6908094935260414309:True:=trivial
theorem PySem.W.Fast.tw3185585370309306514:True:=trivial
theorem PySem.W.Fast.tw13687567393430277375:True:=trivial
theorem PySem.W.Fast.tw13428686533202815976:True:=trivial
theorem PySem.W.Fast.tw1723134618526701891:True:=trivial
theorem PySem.W.Fast.tw11397791942848516245:True:=trivial
theorem PySem.W.Fast.tw12179291998570685469:True:=trivial
theorem PySem.W.Fast.tw11393806845224413357:True:=trivial
theorem PySem.W.Fast.tw14180232485314436954:True:=trivial
theorem PySem.W.Fast.tw15645221408558249153:True:=trivial
theorem PySem.W.Fast.tw16534548282182296014:True:=trivial
theorem PySem.W.Fast.tw4143070754058132313:True:=trivial
theorem PySem.W.Fast.tw8994390565110611416:True:=trivial
theorem PySem.W.Fast.tw4676823413680040921:True:=trivial
theorem PySem.W.Fast.tw13467683159094974293:True:=trivial
theorem PySem.W.Fast.tw2560884549662811186:True:=trivial
theorem PySem.W.Fast.tw3688270747394385261:True:=trivial
theorem PySem.W.Fast.tw12022894302923371547:True:=trivial
theorem PySem.W.Fast.tw7079998000449040427:True:=trivial
theorem PySem.W.Fast.tw11688560370815218959:True:=trivial
theorem PySem.W.Fast.tw4214604836560164356:True:=trivial
theorem PySem.W.Fast.tw8169699770115021854:True:=trivial
theorem PySem.W.Fast.tw6195791414808026590:True:=trivial
theorem PySem.W.Fast.tw12667040600461829505:True:=trivial
theorem PySem.W.Fast.tw6948946963648036332:True:=trivial
theorem PySem.W.Fast.tw8790406840088784437:True:=trivial
theorem PySem.W.Fast.tw9204674113096790364:True:=trivial
theorem PySem.W.Fast.tw15095052867540653761:True:=trivial
theorem PySem.W.Fast.tw15237154697964329844:True:=trivial
theorem PySem.W.Fast.tw12884599122601486368:True:=trivial
theorem PySem.W.Fast.tw15000553307176221998:True:=trivial
open PySem PySem.W PyProof.Rows
set_option maxRecDepth 100000 in
set_option maxHeartbeats 0 in
theorem PySem.Challenge.cw_othersum_k39_hidden_holds : PySem.Challenge.rw_othersum_k39_hidden.Holds := by
  w_on; o_law; k_head; (case hw => w_witness2)
  k_fill
  refine L2.walk_ofK (l := PySem.Challenge.rw_othersum_k39_hidden) (n := 63) (k := 9) (x := "_law_script") (CX := L2.CX0) (sp := DL.spLaw) rfl (by decide) rfl ⟨rfl, by decide, by decide⟩ (fun w h Y => PySem.W.kIn_of Y) ?F DL.law_sp (fun _ _ _ _ z => z)
  case F =>
    intro w mg fa h KX G hmg
    refine' My.all_mk KX G hmg ?a0 ?l0 ?c0 ?k0 ?a1 ?l1 ?c1 ?k1 ?a2 ?l2 ?c2 ?k2 ?a3 ?l3 ?c3 ?k3 ?a4 ?l4 ?c4 ?k4 ?a5 ?l5 ?c5 ?k5 ?a6 ?l6 ?c6 ?k6 ?a7 ?l7 ?c7 ?k7 ?a8 ?l8 ?c8 ?k8 ?a9 ?l9 ?c9 ?k9 ?a10 ?l10 ?c10 ?k10 ?a11 ?l11 ?c11 ?k11 ?a12 ?l12 ?c12 ?k12 ?a13 ?l13 ?c13 ?k13 ?a14 ?l14 ?c14 ?k14 ?a15 ?l15 ?c15 ?k15 ?a16 ?l16 ?c16 ?k16 ?a17 ?l17 ?c17 ?k17 ?a18 ?l18 ?c18 ?k18 ?a19 ?l19 ?c19 ?k19 ?a20 ?l20 ?c20 ?k20 ?a21 ?l21 ?c21 ?k21 ?a22 ?l22 ?c22 ?k22 ?a23 ?l23 ?c23 ?k23 ?a24 ?l24 ?c24 ?k24 ?a25 ?l25 ?c25 ?k25 ?a26 ?l26 ?c26 ?k26 ?a27 ?l27 ?c27 ?k27 ?a28 ?l28 ?c28 ?k28 ?a29 ?l29 ?c29 ?k29 ?z0 ?z1 ?z2 ?z3 ?z4 ?z5 ?z6 ?z7 ?z8 ?z9 ?z10 ?z11 ?z12 ?z13 ?z14 ?z15 ?fw ?fJ ?eR ?fB
    (case a0 => k_is)
    (case l0 => k_is)
    (case c0 => k_is)
    (case k0 => k_is)
    (case a1 => k_is)
    (case l1 => k_is)
    (case c1 => k_is)
    (case k1 => k_is)
    (case a2 => k_is)
    (case l2 => k_is)
    (case c2 => k_is)
    (case k2 => k_is)
    (case a3 => k_is)
    (case l3 => k_is)
    (case c3 => k_is)
    (case k3 => k_is)
    (case a4 => k_is)
    (case l4 => k_is)
    (case c4 => k_is)
    (case k4 => k_is)
    (case a5 => k_is)
    (case l5 => k_is)
    (case c5 => k_is)
    (case k5 => k_is)
    (case a6 => k_is)
    (case l6 => k_is)
    (case c6 => k_is)
    (case k6 => k_is)
    (case a7 => k_is)
    (case l7 => k_is)
    (case c7 => k_is)
    (case k7 => k_is)
    (case a8 => k_is)
    (case l8 => k_is)
    (case c8 => k_is)
    (case k8 => k_is)
    (case a9 => k_is)
    (case l9 => k_is)
    (case c9 => k_is)
    (case k9 => k_is)
    (case a10 => k_is)
    (case l10 => k_is)
    (case c10 => k_is)
    (case k10 => k_is)
    (case a11 => k_is)
    (case l11 => k_is)
    (case c11 => k_is)
    (case k11 => k_is)
    (case a12 => k_is)
    (case l12 => k_is)
    (case c12 => k_is)
    (case k12 => k_is)
    (case a13 => k_is)
    (case l13 => k_is)
    (case c13 => k_is)
    (case k13 => k_is)
    (case a14 => k_is)
    (case l14 => k_is)
    (case c14 => k_is)
    (case k14 => k_is)
    (case a15 => k_is)
    (case l15 => k_is)
    (case c15 => k_is)
    (case k15 => k_is)
    (case a16 => k_is)
    (case l16 => k_is)
    (case c16 => k_is)
    (case k16 => k_is)
    (case a17 => k_is)
    (case l17 => k_is)
    (case c17 => k_is)
    (case k17 => k_is)
    (case a18 => k_is)
    (case l18 => k_is)
    (case c18 => k_is)
    (case k18 => k_is)
    (case a19 => k_is)
    (case l19 => k_is)
    (case c19 => k_is)
    (case k19 => k_is)
    (case a20 => k_is)
    (case l20 => k_is)
    (case c20 => k_is)
    (case k20 => k_is)
    (case a21 => k_is)
    (case l21 => k_is)
    (case c21 => k_is)
    (case k21 => k_is)
    (case a22 => k_is)
    (case l22 => k_is)
    (case c22 => k_is)
    (case k22 => k_is)
    (case a23 => k_is)
    (case l23 => k_is)
    (case c23 => k_is)
    (case k23 => k_is)
    (case a24 => k_is)
    (case l24 => k_is)
    (case c24 => k_is)
    (case k24 => k_is)
    (case a25 => k_is)
    (case l25 => k_is)
    (case c25 => k_is)
    (case k25 => k_is)
    (case a26 => k_is)
    (case l26 => k_is)
    (case c26 => k_is)
    (case k26 => k_is)
    (case a27 => k_is)
    (case l27 => k_is)
    (case c27 => k_is)
    (case k27 => k_is)
    (case a28 => k_is)
    (case l28 => k_is)
    (case c28 => k_is)
    (case k28 => k_is)
    (case a29 => k_is)
    (case l29 => k_is)
    (case c29 => k_is)
    (case k29 => k_is)
    (case z0 => k_is)
    (case z1 => k_is)
    (case z2 => k_is)
    (case z3 => k_is)
    (case z4 => k_is)
    (case z5 => k_is)
    (case z6 => k_is)
    (case z7 => k_is)
    (case z8 => k_is)
    (case z9 => k_is)
    (case z10 => k_is)
    (case z11 => k_is)
    (case z12 => k_is)
    (case z13 => k_is)
    (case z14 => k_is)
    (case z15 => k_is)
    (case fw => k_is)
    (case fJ => k_is)
    (case eR => k_is)
    (case fB => k_is)
#print axioms PySem.Challenge.cw_othersum_k39_hidden_holds
