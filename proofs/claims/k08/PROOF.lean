import PyProof.Rows.All
import Wide.All
import OpenK.AllK
import Wide.FinOn
import Lean
import PyProof.EqAt
import PyProof.EqKinds
import PyProof.TupleCall
import PySem.Challenge.RW_othersum_k08_books_put_together
noncomputable section
set_option Elab.async false
set_option linter.all false
set_option maxRecDepth 100000
namespace L2
open PySem PySem.Spec PyProof.Rows
abbrev Key:=Sum Int Str
def rG:Key->Value->Bool
 | .inl k,v=>Value.isInt k v
 | .inr x,v=>Value.isStrOf x v
def keyH (w:World):Key->Int
 | .inl k=>hashInt k
 | .inr x=>hashStr w x
theorem bn:∀ {k:Key} {v:Value},rG k v=true->(∃ i t,k=Sum.inl i /\ v=Value.int i t)∨(∃ x t,k=Sum.inr x /\ v=Value.str x t)
 | .inl i,v,h=>by
  obtain ⟨t,e⟩:=Value.isInt_shape (k:=i) (v:=v) h
  exact .inl ⟨i,t,rfl,e⟩
 | .inr x,v,h=>by
  obtain ⟨t,e⟩:=Value.isStrOf_shape (x:=x) (v:=v) h
  exact .inr ⟨x,t,rfl,e⟩
theorem sF (i:Int) (t:Tok):rG (.inl i) (.int i t)=true:=by simp [rG,Value.isInt]
theorem sG (x:Str) (t:Tok):rG (.inr x) (.str x t)=true:=by simp [rG,Value.isStrOf]
theorem yX (a b:Int):decide ((Sum.inl a:Key)=Sum.inl b)=(a == b):=by
 by_cases e:a=b
 ·subst e; simp
 ·have h:¬ (Sum.inl a:Key)=Sum.inl b:=fun q=>e (Sum.inl.inj q)
  rw [decide_eq_false h]
  exact (beq_eq_false_iff_ne.mpr e).symm
theorem yY (a b:Str):decide ((Sum.inr a:Key)=Sum.inr b)=decide (a=b):=by
 by_cases e:a=b
 ·subst e; simp
 ·have h:¬ (Sum.inr a:Key)=Sum.inr b:=fun q=>e (Sum.inr.inj q)
  rw [decide_eq_false h,decide_eq_false e]
theorem yZ (a:Int) (b:Str):decide ((Sum.inl a:Key)=Sum.inr b)=false:=decide_eq_false (fun q=>nomatch q)
theorem za (a:Str) (b:Int):decide ((Sum.inr a:Key)=Sum.inl b)=false:=decide_eq_false (fun q=>nomatch q)
def bF (prog:Program) (w:World):PySem.KeyKind prog w Key where
 is:=rG
 hash:=keyH w
 inj:=fun v a b ha hb=>by
  rcases bn ha with ⟨i,t,rfl,rfl⟩ | ⟨x,t,rfl,rfl⟩
  ·rcases bn hb with ⟨j,u,rfl,e⟩ | ⟨y,u,rfl,e⟩
   ·injection e with e1 _; rw [e1]
   ·exact nomatch e
  ·rcases bn hb with ⟨j,u,rfl,e⟩ | ⟨y,u,rfl,e⟩
   ·exact nomatch e
   ·injection e with e1 _; rw [e1]
 byValue:=fun k v h=>by
  rcases bn h with ⟨i,t,rfl,rfl⟩ | ⟨x,t,rfl,rfl⟩ <;> rfl
 pyHash:=fun hv h=>by
  rcases bn hv with ⟨i,t,rfl,rfl⟩ | ⟨x,t,rfl,rfl⟩
  ·exact wpAny_pyHash_int h
  ·exact wpAny_pyHash_str h
 eqBool:=fun hu hv h=>by
  rcases bn hu with ⟨i,t,rfl,rfl⟩ | ⟨x,t,rfl,rfl⟩
  ·rcases bn hv with ⟨j,u,rfl,rfl⟩ | ⟨y,u,rfl,rfl⟩
   ·rw [yX] at h; exact wpAny_eqBool_int h
   ·rw [yZ] at h; exact SeqAt.EqAt.int_str i t y u _ _ _ _ h
  ·rcases bn hv with ⟨j,u,rfl,rfl⟩ | ⟨y,u,rfl,rfl⟩
   ·rw [za] at h; exact SeqAt.EqAt.str_int x t j u _ _ _ _ h
   ·rw [yY] at h; exact wpAny_eqBool_str h
 «strs»:=fun k x t v h=>by
  rcases bn h with ⟨i,u,rfl,e⟩ | ⟨y,u,rfl,e⟩
  ·exact nomatch e
  ·injection e with e1 _
   subst e1
   cases v <;> rfl
theorem oI (prog:Program) (w:World) (i:Int) (t:Tok):(bF prog w).is (.inl i) (.int i t)=true:=sF i t
theorem oJ (prog:Program) (w:World) (x:Str) (t:Tok):(bF prog w).is (.inr x) (.str x t)=true:=sG x t
end L2
namespace L2
open PySem PySem.Spec PyProof.Rows
inductive V where
 | non | bl (b:Bool) | int (i:Int) | str (x:Str) | byt (b:Array UInt8) | flt (b:UInt64) | ref (a:Addr) | ty (n:String)
 deriving DecidableEq
def RelV:V->Value->Prop
 | .non,u=>u=Value.none
 | .bl b,u=>u=Value.bool b
 | .int i,u=>∃ t,u=Value.int i t
 | .str x,u=>∃ t,u=Value.str x t
 | .byt b,u=>∃ t,u=Value.bytes b t
 | .flt b,u=>∃ t,u=Value.float b t
 | .ref a,u=>u=Value.ref a
 | .ty n,u=>u=Value.type n
abbrev Vals:List V->List Value->Prop:=Paired RelV
theorem Vals.length {xs:List V} {us:List Value} (r:Vals xs us):xs.length=us.length:=Paired.length r
theorem Vals.get:∀ {xs:List V} {us:List Value} {i:Nat} {x:V},Vals xs us->xs[i]? = some x->∃ u,us[i]? = some u /\ RelV x u
 | _,_,_,_,.nil,e=>by simp at e
 | _,_,0,_,.cons r _,e=>by simp at e; subst e; exact ⟨_,rfl,r⟩
 | _,_,i + 1,x,.cons _ t,e=>by
  obtain ⟨u,h1,h2⟩:=Vals.get (i:=i) (x:=x) t (by simpa using e)
  exact ⟨u,by simpa using h1,h2⟩
theorem Vals.set {x:V} {u:Value} (r:RelV x u):∀ {xs:List V} {us:List Value} (i:Nat),Vals xs us->Vals (xs.set i x) (us.set i u)
 | _,_,_,.nil=>.nil
 | _,_,0,.cons _ t=>.cons r t
 | _,_,i + 1,.cons q t=>.cons q (Vals.set r i t)
theorem Vals.append:∀ {xs ys:List V} {us ws:List Value},Vals xs us->Vals ys ws->Vals (xs++ys) (us++ws)
 | _,_,_,_,.nil,s=>s
 | _,_,_,_,.cons r t,s=>.cons r (Vals.append t s)
theorem Vals.take:∀ {xs:List V} {us:List Value} (n:Nat),Vals xs us->Vals (xs.take n) (us.take n)
 | _,_,0,_=>.nil
 | _,_,_ + 1,.nil=>.nil
 | _,_,n + 1,.cons r t=>.cons r (Vals.take n t)
theorem Vals.drop:∀ {xs:List V} {us:List Value} (n:Nat),Vals xs us->Vals (xs.drop n) (us.drop n)
 | _,_,0,r=>r
 | _,_,_ + 1,.nil=>.nil
 | _,_,n + 1,.cons _ t=>Vals.drop n t
def RelO:Option V->Option Value->Prop
 | some v,some u=>RelV v u
 | none,none=>True
 | _,_=>False
def KV {κ:Type}:List (κ×V)->List (κ×Value)->Prop:=Paired fun (p:κ×V) (q:κ×Value)=>p.1=q.1 /\ RelV p.2 q.2
def kV:Key->V
 | .inl i=>.int i
 | .inr x=>.str x
inductive HO where
  | lst (xs:List V)
  | tup (xs:List V)
  | dK (kvs:List (Key×V)) | dT (kvs:List (List Key×V))
  | set (S:Int->Bool) (n:Nat)
  | ins (C dx:Addr) (fs:List (Str×V))
  | own (x:Addr)
  | xd (fs:List (Str×V))
  | met (f x:Addr)
  | rng (lo hi:Int)
  | frz (o:Obj) (u:HO)
  | tbl (ps:Array Value)
  | ext (φ:Heap->Prop)
abbrev Hp:=Addr->Option HO
def upd (H:Hp) (a:Addr) (o:HO):Hp:=fun b=>if b=a then some o else H b
theorem ak {H:Hp} {a:Addr} {o:HO}:upd H a o a=some o:=by unfold upd; rw [if_pos rfl]
theorem aj {H:Hp} {a b:Addr} {o:HO} (h:b≠a):upd H a o b=H b:=by unfold upd; rw [if_neg h]
theorem kL {H:Hp} {a b:Addr} {o u:HO} (h:H a=some o) (h':H b=some u) (d:o≠u):a≠b:=by
 intro e; subst e; rw [h] at h'; exact d (Option.some.inj h')
theorem bR {H:Hp} {a b:Addr} {o:HO} (h:H a=some o) (h':H b=none):a≠b:=by
 intro e; subst e; rw [h] at h'; cases h'
section
variable (P:Program) (w:World)
def ObjOk (H:Hp) (h:Heap) (a:Addr):HO->Prop
 | .lst xs=>xs.length <= sizeLine /\ ∃ (its:List Value) (n:Nat),Vals xs its /\ h.get? a=some { cls:=.type "list",data:=.seq its.toArray n }
 | .tup xs=>xs.length <= sizeLine /\ ∃ its:List Value,Vals xs its /\ IsTup h a its.toArray
 | .dK kvs=>kvs.length <= sizeLine /\ (a == sysModules)=false /\ ∃ vs,KV kvs vs /\ h.DictOf (bF P w) a vs
 | .dT kvs=>kvs.length <= sizeLine /\ (a == sysModules)=false /\ ∃ xs:List (List Key×Addr×Value),
   Paired (fun (p:List Key×V) (q:List Key×Addr×Value)=>p.1=q.1 /\ H q.2.1=some (.tup (p.1.map kV)) /\ RelV p.2 q.2.2) kvs xs /\
   ∃ o es ep,h.get? a=some o /\ o.ExactDict /\ o.data = .dict es ep /\ es.toList=xs.map (entryOfKey (tupleKind (bF P w))) /\ (xs.map (·.1)).Nodup
 | .set S n=>h.SetOf (intKind P w) a S n
 | .ins C dx fs=>H dx=some (.own a) /\ fs.length <= 1000 /\ dx≠a /\ h.get? a=some (PySem.W.instObj C dx) /\
   ∃ mA,h.Ns1 dx mA /\ (∀ f,RelO (fs.lookup f) (mA f)) /\ PySem.Within mA (fs.map (·.1))
 | .own _=>∃ o,h.get? a=some o
 | .xd fs=>∃ mA,h.Ns1 a mA /\ ∀ f,RelO (fs.lookup f) (mA f)
 | .rng lo hi=>∃ t u v,h.get? a=some { cls:=.type "range",data:=.fields #[.int lo t,.int hi u,.int 1 v] }
 | .frz o u=>h.get? a=some o /\ ObjOk H h a u
 | .tbl ps=>h.get? a=some { cls:=.none,data:=.fields ps }
 | .met f x=>h.get? a=some (PySem.W.methodObj (.ref f) (.ref x))
 | .ext φ=>φ h /\ (∃ o,h.get? a=some o) /\ ∀ h1 h2:Heap,φ h1->(∀ o,h1.get? a=some o->h2.get? a=some o)->φ h2
def HOk (H:Hp) (h:Heap):Prop:=∀ a o,H a=some o->ObjOk P w H h a o
end
section
variable {P:Program} {w:World} {H H':Hp} {h h':Heap} {a:Addr} {o:HO}
theorem ObjOk.lt (x:ObjOk P w H h a o):a < h.objs.size:=by
 cases o with
 | lst xs=>obtain ⟨_,_,_,_,e⟩:=x; exact Heap.lt_size e
 | tup xs=>obtain ⟨_,_,_,p⟩:=x; exact p.lt
 | dK kvs=>obtain ⟨_,_,_,_,o,_,_,e,_⟩:=x; exact Heap.lt_size e
 | dT kvs=>obtain ⟨_,_,_,_,o,_,_,e,_⟩:=x; exact Heap.lt_size e
 | set S n=>obtain ⟨o,_,_,_,e,_⟩:=x; exact Heap.lt_size e
 | ins C dx fs=>obtain ⟨_,_,_,e,_⟩:=x; exact Heap.lt_size e
 | own y=>obtain ⟨_,e⟩:=x; exact Heap.lt_size e
 | xd fs=>obtain ⟨_,⟨_,_,_,e,_⟩,_⟩:=x; exact Heap.lt_size e
 | rng lo hi=>obtain ⟨_,_,_,e⟩:=x; exact Heap.lt_size e
 | frz ob u=>obtain ⟨e,_⟩:=x; exact Heap.lt_size e
 | tbl ps=>exact Heap.lt_size (show h.get? a=some _ from x)
 | met f y=>exact Heap.lt_size (show h.get? a=some _ from x)
 | ext φ=>obtain ⟨_,⟨_,e⟩,_⟩:=x; exact Heap.lt_size e
theorem Paired.mapP {α β:Type} {F G:α->β->Prop}:∀ {l₁:List α} {l₂:List β},Paired F l₁ l₂->(∀ a b,F a b->G a b)->Paired G l₁ l₂
 | _,_,.nil,_=>.nil
 | _,_,.cons r t,f=>.cons (f _ _ r) (Paired.mapP t f)
theorem ObjOk.stay (x:ObjOk P w H h a o) (k:∀ b u,(b=a∨H b=some (.own a))->h.get? b=some u->h'.get? b=some u)
  (ho:∀ b,H b=some (.own a)->H' b=some (.own a)) (ht:∀ b xs,H b=some (.tup xs)->H' b=some (.tup xs)):ObjOk P w H' h' a o:=by
 induction o with
 | lst xs=>obtain ⟨z,its,n,r,e⟩:=x; exact ⟨z,its,n,r,k _ _ (.inl rfl) e⟩
 | tup xs=>obtain ⟨z,its,r,ob,e,c⟩:=x; exact ⟨z,its,r,ob,k _ _ (.inl rfl) e,c⟩
 | dK kvs=>obtain ⟨z,y,vs,r,ob,es,ep,e,c⟩:=x; exact ⟨z,y,vs,r,ob,es,ep,k _ _ (.inl rfl) e,c⟩
 | dT kvs =>
  obtain ⟨z,y,xs,r,ob,es,ep,e,c⟩:=x
  exact ⟨z,y,xs,Paired.mapP r fun p q z=>⟨z.1,ht _ _ z.2.1,z.2.2⟩,ob,es,ep,k _ _ (.inl rfl) e,c⟩
 | set S n=>obtain ⟨ob,es,ep,t,e,c⟩:=x; exact ⟨ob,es,ep,t,k _ _ (.inl rfl) e,c⟩
 | ins C dx fs =>
  obtain ⟨d,z,ne,e,mA,⟨od,es,ep,e2,c⟩,r⟩:=x
  exact ⟨ho _ d,z,ne,k _ _ (.inl rfl) e,mA,⟨od,es,ep,k _ _ (.inr d) e2,c⟩,r⟩
 | own y=>obtain ⟨ob,e⟩:=x; exact ⟨ob,k _ _ (.inl rfl) e⟩
 | xd fs=>obtain ⟨mA,⟨od,es,ep,e,c⟩,r⟩:=x; exact ⟨mA,⟨od,es,ep,k _ _ (.inl rfl) e,c⟩,r⟩
 | rng lo hi=>obtain ⟨t,u,v,e⟩:=x; exact ⟨t,u,v,k _ _ (.inl rfl) e⟩
 | frz ob u ih=>obtain ⟨e,q⟩:=x; exact ⟨k _ _ (.inl rfl) e,ih q⟩
 | tbl ps =>
  have e:h.get? a=some { cls:=.none,data:=.fields ps }:=x
  show h'.get? a=some { cls:=.none,data:=.fields ps }
  exact k a _ (.inl rfl) e
 | met f y =>
  have e:h.get? a=some (PySem.W.methodObj (.ref f) (.ref y)):=x
  show h'.get? a=some (PySem.W.methodObj (.ref f) (.ref y))
  exact k a _ (.inl rfl) e
 | ext φ=>obtain ⟨p,⟨o,e⟩,st⟩:=x; exact ⟨st _ _ p fun o q=>k _ _ (.inl rfl) q,⟨o,k _ _ (.inl rfl) e⟩,st⟩
theorem HOk.lt (x:HOk P w H h) (e:H a=some o):a < h.objs.size:=(x a o e).lt
theorem HOk.fresh (x:HOk P w H h) (e:h.objs.size <= a):H a=none:=by
 cases q:H a with
 | none=>rfl
 | some u=>exact absurd (Nat.lt_of_lt_of_le (x.lt q) e) (Nat.lt_irrefl _)
theorem HOk.kept (x:HOk P w H h) (k:∀ b u,h.get? b=some u->h'.get? b=some u):HOk P w H h':=fun a o e =>
 (x a o e).stay (fun b u _ q=>k b u q) (fun _ q=>q) fun _ _ q=>q
theorem HOk.laid (x:HOk P w H h) (k:∀ b u,h.get? b=some u->h'.get? b=some u) (hp:h.objs.size <= a) (new:ObjOk P w (upd H a o) h' a o):HOk P w (upd H a o) h':=fun b u e=>by
 have hn:=x.fresh hp
 by_cases hb:b=a
 ·subst hb; rw [ak] at e; cases e; exact new
 ·rw [aj hb] at e
  exact (x b u e).stay (fun c v _ q=>k c v q) (fun c q=>by rw [aj (bR q hn)]; exact q) fun c xs q=>by rw [aj (bR q hn)]; exact q
end
def Rd (H:Hp) (a:Addr) (u:HO):Prop:=H a=some u∨∃ o,H a=some (.frz o u)
theorem Rd.ok {P:Program} {w:World} {H:Hp} {h:Heap} {a:Addr} {u:HO} (r:Rd H a u) (x:HOk P w H h):ObjOk P w H h a u:=by
 rcases r with r | ⟨o,r⟩
 ·exact x a u r
 ·obtain ⟨_,q⟩:=x a _ r
  exact q
def Mut:Option HO->Prop
 | some (.lst _)=>True
 | some (.dK _)=>True
 | some (.dT _)=>True
 | some (.set _ _)=>True
 | some (.ins _ _ _)=>True
 | some (.ext _)=>True
 | _=>False
section
variable {P:Program} {w:World} {H:Hp} {h h':Heap} {x e:Addr} {o':HO}
theorem HOk.write (ok:HOk P w H h) (mu:Mut (H x)) (he:e=x∨H e=some (.own x)) (k:∀ b u,b≠e->h.get? b=some u->h'.get? b=some u) (heo:∃ u,h'.get? e=some u)
  (new:ObjOk P w (upd H x o') h' x o'):HOk P w (upd H x o') h':=fun b u q=>by
 have nown:∀ c y,H c=some (.own y)->c≠x:=fun c y r z=>by subst z; rw [r] at mu; exact mu
 have ntup:∀ c xs,H c=some (.tup xs)->c≠x:=fun c xs r z=>by subst z; rw [r] at mu; exact mu
 by_cases hb:b=x
 ·subst hb; rw [ak] at q; cases q; exact new
 ·rw [aj hb] at q
  by_cases hbe:b=e
  ·have q':H b=some (.own x):=by
    rcases he with z | z
    ·exact absurd (hbe.trans z) hb
    ·rw [hbe]; exact z
   rw [q] at q'; cases q'
   obtain ⟨v,hv⟩:=heo
   exact ⟨v,by rw [hbe]; exact hv⟩
  ·refine (ok b u q).stay (fun c v hc r=>k c v ?_ r) (fun c r=>by rw [aj (nown c b r)]; exact r) fun c xs r=>by rw [aj (ntup c xs r)]; exact r
   rcases hc with rfl | hc
   ·exact hbe
   ·rintro rfl
    rcases he with z | z
    ·exact nown c b hc z
    ·rw [hc] at z; cases z; exact hb rfl
end
structure Un (fs ex:List Addr) (H H':Hp) (h h':Heap):Prop where
 keep:∀ b o,h.get? b=some o->H b=none->b∉fs->b∉ex->h'.get? b=some o
 slot:∀ b o,h.get? b=some o->H b=none->b∈fs->b∉ex->∃ sl,h'.get? b=some { o with slots:=sl }
 free:∀ b o,h.get? b=some o->H b=none->b∉ex->H' b=none
 there:∀ b o,h.get? b=some o->b∉ex->∃ o',h'.get? b=some o'
 tups:∀ b xs,H b=some (.tup xs)->H' b=some (.tup xs)
 frzs:∀ b o u,H b=some (.frz o u)->H' b=some (.frz o u)
 tbls:∀ b ps,H b=some (.tbl ps)->∃ more,H' b=some (.tbl (ps++more))
section
variable {fs fs' ex ex':List Addr} {H H1 H2:Hp} {h h1 h2 h':Heap} {a x e:Addr} {o:HO}
theorem Un.any (u:Un fs ex H H1 h h1) {b:Addr} {ob:Obj} (q:h.get? b=some ob) (n:H b=none) (hx:b∉ex):∃ sl,h1.get? b=some { ob with slots:=sl }:=by
 by_cases hb:b∈fs
 ·exact u.slot b ob q n hb hx
 ·exact ⟨ob.slots,u.keep b ob q n hb hx⟩
theorem Un.kept (k:∀ b u,h.get? b=some u->h'.get? b=some u):Un fs ex H H h h' :=
 ⟨fun b ob q _ _ _=>k b ob q,fun b ob q _ _ _=>⟨ob.slots,k b ob q⟩,fun _ _ _ n _=>n,fun b ob q _=>⟨ob,k b ob q⟩,fun _ _ q=>q,fun _ _ _ q=>q,fun _ ps q=>⟨#[],by rw [q]; simp⟩⟩
theorem Un.refl:Un fs ex H H h h:=Un.kept fun _ _ q=>q
theorem Un.laid (k:∀ b u,h.get? b=some u->h'.get? b=some u) (hp:h.objs.size <= a) (hn:H a=none):Un fs ex H (upd H a o) h h' where
 keep:=fun b u q _ _ _=>k b u q
 slot:=fun b u q _ _ _=>⟨u.slots,k b u q⟩
 free:=fun b u q n _=>by rw [aj (Nat.ne_of_lt (Nat.lt_of_lt_of_le (Heap.lt_size q) hp))]; exact n
 there:=fun b u q _=>⟨u,k b u q⟩
 tups:=fun b xs q=>by rw [aj (bR q hn)]; exact q
 frzs:=fun b u xs q=>by rw [aj (bR q hn)]; exact q
 tbls:=fun b ps q=>⟨#[],by rw [aj (bR q hn),q]; simp⟩
theorem Un.write (mu:Mut (H x)) (he:e=x∨H e=some (.own x)) (k:∀ b u,b≠e->h.get? b=some u->h'.get? b=some u) (heo:∃ u,h'.get? e=some u):Un fs ex H (upd H x o) h h':=by
 have hx:∀ b,H b=none->b≠x:=fun b n z=>by subst z; rw [n] at mu; exact mu
 have hb:∀ b,H b=none->b≠e:=fun b n z=>by
  subst z
  rcases he with r | r
  ·exact hx b n r
  ·rw [n] at r; cases r
 have hm:∀ b u,H b=some u->¬ Mut (some u)->b≠x:=fun b u q nm z=>by subst z; rw [q] at mu; exact nm mu
 refine ⟨fun b u q n _ _=>k b u (hb b n) q,fun b u q n _ _=>⟨u.slots,k b u (hb b n) q⟩,fun b u q n _=>by rw [aj (hx b n)]; exact n,fun b u q _=>?_,
  fun b xs q=>by rw [aj (hm b _ q fun z=>z)]; exact q,fun b u xs q=>by rw [aj (hm b _ q fun z=>z)]; exact q,fun b ps q=>⟨#[],by rw [aj (hm b _ q fun z=>z),q]; simp⟩⟩
 by_cases hbe:b=e
 ·subst hbe; exact heo
 ·exact ⟨u,k b u hbe q⟩
theorem Un.mono (u:Un fs ex H H1 h h1) (hs:∀ b∈fs,b∈fs') (hx:∀ b∈ex,b∈ex'):Un fs' ex' H H1 h h1 :=
 ⟨fun b ob q n hb he=>u.keep b ob q n (fun z=>hb (hs b z)) fun z=>he (hx b z),fun _ _ q n _ he=>u.any q n fun z=>he (hx _ z),fun b ob q n he=>u.free b ob q n fun z=>he (hx b z),fun b ob q he=>u.there b ob q fun z=>he (hx b z),u.tups,u.frzs,u.tbls⟩
end
def trk (h:Heap) (H:Hp):List Addr:=(List.range h.objs.size).filter fun a=>(H a).isSome
def hidT (h:Heap) (H:Hp):Heap:=PySem.W.hideAll h (trk h H)
theorem sH (h:Heap) (H:Hp):(hidT h H).objs.size=h.objs.size:=PySem.W.hideAll_size _ _
theorem vj {h:Heap} {H:Hp} {b:Addr} {o:Obj} (e:h.get? b=some o) (n:H b=none):(hidT h H).get? b=some o :=
 PySem.W.hideAll_get _ e fun hm=>by
  have q:(H b).isSome=true:=(List.mem_filter.mp hm).2
  rw [n] at q; simp at q
theorem xq {h:Heap} {H:Hp} {b:Addr} {o:Obj} (e:(hidT h H).get? b=some o):h.get? b=some o /\ H b=none:=by
 have e':h.get? b=some o:=PySem.W.of_hideAll (trk h H) e
 refine ⟨e',?_⟩
 cases q:H b with
 | none=>rfl
 | some x =>
  have hm:b∈trk h H:=List.mem_filter.mpr ⟨List.mem_range.mpr (Heap.lt_size e'),by simp [q]⟩
  have z:(hidT h H).get? b=none:=PySem.W.hideAll_none (trk h H) hm
  rw [z] at e; cases e
end L2
namespace L2
open PySem PySem.Spec PyProof.Rows
structure Mod (K:PySem.W.Frag) (mg:Str->Option Value) (base:Heap):Prop where
 kin:K.In base
 glob:base.Ns mainGlobals mg
 blt:∃ mb,base.Ns builtinsNs mb /\ ∀ x:Str,x ≠ "__name__" -> mb x=bootBuiltins x
 nolimit:base.NoLimit
structure Cx where
 prog:Program
 w:World
 K:PySem.W.Frag
 mg:Str->Option Value
 base:Heap
 A:Around
 N:List Str
 s₀:Shared
 H₀:Hp
 env:Env
 outer:List Env
 stack:List Env
 ex:List Addr
 fn:Str->Bool
 calm:Bool
 pn:List (Addr×Obj)
 xe:Value->Shared->Prop
def frs (l:List Env):List Addr:=l.filterMap (·.frame)
abbrev Cx.fs (X:Cx):List Addr:=frs X.outer
def Vis (sc:Scope) (x:Str):Prop:=sc.names.lookup x=some .local∨sc.names.lookup x=some .cell∨sc.names.lookup x=some .free
def Loc (sc:Scope) (x:Str):Prop:=sc.names.lookup x=some .local∨sc.names.lookup x=some .cell
def Look (env:Env) (h:Heap) (m:Str->Option Value) (x:Str) (u:Value):Prop :=
 (env.kindOf x=some .local /\ m x=some u)∨((env.kindOf x=some .cell∨env.kindOf x=some .free) /\ ∃ c,env.cells.lookup x=some c /\ h.IsCell c (some u))
structure Cx.Ok (X:Cx):Prop where
 mod:Mod X.K X.mg X.base
 kind:X.env.scope.kind = .function
 glob:X.env.globals=mainGlobals
 blt:X.env.builtins=builtinsNs
 above:X.s₀.heap.objs.size <= X.env.locals
 inj:∀ x y c,X.env.cells.lookup x=some c->X.env.cells.lookup y=some c->x=y
 has:∀ x,(X.env.kindOf x=some .cell∨X.env.kindOf x=some .free)->∃ c,X.env.cells.lookup x=some c
 cab:∀ x c,X.fn x=true->X.env.cells.lookup x=some c->X.s₀.heap.objs.size <= c
 hd:X.calm=true->X.A.handled=none
 frames:X.A.frames=some X.stack
 stk:X.stack=X.outer∨(X.stack=X.env::X.outer /\ X.env.frame=some X.env.locals)
 exf:∀ b∈X.ex,b≠X.env.locals /\ ∀ x c,X.env.cells.lookup x=some c->c≠b
 bs:∀ b o,X.base.get? b=some o->X.s₀.heap.get? b=some o /\ X.H₀ b=none
 bsz:X.base.objs.size <= X.s₀.heap.objs.size
 noex:∀ b o,X.base.get? b=some o->b∉X.ex
 exfs:∀ b∈X.ex,b∉X.fs
 funs:X.s₀.heap.FunFrames X.base X.outer
 frf:∀ b∈X.fs,X.H₀ b=none
structure Inv (X:Cx) (pins:List (Addr×Obj)) (σ:List (Option V)) (H:Hp) (s:Shared):Prop where
 ok:X.Ok
 os:s.os=X.s₀.os
 bare:AllBare s.gens
 base:Un X.fs X.ex X.H₀ H X.s₀.heap s.heap
 loc:∃ m,s.heap.Ns X.env.locals m /\ ∀ (i:Nat) (x:Str) (v:V),X.N[i]? = some x->σ[i]? = some (some v)->Vis X.env.scope x->∃ u,RelV v u /\ Look X.env s.heap m x u
 cell:∀ x c,X.env.cells.lookup x=some c->∃ v,s.heap.IsCell c v
 free:H X.env.locals=none
 freeC:∀ x c,X.env.cells.lookup x=some c->H c=none
 pin:∀ p∈X.pn++pins,s.heap.get? p.1=some p.2 /\ H p.1=none /\ p.1≠X.env.locals /\ p.1∉X.fs /\ ∀ v,p.2.data ≠ .cell v
 hok:HOk X.prog X.w H s.heap
 len:σ.length=X.N.length
section
variable {X:Cx} {pins:List (Addr×Obj)} {σ:List (Option V)} {H H':Hp} {s:Shared} {h':Heap}
theorem Cx.Ok.nofr (ok:X.Ok) {b:Addr} {o:Obj} (e:X.base.get? b=some o):b∉X.fs:=fun hb=>by
 have:=(ok.funs.mem hb).1
 rw [e] at this; cases this
theorem Inv.bs (I:Inv X pins σ H s):∀ b o,X.base.get? b=some o->s.heap.get? b=some o /\ H b=none:=fun b o e =>
 ⟨I.base.keep b o (I.ok.bs b o e).1 (I.ok.bs b o e).2 (I.ok.nofr e) (I.ok.noex b o e),I.base.free b o (I.ok.bs b o e).1 (I.ok.bs b o e).2 (I.ok.noex b o e)⟩
theorem Inv.bk (I:Inv X pins σ H s):∀ b o,X.base.get? b=some o->s.heap.get? b=some o:=fun b o e=>(I.bs b o e).1
theorem Inv.mod (I:Inv X pins σ H s):Mod X.K X.mg X.base:=I.ok.mod
theorem Inv.kIn (I:Inv X pins σ H s):X.K.In s.heap:=I.ok.mod.kin.keeps I.bk
theorem Inv.lt (I:Inv X pins σ H s):X.env.locals < s.heap.objs.size:=let ⟨_,hn,_⟩:=I.loc; hn.lt
theorem Inv.sz (I:Inv X pins σ H s):X.s₀.heap.objs.size <= s.heap.objs.size:=Nat.le_trans I.ok.above (Nat.le_of_lt I.lt)
theorem Inv.nofs (I:Inv X pins σ H s) {a:Addr} (h:s.heap.objs.size <= a):a∉X.fs:=fun hb=>by
 obtain ⟨_,o,ho,_⟩:=I.ok.funs.mem hb
 exact absurd (Nat.lt_of_lt_of_le (Heap.lt_size ho) (Nat.le_trans I.sz h)) (Nat.lt_irrefl _)
theorem Inv.cne (I:Inv X pins σ H s):∀ x c,X.env.cells.lookup x=some c->c≠X.env.locals:=fun x c e z=>by
 obtain ⟨v,o,ho,hd⟩:=I.cell x c e
 obtain ⟨m,⟨o',es,ep,ho',hd',_⟩,_⟩:=I.loc
 rw [z,ho'] at ho; cases ho; rw [hd'] at hd; cases hd
theorem Inv.funs (I:Inv X pins σ H s):s.heap.FunFrames X.base X.outer:=by
 have all:∀ (l:List Env),(∀ b∈frs l,b∈X.fs)->X.s₀.heap.FunFrames X.base l->s.heap.FunFrames X.base l:=by
  intro l
  induction l with
  | nil=>intro _ _; trivial
  | cons env r ih =>
   intro hs hl
   obtain ⟨hk,⟨L,o,hf,hn,ho,hd⟩,hr⟩:=hl
   have hL:L∈X.fs:=hs L (by unfold frs; rw [List.filterMap_cons,hf]; exact List.mem_cons_self)
   obtain ⟨sl,e⟩:=I.base.slot L o ho (I.ok.frf L hL) hL fun z=>I.ok.exfs L z hL
   exact ⟨hk,⟨L,_,hf,hn,e,hd⟩,ih (fun b hb=>hs b (by unfold frs; rw [List.filterMap_cons,hf]; exact List.mem_cons_of_mem _ hb)) hr⟩
 exact all X.outer (fun _ hb=>hb) I.ok.funs
theorem Inv.stack (I:Inv X pins σ H s):s.heap.FunFrames X.base X.stack:=by
 rcases I.ok.stk with e | ⟨e,hf⟩
 ·rw [e]; exact I.funs
 ·rw [e]
  obtain ⟨m,hn,_⟩:=I.loc
  refine .cons (by rw [I.ok.kind]; decide) hf hn ?_ I.funs
  exact Heap.get?_none_of_le (Nat.le_trans I.ok.bsz I.ok.above)
theorem Inv.stkSub (I:Inv X pins σ H s):∀ b∈frs X.stack,b∈X.env.locals::X.fs:=fun b hb=>by
 rcases I.ok.stk with e | ⟨e,hf⟩
 ·rw [e] at hb; exact List.mem_cons_of_mem _ hb
 ·rw [e] at hb
  unfold frs at hb
  rw [List.filterMap_cons,hf] at hb
  exact hb
theorem Inv.stkFree (I:Inv X pins σ H s):∀ b∈frs X.stack,H b=none:=fun b hb=>by
 rcases List.mem_cons.mp (I.stkSub b hb) with e | hb
 ·rw [e]; exact I.free
 ·obtain ⟨_,o,ho,_⟩:=I.ok.funs.mem hb
  exact I.base.free b o ho (I.ok.frf b hb) fun z=>I.ok.exfs b z hb
theorem Inv.step {g':Array GenState} {t':Nat} {d':Drawn} {ch:List Addr} (I:Inv X pins σ H s)
  (hch:∀ b∈ch,(b∈X.ex∨X.s₀.heap.objs.size <= b) /\ b≠X.env.locals /\ (∀ x c,X.env.cells.lookup x=some c->c≠b) /\ ∀ p∈X.pn++pins,p.1≠b)
  (keep:∀ b o,b≠X.env.locals->b∉X.fs->b∉ch->s.heap.get? b=some o->H b=none->h'.get? b=some o)
  (slot:∀ b o,b≠X.env.locals->b∈X.fs->b∉ch->s.heap.get? b=some o->H b=none->∃ sl,h'.get? b=some { o with slots:=sl }) (free:∀ b o,b∉ch->s.heap.get? b=some o->H b=none->H' b=none)
  (there:∀ b o,b∉ch->s.heap.get? b=some o->∃ o',h'.get? b=some o')
  (tups:∀ b xs,H b=some (.tup xs)->H' b=some (.tup xs)) (frzs:∀ b o u,H b=some (.frz o u)->H' b=some (.frz o u)) (tbls:∀ b ps,H b=some (.tbl ps)->∃ more,H' b=some (.tbl (ps++more)))
  (ns:∀ m,s.heap.Ns X.env.locals m->h'.Ns X.env.locals m) (hok:HOk X.prog X.w H' h') (hg:AllBare g') :
  Inv X pins σ H' { s with heap:=h',gens:=g',drawn:=d',toks:=t' }:=by
 have neL:∀ b o,X.s₀.heap.get? b=some o->b≠X.env.locals:=fun b o e=>Nat.ne_of_lt (Nat.lt_of_lt_of_le (Heap.lt_size e) I.ok.above)
 have neC:∀ b o,X.s₀.heap.get? b=some o->b∉X.ex->b∉ch:=fun b o e hx hb=>by
  rcases (hch b hb).1 with z | z
  ·exact hx z
  ·exact absurd (Nat.lt_of_lt_of_le (Heap.lt_size e) z) (Nat.lt_irrefl _)
 have cellK:∀ x c,X.env.cells.lookup x=some c->∀ v,s.heap.IsCell c v->h'.IsCell c v:=fun x c e v ⟨o,ho,hd⟩=>by
  have nch:c∉ch:=fun z=>(hch c z).2.2.1 x c e rfl
  by_cases hc:c∈X.fs
  ·obtain ⟨sl,q⟩:=slot c o (I.cne x c e) hc nch ho (I.freeC x c e)
   exact ⟨_,q,hd⟩
  ·exact ⟨o,keep c o (I.cne x c e) hc nch ho (I.freeC x c e),hd⟩
 refine ⟨I.ok,I.os,hg,⟨fun b o e n hb hx=>?_,fun b o e n hb hx=>?_,fun b o e n hx=>?_,fun b o e hx=>?_,fun b xs e=>tups b xs (I.base.tups b xs e),fun b o xs e=>frzs b o xs (I.base.frzs b o xs e),fun b ps e=>?_⟩,?_,fun x c e=>?_,?_,fun x c e=>?_,fun p hp=>?_,hok,I.len⟩
 ·exact keep b o (neL b o e) hb (neC b o e hx) (I.base.keep b o e n hb hx) (I.base.free b o e n hx)
 ·obtain ⟨sl,e1⟩:=I.base.slot b o e n hb hx
  obtain ⟨sl',e2⟩:=slot b _ (neL b o e) hb (neC b o e hx) e1 (I.base.free b o e n hx)
  exact ⟨sl',e2⟩
 ·obtain ⟨o',e1⟩:=I.base.there b o e hx
  exact free b o' (neC b o e hx) e1 (I.base.free b o e n hx)
 ·obtain ⟨o',e1⟩:=I.base.there b o e hx
  exact there b o' (neC b o e hx) e1
 ·obtain ⟨m1,e1⟩:=I.base.tbls b ps e
  obtain ⟨m2,e2⟩:=tbls b _ e1
  exact ⟨m1++m2,by rw [e2,Array.append_assoc]⟩
 ·obtain ⟨m,hn,hl⟩:=I.loc
  refine ⟨m,ns m hn,fun i x v e1 e2 e3=>?_⟩
  obtain ⟨u,r,l⟩:=hl i x v e1 e2 e3
  refine ⟨u,r,?_⟩
  rcases l with l | ⟨k,c,e,z⟩
  ·exact .inl l
  ·exact .inr ⟨k,c,e,cellK x c e _ z⟩
 ·obtain ⟨v,z⟩:=I.cell x c e
  exact ⟨v,cellK x c e v z⟩
 ·obtain ⟨m,⟨o,_,_,ho,_⟩,_⟩:=I.loc
  exact free _ o (fun z=>(hch _ z).2.1 rfl) ho I.free
 ·obtain ⟨v,o,ho,hd⟩:=I.cell x c e
  exact free c o (fun z=>(hch c z).2.2.1 x c e rfl) ho (I.freeC x c e)
 ·obtain ⟨e,n,ne,nf,d⟩:=I.pin p hp
  have nch:p.1∉ch:=fun z=>(hch p.1 z).2.2.2 p hp rfl
  exact ⟨keep p.1 p.2 ne nf nch e n,free p.1 p.2 nch e n,ne,nf,d⟩
theorem Inv.un {t':Nat} (I:Inv X pins σ H s) (u:Un X.fs [] H H' s.heap h') (hok:HOk X.prog X.w H' h'):Inv X pins σ H' { s with heap:=h',toks:=t' }:=by
 obtain ⟨m,⟨o,es,ep,ho,r⟩,_⟩:=id I.loc
 obtain ⟨sl,hL⟩:=u.any ho I.free (by simp)
 exact I.step (g':=s.gens) (d':=s.drawn) (ch:=[]) (fun _ z=>nomatch z) (fun b o _ hb _ e n=>u.keep b o e n hb (by simp)) (fun b o _ hb _ e n=>u.slot b o e n hb (by simp)) (fun b o _ e n=>u.free b o e n (by simp)) (fun b o _ e=>u.there b o e (by simp)) u.tups u.frzs u.tbls (fun m' hm=>by
  obtain ⟨o',es',ep',ho',r'⟩:=hm
  rw [ho] at ho'; cases ho'
  exact ⟨_,es',ep',hL,r'⟩) hok I.bare
theorem Inv.call {g':Array GenState} {t':Nat} {d':Drawn} {ch:List Addr} (I:Inv X pins σ H s) (u:Un (frs X.stack) ch H H' s.heap h') (hok:HOk X.prog X.w H' h') (hg:AllBare g')
  (hch:∀ b∈ch,(b∈X.ex∨X.s₀.heap.objs.size <= b) /\ b≠X.env.locals /\ (∀ x c,X.env.cells.lookup x=some c->c≠b) /\ ∀ p∈X.pn++pins,p.1≠b) :
  Inv X pins σ H' { s with heap:=h',gens:=g',drawn:=d',toks:=t' }:=by
 obtain ⟨m,⟨o,es,ep,ho,r⟩,_⟩:=id I.loc
 obtain ⟨sl,hL⟩:=u.any ho I.free fun z=>(hch _ z).2.1 rfl
 exact I.step (ch:=ch) hch (fun b o hL hb hc e n=>u.keep b o e n (fun z=>(List.mem_cons.mp (I.stkSub b z)).elim hL hb) hc) (fun b o _ _ hc e n=>u.any e n hc) (fun b o hc e n=>u.free b o e n hc) (fun b o hc e=>u.there b o e hc) u.tups u.frzs u.tbls (fun m' hm=>by
  obtain ⟨o',es',ep',ho',r'⟩:=hm
  rw [ho] at ho'; cases ho'
  exact ⟨_,es',ep',hL,r'⟩) hok hg
theorem Inv.turned {t':Nat} {it:Addr} (I:Inv X pins σ H s) (k:∀ b o,b≠it->s.heap.get? b=some o->h'.get? b=some o) (hn:H it=none) (hL:it≠X.env.locals)
  (h1:it∈X.ex∨X.s₀.heap.objs.size <= it) (h2:∀ x c,X.env.cells.lookup x=some c->c≠it) (h3:∀ p∈X.pn++pins,p.1≠it):Inv X pins σ H { s with heap:=h',toks:=t' }:=by
 have nit:∀ b u,H b=some u->b≠it:=fun b u e z=>by rw [z,hn] at e; cases e
 refine I.step (g':=s.gens) (d':=s.drawn) (ch:=[it]) (fun b hb=>?_) (fun b o _ _ hc e _=>k b o (fun z=>hc (by simp [z])) e) (fun b o _ _ hc e _=>⟨o.slots,k b o (fun z=>hc (by simp [z])) e⟩) (fun _ _ _ _ n=>n)
  (fun b o hc e=>⟨o,k b o (fun z=>hc (by simp [z])) e⟩) (fun _ _ e=>e) (fun _ _ _ e=>e) (fun b ps e=>⟨#[],by rw [e]; simp⟩) (fun m hm=>?_) (fun b u e=>?_) I.bare
 ·have e:b=it:=by simpa using hb
  subst e
  exact ⟨h1,hL,h2,h3⟩
 ·obtain ⟨o,es,ep,ho,r⟩:=hm
  exact ⟨o,es,ep,k _ o (Ne.symm hL) ho,r⟩
 ·refine (I.hok b u e).stay (fun c v hc q=>k c v ?_ q) (fun _ q=>q) fun _ _ q=>q
  rcases hc with z | z
  ·rw [z]; exact nit b u e
  ·exact nit c _ z
theorem Inv.tok (I:Inv X pins σ H s) (t:Nat):Inv X pins σ H { s with toks:=t }:=I.un (h':=s.heap) (t':=t) Un.refl I.hok
theorem Inv.kept {t':Nat} (I:Inv X pins σ H s) (k:∀ b u,s.heap.get? b=some u->h'.get? b=some u):Inv X pins σ H { s with heap:=h',toks:=t' }:=I.un (Un.kept k) (I.hok.kept k)
theorem Inv.laid {a:Addr} {o:HO} {t':Nat} (I:Inv X pins σ H s) (k:∀ b u,s.heap.get? b=some u->h'.get? b=some u) (hp:s.heap.objs.size <= a) (new:ObjOk X.prog X.w (upd H a o) h' a o) :
  Inv X pins σ (upd H a o) { s with heap:=h',toks:=t' }:=I.un (Un.laid k hp (I.hok.fresh hp)) (I.hok.laid k hp new)
theorem Inv.write {x e:Addr} {o:HO} {t':Nat} (I:Inv X pins σ H s) (mu:Mut (H x)) (he:e=x∨H e=some (.own x)) (k:∀ b u,b≠e->s.heap.get? b=some u->h'.get? b=some u) (heo:∃ u,h'.get? e=some u)
  (new:ObjOk X.prog X.w (upd H x o) h' x o):Inv X pins σ (upd H x o) { s with heap:=h',toks:=t' }:=I.un (Un.write mu he k heo) (I.hok.write mu he k heo new)
theorem Inv.pins_of {pins':List (Addr×Obj)} (I:Inv X pins σ H s) (h:∀ p∈pins',s.heap.get? p.1=some p.2 /\ H p.1=none /\ p.1≠X.env.locals /\ p.1∉X.fs /\ ∀ v,p.2.data ≠ .cell v):Inv X pins' σ H s :=
 ⟨I.ok,I.os,I.bare,I.base,I.loc,I.cell,I.free,I.freeC,fun p hp=>(List.mem_append.mp hp).elim (fun z=>I.pin p (List.mem_append_left _ z)) (h p),I.hok,I.len⟩
theorem lJ {N:List Str} (hN:N.Nodup) {i j:Nat} {x:Str} (a:N[i]? = some x) (b:N[j]? = some x):i=j:=by
 obtain ⟨h1,e1⟩:=List.getElem?_eq_some_iff.mp a
 obtain ⟨h2,e2⟩:=List.getElem?_eq_some_iff.mp b
 exact (List.getElem_inj hN).mp (e1.trans e2.symm)
theorem mV {M:Model} {A:Around} {E:Value->Shared->Prop} {i:Nat} {x:Str} {v:V} {u:Value} {Q:Unit->Shared->Prop} (I:Inv X pins σ H s) (hN:X.N.Nodup) (hi:X.N[i]? = some x) (hx:Loc X.env.scope x) (r:RelV v u)
  (h:∀ s',Inv X pins (σ.set i (some v)) H s'->(∃ a,Heap.SameBut a s.heap s'.heap /\ (a=X.env.locals∨X.env.cells.lookup x=some a))->Q () s') (hf:X.fn x=true∨X.env.scope.names.lookup x=some .local:=by first | exact .inl rfl | exact .inr rfl | assumption):wpAny M A (storeName X.env x u) Q E s:=by
 obtain ⟨m,hn,hl⟩:=id I.loc
 have hcls:(X.env.scope.kind == .class || (X.env.scope.kind == .module && X.env.locals != X.env.globals))=false:=by rw [I.ok.kind]; rfl
 have hiσ:i < σ.length:=by rw [I.len]; exact (List.getElem?_eq_some_iff.mp hi).1
 have cne:=I.cne
 have tracked:∀ {a:Addr} {h':Heap},(∃ o,s.heap.get? a=some o /\ H a=none)->Heap.SameBut a s.heap h'->HOk X.prog X.w H h':=fun {a h'} ha hs b ob e=>by
  obtain ⟨_,_,hfree⟩:=ha
  refine (I.hok b ob e).stay (fun c w' hc q=>(hs.2 c ?_).trans q) (fun _ q=>q) fun _ _ q=>q
  rintro rfl
  rcases hc with rfl | hc
  ·rw [hfree] at e; cases e
  ·rw [hfree] at hc; cases hc
 rcases hx with hk | hk
 ·refine wpAny_storeName_local hk hn (fun h' hn' hs=>?_) hcls
  obtain ⟨oL,_,_,hoL,_⟩:=id hn
  refine h _ ⟨I.ok,I.os,I.bare,⟨fun b o e n hb hx=>?_,fun b o e n hb hx=>?_,I.base.free,fun b o e hx=>?_,I.base.tups,I.base.frzs,I.base.tbls⟩,⟨_,hn',fun j y v' e1 e2 e3=>?_⟩,fun y c e=>?_,I.free,I.freeC,fun p hp=>?_,tracked ⟨oL,hoL,I.free⟩ hs,by simpa using I.len⟩ ⟨_,hs,.inl rfl⟩
  ·exact (hs.2 b (Nat.ne_of_lt (Nat.lt_of_lt_of_le (Heap.lt_size e) I.ok.above))).trans (I.base.keep b o e n hb hx)
  ·obtain ⟨sl,e1⟩:=I.base.slot b o e n hb hx
   exact ⟨sl,(hs.2 b (Nat.ne_of_lt (Nat.lt_of_lt_of_le (Heap.lt_size e) I.ok.above))).trans e1⟩
  ·obtain ⟨o',e1⟩:=I.base.there b o e hx
   exact ⟨o',(hs.2 b (Nat.ne_of_lt (Nat.lt_of_lt_of_le (Heap.lt_size e) I.ok.above))).trans e1⟩
  ·by_cases hj:j=i
   ·subst hj
    rw [hi] at e1; cases e1
    rw [List.getElem?_set_self hiσ] at e2
    cases e2
    exact ⟨u,r,.inl ⟨hk,by simp⟩⟩
   ·rw [List.getElem?_set_ne (Ne.symm hj)] at e2
    obtain ⟨u',r',q⟩:=hl j y v' e1 e2 e3
    refine ⟨u',r',?_⟩
    rcases q with ⟨k,e⟩ | ⟨k,c,e,z⟩
    ·refine .inl ⟨k,?_⟩
     have:y≠x:=fun e=>hj (lJ hN e1 (e ▸ hi))
     simp [this,e]
    ·exact .inr ⟨k,c,e,z.sameBut hs (cne y c e)⟩
  ·obtain ⟨w',z⟩:=I.cell y c e
   exact ⟨w',z.sameBut hs (cne y c e)⟩
  ·obtain ⟨e,n,ne,nf,d⟩:=I.pin p hp
   exact ⟨(hs.2 p.1 ne).trans e,n,ne,nf,d⟩
 ·have hfn:X.fn x=true:=by
   rcases hf with z | z
   ·exact z
   ·rw [z] at hk; cases hk
  obtain ⟨c,hc⟩:=I.ok.has x (.inl hk)
  obtain ⟨w',z⟩:=I.cell x c hc
  refine wpAny_storeName_cell I.ok.kind hk hc z (fun h' hc' hs=>?_)
  obtain ⟨oc,hoc,hocd⟩:=id z
  refine h { s with heap:=h' } ⟨I.ok,I.os,I.bare,⟨fun b o e n hb hx=>?_,fun b o e n hb hx=>?_,I.base.free,fun b o e hx=>?_,I.base.tups,I.base.frzs,I.base.tbls⟩,⟨m,hn.sameBut hs (Ne.symm (cne x c hc)),fun j y v' e1 e2 e3=>?_⟩,fun y c' e=>?_,I.free,I.freeC,fun p hp=>?_,tracked ⟨oc,hoc,I.freeC x c hc⟩ hs,by simpa using I.len⟩ ⟨c,hs,.inr hc⟩
  ·exact (hs.2 b (Nat.ne_of_lt (Nat.lt_of_lt_of_le (Heap.lt_size e) (I.ok.cab x c hfn hc)))).trans (I.base.keep b o e n hb hx)
  ·obtain ⟨sl,e1⟩:=I.base.slot b o e n hb hx
   exact ⟨sl,(hs.2 b (Nat.ne_of_lt (Nat.lt_of_lt_of_le (Heap.lt_size e) (I.ok.cab x c hfn hc)))).trans e1⟩
  ·obtain ⟨o',e1⟩:=I.base.there b o e hx
   exact ⟨o',(hs.2 b (Nat.ne_of_lt (Nat.lt_of_lt_of_le (Heap.lt_size e) (I.ok.cab x c hfn hc)))).trans e1⟩
  ·by_cases hj:j=i
   ·subst hj
    rw [hi] at e1; cases e1
    rw [List.getElem?_set_self hiσ] at e2
    cases e2
    exact ⟨u,r,.inr ⟨.inl hk,c,hc,hc'⟩⟩
   ·rw [List.getElem?_set_ne (Ne.symm hj)] at e2
    obtain ⟨u',r',q⟩:=hl j y v' e1 e2 e3
    refine ⟨u',r',?_⟩
    rcases q with q | ⟨k,c',e,z'⟩
    ·exact .inl q
    ·refine .inr ⟨k,c',e,z'.sameBut hs ?_⟩
     rintro rfl
     exact hj (lJ hN e1 (I.ok.inj _ _ _ e hc ▸ hi))
  ·by_cases hcc:c'=c
   ·subst hcc; exact ⟨_,hc'⟩
   ·obtain ⟨w2,z2⟩:=I.cell y c' e
    exact ⟨w2,z2.sameBut hs hcc⟩
  ·obtain ⟨e,n,ne,nf,d⟩:=I.pin p hp
   refine ⟨(hs.2 p.1 ?_).trans e,n,ne,nf,d⟩
   intro q
   rw [q,hoc] at e
   have q':oc=p.2:=Option.some.inj e
   exact d w' (by rw [← q']; exact hocd)
theorem lK {M:Model} {A:Around} {E:Value->Shared->Prop} {i:Nat} {x:Str} {v:V} {u:Value} {Q:Unit->Shared->Prop} (I:Inv X pins σ H s) (hN:X.N.Nodup) (hi:X.N[i]? = some x) (hx:Loc X.env.scope x) (r:RelV v u)
  (h:∀ s',Inv X pins (σ.set i (some v)) H s'->Q () s') (hf:X.fn x=true∨X.env.scope.names.lookup x=some .local:=by first | exact .inl rfl | exact .inr rfl | assumption):wpAny M A (storeName X.env x u) Q E s :=
 mV I hN hi hx r (fun s' I' _=>h s' I') hf
theorem Inv.call' {s':Shared} {ch:List Addr} (I:Inv X pins σ H s) (ho:s'.os=s.os) (u:Un (frs X.stack) ch H H' s.heap s'.heap) (hok:HOk X.prog X.w H' s'.heap) (hg:AllBare s'.gens)
  (hch:∀ b∈ch,(b∈X.ex∨X.s₀.heap.objs.size <= b) /\ b≠X.env.locals /\ (∀ x c,X.env.cells.lookup x=some c->c≠b) /\ ∀ p∈X.pn++pins,p.1≠b):Inv X pins σ H' s':=by
 obtain ⟨h',g',d',t',o'⟩:=s'
 have e:o'=s.os:=ho
 subst e
 exact I.call (g':=g') (t':=t') (d':=d') u hok hg hch
end
abbrev XK:=Value->Option Addr->Hp->Prop
abbrev St:=List (Option V)
abbrev VK:=V->Hp->Prop
abbrev TE:=St->Hp->VK->Prop
abbrev TT:=St->Hp->(Bool->Hp->Prop)->Prop
abbrev TA:=St->Hp->(List V->Hp->Prop)->Prop
structure Ends where
 nx:St->Hp->Prop
 rt:VK
 bk:St->Hp->Prop:=fun _ _=>False
 ct:St->Hp->Prop:=fun _ _=>False
abbrev TS:=Ends->St->Hp->Prop
def EP (X:Cx) (pins:List (Addr×Obj)) (σ:St) (Q:VK) (u:Value) (s':Shared):Prop:=∃ v H',Inv X pins σ H' s' /\ RelV v u /\ Q v H'
def TP (X:Cx) (pins:List (Addr×Obj)) (σ:St) (Q:Bool->Hp->Prop) (b:Bool) (s':Shared):Prop:=∃ H',Inv X pins σ H' s' /\ Q b H'
def AP (X:Cx) (pins:List (Addr×Obj)) (σ:St) (Q:List V->Hp->Prop) (us:List Value) (s':Shared):Prop:=∃ vs H',Inv X pins σ H' s' /\ Vals vs us /\ Q vs H'
def SP (X:Cx) (pins:List (Addr×Obj)) (D:Ends) (f:Flow) (s':Shared):Prop :=
 match f with
 | .next=>∃ σ' H',Inv X pins σ' H' s' /\ D.nx σ' H'
 | .brk=>∃ σ' H',Inv X pins σ' H' s' /\ D.bk σ' H'
 | .cont=>∃ σ' H',Inv X pins σ' H' s' /\ D.ct σ' H'
 | .ret u=>∃ v σ' H',Inv X pins σ' H' s' /\ RelV v u /\ D.rt v H'
def PE (X:Cx) (e:Expr) (t:TE):Prop :=
 ∀ (pins:List (Addr×Obj)) (s:Shared) (σ:St) (H:Hp) (Q:VK),Inv X pins σ H s->t σ H Q->wpAny (model X.prog X.w) X.A (eval e X.env) (EP X pins σ Q) X.xe s
def PT (X:Cx) (e:Expr) (t:TT):Prop :=
 ∀ (pins:List (Addr×Obj)) (s:Shared) (σ:St) (H:Hp) (Q:Bool->Hp->Prop),Inv X pins σ H s->t σ H Q->wpAny (model X.prog X.w) X.A (isTrue e X.env (eval e X.env)) (TP X pins σ Q) X.xe s
def PW (X:Cx) (e:Expr) (t:TT):Prop :=
 ∀ (whole:Sem Value) (pins:List (Addr×Obj)) (s:Shared) (σ:St) (H:Hp) (Q:Bool->Hp->Prop),Inv X pins σ H s->t σ H Q->wpAny (model X.prog X.w) X.A (isTrue e X.env whole) (TP X pins σ Q) X.xe s
theorem PW.pt {X:Cx} {e:Expr} {t:TT} (h:PW X e t):PT X e t:=h _
def PA (X:Cx) (es:List Expr) (t:TA):Prop :=
 ∀ (pos:Pos) (pins:List (Addr×Obj)) (s:Shared) (σ:St) (H:Hp) (Q:List V->Hp->Prop),Inv X pins σ H s->t σ H Q->wpAny (model X.prog X.w) X.A (spliced (backTo pos (starEach es X.env))) (AP X pins σ Q) X.xe s
def PS (X:Cx) (st:Stmt) (t:TS):Prop :=
 ∀ (pins:List (Addr×Obj)) (s:Shared) (σ:St) (H:Hp) (D:Ends),Inv X pins σ H s->t D σ H->wpAny (model X.prog X.w) X.A (exec st X.env) (SP X pins D) X.xe s
def PSs (X:Cx) (st:List Stmt) (t:TS):Prop :=
 ∀ (pins:List (Addr×Obj)) (s:Shared) (σ:St) (H:Hp) (D:Ends),Inv X pins σ H s->t D σ H->wpAny (model X.prog X.w) X.A (execs st X.env) (SP X pins D) X.xe s
theorem thn {α:Type} {t:Sem α} {Q Q':α->Shared->Prop} {M:Model} {A:Around} {E:Value->Shared->Prop} {s:Shared} (h:wpAny M A t Q E s) (hQ:∀ a s,Q a s->Q' a s):wpAny M A t Q' E s:=wpAny_mono h hQ fun _ _ x=>x
end L2
namespace L2
open PySem PySem.Spec PyProof.Rows
section
variable {X:Cx}
def tVar (i:Nat):TE:=fun σ H Q=>∃ v,σ[i]? = some (some v) /\ Q v H
def tC (v:V):TE:=fun _ H Q=>Q v H
theorem zb {i:Nat} {x:Str} {pos:Pos} (hN:X.N[i]? = some x) (hv:Vis X.env.scope x) (hd:(x == ("__debug__" : Str))=false:=by decide) (hcd:(x == ("__classdict__" : Str))=false:=by decide):PE X (.Name x pos) (tVar i):=by
 intro pins s σ H Q I h
 obtain ⟨v,e,h⟩:=h
 obtain ⟨m,hn,hl⟩:=I.loc
 obtain ⟨u,r,l⟩:=hl i x v hN e hv
 have fin:EP X pins σ Q u s:=⟨v,H,I,r,h⟩
 rcases l with ⟨hk,hm⟩ | ⟨hk,c,hc,hcell⟩
 ·exact wpAny_Name (wpAny_loadName_local I.ok.kind hk hn hm fin) hd
 ·rcases hk with hk | hk
  ·exact wpAny_Name (wpAny_loadName_cell I.ok.kind hk hc hcell fin) hd
  ·exact wpAny_Name (wpAny_loadName_free I.ok.kind hk hc hcell fin hcd) hd
theorem bE {i j pos}:PE X (.Constant (.int i) j pos) (tC (.int i)):=fun _ _ _ H _ I h=>wpAny_Constant_int ⟨.int i,H,I.tok _,⟨_,rfl⟩,h⟩
theorem Bu {b j pos}:PE X (.Constant (.bool b) j pos) (tC (.bl b)):=fun _ _ _ H _ I h=>Constant_bool ⟨.bl b,H,I,rfl,h⟩
theorem zc {j pos}:PE X (.Constant .none j pos) (tC .non):=fun _ _ _ H _ I h=>Constant_none ⟨.non,H,I,rfl,h⟩
theorem zd {x j pos}:PE X (.Constant (.str x) j pos) (tC (.str x)):=fun _ _ _ H _ I h=>Calls.Constant_str ⟨.str x,H,I.tok _,⟨_,rfl⟩,h⟩
def Gl (X:Cx) (x:Str):Prop:=X.env.kindOf x=some .globalImplicit
theorem jA {E:Value->Shared->Prop} {pins:List (Addr×Obj)} {s:Shared} {σ:St} {H:Hp} {x:Str} {u:Value} {pos:Pos} {Q:Value->Shared->Prop} (I:Inv X pins σ H s) (hg:Gl X x) (hm:X.mg x=some u) (h:Q u s)
  (hd:(x == ("__debug__" : Str))=false:=by decide):wpAny (model X.prog X.w) X.A (eval (.Name x pos) X.env) Q E s :=
 Calls.Name_function_global I.ok.kind hg (Calls.loadGlobal_global (by rw [I.ok.glob]; exact I.mod.glob.keeps I.bk) hm h) hd
theorem mW {E:Value->Shared->Prop} {pins:List (Addr×Obj)} {s:Shared} {σ:St} {H:Hp} {x:Str} {u:Value} {pos:Pos} {Q:Value->Shared->Prop} (I:Inv X pins σ H s) (hg:Gl X x) (hm:X.mg x=none) (hv:bootBuiltins x=some u) (h:Q u s)
  (hn:x ≠ "__name__":=by decide) (hd:(x == ("__debug__" : Str))=false:=by decide):wpAny (model X.prog X.w) X.A (eval (.Name x pos) X.env) Q E s:=by
 obtain ⟨mb,h1,h2⟩:=I.mod.blt
 exact Calls.Name_function_global I.ok.kind hg (Calls.loadGlobal_builtin (by rw [I.ok.glob]; exact I.mod.glob.keeps I.bk) hm (by rw [I.ok.blt]; exact h1.keeps I.bk) ((h2 x hn).trans hv) h) hd
theorem sI {x:Str} {v:V} {u:Value} {pos:Pos} (hg:Gl X x) (hm:X.mg x=some u) (r:RelV v u) (hd:(x == ("__debug__" : Str))=false:=by decide):PE X (.Name x pos) (tC v) :=
 fun _ _ _ H _ I h=>jA I hg hm ⟨v,H,I,r,h⟩ hd
theorem xr {x:Str} {v:V} {u:Value} {pos:Pos} (hg:Gl X x) (hm:X.mg x=none) (hv:bootBuiltins x=some u) (r:RelV v u) (hn:x ≠ "__name__":=by decide) (hd:(x == ("__debug__" : Str))=false:=by decide):PE X (.Name x pos) (tC v) :=
 fun _ _ _ H _ I h=>mW I hg hm hv ⟨v,H,I,r,h⟩ hn hd
variable {a b:Expr} {ta tb:TE} {pos:Pos}
def tB (t:TE):TT:=fun σ H Q=>t σ H fun x H1=>∃ c,x = .bl c /\ Q c H1
theorem ze {e:Expr} {t:TE} (h:PE X e t) (he:∀ whole,isTrue e X.env whole=(do let v ← whole; standAt e.pos; holding [v] (truthy v)):=by intro _; rfl):PT X e (tB t):=by
 intro pins s σ H Q I hw
 refine isTrue_plain (thn (h pins s σ H _ I hw) fun v s1 ⟨x,H1,I1,r1,q1⟩=>?_) (he _)
 obtain ⟨d,rfl,q⟩:=q1
 cases r1
 exact wpAny_truthy_bool ⟨H1,I1,q⟩
variable {tA tB':TT} {rest:List Expr}
def tAnd (t u:TT):TT:=fun σ H Q=>t σ H fun c H1=>if c=true then u σ H1 Q else Q false H1
def tOr (t u:TT):TT:=fun σ H Q=>t σ H fun c H1=>if c=true then Q true H1 else u σ H1 Q
def tNot (t:TT):TT:=fun σ H Q=>t σ H fun c H1=>Q (!c) H1
theorem xt (ha:PT X a tA):PW X (.BoolOp .And [a] pos) tA:=by
 intro wh pins s σ H Q I h
 refine isTrue_and (thn (ha pins s σ H Q I h) fun c s1 e=>?_)
 cases c with
 | true=>exact isTrue_and_nil e
 | false=>exact e
theorem wy (ha:PT X a tA):PW X (.BoolOp .Or [a] pos) tA:=by
 intro wh pins s σ H Q I h
 refine isTrue_or (thn (ha pins s σ H Q I h) fun c s1 e=>?_)
 cases c with
 | false=>exact isTrue_or_nil e
 | true=>exact e
theorem zf (ha:PT X a tA) (hb:PW X (.BoolOp .And (b::rest) pos) tB'):PW X (.BoolOp .And (a::b::rest) pos) (tAnd tA tB'):=by
 intro wh pins s σ H Q I h
 refine isTrue_and (thn (ha pins s σ H _ I h) fun c s1 ⟨H1,I1,q1⟩=>?_)
 cases c with
 | true=>exact hb wh pins s1 σ H1 Q I1 q1
 | false=>exact ⟨H1,I1,q1⟩
theorem zg (ha:PT X a tA) (hb:PW X (.BoolOp .Or (b::rest) pos) tB'):PW X (.BoolOp .Or (a::b::rest) pos) (tOr tA tB'):=by
 intro wh pins s σ H Q I h
 refine isTrue_or (thn (ha pins s σ H _ I h) fun c s1 ⟨H1,I1,q1⟩=>?_)
 cases c with
 | true=>exact ⟨H1,I1,q1⟩
 | false=>exact hb wh pins s1 σ H1 Q I1 q1
theorem zh (ha:PT X a tA):PT X (.UnaryOp .Not a pos) (tNot tA):=by
 intro pins s σ H Q I h
 exact isTrue_not (ha pins s σ H (fun c H1=>Q (!c) H1) I h)
def Bv (ta tb:TE):TE:=fun σ H Q=>ta σ H fun x H1=>∃ c,x = .bl c /\ if c=true then tb σ H1 Q else Q (.bl false) H1
def Bw (ta:TE):TE:=fun σ H Q=>ta σ H fun x H1=>∃ c,x = .bl c /\ Q (.bl (!c)) H1
theorem zi {op} {t:TE} (h:PE X a t):PE X (.BoolOp op [a] pos) t:=fun pins s σ H Q I hw=>BoolOp_one (h pins s σ H Q I hw)
theorem zj (ha:PE X a ta) (hb:PE X (.BoolOp .And (b::rest) pos) tb):PE X (.BoolOp .And (a::b::rest) pos) (Bv ta tb):=by
 intro pins s σ H Q I h
 refine BoolOp_and (thn (ha pins s σ H _ I h) fun v s1 ⟨x,H1,I1,r1,q1⟩=>?_)
 obtain ⟨c,rfl,q1⟩:=q1
 cases r1
 refine wpAny_truthy_bool ?_
 cases c with
 | true=>exact hb pins s1 σ H1 Q I1 q1
 | false=>exact ⟨.bl false,H1,I1,rfl,q1⟩
theorem zk (ha:PE X a ta):PE X (.UnaryOp .Not a pos) (Bw ta):=by
 intro pins s σ H Q I h
 refine UnaryOp_ (thn (ha pins s σ H _ I h) fun v s1 ⟨x,H1,I1,r1,q1⟩=>?_)
 obtain ⟨c,rfl,q1⟩:=q1
 cases r1
 exact not_of (wpAny_truthy_bool ⟨.bl (!c),H1,I1,rfl,q1⟩)
end
end L2
namespace L2
open PySem PySem.Spec PyProof.Rows
def SqL (K:PySem.W.Frag) (H:Hp) (a:Addr) (xs:List V):Prop :=
 Rd H a (.lst xs) ∨
  ∃ (o:Obj) (its:Array Value) (n:Nat),K.lookup a=some o /\ o.cls = .type "list" /\ o.dict=none /\ o.data = .seq its n /\ its.size <= sizeLine /\ Vals xs its.toList
def SqT (K:PySem.W.Frag) (H:Hp) (a:Addr) (xs:List V):Prop :=
 Rd H a (.tup xs) ∨
  ∃ (o:Obj) (its:Array Value) (n:Nat),K.lookup a=some o /\ o.cls = .type "tuple" /\ o.data = .seq its n /\ its.size <= sizeLine /\ Vals xs its.toList
def absV:Value->Option V
 | .none=>some .non
 | .bool b=>some (.bl b)
 | .int i _=>some (.int i)
 | .str x _=>some (.str x)
 | .bytes b _=>some (.byt b)
 | .float b _=>some (.flt b)
 | .ref a=>some (.ref a)
 | .type n=>some (.ty n)
 | _=>none
theorem RelV.abs {x:V} {u:Value} (r:RelV x u):absV u=some x:=by
 cases x with
 | non=>cases r; rfl
 | bl _=>cases r; rfl
 | int _=>obtain ⟨t,rfl⟩:=r; rfl
 | str _=>obtain ⟨t,rfl⟩:=r; rfl
 | byt _=>obtain ⟨t,rfl⟩:=r; rfl
 | flt _=>obtain ⟨t,rfl⟩:=r; rfl
 | ref _=>cases r; rfl
 | ty _=>cases r; rfl
theorem RelV.inj {x y:V} {u:Value} (r:RelV x u) (q:RelV y u):x=y:=Option.some.inj (r.abs.symm.trans q.abs)
theorem Vals.inj:∀ {xs ys:List V} {us:List Value},Vals xs us->Vals ys us->xs=ys
 | _,_,_,.nil,.nil=>rfl
 | _,_,_,.cons r t,.cons r' t'=>by rw [r.inj r',Vals.inj t t']
section
variable {X:Cx} {pins:List (Addr×Obj)} {σ:St} {H:Hp} {s:Shared} {a:Addr} {xs ys:List V}
theorem SqL.of {K:PySem.W.Frag} (h:H a=some (.lst xs)):SqL K H a xs:=.inl (.inl h)
theorem SqT.of {K:PySem.W.Frag} (h:H a=some (.tup xs)):SqT K H a xs:=.inl (.inl h)
theorem Inv.list (I:Inv X pins σ H s) (h:SqL X.K H a xs):∃ its:List Value,Vals xs its /\ PlainL s.heap a its.toArray /\ xs.length <= sizeLine:=by
 rcases h with h | ⟨o,its,n,hk,hc,hd,hs,hz,r⟩
 ·obtain ⟨z,its,n,r,e⟩:=h.ok I.hok
  exact ⟨its,r,⟨_,n,e,rfl,rfl,rfl⟩,z⟩
 ·refine ⟨its.toList,r,⟨o,n,I.kIn a o hk,hc,hd,by simpa using hs⟩,?_⟩
  have e:=r.length
  simp only [Array.length_toList] at e
  omega
theorem Inv.tuple (I:Inv X pins σ H s) (h:SqT X.K H a xs):∃ its:List Value,Vals xs its /\ IsTup s.heap a its.toArray /\ xs.length <= sizeLine:=by
 rcases h with h | ⟨o,its,n,hk,hc,hs,hz,r⟩
 ·obtain ⟨z,its,r,p⟩:=h.ok I.hok
  exact ⟨its,r,p,z⟩
 ·refine ⟨its.toList,r,⟨o,I.kIn a o hk,hc,n,by simpa using hs⟩,?_⟩
  have e:=r.length
  simp only [Array.length_toList] at e
  omega
theorem Inv.list_inj (I:Inv X pins σ H s) (h:SqL X.K H a xs) (h':SqL X.K H a ys):xs=ys:=by
 obtain ⟨its,r,⟨o,n,e,_,_,d⟩,_⟩:=I.list h
 obtain ⟨its',r',⟨o',n',e',_,_,d'⟩,_⟩:=I.list h'
 rw [e] at e'; cases e'
 rw [d] at d'
 injection d' with d1 _
 have:its=its':=by simpa using congrArg Array.toList d1
 subst this
 exact r.inj r'
theorem Inv.tuple_inj (I:Inv X pins σ H s) (h:SqT X.K H a xs) (h':SqT X.K H a ys):xs=ys:=by
 obtain ⟨its,r,⟨o,e,_,n,d⟩,_⟩:=I.tuple h
 obtain ⟨its',r',⟨o',e',_,n',d'⟩,_⟩:=I.tuple h'
 rw [e] at e'; cases e'
 rw [d] at d'
 injection d' with d1 _
 have:its=its':=by simpa using congrArg Array.toList d1
 subst this
 exact r.inj r'
end
abbrev Cx.wish (X:Cx) (E:Value->Shared->Prop):Cx:={ X with xe:=E }
abbrev Cx.nox (X:Cx):Cx:=X.wish fun _ _=>False
theorem Cx.Ok.wish {X:Cx} (ok:X.Ok) (E:Value->Shared->Prop):(X.wish E).Ok :=
 ⟨ok.mod,ok.kind,ok.glob,ok.blt,ok.above,ok.inj,ok.has,ok.cab,ok.hd,ok.frames,ok.stk,ok.exf,ok.bs,ok.bsz,ok.noex,ok.exfs,ok.funs,ok.frf⟩
theorem Cx.Ok.unwish {X:Cx} {E:Value->Shared->Prop} (ok:(X.wish E).Ok):X.Ok :=
 ⟨ok.mod,ok.kind,ok.glob,ok.blt,ok.above,ok.inj,ok.has,ok.cab,ok.hd,ok.frames,ok.stk,ok.exf,ok.bs,ok.bsz,ok.noex,ok.exfs,ok.funs,ok.frf⟩
section
variable {X:Cx} {pins:List (Addr×Obj)} {σ:St} {H:Hp} {s:Shared} {E:Value->Shared->Prop}
theorem Inv.wish (I:Inv X pins σ H s) (E:Value->Shared->Prop):Inv (X.wish E) pins σ H s:=⟨I.ok.wish E,I.os,I.bare,I.base,I.loc,I.cell,I.free,I.freeC,I.pin,I.hok,I.len⟩
theorem Inv.unwish (I:Inv (X.wish E) pins σ H s):Inv X pins σ H s:=⟨I.ok.unwish,I.os,I.bare,I.base,I.loc,I.cell,I.free,I.freeC,I.pin,I.hok,I.len⟩
theorem SP.unwish {D:Ends} {f:Flow} {s':Shared} (h:SP (X.wish E) pins D f s'):SP X pins D f s':=by
 cases f with
 | next=>obtain ⟨σ',H',I,q⟩:=h; exact ⟨σ',H',I.unwish,q⟩
 | brk=>obtain ⟨σ',H',I,q⟩:=h; exact ⟨σ',H',I.unwish,q⟩
 | cont=>obtain ⟨σ',H',I,q⟩:=h; exact ⟨σ',H',I.unwish,q⟩
 | ret u=>obtain ⟨v,σ',H',I,r,q⟩:=h; exact ⟨v,σ',H',I.unwish,r,q⟩
theorem PSs.nox {st:List Stmt} {t:TS} (h:PSs X.nox st t):PSs X st t:=fun pins s σ H D I hw =>
 wpAny_mono (h pins s σ H D (I.wish _) hw) (fun _ _ q=>q.unwish) fun _ _ z=>False.elim z
end
section
variable {X:Cx} {st:Stmt} {rest:List Stmt} {t u:TS} {e:Expr} {te:TE} {pos:Pos}
def Bx:TS:=fun D σ H=>D.nx σ H
def tSeq (t u:TS):TS:=fun D σ H=>t { D with nx:=u D } σ H
theorem jB:PSs X [] Bx:=fun _ _ σ H _ I h=>wpAny_execs_nil ⟨σ,H,I,h⟩
theorem bv (h1:PS X st t) (h2:PSs X rest u):PSs X (st::rest) (tSeq t u):=by
 intro pins s σ H D I h
 refine wpAny_execs_cons (thn (h1 pins s σ H { D with nx:=u D } I h) fun f s1 q=>?_)
 cases f with
 | next =>
  obtain ⟨σ',H',I',q⟩:=q
  exact h2 pins s1 σ' H' D I' q
 | ret v=>exact q
 | brk=>exact q
 | cont=>exact q
theorem fN (h1:PS X st t):PSs X [st] t:=by
 intro pins s σ H D I h
 refine wpAny_execs_cons (thn (h1 pins s σ H D I h) fun f s1 q=>?_)
 cases f with
 | next=>exact wpAny_execs_nil q
 | ret v=>exact q
 | brk=>exact q
 | cont=>exact q
theorem Inv.quiet {pins:List (Addr×Obj)} {σ:St} {H:Hp} {s:Shared} (I:Inv X pins σ H s):interactive X.env=false:=by simp [interactive,I.ok.kind]
def By (te:TE):TS:=fun D σ H=>te σ H fun _ H1=>D.nx σ H1
theorem oK (he:PE X e te) (hs:swapsWith e none pos.line X.env=pure false:=by rfl):PS X (.Expr e pos) (By te):=by
 intro pins s σ H D I h
 exact wpAny_Expr_any (thn (he pins s σ H _ I h) fun v s1 ⟨x,H1,I1,r1,q1⟩=>⟨σ,H1,I1,q1⟩) I.quiet hs
def tRet (te:TE):TS:=fun D σ H=>te σ H D.rt
theorem mX (he:PE X e te):PS X (.Return (some e) pos) (tRet te):=by
 intro pins s σ H D I h
 exact wpAny_Return_some (thn (he pins s σ H _ I h) fun v s1 ⟨x,H1,I1,r1,q1⟩=>⟨x,σ,H1,I1,r1,q1⟩)
def tIfS (c:TT) (t u:TS):TS:=fun D σ H=>c σ H fun b H1=>if b=true then t D σ H1 else u D σ H1
theorem vm {c:Expr} {a b:List Stmt} {tc:TT} (hc:PT X c tc) (ha:PSs X a t) (hb:PSs X b u):PS X (.If c a b pos) (tIfS tc t u):=by
 intro pins s σ H D I h
 refine wpAny_If (thn (hc pins s σ H _ I h) fun d s1 ⟨H1,I1,q1⟩=>?_)
 cases d with
 | true=>exact ha pins s1 σ H1 D I1 q1
 | false=>exact hb pins s1 σ H1 D I1 q1
def zm:TS:=fun _ _ _=>False
theorem vn:PS X st zm:=fun _ _ _ _ _ _ h=>h.elim
end
abbrev TG:=V->St->Hp->(St->Hp->Prop)->Prop
abbrev TGs:=List V->St->Hp->(St->Hp->Prop)->Prop
def PG (X:Cx) (target:Expr) (t:TG):Prop :=
 ∀ (pins:List (Addr×Obj)) (s:Shared) (σ:St) (H:Hp) (v:V) (u:Value) (Q:St->Hp->Prop),Inv X pins σ H s->RelV v u->t v σ H Q ->
  wpAny (model X.prog X.w) X.A (assign target X.env u) (fun _ s'=>∃ σ' H',Inv X pins σ' H' s' /\ Q σ' H') X.xe s
def PGs (X:Cx) (ts:List Expr) (t:TGs):Prop :=
 ∀ (pins:List (Addr×Obj)) (s:Shared) (σ:St) (H:Hp) (vs:List V) (us:List Value) (Q:St->Hp->Prop),Inv X pins σ H s->Vals vs us->t vs σ H Q ->
  wpAny (model X.prog X.w) X.A (assignInOrder ((assignEach ts X.env).map (·.2)) us) (fun _ s'=>∃ σ' H',Inv X pins σ' H' s' /\ Q σ' H') X.xe s
abbrev TSet:=V->V->V->Hp->(Hp->Prop)->Prop
def PSet (X:Cx) (t:TSet):Prop :=
 ∀ (pins:List (Addr×Obj)) (s:Shared) (σ:St) (H:Hp) (o i v:V) (ov iv u:Value) (Q:Hp->Prop),Inv X pins σ H s->RelV o ov->RelV i iv->RelV v u->t o i v H Q ->
  wpAny (model X.prog X.w) X.A (setItem ov iv u) (fun _ s'=>∃ H',Inv X pins σ H' s' /\ Q H') X.xe s
section
variable {X:Cx} {pos:Pos}
def sJ (i:Nat):TG:=fun v σ H Q=>Q (σ.set i (some v)) H
theorem lL {i:Nat} {x:Str} (hN:X.N.Nodup) (hi:X.N[i]? = some x) (hx:Loc X.env.scope x) (hf:X.fn x=true∨X.env.scope.names.lookup x=some .local:=by first | exact .inl rfl | exact .inr rfl | assumption):PG X (.Name x pos) (sJ i):=by
 intro pins s σ H v u Q I r h
 exact wpAny_assign_Name (lK I hN hi hx r (fun s' I'=>⟨_,H,I',h⟩) hf)
def gNil:TGs:=fun vs σ H Q=>vs=[] /\ Q σ H
def Bz (t:TG) (u:TGs):TGs:=fun vs σ H Q=>∃ v r,vs=v::r /\ t v σ H fun σ' H'=>u r σ' H' Q
theorem sK:PGs X [] gNil:=by
 intro pins s σ H vs us Q I r h
 obtain ⟨e,h⟩:=h
 subst e
 cases r
 exact assignInOrder_nil ⟨σ,H,I,h⟩
theorem ji {e:Expr} {es:List Expr} {t:TG} {u:TGs} (h1:PG X e t) (h2:PGs X es u)
  (hs:(assignEach (e::es) X.env).map (·.2)=assign e X.env::(assignEach es X.env).map (·.2):=by rfl):PGs X (e::es) (Bz t u):=by
 intro pins s σ H vs us Q I r h
 obtain ⟨v,vr,e1,h⟩:=h
 subst e1
 cases r with
 | cons r rr =>
  rw [hs]
  refine assignInOrder_cons (thn (h1 pins s σ H _ _ _ I r h) fun _ s1 ⟨σ1,H1,I1,q1⟩=>?_)
  exact h2 pins s1 σ1 H1 _ _ Q I1 rr q1
def gTup (K:PySem.W.Frag) (n:Nat) (t:TGs):TG:=fun v σ H Q=>∃ a xs,v = .ref a /\ SqT K H a xs /\ xs.length=n /\ t xs σ H Q
theorem zn {es:List Expr} {k:Nat} {t:TGs} {n:Nat} (hc:X.calm=true) (h:PGs X es t)
  (hn:(assignEach es X.env).length=n:=by rfl) (hst:(assignEach es X.env).findIdx? (·.1)=none:=by rfl):PG X (.Tuple es k pos) (gTup X.K n t):=by
 intro pins s σ H v u Q I r hw
 obtain ⟨a,xs,e1,hq,hl,hw⟩:=hw
 subst e1
 cases r
 obtain ⟨its,rv,ht,hz⟩:=I.tuple hq
 refine assign_Tuple_tuple (I.ok.hd hc) ht (by simp [hn,← hl,rv.length]) hst fun h' hx=>?_
 have I1:Inv X pins σ H { s with heap:=h' }:=I.kept (t':=s.toks) fun b o e=>hx b o (Nat.ne_of_lt (Heap.lt_size e)) e
 exact h pins _ σ H xs _ Q I1 (by simpa using rv) hw
def gSub (to ti:TE) (t:TSet):TG:=fun v σ H Q=>to σ H fun o H1=>ti σ H1 fun i H2=>t o i v H2 fun H3=>Q σ H3
theorem sL {o i:Expr} {to ti:TE} {t:TSet} (ho:PE X o to) (hi:PE X i ti) (hs:PSet X t)
  (ha:∀ v,assign (.Subscript o i pos) X.env v=(do
   let ov ← holding [v] (eval o X.env)
   let iv ← holding [v,ov] (eval i X.env)
   standAt pos
   holding [v,ov,iv] (setItem ov iv v)
   release [v,ov,iv] []):=by intro _; rfl):PG X (.Subscript o i pos) (gSub to ti t):=by
 intro pins s σ H v u Q I r h
 rw [ha]
 refine wpAny_bind (wpAny_holding (thn (ho pins s σ H _ I h) fun ov s1 ⟨x,H1,I1,r1,q1⟩=>?_))
 refine wpAny_bind (wpAny_holding (thn (hi pins s1 σ H1 _ I1 q1) fun iv s2 ⟨y,H2,I2,r2,q2⟩=>?_))
 refine wpAny_bind (wpAny_standAt (wpAny_bind (wpAny_holding (thn (hs pins s2 σ H2 x y v ov iv u _ I2 r1 r2 r q2) fun _ s3 ⟨H3,I3,q3⟩=>?_))))
 exact wpAny_release ⟨σ,H3,I3,q3⟩
def tAsg (te:TE) (g:TG):TS:=fun D σ H=>te σ H fun x H1=>g x σ H1 D.nx
theorem mY {tg e:Expr} {te:TE} {g:TG} (he:PE X e te) (hg:PG X tg g) (hs:swapsWithSole [tg] e pos.line X.env=pure false:=by rfl) (hw:swappedStores [tg] e X.env=pure none:=by rfl)
  (h1:(assignEach [tg] X.env).map (·.2)=[assign tg X.env]:=by rfl):PS X (.Assign [tg] e pos) (tAsg te g):=by
 intro pins s σ H D I h
 refine wpAny_Assign_stores (thn (he pins s σ H _ I h) fun v s1 ⟨x,H1,I1,r1,q1⟩=>?_) hs hw
 rw [h1]
 exact thn (hg pins s1 σ H1 x v _ I1 r1 q1) fun _ s2 q=>q
theorem gC {i:Nat} {x:Str} {e:Expr} {te:TE} {pos':Pos} (hN:X.N.Nodup) (hi:X.N[i]? = some x) (hx:Loc X.env.scope x) (he:PE X e te) (hs:swapsWith e (some (.Name x pos')) pos.line X.env=pure false:=by rfl) (hf:X.fn x=true∨X.env.scope.names.lookup x=some .local:=by first | exact .inl rfl | exact .inr rfl | assumption) :
  PS X (.Assign [.Name x pos'] e pos) (tAsg te (sJ i)):=by
 intro pins s σ H D I h
 refine wpAny_Assign_Name (thn (he pins s σ H _ I h) fun v s1 ⟨y,H1,I1,r1,q1⟩=>?_) hs
 exact lK I1 hN hi hx r1 (fun s2 I2=>⟨_,H1,I2,q1⟩) hf
end
section
variable {X:Cx} {pos:Pos}
end
structure It where
 go:Nat->Hp->Prop
 yld:Nat->Hp->V->Hp->Prop
 stop:Nat->Hp->Prop
def FpOk (X:Cx) (pins:List (Addr×Obj)) (H:Hp) (b:Addr):Prop :=
 H b=none /\ b≠X.env.locals /\ b∉X.fs /\ (b∈X.ex∨X.s₀.heap.objs.size <= b) /\ (∀ x c,X.env.cells.lookup x=some c->c≠b) /\ ∀ p∈X.pn++pins,p.1≠b
theorem Inv.fpOk {X:Cx} {pins:List (Addr×Obj)} {σ:St} {H H':Hp} {s:Shared} {b:Addr} (I:Inv X pins σ H s) (hb:s.heap.objs.size <= b) (hn:H' b=none):FpOk X pins H' b:=by
 refine ⟨hn,Nat.ne_of_gt (Nat.lt_of_lt_of_le I.lt hb),I.nofs hb,.inr (Nat.le_trans I.sz hb),fun x c e z=>?_,fun p hp z=>?_⟩
 ·obtain ⟨v,q⟩:=I.cell x c e
  exact absurd (Nat.lt_of_lt_of_le q.lt (by rw [z]; exact hb)) (Nat.lt_irrefl _)
 ·exact absurd (Nat.lt_of_lt_of_le (Heap.lt_size (I.pin p hp).1) (by rw [z]; exact hb)) (Nat.lt_irrefl _)
structure Turn (P:Program) (w:World) (K:PySem.W.Frag) (tg:Expr) (J:It) (fp:List Addr) (it:Addr) (tn:Nat->Heap->Prop):Prop where
 mem:it∈fp
 obj:∀ i h,tn i h->∀ b∈fp,∃ o,h.get? b=some o /\ ∀ v,o.data ≠ .cell v
 keep:∀ i h h',tn i h->(∀ b∈fp,∀ o,h.get? b=some o->h'.get? b=some o)->tn i h'
 item:∀ (X:Cx),X.prog=P->X.w=w->X.K=K->X.calm=true->∀ (i:Nat) (pins:List (Addr×Obj)) (s:Shared) (σ:St) (H:Hp) (E:Value->Shared->Prop),Inv X pins σ H s->(∀ b∈fp,FpOk X pins H b)->tn i s.heap->J.go i H ->
  wpAny (model P w) X.A (pyNext (.ref it)) (fun r s1=>∃ u,r=some u /\
   wpAny (model P w) X.A (letOwnedTupleGo tg (.ref it) u) (fun _ s2=>∃ x H',Inv X pins σ H' s2 /\ RelV x u /\ J.yld i H x H' /\ tn (i + 1) s2.heap /\ ∀ b∈fp,H' b=none) E s1) E s
 done:∀ (X:Cx),X.prog=P->X.w=w->X.K=K->X.calm=true->∀ (i:Nat) (pins:List (Addr×Obj)) (s:Shared) (σ:St) (H:Hp) (E:Value->Shared->Prop),Inv X pins σ H s->(∀ b∈fp,FpOk X pins H b)->tn i s.heap->J.stop i H ->
  wpAny (model P w) X.A (pyNext (.ref it)) (fun r s1=>r=none /\ Inv X pins σ H s1) E s
 self:∀ (A:Around) (i:Nat) (s:Shared) (Q:Value->Shared->Prop) (E:Value->Shared->Prop),tn i s.heap->Q (.ref it) s->wpAny (model P w) A (pyIter (.ref it)) Q E s
abbrev TI:=St->Hp->(It->Hp->Prop)->Prop
def PIE (X:Cx) (pins:List (Addr×Obj)) (σ:St) (tg:Expr) (R:It->Hp->Prop) (itv:Value) (s2:Shared):Prop :=
 ∃ (it:Addr) (fp:List Addr) (tn:Nat->Heap->Prop) (J:It) (H':Hp),itv = .ref it /\ Inv X pins σ H' s2 /\ Turn X.prog X.w X.K tg J fp it tn /\ tn 0 s2.heap /\ (∀ b∈fp,FpOk X pins H' b) /\ R J H'
def PI (X:Cx) (tg iter:Expr) (wi:TI):Prop :=
 ∀ (pins:List (Addr×Obj)) (s:Shared) (σ:St) (H:Hp) (R:It->Hp->Prop),Inv X pins σ H s->wi σ H R ->
  wpAny (model X.prog X.w) X.A (eval iter X.env) (fun v s1=>wpAny (model X.prog X.w) X.A (pyIter v) (PIE X pins σ tg R) X.xe s1) X.xe s
theorem xu {M:Model} {A:Around} {E:Value->Shared->Prop} {s:Shared} {tg:Expr} {it:Addr} {u:Value} {o:Obj} {n:String} {vs:Array Value} {Q:Unit->Shared->Prop} (ho:s.heap.get? it=some o) (hc:o.cls = .type n) (hd:o.data = .fields vs)
  (hn:["enumerate","zip","dict_itemiterator","dict_reverseitemiterator","odict_iterator","itertools.zip_longest","itertools.pairwise"].contains n=false) (hQ:Q () s):wpAny M A (letOwnedTupleGo tg (.ref it) u) Q E s:=by
 unfold letOwnedTupleGo
 cases tg <;> first
  | exact wpAny_pure hQ
  | (cases u <;> first
    | exact wpAny_pure hQ
    | (refine wpAny_bind (wpAny_load ho ?_)
       rw [hc,hd]
       show wpAny M A (if (["enumerate","zip","dict_itemiterator","dict_reverseitemiterator","odict_iterator","itertools.zip_longest","itertools.pairwise"].contains n && vs[0]? == some (rawInt _))=true then _ else _) Q E s
       rw [if_neg (by intro h; rw [hn,Bool.false_and] at h; cases h)]
       exact wpAny_pure hQ))
def Itl (K:PySem.W.Frag) (a:Addr):It :=
 ⟨fun i H=>∃ xs x,SqL K H a xs /\ xs[i]? = some x,fun i H x H'=>H'=H /\ ∀ xs,SqL K H a xs->xs[i]? = some x,fun i H=>∃ xs,SqL K H a xs /\ xs.length <= i⟩
def Itt (K:PySem.W.Frag) (a:Addr):It :=
 ⟨fun i H=>∃ xs x,SqT K H a xs /\ xs[i]? = some x,fun i H x H'=>H'=H /\ ∀ xs,SqT K H a xs->xs[i]? = some x,fun i H=>∃ xs,SqT K H a xs /\ xs.length <= i⟩
def Itr (lo:Int) (n:Nat):It:=⟨fun i _=>i < n,fun i H x H'=>H'=H /\ x = .int (lo + i),fun i _=>n <= i⟩
theorem mZ {P:Program} {w:World} {K:PySem.W.Frag} {tg:Expr} (a it:Addr):Turn P w K tg (Itl K a) [it] it (fun i h=>h.IsListIter it a i) where
 mem:=by simp
 obj:=fun i h st b hb=>by
  have e:b=it:=by simpa using hb
  subst e
  obtain ⟨o,e,c,d⟩:=st
  exact ⟨o,e,fun v z=>by rw [d] at z; cases z⟩
 keep:=fun i h h' st k=>st.at fun o e=>k it (by simp) o e
 item:=by
  intro X hP hw hK hc i pins s σ H E I hf st hg
  subst hP hw hK
  obtain ⟨xs,x,hq,hx⟩:=hg
  obtain ⟨its,rv,p,hz⟩:=I.list hq
  obtain ⟨u,hu,ru⟩:=rv.get hx
  obtain ⟨f0,f1,f2,f3,f4,f5⟩:=hf it (by simp)
  refine wpAny_pyNext_list_item st p.isList (x:=u) (by simpa using hu) fun h' st' sb=>?_
  have I1:Inv X pins σ H { s with heap:=h' }:=I.turned (t':=s.toks) (fun b o hb e=>(sb.2 b hb).trans e) f0 f1 f3 f4 f5
  obtain ⟨o,e,c,d⟩:=id st'
  exact ⟨u,rfl,xu (s:={ s with heap:=h' }) e c d (by decide) ⟨x,H,I1,ru,⟨rfl,fun ys hy=>by rw [I.list_inj hy hq]; exact hx⟩,st',fun b hb=>(hf b hb).1⟩⟩
 done:=by
  intro X hP hw hK hc i pins s σ H E I hf st hg
  subst hP hw hK
  obtain ⟨xs,hq,hx⟩:=hg
  obtain ⟨its,rv,p,hz⟩:=I.list hq
  obtain ⟨f0,f1,f2,f3,f4,f5⟩:=hf it (by simp)
  have hl:=rv.length
  exact wpAny_pyNext_list_end (I.ok.hd hc) st p.isList (by simp; omega) fun h' eb=>⟨rfl,I.turned (t':=s.toks) (fun b o hb e=>eb b o hb e) f0 f1 f3 f4 f5⟩
 self:=fun _ _ _ _ _ st h=>wpAny_pyIter_listiter st h
theorem kX {P:Program} {w:World} {K:PySem.W.Frag} {tg:Expr} (a it:Addr):Turn P w K tg (Itt K a) [it] it (fun i h=>h.IsTupleIter it a i) where
 mem:=by simp
 obj:=fun i h st b hb=>by
  have e:b=it:=by simpa using hb
  subst e
  obtain ⟨o,e,c,d⟩:=st
  exact ⟨o,e,fun v z=>by rw [d] at z; cases z⟩
 keep:=fun i h h' st k=>st.at fun o e=>k it (by simp) o e
 item:=by
  intro X hP hw hK hc i pins s σ H E I hf st hg
  subst hP hw hK
  obtain ⟨xs,x,hq,hx⟩:=hg
  obtain ⟨its,rv,p,hz⟩:=I.tuple hq
  obtain ⟨u,hu,ru⟩:=rv.get hx
  obtain ⟨f0,f1,f2,f3,f4,f5⟩:=hf it (by simp)
  refine wpAny_pyNext_tuple_item st (show s.heap.IsTuple a its.toArray from p) (x:=u) (by simpa using hu) fun h' st' sb=>?_
  have I1:Inv X pins σ H { s with heap:=h' }:=I.turned (t':=s.toks) (fun b o hb e=>(sb.2 b hb).trans e) f0 f1 f3 f4 f5
  obtain ⟨o,e,c,d⟩:=id st'
  exact ⟨u,rfl,xu (s:={ s with heap:=h' }) e c d (by decide) ⟨x,H,I1,ru,⟨rfl,fun ys hy=>by rw [I.tuple_inj hy hq]; exact hx⟩,st',fun b hb=>(hf b hb).1⟩⟩
 done:=by
  intro X hP hw hK hc i pins s σ H E I hf st hg
  subst hP hw hK
  obtain ⟨xs,hq,hx⟩:=hg
  obtain ⟨its,rv,p,hz⟩:=I.tuple hq
  obtain ⟨f0,f1,f2,f3,f4,f5⟩:=hf it (by simp)
  have hl:=rv.length
  exact wpAny_pyNext_tuple_end (I.ok.hd hc) st (show s.heap.IsTuple a its.toArray from p) (by simp; omega) fun h' eb=>⟨rfl,I.turned (t':=s.toks) (fun b o hb e=>eb b o hb e) f0 f1 f3 f4 f5⟩
 self:=fun _ _ _ _ _ st h=>wpAny_pyIter_tupleiter st h
theorem rH {P:Program} {w:World} {K:PySem.W.Frag} {tg:Expr} (it:Addr) (lo:Int) (n:Nat):Turn P w K tg (Itr lo n) [it] it (fun i h=>IsRangeIter h it (lo + (i:Nat) * 1) ((n:Int) - (i:Nat)) 1) where
 mem:=by simp
 obj:=fun i h st b hb=>by
  have e:b=it:=by simpa using hb
  subst e
  exact ⟨_,st,fun v z=>by
   have z':Data.fields _=Data.cell v:=z
   cases z'⟩
 keep:=fun i h h' st k=>k it (by simp) _ st
 item:=by
  intro X hP hw hK hc i pins s σ H E I hf st hg
  subst hP hw hK
  obtain ⟨f0,f1,f2,f3,f4,f5⟩:=hf it (by simp)
  have W:=Walks.range (prog:=X.prog) (w:=X.w) (I.ok.hd hc) it lo 1 n
  refine W.item i s _ _ hg st fun v h' tk hv st' kk=>?_
  obtain ⟨t,rfl⟩:=hv
  have I1:Inv X pins σ H { s with heap:=h',toks:=tk }:=I.turned (fun b o hb e=>kk b o (by simpa using hb) e) f0 f1 f3 f4 f5
  refine ⟨_,rfl,xu (s:={ s with heap:=h',toks:=tk }) (n:="range_iterator") st' rfl rfl (by decide) ⟨.int (lo + i),H,I1,⟨t,?_⟩,⟨rfl,rfl⟩,st',fun b hb=>(hf b hb).1⟩⟩
  rw [Int.mul_one]
 done:=by
  intro X hP hw hK hc i pins s σ H E I hf st hg
  subst hP hw hK
  obtain ⟨f0,f1,f2,f3,f4,f5⟩:=hf it (by simp)
  exact wpAny_pyNext_range_end (I.ok.hd hc) st (by have:n <= i:=hg; omega) fun h' eb=>⟨rfl,I.turned (t':=s.toks) (fun b o hb e=>eb b o hb e) f0 f1 f3 f4 f5⟩
 self:=fun _ _ _ _ _ st h=>wpAny_pyIter_rangeiter st h
end L2
namespace L2
open PySem PySem.Spec PyProof.Rows
section
variable {X:Cx} {tg:Expr}
def BA (K:PySem.W.Frag) (tl:TE):TI:=fun σ H R=>tl σ H fun x H1=>∃ a,x = .ref a /\ (∃ xs,SqL K H1 a xs) /\ R (Itl K a) H1
def iTup (K:PySem.W.Frag) (tl:TE):TI:=fun σ H R=>tl σ H fun x H1=>∃ a,x = .ref a /\ (∃ xs,SqT K H1 a xs) /\ R (Itt K a) H1
theorem xv {l:Expr} {tl:TE} (hl:PE X l tl):PI X tg l (BA X.K tl):=by
 intro pins s σ H R I h
 refine thn (hl pins s σ H _ I h) fun v s1 ⟨x,H1,I1,r1,q1⟩=>?_
 obtain ⟨a,e,⟨xs,hq⟩,q⟩:=q1
 subst e
 cases r1
 obtain ⟨its,rv,p,hz⟩:=I1.list hq
 refine wpAny_pyIter_list p.isList ?_
 refine ⟨s1.heap.objs.size,[s1.heap.objs.size],_,_,H1,rfl,I1.kept (t':=s1.toks) fun b o e=>Heap.get?_push_of_some _ e,mZ a _,⟨_,Heap.get?_push_size _ rfl,rfl,rfl⟩,fun b hb=>?_,q⟩
 have e:b=s1.heap.objs.size:=by simpa using hb
 subst e
 exact I1.fpOk (Nat.le_refl _) (I1.hok.fresh (Nat.le_refl _))
theorem zo {l:Expr} {tl:TE} (hl:PE X l tl):PI X tg l (iTup X.K tl):=by
 intro pins s σ H R I h
 refine thn (hl pins s σ H _ I h) fun v s1 ⟨x,H1,I1,r1,q1⟩=>?_
 obtain ⟨a,e,⟨xs,hq⟩,q⟩:=q1
 subst e
 cases r1
 obtain ⟨its,rv,p,hz⟩:=I1.tuple hq
 refine wpAny_pyIter_tuple (show s1.heap.IsTuple a its.toArray from p) ?_
 refine ⟨s1.heap.objs.size,[s1.heap.objs.size],_,_,H1,rfl,I1.kept (t':=s1.toks) fun b o e=>Heap.get?_push_of_some _ e,kX a _,⟨_,Heap.get?_push_size _ rfl,rfl,rfl⟩,fun b hb=>?_,q⟩
 have e:b=s1.heap.objs.size:=by simpa using hb
 subst e
 exact I1.fpOk (Nat.le_refl _) (I1.hok.fresh (Nat.le_refl _))
theorem vo {pins:List (Addr×Obj)} {σ:St} {H:Hp} {s:Shared} {R:It->Hp->Prop} {E:Value->Shared->Prop} {lo hi:Int} {t u v:Tok} {tk:Nat} (I:Inv X pins σ H s) (h1 : -(2 ^ 62) <= lo) (h2:lo < 2 ^ 62) (h3 : -(2 ^ 62) <= hi) (h4:hi < 2 ^ 62)
  (q:R (Itr lo (hi - lo).toNat) H):wpAny (model X.prog X.w) X.A (pyIter (.ref s.heap.objs.size)) (PIE X pins σ tg R) E { s with heap:=s.heap.push { cls:=.type "range",data:=.fields #[.int lo t,.int hi u,.int 1 v] },toks:=tk }:=by
 refine wpAny_pyIter_range (IsRange.new ..) (small_one h1 h2 h3 h4) ?_
 have I1:Inv X pins σ H { s with heap:=s.heap.push { cls:=.type "range",data:=.fields #[.int lo t,.int hi u,.int 1 v] },toks:=tk }:=I.kept fun b o e=>Heap.get?_push_of_some _ e
 refine ⟨(s.heap.push { cls:=.type "range",data:=.fields #[.int lo t,.int hi u,.int 1 v] }).objs.size,[(s.heap.push { cls:=.type "range",data:=.fields #[.int lo t,.int hi u,.int 1 v] }).objs.size],_,_,H,rfl,
  I1.kept (t':=tk) fun b o e=>Heap.get?_push_of_some _ e,rH _ lo (hi - lo).toNat,?_,fun b hb=>?_,q⟩
 ·have e1:lo + ((0:Nat):Int) * 1=lo:=by simp
  have e2:(((hi - lo).toNat:Nat):Int) - ((0:Nat):Int)=Builtin.Range.rangeSize lo hi 1:=by rw [rangeSize_one]; split <;> omega
  show IsRangeIter _ _ (lo + ((0:Nat):Int) * 1) ((((hi - lo).toNat:Nat):Int) - ((0:Nat):Int)) 1
  rw [e1,e2]
  exact Heap.get?_push_size _ rfl
 ·have e:b=(s.heap.push { cls:=.type "range",data:=.fields #[.int lo t,.int hi u,.int 1 v] }).objs.size:=by simpa using hb
  subst e
  exact I1.fpOk (Nat.le_refl _) (I1.hok.fresh (Nat.le_refl _))
def BB (ta:TA):TI:=fun σ H R=>ta σ H fun vs H1=>∃ j:Int,vs=[.int j] /\ -(2 ^ 62) <= j /\ j < 2 ^ 62 /\ R (Itr 0 j.toNat) H1
theorem sM {a:Expr} {ta:TA} {p pos:Pos} (hg:Gl X "range") (hm:X.mg "range" = none) (ha:PA X [a] ta) (hs:starEach [a] X.env=[(false,eval a X.env)]:=by rfl):PI X tg (.Call (.Name "range" p) [a] [] pos) (BB ta):=by
 intro pins s σ H R I h
 refine Call_ (mW I hg hm boot_range (PyProof.Rows.callWith_type1 (thn (ha pos pins s σ H _ I h) fun us s1 ⟨vs,H1,I1,r1,q1⟩=>?_) hs rfl))
 obtain ⟨j,e,q1,q2,q⟩:=q1
 subst e
 cases r1 with
 | cons r rr =>
  cases rr
  obtain ⟨t,rfl⟩:=r
  exact call_range_1 (vo I1 (by omega) (by omega) q1 q2 (by simpa using q))
def tFor (wi:TI) (g:TG) (tb:TS):TS:=fun D σ H=>wi σ H fun J H1=>∃ W:Nat->Nat->St->Hp->Prop,(∃ m,W 0 m σ H1) /\ ∀ i m σ H,W i m σ H ->
 (J.stop i H /\ D.nx σ H)∨(J.go i H /\ ∃ N:St->Hp->Prop,(∀ σ' H',N σ' H'->∃ m',m' < m /\ W (i + 1) m' σ' H') /\ ∀ x H',J.yld i H x H'->g x σ H' fun σ2 H2=>tb { D with nx:=N,ct:=N,bk:=D.nx } σ2 H2)
def nc (fp:List Addr) (h:Heap):List (Addr×Obj):=fp.filterMap fun b=>(h.get? b).map fun o=>(b,o)
theorem fi {fp:List Addr} {h:Heap} {b:Addr} {o:Obj} (hb:b∈fp) (e:h.get? b=some o):(b,o)∈nc fp h:=List.mem_filterMap.mpr ⟨b,hb,by rw [e]; rfl⟩
theorem sN {fp:List Addr} {h:Heap} {p:Addr×Obj} (hp:p∈nc fp h):p.1∈fp /\ h.get? p.1=some p.2:=by
 obtain ⟨b,hb,e⟩:=List.mem_filterMap.mp hp
 cases q:h.get? b with
 | none=>rw [q] at e; cases e
 | some o =>
  rw [q] at e
  have e':(b,o)=p:=Option.some.inj e
  subst e'
  exact ⟨hb,q⟩
theorem Inv.pinned {pins:List (Addr×Obj)} {σ:St} {H:Hp} {s:Shared} {fp:List Addr} (I:Inv X pins σ H s) (hf:∀ b∈fp,FpOk X pins H b) (ho:∀ b∈fp,∃ o,s.heap.get? b=some o /\ ∀ v,o.data ≠ .cell v):Inv X (pins++nc fp s.heap) σ H s :=
 I.pins_of fun p hp=>(List.mem_append.mp hp).elim (fun z=>I.pin p (List.mem_append_right _ z)) fun z=>by
  obtain ⟨hb,e⟩:=sN z
  obtain ⟨f0,f1,f2,_⟩:=hf p.1 hb
  obtain ⟨o,e',d⟩:=ho p.1 hb
  rw [e] at e'; cases e'
  exact ⟨e,f0,f1,f2,d⟩
theorem Inv.unpinned {pins pl:List (Addr×Obj)} {σ:St} {H:Hp} {s:Shared} (I:Inv X (pins++pl) σ H s):Inv X pins σ H s:=I.pins_of fun p hp=>I.pin p (List.mem_append_right _ (List.mem_append_left _ hp))
theorem zq {iter:Expr} {body:List Stmt} {wi:TI} {g:TG} {tb:TS} {pos:Pos} (hp:PassesOwn (model X.prog X.w) X.A X.env X.xe) (hc:X.calm=true) (hi:PI X tg iter wi) (hg:PG X tg g) (hb:PSs X body tb)
  (hs:∀ x,foldedSetIterable iter X.env x=pure x:=by intro _; rfl):PS X (.For tg iter body [] pos) (tFor wi g tb):=by
 intro pins s σ H D I h
 refine wpAny_For (thn (hi pins s σ H _ I h) fun v s1 h1=>thn h1 fun itv s2 h2=>?_) hs
 obtain ⟨it,fp,tn,J,H2,e,I2,T,st2,f2,W,⟨m0,w0⟩,turn⟩:=h2
 subst e
 -- what stays true of the iterator's objects through the loop
 have stat:∀ {H':Hp},(∀ b∈fp,H' b=none)->∀ b∈fp,FpOk X pins H' b:=fun hn b hb=>⟨hn b hb,(f2 b hb).2⟩
 refine codeAny_forLoop_any (fun n s'=>∃ i σ' H',Inv X pins σ' H' s' /\ tn i s'.heap /\ (∀ b∈fp,H' b=none) /\ W i n σ' H') ?_ m0 ⟨0,σ,H2,I2,st2,fun b hb=>(f2 b hb).1,w0⟩
 rintro n s3 ⟨i,σ3,H3,I3,st3,fr3,w3⟩
 rcases turn i n σ3 H3 w3 with ⟨stop,qn⟩ | ⟨go,N,hN,step⟩
 ·refine wpAny_passesOwn hp (thn (T.done X rfl rfl rfl hc i pins s3 σ3 H3 X.xe I3 (stat fr3) st3 stop) fun r s4 ⟨hr,I4⟩=>?_)
  subst hr
  exact wpAny_execs_nil ⟨σ3,H3,I4,qn⟩
 ·refine wpAny_passesOwn hp (thn (T.item X rfl rfl rfl hc i pins s3 σ3 H3 X.xe I3 (stat fr3) st3 go) fun r s4 ⟨u,hr,h4⟩=>?_)
  subst hr
  refine wpAny_passesOwn hp (thn h4 fun _ s5 ⟨x,H5,I5,r5,y5,st5,fr5⟩=>?_)
  have I5':=I5.pinned (stat fr5) (T.obj _ _ st5)
  refine wpAny_passesOwn hp (thn (hg _ s5 σ3 H5 x u _ I5' r5 (step x H5 y5)) fun _ s6 ⟨σ6,H6,I6,q6⟩=>?_)
  refine wpAny_passesOwn hp (thn (hb _ s6 σ6 H6 _ I6 q6) fun f s7 q7=>?_)
  have again:∀ {σ7:St} {H7:Hp},Inv X (pins++nc fp s5.heap) σ7 H7 s7->N σ7 H7->∃ m,m < n /\ ∃ i σ' H',Inv X pins σ' H' s7 /\ tn i s7.heap /\ (∀ b∈fp,H' b=none) /\ W i m σ' H':=fun {σ7 H7} I7 n7=>by
   obtain ⟨m',hm,w7⟩:=hN σ7 H7 n7
   refine ⟨m',hm,i + 1,σ7,H7,I7.unpinned,T.keep _ _ _ st5 fun b hb o e=>(I7.pin (b,o) (List.mem_append_right _ (List.mem_append_right _ (fi hb e)))).1,fun b hb=>?_,w7⟩
   obtain ⟨o,e,d⟩:=T.obj _ _ st5 b hb
   exact (I7.pin (b,o) (List.mem_append_right _ (List.mem_append_right _ (fi hb e)))).2.1
  cases f with
  | next=>obtain ⟨σ7,H7,I7,n7⟩:=q7; exact again I7 n7
  | cont=>obtain ⟨σ7,H7,I7,n7⟩:=q7; exact again I7 n7
  | brk=>obtain ⟨σ7,H7,I7,q7⟩:=q7; exact ⟨σ7,H7,I7.unpinned,q7⟩
  | ret v=>obtain ⟨x7,σ7,H7,I7,r7,q7⟩:=q7; exact ⟨x7,σ7,H7,I7.unpinned,r7,q7⟩
end
end L2
namespace L2
open PySem PySem.Spec PyProof.Rows
abbrev R2:=V->V->Hp->VK->Prop
def OpR (X:Cx) (f:Value->Value->Sem Value) (r:R2):Prop :=
 ∀ (pins:List (Addr×Obj)) (s:Shared) (σ:St) (H:Hp) (x y:V) (v u:Value) (Q:VK),Inv X pins σ H s->RelV x v->RelV y u->r x y H Q ->
  wpAny (model X.prog X.w) X.A (f v u) (EP X pins σ Q) X.xe s
def UnR (X:Cx) (f:Value->Sem Value) (r:V->Hp->VK->Prop):Prop :=
 ∀ (pins:List (Addr×Obj)) (s:Shared) (σ:St) (H:Hp) (x:V) (v:Value) (Q:VK),Inv X pins σ H s->RelV x v->r x H Q ->
  wpAny (model X.prog X.w) X.A (f v) (EP X pins σ Q) X.xe s
def fA (X:Cx) (f:Value) (r:List V->Hp->VK->Prop):Prop :=
 ∀ (pins:List (Addr×Obj)) (s:Shared) (σ:St) (H:Hp) (xs:List V) (us:List Value) (Q:VK),Inv X pins σ H s->Vals xs us->r xs H Q ->
  wpAny (model X.prog X.w) X.A (call f us) (EP X pins σ Q) X.xe s
def tOp (r:R2) (ta tb:TE):TE:=fun σ H Q=>ta σ H fun x H1=>tb σ H1 fun y H2=>r x y H2 Q
def tUn (r:V->Hp->VK->Prop) (ta:TE):TE:=fun σ H Q=>ta σ H fun x H1=>r x H1 Q
def rI (C:Int->Int->Prop) (g:Int->Int->V):R2:=fun x y H Q=>∃ i j,x = .int i /\ y = .int j /\ C i j /\ Q (g i j) H
def rI0 (g:Int->Int->V):R2:=fun x y H Q=>∃ i j,x = .int i /\ y = .int j /\ Q (g i j) H
def rU (g:Int->V):V->Hp->VK->Prop:=fun x H Q=>∃ i,x = .int i /\ Q (g i) H
section
variable {X:Cx} {a b c:Expr} {ta tb tc:TE} {pos:Pos}
theorem binT (ha:PE X a ta) (hb:PE X b tb) {pins:List (Addr×Obj)} {s:Shared} {σ:St} {H:Hp} {R:V->V->Hp->Prop} (I:Inv X pins σ H s)
  (h:ta σ H fun x H1=>tb σ H1 fun y H2=>R x y H2) {Q:Value->Shared->Prop} {f:Value->Value->Sem Value}
  (hf:∀ v u s2 x y H2,Inv X pins σ H2 s2->RelV x v->RelV y u->R x y H2->wpAny (model X.prog X.w) X.A (f v u) Q X.xe s2) :
  wpAny (model X.prog X.w) X.A (eval a X.env) (fun v s₁=>wpAny (model X.prog X.w) X.A (eval b X.env) (fun u s₂=>wpAny (model X.prog X.w) X.A (f v u) Q X.xe s₂) X.xe s₁) X.xe s:=by
 refine thn (ha pins s σ H _ I h) fun v s1 ⟨x,H1,I1,r1,q1⟩=>?_
 refine thn (hb pins s1 σ H1 _ I1 q1) fun u s2 ⟨y,H2,I2,r2,q2⟩=>?_
 exact hf v u s2 x y H2 I2 r1 r2 q2
theorem cK {op:Operator} {r:R2} (ho:OpR X (binaryOp op) r) (ha:PE X a ta) (hb:PE X b tb):PE X (.BinOp a op b pos) (tOp r ta tb):=by
 intro pins s σ H Q I h
 exact wpAny_BinOp (binT ha hb I h fun v u s2 x y H2 I2 rx ry q=>ho pins s2 σ H2 x y v u Q I2 rx ry q)
theorem BC {op:UnaryOp} {r:V->Hp->VK->Prop} (ho:UnR X (unaryOp op) r) (ha:PE X a ta):PE X (.UnaryOp op a pos) (tUn r ta):=by
 intro pins s σ H Q I h
 exact UnaryOp_ (thn (ha pins s σ H _ I h) fun v s1 ⟨x,H1,I1,r1,q1⟩=>ho pins s1 σ H1 x v Q I1 r1 q1)
theorem opI {f:Value->Value->Sem Value} {C:Int->Int->Prop} {g:Int->Int->Int}
  (rule:∀ (i j:Int) (t u:Tok) (s:Shared) (Q:Value->Shared->Prop) (E:Value->Shared->Prop),C i j->Q (.int (g i j) s.toks) { s with toks:=s.toks + 1 }->wpAny (model X.prog X.w) X.A (f (.int i t) (.int j u)) Q E s) :
  OpR X f (rI C fun i j=>.int (g i j)):=by
 intro pins s σ H x y v u Q I rx ry h
 obtain ⟨i,j,rfl,rfl,hc,q⟩:=h
 obtain ⟨t,rfl⟩:=rx
 obtain ⟨t',rfl⟩:=ry
 exact rule i j t t' s _ _ hc ⟨.int (g i j),H,I.tok _,⟨_,rfl⟩,q⟩
theorem opI0 {f:Value->Value->Sem Value} {g:Int->Int->Int}
  (rule:∀ (i j:Int) (t u:Tok) (s:Shared) (Q:Value->Shared->Prop) (E:Value->Shared->Prop),Q (.int (g i j) s.toks) { s with toks:=s.toks + 1 }->wpAny (model X.prog X.w) X.A (f (.int i t) (.int j u)) Q E s) :
  OpR X f (rI0 fun i j=>.int (g i j)):=by
 intro pins s σ H x y v u Q I rx ry h
 obtain ⟨i,j,rfl,rfl,q⟩:=h
 obtain ⟨t,rfl⟩:=rx
 obtain ⟨t',rfl⟩:=ry
 exact rule i j t t' s _ _ ⟨.int (g i j),H,I.tok _,⟨_,rfl⟩,q⟩
theorem opB0 {f:Value->Value->Sem Value} {g:Int->Int->Bool}
  (rule:∀ (i j:Int) (t u:Tok) (s:Shared) (Q:Value->Shared->Prop) (E:Value->Shared->Prop),Q (.bool (g i j)) s->wpAny (model X.prog X.w) X.A (f (.int i t) (.int j u)) Q E s) :
  OpR X f (rI0 fun i j=>.bl (g i j)):=by
 intro pins s σ H x y v u Q I rx ry h
 obtain ⟨i,j,rfl,rfl,q⟩:=h
 obtain ⟨t,rfl⟩:=rx
 obtain ⟨t',rfl⟩:=ry
 exact rule i j t t' s _ _ ⟨.bl (g i j),H,I,rfl,q⟩
def CPow (i j:Int):Prop:=0 <= j /\ j <= 1000000 /\ i.natAbs < 2 ^ 64
theorem jC:OpR X (binaryOp .Add) (rI0 fun i j=>.int (i + j)):=opI0 fun _ _ _ _ _ _ _ q=>add_int q
theorem zr:OpR X (binaryOp .Sub) (rI0 fun i j=>.int (i - j)):=opI0 fun _ _ _ _ _ _ _ q=>sub_int q
theorem iN:OpR X (binaryOp .Mod) (rI (fun _ j=>0 < j) fun i j=>.int (i % j)):=opI fun i j _ _ _ _ _ hc q=>by
 have h1:(0:Int) < j:=hc
 exact mod_int' (by omega) (by rw [Int.fmod_eq_emod_of_nonneg i (by omega)]; exact q)
theorem wz:OpR X (binaryOp .Pow) (rI CPow fun i j=>.int (i ^ j.toNat)):=opI fun _ _ _ _ _ _ _ hc q=>pow_int_small hc.1 hc.2.1 hc.2.2 q
theorem unI {f:Value->Sem Value} {g:Int->Int}
  (rule:∀ (i:Int) (t:Tok) (s:Shared) (Q:Value->Shared->Prop) (E:Value->Shared->Prop),Q (.int (g i) s.toks) { s with toks:=s.toks + 1 }->wpAny (model X.prog X.w) X.A (f (.int i t)) Q E s) :
  UnR X f (rU fun i=>.int (g i)):=by
 intro pins s σ H x v Q I rx h
 obtain ⟨i,rfl,q⟩:=h
 obtain ⟨t,rfl⟩:=rx
 exact rule i t s _ _ ⟨.int (g i),H,I.tok _,⟨_,rfl⟩,q⟩
theorem zv:UnR X (unaryOp .USub) (rU fun i=>.int (-i)):=unI fun _ _ _ _ _ q=>neg_int q
end
def scal:V->V->Bool
 | .non,.non=>true | .non,.int _=>true | .int _,.non=>true | .non,.bl _=>true | .bl _,.non=>true | .non,.str _=>true | .str _,.non=>true
 | .int _,.int _=>true | .bl _,.bl _=>true | .str _,.str _=>true | .byt _,.byt _=>true
 | .int _,.str _=>true | .str _,.int _=>true | .bl _,.str _=>true | .str _,.bl _=>true
 | _,_=>false
def rEq:R2:=fun x y H Q=>scal x y=true /\ Q (.bl (decide (x=y))) H
theorem xw {i j:Int}:decide (V.int i=V.int j)=(i == j):=by
 rw [Bool.eq_iff_iff]
 simp
theorem zx {i j:Bool}:decide (V.bl i=V.bl j)=(i == j):=by
 rw [Bool.eq_iff_iff]
 simp
theorem xx {i j:Str}:decide (V.str i=V.str j)=(i == j):=by
 rw [Bool.eq_iff_iff]
 simp
theorem xy {i j:Array UInt8}:decide (V.byt i=V.byt j)=(i.toList == j.toList):=by
 rw [Bool.eq_iff_iff]
 cases i
 cases j
 simp
section
variable {X:Cx} {a b c:Expr} {ta tb tc:TE} {pos:Pos}
theorem cz {pins:List (Addr×Obj)} {σ:St} {H:Hp} {s:Shared} {Q:VK} {k k':Bool} (I:Inv X pins σ H s) (q:Q (.bl k) H) (e:k=k'):EP X pins σ Q (.bool k') s:=by
 subst e
 exact ⟨.bl k,H,I,rfl,q⟩
theorem BD:OpR X (compareOp .Eq) rEq:=by
 intro pins s σ H x y v u Q I rx ry h
 obtain ⟨hs,q⟩:=h
 cases x with
 | non =>
  cases rx
  cases y with
  | non=>cases ry; exact PySem.EqNone.eq_none_none (cz I q (by simp))
  | bl j=>cases ry; exact PySem.EqNone.eq_none_bool (cz I q (by simp))
  | int j=>obtain ⟨t',rfl⟩:=ry; exact PySem.EqNone.eq_none_int (cz I q (by simp))
  | str j=>obtain ⟨t',rfl⟩:=ry; exact PySem.EqNone.eq_none_str (cz I q (by simp))
  | _=>exact absurd (show false=true from hs) Bool.false_ne_true
 | bl i =>
  cases rx
  cases y with
  | non=>cases ry; exact PySem.EqNone.eq_bool_none (cz I q (by simp))
  | bl j=>cases ry; exact eq_bool (cz I q zx)
  | str j=>obtain ⟨t',rfl⟩:=ry; exact PySem.EqMixed.eq_bool_str (cz I q (by simp))
  | _=>exact absurd (show false=true from hs) Bool.false_ne_true
 | int i =>
  obtain ⟨t,rfl⟩:=rx
  cases y with
  | non=>cases ry; exact PySem.EqNone.eq_int_none (cz I q (by simp))
  | int j=>obtain ⟨t',rfl⟩:=ry; exact eq_int (cz I q xw)
  | str j=>obtain ⟨t',rfl⟩:=ry; exact PySem.EqMixed.eq_int_str (cz I q (by simp))
  | _=>exact absurd (show false=true from hs) Bool.false_ne_true
 | str i =>
  obtain ⟨t,rfl⟩:=rx
  cases y with
  | non=>cases ry; exact PySem.EqNone.eq_str_none (cz I q (by simp))
  | bl j=>cases ry; exact PySem.EqMixed.eq_str_bool (cz I q (by simp))
  | int j=>obtain ⟨t',rfl⟩:=ry; exact PySem.EqMixed.eq_str_int (cz I q (by simp))
  | str j=>obtain ⟨t',rfl⟩:=ry; exact eq_str (cz I q xx)
  | _=>exact absurd (show false=true from hs) Bool.false_ne_true
 | byt i =>
  obtain ⟨t,rfl⟩:=rx
  cases y with
  | byt j=>obtain ⟨t',rfl⟩:=ry; exact PySem.W.eq_bytes (cz I q xy)
  | _=>exact absurd (show false=true from hs) Bool.false_ne_true
 | _=>cases y <;> exact absurd (show false=true from hs) Bool.false_ne_true
theorem BE:OpR X (compareOp .Lt) (rI0 fun i j=>.bl (decide (i < j))):=opB0 fun _ _ _ _ _ _ _ q=>lt_int q
theorem BF:OpR X (compareOp .LtE) (rI0 fun i j=>.bl (decide (i <= j))):=opB0 fun _ _ _ _ _ _ _ q=>le_int q
theorem zy:OpR X (compareOp .Gt) (rI0 fun i j=>.bl (decide (j < i))):=opB0 fun _ _ _ _ _ _ _ q=>gt_int q
theorem BG:OpR X (compareOp .GtE) (rI0 fun i j=>.bl (decide (j <= i))):=opB0 fun _ _ _ _ _ _ _ q=>ge_int q
theorem aS (b:Expr) {op:CmpOp} (h:op ≠ .In:=by decide) (h2:op ≠ .NotIn:=by decide):behindInMarks op b=false:=by
 have e1:(op == CmpOp.In)=false:=by cases op <;> first | rfl | exact absurd rfl h
 have e2:(op == CmpOp.NotIn)=false:=by cases op <;> first | rfl | exact absurd rfl h2
 cases b <;> simp [behindInMarks,e1,e2]
theorem xz {op:CmpOp} {r:R2} (ho:OpR X (compareOp op) r) (ha:PE X a ta) (hb:PE X b tb) (hm:behindInMarks op b=false):PE X (.Compare a [op] [b] pos) (tOp r ta tb):=by
 intro pins s σ H Q I h
 exact wpAny_Compare1 (binT ha hb I h fun v u s2 x y H2 I2 rx ry q=>ho pins s2 σ H2 x y v u Q I2 rx ry q) hm
def BH (t:TE):TT:=fun σ H Q=>t σ H fun x H'=>∃ k,x = .bl k /\ Q k H'
theorem jD {op:CmpOp} {r:R2} (ho:OpR X (compareOp op) r) (ha:PE X a ta) (hb:PE X b tb) (hm:behindInMarks op b=false):PT X (.Compare a [op] [b] pos) (BH (tOp r ta tb)):=by
 intro pins s σ H Q I h
 refine wpAny_isTrue_Compare1 (thn (ha pins s σ H _ I h) fun v s1 ⟨x,H1,I1,r1,q1⟩=>thn (hb pins s1 σ H1 _ I1 q1) fun u s2 ⟨y,H2,I2,r2,q2⟩ =>
  thn (ho pins s2 σ H2 x y v u _ I2 r1 r2 q2) fun c s3 ⟨z,H3,I3,r3,k,e,q3⟩=>?_) hm
 subst e
 cases r3
 exact wpAny_truthy_bool ⟨H3,I3,q3⟩
def wA (r r':R2) (ta tb tc:TE):TE:=fun σ H Q=>ta σ H fun x H1=>tb σ H1 fun y H2=>r x y H2 fun z H3=>∃ k,z = .bl k /\
 (if k=true then tc σ H3 fun w' H4=>r' y w' H4 Q else Q (.bl false) H3)
theorem vp {op op':CmpOp} {r r':R2} (ho:OpR X (compareOp op) r) (ho':OpR X (compareOp op') r') (ha:PE X a ta) (hb:PE X b tb) (hc:PE X c tc)
  (hm:lastMarks [op,op'] [b,c]=false:=by with_unfolding_all rfl):PE X (.Compare a [op,op'] [b,c] pos) (wA r r' ta tb tc):=by
 intro pins s σ H Q I h
 refine Compare_chain (thn (ha pins s σ H _ I h) fun v s1 ⟨x,H1,I1,r1,q1⟩=>chain_link (thn (hb pins s1 σ H1 _ I1 q1) fun u s2 ⟨y,H2,I2,r2,q2⟩ =>
  thn (ho pins s2 σ H2 x y v u _ I2 r1 r2 q2) fun d s3 ⟨z,H3,I3,r3,k,e,q3⟩=>?_)) hm
 subst e
 cases r3
 refine wpAny_truthy_bool ?_
 cases k with
 | false=>exact ite_ff ⟨.bl false,H3,I3,rfl,q3⟩
 | true=>exact ite_tt (chain_last (thn (hc pins s3 σ H3 _ I3 q3) fun w' s4 ⟨z',H4,I4,r4,q4⟩=>ho' pins s4 σ H4 y z' u w' Q I4 r2 r4 q4))
theorem qi:(sizeLine:Nat) < 2 ^ 63:=by rw [sizeLine_eq]; decide
theorem rJ {x:V} {us:List Value} (r:Vals [x] us):∃ u,us=[u] /\ RelV x u:=by
 cases r with
 | cons r1 r2=>cases r2; exact ⟨_,rfl,r1⟩
theorem vq {x y:V} {us:List Value} (r:Vals [x,y] us):∃ u w',us=[u,w'] /\ RelV x u /\ RelV y w':=by
 cases r with
 | cons r1 r2 =>
  cases r2 with
  | cons r3 r4=>cases r4; exact ⟨_,_,rfl,r1,r3⟩
end
end L2
namespace L2
open PySem PySem.Spec PyProof.Rows
structure ObjM (h:Heap) (x dx C:Addr) (mA:Str->Option Value):Prop where
 obj:h.get? x=some (PySem.W.instObj C dx)
 ns:h.Ns1 dx mA
 ne:dx≠x
theorem sO {h:Heap} {dx:Addr} {mA:Str->Option Value} (n:h.Ns1 dx mA):∃ od,h.get? dx=some od /\ ∀ name,PySem.W.lookIn name od=some (mA name):=by
 obtain ⟨o,es,ep,ho,hd,hk,_,hm⟩:=n
 refine ⟨o,ho,fun name=>?_⟩
 have e:=hm name
 unfold nsFind findBy at e
 rw [← Array.find?_toList] at e
 unfold PySem.W.lookIn
 rw [hd]
 dsimp only
 split
 ·rename_i y q
  rw [q] at e
  exact congrArg some e
 ·rename_i q
  rw [q] at e
  have a:es.toList.any (·.refKey)=false:=by
   rw [List.any_eq_false]
   intro y hy
   obtain ⟨z,t,hkey⟩:=hk y (Array.mem_toList_iff.mp hy)
   simp [DictEntry.refKey,hkey]
  have a':¬ es.toList.any (·.refKey)=true:=by rw [a]; exact Bool.false_ne_true
  rw [if_neg a']
  exact congrArg some e
theorem ObjM.look {h:Heap} {x dx C:Addr} {mA:Str->Option Value} (I:ObjM h x dx C mA):∃ od,PySem.W.InstAt h x (PySem.W.instObj C dx) C (some od) /\ ∀ name,PySem.W.lookIn name od=some (mA name) :=
 let ⟨od,ho,hl⟩:=sO I.ns
 ⟨od,⟨I.obj,rfl,rfl,ho⟩,hl⟩
section
variable {prog:Program} {w:World} {A:Around} {E:Value->Shared->Prop} {s:Shared} {K:PySem.W.Frag} {x dx C f:Addr} {mA:Str->Option Value} {name:Str} {v:Value}
end
theorem RelO.some_of {v:V} {o:Option Value} (r:RelO (some v) o):∃ u,o=some u /\ RelV v u:=by
 cases o with
 | none=>exact (show False from r).elim
 | some u=>exact ⟨u,rfl,r⟩
section
variable {P:Program} {w:World} {H H':Hp} {h h':Heap} {a C dx:Addr} {fs fs':List (Str×V)}
theorem xA (hok:HOk P w H h) (e:H a=some (.ins C dx fs)):∃ mA,ObjM h a dx C mA /\ (∀ f,RelO (fs.lookup f) (mA f)) /\ PySem.Within mA (fs.map (·.1)) /\ fs.length <= 1000 /\ H dx=some (.own a):=by
 obtain ⟨d,z,ne,ob,mA,n,r,q⟩:=(show ObjOk P w H h a (.ins C dx fs) from hok a _ e)
 exact ⟨mA,⟨ob,n,ne⟩,r,q,z,d⟩
end
structure Cls (K:PySem.W.Frag) (C:Addr):Prop where
 pg:PySem.W.plainGet K C Str.empty=true
 hd:PySem.W.hasDictIn K C=true
 po:PySem.W.plainOver K C=true
 sa:PySem.W.findIn K (.ref C) "__setattr__" = some (some (.builtin "object.__setattr__"))
theorem Cls.get {K:PySem.W.Frag} {C:Addr} (c:Cls K C) (f:Str):PySem.W.plainGet K C f=true:=c.pg
section
variable {X:Cx} {pins:List (Addr×Obj)} {σ:St} {H:Hp} {s:Shared} {a C dx:Addr} {fs:List (Str×V)} {f:Str} {v:V} {A:Around} {E:Value->Shared->Prop}
end
section
variable {X:Cx} {o e value:Expr} {f:Str} {pos pos' tpos:Pos} {ta tv:TE}
end
section
variable {X:Cx} {pins:List (Addr×Obj)} {σ:St} {H:Hp} {s:Shared} {A:Around} {E:Value->Shared->Prop} {Q:Value->Shared->Prop} {c:Value} {b:Bool}
inductive TyOf (K:PySem.W.Frag) (H:Hp):V->Value->Prop where
 | non:TyOf K H .non (.type "NoneType")
 | bl (x:Bool):TyOf K H (.bl x) (.type "bool")
 | int (i:Int):TyOf K H (.int i) (.type "int")
 | str (x:Str):TyOf K H (.str x) (.type "str")
 | flt (x:UInt64):TyOf K H (.flt x) (.type "float")
 | lst {a:Addr} {xs:List V} (e:H a=some (.lst xs)):TyOf K H (.ref a) (.type "list")
 | frz {a:Addr} {o:Obj} {xs:List V} (e:H a=some (.frz o (.lst xs))):TyOf K H (.ref a) (.type "list")
 | tup {a:Addr} {xs:List V} (e:H a=some (.tup xs)):TyOf K H (.ref a) (.type "tuple")
 | dK {a:Addr} {kvs:List (Key×V)} (e:H a=some (.dK kvs)):TyOf K H (.ref a) (.type "dict")
 | dT {a:Addr} {kvs:List (List Key×V)} (e:H a=some (.dT kvs)):TyOf K H (.ref a) (.type "dict")
 | ins {a C dx:Addr} {fs:List (Str×V)} (e:H a=some (.ins C dx fs)) (cl:Cls K C) (ha:PySem.W.findIn K (.ref C) "__class__" = some (some (.builtin "object.__class__")))
   (hn:PySem.W.specialIn K (.builtin "object.__class__") "__get__" = some (some (.builtin "getset_descriptor.__get__"))) (htk:PySem.W.takesIn K (.builtin "object.__class__")=some true)
   (hm:PySem.W.mroIn K C (.type "object")=some true):TyOf K H (.ref a) (.ref C)
theorem sP {x:V} {u t:Value} (I:Inv X pins σ H s) (rx:RelV x u) (ty:TyOf X.K H x t) (e:PySem.W.kitOne X.K t c=some b) (h:∀ tk,Q (.bool b) { s with toks:=tk }) :
  wpAny (model X.prog X.w) A (call (.builtin "isinstance") [u,c]) Q E s:=by
 cases ty with
 | non=>cases (show u=Value.none from rx); exact PySem.W.kia_one PySem.W.kitx_none I.kIn True.intro e (fun z=>nomatch z) h
 | bl y=>cases (show u=Value.bool y from rx); exact PySem.W.kia_one PySem.W.kitx_bool I.kIn True.intro e (fun z=>nomatch z) h
 | int i=>obtain ⟨t,q⟩:=(show ∃ t,u=Value.int i t from rx); cases q; exact PySem.W.kia_one PySem.W.kitx_int I.kIn True.intro e (fun z=>nomatch z) h
 | str y=>obtain ⟨t,q⟩:=(show ∃ t,u=Value.str y t from rx); cases q; exact PySem.W.kia_one PySem.W.kitx_str I.kIn True.intro e (fun z=>nomatch z) h
 | flt y=>obtain ⟨t,q⟩:=(show ∃ t,u=Value.float y t from rx); cases q; exact PySem.W.kia_one PySem.W.kitx_float I.kIn True.intro e (fun z=>nomatch z) h
 | @lst a xs ea =>
  cases (show u=Value.ref a from rx)
  obtain ⟨_,_,n,_,h1⟩:=(show ObjOk X.prog X.w H s.heap a (.lst xs) from I.hok a _ ea)
  exact PySem.W.kia_one PySem.W.kitx_list I.kIn ⟨_,h1,rfl⟩ e (fun z=>nomatch z) h
 | @frz a ob xs ea =>
  cases (show u=Value.ref a from rx)
  obtain ⟨_,_,_,n,_,h1⟩:=(show ObjOk X.prog X.w H s.heap a (.frz ob (.lst xs)) from I.hok a _ ea)
  exact PySem.W.kia_one PySem.W.kitx_list I.kIn ⟨_,h1,rfl⟩ e (fun z=>nomatch z) h
 | @tup a xs ea =>
  cases (show u=Value.ref a from rx)
  obtain ⟨_,_,_,p⟩:=(show ObjOk X.prog X.w H s.heap a (.tup xs) from I.hok a _ ea)
  obtain ⟨o,h1,h2,_⟩:=p
  exact PySem.W.kia_one PySem.W.kitx_tuple I.kIn ⟨o,h1,h2⟩ e (fun z=>nomatch z) h
 | @dK a kvs ea =>
  cases (show u=Value.ref a from rx)
  obtain ⟨_,_,vs,_,p⟩:=(show ObjOk X.prog X.w H s.heap a (.dK kvs) from I.hok a _ ea)
  obtain ⟨o,es,ep,h1,h2,_⟩:=p
  exact PySem.W.kia_one PySem.W.kitx_dict I.kIn ⟨o,h1,h2.1⟩ e (fun z=>nomatch z) h
 | @dT a kvs ea =>
  cases (show u=Value.ref a from rx)
  obtain ⟨_,_,xs,_,o,es,ep,h1,h2,_⟩:=(show ObjOk X.prog X.w H s.heap a (.dT kvs) from I.hok a _ ea)
  exact PySem.W.kia_one PySem.W.kitx_dict I.kIn ⟨o,h1,h2.1⟩ e (fun z=>nomatch z) h
 | @ins a C dx fs ea cl ha hn htk hm =>
  cases (show u=Value.ref a from rx)
  obtain ⟨mA,O,_⟩:=xA I.hok ea
  obtain ⟨od,J,_⟩:=O.look
  exact PySem.W.kia_one (PySem.W.kitx_own (cl.get _) cl.hd ha hn htk hm) I.kIn J e (fun z=>nomatch z) h
end
end L2
namespace L2
open PySem PySem.Spec PyProof.Rows
structure Room (k:Nat) (A:Around):Prop where
 hd:A.handled=none
 dp:A.depth + 3 * k + 5 < recursionLimit
 un:A.units + 16 * k + 200 < cLine
theorem Room.mono {j k:Nat} {A:Around} (r:Room k A) (h:j <= k):Room j A:=⟨r.hd,by have:=r.dp; omega,by have:=r.un; omega⟩
theorem Room.deeper {k:Nat} {A:Around} (r:Room (k + 1) A) (env:Env):Room k (A.deeper env) :=
 ⟨r.hd,by have:=r.dp; show A.depth + 1 + 3 * k + 5 < _; omega,by have:=r.un; show A.units + 3 + 16 * k + 200 < _; omega⟩
theorem Room.depth {k:Nat} {A:Around} (r:Room k A):A.depth < recursionLimit:=by have:=r.dp; omega
theorem Room.units {k:Nat} {A:Around} (r:Room k A):A.units + 64 < cLine:=by have:=r.un; omega
def tNil:TA:=fun _ H Q=>Q [] H
def xB (ta:TE) (tr:TA):TA:=fun σ H Q=>ta σ H fun x H1=>tr σ H1 fun xs H2=>Q (x::xs) H2
section
variable {X:Cx} {e:Expr} {es:List Expr} {te:TE} {t:TA} {pos:Pos}
theorem fF:PA X [] tNil:=fun _ _ _ _ H Q I h=>Calls.spliced_nil ⟨[],H,I,.nil,h⟩
theorem cH (ha:PE X e te) (hr:PA X es t) (hs:starEach (e::es) X.env=(false,eval e X.env)::starEach es X.env:=by rfl):PA X (e::es) (xB te t):=by
 intro pos pins s σ H Q I h
 rw [hs]
 show wpAny _ _ (spliced ((false,eval e X.env)::backTo pos (starEach es X.env))) _ _ s
 refine Calls.spliced_cons (thn (ha pins s σ H _ I h) fun u s1 ⟨x,H1,I1,r1,q1⟩=>?_)
 exact thn (hr pos pins s1 σ H1 _ I1 q1) fun us s2 ⟨xs,H2,I2,r2,q2⟩=>⟨x::xs,H2,I2,.cons r1 r2,q2⟩
def tTup (t:TA):TE:=fun σ H Q=>t σ H fun xs H1=>xs.length <= sizeLine /\ ∀ p,H1 p=none->Q (.ref p) (upd H1 p (.tup xs))
def tLst (t:TA):TE:=fun σ H Q=>t σ H fun xs H1=>xs.length <= sizeLine /\ ∀ p,H1 p=none->Q (.ref p) (upd H1 p (.lst xs))
theorem zz {x1} (h:PA X es t):PE X (.Tuple es x1 pos) (tTup t):=by
 intro pins s σ H Q I hq
 refine wpAny_Tuple_spliced (thn (h pos pins s σ H _ I hq) fun us s1 ⟨xs,H1,I1,r,z,q⟩=>⟨by rw [← r.length]; exact z,?_⟩)
 have hf:H1 s1.heap.objs.size=none:=I1.hok.fresh (Nat.le_refl _)
 refine ⟨.ref s1.heap.objs.size,upd H1 s1.heap.objs.size (.tup xs),I1.laid (t':=s1.toks) (fun b u e=>Heap.get?_push_of_some _ e) (Nat.le_refl _) ?_,rfl,q _ hf⟩
 exact ⟨z,us,r,⟨_,Heap.get?_push_size _ rfl,rfl,_,rfl⟩⟩
theorem sQ (h:PA X es t):PE X (.List es pos) (tLst t):=by
 intro pins s σ H Q I hq
 refine wpAny_List_spliced (thn (h pos pins s σ H _ I hq) fun us s1 ⟨xs,H1,I1,r,z,q⟩=>⟨by rw [← r.length]; exact z,?_⟩)
 have hf:H1 s1.heap.objs.size=none:=I1.hok.fresh (Nat.le_refl _)
 refine ⟨.ref s1.heap.objs.size,upd H1 s1.heap.objs.size (.lst xs),I1.laid (t':=s1.toks) (fun b u e=>Heap.get?_push_of_some _ e) (Nat.le_refl _) ?_,rfl,q _ hf⟩
 exact ⟨z,us,0,r,Heap.get?_push_size _ rfl⟩
end
abbrev Sp:=List V->Hp->VK->XK->Prop
abbrev CXT:=List Env->Hp->Shared->XK->Value->Shared->Prop
structure Env0 (P:Program) (w:World) (K:PySem.W.Frag) (mg:Str->Option Value) (base:Heap) (A:Around) (outer:List Env) (s:Shared) (H:Hp):Prop where
 frames:A.frames=some outer
 mod:Mod K mg base
 bs:∀ b o,base.get? b=some o->s.heap.get? b=some o /\ H b=none
 bsz:base.objs.size <= s.heap.objs.size
 funs:s.heap.FunFrames base outer
 frf:∀ b∈frs outer,H b=none
 hok:HOk P w H s.heap
 bare:AllBare s.gens
def CE (outer:List Env) (P:Program) (w:World) (H:Hp) (s:Shared) (Q:VK) (u:Value) (s':Shared):Prop :=
 ∃ v H',s'.os=s.os /\ AllBare s'.gens /\ Un (frs outer) [] H H' s.heap s'.heap /\ HOk P w H' s'.heap /\ RelV v u /\ Q v H'
def CR (CX:CXT) (outer:List Env) (P:Program) (w:World) (H:Hp) (s:Shared) (Q:VK) (E:XK) (r:Result) (s':Shared):Prop :=
 match r with
 | .ok (.ret u)=>CE outer P w H s Q u s'
 | .ok _=>False
 | .error e=>CX outer H s E e s'
structure FnOk (P:Program) (w:World) (K:PySem.W.Frag) (mg:Str->Option Value) (base:Heap) (CX:CXT) (k:Nat) (f:Addr) (fd:FuncData) (ps:List Str) (sp:Sp):Prop where
 len:∀ vs H Q E,sp vs H Q E->vs.length=ps.length
 run:∀ (A:Around) (outer:List Env) (s:Shared) (H:Hp) (args:Args) (us:List Value) (vs:List V) (Q:VK) (E:XK),Room k A->Env0 P w K mg base A outer s H->BindsTo s fd args (ps.zip us)->Vals vs us->sp vs H Q E ->
  codeAny (model P w) A (.call (.ref f) args) (CR CX outer P w H s Q E) s
theorem FnOk.imp {P:Program} {w:World} {K:PySem.W.Frag} {mg:Str->Option Value} {base:Heap} {CX:CXT} {k:Nat} {f:Addr} {fd:FuncData} {ps:List Str} {sp sp':Sp} (F:FnOk P w K mg base CX k f fd ps sp)
  (h:∀ vs H Q E,sp' vs H Q E->sp vs H Q E):FnOk P w K mg base CX k f fd ps sp' :=
 ⟨fun vs H Q E q=>F.len vs H Q E (h _ _ _ _ q),fun A outer s H args us vs Q E hr he hb hv hs=>F.run A outer s H args us vs Q E hr he hb hv (h _ _ _ _ hs)⟩
section
variable {X:Cx} {pins:List (Addr×Obj)} {σ:St} {H:Hp} {s s':Shared}
theorem Inv.env0 (I:Inv X pins σ H s):Env0 X.prog X.w X.K X.mg X.base X.A X.stack s H :=
 ⟨I.ok.frames,I.ok.mod,I.bs,Nat.le_trans I.ok.bsz I.sz,I.stack,I.stkFree,I.hok,I.bare⟩
theorem Inv.after {Q:VK} {u:Value} (I:Inv X pins σ H s) (h:CE X.stack X.prog X.w H s Q u s'):EP X pins σ Q u s':=by
 obtain ⟨v,H',os,bare,un,hok,r,q⟩:=h
 obtain ⟨hh,g,d,t,os'⟩:=s'
 obtain rfl:os'=s.os:=os
 exact ⟨v,H',I.call (h':=hh) (g':=g) (d':=d) (t':=t) (ch:=[]) un hok bare (fun b z=>absurd z (by simp)),r,q⟩
end
def zA (sp:Sp) (dvs:List V) (E:XK) (t:TA):TE:=fun σ H Q=>t σ H fun vs H1=>sp (vs++dvs) H1 Q E
def Binds (K:PySem.W.Frag) (fd:FuncData) (ps:List Str) (ds:List Value):Prop :=
 ∀ (s:Shared) (us:List Value),K.In s.heap->(us++ds).length=ps.length->BindsTo s fd ⟨us,[]⟩ (ps.zip (us++ds))
theorem Binds.all {K:PySem.W.Frag} {fd:FuncData} {ps:List Str} (h:∀ us:List Value,us.length=ps.length->bindArgs fd ⟨us,[]⟩=pure (ps.zip us)):Binds K fd ps []:=fun s us _ hl=>by
 rw [List.append_nil] at hl ⊢
 exact .of_eq (h us hl)
def sR (CX:CXT) (X:Cx) (E:XK):Prop:=∀ (pins:List (Addr×Obj)) (σ:St) (H:Hp) (s:Shared) (e:Value) (s':Shared),Inv X pins σ H s->CX X.stack H s E e s'->X.xe e s'
section
variable {X:Cx} {CX:CXT} {k:Nat} {f C:Addr} {fd:FuncData} {ps:List Str} {sp:Sp} {dvs:List V} {ds:List Value} {E:XK} {x m:Str} {p pos apos:Pos} {e o:Expr} {es:List Expr} {ta:TE} {t:TA}
theorem zB {pins:List (Addr×Obj)} {σ:St} {H:Hp} {s:Shared} {Q:VK} {us:List Value} {vs:List V} (F:FnOk X.prog X.w X.K X.mg X.base CX k f fd ps sp) (hr:Room k X.A) (hb:Binds X.K fd ps ds) (hd:Vals dvs ds) (hx:sR CX X E)
  (I:Inv X pins σ H s) (r:Vals vs us) (h:sp (vs++dvs) H Q E):wpAny (model X.prog X.w) X.A (call (.ref f) us) (EP X pins σ Q) X.xe s:=by
 have r2:Vals (vs++dvs) (us++ds):=r.append hd
 have hl:(us++ds).length=ps.length:=by rw [← r2.length]; exact F.len _ _ _ _ h
 refine wpAny_call (codeAny_mono (F.run X.A X.stack s H ⟨us,[]⟩ (us++ds) (vs++dvs) Q E hr I.env0 (hb s us I.kIn hl) r2 h) fun r s' hq=>?_)
 cases r with
 | error e=>exact hx pins σ H s e s' I hq
 | ok fl =>
  cases fl with
  | ret u=>exact I.after hq
  | next=>exact False.elim hq
  | brk=>exact False.elim hq
  | cont=>exact False.elim hq
theorem sS (F:FnOk X.prog X.w X.K X.mg X.base CX k f fd ps sp) (hr:Room k X.A) (hg:Gl X x) (hm:X.mg x=some (.ref f)) (hk:PySem.W.keepIn X.K (.ref f)=true) (hb:Binds X.K fd ps ds) (hd:Vals dvs ds) (hx:sR CX X E)
  (ha:PA X (e::es) t) (hdb:(x == ("__debug__" : Str))=false:=by decide) (he:starEach (e::es) X.env=(false,eval e X.env)::starEach es X.env:=by rfl) (hpl:(backTo pos (starEach es X.env)).any (·.1)=false:=by rfl) :
  PE X (.Call (.Name x p) (e::es) [] pos) (zA sp dvs E t):=by
 intro pins s σ H Q I h
 refine wpAny_Call_Name_kw (jA I hg hm ?_ hdb)
 refine PySem.W.callWith_K (h₀:=X.base) I.ok.mod.kin hk (thn (ha pos pins s σ H _ I h) fun us s1 ⟨vs,H1,I1,r,q⟩=>⟨I1.kIn,?_⟩) he hpl
 exact zB F hr hb hd hx I1 r q
end
section
variable {X:Cx} {CX:CXT} {k:Nat} {f C:Addr} {fd:FuncData} {ps ks:List Str} {sp:Sp} {E:XK} {x m:Str} {p pos apos kpos:Pos} {e o:Expr} {es:List Expr} {kws:List Keyword} {te ta:TE} {t tk:TA} {nm:Option Str}
variable {g:List Value->List Value->List Value} {gV:List V->List V->List V}
end
structure FnScope (N P:List Str) (sc:Scope):Prop where
 kind:sc.kind = .function
 co:sc.isCoroutine=false
 gen:sc.isGenerator=false
 nd:N.Nodup
 pre:N.take P.length=P
 par:∀ x∈P,sc.names.lookup x=some .local∨sc.names.lookup x=some .cell
 nofree:∀ y∈sc.names,y.2 ≠ .free
theorem nj {kindOf:Str->Option NameKind} {x:Str}:∀ {binds:List (Str×Value)} {m:Str->Option Value},(∀ v,(x,v)∉binds)->bindL kindOf binds m x=m x
 | [],_,_=>rfl
 | (n,v)::r,m,h=>by
  unfold bindL
  rw [nj fun w hw=>h w (List.mem_cons_of_mem _ hw)]
  split
  ·have:x≠n:=by rintro rfl; exact h v List.mem_cons_self
   simp [this]
  ·rfl
theorem nn {kindOf:Str->Option NameKind} {x:Str}:∀ {binds:List (Str×Value)} {m:Str->Option Value},(∀ v,(x,v)∉binds)->bindC kindOf binds m x=m x
 | [],_,_=>rfl
 | (n,v)::r,m,h=>by
  unfold bindC
  rw [nn fun w hw=>h w (List.mem_cons_of_mem _ hw)]
  split
  ·rfl
  ·have:x≠n:=by rintro rfl; exact h v List.mem_cons_self
   simp [this]
theorem nq {kindOf:Str->Option NameKind} {x:Str} {v:Value}:∀ {P:List Str} {vs:List Value} {i:Nat} {m:Str->Option Value},P.Nodup->P[i]? = some x->vs[i]? = some v->kindOf x=some .local ->
  bindL kindOf (P.zip vs) m x=some v
 | [],_,_,_,_,h,_,_=>by simp at h
 | _::_,[],_,_,_,_,h,_=>by simp at h
 | p::P,w::vs,0,m,nd,h1,h2,hk=>by
  simp at h1 h2; subst h1; subst h2
  show bindL kindOf ((p,w)::P.zip vs) m p=_
  unfold bindL
  rw [nj fun v hv=>(List.nodup_cons.mp nd).1 (List.of_mem_zip hv).1,if_pos hk]
  simp
 | p::P,w::vs,i + 1,m,nd,h1,h2,hk=>by
  show bindL kindOf ((p,w)::P.zip vs) m x=_
  unfold bindL
  exact nq (i:=i) (List.nodup_cons.mp nd).2 (by simpa using h1) (by simpa using h2) hk
theorem nr {kindOf:Str->Option NameKind} {x:Str} {v:Value}:∀ {P:List Str} {vs:List Value} {i:Nat} {m:Str->Option Value},P.Nodup->P[i]? = some x->vs[i]? = some v->kindOf x≠some .local ->
  bindC kindOf (P.zip vs) m x=some v
 | [],_,_,_,_,h,_,_=>by simp at h
 | _::_,[],_,_,_,_,h,_=>by simp at h
 | p::P,w::vs,0,m,nd,h1,h2,hk=>by
  simp at h1 h2; subst h1; subst h2
  show bindC kindOf ((p,w)::P.zip vs) m p=_
  unfold bindC
  rw [nn fun v hv=>(List.nodup_cons.mp nd).1 (List.of_mem_zip hv).1,if_neg hk]
  simp
 | p::P,w::vs,i + 1,m,nd,h1,h2,hk=>by
  show bindC kindOf ((p,w)::P.zip vs) m x=_
  unfold bindC
  exact nr (i:=i) (List.nodup_cons.mp nd).2 (by simpa using h1) (by simpa using h2) hk
def start (N:List Str) (vs:List V):St:=vs.map some++List.replicate (N.length - vs.length) none
def cxOf (CX:CXT) (P:Program) (w:World) (K:PySem.W.Frag) (mg:Str->Option Value) (base:Heap) (N:List Str) (qual:Str) (scope:Scope) (f:Addr) (cd:Value) (A:Around) (outer:List Env) (s:Shared) (H:Hp) (E:XK):Cx where
 prog:=P
 w:=w
 K:=K
 mg:=mg
 base:=base
 A:=A.deeper (envOfC qual scope s.heap.objs.size f cd)
 N:=N
 s₀:=s
 H₀:=H
 env:=envOfC qual scope s.heap.objs.size f cd
 outer:=outer
 stack:=envOfC qual scope s.heap.objs.size f cd::outer
 ex:=[]
 calm:=true
 fn:=fun _=>true
 pn:=[]
 xe:=fun e s'=>wpAny (model P w) (A.deeper (envOfC qual scope s.heap.objs.size f cd)) (leaving (envOfC qual scope s.heap.objs.size f cd) e) (fun _ s''=>CX outer H s E e s'') (fun e' s''=>CX outer H s E e' s'') s'
theorem qj {sc:Scope} {n:Nat} {x:Str} (h:sc.names.lookup x=some .cell):∃ c,(cellsFrom n sc.names []).lookup x=some c:=by
 have q:=PySem.W.cellsFrom_some sc.names n [] (.inl h)
 exact Option.isSome_iff_exists.mp q
theorem sU {CX:CXT} {P:Program} {w:World} {K:PySem.W.Frag} {mg:Str->Option Value} {base:Heap} {N ps:List Str} {qual:Str} {scope:Scope} {f:Addr} {cd:Value} {A:Around} {outer:List Env} {s s1:Shared} {H:Hp} {E:XK} {us:List Value} {vs:List V}
  (S:FnScope N ps scope) (hd:A.handled=none) (e0:Env0 P w K mg base A outer s H) (hl:vs.length=ps.length) (r:Vals vs us)
  (x:InCallC s s.heap.objs.size (bindL (envOfC qual scope s.heap.objs.size f cd).kindOf (ps.zip us) fun _=>none) (cellsFrom (s.heap.objs.size + 1) scope.names []) (bindC (envOfC qual scope s.heap.objs.size f cd).kindOf (ps.zip us) fun _=>none) s1) :
  Inv (cxOf CX P w K mg base N qual scope f cd A outer s H E) [] (start N vs) H s1:=by
 have hpl:ps.length <= N.length:=by have:=congrArg List.length S.pre; rw [List.length_take] at this; omega
 obtain ⟨h1,tk,rfl,hk⟩:=x.done
 have noA:∀ b:Addr,b∉(cxOf CX P w K mg base N qual scope f cd A outer s H E).ex:=fun b z=>absurd (show b∈([]:List Addr) from z) (by simp)
 refine ⟨⟨e0.mod,S.kind,rfl,rfl,Nat.le_refl _,fun y z c h1 h2=>?_,fun y hy=>?_,fun y c _ h=>?_,fun _=>hd,Around.frames_deeper e0.frames,.inr ⟨rfl,rfl⟩,fun b z=>absurd z (noA b),e0.bs,e0.bsz,fun b _ _=>noA b,fun b z=>absurd z (noA b),e0.funs,e0.frf⟩,
  rfl,e0.bare,Un.kept hk,⟨_,x.toInCall.ns,fun i y v h1 h2 h3=>?_⟩,fun y c h=>⟨_,x.cell y c h⟩,e0.hok.fresh (Nat.le_refl _),fun y c h=>?_,fun p hp=>absurd (show p∈([]:List (Addr×Obj)) from hp) (by simp),e0.hok.kept hk,?_⟩
 ·exact name_of_addr x.apart (PySem.mem_of_lookup h1) (PySem.mem_of_lookup h2)
 ·have hy:scope.names.lookup y=some .cell∨scope.names.lookup y=some .free:=hy
  rcases hy with hy | hy
  ·exact qj hy
  ·exact absurd rfl (S.nofree _ (PySem.mem_of_lookup hy))
 ·exact Nat.le_of_lt (x.above y c (PySem.mem_of_lookup h))
 ·have hi:i < vs.length:=by
   unfold start at h2
   by_cases hi:i < vs.length
   ·exact hi
   ·rw [List.getElem?_append_right (by simpa using hi)] at h2
    rw [List.getElem?_replicate] at h2
    split at h2 <;> cases h2
  have ha:vs[i]? = some v:=by
   unfold start at h2
   rw [List.getElem?_append_left (by simpa using hi),List.getElem?_map] at h2
   cases e:vs[i]? with
   | none=>rw [e] at h2; cases h2
   | some a=>rw [e] at h2; cases h2; rfl
  obtain ⟨u,hu,rv⟩:=r.get ha
  have hp:ps[i]? = some y:=by
   rw [← S.pre,List.getElem?_take_of_lt (by omega)]; exact h1
  have ndP:ps.Nodup:=by rw [← S.pre]; exact S.nd.sublist (List.take_sublist _ _)
  refine ⟨u,rv,?_⟩
  rcases S.par y (List.mem_of_getElem? hp) with k | k
  ·exact .inl ⟨k,nq ndP hp hu k⟩
  ·obtain ⟨c,e⟩:=qj (n:=s.heap.objs.size + 1) k
   refine .inr ⟨.inl k,c,e,?_⟩
   have q:=x.cell y c e
   rw [nr ndP hp hu (by show scope.names.lookup y≠_; rw [k]; decide)] at q
   exact q
 ·exact e0.hok.fresh (Nat.le_of_lt (x.above y c (PySem.mem_of_lookup h)))
 ·unfold start
  show _=N.length
  rw [List.length_append,List.length_map,List.length_replicate]
  omega
theorem zC {CX:CXT} {P:Program} {w:World} {K:PySem.W.Frag} {mg:Str->Option Value} {base:Heap} {k:Nat} {f:Addr} {name qual:Str} {params:Arguments} {body:List Stmt} {scope:Scope} {dV kV doc pm cdv ct oc:Value} {an od:Option Addr}
  {osl:Array (Option Value)} {N ps:List Str} {sp:Sp} (lk:K.lookup f=some ⟨oc,od,.func (PySem.W.fnOf name qual params body scope dV kV doc pm an cdv ct),osl⟩) (hcd:PySem.W.codeIn K cdv qual=true) (S:FnScope N ps scope)
  (len:∀ vs H Q E,sp vs H Q E->vs.length=ps.length)
  (hbody:∀ (A:Around) (outer:List Env) (s:Shared) (H:Hp) (vs:List V) (Q:VK) (E:XK),Room k (A.deeper (envOfC qual scope s.heap.objs.size f cdv))->sp vs H Q E ->
   ∃ t,PSs (cxOf CX P w K mg base N qual scope f cdv A outer s H E) body t /\ t { nx:=fun _ H'=>Q .non H',rt:=Q } (start N vs) H) :
  FnOk P w K mg base CX (k + 1) f (PySem.W.fnOf name qual params body scope dV kV doc pm an cdv ct) ps sp:=by
 refine ⟨len,fun A outer s H args us vs Q E hr e0 hb r hsp=>?_⟩
 have hl:=len _ _ _ _ hsp
 have KX:K.In s.heap:=e0.mod.kin.keeps fun b o e=>(e0.bs b o e).1
 have lim:s.heap.NoLimit:=e0.mod.nolimit.keeps fun b o e=>(e0.bs b o e).1
 have hkind:∀ y∈ps.zip us,scope.names.lookup y.1=some .local∨(scope.names.lookup y.1=some .cell /\ ((cellsFrom (s.heap.objs.size + 1) scope.names []).lookup y.1).isSome=true):=fun ⟨n,v⟩ hy=>by
  rcases S.par n (List.of_mem_zip hy).1 with q | q
  ·exact .inl q
  ·exact .inr ⟨q,PySem.W.cellsFrom_some _ _ _ (.inl q)⟩
 refine codeAny_call_function hr.depth (KX _ _ lk) rfl S.co S.gen rfl (PySem.W.codeRec_of KX hcd) (hb _ _ _ _ ?_)
 refine wpAny_newFunctionEnv_cells S.kind hkind fun env he s1 x=>?_
 subst he
 refine ⟨lim.keeps x.toInCall.keep,codeAny_func ?_⟩
 obtain ⟨t,ht,hq⟩:=hbody A outer s H vs Q E (hr.deeper _) hsp
 have I:Inv (cxOf CX P w K mg base N qual scope f cdv A outer s H E) [] (start N vs) H s1:=sU S hr.hd e0 hl r x
 refine wpAny_mono (ht [] s1 (start N vs) H _ I hq) (fun fl s' hs=>?_) fun e s' hs=>hs
 have fin:∀ {σ':St} {H':Hp} {v:V} {u:Value},Inv (cxOf CX P w K mg base N qual scope f cdv A outer s H E) [] σ' H' s'->RelV v u->Q v H'->CE outer P w H s Q u s' :=
  fun {σ' H' v u} J rv q=>⟨v,H',J.os,J.bare,J.base,J.hok,rv,q⟩
 cases fl with
 | ret u =>
  obtain ⟨v,σ',H',J,rv,q⟩:=hs
  exact fin J rv q
 | next =>
  obtain ⟨σ',H',J,q⟩:=hs
  exact fin (v:=V.non) (u:=Value.none) J rfl q
 | brk =>
  obtain ⟨_,_,_,q⟩:=hs
  exact False.elim q
 | cont =>
  obtain ⟨_,_,_,q⟩:=hs
  exact False.elim q
end L2
namespace L2
open PySem PySem.Spec PyProof.Rows
section
variable {X:Cx} {x:Str} {p pos:Pos} {e:Expr} {es:List Expr} {t:TA} {id T:String} {r:List V->Hp->VK->Prop}
def tCB (r:List V->Hp->VK->Prop) (t:TA):TE:=fun σ H Q=>t σ H fun vs H1=>r vs H1 Q
theorem jj (hc:fA X (.builtin id) r) (hg:Gl X x) (hm:X.mg x=none) (hv:bootBuiltins x=some (.builtin id)) (ha:PA X (e::es) t) (hn:x ≠ "__name__":=by decide) (hdb:(x == ("__debug__" : Str))=false:=by decide)
  (he:starEach (e::es) X.env=(false,eval e X.env)::starEach es X.env:=by rfl) (hpl:(backTo pos (starEach es X.env)).any (·.1)=false:=by rfl):PE X (.Call (.Name x p) (e::es) [] pos) (tCB r t):=by
 intro pins s σ H Q I h
 refine wpAny_Call_Name_kw (mW I hg hm hv ?_ hn hdb)
 exact PyProof.Rows.callWith_builtin1 (thn (ha pos pins s σ H _ I h) fun us s1 ⟨vs,H1,I1,r1,q1⟩=>hc pins s1 σ H1 vs us Q I1 r1 q1) he hpl
theorem sV (hc:fA X (.type T) r) (hg:Gl X x) (hm:X.mg x=none) (hv:bootBuiltins x=some (.type T)) (ha:PA X (e::es) t) (hn:x ≠ "__name__":=by decide) (hdb:(x == ("__debug__" : Str))=false:=by decide)
  (he:starEach (e::es) X.env=(false,eval e X.env)::starEach es X.env:=by rfl) (hpl:(backTo pos (starEach es X.env)).any (·.1)=false:=by rfl):PE X (.Call (.Name x p) (e::es) [] pos) (tCB r t):=by
 intro pins s σ H Q I h
 refine wpAny_Call_Name_kw (mW I hg hm hv ?_ hn hdb)
 exact PyProof.Rows.callWith_type1 (thn (ha pos pins s σ H _ I h) fun us s1 ⟨vs,H1,I1,r1,q1⟩=>hc pins s1 σ H1 vs us Q I1 r1 q1) he hpl
end
end L2
namespace HT
open PySem PyProof.Rows
section
open PySem.SeqAt
open PySem.AutoSeq1 (wpAny_loadPart')
open PySem.MeetsSeq PySem.MeetsSeq2 PySem.MeetsSeq3
end
section
variable {prog:Program} {w:World} {A:Around} {E:Value->Shared->Prop} {s:Shared}
theorem cat_tup {t b:Addr} {vs ws:List Value} {Q:Value->Shared->Prop} (ht:IsTup s.heap t vs.toArray) (hb:IsTup s.heap b ws.toArray) (hv:vs≠[])
  (h1:ws=[]->Q (.ref t) s) (h2:ws≠[]->Q (.ref s.heap.objs.size) { s with heap:=s.heap.push { cls:=.type "tuple",data:=.seq (vs++ws).toArray } })
  (hsz:vs.length + ws.length <= sizeLine):wpAny (model prog w) A (binaryOp .Add (.ref t) (.ref b)) Q E s:=by
 obtain ⟨⟨cls,dd,data,sl⟩,ho,hc,n,hd⟩:=id ht
 obtain ⟨⟨cls2,dd2,data2,sl2⟩,ho2,hc2,n2,hd2⟩:=id hb
 simp only at hc hd hc2 hd2
 subst hc hd hc2 hd2
 have e:vs.toArray++ws.toArray=(vs++ws).toArray:=by simp
 by_cases hw:ws=[]
 ·exact concat_meets ⟨_,ho,rfl⟩ ⟨_,ho2,rfl⟩ noFill_tuple_add seq_tuple_add PySem.F.slot_tuple_add PySem.F.entry_tuple_add (PySem.F.args_tuple_add_2 _ _)
   (tuple_addW1 t b vs.toArray ws.toArray n n2 dd dd2 sl sl2 (by simpa using hv) (by simp [hw])) ⟨ho,ho2,h1 hw⟩
 ·refine concat_meets ⟨_,ho,rfl⟩ ⟨_,ho2,rfl⟩ noFill_tuple_add seq_tuple_add PySem.F.slot_tuple_add PySem.F.entry_tuple_add (PySem.F.args_tuple_add_2 _ _)
   (tuple_addW2 t b vs.toArray ws.toArray n n2 dd dd2 sl sl2 (by simpa using hv) (by simpa using hw) (by rw [List.size_toArray,List.size_toArray]; exact hsz)) ⟨ho,ho2,?_⟩
  rw [e]
  exact h2 hw
def sIx (n d:Nat):Option Int->Nat
 | none=>d
 | some v=>if v < 0 then (v + (n:Int)).toNat else min v.toNat n
theorem sIx_nat (n d k:Nat):sIx n d (some (k:Int))=min k n:=by
 show (if (k:Int) < 0 then ((k:Int) + (n:Int)).toNat else min (k:Int).toNat n)=min k n
 rw [if_neg (by omega),Int.toNat_natCast]
theorem zD (n d:Nat) (hd:d <= n) (o:Option Int):sIx n d o <= n:=by
 cases o with
 | none=>exact hd
 | some v =>
  show (if v < 0 then (v + (n:Int)).toNat else min v.toNat n) <= n
  by_cases hv:v < 0
  ·rw [if_pos hv]; omega
  ·rw [if_neg hv]; exact Nat.min_le_right _ _
theorem sW (v:Int) (n d:Nat):(if v < 0 then max (v + (n:Int)) 0 else min v (n:Int))=((sIx n d (some v):Nat):Int):=by
 show (if v < 0 then max (v + (n:Int)) 0 else min v (n:Int))=(((if v < 0 then (v + (n:Int)).toNat else min v.toNat n):Nat):Int)
 by_cases hv:v < 0
 ·simp only [if_pos hv]; omega
 ·simp only [if_neg hv]; omega
theorem rK (lo hi:Option Int) (n:Nat):Builtin.Slice.sliceAdjust lo hi 1 (n:Int)=(((sIx n 0 lo:Nat):Int),((sIx n n hi:Nat):Int)):=by
 have h1:¬ ((1:Int) < 0):=by omega
 unfold Builtin.Slice.sliceAdjust
 simp only [h1,if_false]
 refine Prod.ext ?_ ?_
 ·cases lo with
  | none=>rfl
  | some v=>exact sW v n 0
 ·cases hi with
  | none=>rfl
  | some v=>exact sW v n n
theorem rL (i j:Nat):Builtin.Slice.slicePlaces (i:Int) (j:Int) 1=j - i:=by
 unfold Builtin.Slice.slicePlaces
 have h1:(1:Int) > 0:=by omega
 simp only [h1,if_true,Int.ediv_one]
 split <;> omega
theorem slicePart_ {v:Value} {o:Option Int} {Q:Option Int->Shared->Prop} (p:IsPart v o) (h:Q o s):wpAny (model prog w) A (Builtin.Slice.slicePartIndex v) Q E s:=by
 cases p with
 | none=>exact slicePart_none h
 | int i t=>exact slicePart_int h
theorem sliceApplied_gen {sl:Addr} {vl vu:Value} {lo hi:Option Int} {n:Nat} {Q:Int×Int×Nat->Shared->Prop} (hs:s.heap.IsSliceOf sl vl vu .none) (pl:IsPart vl lo) (pu:IsPart vu hi)
  (h:Q (((sIx n 0 lo:Nat):Int),1,sIx n n hi - sIx n 0 lo) s):wpAny (model prog w) A (Builtin.Slice.sliceApplied (.ref sl) (pure (n:Int))) Q E s:=by
 obtain ⟨os,hos,hcs,hds⟩:=id hs
 unfold Builtin.Slice.sliceApplied Builtin.Slice.sliceFields
 refine wpAny_bind (wpAny_bind (wpAny_field hos hds (x:=vl) rfl (wpAny_bind (wpAny_field hos hds (x:=vu) rfl (wpAny_bind (wpAny_field hos hds (x:=.none) rfl (wpAny_pure ?_)))))))
 refine wpAny_bind (slicePart_none ?_)
 show wpAny _ _ (if ((1:Int) == 0)=true then _ else _) _ _ s
 rw [if_neg (by decide)]
 refine wpAny_bind (slicePart_ pl (wpAny_bind (slicePart_ pu (wpAny_bind (wpAny_pure ?_)))))
 show wpAny _ _ (match Builtin.Slice.sliceAdjust lo hi 1 (n:Int) with | (lo,hi)=>pure (lo,(1:Int),Builtin.Slice.slicePlaces lo hi 1)) _ _ s
 rw [rK lo hi n]
 show wpAny _ _ (pure (((sIx n 0 lo:Nat):Int),(1:Int),Builtin.Slice.slicePlaces ((sIx n 0 lo:Nat):Int) ((sIx n n hi:Nat):Int) 1)) _ _ s
 rw [rL]
 exact wpAny_pure h
theorem vt (xs:Array Value) (i k:Nat):((List.range k).filterMap fun (m:Nat)=>xs[((i:Int) + (m:Int) * 1).toNat]?).toArray=((xs.toList.drop i).take k).toArray:=by
 have e:(fun (m:Nat)=>xs[((i:Int) + (m:Int) * 1).toNat]?)=fun m=>xs[i + m]?:=by
  funext m
  have:((i:Int) + (m:Int) * 1).toNat=i + m:=by omega
  rw [this]
 rw [e]
 have:=pick_run xs i k
 rw [List.filterMap_map] at this
 have e2:((fun x=>xs[x]?) ∘ fun x=>i + x)=fun m=>xs[i + m]?:=rfl
 rw [e2] at this
 rw [this]
theorem getItem_tuple_cut {t sl:Addr} {items:Array Value} {vl vu:Value} {lo hi:Option Int} {Q:Value->Shared->Prop} (ht:IsTup s.heap t items) (hs:s.heap.IsSliceOf sl vl vu .none) (pl:IsPart vl lo) (pu:IsPart vu hi)
  (hw:¬ (sIx items.size 0 lo=0 /\ sIx items.size items.size hi=items.size))
  (h:Q (.ref s.heap.objs.size) { s with heap:=s.heap.push { cls:=.type "tuple",data:=.seq ((items.toList.drop (sIx items.size 0 lo)).take (sIx items.size items.size hi - sIx items.size 0 lo)).toArray } })
  (hsz:items.size <= sizeLine):wpAny (model prog w) A (getItem (.ref t) (.ref sl)) Q E s:=by
 have htake:sizeOk (.seq ((items.toList.drop (sIx items.size 0 lo)).take (sIx items.size items.size hi - sIx items.size 0 lo)).toArray):=by
  show ((items.toList.drop (sIx items.size 0 lo)).take (sIx items.size items.size hi - sIx items.size 0 lo)).toArray.size <= sizeLine
  rw [List.size_toArray,List.length_take,List.length_drop,Array.length_toList]
  omega
 have hj:sIx items.size items.size hi <= items.size:=zD _ _ (Nat.le_refl _) hi
 obtain ⟨os,hos,hcs,hds⟩:=id hs
 have hTs:s.TypeIs (.ref sl) "slice":=⟨os,hos,hcs⟩
 unfold getItem
 try with_reducible refine wpAny_holding ?_
 first | refine wpAny_bind (wpAny_pure ?_) | skip
 refine wpAny_bind (wpAny_sequenceKey ht.typeIs (by decide) ?_)
 refine wpAny_bind (wpAny_callSpecial?_slot (name:=Str.ofString "__getitem__") ht.typeIs PyProof.Rows.slot_tuple_getitem
  (wpAny_call_entry PyProof.Rows.slot_tuple_getitem ht.typeIs entry_tuple_getitem ?_ (args_tuple_getitem _ _)))
 show wpAny _ _ (Builtin.Tuple.tupleItemsOf (.ref t) >>= _) _ _ s
 refine wpAny_bind (tupleItemsOf_ ht ?_)
 refine wpAny_bind (wpAny_typeOf hTs ?_)
 rw [if_pos (by decide)]
 refine wpAny_bind (sliceApplied_gen hs pl pu ?_)
 have hno:¬ ((((sIx items.size 0 lo:Nat):Int) == 0 && (1:Int) == 1 && (sIx items.size items.size hi - sIx items.size 0 lo) == items.size)=true):=by
  intro q
  rw [Bool.and_eq_true,Bool.and_eq_true] at q
  have q1:((sIx items.size 0 lo:Nat):Int)=0:=eq_of_beq q.1.1
  have q2:sIx items.size items.size hi - sIx items.size 0 lo=items.size:=eq_of_beq q.2
  exact hw ⟨by omega,by omega⟩
 show wpAny _ _ (if (((sIx items.size 0 lo:Nat):Int) == 0 && (1:Int) == 1 && (sIx items.size items.size hi - sIx items.size 0 lo) == items.size)=true then _ else _) _ _ s
 rw [if_neg hno,vt]
 first
  | exact wpAny_bind (m:=Builtin.Tuple.tupleExact _) (wpAny_newObj_type (wpAny_pure ⟨_,rfl,wpAny_pure h⟩) htake)
  | exact wpAny_bind (m:=Builtin.Tuple.tupleExact _) (wpAny_newObj_type (wpAny_bind (wpAny_pure (wpAny_pure ⟨_,rfl,wpAny_pure h⟩))) htake)
  | exact wpAny_bind (wpAny_bind (m:=Builtin.Tuple.tupleExact _) (wpAny_newObj_type (wpAny_pure (wpAny_pure ⟨_,rfl,wpAny_pure h⟩)) htake))
  | exact wpAny_bind (wpAny_bind (m:=Builtin.Tuple.tupleExact _) (wpAny_newObj_type (wpAny_pure ⟨_,rfl,wpAny_pure h⟩) htake))
end
end HT
namespace L2
open PySem PySem.Spec PyProof.Rows
abbrev TO:=St->Hp->(Option Int->Hp->Prop)->Prop
def PO (X:Cx) (e:Option Expr) (t:TO):Prop :=
 ∀ (pins:List (Addr×Obj)) (s:Shared) (σ:St) (H:Hp) (Q:Option Int->Hp->Prop),Inv X pins σ H s->t σ H Q ->
  wpAny (model X.prog X.w) X.A (evalPart e X.env) (fun u s'=>∃ o H',Inv X pins σ H' s' /\ IsPart u o /\ Q o H') X.xe s
def xC:TO:=fun _ H Q=>Q none H
def BI (t:TE):TO:=fun σ H Q=>t σ H fun x H1=>∃ i,x = .int i /\ Q (some i) H1
theorem rM {ns:List Int}:∀ {us:List Value},Vals (ns.map V.int) us->IntsAre us ns:=by
 induction ns with
 | nil=>intro us r; rw [List.map_nil] at r; cases r; exact .nil
 | cons n ns ih =>
  intro us r
  rw [List.map_cons] at r
  cases r with
  | cons r1 r2 =>
   obtain ⟨t,e⟩:=r1
   subst e
   exact .cons n t (ih r2)
section
variable {X:Cx} {e:Expr} {te:TE} {lo hi:Option Expr} {tl th:TO} {pos p2:Pos}
theorem oM:PO X none xC:=by
 intro pins s σ H Q I h
 rw [evalPart_none]
 exact wpAny_pure ⟨none,H,I,.none,h⟩
theorem xD (h:PE X e te):PO X (some e) (BI te):=by
 intro pins s σ H Q I hw
 rw [evalPart_some]
 refine thn (h pins s σ H _ I hw) fun u s1 ⟨x,H1,I1,r1,q1⟩=>?_
 obtain ⟨i,rfl,q⟩:=q1
 obtain ⟨t,rfl⟩:=r1
 exact ⟨some i,H1,I1,.int i t,q⟩
def SlR (X:Cx) (r:V->Option Int->Option Int->Hp->VK->Prop):Prop :=
 ∀ (pins:List (Addr×Obj)) (s:Shared) (σ:St) (H:Hp) (x:V) (v vl vu:Value) (lo hi:Option Int) (sl:Addr) (Q:VK),Inv X pins σ H s->RelV x v->s.heap.IsSliceOf sl vl vu .none->IsPart vl lo->IsPart vu hi->r x lo hi H Q ->
  ∃ T id,typeLookup (.type T) "__getitem__" = pure (some (.builtin id)) /\ s.TypeIs v T /\ wpAny (model X.prog X.w) X.A (getItem v (.ref sl)) (EP X pins σ Q) X.xe s
theorem SlR.or {r r':V->Option Int->Option Int->Hp->VK->Prop} (h:SlR X r) (h':SlR X r'):SlR X (fun x lo hi H Q=>r x lo hi H Q∨r' x lo hi H Q):=by
 intro pins s σ H x v vl vu lo hi sl Q I rx hs pl pu q
 rcases q with q | q
 ·exact h pins s σ H x v vl vu lo hi sl Q I rx hs pl pu q
 ·exact h' pins s σ H x v vl vu lo hi sl Q I rx hs pl pu q
def tSl (r:V->Option Int->Option Int->Hp->VK->Prop) (te:TE) (tl th:TO):TE:=fun σ H Q=>te σ H fun x H1=>tl σ H1 fun l H2=>th σ H2 fun u H3=>r x l u H3 Q
theorem qk {r:V->Option Int->Option Int->Hp->VK->Prop} (hr:SlR X r) (he:PE X e te) (hl:PO X lo tl) (hu:PO X hi th):PE X (.Subscript e (.Slice lo hi none p2) pos) (tSl r te tl th):=by
 intro pins s σ H Q I h
 refine Subscript_ (thn (he pins s σ H _ I h) fun v s1 ⟨x,H1,I1,r1,q1⟩=>?_)
 refine wpAny_Slice (thn (hl pins s1 σ H1 _ I1 q1) fun vl s2 ⟨l,H2,I2,pl,q2⟩=>thn (hu pins s2 σ H2 _ I2 q2) fun vu s3 ⟨u,H3,I3,pu,q3⟩=>?_)
 rw [evalPart_none]
 refine wpAny_pure ?_
 have I4:Inv X pins σ H3 { s3 with heap:=s3.heap.push { cls:=.type "slice",data:=.fields #[vl,vu,.none] } }:=I3.kept (t':=s3.toks) fun b ob q=>Heap.get?_push_of_some _ q
 obtain ⟨T,id,hT,ht,hg⟩:=hr pins { s3 with heap:=s3.heap.push { cls:=.type "slice",data:=.fields #[vl,vu,.none] } } σ H3 x v vl vu l u s3.heap.objs.size Q I4 r1 (Heap.IsSliceOf.new ..) pl pu q3
 show wpAny (model X.prog X.w) X.A (subscriptTail e (.Slice lo hi none p2) v (.ref s3.heap.objs.size)) (EP X pins σ Q) X.xe { s3 with heap:=s3.heap.push { cls:=.type "slice",data:=.fields #[vl,vu,.none] } }
 exact tail_any (ops:=[.ref s3.heap.objs.size,v]) ht hT hg (by with_unfolding_all rfl)
def cutV (xs:List V) (lo hi:Option Int):List V:=(xs.drop (HT.sIx xs.length 0 lo)).take (HT.sIx xs.length xs.length hi - HT.sIx xs.length 0 lo)
theorem jE (xs:List V) (lo hi:Option Int):(cutV xs lo hi).length <= xs.length:=by
 unfold cutV
 rw [List.length_take,List.length_drop]
 omega
def rSlT (K:PySem.W.Frag):V->Option Int->Option Int->Hp->VK->Prop:=fun x lo hi H Q=>∃ a xs,x = .ref a /\ SqT K H a xs /\
 ¬ (HT.sIx xs.length 0 lo=0 /\ HT.sIx xs.length xs.length hi=xs.length) /\ ∀ p,H p=none->Q (.ref p) (upd H p (.tup (cutV xs lo hi)))
theorem zE:SlR X (rSlT X.K):=by
 intro pins s σ H x v vl vu lo hi sl Q I rx hs pl pu h
 obtain ⟨a,xs,rfl,hx,hw,q⟩:=h
 cases rx
 obtain ⟨its,r,ht,hz⟩:=I.tuple hx
 have hlen:its.toArray.size=xs.length:=by rw [List.size_toArray]; exact r.length.symm
 refine ⟨"tuple",_,PyProof.Rows.slot_tuple_getitem.lookup,ht.typeIs,?_⟩
 refine HT.getItem_tuple_cut ht hs pl pu (by rw [hlen]; exact hw) ?_ (by rw [hlen]; exact hz)
 rw [hlen]
 refine ⟨.ref s.heap.objs.size,_,I.laid (t':=s.toks) (o:=.tup (cutV xs lo hi)) (fun b ob q=>Heap.get?_push_of_some _ q) (Nat.le_refl _) ?_,rfl,q _ (I.hok.fresh (Nat.le_refl _))⟩
 exact ⟨Nat.le_trans (jE xs lo hi) hz,_,(r.drop (HT.sIx xs.length 0 lo)).take (HT.sIx xs.length xs.length hi - HT.sIx xs.length 0 lo),IsTup.new _ _⟩
def zF (K:PySem.W.Frag):R2:=fun x y H Q=>∃ a b xs ys,x = .ref a /\ y = .ref b /\ SqT K H a xs /\ SqT K H b ys /\ xs≠[] /\ xs.length + ys.length <= sizeLine /\
 (ys=[]->Q (.ref a) H) /\ (ys≠[]->∀ p,H p=none->Q (.ref p) (upd H p (.tup (xs++ys))))
theorem Vals.nil_iff {xs:List V} {us:List Value} (r:Vals xs us):us=[]↔xs=[]:=by
 cases r with
 | nil=>simp
 | cons _ _=>simp
theorem xE:OpR X (binaryOp .Add) (zF X.K):=by
 intro pins s σ H x y v u Q I rx ry h
 obtain ⟨a,b,xs,ys,rfl,rfl,ha,hb,hx,hz,q1,q2⟩:=h
 cases rx
 cases ry
 obtain ⟨its,r1,p1,_⟩:=I.tuple ha
 obtain ⟨its2,r2,p2,_⟩:=I.tuple hb
 refine HT.cat_tup p1 p2 (fun z=>hx (r1.nil_iff.mp z)) (fun z=>⟨.ref a,H,I,rfl,q1 (r2.nil_iff.mp z)⟩) (fun z=>?_) (by rw [← r1.length,← r2.length]; exact hz)
 refine ⟨.ref s.heap.objs.size,_,I.laid (t':=s.toks) (o:=.tup (xs++ys)) (fun b ob q=>Heap.get?_push_of_some _ q) (Nat.le_refl _) ?_,rfl,q2 (fun w=>z (r2.nil_iff.mpr w)) _ (I.hok.fresh (Nat.le_refl _))⟩
 exact ⟨by rw [List.length_append]; exact hz,_,r1.append r2,IsTup.new _ _⟩
end
end L2
namespace L2
open PySem PySem.Spec PyProof.Rows
def ixN (n:Nat) (i:Int):Option Nat:=if 0 <= i then (if i < n then some i.toNat else none) else if -(n:Int) <= i then some (i + n).toNat else none
def atI {α:Type} (xs:List α) (i:Int):Option α:=(ixN xs.length i).bind fun j=>xs[j]?
theorem sX {n:Nat} {i:Int} {j:Nat} (h:ixN n i=some j):seqIndex? i n=some j /\ j < n /\ -(n:Int) <= i /\ i < n:=by
 unfold ixN at h
 by_cases h0:0 <= i
 ·rw [if_pos h0] at h
  by_cases h1:i < n
  ·rw [if_pos h1] at h
   have e:i.toNat=j:=Option.some.inj h
   exact ⟨by rw [seqIndex_of h0 h1,e],by omega,by omega,h1⟩
  ·rw [if_neg h1] at h; cases h
 ·rw [if_neg h0] at h
  by_cases h1 : -(n:Int) <= i
  ·rw [if_pos h1] at h
   have e:(i + n).toNat=j:=Option.some.inj h
   exact ⟨by rw [seqIndex_neg (by omega) h1,e],by omega,h1,by omega⟩
  ·rw [if_neg h1] at h; cases h
theorem sY {α:Type} {xs:List α} {i:Int} {v:α} (h:atI xs i=some v):∃ j,seqIndex? i xs.length=some j /\ xs[j]? = some v /\ j < xs.length /\ -(xs.length:Int) <= i /\ i < xs.length:=by
 unfold atI at h
 cases e:ixN xs.length i with
 | none=>rw [e] at h; cases h
 | some j =>
  rw [e] at h
  obtain ⟨h1,h2,h3,h4⟩:=sX e
  exact ⟨j,h1,h,h2,h3,h4⟩
theorem oN {α:Type} {xs:List α} {j:Nat} {v:α} (h:xs[j]? = some v):atI xs (j:Int)=some v:=by
 have hj:j < xs.length:=(List.getElem?_eq_some_iff.mp h).1
 have e:ixN xs.length (j:Int)=some j:=by
  unfold ixN
  rw [if_pos (by omega),if_pos (by omega)]; simp
 unfold atI; rw [e]; exact h
def sZ (b:Expr):Prop:=∀ o i,subscripted b false o i=operate [o,i] (getItem o i)
def IxR (X:Cx) (r:R2):Prop :=
 ∀ (value slice:Expr) (pins:List (Addr×Obj)) (s:Shared) (σ:St) (H:Hp) (x y:V) (v u:Value) (Q:VK),Inv X pins σ H s->RelV x v->RelV y u->r x y H Q ->
  subscripted slice false v u=operate [v,u] (getItem v u)->wpAny (model X.prog X.w) X.A (subscriptTail value slice v u) (EP X pins σ Q) X.xe s
def MtR (X:Cx) (id:String) (r:V->List V->Hp->VK->Prop):Prop :=
 ∀ (pins:List (Addr×Obj)) (s:Shared) (σ:St) (H:Hp) (x:V) (xs:List V) (v:Value) (us:List Value) (Q:VK),Inv X pins σ H s->RelV x v->Vals xs us->r x xs H Q ->
  wpAny (model X.prog X.w) X.A (call (.builtin id) (v::us)) (EP X pins σ Q) X.xe s
section
variable {X:Cx} {a b:Expr} {ta tb:TE} {pos:Pos}
theorem IxR.or {r r':R2} (h:IxR X r) (h':IxR X r'):IxR X (fun x y H Q=>r x y H Q∨r' x y H Q):=by
 intro value slice pins s σ H x y v u Q I rx ry q hs
 rcases q with q | q
 ·exact h value slice pins s σ H x y v u Q I rx ry q hs
 ·exact h' value slice pins s σ H x y v u Q I rx ry q hs
theorem vv {r:R2} (hr:IxR X r) (ha:PE X a ta) (hb:PE X b tb) (hs:sZ b):PE X (.Subscript a b pos) (tOp r ta tb):=by
 intro pins s σ H Q I h
 exact Subscript_ (binT ha hb I h fun v u s2 x y H2 I2 rx ry q=>hr a b pins s2 σ H2 x y v u Q I2 rx ry q (hs _ _))
def rIxL (K:PySem.W.Frag):R2:=fun x y H Q=>∃ p xs i v,x = .ref p /\ y = .int i /\ SqL K H p xs /\ atI xs i=some v /\ Q v H
def rIxT (K:PySem.W.Frag):R2:=fun x y H Q=>∃ p xs i v,x = .ref p /\ y = .int i /\ SqT K H p xs /\ atI xs i=some v /\ Q v H
theorem lM:IxR X (rIxL X.K):=by
 intro value slice pins s σ H x y v u Q I rx ry h hs
 obtain ⟨p,xs,i,z,rfl,rfl,hq,he,q⟩:=h
 cases rx
 obtain ⟨t,rfl⟩:=ry
 obtain ⟨its,r,pl,hz⟩:=I.list hq
 obtain ⟨j,h1,h2,h3,h4,h5⟩:=sY he
 obtain ⟨w,ew,rw'⟩:=r.get h2
 have hl:=r.length
 have hn:=qi
 have fin:EP X pins σ Q w s:=⟨z,H,I,rw',q⟩
 by_cases h0:0 <= i
 ·have hj:i.toNat=j:=by
   rw [seqIndex_of h0 h5] at h1
   exact Option.some.inj h1
  exact item_listR pl.isList h0 (by omega) (by rw [hj]; simpa using ew) fin hs
 ·have hj:(i + (its.toArray.size:Int)).toNat=j:=by
   rw [seqIndex_neg (by omega) h4] at h1
   rw [List.size_toArray,← hl]
   exact Option.some.inj h1
  exact subscriptTail_builtinR (x:=w) pl.isList.typeIs slot_list_getitem.lookup
   (wpAny_getItem_list_neg (Q:=fun r s'=>r=w /\ EP X pins σ Q r s') pl.isList (by omega) (by rw [List.size_toArray] <;> omega) (by omega) (by rw [hj]; simpa using ew) ⟨rfl,fin⟩) hs
theorem zG:IxR X (rIxT X.K):=by
 intro value slice pins s σ H x y v u Q I rx ry h hs
 obtain ⟨p,xs,i,z,rfl,rfl,hq,he,q⟩:=h
 cases rx
 obtain ⟨t,rfl⟩:=ry
 obtain ⟨its,r,pl,hz⟩:=I.tuple hq
 obtain ⟨j,h1,h2,h3,h4,h5⟩:=sY he
 obtain ⟨w,ew,rw'⟩:=r.get h2
 have hl:=r.length
 have hn:=qi
 have fin:EP X pins σ Q w s:=⟨z,H,I,rw',q⟩
 exact subscriptTail_builtinR (x:=w) pl.typeIs slot_tuple_getitem.lookup
  (getItem_tuple (j:=j) (Q:=fun r s'=>r=w /\ EP X pins σ Q r s') pl (by omega) (by omega) (by rw [List.size_toArray,← hl]; exact h1) (by simpa using ew) ⟨rfl,fin⟩) hs
theorem rN (its:List Value) (n j:Nat) (u:Value):Obj.mapSeq (·.setIfInBounds j u) { cls:=.type "list",data:=.seq its.toArray n }={ cls:=.type "list",data:=.seq (its.set j u).toArray n }:=by
 simp [Obj.mapSeq]
theorem Inv.lst {pins:List (Addr×Obj)} {σ:St} {H:Hp} {s:Shared} {p:Addr} {xs:List V} (I:Inv X pins σ H s) (h:H p=some (.lst xs)) :
  ∃ (its:List Value) (n:Nat),Vals xs its /\ s.heap.get? p=some { cls:=.type "list",data:=.seq its.toArray n } /\ xs.length <= sizeLine:=by
 obtain ⟨z,its,n,r,e⟩:=I.hok p _ h
 exact ⟨its,n,r,e,z⟩
theorem Inv.lstUpd {pins:List (Addr×Obj)} {σ:St} {H:Hp} {s:Shared} {p:Addr} {xs ys:List V} {its its':List Value} {n n':Nat} {f:Obj->Obj} (I:Inv X pins σ H s) (h:H p=some (.lst xs))
  (ho:s.heap.get? p=some { cls:=.type "list",data:=.seq its.toArray n }) (hf:f { cls:=.type "list",data:=.seq its.toArray n }={ cls:=.type "list",data:=.seq its'.toArray n' }) (r:Vals ys its') (hz:ys.length <= sizeLine) (t:Nat) :
  Inv X pins σ (upd H p (.lst ys)) { s with heap:=s.heap.update p f,toks:=t }:=by
 have e:(s.heap.update p f).get? p=some { cls:=.type "list",data:=.seq its'.toArray n' }:=by
  rw [Heap.get?_update_self f ho (by rw [hf] <;> rfl),hf]
 refine I.write (x:=p) (e:=p) (by rw [h]; trivial) (.inl rfl) (fun b u hb q=>(Heap.get?_update_other _ _ (Ne.symm hb)).trans q) ⟨_,e⟩ ?_
 exact ⟨hz,its',n',r,e⟩
def BJ:V->V->V->Hp->(Hp->Prop)->Prop:=fun o i v H Q=>∃ p xs k j,o = .ref p /\ i = .int k /\ H p=some (.lst xs) /\ ixN xs.length k=some j /\ Q (upd H p (.lst (xs.set j v)))
theorem lN:PSet X BJ:=by
 intro pins s σ H o i v ov iv u Q I ro ri rv h
 obtain ⟨p,xs,k,j,rfl,rfl,hp,hj,q⟩:=h
 cases ro
 obtain ⟨t,rfl⟩:=ri
 obtain ⟨its,n,r,ho,hz⟩:=I.lst hp
 obtain ⟨h1,h2,h3,h4⟩:=sX hj
 have hl:=r.length
 have hn:=qi
 have I':Inv X pins σ (upd H p (.lst (xs.set j v))) { s with heap:=s.heap.update p (Obj.mapSeq (·.setIfInBounds j u)) } :=
  I.lstUpd hp ho (rN its n j u) (r.set rv j) (by rw [List.length_set]; exact hz) s.toks
 by_cases h0:0 <= k
 ·have hk:k.toNat=j:=by
   rw [seqIndex_of h0 h4] at h1
   exact Option.some.inj h1
  exact PySem.W.ki_setAt ho h0 (by omega) (by rw [List.size_toArray,← hl]; exact h4) (by rw [hk]; exact ⟨_,I',q⟩)
 ·have hk:(k + (its.toArray.size:Int)).toNat=j:=by
   rw [seqIndex_neg (by omega) h3] at h1
   rw [List.size_toArray,← hl]
   exact Option.some.inj h1
  exact PySem.W.ki_setBack ho (by omega) (by rw [List.size_toArray,← hl]; exact h3) (by omega) (by rw [hk]; exact ⟨_,I',q⟩)
theorem nu (lo hi:Option Int) (n:Nat):(sliceBounds lo hi none n).1=((HT.sIx n 0 lo:Nat):Int) /\ (sliceBounds lo hi none n).2.1=((HT.sIx n n hi:Nat):Int) /\ (sliceBounds lo hi none n).2.2=1:=by
 refine ⟨?_,?_,rfl⟩
 ·cases lo with
  | none=>simp [sliceBounds,HT.sIx]
  | some i =>
   simp only [sliceBounds,HT.sIx,Option.getD_none,show (1:Int) > 0 by decide,if_true]
   by_cases h:i < 0
   ·simp only [h,if_true] <;> omega
   ·simp only [h,if_false] <;> omega
 ·cases hi with
  | none=>simp [sliceBounds,HT.sIx]
  | some i =>
   simp only [sliceBounds,HT.sIx,Option.getD_none,show (1:Int) > 0 by decide,if_true]
   by_cases h:i < 0
   ·simp only [h,if_true] <;> omega
   ·simp only [h,if_false] <;> omega
theorem lO (its:List Value) (lo hi:Option Int):slicePick its.toArray lo hi none=((its.drop (HT.sIx its.length 0 lo)).take (HT.sIx its.length its.length hi - HT.sIx its.length 0 lo)).toArray:=by
 obtain ⟨h1,h2,h3⟩:=nu lo hi its.toArray.size
 unfold slicePick
 rw [h1,h2,h3]
 simp only [sliceRange_one,pick_run,List.size_toArray] <;> rfl
def rSlL (K:PySem.W.Frag):V->Option Int->Option Int->Hp->VK->Prop:=fun x lo hi H Q=>∃ a xs,x = .ref a /\ SqL K H a xs /\ ∀ p,H p=none->Q (.ref p) (upd H p (.lst (cutV xs lo hi)))
theorem xF:SlR X (rSlL X.K):=by
 intro pins s σ H x v vl vu lo hi sl Q I rx hs pl pu h
 obtain ⟨a,xs,rfl,hx,q⟩:=h
 cases rx
 obtain ⟨its,r,ht,hz⟩:=I.list hx
 have hlen:=r.length
 refine ⟨"list",_,slot_list_getitem.lookup,ht.isList.typeIs,?_⟩
 refine wpAny_getItem_list_slice ht.isList hs pl pu .none (by simp) ?_ (by rw [List.size_toArray] <;> omega)
 rw [lO,← hlen]
 refine ⟨.ref s.heap.objs.size,_,I.laid (t':=s.toks) (o:=.lst (cutV xs lo hi)) (fun b ob q=>Heap.get?_push_of_some _ q) (Nat.le_refl _) ?_,rfl,q _ (I.hok.fresh (Nat.le_refl _))⟩
 exact ⟨Nat.le_trans (jE xs lo hi) hz,_,0,(r.drop (HT.sIx xs.length 0 lo)).take (HT.sIx xs.length xs.length hi - HT.sIx xs.length 0 lo),Heap.get?_push_size _ rfl⟩
theorem cA:fA X (.builtin "len") (fun xs H Q=>∃ p ys,xs=[.ref p] /\ (SqL X.K H p ys∨SqT X.K H p ys) /\ Q (.int ys.length) H):=by
 intro pins s σ H xs us Q I r h
 obtain ⟨p,ys,rfl,hq,q⟩:=h
 obtain ⟨u,rfl,rx⟩:=rJ r
 cases rx
 have hn:=qi
 rcases hq with hq | hq
 ·obtain ⟨its,r',pl,hz⟩:=I.list hq
  have hlen:=r'.length
  exact Calls.call_len_list pl.isList (by simp only [List.size_toArray] <;> omega) ⟨.int ys.length,H,I.tok _,⟨s.toks + 1,by rw [List.size_toArray,hlen]⟩,q⟩
 ·obtain ⟨its,r',pl,hz⟩:=I.tuple hq
  have hlen:=r'.length
  exact len_tuple pl (by simp only [List.size_toArray] <;> omega) ⟨.int ys.length,H,I.tok _,⟨s.toks + 1,by rw [List.size_toArray,hlen]⟩,q⟩
theorem lP:fA X (.type "tuple") (fun xs H Q=>∃ p ys,xs=[.ref p] /\ ((SqL X.K H p ys /\ ∀ l,H l=none->Q (.ref l) (upd H l (.tup ys)))∨(SqT X.K H p ys /\ Q (.ref p) H))):=by
 intro pins s σ H xs us Q I r h
 obtain ⟨p,ys,rfl,h⟩:=h
 obtain ⟨u,rfl,rx⟩:=rJ r
 cases rx
 rcases h with ⟨hq,q⟩ | ⟨hq,q⟩
 ·obtain ⟨its,r',pl,hz⟩:=I.list hq
  have hlen:=r'.length
  refine call_tuple_list pl.isList (fun h' kp=>?_) (by simp only [List.size_toArray] <;> omega)
  have I1:Inv X pins σ H { s with heap:=h' }:=I.kept (t':=s.toks) kp
  have I2:Inv X pins σ (upd H h'.objs.size (.tup ys)) { s with heap:=h'.push { cls:=.type "tuple",data:=.seq its.toArray } } :=
   I1.laid (t':=s.toks) (fun b o e=>Heap.get?_push_of_some _ e) (Nat.le_refl _) (show ObjOk X.prog X.w _ _ _ (.tup ys) from ⟨hz,its,r',IsTup.new _ _⟩)
  exact ⟨.ref h'.objs.size,_,I2,rfl,q _ (I1.hok.fresh (Nat.le_refl _))⟩
 ·obtain ⟨its,r',pl,hz⟩:=I.tuple hq
  exact call_tuple_same pl ⟨.ref p,H,I,rfl,q⟩
def tyV (K:PySem.W.Frag) (T:String) (x:V) (H:Hp):Prop:=match x with
 | .str _=>T = "str"
 | .int _=>T = "int"
 | .ref p=>(T = "list" /\ ∃ xs,SqL K H p xs)∨(T = "tuple" /\ ∃ o,K.lookup p=some o /\ o.cls = .type "tuple" /\ o.dict=none) ∨
   (T = "dict" /\ ((∃ kvs,H p=some (.dK kvs))∨∃ kvs,H p=some (.dT kvs)))∨(T = "set" /\ ∃ S n,H p=some (.set S n))
 | _=>False
theorem zH {pins:List (Addr×Obj)} {σ:St} {H:Hp} {s:Shared} {T:String} {x:V} {v:Value} (I:Inv X pins σ H s) (r:RelV x v) (ty:tyV X.K T x H) :
  s.TypeIs v T /\ ∀ a,v = .ref a->∃ ob,s.heap.get? a=some ob /\ ob.dict=none:=by
 cases x with
 | str z =>
  obtain ⟨t,rfl⟩:=r
  cases (show T = "str" from ty)
  exact ⟨typeIs_str s z t,fun _ e=>nomatch e⟩
 | int i =>
  obtain ⟨t,rfl⟩:=r
  cases (show T = "int" from ty)
  exact ⟨typeIs_int s i t,fun _ e=>nomatch e⟩
 | ref p =>
  cases r
  rcases ty with ⟨rfl,xs,hq⟩ | ⟨rfl,o,hk,hc,hd⟩ | ⟨rfl,hk⟩ | ⟨rfl,S,n,hk⟩
  ·obtain ⟨its,_,pl,_⟩:=I.list hq
   refine ⟨pl.isList.typeIs,fun a e=>?_⟩
   cases e
   obtain ⟨o,n,e,c,hd,_⟩:=pl
   exact ⟨o,e,hd⟩
  ·refine ⟨⟨o,I.kIn p o hk,hc⟩,fun a e=>?_⟩
   cases e
   exact ⟨o,I.kIn _ o hk,hd⟩
  ·have z:∃ o,s.heap.get? p=some o /\ o.ExactDict:=by
    rcases hk with ⟨kvs,hk⟩ | ⟨kvs,hk⟩
    ·obtain ⟨_,_,_,_,o,_,_,e,ex,_⟩:=I.hok p _ hk
     exact ⟨o,e,ex⟩
    ·obtain ⟨_,_,_,_,o,_,_,e,ex,_⟩:=I.hok p _ hk
     exact ⟨o,e,ex⟩
   obtain ⟨o,e,ex⟩:=z
   refine ⟨⟨o,e,ex.1⟩,fun a e2=>?_⟩
   cases e2
   exact ⟨o,e,ex.2.1⟩
  ·obtain ⟨o,_,_,_,e,ex,_⟩:=I.hok p _ hk
   refine ⟨⟨o,e,ex.1⟩,fun a e2=>?_⟩
   cases e2
   exact ⟨o,e,ex.2.1⟩
 | _=>exact False.elim ty
def tBM (K:PySem.W.Frag) (T:String) (r:V->List V->Hp->VK->Prop) (to:TE) (t:TA):TE:=fun σ H Q=>to σ H fun x H1=>tyV K T x H1 /\ t σ H1 fun xs H2=>r x xs H2 Q
variable {o e:Expr} {es:List Expr} {to:TE} {t:TA} {name:Str} {apos cpos:Pos} {T id:String} {r:V->List V->Hp->VK->Prop}
theorem xG (pa:PlainAttrs T) (slot:Slot T name id) (hty:typeOf (.builtin id)=pure (.type "method_descriptor")) (hm:MtR X id r) (ho:PE X o to) (ha:PA X (e::es) t)
  (hbase:attributeBase o name X.env (eval o X.env)=eval o X.env:=by rfl)
  (hfew:((backTo cpos (starEach (e::es) X.env)).all (fun x=>!x.1) && (backToKw cpos (keywordEach [] X.env)).all (fun x=>x.1.isSome)
   && decide ((e::es).length + ([]:List Keyword).length + (if ([]:List Keyword).isEmpty then 0 else 1) < 30))=true:=by rfl)
  (hline:(apos.endLine == cpos.line)=true:=by rfl) (hs:starEach (e::es) X.env=(false,eval e X.env)::starEach es X.env:=by rfl) (hplain:(backTo cpos (starEach es X.env)).any (·.1)=false:=by rfl) :
  PE X (.Call (.Attribute o name apos) (e::es) [] cpos) (tBM X.K T r to t):=by
 intro pins s σ H Q I h
 refine wpAny_Call_method_late hbase hfew hline rfl (thn (ho pins s σ H _ I h) fun v s1 ⟨x,H1,I1,r1,ty,q1⟩=>?_)
 obtain ⟨h1,h2⟩:=zH I1 r1 ty
 refine ⟨T,id,pa,slot,hty,h1,h2,?_⟩
 have hA:=ha cpos pins s1 σ H1 _ I1 q1
 rw [hs] at hA ⊢
 refine Calls.callWith_builtin (by show (false || (backTo cpos (starEach es X.env)).any (·.1))=false; rw [hplain] <;> rfl) (Calls.evalArgs_plain ?_)
 exact thn hA fun us s2 ⟨vs,H2,I2,r2,q2⟩=>hm pins s2 σ H2 x vs v us Q I2 r1 r2 q2
end
end L2
namespace L2
open PySem PySem.Spec PyProof.Rows
def MtM (X:Cx) (id:String) (r:V->List V->Hp->VK->Prop):Prop :=
 ∀ (pins:List (Addr×Obj)) (s:Shared) (σ:St) (H:Hp) (x:V) (xs:List V) (v:Value) (us:List Value) (Q:VK),Inv X pins σ H s->RelV x v->Vals xs us->r x xs H Q ->
  wpAny (model X.prog X.w) X.A (call (.builtin id) (v::us)) (EP X pins σ Q) X.xe s
theorem Vals.one:∀ {x:V} {us:List Value},Vals [x] us->∃ u,us=[u] /\ RelV x u
 | _,_,.cons r .nil=>⟨_,rfl,r⟩
theorem Vals.two:∀ {x y:V} {us:List Value},Vals [x,y] us->∃ u v,us=[u,v] /\ RelV x u /\ RelV y v
 | _,_,_,.cons r (.cons q .nil)=>⟨_,_,rfl,r,q⟩
theorem Vals.reverse {xs:List V} {us:List Value} (h:Vals xs us):Vals xs.reverse us.reverse:=by
 induction h with
 | nil=>exact .nil
 | cons r t ih=>rw [List.reverse_cons,List.reverse_cons]; exact Vals.append ih (.cons r .nil)
theorem Vals.rep {xs:List V} {us:List Value} (h:Vals xs us):∀ k:Nat,Vals (List.replicate k xs).flatten (List.replicate k us).flatten
 | 0=>.nil
 | k + 1=>by
  rw [List.replicate_succ,List.replicate_succ,List.flatten_cons,List.flatten_cons]
  exact Vals.append h (Vals.rep h k)
theorem nv (its:List Value):∀ (k:Nat) (acc:List Value),
  List.foldl (fun x1 x2=>x1++x2) acc.toArray (List.replicate k its.toArray)=(acc++(List.replicate k its).flatten).toArray
 | 0,acc=>by simp
 | k + 1,acc=>by
  have e:acc.toArray++its.toArray=(acc++its).toArray:=by simp
  have e2:(acc++its)++(List.replicate k its).flatten=acc++(List.replicate (k + 1) its).flatten:=by
   rw [List.replicate_succ,List.flatten_cons,List.append_assoc]
  rw [← e2,← nv its k (acc++its),← e,List.replicate_succ,List.foldl_cons]
section
variable {X:Cx} {pins:List (Addr×Obj)} {σ:St} {H:Hp} {s:Shared} {l b:Addr} {xs ys zs:List V}
theorem Inv.lset {its its':List Value} {n:Nat} {f:Array Value->Array Value} {t':Nat} (I:Inv X pins σ H s) (hH:H l=some (.lst xs))
  (e:s.heap.get? l=some { cls:=.type "list",data:=.seq its.toArray n }) (hf:f its.toArray=its'.toArray) (hv:Vals ys its') (hz:ys.length <= sizeLine) :
  Inv X pins σ (upd H l (.lst ys)) { s with heap:=s.heap.update l (Obj.mapSeq f),toks:=t' }:=by
 have q:=PySem.IsL.update e f
 rw [hf] at q
 refine I.write (x:=l) (e:=l) (by rw [hH]; exact trivial) (.inl rfl) (fun b' u hb hu=>(Heap.get?_update_other s.heap (Obj.mapSeq f) (Ne.symm hb)).trans hu) ⟨_,q⟩ ?_
 exact ⟨hz,its',_,hv,q⟩
theorem Inv.lnew {its:List Value} {t':Nat} (I:Inv X pins σ H s) (hv:Vals ys its) (hz:ys.length <= sizeLine) :
  Inv X pins σ (upd H s.heap.objs.size (.lst ys)) { s with heap:=s.heap.push { cls:=.type "list",data:=.seq its.toArray },toks:=t' } :=
 I.laid (fun _ _ q=>Heap.get?_push_of_some _ q) (Nat.le_refl _) ⟨hz,its,0,hv,Heap.get?_push_size _ rfl⟩
theorem Inv.fresh (I:Inv X pins σ H s):H s.heap.objs.size=none:=I.hok.fresh (Nat.le_refl _)
theorem Inv.lstM (I:Inv X pins σ H s) (hH:H l=some (.lst xs)):xs.length <= sizeLine /\ ∃ (its:List Value) (n:Nat),Vals xs its /\ xs.length=its.length /\ s.heap.get? l=some { cls:=.type "list",data:=.seq its.toArray n }:=by
 obtain ⟨z,its,n,r,e⟩:=I.hok l _ hH
 exact ⟨z,its,n,r,r.length,e⟩
theorem vw {n:Nat} (h:n <= sizeLine):Builtin.List.listTooLong n=false:=by
 unfold Builtin.List.listTooLong
 exact decide_eq_false (by omega)
end
section
variable {X:Cx}
def tj:V->List V->Hp->VK->Prop:=fun x vs H Q=>∃ l xs y,x = .ref l /\ vs=[y] /\ H l=some (.lst xs) /\ xs.length < sizeLine /\ Q .non (upd H l (.lst (xs++[y])))
theorem jF:MtM X "list.append" tj:=by
 intro pins s σ H x vs v us Q I rx rv h
 obtain ⟨l,xs,y,rfl,rfl,hH,hz,q⟩:=h
 cases rx
 obtain ⟨u,rfl,ru⟩:=rv.one
 obtain ⟨z,its,n,r,hl,e⟩:=I.lstM hH
 refine call_meets F.slot_list_append ⟨_,e,rfl⟩ F.entry_list_append (F.args_list_append_2 _ _) (PySem.list_append l its.toArray n u (by rw [List.size_toArray]; omega)) ⟨e,?_⟩
 refine ⟨.non,_,I.lset (its':=its++[u]) hH e (by simp) (r.append (.cons ru .nil)) ?_,rfl,q⟩
 rw [List.length_append,List.length_singleton]
 omega
def rCat:R2:=fun x y H Q=>∃ l b xs zs,x = .ref l /\ y = .ref b /\ H l=some (.lst xs) /\ H b=some (.lst zs) /\ xs.length + zs.length <= sizeLine /\ ∀ p,H p=none->Q (.ref p) (upd H p (.lst (xs++zs)))
theorem zI:OpR X (binaryOp .Add) rCat:=by
 intro pins s σ H x y v u Q I rx ry h
 obtain ⟨l,b,xs,zs,rfl,rfl,hH,hB,hz,q⟩:=h
 cases rx
 cases ry
 obtain ⟨z,its,n,r,hl,e⟩:=I.lstM hH
 obtain ⟨z2,its2,n2,r2,hl2,e2⟩:=I.lstM hB
 refine PySem.P.add_list e e2 ?_ (by rw [List.size_toArray,List.size_toArray]; omega)
 have ea:its.toArray++its2.toArray=(its++its2).toArray:=by simp
 rw [ea]
 exact ⟨.ref _,_,I.lnew (t':=s.toks) (r.append r2) (by rw [List.length_append]; omega),rfl,q _ I.fresh⟩
def rRep:R2:=fun x y H Q=>∃ l k xs,x = .ref l /\ y = .int k /\ H l=some (.lst xs) /\ -(2 ^ 63) <= k /\ k < 2 ^ 63 /\ xs.length * k.toNat <= sizeLine /\
 ∀ p,H p=none->Q (.ref p) (upd H p (.lst (List.replicate k.toNat xs).flatten))
theorem xH {α:Type} (xs:List α) (k:Nat):(List.replicate k xs).flatten.length=k * xs.length:=by
 induction k with
 | zero=>simp
 | succ k ih=>rw [List.replicate_succ,List.flatten_cons,List.length_append,ih,Nat.succ_mul,Nat.add_comm]
theorem zJ:OpR X (binaryOp .Mult) rRep:=by
 intro pins s σ H x y v u Q I rx ry h
 obtain ⟨l,k,xs,rfl,rfl,hH,h1,h2,hz,q⟩:=h
 cases rx
 obtain ⟨t,rfl⟩:=ry
 obtain ⟨z,its,n,r,hl,e⟩:=I.lstM hH
 have hlen:its.toArray.size * k.toNat <= sizeLine:=by rw [List.size_toArray,← hl]; exact hz
 have hcap:¬ its.toArray.size * k.toNat > (2 ^ 63 - 1) / 8:=by
  have:(sizeLine:Nat) <= (2 ^ 63 - 1) / 8:=by decide
  omega
 have hfit:¬ (!Builtin.List.listFitsIndex k)=true:=by
  rw [fitsIndex_both h1 h2]
  exact Bool.false_ne_true
 have hlong:¬ Builtin.List.listTooLong (its.toArray.size * k.toNat)=true:=by
  rw [vw hlen]
  exact Bool.false_ne_true
 have hnew:List.foldl (fun x1 x2=>x1++x2) #[] (List.replicate (if its.toArray.isEmpty=true then 0 else k.toNat) its.toArray)=(List.replicate k.toNat its).flatten.toArray:=by
  have f0:∀ m:Nat,List.foldl (fun x1 x2=>x1++x2) #[] (List.replicate m its.toArray)=(List.replicate m its).flatten.toArray:=fun m=>by
   have:=nv its m []
   rw [List.nil_append] at this
   exact this
  rw [f0]
  cases its with
  | nil=>simp
  | cons a r'=>rw [if_neg (by simp)]
 refine wpAny_binaryOp_repeat_ref (T:="list") (U:="int") (by decide) ⟨_,e,rfl⟩ (fun s'=>typeIs_int s' k t) noFill_list_mul F.fills_int_mul F.slot_int_rmul repeat_list F.slot_int_index.lookup
  (call_meets F.slot_int_rmul (typeIs_int s k t) F.entry_int_rmul (F.args_int_rmul_2 _ _) (int___rmul___int_list k t l its.toArray n)
   ⟨e,rfl,⟨_,e,rfl⟩,call_meets F.slot_list_mul ⟨_,e,rfl⟩ F.entry_list_mul (F.args_list_mul_2 _ _) (AutoListH.list___mul___list_int_3 l its.toArray n k t hfit hcap hlong) ⟨e,?_⟩⟩)
 rw [hnew]
 exact ⟨.ref _,_,I.lnew (t':=s.toks) (r.rep k.toNat) (by rw [xH,Nat.mul_comm]; exact hz),rfl,q _ I.fresh⟩
end
section
variable {prog:Program} {w:World} {A:Around} {E:Value->Shared->Prop} {s:Shared}
end
section
variable {X:Cx}
end
end L2
namespace L2
open PySem PySem.Spec PyProof.Rows
section
variable {κ:Type} [DecidableEq κ]
def valV (kvs:List (κ×V)) (k:κ):Option V:=(kvs.find? fun kv=>decide (kv.1=k)).map (·.2)
def putK (kvs:List (κ×V)) (k:κ) (v:V):List (κ×V) :=
 if (kvs.any fun kv=>decide (kv.1=k))=true then kvs.map (fun kv=>if kv.1=k then (kv.1,v) else kv) else kvs++[(k,v)]
theorem jl {p:κ×V} {r:List (κ×V)} {k:κ} (e:p.1=k):valV (p::r) k=some p.2:=by simp [valV,List.find?_cons,e]
theorem gD {p:κ×V} {r:List (κ×V)} {k:κ} (e:¬ p.1=k):valV (p::r) k=valV r k:=by simp [valV,List.find?_cons,e]
theorem lQ (k:κ):∀ kvs:List (κ×V),(kvs.any fun kv=>decide (kv.1=k))=(valV kvs k).isSome
 | []=>rfl
 | p::r=>by
  rw [List.any_cons]
  by_cases e:p.1=k
  ·simp only [jl e,decide_eq_true e,Bool.true_or,Option.isSome_some]
  ·rw [gD e,decide_eq_false e,Bool.false_or]; exact lQ k r
theorem fO (kvs:List (κ×V)) (k:κ) (v:V):(putK kvs k v).length <= kvs.length + 1:=by
 unfold putK
 split
 ·rw [List.length_map]; omega
 ·rw [List.length_append,List.length_cons,List.length_nil]; omega
theorem RelO.isSome_eq {o:Option V} {u:Option Value} (r:RelO o u):o.isSome=u.isSome:=by
 cases o with
 | none=>cases u with
  | none=>rfl
  | some _=>exact (show False from r).elim
 | some _=>cases u with
  | none=>exact (show False from r).elim
  | some _=>rfl
theorem RelO.getD {o:Option V} {u:Option Value} {d:V} {d':Value} (r:RelO o u) (rd:RelV d d'):RelV (o.getD d) (u.getD d'):=by
 cases o with
 | none=>cases u with
  | none=>exact rd
  | some _=>exact (show False from r).elim
 | some _=>cases u with
  | none=>exact (show False from r).elim
  | some _=>exact r
theorem KV.val {kvs:List (κ×V)} {vs:List (κ×Value)} (r:KV kvs vs) (k:κ):RelO (valV kvs k) (valueAt vs k):=by
 unfold KV at r
 induction r with
 | nil=>exact True.intro
 | @cons p q ps qs h t ih =>
  obtain ⟨h1,h2⟩:=h
  by_cases e:p.1=k
  ·have e':q.1=k:=h1.symm.trans e
   have b:valueAt (q::qs) k=some q.2:=by simp [valueAt,List.find?_cons,e']
   rw [jl e,b]; exact h2
  ·have e':¬ q.1=k:=fun z=>e (h1.trans z)
   have b:valueAt (q::qs) k=valueAt qs k:=by simp [valueAt,List.find?_cons,e']
   rw [gD e,b]; exact ih
theorem KV.any {kvs:List (κ×V)} {vs:List (κ×Value)} (r:KV kvs vs) (k:κ):(kvs.any fun kv=>decide (kv.1=k))=vs.any fun kv=>decide (kv.1=k):=by
 unfold KV at r
 induction r with
 | nil=>rfl
 | cons h t ih=>rw [List.any_cons,List.any_cons,ih,h.1]
theorem KV.repl {kvs:List (κ×V)} {vs:List (κ×Value)} (r:KV kvs vs) (k:κ) {y:V} {u:Value} (ry:RelV y u) :
  KV (kvs.map fun kv=>if kv.1=k then (kv.1,y) else kv) (vs.map fun kv=>if kv.1=k then (kv.1,u) else kv):=by
 unfold KV at r ⊢
 induction r with
 | nil=>exact .nil
 | @cons p q ps qs h t ih =>
  rw [List.map_cons,List.map_cons]
  refine .cons ?_ ih
  obtain ⟨h1,h2⟩:=h
  by_cases e:p.1=k
  ·rw [if_pos e,if_pos (h1.symm.trans e)]; exact ⟨h1,ry⟩
  ·rw [if_neg e,if_neg (fun z=>e (h1.trans z))]; exact ⟨h1,h2⟩
theorem KV.put {kvs:List (κ×V)} {vs:List (κ×Value)} (r:KV kvs vs) (k:κ) {y:V} {u:Value} (ry:RelV y u):KV (putK kvs k y) (stored vs k u):=by
 unfold putK stored
 rw [r.any k]
 by_cases e:(vs.any fun kv=>decide (kv.1=k))=true
 ·rw [if_pos e,if_pos e]; exact r.repl k ry
 ·rw [if_neg e,if_neg e]; exact Paired.snoc r ⟨rfl,ry⟩
theorem KV.length {kvs:List (κ×V)} {vs:List (κ×Value)} (r:KV kvs vs):kvs.length=vs.length:=Paired.length r
end
theorem vA {P:Program} {w:World} {k:Key} {u:Value} (r:RelV (kV k) u):(bF P w).is k u=true:=by
 cases k with
 | inl i=>obtain ⟨t,e⟩:=(show ∃ t,u=Value.int i t from r); subst e; exact oI P w i t
 | inr x=>obtain ⟨t,e⟩:=(show ∃ t,u=Value.str x t from r); subst e; exact oJ P w x t
theorem ny {P:Program} {w:World}:∀ {ks:List Key} {us:List Value},Vals (ks.map kV) us->ItemsAre (bF P w) ks us
 | [],_,r=>by rw [List.map_nil] at r; cases r; exact .nil
 | k::ks,_,r=>by
  rw [List.map_cons] at r
  cases r with
  | cons h t=>exact .cons (vA h) (ny t)
abbrev KT (H:Hp):List (List Key×V)->List (List Key×Addr×Value)->Prop:=Paired fun p q=>p.1=q.1 /\ H q.2.1=some (.tup (p.1.map kV)) /\ RelV p.2 q.2.2
theorem KT.val {H:Hp} {kvs:List (List Key×V)} {xs:List (List Key×Addr×Value)} (r:KT H kvs xs) (k:List Key):RelO (valV kvs k) ((atKey xs k).map (·.2)):=by
 induction r with
 | nil=>exact True.intro
 | @cons p q ps qs h t ih =>
  obtain ⟨h1,_,h2⟩:=h
  by_cases e:p.1=k
  ·have e':q.1=k:=h1.symm.trans e
   have b:atKey (q::qs) k=some q.2:=by simp [atKey,List.find?_cons,e']
   rw [jl e,b]; exact h2
  ·have e':¬ q.1=k:=fun z=>e (h1.trans z)
   have b:atKey (q::qs) k=atKey qs k:=by simp [atKey,List.find?_cons,e']
   rw [gD e,b]; exact ih
theorem KT.repl {H:Hp} {kvs:List (List Key×V)} {xs:List (List Key×Addr×Value)} (r:KT H kvs xs) (k:List Key) {y:V} {u:Value} (ry:RelV y u) :
  KT H (kvs.map fun kv=>if kv.1=k then (kv.1,y) else kv) (xs.map (putAt k u)):=by
 induction r with
 | nil=>exact .nil
 | @cons p q ps qs h t ih =>
  rw [List.map_cons,List.map_cons]
  refine .cons ?_ ih
  obtain ⟨h1,h2,h3⟩:=h
  unfold putAt
  by_cases e:p.1=k
  ·rw [if_pos e,if_pos (h1.symm.trans e)]; exact ⟨h1,h2,ry⟩
  ·rw [if_neg e,if_neg (fun z=>e (h1.trans z))]; exact ⟨h1,h2,h3⟩
theorem KT.put {H:Hp} {kvs:List (List Key×V)} {xs:List (List Key×Addr×Value)} (r:KT H kvs xs) (k:List Key) {b:Addr} {y:V} {u:Value} (hb:H b=some (.tup (k.map kV))) (ry:RelV y u) :
  KT H (putK kvs k y) (storedH xs k b u):=by
 have e:(kvs.any fun kv=>decide (kv.1=k))=(atKey xs k).isSome:=by
  rw [lQ,(r.val k).isSome_eq,Option.isSome_map]
 unfold putK storedH
 rw [e]
 by_cases q:(atKey xs k).isSome=true
 ·rw [if_pos q,if_pos q]; exact r.repl k ry
 ·rw [if_neg q,if_neg q]; exact Paired.snoc r ⟨rfl,hb,ry⟩
theorem KT.keeps {H H':Hp} {kvs:List (List Key×V)} {xs:List (List Key×Addr×Value)} (r:KT H kvs xs) (ht:∀ b ys,H b=some (.tup ys)->H' b=some (.tup ys)):KT H' kvs xs :=
 Paired.mapP r fun _ _ z=>⟨z.1,ht _ _ z.2.1,z.2.2⟩
section
variable {P:Program} {w:World} {H:Hp} {h:Heap} {a:Addr}
theorem zK {u:HO} (ok:HOk P w H h) (e:Rd H a u):ObjOk P w H h a u:=e.ok ok
theorem tm {kvs:List (Key×V)} (ok:HOk P w H h) (e:Rd H a (.dK kvs)):kvs.length <= sizeLine /\ (a == sysModules)=false /\ ∃ vs,KV kvs vs /\ h.DictOf (bF P w) a vs :=
 show ObjOk P w H h a (.dK kvs) from zK ok e
theorem BK {kvs:List (Key×V)} (ok:HOk P w H h) (e:H a=some (.dK kvs)):kvs.length <= sizeLine /\ (a == sysModules)=false /\ ∃ vs,KV kvs vs /\ h.DictOf (bF P w) a vs:=tm ok (.inl e)
theorem nz {ks:List Key} (ok:HOk P w H h) (e:H a=some (.tup (ks.map kV))):(tupleKind (bF P w)).is h ks a:=by
 obtain ⟨_,its,r,o,h1,h2,n,h3⟩:=(show ObjOk P w H h a (.tup (ks.map kV)) from ok a _ e)
 exact ⟨o,its.toArray,n,h1,h2,h3,by simpa using ny r⟩
theorem tq {kvs:List (List Key×V)} (ok:HOk P w H h) (e:Rd H a (.dT kvs)):kvs.length <= sizeLine /\ (a == sysModules)=false /\
  ∃ xs,KT H kvs xs /\ h.DictOfH (tupleKind (bF P w)) a xs:=by
 obtain ⟨z,y,xs,r,o,es,ep,h1,h2,h3,h4,h5⟩:=(show ObjOk P w H h a (.dT kvs) from zK ok e)
 refine ⟨z,y,xs,r,o,es,ep,h1,h2,h3,h4,fun x hx=>?_,h5⟩
 have all:∀ {l:List (List Key×V)} {m:List (List Key×Addr×Value)},KT H l m->∀ x∈m,(tupleKind (bF P w)).is h x.1 x.2.1:=by
  intro l m q
  induction q with
  | nil=>intro x hx; exact nomatch hx
  | @cons p q ps qs hq t ih =>
   intro x hx
   rcases List.mem_cons.mp hx with e | hx
   ·subst e
    exact nz ok (by rw [← hq.1]; exact hq.2.1)
   ·exact ih x hx
 exact all r x hx
theorem xI {kvs:List (List Key×V)} (ok:HOk P w H h) (e:H a=some (.dT kvs)):kvs.length <= sizeLine /\ (a == sysModules)=false /\
  ∃ xs,KT H kvs xs /\ h.DictOfH (tupleKind (bF P w)) a xs:=tq ok (.inl e)
end
def DGet (H:Hp) (a:Addr) (y:V) (r:Option V):Prop :=
 (∃ kvs k,Rd H a (.dK kvs) /\ y=kV k /\ r=valV kvs k)∨∃ kvs k b,Rd H a (.dT kvs) /\ y = .ref b /\ H b=some (.tup (k.map kV)) /\ r=valV kvs k
def DPut (H:Hp) (a:Addr) (y v:V) (H':Hp):Prop :=
 (∃ kvs k,H a=some (.dK kvs) /\ y=kV k /\ kvs.length < sizeLine /\ H'=upd H a (.dK (putK kvs k v))) ∨
 ∃ kvs k b,H a=some (.dT kvs) /\ y = .ref b /\ H b=some (.tup (k.map kV)) /\ kvs.length < sizeLine /\ H'=upd H a (.dT (putK kvs k v))
theorem DGet.t {H:Hp} {a b:Addr} {kvs:List (List Key×V)} {k:List Key} (e:H a=some (.dT kvs)) (eb:H b=some (.tup (k.map kV))):DGet H a (.ref b) (valV kvs k):=.inr ⟨kvs,k,b,.inl e,rfl,eb,rfl⟩
theorem DPut.t {H:Hp} {a b:Addr} {kvs:List (List Key×V)} {k:List Key} {v:V} (e:H a=some (.dT kvs)) (eb:H b=some (.tup (k.map kV))) (hl:kvs.length < sizeLine) :
  DPut H a (.ref b) v (upd H a (.dT (putK kvs k v))):=.inr ⟨kvs,k,b,e,rfl,eb,hl,rfl⟩
section
variable {X:Cx} {pins:List (Addr×Obj)} {σ:St} {H:Hp} {s:Shared} {a:Addr} {y v:V} {u r:Value} {o:Option V} {A:Around} {E:Value->Shared->Prop}
theorem Inv.big (I:Inv X pins σ H s):sysModules < s.heap.objs.size:=by
 have h:mainGlobals < s.heap.objs.size:=(I.mod.glob.keeps I.bk).lt
 exact Nat.lt_trans (by decide) h
theorem tt {Q:Value->Shared->Prop} (hu:A.units + 1 < cLine) (I:Inv X pins σ H s) (g:DGet H a y (some v)) (ry:RelV y u) (h:∀ w' s',Inv X pins σ H s'->RelV v w'->Q w' s') :
  wpAny (model X.prog X.w) A (getItem (.ref a) u) Q E s:=by
 rcases g with ⟨kvs,k,e,ey,l⟩ | ⟨kvs,k,b,e,ey,eb,l⟩
 ·subst ey
  obtain ⟨z,hd,vs,rel,dd⟩:=tm I.hok e
  obtain ⟨w',hw,rw'⟩:=RelO.some_of (v:=v) (o:=valueAt vs k) (by rw [l]; exact rel.val k)
  exact wpAny_getItem_of (vA ry) dd.mapOf hw (h w' _ (I.tok _) rw')
 ·subst ey
  cases (show u=Value.ref b from ry)
  obtain ⟨z,hd,xs,rel,dd⟩:=tq I.hok e
  obtain ⟨w',hw,rw'⟩:=RelO.some_of (v:=v) (o:=(atKey xs k).map (·.2)) (by rw [l]; exact rel.val k)
  obtain ⟨p,hp,hp2⟩:=Option.map_eq_some_iff.mp hw
  refine wpAny_getItem_heap (tupleKind_room_in1 hu) (nz I.hok eb) dd hp ?_
  rw [hp2]
  exact h w' _ (I.tok _) rw'
theorem oO {h':Heap} {t':Nat} {ob:HO} (I:Inv X pins σ H s) (mu:Mut (H a)) (hs:Heap.SameBut a s.heap h') (he:∃ q,h'.get? a=some q) (new:ObjOk X.prog X.w (upd H a ob) h' a ob) :
  Inv X pins σ (upd H a ob) { s with heap:=h',toks:=t' } :=
 I.write (x:=a) (e:=a) mu (.inl rfl) (fun b q hb z=>(hs.2 b hb).trans z) he new
theorem zL {P:Program} {w:World} {H':Hp} {h':Heap} {kvs:List (Key×V)} {vs:List (Key×Value)} (z:kvs.length <= sizeLine) (hd:(a == sysModules)=false) (rel:KV kvs vs) (dd:h'.DictOf (bF P w) a vs) :
  ObjOk P w H' h' a (.dK kvs):=⟨z,hd,vs,rel,dd⟩
theorem tu {H':Hp} {Q:Unit->Shared->Prop} (hu:A.units + 1 < cLine) (I:Inv X pins σ H s) (g:DPut H a y v H') (ry:RelV y u) (rv:RelV v r) (h:∀ s',Inv X pins σ H' s'->Q () s') :
  wpAny (model X.prog X.w) A (setItem (.ref a) u r) Q E s:=by
 rcases g with ⟨kvs,k,e,ey,l,eH⟩ | ⟨kvs,k,b,e,ey,eb,l,eH⟩
 ·subst ey eH
  obtain ⟨z,hd,vs,rel,dd⟩:=BK I.hok e
  have hz:vs.length <= sizeLine:=by rw [← rel.length]; exact z
  have hl:(putK kvs k v).length <= sizeLine:=by have:=fO kvs k v; omega
  refine wpAny_setItem_pairs (hsz:=hz) (vA ry) dd fun h' dd' hs=>h _ ?_
  have he:∃ q,h'.get? a=some q:=let ⟨q,_,_,hq,_⟩:=dd'; ⟨q,hq⟩
  exact oO I (by rw [e]; exact True.intro) hs he (zL hl hd (rel.put k rv) dd')
 ·subst ey eH
  cases (show u=Value.ref b from ry)
  obtain ⟨z,hd,xs,rel,dd⟩:=xI I.hok e
  have hz:xs.length <= sizeLine:=by rw [← Paired.length rel]; exact z
  have hl:(putK kvs k v).length <= sizeLine:=by have:=fO kvs k v; omega
  refine wpAny_setItem_heap (hsz:=hz) (tupleKind_room_in1 hu) (nz I.hok eb) dd fun h' dd' hs=>h _ ?_
  obtain ⟨q,es,ep,hq,h2,h3,h4,_,h5⟩:=dd'
  refine oO I (by rw [e]; exact True.intro) hs ⟨q,hq⟩ ⟨hl,hd,_,(rel.put k eb rv).keeps fun c ys ec=>?_,q,es,ep,hq,h2,h3,h4,h5⟩
  rw [aj (kL ec e (fun z=>nomatch z))]
  exact ec
end
section
variable {X:Cx} {pins:List (Addr×Obj)} {σ:St} {H:Hp} {s:Shared} {a:Addr} {kvs:List (Key×V)} {k:Key} {u:Value} {A:Around} {E:Value->Shared->Prop}
end
def NoSl (i:Expr):Prop:=∀ ov iv,subscripted i false ov iv=operate [ov,iv] (getItem ov iv)
theorem xJ {prog:Program} {w:World} {A:Around} {E:Value->Shared->Prop} {s:Shared} {env:Env} {value slice:Expr} {pos:Pos} {T id:String} {Q:Value->Shared->Prop}
  (hl:typeLookup (.type T) "__getitem__" = pure (some (.builtin id))) (hs:NoSl slice)
  (h:wpAny (model prog w) A (eval value env) (fun o s₁=>wpAny (model prog w) A (eval slice env) (fun i s₂=>s₂.TypeIs o T /\ wpAny (model prog w) A (getItem o i) Q E s₂) E s₁) E s) :
  wpAny (model prog w) A (eval (.Subscript value slice pos) env) Q E s:=by
 refine Subscript_ (wpAny_mono h (fun o s₁ h₁=>wpAny_mono h₁ (fun i s₂ h₂=>?_) fun _ _ x=>x) fun _ _ x=>x)
 obtain ⟨hT,h₂⟩:=h₂
 unfold subscriptTail
 refine wpAny_bind ?_
 rw [getitemInPython_of_ne hT.not_modules]
 refine wpAny_bind (wpAny_specialOf hT hl ?_)
 have fin:wpAny (model prog w) A (subscripted slice false o i) (fun r s₃=>wpAny (model prog w) A (letTemporaryGo value o r >>= fun _=>pure r) Q E s₃) E s₂:=by
  rw [hs o i]
  exact wpAny_operating (wpAny_mono h₂ (fun r s₃ h₃=>wpAny_bind (wpAny_letTemporaryGo (wpAny_pure h₃))) fun _ _ x=>x)
 first
  | exact wpAny_pure (wpAny_bind fin)
  | exact wpAny_bind (wpAny_pure (wpAny_bind fin))
  | exact wpAny_bind fin
theorem oP {X:Cx} {pins:List (Addr×Obj)} {σ:St} {H:Hp} {s:Shared} {a:Addr} {y:V} {o:Option V} (I:Inv X pins σ H s) (g:DGet H a y o):s.TypeIs (.ref a) "dict":=by
 rcases g with ⟨kvs,k,e,_,_⟩ | ⟨kvs,k,b,e,_,_,_⟩
 ·obtain ⟨_,_,vs,_,dd⟩:=tm I.hok e
  exact dd.typeIs
 ·obtain ⟨_,_,xs,_,dd⟩:=tq I.hok e
  exact dd.typeIs
def BL (td ty:TE):TE:=fun σ H Q=>td σ H fun x H1=>ty σ H1 fun y H2=>∃ a v,x = .ref a /\ DGet H2 a y (some v) /\ Q v H2
def BM (td ty tv:TE):TS:=fun D σ H=>tv σ H fun v H1=>td σ H1 fun x H2=>ty σ H2 fun y H3=>∃ a H4,x = .ref a /\ DPut H3 a y v H4 /\ D.nx σ H4
section
variable {X:Cx} {o i e value:Expr} {pos pos' tpos:Pos} {td ty tv:TE}
theorem xK (hu:X.A.units + 1 < cLine) (ho:PE X o td) (hi:PE X i ty) (hs:NoSl i):PE X (.Subscript o i pos) (BL td ty):=by
 intro pins s σ H Q I h
 refine xJ PySem.F.slot_dict_getitem.lookup hs (thn (ho pins s σ H _ I h) fun u s1 ⟨x,H1,I1,rx,q1⟩=>thn (hi pins s1 σ H1 _ I1 q1) fun iv s2 ⟨y,H2,I2,ry,a,v,ex,g,q2⟩=>?_)
 subst ex
 obtain rfl:u=Value.ref a:=rx
 exact ⟨oP I2 g,tt hu I2 g ry fun w' s3 I3 rw'=>⟨v,H2,I3,rw',q2⟩⟩
theorem xL (hu:X.A.units + 1 < cLine) (ho:PE X o td) (hi:PE X i ty) (hv:PE X value tv) (hs:swapsWith value (some (.Subscript o i pos')) pos.line X.env=pure false) :
  PS X (.Assign [.Subscript o i pos'] value pos) (BM td ty tv):=by
 intro pins s σ H D I h
 refine wpAny_Assign_Subscript (thn (hv pins s σ H _ I h) fun r s1 ⟨v,H1,I1,rv,q1⟩=>thn (ho pins s1 σ H1 _ I1 q1) fun u s2 ⟨x,H2,I2,rx,q2⟩=>thn (hi pins s2 σ H2 _ I2 q2) fun iv s3 ⟨y,H3,I3,ry,a,H4,ex,g,q3⟩=>?_) hs
 subst ex
 obtain rfl:u=Value.ref a:=rx
 exact tu hu I3 g ry rv fun s4 I4=>⟨σ,H4,I4,q3⟩
end
theorem vB {P:Program} {w:World} {H:Hp} (h:Heap) (hb:sysModules < h.objs.size):ObjOk P w H (h.push { cls:=.type "dict",data:=.dict #[] }) h.objs.size (.dT []) :=
 ⟨Nat.zero_le _,beq_eq_false_iff_ne.mpr (Ne.symm (Nat.ne_of_lt hb)),[],.nil,_,#[],0,Heap.get?_push_size _ rfl,⟨rfl,rfl,rfl⟩,rfl,rfl,List.nodup_nil⟩
def zM:TE:=fun _ H Q=>∀ p,H p=none->Q (.ref p) (upd H p (.dT []))
section
variable {X:Cx} {pos:Pos}
theorem vC:PE X (.Dict [] [] pos) zM:=fun pins s σ H Q I h =>
 wpAny_Dict_empty ⟨.ref s.heap.objs.size,_,I.laid (a:=s.heap.objs.size) (o:=.dT []) (t':=s.toks) (fun _ _ q=>Heap.get?_push_of_some _ q) (Nat.le_refl _) (vB s.heap I.big),rfl,h _ (I.hok.fresh (Nat.le_refl _))⟩
end
structure M2 (X:Cx) (o:Expr) (m:Str) (apos:Pos) (e f:Expr) (cpos:Pos):Prop where
 base:attributeBase o m X.env (eval o X.env)=eval o X.env
 few:((backTo cpos (starEach [e,f] X.env)).all (fun x=>!x.1) && (backToKw cpos (keywordEach [] X.env)).all (fun x=>x.1.isSome)
  && decide (([e,f]:List Expr).length + ([]:List Keyword).length + (if ([]:List Keyword).isEmpty then 0 else 1) < 30))=true
 line:(apos.endLine == cpos.line)=true
 trees:backTo cpos (starEach [e,f] X.env)=[(false,eval e X.env),(false,eval f X.env)]
def IsD (H:Hp) (a:Addr):Prop:=(∃ kvs,Rd H a (.dK kvs))∨∃ kvs,Rd H a (.dT kvs)
theorem zN {X:Cx} {pins:List (Addr×Obj)} {σ:St} {H:Hp} {s:Shared} {a:Addr} (I:Inv X pins σ H s) (d:IsD H a) :
  s.TypeIs (.ref a) "dict" /\ (∀ b,Value.ref a = .ref b->∃ ob,s.heap.get? b=some ob /\ ob.dict=none) /\ (a == sysModules)=false:=by
 rcases d with ⟨kvs,e⟩ | ⟨kvs,e⟩
 ·obtain ⟨_,hd,vs,_,dd⟩:=tm I.hok e
  refine ⟨dd.typeIs,fun b q=>?_,hd⟩
  cases q
  obtain ⟨ob,_,_,h1,h2,_⟩:=dd
  exact ⟨ob,h1,h2.2.1⟩
 ·obtain ⟨_,hd,xs,_,dd⟩:=tq I.hok e
  refine ⟨dd.typeIs,fun b q=>?_,hd⟩
  cases q
  obtain ⟨ob,_,_,h1,h2,_⟩:=dd
  exact ⟨ob,h1,h2.2.1⟩
section
variable {X:Cx} {pins:List (Addr×Obj)} {σ:St} {H:Hp} {s:Shared} {a:Addr} {y d:V} {u r:Value} {o:Option V} {A:Around} {E:Value->Shared->Prop}
theorem zO {Q:Value->Shared->Prop} (hu:A.units + 1 < cLine) (I:Inv X pins σ H s) (g:DGet H a y o) (ry:RelV y u) (rd:RelV d r) (h:∀ w' s',Inv X pins σ H s'->RelV (o.getD d) w'->Q w' s') :
  wpAny (model X.prog X.w) A (call (.builtin "dict.get") [.ref a,u,r]) Q E s:=by
 rcases g with ⟨kvs,k,e,ey,l⟩ | ⟨kvs,k,b,e,ey,eb,l⟩
 ·subst ey
  obtain ⟨z,hd,vs,rel,dd⟩:=tm I.hok e
  refine call_meetsIn PySem.F.slot_dict_get dd.typeIs PySem.F.entry_dict_get (PySem.F.args_dict_get_3 _ _ _) (meets_dict_get_default (bF X.prog X.w) a (vA ry) hd r) ⟨_,dd.mapOf,h _ _ (I.tok _) ?_⟩
  rw [l]
  exact (rel.val k).getD rd
 ·subst ey
  cases (show u=Value.ref b from ry)
  obtain ⟨z,hd,xs,rel,dd⟩:=tq I.hok e
  refine call_meetsIn PySem.F.slot_dict_get dd.typeIs PySem.F.entry_dict_get (PySem.F.args_dict_get_3 _ _ _) (meetsH_dict_get_default (tupleKind (bF X.prog X.w)) a b hd r) ⟨tupleKind_room_in1 hu,k,xs,nz I.hok eb,dd,h _ _ (I.tok _) ?_⟩
  rw [l]
  exact (rel.val k).getD rd
end
def zP (td ty tx:TE):TE:=fun σ H Q=>td σ H fun x H1=>∃ a,x = .ref a /\ IsD H1 a /\ ty σ H1 fun y H2=>tx σ H2 fun z H3=>∃ o,DGet H3 a y o /\ Q (o.getD z) H3
section
variable {X:Cx} {o e f:Expr} {apos cpos:Pos} {td ty tx:TE}
theorem vD (hu:X.A.units + 1 < cLine) (ho:PE X o td) (he:PE X e ty) (hf:PE X f tx) (m:M2 X o "get" apos e f cpos):PE X (.Call (.Attribute o "get" apos) [e,f] [] cpos) (zP td ty tx):=by
 intro pins s σ H Q I h
 refine wpAny_Call_method m.base m.few m.line PySem.F.plainAttrs_dict PySem.F.slot_dict_get PySem.F.type_dict_get (thn (ho pins s σ H _ I h) fun u s1 ⟨x,H1,I1,rx,a,ex,d,q1⟩=>?_)
 subst ex
 obtain rfl:u=Value.ref a:=rx
 obtain ⟨t1,t2,_⟩:=zN I1 d
 refine ⟨t1,t2,?_⟩
 rw [m.trees]
 refine Calls.callWith_builtin rfl (Calls.evalArgs_plain (Calls.spliced_cons (thn (he pins s1 σ H1 _ I1 q1) fun iv s2 ⟨y,H2,I2,ry,q2⟩ =>
  Calls.spliced_cons (thn (hf pins s2 σ H2 _ I2 q2) fun fv s3 ⟨z,H3,I3,rz,ov,g,q3⟩=>Calls.spliced_nil ?_))))
 exact zO hu I3 g ry rz fun w' s4 I4 rw'=>⟨_,H3,I4,rw',q3⟩
end
section
variable {X:Cx} {pins:List (Addr×Obj)} {σ:St} {H:Hp} {s:Shared} {a:Addr} {kvs:List (Key×V)} {A:Around} {E:Value->Shared->Prop}
end
section
variable {X:Cx} {pins:List (Addr×Obj)} {σ:St} {H:Hp} {s:Shared} {a:Addr} {y:V} {u:Value} {A:Around} {E:Value->Shared->Prop}
end
end L2
namespace Att
open PySem PySem.W PySem.Calls PyProof.Rows
theorem jG {P:Params} {h:Heap}:∀ (ns:List Int) (vs:List Value),WellAll P h vs (ns.map WData.int)->IntsAre vs ns:=by
 intro ns
 induction ns with
 | nil =>
  intro vs w
  rw [List.map_nil] at w
  cases w
  exact .nil
 | cons n ns ih =>
  intro vs w
  rw [List.map_cons] at w
  cases w with
  | cons a b =>
   cases a
   exact .cons _ _ (ih _ b)
theorem tw {l:OpenLaw} {n:Nat} (hn:l.most=some n) {P:Params} {h:Heap} {args:List WData} {vals:List Value}
  (hpre:l.row.toRowW.claim.pre args=true) (hwl:WellAll P h vals args) :
  ∃ a vs ns,vals=[Value.ref a] /\ args=[WData.list (ns.map WData.int)] /\ h.get? a=some { cls:=.type "list",data:=.seq vs.toArray } /\ IntsAre vs ns /\ ns.length <= n:=by
 have hsh:WShape.hasAll [] args [.list .int]=true:=(pre_splitW hpre).1
 have hc:l.pre.holds [] { args:=args }=true:=(pre_splitW hpre).2
 obtain ⟨d,r,rfl,h1,h2⟩:=hasAllW_cons hsh
 obtain rfl:=hasAllW_nil h2
 obtain ⟨xs,rfl,h3⟩:=hasW_list h1
 obtain ⟨ns,rfl⟩:=items_int h3
 have hlen:ns.length <= n:=by
  unfold OpenLaw.pre at hc
  have h4:(WTm.not (.lt (.lit (.int (n:Int))) (.len (.arg 0)))).holds [] { args:=[.list (ns.map .int)] }=true:=by
   have h4:=(holds_andW hc).1
   rw [hn] at h4
   exact h4
  have h5:=condW_of h4 (w_not (w_lt w_lit (w_len_list (w_arg rfl))))
  rw [List.length_map] at h5
  refine Nat.le_of_not_lt fun q=>?_
  have q':(n:Int) < ((ns.length:Nat):Int):=by omega
  first
   | (rw [decide_eq_true q'] at h5; exact absurd h5 (by decide))
   | (simp at h5; omega)
 cases hwl with
 | cons w1 w2 =>
  cases w2
  cases w1 with
  | list ho hall=>exact ⟨_,_,ns,rfl,rfl,ho,jG ns _ hall,hlen⟩
theorem tD (l:OpenLaw) (args:List WData):l.row.toRowW.claim.post args (.bool true) args=true :=
 postW_of (r:=l.row.toRowW) (X:=(true == true))
  (show WShape.has [] (.bool true) .bool=true by first | rfl | decide | simp [WShape.has,WShape.arms,WShape.armsAll])
  (show (WTm.eq .res (.lit (.bool true))).value [] { args:=args,res:=some (.bool true),after:=args }=some (.bool (true == true)) from w_eq_bool (w_res rfl) w_lit) rfl
theorem attach_call {l:OpenLaw} {n:Nat} {q:Program} {loose:List Str} {XP:(Str->Option Value)->Heap->Prop} {YP:World->Heap->Prop} {d:DefRec}
  (hn:l.most=some n) (hdf:d.params.defaults=[])
  (call:∀ (w:World) (s₀ s₁:Shared) (mg mb:Str->Option Value) (fa:Addr) (o:Obj) (pm cd doc:Value) (a:Addr) (vs:List Value) (ns:List Int),
   Ground q loose [] XP w s₀ mg mb s₁.heap->YP w s₁.heap ->
   s₁.heap.get? fa=some o->o.data = .func (docDef d.name d.params d.body d.scope pm cd doc)->s₁.heap.CodeRec cd d.name->mg d.name=some (.ref fa) ->
   s₁.heap.get? a=some { cls:=.type "list",data:=.seq vs.toArray }->IntsAre vs ns->ns.length <= n->s₁.gens = #[] ->
   codeAny (model l.prog w) callerA (.call (.ref fa) ⟨[.ref a],[]⟩) (fun r s'=>r = .ok (.ret (.bool true)) /\ OldK s₁.heap s'.heap /\ s'.os=s₁.os /\ AllBare s'.gens) s₁) :
  WalkO q loose XP YP l.row.toRowW d [] (fun f vs=>PySem.call f vs):=by
 intro w s₀ s₁ mg mb G Y fa o pm cd doc dV kV ho hd hcd hD hmg hg args vals as hpre hlay hrd hwl hlo
 obtain rfl:dV = .none:=Dflts.none hD hdf
 obtain rfl:kV = .none:=Dflts.noKw hD
 obtain ⟨a,vs,ns,rfl,rfl,hobj,hints,hlen⟩:=tw hn hpre hwl
 refine enter_call (codeAny_mono (call w s₀ s₁ mg mb fa o pm cd doc a vs ns G Y ho (fd_plain hd) hcd hmg hobj hints hlen hg) fun r s' hq=>?_)
 obtain ⟨rfl,h2,h3,h4⟩:=hq
 exact ⟨.inl ⟨.bool true,.bool true,[],rfl,fun _=>rfl,.bool true,tD l _,fun _=>⟨List.Pairwise.nil,fun _ hm=>(nomatch hm)⟩⟩,h2,h3,h4⟩
section
variable {prog:Program} {w:World} {A:Around} {E:Value->Shared->Prop} {s:Shared} {K:Frag}
end
end Att
namespace L2
open PySem PySem.Spec PyProof.Rows
theorem nA:∀ {vs:List Value} {ns:List Int},IntsAre vs ns->Vals (ns.map V.int) vs
 | _,_,.nil=>.nil
 | _,_,.cons n t h=>.cons ⟨t,rfl⟩ (nA h)
def Only (H:Hp):Prop:=∀ b,H b=none∨∃ o xs,H b=some (.frz o (.lst xs))
theorem vE {P:Program} {w:World} {K:PySem.W.Frag} {mg mb:Str->Option Value} {CX:CXT} {k:Nat} {fa a:Addr} {fd:FuncData} {x:Str} {sp:Sp} {s₁:Shared} {vs:List Value} {ns:List Int}
  (KX:K.In s₁.heap) (hns:s₁.heap.Ns mainGlobals mg) (hb:s₁.heap.Ns builtinsNs mb) (hbb:∀ x:Str,x ≠ "__name__" -> mb x=bootBuiltins x) (hlim:s₁.heap.NoLimit) (hg:s₁.gens = #[])
  (ha:s₁.heap.get? a=some { cls:=.type "list",data:=.seq vs.toArray }) (hi:IntsAre vs ns) (hl:ns.length <= sizeLine) (hr:Room k callerA)
  (F:∀ base:Heap,K.In base->base.Ns mainGlobals mg->FnOk P w K mg base CX k fa fd [x] sp) (hbind:∀ (s:Shared) (u:Value),BindsTo s fd ⟨[u],[]⟩ [(x,u)])
  (hsp:∀ H:Hp,Only H->SqL K H a (ns.map V.int)->sp [.ref a] H (fun v _=>v = .bl true) fun _ _ _=>False)
  (hCX:∀ H e s',CX [] H s₁ (fun _ _ _=>False) e s'->False) :
  codeAny (model P w) callerA (.call (.ref fa) ⟨[.ref a],[]⟩) (fun r s'=>r = .ok (.ret (.bool true)) /\ OldK s₁.heap s'.heap /\ s'.os=s₁.os /\ AllBare s'.gens) s₁:=by
 have rv:=nA hi
 have lenV:=hi.length
 -- from an abstract heap in which nothing but the script may be tracked
 have core:∀ H:Hp,Only H->SqL K H a (ns.map V.int)->HOk P w H s₁.heap->(∀ b,H b≠none->b=a)->(H a≠none->K.lookup a=none) ->
   codeAny (model P w) callerA (.call (.ref fa) ⟨[.ref a],[]⟩) (fun r s'=>r = .ok (.ret (.bool true)) /\ OldK s₁.heap s'.heap /\ s'.os=s₁.os /\ AllBare s'.gens) s₁:=by
  intro H hO hS hok hA hK
  have base_of:∀ {b:Addr} {o:Obj},s₁.heap.get? b=some o->H b=none->(hidT s₁.heap H).get? b=some o:=fun e n=>vj e n
  have noA:∀ {b:Addr} {o:Obj} {es:Array DictEntry} {ep:Nat},s₁.heap.get? b=some o->o.data = .dict es ep->H b=none:=fun {b o es ep} e d=>by
   cases q:H b with
   | none=>rfl
   | some u =>
    have e':b=a:=hA b (by rw [q]; simp)
    subst e'
    rw [ha] at e; cases e
    have d':Data.seq vs.toArray _=Data.dict es ep:=d
    cases d'
  have nsK:∀ {b:Addr} {m:Str->Option Value},s₁.heap.Ns b m->(hidT s₁.heap H).Ns b m:=fun {b m} ⟨o,es,ep,e,d,r⟩=>⟨o,es,ep,base_of e (noA e d),d,r⟩
  have hKb:K.In (hidT s₁.heap H):=fun b o e=>base_of (KX b o e) (by
   cases q:H b with
   | none=>rfl
   | some u =>
    have e':b=a:=hA b (by rw [q]; simp)
    subst e'
    rw [hK (by rw [q]; simp)] at e; cases e)
  have hM:Mod K mg (hidT s₁.heap H):=⟨hKb,nsK hns,⟨mb,nsK hb,hbb⟩,let ⟨mc,h1,h2⟩:=hlim; ⟨mc,nsK h1,h2⟩⟩
  have e0:Env0 P w K mg (hidT s₁.heap H) callerA [] s₁ H:=⟨rfl,hM,fun b o e=>xq e,Nat.le_of_eq (sH _ _),trivial,fun b hb=>absurd (show b∈([]:List Addr) from hb) (by simp),hok,.of_eq hg⟩
  refine codeAny_mono ((F _ hKb (nsK hns)).run callerA [] s₁ H ⟨[.ref a],[]⟩ [.ref a] [.ref a] _ _ hr e0 (hbind s₁ (.ref a)) (.cons rfl .nil) (hsp H hO hS)) fun r s' h=>?_
  cases r with
  | error e=>exact (hCX H e s' h).elim
  | ok fl =>
   cases fl with
   | next=>exact False.elim h
   | brk=>exact False.elim h
   | cont=>exact False.elim h
   | ret u =>
    obtain ⟨v,H',os,bare,un,hok',r',q⟩:=h
    have q':v = .bl true:=q
    subst q'
    obtain rfl:u=Value.bool true:=r'
    refine ⟨rfl,OldK.of_keep fun b o e=>?_,os,bare⟩
    cases q:H b with
    | none=>exact un.keep b o e q (by intro z; exact absurd (show b∈([]:List Addr) from z) (by simp)) (by simp)
    | some u =>
     rcases hO b with z | ⟨ob,xs,z⟩
     ·rw [q] at z; cases z
     ·have z2:=un.frzs b ob _ z
      obtain ⟨e1,_⟩:=hok b _ z
      obtain ⟨e2,_⟩:=hok' b _ z2
      rw [e] at e1; cases e1
      exact e2
 cases hk:K.lookup a with
 | some o =>
  -- the script is one of the module's own objects
  have e:=KX a o hk
  rw [ha] at e
  cases e
  refine core (fun _=>none) (fun _=>.inl rfl) (.inr ⟨_,vs.toArray,_,hk,rfl,rfl,rfl,by rw [List.size_toArray,lenV]; exact hl,by simpa using rv⟩) (fun b u z=>by have z':(none:Option HO)=some u:=z; cases z') (fun b z=>absurd rfl z) fun z=>absurd rfl z
 | none =>
  refine core (fun b=>if b=a then some (.frz { cls:=.type "list",data:=.seq vs.toArray } (.lst (ns.map V.int))) else none) (fun b=>?_) (.inl (.inr ⟨{ cls:=.type "list",data:=.seq vs.toArray },if_pos rfl⟩)) (fun b u z=>?_) (fun b z=>?_) fun _=>hk
  ·by_cases hb:b=a
   ·exact .inr ⟨_,_,if_pos hb⟩
   ·exact .inl (if_neg hb)
  ·by_cases hb:b=a
   ·have z':=(if_pos hb).symm.trans z
    cases z'
    subst hb
    exact ⟨ha,by rw [List.length_map]; exact hl,vs,_,rv,ha⟩
   ·have z':=(if_neg hb).symm.trans z
    cases z'
  ·by_cases hb:b=a
   ·exact hb
   ·exact absurd (if_neg hb) z
end L2
namespace L2
open PySem PySem.Spec PyProof.Rows
theorem walk_of {l:PySem.W.OpenLaw} {n k:Nat} {q:Program} {loose:List Str} {XP:(Str->Option Value)->Heap->Prop} {YP:World->Heap->Prop} {d:DefRec} {K:Params->PySem.W.Frag} {CX:World->CXT} {sp:World->Sp} {x:Str}
  (hn:l.most=some n) (hn2:n <= sizeLine) (hdf:d.params.defaults=[]) (hr:Room k callerA)
  (hY:∀ (w:World) (h:Heap),YP w h->(K w.params).In h)
  (F:∀ (w:World) (mg:Str->Option Value) (fa:Addr) (h:Heap),(K w.params).In h->h.Ns mainGlobals mg->mg d.name=some (.ref fa) ->
   ∃ fd:FuncData,(∀ (s:Shared) (u:Value),BindsTo s fd ⟨[u],[]⟩ [(x,u)]) /\
    ∀ base:Heap,(K w.params).In base->base.Ns mainGlobals mg->FnOk l.prog w (K w.params) mg base (CX w) k fa fd [x] (sp w))
  (hsp:∀ (w:World) (H:Hp) (a:Addr) (ns:List Int),ns.length <= n->Only H->SqL (K w.params) H a (ns.map V.int)->sp w [.ref a] H (fun v _=>v = .bl true) fun _ _ _=>False)
  (hCX:∀ (w:World) (H:Hp) (s:Shared) (e:Value) (s':Shared),CX w [] H s (fun _ _ _=>False) e s'->False) :
  PySem.W.WalkO q loose XP YP l.row.toRowW d [] (fun f vs=>PySem.call f vs):=by
 refine Att.attach_call hn hdf fun w s₀ s₁ mg mb fa o pm cd doc a vs ns G Y ho hd hcd hmg hobj hints hlen hg=>?_
 have KX:=hY w _ Y
 obtain ⟨fd,hb,hF⟩:=F w mg fa _ KX G.T.g hmg
 exact vE KX G.T.g G.T.b G.T.builtins G.T.nolimit hg hobj hints (Nat.le_trans hlen hn2) hr hF hb (fun H hO hS=>hsp w H a ns hlen hO hS) fun H e s'=>hCX w H s₁ e s'
theorem walk_ofK {l:PySem.W.OpenLaw} {n k:Nat} {q:Program} {loose:List Str} {XP:(Str->Option Value)->Heap->Prop} {YP:World->Heap->Prop} {d:DefRec} {K:Params->PySem.W.Frag} {CX:CXT} {sp:PySem.W.Frag->Sp} {x:Str}
  (hn:l.most=some n) (hn2:n <= sizeLine) (hdf:d.params.defaults=[]) (hr:Room k callerA)
  (hY:∀ (w:World) (h:Heap),YP w h->(K w.params).In h)
  (F:∀ (w:World) (mg:Str->Option Value) (fa:Addr) (h:Heap),(K w.params).In h->h.Ns mainGlobals mg->mg d.name=some (.ref fa) ->
   ∃ fd:FuncData,(∀ (s:Shared) (u:Value),BindsTo s fd ⟨[u],[]⟩ [(x,u)]) /\
    ∀ base:Heap,(K w.params).In base->base.Ns mainGlobals mg->FnOk l.prog w (K w.params) mg base CX k fa fd [x] (sp (K w.params)))
  (hsp:∀ (K:PySem.W.Frag) (H:Hp) (a:Addr) (ns:List Int),ns.length <= n->Only H->SqL K H a (ns.map V.int)->sp K [.ref a] H (fun v _=>v = .bl true) fun _ _ _=>False)
  (hCX:∀ (H:Hp) (s:Shared) (e:Value) (s':Shared),CX [] H s (fun _ _ _=>False) e s'->False) :
  PySem.W.WalkO q loose XP YP l.row.toRowW d [] (fun f vs=>PySem.call f vs) :=
 walk_of (K:=K) (CX:=fun _=>CX) (sp:=fun w=>sp (K w.params)) hn hn2 hdf hr hY F (fun w H a ns h1 h2 h3=>hsp (K w.params) H a ns h1 h2 h3) fun _ H s e s'=>hCX H s e s'
end L2
/- THE LAST THEOREM (shape; LID,My.* are yours):
  My.Adr: a structure of the addresses that your layer names (classes,functions); My.Txt K t: a structure (Prop) of the equations over K;
  My.txt_mk:{K} {implicit addresses ..} (e1:nsIn K mainGlobals "law" = some (some (.ref f))) (e2:K.lookup f = some ⟨oc,od,.func (fnOf "law" "law" params body scope dV kV doc pm an cdv ct),sl⟩) (e3:codeIn K cdv "law" = true) .. : ∃ t,My.Txt K t
set_option maxRecDepth 100000 in
set_option maxHeartbeats 0 in
theorem PySem.Challenge.cw_LID_holds:PySem.Challenge.rw_LID.Holds:=by
 w_on; o_law; k_head; (case hw=>w_witness2)
 k_fill
 refine L2.walk_of (l:=PySem.Challenge.rw_LID) (n:=63) (k:=40) (x:="script") (CX:=fun w=>..) (sp:=fun _=>My.sp_law) rfl (by decide) rfl ⟨rfl,by decide,by decide⟩ (fun w h Y=>PySem.W.kIn_of Y) ?F ?S ?C
 case F =>
  intro w mg fa h KX G hmg
  have T:∃ t,My.Txt (L2.KOf KX) t:=by
   dsimp only [L2.KOf]                          -- K must stand as «<heap const> w.params» for k_is
   refine' My.txt_mk ?e1 ?e2 ?e3 ..
   (case e1=>PySem.W.k_is)                    -- in the order: a name -> its address -> its object -> its parts
   (case e2=>PySem.W.k_is)
   ..
  obtain ⟨t,T⟩:=T
  have e0:=hmg.symm.trans (PySem.W.mg_of KX G T.law)
  cases e0                                       -- fa is the law's own address
  exact ⟨_,fun s u=>.of_eq rfl,fun base kb nb=>My.law_fn T kb nb⟩     -- if «.of_eq rfl» comes too early: refine' ⟨_,?b,fun base kb nb=>My.law_fn T kb nb⟩; exact fun s u=>.of_eq rfl
 case S=>exact fun w H a ns hl hO hS=>..
 case C=>exact ..
(the tactic k_is has no namespace: write k_is) -/
namespace L2
open PySem PySem.Spec PyProof.Rows
def aQ (s:Stmt):Arguments:=match s with
 | .FunctionDef _ a _ _ _ _ _ _ _ _=>a
 | _=>{ posonlyargs:=[],args:=[],vararg:=none,kwonlyargs:=[],kw_defaults:=[],kwarg:=none,defaults:=[] }
def aF (s:Stmt):List Stmt:=match s with
 | .FunctionDef _ _ b _ _ _ _ _ _ _=>b
 | _=>[]
def ag (s:Stmt):Scope:=match s with
 | .FunctionDef _ _ _ _ _ _ sc _ _ _=>sc
 | _=>{ kind:=.function,names:=[],isGenerator:=false,isCoroutine:=false }
abbrev CX0:CXT:=fun _ _ _ _ _ _=>False
abbrev E0:XK:=fun _ _ _=>False
theorem zQ {X:Cx}:sR CX0 X E0:=fun _ _ _ _ _ _ _ h=>h.elim
structure Fun (K:PySem.W.Frag) (x qual:Str) (st:Stmt) (f:Addr) (fd:FuncData):Prop where
 ex:∃ (oc:Value) (od:Option Addr) (kV doc pm:Value) (an:Option Addr) (cdv ct:Value) (osl:Array (Option Value)),
  fd=PySem.W.fnOf x qual (aQ st) (aF st) (ag st) .none kV doc pm an cdv ct /\ K.lookup f=some ⟨oc,od,.func fd,osl⟩ /\ PySem.W.codeIn K cdv qual=true
 kp:PySem.W.keepIn K (.ref f)=true
section
variable {P:Program} {w:World} {K:PySem.W.Frag} {mg:Str->Option Value} {base:Heap}
theorem Fun.ok {x qual:Str} {st:Stmt} {f:Addr} {fd:FuncData} {N ps:List Str} {k:Nat} {sp:Sp} (F:Fun K x qual st f fd) (S:FnScope N ps (ag st)) (len:∀ vs H Q E,sp vs H Q E->vs.length=ps.length)
  (hbody:∀ (cdv:Value) (A:Around) (outer:List Env) (s:Shared) (H:Hp) (vs:List V) (Q:VK) (E:XK),Room k (A.deeper (envOfC qual (ag st) s.heap.objs.size f cdv))->sp vs H Q E ->
   ∃ t,PSs (cxOf CX0 P w K mg base N qual (ag st) f cdv A outer s H E).nox (aF st) t /\ t { nx:=fun _ H'=>Q .non H',rt:=Q } (start N vs) H):FnOk P w K mg base CX0 (k + 1) f fd ps sp:=by
 obtain ⟨oc,od,kV,doc,pm,an,cdv,ct,osl,rfl,lk,hcd⟩:=F.ex
 refine zC lk hcd S len fun A outer s H vs Q E hr hsp=>?_
 obtain ⟨t,h,q⟩:=hbody cdv A outer s H vs Q E hr hsp
 exact ⟨t,h.nox,q⟩
theorem Fun.binds {x qual:Str} {st:Stmt} {f:Addr} {fd:FuncData} {ps:List Str} (F:Fun K x qual st f fd)
  (h:∀ (kV doc pm:Value) (an:Option Addr) (cdv ct:Value) (us:List Value),us.length=ps.length->bindArgs (PySem.W.fnOf x qual (aQ st) (aF st) (ag st) .none kV doc pm an cdv ct) ⟨us,[]⟩=pure (ps.zip us)):Binds K fd ps []:=by
 obtain ⟨oc,od,kV,doc,pm,an,cdv,ct,osl,rfl,lk,hcd⟩:=F.ex
 exact .all (h kV doc pm an cdv ct)
theorem bI {x qual:Str} {st:Stmt} {f:Addr} {oc:Value} {od an:Option Addr} {osl:Array (Option Value)} {kV doc pm cdv ct:Value} (l:K.lookup f=some ⟨oc,od,.func (PySem.W.fnOf x qual (aQ st) (aF st) (ag st) .none kV doc pm an cdv ct),osl⟩)
  (c:PySem.W.codeIn K cdv qual=true) (k:PySem.W.keepIn K (.ref f)=true):Fun K x qual st f (PySem.W.fnOf x qual (aQ st) (aF st) (ag st) .none kV doc pm an cdv ct):=⟨⟨oc,od,kV,doc,pm,an,cdv,ct,osl,rfl,l,c⟩,k⟩
end
section
variable {X:Cx}
theorem pv (i:Nat) {x:Str} {pos:Pos} (hN:X.N[i]? = some x:=by rfl) (hv:Vis X.env.scope x:=by first | exact Or.inl rfl | exact Or.inr (Or.inl rfl) | exact Or.inr (Or.inr rfl)) (hd:(x == ("__debug__" : Str))=false:=by decide)
  (hcd:(x == ("__classdict__" : Str))=false:=by decide):PE X (.Name x pos) (tVar i):=zb hN hv hd hcd
end
theorem iteF {A B:Prop} (h:B):if false=true then A else B:=by
 rw [if_neg Bool.false_ne_true]
 exact h
theorem iteT {A B:Prop} (h:A):if true=true then A else B:=by
 rw [if_pos rfl]
 exact h
theorem ite2 {c A B:Prop} [Decidable c] (h1:c->A) (h2:¬ c->B):if c then A else B:=by
 by_cases h:c
 ·rw [if_pos h]
  exact h1 h
 ·rw [if_neg h]
  exact h2 h
def Same (H H':Hp):Prop:=∀ b o,H b=some o->H' b=some o
end L2
namespace L2
open PySem PySem.Spec PyProof.Rows
section
variable {X:Cx}
end
section
variable {κ:Type} [DecidableEq κ]
end
end L2
namespace L2
open PySem PySem.Spec PyProof.Rows
section
variable {X:Cx} {pos:Pos}
def gLs (K:PySem.W.Frag) (n:Nat) (t:TGs):TG:=fun v σ H Q=>∃ a xs,v = .ref a /\ SqL K H a xs /\ xs.length=n /\ t xs σ H Q
theorem BN {es:List Expr} {k:Nat} {t:TGs} {n:Nat} (hc:X.calm=true) (h:PGs X es t)
  (hn:(assignEach es X.env).length=n:=by rfl) (hst:(assignEach es X.env).findIdx? (·.1)=none:=by rfl):PG X (.Tuple es k pos) (gLs X.K n t):=by
 intro pins s σ H v u Q I r hw
 obtain ⟨a,xs,e1,hq,hl,hw⟩:=hw
 subst e1
 cases r
 obtain ⟨its,rv,pl,hz⟩:=I.list hq
 rw [assign_Tuple]
 refine wpAny_bind (wpAny_standAt ?_)
 unfold unpack
 rw [show (assignEach es X.env).length=its.toArray.size by simp [hn,← hl,rv.length],hst]
 refine wpAny_bind (wpAny_holding (PySem.W.kun_itemsOf (I.ok.hd hc) pl.isList fun h' hx=>?_))
 have I1:Inv X pins σ H { s with heap:=h' }:=I.kept (t':=s.toks) fun b o e=>hx b o (Nat.ne_of_lt (Heap.lt_size e)) e
 exact h pins _ σ H xs _ Q I1 (by simpa using rv) hw
def knV (H:Hp):V->Prop
 | .non=>True | .bl _=>True | .int _=>True | .str _=>True
 | .ref a=>(∃ xs,H a=some (.lst xs))∨(∃ o xs,H a=some (.frz o (.lst xs)))∨(∃ xs,H a=some (.tup xs))∨(∃ kvs,H a=some (.dK kvs))∨(∃ kvs,H a=some (.dT kvs))
 | _=>False
def wB:V->Bool
 | .int _=>true | .bl _=>true | _=>false
def zR:V->Bool
 | .bl _=>true | _=>false
def isTupO:Option HO->Bool
 | some (.tup _)=>true | _=>false
def zS:Option HO->Bool
 | some (.lst _)=>true | some (.frz _ (.lst _))=>true | _=>false
def ba (H:Hp):V->Bool
 | .ref a=>isTupO (H a) | _=>false
def cB (H:Hp):V->Bool
 | .ref a=>zS (H a) | _=>false
theorem bb {K:PySem.W.Frag} {t T:String} {b:Bool}
  (h:(if (Value.type t == Value.type T)=true then some true else if PySem.W.kitMeta T=true then (PySem.fastBuiltinMro t).map (·.contains (.type T)) else none)=some b):PySem.W.kitOne K (.type t) (.type T)=some b:=h
theorem hV {T:String} {f:Hp->V->Bool}
  (hn:∀ (H:Hp),PySem.W.kitOne X.K (.type "NoneType") (.type T)=some (f H .non)) (hb:∀ (H:Hp) c,PySem.W.kitOne X.K (.type "bool") (.type T)=some (f H (.bl c)))
  (hi:∀ (H:Hp) i,PySem.W.kitOne X.K (.type "int") (.type T)=some (f H (.int i))) (hs:∀ (H:Hp) x,PySem.W.kitOne X.K (.type "str") (.type T)=some (f H (.str x)))
  (hl:∀ (H:Hp) a xs,H a=some (.lst xs)->PySem.W.kitOne X.K (.type "list") (.type T)=some (f H (.ref a)))
  (hf:∀ (H:Hp) a o xs,H a=some (.frz o (.lst xs))->PySem.W.kitOne X.K (.type "list") (.type T)=some (f H (.ref a)))
  (ht:∀ (H:Hp) a xs,H a=some (.tup xs)->PySem.W.kitOne X.K (.type "tuple") (.type T)=some (f H (.ref a)))
  (hd:∀ (H:Hp) a kvs,H a=some (.dK kvs)->PySem.W.kitOne X.K (.type "dict") (.type T)=some (f H (.ref a)))
  (hd':∀ (H:Hp) a kvs,H a=some (.dT kvs)->PySem.W.kitOne X.K (.type "dict") (.type T)=some (f H (.ref a))) :
  fA X (.builtin "isinstance") (fun xs H Q=>∃ x,xs=[x,.ty T] /\ knV H x /\ Q (.bl (f H x)) H):=by
 intro pins s σ H xs us Q I r h
 obtain ⟨x,rfl,kn,q⟩:=h
 obtain ⟨u1,u2,rfl,r1,r2⟩:=vq r
 cases r2
 have fin:∀ t,TyOf X.K H x t->PySem.W.kitOne X.K t (.type T)=some (f H x)->wpAny (model X.prog X.w) X.A (call (.builtin "isinstance") [u1,.type T]) (EP X pins σ Q) X.xe s :=
  fun t ty e=>sP I r1 ty e fun tk=>⟨.bl (f H x),H,I.tok tk,rfl,q⟩
 cases x with
 | non=>exact fin _ .non (hn H)
 | bl c=>exact fin _ (.bl c) (hb H c)
 | int i=>exact fin _ (.int i) (hi H i)
 | str y=>exact fin _ (.str y) (hs H y)
 | ref a =>
  rcases kn with ⟨ys,e⟩ | ⟨o,ys,e⟩ | ⟨ys,e⟩ | ⟨ys,e⟩ | ⟨ys,e⟩
  ·exact fin _ (.lst e) (hl H a ys e)
  ·exact fin _ (.frz e) (hf H a o ys e)
  ·exact fin _ (.tup e) (ht H a ys e)
  ·exact fin _ (.dK e) (hd H a ys e)
  ·exact fin _ (.dT e) (hd' H a ys e)
 | _=>exact kn.elim
theorem jH {K:PySem.W.Frag}:PySem.W.kitOne K (.type "NoneType") (.type "int")=some false:=bb (by decide +kernel)
theorem oQ {K:PySem.W.Frag}:PySem.W.kitOne K (.type "bool") (.type "int")=some true:=bb (by decide +kernel)
theorem rO {K:PySem.W.Frag}:PySem.W.kitOne K (.type "int") (.type "int")=some true:=bb (by decide +kernel)
theorem rP {K:PySem.W.Frag}:PySem.W.kitOne K (.type "str") (.type "int")=some false:=bb (by decide +kernel)
theorem jI {K:PySem.W.Frag}:PySem.W.kitOne K (.type "list") (.type "int")=some false:=bb (by decide +kernel)
theorem nB {K:PySem.W.Frag}:PySem.W.kitOne K (.type "tuple") (.type "int")=some false:=bb (by decide +kernel)
theorem jJ {K:PySem.W.Frag}:PySem.W.kitOne K (.type "dict") (.type "int")=some false:=bb (by decide +kernel)
theorem jc {K:PySem.W.Frag}:PySem.W.kitOne K (.type "NoneType") (.type "bool")=some false:=bb (by decide +kernel)
theorem nC {K:PySem.W.Frag}:PySem.W.kitOne K (.type "bool") (.type "bool")=some true:=bb (by decide +kernel)
theorem oR {K:PySem.W.Frag}:PySem.W.kitOne K (.type "int") (.type "bool")=some false:=bb (by decide +kernel)
theorem oS {K:PySem.W.Frag}:PySem.W.kitOne K (.type "str") (.type "bool")=some false:=bb (by decide +kernel)
theorem iO {K:PySem.W.Frag}:PySem.W.kitOne K (.type "list") (.type "bool")=some false:=bb (by decide +kernel)
theorem lR {K:PySem.W.Frag}:PySem.W.kitOne K (.type "tuple") (.type "bool")=some false:=bb (by decide +kernel)
theorem iP {K:PySem.W.Frag}:PySem.W.kitOne K (.type "dict") (.type "bool")=some false:=bb (by decide +kernel)
theorem dN {K:PySem.W.Frag}:PySem.W.kitOne K (.type "NoneType") (.type "tuple")=some false:=bb (by decide +kernel)
theorem gE {K:PySem.W.Frag}:PySem.W.kitOne K (.type "bool") (.type "tuple")=some false:=bb (by decide +kernel)
theorem iQ {K:PySem.W.Frag}:PySem.W.kitOne K (.type "int") (.type "tuple")=some false:=bb (by decide +kernel)
theorem iR {K:PySem.W.Frag}:PySem.W.kitOne K (.type "str") (.type "tuple")=some false:=bb (by decide +kernel)
theorem cL {K:PySem.W.Frag}:PySem.W.kitOne K (.type "list") (.type "tuple")=some false:=bb (by decide +kernel)
theorem fG {K:PySem.W.Frag}:PySem.W.kitOne K (.type "tuple") (.type "tuple")=some true:=bb (by decide +kernel)
theorem cM {K:PySem.W.Frag}:PySem.W.kitOne K (.type "dict") (.type "tuple")=some false:=bb (by decide +kernel)
theorem jd {K:PySem.W.Frag}:PySem.W.kitOne K (.type "NoneType") (.type "list")=some false:=bb (by decide +kernel)
theorem nD {K:PySem.W.Frag}:PySem.W.kitOne K (.type "bool") (.type "list")=some false:=bb (by decide +kernel)
theorem oU {K:PySem.W.Frag}:PySem.W.kitOne K (.type "int") (.type "list")=some false:=bb (by decide +kernel)
theorem oV {K:PySem.W.Frag}:PySem.W.kitOne K (.type "str") (.type "list")=some false:=bb (by decide +kernel)
theorem iS {K:PySem.W.Frag}:PySem.W.kitOne K (.type "list") (.type "list")=some true:=bb (by decide +kernel)
theorem lS {K:PySem.W.Frag}:PySem.W.kitOne K (.type "tuple") (.type "list")=some false:=bb (by decide +kernel)
theorem iT {K:PySem.W.Frag}:PySem.W.kitOne K (.type "dict") (.type "list")=some false:=bb (by decide +kernel)
theorem oW:fA X (.builtin "isinstance") (fun xs H Q=>∃ x,xs=[x,.ty "int"] /\ knV H x /\ Q (.bl (wB x)) H) :=
 hV (f:=fun _ x=>wB x) (fun _=>jH) (fun _ _=>oQ) (fun _ _=>rO) (fun _ _=>rP) (fun _ _ _ _=>jI) (fun _ _ _ _ _=>jI) (fun _ _ _ _=>nB) (fun _ _ _ _=>jJ) (fun _ _ _ _=>jJ)
theorem nE:fA X (.builtin "isinstance") (fun xs H Q=>∃ x,xs=[x,.ty "bool"] /\ knV H x /\ Q (.bl (zR x)) H) :=
 hV (f:=fun _ x=>zR x) (fun _=>jc) (fun _ _=>nC) (fun _ _=>oR) (fun _ _=>oS) (fun _ _ _ _=>iO) (fun _ _ _ _ _=>iO) (fun _ _ _ _=>lR) (fun _ _ _ _=>iP) (fun _ _ _ _=>iP)
theorem lT:fA X (.builtin "isinstance") (fun xs H Q=>∃ x,xs=[x,.ty "tuple"] /\ knV H x /\ Q (.bl (ba H x)) H) :=
 hV (f:=ba) (fun _=>dN) (fun _ _=>gE) (fun _ _=>iQ) (fun _ _=>iR) (fun H a xs e=>by simp only [ba,e,isTupO]; exact cL) (fun H a o xs e=>by simp only [ba,e,isTupO]; exact cL) (fun H a xs e=>by simp only [ba,e,isTupO]; exact fG) (fun H a xs e=>by simp only [ba,e,isTupO]; exact cM) (fun H a xs e=>by simp only [ba,e,isTupO]; exact cM)
def Big (i:Int):Prop:=i.natAbs.log2 < 8000
theorem wC {i:Int} (h:i.natAbs < 2 ^ 8000):Big i:=by
 unfold Big
 rcases Nat.eq_zero_or_pos i.natAbs with h0 | hp
 ·rw [h0]; decide
 ·exact (Nat.log2_lt (Nat.ne_of_gt hp)).mpr h
theorem Big.bits {i:Int} (h:Big i):Builtin.Int.intBits i <= 8000:=by
 unfold Builtin.Int.intBits
 unfold Big at h
 split
 ·exact Nat.zero_le _
 ·omega
def CMulB (i j:Int):Prop:=(-(2 ^ 64) < i /\ i < 2 ^ 64)∨(-(2 ^ 64) < j /\ j < 2 ^ 64)∨(Big i /\ Big j)
theorem CMulB.ok {i j:Int} (h:CMulB i j):IntMulOk i j:=by
 rcases h with ⟨h1,h2⟩ | ⟨h1,h2⟩ | ⟨h1,h2⟩
 ·exact .of_left (intBits_le_64 h1 h2)
 ·exact .of_right (intBits_le_64 h1 h2)
 ·have b1:=h1.bits
  have b2:=h2.bits
  unfold IntMulOk
  have:Builtin.Int.intTooBig (Builtin.Int.intBits i + Builtin.Int.intBits j)=false:=by
   unfold Builtin.Int.intTooBig
   refine decide_eq_false ?_
   have e:bitsLine=134217728:=by decide
   rw [e]
   omega
  rw [this]
  simp
theorem hZ:OpR X (binaryOp .Mult) (rI CMulB fun i j=>.int (i * j)):=opI fun _ _ _ _ _ _ _ hc q=>mul_int q hc.ok
def zT (_ j:Int):Prop:=0 < j /\ Big j
theorem lU:OpR X (binaryOp .FloorDiv) (rI zT fun i j=>.int (i / j)):=opI fun i j _ _ _ _ _ hc q=>by
 have h1:(0:Int) < j:=hc.1
 exact floordiv_int (by omega) (by rw [Int.fdiv_eq_ediv_of_nonneg i (by omega)]; exact q) (.inl (PyProof.noPylong_of_log2 (Nat.lt_trans hc.2 (by decide))))
end
structure Df (K:PySem.W.Frag) (mg:Str->Option Value) (x:Str) (st:Stmt) (ps:List Str) (f:Addr) (fd:FuncData):Prop where
 F:Fun K x x st f fd
 m:mg x=some (.ref f)
 b:Binds K fd ps []
def SBut (p:Addr) (H H':Hp):Prop:=∀ b o,b≠p->H b=some o->H' b=some o
theorem SBut.trans {p:Addr} {H H1 H2:Hp} (x:SBut p H H1) (y:SBut p H1 H2):SBut p H H2:=fun b o n e=>y b o n (x b o n e)
theorem SBut.upd {p:Addr} {H:Hp} {o:HO}:SBut p H (upd H p o):=fun b u n e=>by rw [aj n]; exact e
theorem qm {q:Addr} {H:Hp} {o:HO} (h:H q=none):Same H (upd H q o):=fun b u e=>by rw [aj (bR e h)]; exact e
theorem ic {H:Hp} {p q:Addr} {o u:HO} (h:H p=none) (e:H q=some u):upd H p o q=some u:=by rw [aj (bR e h)]; exact e
def Scr (K:PySem.W.Frag) (H:Hp) (a:Addr) (ns:List Int):Prop:=(∃ o,H a=some (.frz o (.lst (ns.map V.int))))∨∀ H',SqL K H' a (ns.map V.int)
theorem Scr.sq {K:PySem.W.Frag} {H:Hp} {a:Addr} {ns:List Int} (h:Scr K H a ns):SqL K H a (ns.map V.int):=by
 rcases h with ⟨o,h⟩ | h
 ·exact .inl (.inr ⟨o,h⟩)
 ·exact h H
theorem zU {K:PySem.W.Frag} {H:Hp} {a:Addr} {ns:List Int} (h1:Only H) (h:SqL K H a (ns.map V.int)):Scr K H a ns:=by
 rcases h with (h | ⟨o,h⟩) | h
 ·rcases h1 a with z | ⟨o,xs,z⟩
  ·rw [z] at h; cases h
  ·rw [z] at h; cases h
 ·exact .inl ⟨o,h⟩
 ·exact .inr fun H'=>.inr h
structure Pen (K:PySem.W.Frag) (H:Hp) (p a:Addr) (ns:List Int) (t l:Int):Prop where
 lst:H p=some (.lst [.ref a,.int t,.int l])
 scr:Scr K H a ns
 t0:0 <= t
theorem Pen.put {K:PySem.W.Frag} {H:Hp} {p a:Addr} {ns:List Int} {t l t' l':Int} (h:Pen K H p a ns t l) (h0:0 <= t'):Pen K (upd H p (.lst [.ref a,.int t',.int l'])) p a ns t' l':=by
 refine ⟨ak,?_,h0⟩
 rcases h.scr with ⟨o,e⟩ | e
 ·refine .inl ⟨o,?_⟩
  rw [aj (kL e h.lst (by intro z; cases z))]
  exact e
 ·exact .inr e
theorem Pen.same {K:PySem.W.Frag} {H H':Hp} {p a:Addr} {ns:List Int} {t l:Int} (h:Pen K H p a ns t l) (s:Same H H'):Pen K H' p a ns t l:=by
 refine ⟨s _ _ h.lst,?_,h.t0⟩
 rcases h.scr with ⟨o,e⟩ | e
 ·exact .inl ⟨o,s _ _ e⟩
 ·exact .inr e
theorem tE {ns:List Int} {i:Int} (h0:0 <= i) (h:i < (ns.length:Int)):atI (ns.map V.int) i=some (.int (ns.getD i.toNat 0)):=by
 obtain ⟨j,rfl⟩:=Int.eq_ofNat_of_zero_le h0
 have hj:j < ns.length:=by omega
 refine oN ?_
 simp [List.getElem?_map,hj]
end L2
namespace L2
open PySem PySem.Spec PyProof.Rows
section
variable {X:Cx} {pos:Pos}
def BO:R2:=fun x y H Q=>∃ p xs i v,x = .ref p /\ y = .int i /\ H p=some (.tup xs) /\ atI xs i=some v /\ Q v H
def BP:R2:=fun x y H Q=>∃ p xs i v,x = .ref p /\ y = .int i /\ H p=some (.lst xs) /\ atI xs i=some v /\ Q v H
theorem xM:IxR X BO:=fun value slice pins s σ H x y v u Q I rx ry ⟨p,xs,i,z,e1,e2,h,e3,q⟩ hs=>zG value slice pins s σ H x y v u Q I rx ry ⟨p,xs,i,z,e1,e2,SqT.of h,e3,q⟩ hs
theorem vF:IxR X BP:=fun value slice pins s σ H x y v u Q I rx ry ⟨p,xs,i,z,e1,e2,h,e3,q⟩ hs=>lM value slice pins s σ H x y v u Q I rx ry ⟨p,xs,i,z,e1,e2,SqL.of h,e3,q⟩ hs
def lenO:Option HO->Option Nat
 | some (.lst xs)=>some xs.length | some (.tup xs)=>some xs.length | _=>none
def BQ:List V->Hp->VK->Prop:=fun xs H Q=>∃ p n,xs=[.ref p] /\ lenO (H p)=some n /\ Q (.int n) H
theorem tF:fA X (.builtin "len") BQ:=by
 intro pins s σ H xs us Q I r h
 obtain ⟨p,n,rfl,e,q⟩:=h
 cases o:H p with
 | none=>rw [o] at e; cases e
 | some ob =>
  rw [o] at e
  cases ob with
  | lst ys=>cases e; exact cA pins s σ H _ us Q I r ⟨p,ys,rfl,.inl (SqL.of o),q⟩
  | tup ys=>cases e; exact cA pins s σ H _ us Q I r ⟨p,ys,rfl,.inr (SqT.of o),q⟩
  | _=>cases e
def gLsH (n:Nat) (t:TGs):TG:=fun v σ H Q=>∃ a xs,v = .ref a /\ H a=some (.lst xs) /\ xs.length=n /\ t xs σ H Q
theorem zV {es:List Expr} {k:Nat} {t:TGs} {n:Nat} (hc:X.calm=true) (h:PGs X es t)
  (hn:(assignEach es X.env).length=n:=by rfl) (hst:(assignEach es X.env).findIdx? (·.1)=none:=by rfl):PG X (.Tuple es k pos) (gLsH n t) :=
 fun pins s σ H v u Q I r ⟨a,xs,e1,e2,e3,q⟩=>BN hc h hn hst pins s σ H v u Q I r ⟨a,xs,e1,SqL.of e2,e3,q⟩
def BR (n:Nat) (t:TGs):TG:=fun v σ H Q=>∃ a xs,v = .ref a /\ H a=some (.tup xs) /\ xs.length=n /\ t xs σ H Q
theorem xN {es:List Expr} {k:Nat} {t:TGs} {n:Nat} (hc:X.calm=true) (h:PGs X es t)
  (hn:(assignEach es X.env).length=n:=by rfl) (hst:(assignEach es X.env).findIdx? (·.1)=none:=by rfl):PG X (.Tuple es k pos) (BR n t) :=
 fun pins s σ H v u Q I r ⟨a,xs,e1,e2,e3,q⟩=>zn hc h hn hst pins s σ H v u Q I r ⟨a,xs,e1,SqT.of e2,e3,q⟩
end
end L2
namespace L2
open PySem PySem.Spec PyProof.Rows
def tG (K:PySem.W.Frag):Sp:=fun vs H Q _=>∃ (p a:Addr) (ns:List Int) (t l m:Int),vs=[.ref p,.int m] /\ Pen K H p a ns t l /\ 1 <= m /\ m <= 10 ^ 60 /\
 ∀ (r t' l':Int) (H':Hp),0 <= r->r < m->Pen K H' p a ns t' l'->SBut p H H'->Q (.int r) H'
def wD (K:PySem.W.Frag):Sp:=fun vs H Q _=>∃ (a:Addr) (ns:List Int),vs=[.ref a] /\ Scr K H a ns /\ ∀ (p:Addr) (H':Hp),H p=none->Pen K H' p a ns 0 0->Same H H'->Q (.ref p) H'
theorem lV {x d y:Int} (h0:0 < d) (h:d <= 18446744073709551616):CMulB (x % d) y:=by
 have h1:=Int.emod_nonneg x (show d≠0 by omega)
 have h2:=Int.emod_lt_of_pos x h0
 exact .inl ⟨by omega,by omega⟩
theorem vG {c y:Int} (h : -18446744073709551616 < c /\ c < 18446744073709551616:=by decide):CMulB c y:=.inl h
theorem zW {c y:Int} (h : -18446744073709551616 < c /\ c < 18446744073709551616:=by decide):CMulB y c:=.inr (.inl h)
theorem mpos {c:Int} (h:0 < c:=by decide):0 < c:=h
theorem tH {c:Int} (h0:0 <= c) (h:c <= 10 ^ 60):Big c:=wC (Nat.lt_of_lt_of_le (Nat.lt_of_le_of_lt (show c.natAbs <= 10 ^ 60 by omega) (show 10 ^ 60 < 2 ^ 200 by decide)) (Nat.pow_le_pow_right (by decide) (by decide)))
theorem jK {c:Int} (h0:0 <= c) (h:c <= 18446744073709551616):Big c:=wC (Nat.lt_of_lt_of_le (Nat.lt_of_le_of_lt (show c.natAbs <= 18446744073709551616 by omega) (show 18446744073709551616 < 2 ^ 65 by decide)) (Nat.pow_le_pow_right (by decide) (by decide)))
end L2
namespace Ra
end Ra
namespace L2
open PySem PySem.Spec PyProof.Rows
def du (cells:List (Str×Addr)):List (Str×NameKind)->List (Str×Addr)->Option (List (Str×Addr))
 | [],cs=>some cs
 | (n,k)::r,cs=>if k == .free then (match cells.lookup n with
  | some c=>du cells r ((n,c)::cs)
  | none=>none) else du cells r cs
theorem gF {scope:Scope} {env:Env} {cl:List (Str×Addr)} (h:du env.cells scope.names []=some cl):closureFor scope env=pure cl:=by
 simp only [closureFor]
 generalize ([]:List (Str×Addr))=cs at h ⊢
 generalize scope.names=l at h ⊢
 induction l generalizing cs with
 | nil=>cases h; rfl
 | cons a r ih =>
  obtain ⟨n,k⟩:=a
  unfold du at h
  rw [List.forIn_cons]
  by_cases hk:(k == NameKind.free)=true
  ·rw [if_pos hk] at h
   cases e:env.cells.lookup n with
   | none=>rw [e] at h; cases h
   | some c =>
    rw [e] at h
    have:=ih _ h
    simp only [hk,if_true,cellOf,e,pure_bind]
    exact this
  ·rw [if_neg hk] at h
   have:=ih _ h
   simp only [hk,Bool.false_eq_true,if_false,pure_bind]
   exact this
theorem ie {cells cl:List (Str×Addr)}:∀ {l:List (Str×NameKind)} {cs:List (Str×Addr)},du cells l cs=some cl->(∀ y c,cs.lookup y=some c->cells.lookup y=some c)->∀ y c,cl.lookup y=some c->cells.lookup y=some c
 | [],cs,h,hs,y,c,e=>by cases h; exact hs y c e
 | (n,k)::r,cs,h,hs,y,c,e=>by
  unfold du at h
  by_cases hk:(k == NameKind.free)=true
  ·rw [if_pos hk] at h
   cases q:cells.lookup n with
   | none=>rw [q] at h; cases h
   | some c' =>
    rw [q] at h
    refine ie h (fun z d hz=>?_) y c e
    by_cases hzn:(z == n)=true
    ·rw [List.lookup_cons,hzn] at hz
     cases hz
     rw [eq_of_beq hzn]; exact q
    ·rw [List.lookup_cons,(Bool.not_eq_true _).mp hzn] at hz
     exact hs z d hz
  ·rw [if_neg hk] at h
   exact ie h hs y c e
theorem fj {cells cl:List (Str×Addr)}:∀ {l:List (Str×NameKind)} {cs:List (Str×Addr)},du cells l cs=some cl->∀ y,((y,NameKind.free)∈l∨∃ c,cs.lookup y=some c)->∃ c,cl.lookup y=some c
 | [],cs,h,y,e=>by
  cases h
  rcases e with e | e
  ·simp at e
  ·exact e
 | (n,k)::r,cs,h,y,e=>by
  unfold du at h
  by_cases hk:(k == NameKind.free)=true
  ·rw [if_pos hk] at h
   cases q:cells.lookup n with
   | none=>rw [q] at h; cases h
   | some c' =>
    rw [q] at h
    refine fj h y ?_
    rcases e with e | ⟨c,e⟩
    ·rcases List.mem_cons.mp e with e | e
     ·cases e
      exact .inr ⟨c',by rw [List.lookup_cons,beq_self_eq_true]⟩
     ·exact .inl e
    ·by_cases hyn:(y == n)=true
     ·exact .inr ⟨c',by rw [List.lookup_cons,hyn]⟩
     ·exact .inr ⟨c,by rw [List.lookup_cons,(Bool.not_eq_true _).mp hyn]; exact e⟩
  ·rw [if_neg hk] at h
   refine fj h y ?_
   rcases e with e | e
   ·rcases List.mem_cons.mp e with e | e
    ·cases e
     exact absurd rfl hk
    ·exact .inl e
   ·exact .inr e
inductive Cap (X:Cx) (scope:Scope):List Str->List (Option Nat)->Prop where
 | nil:Cap X scope [] []
 | own {x:Str} {N:List Str} {js:List (Option Nat)} (h:Cap X scope N js):Cap X scope (x::N) (none::js)
 | cap {x:Str} {j:Nat} {N:List Str} {js:List (Option Nat)} (h1:X.N[j]? = some x) (h2:X.env.kindOf x=some .cell∨X.env.kindOf x=some .free)
   (h3:scope.names.lookup x=some .free) (h:Cap X scope N js):Cap X scope (x::N) (some j::js)
def sub1 (σ:St):Option Nat->Option V
 | none=>none
 | some j=>(σ[j]?).join
def sub (js:List (Option Nat)) (σ:St):St:=js.map (sub1 σ)
theorem Cap.len {X:Cx} {scope:Scope} {N:List Str} {js:List (Option Nat)} (h:Cap X scope N js):js.length=N.length:=by induction h <;> simp [*]
theorem Cap.at {X:Cx} {scope:Scope} {N:List Str} {js:List (Option Nat)} (h:Cap X scope N js):∀ {i:Nat} {x:Str} {σ:St} {v:V},N[i]? = some x->(sub js σ)[i]? = some (some v) ->
  ∃ j:Nat,X.N[j]? = some x /\ σ[j]? = some (some v) /\ (X.env.kindOf x=some .cell∨X.env.kindOf x=some .free) /\ scope.names.lookup x=some .free:=by
 induction h with
 | nil=>intro i x σ v h; simp at h
 | own h ih =>
  intro i x σ v h1 h2
  cases i with
  | zero=>simp [sub,sub1] at h2
  | succ i=>exact ih (by simpa using h1) (by simpa [sub] using h2)
 | @cap x j N js k1 k2 k3 h ih =>
  intro i y σ v h1 h2
  cases i with
  | zero =>
   simp at h1
   subst h1
   simp [sub,sub1] at h2
   refine ⟨j,k1,?_,k2,k3⟩
   cases q:σ[j]? with
   | none=>rw [q] at h2; simp at h2
   | some o=>rw [q] at h2; simp at h2; rw [h2]
  | succ i=>exact ih (by simpa using h1) (by simpa [sub] using h2)
def dv (X:Cx) (scope:Scope) (cl:List (Str×Addr)) (C:Addr) (N':List Str) (s₃:Shared) (H₃:Hp) (fp:List Addr) (pins:List (Addr×Obj)):Cx :=
 { X with N:=N',s₀:=s₃,H₀:=H₃,env:=compEnvC scope cl C X.env,outer:=X.stack,ex:=fp,fn:=fun y=>scope.names.lookup y == some .cell,pn:=X.pn++pins,xe:=fun _ _=>False }
structure Blk where
 C:Addr
 s3:Shared
 H3:Hp
 fp:List Addr
 pins:List (Addr×Obj)
abbrev cxB (X:Cx) (scope:Scope) (cl:List (Str×Addr)) (N':List Str) (B:Blk):Cx:=dv X scope (cellsFrom (B.C + 1) scope.names cl) B.C N' B.s3 B.H3 B.fp B.pins
def PTs (X:Cx) (ifs:List Expr) (t:TT):Prop :=
 ∀ (pins:List (Addr×Obj)) (s:Shared) (σ:St) (H:Hp) (Q:Bool->Hp->Prop),Inv X pins σ H s->t σ H Q ->
  wpAny (model X.prog X.w) X.A (forIn ifs true fun c r=>if r=true then do let ok ← isTrue c X.env (eval c X.env); pure (ForInStep.yield ok) else pure (ForInStep.yield r)) (TP X pins σ Q) X.xe s
def xO:TT:=fun _ H Q=>Q true H
theorem xP {X:Cx}:PTs X [] xO:=fun _ _ _ H _ I h=>wpAny_tests_nil ⟨H,I,h⟩
theorem xQ {X:Cx} {c:Expr} {t:TT} (h:PT X c t):PTs X [c] t:=fun pins s σ H Q I q=>wpAny_tests_one (h pins s σ H Q I q)
def xR (wi:TI) (js:List (Option Nat)) (g:Blk->TG) (tc:Blk->TT) (te:Blk->TE):TE:=fun σ H Q=>wi σ H fun J H1=>∀ (B:Blk) D,H1 D=none->∃ W:Nat->Nat->St->Hp->Prop,(∃ m,W 0 m (sub js σ) (upd H1 D (.lst []))) /\ ∀ i m σ' H',W i m σ' H' ->
 (J.stop i H' /\ Q (.ref D) H')∨(J.go i H' /\ ∃ N:St->Hp->Prop,(∀ σ2 H2,N σ2 H2->∃ m',m' < m /\ W (i + 1) m' σ2 H2) /\ ∀ y H2,J.yld i H' y H2->g B y σ' H2 fun σ3 H3=>tc B σ3 H3 fun b H4 =>
  if b=true then te B σ3 H4 fun v H5=>∃ ys,H5 D=some (.lst ys) /\ ys.length < sizeLine /\ N σ3 (upd H5 D (.lst (ys++[v]))) else N σ3 H4)
theorem nF {scope:Scope} {env:Env} {y:Str} (h:(relabel scope env).names.lookup y=some .cell∨(relabel scope env).names.lookup y=some .free):(y,NameKind.free)∈scope.names∨(y,NameKind.cell)∈scope.names:=by
 have key:∀ k,(y,k)∈(relabel scope env).names->(k = .cell∨k = .free)->(y,NameKind.free)∈scope.names∨(y,NameKind.cell)∈scope.names:=by
  intro k hm hk
  obtain ⟨⟨n,q⟩,hn,e⟩:=List.mem_map.mp hm
  dsimp only at e
  split at e
  ·rename_i c
   simp only [Bool.and_eq_true] at c
   have:q = .free:=eq_of_beq c.1.1
   subst this
   cases e
   exact .inl hn
  ·cases e
   rcases hk with rfl | rfl
   ·exact .inr hn
   ·exact .inl hn
 rcases h with h | h
 ·exact key _ (PySem.mem_of_lookup h) (.inl rfl)
 ·exact key _ (PySem.mem_of_lookup h) (.inr rfl)
theorem jL {scope:Scope} {env:Env} {y:Str} (h:scope.names.lookup y=some .free):(relabel scope env).names.lookup y=some .cell∨(relabel scope env).names.lookup y=some .free:=by
 show (List.lookup y (scope.names.map _))=_∨(List.lookup y (scope.names.map _))=_
 generalize scope.names=l at h
 induction l with
 | nil=>simp at h
 | cons a r ih =>
  obtain ⟨n,k⟩:=a
  rw [List.lookup_cons] at h
  rw [List.map_cons]
  cases e:y == n with
  | true =>
   rw [e] at h
   cases h
   dsimp only
   split
   ·left; rw [List.lookup_cons,e]
   ·right; rw [List.lookup_cons,e]
  | false =>
   rw [e] at h
   dsimp only
   split <;> (rw [List.lookup_cons,e]; exact ih h)
theorem bC:∀ (names:List (Str×NameKind)) (n:Nat) (acc:List (Str×Addr)),cellsFrom n names acc=cellsFrom n names []++acc
 | [],_,_=>rfl
 | (x,k)::r,n,acc=>by
  unfold cellsFrom
  split
  ·rw [bC r (n + 1) ((x,n)::acc),bC r (n + 1) [(x,n)],List.append_assoc]; rfl
  ·exact bC r n acc
theorem dG:∀ (names:List (Str×NameKind)) (n:Nat) (y:Str) (c:Addr),(y,c)∈cellsFrom n names []->(y,NameKind.cell)∈names
 | [],_,_,_,h=>(nomatch h)
 | (x,k)::r,n,y,c,h=>by
  unfold cellsFrom at h
  split at h
  ·rename_i hk
   rw [bC] at h
   rcases List.mem_append.mp h with h | h
   ·exact List.mem_cons_of_mem _ (dG r _ y c h)
   ·have e:=List.mem_singleton.mp h
    cases e
    rw [show k = .cell from eq_of_beq hk]
    exact List.mem_cons_self
  ·exact List.mem_cons_of_mem _ (dG r _ y c h)
theorem gG:∀ {l:List (Str×Addr)} {y:Str} {c:Addr},(y,c)∈l->∃ d,l.lookup y=some d
 | (x,k)::r,y,c,h=>by
  rw [List.lookup_cons]
  cases e:y == x with
  | true=>exact ⟨_,rfl⟩
  | false =>
   rcases List.mem_cons.mp h with h | h
   ·cases h; simp at e
   ·exact gG h
theorem eg:∀ (names:List (Str×NameKind)) (n:Nat) (y:Str),(y,NameKind.cell)∈names->∃ c,(y,c)∈cellsFrom n names []
 | (x,k)::r,n,y,h=>by
  unfold cellsFrom
  split
  ·rw [bC]
   rcases List.mem_cons.mp h with h | h
   ·cases h
    exact ⟨n,List.mem_append_right _ (List.mem_singleton.mpr rfl)⟩
   ·obtain ⟨c,q⟩:=eg r (n + 1) y h
    exact ⟨c,List.mem_append_left _ q⟩
  ·rename_i hk
   rcases List.mem_cons.mp h with h | h
   ·cases h; exact absurd rfl hk
   ·exact eg r n y h
theorem dO {l r:List (Str×Addr)} {y:Str} {c:Addr} (h:(l++r).lookup y=some c):l.lookup y=some c∨(l.lookup y=none /\ r.lookup y=some c):=by
 rw [List.lookup_append] at h
 cases e:l.lookup y with
 | none=>rw [e] at h; exact .inr ⟨rfl,h⟩
 | some d=>rw [e] at h; exact .inl h
theorem jM {l r:List (Str×Addr)} {y:Str} {c:Addr} (h:l.lookup y=some c):(l++r).lookup y=some c:=by rw [List.lookup_append,h]; rfl
theorem jN {l r:List (Str×Addr)} {y:Str} (h:l.lookup y=none):(l++r).lookup y=r.lookup y:=by rw [List.lookup_append,h]; rfl
theorem je {M:Model} {A:Around} {E:Value->Shared->Prop} {s:Shared} {scope:Scope} {globals:Addr} {cl:List (Str×Addr)} {qual:Str} {outer:Env} {Q:Env->Shared->Prop}
  (h:∀ h₁:Heap,h₁.Ns s.heap.objs.size (fun _=>none)->(∀ b o,s.heap.get? b=some o->h₁.get? b=some o)->CellsOk h₁ (s.heap.objs.size + 1) (cellsFrom (s.heap.objs.size + 1) scope.names []) ->
   Q (newEnv scope s.heap.objs.size globals (cellsFrom (s.heap.objs.size + 1) scope.names cl) qual none .none (some outer) builtinsNs) { s with heap:=h₁ }) :
  wpAny M A (newFunctionEnv scope globals cl [] qual none .none (some outer)) Q E s:=by
 simp only [newFunctionEnv,Option.isSome_some,if_true]
 refine wpAny_bind (wpAny_alloc ?_)
 refine wpAny_bind (wpAny_layCells _ (fun name kind cells=>by cases hkc:kind == NameKind.cell <;> simp [hkc]) _ _ _ _ ?_)
 have ok:=cellsFrom_ok scope.names (s.heap.push { cls:=.type "dict",data:=.dict #[] }) (s.heap.objs.size + 1) [] ⟨fun _ _ hm=>(nomatch hm),List.Pairwise.nil⟩ (by rw [Heap.size_push]; exact Nat.le_refl _)
 rw [Heap.size_push] at ok
 rw [show ({ s with heap:=s.heap.push { cls:=.type "dict",data:=.dict #[] } }:Shared).heap.objs.size=s.heap.objs.size + 1 from Heap.size_push ..]
 rw [List.forIn_nil]
 exact wpAny_bind (wpAny_pure (wpAny_pure (h _ ((Heap.Ns.new s.heap (.type "dict")).keeps (pushCells_keeps _ _)) (fun b o e=>pushCells_keeps _ _ b o (Heap.get?_push_of_some _ e)) ok)))
section
variable {X:Cx} {pins:List (Addr×Obj)} {σ:St} {H:Hp} {s:Shared} {scope:Scope} {cl:List (Str×Addr)} {N':List Str} {js:List (Option Nat)}
theorem vH {fp:List Addr} {h₁:Heap} (I:Inv X pins σ H s) (hclo:du X.env.cells scope.names []=some cl) (hdis:∀ y∈scope.names,y.2 = .free->(y.1,NameKind.cell)∉scope.names) (hkind:scope.kind = .function) (cap:Cap X scope N' js)
  (hf:∀ b∈fp,FpOk X pins H b) (ho:∀ b∈fp,∃ o,s.heap.get? b=some o)
  (hns:h₁.Ns s.heap.objs.size (fun _=>none)) (hk:∀ b o,s.heap.get? b=some o->h₁.get? b=some o) (cok:CellsOk h₁ (s.heap.objs.size + 1) (cellsFrom (s.heap.objs.size + 1) scope.names [])) {t':Nat} :
  Inv (dv X scope (cellsFrom (s.heap.objs.size + 1) scope.names cl) s.heap.objs.size N' s H fp pins) [] (sub js σ) H { s with heap:=h₁,toks:=t' }:=by
 have sb:=ie hclo (fun y c e=>by simp at e)
 rw [bC]
 generalize hnw:cellsFrom (s.heap.objs.size + 1) scope.names []=nw at cok ⊢
 have nk:∀ y c,(y,c)∈nw->(y,NameKind.cell)∈scope.names:=fun y c h=>by rw [← hnw] at h; exact dG _ _ y c h
 have nh:∀ y,(y,NameKind.cell)∈scope.names->∃ c,nw.lookup y=some c:=fun y h=>by
  obtain ⟨c,q⟩:=eg scope.names (s.heap.objs.size + 1) y h
  rw [hnw] at q
  exact gG q
 have ng:∀ y c,nw.lookup y=some c->h₁.IsCell c none /\ s.heap.objs.size + 1 <= c:=fun y c h=>cok.empty y c (PySem.mem_of_lookup h)
 have old:∀ y c,cl.lookup y=some c->c < s.heap.objs.size:=fun y c h=>by
  obtain ⟨v,o,q1,q2⟩:=I.cell y c (sb y c h)
  exact Heap.lt_size q1
 have nf:∀ y,(y,NameKind.free)∈scope.names->nw.lookup y=none:=fun y h=>by
  cases e:nw.lookup y with
  | none=>rfl
  | some c=>exact absurd (nk y c (PySem.mem_of_lookup e)) (hdis _ h rfl)
 refine ⟨⟨I.ok.mod,hkind,I.ok.glob,I.ok.blt,Nat.le_refl _,fun y z c h1 h2=>?_,fun y hy=>?_,fun y c z h=>?_,I.ok.hd,I.ok.frames,.inl rfl,fun b hb=>⟨?_,fun y c h=>?_⟩,I.bs,Nat.le_trans I.ok.bsz I.sz,fun b o e hb=>?_,fun b hb=>?_,I.stack,I.stkFree⟩,
  rfl,I.bare,Un.kept hk,⟨_,hns,fun i y v h1 h2 h3=>?_⟩,fun y c h=>?_,I.hok.fresh (Nat.le_refl _),fun y c h=>?_,fun p hp=>?_,I.hok.kept hk,?_⟩
 ·rcases dO h1 with a | ⟨_,a⟩ <;> rcases dO h2 with b | ⟨_,b⟩
  ·exact name_of_addr cok.apart (PySem.mem_of_lookup a) (PySem.mem_of_lookup b)
  ·exact absurd (Nat.lt_of_lt_of_le (old z c b) (Nat.le_of_succ_le (ng y c a).2)) (Nat.lt_irrefl _)
  ·exact absurd (Nat.lt_of_lt_of_le (old y c a) (Nat.le_of_succ_le (ng z c b).2)) (Nat.lt_irrefl _)
  ·exact I.ok.inj y z c (sb y c a) (sb z c b)
 ·show ∃ c,(nw++cl).lookup y=some c
  rcases nF hy with q | q
  ·obtain ⟨c,e⟩:=fj hclo y (.inl q)
   exact ⟨c,by rw [jN (nf y q)]; exact e⟩
  ·obtain ⟨c,e⟩:=nh y q
   exact ⟨c,jM e⟩
 ·have z:(y,NameKind.cell)∈scope.names:=PySem.mem_of_lookup (eq_of_beq z)
  obtain ⟨d,e⟩:=nh y z
  have h:(nw++cl).lookup y=some c:=h
  rw [jM e] at h
  have h:d=c:=Option.some.inj h
  rw [← h]
  exact Nat.le_of_succ_le (ng y d e).2
 ·obtain ⟨o,e⟩:=ho b hb
  exact Nat.ne_of_lt (Heap.lt_size e)
 ·rcases dO h with a | ⟨_,a⟩
  ·obtain ⟨o,e⟩:=ho b hb
   rintro rfl
   exact absurd (Nat.lt_of_lt_of_le (Heap.lt_size e) (Nat.le_of_succ_le (ng y c a).2)) (Nat.lt_irrefl _)
  ·exact (hf b hb).2.2.2.2.1 y c (sb y c a)
 ·have fb:=hf b hb
  rcases fb.2.2.2.1 with z | z
  ·exact I.ok.noex b o e z
  ·have h1:b < X.base.objs.size:=Heap.lt_size e
   exact absurd (Nat.lt_of_lt_of_le h1 (Nat.le_trans I.ok.bsz z)) (Nat.lt_irrefl _)
 ·intro z
  have:=I.stkSub b z
  rcases List.mem_cons.mp this with z | z
  ·exact (hf b hb).2.1 z
  ·exact (hf b hb).2.2.1 z
 ·obtain ⟨j,k1,k2,k3,k4⟩:=cap.at h1 h2
  obtain ⟨m,hm,hl⟩:=I.loc
  have vis:Vis X.env.scope y:=by
   rcases k3 with k | k
   ·exact .inr (.inl k)
   ·exact .inr (.inr k)
  obtain ⟨u,r,lk⟩:=hl j y v k1 k2 vis
  refine ⟨u,r,.inr ⟨jL k4,?_⟩⟩
  have q4:(y,NameKind.free)∈scope.names:=PySem.mem_of_lookup k4
  rcases lk with ⟨k5,_⟩ | ⟨_,c,e1,e2⟩
  ·rcases k3 with k | k <;> (rw [k] at k5; cases k5)
  ·obtain ⟨c',e3⟩:=fj hclo y (.inl q4)
   have:=sb y c' e3
   rw [e1] at this
   cases this
   refine ⟨c,by show (nw++cl).lookup y=some c; rw [jN (nf y q4)]; exact e3,?_⟩
   obtain ⟨o,q1,q2⟩:=e2
   exact ⟨o,hk _ _ q1,q2⟩
 ·rcases dO h with a | ⟨_,a⟩
  ·exact ⟨_,(ng y c a).1⟩
  ·obtain ⟨v,o,q1,q2⟩:=I.cell y c (sb y c a)
   exact ⟨v,o,hk _ _ q1,q2⟩
 ·rcases dO h with a | ⟨_,a⟩
  ·exact I.hok.fresh (Nat.le_of_succ_le (ng y c a).2)
  ·exact I.freeC y c (sb y c a)
 ·have hp:p∈X.pn++pins:=by simpa [dv] using hp
  obtain ⟨q1,q2,q3,q4,q5⟩:=I.pin p hp
  refine ⟨hk _ _ q1,q2,Nat.ne_of_lt (Heap.lt_size q1),fun z=>?_,q5⟩
  have:=I.stkSub p.1 z
  rcases List.mem_cons.mp this with z | z
  ·exact q3 z
  ·exact q4 z
 ·simp [sub,cap.len]; rfl
theorem zX {fs ex:List Addr} {H:Hp} {h h':Heap} {C:Addr} (hC:C∈ex) (hs:Heap.SameBut C h h'):Un fs ex H H h h' where
 keep:=fun b o e _ _ nx=>by rw [hs.2 b (by rintro rfl; exact nx hC)]; exact e
 slot:=fun b o e _ _ nx=>⟨o.slots,by rw [hs.2 b (by rintro rfl; exact nx hC)]; exact e⟩
 free:=fun b o _ n _=>n
 there:=fun b o e nx=>⟨o,by rw [hs.2 b (by rintro rfl; exact nx hC)]; exact e⟩
 tups:=fun _ _ h=>h
 frzs:=fun _ _ _ h=>h
 tbls:=fun b ps h=>⟨#[],by simpa using h⟩
theorem Inv.but {C:Addr} {h':Heap} (I:Inv X pins σ H s) (f:FpOk X pins H C) (hs:Heap.SameBut C s.heap h'):Inv X pins σ H { s with heap:=h' }:=by
 refine I.call' (s':={ s with heap:=h' }) (ch:=[C]) rfl (zX List.mem_cons_self hs) ?_ I.bare (fun b hb=>?_)
 ·intro a o e
  refine ObjOk.stay (I.hok a o e) (fun b u hb q=>?_) (fun _ h=>h) (fun _ _ h=>h)
  show h'.get? b=some u
  rw [hs.2 b]
  ·exact q
  ·rintro rfl
   rcases hb with rfl | hb
   ·rw [f.1] at e; cases e
   ·rw [f.1] at hb; cases hb
 ·have:b=C:=by simpa using hb
  subst this
  exact ⟨f.2.2.2.1,f.2.1,f.2.2.2.2.1,f.2.2.2.2.2⟩
variable {elt iter:Expr} {x:Str} {px pos:Pos} {ifs:List Expr} {wi:TI} {g:TG} {tc:TT} {te:TE} {Q:VK} {gB:Blk->TG} {tcB:Blk->TT} {teB:Blk->TE}
theorem tI {prog:Program} {w:World} {A:Around} {R:Result->Shared->Prop} {e tg it0:Expr} {cs:List Expr} {sc:Scope} {ps:Pos} {itv av:Value} {cenv:Env} {z:Shared} (J:Nat->Shared->Prop)
  (turn:∀ k z,J k z->wpAny (model prog w) A (pyNext itv) (fun r z1=>match r with
   | none=>R (.ok .next) z1
   | some u=>wpAny (model prog w) A (letOwnedTupleGo tg itv u) (fun _ z2=>wpAny (model prog w) A (assign tg cenv u) (fun _ z3 =>
     wpAny (model prog w) A (forIn cs true fun c r=>if r=true then do let ok ← isTrue c cenv (eval c cenv); pure (ForInStep.yield ok) else pure (ForInStep.yield r)) (fun b z4 =>
      if b=true then wpAny (model prog w) A (eval e cenv) (fun y z5 =>
       wpAny (model prog w) A (call (.builtin "list.append") [av,y]) (fun _ z6=>∃ m,m < k /\ J m z6) (fun _ _=>False) z5) (fun _ _=>False) z4
      else ∃ m,m < k /\ J m z4) (fun _ _=>False) z3) (fun _ _=>False) z2) (fun _ _=>False) z1) (fun _ _=>False) z)
  (k:Nat) (h:J k z):codeAny (model prog w) A (.compLoop (.ListComp e [⟨tg,it0,cs,0⟩] sc ps) 0 itv av cenv) R z:=by
 have no:∀ {α:Type} {m:Sem α} {P:α->Shared->Prop} {E:Value->Shared->Prop} {z:Shared},wpAny (model prog w) A m P (fun _ _=>False) z->wpAny (model prog w) A m P E z:=fun h=>wpAny_mono h (fun _ _ q=>q) fun _ _ q=>q.elim
 refine codeAny_loop rfl J (fun k z hJ=>?_) k h
 show wpAny _ A ((compTurn (.ListComp e [⟨tg,it0,cs,0⟩] sc ps) 0 itv av cenv).onRaise (fun x=>do noteFrame x cenv; theTreesLotGoes x)) _ _ z
 refine wpAny_noted ?_
 rw [compTurn_list]
 refine wpAny_bind (wpAny_standAt (wpAny_bind (no (thn (turn k z hJ) fun r z1 q1=>?_))))
 cases r with
 | none=>exact wpAny_pure q1
 | some u =>
  refine wpAny_bind (no (thn q1 fun _ z2 q2=>wpAny_bind (no (thn q2 fun _ z3 q3=>wpAny_bind (no (thn q3 fun b z4 q4=>?_))))))
  cases b with
  | false=>exact wpAny_pure ⟨rfl,q4⟩
  | true=>exact wpAny_bind (wpAny_bind (no (thn q4 fun y z5 q5=>wpAny_bind (no (thn q5 fun _ z6 q6=>wpAny_pure (wpAny_pure ⟨rfl,q6⟩))))))
theorem rQ {RR:Value->Addr->Result->Shared->Prop} {s3:Shared} {H3:Hp} {D it:Addr} {fp:List Addr} {tn:Nat->Heap->Prop} {J:It} {W:Nat->Nat->St->Hp->Prop} {m0 t':Nat} {h₁:Heap} {tg:Expr}
  (hc:X.calm=true) (hclo:du X.env.cells scope.names []=some cl) (hdis:∀ y∈scope.names,y.2 = .free->(y.1,NameKind.cell)∉scope.names) (hkind:scope.kind = .function) (cap:Cap X scope N' js)
  (hb:PG (dv X scope (cellsFrom (s3.heap.objs.size + 1) scope.names cl) s3.heap.objs.size N' s3 H3 fp pins) tg g /\ PTs (dv X scope (cellsFrom (s3.heap.objs.size + 1) scope.names cl) s3.heap.objs.size N' s3 H3 fp pins) ifs tc /\ PE (dv X scope (cellsFrom (s3.heap.objs.size + 1) scope.names cl) s3.heap.objs.size N' s3 H3 fp pins) elt te)
  (I3:Inv X pins σ H3 s3) (T:Turn X.prog X.w X.K tg J fp it tn) (st3:tn 0 s3.heap) (f3:∀ b∈fp,FpOk X pins H3 b) (w0:W 0 m0 (sub js σ) H3)
  (turn:∀ i m σ' H',W i m σ' H'->(J.stop i H' /\ Q (.ref D) H')∨(J.go i H' /\ ∃ N:St->Hp->Prop,(∀ σ2 H2,N σ2 H2->∃ m',m' < m /\ W (i + 1) m' σ2 H2) /\ ∀ y H2,J.yld i H' y H2->g y σ' H2 fun σ3 H3=>tc σ3 H3 fun b H4 =>
   if b=true then te σ3 H4 fun v H5=>∃ ys,H5 D=some (.lst ys) /\ ys.length < sizeLine /\ N σ3 (upd H5 D (.lst (ys++[v]))) else N σ3 H4))
  (hns:h₁.Ns s3.heap.objs.size (fun _=>none)) (hk:∀ b o,s3.heap.get? b=some o->h₁.get? b=some o) (cok:CellsOk h₁ (s3.heap.objs.size + 1) (cellsFrom (s3.heap.objs.size + 1) scope.names []))
  (hR:∀ s' H' m,Inv X pins σ H' s'->FpOk X pins H' s3.heap.objs.size->s'.heap.Ns s3.heap.objs.size m->Q (.ref D) H'->RR (.ref D) s3.heap.objs.size (.ok .next) s') :
  codeAny (model X.prog X.w) X.A (.compStart (.ListComp elt [⟨tg,iter,ifs,0⟩] scope pos) 0 (.ref it) (.ref D) (compEnvC scope (cellsFrom (s3.heap.objs.size + 1) scope.names cl) s3.heap.objs.size X.env)) (RR (.ref D) s3.heap.objs.size) { s3 with heap:=h₁,toks:=t' }:=by
 have ob3:∀ b∈fp,∃ o,s3.heap.get? b=some o:=fun b hb=>let ⟨o,e,_⟩:=T.obj _ _ st3 b hb; ⟨o,e⟩
 have I0:Inv (dv X scope (cellsFrom (s3.heap.objs.size + 1) scope.names cl) s3.heap.objs.size N' s3 H3 fp pins) [] (sub js σ) H3 { s3 with heap:=h₁,toks:=t' }:=vH I3 hclo hdis hkind cap f3 ob3 hns hk cok
 have tn0:tn 0 h₁:=T.keep _ _ _ st3 fun b _ o e=>hk b o e
 have hC:FpOk X pins H3 s3.heap.objs.size:=I3.fpOk (Nat.le_refl _) (I3.hok.fresh (Nat.le_refl _))
 obtain ⟨bg,bt,be⟩:=hb
 have stat:∀ {H':Hp},(∀ b∈fp,H' b=none)->∀ b∈fp,FpOk (dv X scope (cellsFrom (s3.heap.objs.size + 1) scope.names cl) s3.heap.objs.size N' s3 H3 fp pins) [] H' b:=fun {H'} hn b hb=>by
  obtain ⟨o,e⟩:=ob3 b hb
  refine ⟨hn b hb,Nat.ne_of_lt (Heap.lt_size e),I0.ok.exfs b hb,.inl hb,fun y c h=>(I0.ok.exf b hb).2 y c h,fun p hp=>?_⟩
  exact (f3 b hb).2.2.2.2.2 p (by simpa [dv] using hp)
 have loop:codeAny (model X.prog X.w) X.A (.compLoop (.ListComp elt [⟨tg,iter,ifs,0⟩] scope pos) 0 (.ref it) (.ref D) (compEnvC scope (cellsFrom (s3.heap.objs.size + 1) scope.names cl) s3.heap.objs.size X.env)) (RR (.ref D) s3.heap.objs.size) { s3 with heap:=h₁,toks:=t' }:=by
  refine tI (fun n s'=>∃ i σ' H',Inv (dv X scope (cellsFrom (s3.heap.objs.size + 1) scope.names cl) s3.heap.objs.size N' s3 H3 fp pins) [] σ' H' s' /\ tn i s'.heap /\ (∀ b∈fp,H' b=none) /\ W i n σ' H') (fun n s4 hJ=>?_) m0 ⟨0,sub js σ,H3,I0,tn0,fun b hb=>(f3 b hb).1,w0⟩
  obtain ⟨i,σ4,H4,I4,st4,fr4,w4⟩:=hJ
  rcases turn i n σ4 H4 w4 with ⟨stop,q⟩ | ⟨go,N,hN,step⟩
  ·refine thn (T.done (dv X scope (cellsFrom (s3.heap.objs.size + 1) scope.names cl) s3.heap.objs.size N' s3 H3 fp pins) rfl rfl rfl hc i [] s4 σ4 H4 _ I4 (stat fr4) st4 stop) fun r s5 ⟨hr,I5⟩=>?_
   subst hr
   have u:Un (frs X.stack) fp H3 H4 s3.heap s5.heap:=I5.base
   have free:H4 s3.heap.objs.size=none:=I5.free
   have back:Inv X pins σ H4 s5:=by
    refine I3.call' (s':=s5) (ch:=s3.heap.objs.size::fp) I5.os (u.mono (fun _ h=>h) fun b h=>List.mem_cons_of_mem _ h) I5.hok I5.bare (fun b hb=>?_)
    rcases List.mem_cons.mp hb with rfl | hb
    ·exact ⟨hC.2.2.2.1,hC.2.1,hC.2.2.2.2.1,hC.2.2.2.2.2⟩
    ·have:=f3 b hb
     exact ⟨this.2.2.2.1,this.2.1,this.2.2.2.2.1,this.2.2.2.2.2⟩
   obtain ⟨m,hm,_⟩:=I5.loc
   exact hR s5 H4 m back ⟨free,hC.2⟩ hm q
  ·refine thn (T.item (dv X scope (cellsFrom (s3.heap.objs.size + 1) scope.names cl) s3.heap.objs.size N' s3 H3 fp pins) rfl rfl rfl hc i [] s4 σ4 H4 _ I4 (stat fr4) st4 go) fun r s5 ⟨u,hr,h5⟩=>?_
   subst hr
   refine thn h5 fun _ s6 ⟨y,H6,I6,r6,y6,st6,fr6⟩=>?_
   have I6':=I6.pinned (stat fr6) (T.obj _ _ st6)
   refine thn (bg _ s6 σ4 H6 y u _ I6' r6 (step y H6 y6)) fun _ s7 ⟨σ7,H7,I7,q7⟩=>?_
   refine thn (bt _ s7 σ7 H7 _ I7 q7) fun b s8 ⟨H8,I8,q8⟩=>?_
   have again:∀ {H':Hp} {s':Shared},Inv (dv X scope (cellsFrom (s3.heap.objs.size + 1) scope.names cl) s3.heap.objs.size N' s3 H3 fp pins) ([]++nc fp s6.heap) σ7 H' s'->N σ7 H'->∃ m,m < n /\ ∃ i σ' H',Inv (dv X scope (cellsFrom (s3.heap.objs.size + 1) scope.names cl) s3.heap.objs.size N' s3 H3 fp pins) [] σ' H' s' /\ tn i s'.heap /\ (∀ b∈fp,H' b=none) /\ W i m σ' H':=fun {H' s'} I9 n9=>by
    obtain ⟨m',hm,w9⟩:=hN σ7 H' n9
    refine ⟨m',hm,i + 1,σ7,H',I9.unpinned,T.keep _ _ _ st6 fun b hb o e=>(I9.pin (b,o) (List.mem_append_right _ (List.mem_append_right _ (fi hb e)))).1,fun b hb=>?_,w9⟩
    obtain ⟨o,e,d⟩:=T.obj _ _ st6 b hb
    exact (I9.pin (b,o) (List.mem_append_right _ (List.mem_append_right _ (fi hb e)))).2.1
   cases b with
   | false=>exact iteF (again I8 q8)
   | true =>
    refine iteT (thn (be _ s8 σ7 H8 _ I8 q8) fun yv s9 ⟨v9,H9,I9,r9,ys,hD,hl,n9⟩=>?_)
    exact thn (jF _ s9 σ7 H9 (.ref D) [v9] (.ref D) [yv] (fun _ H'=>H'=upd H9 D (.lst (ys++[v9]))) I9 rfl (.cons r9 .nil) ⟨D,ys,v9,rfl,rfl,hD,hl,rfl⟩) fun _ s10 ⟨_,H10,I10,_,e10⟩=>by
     subst e10
     exact again I10 n9
 exact codeAny_compStart_list loop (T.self _ 0 _ _ _ tn0 loop)
theorem qo {RR:Value->Addr->Result->Shared->Prop} {tg:Expr} (hc:X.calm=true) (hclo:du X.env.cells scope.names []=some cl) (hdis:∀ y∈scope.names,y.2 = .free->(y.1,NameKind.cell)∉scope.names) (hkind:scope.kind = .function) (cap:Cap X scope N' js)
  (hi:PI X tg iter wi)
  (hb:∀ B:Blk,PG (cxB X scope cl N' B) tg (gB B) /\ PTs (cxB X scope cl N' B) ifs (tcB B) /\ PE (cxB X scope cl N' B) elt (teB B))
  (I:Inv X pins σ H s) (h:xR wi js gB tcB teB σ H Q)
  (hR:∀ D C s' H' m,Inv X pins σ H' s'->FpOk X pins H' C->s'.heap.Ns C m->Q (.ref D) H'->RR (.ref D) C (.ok .next) s') :
  wpAny (model X.prog X.w) X.A (eval iter X.env) (fun v s1=>wpAny (model X.prog X.w) X.A (pyIter v) (fun it s2=>wpAny (model X.prog X.w) X.A (newList []) (fun acc s3 =>
   wpAny (model X.prog X.w) X.A (newFunctionEnv scope X.env.globals cl [] X.env.qual none .none (some X.env)) (fun cenv s4 =>
    codeAny (model X.prog X.w) X.A (.compStart (.ListComp elt [⟨tg,iter,ifs,0⟩] scope pos) 0 it acc { cenv with scope:=relabel scope X.env }) (RR acc cenv.locals) s4) X.xe s3) X.xe s2) X.xe s1) X.xe s:=by
 refine thn (hi pins s σ H _ I h) fun v s1 h1=>thn h1 fun itv s2 h2=>?_
 obtain ⟨it,fp,tn,J,H2,e,I2,T,st2,f2,h2⟩:=h2
 subst e
 have hD0:H2 s2.heap.objs.size=none:=I2.hok.fresh (Nat.le_refl _)
 obtain ⟨W,⟨m0,w0⟩,turn⟩:=h2 ⟨(s2.heap.push { cls:=.type "list",data:=.seq ([]:List Value).toArray }).objs.size,{ s2 with heap:=s2.heap.push { cls:=.type "list",data:=.seq ([]:List Value).toArray } },upd H2 s2.heap.objs.size (.lst []),fp,pins⟩ s2.heap.objs.size hD0
 refine wpAny_newObj_type (je (fun h₁ hns₁ hk₁ cok₁=>?_))
 have I3:Inv X pins σ (upd H2 s2.heap.objs.size (.lst [])) { s2 with heap:=s2.heap.push { cls:=.type "list",data:=.seq ([]:List Value).toArray } }:=I2.lnew .nil (Nat.zero_le _)
 refine rQ (s3:={ s2 with heap:=s2.heap.push { cls:=.type "list",data:=.seq ([]:List Value).toArray } }) (cl:=cl) (fp:=fp) hc hclo hdis hkind cap (hb ⟨(s2.heap.push { cls:=.type "list",data:=.seq ([]:List Value).toArray }).objs.size,{ s2 with heap:=s2.heap.push { cls:=.type "list",data:=.seq ([]:List Value).toArray } },upd H2 s2.heap.objs.size (.lst []),fp,pins⟩) I3 T ?_ (fun b hb=>?_) w0 turn hns₁ hk₁ cok₁ (fun s' H' m=>hR _ _ s' H' m)
 ·exact T.keep _ _ _ st2 fun b _ o e=>Heap.get?_push_of_some _ e
 ·have:=f2 b hb
  obtain ⟨o,e,_⟩:=T.obj _ _ st2 b hb
  exact ⟨by show upd H2 s2.heap.objs.size (.lst []) b=none; rw [aj (Nat.ne_of_lt (Heap.lt_size e))]; exact this.1,this.2⟩
theorem xS {tg:Expr} (hc:X.calm=true) (hclo:du X.env.cells scope.names []=some cl) (hdis:∀ y∈scope.names,y.2 = .free->(y.1,NameKind.cell)∉scope.names) (hkind:scope.kind = .function) (cap:Cap X scope N' js)
  (hnames:∀ y∈scope.names,y.2 = .local->scope.names.lookup y.1=some .local) (hi:PI X tg iter wi)
  (hb:∀ B:Blk,PG (cxB X scope cl N' B) tg (gB B) /\ PTs (cxB X scope cl N' B) ifs (tcB B) /\ PE (cxB X scope cl N' B) elt (teB B))
  (hs:∀ v,foldedSetIterable iter X.env v=pure v:=by intro _; rfl):PE X (.ListComp elt [⟨tg,iter,ifs,0⟩] scope pos) (xR wi js gB tcB teB):=by
 intro pins s σ H Q I h
 rw [eval_ListComp]
 refine wpAny_comprehension_free (use:=none) rfl hs (gF hclo) hkind hnames (qo (RR:=fun acc C=>compPost (model X.prog X.w) X.A X.xe none (EP X pins σ Q) acc C) hc hclo hdis hkind cap hi hb I h ?_)
 intro D C s' H' m I' f hm q
 exact ⟨m,hm,fun h' hs'=>⟨.ref D,H',I'.but f hs',rfl,q⟩⟩
theorem xT {tg:Expr} {i:Nat} {y:Str} {py spos:Pos} (hN:X.N.Nodup) (hy:X.N[i]? = some y) (hl:X.env.scope.names.lookup y=some .local) (hc:X.calm=true) (hclo:du X.env.cells scope.names []=some cl) (hdis:∀ y∈scope.names,y.2 = .free->(y.1,NameKind.cell)∉scope.names) (hkind:scope.kind = .function) (cap:Cap X scope N' js)
  (hnames:∀ y∈scope.names,y.2 = .local->scope.names.lookup y.1=some .local) (hi:PI X tg iter wi)
  (hb:∀ B:Blk,PG (cxB X scope cl N' B) tg (gB B) /\ PTs (cxB X scope cl N' B) ifs (tcB B) /\ PE (cxB X scope cl N' B) elt (teB B))
  (hsw:swapsWith (.ListComp elt [⟨tg,iter,ifs,0⟩] scope pos) (some (.Name y py)) spos.line X.env=pure true:=by rfl)
  (hs:∀ v,foldedSetIterable iter X.env v=pure v:=by intro _; rfl):PS X (.Assign [.Name y py] (.ListComp elt [⟨tg,iter,ifs,0⟩] scope pos) spos) (tAsg (xR wi js gB tcB teB) (sJ i)):=by
 intro pins s σ H D I h
 rw [exec_Assign_Name_used _ _ _ _ hsw]
 refine wpAny_bind (wpAny_standAt (wpAny_bind ?_))
 show wpAny _ X.A (do let _ ← comprehension (.ListComp elt [⟨tg,iter,ifs,0⟩] scope pos) scope X.env _ (newList []) false (eval iter X.env) (some (assign (.Name y py) X.env))) _ _ s
 refine wpAny_bind (thn (wpAny_comprehension_free (use:=some (assign (.Name y py) X.env)) (Q:=fun _ s'=>SP X pins D .next s') rfl hs (gF hclo) hkind hnames
  (qo (RR:=fun acc C=>compPost (model X.prog X.w) X.A X.xe (some (assign (.Name y py) X.env)) (fun _ s'=>SP X pins D .next s') acc C) hc hclo hdis hkind cap hi hb I h ?_)) fun _ s' q=>wpAny_pure (wpAny_pure q))
 intro Dl C s' H' m I' f hm q
 show wpAny _ X.A (assign (.Name y py) X.env (.ref Dl)) _ _ _
 refine wpAny_assign_Name (mV I' hN hy (.inl hl) (v:=.ref Dl) rfl (fun s2 I2 hch=>?_) (.inr hl))
 obtain ⟨a,hsb,ha⟩:=hch
 have hCa:C≠a:=by
  rcases ha with rfl | ha
  ·exact f.2.1
  ·exact fun z=>f.2.2.2.2.1 y a ha z.symm
 refine ⟨m,hm.sameBut hsb hCa,fun h' hs'=>⟨_,H',I2.but f hs',q⟩⟩
end
end L2
namespace L2
open PySem PySem.Spec PyProof.Rows
def DictAt (e:Addr) (dd:Option Addr) (h:Heap):Prop:=∃ o,h.get? e=some o /\ o.dict=dd
def Tame {α:Type}:Sem α->Prop
 | .pure _=>True
 | .raise _=>True
 | .unsupported _=>True
 | .finish _=>True
 | .rule _ k=>Tame (k ())
 | .at _ k=>Tame (k ())
 | .load _ _ k=>∀ o,Tame (k o)
 | .update _ _ f k=>(∀ o,(f o).dict=o.dict /\ (f o).isFreed=o.isFreed) /\ Tame (k ())
 | .alloc _ k=>∀ a,Tame (k a)
 | .loadIfAlive _ k=>∀ o,Tame (k o)
 | .point _ k=>Tame (k ())
 | .register _ _=>True
 | .fresh k=>∀ t,Tame (k t)
 | .ask k=>∀ x,Tame (k x)
 | .choose _ _ k=>∀ x,Tame (k x)
 | .os _ _ k=>∀ x,Tame (k x)
 | .call _ _ _ _ _=>False
 | .handled _ k=>∀ x,Tame (k x)
 | .newGen _ k=>∀ x,Tame (k x)
 | .genState _ k=>∀ x,Tame (k x)
 | .resume _ _ _ _=>False
 | .yield _ _ _ _=>True
 | .stack k=>∀ x,Tame (k x)
 | .fork _ _=>True
 | .thread k=>∀ x,Tame (k x)
 | .await _ _ _ _ _=>True
theorem aG {α β:Type} {m:Sem α} {f:α->Sem β} (h:Tame m) (hf:∀ a,Tame (f a)):Tame (m >>= f):=by
 show Tame (m.bind f)
 induction m with
 | pure a=>exact hf a
 | raise | unsupported | finish | register | yield | fork | await=>exact trivial
 | call | resume=>exact h.elim
 | rule _ k ih | «at» _ k ih | point _ k ih=>exact ih _ h
 | load _ _ k ih | alloc _ k ih | loadIfAlive _ k ih | fresh k ih | ask k ih | choose _ _ k ih | os _ _ k ih | handled _ k ih | newGen _ k ih | genState _ k ih | stack k ih | thread k ih=>exact fun x=>ih x (h x)
 | update a _ g k ih=>exact ⟨h.1,ih _ h.2⟩
theorem DictAt.push {e:Addr} {dd:Option Addr} {h:Heap} {o:Obj} (x:DictAt e dd h):DictAt e dd (h.push o):=let ⟨u,a,b⟩:=x; ⟨u,Heap.get?_push_of_some _ a,b⟩
theorem DictAt.upd {e a:Addr} {dd:Option Addr} {h:Heap} {f:Obj->Obj} (x:DictAt e dd h) (hf:∀ o,(f o).dict=o.dict /\ (f o).isFreed=o.isFreed):DictAt e dd (h.update a f):=by
 obtain ⟨u,q,b⟩:=x
 by_cases z:a=e
 ·subst z
  exact ⟨f u,Heap.get?_update_self f q (by rw [(hf u).2]; exact (Heap.get?_some_iff.mp q).2),by rw [(hf u).1]; exact b⟩
 ·exact ⟨u,by rw [Heap.get?_update_other _ _ z]; exact q,b⟩
theorem xU {α:Type} {M:Model} {Γ:PySem.Ctx} {t:Sem α} {e:Addr} {dd:Option Addr} {Q:α->Pos->Shared->Prop} {E:Value->Pos->Shared->Prop} (ht:Tame t):∀ {p:Pos} {s:Shared},DictAt e dd s.heap->Sem.wp M Γ t Q E p s ->
  Sem.wp M Γ t (fun a p' s'=>Q a p' s' /\ DictAt e dd s'.heap) (fun v p' s'=>E v p' s' /\ DictAt e dd s'.heap) p s:=by
 induction t with
 | pure | raise=>exact fun hd h=>⟨h,hd⟩
 | unsupported | finish | yield | fork | await | register=>exact fun _ h=>h
 | call | resume=>exact ht.elim
 | rule _ k ih | «at» _ k ih | point _ k ih=>exact fun hd h=>ih _ ht hd h
 | alloc _ k ih=>exact fun hd h=>ih _ (ht _) hd.push h
 | loadIfAlive _ k ih | fresh k ih | ask k ih | os _ _ k ih | handled _ k ih | newGen _ k ih | stack k ih | thread k ih=>exact fun hd h=>ih _ (ht _) hd h
 | load a _ k ih | genState a k ih=>exact fun hd ⟨o,ho,h⟩=>⟨o,ho,ih _ (ht _) hd h⟩
 | choose _ _ k ih=>exact fun hd ⟨a,h⟩=>⟨a,ih _ (ht _) hd h⟩
 | update a _ f k ih=>exact fun hd ⟨a,h⟩=>⟨a,ih _ ht.2 (hd.upd ht.1) h⟩
theorem rR {α:Type} {M:Model} {A:Around} {t:Sem α} {e:Addr} {dd:Option Addr} {Q:α->Shared->Prop} {E:Value->Shared->Prop} {s:Shared} (ht:Tame t) (hd:DictAt e dd s.heap) (h:wpAny M A t Q E s) :
  wpAny M A t (fun a s'=>Q a s' /\ DictAt e dd s'.heap) (fun v s'=>E v s' /\ DictAt e dd s'.heap) s:=fun Γ p hΓ=>xU ht hd (h Γ p hΓ)
theorem ce {α:Type} {M:Model} {A:Around} {t:Sem α} {e:Addr} {dd:Option Addr} {Q:α->Shared->Prop} {E:Value->Shared->Prop} {s:Shared} (ht:Tame t) (hd:DictAt e dd s.heap)
  (h:wpAny M A t (fun a s'=>DictAt e dd s'.heap->Q a s') E s):wpAny M A t Q E s :=
 wpAny_mono (rR ht hd h) (fun _ _ q=>q.1 q.2) fun _ _ q=>q.1
section
theorem cN {α:Type} {c:Prop} [Decidable c] {a b:Sem α} (h1:Tame a) (h2:Tame b):Tame (if c then a else b):=by split <;> assumption
theorem fk {v:Value} {i:Nat}:Tame (field v i):=by
 unfold field
 refine aG ?_ fun xs=>?_
 ·unfold fieldsOf
  split
  ·exact fun o=>by dsimp only [Bind.bind,Sem.bind]; split <;> exact trivial
  ·exact trivial
 ·split <;> exact trivial
theorem ig (f:Array Value->Array Value) (o:Obj):(Obj.mapFields f o).dict=o.dict /\ (Obj.mapFields f o).isFreed=o.isFreed:=by
 obtain ⟨c,d,dt,sl⟩:=o
 cases dt <;> exact ⟨rfl,rfl⟩
theorem eh {v x:Value} {i:Nat}:Tame (setField v i x):=by
 unfold setField
 split
 ·unfold updateField
  refine aG (fun o=>trivial) fun o=>?_
  split
  ·exact cN ⟨ig _,trivial⟩ trivial
  ·exact trivial
 ·exact trivial
theorem bJ {e:Value} {f:Option Addr}:Tame (setFlight e f):=by
 unfold setFlight
 exact aG fk fun tb=>cN eh trivial
theorem kM {ty:String} {vs:List Value}:Tame (newFields ty vs):=by
 unfold newFields newObj
 dsimp only
 have h:Tame (newObjAsIs (.type ty) (.fields vs.toArray)):=by
  unfold newObjAsIs
  exact fun a=>trivial
 exact cN trivial h
theorem lW {env:Env} {outer:List Env}:Tame (behindIsImport env outer):=by
 unfold behindIsImport
 refine cN trivial (cN trivial (aG fk fun _=>trivial))
theorem tJ {env:Env} {b:Bool}:∀ l:List Env,Tame (keptBack env b l)
 | []=>by
  unfold keptBack underTheClaimsCaller
  exact cN trivial (fun _=>trivial)
 | c::_=>trivial
theorem kY:∀ l:List Env,Tame (readyFrames l)
 | []=>trivial
 | env::outer=>by
  have ih:=kY outer
  unfold readyFrames
  split
  ·refine aG (fun o=>trivial) fun o=>?_
   refine cN trivial (aG lW fun b=>aG (tJ _) fun back=>?_)
   exact aG (m:=update _ _) ⟨fun o=>⟨rfl,by obtain ⟨c,d,dt,sl⟩:=o; cases dt <;> rfl⟩,trivial⟩ fun _=>ih
  ·exact trivial
theorem lX:∀ l:List Env,Tame (frameObject l)
 | []=>trivial
 | e::l=>by
  unfold frameObject
  exact aG (kY _) fun _=>trivial
theorem nG {env:Env}:Tame (PySem.frameOf env):=by
 unfold PySem.frameOf PySem.frameEnvs
 refine aG (aG (fun x=>trivial) fun x=>trivial) fun r=>aG (lX _) fun o=>?_
 split <;> exact trivial
theorem jO {f:Addr} {b:Bool}:Tame (entryPlaceOf f b):=by
 unfold entryPlaceOf
 refine aG (fun x=>trivial) fun acts=>?_
 split <;> exact trivial
theorem fH {e:Value} {env:Env}:Tame (noteFrame e env):=by
 have hn:∀ (f:Addr) (head:Value),Tame (do let a ← PySem.frameOf env; let pl ← entryPlaceOf f (head != .none); let b ← EntryCells.newEntry head a .none (rawInt f) .none pl; setField e 1 b):=fun f head =>
  aG nG fun _=>aG jO fun _=>aG kM fun _=>eh
 unfold noteFrame
 split
 ·rename_i f _
  refine aG fk fun head=>?_
  refine cN ?_ (hn f head)
  refine aG fk fun v=>cN trivial (aG eh fun _=>hn f head)
 ·exact trivial
theorem nH {e:Value} {env:Env}:Tame (leaving env e):=aG fH fun _=>bJ
end
end L2
namespace L2
open PySem PySem.Spec PyProof.Rows
section
variable {P:Program} {w:World} {H:Hp} {h:Heap} {a:Addr} {o:HO}
theorem ObjOk.there (x:ObjOk P w H h a o):∃ u,h.get? a=some u:=by
 cases o with
 | lst xs=>obtain ⟨_,_,_,_,e⟩:=x; exact ⟨_,e⟩
 | tup xs=>obtain ⟨_,_,_,_,e,_⟩:=x; exact ⟨_,e⟩
 | dK kvs=>obtain ⟨_,_,_,_,o,_,_,e,_⟩:=x; exact ⟨_,e⟩
 | dT kvs=>obtain ⟨_,_,_,_,o,_,_,e,_⟩:=x; exact ⟨_,e⟩
 | set S n=>obtain ⟨o,_,_,_,e,_⟩:=x; exact ⟨_,e⟩
 | ins C dx fs=>obtain ⟨_,_,_,e,_⟩:=x; exact ⟨_,e⟩
 | own y=>exact x
 | xd fs=>obtain ⟨_,⟨_,_,_,e,_⟩,_⟩:=x; exact ⟨_,e⟩
 | rng lo hi=>obtain ⟨_,_,_,e⟩:=x; exact ⟨_,e⟩
 | frz ob u=>obtain ⟨e,_⟩:=x; exact ⟨_,e⟩
 | tbl ps=>exact ⟨_,show h.get? a=some _ from x⟩
 | met f y=>exact ⟨_,show h.get? a=some _ from x⟩
 | ext φ=>exact x.2.1
end
structure Cry (X:Cx) (H:Hp) (B:Heap):Prop where
 old:∀ b o,X.s₀.heap.get? b=some o->b∉X.fs->b∉X.ex->∃ o',B.get? b=some o'
 trk:∀ b o,H b=some o->∃ o',B.get? b=some o'
 pin:∀ p∈X.pn,∃ o',B.get? p.1=some o'
section
variable {X:Cx} {pins:List (Addr×Obj)} {σ:St} {H H':Hp} {s s':Shared} {B h':Heap}
theorem Inv.nopin (I:Inv X pins σ H s):Inv X [] σ H s :=
 ⟨I.ok,I.os,I.bare,I.base,I.loc,I.cell,I.free,I.freeC,fun p hp=>I.pin p (by rw [List.append_nil] at hp; exact List.mem_append_left _ hp),I.hok,I.len⟩
theorem oX {h:Heap} {b:Addr} {o:Obj} (k:B.StaysIn h) (k':B.StaysIn h') (hb:∃ o',B.get? b=some o') (e:h.get? b=some o):h'.get? b=some o:=by
 obtain ⟨o',q⟩:=hb
 have:=k b o' q
 rw [e] at this; cases this
 exact k' b _ q
theorem Inv.fly (I:Inv X [] σ H s) (c:Cry X H B) (k:B.StaysIn s.heap) (k':B.StaysIn h') (u:s.heap.UpToSlots h'):Inv X [] σ H { s with heap:=h' }:=by
 have cellK:∀ c v,s.heap.IsCell c v->h'.IsCell c v:=fun c v ⟨o,ho,hd⟩=>by
  obtain ⟨sl,q⟩:=u c o ho fun vs q=>by rw [hd] at q; cases q
  exact ⟨_,q,hd⟩
 have frk:∀ b o,X.s₀.heap.get? b=some o->b∈X.fs->∃ sl,h'.get? b=some { o with slots:=sl }:=fun b o e hb=>by
  obtain ⟨_,o',ho',hd⟩:=I.ok.funs.mem hb
  rw [e] at ho'; cases ho'
  obtain ⟨sl,e1⟩:=I.base.slot b o e (I.ok.frf b hb) hb fun z=>I.ok.exfs b z hb
  obtain ⟨sl',e2⟩:=u b _ e1 hd
  exact ⟨sl',e2⟩
 refine ⟨I.ok,I.os,I.bare,⟨fun b o e n hb hx=>?_,fun b o e n hb hx=>frk b o e hb,I.base.free,fun b o e hx=>?_,I.base.tups,I.base.frzs,I.base.tbls⟩,?_,fun x c e=>?_,I.free,I.freeC,fun p hp=>?_,fun b o e=>?_,I.len⟩
 ·exact oX k k' (c.old b o e hb hx) (I.base.keep b o e n hb hx)
 ·by_cases hb:b∈X.fs
  ·obtain ⟨sl,q⟩:=frk b o e hb; exact ⟨_,q⟩
  ·obtain ⟨o',q⟩:=c.old b o e hb hx
   exact ⟨o',k' b o' q⟩
 ·obtain ⟨m,hn,hl⟩:=I.loc
  refine ⟨m,u.ns hn,fun i x v e1 e2 e3=>?_⟩
  obtain ⟨y,r,l⟩:=hl i x v e1 e2 e3
  refine ⟨y,r,?_⟩
  rcases l with l | ⟨kk,c,e,z⟩
  ·exact .inl l
  ·exact .inr ⟨kk,c,e,cellK c _ z⟩
 ·obtain ⟨v,z⟩:=I.cell x c e
  exact ⟨v,cellK c v z⟩
 ·obtain ⟨e,r⟩:=I.pin p hp
  rw [List.append_nil] at hp
  exact ⟨oX k k' (c.pin p hp) e,r⟩
 ·refine (I.hok b o e).stay (fun d v hd q=>oX k k' ?_ q) (fun _ q=>q) fun _ _ q=>q
  rcases hd with rfl | hd
  ·exact c.trk d _ e
  ·exact c.trk d _ hd
end
def Ph (B:Heap) (l:List Env) (L ea C:Addr) (h:Heap):Prop :=
 (∃ a0,Heap.FlyingW B l ea (.ref C) a0 h)∨(∃ a0,Heap.HeldW B l ea (.ref C) a0 L h) ∨
 (B.StaysIn h /\ B.get? ea=none /\ h.FunFrames B l /\ ∃ oe vs a0,h.get? ea=some oe /\ oe.cls = .ref C /\ oe.data = .fields vs /\ vs[1]? = some .none /\ vs[0]? = some a0)
theorem Ph.stays {B h:Heap} {l:List Env} {L ea C:Addr} (x:Ph B l L ea C h):B.StaysIn h:=by
 rcases x with ⟨_,x⟩ | ⟨_,x⟩ | x
 ·exact x.1
 ·exact x.1
 ·exact x.1
def XF (X:Cx) (W:St->XK) (e:Value) (s':Shared):Prop :=
 ∃ ea C dd B σ H,e = .ref ea /\ (Ph B X.stack X.env.locals ea C s'.heap /\ DictAt ea dd s'.heap) /\ Cry X H B /\ Inv X [] σ H s' /\ W σ (.ref C) dd H
def CXE (P:Program) (w:World):CXT:=fun outer H s E e s' =>
 ∃ ea C dd B H' a0,e = .ref ea /\ (Heap.FlyingW B outer ea (.ref C) a0 s'.heap /\ DictAt ea dd s'.heap) /\ Un (frs outer) [] H H' s.heap s'.heap /\ HOk P w H' s'.heap /\
  (∀ b o,s.heap.get? b=some o->b∉frs outer->∃ o',B.get? b=some o') /\ (∀ b o,H' b=some o->∃ o',B.get? b=some o') /\ s'.os=s.os /\ AllBare s'.gens /\ E (.ref C) dd H'
section
variable {X:Cx} {pins:List (Addr×Obj)} {σ:St} {H H':Hp} {s s':Shared} {B h':Heap} {W:St->XK} {e:Value}
theorem XF.mono {W':St->XK} (x:XF X W e s') (k:∀ σ C dd H,W σ C dd H->W' σ C dd H):XF X W' e s' :=
 let ⟨ea,C,dd,B,σ,H,a,b,c,d,f⟩:=x; ⟨ea,C,dd,B,σ,H,a,b,c,d,k _ _ _ _ f⟩
theorem Inv.offstack (I:Inv X pins σ H s) {b:Addr} (h1:b≠X.env.locals) (h2:b∉X.fs):b∉frs X.stack:=fun z=>by
 rcases List.mem_cons.mp (I.stkSub b z) with q | q
 ·exact h1 q
 ·exact h2 q
theorem Inv.oldNe (I:Inv X pins σ H s) {b:Addr} {o:Obj} (e:X.s₀.heap.get? b=some o):b≠X.env.locals:=Nat.ne_of_lt (Nat.lt_of_lt_of_le (Heap.lt_size e) I.ok.above)
theorem xV {E:XK} (I:Inv X pins σ H s) (h:CXE X.prog X.w X.stack H s E e s') (hE:∀ C dd H',E C dd H'->W σ C dd H'):XF X W e s':=by
 obtain ⟨ea,C,dd,B,H',a0,rfl,⟨fl,fd⟩,un,hok,hold,htrk,os,bare,q⟩:=h
 obtain ⟨hh,g,d,t,os'⟩:=s'
 obtain rfl:os'=s.os:=os
 refine ⟨ea,C,dd,B,σ,H',rfl,⟨.inl ⟨a0,fl⟩,fd⟩,⟨fun b o e hb hx=>?_,htrk,fun p hp=>?_⟩,I.nopin.call (h':=hh) (g':=g) (d':=d) (t':=t) (ch:=[]) un hok bare (fun b z=>absurd z (by simp)),hE _ _ _ q⟩
 ·obtain ⟨o',e'⟩:=I.base.there b o e hx
  exact hold b o' e' (I.offstack (I.oldNe e) hb)
 ·obtain ⟨e1,_,e3,e4,_⟩:=I.pin p (List.mem_append_left _ hp)
  exact hold p.1 p.2 e1 (I.offstack e3 e4)
theorem xW {ea C:Addr} {vs:List Value} (I:Inv X pins σ H s) (hx:Heap.MadeExcOf s.heap h' ea (.ref C) vs) (q:W σ (.ref C) none H):XF X W (.ref ea) { s with heap:=h' }:=by
 have hin:∀ env∈X.stack,∀ b,env.frame=some b->b∈frs X.stack:=fun env he b hb=>List.mem_filterMap.mpr ⟨env,he,hb⟩
 have hB:∀ b o,s.heap.get? b=some o->b∉frs X.stack->(PySem.W.hideAll s.heap (frs X.stack)).get? b=some o:=fun b o e n=>PySem.W.hideAll_get _ e n
 obtain ⟨t,he,_,_⟩:=hx.there
 refine ⟨ea,C,none,PySem.W.hideAll s.heap (frs X.stack),σ,H,rfl,⟨.inr (.inr ⟨fun b o e=>hx.keeps b o (PySem.W.of_hideAll _ e),?_,?_,_,_,_,he,rfl,rfl,rfl,rfl⟩),_,he,rfl⟩,⟨fun b o e hb hx=>?_,fun b o e=>?_,fun p hp=>?_⟩,?_,q⟩
 ·cases z:(PySem.W.hideAll s.heap (frs X.stack)).get? ea with
  | none=>rfl
  | some o=>have:=PySem.W.of_hideAll _ z; rw [hx.new] at this; cases this
 ·exact (PySem.W.funFrames_hide I.stack hin).of_keeps fun b o e _=>⟨o,hx.keeps b o e,rfl⟩
 ·obtain ⟨o',e'⟩:=I.base.there b o e hx
  exact ⟨o',hB b o' e' (I.offstack (I.oldNe e) hb)⟩
 ·obtain ⟨u,e'⟩:=(I.hok b o e).there
  exact ⟨u,hB b u e' fun z=>by rw [I.stkFree b z] at e; cases e⟩
 ·obtain ⟨e1,_,e3,e4,_⟩:=I.pin p (List.mem_append_left _ hp)
  exact ⟨p.2,hB p.1 p.2 e1 (I.offstack e3 e4)⟩
 ·exact I.nopin.kept (t':=s.toks) fun b o e=>hx.keeps b o e
end
end L2
namespace L2
open PySem PySem.Spec PyProof.Rows
section
variable {X:Cx} {pins:List (Addr×Obj)} {σ:St} {H H':Hp} {s s':Shared} {B h':Heap} {W:St->XK} {e:Value}
theorem vI {P:Program} {w:World} {K:PySem.W.Frag} {mg:Str->Option Value} {base:Heap} {N:List Str} {qual:Str} {scope:Scope} {f:Addr} {cd:Value} {A:Around} {outer:List Env} {E:XK}
  (x:XF (cxOf (CXE P w) P w K mg base N qual scope f cd A outer s H E) (fun _=>E) e s'):(cxOf (CXE P w) P w K mg base N qual scope f cd A outer s H E).xe e s':=by
 obtain ⟨ea,C,dd,B,σ,H',rfl,⟨ph,pd⟩,cry,I,q⟩:=x
 have fin:∀ a0 h'',Heap.FlyingW B outer ea (.ref C) a0 h''->s'.heap.UpToSlots h''->DictAt ea dd h''->CXE P w outer H s E (.ref ea) { s' with heap:=h'' }:=fun a0 h'' fl u d=>by
  have J:=I.fly cry ph.stays fl.1 u
  exact ⟨ea,C,dd,B,H',a0,rfl,⟨fl,d⟩,J.base,J.hok,fun b o e n=>cry.old b o e n (fun z=>absurd (show b∈([]:List Addr) from z) (by simp)),cry.trk,J.os,J.bare,q⟩
 have hfr:(A.deeper (envOfC qual scope s.heap.objs.size f cd)).frames=some (envOfC qual scope s.heap.objs.size f cd::outer):=I.ok.frames
 show wpAny (model P w) (A.deeper (envOfC qual scope s.heap.objs.size f cd)) (leaving (envOfC qual scope s.heap.objs.size f cd) (.ref ea)) (fun _ s''=>CXE P w outer H s E (.ref ea) s'') (fun e' s''=>CXE P w outer H s E e' s'') s'
 refine ce nH pd ?_
 rcases ph with ⟨a0,fl⟩ | ⟨a0,hh⟩ | ⟨k1,k2,k3,oe,vs,a0,e1,e2,e3,e4,e5⟩
 ·exact wpAny_leaves_onW hfr rfl fl fun h'' k u d=>fin a0 h'' k u d
 ·unfold leaving
  refine wpAny_bind (wpAny_noteFrame_againW rfl hh.2.2.2 ?_)
  refine wpAny_landsW hh fun h'' fl u d=>?_
  obtain ⟨k1,k2,⟨_,_,k3⟩,k4⟩:=fl
  exact fin a0 h'' ⟨k1,k2,k3,k4⟩ u d
 ·refine wpAny_leaving_firstW (a0:=a0) hfr k3 rfl e1 k1 k2 e3 e4 e5 fun h'' hL d=>?_
  obtain ⟨l1,⟨_,_,l2⟩,l3,l4⟩:=hL
  rw [e2] at l3
  exact fin a0 h'' ⟨l1,k2,l2,l3⟩ l4 d
theorem fJ {M:Model} {A:Around} {E:Value->Shared->Prop} {l:List Env} {ea L:Addr} {cls a0 fl:Value} {Q:Unit->Shared->Prop} (hkb:B.StaysIn s.heap) (hen:B.get? ea=none) (hl:s.heap.FunFrames B l) (ht:s.heap.TracedAtW B ea cls a0 fl)
  (h:∀ h',Heap.HeldW B l ea cls a0 L h'->s.heap.UpToSlots h'->Q () { s with heap:=h' }):wpAny M A (setFlight (.ref ea) (some L)) Q E s:=by
 obtain ⟨oe,vs,T,oT,ts,he,hcls,hd,h1,hnT,hTe,hT,hdT,h3⟩:=ht
 have hsz3:3 < ts.size:=(Array.getElem?_eq_some_iff.mp h3).1
 have other:∀ b,b≠T->(s.heap.update T (Obj.mapFields (·.setIfInBounds 3 ((some L).elim Value.none fun f=>rawInt f)))).get? b=s.heap.get? b :=
  fun b hb=>Heap.get?_update_other _ _ (Ne.symm hb)
 have noRecord:∀ b o,s.heap.get? b=some o->(∀ vs,o.data ≠ .fields vs)->b≠T:=fun b o hb hnf q=>by
  rw [q,hT] at hb; injection hb with hb; subst hb; exact hnf ts hdT
 unfold setFlight
 refine wpAny_bind (wpAny_field he hd h1 ?_)
 rw [if_pos (show (Value.ref T != Value.none)=true from by simp)]
 refine wpAny_setField hT hdT hsz3 (h _ ⟨fun b o hbo=>(other b fun q=>by rw [q,hnT] at hbo; cases hbo).trans (hkb b o hbo),hen,
  hl.of_keeps fun b o hb hnf=>⟨o,(other b (noRecord b o hb hnf)).trans hb,rfl⟩,?_⟩ fun b o hb hnf=>⟨o.slots,(other b (noRecord b o hb hnf)).trans hb⟩)
 exact ⟨oe,vs,T,_,_,(other ea (Ne.symm hTe)).trans he,hcls,hd,h1,hnT,hTe,Heap.get?_update_self _ hT (Obj.isFreed_of_fields (Obj.data_mapFields hdT _)),Obj.data_mapFields hdT _,by simp [hsz3]⟩
theorem vJ {M:Model} {A:Around} {E:Value->Shared->Prop} {env:Env} {outer:List Env} {L ea C:Addr} {Q:Unit->Shared->Prop} (hfr:A.frames=some (env::outer)) (hf:env.frame=some L) (ph:Ph B (env::outer) L ea C s.heap)
  (h:∀ h' a0,Heap.HeldW B (env::outer) ea (.ref C) a0 L h'->s.heap.UpToSlots h'->Q () { s with heap:=h' }):wpAny M A (noteFrame (.ref ea) env) Q E s:=by
 rcases ph with ⟨a0,fl⟩ | ⟨a0,hh⟩ | ⟨k1,k2,k3,oe,vs,a0,e1,e2,e3,e4,e5⟩
 ·exact wpAny_looks_onW hfr hf fl fun h' k u=>h h' a0 k u
 ·exact wpAny_noteFrame_againW hf hh.2.2.2 (h s.heap a0 hh (.refl _))
 ·unfold noteFrame
  simp only [hf]
  refine wpAny_bind (wpAny_field e1 e3 e4 ?_)
  rw [if_neg (by decide)]
  refine wpAny_entryW hfr k3 hf e1 k1 k2 e3 (Array.getElem?_eq_some_iff.mp e4).1 e5 fun h' hN=>?_
  obtain ⟨l1,l2,l3,l4⟩:=hN
  rw [e2] at l3
  exact h h' a0 ⟨l1,k2,l2,l3⟩ l4
end
def zY (sp:Sp) (dvs:List V) (W:St->XK) (t:TA):TE:=fun σ H Q=>t σ H fun vs H1=>sp (vs++dvs) H1 Q (W σ)
section
variable {X:Cx} {k:Nat} {f C:Addr} {fd:FuncData} {ps:List Str} {sp:Sp} {dvs:List V} {ds:List Value} {W:St->XK} {x m:Str} {p pos apos:Pos} {e o:Expr} {es:List Expr} {ta:TE} {t:TA}
theorem xX {pins:List (Addr×Obj)} {σ:St} {H:Hp} {s:Shared} {Q:VK} {us:List Value} {vs:List V} (F:FnOk X.prog X.w X.K X.mg X.base (CXE X.prog X.w) k f fd ps sp) (hr:Room k X.A) (hb:Binds X.K fd ps ds) (hd:Vals dvs ds)
  (hx:∀ e s',XF X W e s'->X.xe e s') (I:Inv X pins σ H s) (r:Vals vs us) (h:sp (vs++dvs) H Q (W σ)):wpAny (model X.prog X.w) X.A (call (.ref f) us) (EP X pins σ Q) X.xe s:=by
 have r2:Vals (vs++dvs) (us++ds):=r.append hd
 have hl:(us++ds).length=ps.length:=by rw [← r2.length]; exact F.len _ _ _ _ h
 refine wpAny_call (codeAny_mono (F.run X.A X.stack s H ⟨us,[]⟩ (us++ds) (vs++dvs) Q (W σ) hr I.env0 (hb s us I.kIn hl) r2 h) fun r s' hq=>?_)
 cases r with
 | error e=>exact hx e s' (xV I hq fun _ _ _ q=>q)
 | ok fl =>
  cases fl with
  | ret u=>exact I.after hq
  | next=>exact False.elim hq
  | brk=>exact False.elim hq
  | cont=>exact False.elim hq
end
structure Exc (K:PySem.W.Frag) (C:Addr):Prop where
 q:PySem.W.excIn K C [.type "ValueError",.type "Exception",.type "BaseException",.type "object"] "ValueError.__new__" = true
section
variable {X:Cx} {W:St->XK} {C:Addr} {x:Str} {np cpos pos:Pos} {e:Expr} {es:List Expr} {t:TA}
def zZ (C:Addr) (W:St->XK) (t:TA):TS:=fun _ σ H=>t σ H fun vs H1=>vs.length <= sizeLine /\ W σ (.ref C) none H1
theorem xY {K:PySem.W.Frag} {h:Heap} (k:K.In h) (c:Exc K C):∃ bm N nm q bs hdct sn sub ab col dd k0 k1 k2 k3 k5,∃ mN:Str->Option Value,h.get? C=some (excClassObj nm q C N bs bm hdct sn sub ab col dd k0 k1 k2 k3 k5 "ValueError.__new__") /\ h.Ns N mN /\ mN "__init__" = none /\ OwnTail h [.type "ValueError",.type "Exception",.type "BaseException",.type "object"] bm:=by
 have q:=c.q
 unfold PySem.W.excIn at q
 split at q
 ·rename_i dd cd sl ho
  split at q
  ·rename_i C' bm k0 k1 k2 k3 n k5 hm hs
   simp only [Bool.and_eq_true,beq_iff_eq,Bool.not_eq_true'] at q
   obtain ⟨⟨⟨⟨⟨rfl,rfl⟩,hdel⟩,ht⟩,hok⟩,hni⟩:=q
   obtain ⟨nm,bs,mro,ns,qn,hd,sn,sub,ab,col,del⟩:=cd
   dsimp only at hm hdel hok hni
   subst hm hdel
   have hsl:sl = #[k0,k1,k2,k3,some (.builtin "ValueError.__new__"),k5]:=by
    obtain ⟨l⟩:=sl
    simp only at hs
    rw [hs]
   subst hsl
   exact ⟨bm,ns,nm,qn,bs,hd,sn,sub,ab,col,dd,k0,k1,k2,k3,k5,_,k _ _ ho,.of_isNs (PySem.W.isNs_of_in k hok),PySem.W.nsMap_none_of_in k hok hni,PySem.W.tail_of_in k ht⟩
  ·cases q
 ·cases q
theorem vK (c:Exc X.K C) (hc:X.calm=true) (hg:Gl X x) (hm:X.mg x=some (.ref C)) (hx:∀ e s',XF X W e s'->X.xe e s') (ha:PA X (e::es) t)
  (he:starEach (e::es) X.env=(false,eval e X.env)::starEach es X.env:=by rfl) (hplain:(backTo cpos (starEach es X.env)).any (·.1)=false:=by rfl)
  (hd:(x == ("__debug__" : Str))=false:=by decide):PS X (.Raise (some (.Call (.Name x np) (e::es) [] cpos)) none pos) (zZ C W t):=by
 intro pins s σ H D I h
 obtain ⟨bm,N,nm,q,bs,hdct,sn,sub,ab,col,dd,k0,k1,k2,k3,k5,mN,hC,hN,hni,T⟩:=xY I.mod.kin c
 have FB:=PySem.F.excBase_ValueError
 refine wpAny_Raise_call_subU (C:=C) (nm:=nm) (q:=q) (N:=N) (bs:=bs) (bm:=bm) (hdct:=hdct) (sn:=sn) (sub:=sub) (ab:=ab) (col:=col) (dd:=dd) (k0:=k0) (k1:=k1) (k2:=k2) (k3:=k3) (k5:=k5)
  FB (by decide) FB (mN:=mN) (T.hasType FB.hasBase) (I.ok.hd hc) (by rw [he]; show (false || (backTo cpos (starEach es X.env)).any (·.1))=false; rw [hplain]; rfl) hni (jA I hg hm ⟨rfl,?_⟩ hd)
 have h2:=ha cpos pins s σ H _ I h
 rw [he] at h2 ⊢
 refine Calls.evalArgs_plain (wpAny_mono h2 (fun us s2 ⟨vs,H1,I1,r,z,q⟩=>⟨rfl,by rw [← r.length]; exact z,I1.bk _ _ hC,hN.keeps I1.bk,T.keeps I1.bk,fun h' ea hm=>hx _ _ (xW I1 hm q)⟩) fun _ _ y=>y)
end
end L2
namespace L2
open PySem PySem.Spec PyProof.Rows
abbrev Cx.pinned (X:Cx) (l:List (Addr×Obj)):Cx:={ X with pn:=l }
abbrev Cx.caught (X:Cx) (ea:Addr):Cx:={ X with A:=X.A.mark (some (.ref ea)),calm:=false,xe:=fun _ _=>False }
def excA (C:Addr) (dd:Option Addr) (ea:Addr):HO:=.ext fun h=>∃ o,h.get? ea=some o /\ o.cls = .ref C /\ o.dict=dd /\ ∃ vs,o.data = .fields vs
abbrev excO (C ea:Addr):HO:=excA C none ea
section
variable {X:Cx} {pins:List (Addr×Obj)} {σ:St} {H H':Hp} {s s':Shared} {B h':Heap} {W:St->XK} {e:Value}
theorem Cx.Ok.pinned {l:List (Addr×Obj)} (ok:X.Ok):(X.pinned l).Ok :=
 ⟨ok.mod,ok.kind,ok.glob,ok.blt,ok.above,ok.inj,ok.has,ok.cab,ok.hd,ok.frames,ok.stk,ok.exf,ok.bs,ok.bsz,ok.noex,ok.exfs,ok.funs,ok.frf⟩
theorem Cx.Ok.unpinned {l:List (Addr×Obj)} (ok:(X.pinned l).Ok):X.Ok :=
 ⟨ok.mod,ok.kind,ok.glob,ok.blt,ok.above,ok.inj,ok.has,ok.cab,ok.hd,ok.frames,ok.stk,ok.exf,ok.bs,ok.bsz,ok.noex,ok.exfs,ok.funs,ok.frf⟩
theorem Inv.toPn (I:Inv X pins σ H s):Inv (X.pinned (X.pn++pins)) [] σ H s :=
 ⟨I.ok.pinned,I.os,I.bare,I.base,I.loc,I.cell,I.free,I.freeC,fun p hp=>I.pin p (by rw [List.append_nil] at hp; exact hp),I.hok,I.len⟩
theorem Inv.ofPn (I:Inv (X.pinned (X.pn++pins)) [] σ H s):Inv X pins σ H s :=
 ⟨I.ok.unpinned,I.os,I.bare,I.base,I.loc,I.cell,I.free,I.freeC,fun p hp=>I.pin p (by rw [List.append_nil]; exact hp),I.hok,I.len⟩
theorem Inv.caught {ea:Addr} (I:Inv X pins σ H s):Inv (X.caught ea) pins σ H s :=
 ⟨⟨I.ok.mod,I.ok.kind,I.ok.glob,I.ok.blt,I.ok.above,I.ok.inj,I.ok.has,I.ok.cab,fun z=>(by cases z),I.ok.frames,I.ok.stk,I.ok.exf,I.ok.bs,I.ok.bsz,I.ok.noex,I.ok.exfs,I.ok.funs,I.ok.frf⟩,I.os,I.bare,I.base,I.loc,I.cell,I.free,I.freeC,I.pin,I.hok,I.len⟩
theorem Inv.uncaught {ea:Addr} (ok:X.Ok) (I:Inv (X.caught ea) pins σ H s):Inv X pins σ H s :=
 ⟨ok,I.os,I.bare,I.base,I.loc,I.cell,I.free,I.freeC,I.pin,I.hok,I.len⟩
theorem Inv.track {ea C:Addr} {dd:Option Addr} {oe:Obj} {vs:Array Value} (I:Inv X [] σ H s) (c:Cry X H B) (hn:B.get? ea=none) (he:s.heap.get? ea=some oe) (hc:oe.cls = .ref C) (hd:oe.data = .fields vs) (hdd:oe.dict=dd) (hex:X.ex=[]) :
  H ea=none /\ Inv X [] σ (upd H ea (excA C dd ea)) s:=by
 have hne:H ea=none:=by
  cases q:H ea with
  | none=>rfl
  | some o=>obtain ⟨o',z⟩:=c.trk ea o q; rw [hn] at z; cases z
 have h0:∀ b o,X.s₀.heap.get? b=some o->b≠ea:=by
  rintro b o e rfl
  by_cases hb:b∈X.fs
  ·obtain ⟨_,o',ho',hnf⟩:=I.ok.funs.mem hb
   rw [e] at ho'; cases ho'
   obtain ⟨sl,e1⟩:=I.base.slot b o e (I.ok.frf b hb) hb fun z=>I.ok.exfs b z hb
   rw [he] at e1
   cases e1
   exact hnf _ hd
  ·obtain ⟨o',z⟩:=c.old b o e hb (by rw [hex]; simp)
   rw [hn] at z; cases z
 have tr:∀ b o,H b=some o->upd H ea (excA C dd ea) b=some o:=fun b o q=>by rw [aj (bR q hne)]; exact q
 refine ⟨hne,I.ok,I.os,I.bare,⟨I.base.keep,I.base.slot,fun b o e n hx=>?_,I.base.there,fun b xs q=>tr _ _ (I.base.tups b xs q),fun b o u q=>tr _ _ (I.base.frzs b o u q),fun b ps q=>?_⟩,I.loc,I.cell,?_,fun x d q=>?_,fun p hp=>?_,fun b o q=>?_,I.len⟩
 ·rw [aj (h0 b o e)]; exact I.base.free b o e n hx
 ·obtain ⟨m,z⟩:=I.base.tbls b ps q
  exact ⟨m,tr _ _ z⟩
 ·have:X.env.locals≠ea:=by
   intro z
   obtain ⟨m,⟨o,es,ep,ho,hdd,_⟩,_⟩:=I.loc
   rw [z,he] at ho; cases ho
   rw [hd] at hdd; cases hdd
  rw [aj this]; exact I.free
 ·have:d≠ea:=by
   intro z
   obtain ⟨v,o,ho,hdd⟩:=I.cell x d q
   rw [z,he] at ho; cases ho
   rw [hd] at hdd; cases hdd
  rw [aj this]; exact I.freeC x d q
 ·obtain ⟨e1,e2,r⟩:=I.pin p hp
  have:p.1≠ea:=by
   intro z
   rw [List.append_nil] at hp
   obtain ⟨o',q⟩:=c.pin p hp
   rw [z,hn] at q; cases q
  exact ⟨e1,by rw [aj this]; exact e2,r⟩
 ·by_cases z:b=ea
  ·subst z
   rw [ak] at q; cases q
   exact ⟨⟨oe,he,hc,hdd,_,hd⟩,⟨oe,he⟩,fun h1 h2 ⟨o,e1,e2⟩ k=>⟨o,k o e1,e2⟩⟩
  ·rw [aj z] at q
   exact (I.hok b o q).stay (fun _ _ _ q=>q) (fun d q=>tr _ _ q) fun d xs q=>tr _ _ q
theorem lY {M:Model} {A:Around} {E:Value->Shared->Prop} {i:Nat} {x:Str} {pos:Pos} {Q:Unit->Shared->Prop} (I:Inv X pins σ H s) (hN:X.N.Nodup) (hi:X.N[i]? = some x) (hk:X.env.kindOf x=some .local)
  (h:∀ s',Inv X pins (σ.set i none) H s'->Q () s'):wpAny M A (do bindName X.env x .none; unbindBehindTheSuite X.env x pos) Q E s:=by
 obtain ⟨m,hn,hl⟩:=id I.loc
 have hcls:(X.env.scope.kind == .class || (X.env.scope.kind == .module && X.env.locals != X.env.globals))=false:=by rw [I.ok.kind]; rfl
 have hiσ:i < σ.length:=by rw [I.len]; exact (List.getElem?_eq_some_iff.mp hi).1
 have cne:=I.cne
 refine wpAny_nameGoes_keeps hk hn hcls fun h' v hn' hs=>?_
 have old:∀ b o,X.s₀.heap.get? b=some o->b≠X.env.locals:=fun b o e=>I.oldNe e
 refine h _ ⟨I.ok,I.os,I.bare,⟨fun b o e n hb hx=>?_,fun b o e n hb hx=>?_,I.base.free,fun b o e hx=>?_,I.base.tups,I.base.frzs,I.base.tbls⟩,⟨_,hn',fun j y v' e1 e2 e3=>?_⟩,fun y c e=>?_,I.free,I.freeC,fun p hp=>?_,fun b ob e=>?_,by simpa using I.len⟩
 ·exact (hs.2 b (old b o e)).trans (I.base.keep b o e n hb hx)
 ·obtain ⟨sl,e1⟩:=I.base.slot b o e n hb hx
  exact ⟨sl,(hs.2 b (old b o e)).trans e1⟩
 ·obtain ⟨o',e1⟩:=I.base.there b o e hx
  exact ⟨o',(hs.2 b (old b o e)).trans e1⟩
 ·by_cases hj:j=i
  ·subst hj
   rw [List.getElem?_set_self hiσ] at e2
   cases e2
  ·rw [List.getElem?_set_ne (Ne.symm hj)] at e2
   obtain ⟨u',r',q⟩:=hl j y v' e1 e2 e3
   refine ⟨u',r',?_⟩
   rcases q with ⟨k,e⟩ | ⟨k,c,e,z⟩
   ·refine .inl ⟨k,?_⟩
    have:y≠x:=fun e=>hj (lJ hN e1 (e ▸ hi))
    simp [this,e]
   ·exact .inr ⟨k,c,e,z.sameBut hs (cne y c e)⟩
 ·obtain ⟨w',z⟩:=I.cell y c e
  exact ⟨w',z.sameBut hs (cne y c e)⟩
 ·obtain ⟨e,n,ne,nf,d⟩:=I.pin p hp
  exact ⟨(hs.2 p.1 ne).trans e,n,ne,nf,d⟩
 ·refine (I.hok b ob e).stay (fun c w' hc q=>(hs.2 c ?_).trans q) (fun _ q=>q) fun _ _ q=>q
  rintro rfl
  rcases hc with z | z
  ·rw [← z,I.free] at e; cases e
  ·rw [I.free] at z; cases z
end
def tTry (X:Cx) (body suite:List Stmt) (C0:Addr) (i:Nat) (Wo:St->XK):TS:=fun D σ H =>
 ∃ W:St->XK,(∀ pn,∃ tb,PSs ((X.pinned pn).wish (XF (X.pinned pn) W)) body tb /\ tb D σ H) /\
  ∀ σ' C dd H',W σ' C dd H'->(PySem.W.exmOne X.K C (.ref C0)=some true /\ ∀ ea Ca,C = .ref Ca->H' ea=none->∃ th,PSs (X.caught ea) suite th /\
   th ⟨fun σ2 H2=>D.nx (σ2.set i none) H2,D.rt,fun σ2 H2=>D.bk (σ2.set i none) H2,fun σ2 H2=>D.ct (σ2.set i none) H2⟩ (σ'.set i (some (.ref ea))) (upd H' ea (excA Ca dd ea))) ∨
  (PySem.W.exmOne X.K C (.ref C0)=some false /\ Wo σ' C dd H')
section
variable {X:Cx} {body suite:List Stmt} {b0:Stmt} {n x:Str} {np hpos pos:Pos} {C0:Addr} {i:Nat} {Wo:St->XK}
theorem Aa (hs:X.stack=X.env::X.outer) (hf:X.env.frame=some X.env.locals) (hex:X.ex=[]) (hN:X.N.Nodup) (hi:X.N[i]? = some n) (hl:X.env.kindOf n=some .local) (hg:Gl X x) (hm:X.mg x=some (.ref C0))
  (hx:∀ e s',XF X Wo e s'->X.xe e s') (hdb:(x == ("__debug__" : Str))=false:=by decide) :
  PS X (.Try body [.ExceptHandler (some (.Name x np)) (some n) (b0::suite) hpos] [] [] pos) (tTry X body (b0::suite) C0 i Wo):=by
 intro pins s σ H D I h
 obtain ⟨W,hb,hW⟩:=h
 obtain ⟨tb,pb,qb⟩:=hb (X.pn++pins)
 refine wpAny_Try_except (wpAny_mono (pb [] s σ H D (I.toPn.wish _) qb) (fun f s1 hq=>?_) fun e s1 hq=>?_)
 ·have hq:=hq.unwish
  cases f with
  | next=>obtain ⟨σ',H',I',q⟩:=hq; exact jB pins s1 σ' H' D I'.ofPn q
  | brk=>obtain ⟨σ',H',I',q⟩:=hq; exact ⟨σ',H',I'.ofPn,q⟩
  | cont=>obtain ⟨σ',H',I',q⟩:=hq; exact ⟨σ',H',I'.ofPn,q⟩
  | ret u=>obtain ⟨v,σ',H',I',r,q⟩:=hq; exact ⟨v,σ',H',I'.ofPn,r,q⟩
 ·obtain ⟨ea,C,dd,B,σ',H',rfl,⟨ph,pd⟩,cry,I',q⟩:=hq
  have hfr:X.A.frames=some (X.env::X.outer):=by rw [← hs]; exact I'.ok.frames
  have ph':Ph B (X.env::X.outer) X.env.locals ea C s1.heap:=by rw [← hs]; exact ph
  refine ce fH pd (vJ hfr hf ph' fun h1 a0 hh1 u1 d1=>?_)
  refine ce bJ d1 (wpAny_landsW hh1 fun h2 fl2 u2 d2=>?_)
  have I1:=I'.fly cry ph.stays hh1.1 u1
  have I2:=I1.fly cry hh1.1 fl2.1 u2
  obtain ⟨ob,hob,hobc⟩:=fl2.there
  have LT:PySem.W.Looks (model X.prog X.w) h2 (typeOf (.ref ea)) (.ref C):=by
   rw [← hobc]
   exact (PySem.W.Looks.ld hob).andThen .now
  refine wpAny_handleBy_cons (codeAny_handlers_test (jA (I2.caught (ea:=ea)) hg hm ?_ hdb)) (by intro q; cases q)
  rcases hW _ _ _ _ q with ⟨ex,q⟩ | ⟨ex,q⟩
  ·refine (PySem.W.exm_one I2.kIn LT ex).here ?_
   refine codeAny_handlers_suite_as ?_
   refine ce bJ d2 (lands_againW fl2 fun h3 fl3 u3 d3=>?_)
   have I3:=I2.fly cry fl2.1 fl3.1 u3
   obtain ⟨oe,vs,e1,e2,e3,_⟩:=fl3.first
   obtain ⟨od,e4,e5⟩:=d3
   rw [show h3.get? ea=some oe from e1] at e4
   cases e4
   obtain ⟨hn,I4⟩:=I3.track cry fl3.2.1 e1 e2 e3 e5 hex
   refine lK I4.ofPn hN hi (.inl hl) (v:=.ref ea) (u:=.ref ea) rfl (fun s5 I5=>?_) (.inr hl)
   obtain ⟨th,ph2,qh⟩:=q ea C rfl hn
   refine wpAny_mono (ph2 pins s5 _ _ _ I5.caught qh) (fun f s6 hq=>?_) fun _ _ z=>z.elim
   show wpAny _ _ (do bindName X.env n .none; unbindBehindTheSuite X.env n hpos) _ _ s6
   cases f with
   | next=>obtain ⟨σ6,H6,I6,q6⟩:=hq; exact lY (I6.uncaught I.ok) hN hi hl fun s7 I7=>⟨_,_,I7,q6⟩
   | brk=>obtain ⟨σ6,H6,I6,q6⟩:=hq; exact lY (I6.uncaught I.ok) hN hi hl fun s7 I7=>⟨_,_,I7,q6⟩
   | cont=>obtain ⟨σ6,H6,I6,q6⟩:=hq; exact lY (I6.uncaught I.ok) hN hi hl fun s7 I7=>⟨_,_,I7,q6⟩
   | ret u=>obtain ⟨v,σ6,H6,I6,r,q6⟩:=hq; exact lY (I6.uncaught I.ok) hN hi hl fun s7 I7=>⟨v,_,_,I7,r,q6⟩
  ·refine (PySem.W.exm_one I2.kIn LT ex).here ?_
   refine wpAny_handleBy_nil ?_
   obtain ⟨f1,f2,f3,oe,vs,T,oT,ts,he,hcls,hd,h1,hnT,hTe,hT,hdT,h3⟩:=id fl2
   unfold PySem.passOn
   refine wpAny_bind (wpAny_field he hd h1 ?_)
   rw [if_neg (show ¬ ((Value.ref T == Value.none)=true) from by simp),hf]
   have fin:∀ h4,Heap.HeldW B (X.env::X.outer) ea (.ref C) a0 X.env.locals h4->h2.UpToSlots h4->DictAt ea dd h4->X.xe (.ref ea) { s1 with heap:=h4 }:=fun h4 hh4 u4 d4=>by
    have I4:=I2.fly cry fl2.1 hh4.1 u4
    exact hx _ _ ⟨ea,C,dd,B,σ',H',rfl,⟨.inr (.inl ⟨a0,by rw [hs]; exact hh4⟩),d4⟩,⟨cry.old,cry.trk,fun p hp=>cry.pin p (List.mem_append_left _ hp)⟩,I4.ofPn.nopin,q⟩
   first
    | exact wpAny_bind (wpAny_pure (wpAny_bind (ce bJ d2 (fJ f1 f2 f3 fl2.2.2.2.at fun h4 hh4 u4 d4=>wpAny_throw (fin h4 hh4 u4 d4)))))
    | exact wpAny_bind (ce bJ d2 (fJ f1 f2 f3 fl2.2.2.2.at fun h4 hh4 u4 d4=>wpAny_throw (fin h4 hh4 u4 d4)))
end
end L2
namespace L2
open PySem PySem.Spec PyProof.Rows
open PySem.W (Looks)
structure ExK (K:PySem.W.Frag) (D:Addr):Prop where
 ga:PySem.W.findIn K (.ref D) "__getattribute__" = some (some (.builtin "BaseException.__getattribute__"))
 gt:PySem.W.findIn K (.ref D) "__getattr__" = some none
 sub:PySem.W.subIn K (.ref D) (.type "BaseException")=some true
 ha:PySem.W.findIn K (.ref D) "__class__" = some (some (.builtin "object.__class__"))
 hn:PySem.W.specialIn K (.builtin "object.__class__") "__get__" = some (some (.builtin "getset_descriptor.__get__"))
 htk:PySem.W.takesIn K (.builtin "object.__class__")=some true
 mro:PySem.W.mroIn K D (.type "object")=some true
 cls:(PySem.W.clsIn K D).isSome=true
def IsOf (x D:Addr) (h:Heap):Prop:=∃ o,h.get? x=some o /\ o.cls = .ref D
theorem IsOf.type {x D:Addr} {h:Heap} {M:Model} (I:IsOf x D h):Looks M h (typeOf (.ref x)) (.ref D):=by
 obtain ⟨o,e,c⟩:=I
 exact c ▸ (PySem.W.Looks.ld e).andThen .now
section
variable {prog:Program} {w:World} {A:Around} {E:Value->Shared->Prop} {s:Shared} {K:PySem.W.Frag} {x D:Addr}
open PySem.W PySem.Calls Builtin Builtin.ObjectAttr Builtin.Getset_descriptor in
theorem rS {R:Result->Shared->Prop} {tp:Value} (X:K.In s.heap) (I:IsOf x D s.heap) (hm:mroIn K D (.type "object")=some true)
  (h:R (.ok (.ret (.ref D))) s):codeAny (model prog w) A (.call (.builtin "getset_descriptor.__get__") ⟨[.builtin "object.__class__",.ref x,tp],[]⟩) R s:=by
 obtain ⟨hh,g,dr,t,os⟩:=s
 have L0:=I.type (M:=model prog w)
 have L1:=looks_mroIn (M:=model prog w) X hm
 refine codeAny_call_builtin KF.slot_gs.plain KF.entry_gs (KF.slot_gs.check _ _ _ _ _ _ _ _ KF.type_class (KF.args_gs _ _ _) ?_)
 unfold Builtin.«getset_descriptor.__get__» descrGet
 rw [dga_obj]
 refine wpAny_bind (wpAny_pure ?_)
 unfold descrGetter descrCheckInstance descrNameAndClass isInstance
 simp only [KF.owner_class]
 repeat lk
 refine ⟨Code.quiet_builtin _ (by decide +kernel),codeAny_builtin KF.entry_class ?_⟩
 unfold Builtin.«object.__class__» shownTypeOf
 repeat lk
 exact h
theorem vL {M:Model} {h:Heap} (c:ExK K D) (X:K.In h):Looks M h (Builtin.ObjectAttr.find (.ref x) (.ref D) "__class__") (.bind (.builtin "getset_descriptor.__get__") (.builtin "object.__class__")):=by
 have L1:=PySem.W.looks_findIn (M:=M) X c.ha
 have L2:Looks M h (Builtin.ObjectAttr.getOf (some (.builtin "object.__class__"))) (some (.builtin "getset_descriptor.__get__")):=PySem.W.looks_specialIn X c.hn
 have L3:=PySem.W.looks_takesIn (M:=M) X c.htk
 exact L1.andThen (L2.andThen ((show Looks M h (Builtin.ObjectAttr.dataDescriptor? (some (.builtin "object.__class__")) (some (.builtin "getset_descriptor.__get__"))) (some (.builtin "getset_descriptor.__get__",.builtin "object.__class__")) from L3.andThen .now).andThen (PySem.W.Looks.tag .now)))
theorem jf {tk:Tok} {R:Result->Shared->Prop} (c:ExK K D) (X:K.In s.heap) (I:IsOf x D s.heap) (h:R (.ok (.ret (.ref D))) s) :
  codeAny (model prog w) A (.call (.builtin "BaseException.__getattribute__") ⟨[.ref x,.str "__class__" tk],[]⟩) R s:=by
 obtain ⟨hh,g,d,t,os⟩:=s
 have hk:builtinKind "BaseException.__getattribute__" = some .slot:=by decide +kernel
 have hsplit:splitId "BaseException.__getattribute__" = some ("BaseException","__getattribute__"):=by decide +kernel
 have ha:=F.args_bexc_ga (.ref x) (.str "__class__" tk)
 have L0:=I.type (M:=model prog w)
 have L1:=PySem.W.looks_subIn (M:=model prog w) X c.sub
 have L2:=vL (M:=model prog w) (x:=x) c X
 refine codeAny_call_builtin PySem.F.attr_ValueError.ga.plain F.entry_bexc_ga ?_
 simp only [checkBuiltinCall,hk,hsplit]
 refine wpAny_bind ?_
 unfold isInstance
 refine wpAny_bind (L0.at (L1.at ?_))
 have L3:Looks (model prog w) hh (typeOf (.ref x)) (.ref D):=L0
 repeat (any_goals (first | assumption | with_reducible refine L3.at ?_ | with_reducible refine L2.at ?_ | wp_step))
 exact rS X I c.mro (wpAny_pure h)
theorem tK {Q:Option Value->Shared->Prop} (c:ExK K D) (X:K.In s.heap) (I:IsOf x D s.heap) (h:Q (some (.ref D)) { s with toks:=s.toks + 1 }):wpAny (model prog w) A (getAttr? (.ref x) "__class__") Q E s:=by
 obtain ⟨hh,g,d,t,os⟩:=s
 have L0:=I.type (M:=model prog w)
 have L1:=PySem.W.looks_findIn (M:=model prog w) X c.ga
 have L2:=PySem.W.looks_findIn (M:=model prog w) X c.gt
 have L3:Looks (model prog w) hh (typeOf (.ref x)) (.ref D):=L0
 have f3:=PySem.F.attr_ValueError.ga.bind (.ref x)
 have hx2:(Value.builtin "BaseException.__getattribute__" == Value.builtin "object.__getattribute__")=false:=by decide +kernel
 have hx1:(onTheHeap (Value.ref D) && Value.builtin "BaseException.__getattribute__" == Value.builtin "object.__getattribute__")=false:=by rw [hx2]; rfl
 unfold getAttr? getAttrBy? getAttrBy
 refine wpAny_bind (wpAny_mkText (wpAny_bind (wpAny_attempt (wpAny_holding (wpAny_bind (L0.at (wpAny_bind (L1.at ?_))))))))
 repeat (any_goals (first | assumption | with_reducible refine L3.at ?_ | with_reducible refine L2.at ?_ | wp_step))
 exact jf (s:=⟨hh,g,d,t + 1,os⟩) c X I (PySem.W.handed_on rfl (wpAny_pure h))
theorem qp (c:ExK K D):PySem.W.KitX K (.ref x) (.ref D) (IsOf x D) where
 ty:=fun _ _ _ I=>I.type
 it:=fun _ _ X _=>by
  obtain ⟨cd,hc⟩:=Option.isSome_iff_exists.mp c.cls
  unfold PySem.W.clsIn at hc
  split at hc
  ·rename_i ho
   intro A' Q' E' s' k q
   unfold isType loadHead
   exact wpAny_bind (wpAny_loadPart (k _ _ (X _ _ ho)) (wpAny_pure q))
  ·cases hc
 ne:=fun h tp dd its n sl X htp=>by
  obtain ⟨cd,hc⟩:=Option.isSome_iff_exists.mp c.cls
  refine Bool.eq_false_iff.mpr fun q=>?_
  have e:D=tp:=Value.ref.inj (beq_iff_eq.mp q)
  subst e
  unfold PySem.W.clsIn at hc
  split at hc
  ·rename_i ho
   have z:=(X _ _ ho).symm.trans htp
   cases z
  ·cases hc
 ca:=fun X I k=>tK c X I k
end
end L2
namespace L2
open PySem PySem.Spec PyProof.Rows
open PySem.W (Looks)
section
variable {prog:Program} {w:World} {A:Around} {E:Value->Shared->Prop} {s:Shared} {K:PySem.W.Frag} {x dx C:Addr} {mA:Str->Option Value} {name:Str} {v:Value}
open PySem.W in
end
def exD (fs:List (Str×V)) (dx:Addr):HO:=.ext fun h=>∃ mA,h.Ns1 dx mA /\ (∀ f,RelO (fs.lookup f) (mA f)) /\ PySem.Within mA (fs.map (·.1)) /\ fs.length <= 1000
section
variable {X:Cx} {pins:List (Addr×Obj)} {σ:St} {H:Hp} {s:Shared} {a C dx:Addr} {fs:List (Str×V)} {f:Str} {v:V} {A:Around} {E:Value->Shared->Prop}
end
section
variable {X:Cx} {o e value:Expr} {f:Str} {pos pos' tpos:Pos} {ta tv:TE}
end
section
variable {K:PySem.W.Frag} {C fI:Addr}
section
variable {prog:Program} {w:World} {A:Around} {E:Value->Shared->Prop} {s:Shared}
end
end
end L2
namespace L2
open PySem PySem.Spec PyProof.Rows
section
variable {X:Cx} {pins:List (Addr×Obj)} {σ:St} {H G:Hp} {s s':Shared} {a:Addr} {W:St->XK}
end
section
variable {X:Cx} {W:St->XK} {k:Nat} {C f:Addr} {fd:FuncData} {ps:List Str} {a1 a2 x:Str} {np cpos pos:Pos} {e:Expr} {es:List Expr} {t:TA}
end
end L2
namespace DL
open PySem PySem.Spec L2
open PyProof.Rows hiding St
inductive D where
 | non | bl (b:Bool) | int (i:Int) | str (x:Str) | ty (n:String) | tup (ds:List D) | lst (ds:List D)
 | dK (ks:List Key) (ds:List D) | dT (ks:List (List Key)) (ds:List D) | pen | exc (C:Addr) | cls (C:Addr) | exa (C:Addr) (fs:List (Str×V))
inductive O where
 | val (d:D) | lst (os:List O) | dct (ks:List (List Key)) (os:List O) | tup (os:List O) | dck (ks:List Key) (os:List O)
inductive Sl where
 | nil | val (d:D) | own (ds:List D) | obj (o:O) | pin (v:V) (d:D)
section
variable (K:PySem.W.Frag) (pp:Option Addr) (M:List Addr) (H:Hp)
mutual
def Rep:D->V->Prop
 | .non,v=>v = .non
 | .bl b,v=>v = .bl b
 | .int i,v=>v = .int i
 | .str x,v=>v = .str x
 | .ty n,v=>v = .ty n
 | .tup ds,v=>∃ a xs,v = .ref a /\ H a=some (.tup xs) /\ Reps ds xs
 | .lst ds,v=>∃ a xs,v = .ref a /\ a∉M /\ pp≠some a /\ H a=some (.lst xs) /\ Reps ds xs
 | .dK ks ds,v=>∃ a kvs,v = .ref a /\ a∉M /\ pp≠some a /\ H a=some (.dK kvs) /\ kvs.map (·.1)=ks /\ Reps ds (kvs.map (·.2))
 | .dT ks ds,v=>∃ a kvs,v = .ref a /\ a∉M /\ pp≠some a /\ H a=some (.dT kvs) /\ kvs.map (·.1)=ks /\ Reps ds (kvs.map (·.2))
 | .pen,v=>∃ p,v = .ref p /\ pp=some p /\ ∃ a ns t l,Pen K H p a ns t l
 | .exc C,v=>∃ a,v = .ref a /\ a∉M /\ pp≠some a /\ H a=some (excO C a)
 | .cls C,v=>v = .ref C
 | .exa C fs,v=>∃ a dx,v = .ref a /\ a∉M /\ pp≠some a /\ H a=some (excA C (some dx) a) /\ dx∉M /\ pp≠some dx /\ H dx=some (exD fs dx)
def Reps:List D->List V->Prop
 | [],xs=>xs=[]
 | d::ds,xs=>∃ x r,xs=x::r /\ Rep d x /\ Reps ds r
end
end
section
variable {K:PySem.W.Frag} {pp:Option Addr} {M M' M'':List Addr} {H H' H'':Hp}
class TB where
 tb:List (Addr×Str)
instance (priority:=low) TB.none:TB:=⟨[]⟩
def Tabs [TB] (H:Hp):Prop:=∀ P ql,TB.tb.lookup P=some ql->∃ ps,H P=some (.tbl ps) /\ TriplesOk ps.toList /\
 ∀ pos cv,codeAmong pos ps.toList=some cv->∃ c oc u vs t,cv = .ref c /\ H c=some (.frz oc u) /\ oc.data = .fields vs /\ vs[1]? = some (.str ql t)
def TF (o:HO):Prop:=(∃ ps,o = .tbl ps)∨∃ ob u,o = .frz ob u
theorem Tabs.of [TB] {H H':Hp} (h:Tabs H) (k:∀ b o,H b=some o->TF o->H' b=some o):Tabs H':=fun P ql hq =>
 let ⟨ps,e1,e2,e3⟩:=h P ql hq
 ⟨ps,k _ _ e1 (.inl ⟨_,rfl⟩),e2,fun pos cv e=>let ⟨c,oc,u,vs,t,f1,f2,f3⟩:=e3 pos cv e; ⟨c,oc,u,vs,t,f1,k _ _ f2 (.inr ⟨_,_,rfl⟩),f3⟩⟩
theorem Tabs.upd [TB] {H:Hp} {l:Addr} {o o':HO} (h:Tabs H) (hl:H l=some o) (ht:¬ TF o):Tabs (upd H l o') :=
 h.of fun b x e tf=>by
  rw [aj]
  ·exact e
  ·rintro rfl
   rw [hl] at e; cases e
   exact ht tf
theorem Tabs.new [TB] {H:Hp} {l:Addr} {o':HO} (h:Tabs H) (hl:H l=none):Tabs (L2.upd H l o') :=
 h.of fun b x e _=>ic hl e
theorem lZ {xs:List V}:¬ TF (.lst xs):=by rintro (⟨_,e⟩ | ⟨_,_,e⟩) <;> cases e
def NT (o:HO):Prop:=∀ ps,o ≠ .tbl ps
def NP (pp:Option Addr) (a:Addr) (o:HO):Prop:=pp≠some a /\ NT o
theorem np {pp:Option Addr} {a:Addr} {o:HO} (h:pp≠some a) (t:NT o:=by intro _ z; cases z):NP pp a o:=⟨h,t⟩
structure Mv [TB] (K:PySem.W.Frag) (pp:Option Addr) (M:List Addr) (H:Hp) (M':List Addr) (H':Hp):Prop where
 tup:∀ a xs,H a=some (.tup xs)->H' a=some (.tup xs)
 oth:∀ a o,H a=some o->a∉M->NP pp a o->H' a=some o /\ a∉M'
 pen:∀ p,pp=some p->(∃ a ns t l,Pen K H p a ns t l)->∃ a ns t l,Pen K H' p a ns t l
 tb:Tabs H->Tabs H'
variable [TB]
theorem Mv.lst (m:Mv K pp M H M' H') (a:Addr) (xs:List V) (h:H a=some (.lst xs)) (n:a∉M) (q:pp≠some a):H' a=some (.lst xs) /\ a∉M':=m.oth a _ h n (np q)
theorem Mv.refl:Mv K pp M H M H:=⟨fun _ _ h=>h,fun _ _ h n _=>⟨h,n⟩,fun _ _ h=>h,fun h=>h⟩
theorem Mv.trans (x:Mv K pp M H M' H') (y:Mv K pp M' H' M'' H''):Mv K pp M H M'' H'' :=
 ⟨fun a xs h=>y.tup a xs (x.tup a xs h),fun a xs h n q=>y.oth a xs (x.oth a xs h n q).1 (x.oth a xs h n q).2 q,fun p e h=>y.pen p e (x.pen p e h),fun h=>y.tb (x.tb h)⟩
mutual
theorem Rep.mv (m:Mv K pp M H M' H'):∀ (d:D) (v:V),Rep K pp M H d v->Rep K pp M' H' d v
 | .non,_,h=>by simp only [Rep] at h ⊢; exact h
 | .bl _,_,h=>by simp only [Rep] at h ⊢; exact h
 | .int _,_,h=>by simp only [Rep] at h ⊢; exact h
 | .str _,_,h=>by simp only [Rep] at h ⊢; exact h
 | .ty _,_,h=>by simp only [Rep] at h ⊢; exact h
 | .tup ds,_,h=>by
  simp only [Rep] at h ⊢
  obtain ⟨a,xs,e,h1,h2⟩:=h
  exact ⟨a,xs,e,m.tup a xs h1,Reps.mv m ds xs h2⟩
 | .lst ds,_,h=>by
  simp only [Rep] at h ⊢
  obtain ⟨a,xs,e,h0,hp,h1,h2⟩:=h
  exact ⟨a,xs,e,(m.lst a xs h1 h0 hp).2,hp,(m.lst a xs h1 h0 hp).1,Reps.mv m ds xs h2⟩
 | .dK ks ds,_,h=>by
  simp only [Rep] at h ⊢
  obtain ⟨a,xs,e,h0,hp,h1,h2,h3⟩:=h
  exact ⟨a,xs,e,(m.oth a _ h1 h0 (np hp)).2,hp,(m.oth a _ h1 h0 (np hp)).1,h2,Reps.mv m ds _ h3⟩
 | .dT ks ds,_,h=>by
  simp only [Rep] at h ⊢
  obtain ⟨a,xs,e,h0,hp,h1,h2,h3⟩:=h
  exact ⟨a,xs,e,(m.oth a _ h1 h0 (np hp)).2,hp,(m.oth a _ h1 h0 (np hp)).1,h2,Reps.mv m ds _ h3⟩
 | .pen,_,h=>by
  simp only [Rep] at h ⊢
  obtain ⟨p,e,e2,h⟩:=h
  exact ⟨p,e,e2,m.pen p e2 h⟩
 | .exc C,_,h=>by
  simp only [Rep] at h ⊢
  obtain ⟨a,e,h0,hp,h1⟩:=h
  exact ⟨a,e,(m.oth a _ h1 h0 (np hp)).2,hp,(m.oth a _ h1 h0 (np hp)).1⟩
 | .cls _,_,h=>by simp only [Rep] at h ⊢; exact h
 | .exa C fs,_,h=>by
  simp only [Rep] at h ⊢
  obtain ⟨a,dx,e,h0,hp,h1,h2,h3,h4⟩:=h
  exact ⟨a,dx,e,(m.oth a _ h1 h0 (np hp)).2,hp,(m.oth a _ h1 h0 (np hp)).1,(m.oth dx _ h4 h2 (np h3)).2,h3,(m.oth dx _ h4 h2 (np h3)).1⟩
theorem Reps.mv (m:Mv K pp M H M' H'):∀ (ds:List D) (xs:List V),Reps K pp M H ds xs->Reps K pp M' H' ds xs
 | [],_,h=>by simp only [Reps] at h ⊢; exact h
 | d::ds,_,h=>by
  simp only [Reps] at h ⊢
  obtain ⟨x,r,e,h1,h2⟩:=h
  exact ⟨x,r,e,Rep.mv m d x h1,Reps.mv m ds r h2⟩
end
theorem Reps.length:∀ {ds:List D} {xs:List V},Reps K pp M H ds xs->ds.length=xs.length
 | [],_,h=>by simp only [Reps] at h; subst h; rfl
 | _::_,_,h=>by
  simp only [Reps] at h
  obtain ⟨x,r,rfl,_,h2⟩:=h
  simp [Reps.length h2]
theorem Reps.get':∀ {ds:List D} {xs:List V} {i:Nat} {d:D},Reps K pp M H ds xs->ds[i]? = some d->∃ x,xs[i]? = some x /\ Rep K pp M H d x
 | [],_,_,_,h,e=>by simp at e
 | d::ds,_,0,x,h,e=>by
  simp only [Reps] at h
  obtain ⟨y,r,rfl,h1,h2⟩:=h
  simp at e; subst e
  exact ⟨y,rfl,h1⟩
 | d::ds,_,i + 1,x,h,e=>by
  simp only [Reps] at h
  obtain ⟨y,r,rfl,h1,h2⟩:=h
  obtain ⟨d',e1,e2⟩:=Reps.get' (i:=i) h2 (by simpa using e)
  exact ⟨d',by simpa using e1,e2⟩
theorem Reps.append:∀ {ds es:List D} {xs ys:List V},Reps K pp M H ds xs->Reps K pp M H es ys->Reps K pp M H (ds++es) (xs++ys)
 | [],_,_,_,h,q=>by simp only [Reps] at h; subst h; exact q
 | d::ds,_,_,_,h,q=>by
  simp only [Reps] at h
  obtain ⟨y,r,rfl,h1,h2⟩:=h
  simp only [List.cons_append,Reps]
  exact ⟨y,_,rfl,h1,Reps.append h2 q⟩
theorem Reps.drop:∀ {ds:List D} {xs:List V} (n:Nat),Reps K pp M H ds xs->Reps K pp M H (ds.drop n) (xs.drop n)
 | _,_,0,h=>h
 | [],_,n + 1,h=>by simp only [Reps] at h; subst h; simp [Reps]
 | d::ds,_,n + 1,h=>by
  simp only [Reps] at h
  obtain ⟨y,r,rfl,h1,h2⟩:=h
  exact Reps.drop n h2
theorem Reps.take:∀ {ds:List D} {xs:List V} (n:Nat),Reps K pp M H ds xs->Reps K pp M H (ds.take n) (xs.take n)
 | _,_,0,h=>by simp [Reps]
 | [],_,n + 1,h=>by simp only [Reps] at h; subst h; simp [Reps]
 | d::ds,_,n + 1,h=>by
  simp only [Reps] at h
  obtain ⟨y,r,rfl,h1,h2⟩:=h
  simp only [List.take_succ_cons,Reps]
  exact ⟨y,_,rfl,h1,Reps.take n h2⟩
theorem Reps.set {d:D} {x:V} (hd:Rep K pp M H d x):∀ {ds:List D} {xs:List V} (n:Nat),Reps K pp M H ds xs->Reps K pp M H (ds.set n d) (xs.set n x)
 | [],_,n,h=>by simp only [Reps] at h; subst h; simp [Reps]
 | e::ds,_,0,h=>by
  simp only [Reps] at h
  obtain ⟨y,r,rfl,h1,h2⟩:=h
  simp only [List.set_cons_zero,Reps]
  exact ⟨x,r,rfl,hd,h2⟩
 | e::ds,_,n + 1,h=>by
  simp only [Reps] at h
  obtain ⟨y,r,rfl,h1,h2⟩:=h
  simp only [List.set_cons_succ,Reps]
  exact ⟨y,_,rfl,h1,Reps.set hd n h2⟩
theorem Reps.one {d:D} {x:V} (h:Rep K pp M H d x):Reps K pp M H [d] [x]:=by simp only [Reps]; exact ⟨x,[],rfl,h,rfl⟩
theorem Reps.nil:Reps K pp M H [] []:=by simp only [Reps]
theorem Reps.cons {d:D} {x:V} {ds:List D} {xs:List V} (h:Rep K pp M H d x) (q:Reps K pp M H ds xs):Reps K pp M H (d::ds) (x::xs):=by simp only [Reps]; exact ⟨x,xs,rfl,h,q⟩
def NW (pp:Option Addr) (b:Addr) (o:HO):Prop:=(pp=some b->∀ xs,o ≠ .lst xs) /\ NT o
theorem nw {pp:Option Addr} {b:Addr} {o:HO} (h:pp≠some b) (t:NT o:=by intro _ z; cases z):NW pp b o:=⟨fun z=>absurd z h,t⟩
structure SameQ (K:PySem.W.Frag) (pp:Option Addr) (H H':Hp):Prop where
 keep:∀ b o,H b=some o->NW pp b o->H' b=some o
 pen:∀ p,pp=some p->(∃ a ns t l,Pen K H p a ns t l)->∃ a ns t l,Pen K H' p a ns t l
 live:∀ b,H b≠none->H' b≠none
structure SameP (K:PySem.W.Frag) (pp:Option Addr) (H H':Hp):Prop extends SameQ K pp H H' where
 tb:Tabs H->Tabs H'
theorem SameQ.refl:SameQ K pp H H:=⟨fun _ _ h _=>h,fun _ _ h=>h,fun _ h=>h⟩
theorem SameP.refl:SameP K pp H H:=⟨.refl,fun h=>h⟩
theorem SameQ.trans (x:SameQ K pp H H') (y:SameQ K pp H' H''):SameQ K pp H H'' :=
 ⟨fun b o h n=>y.keep b o (x.keep b o h n) n,fun p e h=>y.pen p e (x.pen p e h),fun b h=>y.live b (x.live b h)⟩
theorem SameP.trans (x:SameP K pp H H') (y:SameP K pp H' H''):SameP K pp H H'':=⟨x.toSameQ.trans y.toSameQ,fun h=>y.tb (x.tb h)⟩
theorem SameP.of (s:Same H H'):SameP K pp H H':=⟨⟨fun b o h _=>s b o h,fun _ _ ⟨a,ns,t,l,h⟩=>⟨a,ns,t,l,h.same s⟩,fun b h e=>by
 cases q:H b with
 | none=>exact h q
 | some o=>rw [s b o q] at e; cases e⟩,fun h=>h.of fun b o e _=>s b o e⟩
theorem SameP.new {l:Addr} {o:HO} (h:H l=none):SameP K pp H (upd H l o):=.of (qm h)
theorem SameP.mv (s:SameP K pp H H'):Mv K pp M H M H' :=
 ⟨fun a xs h=>s.keep a _ h ⟨fun _ _ z=>(by cases z),fun _ z=>(by cases z)⟩,fun a xs h n q=>⟨s.keep a _ h ⟨fun z=>absurd z q.1,q.2⟩,n⟩,s.pen,s.tb⟩
theorem Mv.new {l:Addr} {o:HO} (h:H l=none):Mv K pp M H M (upd H l o):=(SameP.new h).mv
theorem Mv.newOwn {l:Addr} {o:HO} (h:H l=none):Mv K pp M H (l::M) (upd H l o) :=
 ⟨fun a xs e=>ic h e,fun a xs e n q=>⟨ic h e,by
  intro z
  rcases List.mem_cons.mp z with rfl | z
  ·rw [h] at e; cases e
  ·exact n z⟩,(SameP.new h).pen,fun t=>t.new h⟩
theorem Mv.less {l:List Addr} (h:∀ a∈l,a∈M):Mv K pp M H l H:=⟨fun _ _ h=>h,fun a xs e n _=>⟨e,fun z=>n (h a z)⟩,fun _ _ h=>h,fun h=>h⟩
theorem xZ {p l:Addr} {xs ys:List V} (hl:H l=some (.lst xs)) (hp:p≠l):(∃ a ns t k,Pen K H p a ns t k)->∃ a ns t k,Pen K (upd H l (.lst ys)) p a ns t k:=by
 rintro ⟨a,ns,t,k,h⟩
 refine ⟨a,ns,t,k,?_,?_,h.t0⟩
 ·rw [aj hp]; exact h.lst
 ·rcases h.scr with ⟨o,e⟩ | e
  ·refine .inl ⟨o,?_⟩
   rw [aj (kL e hl (by intro z; cases z))]; exact e
  ·exact .inr e
theorem Mv.write {l:Addr} {xs ys:List V} (hl:H l=some (.lst xs)) (hm:l∈M) (hp:pp≠some l):Mv K pp M H M (upd H l (.lst ys)) :=
 ⟨fun a zs e=>by rw [aj (kL e hl (by intro z; cases z))]; exact e,
  fun a zs e n q=>⟨by rw [aj (by rintro rfl; exact n hm)]; exact e,n⟩,
  fun p e h=>xZ hl (by rintro rfl; exact hp e) h,fun t=>t.upd hl lZ⟩
end
section
variable (K:PySem.W.Frag) (pp:Option Addr) (M:List Addr) (H:Hp)
mutual
def RO:O->V->List Addr->Prop
 | .val d,v,A=>A=[] /\ Rep K pp M H d v
 | .lst os,v,A=>∃ a xs B,v = .ref a /\ H a=some (.lst xs) /\ A=a::B /\ ROs os xs B
 | .dct ks os,v,A=>∃ a kvs B,v = .ref a /\ H a=some (.dT kvs) /\ kvs.map (·.1)=ks /\ A=a::B /\ ROs os (kvs.map (·.2)) B
 | .tup os,v,A=>∃ a xs,v = .ref a /\ H a=some (.tup xs) /\ ROs os xs A
 | .dck ks os,v,A=>∃ a kvs B,v = .ref a /\ H a=some (.dK kvs) /\ kvs.map (·.1)=ks /\ A=a::B /\ ROs os (kvs.map (·.2)) B
def ROs:List O->List V->List Addr->Prop
 | [],xs,A=>xs=[] /\ A=[]
 | o::os,xs,A=>∃ x r B C,xs=x::r /\ A=B++C /\ RO o x B /\ ROs os r C
end
end
section
variable {K:PySem.W.Frag} {pp:Option Addr} {M M':List Addr} {H H':Hp} [TB]
mutual
theorem RO.mv (m:Mv K pp M H M' H'):∀ (q:O) (v:V) (A:List Addr),(∀ a∈A,∀ o,H a=some o->NT o->H' a=some o)->RO K pp M H q v A->RO K pp M' H' q v A
 | .val d,v,A,_,h=>by
  simp only [RO] at h ⊢
  exact ⟨h.1,Rep.mv m d v h.2⟩
 | .lst os,v,A,k,h=>by
  simp only [RO] at h ⊢
  obtain ⟨a,xs,B,e,ha,rfl,r⟩:=h
  exact ⟨a,xs,B,e,k a List.mem_cons_self _ ha (by intro _ z; cases z),rfl,ROs.mv m os xs B (fun b hb=>k b (List.mem_cons_of_mem _ hb)) r⟩
 | .dct ks os,v,A,k,h=>by
  simp only [RO] at h ⊢
  obtain ⟨a,kvs,B,e,ha,e2,rfl,r⟩:=h
  exact ⟨a,kvs,B,e,k a List.mem_cons_self _ ha (by intro _ z; cases z),e2,rfl,ROs.mv m os _ B (fun b hb=>k b (List.mem_cons_of_mem _ hb)) r⟩
 | .tup os,v,A,k,h=>by
  simp only [RO] at h ⊢
  obtain ⟨a,xs,e,ha,r⟩:=h
  exact ⟨a,xs,e,m.tup a xs ha,ROs.mv m os xs A k r⟩
 | .dck ks os,v,A,k,h=>by
  simp only [RO] at h ⊢
  obtain ⟨a,kvs,B,e,ha,e2,rfl,r⟩:=h
  exact ⟨a,kvs,B,e,k a List.mem_cons_self _ ha (by intro _ z; cases z),e2,rfl,ROs.mv m os _ B (fun b hb=>k b (List.mem_cons_of_mem _ hb)) r⟩
theorem ROs.mv (m:Mv K pp M H M' H'):∀ (os:List O) (xs:List V) (A:List Addr),(∀ a∈A,∀ o,H a=some o->NT o->H' a=some o)->ROs K pp M H os xs A->ROs K pp M' H' os xs A
 | [],xs,A,_,h=>by simp only [ROs] at h ⊢; exact h
 | o::os,xs,A,k,h=>by
  simp only [ROs] at h ⊢
  obtain ⟨x,r,B,C,e,rfl,h1,h2⟩:=h
  exact ⟨x,r,B,C,e,rfl,RO.mv m o x B (fun b hb=>k b (List.mem_append.mpr (.inl hb))) h1,ROs.mv m os r C (fun b hb=>k b (List.mem_append.mpr (.inr hb))) h2⟩
end
mutual
def fzO:O->D
 | .val d=>d
 | .lst os=>.lst (fzOs os)
 | .dct ks os=>.dT ks (fzOs os)
 | .tup os=>.tup (fzOs os)
 | .dck ks os=>.dK ks (fzOs os)
def fzOs:List O->List D
 | []=>[]
 | o::os=>fzO o::fzOs os
end
mutual
theorem RO.fz (m:Mv K pp M H M' H):∀ (q:O) (v:V) (A:List Addr),(∀ a∈A,a∉M' /\ pp≠some a)->RO K pp M H q v A->Rep K pp M' H (fzO q) v
 | .val d,v,A,_,h=>by
  simp only [RO] at h
  simp only [fzO]
  exact Rep.mv m d v h.2
 | .lst os,v,A,k,h=>by
  simp only [RO] at h
  simp only [fzO,Rep]
  obtain ⟨a,xs,B,e,ha,rfl,r⟩:=h
  exact ⟨a,xs,e,(k a List.mem_cons_self).1,(k a List.mem_cons_self).2,ha,ROs.fz m os xs B (fun b hb=>k b (List.mem_cons_of_mem _ hb)) r⟩
 | .dct ks os,v,A,k,h=>by
  simp only [RO] at h
  simp only [fzO,Rep]
  obtain ⟨a,kvs,B,e,ha,e2,rfl,r⟩:=h
  exact ⟨a,kvs,e,(k a List.mem_cons_self).1,(k a List.mem_cons_self).2,ha,e2,ROs.fz m os _ B (fun b hb=>k b (List.mem_cons_of_mem _ hb)) r⟩
 | .tup os,v,A,k,h=>by
  simp only [RO] at h
  simp only [fzO,Rep]
  obtain ⟨a,xs,e,ha,r⟩:=h
  exact ⟨a,xs,e,ha,ROs.fz m os xs A k r⟩
 | .dck ks os,v,A,k,h=>by
  simp only [RO] at h
  simp only [fzO,Rep]
  obtain ⟨a,kvs,B,e,ha,e2,rfl,r⟩:=h
  exact ⟨a,kvs,e,(k a List.mem_cons_self).1,(k a List.mem_cons_self).2,ha,e2,ROs.fz m os _ B (fun b hb=>k b (List.mem_cons_of_mem _ hb)) r⟩
theorem ROs.fz (m:Mv K pp M H M' H):∀ (os:List O) (xs:List V) (A:List Addr),(∀ a∈A,a∉M' /\ pp≠some a)->ROs K pp M H os xs A->Reps K pp M' H (fzOs os) xs
 | [],xs,A,_,h=>by simp only [ROs] at h; simp only [fzOs,Reps]; exact h.1
 | o::os,xs,A,k,h=>by
  simp only [ROs] at h
  simp only [fzOs,Reps]
  obtain ⟨x,r,B,C,e,rfl,h1,h2⟩:=h
  exact ⟨x,r,e,RO.fz m o x B (fun b hb=>k b (List.mem_append.mpr (.inl hb))) h1,ROs.fz m os r C (fun b hb=>k b (List.mem_append.mpr (.inr hb))) h2⟩
end
theorem ma:∀ os:List O,fzOs os=os.map fzO
 | []=>rfl
 | o::os=>by simp only [fzOs,List.map_cons,ma os]
end
structure Fx where
 pp:Option Addr
 M0:List Addr
 H0:Hp
abbrev DS:=List Sl
variable [TB]
class Frm where
 L:PySem.W.Frag->Fx->List Addr->Hp->Prop
 W:DS->Addr->Prop
 cl:∀ K (F:Fx) M H M' H',L K F M H->Mv K F.pp M H M' H'->L K F M' H'
instance (priority:=low) Frm.free:Frm:=⟨fun _ _ _ _=>True,fun _ _=>False,fun _ _ _ _ _ _ h _=>h⟩
variable [Frm]
structure Lv0 (pp:Option Addr) (M:List Addr) (H:Hp):Prop where
 m:∀ a∈M,H a≠none
 p:∀ p,pp=some p->H p≠none
structure Lv (pp:Option Addr) (M:List Addr) (H:Hp):Prop extends Lv0 pp M H where
 t:Tabs H
theorem Lv0.sameQ {K:PySem.W.Frag} {pp:Option Addr} {M:List Addr} {H H':Hp} (l:Lv0 pp M H) (s:SameQ K pp H H'):Lv0 pp M H' :=
 ⟨fun a ha=>s.live a (l.m a ha),fun p e=>s.live p (l.p p e)⟩
theorem Lv0.fresh {pp:Option Addr} {M:List Addr} {H:Hp} {a:Addr} (l:Lv0 pp M H) (h:H a=none):a∉M /\ pp≠some a:=⟨fun z=>l.m a z h,fun z=>l.p a z h⟩
structure Lk (K:PySem.W.Frag) (F:Fx) (M:List Addr) (H:Hp):Prop where
 l:Frm.L K F M H
 t:Tabs H
theorem Lk.cl {K:PySem.W.Frag} {F:Fx} {M M':List Addr} {H H':Hp} (h:Lk K F M H) (m:Mv K F.pp M H M' H'):Lk K F M' H':=⟨Frm.cl _ _ _ _ _ _ h.l m,m.tb h.t⟩
section
variable (K:PySem.W.Frag) (F:Fx) (M:List Addr) (H:Hp)
def RSl:Sl->Option V->Prop
 | .nil,_=>True
 | .val d,o=>∃ v,o=some v /\ Rep K F.pp M H d v
 | .own ds,o=>∃ l xs,o=some (.ref l) /\ l∈M /\ F.H0 l=none /\ F.pp≠some l /\ H l=some (.lst xs) /\ Reps K F.pp M H ds xs
 | .obj _,o=>∃ v,o=some v
 | .pin w d,o=>∃ v,o=some v /\ v=w /\ Rep K F.pp M H d v
def Ow:Sl->Option V->List Addr->Prop
 | .own _,o,A=>∃ l,o=some (.ref l) /\ A=[l]
 | .obj q,o,A=>A.Nodup /\ ∃ v,o=some v /\ RO K F.pp M H q v A
 | _,_,_=>True
def OwF (σ:St) (ρ:DS):Prop:=∃ As:Nat->List Addr,(∀ (i:Nat) s o,ρ[i]? = some s->σ[i]? = some o->Ow K F M H s o (As i)) /\ (∀ i,∀ a∈As i,a∈M /\ F.H0 a=none /\ F.pp≠some a) /\ ∀ i j,i≠j->∀ a∈As i,a∉As j
structure RSt (σ:St) (ρ:DS):Prop where
 len:σ.length=ρ.length
 sl:∀ (i:Nat) s o,ρ[i]? = some s->σ[i]? = some o->RSl K F M H s o
 ow:OwF K F M H σ ρ
 sub:∀ a∈F.M0,a∈M
 same:SameQ K F.pp F.H0 H
 old:∀ a∈F.M0,F.H0 a≠none
 liv0:Lv0 F.pp M H
 lk:Lk K F M H
end
section
variable {K:PySem.W.Frag} {F:Fx} {M M':List Addr} {H H':Hp} {σ:St} {ρ:DS}
theorem RSt.liv (r:RSt K F M H σ ρ):Lv F.pp M H:=⟨r.liv0,r.lk.t⟩
theorem RSt.sameT (r:RSt K F M H σ ρ):SameP K F.pp F.H0 H:=⟨r.same,fun _=>r.lk.t⟩
omit [Frm] in
theorem Ow.mv {s:Sl} {o:Option V} {A:List Addr} (m:Mv K F.pp M H M' H') (k:∀ a∈A,∀ x,H a=some x->NT x->H' a=some x) (h:Ow K F M H s o A):Ow K F M' H' s o A:=by
 cases s with
 | nil=>trivial
 | val d=>trivial
 | pin w d=>trivial
 | own ds=>exact h
 | obj q =>
  obtain ⟨nd,v,e,h⟩:=h
  exact ⟨nd,v,e,RO.mv m q v A k h⟩
omit [Frm] in
theorem OwF.keep (h:OwF K F M H σ ρ) (m:Mv K F.pp M H M' H') (k:∀ a,a∈M->F.pp≠some a->F.H0 a=none->a∈M' /\ ∀ x,H a=some x->NT x->H' a=some x):OwF K F M' H' σ ρ:=by
 obtain ⟨As,h1,h2,h3⟩:=h
 refine ⟨As,fun i s o e1 e2=>(h1 i s o e1 e2).mv m fun a ha=>(k a (h2 i a ha).1 (h2 i a ha).2.2 (h2 i a ha).2.1).2,fun i a ha=>⟨(k a (h2 i a ha).1 (h2 i a ha).2.2 (h2 i a ha).2.1).1,(h2 i a ha).2⟩,h3⟩
omit [Frm] in
theorem OwF.step {σ':St} {ρ':DS} (h:OwF K F M H σ ρ) (m:Mv K F.pp M H M' H') (i:Nat) (hσ:∀ j,j≠i->σ'[j]? = σ[j]?) (hρ:∀ j,j≠i->ρ'[j]? = ρ[j]?)
  (k:∀ A,(∀ s o,ρ[i]? = some s->σ[i]? = some o->Ow K F M H s o A)->(∀ a∈A,a∈M /\ F.H0 a=none /\ F.pp≠some a)->∃ B,(∀ s o,ρ'[i]? = some s->σ'[i]? = some o->Ow K F M' H' s o B) /\
   (∀ b∈B,b∈M' /\ F.H0 b=none /\ F.pp≠some b /\ (b∈A∨b∉M)) /\ ∀ a,a∈M->F.pp≠some a->F.H0 a=none->a∉A->a∈M' /\ ∀ x,H a=some x->NT x->H' a=some x):OwF K F M' H' σ' ρ':=by
 obtain ⟨As,h1,h2,h3⟩:=h
 obtain ⟨B,k1,k2,k3⟩:=k (As i) (h1 i) (h2 i)
 have old:∀ j,j≠i->∀ a∈As j,a∈M' /\ ∀ x,H a=some x->NT x->H' a=some x:=fun j e a ha=>k3 a (h2 j a ha).1 (h2 j a ha).2.2 (h2 j a ha).2.1 (h3 j i e a ha)
 refine ⟨fun j=>if j=i then B else As j,fun j s o e1 e2=>?_,fun j a ha=>?_,fun j l e a ha hb=>?_⟩
 ·show Ow K F M' H' s o (if j=i then B else As j)
  by_cases e:j=i
  ·subst e
   rw [if_pos rfl]
   exact k1 s o e1 e2
  ·rw [if_neg e]
   rw [hρ j e] at e1
   rw [hσ j e] at e2
   exact (h1 j s o e1 e2).mv m fun a ha=>(old j e a ha).2
 ·replace ha:a∈(if j=i then B else As j):=ha
  by_cases e:j=i
  ·subst e
   rw [if_pos rfl] at ha
   exact ⟨(k2 a ha).1,(k2 a ha).2.1,(k2 a ha).2.2.1⟩
  ·rw [if_neg e] at ha
   exact ⟨(old j e a ha).1,(h2 j a ha).2⟩
 ·replace ha:a∈(if j=i then B else As j):=ha
  replace hb:a∈(if l=i then B else As l):=hb
  by_cases e1:j=i
  ·subst e1
   rw [if_pos rfl] at ha
   rw [if_neg (Ne.symm e)] at hb
   rcases (k2 a ha).2.2.2 with z | z
   ·exact h3 j l e a z hb
   ·exact z (h2 l a hb).1
  ·rw [if_neg e1] at ha
   by_cases e2:l=i
   ·subst e2
    rw [if_pos rfl] at hb
    rcases (k2 a hb).2.2.2 with z | z
    ·exact h3 j l e a ha z
    ·exact z (h2 j a ha).1
   ·rw [if_neg e2] at hb
    exact h3 j l e a ha hb
omit [Frm] in
theorem OwF.none (h:∀ (i:Nat) s,ρ[i]? = some s->(∀ ds,s ≠ .own ds) /\ ∀ q,s ≠ .obj q):OwF K F M H σ ρ:=by
 refine ⟨fun _=>[],fun i s o e1 _=>?_,fun _ _ h=>(by simp at h),fun _ _ _ _ h=>(by simp at h)⟩
 cases s with
 | nil=>trivial
 | val d=>trivial
 | pin w d=>trivial
 | own ds=>exact absurd rfl ((h i _ e1).1 ds)
 | obj q=>exact absurd rfl ((h i _ e1).2 q)
theorem RSt.own (r:RSt K F M H σ ρ) (i j:Nat) (ds es:List D) (a:Addr) (h1:ρ[i]? = some (.own ds)) (h2:ρ[j]? = some (.own es)) (h3:σ[i]? = some (some (.ref a))) (h4:σ[j]? = some (some (.ref a))):i=j:=by
 obtain ⟨As,k1,k2,k3⟩:=r.ow
 obtain ⟨l,e,e2⟩:=k1 i _ _ h1 h3
 cases e
 obtain ⟨l,e,e3⟩:=k1 j _ _ h2 h4
 cases e
 by_cases z:i=j
 ·exact z
 ·exact absurd (by rw [e3]; simp) (k3 i j z a (by rw [e2]; simp))
omit [Frm] in
theorem SameP.ow (s:SameP K F.pp H H') (a:Addr) (_:a∈M) (p:F.pp≠some a) (_:F.H0 a=none):a∈M /\ ∀ x,H a=some x->NT x->H' a=some x:=⟨‹_›,fun x e n=>s.keep a x e (nw p n)⟩
theorem RSt.sameP (r:RSt K F M H σ ρ) (s:SameP K F.pp H H'):RSt K F M H' σ ρ:=by
 refine ⟨r.len,fun i q o h1 h2=>?_,r.ow.keep s.mv fun a h1 h2 h3=>s.ow a h1 h2 h3,r.sub,r.same.trans s.toSameQ,r.old,r.liv0.sameQ s.toSameQ,r.lk.cl s.mv⟩
 have:=r.sl i q o h1 h2
 cases q with
 | nil=>trivial
 | val d=>obtain ⟨v,e,h⟩:=this; exact ⟨v,e,h.mv s.mv⟩
 | pin w d=>obtain ⟨v,e,ew,h⟩:=this; exact ⟨v,e,ew,h.mv s.mv⟩
 | own ds =>
  obtain ⟨l,xs,e,hm,h0,hp,hl,hr⟩:=this
  exact ⟨l,xs,e,hm,h0,hp,s.keep l _ hl (nw hp),hr.mv s.mv⟩
 | obj q=>exact this
theorem RSt.at (r:RSt K F M H σ ρ) {i:Nat} {s:Sl} (h:ρ[i]? = some s):∃ o,σ[i]? = some o /\ RSl K F M H s o:=by
 have hi:i < σ.length:=by rw [r.len]; exact (List.getElem?_eq_some_iff.mp h).1
 exact ⟨σ[i],by simp [hi],r.sl i s _ h (by simp [hi])⟩
omit [Frm] in
theorem OwF.drop {σ':St} {ρ':DS} (h:OwF K F M H σ ρ) (i:Nat) (hσ:∀ j,j≠i->σ'[j]? = σ[j]?) (hρ:∀ j,j≠i->ρ'[j]? = ρ[j]?) (hn:∀ s,ρ'[i]? = some s->(∀ ds,s ≠ .own ds) /\ ∀ q,s ≠ .obj q):OwF K F M H σ' ρ' :=
 h.step .refl i hσ hρ fun A _ _=>⟨[],fun s o e _=>(by
  cases s with
  | nil=>trivial
  | val d=>trivial
  | pin w d=>trivial
  | own ds=>exact absurd rfl ((hn _ e).1 ds)
  | obj q=>exact absurd rfl ((hn _ e).2 q)),fun _ h=>(by simp at h),fun a ha _ _ _=>⟨ha,fun _ e _=>e⟩⟩
omit [Frm] in
theorem aP {α:Type} {l:List α} {i:Nat} {x y:α} (h:(l.set i x)[i]? = some y):y=x:=by
 have hi:i < l.length:=by have:=(List.getElem?_eq_some_iff.mp h).1; simpa using this
 simp [hi] at h
 exact h.symm
theorem RSt.set (r:RSt K F M H σ ρ) {d:D} {v:V} (h:Rep K F.pp M H d v) (i:Nat):RSt K F M H (σ.set i (some v)) (ρ.set i (.val d)):=by
 refine ⟨by simp [r.len],fun j s o h1 h2=>?_,r.ow.drop i (fun j e=>List.getElem?_set_ne (Ne.symm e)) (fun j e=>List.getElem?_set_ne (Ne.symm e)) (fun s e=>?_),r.sub,r.same,r.old,r.liv0,r.lk⟩
 ·by_cases e:i=j
  ·subst e
   rw [aP h1,aP h2]
   exact ⟨v,rfl,h⟩
  ·rw [List.getElem?_set_ne e] at h1 h2
   exact r.sl j s o h1 h2
 ·rw [aP e]
  exact ⟨fun ds z=>(by cases z),fun q z=>(by cases z)⟩
end
end DL
namespace DL
open PySem PySem.Spec L2
open PyProof.Rows hiding St
variable [TB]
variable [Frm]
abbrev DE:=DS->(D->DS->Prop)->Prop
abbrev DT:=DS->(Bool->DS->Prop)->Prop
abbrev DA:=DS->(List D->DS->Prop)->Prop
structure DEnds where
 nx:DS->Prop
 rt:D->Prop
 bk:DS->Prop:=fun _=>False
 ct:DS->Prop:=fun _=>False
abbrev DTS:=DEnds->DS->Prop
def slot:DS->Nat->Sl
 | [],_=>.nil
 | s::_,0=>s
 | _::r,n + 1=>slot r n
theorem aW:∀ {ρ:DS} {i:Nat} {s:Sl},slot ρ i=s->s ≠ .nil->ρ[i]? = some s
 | [],_,_,h,n=>absurd h.symm n
 | _::_,0,_,h,_=>by subst h; rfl
 | _::r,i + 1,s,h,n=>by simpa using aW (ρ:=r) (i:=i) h n
section
variable {X:Cx} {F:Fx}
structure PED (X:Cx) (e:Expr) (t:DE):Prop where
 mono:∀ ρ P P',(∀ d ρ',P d ρ'->P' d ρ')->t ρ P->t ρ P'
 run:∃ T:TE,PE X e T /\ ∀ {F:Fx} M H σ ρ (Q:VK),RSt X.K F M H σ ρ ->
  (t ρ fun d ρ'=>∀ M' H' v,Mv X.K F.pp M H M' H'->RSt X.K F M' H' σ ρ'->Rep X.K F.pp M' H' d v->Q v H')->T σ H Q
structure PTD (X:Cx) (e:Expr) (t:DT):Prop where
 mono:∀ ρ P P',(∀ b ρ',P b ρ'->P' b ρ')->t ρ P->t ρ P'
 run:∃ T:TT,PT X e T /\ ∀ {F:Fx} M H σ ρ (Q:Bool->Hp->Prop),RSt X.K F M H σ ρ ->
  (t ρ fun b ρ'=>∀ M' H',Mv X.K F.pp M H M' H'->RSt X.K F M' H' σ ρ'->Q b H')->T σ H Q
structure PWD (X:Cx) (e:Expr) (t:DT):Prop where
 mono:∀ ρ P P',(∀ b ρ',P b ρ'->P' b ρ')->t ρ P->t ρ P'
 run:∃ T:TT,PW X e T /\ ∀ {F:Fx} M H σ ρ (Q:Bool->Hp->Prop),RSt X.K F M H σ ρ ->
  (t ρ fun b ρ'=>∀ M' H',Mv X.K F.pp M H M' H'->RSt X.K F M' H' σ ρ'->Q b H')->T σ H Q
structure PAD (X:Cx) (es:List Expr) (t:DA):Prop where
 mono:∀ ρ P P',(∀ d ρ',P d ρ'->P' d ρ')->t ρ P->t ρ P'
 run:∃ T:TA,PA X es T /\ ∀ {F:Fx} M H σ ρ (Q:List V->Hp->Prop),RSt X.K F M H σ ρ ->
  (t ρ fun ds ρ'=>∀ M' H' vs,Mv X.K F.pp M H M' H'->RSt X.K F M' H' σ ρ'->Reps X.K F.pp M' H' ds vs->Q vs H')->T σ H Q
abbrev dC (d:D):DE:=fun ρ Q=>Q d ρ
theorem PED.con {e:Expr} {d:D} {v:V} (h:PE X e (tC v)) (r:∀ pp M H,Rep X.K pp M H d v):PED X e (dC d) :=
 ⟨fun _ _ _ f h=>f _ _ h,_,h,fun {F} M H _ _ _ rs q=>q M H v .refl rs (r _ M H)⟩
theorem ah {i j pos}:PED X (.Constant (.int i) j pos) (dC (.int i)):=.con bE fun _ _ _=>by simp only [Rep]
theorem fP {i j pos}:PED X (.Constant (.bool i) j pos) (dC (.bl i)):=.con Bu fun _ _ _=>by simp only [Rep]
theorem Ab {j pos}:PED X (.Constant .none j pos) (dC .non):=.con zc fun _ _ _=>by simp only [Rep]
theorem Ac {i j pos}:PED X (.Constant (.str i) j pos) (dC (.str i)):=.con zd fun _ _ _=>by simp only [Rep]
theorem kN {x:Str} {n:String} {pos:Pos} (hg:Gl X x) (hm:X.mg x=none) (hv:bootBuiltins x=some (.type n)) (hn:x ≠ "__name__":=by decide) (hd:(x == ("__debug__" : Str))=false:=by decide):PED X (.Name x pos) (dC (.ty n)) :=
 .con (xr (v:=.ty n) hg hm hv rfl hn hd) fun _ _ _=>by simp only [Rep]
def BS (i:Nat) (ρ:DS) (Q:D->DS->Prop):Sl->Prop
 | .val d=>Q d ρ
 | .own ds=>Q (.lst ds) (ρ.set i (.val (.lst ds)))
 | .obj q=>Q (fzO q) (ρ.set i (.val (fzO q)))
 | .pin _ d=>Q d ρ
 | .nil=>False
abbrev dVar (i:Nat):DE:=fun ρ Q=>BS i ρ Q (slot ρ i)
theorem RSt.freeze {K:PySem.W.Frag} {M:List Addr} {H:Hp} {σ:St} {ρ:DS} {i:Nat} {ds:List D} (r:RSt K F M H σ ρ) (h:ρ[i]? = some (.own ds)) :
  ∃ M' v,σ[i]? = some (some v) /\ Mv K F.pp M H M' H /\ RSt K F M' H σ (ρ.set i (.val (.lst ds))) /\ Rep K F.pp M' H (.lst ds) v:=by
 obtain ⟨o,ho,l,xs,rfl,hm,h0,hp,hl,hr⟩:=r.at h
 have m:Mv K F.pp M H (M.filter fun a=>decide (a≠l)) H:=.less fun a ha=>(List.mem_filter.mp ha).1
 have rl:Rep K F.pp (M.filter fun a=>decide (a≠l)) H (.lst ds) (.ref l):=by
  simp only [Rep]
  exact ⟨l,xs,rfl,by simp,hp,hl,hr.mv m⟩
 refine ⟨_,_,ho,m,⟨by simp [r.len],fun j s o h1 h2=>?_,r.ow.step m i (fun _ _=>rfl) (fun j e=>List.getElem?_set_ne (Ne.symm e)) (fun A hA _=>⟨[],fun s o e _=>?_,fun _ h=>(by simp at h),fun a ha _ _ hn=>⟨?_,fun _ e _=>e⟩⟩),fun a ha=>?_,r.same,r.old,?_,r.lk.cl m⟩,rl⟩
 ·by_cases e:i=j
  ·subst e
   rw [ho] at h2
   rw [aP h1]
   cases h2
   exact ⟨_,rfl,rl⟩
  ·rw [List.getElem?_set_ne e] at h1
   have q:=r.sl j s o h1 h2
   cases s with
   | nil=>trivial
   | val d=>obtain ⟨v,e,q⟩:=q; exact ⟨v,e,q.mv m⟩
   | pin w d=>obtain ⟨v,e,ew,q⟩:=q; exact ⟨v,e,ew,q.mv m⟩
   | own es =>
    obtain ⟨l',ys,rfl,hm',h0',hp',hl',hr'⟩:=q
    refine ⟨l',ys,rfl,List.mem_filter.mpr ⟨hm',?_⟩,h0',hp',hl',hr'.mv m⟩
    by_cases z:l'=l
    ·subst z
     exact absurd (r.own i j _ _ _ h h1 ho h2) e
    ·simpa using z
   | obj q=>exact ‹_›
 ·rw [aP e]
  trivial
 ·obtain ⟨l2,e2,e3⟩:=hA _ _ h ho
  cases e2
  refine List.mem_filter.mpr ⟨ha,?_⟩
  by_cases z:a=l
  ·subst z
   exact absurd (by rw [e3]; simp) hn
  ·simpa using z
 ·refine List.mem_filter.mpr ⟨r.sub a ha,?_⟩
  by_cases z:a=l
  ·subst z
   exact absurd h0 (r.old a ha)
  ·simpa using z
 ·exact ⟨fun a ha=>r.liv.m a (List.mem_filter.mp ha).1,r.liv.p⟩
theorem RSt.objAt {K:PySem.W.Frag} {M:List Addr} {H:Hp} {σ:St} {ρ:DS} {i:Nat} {q:O} (r:RSt K F M H σ ρ) (h:ρ[i]? = some (.obj q)) :
  ∃ v A,σ[i]? = some (some v) /\ A.Nodup /\ RO K F.pp M H q v A /\ (∀ a∈A,a∈M /\ F.H0 a=none /\ F.pp≠some a) /\ ∀ (j:Nat) s o,j≠i->ρ[j]? = some s->σ[j]? = some o->∀ l,(∃ ds,s = .own ds)->o=some (.ref l)->l∉A:=by
 obtain ⟨o,ho,_⟩:=r.at h
 obtain ⟨As,k1,k2,k3⟩:=r.ow
 obtain ⟨nd,v,rfl,hq⟩:=k1 i _ _ h ho
 refine ⟨v,As i,ho,nd,hq,k2 i,fun j s o e h1 h2 l hs ho' hl=>?_⟩
 obtain ⟨ds,rfl⟩:=hs
 subst ho'
 obtain ⟨l2,e2,e3⟩:=k1 j _ _ h1 h2
 cases e2
 exact k3 j i e l (by rw [e3]; simp) hl
theorem RSt.freezeO {K:PySem.W.Frag} {M:List Addr} {H:Hp} {σ:St} {ρ:DS} {i:Nat} {q:O} (r:RSt K F M H σ ρ) (h:ρ[i]? = some (.obj q)) :
  ∃ M' v,σ[i]? = some (some v) /\ Mv K F.pp M H M' H /\ RSt K F M' H σ (ρ.set i (.val (fzO q))) /\ Rep K F.pp M' H (fzO q) v:=by
 obtain ⟨As,k1,k2,k3⟩:=r.ow
 obtain ⟨o,ho,_⟩:=r.at h
 obtain ⟨nd,v,rfl,hq⟩:=k1 i _ _ h ho
 have m:Mv K F.pp M H (M.filter fun a=>decide (a∉As i)) H:=.less fun a ha=>(List.mem_filter.mp ha).1
 have rl:Rep K F.pp (M.filter fun a=>decide (a∉As i)) H (fzO q) v:=RO.fz m q v (As i) (fun a ha=>⟨fun z=>absurd ha (by simpa using (List.mem_filter.mp z).2),(k2 i a ha).2.2⟩) hq
 refine ⟨_,_,ho,m,⟨by simp [r.len],fun j s o h1 h2=>?_,⟨fun j=>if j=i then [] else As j,fun j s o e1 e2=>?_,fun j a ha=>?_,fun j l e a ha hb=>?_⟩,fun a ha=>?_,r.same,r.old,?_,r.lk.cl m⟩,rl⟩
 ·by_cases e:i=j
  ·subst e
   rw [ho] at h2
   rw [aP h1]
   cases h2
   exact ⟨_,rfl,rl⟩
  ·rw [List.getElem?_set_ne e] at h1
   have q':=r.sl j s o h1 h2
   cases s with
   | nil=>trivial
   | val d=>obtain ⟨v,e,q⟩:=q'; exact ⟨v,e,q.mv m⟩
   | pin w d=>obtain ⟨v,e,ew,q⟩:=q'; exact ⟨v,e,ew,q.mv m⟩
   | own es =>
    obtain ⟨l',ys,rfl,hm',h0',hp',hl',hr'⟩:=q'
    refine ⟨l',ys,rfl,List.mem_filter.mpr ⟨hm',?_⟩,h0',hp',hl',hr'.mv m⟩
    obtain ⟨l2,e2,e3⟩:=k1 j _ _ h1 h2
    cases e2
    simpa using k3 j i (Ne.symm e) l' (by rw [e3]; simp)
   | obj q=>exact ‹_›
 ·show Ow K F _ H s o (if j=i then [] else As j)
  by_cases e:j=i
  ·subst e
   rw [aP e1]
   trivial
  ·rw [if_neg e]
   rw [List.getElem?_set_ne (Ne.symm e)] at e1
   exact (k1 j s o e1 e2).mv m fun a _ x z _=>z
 ·replace ha:a∈(if j=i then [] else As j):=ha
  by_cases e:j=i
  ·rw [if_pos e] at ha; simp at ha
  ·rw [if_neg e] at ha
   exact ⟨List.mem_filter.mpr ⟨(k2 j a ha).1,by simpa using k3 j i e a ha⟩,(k2 j a ha).2⟩
 ·replace ha:a∈(if j=i then [] else As j):=ha
  replace hb:a∈(if l=i then [] else As l):=hb
  by_cases e1:j=i
  ·rw [if_pos e1] at ha; simp at ha
  ·by_cases e2:l=i
   ·rw [if_pos e2] at hb; simp at hb
   ·rw [if_neg e1] at ha
    rw [if_neg e2] at hb
    exact k3 j l e a ha hb
 ·refine List.mem_filter.mpr ⟨r.sub a ha,?_⟩
  have:a∉As i:=fun z=>r.old a ha (k2 i a z).2.1
  simpa using this
 ·exact ⟨fun a ha=>r.liv.m a (List.mem_filter.mp ha).1,r.liv.p⟩
theorem ad (i:Nat) {e:Expr} (h:PE X e (tVar i)):PED X e (dVar i):=by
 refine ⟨fun ρ P P' f h=>?_,_,h,fun {F} M H σ ρ Q rs h=>?_⟩
 ·unfold dVar at h ⊢
  cases e:slot ρ i with
  | nil=>rw [e] at h; exact h
  | val d=>rw [e] at h; exact f _ _ h
  | own ds=>rw [e] at h; exact f _ _ h
  | obj q=>rw [e] at h; exact f _ _ h
  | pin w d=>rw [e] at h; exact f _ _ h
 ·unfold dVar at h
  cases e:slot ρ i with
  | nil=>rw [e] at h; exact h.elim
  | val d =>
   rw [e] at h
   obtain ⟨o,ho,v,rfl,r⟩:=rs.at (aW e (by intro z; cases z))
   exact ⟨v,ho,h M H v .refl rs r⟩
  | pin w d =>
   rw [e] at h
   obtain ⟨o,ho,v,rfl,_,r⟩:=rs.at (aW e (by intro z; cases z))
   exact ⟨v,ho,h M H v .refl rs r⟩
  | own ds =>
   rw [e] at h
   obtain ⟨M',v,ho,m,rs',r⟩:=rs.freeze (aW e (by intro z; cases z))
   exact ⟨v,ho,h M' H v m rs' r⟩
  | obj q =>
   rw [e] at h
   obtain ⟨M',v,ho,m,rs',r⟩:=rs.freezeO (aW e (by intro z; cases z))
   exact ⟨v,ho,h M' H v m rs' r⟩
structure OpD (X:Cx) (f:Value->Value->Sem Value) (g:D->D->(D->Prop)->Prop):Prop where
 mono:∀ x y P P',(∀ d,P d->P' d)->g x y P->g x y P'
 run:∃ r:R2,OpR X f r /\ ∀ {pp:Option Addr} M H x y v u (Q:VK),Lv pp M H->Rep X.K pp M H x v->Rep X.K pp M H y u ->
  g x y (fun d=>∀ H' w,SameP X.K pp H H'->Rep X.K pp M H' d w->Q w H')->r v u H Q
abbrev dOp (g:D->D->(D->Prop)->Prop) (ta tb:DE):DE:=fun ρ Q=>ta ρ fun x ρ1=>tb ρ1 fun y ρ2=>g x y fun d=>Q d ρ2
variable {a b c:Expr} {ta tb tc:DE} {pos:Pos} {g g':D->D->(D->Prop)->Prop}
theorem gH {g:D->D->(D->Prop)->Prop} (hg:∀ x y P P',(∀ d,P d->P' d)->g x y P->g x y P') (ha:PED X a ta) (hb:PED X b tb):∀ ρ P P',(∀ d ρ',P d ρ'->P' d ρ')->dOp g ta tb ρ P->dOp g ta tb ρ P' :=
 fun ρ _ _ f h=>ha.mono _ _ _ (fun _ _ h=>hb.mono _ _ _ (fun _ _ h=>hg _ _ _ _ (fun _ h=>f _ _ h) h) h) h
theorem me {g:D->D->(D->Prop)->Prop} {r:R2} {Ta Tb:TE} (hg:∀ M H x y v u (Q:VK),Lv F.pp M H->Rep X.K F.pp M H x v->Rep X.K F.pp M H y u ->
   g x y (fun d=>∀ H' w,SameP X.K F.pp H H'->Rep X.K F.pp M H' d w->Q w H')->r v u H Q)
  (hgm:∀ x y P P',(∀ d,P d->P' d)->g x y P->g x y P') (ha:PED X a ta) (hb:PED X b tb)
  (ra:∀ M H σ ρ (Q:VK),RSt X.K F M H σ ρ->(ta ρ fun d ρ'=>∀ M' H' v,Mv X.K F.pp M H M' H'->RSt X.K F M' H' σ ρ'->Rep X.K F.pp M' H' d v->Q v H')->Ta σ H Q)
  (rb:∀ M H σ ρ (Q:VK),RSt X.K F M H σ ρ->(tb ρ fun d ρ'=>∀ M' H' v,Mv X.K F.pp M H M' H'->RSt X.K F M' H' σ ρ'->Rep X.K F.pp M' H' d v->Q v H')->Tb σ H Q)
  {M:List Addr} {H:Hp} {σ:St} {ρ:DS} {Q:VK} (rs:RSt X.K F M H σ ρ)
  (h:dOp g ta tb ρ fun d ρ'=>∀ M' H' v,Mv X.K F.pp M H M' H'->RSt X.K F M' H' σ ρ'->Rep X.K F.pp M' H' d v->Q v H'):tOp r Ta Tb σ H Q:=by
 refine ra M H σ ρ _ rs (ha.mono _ _ _ (fun x ρ1 h M1 H1 v m1 rs1 r1=>?_) h)
 refine rb M1 H1 σ ρ1 _ rs1 (hb.mono _ _ _ (fun y ρ2 h M2 H2 u m2 rs2 r2=>?_) h)
 refine hg M2 H2 x y v u _ rs2.liv (r1.mv m2) r2 (hgm _ _ _ _ (fun d h H' w s r=>?_) h)
 exact h M2 H' w ((m1.trans m2).trans s.mv) (rs2.sameP s) r
theorem dq {op:Operator} (ho:OpD X (binaryOp op) g) (ha:PED X a ta) (hb:PED X b tb):PED X (.BinOp a op b pos) (dOp g ta tb):=by
 obtain ⟨r,hr,hg⟩:=ho.run
 obtain ⟨Ta,pa,ra⟩:=ha.run
 obtain ⟨Tb,pb,rb⟩:=hb.run
 exact ⟨gH ho.mono ha hb,_,cK hr pa pb,fun {F} M H σ ρ Q rs h=>me hg ho.mono ha hb ra rb rs h⟩
theorem qq {op:CmpOp} (ho:OpD X (compareOp op) g) (ha:PED X a ta) (hb:PED X b tb) (hm:behindInMarks op b=false):PED X (.Compare a [op] [b] pos) (dOp g ta tb):=by
 obtain ⟨r,hr,hg⟩:=ho.run
 obtain ⟨Ta,pa,ra⟩:=ha.run
 obtain ⟨Tb,pb,rb⟩:=hb.run
 exact ⟨gH ho.mono ha hb,_,xz hr pa pb hm,fun {F} M H σ ρ Q rs h=>me hg ho.mono ha hb ra rb rs h⟩
def blD:D->(Bool->Prop)->Prop
 | .bl b,P=>P b
 | _,_=>False
theorem jm {d:D} {P P':Bool->Prop} (f:∀ b,P b->P' b) (h:blD d P):blD d P':=by cases d <;> first | exact h | exact f _ h
abbrev dB (t:DE):DT:=fun ρ Q=>t ρ fun d ρ'=>blD d fun b=>Q b ρ'
theorem jP {K:PySem.W.Frag} {pp:Option Addr} {M:List Addr} {H:Hp} {d:D} {v:V} {P:Bool->Prop} (r:Rep K pp M H d v) (h:blD d P):∃ k,v = .bl k /\ P k:=by
 cases d <;> first | exact h.elim | (simp only [Rep] at r; exact ⟨_,r,h⟩)
theorem tM (ha:PED X a ta):∀ ρ P P',(∀ b ρ',P b ρ'->P' b ρ')->dB ta ρ P->dB ta ρ P':=fun _ _ _ f h=>ha.mono _ _ _ (fun _ _ h=>jm (fun _ h=>f _ _ h) h) h
theorem bq {op:CmpOp} (ho:OpD X (compareOp op) g) (ha:PED X a ta) (hb:PED X b tb) (hm:behindInMarks op b=false):PTD X (.Compare a [op] [b] pos) (dB (dOp g ta tb)):=by
 obtain ⟨r,hr,hg⟩:=ho.run
 obtain ⟨Ta,pa,ra⟩:=ha.run
 obtain ⟨Tb,pb,rb⟩:=hb.run
 refine ⟨tM (X:=X) (a:=.Compare a [op] [b] pos) (qq ho ha hb hm),_,jD hr pa pb hm,fun {F} M H σ ρ Q rs h=>?_⟩
 refine me hg ho.mono ha hb ra rb rs (gH ho.mono ha hb _ _ _ (fun d ρ' h M' H' v m rs' r=>?_) h)
 obtain ⟨k,e,h⟩:=jP r h
 exact ⟨k,e,h M' H' m rs'⟩
theorem bS {e:Expr} {t:DE} (h:PED X e t) (he:∀ whole,isTrue e X.env whole=(do let v ← whole; standAt e.pos; holding [v] (truthy v)):=by intro _; rfl):PTD X e (dB t):=by
 obtain ⟨T,p,r⟩:=h.run
 refine ⟨tM h,_,ze p he,fun {F} M H σ ρ Q rs q=>?_⟩
 refine r M H σ ρ _ rs (h.mono _ _ _ (fun d ρ' h M' H' v m rs' r=>?_) q)
 obtain ⟨k,e,h⟩:=jP r h
 exact ⟨k,e,h M' H' m rs'⟩
structure Br (b:Bool) (A B:Prop):Prop where
 yes:b=true->A
 no:b=false->B
theorem Br.t {A B:Prop} (h:A):Br true A B:=⟨fun _=>h,fun e=>nomatch e⟩
theorem Br.f {A B:Prop} (h:B):Br false A B:=⟨(fun e=>nomatch e),fun _=>h⟩
abbrev dNot (t:DT):DT:=fun ρ Q=>t ρ fun b ρ'=>Q (!b) ρ'
abbrev dAnd (t u:DT):DT:=fun ρ Q=>t ρ fun b ρ'=>Br b (u ρ' Q) (Q false ρ')
abbrev dOr (t u:DT):DT:=fun ρ Q=>t ρ fun b ρ'=>Br b (Q true ρ') (u ρ' Q)
variable {tA tB:DT} {rest:List Expr}
theorem cC (h:PTD X a tA):PTD X (.UnaryOp .Not a pos) (dNot tA):=by
 obtain ⟨T,p,r⟩:=h.run
 exact ⟨fun _ _ _ f q=>h.mono _ _ _ (fun _ _ q=>f _ _ q) q,_,zh p,fun {F} M H σ ρ Q rs q=>r M H σ ρ _ rs q⟩
theorem PWD.pt {e:Expr} {t:DT} (h:PWD X e t):PTD X e t:=by
 obtain ⟨T,p,r⟩:=h.run
 exact ⟨h.mono,T,p.pt,r⟩
theorem oY (h:PTD X a tA):PWD X (.BoolOp .And [a] pos) tA:=by
 obtain ⟨T,p,r⟩:=h.run
 exact ⟨h.mono,T,xt p,r⟩
theorem dP (h:PTD X a tA):PWD X (.BoolOp .Or [a] pos) tA:=by
 obtain ⟨T,p,r⟩:=h.run
 exact ⟨h.mono,T,wy p,r⟩
theorem qr (ha:PTD X a tA) (hb:PWD X (.BoolOp .And (b::rest) pos) tB):PWD X (.BoolOp .And (a::b::rest) pos) (dAnd tA tB):=by
 obtain ⟨T,p,r⟩:=ha.run
 obtain ⟨U,q,s⟩:=hb.run
 refine ⟨fun _ _ _ f h=>ha.mono _ _ _ (fun _ _ h=>⟨fun e=>hb.mono _ _ _ f (h.yes e),fun e=>f _ _ (h.no e)⟩) h,_,zf p q,fun {F} M H σ ρ Q rs h=>?_⟩
 refine r M H σ ρ _ rs (ha.mono _ _ _ (fun c ρ1 h M1 H1 m1 rs1=>?_) h)
 cases c with
 | true=>exact iteT (s M1 H1 σ ρ1 _ rs1 (hb.mono _ _ _ (fun c ρ2 h M2 H2 m2 rs2=>h M2 H2 (m1.trans m2) rs2) (h.yes rfl)))
 | false=>exact iteF (h.no rfl M1 H1 m1 rs1)
theorem ii (ha:PTD X a tA) (hb:PWD X (.BoolOp .Or (b::rest) pos) tB):PWD X (.BoolOp .Or (a::b::rest) pos) (dOr tA tB):=by
 obtain ⟨T,p,r⟩:=ha.run
 obtain ⟨U,q,s⟩:=hb.run
 refine ⟨fun _ _ _ f h=>ha.mono _ _ _ (fun _ _ h=>⟨fun e=>f _ _ (h.yes e),fun e=>hb.mono _ _ _ f (h.no e)⟩) h,_,zg p q,fun {F} M H σ ρ Q rs h=>?_⟩
 refine r M H σ ρ _ rs (ha.mono _ _ _ (fun c ρ1 h M1 H1 m1 rs1=>?_) h)
 cases c with
 | true=>exact iteT (h.yes rfl M1 H1 m1 rs1)
 | false=>exact iteF (s M1 H1 σ ρ1 _ rs1 (hb.mono _ _ _ (fun c ρ2 h M2 H2 m2 rs2=>h M2 H2 (m1.trans m2) rs2) (h.no rfl)))
abbrev BT (t:DE):DE:=fun ρ Q=>t ρ fun d ρ'=>blD d fun b=>Q (.bl (!b)) ρ'
abbrev BU (t u:DE):DE:=fun ρ Q=>t ρ fun d ρ'=>blD d fun b=>Br b (u ρ' Q) (Q (.bl false) ρ')
theorem eO {K:PySem.W.Frag} {pp:Option Addr} {M:List Addr} {H:Hp} {b:Bool}:Rep K pp M H (.bl b) (.bl b):=by simp only [Rep]
theorem cX {K:PySem.W.Frag} {pp:Option Addr} {M:List Addr} {H:Hp} {b:Int}:Rep K pp M H (.int b) (.int b):=by simp only [Rep]
theorem tN {op} {t:DE} (h:PED X a t):PED X (.BoolOp op [a] pos) t:=by
 obtain ⟨T,p,r⟩:=h.run
 exact ⟨h.mono,T,zi p,r⟩
theorem wE (h:PED X a ta):PED X (.UnaryOp .Not a pos) (BT ta):=by
 obtain ⟨T,p,r⟩:=h.run
 refine ⟨fun _ _ _ f q=>h.mono _ _ _ (fun _ _ q=>jm (fun _ q=>f _ _ q) q) q,_,zk p,fun {F} M H σ ρ Q rs q=>r M H σ ρ _ rs (h.mono _ _ _ (fun d ρ' q M' H' v m rs' r=>?_) q)⟩
 obtain ⟨k,e,q⟩:=jP r q
 exact ⟨k,e,q M' H' _ m rs' eO⟩
theorem tO (ha:PED X a ta) (hb:PED X (.BoolOp .And (b::rest) pos) tb):PED X (.BoolOp .And (a::b::rest) pos) (BU ta tb):=by
 obtain ⟨T,p,r⟩:=ha.run
 obtain ⟨U,q,s⟩:=hb.run
 refine ⟨fun _ _ _ f h=>ha.mono _ _ _ (fun _ _ h=>jm (fun _ h=>⟨fun e=>hb.mono _ _ _ f (h.yes e),fun e=>f _ _ (h.no e)⟩) h) h,_,zj p q,fun {F} M H σ ρ Q rs h=>?_⟩
 refine r M H σ ρ _ rs (ha.mono _ _ _ (fun d ρ1 h M1 H1 v m1 rs1 r1=>?_) h)
 obtain ⟨c,e,h⟩:=jP r1 h
 refine ⟨c,e,?_⟩
 cases c with
 | true=>exact iteT (s M1 H1 σ ρ1 _ rs1 (hb.mono _ _ _ (fun c ρ2 h M2 H2 v m2 rs2=>h M2 H2 v (m1.trans m2) rs2) (h.yes rfl)))
 | false=>exact iteF (h.no rfl M1 H1 _ m1 rs1 eO)
abbrev qt (g g':D->D->(D->Prop)->Prop) (ta tb tc:DE):DE:=fun ρ Q=>ta ρ fun x ρ1=>tb ρ1 fun y ρ2=>g x y fun d=>blD d fun k=>Br k (tc ρ2 fun z ρ3=>g' y z fun d=>Q d ρ3) (Q (.bl false) ρ2)
theorem oZ (ho:∀ x y P P',(∀ d,P d->P' d)->g x y P->g x y P') (ho':∀ x y P P',(∀ d,P d->P' d)->g' x y P->g' x y P') (ha:PED X a ta) (hb:PED X b tb) (hc:PED X c tc) :
  ∀ ρ P P',(∀ d ρ',P d ρ'->P' d ρ')->qt g g' ta tb tc ρ P->qt g g' ta tb tc ρ P' :=
 fun _ _ _ f h=>ha.mono _ _ _ (fun _ _ h=>hb.mono _ _ _ (fun _ _ h=>ho _ _ _ _ (fun _ h=>jm (fun _ h=>⟨fun e=>hc.mono _ _ _ (fun _ _ h=>ho' _ _ _ _ (fun _ h=>f _ _ h) h) (h.yes e),fun e=>f _ _ (h.no e)⟩) h) h) h) h
theorem rT {op op':CmpOp} (ho:OpD X (compareOp op) g) (ho':OpD X (compareOp op') g') (ha:PED X a ta) (hb:PED X b tb) (hc:PED X c tc)  :
  ∃ (r r':R2) (Ta Tb Tc:TE),OpR X (compareOp op) r /\ OpR X (compareOp op') r' /\ PE X a Ta /\ PE X b Tb /\ PE X c Tc /\ ∀ {F:Fx} M H σ ρ (Q:VK),RSt X.K F M H σ ρ ->
  (qt g g' ta tb tc ρ fun d ρ'=>∀ M' H' v,Mv X.K F.pp M H M' H'->RSt X.K F M' H' σ ρ'->Rep X.K F.pp M' H' d v->Q v H')->wA r r' Ta Tb Tc σ H Q:=by
 obtain ⟨r,hr,hg⟩:=ho.run
 obtain ⟨r',hr',hg'⟩:=ho'.run
 obtain ⟨Ta,pa,ra⟩:=ha.run
 obtain ⟨Tb,pb,rb⟩:=hb.run
 obtain ⟨Tc,pc,rc⟩:=hc.run
 refine ⟨r,r',Ta,Tb,Tc,hr,hr',pa,pb,pc,fun {F} M H σ ρ Q rs h=>?_⟩
 refine ra M H σ ρ _ rs (ha.mono _ _ _ (fun x ρ1 h M1 H1 v m1 rs1 r1=>?_) h)
 refine rb M1 H1 σ ρ1 _ rs1 (hb.mono _ _ _ (fun y ρ2 h M2 H2 u m2 rs2 r2=>?_) h)
 refine hg M2 H2 x y v u _ rs2.liv (r1.mv m2) r2 (ho.mono _ _ _ _ (fun d h H' w s r=>?_) h)
 obtain ⟨k,e,h⟩:=jP r h
 refine ⟨k,e,?_⟩
 have rs3:=rs2.sameP s
 have m3:Mv X.K F.pp M H M2 H':=(m1.trans m2).trans s.mv
 cases k with
 | false=>exact iteF (h.no rfl M2 H' _ m3 rs3 eO)
 | true =>
  refine iteT (rc M2 H' σ ρ2 _ rs3 (hc.mono _ _ _ (fun z ρ3 h M4 H4 w' m4 rs4 r4=>?_) (h.yes rfl)))
  refine hg' M4 H4 y z u w' _ rs4.liv ((r2.mv s.mv).mv m4) r4 (ho'.mono _ _ _ _ (fun d h H5 w s r=>?_) h)
  exact h M4 H5 w ((m3.trans m4).trans s.mv) (rs4.sameP s) r
theorem qu {op op':CmpOp} (ho:OpD X (compareOp op) g) (ho':OpD X (compareOp op') g') (ha:PED X a ta) (hb:PED X b tb) (hc:PED X c tc)
  (hm:lastMarks [op,op'] [b,c]=false:=by with_unfolding_all rfl):PED X (.Compare a [op,op'] [b,c] pos) (qt g g' ta tb tc):=by
 obtain ⟨r,r',Ta,Tb,Tc,hr,hr',pa,pb,pc,h⟩:=rT ho ho' ha hb hc
 exact ⟨oZ ho.mono ho'.mono ha hb hc,_,vp hr hr' pa pb pc hm,h⟩
variable {tL:DA} {es:List Expr} {e:Expr}
abbrev Ad:DA:=fun ρ Q=>Q [] ρ
abbrev tP (t:DE) (u:DA):DA:=fun ρ Q=>t ρ fun x ρ1=>u ρ1 fun xs ρ2=>Q (x::xs) ρ2
theorem ae:PAD X [] Ad:=⟨fun _ _ _ f h=>f _ _ h,_,fF,fun {F} M H _ _ _ rs h=>h M H [] .refl rs .nil⟩
theorem aa (ha:PED X e ta) (hr:PAD X es tL) (hs:starEach (e::es) X.env=(false,eval e X.env)::starEach es X.env:=by rfl):PAD X (e::es) (tP ta tL):=by
 obtain ⟨T,p,r⟩:=ha.run
 obtain ⟨U,q,s⟩:=hr.run
 refine ⟨fun _ _ _ f h=>ha.mono _ _ _ (fun _ _ h=>hr.mono _ _ _ (fun _ _ h=>f _ _ h) h) h,_,cH p q hs,fun {F} M H σ ρ Q rs h=>?_⟩
 refine r M H σ ρ _ rs (ha.mono _ _ _ (fun x ρ1 h M1 H1 v m1 rs1 r1=>?_) h)
 exact s M1 H1 σ ρ1 _ rs1 (hr.mono _ _ _ (fun ds ρ2 h M2 H2 vs m2 rs2 r2=>h M2 H2 (v::vs) (m1.trans m2) rs2 (.cons (r1.mv m2) r2)) h)
abbrev dTup (t:DA):DE:=fun ρ Q=>t ρ fun xs ρ1=>xs.length <= sizeLine /\ Q (.tup xs) ρ1
theorem bU {x1} (h:PAD X es tL):PED X (.Tuple es x1 pos) (dTup tL):=by
 obtain ⟨T,p,r⟩:=h.run
 refine ⟨fun _ _ _ f q=>h.mono _ _ _ (fun _ _ q=>⟨q.1,f _ _ q.2⟩) q,_,zz p,fun {F} M H σ ρ Q rs q=>?_⟩
 refine r M H σ ρ _ rs (h.mono _ _ _ (fun ds ρ1 q M1 H1 vs m1 rs1 r1=>?_) q)
 refine ⟨by rw [← r1.length]; exact q.1,fun l hl=>?_⟩
 refine q.2 M1 _ _ (m1.trans (.new hl)) (rs1.sameP (.new hl)) ?_
 simp only [Rep]
 exact ⟨l,vs,rfl,ak,r1.mv (.new hl)⟩
structure PLD (X:Cx) (e:Expr) (t:DA):Prop where
 mono:∀ ρ P P',(∀ d ρ',P d ρ'->P' d ρ')->t ρ P->t ρ P'
 run:∃ T:TE,PE X e T /\ ∀ {F:Fx} M H σ ρ (Q:VK),RSt X.K F M H σ ρ ->
  (t ρ fun ds ρ'=>∀ M' H1 H' l xs,Mv X.K F.pp M H M' H1->RSt X.K F M' H1 σ ρ'->H1 l=none->H'=upd H1 l (.lst xs)->Reps X.K F.pp M' H1 ds xs->Q (.ref l) H')->T σ H Q
abbrev dLst (t:DA):DA:=fun ρ Q=>t ρ fun xs ρ1=>xs.length <= sizeLine /\ Q xs ρ1
theorem cY (h:PAD X es tL):PLD X (.List es pos) (dLst tL):=by
 obtain ⟨T,p,r⟩:=h.run
 refine ⟨fun _ _ _ f q=>h.mono _ _ _ (fun _ _ q=>⟨q.1,f _ _ q.2⟩) q,_,sQ p,fun {F} M H σ ρ Q rs q=>?_⟩
 refine r M H σ ρ _ rs (h.mono _ _ _ (fun ds ρ1 q M1 H1 vs m1 rs1 r1=>?_) q)
 exact ⟨by rw [← r1.length]; exact q.1,fun l hl=>q.2 M1 H1 _ l vs m1 rs1 hl rfl r1⟩
abbrev dFrz (t:DA):DE:=fun ρ Q=>t ρ fun xs ρ1=>Q (.lst xs) ρ1
theorem aE (h:PLD X e tL):PED X e (dFrz tL):=by
 obtain ⟨T,p,r⟩:=h.run
 refine ⟨fun _ _ _ f q=>h.mono _ _ _ (fun _ _ q=>f _ _ q) q,T,p,fun {F} M H σ ρ Q rs q=>?_⟩
 refine r M H σ ρ _ rs (h.mono _ _ _ (fun ds ρ1 q M1 H1 H' l xs m1 rs1 hl e r1=>?_) q)
 subst e
 refine q M1 _ _ (m1.trans (.new hl)) (rs1.sameP (.new hl)) ?_
 simp only [Rep]
 exact ⟨l,xs,rfl,(rs1.liv.fresh hl).1,(rs1.liv.fresh hl).2,ak,r1.mv (.new hl)⟩
end
end DL
namespace DL
open PySem PySem.Spec L2
open PyProof.Rows hiding St
variable [TB]
variable [Frm]
abbrev DSp:=List D->(D->Prop)->Prop
def spD (K:PySem.W.Frag) (n:Nat) (g:DSp):Sp:=fun vs H Q _=>∃ pp M ds,Lv pp M H /\ Reps K pp M H ds vs /\ ds.length=n /\ g ds (fun d=>∀ H' v,SameP K pp H H'->Rep K pp M H' d v->Q v H')
def cZ (g:DSp):Prop:=∀ ds P P',(∀ d,P d->P' d)->g ds P->g ds P'
structure CallD (X:Cx) (f:Value) (g:DSp):Prop where
 mono:cZ g
 run:∃ r:List V->Hp->VK->Prop,fA X f r /\ ∀ {pp:Option Addr} M H ds vs (Q:VK),Lv pp M H->Reps X.K pp M H ds vs->g ds (fun d=>∀ H' w,SameP X.K pp H H'->Rep X.K pp M H' d w->Q w H')->r vs H Q
abbrev dCB (g:DSp) (t:DA):DE:=fun ρ Q=>t ρ fun ds ρ1=>g ds fun d=>Q d ρ1
abbrev BV (n:Nat) (g:DSp) (t:DA):DE:=fun ρ Q=>t ρ fun ds ρ1=>ds.length=n /\ g ds fun d=>Q d ρ1
section
variable {X:Cx} {F:Fx} {x:Str} {p pos:Pos} {e:Expr} {es:List Expr} {t:DA} {id T:String} {g:DSp}
theorem aw (hc:CallD X (.builtin id) g) (hg:Gl X x) (hm:X.mg x=none) (hv:bootBuiltins x=some (.builtin id)) (ha:PAD X (e::es) t) (hn:x ≠ "__name__":=by decide) (hdb:(x == ("__debug__" : Str))=false:=by decide)
  (he:starEach (e::es) X.env=(false,eval e X.env)::starEach es X.env:=by rfl) (hpl:(backTo pos (starEach es X.env)).any (·.1)=false:=by rfl):PED X (.Call (.Name x p) (e::es) [] pos) (dCB g t):=by
 obtain ⟨r,hr,h⟩:=hc.run
 obtain ⟨T,pa,ra⟩:=ha.run
 refine ⟨fun _ _ _ f q=>ha.mono _ _ _ (fun _ _ q=>hc.mono _ _ _ (fun _ q=>f _ _ q) q) q,_,jj hr hg hm hv pa hn hdb he hpl,fun {F} M H σ ρ Q rs q=>?_⟩
 refine ra M H σ ρ _ rs (ha.mono _ _ _ (fun ds ρ1 q M1 H1 vs m1 rs1 r1=>?_) q)
 exact h M1 H1 ds vs _ rs1.liv r1 (hc.mono _ _ _ (fun d q H' w s r=>q M1 H' w (m1.trans s.mv) (rs1.sameP s) r) q)
theorem bK (hc:CallD X (.type T) g) (hg:Gl X x) (hm:X.mg x=none) (hv:bootBuiltins x=some (.type T)) (ha:PAD X (e::es) t) (hn:x ≠ "__name__":=by decide) (hdb:(x == ("__debug__" : Str))=false:=by decide)
  (he:starEach (e::es) X.env=(false,eval e X.env)::starEach es X.env:=by rfl) (hpl:(backTo pos (starEach es X.env)).any (·.1)=false:=by rfl):PED X (.Call (.Name x p) (e::es) [] pos) (dCB g t):=by
 obtain ⟨r,hr,h⟩:=hc.run
 obtain ⟨T,pa,ra⟩:=ha.run
 refine ⟨fun _ _ _ f q=>ha.mono _ _ _ (fun _ _ q=>hc.mono _ _ _ (fun _ q=>f _ _ q) q) q,_,sV hr hg hm hv pa hn hdb he hpl,fun {F} M H σ ρ Q rs q=>?_⟩
 refine ra M H σ ρ _ rs (ha.mono _ _ _ (fun ds ρ1 q M1 H1 vs m1 rs1 r1=>?_) q)
 exact h M1 H1 ds vs _ rs1.liv r1 (hc.mono _ _ _ (fun d q H' w s r=>q M1 H' w (m1.trans s.mv) (rs1.sameP s) r) q)
theorem ai {k n:Nat} {f:Addr} {fd:FuncData} {ps:List Str} (Fn:FnOk X.prog X.w X.K X.mg X.base CX0 k f fd ps (spD X.K n g)) (gm:cZ g) (hr:Room k X.A) (hg:Gl X x) (hm:X.mg x=some (.ref f)) (hk:PySem.W.keepIn X.K (.ref f)=true) (hb:Binds X.K fd ps [])
  (ha:PAD X (e::es) t) (hdb:(x == ("__debug__" : Str))=false:=by decide) (he:starEach (e::es) X.env=(false,eval e X.env)::starEach es X.env:=by rfl) (hpl:(backTo pos (starEach es X.env)).any (·.1)=false:=by rfl) :
  PED X (.Call (.Name x p) (e::es) [] pos) (BV n g t):=by
 obtain ⟨T,pa,ra⟩:=ha.run
 refine ⟨fun _ _ _ f q=>ha.mono _ _ _ (fun _ _ q=>⟨q.1,gm _ _ _ (fun _ q=>f _ _ q) q.2⟩) q,_,sS Fn hr hg hm hk hb .nil zQ pa hdb he hpl,fun {F} M H σ ρ Q rs q=>?_⟩
 refine ra M H σ ρ _ rs (ha.mono _ _ _ (fun ds ρ1 q M1 H1 vs m1 rs1 r1=>?_) q)
 rw [List.append_nil]
 exact ⟨F.pp,M1,ds,rs1.liv,r1,q.1,gm _ _ _ (fun d q H' w s r=>q M1 H' w (m1.trans s.mv) (rs1.sameP s) r) q.2⟩
end
structure EO (K:PySem.W.Frag) (F:Fx) (M:List Addr) (H:Hp) (E:DEnds) (D:Ends):Prop where
 nx:∀ M' H' σ' ρ',Mv K F.pp M H M' H'->RSt K F M' H' σ' ρ'->E.nx ρ'->D.nx σ' H'
 bk:∀ M' H' σ' ρ',Mv K F.pp M H M' H'->RSt K F M' H' σ' ρ'->E.bk ρ'->D.bk σ' H'
 ct:∀ M' H' σ' ρ',Mv K F.pp M H M' H'->RSt K F M' H' σ' ρ'->E.ct ρ'->D.ct σ' H'
 rt:∀ M' H' σ' ρ' d v,Mv K F.pp M H M' H'->RSt K F M' H' σ' ρ'->Rep K F.pp M' H' d v->E.rt d->D.rt v H'
theorem EO.mv {K:PySem.W.Frag} {F:Fx} {M M1:List Addr} {H H1:Hp} {E:DEnds} {D:Ends} (o:EO K F M H E D) (m:Mv K F.pp M H M1 H1):EO K F M1 H1 E D :=
 ⟨fun _ _ _ _ m'=>o.nx _ _ _ _ (m.trans m'),fun _ _ _ _ m'=>o.bk _ _ _ _ (m.trans m'),fun _ _ _ _ m'=>o.ct _ _ _ _ (m.trans m'),fun _ _ _ _ _ _ m'=>o.rt _ _ _ _ _ _ (m.trans m')⟩
def PSD (X:Cx) (st:Stmt) (t:DTS):Prop:=∃ T:TS,PS X st T /\ ∀ {F:Fx} M H σ ρ (E:DEnds) (D:Ends),RSt X.K F M H σ ρ->EO X.K F M H E D->t E ρ->T D σ H
def PSsD (X:Cx) (st:List Stmt) (t:DTS):Prop:=∃ T:TS,PSs X st T /\ ∀ {F:Fx} M H σ ρ (E:DEnds) (D:Ends),RSt X.K F M H σ ρ->EO X.K F M H E D->t E ρ->T D σ H
section
variable {X:Cx} {F:Fx} {st:Stmt} {rest a b:List Stmt} {t u:DTS} {e c:Expr} {te:DE} {tc:DT} {tl:DA} {pos:Pos}
abbrev BW:DTS:=fun E ρ=>E.nx ρ
abbrev dSeq (t u:DTS):DTS:=fun E ρ=>t { E with nx:=u E } ρ
abbrev dMid (t u:DTS):DTS:=fun E ρ=>∃ N:DS->Prop,t { E with nx:=N } ρ /\ ∀ ρ',N ρ'->u E ρ'
theorem aL:PSsD X [] BW:=⟨_,jB,fun {F} M H σ ρ E D rs o h=>o.nx M H σ ρ .refl rs h⟩
theorem ao (h:PSD X st t):PSsD X [st] t:=by
 obtain ⟨T,p,r⟩:=h
 exact ⟨T,fN p,r⟩
theorem aq (h1:PSD X st t) (h2:PSsD X rest u):PSsD X (st::rest) (dSeq t u):=by
 obtain ⟨T,p,r⟩:=h1
 obtain ⟨U,q,s⟩:=h2
 refine ⟨_,bv p q,fun {F} M H σ ρ E D rs o h=>r M H σ ρ { E with nx:=u E } { D with nx:=U D } rs ⟨fun M' H' σ' ρ' m rs' h=>?_,o.bk,o.ct,o.rt⟩ h⟩
 exact s M' H' σ' ρ' E D rs' (o.mv m) h
theorem bO (h1:PSD X st t) (h2:PSsD X rest u):PSsD X (st::rest) (dMid t u):=by
 obtain ⟨T,p,r⟩:=h1
 obtain ⟨U,q,s⟩:=h2
 refine ⟨_,bv p q,fun {F} M H σ ρ E D rs o h=>?_⟩
 obtain ⟨N,h,hn⟩:=h
 refine r M H σ ρ { E with nx:=N } { D with nx:=U D } rs ⟨fun M' H' σ' ρ' m rs' h=>?_,o.bk,o.ct,o.rt⟩ h
 exact s M' H' σ' ρ' E D rs' (o.mv m) (hn _ h)
abbrev Ae:DTS:=fun _ _=>False
theorem gI:PSD X st Ae:=⟨_,vn,fun _ _ _ _ _ _ _ _ h=>h⟩
abbrev dRet (te:DE):DTS:=fun E ρ=>te ρ fun d _=>E.rt d
theorem aO (h:PED X e te):PSD X (.Return (some e) pos) (dRet te):=by
 obtain ⟨T,p,r⟩:=h.run
 refine ⟨_,mX p,fun {F} M H σ ρ E D rs o q=>r M H σ ρ _ rs (h.mono _ _ _ (fun d ρ' q M' H' v m rs' r'=>?_) q)⟩
 exact o.rt M' H' σ ρ' d v m rs' r' q
abbrev BX (te:DE):DTS:=fun E ρ=>te ρ fun _ ρ'=>E.nx ρ'
theorem ya (h:PED X e te) (hs:swapsWith e none pos.line X.env=pure false:=by rfl):PSD X (.Expr e pos) (BX te):=by
 obtain ⟨T,p,r⟩:=h.run
 refine ⟨_,oK p hs,fun {F} M H σ ρ E D rs o q=>r M H σ ρ _ rs (h.mono _ _ _ (fun d ρ' q M' H' v m rs' r'=>?_) q)⟩
 exact o.nx M' H' σ ρ' m rs' q
abbrev dIfS (c:DT) (t u:DTS):DTS:=fun E ρ=>c ρ fun b ρ'=>Br b (t E ρ') (u E ρ')
theorem cf (hc:PTD X c tc) (ha:PSsD X a t) (hb:PSsD X b u):PSD X (.If c a b pos) (dIfS tc t u):=by
 obtain ⟨T,p,r⟩:=hc.run
 obtain ⟨U,q,s⟩:=ha
 obtain ⟨U',q',s'⟩:=hb
 refine ⟨_,vm p q q',fun {F} M H σ ρ E D rs o h=>r M H σ ρ _ rs (hc.mono _ _ _ (fun k ρ1 h M1 H1 m1 rs1=>?_) h)⟩
 cases k with
 | true=>exact iteT (s M1 H1 σ ρ1 E D rs1 (o.mv m1) (h.yes rfl))
 | false=>exact iteF (s' M1 H1 σ ρ1 E D rs1 (o.mv m1) (h.no rfl))
abbrev dSet (i:Nat) (te:DE):DTS:=fun E ρ=>te ρ fun d ρ'=>E.nx (ρ'.set i (.val d))
theorem bx {i:Nat} {x:Str} {pos':Pos} (hN:X.N.Nodup) (hi:X.N[i]? = some x) (hx:Loc X.env.scope x) (h:PED X e te) (hs:swapsWith e (some (.Name x pos')) pos.line X.env=pure false:=by rfl) (hf:X.fn x=true∨X.env.scope.names.lookup x=some .local:=by first | exact .inl rfl | exact .inr rfl | assumption) :
  PSD X (.Assign [.Name x pos'] e pos) (dSet i te):=by
 obtain ⟨T,p,r⟩:=h.run
 refine ⟨_,gC hN hi hx p hs hf,fun {F} M H σ ρ E D rs o q=>r M H σ ρ _ rs (h.mono _ _ _ (fun d ρ' q M' H' v m rs' r'=>?_) q)⟩
 exact o.nx M' H' _ _ m (rs'.set r' i) q
abbrev dOwn (i:Nat) (t:DA):DTS:=fun E ρ=>t ρ fun ds ρ'=>E.nx (ρ'.set i (.own ds))
theorem RSt.newOwn {K:PySem.W.Frag} {M:List Addr} {H:Hp} {σ:St} {ρ:DS} {l:Addr} {xs:List V} {ds:List D} (r:RSt K F M H σ ρ) (hl:H l=none) (hd:Reps K F.pp M H ds xs) (i:Nat) :
  RSt K F (l::M) (upd H l (.lst xs)) (σ.set i (some (.ref l))) (ρ.set i (.own ds)):=by
 have m:Mv K F.pp M H (l::M) (upd H l (.lst xs)):=.newOwn hl
 have s:SameP K F.pp H (upd H l (.lst xs)):=.new hl
 have h0:F.H0 l=none:=by
  cases e:F.H0 l with
  | none=>rfl
  | some o=>exact absurd hl (r.same.live l (by rw [e]; intro z; cases z))
 refine ⟨by simp [r.len],fun j q o h1 h2=>?_,r.ow.step m i (fun j e=>List.getElem?_set_ne (Ne.symm e)) (fun j e=>List.getElem?_set_ne (Ne.symm e)) (fun A _ _=>⟨[l],fun s o e1 e2=>?_,fun b hb=>?_,fun a ha hp h0' _=>⟨List.mem_cons_of_mem _ ha,fun x e _=>ic hl e⟩⟩),fun a ha=>List.mem_cons_of_mem _ (r.sub a ha),r.same.trans s.toSameQ,r.old,?_,r.lk.cl m⟩
 ·by_cases e:i=j
  ·subst e
   rw [aP h1,aP h2]
   exact ⟨l,xs,rfl,List.mem_cons_self,h0,(r.liv.fresh hl).2,ak,hd.mv m⟩
  ·rw [List.getElem?_set_ne e] at h1 h2
   have q':=r.sl j q o h1 h2
   cases q with
   | nil=>trivial
   | val d=>obtain ⟨v,e,q⟩:=q'; exact ⟨v,e,q.mv m⟩
   | pin w d=>obtain ⟨v,e,ew,q⟩:=q'; exact ⟨v,e,ew,q.mv m⟩
   | own es =>
    obtain ⟨l',ys,rfl,hm',h0',hp',hl',hr'⟩:=q'
    exact ⟨l',ys,rfl,List.mem_cons_of_mem _ hm',h0',hp',ic hl hl',hr'.mv m⟩
   | obj q=>exact q'
 ·rw [aP e1,aP e2]
  exact ⟨l,rfl,rfl⟩
 ·rw [List.mem_singleton.mp hb]
  exact ⟨List.mem_cons_self,h0,(r.liv.fresh hl).2,.inr (r.liv.fresh hl).1⟩
 ·refine ⟨fun a ha=>?_,fun p e=>s.live p (r.liv.p p e)⟩
  rcases List.mem_cons.mp ha with rfl | ha
  ·rw [ak]; intro z; cases z
  ·exact s.live a (r.liv.m a ha)
theorem wF {i:Nat} {x:Str} {pos':Pos} (hN:X.N.Nodup) (hi:X.N[i]? = some x) (hx:Loc X.env.scope x) (h:PLD X e tl) (hs:swapsWith e (some (.Name x pos')) pos.line X.env=pure false:=by rfl) (hf:X.fn x=true∨X.env.scope.names.lookup x=some .local:=by first | exact .inl rfl | exact .inr rfl | assumption) :
  PSD X (.Assign [.Name x pos'] e pos) (dOwn i tl):=by
 obtain ⟨T,p,r⟩:=h.run
 refine ⟨_,gC hN hi hx p hs hf,fun {F} M H σ ρ E D rs o q=>r M H σ ρ _ rs (h.mono _ _ _ (fun ds ρ' q M' H1 H' l xs m rs' hl e r'=>?_) q)⟩
 subst e
 exact o.nx _ _ _ _ (m.trans (.newOwn hl)) (rs'.newOwn hl r' i) q
abbrev DG:=D->DS->(DS->Prop)->Prop
structure PGD (X:Cx) (tg:Expr) (g:DG):Prop where
 mono:∀ d ρ P P',(∀ ρ',P ρ'->P' ρ')->g d ρ P->g d ρ P'
 run:∃ G:TG,PG X tg G /\ ∀ {F:Fx} M H σ ρ d v (Q:St->Hp->Prop),RSt X.K F M H σ ρ->Rep X.K F.pp M H d v->(g d ρ fun ρ'=>∀ M' H' σ',Mv X.K F.pp M H M' H'->RSt X.K F M' H' σ' ρ'->Q σ' H')->G v σ H Q
abbrev kZ (i:Nat):DG:=fun d ρ Q=>Q (ρ.set i (.val d))
theorem aJ {i:Nat} {x:Str} (hN:X.N.Nodup) (hi:X.N[i]? = some x) (hx:Loc X.env.scope x) (hf:X.fn x=true∨X.env.scope.names.lookup x=some .local:=by first | exact .inl rfl | exact .inr rfl | assumption):PGD X (.Name x pos) (kZ i) :=
 ⟨fun _ _ _ _ f h=>f _ h,_,lL hN hi hx hf,fun {F} M H σ ρ d v Q rs r h=>h M H _ .refl (rs.set r i)⟩
abbrev DGs:=List D->DS->(DS->Prop)->Prop
structure PGsD (X:Cx) (tg:List Expr) (g:DGs):Prop where
 mono:∀ d ρ P P',(∀ ρ',P ρ'->P' ρ')->g d ρ P->g d ρ P'
 run:∃ G:TGs,PGs X tg G /\ ∀ {F:Fx} M H σ ρ ds vs (Q:St->Hp->Prop),RSt X.K F M H σ ρ->Reps X.K F.pp M H ds vs->(g ds ρ fun ρ'=>∀ M' H' σ',Mv X.K F.pp M H M' H'->RSt X.K F M' H' σ' ρ'->Q σ' H')->G vs σ H Q
def BY:DGs:=fun ds ρ Q=>match ds with
 | []=>Q ρ
 | _=>False
def Af (g:DG) (u:DGs):DGs:=fun ds ρ Q=>match ds with
 | d::r=>g d ρ fun ρ'=>u r ρ' Q
 | []=>False
theorem pf:PGsD X [] BY:=by
 refine ⟨fun ds _ _ _ f h=>?_,_,sK,fun {F} M H σ ρ ds vs Q rs r h=>?_⟩
 ·cases ds with
  | nil=>exact f _ h
  | cons=>exact h
 ·cases ds with
  | nil=>simp only [Reps] at r; exact ⟨r,h M H σ .refl rs⟩
  | cons=>exact h.elim
theorem dw {e:Expr} {es:List Expr} {g:DG} {u:DGs} (h1:PGD X e g) (h2:PGsD X es u)
  (hs:(assignEach (e::es) X.env).map (·.2)=assign e X.env::(assignEach es X.env).map (·.2):=by rfl):PGsD X (e::es) (Af g u):=by
 obtain ⟨G,p,r⟩:=h1.run
 obtain ⟨G',p',r'⟩:=h2.run
 refine ⟨fun ds _ _ _ f h=>?_,_,ji p p' hs,fun {F} M H σ ρ ds vs Q rs rd h=>?_⟩
 ·cases ds with
  | nil=>exact h
  | cons=>exact h1.mono _ _ _ _ (fun _ h=>h2.mono _ _ _ _ f h) h
 ·cases ds with
  | nil=>exact h.elim
  | cons d ds =>
   simp only [Reps] at rd
   obtain ⟨v,vr,rfl,rd,rr⟩:=rd
   refine ⟨v,vr,rfl,r M H σ ρ d v _ rs rd (h1.mono _ _ _ _ (fun ρ' h M1 H1 σ1 m1 rs1=>?_) h)⟩
   exact r' M1 H1 σ1 ρ' ds vr _ rs1 (rr.mv m1) (h2.mono _ _ _ _ (fun ρ2 h M2 H2 σ2 m2 rs2=>h M2 H2 σ2 (m1.trans m2) rs2) h)
def BZ (n:Nat) (g:DGs):DG:=fun d ρ Q=>match d with
 | .tup ds=>ds.length=n /\ g ds ρ Q
 | _=>False
theorem tQ {es:List Expr} {k:Nat} {g:DGs} {n:Nat} (hc:X.calm=true) (h:PGsD X es g)
  (hn:(assignEach es X.env).length=n:=by rfl) (hst:(assignEach es X.env).findIdx? (·.1)=none:=by rfl):PGD X (.Tuple es k pos) (BZ n g):=by
 obtain ⟨G,p,r⟩:=h.run
 refine ⟨fun d _ _ _ f q=>?_,_,xN hc p hn hst,fun {F} M H σ ρ d v Q rs rd q=>?_⟩
 ·cases d <;> first | exact q.elim | exact ⟨q.1,h.mono _ _ _ _ f q.2⟩
 ·cases d with
  | tup ds =>
   simp only [Rep] at rd
   obtain ⟨a,xs,rfl,ha,rd⟩:=rd
   exact ⟨a,xs,rfl,ha,by rw [← rd.length]; exact q.1,r M H σ ρ ds xs _ rs rd q.2⟩
  | _=>exact q.elim
abbrev dAsg (te:DE) (g:DG):DTS:=fun E ρ=>te ρ fun d ρ'=>g d ρ' E.nx
theorem Ag {tg:Expr} {g:DG} (he:PED X e te) (hg:PGD X tg g) (hs:swapsWithSole [tg] e pos.line X.env=pure false:=by rfl) (hw:swappedStores [tg] e X.env=pure none:=by rfl) (hh:PS X (.Assign [tg] e pos) (tAsg (Classical.choose he.run) (Classical.choose hg.run)):=by exact mY (Classical.choose_spec he.run).1 (Classical.choose_spec hg.run).1):PSD X (.Assign [tg] e pos) (dAsg te g):=by
 obtain ⟨_,r⟩:=Classical.choose_spec he.run
 obtain ⟨_,r'⟩:=Classical.choose_spec hg.run
 refine ⟨_,hh,fun {F} M H σ ρ E D rs o q=>r M H σ ρ _ rs (he.mono _ _ _ (fun d ρ' q M' H' v m rs' rd=>?_) q)⟩
 exact r' M' H' σ ρ' d v _ rs' rd (hg.mono _ _ _ _ (fun ρ2 q M2 H2 σ2 m2 rs2=>o.nx M2 H2 σ2 ρ2 (m.trans m2) rs2 q) q)
def nI (g:DG) (b:DTS):List D->DEnds->DS->Prop
 | [],E,ρ=>E.nx ρ
 | d::r,E,ρ=>g d ρ fun ρ1=>b { E with nx:=fun ρ'=>nI g b r E ρ',ct:=fun ρ'=>nI g b r E ρ',bk:=E.nx } ρ1
structure ItOkV (K:PySem.W.Frag) (pp:Option Addr) (J:It) (M:List Addr) (H:Hp) (vs:List V):Prop where
 yld:∀ M2 H2,Mv K pp M H M2 H2->∀ i x H3,i < vs.length->J.yld i H2 x H3->H3=H2 /\ vs[i]? = some x
 go:∀ M2 H2,Mv K pp M H M2 H2->∀ i,i < vs.length->J.go i H2
 stop:∀ M2 H2,Mv K pp M H M2 H2->∀ i,vs.length <= i->J.stop i H2
structure ItOk (K:PySem.W.Frag) (pp:Option Addr) (J:It) (M:List Addr) (H:Hp) (ds:List D):Prop where
 yld:∀ M2 H2,Mv K pp M H M2 H2->∀ i d x H3,ds[i]? = some d->J.yld i H2 x H3->SameP K pp H2 H3 /\ Rep K pp M2 H3 d x
 go:∀ M2 H2,Mv K pp M H M2 H2->∀ i,i < ds.length->J.go i H2
 stop:∀ M2 H2,Mv K pp M H M2 H2->∀ i,ds.length <= i->J.stop i H2
theorem ItOkV.of {K:PySem.W.Frag} {pp:Option Addr} {J:It} {M:List Addr} {H:Hp} {vs:List V} {ds:List D} (o:ItOkV K pp J M H vs) (rd:Reps K pp M H ds vs):ItOk K pp J M H ds where
 yld:=fun M2 H2 m i d x H3 e y=>by
  obtain ⟨v,e1,r⟩:=rd.get' e
  obtain ⟨rfl,e2⟩:=o.yld M2 H2 m i x H3 (List.getElem?_eq_some_iff.mp e1).1 y
  rw [e1] at e2
  cases e2
  exact ⟨.refl,r.mv m⟩
 go:=fun M2 H2 m i h=>o.go M2 H2 m i (by rw [← rd.length]; exact h)
 stop:=fun M2 H2 m i h=>o.stop M2 H2 m i (by rw [← rd.length]; exact h)
structure PID (X:Cx) (tg iter:Expr) (t:DA):Prop where
 mono:∀ ρ P P',(∀ d ρ',P d ρ'->P' d ρ')->t ρ P->t ρ P'
 run:∃ wi:TI,PI X tg iter wi /\ ∀ {F:Fx} M H σ ρ (R:It->Hp->Prop),RSt X.K F M H σ ρ ->
  (t ρ fun ds ρ'=>∀ M' H' J,Mv X.K F.pp M H M' H'->RSt X.K F M' H' σ ρ'->ItOk X.K F.pp J M' H' ds->R J H')->wi σ H R
abbrev dFor (t:DA) (g:DG) (b:DTS):DTS:=fun E ρ=>t ρ fun ds ρ'=>nI g b ds E ρ'
theorem qv {tg iter:Expr} {body:List Stmt} {t:DA} {g:DG} {tb:DTS} {pos:Pos} (hp:PassesOwn (model X.prog X.w) X.A X.env X.xe) (hc:X.calm=true) (hi:PID X tg iter t) (hg:PGD X tg g) (hb:PSsD X body tb)
  (hs:∀ x,foldedSetIterable iter X.env x=pure x:=by intro _; rfl):PSD X (.For tg iter body [] pos) (dFor t g tb):=by
 obtain ⟨wi,pi,ri⟩:=hi.run
 obtain ⟨G,pg,rg⟩:=hg.run
 obtain ⟨T,p,r⟩:=hb
 refine ⟨_,zq hp hc pi pg p hs,fun {F} M H σ ρ E D rs o h=>ri M H σ ρ _ rs (hi.mono _ _ _ (fun ds ρ1 h M1 H1 J m1 rs1 ok=>?_) h)⟩
 refine ⟨fun i m σ2 H2=>∃ M2 ρ2,m=ds.length - i /\ i <= ds.length /\ Mv X.K F.pp M1 H1 M2 H2 /\ RSt X.K F M2 H2 σ2 ρ2 /\ nI g tb (ds.drop i) E ρ2,⟨ds.length,M1,ρ1,rfl,Nat.zero_le _,.refl,rs1,h⟩,?_⟩
 rintro i m σ2 H2 ⟨M2,ρ2,rfl,hi2,m2,rs2,h2⟩
 by_cases hlt:i < ds.length
 ·have e1:ds[i]? = some ds[i]:=by simp [hlt]
  rw [List.drop_eq_getElem_cons hlt] at h2
  refine .inr ⟨ok.go M2 H2 m2 i hlt,fun σ' H'=>∃ M' ρ',Mv X.K F.pp M1 H1 M' H' /\ RSt X.K F M' H' σ' ρ' /\ nI g tb (ds.drop (i + 1)) E ρ',fun σ' H' ⟨M',ρ',mm,rs',h'⟩=>⟨ds.length - (i + 1),by omega,M',ρ',rfl,hlt,mm,rs',h'⟩,fun x H3 y=>?_⟩
  obtain ⟨sp,rx⟩:=ok.yld M2 H2 m2 i _ x H3 e1 y
  have m23:=m2.trans (sp.mv (M:=M2))
  refine rg M2 H3 σ2 ρ2 _ _ _ (rs2.sameP sp) rx (hg.mono _ _ _ _ (fun ρ3 h3 M3 H3 σ3 m3 rs3=>?_) h2)
  refine r M3 H3 σ3 ρ3 _ _ rs3 ⟨fun M4 H4 σ4 ρ4 m4 rs4 h4=>⟨M4,ρ4,(m23.trans m3).trans m4,rs4,h4⟩,fun M4 H4 σ4 ρ4 m4 rs4 h4=>?_,fun M4 H4 σ4 ρ4 m4 rs4 h4=>⟨M4,ρ4,(m23.trans m3).trans m4,rs4,h4⟩,fun M4 H4 σ4 ρ4 d' v m4 rs4 r4 h4=>?_⟩ h3
  ·exact o.nx M4 H4 σ4 ρ4 (((m1.trans m23).trans m3).trans m4) rs4 h4
  ·exact o.rt M4 H4 σ4 ρ4 d' v (((m1.trans m23).trans m3).trans m4) rs4 r4 h4
 ·have e:i=ds.length:=by omega
  refine .inl ⟨ok.stop M2 H2 m2 i (by omega),?_⟩
  have hd:ds.drop i=[]:=by rw [List.drop_eq_nil_iff]; omega
  rw [hd] at h2
  exact o.nx M2 H2 σ2 ρ2 (m1.trans m2) rs2 h2
abbrev Cb (te:DE):DA:=fun ρ Q=>te ρ fun d ρ'=>match d with
 | .lst ds=>Q ds ρ'
 | _=>False
abbrev Cc (te:DE):DA:=fun ρ Q=>te ρ fun d ρ'=>match d with
 | .tup ds=>Q ds ρ'
 | _=>False
theorem dH {tg l:Expr} (hl:PED X l te):PID X tg l (Cb te):=by
 obtain ⟨T,p,r⟩:=hl.run
 refine ⟨fun _ _ _ f h=>hl.mono _ _ _ (fun d _ h=>?_) h,_,xv p,fun {F} M H σ ρ R rs h=>r M H σ ρ _ rs (hl.mono _ _ _ (fun d ρ' h M' H' v m rs' rd=>?_) h)⟩
 ·cases d <;> first | exact h.elim | exact f _ _ h
 ·cases d with
  | lst ds =>
   simp only [Rep] at rd
   obtain ⟨a,xs,rfl,hm,hp,ha,rd⟩:=rd
   refine ⟨a,rfl,⟨xs,SqL.of ha⟩,h M' H' _ m rs' (ItOkV.of (vs:=xs) ⟨fun M2 H2 m2 i x H3 _ y=>?_,fun M2 H2 m2 i hi=>?_,fun M2 H2 m2 i hi=>?_⟩ rd)⟩
   ·exact ⟨y.1,y.2 xs (SqL.of (m2.lst a xs ha hm hp).1)⟩
   ·exact ⟨xs,xs[i],SqL.of (m2.lst a xs ha hm hp).1,by simp [hi]⟩
   ·exact ⟨xs,SqL.of (m2.lst a xs ha hm hp).1,hi⟩
  | _=>exact h.elim
theorem Ah {tg l:Expr} (hl:PED X l te):PID X tg l (Cc te):=by
 obtain ⟨T,p,r⟩:=hl.run
 refine ⟨fun _ _ _ f h=>hl.mono _ _ _ (fun d _ h=>?_) h,_,zo p,fun {F} M H σ ρ R rs h=>r M H σ ρ _ rs (hl.mono _ _ _ (fun d ρ' h M' H' v m rs' rd=>?_) h)⟩
 ·cases d <;> first | exact h.elim | exact f _ _ h
 ·cases d with
  | tup ds =>
   simp only [Rep] at rd
   obtain ⟨a,xs,rfl,ha,rd⟩:=rd
   refine ⟨a,rfl,⟨xs,SqT.of ha⟩,h M' H' _ m rs' (ItOkV.of (vs:=xs) ⟨fun M2 H2 m2 i x H3 _ y=>?_,fun M2 H2 m2 i hi=>?_,fun M2 H2 m2 i hi=>?_⟩ rd)⟩
   ·exact ⟨y.1,y.2 xs (SqT.of (m2.tup a xs ha))⟩
   ·exact ⟨xs,xs[i],SqT.of (m2.tup a xs ha),by simp [hi]⟩
   ·exact ⟨xs,SqT.of (m2.tup a xs ha),hi⟩
  | _=>exact h.elim
def jg (lo:Int):Nat->List D
 | 0=>[]
 | n + 1=>.int lo::jg (lo + 1) n
theorem lg {K:PySem.W.Frag} {pp:Option Addr} {M:List Addr} {H:Hp}:∀ (n:Nat) (lo:Int),Reps K pp M H (jg lo n) ((List.range n).map fun (i:Nat)=>V.int (lo + i))
 | 0,_=>by simp [jg,Reps]
 | n + 1,lo=>by
  rw [List.range_succ_eq_map,List.map_cons,jg]
  refine .cons (by simp [Rep]) ?_
  have:=lg (K:=K) (pp:=pp) (M:=M) (H:=H) n (lo + 1)
  rw [List.map_map]
  refine (congrArg (Reps K pp M H (jg (lo + 1) n)) (List.map_congr_left fun i _=>?_)).mp this
  simp only [Function.comp]
  congr 1
  omega
abbrev diR1 (t:DA):DA:=fun ρ Q=>t ρ fun ds ρ'=>match ds with
 | [.int j]=>(-(2 ^ 62) <= j /\ j < 2 ^ 62) /\ Q (jg 0 j.toNat) ρ'
 | _=>False
theorem itOk_range {K:PySem.W.Frag} {pp:Option Addr} {M:List Addr} {H:Hp} {lo:Int} {n:Nat}:ItOkV K pp (Itr lo n) M H ((List.range n).map fun (i:Nat)=>V.int (lo + i)) where
 yld:=fun M2 H2 _ i x H3 hi y=>by
  obtain ⟨e1,e2⟩:=y
  refine ⟨e1,?_⟩
  have hi':i < n:=by simpa using hi
  simp [hi',e2]
 go:=fun _ _ _ i hi=>by show i < n; simpa using hi
 stop:=fun _ _ _ i hi=>by show n <= i; simpa using hi
variable {es:List Expr} {ea eb:Expr}
theorem eP {tg:Expr} {p:Pos} (hg:Gl X "range") (hm:X.mg "range" = none) (ha:PAD X [ea] tl) (hs:starEach [ea] X.env=[(false,eval ea X.env)]:=by rfl):PID X tg (.Call (.Name "range" p) [ea] [] pos) (diR1 tl):=by
 obtain ⟨T,pa,r⟩:=ha.run
 refine ⟨fun _ _ _ f h=>ha.mono _ _ _ (fun d _ h=>?_) h,_,sM hg hm pa hs,fun {F} M H σ ρ R rs h=>r M H σ ρ _ rs (ha.mono _ _ _ (fun d ρ' h M' H' v m rs' rd=>?_) h)⟩
 ·split at h
  ·exact ⟨h.1,f _ _ h.2⟩
  ·exact h.elim
 ·split at h
  ·rename_i j
   simp only [Reps,Rep] at rd
   obtain ⟨x,r,rfl,rfl,rfl⟩:=rd
   exact ⟨j,rfl,h.1.1,h.1.2,h.2 M' H' _ m rs' (itOk_range.of (lg _ _))⟩
  ·exact h.elim
end
end DL
namespace DL
open PySem PySem.Spec L2
open PyProof.Rows hiding St
variable [TB]
variable [Frm]
def lh (n:Nat) (ds:List D):DS:=ds.map .val++List.replicate (n - ds.length) .nil
theorem li {K:PySem.W.Frag} {F:Fx} {M:List Addr} {H:Hp}:∀ {ds:List D} {vs:List V},Reps K F.pp M H ds vs->∀ (i:Nat) s o,(ds.map Sl.val)[i]? = some s->(vs.map some)[i]? = some o->RSl K F M H s o
 | [],_,_,_,_,_,h1,_=>by simp at h1
 | d::ds,_,h,0,s,o,h1,h2=>by
  simp only [Reps] at h
  obtain ⟨x,r,rfl,h,_⟩:=h
  simp at h1 h2
  subst h1 h2
  exact ⟨x,rfl,h⟩
 | d::ds,_,h,i + 1,s,o,h1,h2=>by
  simp only [Reps] at h
  obtain ⟨x,r,rfl,_,h⟩:=h
  exact li h i s o (by simpa using h1) (by simpa using h2)
theorem pj {ds:List D} {n i:Nat} {es:List D} (h:(ds.map Sl.val++List.replicate n Sl.nil)[i]? = some (.own es)):False:=by
 have:=List.mem_of_getElem? h
 rcases List.mem_append.mp this with h | h
 ·obtain ⟨d,_,e⟩:=List.mem_map.mp h; cases e
 ·have:=List.eq_of_mem_replicate h; cases this
theorem pq {ds:List D} {n i:Nat} {q:O} (h:(ds.map Sl.val++List.replicate n Sl.nil)[i]? = some (.obj q)):False:=by
 have:=List.mem_of_getElem? h
 rcases List.mem_append.mp this with h | h
 ·obtain ⟨d,_,e⟩:=List.mem_map.mp h; cases e
 ·have:=List.eq_of_mem_replicate h; cases this
theorem jQ {K:PySem.W.Frag} {pp:Option Addr} {M:List Addr} {H:Hp} {ds:List D} {vs:List V} {N:List Str} (lv:Lv pp M H) (r:Reps K pp M H ds vs) (lk:Frm.L K ⟨pp,M,H⟩ M H):RSt K ⟨pp,M,H⟩ M H (L2.start N vs) (lh N.length ds):=by
 have hl:=r.length
 refine ⟨by simp [L2.start,lh,hl],fun i s o h1 h2=>?_,OwF.none (fun i s e=>⟨fun ds z=>(pj (z ▸ e)).elim,fun q z=>(pq (z ▸ e)).elim⟩),fun a h=>h,.refl,lv.m,lv.toLv0,⟨lk,lv.t⟩⟩
 unfold lh at h1
 unfold L2.start at h2
 by_cases hi:i < ds.length
 ·rw [List.getElem?_append_left (by simpa using hi)] at h1
  rw [List.getElem?_append_left (by simpa [← hl] using hi)] at h2
  exact li (F:=⟨pp,M,H⟩) r i s o h1 h2
 ·rw [List.getElem?_append_right (by simp; omega)] at h1
  have:=List.eq_of_mem_replicate (List.mem_of_getElem? h1)
  subst this
  trivial
omit [Frm] in
theorem fnD {P:Program} {w:World} {K:PySem.W.Frag} {mg:Str->Option Value} {base:Heap} {x qual:Str} {st:Stmt} {f:Addr} {fd:FuncData} {N ps:List Str} {k:Nat} {g:DSp} {t:DTS} (Fn:Fun K x qual st f fd) (S:FnScope N ps (ag st))
  (hb:∀ (cdv:Value) (A:Around) (outer:List Env) (s:Shared) (H:Hp) (E:XK),Room k (A.deeper (envOfC qual (ag st) s.heap.objs.size f cdv)) -> @PSsD _ Frm.free (cxOf CX0 P w K mg base N qual (ag st) f cdv A outer s H E).nox (aF st) t)
  (hg:∀ ds Q,ds.length=ps.length->g ds Q->t { nx:=fun _=>Q .non,rt:=Q } (lh N.length ds)):FnOk P w K mg base CX0 (k + 1) f fd ps (spD K ps.length g):=by
 refine Fn.ok S (fun vs H Q E h=>?_) (fun cdv A outer s H vs Q E hr h=>?_)
 ·obtain ⟨pp,M,ds,_,r,e,_⟩:=h
  rw [← r.length,e]
 ·obtain ⟨pp,M,ds,lv,r,e,h⟩:=h
  obtain ⟨T,p,run⟩:=hb cdv A outer s H E hr
  refine ⟨T,p,run M H _ _ _ _ (jQ lv r trivial) ⟨fun M' H' σ' ρ' m rs q=>?_,fun _ _ _ _ _ _ q=>q,fun _ _ _ _ _ _ q=>q,fun M' H' σ' ρ' d v m rs rd q=>?_⟩ (hg ds _ e h)⟩
  ·exact q H' .non rs.sameT (by simp only [Rep])
  ·exact q H' v rs.sameT (rd.mv (.less rs.sub))
section
variable {X:Cx} {pp:Option Addr}
def g2I (C:Int->Int->Prop) (f:Int->Int->D):D->D->(D->Prop)->Prop
 | .int i,.int j,P=>C i j /\ P (f i j)
 | _,_,_=>False
def g2I0 (f:Int->Int->D):D->D->(D->Prop)->Prop
 | .int i,.int j,P=>P (f i j)
 | _,_,_=>False
theorem OpD.ofI {f:Value->Value->Sem Value} {C:Int->Int->Prop} {h:Int->Int->V} {h':Int->Int->D} (o:OpR X f (rI C h)) (e:∀ pp M H i j,Rep X.K pp M H (h' i j) (h i j)):OpD X f (g2I C h'):=by
 refine ⟨fun x y P P' f h=>?_,_,o,fun {pp} M H x y v u Q _ rx ry h=>?_⟩
 ·cases x <;> cases y <;> first | exact h.elim | exact ⟨h.1,f _ h.2⟩
 ·cases x <;> first | exact h.elim | skip
  cases y <;> first | exact h.elim | skip
  simp only [Rep] at rx ry
  exact ⟨_,_,rx,ry,h.1,h.2 H _ .refl (e _ M H _ _)⟩
theorem OpD.ofI0 {f:Value->Value->Sem Value} {h:Int->Int->V} {h':Int->Int->D} (o:OpR X f (rI0 h)) (e:∀ pp M H i j,Rep X.K pp M H (h' i j) (h i j)):OpD X f (g2I0 h'):=by
 refine ⟨fun x y P P' f h=>?_,_,o,fun {pp} M H x y v u Q _ rx ry h=>?_⟩
 ·cases x <;> cases y <;> first | exact h.elim | exact f _ h
 ·cases x <;> first | exact h.elim | skip
  cases y <;> first | exact h.elim | skip
  simp only [Rep] at rx ry
  exact ⟨_,_,rx,ry,h H _ .refl (e _ M H _ _)⟩
theorem gJ:OpD X (binaryOp .Add) (g2I0 fun i j=>.int (i + j)):=.ofI0 jC fun _ _ _ _ _=>cX
theorem qw:OpD X (binaryOp .Sub) (g2I0 fun i j=>.int (i - j)):=.ofI0 zr fun _ _ _ _ _=>cX
theorem wG:OpD X (binaryOp .Mult) (g2I CMulB fun i j=>.int (i * j)):=.ofI hZ fun _ _ _ _ _=>cX
theorem tR:OpD X (binaryOp .Mod) (g2I (fun _ j=>0 < j) fun i j=>.int (i % j)):=.ofI iN fun _ _ _ _ _=>cX
theorem yb:OpD X (binaryOp .FloorDiv) (g2I zT fun i j=>.int (i / j)):=.ofI lU fun _ _ _ _ _=>cX
theorem wH:OpD X (binaryOp .Pow) (g2I CPow fun i j=>.int (i ^ j.toNat)):=.ofI wz fun _ _ _ _ _=>cX
theorem tS:OpD X (compareOp .LtE) (g2I0 fun i j=>.bl (decide (i <= j))):=.ofI0 BF fun _ _ _ _ _=>eO
theorem rV:OpD X (compareOp .Gt) (g2I0 fun i j=>.bl (decide (j < i))):=.ofI0 zy fun _ _ _ _ _=>eO
structure UnD (X:Cx) (f:Value->Sem Value) (g:D->(D->Prop)->Prop):Prop where
 mono:∀ x P P',(∀ d,P d->P' d)->g x P->g x P'
 run:∃ r,UnR X f r /\ ∀ {pp:Option Addr} M H x v (Q:VK),Lv pp M H->Rep X.K pp M H x v->g x (fun d=>∀ H' w,SameP X.K pp H H'->Rep X.K pp M H' d w->Q w H')->r v H Q
abbrev dUn (g:D->(D->Prop)->Prop) (ta:DE):DE:=fun ρ Q=>ta ρ fun x ρ1=>g x fun d=>Q d ρ1
theorem yc {op:UnaryOp} {g:D->(D->Prop)->Prop} {a:Expr} {ta:DE} {pos:Pos} (ho:UnD X (unaryOp op) g) (ha:PED X a ta):PED X (.UnaryOp op a pos) (dUn g ta):=by
 obtain ⟨r,hr,hg⟩:=ho.run
 obtain ⟨Ta,pa,ra⟩:=ha.run
 refine ⟨fun _ _ _ f h=>ha.mono _ _ _ (fun _ _ h=>ho.mono _ _ _ (fun _ h=>f _ _ h) h) h,_,BC hr pa,fun {F} M H σ ρ Q rs h=>ra M H σ ρ _ rs (ha.mono _ _ _ (fun x ρ1 h M1 H1 v m1 rs1 r1=>?_) h)⟩
 exact hg M1 H1 x v _ rs1.liv r1 (ho.mono _ _ _ (fun d h H' w s r=>h M1 H' w (m1.trans s.mv) (rs1.sameP s) r) h)
def gNeg:D->(D->Prop)->Prop
 | .int i,P=>P (.int (-i))
 | _,_=>False
theorem tT:UnD X (unaryOp .USub) gNeg:=by
 refine ⟨fun x P P' f h=>?_,_,zv,fun {pp} M H x v Q _ rx h=>?_⟩
 ·cases x <;> first | exact h.elim | exact f _ h
 ·cases x <;> first | exact h.elim | skip
  simp only [Rep] at rx
  exact ⟨_,rx,h H _ .refl cX⟩
def Ai:D->Bool
 | .int _=>true
 | .bl _=>true
 | _=>false
def yd:D->Bool
 | .bl _=>true
 | _=>false
def lj:D->Bool
 | .tup _=>true
 | _=>false
def Aj:D->Bool
 | .lst _=>true
 | _=>false
def tU:D->Bool
 | .pen=>false
 | .exc _=>false
 | .exa _ _=>false
 | .cls _=>false
 | .ty _=>false
 | _=>true
theorem wI {K:PySem.W.Frag} {M:List Addr} {H:Hp} {d:D} {v:V} (r:Rep K pp M H d v) (f:tU d=true):knV H v:=by
 cases d <;> first | cases f | skip
 all_goals simp only [Rep] at r
 case non=>subst r; trivial
 case bl=>subst r; trivial
 case int=>subst r; trivial
 case str=>subst r; trivial
 case tup=>obtain ⟨a,xs,rfl,h,_⟩:=r; exact .inr (.inr (.inl ⟨xs,h⟩))
 case lst=>obtain ⟨a,xs,rfl,_,_,h,_⟩:=r; exact .inl ⟨xs,h⟩
 case dK=>obtain ⟨a,xs,rfl,_,_,h,_⟩:=r; exact .inr (.inr (.inr (.inl ⟨xs,h⟩)))
 case dT=>obtain ⟨a,xs,rfl,_,_,h,_⟩:=r; exact .inr (.inr (.inr (.inr ⟨xs,h⟩)))
def gIs (T:String) (f:D->Bool):DSp:=fun ds P=>match ds with
 | [d,.ty T']=>T'=T /\ tU d=true /\ P (.bl (f d))
 | _=>False
theorem CallD.isOf {T:String} {f:Hp->V->Bool} {fD:D->Bool} (hc:fA X (.builtin "isinstance") (fun xs H Q=>∃ x,xs=[x,.ty T] /\ knV H x /\ Q (.bl (f H x)) H))
  (e:∀ pp M H d v,Rep X.K pp M H d v->tU d=true->f H v=fD d):CallD X (.builtin "isinstance") (gIs T fD):=by
 refine ⟨fun ds P P' f h=>?_,_,hc,fun {pp} M H ds vs Q _ r h=>?_⟩
 ·unfold gIs at h ⊢; split at h
  ·exact ⟨h.1,h.2.1,f _ h.2.2⟩
  ·exact h.elim
 ·unfold gIs at h; split at h
  case h_2=>exact h.elim
  ·rename_i d T'
   obtain ⟨e1,e2,h⟩:=h
   simp only [Reps] at r
   obtain ⟨x,r,rfl,rx,y,r',rfl,ry,rfl⟩:=r
   simp only [Rep] at ry
   subst ry e1
   exact ⟨x,rfl,wI rx e2,h H _ .refl (by rw [e _ M H d x rx e2]; exact eO)⟩
theorem tV:CallD X (.builtin "isinstance") (gIs "int" Ai):=.isOf oW fun pp M H d v r _=>by
 cases d <;> simp only [Rep] at r
 case non=>subst r; rfl
 case bl=>subst r; rfl
 case int=>subst r; rfl
 case str=>subst r; rfl
 case ty=>subst r; rfl
 case tup=>obtain ⟨a,xs,rfl,_⟩:=r; rfl
 case lst=>obtain ⟨a,xs,rfl,_⟩:=r; rfl
 case dK=>obtain ⟨a,xs,rfl,_⟩:=r; rfl
 case dT=>obtain ⟨a,xs,rfl,_⟩:=r; rfl
 case pen=>obtain ⟨a,rfl,_⟩:=r; rfl
 case exc=>obtain ⟨a,rfl,_⟩:=r; rfl
 case exa=>obtain ⟨a,dx,rfl,_⟩:=r; rfl
 case cls=>subst r; rfl
theorem rW:CallD X (.builtin "isinstance") (gIs "bool" yd):=.isOf nE fun pp M H d v r _=>by
 cases d <;> simp only [Rep] at r
 case non=>subst r; rfl
 case bl=>subst r; rfl
 case int=>subst r; rfl
 case str=>subst r; rfl
 case ty=>subst r; rfl
 case tup=>obtain ⟨a,xs,rfl,_⟩:=r; rfl
 case lst=>obtain ⟨a,xs,rfl,_⟩:=r; rfl
 case dK=>obtain ⟨a,xs,rfl,_⟩:=r; rfl
 case dT=>obtain ⟨a,xs,rfl,_⟩:=r; rfl
 case pen=>obtain ⟨a,rfl,_⟩:=r; rfl
 case exc=>obtain ⟨a,rfl,_⟩:=r; rfl
 case exa=>obtain ⟨a,dx,rfl,_⟩:=r; rfl
 case cls=>subst r; rfl
theorem fQ:CallD X (.builtin "isinstance") (gIs "tuple" lj):=.isOf lT fun pp M H d v r f=>by
 cases d <;> first | cases f | skip
 all_goals simp only [Rep] at r
 case non=>subst r; rfl
 case bl=>subst r; rfl
 case int=>subst r; rfl
 case str=>subst r; rfl
 case tup=>obtain ⟨a,xs,rfl,h,_⟩:=r; simp [ba,h,isTupO,lj]
 case lst=>obtain ⟨a,xs,rfl,_,_,h,_⟩:=r; simp [ba,h,isTupO,lj]
 case dK=>obtain ⟨a,xs,rfl,_,_,h,_⟩:=r; simp [ba,h,isTupO,lj]
 case dT=>obtain ⟨a,xs,rfl,_,_,h,_⟩:=r; simp [ba,h,isTupO,lj]
def gLen:DSp:=fun ds P=>match ds with
 | [.tup xs]=>P (.int xs.length)
 | [.lst xs]=>P (.int xs.length)
 | _=>False
theorem fK:CallD X (.builtin "len") gLen:=by
 refine ⟨fun ds P P' f h=>?_,_,tF,fun {pp} M H ds vs Q _ r h=>?_⟩
 ·unfold gLen at h ⊢; split at h
  ·exact f _ h
  ·exact f _ h
  ·exact h.elim
 ·unfold gLen at h; split at h
  case h_3=>exact h.elim
  ·simp only [Reps,Rep] at r
   obtain ⟨x,r,rfl,⟨a,ys,rfl,ha,ry⟩,rfl⟩:=r
   exact ⟨a,ys.length,rfl,by rw [ha]; rfl,h H _ .refl (by rw [← ry.length]; exact cX)⟩
  ·simp only [Reps,Rep] at r
   obtain ⟨x,r,rfl,⟨a,ys,rfl,_,_,ha,ry⟩,rfl⟩:=r
   exact ⟨a,ys.length,rfl,by rw [ha]; rfl,h H _ .refl (by rw [← ry.length]; exact cX)⟩
def nJ:DSp:=fun ds P=>match ds with
 | [.tup xs]=>P (.tup xs)
 | [.lst xs]=>P (.tup xs)
 | _=>False
theorem cx:CallD X (.type "tuple") nJ:=by
 refine ⟨fun ds P P' f h=>?_,_,lP,fun {pp} M H ds vs Q _ r h=>?_⟩
 ·unfold nJ at h ⊢; split at h
  ·exact f _ h
  ·exact f _ h
  ·exact h.elim
 ·unfold nJ at h; split at h
  case h_3=>exact h.elim
  ·simp only [Reps] at r
   obtain ⟨x,r,rfl,rx,rfl⟩:=r
   have rx':=rx
   simp only [Rep] at rx
   obtain ⟨a,ys,rfl,ha,ry⟩:=rx
   exact ⟨a,ys,rfl,.inr ⟨SqT.of ha,h H _ .refl rx'⟩⟩
  ·simp only [Reps,Rep] at r
   obtain ⟨x,r,rfl,⟨a,ys,rfl,_,_,ha,ry⟩,rfl⟩:=r
   refine ⟨a,ys,rfl,.inl ⟨SqL.of ha,fun l hl=>h _ _ (.new hl) ?_⟩⟩
   simp only [Rep]
   exact ⟨l,ys,rfl,ak,ry.mv (.new hl)⟩
def opt (o:Option D) (P:D->Prop):Prop:=match o with
 | some d=>P d
 | none=>False
theorem vM {o:Option D} {P P':D->Prop} (f:∀ d,P d->P' d) (h:opt o P):opt o P':=by cases o <;> first | exact h.elim | exact f _ h
theorem vN {o:Option D} {P:D->Prop} (h:opt o P):∃ d,o=some d /\ P d:=by cases o <;> first | exact h.elim | exact ⟨_,rfl,h⟩
def gIx:D->D->(D->Prop)->Prop
 | .tup xs,.int i,P=>opt (atI xs i) P
 | .lst xs,.int i,P=>opt (atI xs i) P
 | _,_,_=>False
theorem tW {K:PySem.W.Frag} {M:List Addr} {H:Hp} {ds:List D} {xs:List V} {i:Int} {d:D} (r:Reps K pp M H ds xs) (h:atI ds i=some d):∃ v,atI xs i=some v /\ Rep K pp M H d v:=by
 unfold atI at h ⊢
 rw [r.length] at h
 cases q:ixN xs.length i with
 | none=>rw [q] at h; cases h
 | some j =>
  rw [q] at h
  obtain ⟨v,e1,e2⟩:=r.get' (i:=j) h
  exact ⟨v,e1,e2⟩
theorem aK {a b:Expr} {ta tb:DE} {pos:Pos} (ha:PED X a ta) (hb:PED X b tb) (hs:sZ b):PED X (.Subscript a b pos) (dOp gIx ta tb):=by
 have gm:∀ x y P P',(∀ d,P d->P' d)->gIx x y P->gIx x y P':=fun x y P P' f h=>by
  cases x <;> first | exact h.elim | skip
  all_goals cases y <;> first | exact h.elim | exact vM f h
 obtain ⟨Ta,pa,ra⟩:=ha.run
 obtain ⟨Tb,pb,rb⟩:=hb.run
 refine ⟨gH gm ha hb,_,vv (IxR.or xM vF) pa pb hs,fun {F} M H σ ρ Q rs h=>me (fun M H x y v u Q _ rx ry h=>?_) gm ha hb ra rb rs h⟩
 cases x <;> first | exact h.elim | skip
 all_goals cases y <;> first | exact h.elim | skip
 all_goals
  obtain ⟨d,e,h⟩:=vN h
  simp only [Rep] at rx ry
 ·obtain ⟨p,xs,rfl,hp,r⟩:=rx
  obtain ⟨z,e2,rz⟩:=tW r e
  exact .inl ⟨p,xs,_,z,rfl,ry,hp,e2,h H z .refl rz⟩
 ·obtain ⟨p,xs,rfl,_,_,hp,r⟩:=rx
  obtain ⟨z,e2,rz⟩:=tW r e
  exact .inr ⟨p,xs,_,z,rfl,ry,hp,e2,h H z .refl rz⟩
end
end DL
namespace DL
open PySem PySem.Spec L2
open PyProof.Rows hiding St
variable [TB]
variable [Frm]
section
variable {X:Cx} {F:Fx}
def Cd (i:Nat) (E:DEnds) (ρ:DS) (d:D):Sl->Prop
 | .own ds=>ds.length < sizeLine /\ E.nx (ρ.set i (.own (ds++[d])))
 | _=>False
def Ak:Sl->Prop
 | .own _=>True
 | _=>False
abbrev dApp (i:Nat) (te:DE):DTS:=fun E ρ=>Ak (slot ρ i) /\ te ρ fun d ρ'=>Cd i E ρ' d (slot ρ' i)
theorem RSt.write {K:PySem.W.Frag} {M:List Addr} {H:Hp} {σ:St} {ρ:DS} {l:Addr} {ys:List V} {ds es:List D} {i:Nat} (r:RSt K F M H σ ρ) (h:ρ[i]? = some (.own ds)) (hl:σ[i]? = some (some (.ref l))) (hd:Reps K F.pp M H es ys) :
  Mv K F.pp M H M (upd H l (.lst ys)) /\ RSt K F M (upd H l (.lst ys)) σ (ρ.set i (.own es)):=by
 obtain ⟨l',xs,e,hm,h0,hp,hl',hr⟩:=r.sl i _ _ h hl
 cases e
 have m:Mv K F.pp M H M (upd H l (.lst ys)):=.write hl' hm hp
 refine ⟨m,⟨by simp [r.len],fun j q o h1 h2=>?_,r.ow.step m i (fun _ _=>rfl) (fun j e=>List.getElem?_set_ne (Ne.symm e)) (fun A hA hB=>⟨A,fun s o e1 e2=>?_,fun b hb=>⟨(hB b hb).1,(hB b hb).2.1,(hB b hb).2.2,.inl hb⟩,fun a ha _ _ hn=>⟨ha,fun x e _=>?_⟩⟩),r.sub,?_,r.old,?_,r.lk.cl m⟩⟩
 ·by_cases e:i=j
  ·subst e
   rw [hl] at h2
   rw [aP h1]
   cases h2
   exact ⟨l,ys,rfl,hm,h0,hp,ak,hd.mv m⟩
  ·rw [List.getElem?_set_ne e] at h1
   have q':=r.sl j q o h1 h2
   cases q with
   | nil=>trivial
   | val d=>obtain ⟨v,e,q⟩:=q'; exact ⟨v,e,q.mv m⟩
   | pin w d=>obtain ⟨v,e,ew,q⟩:=q'; exact ⟨v,e,ew,q.mv m⟩
   | own es =>
    obtain ⟨l',zs,rfl,hm',h0',hp',hl'',hr'⟩:=q'
    refine ⟨l',zs,rfl,hm',h0',hp',?_,hr'.mv m⟩
    rw [aj]
    ·exact hl''
    ·rintro rfl
     exact e (r.own i j _ _ _ h h1 hl h2)
   | obj q=>exact q'
 ·rw [aP e1]
  exact hA _ _ h e2
 ·obtain ⟨l2,e2,e3⟩:=hA _ _ h hl
  cases e2
  rw [aj (by rintro rfl; exact hn (by rw [e3]; simp))]
  exact e
 ·refine ⟨fun b o e n=>?_,fun p e h=>m.pen p e (r.same.pen p e h),fun b e=>?_⟩
  ·rw [aj (by rintro rfl; rw [h0] at e; cases e)]
   exact r.same.keep b o e n
  ·by_cases z:b=l
   ·subst z; rw [ak]; intro z; cases z
   ·rw [aj z]; exact r.same.live b e
 ·refine ⟨fun a ha=>?_,fun p e=>?_⟩
  ·by_cases z:a=l
   ·subst z; rw [ak]; intro z; cases z
   ·rw [aj z]; exact r.liv.m a ha
  ·by_cases z:p=l
   ·subst z; rw [ak]; intro z; cases z
   ·rw [aj z]; exact r.liv.p p e
theorem Al {i:Nat} {o e:Expr} {apos cpos pos:Pos} {te:DE} (ho:PE X o (tVar i)) (he:PED X e te)
  (hbase:attributeBase o "append" X.env (eval o X.env)=eval o X.env:=by rfl)
  (hfew:((backTo cpos (starEach [e] X.env)).all (fun x=>!x.1) && (backToKw cpos (keywordEach [] X.env)).all (fun x=>x.1.isSome)
   && decide ([e].length + ([]:List Keyword).length + (if ([]:List Keyword).isEmpty then 0 else 1) < 30))=true:=by rfl)
  (hline:(apos.endLine == cpos.line)=true:=by rfl) (hst:starEach [e] X.env=(false,eval e X.env)::starEach [] X.env:=by rfl) (hpl:(backTo cpos (starEach [] X.env)).any (·.1)=false:=by rfl)
  (hs:swapsWith (.Call (.Attribute o "append" apos) [e] [] cpos) none pos.line X.env=pure false:=by rfl):PSD X (.Expr (.Call (.Attribute o "append" apos) [e] [] cpos) pos) (dApp i te):=by
 have hm:PE X (.Call (.Attribute o "append" apos) [e] [] cpos) (tBM X.K "list" tj (tVar i) (xB (Classical.choose he.run) tNil)):=xG PySem.F.plainAttrs_list PySem.F.slot_list_append PySem.F.type_list_append jF ho (cH (Classical.choose_spec he.run).1 fF hst) hbase hfew hline hst hpl
 obtain ⟨_,r⟩:=Classical.choose_spec he.run
 refine ⟨_,oK hm hs,fun {F} M H σ ρ E D rs oo h=>?_⟩
 obtain ⟨h0,h⟩:=h
 cases q:slot ρ i with
 | nil=>rw [q] at h0; exact h0.elim
 | val d=>rw [q] at h0; exact h0.elim
 | pin w d=>rw [q] at h0; exact h0.elim
 | obj z=>rw [q] at h0; exact h0.elim
 | own ds =>
  obtain ⟨oo1,ho1,l,xs,rfl,hm1,h01,hp1,hl1,hr1⟩:=rs.at (aW q (by intro z; cases z))
  refine ⟨.ref l,ho1,.inl ⟨rfl,xs,SqL.of hl1⟩,?_⟩
  refine r M H σ ρ _ rs (he.mono _ _ _ (fun d ρ' h M' H' v m rs' rd=>?_) h)
  cases q':slot ρ' i with
  | nil=>rw [q'] at h; exact h.elim
  | val d=>rw [q'] at h; exact h.elim
  | pin w d=>rw [q'] at h; exact h.elim
  | obj z=>rw [q'] at h; exact h.elim
  | own ds' =>
   rw [q'] at h
   have g1:=aW q' (by intro z; cases z)
   obtain ⟨l',xs',e',hm',h0',hp',hl',hr'⟩:=rs'.sl i _ _ g1 ho1
   cases e'
   obtain ⟨m2,rs2⟩:=rs'.write g1 ho1 (hr'.append (.one rd))
   exact ⟨l,xs',v,rfl,rfl,hl',by rw [← hr'.length]; exact h.1,oo.nx M' _ _ _ (m.trans m2) rs2 h.2⟩
end
def rX:DSp:=fun ds P=>match ds with
 | [.pen,.int m]=>(1 <= m /\ m <= 10 ^ 60) /\ ∀ r,0 <= r->r < m->P (.int r)
 | _=>False
theorem tX:cZ rX:=fun ds P P' f h=>by
 unfold rX at h ⊢
 split at h
 ·exact ⟨h.1,fun r h0 h1=>f _ (h.2 r h0 h1)⟩
 ·exact h.elim
theorem ye {P:Program} {w:World} {K:PySem.W.Frag} {mg:Str->Option Value} {base:Heap} {k:Nat} {f:Addr} {fd:FuncData} {ps:List Str} (h:FnOk P w K mg base CX0 k f fd ps (tG K)):FnOk P w K mg base CX0 k f fd ps (spD K 2 rX) :=
 h.imp fun vs H Q E h=>by
  obtain ⟨pp,M,ds,lv,r,e,h⟩:=h
  unfold rX at h
  split at h
  case h_2=>exact h.elim
  ·rename_i m
   obtain ⟨⟨m1,m2⟩,h⟩:=h
   simp only [Reps,Rep] at r
   obtain ⟨x,_,rfl,⟨p,rfl,ep,a,ns,t,l,pen⟩,y,_,rfl,rfl,rfl⟩:=r
   refine ⟨p,a,ns,t,l,m,rfl,pen,m1,m2,fun r t' l' H' h0 h1 pen' sb=>h r h0 h1 H' _ ⟨⟨fun b o hb n=>?_,fun q e _=>?_,fun b hb=>?_⟩,fun tb=>tb.of fun b o e tf=>sb b o (by rintro rfl; rw [pen.lst] at e; cases e; exact lZ tf) e⟩ cX⟩
   ·by_cases z:b=p
    ·subst z
     rw [pen.lst] at hb
     cases hb
     exact absurd rfl (n.1 ep _)
    ·exact sb b o z hb
   ·rw [ep] at e; cases e
    exact ⟨a,ns,t',l',pen'⟩
   ·by_cases z:b=p
    ·subst z; rw [pen'.lst]; intro z; cases z
    ·cases q:H b with
     | none=>exact absurd q hb
     | some o=>rw [sb b o z q]; intro z; cases z
def spLaw (K:PySem.W.Frag):Sp:=fun vs H Q _=>∃ a ns,vs=[.ref a] /\ Scr K H a ns /\ Tabs H /\ ∀ H',Q (.bl true) H'
omit [TB] [Frm] in
theorem law_sp (K:PySem.W.Frag) (H:Hp) (a:Addr) (ns:List Int) (_:ns.length <= 63) (h1:Only H) (h:SqL K H a (ns.map V.int)) : @spLaw TB.none K [.ref a] H (fun v _=>v = .bl true) fun _ _ _=>False :=
 ⟨a,ns,rfl,zU h1 h,fun _ _ e=>(by cases e),fun _=>rfl⟩
omit [Frm] in
theorem lawD {P:Program} {w:World} {K:PySem.W.Frag} {mg:Str->Option Value} {base:Heap} {st:Stmt} {f:Addr} {fd:FuncData} {N:List Str} {x:Str} {k:Nat} {t:DTS} {s1:Stmt} {rest:List Stmt} (Fn:Fun K "law" "law" st f fd) (S:FnScope N [x] (ag st)) (hs:aF st=s1::rest) (hN:2 <= N.length)
  (h1:∀ (cdv:Value) (A:Around) (outer:List Env) (s:Shared) (H:Hp) (E:XK),Room k (A.deeper (envOfC "law" (ag st) s.heap.objs.size f cdv))->PS (cxOf CX0 P w K mg base N "law" (ag st) f cdv A outer s H E).nox s1 (tAsg (zA (wD K) [] E0 (xB (tVar 0) tNil)) (sJ 1)))
  (hb:∀ (cdv:Value) (A:Around) (outer:List Env) (s:Shared) (H:Hp) (E:XK),Room k (A.deeper (envOfC "law" (ag st) s.heap.objs.size f cdv)) -> @PSsD _ Frm.free (cxOf CX0 P w K mg base N "law" (ag st) f cdv A outer s H E).nox rest t)
  (hg:t { nx:=fun _=>False,rt:=fun d=>d = .bl true } (.nil :: .val .pen::List.replicate (N.length - 2) .nil)):FnOk P w K mg base CX0 (k + 1) f fd [x] (spLaw K):=by
 refine Fn.ok S (fun vs H Q E h=>?_) (fun cdv A outer s H vs Q E hr h=>?_)
 ·obtain ⟨a,ns,rfl,_⟩:=h
  rfl
 ·obtain ⟨a,ns,rfl,hs',hT,h⟩:=h
  rw [hs]
  refine ⟨_,bv (u:=fun D σ H'=>∃ p:Addr,@RSt _ Frm.free K ⟨some p,[],H'⟩ [] H' σ (.nil :: .val .pen::List.replicate (N.length - 2) .nil) /\ ∀ H'',D.rt (.bl true) H'') (h1 cdv A outer s H E hr) ?_,?_⟩
  ·intro pins s' σ H' D I ⟨p,rs,q⟩
   obtain ⟨T,pT,run⟩:=hb cdv A outer s H E hr
   refine pT pins s' σ H' D I (run [] H' σ _ { nx:=fun _=>False,rt:=fun d=>d = .bl true } D rs ⟨fun _ _ _ _ _ _ q=>q.elim,fun _ _ _ _ _ _ q=>q.elim,fun _ _ _ _ _ _ q=>q.elim,fun M2 H2 σ2 ρ2 d v _ _ rd e=>?_⟩ hg)
   subst e
   simp only [Rep] at rd
   subst rd
   exact q H2
  ·refine ⟨.ref a,?_,a,ns,rfl,hs',fun p H' hp pen sm=>⟨p,⟨?_,fun i s o e1 e2=>?_,OwF.none (fun i s e1=>?_),fun a z=>by simp at z,.refl,fun a z=>by simp at z,⟨fun a z=>by simp at z,fun q e=>?_⟩,⟨trivial,hT.of fun b o e _=>sm b o e⟩⟩,h⟩⟩
   ·simp [L2.start]
   ·simp [L2.start]; omega
   ·match i,e1 with
    | 0,e1=>simp at e1; subst e1; trivial
    | 1,e1 =>
     simp at e1
     subst e1
     have hi:1 < (L2.start N [V.ref a]).length:=by simp [L2.start]; omega
     simp [hi] at e2
     subst e2
     refine ⟨_,rfl,?_⟩
     simp only [Rep]
     exact ⟨p,rfl,rfl,a,ns,0,0,pen⟩
    | i + 2,e1 =>
     have:=List.eq_of_mem_replicate (List.mem_of_getElem? (by simpa using e1))
     subst this
     trivial
   ·have:=List.mem_of_getElem? e1
    simp at this
    rcases this with rfl | rfl | ⟨_,rfl⟩ <;> exact ⟨fun ds z=>(by cases z),fun q z=>(by cases z)⟩
   ·cases e
    rw [pen.lst]; intro z; cases z
end DL
namespace DL
open PySem PySem.Spec L2
open PyProof.Rows hiding St
variable [TB]
variable [Frm]
mutual
def toPy:D->PyData
 | .non=>.none
 | .bl b=>.bool b
 | .int i=>.int i
 | .str x=>.str x
 | .tup ds=>.tuple (mf ds)
 | .lst ds=>.list (mf ds)
 | .ty _=>.none
 | .dK _ _=>.none
 | .dT _ _=>.none
 | .pen=>.none
 | .exc _=>.none
 | .exa _ _=>.none
 | .cls _=>.none
def mf:List D->List PyData
 | []=>[]
 | d::ds=>toPy d::mf ds
def pln:D->Bool
 | .pen=>false
 | .exc _=>false
 | .exa _ _=>false
 | .cls _=>false
 | .ty _=>false
 | .dK _ _=>false
 | .dT _ _=>false
 | .tup ds=>plns ds
 | .lst ds=>plns ds
 | _=>true
def plns:List D->Bool
 | []=>true
 | d::ds=>pln d && plns ds
end
def eqD (x y:D):Bool:=PyData.eqv (toPy x) (toPy y)
def shp (d:D):Bool:=pln d && SeqAt.shaped (toPy d)
mutual
theorem gK {P:Program} {w:World} {K:PySem.W.Frag} {pp:Option Addr} {M:List Addr} {H:Hp} {h:Heap} (ok:HOk P w H h):∀ (d:D) (v:V) (u:Value),pln d=true->Rep K pp M H d v->RelV v u->∃ as,Reads h u (toPy d) as
 | .non,_,_,_,r,q=>by simp only [Rep] at r; subst r; cases q; exact ⟨_,.none⟩
 | .bl b,_,_,_,r,q=>by simp only [Rep] at r; subst r; cases q; exact ⟨_,.bool b⟩
 | .int i,_,_,_,r,q=>by simp only [Rep] at r; subst r; obtain ⟨t,rfl⟩:=q; exact ⟨_,.int i t⟩
 | .str x,_,_,_,r,q=>by simp only [Rep] at r; subst r; obtain ⟨t,rfl⟩:=q; exact ⟨_,.str x t⟩
 | .tup ds,_,_,p,r,q=>by
  simp only [Rep] at r
  obtain ⟨a,xs,rfl,ha,r⟩:=r
  cases q
  obtain ⟨_,its,vs,o,ho,hc,n,hd⟩:=ok a _ ha
  obtain ⟨as,z⟩:=jR ok ds xs its (by simpa only [pln] using p) r vs
  exact ⟨_,by rw [toPy]; exact .tuple ho hc hd (by simpa using z)⟩
 | .lst ds,_,_,p,r,q=>by
  simp only [Rep] at r
  obtain ⟨a,xs,rfl,_,_,ha,r⟩:=r
  cases q
  obtain ⟨_,its,n,vs,ho⟩:=ok a _ ha
  obtain ⟨as,z⟩:=jR ok ds xs its (by simpa only [pln] using p) r vs
  exact ⟨_,by rw [toPy]; exact .list ho rfl rfl (by simpa using z)⟩
 | .ty _,_,_,p,_,_=>by simp [pln] at p
 | .dK _ _,_,_,p,_,_=>by simp [pln] at p
 | .dT _ _,_,_,p,_,_=>by simp [pln] at p
 | .pen,_,_,p,_,_=>by simp [pln] at p
 | .exc _,_,_,p,_,_=>by simp [pln] at p
 | .exa _ _,_,_,p,_,_=>by simp [pln] at p
 | .cls _,_,_,p,_,_=>by simp [pln] at p
theorem jR {P:Program} {w:World} {K:PySem.W.Frag} {pp:Option Addr} {M:List Addr} {H:Hp} {h:Heap} (ok:HOk P w H h):∀ (ds:List D) (vs:List V) (us:List Value),plns ds=true->Reps K pp M H ds vs->Vals vs us->∃ as,ReadsAll h us (mf ds) as
 | [],_,_,_,r,q=>by simp only [Reps] at r; subst r; cases q; exact ⟨_,.nil⟩
 | d::ds,_,_,p,r,q=>by
  simp only [Reps] at r
  obtain ⟨x,r',rfl,r1,r2⟩:=r
  simp only [plns,Bool.and_eq_true] at p
  cases q with
  | cons q1 q2 =>
   obtain ⟨as,z1⟩:=gK ok d _ _ p.1 r1 q1
   obtain ⟨bs,z2⟩:=jR ok ds _ _ p.2 r2 q2
   exact ⟨_,by rw [mf]; exact .cons z1 z2⟩
end
section
variable {X:Cx} {pp:Option Addr} {k:Nat}
def rEqD (K:PySem.W.Frag) (n:Bool):R2:=fun x y H Q=>∃ pp M dx dy,Rep K pp M H dx x /\ Rep K pp M H dy y /\ shp dx=true /\ shp dy=true /\ Q (.bl (if n then !eqD dx dy else eqD dx dy)) H
theorem Am (hr:Room k X.A):OpR X (compareOp .Eq) (rEqD X.K false):=by
 intro pins s σ H x y v u Q I rx ry h
 obtain ⟨pp,M,dx,dy,r1,r2,s1,s2,q⟩:=h
 unfold shp at s1 s2
 rw [Bool.and_eq_true] at s1 s2
 obtain ⟨as,z1⟩:=gK I.hok dx x v s1.1 r1 rx
 obtain ⟨bs,z2⟩:=gK I.hok dy y u s2.1 r2 ry
 exact SeqAt.compareEq_shaped z1 z2 s1.2 s2.2 (by have:=hr.un; omega) (cz I q rfl)
theorem An (hr:Room k X.A):OpR X (compareOp .NotEq) (rEqD X.K true):=by
 intro pins s σ H x y v u Q I rx ry h
 obtain ⟨pp,M,dx,dy,r1,r2,s1,s2,q⟩:=h
 unfold shp at s1 s2
 rw [Bool.and_eq_true] at s1 s2
 obtain ⟨as,z1⟩:=gK I.hok dx x v s1.1 r1 rx
 obtain ⟨bs,z2⟩:=gK I.hok dy y u s2.1 r2 ry
 exact SeqAt.compareNe_shaped z1 z2 s1.2 s2.2 (by have:=hr.un; omega) (cz I q rfl)
def gEq (n:Bool):D->D->(D->Prop)->Prop:=fun x y P=>(shp x=true /\ shp y=true) /\ P (.bl (if n then !eqD x y else eqD x y))
theorem tY (hr:Room k X.A):OpD X (compareOp .Eq) (gEq false) :=
 ⟨fun _ _ _ _ f h=>⟨h.1,f _ h.2⟩,_,Am hr,fun {pp} M H x y v u Q _ rx ry h=>⟨pp,M,x,y,rx,ry,h.1.1,h.1.2,h.2 H _ .refl eO⟩⟩
theorem fB (hr:Room k X.A):OpD X (compareOp .NotEq) (gEq true) :=
 ⟨fun _ _ _ _ f h=>⟨h.1,f _ h.2⟩,_,An hr,fun {pp} M H x y v u Q _ rx ry h=>⟨pp,M,x,y,rx,ry,h.1.1,h.1.2,h.2 H _ .refl eO⟩⟩
end
end DL
namespace DL
open PySem PySem.Spec L2
open PyProof.Rows hiding St
variable [TB]
variable [Frm]
section
variable {X:Cx} {F:Fx} {pp:Option Addr}
abbrev DO:=DS->(Option Int->DS->Prop)->Prop
structure POD (X:Cx) (e:Option Expr) (t:DO):Prop where
 mono:∀ ρ P P',(∀ b ρ',P b ρ'->P' b ρ')->t ρ P->t ρ P'
 run:∃ T:TO,PO X e T /\ ∀ {F:Fx} M H σ ρ (Q:Option Int->Hp->Prop),RSt X.K F M H σ ρ ->
  (t ρ fun o ρ'=>∀ M' H',Mv X.K F.pp M H M' H'->RSt X.K F M' H' σ ρ'->Q o H')->T σ H Q
abbrev Ao:DO:=fun ρ Q=>Q none ρ
abbrev wJ (te:DE):DO:=fun ρ Q=>te ρ fun d ρ'=>match d with
 | .int i=>Q (some i) ρ'
 | _=>False
theorem ik:POD X none Ao:=⟨fun _ _ _ f h=>f _ _ h,_,oM,fun {F} M H σ ρ Q rs h=>h M H .refl rs⟩
theorem fR {e:Expr} {te:DE} (he:PED X e te):POD X (some e) (wJ te):=by
 obtain ⟨T,p,r⟩:=he.run
 refine ⟨fun _ _ _ f h=>he.mono _ _ _ (fun d _ h=>?_) h,_,xD p,fun {F} M H σ ρ Q rs h=>r M H σ ρ _ rs (he.mono _ _ _ (fun d ρ' h M' H' v m rs' rd=>?_) h)⟩
 ·cases d <;> first | exact h.elim | exact f _ _ h
 ·cases d <;> first | exact h.elim | skip
  simp only [Rep] at rd
  exact ⟨_,rd,h M' H' m rs'⟩
def cutD (xs:List D) (lo hi:Option Int):List D:=(xs.drop (HT.sIx xs.length 0 lo)).take (HT.sIx xs.length xs.length hi - HT.sIx xs.length 0 lo)
theorem Reps.cut {K:PySem.W.Frag} {M:List Addr} {H:Hp} {ds:List D} {xs:List V} (lo hi:Option Int) (r:Reps K pp M H ds xs):Reps K pp M H (cutD ds lo hi) (cutV xs lo hi):=by
 unfold cutD cutV
 rw [r.length]
 exact (r.drop _).take _
end
end DL
namespace DL
open PySem PySem.Spec L2
open PyProof.Rows hiding St
variable [TB]
variable [Frm]
theorem jS {g:DG} {b:DTS} {E:DEnds} {ds:List D} (N:List D->DS->Prop) (hn:∀ ρ,N ds ρ->E.nx ρ)
  (hs:∀ (pre:List D) (d:D) (post:List D) (ρ:DS) (X:DS->Prop),ds=pre++d::post->N pre ρ->(∀ ρ',N (pre++[d]) ρ'->X ρ')->g d ρ fun ρ1=>b { E with nx:=X,ct:=X,bk:=E.nx } ρ1) (ρ:DS) (h:N [] ρ):nI g b ds E ρ:=by
 have key:∀ (post pre:List D),ds=pre++post->∀ ρ,N pre ρ->nI g b post E ρ:=by
  intro post
  induction post with
  | nil=>intro pre e ρ h; rw [List.append_nil] at e; subst e; exact hn ρ h
  | cons d r ih=>intro pre e ρ h; exact hs pre d r ρ _ e h (ih (pre++[d]) (by rw [e,List.append_assoc]; rfl))
 exact key ds [] rfl ρ h
theorem Ap {α:Type} {xs:List α} {r:Int} (h0:0 <= r) (h1:r < xs.length):∃ d,atI xs r=some d /\ xs[r.toNat]? = some d:=by
 obtain ⟨j,rfl⟩:=Int.eq_ofNat_of_zero_le h0
 have hj:j < xs.length:=by omega
 exact ⟨xs[j],oN (by simp [hj]),by simp [hj]⟩
theorem mh {xs:List D} {r:Int} {Q:D->Prop} (h0:0 <= r) (h1:r < xs.length) (h:∀ d∈xs,Q d):opt (atI xs r) Q:=by
 obtain ⟨d,e,e2⟩:=Ap h0 h1
 rw [e]
 exact h d (List.mem_of_getElem? e2)
theorem tZ {xs:List D} {r:Int} {d:D} {Q:D->Prop} (h0:0 <= r) (e:xs[r.toNat]? = some d) (h:Q d):opt (atI xs r) Q:=by
 obtain ⟨j,rfl⟩:=Int.eq_ofNat_of_zero_le h0
 rw [oN (show xs[j]? = some d from e)]
 exact h
theorem cpow {i j:Int} (h:0 <= j /\ j <= 1000000 /\ i.natAbs < 2 ^ 64:=by decide):CPow i j:=h
theorem sz {n:Nat} (h:Nat.ble n 1000=true:=by rfl):n <= sizeLine:=Nat.le_trans (Nat.le_of_ble_eq_true h) (by decide)
theorem pz {i j:Int}:eqD (.int i) (.int j)=decide (i=j):=by
 show (i == j)=_
 by_cases h:i=j <;> simp [h]
end DL
namespace DL
open PySem PySem.Spec L2
open PyProof.Rows hiding St
variable [TB]
variable [Frm]
def Bd (n:Nat) (i:Int):Prop:=i.natAbs < 2 ^ n
theorem Bd.mono {m n:Nat} {i:Int} (h:Bd m i) (l:m <= n):Bd n i:=Nat.lt_of_lt_of_le h (Nat.pow_le_pow_right (by decide) l)
theorem Bd.le {m:Nat} {i j:Int} (h:Bd m j) (l:i.natAbs <= j.natAbs):Bd m i:=Nat.lt_of_le_of_lt l h
end DL
namespace DL
open PySem PySem.Spec L2
open PyProof.Rows hiding St
variable [TB]
variable [Frm]
end DL
namespace DL
open PySem PySem.Spec L2
open PyProof.Rows hiding St
variable [TB]
def nK:Sl->Sl
 | .own _=>.nil
 | .obj _=>.nil
 | s=>s
theorem fS (s:Sl):(∀ ds,nK s ≠ .own ds) /\ ∀ q,nK s ≠ .obj q:=by
 cases s <;> exact ⟨fun ds z=>(by cases z),fun q z=>(by cases z)⟩
def cD (ρ:DS):DS:=ρ.map nK
def Aq (ρ:DS):Option Nat->Sl
 | none=>.nil
 | some j=>nK (slot ρ j)
def subD (js:List (Option Nat)) (ρ:DS):DS:=js.map (Aq ρ)
def ej (g:DG) (tc:DT) (te:DE):List D->List D->DS->(List D->Prop)->Prop
 | [],acc,_,Q=>Q acc
 | d::r,acc,ρ,Q=>g d ρ fun ρ1=>tc ρ1 fun b ρ2=>Br b (te ρ2 fun y ρ3=>acc.length < sizeLine /\ ej g tc te r (acc++[y]) (cD ρ3) Q) (ej g tc te r acc (cD ρ2) Q)
abbrev Ce (t:DA) (js:List (Option Nat)) (g:DG) (tc:DT) (te:DE):DA:=fun ρ Q=>t ρ fun ds ρ1=>ej g tc te ds [] (subD js ρ1) fun ys=>Q ys ρ1
def delH (H:Hp) (a:Addr):Hp:=fun b=>if b=a then none else H b
theorem uc {H:Hp} {a:Addr}:delH H a a=none:=by simp [delH]
theorem dI {H:Hp} {a b:Addr} (h:b≠a):delH H a b=H b:=by simp [delH,h]
theorem Tabs.del {H:Hp} {l:Addr} {o:HO} (h:Tabs H) (hl:H l=some o) (ht:¬ TF o):Tabs (delH H l) :=
 h.of fun b x e tf=>by
  rw [dI]
  ·exact e
  ·rintro rfl
   rw [hl] at e; cases e
   exact ht tf
theorem vO {H:Hp} {a:Addr} {o:HO} (h:H a=some o):upd (delH H a) a o=H:=by
 funext b
 by_cases e:b=a
 ·subst e; rw [ak,h]
 ·rw [aj e,dI e]
section
variable {X:Cx} {F:Fx} {K:PySem.W.Frag} {pp:Option Addr}
theorem RSt.rebase {M:List Addr} {H:Hp} {σ:St} {ρ:DS} (r:RSt K F M H σ ρ):RSt K ⟨F.pp,M,H⟩ M H σ (cD ρ):=by
 refine ⟨by simp [cD,r.len],fun i s o h1 h2=>?_,OwF.none (fun i s h1=>?_),fun a h=>h,.refl,r.liv.m,r.liv0,⟨trivial,r.lk.t⟩⟩
 ·simp only [cD,List.getElem?_map] at h1
  cases q:ρ[i]? with
  | none=>rw [q] at h1; cases h1
  | some s' =>
   rw [q] at h1
   cases h1
   have:=r.sl i s' o q h2
   cases s' with
   | nil=>trivial
   | val d=>exact this
   | pin w d=>exact this
   | own ds=>trivial
   | obj q=>trivial
 ·simp only [cD,List.getElem?_map] at h1
  cases q:ρ[i]? with
  | none=>rw [q] at h1; cases h1
  | some s' =>
   rw [q] at h1
   cases h1
   exact fS s'
theorem RSt.writeFree {M:List Addr} {H:Hp} {σ:St} {ρ:DS} {D:Addr} {xs ys:List V} (r:RSt K ⟨F.pp,M,H⟩ M H σ (cD ρ)) (hD:D∈M) (hp:F.pp≠some D) (h:H D=some (.lst xs)) :
  RSt K ⟨F.pp,M,upd H D (.lst ys)⟩ M (upd H D (.lst ys)) σ (cD ρ):=by
 have m:Mv K F.pp M H M (upd H D (.lst ys)):=.write h hD hp
 have lv:Lv0 F.pp M (upd H D (.lst ys)):=by
  refine ⟨fun a ha=>?_,fun p e=>?_⟩
  ·by_cases z:a=D
   ·subst z; rw [ak]; intro z; cases z
   ·rw [aj z]; exact r.liv.m a ha
  ·by_cases z:p=D
   ·subst z; rw [ak]; intro z; cases z
   ·rw [aj z]; exact r.liv.p p e
 refine ⟨r.len,fun i s o h1 h2=>?_,OwF.none (fun i s h1=>?_),fun a h=>h,.refl,lv.m,lv,⟨trivial,m.tb r.lk.t⟩⟩
 rotate_left
 ·simp only [cD,List.getElem?_map] at h1
  cases q:ρ[i]? with
  | none=>rw [q] at h1; cases h1
  | some s' =>
   rw [q] at h1
   cases h1
   exact fS s'
 have q:=r.sl i s o h1 h2
 cases s with
 | nil=>trivial
 | val d=>obtain ⟨v,e,q⟩:=q; exact ⟨v,e,q.mv m⟩
 | pin w d=>obtain ⟨v,e,ew,q⟩:=q; exact ⟨v,e,ew,q.mv m⟩
 | obj z=>exact q
 | own ds =>
  exfalso
  simp only [cD,List.getElem?_map] at h1
  cases q:ρ[i]? with
  | none=>rw [q] at h1; cases h1
  | some s'=>rw [q] at h1; cases s' <;> cases h1
theorem pA (ρ:DS):cD (cD ρ)=cD ρ:=by
 simp only [cD,List.map_map]
 refine List.map_congr_left fun s _=>?_
 cases s <;> rfl
theorem ll (js:List (Option Nat)) (ρ:DS):cD (subD js ρ)=subD js ρ:=by
 simp only [cD,subD,List.map_map]
 refine List.map_congr_left fun o _=>?_
 cases o with
 | none=>rfl
 | some j=>simp only [Function.comp,Aq]; cases slot ρ j <;> rfl
theorem RSt.block {M:List Addr} {H:Hp} {σ:St} {ρ:DS} {D:Addr} (r:RSt K F M H σ ρ) (js:List (Option Nat)) (hD:H D=none) :
  RSt K ⟨F.pp,D::M,upd H D (.lst [])⟩ (D::M) (upd H D (.lst [])) (L2.sub js σ) (subD js ρ):=by
 have m:Mv K F.pp M H (D::M) (upd H D (.lst [])):=.newOwn hD
 have lv:Lv0 F.pp (D::M) (upd H D (.lst [])):=by
  refine ⟨fun a ha=>?_,fun p e=>(SameP.new (K:=K) (pp:=F.pp) hD).live p (r.liv.p p e)⟩
  rcases List.mem_cons.mp ha with rfl | ha
  ·rw [ak]; intro z; cases z
  ·exact (SameP.new (K:=K) (pp:=F.pp) hD).live a (r.liv.m a ha)
 refine ⟨by simp [L2.sub,subD],fun i s o h1 h2=>?_,OwF.none (fun i s h1=>?_),fun a h=>h,.refl,lv.m,lv,⟨trivial,m.tb r.lk.t⟩⟩
 ·simp only [subD,List.getElem?_map] at h1
  simp only [L2.sub,List.getElem?_map] at h2
  cases q:js[i]? with
  | none=>rw [q] at h1; cases h1
  | some jo =>
   rw [q] at h1 h2
   cases h1
   cases h2
   cases jo with
   | none=>trivial
   | some j =>
    show RSl K _ _ _ (nK (slot ρ j)) _
    cases e:slot ρ j with
    | nil=>trivial
    | own ds=>trivial
    | obj q=>trivial
    | val d =>
     obtain ⟨o,ho,v,rfl,hr⟩:=r.at (aW e (by intro z; cases z))
     exact ⟨v,by simp [sub1,ho],hr.mv m⟩
    | pin w d =>
     obtain ⟨o,ho,v,rfl,ew,hr⟩:=r.at (aW e (by intro z; cases z))
     exact ⟨v,by simp [sub1,ho],ew,hr.mv m⟩
 ·simp only [subD,List.getElem?_map] at h1
  cases q:js[i]? with
  | none=>rw [q] at h1; cases h1
  | some jo =>
   rw [q] at h1
   cases jo with
   | none=>cases h1; exact ⟨fun ds z=>(by cases z),fun q z=>(by cases z)⟩
   | some j =>
    cases h1
    exact fS (slot ρ j)
structure PTsD (X:Cx) (ifs:List Expr) (t:DT):Prop where
 mono:∀ ρ P P',(∀ b ρ',P b ρ'->P' b ρ')->t ρ P->t ρ P'
 run:∃ T:TT,PTs X ifs T /\ ∀ {F:Fx} M H σ ρ (Q:Bool->Hp->Prop),RSt X.K F M H σ ρ ->
  (t ρ fun b ρ'=>∀ M' H',Mv X.K F.pp M H M' H'->RSt X.K F M' H' σ ρ'->Q b H')->T σ H Q
abbrev eQ:DT:=fun ρ Q=>Q true ρ
theorem bu:PTsD X [] eQ:=⟨fun _ _ _ f h=>f _ _ h,_,xP,fun {F} M H σ ρ Q rs h=>h M H .refl rs⟩
theorem yf {c:Expr} {t:DT} (h:PTD X c t):PTsD X [c] t:=by
 obtain ⟨T,p,r⟩:=h.run
 exact ⟨h.mono,T,xQ p,r⟩
structure PCD (X:Cx) (e:Expr) (t:DA):Prop where
 mono:∀ ρ P P',(∀ d ρ',P d ρ'->P' d ρ')->t ρ P->t ρ P'
 run:∃ T:TE,PE X e T /\ (∀ (i:Nat) (y:Str) (py spos:Pos),X.N.Nodup->X.N[i]? = some y->X.env.scope.names.lookup y=some .local->swapsWith e (some (.Name y py)) spos.line X.env=pure true->PS X (.Assign [.Name y py] e spos) (tAsg T (sJ i))) /\
  ∀ {F:Fx} M H σ ρ (Q:VK),RSt X.K F M H σ ρ ->
  (t ρ fun ds ρ'=>∀ M' H1 H' l xs,Mv X.K F.pp M H M' H1->RSt X.K F M' H1 σ ρ'->H1 l=none->H'=upd H1 l (.lst xs)->Reps X.K F.pp M' H1 ds xs->Q (.ref l) H')->T σ H Q
theorem PCD.pld {e:Expr} {t:DA} (h:PCD X e t):PLD X e t:=by
 obtain ⟨T,p,_,r⟩:=h.run
 exact ⟨h.mono,T,p,r⟩
theorem im {g:DG} {tc:DT} {te:DE} (hg:∀ d ρ P P',(∀ ρ',P ρ'->P' ρ')->g d ρ P->g d ρ P') (hc:∀ ρ P P',(∀ b ρ',P b ρ'->P' b ρ')->tc ρ P->tc ρ P') (he:∀ ρ P P',(∀ d ρ',P d ρ'->P' d ρ')->te ρ P->te ρ P') {Q Q':List D->Prop} (f:∀ ys,Q ys->Q' ys) :
  ∀ (ds acc:List D) (ρ:DS),ej g tc te ds acc ρ Q->ej g tc te ds acc ρ Q'
 | [],acc,ρ,h=>f _ h
 | d::r,acc,ρ,h=>hg _ _ _ _ (fun ρ1 h=>hc _ _ _ (fun b ρ2 h=>⟨fun e=>he _ _ _ (fun y ρ3 h=>⟨h.1,im hg hc he f r _ _ h.2⟩) (h.yes e),fun e=>im hg hc he f r _ _ (h.no e)⟩) h) h
theorem bo {tg elt iter:Expr} {ifs:List Expr} {scope:Scope} {cl:List (Str×Addr)} {N':List Str} {js:List (Option Nat)} {pos:Pos} {t:DA} {g:DG} {tc:DT} {te:DE}
  (hc:X.calm=true) (hclo:du X.env.cells scope.names []=some cl) (hdis:∀ y∈scope.names,y.2 = .free->(y.1,NameKind.cell)∉scope.names) (hkind:scope.kind = .function) (cap:Cap X scope N' js)
  (hnames:∀ y∈scope.names,y.2 = .local->scope.names.lookup y.1=some .local) (hi:PID X tg iter t)
  (hg:∀ B:Blk,PGD (cxB X scope cl N' B) tg g) (ht:∀ B:Blk,PTsD (cxB X scope cl N' B) ifs tc) (he:∀ B:Blk,PED (cxB X scope cl N' B) elt te)
  (hs:∀ v,foldedSetIterable iter X.env v=pure v:=by intro _; rfl):PCD X (.ListComp elt [⟨tg,iter,ifs,0⟩] scope pos) (Ce t js g tc te):=by
 obtain ⟨wi,pi,ri⟩:=hi.run
 have hb:∀ B:Blk,PG (cxB X scope cl N' B) tg (Classical.choose (hg B).run) /\ PTs (cxB X scope cl N' B) ifs (Classical.choose (ht B).run) /\ PE (cxB X scope cl N' B) elt (Classical.choose (he B).run):=fun B =>
  ⟨(Classical.choose_spec (hg B).run).1,(Classical.choose_spec (ht B).run).1,(Classical.choose_spec (he B).run).1⟩
 let B0:Blk:=⟨0,X.s₀,X.H₀,[],[]⟩
 refine ⟨fun _ _ _ f h=>hi.mono _ _ _ (fun ds ρ1 h=>im (hg B0).mono (ht B0).mono (he B0).mono (fun ys h=>f _ _ h) _ _ _ h) h,_,xS hc hclo hdis hkind cap hnames pi hb hs,fun i y py spos hN hy hl hsw=>xT hN hy hl hc hclo hdis hkind cap hnames pi hb hsw hs,fun {F} M H σ ρ Q rs h=>?_⟩
 refine ri M H σ ρ _ rs (hi.mono _ _ _ (fun ds ρ1 h M1 H1 J m1 rs1 ok=>?_) h)
 intro B Dl hD
 obtain ⟨_,rg⟩:=Classical.choose_spec (hg B).run
 obtain ⟨_,rt⟩:=Classical.choose_spec (ht B).run
 obtain ⟨_,re⟩:=Classical.choose_spec (he B).run
 have fr:=rs1.liv.fresh hD
 have m3:Mv X.K F.pp M1 H1 (Dl::M1) (upd H1 Dl (.lst [])):=.newOwn hD
 refine ⟨fun i m σ' H'=>∃ M' ρ' acc ys,m=ds.length - i /\ i <= ds.length /\ Mv X.K F.pp M1 H1 M' H' /\ SameP X.K F.pp H1 H' /\ RSt X.K ⟨F.pp,M',H'⟩ M' H' σ' (cD ρ') /\ Dl∈M' /\ (∀ a∈M1,a∈M') /\ H' Dl=some (.lst ys) /\ Reps X.K F.pp M' H' acc ys /\
  ej g tc te (ds.drop i) acc (cD ρ') fun ys=>∀ M' H1 H' l xs,Mv X.K F.pp M H M' H1->RSt X.K F M' H1 σ ρ1->H1 l=none->H'=upd H1 l (.lst xs)->Reps X.K F.pp M' H1 ys xs->Q (.ref l) H',
  ⟨ds.length,Dl::M1,subD js ρ1,[],[],rfl,Nat.zero_le _,m3,.new hD,by rw [ll]; exact rs1.block js hD,List.mem_cons_self,fun a ha=>List.mem_cons_of_mem _ ha,ak,.nil,by rw [ll]; exact h⟩,?_⟩
 rintro i m σ' H' ⟨M',ρ',acc,ys,rfl,hil,mv,sm,rs',hDm,hsub,hDl,ra,hcoll⟩
 by_cases hlt:i < ds.length
 ·have e1:ds[i]? = some ds[i]:=by simp [hlt]
  rw [List.drop_eq_getElem_cons hlt] at hcoll
  refine .inr ⟨ok.go M' H' mv i hlt,fun σ2 H2=>∃ M2 ρ2 acc ys,Mv X.K F.pp M1 H1 M2 H2 /\ SameP X.K F.pp H1 H2 /\ RSt X.K ⟨F.pp,M2,H2⟩ M2 H2 σ2 (cD ρ2) /\ Dl∈M2 /\ (∀ a∈M1,a∈M2) /\ H2 Dl=some (.lst ys) /\ Reps X.K F.pp M2 H2 acc ys /\
   ej g tc te (ds.drop (i + 1)) acc (cD ρ2) fun ys=>∀ M' H1 H' l xs,Mv X.K F.pp M H M' H1->RSt X.K F M' H1 σ ρ1->H1 l=none->H'=upd H1 l (.lst xs)->Reps X.K F.pp M' H1 ys xs->Q (.ref l) H',
   fun σ2 H2 ⟨M2,ρ2,acc,ys,a1,a2,a3,a4,a5,a6,a7,a8⟩=>⟨ds.length - (i + 1),by omega,M2,ρ2,acc,ys,rfl,hlt,a1,a2,a3,a4,a5,a6,a7,a8⟩,fun y H2 yl=>?_⟩
  obtain ⟨sp,rx⟩:=ok.yld M' H' mv i _ y H2 e1 yl
  have rs'':RSt X.K ⟨F.pp,M',H2⟩ M' H2 σ' (cD ρ'):=by
   have:=(rs'.sameP sp).rebase
   rw [pA] at this
   exact this
  have mv2:=mv.trans (sp.mv (M:=M'))
  have sm2:=sm.trans sp
  have ra2:=ra.mv (sp.mv (M:=M'))
  have hDl2:H2 Dl=some (.lst ys):=sp.keep Dl _ hDl (nw fr.2)
  refine rg M' H2 σ' (cD ρ') _ _ _ rs'' rx ((hg B).mono _ _ _ _ (fun ρ3 h3 M3 H3 σ3 m3 rs3=>?_) hcoll)
  refine rt M3 H3 σ3 ρ3 _ rs3 ((ht B).mono _ _ _ (fun b ρ4 h4 M4 H4 m4 rs4=>?_) h3)
  -- what stands behind a step within this turn
  have keep:∀ {M5:List Addr} {H5:Hp} {σ5:St} {ρ5:DS},Mv X.K F.pp M' H2 M5 H5->RSt X.K ⟨F.pp,M',H2⟩ M5 H5 σ5 ρ5->Mv X.K F.pp M1 H1 M5 H5 /\ SameP X.K F.pp H1 H5 /\ RSt X.K ⟨F.pp,M5,H5⟩ M5 H5 σ5 (cD ρ5) /\ Dl∈M5 /\ (∀ a∈M1,a∈M5) /\ H5 Dl=some (.lst ys) /\ Reps X.K F.pp M5 H5 acc ys:=fun mm rr =>
   ⟨mv2.trans mm,sm2.trans rr.sameT,rr.rebase,rr.sub _ hDm,fun a ha=>rr.sub _ (hsub a ha),rr.same.keep Dl _ hDl2 (nw fr.2),ra2.mv mm⟩
  cases b with
  | false =>
   refine iteF ?_
   obtain ⟨a1,a2,a3,a4,a5,a6,a7⟩:=keep (m3.trans m4) rs4
   exact ⟨M4,ρ4,acc,ys,a1,a2,a3,a4,a5,a6,a7,h4.no rfl⟩
  | true =>
   refine iteT (re M4 H4 σ3 ρ4 _ rs4 ((he B).mono _ _ _ (fun y ρ5 h5 M5 H5 v m5 rs5 r5=>?_) (h4.yes rfl)))
   obtain ⟨a1,a2,a3,a4,a5,a6,a7⟩:=keep ((m3.trans m4).trans m5) rs5
   have mw:Mv X.K F.pp M5 H5 M5 (upd H5 Dl (.lst (ys++[v]))):=.write a6 a4 fr.2
   refine ⟨ys,a6,by rw [← a7.length]; exact h5.1,M5,ρ5,acc++[y],ys++[v],a1.trans mw,?_,a3.writeFree a4 fr.2 a6,a4,a5,ak,(a7.append (.one r5)).mv mw,h5.2⟩
   refine ⟨⟨fun b o e n=>?_,fun p e hp=>mw.pen p e (a2.pen p e hp),fun b hb=>?_⟩,fun tb=>mw.tb (a2.tb tb)⟩
   ·rw [aj (by rintro rfl; rw [hD] at e; cases e)]
    exact a2.keep b o e n
   ·by_cases z:b=Dl
    ·subst z; rw [ak]; intro z; cases z
    ·rw [aj z]; exact a2.live b hb
 ·have e:i=ds.length:=by omega
  refine .inl ⟨ok.stop M' H' mv i (by omega),?_⟩
  have hd:ds.drop i=[]:=by rw [List.drop_eq_nil_iff]; omega
  rw [hd] at hcoll
  have sd:SameP X.K F.pp H1 (delH H' Dl):=by
   refine ⟨⟨fun b o e n=>?_,fun p e hp=>?_,fun b hb=>?_⟩,fun tb=>(sm.tb tb).del hDl lZ⟩
   ·rw [dI (by rintro rfl; rw [hD] at e; cases e)]
    exact sm.keep b o e n
   ·obtain ⟨a,ns,t,l,pn⟩:=sm.pen p e hp
    have np:p≠Dl:=by rintro rfl; exact fr.2 e
    refine ⟨a,ns,t,l,by rw [dI np]; exact pn.lst,?_,pn.t0⟩
    rcases pn.scr with ⟨o,q⟩ | q
    ·exact .inl ⟨o,by rw [dI (kL q hDl (by intro z; cases z))]; exact q⟩
    ·exact .inr q
   ·rw [dI (by rintro rfl; exact hb hD)]
    exact sm.live b hb
  have md:Mv X.K F.pp M' H' M1 (delH H' Dl):=by
   refine ⟨fun a xs q=>by rw [dI (kL q hDl (by intro z; cases z))]; exact q,fun a o q n p=>⟨by rw [dI (by rintro rfl; exact n hDm)]; exact q,fun z=>n (hsub a z)⟩,fun p e hp=>?_,fun tb=>tb.del hDl lZ⟩
   obtain ⟨a,ns,t,l,pn⟩:=hp
   have np:p≠Dl:=by rintro rfl; exact fr.2 e
   refine ⟨a,ns,t,l,by rw [dI np]; exact pn.lst,?_,pn.t0⟩
   rcases pn.scr with ⟨o,q⟩ | q
   ·exact .inl ⟨o,by rw [dI (kL q hDl (by intro z; cases z))]; exact q⟩
   ·exact .inr q
  exact hcoll M1 (delH H' Dl) H' Dl ys (m1.trans sd.mv) (rs1.sameP sd) uc (vO hDl).symm (ra.mv md)
theorem pB {e:Expr} {t:DA} {i:Nat} {y:Str} {py pos:Pos} (hN:X.N.Nodup) (hy:X.N[i]? = some y) (hl:X.env.scope.names.lookup y=some .local) (h:PCD X e t) (hsw:swapsWith e (some (.Name y py)) pos.line X.env=pure true:=by rfl):PSD X (.Assign [.Name y py] e pos) (dSet i (dFrz t)):=by
 obtain ⟨T,_,p,r⟩:=h.run
 refine ⟨_,p i y py pos hN hy hl hsw,fun {F} M H σ ρ E D rs o q=>r M H σ ρ _ rs (h.mono _ _ _ (fun ds ρ1 q M1 H1 H' l xs m1 rs1 hl e r1=>?_) q)⟩
 subst e
 refine o.nx M1 _ _ _ (m1.trans (.new hl)) ((rs1.sameP (.new hl)).set ?_ i) q
 simp only [Rep]
 exact ⟨l,xs,rfl,(rs1.liv.fresh hl).1,(rs1.liv.fresh hl).2,ak,r1.mv (.new hl)⟩
end
end DL
namespace L2
open PySem PySem.Spec PyProof.Rows
section
variable {X:Cx} {tg:Expr}
theorem vP (hc:X.calm=true):fA X (.builtin "sum") (fun xs H Q=>∃ (p:Addr) (ns:List Int),xs=[.ref p] /\ SqL X.K H p (ns.map V.int) /\ Q (.int ns.sum) H):=by
 intro pins s σ H xs us Q I r h
 obtain ⟨p,ns,rfl,hl,q⟩:=h
 obtain ⟨u,rfl,e⟩:=rJ r
 cases e
 obtain ⟨its,rv,pl,_⟩:=I.list hl
 have hi:IntsAre its ns:=rM rv
 obtain ⟨ps,e⟩:=hi.allInts.items
 have il:=pl.isList
 rw [e] at il
 refine sum_intListG (I.ok.hd hc) il fun h' tk t' hk=>⟨.int ns.sum,H,I.kept hk,⟨t',?_⟩,q⟩
 have e2:numsOf its=ns:=hi.numsOf
 have e3:=nums_intItems ps
 rw [← e] at e3
 have e4:ps.toList.map (·.1)=ns:=by rw [← e3,← e2]
 rw [preSum_eq,List.take_of_length_le (by simp),e4]
def iSeq (K:PySem.W.Frag) (tl:TE):TI:=fun σ H R=>tl σ H fun x H1=>(∃ a,x = .ref a /\ (∃ xs,SqL K H1 a xs) /\ R (Itl K a) H1)∨(∃ a,x = .ref a /\ (∃ xs,SqT K H1 a xs) /\ R (Itt K a) H1)
theorem Ar {l:Expr} {tl:TE} (hl:PE X l tl):PI X tg l (iSeq X.K tl):=by
 intro pins s σ H R I h
 refine thn (hl pins s σ H _ I h) fun v s1 ⟨x,H1,I1,r1,q1⟩=>?_
 rcases q1 with ⟨a,rfl,⟨xs,hq⟩,q⟩ | ⟨a,rfl,⟨xs,hq⟩,q⟩
 ·cases r1
  obtain ⟨its,rv,p,hz⟩:=I1.list hq
  refine wpAny_pyIter_list p.isList ⟨s1.heap.objs.size,[s1.heap.objs.size],_,_,H1,rfl,I1.kept (t':=s1.toks) (fun b o e=>Heap.get?_push_of_some _ e),mZ a _,⟨_,Heap.get?_push_size _ rfl,rfl,rfl⟩,fun b hb=>?_,q⟩
  rw [show b=s1.heap.objs.size by simpa using hb]
  exact I1.fpOk (Nat.le_refl _) (I1.hok.fresh (Nat.le_refl _))
 ·cases r1
  obtain ⟨its,rv,p,hz⟩:=I1.tuple hq
  refine wpAny_pyIter_tuple (show s1.heap.IsTuple a its.toArray from p) ⟨s1.heap.objs.size,[s1.heap.objs.size],_,_,H1,rfl,I1.kept (t':=s1.toks) (fun b o e=>Heap.get?_push_of_some _ e),kX a _,⟨_,Heap.get?_push_size _ rfl,rfl,rfl⟩,fun b hb=>?_,q⟩
  rw [show b=s1.heap.objs.size by simpa using hb]
  exact I1.fpOk (Nat.le_refl _) (I1.hok.fresh (Nat.le_refl _))
end
end L2
namespace DL
open PySem PySem.Spec L2
open PyProof.Rows hiding St
variable [TB]
variable [Frm]
section
variable {X:Cx}
def jT:List D->Option (List Int)
 | []=>some []
 | .int i::r=>(jT r).map (i :: ·)
 | _=>none
theorem lq:∀ ns:List Int,jT (ns.map D.int)=some ns
 | []=>rfl
 | n::r=>by simp [jT,lq r]
theorem nL:∀ {ds:List D} {ns:List Int},jT ds=some ns->ds=ns.map D.int
 | [],ns,h=>by cases h; rfl
 | .int i::r,ns,h=>by
  simp only [jT,Option.map_eq_some_iff] at h
  obtain ⟨ms,h,rfl⟩:=h
  rw [nL h]; rfl
theorem nM {K:PySem.W.Frag} {pp:Option Addr} {M:List Addr} {H:Hp}:∀ {ns:List Int} {xs:List V},Reps K pp M H (ns.map D.int) xs->xs=ns.map V.int
 | [],xs,h=>by simpa only [List.map_nil,Reps] using h
 | n::r,xs,h=>by
  simp only [List.map_cons,Reps,Rep] at h
  obtain ⟨x,t,rfl,rfl,h⟩:=h
  rw [nM h]; rfl
def gSum:DSp:=fun ds P=>match ds with
 | [.lst xs]=>match jT xs with
  | some ns=>P (.int ns.sum)
  | none=>False
 | _=>False
theorem pC {ns:List Int} {P:D->Prop} (h:P (.int ns.sum)):gSum [.lst (ns.map D.int)] P:=by
 unfold gSum
 simp only [lq]
 exact h
theorem qx {ds:List D} {P:D->Prop} (h:gSum ds P):∃ ns:List Int,ds=[.lst (ns.map D.int)] /\ P (.int ns.sum):=by
 unfold gSum at h
 split at h
 ·rename_i xs
  cases e:jT xs with
  | none=>rw [e] at h; exact h.elim
  | some ns =>
   rw [e] at h
   exact ⟨ns,by rw [nL e],h⟩
 ·exact h.elim
theorem wK (hc:X.calm=true:=by rfl):CallD X (.builtin "sum") gSum:=by
 refine ⟨fun ds P P' f h=>?_,_,vP hc,fun {pp} M H ds vs Q _ r h=>?_⟩
 ·obtain ⟨ns,rfl,h2⟩:=qx h
  exact pC (f _ h2)
 ·obtain ⟨ns,rfl,h2⟩:=qx h
  simp only [Reps,Rep] at r
  obtain ⟨x,_,rfl,⟨a,ys,rfl,_,_,ha,ry⟩,rfl⟩:=r
  refine ⟨a,ns,rfl,SqL.of (by rw [ha,nM ry]),h2 H _ .refl cX⟩
abbrev Cf (te:DE):DA:=fun ρ Q=>te ρ fun d ρ'=>match d with
 | .lst ds=>Q ds ρ'
 | .tup ds=>Q ds ρ'
 | _=>False
theorem lr {tg l:Expr} {te:DE} (hl:PED X l te):PID X tg l (Cf te):=by
 obtain ⟨T,p,r⟩:=hl.run
 refine ⟨fun _ _ _ f h=>hl.mono _ _ _ (fun d _ h=>?_) h,_,Ar p,fun {F} M H σ ρ R rs h=>r M H σ ρ _ rs (hl.mono _ _ _ (fun d ρ' h M' H' v m rs' rd=>?_) h)⟩
 ·cases d <;> first | exact h.elim | exact f _ _ h
 ·cases d <;> first | exact h.elim | skip
  all_goals simp only [Rep] at rd
  case tup ds =>
   obtain ⟨a,xs,rfl,ha,rd⟩:=rd
   refine .inr ⟨a,rfl,⟨xs,SqT.of ha⟩,h M' H' _ m rs' (ItOkV.of (vs:=xs) ⟨fun M2 H2 m2 i x H3 _ y=>?_,fun M2 H2 m2 i hi=>?_,fun M2 H2 m2 i hi=>?_⟩ rd)⟩
   ·exact ⟨y.1,y.2 xs (SqT.of (m2.tup a xs ha))⟩
   ·exact ⟨xs,xs[i],SqT.of (m2.tup a xs ha),by simp [hi]⟩
   ·exact ⟨xs,SqT.of (m2.tup a xs ha),hi⟩
  case lst ds =>
   obtain ⟨a,xs,rfl,hm,hp,ha,rd⟩:=rd
   refine .inl ⟨a,rfl,⟨xs,SqL.of ha⟩,h M' H' _ m rs' (ItOkV.of (vs:=xs) ⟨fun M2 H2 m2 i x H3 _ y=>?_,fun M2 H2 m2 i hi=>?_,fun M2 H2 m2 i hi=>?_⟩ rd)⟩
   ·exact ⟨y.1,y.2 xs (SqL.of (m2.lst a xs ha hm hp).1)⟩
   ·exact ⟨xs,xs[i],SqL.of (m2.lst a xs ha hm hp).1,by simp [hi]⟩
   ·exact ⟨xs,SqL.of (m2.lst a xs ha hm hp).1,hi⟩
end
theorem bz {g:DG} {tc:DT} {te:DE} {ds:List D} {Q:List D->Prop} (N:List D->List D->DS->Prop) (hn:∀ acc ρ,N ds acc ρ->Q acc)
  (hs:∀ (pre:List D) (d:D) (post acc:List D) (ρ:DS) (Y:List D->DS->Prop),ds=pre++d::post->N pre acc ρ->(∀ acc' ρ',N (pre++[d]) acc' (cD ρ')->Y acc' ρ') ->
   g d ρ fun ρ1=>tc ρ1 fun b ρ2=>Br b (te ρ2 fun y ρ3=>acc.length < sizeLine /\ Y (acc++[y]) ρ3) (Y acc ρ2)) (ρ:DS) (h:N [] [] ρ):ej g tc te ds [] ρ Q:=by
 have key:∀ (post pre acc:List D),ds=pre++post->∀ ρ,N pre acc ρ->ej g tc te post acc ρ Q:=by
  intro post
  induction post with
  | nil=>intro pre acc e ρ h; rw [List.append_nil] at e; subst e; exact hn acc ρ h
  | cons d r ih=>intro pre acc e ρ h; exact hs pre d r acc ρ (fun acc' ρ'=>ej g tc te r acc' (cD ρ') Q) e h (fun acc' ρ' h'=>ih (pre++[d]) acc' (by rw [e,List.append_assoc]; rfl) _ h')
 exact key ds [] [] rfl ρ h
theorem cE {g:DG} {te:DE} {ds:List D} {Q:List D->Prop} (f:D->D) (N:DS->Prop) (hl:ds.length <= sizeLine)
  (hs:∀ d∈ds,∀ (ρ:DS) (Y:D->DS->Prop) (Z:DS->Prop),N ρ->(∀ ρ',N (cD ρ')->Y (f d) ρ')->g d ρ fun ρ1=>eQ ρ1 fun b ρ2=>Br b (te ρ2 Y) (Z ρ2)) (ρ:DS) (h:N ρ) (hq:Q (ds.map f)):ej g eQ te ds [] ρ Q:=by
 refine bz (fun pre acc ρ=>acc=pre.map f /\ N ρ) (fun acc ρ h=>by rw [h.1]; exact hq) (fun pre d post acc ρ Y e hN hY=>?_) ρ ⟨rfl,h⟩
 obtain ⟨rfl,hN⟩:=hN
 have hlt:(pre.map f).length < sizeLine:=by
  rw [List.length_map]
  have:ds.length=pre.length + (post.length + 1):=by rw [e]; simp
  omega
 refine hs d (by rw [e]; simp) ρ (fun y ρ3=>(pre.map f).length < sizeLine /\ Y (pre.map f++[y]) ρ3) (fun ρ2=>Y (pre.map f) ρ2) hN fun ρ' h'=>⟨hlt,hY _ ρ' ⟨by simp,h'⟩⟩
end DL
namespace DL
open PySem PySem.Spec L2
open PyProof.Rows hiding St
variable [TB]
variable [Frm]
structure Shp (n:Nat) (d:D):Prop where
 p:pln d=true
 c:(toPy d).canLay0=true
 d:(toPy d).depth <= n
theorem Shp.shp {n:Nat} {d:D} (h:Shp n d) (l:n <= 64:=by decide):shp d=true:=by
 unfold DL.shp SeqAt.shaped
 rw [h.p,h.c,decide_eq_true (Nat.le_trans h.d l)]; rfl
theorem Shp.int {i:Int} {n:Nat}:Shp n (.int i):=⟨rfl,rfl,Nat.zero_le _⟩
theorem pD {n:Nat}:∀ {ds:List D},(∀ d∈ds,Shp n d)->plns ds=true /\ PyData.canLayAll0 (mf ds)=true /\ PyData.depthAll (mf ds) <= n
 | [],_=>⟨rfl,rfl,Nat.zero_le _⟩
 | d::ds,h=>by
  obtain ⟨a,b,c⟩:=pD (ds:=ds) fun x hx=>h x (List.mem_cons_of_mem _ hx)
  have q:=h d List.mem_cons_self
  refine ⟨by simp only [plns,q.p,a,Bool.and_self],by simp only [mf,PyData.canLayAll0,q.c,b,Bool.and_self],?_⟩
  simp only [mf,PyData.depthAll]
  exact Nat.max_le.mpr ⟨q.d,c⟩
theorem Shp.tup {n:Nat} {ds:List D} (h:∀ d∈ds,Shp n d):Shp (n + 1) (.tup ds):=by
 obtain ⟨a,b,c⟩:=pD h
 exact ⟨by simp only [pln,a],by simp only [toPy,PyData.canLay0,b],by simp only [toPy,PyData.depth]; omega⟩
theorem Shp.lst {n:Nat} {ds:List D} (h:∀ d∈ds,Shp n d):Shp (n + 1) (.lst ds):=by
 obtain ⟨a,b,c⟩:=pD h
 exact ⟨by simp only [pln,a],by simp only [toPy,PyData.canLay0,b],by simp only [toPy,PyData.depth]; omega⟩
theorem qy {d:D} (h:shp d=true):eqD d d=true:=by
 unfold shp at h
 rw [Bool.and_eq_true] at h
 exact SeqAt.eqv_refl _ (SeqAt.canLay_of_shaped h.2)
end DL
namespace DL
open PySem PySem.Spec L2
open PyProof.Rows hiding St
variable [TB]
def WL [Frm] (K:PySem.W.Frag):St->XK:=fun σ C od H=>∃ F M ρ Ca,(C = .ref Ca /\ od=none) /\ RSt K F M H σ ρ /\ Frm.W ρ Ca
def Xk [Frm] (X:Cx):Prop:=∀ e s',XF X (WL X.K) e s'->X.xe e s'
theorem yg {X:Cx} : @Xk _ Frm.free X:=fun _ _ ⟨_,_,_,_,_,_,_,_,_,_,_,_,_,_,_,_,w⟩=>w.elim
theorem ud {X:Cx} {E:Value->Shared->Prop} {W:St->XK} {e:Value} {s':Shared} (h:XF (X.wish E) W e s'):XF X W e s' :=
 let ⟨ea,C,dd,B,σ,H,a,b,c,d,f⟩:=h
 ⟨ea,C,dd,B,σ,H,a,b,⟨c.old,c.trk,c.pin⟩,d.unwish,f⟩
theorem ue [Frm] {X:Cx}:Xk (X.wish (XF X (WL X.K))):=fun _ _ h=>ud h
abbrev DSpE:=List D->(D->Prop)->(Addr->Prop)->Prop
def spDE (K:PySem.W.Frag) (n:Nat) (g:DSpE):Sp:=fun vs H Q E=>∃ pp M ds,Lv pp M H /\ Reps K pp M H ds vs /\ ds.length=n /\ g ds (fun d=>∀ H' v,SameP K pp H H'->Rep K pp M H' d v->Q v H') (fun C=>∀ H',SameP K pp H H'->E (.ref C) none H')
def At (g:DSpE):Prop:=∀ ds P P' W W',(∀ d,P d->P' d)->(∀ C,W C->W' C)->g ds P W->g ds P' W'
abbrev Au (n:Nat) (g:DSpE) (W:DS->Addr->Prop) (t:DA):DE:=fun ρ Q=>t ρ fun ds ρ1=>ds.length=n /\ g ds (fun d=>Q d ρ1) (W ρ1)
abbrev Av (C:Addr) (W:DS->Addr->Prop) (t:DA):DTS:=fun _ ρ=>t ρ fun ds ρ1=>ds.length <= 1000 /\ W ρ1 C
section
variable [Frm] {X:Cx} {x:Str} {p pos np cpos:Pos} {e:Expr} {es:List Expr} {t:DA} {g:DSpE} {W:DS->Addr->Prop}
theorem vQ {k n:Nat} {f:Addr} {fd:FuncData} {ps:List Str} (Fn:FnOk X.prog X.w X.K X.mg X.base (CXE X.prog X.w) k f fd ps (spDE X.K n g)) (gm:At g) (hx:Xk X) (hW:W=Frm.W) (hr:Room k X.A) (hg:Gl X x) (hm:X.mg x=some (.ref f)) (hk:PySem.W.keepIn X.K (.ref f)=true) (hb:Binds X.K fd ps [])
  (ha:PAD X (e::es) t) (hdb:(x == ("__debug__" : Str))=false:=by decide) (he:starEach (e::es) X.env=(false,eval e X.env)::starEach es X.env:=by rfl) (hpl:(backTo pos (starEach es X.env)).any (·.1)=false:=by rfl) :
  PED X (.Call (.Name x p) (e::es) [] pos) (Au n g W t):=by
 subst hW
 obtain ⟨T,pa,ra⟩:=ha.run
 refine ⟨fun _ _ _ f q=>ha.mono _ _ _ (fun _ _ q=>⟨q.1,gm _ _ _ _ _ (fun _ q=>f _ _ q) (fun _ q=>q) q.2⟩) q,zY (spDE X.K n g) [] (WL X.K) T,fun pins s σ H Q I h=>?_,fun {F} M H σ ρ Q rs q=>?_⟩
 ·refine wpAny_Call_Name_kw (jA I hg hm ?_ hdb)
  refine PySem.W.callWith_K (h₀:=X.base) I.ok.mod.kin hk (thn (pa pos pins s σ H _ I h) fun us s1 ⟨vs,H1,I1,r,q⟩=>⟨I1.kIn,?_⟩) he hpl
  exact xX Fn hr hb .nil hx I1 r q
 ·refine ra M H σ ρ _ rs (ha.mono _ _ _ (fun ds ρ1 q M1 H1 vs m1 rs1 r1=>?_) q)
  rw [List.append_nil]
  exact ⟨F.pp,M1,ds,rs1.liv,r1,q.1,gm _ _ _ _ _ (fun d q H' w s r=>q M1 H' w (m1.trans s.mv) (rs1.sameP s) r) (fun C w H' s=>⟨F,M1,ρ1,C,⟨rfl,rfl⟩,rs1.sameP s,w⟩) q.2⟩
theorem vR {C:Addr} (c:Exc X.K C) (hc:X.calm=true) (hg:Gl X x) (hm:X.mg x=some (.ref C)) (hx:Xk X) (hW:W=Frm.W) (ha:PAD X (e::es) t)
  (he:starEach (e::es) X.env=(false,eval e X.env)::starEach es X.env:=by rfl) (hplain:(backTo cpos (starEach es X.env)).any (·.1)=false:=by rfl)
  (hd:(x == ("__debug__" : Str))=false:=by decide):PSD X (.Raise (some (.Call (.Name x np) (e::es) [] cpos)) none pos) (Av C W t):=by
 subst hW
 obtain ⟨T,pa,ra⟩:=ha.run
 refine ⟨_,vK c hc hg hm hx pa he hplain hd,fun {F} M H σ ρ E D rs o q=>?_⟩
 refine ra M H σ ρ _ rs (ha.mono _ _ _ (fun ds ρ1 q M1 H1 vs m1 rs1 r1=>?_) q)
 refine ⟨?_,F,M1,ρ1,C,⟨rfl,rfl⟩,rs1,q.2⟩
 rw [← r1.length]
 exact Nat.le_trans q.1 (by decide)
end
theorem fnDE {P:Program} {w:World} {K:PySem.W.Frag} {mg:Str->Option Value} {base:Heap} {x qual:Str} {st:Stmt} {f:Addr} {fd:FuncData} {N ps:List Str} {k:Nat} {g:DSpE} {t:(DS->Addr->Prop)->DTS} (Fn:Fun K x qual st f fd) (S:FnScope N ps (ag st))
  (hb:∀ (fr:Frm) (W:DS->Addr->Prop) (hW:W=fr.W) (cdv:Value) (A:Around) (outer:List Env) (s:Shared) (H:Hp) (E:XK),Room k (A.deeper (envOfC qual (ag st) s.heap.objs.size f cdv)) ->
   PSsD ((cxOf (CXE P w) P w K mg base N qual (ag st) f cdv A outer s H E).wish (XF (cxOf (CXE P w) P w K mg base N qual (ag st) f cdv A outer s H E) (WL K))) (aF st) (t W))
  (hg:∀ ds Q W,ds.length=ps.length->g ds Q W->t (fun _ C=>W C) { nx:=fun _=>Q .non,rt:=Q } (lh N.length ds)):FnOk P w K mg base (CXE P w) (k + 1) f fd ps (spDE K ps.length g):=by
 obtain ⟨oc,od,kV,doc,pm,an,cdv,ct,osl,rfl,lk,hcd⟩:=Fn.ex
 refine zC lk hcd S (fun vs H Q E h=>?_) fun A outer s H vs Q E hr h=>?_
 ·obtain ⟨pp,M,ds,_,r,e,_⟩:=h
  rw [← r.length,e]
 ·obtain ⟨pp,M,ds,lv,r,e,h⟩:=h
  let fr:Frm:=⟨fun _ F _ _=>F=⟨pp,M,H⟩,fun _ C=>∀ H',SameP K pp H H'->E (.ref C) none H',fun _ _ _ _ _ _ h _=>h⟩
  obtain ⟨T,p,run⟩:=hb fr _ rfl cdv A outer s H E hr
  refine ⟨T,fun pins s1 σ1 H1 D I q=>wpAny_mono (p pins s1 σ1 H1 D (I.wish _) q) (fun _ _ q=>q.unwish) fun e s' z=>vI (z.mono fun σ' C dd H' ⟨F,M',ρ,Ca,⟨e1,e0⟩,rs,w⟩=>?_),run M H _ _ _ _ (jQ lv r rfl) ⟨fun M' H' σ' ρ' m rs q=>?_,fun _ _ _ _ _ _ q=>q,fun _ _ _ _ _ _ q=>q,fun M' H' σ' ρ' d v m rs rd q=>?_⟩ (hg ds _ _ e h)⟩
  ·subst e1 e0
   have e2:F=⟨pp,M,H⟩:=rs.lk.l
   subst e2
   exact w H' rs.sameT
  ·exact q H' .non rs.sameT (by simp only [Rep])
  ·exact q H' v rs.sameT (rd.mv (.less rs.sub))
section
variable [fr0:Frm] {X:Cx} {body suite:List Stmt} {b0:Stmt} {n x:Str} {np hpos pos:Pos} {C0:Addr} {i:Nat} {tb:(DS->Addr->Prop)->DTS} {th:DTS} {K:PySem.W.Frag}
theorem RSt.setNil {K:PySem.W.Frag} {F:Fx} {M:List Addr} {H:Hp} {σ:St} {ρ:DS} {o:Option V} (r:RSt K F M H σ ρ) (i:Nat):RSt K F M H (σ.set i o) (ρ.set i .nil):=by
 refine ⟨by simp [r.len],fun j s o h1 h2=>?_,r.ow.drop i (fun j e=>List.getElem?_set_ne (Ne.symm e)) (fun j e=>List.getElem?_set_ne (Ne.symm e)) (fun s e=>?_),r.sub,r.same,r.old,r.liv0,r.lk⟩
 ·by_cases e:i=j
  ·subst e
   rw [aP h1]
   trivial
  ·rw [List.getElem?_set_ne e] at h1 h2
   exact r.sl j s o h1 h2
 ·rw [aP e]
  exact ⟨fun ds z=>(by cases z),fun q z=>(by cases z)⟩
theorem wL {fr1 fr2:Frm} {K:PySem.W.Frag} {F:Fx} {M:List Addr} {H:Hp} {σ:St} {ρ:DS} (r : @RSt _ fr1 K F M H σ ρ) (l:fr2.L K F M H) : @RSt _ fr2 K F M H σ ρ:=by
 obtain ⟨a,b,c,d,e,f,g,lt⟩:=r
 exact @RSt.mk _ fr2 K F M H σ ρ a b c d e f g (@Lk.mk _ fr2 K F M H l (@Lk.t _ fr1 K F M H lt))
theorem pE {fr1:Frm} {K:PySem.W.Frag} {F:Fx} {M:List Addr} {H:Hp} {σ:St} {ρ:DS} (r : @RSt _ fr1 K F M H σ ρ):fr1.L K F M H:=by
 obtain ⟨_,_,_,_,_,_,_,l⟩:=r
 exact @Lk.l _ fr1 K F M H l
theorem Cg {fr1 fr2:Frm} {K:PySem.W.Frag} {F:Fx} {M:List Addr} {H:Hp} {E:DEnds} {D:Ends} (o : @EO _ fr1 K F M H E D) (h:∀ M' H' σ' ρ',@RSt _ fr2 K F M' H' σ' ρ' -> @RSt _ fr1 K F M' H' σ' ρ') : @EO _ fr2 K F M H E D:=by
 obtain ⟨nx,bk,ct,rt⟩:=o
 exact @EO.mk _ fr2 K F M H E D (fun _ _ _ _ m r q=>nx _ _ _ _ m (h _ _ _ _ r) q) (fun _ _ _ _ m r q=>bk _ _ _ _ m (h _ _ _ _ r) q) (fun _ _ _ _ m r q=>ct _ _ _ _ m (h _ _ _ _ r) q) (fun _ _ _ _ _ _ m r d q=>rt _ _ _ _ _ _ m (h _ _ _ _ r) d q)
@[reducible] def yh (F:Fx) (M:List Addr) (H:Hp) (W:DS->Addr->Prop):Frm :=
 ⟨fun K' F' M' H'=>F'=F /\ Mv K' F.pp M H M' H',W,fun K' F' M1 H1 M2 H2 h m=>⟨h.1,h.2.trans (by rw [h.1] at m; exact m)⟩⟩
abbrev yi (i:Nat) (E:DEnds):DEnds:={ nx:=fun ρ=>E.nx (ρ.set i .nil),rt:=E.rt,bk:=fun ρ=>E.bk (ρ.set i .nil),ct:=fun ρ=>E.ct (ρ.set i .nil) }
abbrev dTry (K:PySem.W.Frag) (C0:Addr) (i:Nat) (tb:(DS->Addr->Prop)->DTS) (th:DTS) (Wo:DS->Addr->Prop):DTS:=fun E ρ =>
 tb (fun ρ1 C=>(PySem.W.exmOne K (.ref C) (.ref C0)=some true /\ th (yi i E) (ρ1.set i (.val (.exc C))))∨(PySem.W.exmOne K (.ref C) (.ref C0)=some false /\ Wo ρ1 C)) E ρ
theorem Aw (hK:K=X.K) (hs:X.stack=X.env::X.outer) (hf:X.env.frame=some X.env.locals) (hex:X.ex=[]) (hN:X.N.Nodup) (hi:X.N[i]? = some n) (hl:X.env.kindOf n=some .local) (hg:Gl X x) (hm:X.mg x=some (.ref C0)) (hx:Xk X)
  (hb:∀ (fr:Frm) (W:DS->Addr->Prop) (hW:W=fr.W) pn,@PSsD _ fr ((X.pinned pn).wish (XF (X.pinned pn) (@WL _ fr X.K))) body (tb W)) (hh:∀ ea,PSsD (X.caught ea) (b0::suite) th) (hdb:(x == ("__debug__" : Str))=false:=by decide) :
  PSD X (.Try body [.ExceptHandler (some (.Name x np)) (some n) (b0::suite) hpos] [] [] pos) (dTry K C0 i tb th Frm.W):=by
 subst hK
 refine ⟨_,Aa hs hf hex hN hi hl hg hm hx hdb,fun {F} M H σ ρ E D rs o q=>?_⟩
 have back:∀ {Wd M' H' σ' ρ'},@RSt _ (yh F M H Wd) X.K F M' H' σ' ρ'->Mv X.K F.pp M H M' H' /\ @RSt _ fr0 X.K F M' H' σ' ρ':=fun {Wd M' H' σ' ρ'} r=>⟨(pE r).2,wL r (rs.lk.cl (pE r).2).l⟩
 refine ⟨@WL _ (yh F M H fun ρ1 C=>(PySem.W.exmOne X.K (.ref C) (.ref C0)=some true /\ th (yi i E) (ρ1.set i (.val (.exc C))))∨(PySem.W.exmOne X.K (.ref C) (.ref C0)=some false /\ fr0.W ρ1 C)) X.K,fun pn=>?_,fun σ' C dd H' hw=>?_⟩
 ·obtain ⟨T,p,run⟩:=hb (yh F M H _) _ rfl pn
  exact ⟨T,p,run M H σ ρ E D (wL rs ⟨rfl,.refl⟩) (Cg o fun M' H' σ' ρ' r=>(back r).2) q⟩
 ·obtain ⟨F',M',ρ',Ca,⟨rfl,rfl⟩,r,w⟩:=hw
  have e:F'=F:=(pE r).1
  subst e
  obtain ⟨m,r⟩:=back r
  rcases w with ⟨ex,w⟩ | ⟨ex,w⟩
  ·refine .inl ⟨ex,fun ea Ca' e hn=>?_⟩
   cases e
   obtain ⟨T,p,run⟩:=hh ea
   have m2:Mv X.K F'.pp M H M' (upd H' ea (excO Ca ea)):=m.trans (.new hn)
   have r2:RSt X.K F' M' (upd H' ea (excO Ca ea)) (σ'.set i (some (.ref ea))) (ρ'.set i (.val (.exc Ca))) :=
    (r.sameP (.new hn)).set (by simp only [Rep]; exact ⟨ea,rfl,(r.liv.fresh hn).1,(r.liv.fresh hn).2,ak⟩) i
   exact ⟨T,p,run M' _ _ _ (yi i E) _ r2 ⟨fun M1 H1 σ1 ρ1 m1 r1 q=>o.nx M1 H1 (σ1.set i none) (ρ1.set i .nil) (m2.trans m1) (r1.setNil (o:=none) i) q,fun M1 H1 σ1 ρ1 m1 r1 q=>o.bk M1 H1 (σ1.set i none) (ρ1.set i .nil) (m2.trans m1) (r1.setNil (o:=none) i) q,
    fun M1 H1 σ1 ρ1 m1 r1 q=>o.ct M1 H1 (σ1.set i none) (ρ1.set i .nil) (m2.trans m1) (r1.setNil (o:=none) i) q,fun M1 H1 σ1 ρ1 d v m1 r1 rd q=>o.rt _ _ _ _ _ _ (m2.trans m1) r1 rd q⟩ w⟩
  ·exact .inr ⟨ex,F',M',ρ',Ca,⟨rfl,rfl⟩,r,w⟩
end
section
variable [Frm] {X:Cx} {x:Str} {pos:Pos}
theorem dQ {C:Addr} (hg:Gl X x) (hm:X.mg x=some (.ref C)) (hd:(x == ("__debug__" : Str))=false:=by decide):PED X (.Name x pos) (dC (.cls C)) :=
 .con (sI (v:=.ref C) hg hm rfl hd) fun _ _ _=>by simp only [Rep]
def tyD:D->Option Value
 | .non=>some (.type "NoneType") | .exc C=>some (.ref C) | _=>none
def clD:D->Option Value
 | .cls C=>some (.ref C) | .ty T=>some (.type T) | _=>none
def clsD:List D->Option (List Value)
 | []=>some []
 | d::ds=>match clD d,clsD ds with | some c,some r=>some (c::r) | _,_=>none
def gIsX (K:PySem.W.Frag):DSp:=fun ds P=>match ds with
 | [d,.tup cs]=>∃ t vs b,tyD d=some t /\ (∀ C,d = .exc C->ExK K C) /\ clsD cs=some vs /\ PySem.W.kitAny K t vs=some b /\ P (.bl b)
 | [d,c]=>∃ t v b,tyD d=some t /\ (∀ C,d = .exc C->ExK K C) /\ clD c=some v /\ PySem.W.kitOne K t v=some b /\ P (.bl b)
 | _=>False
theorem uf {K:PySem.W.Frag} {pp:Option Addr} {M:List Addr} {H:Hp} {d:D} {x:V} {v u:Value} (e:clD d=some v) (r:Rep K pp M H d x) (q:RelV x u):u=v:=by
 cases d <;> simp only [clD] at e <;> cases e
 ·simp only [Rep] at r; subst r; exact q
 ·simp only [Rep] at r; subst r; exact q
theorem qz {K:PySem.W.Frag} {pp:Option Addr} {M:List Addr} {H:Hp}:∀ {ds:List D} {xs:List V} {vs us:List Value},clsD ds=some vs->Reps K pp M H ds xs->Vals xs us->us=vs
 | [],_,_,_,e,r,q=>by
  simp only [Reps] at r; subst r; cases q
  simp only [clsD] at e; cases e; rfl
 | d::ds,_,_,_,e,r,q=>by
  simp only [Reps] at r
  obtain ⟨y,r',rfl,h1,h2⟩:=r
  cases q with
  | cons q1 q2 =>
   simp only [clsD] at e
   split at e
   ·rename_i c rr e1 e2
    cases e
    rw [uf e1 h1 q1,qz e2 h2 q2]
   ·cases e
theorem ug {K:PySem.W.Frag}:cZ (gIsX K):=fun ds P P' f h=>by
 unfold gIsX at h ⊢
 split at h
 ·obtain ⟨t,vs,b,e1,e2,e3,e4,q⟩:=h; exact ⟨t,vs,b,e1,e2,e3,e4,f _ q⟩
 ·obtain ⟨t,vs,b,e1,e2,e3,e4,q⟩:=h; exact ⟨t,vs,b,e1,e2,e3,e4,f _ q⟩
 ·exact h.elim
theorem qA:CallD X (.builtin "isinstance") (gIsX X.K):=by
 refine ⟨ug,fun xs H Q=>∃ pp M ds,Reps X.K pp M H ds xs /\ gIsX X.K ds (fun d=>∀ H' w,SameP X.K pp H H'->Rep X.K pp M H' d w->Q w H'),?_,fun {pp} M H ds vs Q _ r h=>⟨pp,M,ds,r,h⟩⟩
 intro pins s σ H xs us Q I r h
 obtain ⟨pp,M,ds,rp,h⟩:=h
 have fin:∀ b:Bool,(∀ H' w,SameP X.K pp H H'->Rep X.K pp M H' (.bl b) w->Q w H')->∀ tk,EP X pins σ Q (.bool b) { s with toks:=tk }:=fun b q tk=>⟨.bl b,H,I.tok tk,rfl,q H _ .refl eO⟩
 have isof:∀ {ea C:Addr},H ea=some (excO C ea)->IsOf ea C s.heap:=fun {ea C} e=>by
  have:=I.hok ea _ e
  obtain ⟨o,e1,e2,_⟩:=this.1
  exact ⟨o,e1,e2⟩
 unfold gIsX at h
 split at h
 ·rename_i d cs
  obtain ⟨t,vs,b,e1,e2,e3,e4,q⟩:=h
  simp only [Reps] at rp
  obtain ⟨x1,_,rfl,r1,x2,_,rfl,r2,rfl⟩:=rp
  simp only [Rep] at r2
  obtain ⟨a,zs,rfl,ha,rz⟩:=r2
  obtain ⟨u1,u2,rfl,q1,q2⟩:=vq r
  cases q2
  obtain ⟨_,its,vz,o,ho,hc,n,hd⟩:=I.hok a _ ha
  have ei:=qz e3 rz vz
  subst ei
  obtain ⟨oc,od,odt,osl⟩:=o
  dsimp only at hc hd
  subst hc hd
  cases d <;> simp only [tyD] at e1 <;> cases e1
  ·simp only [Rep] at r1
   subst r1
   cases q1
   exact PySem.W.kia_tup PySem.W.kitx_none I.kIn True.intro ho e4 (fun z=>nomatch z) (fin b q)
  ·rename_i C
   simp only [Rep] at r1
   obtain ⟨ea,rfl,_,_,he⟩:=r1
   cases q1
   exact PySem.W.kia_tup (qp (e2 C rfl)) I.kIn (isof he) ho e4 (fun z=>nomatch z) (fin b q)
 ·rename_i d c _
  obtain ⟨t,v,b,e1,e2,e3,e4,q⟩:=h
  simp only [Reps] at rp
  obtain ⟨x1,_,rfl,r1,x2,_,rfl,r2,rfl⟩:=rp
  obtain ⟨u1,u2,rfl,q1,q2⟩:=vq r
  have ei:=uf e3 r2 q2
  subst ei
  cases d <;> simp only [tyD] at e1 <;> cases e1
  ·simp only [Rep] at r1
   subst r1
   cases q1
   exact PySem.W.kia_one PySem.W.kitx_none I.kIn True.intro e4 (fun z=>nomatch z) (fin b q)
  ·rename_i C
   simp only [Rep] at r1
   obtain ⟨ea,rfl,_,_,he⟩:=r1
   cases q1
   exact PySem.W.kia_one (qp (e2 C rfl)) I.kIn (isof he) e4 (fun z=>nomatch z) (fin b q)
 ·exact h.elim
theorem yj {e tg:Expr} {te:DE} {g:DG} (he:PED X e te) (hg:PGD X tg g) (hs:swapsWithSole [tg] e pos.line X.env=pure false:=by rfl) (hw:swappedStores [tg] e X.env=pure none:=by rfl)
  (h1:(assignEach [tg] X.env).map (·.2)=[assign tg X.env]:=by rfl):PSD X (.Assign [tg] e pos) (dAsg te g) :=
 Ag he hg hs hw (mY (Classical.choose_spec he.run).1 (Classical.choose_spec hg.run).1 hs hw h1)
end
end DL
namespace L2
open PySem PySem.Spec PyProof.Rows
section
variable {X:Cx} {tg:Expr}
end
end L2
namespace DL
open PySem PySem.Spec L2
open PyProof.Rows hiding St
variable [TB]
variable [Frm]
section
variable {X:Cx}
end
omit [Frm] in
theorem Br.dn {p:Prop} [Decidable p] {A B:Prop} (h:¬p) (b:B):Br (decide p) A B:=⟨fun z=>absurd (of_decide_eq_true z) h,fun _=>b⟩
omit [Frm] in
theorem Br.dt {p:Prop} [Decidable p] {A B:Prop} (h:p) (a:A):Br (decide p) A B:=⟨fun _=>a,fun z=>absurd h (of_decide_eq_false z)⟩
omit [Frm] in
theorem Br.di {p:Prop} [Decidable p] {A B:Prop} (a:p->A) (b:¬p->B):Br (decide p) A B:=⟨fun z=>a (of_decide_eq_true z),fun z=>b (of_decide_eq_false z)⟩
theorem mi {g:DG} {b:DTS} {E:DEnds} (N:Int->DS->Prop):∀ (n:Nat) (lo:Int),(∀ ρ,N (lo + n) ρ->E.nx ρ) ->
  (∀ (k:Int) (ρ:DS) (X:DS->Prop),lo <= k->k < lo + n->N k ρ->(∀ ρ',N (k + 1) ρ'->X ρ')->g (.int k) ρ fun ρ1=>b { E with nx:=X,ct:=X,bk:=E.nx } ρ1)->∀ ρ,N lo ρ->nI g b (jg lo n) E ρ
 | 0,lo,hn,_,ρ,h=>hn ρ (by simpa using h)
 | n + 1,lo,hn,hs,ρ,h=>hs lo ρ _ (Int.le_refl _) (by omega) h fun ρ' h'=>mi N n (lo + 1) (fun ρ h=>hn ρ (by rw [show lo + ((n + 1:Nat):Int)=lo + 1 + (n:Int) by omega]; exact h)) (fun k ρ X h1 h2=>hs k ρ X (by omega) (by omega)) ρ' h'
end DL
namespace L2
open PySem PySem.Spec PyProof.Rows
section
variable {X:Cx} {pins:List (Addr×Obj)} {σ:St} {H:Hp} {s:Shared} {h':Heap}
theorem Inv.turnedN {ch:List Addr} {T:Addr} {o:HO} {t':Nat} (I:Inv X pins σ H s) (hf:∀ b∈ch,FpOk X pins H b) (k:∀ b u,b∉ch->s.heap.get? b=some u->h'.get? b=some u) (hT:s.heap.objs.size <= T)
  (new:ObjOk X.prog X.w (upd H T o) h' T o):Inv X pins σ (upd H T o) { s with heap:=h',toks:=t' }:=by
 have hn:=I.hok.fresh hT
 refine I.call' (s':={ s with heap:=h',toks:=t' }) (ch:=ch) rfl ⟨fun b u q _ _ hx=>k b u hx q,fun b u q _ _ hx=>⟨u.slots,k b u hx q⟩,fun b u q n _=>?_,fun b u q hx=>⟨u,k b u hx q⟩,fun b xs e=>?_,fun b p u e=>?_,fun b ps e=>⟨#[],?_⟩⟩ (fun a q e=>?_) I.bare
  (fun b hb=>⟨(hf b hb).2.2.2.1,(hf b hb).2.1,(hf b hb).2.2.2.2.1,(hf b hb).2.2.2.2.2⟩)
 ·rw [aj (Nat.ne_of_lt (Nat.lt_of_lt_of_le (Heap.lt_size q) hT))]; exact n
 ·rw [aj (by rintro rfl; rw [hn] at e; cases e)]; exact e
 ·rw [aj (by rintro rfl; rw [hn] at e; cases e)]; exact e
 ·rw [aj (by rintro rfl; rw [hn] at e; cases e)]; simpa using e
 ·by_cases z:a=T
  ·subst z
   rw [ak] at e
   cases e
   exact new
  ·rw [aj z] at e
   refine ObjOk.stay (I.hok a q e) (fun b u hb q'=>k b u (fun hc=>?_) q') (fun b hb=>?_) (fun b xs hb=>?_)
   ·have:=(hf b hc).1
    rcases hb with rfl | hb
    ·rw [this] at e; cases e
    ·rw [this] at hb; cases hb
   ·rw [aj (by rintro rfl; rw [hn] at hb; cases hb)]; exact hb
   ·rw [aj (by rintro rfl; rw [hn] at hb; cases hb)]; exact hb
theorem Inv.turnedL {ch:List Addr} {t':Nat} (I:Inv X pins σ H s) (hf:∀ b∈ch,FpOk X pins H b) (k:∀ b u,b∉ch->s.heap.get? b=some u->h'.get? b=some u):Inv X pins σ H { s with heap:=h',toks:=t' }:=by
 refine I.call' (s':={ s with heap:=h',toks:=t' }) (ch:=ch) rfl ⟨fun b u q _ _ hx=>k b u hx q,fun b u q _ _ hx=>⟨u.slots,k b u hx q⟩,fun b u q n _=>n,fun b u q hx=>⟨u,k b u hx q⟩,fun b xs e=>e,fun b p u e=>e,fun b ps e=>⟨#[],by simpa using e⟩⟩ (fun a q e=>?_) I.bare
  (fun b hb=>⟨(hf b hb).2.2.2.1,(hf b hb).2.1,(hf b hb).2.2.2.2.1,(hf b hb).2.2.2.2.2⟩)
 refine ObjOk.stay (I.hok a q e) (fun b u hb q'=>k b u (fun hc=>?_) q') (fun b hb=>hb) (fun b xs hb=>hb)
 have:=(hf b hc).1
 rcases hb with rfl | hb
 ·rw [this] at e; cases e
 ·rw [this] at hb; cases hb
end
theorem vS:bootBuiltins "zip" = some (.type "zip"):=by decide +kernel
section
variable {X:Cx}
end
section
variable {X:Cx}
end
end L2
namespace DL
open PySem PySem.Spec L2
open PyProof.Rows hiding St
variable [TB]
variable [Frm]
section
variable {X:Cx} {F:Fx}
def zipD:List D->List D->List D
 | x::xs,y::ys=>.tup [x,y]::zipD xs ys
 | _,_=>[]
omit [Frm] in
theorem jU:∀ (xs ys:List D),(zipD xs ys).length=min xs.length ys.length
 | [],_=>by simp [zipD]
 | _::_,[]=>by simp [zipD]
 | _::xs,_::ys=>by simp [zipD,jU xs ys]
omit [Frm] in
theorem qB:∀ (xs ys:List D) (i:Nat) (d:D),(zipD xs ys)[i]? = some d->∃ x y,xs[i]? = some x /\ ys[i]? = some y /\ d = .tup [x,y]
 | [],_,i,d,h=>by simp [zipD] at h
 | _::_,[],i,d,h=>by simp [zipD] at h
 | x::xs,y::ys,0,d,h=>by
  simp [zipD] at h
  exact ⟨x,y,rfl,rfl,h.symm⟩
 | x::xs,y::ys,i + 1,d,h=>by
  simp only [zipD,List.getElem?_cons_succ] at h ⊢
  exact qB xs ys i d h
def Ax (k:Nat) (d:D) (ρ:DS) (Q:DS->Prop) (j:D):Sl->Prop
 | .own ds=>match j with
  | .int i=>∃ n,ixN ds.length i=some n /\ Q (ρ.set k (.own (ds.set n d)))
  | _=>False
 | _=>False
abbrev Ch (k:Nat) (ti:DE):DG:=fun d ρ Q=>Ak (slot ρ k) /\ ti ρ fun j ρ'=>Ax k d ρ' Q j (slot ρ' k)
theorem Ay {k:Nat} {o i:Expr} {ti:DE} {pos:Pos} (ho:PE X o (tVar k)) (hi:PED X i ti)
  (ha:∀ v,assign (.Subscript o i pos) X.env v=(do
   let ov ← holding [v] (eval o X.env)
   let iv ← holding [v,ov] (eval i X.env)
   standAt pos
   holding [v,ov,iv] (setItem ov iv v)
   release [v,ov,iv] []):=by intro _; rfl):PGD X (.Subscript o i pos) (Ch k ti):=by
 obtain ⟨T,p,r⟩:=hi.run
 refine ⟨fun d ρ P P' f h=>⟨h.1,hi.mono _ _ _ (fun j ρ' h=>?_) h.2⟩,_,sL ho p lN ha,fun {F} M H σ ρ d v Q rs rd h=>?_⟩
 ·cases q:slot ρ' k with
  | nil=>rw [q] at h; exact h.elim
  | val d=>rw [q] at h; exact h.elim
  | pin w d=>rw [q] at h; exact h.elim
  | obj z=>rw [q] at h; exact h.elim
  | own ds =>
   rw [q] at h
   cases j <;> first | exact h.elim | (obtain ⟨n,e,h⟩:=h; exact ⟨n,e,f _ h⟩)
 ·obtain ⟨h0,h⟩:=h
  cases q:slot ρ k with
  | nil=>rw [q] at h0; exact h0.elim
  | val d=>rw [q] at h0; exact h0.elim
  | pin w d=>rw [q] at h0; exact h0.elim
  | obj z=>rw [q] at h0; exact h0.elim
  | own ds =>
   obtain ⟨oo1,ho1,l,xs,rfl,hm1,h01,hp1,hl1,hr1⟩:=rs.at (aW q (by intro z; cases z))
   refine ⟨.ref l,ho1,?_⟩
   refine r M H σ ρ _ rs (hi.mono _ _ _ (fun j ρ' h M' H' w m rs' rj=>?_) h)
   cases q':slot ρ' k with
   | nil=>rw [q'] at h; exact h.elim
   | val d=>rw [q'] at h; exact h.elim
   | pin w d=>rw [q'] at h; exact h.elim
   | obj z=>rw [q'] at h; exact h.elim
   | own ds' =>
    rw [q'] at h
    cases j <;> first | exact h.elim | skip
    rename_i j
    obtain ⟨n,e,h⟩:=h
    have g1:=aW q' (by intro z; cases z)
    obtain ⟨l',xs',e',hm',h0',hp',hl',hr'⟩:=rs'.sl k _ _ g1 ho1
    cases e'
    simp only [Rep] at rj
    subst rj
    obtain ⟨m2,rs2⟩:=rs'.write g1 ho1 (hr'.set (rd.mv m) n)
    exact ⟨l,xs',j,n,rfl,rfl,hl',by rw [← hr'.length]; exact e,h M' _ _ (m.trans m2) rs2⟩
omit [Frm] in
theorem Az {n:Nat} {i:Int} (h0:0 <= i) (h:i < n):ixN n i=some i.toNat:=by
 unfold ixN
 rw [if_pos h0,if_pos h]
end
end DL
namespace DL
open PySem PySem.Spec L2
open PyProof.Rows hiding St
variable [TB]
abbrev DTN:=(D->Prop)->(List D->Prop)->DS->Prop
section
variable [Frm]
structure EN (K:PySem.W.Frag) (F:Fx) (M:List Addr) (H:Hp) (Q:D->Prop) (L:List D->Prop) (D:Ends):Prop where
 rt:∀ M' H' σ' ρ' d v,Mv K F.pp M H M' H'->RSt K F M' H' σ' ρ'->Rep K F.pp M' H' d v->Q d->D.rt v H'
 nx:∀ M' H' σ' ρ',Mv K F.pp M H M' H'->RSt K F M' H' σ' ρ'->Q .non->D.nx σ' H'
 nw:∀ M' H' ds l xs,SameP K F.pp F.H0 H'->(∀ a∈F.M0,a∈M')->F.H0 l=none->F.pp≠some l->l∈M'->H' l=some (.lst xs)->Reps K F.pp M' H' ds xs->L ds->D.rt (.ref l) H'
theorem EN.mv {K:PySem.W.Frag} {F:Fx} {M M1:List Addr} {H H1:Hp} {Q:DL.D->Prop} {L:List DL.D->Prop} {D:Ends} (o:EN K F M H Q L D) (m:Mv K F.pp M H M1 H1):EN K F M1 H1 Q L D :=
 ⟨fun _ _ _ _ _ _ m'=>o.rt _ _ _ _ _ _ (m.trans m'),fun _ _ _ _ m'=>o.nx _ _ _ _ (m.trans m'),o.nw⟩
def PSsN (X:Cx) (st:List Stmt) (t:DTN):Prop:=∃ T:TS,PSs X st T /\ ∀ {F:Fx} M H σ ρ (Q:D->Prop) (L:List D->Prop) (D:Ends),RSt X.K F M H σ ρ->EN X.K F M H Q L D->t Q L ρ->T D σ H
variable {X:Cx} {st:Stmt} {rest:List Stmt} {t:DTS} {u:DTN} {e:Expr} {tl:DA} {pos:Pos}
theorem yk (h:PLD X e tl):PSsN X [.Return (some e) pos] (fun _ L ρ=>tl ρ fun ds _=>L ds):=by
 obtain ⟨T,p,r⟩:=h.run
 refine ⟨_,fN (mX p),fun {F} M H σ ρ Q L D rs en q=>r M H σ ρ _ rs (h.mono _ _ _ (fun ds ρ' q M' H1 H' l xs m rs' hl e r'=>?_) q)⟩
 subst e
 have h0:F.H0 l=none:=by
  cases e:F.H0 l with
  | none=>rfl
  | some o=>exact absurd hl (rs'.same.live l (by rw [e]; intro z; cases z))
 exact en.nw (l::M') _ ds l xs (rs'.sameT.trans (.new hl)) (fun a ha=>List.mem_cons_of_mem _ (rs'.sub a ha)) h0 (rs'.liv.fresh hl).2 List.mem_cons_self ak (r'.mv (.newOwn hl)) q
theorem qC (h1:PSD X st t) (h2:PSsN X rest u):PSsN X (st::rest) (fun Q L ρ=>t { nx:=u Q L,rt:=Q } ρ):=by
 obtain ⟨T,p,r⟩:=h1
 obtain ⟨U,q,s⟩:=h2
 refine ⟨_,bv p q,fun {F} M H σ ρ Q L D rs en h=>r M H σ ρ { nx:=u Q L,rt:=Q } { D with nx:=U D } rs ⟨fun M' H' σ' ρ' m rs' h=>?_,fun _ _ _ _ _ _ q=>q.elim,fun _ _ _ _ _ _ q=>q.elim,en.rt⟩ h⟩
 exact s M' H' σ' ρ' Q L D rs' (en.mv m) h
theorem ym (h1:PSD X st t) (h2:PSsN X rest u):PSsN X (st::rest) (fun Q L ρ=>∃ N:DS->Prop,t { nx:=N,rt:=Q } ρ /\ ∀ ρ',N ρ'->u Q L ρ'):=by
 obtain ⟨T,p,r⟩:=h1
 obtain ⟨U,q,s⟩:=h2
 refine ⟨_,bv p q,fun {F} M H σ ρ Q L D rs en h=>?_⟩
 obtain ⟨N,h,hn⟩:=h
 refine r M H σ ρ { nx:=N,rt:=Q } { D with nx:=U D } rs ⟨fun M' H' σ' ρ' m rs' h=>?_,fun _ _ _ _ _ _ q=>q.elim,fun _ _ _ _ _ _ q=>q.elim,en.rt⟩ h
 exact s M' H' σ' ρ' Q L D rs' (en.mv m) (hn ρ' h)
end
abbrev DSpN:=List D->(D->Prop)->(List D->Prop)->Prop
def spDN (K:PySem.W.Frag) (n:Nat) (g:DSpN):Sp:=fun vs H Q _=>∃ pp M ds,Lv pp M H /\ Reps K pp M H ds vs /\ ds.length=n /\ g ds (fun d=>∀ H' v,SameP K pp H H'->Rep K pp M H' d v->Q v H')
 (fun es=>∀ M' H' l xs,SameP K pp H H'->(∀ a∈M,a∈M')->H l=none->pp≠some l->l∈M'->H' l=some (.lst xs)->Reps K pp M' H' es xs->Q (.ref l) H')
def AA (g:DSpN):Prop:=∀ ds P P' L L',(∀ d,P d->P' d)->(∀ es,L es->L' es)->g ds P L->g ds P' L'
theorem fnDN {P:Program} {w:World} {K:PySem.W.Frag} {mg:Str->Option Value} {base:Heap} {x qual:Str} {st:Stmt} {f:Addr} {fd:FuncData} {N ps:List Str} {k:Nat} {g:DSpN} {t:DTN} (Fn:Fun K x qual st f fd) (S:FnScope N ps (ag st))
  (hb:∀ (cdv:Value) (A:Around) (outer:List Env) (s:Shared) (H:Hp) (E:XK),Room k (A.deeper (envOfC qual (ag st) s.heap.objs.size f cdv)) -> @PSsN _ Frm.free (cxOf CX0 P w K mg base N qual (ag st) f cdv A outer s H E).nox (aF st) t)
  (hg:∀ ds Q L,ds.length=ps.length->g ds Q L->t Q L (lh N.length ds)):FnOk P w K mg base CX0 (k + 1) f fd ps (spDN K ps.length g):=by
 refine Fn.ok S (fun vs H Q E h=>?_) (fun cdv A outer s H vs Q E hr h=>?_)
 ·obtain ⟨pp,M,ds,_,r,e,_⟩:=h
  rw [← r.length,e]
 ·obtain ⟨pp,M,ds,lv,r,e,h⟩:=h
  obtain ⟨T,p,run⟩:=hb cdv A outer s H E hr
  refine ⟨T,p,run M H _ _ _ _ _ (jQ lv r trivial) ⟨fun M' H' σ' ρ' d v m rs rd q=>?_,fun M' H' σ' ρ' m rs q=>?_,fun M' H' es l xs s sub h0 hp hm hl rr q=>?_⟩ (hg ds _ _ e h)⟩
  ·exact q H' v rs.sameT (rd.mv (.less rs.sub))
  ·exact q H' .non rs.sameT (by simp only [Rep])
  ·exact q M' H' l xs s sub h0 hp hm hl rr
theorem FnOk.asD {P:Program} {w:World} {K:PySem.W.Frag} {mg:Str->Option Value} {base:Heap} {k n:Nat} {f:Addr} {fd:FuncData} {ps:List Str} {g:DSpN} {g':DSp} (h:FnOk P w K mg base CX0 k f fd ps (spDN K n g)) (hg:∀ ds Q,g' ds Q->g ds Q (fun es=>Q (.lst es))) (gm:AA g):FnOk P w K mg base CX0 k f fd ps (spD K n g') :=
 h.imp fun vs H Q E h=>by
  obtain ⟨pp,M,ds,lv,r,e,h⟩:=h
  refine ⟨pp,M,ds,lv,r,e,gm _ _ _ _ _ (fun d q=>q) (fun es q M' H' l xs s sub hl hp hm hH rr=>q H' _ s ?_) (hg _ _ h)⟩
  simp only [Rep]
  exact ⟨l,xs,rfl,(lv.fresh hl).1,hp,hH,rr.mv (.less sub)⟩
section
variable [Frm] {X:Cx}
end
end DL
namespace DL
open PySem PySem.Spec L2
open PyProof.Rows hiding St
variable [TB]
variable [Frm]
section
variable {K:PySem.W.Frag} {F:Fx} {M M0 M':List Addr} {H H':Hp} {σ:St} {ρ:DS} {i:Nat} {ds:List D} {v:V}
end
section
variable {X:Cx} {e:Expr}
end
end DL
namespace DL
open PySem PySem.Spec L2
open PyProof.Rows hiding St
variable [TB]
variable [Frm]
end DL
namespace L2
open PySem PySem.Spec PyProof.Rows
theorem qD (n:Nat):(List.range n).map (fun k=>n - 1 - k)=(List.range n).reverse:=by
 apply List.ext_getElem
 ·simp
 ·intro i h1 h2
  simp
theorem wM {α:Type} (xs:Array α):(List.range xs.size).filterMap (xs[·]?)=xs.toList:=by
 obtain ⟨l⟩:=xs
 simp only [List.size_toArray,List.getElem?_toArray]
 induction l with
 | nil=>rfl
 | cons a r ih =>
  rw [List.length_cons,List.range_succ_eq_map,List.filterMap_cons]
  simp only [List.getElem?_cons_zero,List.filterMap_map]
  congr 1
theorem qE {α β:Type} {f g:α->Option β}:∀ {l:List α},(∀ a∈l,f a=g a)->l.filterMap f=l.filterMap g
 | [],_=>rfl
 | a::r,h=>by rw [List.filterMap_cons,List.filterMap_cons,h a List.mem_cons_self,qE fun b hb=>h b (List.mem_cons_of_mem _ hb)]
theorem yo (xs:Array Value):((List.range xs.size).filterMap fun (m:Nat)=>xs[(((xs.size:Int) - 1) + (m:Int) * (-1)).toNat]?).toArray=xs.toList.reverse.toArray:=by
 have e:(List.range xs.size).filterMap (fun (m:Nat)=>xs[(((xs.size:Int) - 1) + (m:Int) * (-1)).toNat]?)=((List.range xs.size).map (fun k=>xs.size - 1 - k)).filterMap (xs[·]?):=by
  rw [List.filterMap_map]
  apply qE
  intro m hm
  have:=List.mem_range.mp hm
  show xs[_]? = xs[xs.size - 1 - m]?
  congr 1
  omega
 rw [e,qD,List.filterMap_reverse,wM]
theorem nO (items:Array Value):slicePick items none none (some (-1))=items.toList.reverse.toArray:=by
 have b:∀ n:Nat,sliceBounds none none (some (-1)) n=((n:Int) - 1,-1,-1):=fun n=>by
  first | rfl | simp [sliceBounds]
 have r:∀ n:Nat,sliceRange ((n:Int) - 1) (-1) (-1)=(List.range n).map fun k=>n - 1 - k:=fun n=>by
  unfold sliceRange
  have h1:¬ ((-1:Int) > 0):=by decide
  by_cases h:(n:Int) - 1 > -1
  ·have e:((n:Int) - 1 - -1 - -1 - 1) / (- -1)=(n:Int):=by
    rw [show (- -1:Int)=1 by decide,Int.ediv_one]
    omega
   simp only [h1,if_false,h,if_true,e,Int.toNat_natCast]
   apply List.map_congr_left
   intro k hk
   have:=List.mem_range.mp hk
   omega
  ·have e:n=0:=by omega
   subst e
   simp
 unfold slicePick
 rw [b]
 show ((sliceRange ((items.size:Int) - 1) (-1) (-1)).filterMap (items[·]?)).toArray=_
 rw [r,qD,List.filterMap_reverse,wM]
section
variable {prog:Program} {w:World} {A:Around} {E:Value->Shared->Prop} {s:Shared}
theorem jh {sl:Addr} {vk:Value} {n:Nat} {Q:Int×Int×Nat->Shared->Prop} (hs:s.heap.IsSliceOf sl .none .none vk) (pk:IsPart vk (some (-1)))
  (h:Q ((n:Int) - 1,-1,n) s):wpAny (model prog w) A (Builtin.Slice.sliceApplied (.ref sl) (pure (n:Int))) Q E s:=by
 obtain ⟨os,hos,hcs,hds⟩:=id hs
 unfold Builtin.Slice.sliceApplied Builtin.Slice.sliceFields
 refine wpAny_bind (wpAny_bind (wpAny_field hos hds (x:=.none) rfl (wpAny_bind (wpAny_field hos hds (x:=.none) rfl (wpAny_bind (wpAny_field hos hds (x:=vk) rfl (wpAny_pure ?_)))))))
 refine wpAny_bind (HT.slicePart_ pk ?_)
 show wpAny _ _ (if ((-1:Int) == 0)=true then _ else _) _ _ s
 rw [if_neg (by decide)]
 refine wpAny_bind (slicePart_none (wpAny_bind (slicePart_none (wpAny_bind (wpAny_pure ?_)))))
 show wpAny _ _ (match Builtin.Slice.sliceAdjust none none (-1) (n:Int) with | (lo,hi)=>pure (lo,(-1:Int),Builtin.Slice.slicePlaces lo hi (-1))) _ _ s
 have e1:Builtin.Slice.sliceAdjust none none (-1) (n:Int)=((n:Int) - 1,-1):=rfl
 have e2:Builtin.Slice.slicePlaces ((n:Int) - 1) (-1) (-1)=n:=by
  unfold Builtin.Slice.slicePlaces
  rw [if_neg (by decide)]
  split
  ·rw [show (-(-1):Int)=1 from rfl,Int.ediv_one]; omega
  ·omega
 rw [e1]
 show wpAny _ _ (pure ((n:Int) - 1,(-1:Int),Builtin.Slice.slicePlaces ((n:Int) - 1) (-1) (-1))) _ _ s
 rw [e2]
 exact wpAny_pure h
theorem io {t sl:Addr} {items:Array Value} {vk:Value} {Q:Value->Shared->Prop} (ht:IsTup s.heap t items) (hs:s.heap.IsSliceOf sl .none .none vk) (pk:IsPart vk (some (-1)))
  (h:Q (.ref s.heap.objs.size) { s with heap:=s.heap.push { cls:=.type "tuple",data:=.seq items.toList.reverse.toArray } })
  (hsz:items.size <= sizeLine):wpAny (model prog w) A (getItem (.ref t) (.ref sl)) Q E s:=by
 have htake:sizeOk (.seq items.toList.reverse.toArray):=by
  show items.toList.reverse.toArray.size <= sizeLine
  simpa using hsz
 obtain ⟨os,hos,hcs,hds⟩:=id hs
 have hTs:s.TypeIs (.ref sl) "slice":=⟨os,hos,hcs⟩
 unfold getItem
 try with_reducible refine wpAny_holding ?_
 first | refine wpAny_bind (wpAny_pure ?_) | skip
 refine wpAny_bind (wpAny_sequenceKey ht.typeIs (by decide) ?_)
 refine wpAny_bind (wpAny_callSpecial?_slot (name:=Str.ofString "__getitem__") ht.typeIs PyProof.Rows.slot_tuple_getitem
  (wpAny_call_entry PyProof.Rows.slot_tuple_getitem ht.typeIs entry_tuple_getitem ?_ (args_tuple_getitem _ _)))
 show wpAny _ _ (Builtin.Tuple.tupleItemsOf (.ref t) >>= _) _ _ s
 refine wpAny_bind (tupleItemsOf_ ht ?_)
 refine wpAny_bind (wpAny_typeOf hTs ?_)
 rw [if_pos (by decide)]
 refine wpAny_bind (jh (n:=items.size) hs pk ?_)
 have hno:¬ ((((items.size:Int) - 1) == 0 && (-1:Int) == 1 && items.size == items.size)=true):=by
  intro q
  rw [Bool.and_eq_true,Bool.and_eq_true] at q
  exact absurd q.1.2 (by decide)
 show wpAny _ _ (if ((((items.size:Int) - 1) == 0 && (-1:Int) == 1 && items.size == items.size)=true) then _ else _) _ _ s
 rw [if_neg hno,yo]
 first
  | exact wpAny_bind (m:=Builtin.Tuple.tupleExact _) (wpAny_newObj_type (wpAny_pure ⟨_,rfl,wpAny_pure h⟩) htake)
  | exact wpAny_bind (m:=Builtin.Tuple.tupleExact _) (wpAny_newObj_type (wpAny_bind (wpAny_pure (wpAny_pure ⟨_,rfl,wpAny_pure h⟩))) htake)
  | exact wpAny_bind (wpAny_bind (m:=Builtin.Tuple.tupleExact _) (wpAny_newObj_type (wpAny_pure (wpAny_pure ⟨_,rfl,wpAny_pure h⟩)) htake))
  | exact wpAny_bind (wpAny_bind (m:=Builtin.Tuple.tupleExact _) (wpAny_newObj_type (wpAny_pure ⟨_,rfl,wpAny_pure h⟩) htake))
end
section
variable {X:Cx} {e st:Expr} {te:TE} {tk:TO} {pos p2:Pos}
def rRev (K:PySem.W.Frag):V->Hp->VK->Prop:=fun x H Q=>(∃ a xs,x = .ref a /\ SqT K H a xs /\ ∀ p,H p=none->Q (.ref p) (upd H p (.tup xs.reverse)))∨(∃ a xs,x = .ref a /\ SqL K H a xs /\ ∀ p,H p=none->Q (.ref p) (upd H p (.lst xs.reverse)))
def tRev (K:PySem.W.Frag) (te:TE) (tk:TO):TE:=fun σ H Q=>te σ H fun x H1=>tk σ H1 fun k H2=>k=some (-1) /\ rRev K x H2 Q
theorem AB (he:PE X e te) (hk:PO X (some st) tk):PE X (.Subscript e (.Slice none none (some st) p2) pos) (tRev X.K te tk):=by
 intro pins s σ H Q I h
 refine Subscript_ (thn (he pins s σ H _ I h) fun v s1 ⟨x,H1,I1,r1,q1⟩=>?_)
 refine wpAny_Slice (thn (oM pins s1 σ H1 (fun o H'=>o=none /\ H'=H1) I1 ⟨rfl,rfl⟩) fun vl s2 ⟨l,H2,I2,pl,el,eH⟩=>thn (oM pins s2 σ H2 (fun o H'=>o=none /\ H'=H2) I2 ⟨rfl,rfl⟩) fun vu s3 ⟨u,H3,I3,pu,eu,eH3⟩=>?_)
 subst eH3 eH eu el
 cases pl
 cases pu
 refine thn (hk pins s3 σ H3 _ I3 q1) fun vk s4 ⟨k,H4,I4,pk,ek,q4⟩=>?_
 subst ek
 have I5:Inv X pins σ H4 { s4 with heap:=s4.heap.push { cls:=.type "slice",data:=.fields #[.none,.none,vk] } }:=I4.kept (t':=s4.toks) fun b ob q=>Heap.get?_push_of_some _ q
 have hsl:(s4.heap.push { cls:=.type "slice",data:=.fields #[.none,.none,vk] }).IsSliceOf s4.heap.objs.size .none .none vk:=Heap.IsSliceOf.new ..
 show wpAny (model X.prog X.w) X.A (subscriptTail e (.Slice none none (some st) p2) v (.ref s4.heap.objs.size)) (EP X pins σ Q) X.xe { s4 with heap:=s4.heap.push { cls:=.type "slice",data:=.fields #[.none,.none,vk] } }
 rcases q4 with ⟨a,xs,rfl,hx,q⟩ | ⟨a,xs,rfl,hx,q⟩
 ·cases r1
  obtain ⟨its,r,ht,hz⟩:=I5.tuple hx
  have hlen:its.toArray.size=xs.length:=by rw [List.size_toArray]; exact r.length.symm
  refine tail_any (ops:=[.ref a,.ref s4.heap.objs.size]) (T:="tuple") ht.typeIs PyProof.Rows.slot_tuple_getitem.lookup (io ht hsl pk ?_ (by rw [hlen]; exact hz)) (by with_unfolding_all rfl)
  refine ⟨.ref _,_,I5.laid (t':=s4.toks) (o:=.tup xs.reverse) (fun b ob q=>Heap.get?_push_of_some _ q) (Nat.le_refl _) ?_,rfl,q _ (I5.hok.fresh (Nat.le_refl _))⟩
  exact ⟨by rw [List.length_reverse]; exact hz,its.reverse,r.reverse,IsTup.new _ _⟩
 ·cases r1
  obtain ⟨its,r,ht,hz⟩:=I5.list hx
  have hlen:=r.length
  refine tail_any (ops:=[.ref a,.ref s4.heap.objs.size]) (T:="list") ht.isList.typeIs slot_list_getitem.lookup (wpAny_getItem_list_slice ht.isList hsl .none .none pk (by decide) ?_ (by rw [List.size_toArray] <;> omega)) (by with_unfolding_all rfl)
  have e:slicePick its.toArray none none (some (-1))=its.reverse.toArray:=by rw [nO]
  rw [e]
  refine ⟨.ref _,_,I5.laid (t':=s4.toks) (o:=.lst xs.reverse) (fun b ob q=>Heap.get?_push_of_some _ q) (Nat.le_refl _) ?_,rfl,q _ (I5.hok.fresh (Nat.le_refl _))⟩
  exact ⟨by rw [List.length_reverse]; exact hz,its.reverse,0,r.reverse,Heap.get?_push_size _ rfl⟩
end
end L2
namespace PySem
end PySem
namespace L2
open PySem PySem.Spec PyProof.Rows
section
variable {X:Cx}
end
end L2
namespace DL
open PySem PySem.Spec L2
open PyProof.Rows hiding St
variable [TB]
variable [Frm]
section
variable {X:Cx} {pp:Option Addr}
omit [Frm] in
theorem Reps.reverse {K:PySem.W.Frag} {M:List Addr} {H:Hp}:∀ {ds:List D} {xs:List V},Reps K pp M H ds xs->Reps K pp M H ds.reverse xs.reverse
 | [],xs,r=>by
  simp only [Reps] at r
  subst r
  exact .nil
 | d::ds,xs,r=>by
  simp only [Reps] at r
  obtain ⟨x,r',rfl,hd,hr⟩:=r
  rw [List.reverse_cons,List.reverse_cons]
  exact (Reps.reverse hr).append (.one hd)
def gRev:D->(D->Prop)->Prop
 | .tup xs,P=>P (.tup xs.reverse)
 | .lst xs,P=>P (.lst xs.reverse)
 | _,_=>False
abbrev dRev (te:DE) (tk:DO):DE:=fun ρ Q=>te ρ fun x ρ1=>tk ρ1 fun k ρ2=>k=some (-1) /\ gRev x fun d=>Q d ρ2
theorem uh {e st:Expr} {te tk:DE} {pos p2:Pos} (he:PED X e te) (hs:PED X st tk):PED X (.Subscript e (.Slice none none (some st) p2) pos) (dRev te (wJ tk)):=by
 have hk:=fR hs
 obtain ⟨T,p,r⟩:=he.run
 obtain ⟨Tk,pk,rk⟩:=hk.run
 have gm:∀ x P P',(∀ d,P d->P' d)->gRev x P->gRev x P':=fun x P P' f h=>by
  cases x <;> first | exact h.elim | exact f _ h
 refine ⟨fun _ _ _ f h=>he.mono _ _ _ (fun _ _ h=>hk.mono _ _ _ (fun _ _ h=>⟨h.1,gm _ _ _ (fun _ h=>f _ _ h) h.2⟩) h) h,_,AB p pk,fun {F} M H σ ρ Q rs h=>?_⟩
 refine r M H σ ρ _ rs (he.mono _ _ _ (fun x ρ1 h M1 H1 v m1 rs1 r1=>?_) h)
 refine rk M1 H1 σ ρ1 _ rs1 (hk.mono _ _ _ (fun k ρ2 h M2 H2 m2 rs2=>?_) h)
 obtain ⟨ek,h⟩:=h
 refine ⟨ek,?_⟩
 have r3:=r1.mv m2
 cases x <;> first | exact h.elim | skip
 ·simp only [Rep] at r3
  obtain ⟨a,xs,rfl,ha,rx⟩:=r3
  refine .inl ⟨a,xs,rfl,SqT.of ha,fun l hl=>h M2 _ _ ((m1.trans m2).trans (.new hl)) (rs2.sameP (.new hl)) ?_⟩
  simp only [Rep]
  exact ⟨l,_,rfl,ak,rx.reverse.mv (.new hl)⟩
 ·simp only [Rep] at r3
  obtain ⟨a,xs,rfl,hm,hp,ha,rx⟩:=r3
  refine .inr ⟨a,xs,rfl,SqL.of ha,fun l hl=>h M2 _ _ ((m1.trans m2).trans (.new hl)) (rs2.sameP (.new hl)) ?_⟩
  simp only [Rep]
  exact ⟨l,_,rfl,(rs2.liv.fresh hl).1,(rs2.liv.fresh hl).2,ak,rx.reverse.mv (.new hl)⟩
end
end DL
namespace DL
open PySem PySem.Spec L2
open PyProof.Rows hiding St
variable [TB]
variable [Frm]
section
variable {X:Cx} {pp:Option Addr}
end
end DL
namespace L2
open PySem PySem.Spec PyProof.Rows
section
variable {X:Cx}
end
end L2
namespace DL
open PySem PySem.Spec L2
open PyProof.Rows hiding St
variable [TB]
section
variable {K:PySem.W.Frag} {pp:Option Addr} {M:List Addr} {H:Hp}
end
variable [Frm]
section
variable {X:Cx}
end
end DL
namespace DL
open PySem PySem.Spec L2
open PyProof.Rows hiding St
variable [TB]
variable [Frm]
end DL
namespace L2
open PySem PySem.Spec PyProof.Rows
section
variable {prog:Program} {w:World} {A:Around} {E:Value->Shared->Prop} {s:Shared}
theorem ip {t sl:Addr} {items:Array Value} {vl vu:Value} {lo hi:Option Int} {Q:Value->Shared->Prop} (ht:IsTup s.heap t items) (hs:s.heap.IsSliceOf sl vl vu .none) (pl:IsPart vl lo) (pu:IsPart vu hi)
  (hw:HT.sIx items.size 0 lo=0 /\ HT.sIx items.size items.size hi=items.size) (h:Q (.ref t) s):wpAny (model prog w) A (getItem (.ref t) (.ref sl)) Q E s:=by
 obtain ⟨os,hos,hcs,hds⟩:=id hs
 have hTs:s.TypeIs (.ref sl) "slice":=⟨os,hos,hcs⟩
 unfold getItem
 try with_reducible refine wpAny_holding ?_
 first | refine wpAny_bind (wpAny_pure ?_) | skip
 refine wpAny_bind (wpAny_sequenceKey ht.typeIs (by decide) ?_)
 refine wpAny_bind (wpAny_callSpecial?_slot (name:=Str.ofString "__getitem__") ht.typeIs PyProof.Rows.slot_tuple_getitem
  (wpAny_call_entry PyProof.Rows.slot_tuple_getitem ht.typeIs PySem.F.entry_tuple_getitem ?_ (PySem.F.args_tuple_getitem_2 _ _)))
 show wpAny _ _ (Builtin.Tuple.tupleItemsOf (.ref t) >>= _) _ _ s
 refine wpAny_bind (tupleItemsOf_ ht ?_)
 refine wpAny_bind (wpAny_typeOf hTs ?_)
 rw [if_pos (by decide)]
 refine wpAny_bind (HT.sliceApplied_gen hs pl pu ?_)
 rw [hw.1,hw.2,Nat.sub_zero]
 have hyes:(((((0:Nat):Int)) == 0 && (1:Int) == 1 && items.size == items.size))=true:=by simp
 show wpAny _ _ (if ((((0:Nat):Int)) == 0 && (1:Int) == 1 && items.size == items.size)=true then _ else _) _ _ s
 rw [if_pos hyes]
 unfold Builtin.Tuple.tupleIsExact
 refine wpAny_bind (wpAny_bind (wpAny_typeOf ht.typeIs (wpAny_pure ?_)))
 show wpAny _ _ (rule "tuple.getitem.whole" >>= fun _=>ret (Value.ref t)) _ _ s
 exact wpAny_bind (wpAny_rule (wpAny_pure ⟨_,rfl,wpAny_pure h⟩))
def rSlW (K:PySem.W.Frag):V->Option Int->Option Int->Hp->VK->Prop:=fun x lo hi H Q=>∃ a xs,x = .ref a /\ SqT K H a xs /\ (HT.sIx xs.length 0 lo=0 /\ HT.sIx xs.length xs.length hi=xs.length) /\ Q (.ref a) H
theorem yq {X:Cx}:SlR X (rSlW X.K):=by
 intro pins s σ H x v vl vu lo hi sl Q I rx hs pl pu h
 obtain ⟨a,xs,rfl,hx,hw,q⟩:=h
 cases rx
 obtain ⟨its,r,ht,hz⟩:=I.tuple hx
 have hlen:its.toArray.size=xs.length:=by rw [List.size_toArray]; exact r.length.symm
 refine ⟨"tuple",_,PyProof.Rows.slot_tuple_getitem.lookup,ht.typeIs,?_⟩
 exact ip ht hs pl pu (by rw [hlen]; exact hw) ⟨.ref a,H,I,rfl,q⟩
end
end L2
namespace DL
open PySem PySem.Spec L2
open PyProof.Rows hiding St
variable [TB]
section
variable [Frm]
variable {X:Cx} {F:Fx} {pp:Option Addr}
abbrev dSlL (te:DE) (tl th:DO):DA:=fun ρ Q=>te ρ fun x ρ1=>tl ρ1 fun lo ρ2=>th ρ2 fun hi ρ3=>match x with
 | .lst xs=>Q (cutD xs lo hi) ρ3
 | _=>False
theorem nP {e:Expr} {lo hi:Option Expr} {te:DE} {tl th:DO} {pos p2:Pos} (he:PED X e te) (hl:POD X lo tl) (hh:POD X hi th):PLD X (.Subscript e (.Slice lo hi none p2) pos) (dSlL te tl th):=by
 obtain ⟨T,p,r⟩:=he.run
 obtain ⟨Tl,pl,rl⟩:=hl.run
 obtain ⟨Th,ph,rh⟩:=hh.run
 refine ⟨fun _ _ _ f h=>he.mono _ _ _ (fun x _ h=>hl.mono _ _ _ (fun _ _ h=>hh.mono _ _ _ (fun _ _ h=>?_) h) h) h,_,qk xF p pl ph,fun {F} M H σ ρ Q rs h=>?_⟩
 ·cases x <;> first | exact h.elim | exact f _ _ h
 refine r M H σ ρ _ rs (he.mono _ _ _ (fun x ρ1 h M1 H1 v m1 rs1 r1=>?_) h)
 refine rl M1 H1 σ ρ1 _ rs1 (hl.mono _ _ _ (fun lo ρ2 h M2 H2 m2 rs2=>?_) h)
 refine rh M2 H2 σ ρ2 _ rs2 (hh.mono _ _ _ (fun hi ρ3 h M3 H3 m3 rs3=>?_) h)
 have r3:=(r1.mv m2).mv m3
 cases x <;> first | exact h.elim | skip
 simp only [Rep] at r3
 obtain ⟨a,xs,rfl,_,_,ha,rx⟩:=r3
 exact ⟨a,xs,rfl,SqL.of ha,fun l hl=>h M3 H3 _ l _ ((m1.trans m2).trans m3) rs3 hl rfl (rx.cut lo hi)⟩
abbrev Ci (ta tb:DE):DA:=fun ρ Q=>ta ρ fun x ρ1=>tb ρ1 fun y ρ2=>match x,y with
 | .lst xs,.lst ys=>xs.length + ys.length <= sizeLine /\ Q (xs++ys) ρ2
 | _,_=>False
theorem iU {a b:Expr} {ta tb:DE} {pos:Pos} (ha:PED X a ta) (hb:PED X b tb):PLD X (.BinOp a .Add b pos) (Ci ta tb):=by
 obtain ⟨Ta,pa,ra⟩:=ha.run
 obtain ⟨Tb,pb,rb⟩:=hb.run
 refine ⟨fun _ _ _ f h=>ha.mono _ _ _ (fun x _ h=>hb.mono _ _ _ (fun y _ h=>?_) h) h,_,cK zI pa pb,fun {F} M H σ ρ Q rs h=>?_⟩
 ·cases x <;> first | exact h.elim | skip
  cases y <;> first | exact h.elim | exact ⟨h.1,f _ _ h.2⟩
 refine ra M H σ ρ _ rs (ha.mono _ _ _ (fun x ρ1 h M1 H1 v m1 rs1 r1=>?_) h)
 refine rb M1 H1 σ ρ1 _ rs1 (hb.mono _ _ _ (fun y ρ2 h M2 H2 u m2 rs2 r2=>?_) h)
 have r1:=r1.mv m2
 cases x <;> first | exact h.elim | skip
 cases y <;> first | exact h.elim | skip
 simp only [Rep] at r1 r2
 obtain ⟨l,xs,rfl,_,_,hl,rx⟩:=r1
 obtain ⟨l',ys,rfl,_,_,hl',ry⟩:=r2
 exact ⟨l,l',xs,ys,rfl,rfl,hl,hl',by rw [← rx.length,← ry.length]; exact h.1,fun p hp=>h.2 M2 H2 _ p _ (m1.trans m2) rs2 hp rfl (rx.append ry)⟩
abbrev Cj (ta tb:DE):DA:=fun ρ Q=>ta ρ fun x ρ1=>tb ρ1 fun y ρ2=>match x,y with
 | .lst xs,.int k=>((-(2 ^ 63) <= k /\ k < 2 ^ 63) /\ xs.length * k.toNat <= sizeLine) /\ Q (List.replicate k.toNat xs).flatten ρ2
 | _,_=>False
theorem Reps.reps {K:PySem.W.Frag} {M:List Addr} {H:Hp} {ds:List D} {xs:List V} (r:Reps K pp M H ds xs):∀ k:Nat,Reps K pp M H (List.replicate k ds).flatten (List.replicate k xs).flatten
 | 0=>by simp [Reps]
 | k + 1=>by
  rw [List.replicate_succ,List.replicate_succ,List.flatten_cons,List.flatten_cons]
  exact r.append (Reps.reps r k)
theorem AC {a b:Expr} {ta tb:DE} {pos:Pos} (ha:PED X a ta) (hb:PED X b tb):PLD X (.BinOp a .Mult b pos) (Cj ta tb):=by
 obtain ⟨Ta,pa,ra⟩:=ha.run
 obtain ⟨Tb,pb,rb⟩:=hb.run
 refine ⟨fun _ _ _ f h=>ha.mono _ _ _ (fun x _ h=>hb.mono _ _ _ (fun y _ h=>?_) h) h,_,cK zJ pa pb,fun {F} M H σ ρ Q rs h=>?_⟩
 ·cases x <;> first | exact h.elim | skip
  cases y <;> first | exact h.elim | exact ⟨h.1,f _ _ h.2⟩
 refine ra M H σ ρ _ rs (ha.mono _ _ _ (fun x ρ1 h M1 H1 v m1 rs1 r1=>?_) h)
 refine rb M1 H1 σ ρ1 _ rs1 (hb.mono _ _ _ (fun y ρ2 h M2 H2 u m2 rs2 r2=>?_) h)
 have r1:=r1.mv m2
 cases x <;> first | exact h.elim | skip
 cases y <;> first | exact h.elim | skip
 simp only [Rep] at r1 r2
 obtain ⟨l,xs,rfl,_,_,hl,rx⟩:=r1
 subst r2
 exact ⟨l,_,xs,rfl,rfl,hl,h.1.1.1,h.1.1.2,by rw [← rx.length]; exact h.1.2,fun p hp=>h.2 M2 H2 _ p _ (m1.trans m2) rs2 hp rfl (Reps.reps rx _)⟩
def gSlA:D->Option Int->Option Int->(D->Prop)->Prop
 | .tup xs,lo,hi,P=>P (.tup (cutD xs lo hi))
 | _,_,_,_=>False
abbrev dSlA (te:DE) (tl th:DO):DE:=fun ρ Q=>te ρ fun x ρ1=>tl ρ1 fun lo ρ2=>th ρ2 fun hi ρ3=>gSlA x lo hi fun d=>Q d ρ3
theorem AD {e:Expr} {lo hi:Option Expr} {te:DE} {tl th:DO} {pos p2:Pos} (he:PED X e te) (hl:POD X lo tl) (hh:POD X hi th):PED X (.Subscript e (.Slice lo hi none p2) pos) (dSlA te tl th):=by
 obtain ⟨T,p,r⟩:=he.run
 obtain ⟨Tl,pl,rl⟩:=hl.run
 obtain ⟨Th,ph,rh⟩:=hh.run
 have gm:∀ x lo hi P P',(∀ d,P d->P' d)->gSlA x lo hi P->gSlA x lo hi P':=fun x lo hi P P' f h=>by
  cases x <;> first | exact h.elim | exact f _ h
 refine ⟨fun _ _ _ f h=>he.mono _ _ _ (fun _ _ h=>hl.mono _ _ _ (fun _ _ h=>hh.mono _ _ _ (fun _ _ h=>gm _ _ _ _ _ (fun _ h=>f _ _ h) h) h) h) h,_,qk (SlR.or zE yq) p pl ph,fun {F} M H σ ρ Q rs h=>?_⟩
 refine r M H σ ρ _ rs (he.mono _ _ _ (fun x ρ1 h M1 H1 v m1 rs1 r1=>?_) h)
 refine rl M1 H1 σ ρ1 _ rs1 (hl.mono _ _ _ (fun lo ρ2 h M2 H2 m2 rs2=>?_) h)
 refine rh M2 H2 σ ρ2 _ rs2 (hh.mono _ _ _ (fun hi ρ3 h M3 H3 m3 rs3=>?_) h)
 have r3:=(r1.mv m2).mv m3
 obtain ⟨ds,rfl⟩:∃ ds,x = .tup ds:=by cases x <;> first | exact h.elim | exact ⟨_,rfl⟩
 have r3':=r3
 simp only [Rep] at r3
 obtain ⟨a,xs,rfl,ha,rx⟩:=r3
 by_cases hw:HT.sIx ds.length 0 lo=0 /\ HT.sIx ds.length ds.length hi=ds.length
 ·have e:cutD ds lo hi=ds:=by
   unfold cutD
   rw [hw.1,hw.2,List.drop_zero,Nat.sub_zero,List.take_length]
  exact .inr ⟨a,xs,rfl,SqT.of ha,by rw [← rx.length]; exact hw,h M3 _ _ ((m1.trans m2).trans m3) rs3 (by rw [e]; exact r3')⟩
 ·refine .inl ⟨a,xs,rfl,SqT.of ha,by rw [← rx.length]; exact hw,fun l hl=>h M3 _ _ (((m1.trans m2).trans m3).trans (.new hl)) (rs3.sameP (.new hl)) ?_⟩
  simp only [Rep]
  exact ⟨l,_,rfl,ak,(rx.cut lo hi).mv (.new hl)⟩
end
end DL
namespace L2
open PySem PySem.Spec PyProof.Rows
abbrev dz (h:Heap) (z TI TO:Addr) (f0 f1:Value):Prop :=
 h.get? z=some { cls:=.type "zip",dict:=none,data:=.fields #[f0,f1,.bool false,.ref TI,.ref TO],slots:=#[] }
abbrev cJ (h:Heap) (T:Addr) (xs:Array Value):Prop:=h.get? T=some { cls:=.type "tuple",data:=.seq xs }
def OwnF (f:Value):Prop:=f = .none∨∃ a:Int,f = .int a 0
abbrev itsL (n m:Nat):List Value:=(List.range m).map fun j=>Value.ref (n + j)
def KeptZ (n m:Nat) (h h':Heap):Prop:=∀ (b:Nat) o,b < n∨b=n + m∨n + m + 2 < b->h.get? b=some o->h'.get? b=some o
section
variable {prog:Program} {w:World} {A:Around} {E:Value->Shared->Prop} {s:Shared}
theorem iq {a:Addr} {Q:Option Obj->Shared->Prop} (h:Q (s.heap.get? a) s):wpAny (model prog w) A (loadIfAlive a) Q E s :=
 fun Γ p _=>by
  show Sem.wp _ Γ (.loadIfAlive a .pure) _ _ p s
  rw [Sem.wp_loadIfAlive]
  exact h
theorem vT {z TI TO:Addr} {f0 f1:Value} {Q:Bool->Shared->Prop} (hf:OwnF f0) (hz:dz s.heap z TI TO f0 f1) (q1:Q true s)
  (q2:∀ h' f1',dz h' z TI TO f0 f1'->Heap.SameBut z s.heap h'->Q false { s with heap:=h' }) :
  wpAny (model prog w) A (Builtin.SmallTypes.ownedTupleIsFree (.ref z)) Q E s:=by
 unfold Builtin.SmallTypes.ownedTupleIsFree
 refine wpAny_bind (wpAny_field hz rfl (x:=f0) rfl ?_)
 rcases hf with rfl | ⟨a,rfl⟩
 ·exact wpAny_pure q1
 ·show wpAny _ _ (loadIfAlive a.toNat >>= _) _ _ _
  refine wpAny_bind (iq ?_)
  cases e:s.heap.get? a.toNat with
  | none=>exact wpAny_pure q1
  | some o =>
   show wpAny _ _ (field (.ref z) 1 >>= _) _ _ _
   refine wpAny_bind (wpAny_field hz rfl (x:=f1) rfl ?_)
   by_cases hb:(f1 != .bool true)=true
   ·rw [if_pos hb]
    refine wpAny_bind (wpAny_setField_rec hz (by simp) fun h' hz' hs=>wpAny_pure (q2 h' (.bool true) ?_ hs))
    exact hz'
   ·rw [if_neg hb]
    refine wpAny_bind (wpAny_pure ?_)
    exact wpAny_pure (q2 s.heap f1 hz (Heap.SameBut.refl ..))
end
end L2
namespace L2
open PySem PySem.Spec PyProof.Rows
theorem fT {α:Type} {l:List α} {j:Nat} {p:α} (h:l[j]? = some p):j < l.length:=(List.getElem?_eq_some_iff.mp h).1
section
variable {h0 h h':Heap} {n k c:Nat} {src:List (Addr×Array Value)}
end
section
variable {prog:Program} {w:World} {A:Around} {E:Value->Shared->Prop} {s:Shared}
theorem fU {T:Addr} {ws:Array Value} {x:Value} {k:Nat} {Q:Unit->Shared->Prop} (hT:cJ s.heap T ws) (hz:ws.size <= sizeLine)
  (h:∀ h',cJ h' T (ws.setIfInBounds k x)->Heap.SameBut T s.heap h'->Q () { s with heap:=h' }) :
  wpAny (model prog w) A (updateSeq T (·.setIfInBounds k x)) Q E s:=by
 refine wpAny_updateSeq hT rfl (h _ ?_ (Heap.SameBut.update ..)) hz (by simp; omega)
 show Heap.get? _ _=_
 rw [Heap.get?_update_self _ hT rfl]
 simp [Obj.mapSeq]
theorem ui {α:Type} {l:List α} {c:Nat} {x:α} {r:List α} (h:l.drop c=x::r):l[c]? = some x /\ l.drop (c + 1)=r:=by
 have hc:c < l.length:=by
  rcases Nat.lt_or_ge c l.length with h' | h'
  ·exact h'
  ·rw [List.drop_eq_nil_of_le h'] at h; cases h
 rw [List.drop_eq_getElem_cons hc] at h
 cases h
 exact ⟨by simp,rfl⟩
theorem uj {n m c:Nat} (h:c < m):(itsL n m)[c]? = some (.ref (n + c)):=by
 unfold itsL
 rw [List.getElem?_map,List.getElem?_range h]
 rfl
def Told (src:List (Addr×Array Value)) (k c:Nat) (vs:List Value):Prop:=vs.length=c /\ ∀ (j:Nat) (p:Addr×Array Value),j < c->src[j]? = some p->p.2[k]? = vs[j]?
theorem Told.push {src:List (Addr×Array Value)} {k c:Nat} {vs:List Value} {p:Addr×Array Value} {v:Value} (t:Told src k c vs) (hc:src[c]? = some p) (hv:p.2[k]? = some v):Told src k (c + 1) (vs++[v]):=by
 refine ⟨by simp [t.1],fun j q hj hq=>?_⟩
 by_cases z:j=c
 ·subst z
  rw [hc] at hq
  cases hq
  rw [hv,List.getElem?_append_right (by rw [t.1]; exact Nat.le_refl _),t.1]
  simp
 ·rw [t.2 j q (by omega) hq,List.getElem?_append_left (by rw [t.1]; omega)]
end
end L2
namespace PySem
namespace F
end F
end PySem
namespace L2
open PySem PySem.Spec PyProof.Rows
abbrev tuO (xs:List Value):Obj:={ cls:=.type "tuple",data:=.seq xs.toArray }
abbrev ziO (TI TO:Addr):Obj:={ cls:=.type "zip",data:=.fields #[.none,.bool false,.bool false,.ref TI,.ref TO] }
section
variable {prog:Program} {w:World} {A:Around} {E:Value->Shared->Prop} {s:Shared}
end
end L2
namespace L2
open PySem PySem.Spec PyProof.Rows
section
variable {X:Cx} {pins:List (Addr×Obj)} {σ:St} {H:Hp} {s:Shared} {h':Heap}
end
def AE (xss:List (List V)) (i:Nat) (r:List V):Prop:=r.length=xss.length /\ ∀ (j:Nat) xs,xss[j]? = some xs->xs[i]? = r[j]?
def SrcV (xss:List (List V)) (src:List (Addr×Array Value)):Prop:=xss.length=src.length /\ ∀ (j:Nat) xs (p:Addr×Array Value),xss[j]? = some xs->src[j]? = some p->Vals xs p.2.toList
theorem Vals.got:∀ {xs:List V} {us:List Value} {i:Nat} {u:Value},Vals xs us->us[i]? = some u->∃ x,xs[i]? = some x /\ RelV x u:=fun {xs us i u} r e=>by
 have hi:i < us.length:=fT e
 have hx:xs[i]? = some (xs[i]'(by rw [r.length]; exact hi)):=by simp
 obtain ⟨u',e',ru⟩:=r.get hx
 rw [e] at e'
 cases e'
 exact ⟨_,hx,ru⟩
theorem nQ {i:Nat}:∀ {xss:List (List V)} {src:List (Addr×Array Value)} {vs:List Value},SrcV xss src->vs.length=src.length->(∀ (j:Nat) (p:Addr×Array Value),src[j]? = some p->p.2[i]? = vs[j]?)->∃ r,AE xss i r /\ Vals r vs
 | [],src,vs,hv,hl,_=>by
  have h0:src=[]:=List.length_eq_zero_iff.mp (by rw [← hv.1]; rfl)
  subst h0
  have h1:vs=[]:=List.length_eq_zero_iff.mp (by rw [hl]; rfl)
  subst h1
  exact ⟨[],⟨rfl,fun j xs h=>by simp at h⟩,.nil⟩
 | xs::xss,[],vs,hv,hl,_=>absurd hv.1 (by simp)
 | xs::xss,p::src,[],hv,hl,_=>absurd hl (by simp)
 | xs::xss,p::src,v::vs,hv,hl,h=>by
  obtain ⟨r,hr,rv⟩:=nQ (xss:=xss) (src:=src) (vs:=vs) (i:=i) ⟨by simpa using hv.1,fun j xs p h1 h2=>hv.2 (j + 1) xs p (by simpa using h1) (by simpa using h2)⟩ (by simpa using hl) fun j p hj=>by
   have:=h (j + 1) p (by simpa using hj)
   simpa using this
  have h0:=h 0 p rfl
  have h0:p.2[i]? = some v:=by simpa using h0
  obtain ⟨x,hx,rx⟩:=(hv.2 0 xs p rfl rfl).got (u:=v) (i:=i) (by rw [Array.getElem?_toList]; exact h0)
  refine ⟨x::r,⟨by simp [hr.1],fun j ys hj=>?_⟩,.cons rx rv⟩
  cases j with
  | zero=>simp at hj; subst hj; simpa using hx
  | succ j=>simpa using hr.2 j ys (by simpa using hj)
theorem qF {xss:List (List V)} {src:List (Addr×Array Value)} {i:Nat} {vs:List Value} (hv:SrcV xss src) (ht:Told src i src.length vs):∃ r,AE xss i r /\ Vals r vs :=
 nQ hv ht.1 fun j p hj=>ht.2 j p (fT hj) hj
section
variable {X:Cx}
theorem qG {n m b:Nat} (h:b < n∨n + m + 2 < b):b < n∨b=n + m∨n + m + 2 < b:=h.imp_right .inr
end
end L2
namespace PySem
namespace F
end F
end PySem
namespace L2
open PySem PySem.Spec PyProof.Rows
section
variable {X:Cx}
end
end L2
namespace L2
open PySem PySem.Spec PyProof.Rows
section
variable {X:Cx}
end
end L2
namespace DL
open PySem PySem.Spec PyProof.Rows L2
variable [TB]
variable [Frm]
section
variable {X:Cx}
end
end DL
namespace L2
open PySem PySem.Spec PyProof.Rows
section
variable {X:Cx}
theorem uk (f:Bool->Bool):∀ (bs:List Bool),(List.range bs.length).all (fun i=>f (bs.getD i false))=bs.all f:=by
 intro bs
 rw [Bool.eq_iff_iff]
 simp only [List.all_eq_true,List.mem_range]
 constructor
 ·intro h b hb
  obtain ⟨i,hi,e⟩:=List.mem_iff_getElem.mp hb
  have:=h i hi
  rw [List.getD_eq_getElem?_getD,List.getElem?_eq_getElem hi] at this
  subst e
  simpa using this
 ·intro h i hi
  have:=h bs[i] (List.getElem_mem hi)
  rw [List.getD_eq_getElem?_getD,List.getElem?_eq_getElem hi]
  simpa using this
theorem ul:∀ (bs:List Bool),(List.range bs.length).any (fun i=>bs.getD i false)=bs.any id:=by
 intro bs
 rw [Bool.eq_iff_iff]
 simp only [List.any_eq_true,List.mem_range]
 constructor
 ·rintro ⟨i,hi,h⟩
  rw [List.getD_eq_getElem?_getD,List.getElem?_eq_getElem hi] at h
  exact ⟨bs[i],List.getElem_mem hi,by simpa using h⟩
 ·rintro ⟨b,hb,h⟩
  obtain ⟨i,hi,e⟩:=List.mem_iff_getElem.mp hb
  refine ⟨i,hi,?_⟩
  rw [List.getD_eq_getElem?_getD,List.getElem?_eq_getElem hi]
  subst e
  simpa using h
theorem jV {prog:Program} {w:World} {A:Around} {bs:List Bool} {its:List Value} (r:Vals (bs.map V.bl) its):TruthOf prog w A (fun i v=>its.toArray[i]? = some v) (fun i=>bs.getD i false):=by
 intro i v s Q E h q
 have h:its[i]? = some v:=by simpa using h
 have hi:i < bs.length:=by
  have:=r.length
  have:=fT h
  simp at *
  omega
 obtain ⟨u,hu,ru⟩:=r.get (i:=i) (x:=.bl bs[i]) (by simp [hi])
 rw [h] at hu
 cases hu
 cases ru
 have q:Q (bs.getD i false) s:=q
 rw [List.getD_eq_getElem?_getD,List.getElem?_eq_getElem hi] at q
 exact wpAny_truthy_bool q
theorem vU (hc:X.calm=true):fA X (.builtin "all") (fun xs H Q=>∃ (p:Addr) (bs:List Bool),xs=[.ref p] /\ SqL X.K H p (bs.map V.bl) /\ Q (.bl (bs.all id)) H):=by
 intro pins s σ H xs us Q I r h
 obtain ⟨p,bs,rfl,hl,q⟩:=h
 obtain ⟨u,rfl,e⟩:=rJ r
 cases e
 obtain ⟨its,rv,pl,_⟩:=I.list hl
 have hlen:its.toArray.size=bs.length:=by have:=rv.length; simpa using this.symm
 have hne:p≠s.heap.objs.size:=by
  obtain ⟨o,ho,_⟩:=pl.isList
  exact Nat.ne_of_lt (Heap.lt_size ho)
 refine call_all_walk (wpAny_pyIter_list pl.isList ⟨s.heap.objs.size,_,_,_,_,_,_,rfl,Walks.list (A:=X.A.in1) (I.ok.hd hc) s.heap.objs.size p hne its.toArray,⟨⟨_,Heap.get?_push_size _ rfl,rfl,rfl⟩,pl.isList.push _⟩,jV rv,fun h' tk hk=>⟨.bl (bs.all id),H,I.kept fun b o e=>hk b o ?_ (Heap.get?_push_of_some _ e),?_,q⟩⟩)
 ·intro hb
  have:b=s.heap.objs.size:=by simpa using hb
  exact absurd (Heap.lt_size e) (by rw [this]; exact Nat.lt_irrefl _)
 ·show Value.bool _=Value.bool _
  rw [hlen]
  have:=uk id bs
  simp only [id] at this ⊢
  rw [this]
theorem vV (hc:X.calm=true):fA X (.builtin "any") (fun xs H Q=>∃ (p:Addr) (bs:List Bool),xs=[.ref p] /\ SqL X.K H p (bs.map V.bl) /\ Q (.bl (bs.any id)) H):=by
 intro pins s σ H xs us Q I r h
 obtain ⟨p,bs,rfl,hl,q⟩:=h
 obtain ⟨u,rfl,e⟩:=rJ r
 cases e
 obtain ⟨its,rv,pl,_⟩:=I.list hl
 have hlen:its.toArray.size=bs.length:=by have:=rv.length; simpa using this.symm
 have hne:p≠s.heap.objs.size:=by
  obtain ⟨o,ho,_⟩:=pl.isList
  exact Nat.ne_of_lt (Heap.lt_size ho)
 refine call_any_walk (wpAny_pyIter_list pl.isList ⟨s.heap.objs.size,_,_,_,_,_,_,rfl,Walks.list (A:=X.A.in1) (I.ok.hd hc) s.heap.objs.size p hne its.toArray,⟨⟨_,Heap.get?_push_size _ rfl,rfl,rfl⟩,pl.isList.push _⟩,jV rv,fun h' tk hk=>⟨.bl (bs.any id),H,I.kept fun b o e=>hk b o ?_ (Heap.get?_push_of_some _ e),?_,q⟩⟩)
 ·intro hb
  have:b=s.heap.objs.size:=by simpa using hb
  exact absurd (Heap.lt_size e) (by rw [this]; exact Nat.lt_irrefl _)
 ·show Value.bool _=Value.bool _
  rw [hlen,ul]
end
end L2
namespace DL
open PySem PySem.Spec L2
open PyProof.Rows hiding St
variable [TB]
variable [Frm]
section
variable {X:Cx}
def pF:List D->Option (List Bool)
 | []=>some []
 | .bl b::r=>(pF r).map (b :: ·)
 | _=>none
theorem nR:∀ bs:List Bool,pF (bs.map D.bl)=some bs
 | []=>rfl
 | n::r=>by simp [pF,nR r]
theorem qH:∀ {ds:List D} {bs:List Bool},pF ds=some bs->ds=bs.map D.bl
 | [],ns,h=>by cases h; rfl
 | .bl i::r,ns,h=>by
  simp only [pF,Option.map_eq_some_iff] at h
  obtain ⟨ms,h,rfl⟩:=h
  rw [qH h]; rfl
theorem mj {K:PySem.W.Frag} {pp:Option Addr} {M:List Addr} {H:Hp}:∀ {ns:List Bool} {xs:List V},Reps K pp M H (ns.map D.bl) xs->xs=ns.map V.bl
 | [],xs,h=>by simpa only [List.map_nil,Reps] using h
 | n::r,xs,h=>by
  simp only [List.map_cons,Reps,Rep] at h
  obtain ⟨x,t,rfl,rfl,h⟩:=h
  rw [mj h]; rfl
def gTru (f:List Bool->Bool):DSp:=fun ds P=>match ds with
 | [.lst xs]=>match pF xs with
  | some bs=>P (.bl (f bs))
  | none=>False
 | _=>False
theorem ir {f:List Bool->Bool} {bs:List Bool} {P:D->Prop} (h:P (.bl (f bs))):gTru f [.lst (bs.map D.bl)] P:=by
 unfold gTru
 simp only [nR]
 exact h
theorem jn {f:List Bool->Bool} {ds:List D} {P:D->Prop} (h:gTru f ds P):∃ bs:List Bool,ds=[.lst (bs.map D.bl)] /\ P (.bl (f bs)):=by
 unfold gTru at h
 split at h
 ·rename_i xs
  cases e:pF xs with
  | none=>rw [e] at h; exact h.elim
  | some ns =>
   rw [e] at h
   exact ⟨ns,by rw [qH e],h⟩
 ·exact h.elim
theorem um (hc:X.calm=true:=by rfl):CallD X (.builtin "all") (gTru fun bs=>bs.all id):=by
 refine ⟨fun ds P P' f h=>?_,_,vU hc,fun {pp} M H ds vs Q _ r h=>?_⟩
 ·obtain ⟨ns,rfl,h2⟩:=jn h
  exact ir (f _ h2)
 ·obtain ⟨ns,rfl,h2⟩:=jn h
  simp only [Reps,Rep] at r
  obtain ⟨x,_,rfl,⟨a,ys,rfl,_,_,ha,ry⟩,rfl⟩:=r
  refine ⟨a,ns,rfl,SqL.of (by rw [ha,mj ry]),h2 H _ .refl eO⟩
theorem AF (hc:X.calm=true:=by rfl):CallD X (.builtin "any") (gTru fun bs=>bs.any id):=by
 refine ⟨fun ds P P' f h=>?_,_,vV hc,fun {pp} M H ds vs Q _ r h=>?_⟩
 ·obtain ⟨ns,rfl,h2⟩:=jn h
  exact ir (f _ h2)
 ·obtain ⟨ns,rfl,h2⟩:=jn h
  simp only [Reps,Rep] at r
  obtain ⟨x,_,rfl,⟨a,ys,rfl,_,_,ha,ry⟩,rfl⟩:=r
  refine ⟨a,ns,rfl,SqL.of (by rw [ha,mj ry]),h2 H _ .refl eO⟩
theorem fm {x:Str} {pos:Pos} {i:Int} {t:Tok} (hg:Gl X x) (hm:X.mg x=some (.int i t)) (hd:(x == ("__debug__" : Str))=false:=by decide):PED X (.Name x pos) (dC (.int i)) :=
 .con (sI (v:=.int i) hg hm ⟨t,rfl⟩ hd) fun _ _ _=>by simp only [Rep]
end
end DL
namespace L2
open PySem PySem.Spec PyProof.Rows
section
variable {prog:Program} {w:World} {A:Around} {E:Value->Shared->Prop} {s:Shared}
theorem yr {elts:List Expr} {x1} {pos:Pos} {z TI TO T:Addr} {f0 f1:Value} {Q:Unit->Shared->Prop} (hf:OwnF f0) (hz:dz s.heap z TI TO f0 f1)
  (hQ:∀ h' f0',OwnF f0'->dz h' z TI TO f0' f1->Heap.SameBut z s.heap h'->Q () { s with heap:=h' }) :
  wpAny (model prog w) A (letOwnedTupleGo (.Tuple elts x1 pos) (.ref z) (.ref T)) Q E s:=by
 unfold letOwnedTupleGo
 refine wpAny_bind (wpAny_load hz ?_)
 show wpAny _ _ (if (["enumerate","zip","dict_itemiterator","dict_reverseitemiterator","odict_iterator","itertools.zip_longest","itertools.pairwise"].contains "zip" &&
   (#[f0,f1,.bool false,.ref TI,.ref TO]:Array Value)[0]? == some (rawInt T))=true then _ else _) Q E s
 split
 ·refine wpAny_bind (wpAny_rule ?_)
  show wpAny _ _ (setField (.ref z) 0 .none) Q E s
  exact wpAny_setField_rec hz (by simp) fun h' hz' hs'=>hQ h' .none (.inl rfl) hz' hs'
 ·exact wpAny_pure (hQ s.heap f0 hf hz (Heap.SameBut.refl _ _))
end
def fpZ (n m:Nat):List Addr:=(List.range (m + 3)).map (n + ·)
theorem fpZ_mem {n m b:Nat}:b∈fpZ n m↔n <= b /\ b < n + m + 3:=by
 unfold fpZ
 simp only [List.mem_map,List.mem_range]
 constructor
 ·rintro ⟨a,h1,h2⟩
  omega
 ·rintro ⟨h1,h2⟩
  exact ⟨b - n,by omega,by omega⟩
theorem uo {n m c:Nat} (h:c∈fpZ n m):c=n + m + 2∨c=n + m∨c=n + m + 1∨(c - n < m /\ n + (c - n)=c):=by
 have:=fpZ_mem.mp h
 omega
theorem pG {n m b:Nat} (h:b∉fpZ n m):b < n∨n + m + 2 < b:=by
 have:¬ (n <= b /\ b < n + m + 3):=fun z=>h (fpZ_mem.mpr z)
 omega
theorem AG {n m b:Nat} (h:b∉fpZ n m):b≠n + m + 2:=by
 have:=pG h
 omega
section
variable {X:Cx}
end
end L2
namespace DL
open PySem PySem.Spec PyProof.Rows L2
variable [TB]
variable [Frm]
section
variable {X:Cx}
end
end DL
namespace DL
open PySem PySem.Spec L2
open PyProof.Rows hiding St
variable [TB]
variable [Frm]
mutual
def flD:D->Prop
 | .non=>True
 | .bl _=>True
 | .int _=>True
 | .str _=>True
 | .ty _=>True
 | .cls _=>True
 | .tup ds=>flDs ds
 | _=>False
def flDs:List D->Prop
 | []=>True
 | d::r=>flD d /\ flDs r
end
omit [Frm] in
mutual
theorem Rep.flat {K:PySem.W.Frag} {pp:Option Addr} {M M':List Addr} {H:Hp}:∀ (d:D) (v:V),flD d->Rep K pp M H d v->Rep K pp M' H d v
 | .non,_,_,h=>by simp only [Rep] at h ⊢; exact h
 | .bl _,_,_,h=>by simp only [Rep] at h ⊢; exact h
 | .int _,_,_,h=>by simp only [Rep] at h ⊢; exact h
 | .str _,_,_,h=>by simp only [Rep] at h ⊢; exact h
 | .ty _,_,_,h=>by simp only [Rep] at h ⊢; exact h
 | .cls _,_,_,h=>by simp only [Rep] at h ⊢; exact h
 | .tup ds,_,f,h=>by
  simp only [Rep] at h ⊢
  simp only [flD] at f
  obtain ⟨a,xs,e,ha,r⟩:=h
  exact ⟨a,xs,e,ha,Reps.flat ds xs f r⟩
 | .lst _,_,f,_=>by simp only [flD] at f
 | .dK _ _,_,f,_=>by simp only [flD] at f
 | .dT _ _,_,f,_=>by simp only [flD] at f
 | .pen,_,f,_=>by simp only [flD] at f
 | .exc _,_,f,_=>by simp only [flD] at f
 | .exa _ _,_,f,_=>by simp only [flD] at f
theorem Reps.flat {K:PySem.W.Frag} {pp:Option Addr} {M M':List Addr} {H:Hp}:∀ (ds:List D) (xs:List V),flDs ds->Reps K pp M H ds xs->Reps K pp M' H ds xs
 | [],xs,_,h=>by simp only [Reps] at h ⊢; exact h
 | d::ds,xs,f,h=>by
  simp only [Reps] at h ⊢
  simp only [flDs] at f
  obtain ⟨x,r,e,h1,h2⟩:=h
  exact ⟨x,r,e,Rep.flat d x f.1 h1,Reps.flat ds r f.2 h2⟩
end
section
variable {K:PySem.W.Frag} {F:Fx} {M:List Addr} {H:Hp} {σ:St} {ρ:DS}
omit [TB] [Frm] in
mutual
theorem RO.nt {pp:Option Addr}:∀ (q:O) (v:V) (A:List Addr),RO K pp M H q v A->∀ a∈A,∀ ps,H a≠some (.tbl ps)
 | .val d,v,A,h,a,ha=>by simp only [RO] at h; rw [h.1] at ha; simp at ha
 | .lst os,v,A,h,a,ha=>by
  simp only [RO] at h
  obtain ⟨b,xs,B,e,hb,rfl,r⟩:=h
  rcases List.mem_cons.mp ha with rfl | ha
  ·rw [hb]; intro _ z; cases z
  ·exact ROs.nt os xs B r a ha
 | .dct ks os,v,A,h,a,ha=>by
  simp only [RO] at h
  obtain ⟨b,kvs,B,e,hb,e2,rfl,r⟩:=h
  rcases List.mem_cons.mp ha with rfl | ha
  ·rw [hb]; intro _ z; cases z
  ·exact ROs.nt os _ B r a ha
 | .tup os,v,A,h,a,ha=>by
  simp only [RO] at h
  obtain ⟨b,xs,e,hb,r⟩:=h
  exact ROs.nt os xs A r a ha
 | .dck ks os,v,A,h,a,ha=>by
  simp only [RO] at h
  obtain ⟨b,kvs,B,e,hb,e2,rfl,r⟩:=h
  rcases List.mem_cons.mp ha with rfl | ha
  ·rw [hb]; intro _ z; cases z
  ·exact ROs.nt os _ B r a ha
theorem ROs.nt {pp:Option Addr}:∀ (os:List O) (xs:List V) (A:List Addr),ROs K pp M H os xs A->∀ a∈A,∀ ps,H a≠some (.tbl ps)
 | [],xs,A,h,a,ha=>by simp only [ROs] at h; rw [h.2] at ha; simp at ha
 | o::os,xs,A,h,a,ha=>by
  simp only [ROs] at h
  obtain ⟨x,r,B,C,e,rfl,h1,h2⟩:=h
  rcases List.mem_append.mp ha with ha | ha
  ·exact RO.nt o x B h1 a ha
  ·exact ROs.nt os r C h2 a ha
end
open Classical in
open Classical in
end
section
variable {X:Cx} {e:Expr} {st:Stmt}
end
section
variable {K:PySem.W.Frag} {pp:Option Addr} {M:List Addr} {H:Hp}
omit [Frm] in
mutual
theorem RO.live:∀ (q:O) (v:V) (A:List Addr),RO K pp M H q v A->∀ a∈A,H a≠none
 | .val d,v,A,h,a,ha=>by simp only [RO] at h; rw [h.1] at ha; simp at ha
 | .lst os,v,A,h,a,ha=>by
  simp only [RO] at h
  obtain ⟨b,xs,B,e,hb,rfl,r⟩:=h
  rcases List.mem_cons.mp ha with rfl | ha
  ·rw [hb]; intro z; cases z
  ·exact ROs.live os xs B r a ha
 | .dct ks os,v,A,h,a,ha=>by
  simp only [RO] at h
  obtain ⟨b,kvs,B,e,hb,e2,rfl,r⟩:=h
  rcases List.mem_cons.mp ha with rfl | ha
  ·rw [hb]; intro z; cases z
  ·exact ROs.live os _ B r a ha
 | .tup os,v,A,h,a,ha=>by
  simp only [RO] at h
  obtain ⟨b,xs,e,hb,r⟩:=h
  exact ROs.live os xs A r a ha
 | .dck ks os,v,A,h,a,ha=>by
  simp only [RO] at h
  obtain ⟨b,kvs,B,e,hb,e2,rfl,r⟩:=h
  rcases List.mem_cons.mp ha with rfl | ha
  ·rw [hb]; intro z; cases z
  ·exact ROs.live os _ B r a ha
theorem ROs.live:∀ (os:List O) (xs:List V) (A:List Addr),ROs K pp M H os xs A->∀ a∈A,H a≠none
 | [],xs,A,h,a,ha=>by simp only [ROs] at h; rw [h.2] at ha; simp at ha
 | o::os,xs,A,h,a,ha=>by
  simp only [ROs] at h
  obtain ⟨x,r,B,C,e,rfl,h1,h2⟩:=h
  rcases List.mem_append.mp ha with ha | ha
  ·exact RO.live o x B h1 a ha
  ·exact ROs.live os r C h2 a ha
end
omit [Frm] in
theorem ROs.vals:∀ {ds:List D} {xs:List V},Reps K pp M H ds xs->ROs K pp M H (ds.map O.val) xs []
 | [],xs,h=>by simp only [Reps] at h; simp only [List.map_nil,ROs]; exact ⟨h,trivial⟩
 | d::ds,xs,h=>by
  simp only [Reps] at h
  obtain ⟨x,r,rfl,h1,h2⟩:=h
  simp only [List.map_cons,ROs,RO]
  exact ⟨x,r,[],[],rfl,rfl,⟨rfl,h1⟩,ROs.vals h2⟩
end
section
variable {K:PySem.W.Frag} {F:Fx} {M:List Addr} {H:Hp} {σ:St} {ρ:DS} {i:Nat} {q q':O} {l:Addr} {xs ys:List V}
theorem RSt.newObj {M1:List Addr} {H1 H':Hp} {A:List Addr} {v:V} (r:RSt K F M1 H1 σ ρ) (s:SameP K F.pp H1 H') (hn:A.Nodup) (hA:∀ a∈A,H1 a=none /\ F.pp≠some a) (ro:RO K F.pp (A++M1) H' q v A) (i:Nat) :
  Mv K F.pp M1 H1 (A++M1) H' /\ RSt K F (A++M1) H' (σ.set i (some v)) (ρ.set i (.obj q)):=by
 have m1:Mv K F.pp M1 H1 M1 H':=s.mv
 have m:Mv K F.pp M1 H1 (A++M1) H':=by
  refine ⟨m1.tup,fun a o e n p=>⟨(m1.oth a o e n p).1,fun z=>?_⟩,m1.pen,m1.tb⟩
  rcases List.mem_append.mp z with z | z
  ·rw [(hA a z).1] at e; cases e
  ·exact n z
 have f0:∀ a∈A,F.H0 a=none:=fun a ha=>by
  cases e:F.H0 a with
  | none=>rfl
  | some o=>exact absurd (hA a ha).1 (r.same.live a (by rw [e]; intro z; cases z))
 refine ⟨m,⟨by simp [r.len],fun j t o h1 h2=>?_,r.ow.step m i (fun j e=>List.getElem?_set_ne (Ne.symm e)) (fun j e=>List.getElem?_set_ne (Ne.symm e)) (fun A0 _ _=>⟨A,fun t o e1 e2=>?_,fun b hb=>⟨List.mem_append.mpr (.inl hb),f0 b hb,(hA b hb).2,.inr fun z=>r.liv.m b z (hA b hb).1⟩,fun a ha p0 z0 _=>⟨List.mem_append.mpr (.inr ha),(s.ow (M:=M1) a ha p0 z0).2⟩⟩),fun a ha=>List.mem_append.mpr (.inr (r.sub a ha)),r.same.trans s.toSameQ,r.old,⟨fun a ha=>?_,fun p e=>s.live p (r.liv.p p e)⟩,r.lk.cl m⟩⟩
 ·by_cases e:i=j
  ·subst e
   rw [aP h1,aP h2]
   exact ⟨v,rfl⟩
  ·rw [List.getElem?_set_ne e] at h1 h2
   have q':=r.sl j t o h1 h2
   cases t with
   | nil=>trivial
   | val d=>obtain ⟨v,e,q⟩:=q'; exact ⟨v,e,q.mv m⟩
   | pin w d=>obtain ⟨v,e,ew,q⟩:=q'; exact ⟨v,e,ew,q.mv m⟩
   | own es =>
    obtain ⟨l',zs,rfl,hm',h0',hp',hl'',hr'⟩:=q'
    exact ⟨l',zs,rfl,List.mem_append.mpr (.inr hm'),h0',hp',(s.ow (M:=M1) l' hm' hp' h0').2 _ hl'' (by intro _ z; cases z),hr'.mv m⟩
   | obj q=>exact q'
 ·rw [aP e1,aP e2]
  exact ⟨hn,v,rfl,ro⟩
 ·rcases List.mem_append.mp ha with ha | ha
  ·exact RO.live q v A ro a ha
  ·exact s.live a (r.liv.m a ha)
end
section
variable {X:Cx} {st:Stmt} {rest:List Stmt} {t:DTS} {u:DTB} {e:Expr} {te:DE} {pos:Pos}
end
section
variable {X:Cx}
end
end DL
namespace L2
open PySem PySem.Spec PyProof.Rows
section
variable {X:Cx}
end
end L2
namespace DL
open PySem PySem.Spec L2
open PyProof.Rows hiding St
variable [TB]
variable [Frm]
section
variable {X:Cx}
end
section
variable {X:Cx}
end
end DL
namespace PySem
section
variable {prog:Program} {w:World} {K:Type} [DecidableEq K] {knd:HeapKind prog w K} {A:Around} {E:Value->Shared->Prop} {z:Shared}
theorem vW {c b:Addr} {ps:List (K×Addr×Value)} {q:K} {x:Value} {R:Value->Shared->Prop} (room:knd.room A) (isK:knd.is z.heap q b) (D:z.heap.DictOfH knd c ps) (few:ps.length <= sizeLine)
  (old:∀ p,atKey ps q=some p->R p.2 { z with toks:=z.toks + knd.draws q })
  (new:atKey ps q=none->∀ h2,h2.DictOfH knd c (storedH ps q b x)->Heap.SameBut c z.heap h2->R x { z with heap:=h2,toks:=z.toks + knd.draws q }) :
  wpAny (model prog w) A (dictSetDefault c (.ref b) x) R E z:=by
 obtain ⟨ob,en,ep,g1,g2,g3,g4,g5,g6⟩:=D
 unfold dictSetDefault
 try with_reducible refine wpAny_holding ?_
 refine wpAny_bind (knd.pyHash room isK ?_)
 refine wpAny_bind (wpAny_dictFind_heap (s:={ z with toks:=z.toks + knd.draws q }) room isK g1 g3 g4 g5 g6 (fun none_=>?_) (fun j p at_=>?_))
 ·have few2:en.size <= sizeLine:=by rw [size_of_entries g4]; exact few
  have a0:=atKey_none_of_get none_
  refine wpAny_bind (wpAny_rule (wpAny_bind (wpAny_updateDictKeys (hz:=few2) (s:={ z with toks:=z.toks + knd.draws q }) g1 g3 (wpAny_pure (new a0 _ ⟨_,_,ep + 1,Heap.get?_update_self _ g1 (Obj.isFreed_of_dict (Obj.data_mapDictKeys g3 _)),g2.mapDictKeys _,Obj.data_mapDictKeys g3 _,?_,?_,?_⟩ (Heap.SameBut.update ..))))))
  all_goals rw [storedH_new a0]
  ·simp [g4,entryOfKey]
  ·intro y hy
   rcases List.mem_append.mp hy with hy | hy
   ·exact knd.keeps (g5 y hy) g1 g3 (Heap.SameBut.update ..)
   ·rw [List.mem_singleton.mp hy]
    exact knd.keeps isK g1 g3 (Heap.SameBut.update ..)
  ·rw [List.map_append,List.map_singleton]
   refine List.nodup_append.mpr ⟨g6,List.nodup_cons.mpr ⟨by simp,List.nodup_nil⟩,fun y hy u hu e=>?_⟩
   have e:y=q:=by rw [List.mem_singleton.mp hu] at e; exact e
   subst e
   exact not_mem_keys_of_get none_ hy
 ·refine wpAny_bind (wpAny_dictEntries (s:={ z with toks:=z.toks + knd.draws q }) g1 g3 ?_)
  rw [entry_at g4 j,at_]
  exact wpAny_bind (wpAny_rule (wpAny_pure (old p (atKey_of_get g6 at_))))
theorem kO (knd:HeapKind prog w K) (c b:Addr) (x:Value) (plain:(c == sysModules)=false) :
  MeetsIn prog w (Builtin.«dict.setdefault» ⟨[.ref c,.ref b,x],[]⟩) (fun A R z=>knd.room A.in1 /\ ∃ q ps,knd.is z.heap q b /\ z.heap.DictOfH knd c ps /\ ps.length <= sizeLine /\
   (∀ p,atKey ps q=some p->R (.ok (.ret p.2)) { z with toks:=z.toks + knd.draws q }) /\
   (atKey ps q=none->∀ h2,h2.DictOfH knd c (storedH ps q b x)->Heap.SameBut c z.heap h2->R (.ok (.ret x)) { z with heap:=h2,toks:=z.toks + knd.draws q })) :=
 .of_wp fun A R z ⟨room,q,ps,isK,D,few,old,new⟩=>by
  unfold Builtin.«dict.setdefault»
  refine wpAny_bind ?_
  unfold Builtin.Dict.keyAndDefault
  refine wpAny_bind (wpAny_notOrdered_dict D.typeIs ?_)
  show wpAny _ _ (pure (c,Value.ref b,some x)) _ _ z
  refine wpAny_pure ?_
  show wpAny _ _ (if (c == sysModules)=true then _ else (dictSetDefault c (.ref b) x >>= _)) _ _ z
  rw [if_neg (by rw [plain]; exact Bool.false_ne_true)]
  exact wpAny_bind (vW room isK D few (fun p e=>wpAny_pure ⟨p.2,rfl,old p e⟩) fun e h2 D2 sb=>wpAny_pure ⟨x,rfl,new e h2 D2 sb⟩)
end
end PySem
namespace L2
open PySem PySem.Spec PyProof.Rows
section
variable {X:Cx}
def Ck:V->List V->Hp->VK->Prop:=fun x vs H Q=>∃ a kvs k b y,x = .ref a /\ vs=[.ref b,y] /\ H a=some (.dT kvs) /\ H b=some (.tup (k.map kV)) /\ kvs.length < sizeLine /\
 (∀ v,valV kvs k=some v->Q v H) /\ (valV kvs k=none->Q y (upd H a (.dT (putK kvs k y))))
theorem mq (hu:X.A.units + 1 < cLine):MtM X "dict.setdefault" Ck:=by
 intro pins s σ H x vs v us Q I rx rv h
 obtain ⟨a,kvs,k,b,y,rfl,rfl,e,eb,l,h1,h2⟩:=h
 cases rx
 cases rv with
 | cons r1 rr =>
  obtain ⟨u,rfl,ru⟩:=Vals.one rr
  cases r1
  obtain ⟨z,plain,xs,rel,dd⟩:=xI I.hok e
  have hz:xs.length <= sizeLine:=by rw [← Paired.length rel]; exact z
  have hl:(putK kvs k y).length <= sizeLine:=by have:=fO kvs k y; omega
  refine call_meetsIn F.slot_dict_setdefault dd.typeIs F.entry_dict_setdefault (F.args_dict_setdefault_3 _ _ _) (kO (tupleKind (bF X.prog X.w)) a b u plain) ⟨tupleKind_room_in1 hu,k,xs,nz I.hok eb,dd,hz,fun p hp=>?_,fun hn h' dd' hs=>?_⟩
  ·have q:=rel.val k
   rw [hp] at q
   cases ev:valV kvs k with
   | none=>rw [ev] at q; exact q.elim
   | some v' =>
    rw [ev] at q
    exact ⟨v',H,I.tok _,q,h1 v' ev⟩
  ·have q:=rel.val k
   rw [hn] at q
   cases ev:valV kvs k with
   | some v'=>rw [ev] at q; exact q.elim
   | none =>
    obtain ⟨q,es,ep,hq,h2',h3,h4,_,h5⟩:=dd'
    refine ⟨y,_,oO (ob:=.dT (putK kvs k y)) I (by rw [e]; exact True.intro) hs ⟨q,hq⟩ ⟨hl,plain,_,(rel.put k eb ru).keeps fun c ys ec=>?_,q,es,ep,hq,h2',h3,h4,h5⟩,ru,h2 ev⟩
    rw [aj (kL ec e (fun z=>nomatch z))]
    exact ec
end
end L2
namespace L2
open PySem PySem.Spec PyProof.Rows PySem.W
def kRun {α:Type} (c:Nat->Nat->Bool):KasT α->α
 | .ret a=>a
 | .ask i j k=>kRun c (k (c i j))
def KGood {α:Type} (N:Nat) (P:α->Prop):KasT α->Prop
 | .ret a=>P a
 | .ask i j k=>(i < N /\ j < N) /\ ∀ b,KGood N P (k b)
theorem KGood.bind {α β:Type} {N:Nat} {P:α->Prop} {R:β->Prop} {f:α->KasT β} (hf:∀ a,P a->KGood N R (f a)):∀ (t:KasT α),KGood N P t->KGood N R (t.bind f)
 | .ret a,h=>hf a h
 | .ask i j k,h=>⟨h.1,fun b=>KGood.bind hf (k b) (h.2 b)⟩
theorem KGood.end {α:Type} {N:Nat} {P:α->Prop} (c:Nat->Nat->Bool):∀ (t:KasT α),KGood N P t->P (kRun c t)
 | .ret a,h=>h
 | .ask i j k,h=>KGood.end c (k (c i j)) (h.2 _)
def PmN (N:Nat) (p:Array Nat):Prop:=p.toList.Perm (List.range N)
section
variable {N:Nat} {p:Array Nat}
theorem PmN.lt (h:PmN N p) (h0:0 < N) (i:Nat):p.getD i 0 < N:=by
 by_cases hi:i < p.size
 ·have e:p.getD i 0=p[i]:=by simp [Array.getD,hi]
  have hm:p[i]∈p.toList:=Array.mem_toList_iff.mpr (Array.getElem_mem hi)
  rw [e]
  exact List.mem_range.mp (h.mem_iff.mp hm)
 ·have e:p.getD i 0=0:=by simp [Array.getD,hi]
  rw [e]
  exact h0
theorem PmN.rev (h:PmN N p) (i j:Nat):PmN N (kas_rev p i j):=(Array.perm_iff_toList_perm.mp (mirror_perm _ _ _ _)).trans h
theorem PmN.bub (h:PmN N p) (i j:Nat):PmN N (bubble p i j):=(Array.perm_iff_toList_perm.mp (bubble_perm _ _ _)).trans h
theorem mr (h0:0 < N) (h:PmN N p):∀ (f n:Nat),KGood N (fun _=>True) (kas_asc p f n)
 | 0,n=>trivial
 | f + 1,n=>⟨⟨h.lt h0 _,h.lt h0 _⟩,fun b=>by
  dsimp only
  split
  ·trivial
  ·exact mr h0 h f (n + 1)⟩
theorem gL (h0:0 < N):∀ (f:Nat) (p:Array Nat) (n q:Nat),PmN N p->KGood N (fun r=>PmN N r.1) (kas_desc f p n q)
 | 0,p,n,q,h=>h
 | f + 1,p,n,q,h=>⟨⟨h.lt h0 _,h.lt h0 _⟩,fun b=>by
  dsimp only
  split
  ·split
   ·exact gL h0 f _ _ _ (h.rev _ _)
   ·exact gL h0 f _ _ _ h
  ·refine ⟨⟨h.lt h0 _,h.lt h0 _⟩,fun d=>?_⟩
   dsimp only
   split
   ·exact h
   ·exact gL h0 f _ _ _ h⟩
theorem lu (h0:0 < N) (h:PmN N p) (n m:Nat):KGood N (fun r=>PmN N r.2) (kas_tail3 n m p):=by
 unfold kas_tail3
 refine KGood.bind (N:=N) (P:=fun _=>True) (R:=fun (r:Nat×Array Nat)=>PmN N r.2) ?_ _ (mr h0 (h.rev 0 n) _ _)
 intro m _
 exact h.rev 0 n
theorem gM (h0:0 < N) (h:PmN N p) (n m:Nat):KGood N (fun r=>PmN N r.2) (kas_descPart n m p):=KGood.bind (fun r hr=>by
 split
 ·exact lu h0 (hr.rev _ _) _ _
 ·exact lu h0 hr _ _) _ (gL h0 _ _ _ _ h)
theorem lw (h0:0 < N) (h:PmN N p) (m:Nat):KGood N (fun r=>PmN N r.2) (kas_count m p):=KGood.bind (fun n _=>by
 split
 ·exact h
 ·split
  ·refine ⟨⟨h.lt h0 _,h.lt h0 _⟩,fun b=>?_⟩
   dsimp only
   split
   ·exact h
   ·exact gM h0 (h.rev _ _) _ _
  ·exact gM h0 h _ _) _ (mr h0 h _ _)
theorem iu (h0:0 < N) (h:PmN N p) (k:Nat):∀ (f l r:Nat),KGood N (fun _=>True) (kas_place p k f l r)
 | 0,l,r=>trivial
 | f + 1,l,r=>by
  unfold kas_place
  split
  ·trivial
  ·refine ⟨⟨h.lt h0 _,h.lt h0 _⟩,fun b=>?_⟩
   dsimp only
   split
   ·exact iu h0 h k f _ _
   ·exact iu h0 h k f _ _
theorem qI (h0:0 < N):∀ (f:Nat) (p:Array Nat) (k:Nat),PmN N p->KGood N (PmN N) (kas_bin f p k)
 | 0,p,k,h=>h
 | f + 1,p,k,h=>KGood.bind (fun l _=>qI h0 f _ _ (h.bub _ _)) _ (iu h0 h k _ _ _)
theorem gN (h0:0 < N):KGood N (PmN N) (kas_sort N):=by
 have hp:PmN N (List.toArray (List.range N)):=by unfold PmN; rw [List.toList_toArray]
 exact KGood.bind (fun r hr=>by
  split
  ·exact qI h0 _ _ _ hr
  ·exact hr) _ (lw h0 hp N)
end
def lexI:List Key->List Key->Bool
 | [],[]=>false
 | [],_::_=>true
 | _::_,[]=>false
 | .inl a::r,.inl b::r'=>if a=b then lexI r r' else decide (a < b)
 | _,_=>false
def srtK (ks:List (List Key)):List (List Key):=if ks.length < 2 then ks else (kRun (fun i j=>lexI (ks.getD i []) (ks.getD j [])) (kas_sort ks.length)).toList.map fun i=>ks.getD i []
theorem nS {α:Type} {xs:List α} {d:α} {is:List Nat} (h:is.Perm (List.range xs.length)):(is.map fun i=>xs.getD i d).Perm xs:=by
 refine (h.map _).trans ?_
 have:(List.range xs.length).map (fun i=>xs.getD i d)=xs:=by
  apply List.ext_getElem
  ·simp
  ·intro i h1 h2
   simp [h2]
 rw [this]
theorem nT (ks:List (List Key)):(srtK ks).Perm ks:=by
 unfold srtK
 split
 ·exact List.Perm.refl _
 ·exact nS (KGood.end _ _ (gN (by omega)))
def isI (k:Key) (u:Value):Prop:=∃ i t,k = .inl i /\ u=Value.int i t
def TupI (h:Heap) (k:List Key) (v:Value):Prop:=∃ a o xs n,v = .ref a /\ h.get? a=some o /\ o.cls = .type "tuple" /\ o.data = .seq xs n /\ Paired isI k xs.toList
theorem iw {α β:Type} {R:α->β->Prop} {xs:List α} {ys:List β} (h:Paired R xs ys):xs.length=ys.length:=by
 induction h with
 | nil=>rfl
 | cons _ _ ih=>simp [ih]
section
variable {prog:Program} {w:World} {A:Around} {E:Value->Shared->Prop} {s:Shared} {b fin:Bool} {Q:Bool->Shared->Prop}
theorem AH (o:Bool) {x y:Int} {t u:Tok} {Q:Bool->Shared->Prop} (h:Q (decide (x < y)) s):wpAny (model prog w) A (oneLt' o (.int x t) (.int y u)) Q E s:=by
 cases o with
 | true=>exact oneLt_int h
 | false=>exact kat_one _ _ (wpAny_lt_int h)
theorem qJ:∀ {k1 k2:List Key} {xs ys:List Value} (i:Nat),Paired isI k1 xs->Paired isI k2 ys->fin=decide (xs.length < ys.length)->Q (lexI k1 k2) s->KatLex prog w A b fin Q (xs.zip ys) i s
 | _,_,_,_,i,.nil,.nil,e,q=>by
  subst e
  exact q
 | _,_,_,_,i,.nil,.cons _ _,e,q=>by
  subst e
  exact q
 | _,_,_,_,i,.cons _ _,.nil,e,q=>by
  subst e
  exact q
 | _,_,_,_,i,.cons h1 r1,.cons h2 r2,e,q=>by
  obtain ⟨x,t,rfl,rfl⟩:=h1
  obtain ⟨y,u,rfl,rfl⟩:=h2
  refine kat_cons (wpAny_eqBool_int ?_)
  by_cases z:x=y
  ·subst z
   have e1:(x == x)=true:=by simp
   rw [e1]
   refine kat_yes (qJ (i + 1) r1 r2 (by rw [e]; simp) ?_)
   simpa [lexI] using q
  ·have e1:(x == y)=false:=by simpa using z
   rw [e1]
   refine kat_no (AH _ ?_)
   simpa [lexI,z] using q
theorem yt {k1 k2:List Key} {v1 v2:Value} (h1:TupI s.heap k1 v1) (h2:TupI s.heap k2 v2) (q:Q (lexI k1 k2) s):wpAny (model prog w) A (keyLt' (tuples' b) v1 v2) Q E s:=by
 obtain ⟨x,ox,xs,n,rfl,hx,_,dx,px⟩:=h1
 obtain ⟨y,oy,ys,m,rfl,hy,_,dy,py⟩:=h2
 exact kat_lt hx dx hy dy (qJ 0 px py (by simp) q)
end
def RawD (d:Addr) (es:Array DictEntry) (ep:Nat) (h:Heap):Prop:=∃ o,h.get? d=some o /\ o.ExactDict /\ o.data = .dict es ep
theorem RawD.type {d:Addr} {es:Array DictEntry} {ep:Nat} {s:Shared} (h:RawD d es ep s.heap):s.TypeIs (.ref d) "dict":=let ⟨o,e,x,_⟩:=h; ⟨o,e,x.1⟩
theorem RawD.keep {d:Addr} {es:Array DictEntry} {ep:Nat} {h h':Heap} (r:RawD d es ep h) (k:∀ o,h.get? d=some o->h'.get? d=some o):RawD d es ep h':=let ⟨o,e,x⟩:=r; ⟨o,k o e,x⟩
section
variable {prog:Program} {w:World} {A:Around} {E:Value->Shared->Prop} {s:Shared} {d it:Addr} {es:Array DictEntry} {ep i:Nat}
theorem vX {Q:Value->Shared->Prop} (lo:(d == sysModules)=false) (r:RawD d es ep s.heap)
  (q:Q (.ref s.heap.objs.size) { s with heap:=s.heap.push { cls:=.type "dict_keyiterator",data:=.fields #[.ref d,.int 0 0,.int es.size 0,.int ep 0] } }):wpAny (model prog w) A (pyIter (.ref d)) Q E s:=by
 have ty:=r.type
 obtain ⟨o,g1,_,g2⟩:=r
 refine wpAny_pyIter_slot ty F.slot_dict_iter (wpAny_call_entry F.slot_dict_iter ty F.entry_dict_iter ?_ (F.args_dict_iter_1 _))
 unfold Builtin.«dict.__iter__» Builtin.Dict.dictSlotNone
 refine wpAny_bind (wpAny_bind (wpAny_notOrdered_dict ty (wpAny_pure ?_)))
 unfold Builtin.Dict.showsAll
 show wpAny _ _ ((if (d == sysModules)=true then unsupported "sys.modules:all-start-up-values-wanted" else pure ()) >>= _) _ _ s
 rw [if_neg (by rw [lo]; exact Bool.false_ne_true)]
 refine wpAny_bind (wpAny_pure (wpAny_bind (wpAny_dictEntries g1 g2 (wpAny_bind (wpAny_dictEpoch g1 g2 ?_)))))
 exact wpAny_bind (wpAny_newObj_type (wpAny_pure ⟨_,rfl,"dict_keyiterator",_,⟨_,Heap.get?_push_size _ rfl,rfl⟩,F.slot_dict_keyiterator_next.lookup,q⟩))
theorem vY {n:Nat} {Q:Option Value->Shared->Prop} (hi:i < es.size) (en:es.size=n) (g:s.heap.IsKeyIter it d i n ep) (r:RawD d es ep s.heap)
  (q:∀ h',h'.IsKeyIter it d (i + 1) n ep->Heap.SameBut it s.heap h'->Q (some es[i].key) { s with heap:=h' }):wpAny (model prog w) A (pyNext (.ref it)) Q E s:=by
 subst en
 have ty:=g.typeIs
 obtain ⟨o,g1,g2,g3⟩:=g
 obtain ⟨od,r1,_,r2⟩:=r
 unfold pyNext
 refine wpAny_bind (wpAny_attempt (wpAny_callSpecial?_slot (name:=Str.ofString "__next__") ty F.slot_dict_keyiterator_next (wpAny_call_entry F.slot_dict_keyiterator_next ty F.entry_dict_keyiterator_next ?_ (F.args_dict_keyiterator_next_1 _))))
 refine wpAny_bind (wpAny_pure (wpAny_bind (wpAny_bind (wpAny_bind (wpAny_typeNameOfWhole_keyiter ty (wpAny_pure (wpAny_bind (wpAny_fieldsOf g1 g3 ?_))))))))
 simp only [show Builtin.Dict_items.ownsTuple "dict_keyiterator" = false by decide,Bool.false_eq_true,if_false]
 show wpAny _ _ (if (Value.ref d == Value.none)=true then _ else _) _ _ s
 rw [if_neg (show ¬ ((Value.ref d == Value.none)=true) from Bool.false_ne_true)]
 refine wpAny_bind (wpAny_pure (wpAny_bind (wpAny_dictEntries r1 r2 ?_)))
 rw [if_neg (by simp)]
 refine wpAny_bind (wpAny_pure (wpAny_bind (wpAny_dictEpoch r1 r2 ?_)))
 rw [if_neg (by simp)]
 refine wpAny_pure ?_
 simp only [show ¬ ((i:Int) < 0) from by omega,if_false,Int.toNat_natCast,Array.getElem?_eq_getElem hi]
 refine wpAny_bind (wpAny_bind (wpAny_typeNameOfWhole_keyiter ty (wpAny_pure (wpAny_bind (wpAny_isOneOf_keyiter ty ?_)))))
 show wpAny _ _ (setField (.ref it) 1 (rawInt ((i:Int) + 1)) >>= _) _ _ s
 refine wpAny_bind (wpAny_setField g1 g3 (by simp) ?_)
 have g':(s.heap.update it (Obj.mapFields (·.setIfInBounds 1 (rawInt ((i:Int) + 1))))).IsKeyIter it d (i + 1) es.size ep :=
  ⟨_,Heap.get?_update_self _ g1 (Obj.isFreed_of_fields (Obj.data_mapFields g3 _)),(Obj.cls_mapFields ..).trans g2,by rw [Obj.data_mapFields g3]; simp [rawInt]⟩
 refine wpAny_bind (wpAny_holding (wpAny_bind (wpAny_isOneOf_keyiter (s:={ s with heap:=s.heap.update it (Obj.mapFields (·.setIfInBounds 1 (rawInt ((i:Int) + 1)))) }) g'.typeIs ?_)))
 show wpAny _ _ (pure es[i].key) _ _ _
 exact wpAny_pure (wpAny_pure ⟨_,rfl,wpAny_pure (q _ g' (Heap.SameBut.update ..))⟩)
theorem yu {n:Nat} {Q:Option Value->Shared->Prop} (hh:A.handled=none) (hi:es.size <= i) (en:es.size=n) (g:s.heap.IsKeyIter it d i n ep) (r:RawD d es ep s.heap)
  (q:∀ h',Heap.ExtBut it s.heap h'->Q none { s with heap:=h' }):wpAny (model prog w) A (pyNext (.ref it)) Q E s:=by
 subst en
 have ty:=g.typeIs
 obtain ⟨o,g1,g2,g3⟩:=g
 obtain ⟨od,r1,_,r2⟩:=r
 unfold pyNext
 refine wpAny_bind (wpAny_attempt (wpAny_callSpecial?_slot (name:=Str.ofString "__next__") ty F.slot_dict_keyiterator_next (wpAny_call_entry F.slot_dict_keyiterator_next ty F.entry_dict_keyiterator_next ?_ (F.args_dict_keyiterator_next_1 _))))
 refine wpAny_bind (wpAny_pure (wpAny_bind (wpAny_bind (wpAny_bind (wpAny_typeNameOfWhole_keyiter ty (wpAny_pure (wpAny_bind (wpAny_fieldsOf g1 g3 ?_))))))))
 simp only [show Builtin.Dict_items.ownsTuple "dict_keyiterator" = false by decide,Bool.false_eq_true,if_false]
 show wpAny _ _ (if (Value.ref d == Value.none)=true then _ else _) _ _ s
 rw [if_neg (show ¬ ((Value.ref d == Value.none)=true) from Bool.false_ne_true)]
 refine wpAny_bind (wpAny_pure (wpAny_bind (wpAny_dictEntries r1 r2 ?_)))
 rw [if_neg (by simp)]
 refine wpAny_bind (wpAny_pure (wpAny_bind (wpAny_dictEpoch r1 r2 ?_)))
 rw [if_neg (by simp)]
 refine wpAny_pure ?_
 simp only [show ¬ ((i:Int) < 0) from by omega,if_false,Int.toNat_natCast,Array.getElem?_eq_none hi]
 refine wpAny_bind (wpAny_bind (wpAny_typeNameOfWhole_keyiter ty (wpAny_pure ?_)))
 show wpAny _ _ (setField (.ref it) 0 .none >>= _) _ _ s
 refine wpAny_bind (wpAny_setField g1 g3 (by simp) ?_)
 show wpAny _ _ (newExc (.type "StopIteration") [] >>= _) _ _ _
 refine wpAny_bind ?_
 simp only [newExc,newTuple]
 refine wpAny_bind (wpAny_newObj_type ?_ (by size_fits))
 refine wpAny_bind (m:=firstArgMember _ _) (wpAny_of_eq (a:=Value.none) (by first | rfl | (simp only [firstArgMember]; rfl)) ?_)
 refine wpAny_newObj_type ?_ (by size_fits)
 simp only [raiseNew]
 refine wpAny_bind (wpAny_handled ?_)
 rw [show A.in1.handled=none from hh]
 refine wpAny_bind (wpAny_pure (wpAny_throw ?_))
 refine wpAny_bind (wpAny_isInstance (T:="StopIteration") (b:=true) ⟨_,Heap.get?_push_size _ rfl,rfl⟩ isSubtype_stop ?_)
 exact wpAny_pure (q _ (((Heap.SameBut.update ..).extBut.push _).push _))
theorem yw (lo:(d == sysModules)=false) (es:Array DictEntry) (ep:Nat):KdlSrc prog w "dict" d d es.size (fun i v=>(es[i]?).map (·.key)=some v) (RawD d es ep) where
 type:=fun _ r=>r.type
 there:=fun _ ⟨_,e,_⟩=>⟨Heap.lt_size e,Heap.lt_size e⟩
 keep:=fun _ _ r k=>r.keep fun o e=>k d (.inl rfl) o e
 notList:=by decide
 notTuple:=by decide
 hint:=fun _ _ _ _ r q=>kdl_hint_dict r.type q
 iter:=fun A s hh r=>⟨_,fun i h=>h.IsKeyIter s.heap.objs.size d i es.size ep /\ RawD d es ep h,(fun _ _ q=>vX lo r q),{
  sub:=fun b hb=>by simp at hb; simp [hb]
  frame:=fun _ _ _ st k=>⟨st.1.at fun o e=>k _ (by simp) o e,st.2.keep fun o e=>k d (by simp) o e⟩
  item:=fun i s' Q E hi st q=>vY hi rfl st.1 st.2 fun h' g' sb=>by
   have ne:d≠s.heap.objs.size:=by
    obtain ⟨_,e,_⟩:=r
    exact Nat.ne_of_lt (Heap.lt_size e)
   refine q es[i].key h' s'.toks (by simp [hi]) ⟨g',st.2.keep fun o e=>(sb.2 d ne).trans e⟩ fun b o hb e=>?_
   have hb:b≠s.heap.objs.size:=by simpa using hb
   exact (sb.2 b hb).trans e
  done:=fun s' Q E st q=>yu hh (Nat.le_refl _) rfl st.1 st.2 fun h' eb=>q h' s'.toks fun b o hb e=>eb b o (by simpa using hb) e
  self:=fun _ _ _ _ st q=>wpAny_pyIter_keyiter st.1 q },⟨⟨_,Heap.get?_push_size _ rfl,rfl,rfl⟩,r.keep fun o e=>Heap.get?_push_of_some _ e⟩⟩
end
end L2
namespace L2
open PySem PySem.Spec PyProof.Rows PySem.W
section
variable {prog:Program} {w:World} {A:Around} {E:Value->Shared->Prop} {s:Shared}
theorem TupI.keep {h h':Heap} {k:List Key} {v:Value} {a:Addr} {xs:Array Value} {n:Nat} (t:TupI h k v) (ha:h.get? a=some (seqObj "list" xs n)) (kp:∀ b o,b≠a->h.get? b=some o->h'.get? b=some o):TupI h' k v:=by
 obtain ⟨b,o,ys,m,rfl,e,c,d,p⟩:=t
 refine ⟨b,o,ys,m,rfl,kp b o ?_ e,c,d,p⟩
 rintro rfl
 rw [ha] at e
 cases e
 simp [seqObj] at c
theorem fV {α β:Type} {R S:α->β->Prop} {xs:List α} {ys:List β} (h:Paired R xs ys) (f:∀ a b,R a b->S a b):Paired S xs ys:=by
 induction h with
 | nil=>exact .nil
 | cons h _ ih=>exact .cons (f _ _ h) ih
theorem wN {h:Heap}:∀ {ks:List (List Key)} {vs:List Value},Paired (TupI h) ks vs->(∀ k∈ks,k≠[])->∃ fs,KatTups h vs fs /\ fs.length=vs.length /\ ∀ v∈fs,∃ i t,v=Value.int i t
 | _,_,.nil,_=>⟨[],.nil,rfl,fun v hv=>by simp at hv⟩
 | k::ks,v::vs,.cons h1 r,ne=>by
  obtain ⟨fs,h2,h3,h4⟩:=wN r fun k hk=>ne k (List.mem_cons_of_mem _ hk)
  obtain ⟨a,o,xs,n,rfl,e,c,d,p⟩:=h1
  have hk:=ne k List.mem_cons_self
  generalize hxs:xs.toList=l at p
  cases p with
  | nil=>exact absurd rfl hk
  | @cons x u ks' us hx hr =>
   obtain ⟨i,t,rfl,rfl⟩:=hx
   refine ⟨Value.int i t::fs,.cons e c d ?_ h2,by simp [h3],fun v hv=>?_⟩
   ·rw [← Array.getElem?_toList,hxs]
    rfl
   ·rcases List.mem_cons.mp hv with rfl | hv
    ·exact ⟨i,t,rfl⟩
    ·exact h4 v hv
end
end L2
namespace L2
open PySem PySem.Spec PyProof.Rows PySem.W
section
variable {X:Cx}
def yx (H:Hp) (k:List Key) (v:V):Prop:=∃ b,v = .ref b /\ H b=some (.tup (k.map kV))
def kP (k:List Key):Prop:=∀ x∈k,∃ i:Int,x = .inl i
theorem qK:∀ {k:List Key} {us:List Value},kP k->Vals (k.map kV) us->Paired isI k us
 | [],us,_,h=>by cases h; exact .nil
 | x::k,us,hi,h=>by
  obtain ⟨i,rfl⟩:=hi _ List.mem_cons_self
  rw [List.map_cons] at h
  cases h with
  | cons h1 h2 =>
   obtain ⟨t,rfl⟩:=(show ∃ t,_=Value.int i t from h1)
   exact .cons ⟨i,t,rfl,rfl⟩ (qK (fun y hy=>hi y (List.mem_cons_of_mem _ hy)) h2)
theorem Inv.tupI {pins:List (Addr×Obj)} {σ:St} {H:Hp} {s:Shared} {k:List Key} {b:Addr} (I:Inv X pins σ H s) (hi:kP k) (e:H b=some (.tup (k.map kV))):TupI s.heap k (.ref b):=by
 obtain ⟨_,its,r,o,h1,h2,n,h3⟩:=(show ObjOk X.prog X.w H s.heap b (.tup (k.map kV)) from I.hok b _ e)
 refine ⟨b,o,its.toArray,n,rfl,h1,?_,h3,?_⟩
 ·exact h2
 ·rw [List.toList_toArray]
  exact qK hi r
theorem uq {H:Hp}:∀ {ks:List (List Key)} {out:List Value},Paired (fun k v=>∃ b,v=Value.ref b /\ H b=some (.tup (k.map kV))) ks out->∃ bs,Paired (yx H) ks bs /\ Vals bs out
 | _,_,.nil=>⟨[],.nil,.nil⟩
 | _,_,.cons h r=>by
  obtain ⟨b,rfl,e⟩:=h
  obtain ⟨bs,h1,h2⟩:=uq r
  exact ⟨.ref b::bs,.cons ⟨b,rfl,e⟩ h1,.cons rfl h2⟩
theorem yy {H:Hp} {kvs:List (List Key×V)} {xs:List (List Key×Addr×Value)} (r:KT H kvs xs):Paired (fun k v=>∃ b,v=Value.ref b /\ H b=some (.tup (k.map kV))) (kvs.map (·.1)) (xs.map fun x=>Value.ref x.2.1):=by
 induction r with
 | nil=>exact .nil
 | @cons p q ps qs h t ih=>exact .cons ⟨q.2.1,rfl,h.2.1⟩ ih
theorem rY {α β:Type} {R:α->β->Prop} {xs:List α} {ys:List β} (h:Paired R xs ys):Paired (fun a b=>a∈xs /\ R a b) xs ys:=by
 induction h with
 | nil=>exact .nil
 | cons h _ ih=>exact .cons ⟨List.mem_cons_self,h⟩ (fV ih fun a b z=>⟨List.mem_cons_of_mem _ z.1,z.2⟩)
end
end L2
namespace PySem
section
variable {prog:Program} {w:World} {A:Around} {E:Value->Shared->Prop} {s:Shared}
end
end PySem
namespace DL
open PySem PySem.Spec L2
open PyProof.Rows hiding St
variable [TB]
def AI:HO->Prop
 | .lst _=>True
 | .dT _=>True
 | _=>False
section
variable {K:PySem.W.Frag} {pp:Option Addr} {M:List Addr} {H:Hp}
theorem Mv.writeX {l:Addr} {o u:HO} (hl:H l=some o) (ho:AI o) (hm:l∈M) (hp:pp≠some l):Mv K pp M H M (upd H l u):=by
 refine ⟨fun a zs e=>by rw [aj (kL e hl (by rintro rfl; exact ho))]; exact e,fun a zs e n q=>⟨by rw [aj (by rintro rfl; exact n hm)]; exact e,n⟩,fun p e h=>?_,fun tb=>tb.upd hl (by rintro (⟨_,rfl⟩ | ⟨_,_,rfl⟩) <;> exact ho)⟩
 obtain ⟨a,ns,t,k,h⟩:=h
 refine ⟨a,ns,t,k,?_,?_,h.t0⟩
 ·rw [aj (by rintro rfl; exact hp e)]; exact h.lst
 ·rcases h.scr with ⟨o',e⟩ | e
  ·refine .inl ⟨o',?_⟩
   rw [aj (kL e hl (by rintro rfl; exact ho))]; exact e
  ·exact .inr e
end
def k1D:Key->D
 | .inl i=>.int i
 | .inr x=>.str x
def keyD (k:List Key):D:=.tup (k.map k1D)
theorem mx {K:PySem.W.Frag} {pp:Option Addr} {M:List Addr} {H:Hp}:∀ {k:List Key} {xs:List V},Reps K pp M H (k.map k1D) xs->xs=k.map kV
 | [],xs,h=>by simpa only [List.map_nil,Reps] using h
 | .inl i::r,xs,h=>by
  simp only [List.map_cons,k1D,Reps,Rep] at h
  obtain ⟨x,t,rfl,rfl,h⟩:=h
  rw [mx h]; rfl
 | .inr i::r,xs,h=>by
  simp only [List.map_cons,k1D,Reps,Rep] at h
  obtain ⟨x,t,rfl,rfl,h⟩:=h
  rw [mx h]; rfl
theorem my {K:PySem.W.Frag} {pp:Option Addr} {M:List Addr} {H:Hp}:∀ (k:List Key),Reps K pp M H (k.map k1D) (k.map kV)
 | []=>by simp only [List.map_nil,Reps]
 | .inl i::r=>by
  simp only [List.map_cons,k1D,kV,Reps,Rep]
  exact ⟨_,_,rfl,rfl,my r⟩
 | .inr i::r=>by
  simp only [List.map_cons,k1D,kV,Reps,Rep]
  exact ⟨_,_,rfl,rfl,my r⟩
theorem jp {K:PySem.W.Frag} {pp:Option Addr} {M:List Addr} {H:Hp} {k:List Key} {v:V} (h:Rep K pp M H (keyD k) v):∃ b,v = .ref b /\ H b=some (.tup (k.map kV)):=by
 simp only [keyD,Rep] at h
 obtain ⟨b,xs,rfl,hb,h⟩:=h
 rw [mx h] at hb
 exact ⟨b,rfl,hb⟩
theorem vZ {K:PySem.W.Frag} {pp:Option Addr} {M:List Addr} {H:Hp} {k:List Key} {b:Addr} (h:H b=some (.tup (k.map kV))):Rep K pp M H (keyD k) (.ref b):=by
 simp only [keyD,Rep]
 exact ⟨b,_,rfl,h,my k⟩
section
variable {α β:Type}
def fC (ps:List (List Key×α)) (k:List Key):Option α:=(ps.find? fun p=>decide (p.1=k)).map (·.2)
def putA (ps:List (List Key×α)) (k:List Key) (x:α):List (List Key×α) :=
 if (ps.any fun p=>decide (p.1=k))=true then ps.map (fun p=>if p.1=k then (p.1,x) else p) else ps++[(k,x)]
abbrev PK (R:α->β->Prop):List (List Key×α)->List (List Key×β)->Prop:=Paired fun p q=>p.1=q.1 /\ R p.2 q.2
theorem PK.find {R:α->β->Prop} {ps:List (List Key×α)} {qs:List (List Key×β)} (h:PK R ps qs) (k:List Key):(fC ps k=none /\ fC qs k=none)∨∃ x y,fC ps k=some x /\ fC qs k=some y /\ R x y:=by
 induction h with
 | nil=>exact .inl ⟨rfl,rfl⟩
 | @cons p q ps qs h _ ih =>
  unfold fC at ih ⊢
  by_cases e:p.1=k
  ·have e':q.1=k:=h.1.symm.trans e
   refine .inr ⟨p.2,q.2,?_,?_,h.2⟩
   ·rw [List.find?_cons_of_pos (by simpa using e)]; rfl
   ·rw [List.find?_cons_of_pos (by simpa using e')]; rfl
  ·have e':¬ q.1=k:=fun z=>e (h.1.trans z)
   rw [List.find?_cons_of_neg (by simpa using e),List.find?_cons_of_neg (by simpa using e')]
   exact ih
theorem PK.any {R:α->β->Prop} {ps:List (List Key×α)} {qs:List (List Key×β)} (h:PK R ps qs) (k:List Key):(ps.any fun p=>decide (p.1=k))=qs.any fun p=>decide (p.1=k):=by
 induction h with
 | nil=>rfl
 | @cons p q ps qs h _ ih=>simp only [List.any_cons,ih,h.1]
theorem PK.put {R:α->β->Prop} {ps:List (List Key×α)} {qs:List (List Key×β)} (h:PK R ps qs) (k:List Key) {x:α} {y:β} (r:R x y):PK R (putA ps k x) (putA qs k y):=by
 unfold putA
 rw [h.any k]
 by_cases e:(qs.any fun p=>decide (p.1=k))=true
 ·rw [if_pos e,if_pos e]
  clear e
  induction h with
  | nil=>exact .nil
  | @cons p q ps qs h _ ih =>
   rw [List.map_cons,List.map_cons]
   refine .cons ?_ ih
   by_cases e:p.1=k
   ·rw [if_pos e,if_pos (h.1.symm.trans e)]; exact ⟨h.1,r⟩
   ·rw [if_neg e,if_neg (fun z=>e (h.1.trans z))]; exact h
 ·rw [if_neg e,if_neg e]
  exact Paired.snoc h ⟨rfl,r⟩
theorem PK.keys {R:α->β->Prop} {ps:List (List Key×α)} {qs:List (List Key×β)} (h:PK R ps qs):ps.map (·.1)=qs.map (·.1):=by
 induction h with
 | nil=>rfl
 | cons h _ ih=>simp only [List.map_cons,ih,h.1]
end
theorem mz (kvs:List (List Key×V)) (k:List Key):fC kvs k=valV kvs k:=rfl
section
variable {K:PySem.W.Frag} {pp:Option Addr} {M M':List Addr} {H H':Hp}
theorem yz:∀ {kds:List (List Key×D)} {kvs:List (List Key×V)},kvs.map (·.1)=kds.map (·.1)->Reps K pp M H (kds.map (·.2)) (kvs.map (·.2))->PK (Rep K pp M H) kds kvs
 | [],[],_,_=>.nil
 | [],_::_,h,_=>by simp at h
 | _::_,[],h,_=>by simp at h
 | p::ps,q::qs,h,r=>by
  simp only [List.map_cons,List.cons.injEq] at h
  simp only [List.map_cons,Reps] at r
  obtain ⟨x,t,e,r1,r2⟩:=r
  injection e with e1 e2
  subst e1 e2
  exact .cons ⟨h.1.symm,r1⟩ (yz h.2 r2)
theorem yA {kds:List (List Key×D)} {kvs:List (List Key×V)} (h:PK (Rep K pp M H) kds kvs):Reps K pp M H (kds.map (·.2)) (kvs.map (·.2)):=by
 induction h with
 | nil=>simp only [List.map_nil,Reps]
 | cons h _ ih=>exact .cons h.2 ih
theorem PK.imp {α β:Type} {R S:α->β->Prop} {ps:List (List Key×α)} {qs:List (List Key×β)} (h:PK R ps qs) (f:∀ a b,R a b->S a b):PK S ps qs:=by
 induction h with
 | nil=>exact .nil
 | cons h _ ih=>exact .cons ⟨h.1,f _ _ h.2⟩ ih
def dvO (kds:List (List Key×D)):O:=.dct (kds.map (·.1)) (kds.map fun p=>.val p.2)
theorem ro_dv {kds:List (List Key×D)} {v:V} {A:List Addr}:RO K pp M H (dvO kds) v A↔∃ a kvs,v = .ref a /\ H a=some (.dT kvs) /\ A=[a] /\ PK (Rep K pp M H) kds kvs:=by
 have vals:∀ {kds:List (List Key×D)} {xs:List V} {B:List Addr},ROs K pp M H (kds.map fun p=>O.val p.2) xs B->B=[] /\ Reps K pp M H (kds.map (·.2)) xs:=by
  intro kds
  induction kds with
  | nil=>intro xs B h; simp only [List.map_nil,ROs] at h; exact ⟨h.2,by simp only [List.map_nil,Reps]; exact h.1⟩
  | cons p ps ih =>
   intro xs B h
   simp only [List.map_cons,ROs,RO] at h
   obtain ⟨x,r,B1,C,rfl,rfl,⟨rfl,h1⟩,h2⟩:=h
   obtain ⟨rfl,h3⟩:=ih h2
   exact ⟨rfl,.cons h1 h3⟩
 constructor
 ·intro h
  simp only [dvO,RO] at h
  obtain ⟨a,kvs,B,rfl,ha,ek,rfl,r⟩:=h
  obtain ⟨rfl,r2⟩:=vals r
  exact ⟨a,kvs,rfl,ha,rfl,yz ek r2⟩
 ·rintro ⟨a,kvs,rfl,ha,rfl,r⟩
  simp only [dvO,RO]
  refine ⟨a,kvs,[],rfl,ha,r.keys.symm,rfl,?_⟩
  have:=ROs.vals (yA r)
  rw [List.map_map] at this
  exact this
def dlO (kls:List (List Key×List D)):O:=.dct (kls.map (·.1)) (kls.map fun p=>.lst (p.2.map .val))
def PL (K:PySem.W.Frag) (pp:Option Addr) (M:List Addr) (H:Hp):List (List Key×List D)->List (List Key×V)->List Addr->Prop
 | [],kvs,ls=>kvs=[] /\ ls=[]
 | p::ps,kvs,ls=>∃ l xs r t,kvs=(p.1,.ref l)::r /\ ls=l::t /\ H l=some (.lst xs) /\ Reps K pp M H p.2 xs /\ PL K pp M H ps r t
theorem wa {ds:List D} {xs:List V} {B:List Addr} (h:ROs K pp M H (ds.map O.val) xs B):B=[] /\ Reps K pp M H ds xs:=by
 induction ds generalizing xs B with
 | nil=>simp only [List.map_nil,ROs] at h; exact ⟨h.2,by simp only [Reps]; exact h.1⟩
 | cons d ds ih =>
  simp only [List.map_cons,ROs,RO] at h
  obtain ⟨x,r,B1,C,rfl,rfl,⟨rfl,h1⟩,h2⟩:=h
  obtain ⟨rfl,h3⟩:=ih h2
  exact ⟨rfl,.cons h1 h3⟩
theorem AJ:∀ {kls:List (List Key×List D)} {kvs:List (List Key×V)} {B:List Addr},kvs.map (·.1)=kls.map (·.1)->ROs K pp M H (kls.map fun p=>O.lst (p.2.map .val)) (kvs.map (·.2)) B->PL K pp M H kls kvs B
 | [],[],B,_,h=>by simp only [List.map_nil,ROs] at h; exact ⟨rfl,h.2⟩
 | [],_::_,_,h,_=>by simp at h
 | _::_,[],_,h,_=>by simp at h
 | p::ps,q::qs,B,e,h=>by
  simp only [List.map_cons,List.cons.injEq] at e
  simp only [List.map_cons,ROs,RO] at h
  obtain ⟨x,r,B1,C,e1,rfl,⟨l,xs,B2,rfl,hl,rfl,h1⟩,h2⟩:=h
  injection e1 with e2 e3
  subst e3
  obtain ⟨rfl,h3⟩:=wa h1
  exact ⟨l,xs,qs,C,by rw [← e.1,← e2],rfl,hl,h3,AJ e.2 h2⟩
theorem AK:∀ {kls:List (List Key×List D)} {kvs:List (List Key×V)} {B:List Addr},PL K pp M H kls kvs B->kvs.map (·.1)=kls.map (·.1) /\ ROs K pp M H (kls.map fun p=>O.lst (p.2.map .val)) (kvs.map (·.2)) B
 | [],kvs,B,h=>by
  obtain ⟨rfl,rfl⟩:=h
  simp only [List.map_nil,ROs]
  exact ⟨trivial,trivial,trivial⟩
 | p::ps,kvs,B,h=>by
  obtain ⟨l,xs,r,t,rfl,rfl,hl,h1,h2⟩:=h
  obtain ⟨e,h3⟩:=AK h2
  refine ⟨by simp only [List.map_cons,e],?_⟩
  simp only [List.map_cons,ROs,RO]
  exact ⟨.ref l,_,[l],t,rfl,rfl,⟨l,xs,[],rfl,hl,rfl,ROs.vals h1⟩,h3⟩
theorem ro_dl {kls:List (List Key×List D)} {v:V} {A:List Addr}:RO K pp M H (dlO kls) v A↔∃ a kvs ls,v = .ref a /\ H a=some (.dT kvs) /\ A=a::ls /\ PL K pp M H kls kvs ls:=by
 constructor
 ·intro h
  simp only [dlO,RO] at h
  obtain ⟨a,kvs,B,rfl,ha,ek,rfl,r⟩:=h
  exact ⟨a,kvs,B,rfl,ha,rfl,AJ ek r⟩
 ·rintro ⟨a,kvs,ls,rfl,ha,rfl,r⟩
  simp only [dlO,RO]
  obtain ⟨e,r⟩:=AK r
  exact ⟨a,kvs,ls,rfl,ha,e,rfl,r⟩
end
end DL
namespace DL
open PySem PySem.Spec L2
open PyProof.Rows hiding St
variable [TB]
variable [Frm]
section
variable {K:PySem.W.Frag} {F:Fx} {M M':List Addr} {H H':Hp} {σ:St} {ρ:DS} {i:Nat} {q q':O}
theorem RSt.objStep (r:RSt K F M H σ ρ) (h:ρ[i]? = some (.obj q)) (m:Mv K F.pp M H M' H')
  (k:∀ v A,σ[i]? = some (some v)->A.Nodup->RO K F.pp M H q v A->(∀ a∈A,a∈M /\ F.H0 a=none /\ F.pp≠some a)->∃ A',A'.Nodup /\ RO K F.pp M' H' q' v A' /\ (∀ b∈A',b∈M' /\ F.H0 b=none /\ F.pp≠some b /\ (b∈A∨b∉M)) /\
   ∀ a,a∈M->F.pp≠some a->F.H0 a=none->a∉A->a∈M' /\ ∀ x,H a=some x->NT x->H' a=some x)
  (sub:∀ a∈F.M0,a∈M') (same:SameQ K F.pp F.H0 H') (liv:Lv0 F.pp M' H'):RSt K F M' H' σ (ρ.set i (.obj q')):=by
 obtain ⟨v,A,ho,nd,hq,hA,hoth⟩:=r.objAt h
 obtain ⟨_,_,_,_,ke⟩:=k v A ho nd hq hA
 refine ⟨by simp [r.len],fun j s o h1 h2=>?_,r.ow.step m i (fun _ _=>rfl) (fun j e=>List.getElem?_set_ne (Ne.symm e)) (fun A1 hA1 hB1=>?_),sub,same,r.old,liv,r.lk.cl m⟩
 ·by_cases e:i=j
  ·subst e
   rw [ho] at h2
   rw [aP h1]
   cases h2
   exact ⟨v,rfl⟩
  ·rw [List.getElem?_set_ne e] at h1
   have q':=r.sl j s o h1 h2
   cases s with
   | nil=>trivial
   | val d=>obtain ⟨v,e,q⟩:=q'; exact ⟨v,e,q.mv m⟩
   | pin w d=>obtain ⟨v,e,ew,q⟩:=q'; exact ⟨v,e,ew,q.mv m⟩
   | own es =>
    obtain ⟨l',zs,rfl,hm',h0',hp',hl'',hr'⟩:=q'
    have nl:l'∉A:=hoth j _ _ (Ne.symm e) h1 h2 _ ⟨es,rfl⟩ rfl
    obtain ⟨k1,k2⟩:=ke l' hm' hp' h0' nl
    exact ⟨l',zs,rfl,k1,h0',hp',k2 _ hl'' (by intro _ z; cases z),hr'.mv m⟩
   | obj q=>exact q'
 ·obtain ⟨nd1,v1,e1,hq1⟩:=hA1 _ _ h ho
  cases e1
  obtain ⟨A',nd',ro,hb,ha⟩:=k v A1 ho nd1 hq1 hB1
  refine ⟨A',fun s o e1 e2=>?_,hb,ha⟩
  rw [ho] at e2
  cases e2
  rw [aP e1]
  exact ⟨nd',v,rfl,ro⟩
theorem Lv0.upd {pp:Option Addr} {l:Addr} {o:HO} (h:Lv0 pp M H):Lv0 pp M (L2.upd H l o):=by
 refine ⟨fun a ha=>?_,fun p e=>?_⟩
 ·by_cases z:a=l
  ·subst z; rw [ak]; intro z; cases z
  ·rw [aj z]; exact h.m a ha
 ·by_cases z:p=l
  ·subst z; rw [ak]; intro z; cases z
  ·rw [aj z]; exact h.p p e
theorem RSt.sameW {l:Addr} {o:HO} (r:RSt K F M H σ ρ) (h0:F.H0 l=none) (m:Mv K F.pp M H M' (L2.upd H l o)):SameQ K F.pp F.H0 (L2.upd H l o):=by
 refine ⟨fun b o e n=>?_,fun p e h=>m.pen p e (r.same.pen p e h),fun b e=>?_⟩
 ·rw [aj (by rintro rfl; rw [h0] at e; cases e)]
  exact r.same.keep b o e n
 ·by_cases z:b=l
  ·subst z; rw [ak]; intro z; cases z
  ·rw [aj z]; exact r.same.live b e
end
section
variable {X:Cx}
def AL:Sl->Prop
 | .obj _=>True
 | _=>False
omit [Frm] in
theorem wb {s:Sl} (h:AL s):∃ q,s = .obj q:=by
 cases s <;> first | exact ⟨_,rfl⟩ | exact h.elim
abbrev Cl (i:Nat):DTS:=fun E ρ=>E.nx (ρ.set i (.obj (.dct [] [])))
theorem ur {i:Nat} {y:Str} {py dpos pos:Pos} (hN:X.N.Nodup) (hi:X.N[i]? = some y) (hx:Loc X.env.scope y) (hs:swapsWith (.Dict [] [] dpos) (some (.Name y py)) pos.line X.env=pure false:=by rfl)
  (hf:X.fn y=true∨X.env.scope.names.lookup y=some .local:=by first | exact .inl rfl | exact .inr rfl | assumption):PSD X (.Assign [.Name y py] (.Dict [] [] dpos) pos) (Cl i):=by
 refine ⟨_,gC hN hi hx vC hs hf,fun {F} M H σ ρ E D rs o q p hp=>?_⟩
 have lf:=rs.liv.fresh hp
 obtain ⟨m,rs2⟩:=rs.newObj (q:=.dct [] []) (A:=[p]) (v:=.ref p) (.new hp) (by simp) (fun a ha=>by rw [List.mem_singleton.mp ha]; exact ⟨hp,lf.2⟩) (by simp only [RO,ROs]; exact ⟨p,[],[],rfl,ak,rfl,rfl,rfl,rfl⟩) i
 exact o.nx _ _ _ _ m rs2 q
abbrev Cn (i:Nat) (tk te:DE):DTS:=fun E ρ=>te ρ fun d ρ1=>AL (slot ρ1 i) /\ tk ρ1 fun dk ρ2=>∃ kds k,slot ρ2 i = .obj (dvO kds) /\ dk=keyD k /\ kds.length < sizeLine /\ E.nx (ρ2.set i (.obj (dvO (putA kds k d))))
omit [Frm] in
theorem AM {α β:Type} {R:α->β->Prop} {ps:List (List Key×α)} {qs:List (List Key×β)} (h:PK R ps qs):ps.length=qs.length:=iw h
theorem yB {i r:Nat} {o ek e:Expr} {pos' pos:Pos} {tk te:DE} (hr:Room r X.A) (ho:PE X o (tVar i)) (hk:PED X ek tk) (he:PED X e te) (hs:swapsWith e (some (.Subscript o ek pos')) pos.line X.env=pure false:=by rfl) :
  PSD X (.Assign [.Subscript o ek pos'] e pos) (Cn i tk te):=by
 obtain ⟨Tk,pk,rk⟩:=hk.run
 obtain ⟨Te,pe,re⟩:=he.run
 refine ⟨_,xL (by have:=hr.units; omega) ho pk pe hs,fun {F} M H σ ρ E D rs oo h=>re M H σ ρ _ rs (he.mono _ _ _ (fun d ρ1 h M1 H1 v m1 rs1 r1=>?_) h)⟩
 obtain ⟨q0,e0⟩:=wb h.1
 obtain ⟨v0,_,hv0,_⟩:=rs1.objAt (aW e0 (by intro z; cases z))
 refine ⟨v0,hv0,rk M1 H1 σ ρ1 _ rs1 (hk.mono _ _ _ (fun dk ρ2 h M2 H2 y m2 rs2 r2=>?_) h.2)⟩
 obtain ⟨kds,k,es,rfl,hl,h⟩:=h
 obtain ⟨b,rfl,hb⟩:=jp r2
 have g:=aW es (by intro z; cases z)
 obtain ⟨v1,A,hv1,nd,hq,hA,_⟩:=rs2.objAt g
 rw [hv0] at hv1
 cases hv1
 obtain ⟨a,kvs,rfl,ha,rfl,pk⟩:=ro_dv.mp hq
 obtain ⟨am,a0,ap⟩:=hA a (by simp)
 have mw:Mv X.K F.pp M2 H2 M2 (upd H2 a (.dT (putK kvs k v))):=.writeX ha trivial am ap
 refine ⟨a,_,rfl,DPut.t ha hb (by rw [← AM pk]; exact hl),oo.nx M2 _ σ _ ((m1.trans m2).trans mw) ?_ h⟩
 refine rs2.objStep g mw (fun v' A' hv' _ hq' hA'=>?_) rs2.sub (rs2.sameW a0 mw) rs2.liv.upd
 rw [hv0] at hv'
 cases hv'
 obtain ⟨a',kvs',e,ha',rfl,pk'⟩:=ro_dv.mp hq'
 cases e
 rw [ha] at ha'
 cases ha'
 refine ⟨[a],by simp,ro_dv.mpr ⟨a,_,rfl,ak,rfl,(pk'.imp fun x y z=>z.mv mw).put k ((r1.mv m2).mv mw)⟩,fun c hc=>?_,fun c hc _ _ hn=>⟨hc,fun x e _=>?_⟩⟩
 ·rw [List.mem_singleton.mp hc]
  exact ⟨am,a0,ap,.inl (by simp)⟩
 ·rw [aj (by rintro rfl; exact hn (by simp))]
  exact e
def AN:Sl->Prop
 | .obj (.dct _ _)=>True
 | _=>False
omit [Frm] in
theorem wc {s:Sl} (h:AN s):∃ ks os,s = .obj (.dct ks os):=by
 cases s with
 | obj q=>cases q with
  | dct ks os=>exact ⟨ks,os,rfl⟩
  | _=>exact h.elim
 | _=>exact h.elim
abbrev Co (i:Nat) (tk te:DE):DE:=fun ρ Q=>AN (slot ρ i) /\ tk ρ fun dk ρ1=>te ρ1 fun d ρ2=>∃ kds k,slot ρ2 i = .obj (dvO kds) /\ dk=keyD k /\ Q ((fC kds k).getD d) ρ2
theorem yC {i r:Nat} {o ek e:Expr} {apos cpos:Pos} {tk te:DE} (hr:Room r X.A) (ho:PE X o (tVar i)) (hk:PED X ek tk) (he:PED X e te) (m:M2 X o "get" apos ek e cpos:=by exact ⟨rfl,rfl,rfl,rfl⟩) :
  PED X (.Call (.Attribute o "get" apos) [ek,e] [] cpos) (Co i tk te):=by
 obtain ⟨Tk,pk,rk⟩:=hk.run
 obtain ⟨Te,pe,re⟩:=he.run
 refine ⟨fun ρ P P' f h=>⟨h.1,hk.mono _ _ _ (fun dk ρ1 h=>he.mono _ _ _ (fun d ρ2 ⟨kds,k,h1,h2,h3⟩=>⟨kds,k,h1,h2,f _ _ h3⟩) h) h.2⟩,_,vD (by have:=hr.units; omega) ho pk pe m,fun {F} M H σ ρ Q rs h=>?_⟩
 obtain ⟨ks,os,e0⟩:=wc h.1
 obtain ⟨v0,A0,hv0,_,hq0,_⟩:=rs.objAt (aW e0 (by intro z; cases z))
 simp only [RO] at hq0
 obtain ⟨a,kvs0,B,rfl,ha0,_⟩:=hq0
 refine ⟨.ref a,hv0,a,rfl,.inr ⟨kvs0,.inl ha0⟩,?_⟩
 refine rk M H σ ρ _ rs (hk.mono _ _ _ (fun dk ρ1 h M1 H1 y m1 rs1 r1=>?_) h.2)
 refine re M1 H1 σ ρ1 _ rs1 (he.mono _ _ _ (fun d ρ2 h M2 H2 z m2 rs2 r2=>?_) h)
 obtain ⟨kds,k,es,ek,h9⟩:=h
 subst ek
 obtain ⟨b,rfl,hb⟩:=jp (r1.mv m2)
 have g:=aW es (by intro z; cases z)
 obtain ⟨v1,A,hv1,nd,hq,hA,_⟩:=rs2.objAt g
 rw [hv0] at hv1
 cases hv1
 obtain ⟨a',kvs,e,ha,rfl,pk⟩:=ro_dv.mp hq
 cases e
 refine ⟨_,DGet.t ha hb,h9 M2 H2 _ (m1.trans m2) rs2 ?_⟩
 rcases pk.find k with ⟨e1,e2⟩ | ⟨x,y,e1,e2,rr⟩
 ·rw [mz] at e2
  rw [e1,e2]
  exact r2
 ·rw [mz] at e2
  rw [e1,e2]
  exact rr
def gIxT:D->D->(D->Prop)->Prop:=fun x y P=>∃ (kds:List (List Key×D)) (k:List Key) (d:D),x = .dT (kds.map (·.1)) (kds.map (·.2)) /\ y=keyD k /\ fC kds k=some d /\ P d
theorem wO {r:Nat} {a b:Expr} {ta tb:DE} {pos:Pos} (hr:Room r X.A) (ha:PED X a ta) (hb:PED X b tb) (hs:NoSl b):PED X (.Subscript a b pos) (dOp gIxT ta tb):=by
 have gm:∀ x y P P',(∀ d,P d->P' d)->gIxT x y P->gIxT x y P':=fun x y P P' f ⟨kds,k,d,h1,h2,h3,h4⟩=>⟨kds,k,d,h1,h2,h3,f _ h4⟩
 obtain ⟨Ta,pa,ra⟩:=ha.run
 obtain ⟨Tb,pb,rb⟩:=hb.run
 refine ⟨gH gm ha hb,_,xK (by have:=hr.units; omega) pa pb hs,fun {F} M H σ ρ Q rs h=>?_⟩
 refine ra M H σ ρ _ rs (ha.mono _ _ _ (fun x ρ1 h M1 H1 v m1 rs1 r1=>?_) h)
 refine rb M1 H1 σ ρ1 _ rs1 (hb.mono _ _ _ (fun y ρ2 h M2 H2 u m2 rs2 r2=>?_) h)
 obtain ⟨kds,k,d,rfl,rfl,ef,h⟩:=h
 obtain ⟨b,rfl,hb⟩:=jp r2
 have r1:=r1.mv m2
 simp only [Rep] at r1
 obtain ⟨c,kvs,rfl,_,_,hc,ek,rr⟩:=r1
 rcases (yz ek rr).find k with ⟨e1,e2⟩ | ⟨x,y,e1,e2,rxy⟩
 ·rw [ef] at e1; cases e1
 ·rw [ef] at e1
  cases e1
  rw [mz] at e2
  exact ⟨c,y,rfl,e2 ▸ DGet.t hc hb,h M2 H2 y (m1.trans m2) rs2 rxy⟩
omit [Frm] in
theorem ut {K:PySem.W.Frag} {pp:Option Addr} {M:List Addr} {H:Hp} {ks:List (List Key)} {bs:List V} (h:Paired (yx H) ks bs):Reps K pp M H (ks.map keyD) bs:=by
 induction h with
 | nil=>simp only [List.map_nil,Reps]
 | cons h _ ih =>
  obtain ⟨b,rfl,hb⟩:=h
  exact .cons (vZ hb) ih
end
end DL
namespace L2
open PySem PySem.Spec PyProof.Rows
section
variable {X:Cx}
end
end L2
namespace DL
open PySem PySem.Spec L2
open PyProof.Rows hiding St
variable [TB]
variable [Frm]
section
variable {X:Cx}
end
section
variable {K:PySem.W.Frag} {pp:Option Addr} {M M':List Addr} {H H':Hp}
omit [Frm] in
theorem PL.mv (m:Mv K pp M H M' H'):∀ {kls:List (List Key×List D)} {kvs:List (List Key×V)} {ls:List Addr},(∀ b∈ls,∀ o,H b=some o->H' b=some o)->PL K pp M H kls kvs ls->PL K pp M' H' kls kvs ls
 | [],kvs,ls,_,h=>h
 | p::ps,kvs,ls,kp,h=>by
  obtain ⟨l,xs,r,t,rfl,rfl,hl,h1,h2⟩:=h
  exact ⟨l,xs,r,t,rfl,rfl,kp l List.mem_cons_self _ hl,h1.mv m,PL.mv m (fun b hb=>kp b (List.mem_cons_of_mem _ hb)) h2⟩
omit [Frm] in
theorem PL.snoc {k:List Key} {es:List D} {l:Addr} {xs:List V} (hl:H l=some (.lst xs)) (hr:Reps K pp M H es xs):∀ {kls:List (List Key×List D)} {kvs:List (List Key×V)} {ls:List Addr},PL K pp M H kls kvs ls->PL K pp M H (kls++[(k,es)]) (kvs++[(k,.ref l)]) (ls++[l])
 | [],kvs,ls,h=>by
  obtain ⟨rfl,rfl⟩:=h
  exact ⟨l,xs,[],[],rfl,rfl,hl,hr,rfl,rfl⟩
 | p::ps,kvs,ls,h=>by
  obtain ⟨l',xs',r,t,rfl,rfl,hl',h1,h2⟩:=h
  exact ⟨l',xs',r++[(k,.ref l)],t++[l],rfl,rfl,hl',h1,PL.snoc hl hr h2⟩
def kQ (k:List Key) (d:D):List (List Key×List D)->List (List Key×List D)
 | []=>[(k,[d])]
 | p::r=>if p.1=k then (p.1,p.2++[d])::r else p::kQ k d r
omit [Frm] in
theorem PL.add (k:List Key) (d:D):∀ {kls:List (List Key×List D)} {kvs:List (List Key×V)} {ls:List Addr},PL K pp M H kls kvs ls->ls.Nodup ->
  (valV kvs k=none /\ kQ k d kls=kls++[(k,[d])])∨∃ l0 xs,valV kvs k=some (.ref l0) /\ l0∈ls /\ H l0=some (.lst xs) /\ (∃ p∈kls,p.1=k /\ p.2.length=xs.length) /\
   ∀ {M':List Addr} {H':Hp} {v:V},Mv K pp M H M' H'->Rep K pp M' H' d v->H' l0=some (.lst (xs++[v]))->(∀ b∈ls,b≠l0->∀ o,H b=some o->H' b=some o)->PL K pp M' H' (kQ k d kls) kvs ls
 | [],kvs,ls,h,_=>by
  obtain ⟨rfl,rfl⟩:=h
  exact .inl ⟨rfl,rfl⟩
 | p::ps,kvs,ls,h,nd=>by
  obtain ⟨l,xs,r,t,rfl,rfl,hl,h1,h2⟩:=h
  obtain ⟨n1,n2⟩:=List.nodup_cons.mp nd
  by_cases e:p.1=k
  ·refine .inr ⟨l,xs,jl (p:=(p.1,V.ref l)) e,List.mem_cons_self,hl,⟨p,List.mem_cons_self,e,h1.length⟩,fun {M' H' v} m rd hv kp=>?_⟩
   unfold kQ
   rw [if_pos e]
   exact ⟨l,_,r,t,rfl,rfl,hv,(h1.mv m).append (.one rd),PL.mv m (fun b hb=>kp b (List.mem_cons_of_mem _ hb) (by rintro rfl; exact n1 hb)) h2⟩
  ·rcases PL.add k d h2 n2 with ⟨a1,a2⟩ | ⟨l0,ys,a1,a2,a3,⟨p',a4,a5⟩,f⟩
   ·refine .inl ⟨by rw [gD (p:=(p.1,V.ref l)) e]; exact a1,?_⟩
    unfold kQ
    rw [if_neg e,a2]
    rfl
   ·refine .inr ⟨l0,ys,by rw [gD (p:=(p.1,V.ref l)) e]; exact a1,List.mem_cons_of_mem _ a2,a3,⟨p',List.mem_cons_of_mem _ a4,a5⟩,fun {M' H' v} m rd hv kp=>?_⟩
    unfold kQ
    rw [if_neg e]
    exact ⟨l,xs,r,t,rfl,rfl,kp l List.mem_cons_self (by rintro rfl; exact n1 a2) _ hl,h1.mv m,f m rd hv fun b hb=>kp b (List.mem_cons_of_mem _ hb)⟩
end
section
variable {X:Cx}
abbrev dSda (i jk ja:Nat):DTS:=fun E ρ=>∃ (kls:List (List Key×List D)) (k:List Key) (d:D),slot ρ i = .obj (dlO kls) /\ slot ρ jk = .val (keyD k) /\ slot ρ ja = .val d /\ kls.length < sizeLine /\ (∀ p∈kls,p.2.length < sizeLine) /\ E.nx (ρ.set i (.obj (dlO (kQ k d kls))))
omit [Frm] in
theorem PL.len {K:PySem.W.Frag} {pp:Option Addr} {M:List Addr} {H:Hp}:∀ {kls:List (List Key×List D)} {kvs:List (List Key×V)} {ls:List Addr},PL K pp M H kls kvs ls->kls.length=kvs.length
 | [],kvs,ls,h=>by rw [h.1]; rfl
 | p::ps,kvs,ls,h=>by
  obtain ⟨l,xs,r,t,rfl,rfl,hl,h1,h2⟩:=h
  simp [PL.len h2]
theorem AO {i jk ja r:Nat} {o ek ea:Expr} {lp p1 p2 p3 p4 pos:Pos} (hr:Room r X.A) (ho:PE X o (tVar i)) (hk:PE X ek (tVar jk)) (ha:PE X ea (tVar ja))
  (b1:attributeBase o "setdefault" X.env (eval o X.env)=eval o X.env:=by rfl)
  (f1:((backTo p2 (starEach [ek,.List [] lp] X.env)).all (fun x=>!x.1) && (backToKw p2 (keywordEach [] X.env)).all (fun x=>x.1.isSome)
   && decide ([ek,.List [] lp].length + ([]:List Keyword).length + (if ([]:List Keyword).isEmpty then 0 else 1) < 30))=true:=by rfl)
  (l1:(p1.endLine == p2.line)=true:=by rfl) (s1:starEach [ek,.List [] lp] X.env=(false,eval ek X.env)::starEach [.List [] lp] X.env:=by rfl) (s1':starEach [.List [] lp] X.env=(false,eval (.List [] lp) X.env)::starEach [] X.env:=by rfl)
  (q1:(backTo p2 (starEach [.List [] lp] X.env)).any (·.1)=false:=by rfl)
  (b2:attributeBase (.Call (.Attribute o "setdefault" p1) [ek,.List [] lp] [] p2) "append" X.env (eval (.Call (.Attribute o "setdefault" p1) [ek,.List [] lp] [] p2) X.env)=eval (.Call (.Attribute o "setdefault" p1) [ek,.List [] lp] [] p2) X.env:=by rfl)
  (f2:((backTo p4 (starEach [ea] X.env)).all (fun x=>!x.1) && (backToKw p4 (keywordEach [] X.env)).all (fun x=>x.1.isSome)
   && decide ([ea].length + ([]:List Keyword).length + (if ([]:List Keyword).isEmpty then 0 else 1) < 30))=true:=by rfl)
  (l2:(p3.endLine == p4.line)=true:=by rfl) (s2:starEach [ea] X.env=(false,eval ea X.env)::starEach [] X.env:=by rfl) (q2:(backTo p4 (starEach [] X.env)).any (·.1)=false:=by rfl)
  (hs:swapsWith (.Call (.Attribute (.Call (.Attribute o "setdefault" p1) [ek,.List [] lp] [] p2) "append" p3) [ea] [] p4) none pos.line X.env=pure false:=by rfl) :
  PSD X (.Expr (.Call (.Attribute (.Call (.Attribute o "setdefault" p1) [ek,.List [] lp] [] p2) "append" p3) [ea] [] p4) pos) (dSda i jk ja):=by
 have hm:=xG PySem.F.plainAttrs_list PySem.F.slot_list_append PySem.F.type_list_append jF (xG PySem.F.plainAttrs_dict PySem.F.slot_dict_setdefault PySem.F.type_dict_setdefault (mq (X:=X) (by have:=hr.units; omega)) ho (cH hk (cH (sQ (pos:=lp) fF) fF s1') s1) b1 f1 l1 s1 q1) (cH ha fF s2) b2 f2 l2 s2 q2
 refine ⟨_,oK hm hs,fun {F} M H σ ρ E D rs oo h=>?_⟩
 obtain ⟨kls,k,d,e1,e2,e3,hlen,hlens,h9⟩:=h
 have g1:=aW e1 (by intro z; cases z)
 obtain ⟨v0,A,hv0,nd,hq,hA,_⟩:=rs.objAt g1
 obtain ⟨a,kvs,ls,rfl,hd,rfl,pl⟩:=ro_dl.mp hq
 obtain ⟨_,hk0,vk,rfl,rk⟩:=rs.at (aW e2 (by intro z; cases z))
 obtain ⟨_,ha0,va,rfl,ra⟩:=rs.at (aW e3 (by intro z; cases z))
 obtain ⟨b,rfl,hb⟩:=jp rk
 obtain ⟨am,a0,ap⟩:=hA a List.mem_cons_self
 obtain ⟨nd1,nd2⟩:=List.nodup_cons.mp nd
 refine ⟨.ref a,hv0,.inr (.inr (.inl ⟨rfl,.inr ⟨kvs,hd⟩⟩)),.ref b,hk0,Nat.zero_le _,fun l hl=>?_⟩
 have la:a≠l:=by rintro rfl; rw [hd] at hl; cases hl
 have lb:b≠l:=by rintro rfl; rw [hb] at hl; cases hl
 have lf:=rs.liv.fresh hl
 have hd1:upd H l (.lst []) a=some (.dT kvs):=by rw [aj la]; exact hd
 have mn:Mv X.K F.pp M H M (upd H l (.lst [])):=.new hl
 have rs1:RSt X.K F M (upd H l (.lst [])) σ ρ:=rs.sameP (.new hl)
 have f0:F.H0 l=none:=by
  cases e:F.H0 l with
  | none=>rfl
  | some o=>exact absurd hl (rs.same.live l (by rw [e]; intro z; cases z))
 refine ⟨a,kvs,k,b,.ref l,rfl,rfl,hd1,by rw [aj lb]; exact hb,by rw [← pl.len]; exact hlen,fun v hv=>?_,fun hn=>?_⟩
 ·rcases pl.add k d nd2 with ⟨a1,_⟩ | ⟨l0,xs,a1,a2,a3,⟨p',c1,c2,c3⟩,_⟩
  ·rw [hv] at a1; cases a1
  rw [hv] at a1
  cases a1
  obtain ⟨lm,l00,lp0⟩:=hA l0 (List.mem_cons_of_mem _ a2)
  have n0:l0≠l:=by rintro rfl; rw [hl] at a3; cases a3
  have hl1:upd H l (.lst []) l0=some (.lst xs):=by rw [aj n0]; exact a3
  have mw:Mv X.K F.pp M (upd H l (.lst [])) M (upd (upd H l (.lst [])) l0 (.lst (xs++[va]))):=.writeX hl1 trivial lm lp0
  have m:=mn.trans mw
  refine ⟨.inl ⟨rfl,xs,SqL.of hl1⟩,va,ha0,l0,xs,va,rfl,rfl,hl1,by rw [← c3]; exact hlens p' c1,oo.nx M _ σ _ m ?_ h9⟩
  refine rs.objStep g1 m (fun v' A' hv' nd' hq' hA'=>?_) rs.sub (rs1.sameW l00 mw) rs1.liv.upd
  rw [hv0] at hv'
  cases hv'
  obtain ⟨a',kvs',ls',e,hd',rfl,pl'⟩:=ro_dl.mp hq'
  cases e
  rw [hd] at hd'
  cases hd'
  obtain ⟨nd1',nd2'⟩:=List.nodup_cons.mp nd'
  rcases pl'.add k d nd2' with ⟨z,_⟩ | ⟨l0',xs',z1,z2,z3,_,f⟩
  ·rw [hv] at z; cases z
  rw [hv] at z1
  cases z1
  rw [a3] at z3
  cases z3
  have na:a≠l0:=by rintro rfl; exact nd1' z2
  have keep:∀ c x,c≠l0->H c=some x->upd (upd H l (.lst [])) l0 (.lst (xs++[va])) c=some x:=fun c x h1 h2=>by
   rw [aj h1,aj (by rintro rfl; rw [hl] at h2; cases h2)]
   exact h2
  refine ⟨a::ls',nd',ro_dl.mpr ⟨a,kvs,ls',rfl,keep a _ na hd,rfl,f m (ra.mv m) ak fun c _ h1 x h2=>keep c x h1 h2⟩,fun c hc=>⟨(hA' c hc).1,(hA' c hc).2.1,(hA' c hc).2.2,.inl hc⟩,fun c hc _ _ hn=>⟨hc,fun x e _=>keep c x (by rintro rfl; exact hn (List.mem_cons_of_mem _ z2)) e⟩⟩
 ·have hput:putK kvs k (.ref l)=kvs++[(k,.ref l)]:=by
   unfold putK
   rw [lQ,hn]
   rfl
  rw [hput]
  have m1:Mv X.K F.pp M H (l::M) (upd H l (.lst [])):=.newOwn hl
  have m2:Mv X.K F.pp (l::M) (upd H l (.lst [])) (l::M) (upd (upd H l (.lst [])) a (.dT (kvs++[(k,.ref l)]))):=.writeX hd1 trivial (List.mem_cons_of_mem _ am) ap
  have m2':Mv X.K F.pp M (upd H l (.lst [])) M (upd (upd H l (.lst [])) a (.dT (kvs++[(k,.ref l)]))):=.writeX hd1 trivial am ap
  have hl2:upd (upd H l (.lst [])) a (.dT (kvs++[(k,.ref l)])) l=some (.lst []):=by rw [aj (Ne.symm la),ak]
  have m3:Mv X.K F.pp (l::M) (upd (upd H l (.lst [])) a (.dT (kvs++[(k,.ref l)]))) (l::M) (upd (upd (upd H l (.lst [])) a (.dT (kvs++[(k,.ref l)]))) l (.lst ([]++[va]))):=.writeX hl2 trivial List.mem_cons_self lf.2
  have m:=(m1.trans m2).trans m3
  have same2:=rs1.sameW a0 m2'
  have same3:SameQ X.K F.pp F.H0 (upd (upd (upd H l (.lst [])) a (.dT (kvs++[(k,.ref l)]))) l (.lst ([]++[va]))):=by
   refine ⟨fun c x e n=>?_,fun p e h=>m3.pen p e (same2.pen p e h),fun c e=>?_⟩
   ·rw [aj (by rintro rfl; rw [f0] at e; cases e)]
    exact same2.keep c x e n
   ·by_cases z:c=l
    ·subst z; rw [ak]; intro z; cases z
    ·rw [aj z]; exact same2.live c e
  have lv3:=(rs1.liv.upd (l:=a) (o:=.dT (kvs++[(k,.ref l)]))).upd (l:=l) (o:=.lst ([]++[va]))
  refine ⟨.inl ⟨rfl,[],SqL.of hl2⟩,va,ha0,l,[],va,rfl,rfl,hl2,by decide,oo.nx (l::M) _ σ _ m ?_ h9⟩
  refine rs.objStep g1 m (fun v' A' hv' nd' hq' hA'=>?_) (fun c hc=>List.mem_cons_of_mem _ (rs.sub c hc)) same3 ⟨fun c hc=>?_,lv3.p⟩
  ·rw [hv0] at hv'
   cases hv'
   obtain ⟨a',kvs',ls',e,hd',rfl,pl'⟩:=ro_dl.mp hq'
   cases e
   rw [hd] at hd'
   cases hd'
   obtain ⟨nd1',nd2'⟩:=List.nodup_cons.mp nd'
   have lls:l∉ls':=fun z=>lf.1 (hA' l (List.mem_cons_of_mem _ z)).1
   rcases pl'.add k d nd2' with ⟨_,z⟩ | ⟨l0',xs',z1,_⟩
   ·have keep:∀ c x,c≠a->c≠l->H c=some x->upd (upd (upd H l (.lst [])) a (.dT (kvs++[(k,.ref l)]))) l (.lst ([]++[va])) c=some x:=fun c x h1 h2 h3=>by
     rw [aj h2,aj h1,aj h2]
     exact h3
    have hal:upd (upd (upd H l (.lst [])) a (.dT (kvs++[(k,.ref l)]))) l (.lst ([]++[va])) a=some (.dT (kvs++[(k,.ref l)])):=by rw [aj la,ak]
    refine ⟨a::(ls'++[l]),?_,ro_dl.mpr ⟨a,_,ls'++[l],rfl,hal,rfl,?_⟩,fun c hc=>?_,fun c hc _ _ hn=>⟨List.mem_cons_of_mem _ hc,fun x e _=>keep c x (by rintro rfl; exact hn List.mem_cons_self) (by rintro rfl; exact lf.1 hc) e⟩⟩
    ·refine List.nodup_cons.mpr ⟨fun z=>?_,List.nodup_append.mpr ⟨nd2',by simp,fun x hx y hy e=>?_⟩⟩
     ·rcases List.mem_append.mp z with z | z
      ·exact nd1' z
      ·exact la (List.mem_singleton.mp z)
     ·rw [List.mem_singleton.mp hy] at e
      subst e
      exact lls hx
    ·rw [z]
     exact PL.snoc ak (.one (ra.mv m)) (pl'.mv m fun c hc x e=>keep c x (by rintro rfl; exact nd1' hc) (by rintro rfl; exact lls hc) e)
    ·rcases List.mem_cons.mp hc with rfl | hc
     ·exact ⟨List.mem_cons_of_mem _ am,a0,ap,.inl List.mem_cons_self⟩
     rcases List.mem_append.mp hc with hc | hc
     ·have:=hA' c (List.mem_cons_of_mem _ hc)
      exact ⟨List.mem_cons_of_mem _ this.1,this.2.1,this.2.2,.inl (List.mem_cons_of_mem _ hc)⟩
     ·rw [List.mem_singleton.mp hc]
      exact ⟨List.mem_cons_self,f0,lf.2,.inr lf.1⟩
   ·rw [hn] at z1; cases z1
  ·rcases List.mem_cons.mp hc with rfl | hc
   ·rw [ak]; intro z; cases z
   ·exact lv3.m c hc
end
end DL
namespace DL
open PySem PySem.Spec L2
open PyProof.Rows hiding St
variable [TB]
variable [Frm]
section
variable {K:PySem.W.Frag} {F:Fx} {M:List Addr} {H:Hp} {σ:St} {ρ:DS} {i:Nat}
end
section
variable {X:Cx}
end
end DL
namespace DL
open PySem PySem.Spec L2
open PyProof.Rows hiding St
variable [TB]
variable [Frm] {X:Cx} {st:Stmt}
end DL
namespace DL
open PySem PySem.Spec L2
open PyProof.Rows hiding St
variable [TB]
section
variable {P:Program} {w:World} {K:PySem.W.Frag} {mg:Str->Option Value} {base:Heap} {k:Nat} {f:Addr} {fd:FuncData} {ps:List Str} {n:Nat}
end
end DL
namespace DL
open PySem PySem.Spec L2
open PyProof.Rows hiding St
variable [TB]
section
variable {X:Cx}
theorem ka2 {K:PySem.W.Frag} {t:Value} {a b:Bool} (h1:PySem.W.kitOne K t (.type "list")=some a) (h2:PySem.W.kitOne K t (.type "tuple")=some b):PySem.W.kitAny K t [.type "list",.type "tuple"]=some (a || b):=by
 unfold PySem.W.kitAny
 rw [h1]
 cases a with
 | true=>rfl
 | false =>
  show PySem.W.kitAny K t [.type "tuple"]=_
  unfold PySem.W.kitAny
  rw [h2]
  cases b <;> rfl
theorem rZ:fA X (.builtin "isinstance") (fun xs H Q=>∃ x p,xs=[x,.ref p] /\ H p=some (.tup [.ty "list",.ty "tuple"]) /\ knV H x /\ Q (.bl (cB H x || ba H x)) H):=by
 intro pins s σ H xs us Q I r h
 obtain ⟨x,p,rfl,hp,kn,q⟩:=h
 obtain ⟨u1,u2,rfl,r1,r2⟩:=vq r
 cases r2
 obtain ⟨_,its,vz,ob,ho,hc,n,hd⟩:=I.hok p _ hp
 have ei:its=[.type "list",.type "tuple"]:=by
  cases vz with
  | cons a b =>
   cases b with
   | cons b c =>
    cases c
    cases (show _=Value.type "list" from a)
    cases (show _=Value.type "tuple" from b)
    rfl
 subst ei
 obtain ⟨oc,od,odt,osl⟩:=ob
 dsimp only at hc hd
 subst hc hd
 have fin:∀ tk,EP X pins σ Q (.bool (cB H x || ba H x)) { s with toks:=tk }:=fun tk=>⟨.bl _,H,I.tok tk,rfl,q⟩
 cases x with
 | non=>cases (show u1=Value.none from r1); exact PySem.W.kia_tup PySem.W.kitx_none I.kIn True.intro ho (ka2 jd dN) (fun z=>nomatch z) fin
 | bl c=>cases (show u1=Value.bool c from r1); exact PySem.W.kia_tup PySem.W.kitx_bool I.kIn True.intro ho (ka2 nD gE) (fun z=>nomatch z) fin
 | int i=>obtain ⟨t,z⟩:=(show ∃ t,u1=Value.int i t from r1); cases z; exact PySem.W.kia_tup PySem.W.kitx_int I.kIn True.intro ho (ka2 oU iQ) (fun z=>nomatch z) fin
 | str y=>obtain ⟨t,z⟩:=(show ∃ t,u1=Value.str y t from r1); cases z; exact PySem.W.kia_tup PySem.W.kitx_str I.kIn True.intro ho (ka2 oV iR) (fun z=>nomatch z) fin
 | ref a =>
  cases (show u1=Value.ref a from r1)
  rcases kn with ⟨ys,e⟩ | ⟨o,ys,e⟩ | ⟨ys,e⟩ | ⟨ys,e⟩ | ⟨ys,e⟩
  ·have eb:(cB H (.ref a) || ba H (.ref a))=true:=by simp only [cB,ba,e]; rfl
   rw [eb] at fin
   obtain ⟨_,_,n,_,h1⟩:=(show ObjOk X.prog X.w H s.heap a (.lst ys) from I.hok a _ e)
   exact PySem.W.kia_tup PySem.W.kitx_list I.kIn ⟨_,h1,rfl⟩ ho (ka2 iS cL) (fun z=>nomatch z) fin
  ·have eb:(cB H (.ref a) || ba H (.ref a))=true:=by simp only [cB,ba,e]; rfl
   rw [eb] at fin
   obtain ⟨_,_,_,n,_,h1⟩:=(show ObjOk X.prog X.w H s.heap a (.frz o (.lst ys)) from I.hok a _ e)
   exact PySem.W.kia_tup PySem.W.kitx_list I.kIn ⟨_,h1,rfl⟩ ho (ka2 iS cL) (fun z=>nomatch z) fin
  ·have eb:(cB H (.ref a) || ba H (.ref a))=true:=by simp only [cB,ba,e]; rfl
   rw [eb] at fin
   obtain ⟨_,_,_,o,h1,h2,_⟩:=(show ObjOk X.prog X.w H s.heap a (.tup ys) from I.hok a _ e)
   exact PySem.W.kia_tup PySem.W.kitx_tuple I.kIn ⟨o,h1,h2⟩ ho (ka2 lS fG) (fun z=>nomatch z) fin
  ·have eb:(cB H (.ref a) || ba H (.ref a))=false:=by simp only [cB,ba,e]; rfl
   rw [eb] at fin
   obtain ⟨_,_,vs,_,p⟩:=(show ObjOk X.prog X.w H s.heap a (.dK ys) from I.hok a _ e)
   obtain ⟨o,es,ep,h1,h2,_⟩:=p
   exact PySem.W.kia_tup PySem.W.kitx_dict I.kIn ⟨o,h1,h2.1⟩ ho (ka2 iT cM) (fun z=>nomatch z) fin
  ·have eb:(cB H (.ref a) || ba H (.ref a))=false:=by simp only [cB,ba,e]; rfl
   rw [eb] at fin
   obtain ⟨_,_,xs,_,o,es,ep,h1,h2,_⟩:=(show ObjOk X.prog X.w H s.heap a (.dT ys) from I.hok a _ e)
   exact PySem.W.kia_tup PySem.W.kitx_dict I.kIn ⟨o,h1,h2.1⟩ ho (ka2 iT cM) (fun z=>nomatch z) fin
 | _=>exact kn.elim
def yD (d:D):Bool:=Aj d || lj d
def Cp:DSp:=fun ds P=>∃ d,ds=[d,.tup [.ty "list",.ty "tuple"]] /\ tU d=true /\ P (.bl (yD d))
theorem uu:CallD X (.builtin "isinstance") Cp:=by
 refine ⟨fun ds P P' f ⟨d,a,b,h⟩=>⟨d,a,b,f _ h⟩,_,rZ,fun {pp} M H ds vs Q _ r h=>?_⟩
 obtain ⟨d,rfl,fd,h⟩:=h
 simp only [Reps] at r
 obtain ⟨x1,_,rfl,r1,x2,_,rfl,r2,rfl⟩:=r
 simp only [Rep] at r2
 obtain ⟨a,zs,rfl,ha,rz⟩:=r2
 have ez:zs=[.ty "list",.ty "tuple"]:=by
  simp only [Reps,Rep] at rz
  obtain ⟨_,_,rfl,rfl,_,_,rfl,rfl,rfl⟩:=rz
  rfl
 subst ez
 have kn:=wI r1 fd
 have e:(cB H x1 || ba H x1)=yD d:=by
  unfold yD
  cases d <;> first | cases fd | skip
  all_goals simp only [Rep] at r1
  case non=>subst r1; rfl
  case bl=>subst r1; rfl
  case int=>subst r1; rfl
  case str=>subst r1; rfl
  case tup=>obtain ⟨a,xs,rfl,h,_⟩:=r1; simp only [cB,ba,h]; rfl
  case lst=>obtain ⟨a,xs,rfl,_,_,h,_⟩:=r1; simp only [cB,ba,h]; rfl
  case dK=>obtain ⟨a,xs,rfl,_,_,h,_⟩:=r1; simp only [cB,ba,h]; rfl
  case dT=>obtain ⟨a,xs,rfl,_,_,h,_⟩:=r1; simp only [cB,ba,h]; rfl
 exact ⟨x1,a,rfl,ha,kn,by rw [e]; exact h H _ .refl eO⟩
end
end DL
namespace L2
open PySem PySem.Spec PyProof.Rows PySem.W
theorem dR {α β:Type} (c:Nat->Nat->Bool) (f:α->KasT β):∀ t:KasT α,kRun c (t.bind f)=kRun c (f (kRun c t))
 | .ret _=>rfl
 | .ask i j k=>dR c f (k (c i j))
structure StrO (N:Nat) (c:Nat->Nat->Bool):Prop where
 tr:∀ i j k,i < N->j < N->k < N->c i j=true->c j k=true->c i k=true
 as:∀ i j,i < N->j < N->c i j=true->c j i=false
 to:∀ i j,i < N->j < N->i≠j->c i j=false->c j i=true
section
variable {N:Nat} {c:Nat->Nat->Bool} {p:Array Nat}
theorem PmN.size (h:PmN N p):p.size=N:=by
 have:=h.length_eq
 simpa using this
theorem PmN.ne (h:PmN N p) {i j:Nat} (hi:i < N) (hj:j < N) (e:i≠j):p.getD i 0≠p.getD j 0:=by
 have nd:p.toList.Nodup:=h.nodup_iff.mpr List.nodup_range
 have s:=h.size
 have e1:p.getD i 0=p.toList[i]'(by simpa [s] using hi):=by simp [Array.getD,s,hi]
 have e2:p.getD j 0=p.toList[j]'(by simpa [s] using hj):=by simp [Array.getD,s,hj]
 rw [e1,e2]
 intro z
 exact e ((List.getElem_inj nd).mp z)
def Asc (c:Nat->Nat->Bool) (p:Array Nat) (n:Nat):Prop:=∀ i j,i < j->j < n->c (p.getD i 0) (p.getD j 0)=true
def Dsc (c:Nat->Nat->Bool) (p:Array Nat) (n:Nat):Prop:=∀ i j,i < j->j < n->c (p.getD j 0) (p.getD i 0)=true
theorem Asc.step (O:StrO N c) (h:PmN N p) {n:Nat} (hn:1 <= n) (hN:n < N) (a:Asc c p n) (e:c (p.getD n 0) (p.getD (n - 1) 0)=false):Asc c p (n + 1):=by
 have h0:0 < N:=by omega
 have last:c (p.getD (n - 1) 0) (p.getD n 0)=true:=O.to _ _ (h.lt h0 _) (h.lt h0 _) (h.ne hN (by omega) (by omega)) e
 intro i j hij hj
 by_cases z:j=n
 ·subst z
  by_cases y:i=j - 1
  ·subst y; exact last
  ·exact O.tr _ _ _ (h.lt h0 _) (h.lt h0 _) (h.lt h0 _) (a i (j - 1) (by omega) (by omega)) last
 ·exact a i j hij (by omega)
theorem Dsc.step (O:StrO N c) (h:PmN N p) {n:Nat} (hn:1 <= n) (hN:n < N) (a:Dsc c p n) (last:c (p.getD n 0) (p.getD (n - 1) 0)=true):Dsc c p (n + 1):=by
 have h0:0 < N:=by omega
 intro i j hij hj
 by_cases z:j=n
 ·subst z
  by_cases y:i=j - 1
  ·subst y; exact last
  ·exact O.tr _ _ _ (h.lt h0 _) (h.lt h0 _) (h.lt h0 _) last (a i (j - 1) (by omega) (by omega))
 ·exact a i j hij (by omega)
theorem pH (O:StrO N c) (h:PmN N p):∀ (f n:Nat),1 <= n->n + f <= N->Asc c p n->Asc c p (kRun c (kas_asc p f n)) /\ n <= kRun c (kas_asc p f n) /\ kRun c (kas_asc p f n) <= n + f /\ (kRun c (kas_asc p f n)=n + f∨c (p.getD (kRun c (kas_asc p f n)) 0) (p.getD (kRun c (kas_asc p f n) - 1) 0)=true)
 | 0,n,_,_,a=>⟨a,Nat.le_refl _,Nat.le_refl _,.inl rfl⟩
 | f + 1,n,hn,hN,a=>by
  have e0:kRun c (kas_asc p (f + 1) n)=kRun c (if c (p.getD n 0) (p.getD (n - 1) 0)=true then .ret n else kas_asc p f (n + 1)):=rfl
  cases e:c (p.getD n 0) (p.getD (n - 1) 0) with
  | true =>
   rw [e0,if_pos e]
   exact ⟨a,Nat.le_refl _,by show n <= _; omega,.inr e⟩
  | false =>
   rw [e0,if_neg (by rw [e]; intro z; cases z)]
   obtain ⟨b1,b2,b3,b4⟩:=pH O h f (n + 1) (by omega) (by omega) (a.step O h hn (by omega) e)
   refine ⟨b1,by omega,by omega,?_⟩
   rcases b4 with b4 | b4
   ·exact .inl (by omega)
   ·exact .inr b4
theorem qL (O:StrO N c) (h:PmN N p):∀ (f n:Nat),1 <= n->n + f <= N->Dsc c p n->∃ m,kRun c (kas_desc f p n 0)=(p,m,0) /\ Dsc c p m /\ n <= m /\ m <= n + f
 | 0,n,_,_,a=>⟨n,rfl,a,Nat.le_refl _,Nat.le_refl _⟩
 | f + 1,n,hn,hN,a=>by
  have h0:0 < N:=by omega
  have e0:kRun c (kas_desc (f + 1) p n 0)=kRun c (if c (p.getD n 0) (p.getD (n - 1) 0)=true then (if 0 > 0 then kas_desc f (kas_rev p (n - (0 + 1)) n) (n + 1) 0 else kas_desc f p (n + 1) 0)
   else .ask (p.getD (n - 1) 0) (p.getD n 0) fun d=>if d=true then .ret (p,n,0) else kas_desc f p (n + 1) (0 + 1)):=rfl
  rw [e0]
  cases e:c (p.getD n 0) (p.getD (n - 1) 0) with
  | true =>
   rw [if_pos rfl,if_neg (by omega)]
   obtain ⟨m,b1,b2,b3,b4⟩:=qL O h f (n + 1) (by omega) (by omega) (a.step O h hn (by omega) e)
   exact ⟨m,b1,b2,by omega,by omega⟩
  | false =>
   rw [if_neg (by intro z; cases z)]
   have last:c (p.getD (n - 1) 0) (p.getD n 0)=true:=O.to _ _ (h.lt h0 _) (h.lt h0 _) (h.ne (by omega) (by omega) (by omega)) e
   have e1:kRun c (.ask (p.getD (n - 1) 0) (p.getD n 0) fun d=>if d=true then .ret (p,n,0) else kas_desc f p (n + 1) (0 + 1))=kRun c (if c (p.getD (n - 1) 0) (p.getD n 0)=true then .ret (p,n,0) else kas_desc f p (n + 1) (0 + 1)):=rfl
   rw [e1,if_pos last]
   exact ⟨n,rfl,a,Nat.le_refl _,by omega⟩
theorem uv {p:Array Nat} {a b:Nat} (ha:a < p.size) (hb:b < p.size) (i:Nat):(p.swapIfInBounds a b).getD i 0=if i=a then p.getD b 0 else if i=b then p.getD a 0 else p.getD i 0:=by
 have e:∀ (q:Array Nat) (j:Nat),q.getD j 0=(q[j]?).getD 0:=fun q j=>by
  by_cases h:j < q.size <;> simp [Array.getD,h]
 rw [e,e,e,e,Array.swapIfInBounds_def,dif_pos ha,dif_pos hb,Array.getElem?_swap]
 by_cases h1:i=a
 ·subst h1
  by_cases h2:i=b
  ·subst h2; simp [hb]
  ·simp [h2,hb,Ne.symm h2]
 ·by_cases h2:i=b
  ·subst h2
   simp [h1,ha,hb]
  ·simp [h1,h2,Ne.symm h1,Ne.symm h2]
theorem qM {p:Array Nat} {k:Nat} (hk:k < p.size):∀ (d:Nat),d <= k->∀ i,(bubble p k d).getD i 0=if i=k - d then p.getD k 0 else if k - d < i /\ i <= k then p.getD (i - 1) 0 else p.getD i 0
 | 0,_,i=>by
  show p.getD i 0=_
  by_cases h:i=k
  ·subst h; simp
  ·rw [if_neg (by omega),if_neg (by omega)]
 | d + 1,hd,i=>by
  rw [bubble_succ,uv (by rw [bubble_size]; omega) (by rw [bubble_size]; omega),qM hk d (by omega),qM hk d (by omega),qM hk d (by omega)]
  by_cases h1:i=k - d
  ·rw [if_pos h1,if_neg (by omega),if_neg (by omega),if_neg (by omega),if_pos (by omega),show k - d - 1=i - 1 by omega]
  ·rw [if_neg h1]
   by_cases h2:i=k - d - 1
   ·rw [if_pos h2,if_pos rfl,if_pos (by omega)]
   ·rw [if_neg h2,if_neg h1,if_neg (show ¬ i=k - (d + 1) by omega)]
    by_cases h3:k - d < i /\ i <= k
    ·rw [if_pos h3,if_pos (by omega)]
    ·rw [if_neg h3,if_neg (by omega)]
theorem qN {p:Array Nat} {n:Nat} (hn:n <= p.size):∀ (d:Nat),d <= n / 2->∀ i,(mirror p 0 n d).getD i 0=if i < d∨(n - d <= i /\ i < n) then p.getD (n - 1 - i) 0 else p.getD i 0
 | 0,_,i=>by
  show p.getD i 0=_
  rw [if_neg (by omega)]
 | d + 1,hd,i=>by
  rw [mirror_succ,uv (by rw [mirror_size]; omega) (by rw [mirror_size]; omega),qN hn d (by omega),qN hn d (by omega),qN hn d (by omega)]
  by_cases h1:i=0 + d
  ·rw [if_pos h1,if_neg (by omega),if_pos (by omega),show n - 1 - d=n - 1 - i by omega]
  ·rw [if_neg h1]
   by_cases h2:i=n - 1 - d
   ·rw [if_pos h2,if_neg (by omega),if_pos (by omega),show n - 1 - i=0 + d by omega]
   ·rw [if_neg h2]
    by_cases h3:i < d∨(n - d <= i /\ i < n)
    ·rw [if_pos h3,if_pos (by omega)]
    ·rw [if_neg h3,if_neg (by omega)]
theorem wP {p:Array Nat} {n:Nat} (hn:n <= p.size) (i:Nat):(kas_rev p 0 n).getD i 0=if i < n then p.getD (n - 1 - i) 0 else p.getD i 0:=by
 unfold kas_rev
 rw [qN hn _ (by omega)]
 by_cases h:i < (n - 0) / 2∨(n - (n - 0) / 2 <= i /\ i < n)
 ·rw [if_pos h,if_pos (by omega)]
 ·rw [if_neg h]
  by_cases h2:i < n
  ·rw [if_pos h2,show n - 1 - i=i by omega]
  ·rw [if_neg h2]
theorem Dsc.rev {n:Nat} (h:PmN N p) (hn:n <= N) (a:Dsc c p n):Asc c (kas_rev p 0 n) n:=by
 intro i j hij hj
 have s:=h.size
 rw [wP (by omega),wP (by omega),if_pos (by omega),if_pos hj]
 exact a _ _ (by omega) (by omega)
theorem uw (O:StrO N c) (h:PmN N p) (h2:2 <= N):Asc c (kRun c (kas_count N p)).2 (kRun c (kas_count N p)).1 /\ 1 <= (kRun c (kas_count N p)).1 /\ (kRun c (kas_count N p)).1 <= N:=by
 obtain ⟨a1,a2,a3,a4⟩:=pH O h (N - 1) 1 (Nat.le_refl _) (by omega) (fun i j hij hj=>by omega)
 unfold kas_count
 rw [dR]
 generalize kRun c (kas_asc p (N - 1) 1)=n at a1 a2 a3 a4
 by_cases e1:(n == N)=true
 ·rw [if_pos e1]
  exact ⟨a1,a2,by show n <= N; omega⟩
 ·rw [if_neg e1]
  have nN:n≠N:=fun z=>e1 (by rw [z]; exact beq_self_eq_true _)
  by_cases e2:n > 1
  ·rw [if_pos e2]
   have e3:kRun c (.ask (p.getD 0 0) (p.getD (n - 1) 0) fun b=>if b=true then .ret (n,p) else kas_descPart n N (kas_rev p 0 n))=kRun c (if c (p.getD 0 0) (p.getD (n - 1) 0)=true then .ret (n,p) else kas_descPart n N (kas_rev p 0 n)):=rfl
   rw [e3,if_pos (a1 0 (n - 1) (by omega) (by omega))]
   exact ⟨a1,a2,by show n <= N; omega⟩
  ·rw [if_neg e2]
   have n1:n=1:=by omega
   subst n1
   have last:c (p.getD 1 0) (p.getD (1 - 1) 0)=true:=by
    rcases a4 with a4 | a4
    ·exact absurd a4 (by omega)
    ·exact a4
   have d2:Dsc c p (1 + 1):=Dsc.step O h (Nat.le_refl _) (by omega) (fun i j hij hj=>by omega) last
   unfold kas_descPart
   rw [dR]
   obtain ⟨m,b1,b2,b3,b4⟩:=qL O h (N - (1 + 1)) (1 + 1) (by omega) (by omega) d2
   rw [b1]
   show Asc c (kRun c (if (0:Nat) > 0 then _ else kas_tail3 m N p)).2 _ /\ _
   rw [if_neg (by omega)]
   have mN:m <= N:=by omega
   unfold kas_tail3
   rw [dR]
   obtain ⟨c1,c2,c3,_⟩:=pH O (h.rev 0 m) (N - m) m (by omega) (by omega) (b2.rev h mN)
   exact ⟨c1,by show 1 <= kRun c _; omega,by show kRun c _ <= N; omega⟩
theorem jW (O:StrO N c) (h:PmN N p) {k:Nat} (hk:k < N) (a:Asc c p k):∀ (f l r:Nat),r - l <= f->l <= r->r <= k->(∀ i,i < l->c (p.getD i 0) (p.getD k 0)=true)->(∀ i,r <= i->i < k->c (p.getD k 0) (p.getD i 0)=true) ->
  (kRun c (kas_place p k f l r) <= k /\ (∀ i,i < kRun c (kas_place p k f l r)->c (p.getD i 0) (p.getD k 0)=true) /\ ∀ i,kRun c (kas_place p k f l r) <= i->i < k->c (p.getD k 0) (p.getD i 0)=true)
 | 0,l,r,hf,hlr,hr,h1,h2=>by
  show l <= k /\ _
  have:l=r:=by omega
  subst this
  exact ⟨hr,h1,h2⟩
 | f + 1,l,r,hf,hlr,hr,h1,h2=>by
  have h0:0 < N:=by omega
  unfold kas_place
  by_cases e:l ≥ r
  ·rw [if_pos e]
   have:l=r:=by omega
   subst this
   exact ⟨hr,h1,h2⟩
  ·rw [if_neg e]
   have e3:∀ (t u:KasT Nat),kRun c (.ask (p.getD k 0) (p.getD ((l + r) / 2) 0) fun b=>if b=true then t else u)=kRun c (if c (p.getD k 0) (p.getD ((l + r) / 2) 0)=true then t else u):=fun _ _=>rfl
   rw [e3]
   cases z:c (p.getD k 0) (p.getD ((l + r) / 2) 0) with
   | true =>
    rw [if_pos rfl]
    refine jW O h hk a f l ((l + r) / 2) (by omega) (by omega) (by omega) h1 fun i hi hik=>?_
    by_cases y:i=(l + r) / 2
    ·rw [y]; exact z
    ·exact O.tr _ _ _ (h.lt h0 _) (h.lt h0 _) (h.lt h0 _) z (a _ _ (by omega) hik)
   | false =>
    rw [if_neg (by intro z; cases z)]
    have z':c (p.getD ((l + r) / 2) 0) (p.getD k 0)=true:=O.to _ _ (h.lt h0 _) (h.lt h0 _) (h.ne hk (by omega) (by omega)) z
    refine jW O h hk a f ((l + r) / 2 + 1) r (by omega) (by omega) hr (fun i hi=>?_) h2
    by_cases y:i=(l + r) / 2
    ·rw [y]; exact z'
    ·exact O.tr _ _ _ (h.lt h0 _) (h.lt h0 _) (h.lt h0 _) (a i _ (by omega) (by omega)) z'
theorem Asc.bub (h:PmN N p) {k l:Nat} (hk:k < N) (a:Asc c p k) (hl:l <= k) (h1:∀ i,i < l->c (p.getD i 0) (p.getD k 0)=true) (h2:∀ i,l <= i->i < k->c (p.getD k 0) (p.getD i 0)=true):Asc c (bubble p k (k - l)) (k + 1):=by
 intro i j hij hj
 have s:=h.size
 have e:=qM (p:=p) (k:=k) (by omega) (k - l) (by omega)
 have el:k - (k - l)=l:=by omega
 rw [e i,e j,el]
 by_cases i1:i=l
 ·rw [if_pos i1,if_neg (by omega),if_pos (by omega)]
  exact h2 (j - 1) (by omega) (by omega)
 ·rw [if_neg i1]
  by_cases j1:j=l
  ·rw [if_pos j1,if_neg (by omega)]
   exact h1 i (by omega)
  ·rw [if_neg j1]
   by_cases i2:l < i /\ i <= k
   ·rw [if_pos i2,if_pos (by omega)]
    exact a _ _ (by omega) (by omega)
   ·rw [if_neg i2]
    by_cases j2:l < j /\ j <= k
    ·rw [if_pos j2]
     exact a _ _ (by omega) (by omega)
    ·rw [if_neg j2]
     exact a _ _ hij (by omega)
theorem uz (O:StrO N c):∀ (f:Nat) (p:Array Nat) (k:Nat),PmN N p->1 <= k->k + f=N->Asc c p k->Asc c (kRun c (kas_bin f p k)) N
 | 0,p,k,h,_,e,a=>by
  have:k=N:=by omega
  subst this
  exact a
 | f + 1,p,k,h,hk,e,a=>by
  unfold kas_bin
  rw [dR]
  obtain ⟨b1,b2,b3⟩:=jW O h (k:=k) (by omega) a k 0 k (by omega) (by omega) (Nat.le_refl _) (fun i hi=>by omega) (fun i hi hik=>by omega)
  exact uz O f _ (k + 1) (h.bub _ _) (by omega) (by omega) (a.bub h (by omega) b1 b2 b3)
theorem qO (O:StrO N c) (h2:2 <= N):Asc c (kRun c (kas_sort N)) N:=by
 have hp:PmN N (List.toArray (List.range N)):=by unfold PmN; rw [List.toList_toArray]
 unfold kas_sort
 rw [dR]
 obtain ⟨a1,a2,a3⟩:=uw O hp h2
 have pm:=KGood.end c _ (lw (N:=N) (by omega) hp N)
 generalize kRun c (kas_count N (List.toArray (List.range N)))=r at a1 a2 a3 pm
 by_cases e:r.1 < N
 ·rw [if_pos e]
  have em:max r.1 1=r.1:=by omega
  rw [em]
  exact uz O _ _ _ pm a2 (by omega) a1
 ·rw [if_neg e]
  have:r.1=N:=by omega
  rw [this] at a1
  exact a1
end
end L2
namespace L2
open PySem PySem.Spec PyProof.Rows
def IterX:Bool->Heap->Addr->Addr->Nat->Prop
 | true,h,i,a,k=>h.IsTupleIter i a k
 | false,h,i,a,k=>h.IsListIter i a k
def SeqX:Bool->Heap->Addr->Array Value->Prop
 | true,h,a,xs=>h.IsTuple a xs
 | false,h,a,xs=>h.IsList a xs
theorem IterX.extBut {t:Bool} {h h':Heap} {i a b:Addr} {k:Nat} (x:IterX t h i a k) (hs:Heap.ExtBut b h h') (e:i≠b):IterX t h' i a k:=by
 cases t with
 | true=>exact Heap.IsTupleIter.extBut x hs e
 | false=>exact Heap.IsListIter.extBut x hs e
theorem IterX.at {t:Bool} {h h':Heap} {i a:Addr} {k:Nat} (x:IterX t h i a k) (e:∀ o,h.get? i=some o->h'.get? i=some o):IterX t h' i a k:=by
 cases t with
 | true=>exact Heap.IsTupleIter.at x e
 | false=>exact Heap.IsListIter.at x e
theorem IterX.cell {t:Bool} {h:Heap} {i a:Addr} {k:Nat} (x:IterX t h i a k):∃ o,h.get? i=some o /\ ∀ v,o.data ≠ .cell v:=by
 cases t with
 | true=>obtain ⟨o,e,_,d⟩:=(show h.IsTupleIter i a k from x); exact ⟨o,e,fun v z=>by rw [d] at z; cases z⟩
 | false=>obtain ⟨o,e,_,d⟩:=(show h.IsListIter i a k from x); exact ⟨o,e,fun v z=>by rw [d] at z; cases z⟩
theorem SeqX.extBut {t:Bool} {h h':Heap} {a b:Addr} {xs:Array Value} (x:SeqX t h a xs) (hs:Heap.ExtBut b h h') (e:a≠b):SeqX t h' a xs:=by
 cases t with
 | true=>exact Heap.IsTuple.extBut x hs e
 | false=>exact Heap.IsList.extBut x hs e
theorem SeqX.at {t:Bool} {h h':Heap} {a:Addr} {xs:Array Value} (x:SeqX t h a xs) (e:∀ o,h.get? a=some o->h'.get? a=some o):SeqX t h' a xs:=by
 cases t with
 | true=>obtain ⟨o,ho,r⟩:=(show h.IsTuple a xs from x); exact ⟨o,e o ho,r⟩
 | false=>exact Heap.IsList.at x e
theorem SeqX.lt {t:Bool} {h:Heap} {a:Addr} {xs:Array Value} (x:SeqX t h a xs):a < h.objs.size:=by
 cases t with
 | true=>obtain ⟨o,ho,_⟩:=(show h.IsTuple a xs from x); exact Heap.lt_size ho
 | false=>obtain ⟨o,ho,_⟩:=(show h.IsList a xs from x); exact Heap.lt_size ho
section
variable {prog:Program} {w:World} {A:Around} {E:Value->Shared->Prop} {s:Shared}
theorem jX {it t:Addr} {i:Nat} {xs:Array Value} {v:Value} {Q:Value->Shared->Prop} (h1:s.heap.IsTupleIter it t i) (h2:s.heap.IsTuple t xs) (h3:xs[i]? = some v)
  (q:∀ h',h'.IsTupleIter it t (i + 1)->Heap.SameBut it s.heap h'->Q v { s with heap:=h' }):wpAny (model prog w) A (Builtin.SmallTypes.nextOf (.ref it)) Q E s:=by
 obtain ⟨ob,ho,oc,od⟩:=id h1
 obtain ⟨ot,hot,_,nt,odt⟩:=h2
 unfold Builtin.SmallTypes.nextOf
 refine wpAny_bind (wpAny_callSpecial?_slot (name:=Str.ofString "__next__") h1.typeIs F.slot_tuple_iterator_next (wpAny_call_entry F.slot_tuple_iterator_next h1.typeIs F.entry_tuple_iterator_next ?_ (F.args_tuple_iterator_next_1 _)))
 refine (show wpAny _ _ (field (.ref it) 0 >>= _) _ _ s from wpAny_bind (wpAny_field ho od (x:=.ref t) rfl ?_))
 refine (show wpAny _ _ (if (Value.ref t == Value.none)=true then _ else _) _ _ s from ?_)
 rw [if_neg (show ¬ ((Value.ref t == Value.none)=true) from fun z=>nomatch z)]
 refine (show wpAny _ _ (field (.ref it) 1 >>= _) _ _ s from wpAny_bind (wpAny_field ho od (x:=.int i 0) rfl ?_))
 refine (show wpAny _ _ (seqItems? (.ref t) >>= _) _ _ s from wpAny_bind (wpAny_seqItems hot odt ?_))
 simp only [Int.toNat_natCast,h3]
 refine wpAny_bind (wpAny_setField ho od (by simp) (wpAny_pure ⟨v,rfl,wpAny_pure (q _ ⟨_,Heap.get?_update_self _ ho (Obj.isFreed_of_fields (Obj.data_mapFields od _)),(Obj.cls_mapFields ..).trans oc,by rw [Obj.data_mapFields od]; simp [rawInt]⟩ (Heap.SameBut.update ..))⟩))
theorem kR {it t:Addr} {i:Nat} {xs:Array Value} {Q:Value->Shared->Prop} (hh:A.handled=none) (h1:s.heap.IsTupleIter it t i) (h2:s.heap.IsTuple t xs) (h3:xs[i]? = none)
  (q:∀ h' e,Heap.ExtBut it s.heap h'->(∃ o,h'.get? e=some o /\ o.cls = .type "StopIteration")->E (.ref e) { s with heap:=h' }):wpAny (model prog w) A (Builtin.SmallTypes.nextOf (.ref it)) Q E s:=by
 obtain ⟨ob,ho,oc,od⟩:=id h1
 obtain ⟨ot,hot,_,nt,odt⟩:=h2
 unfold Builtin.SmallTypes.nextOf
 refine wpAny_bind (wpAny_callSpecial?_slot (name:=Str.ofString "__next__") h1.typeIs F.slot_tuple_iterator_next (wpAny_call_entry F.slot_tuple_iterator_next h1.typeIs F.entry_tuple_iterator_next ?_ (F.args_tuple_iterator_next_1 _)))
 refine (show wpAny _ _ (field (.ref it) 0 >>= _) _ _ s from wpAny_bind (wpAny_field ho od (x:=.ref t) rfl ?_))
 refine (show wpAny _ _ (if (Value.ref t == Value.none)=true then _ else _) _ _ s from ?_)
 rw [if_neg (show ¬ ((Value.ref t == Value.none)=true) from fun z=>nomatch z)]
 refine (show wpAny _ _ (field (.ref it) 1 >>= _) _ _ s from wpAny_bind (wpAny_field ho od (x:=.int i 0) rfl ?_))
 refine (show wpAny _ _ (seqItems? (.ref t) >>= _) _ _ s from wpAny_bind (wpAny_seqItems hot odt ?_))
 simp only [Int.toNat_natCast,h3]
 refine wpAny_bind (wpAny_rule (wpAny_bind (wpAny_setField ho od (by simp) ?_)))
 refine (show wpAny _ _ (newExc (.type "StopIteration") [] >>= _) _ _ _ from wpAny_bind ?_)
 simp only [newExc,newTuple]
 refine wpAny_bind (wpAny_newObj_type (wpAny_bind (m:=firstArgMember _ _) (wpAny_of_eq (a:=Value.none) (by first | rfl | (simp only [firstArgMember]; rfl)) (wpAny_newObj_type ?_ (by size_fits)))) (by size_fits))
 simp only [raiseNew]; refine wpAny_bind (wpAny_handled ?_); (first | rw [show A.in1.handled=none from hh] | rw [hh]); refine wpAny_bind (wpAny_pure (wpAny_throw ?_))
 exact q _ _ (((Heap.SameBut.update ..).extBut.push _).push _) ⟨_,Heap.get?_push_size _ rfl,rfl⟩
theorem gO {b:Bool} {it t:Addr} {i:Nat} {xs:Array Value} {v:Value} {Q:Value->Shared->Prop} (h1:IterX b s.heap it t i) (h2:SeqX b s.heap t xs) (h3:xs[i]? = some v)
  (q:∀ h',IterX b h' it t (i + 1)->Heap.SameBut it s.heap h'->Q v { s with heap:=h' }):wpAny (model prog w) A (Builtin.SmallTypes.nextOf (.ref it)) Q E s:=by
 cases b with
 | true=>exact jX h1 h2 h3 q
 | false=>exact wpAny_nextOf_list_item h1 h2 h3 q
theorem iV {b:Bool} {it t:Addr} {i:Nat} {xs:Array Value} {Q:Value->Shared->Prop} (hh:A.handled=none) (h1:IterX b s.heap it t i) (h2:SeqX b s.heap t xs) (h3:xs[i]? = none)
  (q:∀ h' e,Heap.ExtBut it s.heap h'->(∃ o,h'.get? e=some o /\ o.cls = .type "StopIteration")->E (.ref e) { s with heap:=h' }):wpAny (model prog w) A (Builtin.SmallTypes.nextOf (.ref it)) Q E s:=by
 cases b with
 | true=>exact kR hh h1 h2 h3 q
 | false=>exact wpAny_nextOf_list_end hh h1 h2 h3 q
end
end L2
namespace L2
open PySem PySem.Spec PyProof.Rows
section
variable {tk:Addr->Bool}
def wQ (tk:Addr->Bool) (h:Heap) (n:Nat) (src:List (Addr×Array Value)) (k c:Nat):Prop:=∀ (j:Nat) (p:Addr×Array Value),src[j]? = some p->IterX (tk p.1) h (n + j) p.1 (if j < c then k + 1 else k)
def wR (tk:Addr->Bool) (h:Heap) (n:Nat) (src:List (Addr×Array Value)):Prop:=∀ (j:Nat) (p:Addr×Array Value),src[j]? = some p->p.1 < n /\ SeqX (tk p.1) h p.1 p.2
structure ZipStM (tk:Addr->Bool) (h:Heap) (n:Nat) (src:List (Addr×Array Value)) (k:Nat):Prop where
 zip:∃ f0 f1,OwnF f0 /\ dz h (n + src.length + 2) (n + src.length) (n + src.length + 1) f0 f1
 ti:cJ h (n + src.length) (itsL n src.length).toArray
 to:∃ ws:Array Value,ws.size=src.length /\ cJ h (n + src.length + 1) ws
 its:wQ tk h n src k 0
 ls:wR tk h n src
 ne:src≠[]
structure ZipLpM (tk:Addr->Bool) (h0:Heap) (n:Nat) (src:List (Addr×Array Value)) (k c:Nat) (h:Heap):Prop where
 ti:cJ h (n + src.length) (itsL n src.length).toArray
 its:wQ tk h n src k c
 ls:wR tk h n src
 kept:KeptZ n src.length h0 h
 sz:h.objs.size=h0.objs.size
section
variable {h0 h h':Heap} {n k c:Nat} {src:List (Addr×Array Value)}
theorem ZipLpM.same {a:Nat} (L:ZipLpM tk h0 n src k c h) (hs:Heap.SameBut a h h') (ha:a=n + src.length + 1∨a=n + src.length + 2):ZipLpM tk h0 n src k c h' where
 ti:=hs.extBut _ _ (by intro e; have e:(_:Nat)=(_:Nat):=e; omega) L.ti
 its:=fun j p hj=>(L.its j p hj).extBut hs.extBut (by have:=fT hj; intro e; have e:(_:Nat)=(_:Nat):=e; omega)
 ls:=fun j p hj=>⟨(L.ls j p hj).1,(L.ls j p hj).2.extBut hs.extBut (Nat.ne_of_lt (Nat.lt_of_lt_of_le (L.ls j p hj).1 (show n <= a by omega)))⟩
 kept:=fun b o hb e=>hs.extBut _ _ (by intro e; have e:(_:Nat)=(_:Nat):=e; omega) (L.kept b o hb e)
 sz:=hs.1.trans L.sz
theorem ZipLpM.next {p:Addr×Array Value} (L:ZipLpM tk h0 n src k c h) (hc:src[c]? = some p) (hit:IterX (tk p.1) h' (n + c) p.1 (k + 1)) (hs:Heap.SameBut (n + c) h h'):ZipLpM tk h0 n src k (c + 1) h':=by
 have lt:=fT hc
 refine ⟨hs.extBut _ _ (by intro e; have e:(_:Nat)=(_:Nat):=e; omega) L.ti,fun j q hj=>?_,fun j q hj=>⟨(L.ls j q hj).1,(L.ls j q hj).2.extBut hs.extBut (Nat.ne_of_lt (Nat.lt_of_lt_of_le (L.ls j q hj).1 (Nat.le_add_right n c)))⟩,fun b o hb e=>hs.extBut _ _ (by intro e; have e:(_:Nat)=(_:Nat):=e; omega) (L.kept b o hb e),hs.1.trans L.sz⟩
 by_cases z:j=c
 ·subst z
  rw [hc] at hj
  cases hj
  rw [if_pos (by omega)]
  exact hit
 ·have:=(L.its j q hj).extBut hs.extBut (by intro e; have e:(_:Nat)=(_:Nat):=e; omega)
  by_cases y:j < c
  ·rw [if_pos y] at this
   rw [if_pos (by omega)]
   exact this
  ·rw [if_neg y] at this
   rw [if_neg (by omega)]
   exact this
theorem KeptZ.stepM {a:Nat} (L:ZipLpM tk h0 n src k c h) (hs:Heap.ExtBut a h h') (ha:(n <= a /\ a < n + src.length)∨a=n + src.length + 1∨a=n + src.length + 2):KeptZ n src.length h0 h' :=
 fun b o hb e=>hs _ _ (by intro e; have e:(_:Nat)=(_:Nat):=e; omega) (L.kept b o hb e)
end
section
variable {prog:Program} {w:World} {A:Around} {E:Value->Shared->Prop} {s:Shared}
set_option maxHeartbeats 1000000 in
theorem uA {n k:Nat} {src:List (Addr×Array Value)} {Q:Value->Shared->Prop} (hh:A.handled=none) (hsz:src.length <= sizeLine) (hs:ZipStM tk s.heap n src k)
  (hQ:∀ vs h',Told src k src.length vs->ZipStM tk h' n src (k + 1)->cJ h' s.heap.objs.size vs.toArray->h'.objs.size=s.heap.objs.size + 1->KeptZ n src.length s.heap h'->Q (.ref s.heap.objs.size) { s with heap:=h' })
  (hE:(∃ (j:Nat) (p:Addr×Array Value),src[j]? = some p /\ p.2[k]? = none)->∀ h' e,KeptZ n src.length s.heap h'->(∃ o,h'.get? e=some o /\ o.cls = .type "StopIteration")->E (.ref e) { s with heap:=h' }) :
  wpAny (model prog w) A (Builtin.«zip.__next__» ⟨[.ref (n + src.length + 2)],[]⟩) (fun fin s'=>∃ v,fin = .done (.ret v) /\ Q v s') E s:=by
 obtain ⟨⟨f0,f1,hf,hz⟩,hTI,⟨ws,hws,hTO⟩,hit,hls,hne⟩:=hs
 show wpAny _ _ (field (.ref (n + src.length + 2)) 2 >>= _) _ _ _
 refine wpAny_bind (wpAny_field hz rfl (x:=.bool false) rfl ?_)
 show wpAny _ _ (field (.ref (n + src.length + 2)) 3 >>= _) _ _ _
 refine wpAny_bind (wpAny_field hz rfl (x:=.ref (n + src.length)) rfl ?_)
 refine wpAny_bind (wpAny_seqItems hTI rfl ?_)
 have hem:((itsL n src.length).toArray.isEmpty)=false:=by
  cases src with
  | nil=>exact absurd rfl hne
  | cons a l=>simp [itsL]
 simp only [hem,Bool.false_eq_true,if_false]
 refine wpAny_bind (vT hf hz ?_ fun h1 f1' hz1 hs1=>?_)
 ·simp only [if_true]
  refine wpAny_bind (wpAny_rule ?_)
  refine wpAny_bind (wpAny_field hz rfl (x:=.ref (n + src.length + 1)) rfl ?_)
  refine wpAny_bind (wpAny_setField_rec hz (by simp) fun h₁ hz₁ hs₁=>?_)
  replace hz₁:dz h₁ (n + src.length + 2) (n + src.length) (n + src.length + 1) .ellipsis f1:=hz₁
  have L0:ZipLpM tk s.heap n src k 0 s.heap:=⟨hTI,hit,hls,fun _ _ _ e=>e,rfl⟩
  have L1:=L0.same hs₁ (.inr rfl)
  have hTO₁:cJ h₁ (n + src.length + 1) ws:=hs₁.extBut _ _ (by intro e; have e:(_:Nat)=(_:Nat):=e; omega) hTO
  refine wpAny_bind (wpAny_forIn_list _ (fun rest b s'=>∃ c h ws vs,rest=((itsL n src.length).toArray.toList.zipIdx).drop c /\ c <= src.length /\ b=(none,()) /\ s'={ s with heap:=h } /\ dz h (n + src.length + 2) (n + src.length) (n + src.length + 1) .ellipsis f1 /\ ZipLpM tk s.heap n src k c h /\ Told src k c vs /\ ws.size=src.length /\ cJ h (n + src.length + 1) ws /\ ∀ j,j < c->ws[j]? = vs[j]?) _ ?turn ?fin _ _ ⟨0,h₁,ws,[],rfl,Nat.zero_le _,rfl,rfl,hz₁,L1,⟨rfl,fun j p hj=>absurd hj (Nat.not_lt_zero _)⟩,hws,hTO₁,fun j hj=>absurd hj (Nat.not_lt_zero _)⟩)
  case turn =>
   rintro x rest b s' ⟨c,h,ws,vs,hr,hc,rfl,rfl,hz,L,ht,hws,hTO,hw⟩
   obtain ⟨hx,hr2⟩:=ui hr.symm
   have hc:c < src.length:=by
    have:=fT hx
    simpa using this
   rw [List.toList_toArray,List.getElem?_zipIdx,uj hc] at hx
   simp only [Option.map_some,Nat.zero_add,Option.some.injEq] at hx
   subst hx
   have hp:src[c]? = some src[c]:=by simp [hc]
   have hi:=L.its c _ hp
   rw [if_neg (Nat.lt_irrefl _)] at hi
   have hl:=(L.ls c _ hp).2
   refine wpAny_bind (wpAny_onRaise ?_)
   show wpAny _ _ (Builtin.SmallTypes.nextOf (.ref (n + c)) >>= _) _ _ _
   cases ev:(src[c]).2[k]? with
   | none =>
    refine wpAny_bind (iV hh hi hl ev fun h₂ e hs₂ he=>?_)
    obtain ⟨oe,hoe,hce⟩:=he
    have hz₂:dz h₂ (n + src.length + 2) (n + src.length) (n + src.length + 1) .ellipsis f1:=hs₂ _ _ (by intro e; have e:(_:Nat)=(_:Nat):=e; omega) hz
    have hez:e≠n + src.length + 2:=fun x=>by subst x; rw [hz₂] at hoe; cases hoe; simp at hce
    refine wpAny_setField_rec hz₂ (by simp) fun h₃ _ hs₃=>hE ⟨c,_,hp,ev⟩ h₃ e (fun b o hb x=>hs₃.extBut _ _ (by intro e; have e:(_:Nat)=(_:Nat):=e; omega) (KeptZ.stepM L hs₂ (.inl ⟨Nat.le_add_right _ _,by omega⟩) b o hb x)) ⟨oe,hs₃.extBut _ _ hez hoe,hce⟩
   | some v =>
    refine wpAny_bind (gO hi hl ev fun h₂ hi₂ hs₂=>wpAny_pure ?_)
    have hTO₂:cJ h₂ (n + src.length + 1) ws:=hs₂.extBut _ _ (by intro e; have e:(_:Nat)=(_:Nat):=e; omega) hTO
    have hz₂:dz h₂ (n + src.length + 2) (n + src.length) (n + src.length + 1) .ellipsis f1:=hs₂.extBut _ _ (by intro e; have e:(_:Nat)=(_:Nat):=e; omega) hz
    refine wpAny_bind (wpAny_seqItems hTO₂ rfl ?_)
    refine wpAny_bind (fU hTO₂ (by omega) fun h₃ hTO₃ hs₃=>?_)
    refine wpAny_bind (wpAny_letGo (wpAny_pure ?_))
    refine ⟨c + 1,h₃,_,vs++[v],hr2.symm,hc,rfl,rfl,hs₃.extBut _ _ (by intro e; have e:(_:Nat)=(_:Nat):=e; omega) hz₂,(L.next hp hi₂ hs₂).same hs₃ (.inl rfl),ht.push hp ev,by simp [hws],hTO₃,fun j hj=>?_⟩
    rw [Array.getElem?_setIfInBounds]
    by_cases z:c=j
    ·subst z
     rw [if_pos rfl,if_pos (by omega),List.getElem?_append_right (by rw [ht.1]; exact Nat.le_refl _),ht.1]
     simp
    ·rw [if_neg z,hw j (by omega),List.getElem?_append_left (by rw [ht.1]; omega)]
  case fin =>
   rintro b s' ⟨c,h,ws,vs,hr,hc,rfl,rfl,hz,L,ht,hws,hTO,hw⟩
   have hc:c=src.length:=by
    have:=congrArg List.length hr
    simp at this
    omega
   subst hc
   refine wpAny_bind (wpAny_seqItems hTO rfl ?_)
   have ews:ws=vs.toArray:=by
    have:ws.toList=vs:=List.ext_getElem? fun j=>by
     rw [Array.getElem?_toList]
     by_cases z:j < src.length
     ·exact hw j z
     ·rw [Array.getElem?_eq_none (by omega),List.getElem?_eq_none (by rw [ht.1]; omega)]
    rw [← this]
   subst ews
   refine wpAny_bind (wpAny_newTuple ?_ (by simp [ht.1]; exact hsz))
   show wpAny _ _ (Builtin.SmallTypes.ownedTupleHandOut (.ref (n + src.length + 2)) (.ref h.objs.size) >>= _) _ _ _
   refine wpAny_bind ?_
   unfold Builtin.SmallTypes.ownedTupleHandOut
   have hzlt:n + src.length + 2 < h.objs.size:=Heap.lt_size hz
   have hz₆:dz (h.push { cls:=.type "tuple",data:=.seq vs.toArray.toList.toArray }) (n + src.length + 2) (n + src.length) (n + src.length + 1) .ellipsis f1:=Heap.get?_push_of_some _ hz
   refine wpAny_bind (wpAny_setField_rec hz₆ (by simp) fun h₇ hz₇ hs₇=>?_)
   replace hz₇:dz h₇ (n + src.length + 2) (n + src.length) (n + src.length + 1) (rawInt h.objs.size) f1:=hz₇
   refine wpAny_setField_rec hz₇ (by simp) fun h₈ hz₈ hs₈=>?_
   replace hz₈:dz h₈ (n + src.length + 2) (n + src.length) (n + src.length + 1) (rawInt h.objs.size) (.bool false):=hz₈
   have up:∀ c o,c≠n + src.length + 2->h.get? c=some o->h₈.get? c=some o:=fun c o c1 e=>hs₈.extBut _ _ c1 (hs₇.extBut _ _ c1 (Heap.get?_push_of_some _ e))
   have hT₈:cJ h₈ h.objs.size vs.toArray:=hs₈.extBut _ _ (Nat.ne_of_gt hzlt) (hs₇.extBut _ _ (Nat.ne_of_gt hzlt) (Heap.get?_push_size _ rfl))
   have hz8:h₈.objs.size=h.objs.size + 1:=by rw [hs₈.1,hs₇.1,Heap.size_push]
   have esz:=L.sz
   rw [esz] at hT₈ hz8
   refine wpAny_pure ⟨_,rfl,?_⟩
   show Q (.ref h.objs.size) _
   rw [esz]
   refine hQ vs h₈ ht ⟨⟨_,_,.inr ⟨_,rfl⟩,hz₈⟩,up _ _ (by intro e; have e:(_:Nat)=(_:Nat):=e; omega) L.ti,⟨_,hws,up _ _ (by intro e; have e:(_:Nat)=(_:Nat):=e; omega) hTO⟩,fun j p hj=>?_,fun j p hj=>⟨(L.ls j p hj).1,(L.ls j p hj).2.at fun o e=>up _ o (Nat.ne_of_lt (Nat.lt_of_lt_of_le (L.ls j p hj).1 (show n <= n + src.length + 2 by omega))) e⟩,hne⟩ hT₈ hz8 fun b o hb e=>up b o (by intro e; have e:(_:Nat)=(_:Nat):=e; omega) (L.kept b o hb e)
   have:=fT hj
   have h1:=(L.its j p hj).at fun o e=>up _ o (by intro e; have e:(_:Nat)=(_:Nat):=e; omega) e
   rw [if_pos this] at h1
   rw [if_neg (Nat.not_lt_zero _)]
   exact h1
 ·simp only [Bool.false_eq_true,if_false]
  have L0:ZipLpM tk s.heap n src k 0 s.heap:=⟨hTI,hit,hls,fun _ _ _ e=>e,rfl⟩
  have L1:=L0.same hs1 (.inr rfl)
  have hTO₁:cJ h1 (n + src.length + 1) ws:=hs1.extBut _ _ (by intro e; have e:(_:Nat)=(_:Nat):=e; omega) hTO
  refine wpAny_bind (wpAny_forIn_array' _ (fun rest b s'=>∃ c h vs,rest=((itsL n src.length).toArray.toList).drop c /\ c <= src.length /\ b=(none,vs.toArray) /\ s'={ s with heap:=h } /\ dz h (n + src.length + 2) (n + src.length) (n + src.length + 1) f0 f1' /\ ZipLpM tk s.heap n src k c h /\ Told src k c vs /\ cJ h (n + src.length + 1) ws) _ ?turn2 ?fin2 _ _ ⟨0,h1,[],rfl,Nat.zero_le _,rfl,rfl,hz1,L1,⟨rfl,fun j p hj=>absurd hj (Nat.not_lt_zero _)⟩,hTO₁⟩)
  case turn2 =>
   rintro x rest b s' ⟨c,h,vs,hr,hc,rfl,rfl,hz,L,ht,hTO⟩
   obtain ⟨hx,hr2⟩:=ui hr.symm
   have hc:c < src.length:=by
    have:=fT hx
    simpa using this
   rw [List.toList_toArray,uj hc] at hx
   cases hx
   have hp:src[c]? = some src[c]:=by simp [hc]
   have hi:=L.its c _ hp
   rw [if_neg (Nat.lt_irrefl _)] at hi
   have hl:=(L.ls c _ hp).2
   refine wpAny_bind (wpAny_holding ?_)
   show wpAny _ _ (Builtin.SmallTypes.nextOf (.ref (n + c)) >>= _) _ _ _
   cases ev:(src[c]).2[k]? with
   | none =>
    refine wpAny_bind (iV hh hi hl ev fun h₂ e hs₂ he=>?_)
    exact hE ⟨c,_,hp,ev⟩ h₂ e (KeptZ.stepM L hs₂ (.inl ⟨Nat.le_add_right _ _,by omega⟩)) he
   | some v =>
    refine wpAny_bind (gO hi hl ev fun h₂ hi₂ hs₂=>wpAny_pure ?_)
    refine wpAny_pure ⟨c + 1,h₂,vs++[v],hr2.symm,hc,by simp,rfl,hs₂.extBut _ _ (by intro e; have e:(_:Nat)=(_:Nat):=e; omega) hz,L.next hp hi₂ hs₂,ht.push hp ev,hs₂.extBut _ _ (by intro e; have e:(_:Nat)=(_:Nat):=e; omega) hTO⟩
  case fin2 =>
   rintro b s' ⟨c,h,vs,hr,hc,rfl,rfl,hz,L,ht,hTO⟩
   have hc:c=src.length:=by
    have:=congrArg List.length hr
    simp at this
    omega
   subst hc
   refine wpAny_bind (wpAny_newTuple ?_ (by simp [ht.1]; exact hsz))
   have hT₈:cJ (h.push { cls:=.type "tuple",data:=.seq vs.toArray.toList.toArray }) h.objs.size vs.toArray:=Heap.get?_push_size _ rfl
   have up:∀ c o,h.get? c=some o->(h.push { cls:=.type "tuple",data:=.seq vs.toArray.toList.toArray }).get? c=some o:=fun c o e=>Heap.get?_push_of_some _ e
   have hz8:(h.push { cls:=.type "tuple",data:=.seq vs.toArray.toList.toArray }).objs.size=h.objs.size + 1:=Heap.size_push ..
   have esz:=L.sz
   rw [esz] at hT₈ hz8
   refine wpAny_pure ⟨_,rfl,?_⟩
   show Q (.ref h.objs.size) _
   rw [esz]
   refine hQ vs _ ht ⟨⟨_,_,hf,up _ _ hz⟩,up _ _ L.ti,⟨_,hws,up _ _ hTO⟩,fun j p hj=>?_,fun j p hj=>⟨(L.ls j p hj).1,(L.ls j p hj).2.at fun o e=>up _ o e⟩,hne⟩ hT₈ hz8 fun b o hb e=>up b o (L.kept b o hb e)
   have:=fT hj
   have h1:=(L.its j p hj).at fun o e=>up _ o e
   rw [if_pos this] at h1
   rw [if_neg (Nat.not_lt_zero _)]
   exact h1
end
theorem dS {prog:Program} {w:World} {A:Around} {E:Value->Shared->Prop} {s:Shared} {n k:Nat} {src:List (Addr×Array Value)} {Q:Option Value->Shared->Prop} (hh:A.handled=none) (hsz:src.length <= sizeLine) (hs:ZipStM tk s.heap n src k)
  (hQ:∀ vs h',Told src k src.length vs->ZipStM tk h' n src (k + 1)->cJ h' s.heap.objs.size vs.toArray->h'.objs.size=s.heap.objs.size + 1->KeptZ n src.length s.heap h'->Q (some (.ref s.heap.objs.size)) { s with heap:=h' })
  (hE:(∃ (j:Nat) (p:Addr×Array Value),src[j]? = some p /\ p.2[k]? = none)->∀ h',KeptZ n src.length s.heap h'->Q none { s with heap:=h' }) :
  wpAny (model prog w) A (pyNext (.ref (n + src.length + 2))) Q E s:=by
 obtain ⟨f0,f1,_,hz⟩:=hs.zip
 have hT:s.TypeIs (.ref (n + src.length + 2)) "zip":=⟨_,hz,rfl⟩
 unfold pyNext
 refine wpAny_bind (wpAny_attempt (wpAny_callSpecial?_slot (name:=Str.ofString "__next__") hT F.slot_zip_next
  (wpAny_call_entry F.slot_zip_next hT F.entry_zip_next (uA hh hsz hs (fun vs h' a1 a2 a3 a4 a5=>wpAny_pure (hQ vs h' a1 a2 a3 a4 a5)) fun a h' e hk he=>?_) (F.args_zip_next_1 _))))
 obtain ⟨o,ho,hc⟩:=he
 refine wpAny_bind (wpAny_isInstance (T:="StopIteration") (b:=true) ⟨o,ho,hc⟩ isSubtype_stop ?_)
 exact wpAny_pure (hE a _ hk)
def wd (tk:Addr->Bool) (s:Shared) (src:List (Addr×Array Value)) (Q:Value->Shared->Prop):Prop :=
 ∀ h',ZipStM tk h' s.heap.objs.size src 0->h'.objs.size=s.heap.objs.size + src.length + 3->(∀ c o,s.heap.get? c=some o->h'.get? c=some o)->Q (.ref (s.heap.objs.size + src.length + 2)) { s with heap:=h' }
def SqX (tk:Addr->Bool) (K:PySem.W.Frag) (H:Hp) (a:Addr) (xs:List V):Prop:=if tk a=true then SqT K H a xs else SqL K H a xs
theorem SqX.inj {X:Cx} {pins:List (Addr×Obj)} {σ:St} {H:Hp} {s:Shared} (I:Inv X pins σ H s) {a:Addr} {xs ys:List V} (h1:SqX tk X.K H a xs) (h2:SqX tk X.K H a ys):xs=ys:=by
 unfold SqX at h1 h2
 cases e:tk a with
 | true=>rw [if_pos e] at h1 h2; exact I.tuple_inj h1 h2
 | false=>rw [if_neg (by rw [e]; intro z; cases z)] at h1 h2; exact I.list_inj h1 h2
theorem SqX.at {X:Cx} {pins:List (Addr×Obj)} {σ:St} {H:Hp} {s:Shared} (I:Inv X pins σ H s) {a:Addr} {xs:List V} (h:SqX tk X.K H a xs):∃ its:List Value,Vals xs its /\ SeqX (tk a) s.heap a its.toArray /\ xs.length <= sizeLine:=by
 unfold SqX at h
 cases e:tk a with
 | true =>
  rw [if_pos e] at h
  obtain ⟨its,rv,p,hz⟩:=I.tuple h
  exact ⟨its,rv,p,hz⟩
 | false =>
  rw [if_neg (by rw [e]; intro z; cases z)] at h
  obtain ⟨its,rv,p,hz⟩:=I.list h
  exact ⟨its,rv,p.isList,hz⟩
theorem mB {X:Cx} {K:PySem.W.Frag} {pins:List (Addr×Obj)} {σ:St} {H:Hp} {s:Shared} (hK:X.K=K) (I:Inv X pins σ H s):∀ {as:List Addr} {xss:List (List V)},as.length=xss.length->(∀ (j:Nat) a xs,as[j]? = some a->xss[j]? = some xs->SqX tk K H a xs) ->
  ∃ src:List (Addr×Array Value),src.map (·.1)=as /\ SrcV xss src /\ (∀ p∈src,SeqX (tk p.1) s.heap p.1 p.2) /\ ∀ xs∈xss,xs.length <= sizeLine
 | [],xss,hl,_=>by
  have h0:xss=[]:=List.length_eq_zero_iff.mp (by rw [← hl]; rfl)
  subst h0
  exact ⟨[],rfl,⟨rfl,fun j xs p h=>by simp at h⟩,fun p hp=>by simp at hp,fun xs hx=>by simp at hx⟩
 | a::as,[],hl,_=>absurd hl (by simp)
 | a::as,xs::xss,hl,h=>by
  subst hK
  obtain ⟨src,h1,h2,h3,h4⟩:=mB rfl I (as:=as) (xss:=xss) (by simpa using hl) fun j a xs ha hx=>h (j + 1) a xs (by simpa using ha) (by simpa using hx)
  obtain ⟨its,rv,pl,hz⟩:=(h 0 a xs rfl rfl).at I
  refine ⟨(a,its.toArray)::src,by simp [h1],⟨by simp [h2.1],fun j ys p hy hp=>?_⟩,fun p hp=>?_,fun ys hy=>?_⟩
  ·cases j with
   | zero=>simp at hy hp; subst hy hp; simpa using rv
   | succ j=>exact h2.2 j ys p (by simpa using hy) (by simpa using hp)
  ·rcases List.mem_cons.mp hp with rfl | hp
   ·exact pl
   ·exact h3 p hp
  ·rcases List.mem_cons.mp hy with rfl | hy
   ·exact hz
   ·exact h4 ys hy
abbrev itO (t:Bool) (l:Addr):Obj:={ cls:=.type (match t with | true=>"tuple_iterator" | false=>"list_iterator"),data:=.fields #[.ref l,.int 0 0] }
abbrev m2H (t u:Bool) (h:Heap) (l1 l2:Addr):Heap:=(h.push (itO t l1)).push (itO u l2)
abbrev m2T (t u:Bool) (h:Heap) (l1 l2:Addr):Heap:=(m2H t u h l1 l2).push (tuO [.ref h.objs.size,.ref (h.push (itO t l1)).objs.size])
abbrev m2U (t u:Bool) (h:Heap) (l1 l2:Addr):Heap:=(m2T t u h l1 l2).push (tuO [.none,.none])
abbrev m2Z (t u:Bool) (h:Heap) (l1 l2:Addr):Heap:=(m2U t u h l1 l2).push (ziO (m2H t u h l1 l2).objs.size (m2T t u h l1 l2).objs.size)
theorem SeqX.push {t:Bool} {h:Heap} {a:Addr} {xs:Array Value} (x:SeqX t h a xs) (o:Obj):SeqX t (h.push o) a xs:=x.at fun o e=>Heap.get?_push_of_some _ e
theorem wS {prog:Program} {w:World} {A:Around} {E:Value->Shared->Prop} {s:Shared} {t:Bool} {l:Addr} {xs:Array Value} {Q:Value->Shared->Prop} (h:SeqX t s.heap l xs) (q:Q (.ref s.heap.objs.size) { s with heap:=s.heap.push (itO t l) }):wpAny (model prog w) A (pyIter (.ref l)) Q E s:=by
 cases t with
 | true=>exact wpAny_pyIter_tuple h q
 | false=>exact wpAny_pyIter_list h q
set_option maxHeartbeats 0 in
theorem kT (t u:Bool) (l1 l2:Addr) (xs ys:Array Value) :
  Meets (Builtin.«zip.__new__» ⟨[.type "zip",.ref l1,.ref l2],[]⟩) (fun _ R s=>SeqX t s.heap l1 xs /\ SeqX u s.heap l2 ys /\
   R (.ok (.ret (.ref (m2U t u s.heap l1 l2).objs.size))) { s with heap:=m2Z t u s.heap l1 l2 }) :=
 .of_wp fun prog w A R s h=>by
  obtain ⟨hp,g,d,tok,os⟩:=s; obtain ⟨hl1,hl2,h⟩:=h
  have hsub:=sub_zip
  have hL1:SeqX t (Shared.heap ⟨hp,g,d,tok,os⟩) l1 xs:=hl1
  have hL2:SeqX u (Shared.heap ⟨hp.push (itO t l1),g,d,tok,os⟩) l2 ys:=hl2.push _
  wp_walk using wS hL1,wS hL2
  exact ⟨_,rfl,h⟩
section
variable {prog:Program} {w:World} {A:Around} {E:Value->Shared->Prop} {s:Shared}
theorem IterX.new {t:Bool} {h:Heap} {i a:Addr} (e:h.get? i=some (itO t a)):IterX t h i a 0:=by
 cases t with
 | true=>exact ⟨_,e,rfl,rfl⟩
 | false=>exact ⟨_,e,rfl,rfl⟩
theorem uB {p1 p2:Addr×Array Value} {Q:Value->Shared->Prop} (h1:SeqX (tk p1.1) s.heap p1.1 p1.2) (h2:SeqX (tk p2.1) s.heap p2.1 p2.2) (h:wd tk s [p1,p2] Q) :
  wpAny (model prog w) A (call (.type "zip") [.ref p1.1,.ref p2.1]) Q E s:=by
 refine callType_new F.called_zip (by decide) (F.typeCall_zip_2 _ _) (F.newCall_zip_2 _ _) (fun obj=>F.args_object_init_3 obj _ _) F.entry_zip_new (kT (tk p1.1) (tk p2.1) p1.1 p2.1 p1.2 p2.2) ⟨h1,h2,?_⟩
 have z1:(s.heap.push (itO (tk p1.1) p1.1)).objs.size=s.heap.objs.size + 1:=Heap.size_push ..
 have z2:(m2H (tk p1.1) (tk p2.1) s.heap p1.1 p2.1).objs.size=s.heap.objs.size + 2:=by rw [Heap.size_push,z1]
 have z3:(m2T (tk p1.1) (tk p2.1) s.heap p1.1 p2.1).objs.size=s.heap.objs.size + 3:=by rw [Heap.size_push,z2]
 have z4:(m2U (tk p1.1) (tk p2.1) s.heap p1.1 p2.1).objs.size=s.heap.objs.size + 4:=by rw [Heap.size_push,z3]
 have z5:(m2Z (tk p1.1) (tk p2.1) s.heap p1.1 p2.1).objs.size=s.heap.objs.size + 5:=by rw [Heap.size_push,z4]
 have up:∀ c o,(m2H (tk p1.1) (tk p2.1) s.heap p1.1 p2.1).get? c=some o->(m2Z (tk p1.1) (tk p2.1) s.heap p1.1 p2.1).get? c=some o:=fun c o e=>Heap.get?_push_of_some _ (Heap.get?_push_of_some _ (Heap.get?_push_of_some _ e))
 have g5:(m2Z (tk p1.1) (tk p2.1) s.heap p1.1 p2.1).get? (m2U (tk p1.1) (tk p2.1) s.heap p1.1 p2.1).objs.size=some _:=Heap.get?_push_size _ rfl
 have g4:(m2Z (tk p1.1) (tk p2.1) s.heap p1.1 p2.1).get? (m2T (tk p1.1) (tk p2.1) s.heap p1.1 p2.1).objs.size=some _:=Heap.get?_push_of_some _ (Heap.get?_push_size _ rfl)
 have g3:(m2Z (tk p1.1) (tk p2.1) s.heap p1.1 p2.1).get? (m2H (tk p1.1) (tk p2.1) s.heap p1.1 p2.1).objs.size=some _:=Heap.get?_push_of_some _ (Heap.get?_push_of_some _ (Heap.get?_push_size _ rfl))
 have g2:(m2Z (tk p1.1) (tk p2.1) s.heap p1.1 p2.1).get? (s.heap.push (itO (tk p1.1) p1.1)).objs.size=some (itO (tk p2.1) p2.1):=up _ _ (Heap.get?_push_size _ rfl)
 have g1:(m2Z (tk p1.1) (tk p2.1) s.heap p1.1 p2.1).get? s.heap.objs.size=some (itO (tk p1.1) p1.1):=up _ _ (Heap.get?_push_of_some _ (Heap.get?_push_size _ rfl))
 have kp:∀ c o,s.heap.get? c=some o->(m2Z (tk p1.1) (tk p2.1) s.heap p1.1 p2.1).get? c=some o:=fun c o x=>up _ _ (Heap.get?_push_of_some _ (Heap.get?_push_of_some _ x))
 show _ /\ _
 rw [z2,z3,z4] at g5
 rw [z1,z2] at g3
 rw [z3] at g4
 rw [z1] at g2
 rw [z4]
 refine ⟨⟨_,g5,rfl⟩,h _ ⟨⟨_,_,.inl rfl,g5⟩,g3,⟨_,rfl,g4⟩,fun j p hj=>?_,fun j p hj=>?_,by simp⟩ z5 kp⟩
 ·rw [if_neg (Nat.not_lt_zero _)]
  rcases j with _ | _ | j
  ·simp at hj; subst hj; exact .new g1
  ·simp at hj; subst hj; exact .new g2
  ·simp at hj
 ·rcases j with _ | _ | j
  ·simp at hj; subst hj; exact ⟨h1.lt,h1.at fun o e=>kp _ o e⟩
  ·simp at hj; subst hj; exact ⟨h2.lt,h2.at fun o e=>kp _ o e⟩
  ·simp at hj
end
def ItzM (tk:Addr->Bool) (K:PySem.W.Frag) (as:List Addr):It :=
 ⟨fun i H=>∀ a∈as,∃ xs x,SqX tk K H a xs /\ xs[i]? = some x,
  fun i H v H'=>∃ T r,H T=none /\ v = .ref T /\ (r.length=as.length /\ ∀ (j:Nat) a xs,as[j]? = some a->SqX tk K H a xs->xs[i]? = r[j]?) /\ H'=upd H T (.tup r),
  fun i H=>(∀ a∈as,∃ xs,SqX tk K H a xs) /\ ∃ a∈as,∃ xs,SqX tk K H a xs /\ xs.length <= i⟩
structure ZipTnM (tk:Addr->Bool) (n:Nat) (as:List Addr) (k:Nat) (h:Heap):Prop where
 zip:∃ f0 f1,OwnF f0 /\ dz h (n + as.length + 2) (n + as.length) (n + as.length + 1) f0 f1
 ti:cJ h (n + as.length) (itsL n as.length).toArray
 to:∃ ws:Array Value,ws.size=as.length /\ cJ h (n + as.length + 1) ws
 its:∀ (j:Nat) (a:Addr),as[j]? = some a->IterX (tk a) h (n + j) a k
theorem pI {K:PySem.W.Frag} {H:Hp}:∀ {as:List Addr},(∀ a∈as,∃ xs,SqX tk K H a xs)->∃ xss:List (List V),as.length=xss.length /\ ∀ (j:Nat) a xs,as[j]? = some a->xss[j]? = some xs->SqX tk K H a xs
 | [],_=>⟨[],rfl,fun j a xs h=>by simp at h⟩
 | a::as,h=>by
  obtain ⟨xs,hx⟩:=h a List.mem_cons_self
  obtain ⟨xss,h1,h2⟩:=pI fun b hb=>h b (List.mem_cons_of_mem _ hb)
  refine ⟨xs::xss,by simp [h1],fun j b ys hb hy=>?_⟩
  cases j with
  | zero=>simp at hb hy; subst hb hy; exact hx
  | succ j=>exact h2 j b ys (by simpa using hb) (by simpa using hy)
theorem ZipTnM.st {n k:Nat} {as:List Addr} {h:Heap} {src:List (Addr×Array Value)} (t:ZipTnM tk n as k h) (hs:src.map (·.1)=as) (hl:∀ p∈src,SeqX (tk p.1) h p.1 p.2) (hlt:∀ a∈as,a < n) (hne:as≠[]):ZipStM tk h n src k:=by
 have hlen:src.length=as.length:=by rw [← hs,List.length_map]
 obtain ⟨z,ti,to,its⟩:=t
 have at_:∀ (j:Nat) (p:Addr×Array Value),src[j]? = some p->as[j]? = some p.1:=fun j p hp=>by rw [← hs,List.getElem?_map,hp]; rfl
 refine ⟨by rw [hlen]; exact z,by rw [hlen]; exact ti,by rw [hlen]; exact to,fun j p hp=>?_,fun j p hp=>⟨hlt p.1 (List.mem_of_getElem? (at_ j p hp)),hl p (List.mem_of_getElem? hp)⟩,fun e=>hne (by rw [← hs,e]; rfl)⟩
 rw [if_neg (Nat.not_lt_zero _)]
 exact its j p.1 (at_ j p hp)
theorem ZipStM.tn {n k:Nat} {as:List Addr} {h:Heap} {src:List (Addr×Array Value)} (z:ZipStM tk h n src k) (hs:src.map (·.1)=as):ZipTnM tk n as k h:=by
 have hlen:src.length=as.length:=by rw [← hs,List.length_map]
 refine ⟨by rw [← hlen]; exact z.zip,by rw [← hlen]; exact z.ti,by rw [← hlen]; exact z.to,fun j a ha=>?_⟩
 have hj:j < src.length:=by rw [hlen]; exact fT ha
 have hp:src[j]? = some src[j]:=by simp [hj]
 have:=z.its j _ hp
 rw [if_neg (Nat.not_lt_zero _)] at this
 have e:(src[j]).1=a:=by
  have:as[j]? = some (src[j]).1:=by rw [← hs,List.getElem?_map,hp]; rfl
  rw [ha] at this
  exact (Option.some.inj this).symm
 rw [← e]
 exact this
theorem uC {P:Program} {w:World} {K:PySem.W.Frag} {elts:List Expr} {k:Nat} {tp:Pos} (n:Nat) (as:List Addr) (hlt:∀ a∈as,a < n) (h1:as≠[]) (hm4:as.length <= 4) :
  Turn P w K (.Tuple elts k tp) (ItzM tk K as) (fpZ n as.length) (n + as.length + 2) (fun i h=>ZipTnM tk n as i h) where
 mem:=fpZ_mem.mpr ⟨by omega,by omega⟩
 obj:=fun i h st c hc=>by
  obtain ⟨⟨f0,f1,_,hz⟩,hTI,⟨ws,_,hTO⟩,its⟩:=st
  rcases uo hc with rfl | rfl | rfl | ⟨lt,e⟩
  ·exact ⟨_,hz,fun v z=>by have z':Data.fields _=Data.cell v:=z; cases z'⟩
  ·exact ⟨_,hTI,fun v z=>by have z':Data.seq _ _=Data.cell v:=z; cases z'⟩
  ·exact ⟨_,hTO,fun v z=>by have z':Data.seq _ _=Data.cell v:=z; cases z'⟩
  ·obtain ⟨o,eo,d⟩:=(its (c - n) as[c - n] (by simp [lt])).cell
   rw [e] at eo
   exact ⟨o,eo,d⟩
 keep:=fun i h h' st kk=>by
  obtain ⟨⟨f0,f1,hf,hz⟩,hTI,⟨ws,hws,hTO⟩,its⟩:=st
  exact ⟨⟨f0,f1,hf,kk _ (fpZ_mem.mpr ⟨by omega,by omega⟩) _ hz⟩,kk _ (fpZ_mem.mpr ⟨by omega,by omega⟩) _ hTI,⟨ws,hws,kk _ (fpZ_mem.mpr ⟨by omega,by omega⟩) _ hTO⟩,fun j a ha=>(its j a ha).at fun o e=>kk _ (fpZ_mem.mpr ⟨by omega,by have:=fT ha; omega⟩) o e⟩
 item:=by
  intro X hP hw hK hc i pins s σ H E I hf st hg
  subst hP hw hK
  obtain ⟨xss,hl,hsq⟩:=pI (tk:=tk) (K:=X.K) (H:=H) (as:=as) fun a ha=>let ⟨xs,x,h,_⟩:=hg a ha; ⟨xs,h⟩
  obtain ⟨src,hsa,hv,hls,hb⟩:=mB (tk:=tk) rfl I hl hsq
  have hls4:src.length=as.length:=by rw [← hsa,List.length_map]
  have hst:=st.st hsa hls hlt h1
  have sz4:src.length <= sizeLine:=Nat.le_trans (show src.length <= 4 by omega) (by decide)
  rw [show n + as.length + 2=n + src.length + 2 by rw [hls4]]
  refine dS (I.ok.hd hc) sz4 hst (fun vs h' ht hz' hT' hs' hk=>?_) (fun he h' hk=>?_)
  ·obtain ⟨r,hr,rv⟩:=qF hv ht
   obtain ⟨f0,f1,hf0,hzz⟩:=hz'.zip
   refine ⟨_,rfl,yr hf0 hzz fun h4 f0' hf0' hz4 hs4=>?_⟩
   have hzl:n + src.length + 2 < s.heap.objs.size:=by
    obtain ⟨_,_,_,q⟩:=st.zip
    rw [hls4]
    exact Heap.lt_size q
   have hz4st:ZipTnM tk n as (i + 1) h4:=by
    have z0:=hz'.tn hsa
    obtain ⟨_,hTI,⟨ws,hws,hTO⟩,its⟩:=z0
    rw [hls4] at hz4 hs4
    refine ⟨⟨f0',f1,hf0',hz4⟩,hs4.extBut _ _ (by intro e; have e:(_:Nat)=(_:Nat):=e; omega) hTI,⟨ws,hws,hs4.extBut _ _ (by intro e; have e:(_:Nat)=(_:Nat):=e; omega) hTO⟩,fun j a ha=>(its j a ha).extBut hs4.extBut (by have:=fT ha; intro e; have e:(_:Nat)=(_:Nat):=e; omega)⟩
   have I2:Inv X pins σ (upd H s.heap.objs.size (.tup r)) { s with heap:=h4 }:=by
    refine I.turnedN (t':=s.toks) (ch:=fpZ n as.length) hf (fun b o hb q=>?_) (Nat.le_refl _) ⟨?_,vs,rv,?_⟩
    ·rw [← hls4] at hb
     exact hs4.extBut _ _ (AG hb) (hk b o (qG (pG hb)) q)
    ·rw [hr.1,← hl]; exact Nat.le_trans hm4 (by decide)
    ·exact ⟨_,hs4.extBut _ _ (by intro e; have e:(_:Nat)=(_:Nat):=e; omega) hT',rfl,_,rfl⟩
   refine ⟨.ref s.heap.objs.size,_,I2,rfl,⟨s.heap.objs.size,r,I.hok.fresh (Nat.le_refl _),rfl,⟨by rw [hr.1,hl],fun j a xs ha hx=>?_⟩,rfl⟩,hz4st,fun b hb=>?_⟩
   ·have hj:j < xss.length:=by rw [← hl]; exact fT ha
    have hxs:xss[j]? = some xss[j]:=by simp [hj]
    have:=hsq j a xss[j] ha hxs
    rw [SqX.inj I hx this]
    exact hr.2 j _ hxs
   ·have:=fpZ_mem.mp hb
    rw [aj (by intro e; have e:(_:Nat)=(_:Nat):=e; omega)]
    exact (hf b hb).1
  ·exfalso
   obtain ⟨j,p,hj,hp⟩:=he
   have ha:as[j]? = some p.1:=by rw [← hsa,List.getElem?_map,hj]; rfl
   obtain ⟨xs,x,h,hx⟩:=hg p.1 (List.mem_of_getElem? ha)
   have hjx:j < xss.length:=by rw [← hl]; exact fT ha
   have hxs:xss[j]? = some xss[j]:=by simp [hjx]
   rw [SqX.inj I h (hsq j p.1 _ ha hxs)] at hx
   obtain ⟨u,hu,_⟩:=(hv.2 j _ p hxs hj).get hx
   rw [Array.getElem?_toList,hp] at hu
   cases hu
 done:=by
  intro X hP hw hK hc i pins s σ H E I hf st hg
  subst hP hw hK
  obtain ⟨hall,a0,ha0,xs0,hx0,hle⟩:=hg
  obtain ⟨xss,hl,hsq⟩:=pI (tk:=tk) (K:=X.K) (H:=H) (as:=as) hall
  obtain ⟨src,hsa,hv,hls,hb⟩:=mB (tk:=tk) rfl I hl hsq
  have hls4:src.length=as.length:=by rw [← hsa,List.length_map]
  have hst:=st.st hsa hls hlt h1
  have sz4:src.length <= sizeLine:=Nat.le_trans (show src.length <= 4 by omega) (by decide)
  rw [show n + as.length + 2=n + src.length + 2 by rw [hls4]]
  refine dS (I.ok.hd hc) sz4 hst (fun vs h' ht hz' hT' hs' hk=>?_) (fun he h' hk=>⟨rfl,?_⟩)
  ·exfalso
   obtain ⟨r,hr,rv⟩:=qF hv ht
   obtain ⟨j,hj⟩:=List.mem_iff_getElem?.mp ha0
   have hjx:j < xss.length:=by rw [← hl]; exact fT hj
   have hxs:xss[j]? = some xss[j]:=by simp [hjx]
   have e:=SqX.inj I hx0 (hsq j a0 _ hj hxs)
   have:=hr.2 j _ hxs
   rw [← e,List.getElem?_eq_none hle,List.getElem?_eq_getElem (by rw [hr.1]; exact hjx)] at this
   cases this
  ·refine I.turnedL (t':=s.toks) (ch:=fpZ n as.length) hf fun b o hb q=>hk b o ?_ q
   rw [← hls4] at hb
   exact qG (pG hb)
 self:=fun A i s Q E st h=>by
  obtain ⟨f0,f1,_,hz⟩:=st.zip
  have hT:s.TypeIs (.ref (n + as.length + 2)) "zip":=⟨_,hz,rfl⟩
  refine wpAny_pyIter_slot hT F.slot_zip_iter (wpAny_call_entry F.slot_zip_iter hT F.entry_zip_iter ?_ (F.args_zip_iter_1 _))
  show wpAny _ _ (ret (.ref (n + as.length + 2))) _ _ s
  exact wpAny_pure ⟨_,rfl,"zip",_,hT,F.slot_zip_next.lookup,h⟩
end
section
variable {X:Cx}
def Cq (K:PySem.W.Frag) (ta:TA):TI:=fun σ H R=>ta σ H fun vs H1=>∃ (tk:Addr->Bool) (a b:Addr),vs=[.ref a,.ref b] /\ (∃ xs,SqX tk K H1 a xs) /\ (∃ xs,SqX tk K H1 b xs) /\ R (ItzM tk K [a,b]) H1
theorem yE {l l':Expr} {ta:TA} {p pos tp:Pos} {elts:List Expr} {k:Nat} (hg:Gl X "zip") (hm:X.mg "zip" = none) (ha:PA X [l,l'] ta) (he:starEach [l,l'] X.env=(false,eval l X.env)::starEach [l'] X.env:=by rfl) (hpl:(backTo pos (starEach [l'] X.env)).any (·.1)=false:=by rfl) :
  PI X (.Tuple elts k tp) (.Call (.Name "zip" p) [l,l'] [] pos) (Cq X.K ta):=by
 intro pins s σ H R I h
 refine Call_ (mW I hg hm vS (PyProof.Rows.callWith_type1 (thn (ha pos pins s σ H _ I h) fun us s1 ⟨vs,H1,I1,r1,q1⟩=>?_) he hpl))
 obtain ⟨tk,a,b,e,⟨xs,hq⟩,⟨ys,hq'⟩,q⟩:=q1
 subst e
 obtain ⟨u,u',rfl,ru,ru'⟩:=r1.two
 cases ru
 cases ru'
 obtain ⟨its,rv,pl,hz⟩:=hq.at I1
 obtain ⟨its',rv',pl',hz'⟩:=hq'.at I1
 refine uB (tk:=tk) (p1:=(a,its.toArray)) (p2:=(b,its'.toArray)) pl pl' fun h' hz hz' hk=>?_
 have I2:Inv X pins σ H1 { s1 with heap:=h' }:=I1.kept (t':=s1.toks) hk
 have hlt:∀ c∈[a,b],c < s1.heap.objs.size:=fun c hc=>by
  simp only [List.mem_cons,List.not_mem_nil,or_false] at hc
  rcases hc with rfl | rfl
  ·exact pl.lt
  ·exact pl'.lt
 have tz:=uC (tk:=tk) (P:=X.prog) (w:=X.w) (K:=X.K) (elts:=elts) (k:=k) (tp:=tp) s1.heap.objs.size [a,b] hlt (by simp) (by simp)
 have tn:=hz.tn (as:=[a,b]) rfl
 exact tz.self X.A 0 _ _ _ tn ⟨_,_,_,ItzM tk X.K [a,b],H1,rfl,I2,tz,tn,fun b hb=>I1.fpOk (fpZ_mem.mp hb).1 (I1.hok.fresh (fpZ_mem.mp hb).1),q⟩
end
end L2
namespace DL
open PySem PySem.Spec PyProof.Rows L2
variable [TB]
variable [Frm]
def seqD:D->Option (List D)
 | .lst xs=>some xs
 | .tup xs=>some xs
 | _=>none
omit [Frm] in
theorem wT {K:PySem.W.Frag} {pp:Option Addr} {M:List Addr} {H:Hp} {d:D} {v:V} {ds:List D} (r:Rep K pp M H d v) (e:seqD d=some ds) :
  ∃ a xs,v = .ref a /\ Reps K pp M H ds xs /\ ∀ M2 H2,Mv K pp M H M2 H2->SqX (fun c=>L2.isTupO (H c)) K H2 a xs:=by
 cases d <;> simp only [seqD] at e <;> cases e
 all_goals simp only [Rep] at r
 ·obtain ⟨a,xs,rfl,ha,rd⟩:=r
  refine ⟨a,xs,rfl,rd,fun M2 H2 m2=>?_⟩
  unfold SqX
  rw [if_pos (show L2.isTupO (H a)=true by rw [ha]; rfl)]
  exact SqT.of (m2.tup a xs ha)
 ·obtain ⟨a,xs,rfl,hm,hp,ha,rd⟩:=r
  refine ⟨a,xs,rfl,rd,fun M2 H2 m2=>?_⟩
  unfold SqX
  rw [if_neg (show ¬ L2.isTupO (H a)=true by rw [ha]; intro z; cases z)]
  exact SqL.of (m2.lst a xs ha hm hp).1
section
variable {X:Cx}
abbrev AQ (t:DA):DA:=fun ρ Q=>t ρ fun ds ρ'=>match ds with
 | [a,b]=>∃ xs ys,seqD a=some xs /\ seqD b=some ys /\ Q (zipD xs ys) ρ'
 | _=>False
theorem yF {l l':Expr} {tl:DA} {p pos tp:Pos} {elts:List Expr} {k:Nat} (hg:Gl X "zip") (hm:X.mg "zip" = none) (ha:PAD X [l,l'] tl) (he:starEach [l,l'] X.env=(false,eval l X.env)::starEach [l'] X.env:=by rfl) (hpl:(backTo pos (starEach [l'] X.env)).any (·.1)=false:=by rfl) :
  PID X (.Tuple elts k tp) (.Call (.Name "zip" p) [l,l'] [] pos) (AQ tl):=by
 obtain ⟨T,pa,r⟩:=ha.run
 refine ⟨fun _ _ _ f h=>ha.mono _ _ _ (fun d _ h=>?_) h,_,yE hg hm pa he hpl,fun {F} M H σ ρ R rs h=>r M H σ ρ _ rs (ha.mono _ _ _ (fun d ρ' h M' H' v m rs' rd=>?_) h)⟩
 ·split at h
  ·obtain ⟨xs,ys,a,b,h⟩:=h
   exact ⟨xs,ys,a,b,f _ _ h⟩
  ·exact h.elim
 ·split at h
  case h_2=>exact h.elim
  rename_i d1 d2
  obtain ⟨ds,ds',e1,e2,h⟩:=h
  simp only [Reps] at rd
  obtain ⟨x,r0,rfl,hx,x',r0',rfl,hx',rfl⟩:=rd
  obtain ⟨a,xs,rfl,rd,ka⟩:=wT hx e1
  obtain ⟨b,ys,rfl,rd',kb⟩:=wT hx' e2
  have L:=jU ds ds'
  refine ⟨fun c=>L2.isTupO (H' c),a,b,rfl,⟨xs,ka _ _ .refl⟩,⟨ys,kb _ _ .refl⟩,h M' H' _ m rs' ⟨fun M2 H2 m2 i d y H3 e yl=>?_,fun M2 H2 m2 i hi=>?_,fun M2 H2 m2 i hi=>?_⟩⟩
  ·obtain ⟨T,r,hT,rfl,⟨hr,hz⟩,rfl⟩:=yl
   obtain ⟨d1,d2,hd1,hd2,rfl⟩:=qB ds ds' i d e
   obtain ⟨v1,hv1,rv1⟩:=rd.get' hd1
   obtain ⟨v2,hv2,rv2⟩:=rd'.get' hd2
   have z1:=hz 0 a xs rfl (ka _ _ m2)
   have z2:=hz 1 b ys rfl (kb _ _ m2)
   rw [hv1] at z1
   rw [hv2] at z2
   have er:r=[v1,v2]:=by
    match r,hr,z1,z2 with
    | [p,q],_,z1,z2 =>
     cases z1
     cases z2
     rfl
   subst er
   refine ⟨.new hT,?_⟩
   simp only [Rep]
   exact ⟨T,_,rfl,ak,.cons ((rv1.mv m2).mv (.new hT)) (.one ((rv2.mv m2).mv (.new hT)))⟩
  ·rw [L,rd.length,rd'.length] at hi
   intro c hc
   simp only [List.mem_cons,List.not_mem_nil,or_false] at hc
   rcases hc with rfl | rfl
   ·exact ⟨xs,xs[i]'(by omega),ka _ _ m2,by simp⟩
   ·exact ⟨ys,ys[i]'(by omega),kb _ _ m2,by simp⟩
  ·rw [L,rd.length,rd'.length] at hi
   refine ⟨fun c hc=>?_,?_⟩
   ·simp only [List.mem_cons,List.not_mem_nil,or_false] at hc
    rcases hc with rfl | rfl
    ·exact ⟨xs,ka _ _ m2⟩
    ·exact ⟨ys,kb _ _ m2⟩
   ·rcases Nat.lt_or_ge ys.length xs.length with z | z
    ·exact ⟨b,by simp,ys,kb _ _ m2,by omega⟩
    ·exact ⟨a,by simp,xs,ka _ _ m2,by omega⟩
end
end DL
namespace DL
open PySem PySem.Spec L2
open PyProof.Rows hiding St
variable [TB]
section
variable [Frm] {X:Cx}
end
end DL
namespace L2
open PySem PySem.Spec PyProof.Rows
open AutoSeq1 (wpAny_loadPart')
section
variable {prog:Program} {w:World} {A:Around} {E:Value->Shared->Prop} {s:Shared}
end
section
variable {prog:Program} {w:World} {A:Around} {E:Value->Shared->Prop} {s:Shared}
end
section
variable {X:Cx}
end
end L2
namespace DL
open PySem PySem.Spec L2
open PyProof.Rows hiding St
variable [TB]
section
variable [Frm] {X:Cx}
end
end DL
namespace DL
open PySem PySem.Spec L2
open PyProof.Rows hiding St
variable [TB]
section
variable [Frm] {X:Cx}
end
end DL
namespace DL
open PySem PySem.Spec L2
open PyProof.Rows hiding St
variable [TB]
section
variable [Frm] {X:Cx} {xi:XI} {x:Str} {p pos np cpos:Pos} {e:Expr} {es:List Expr} {t:DA} {g:DSpE} {W:DS->Addr->Prop}
end
section
variable {xi:XI} {P:Program} {w:World} {K:PySem.W.Frag} {mg:Str->Option Value} {base:Heap} {k:Nat} {f:Addr} {fd:FuncData} {ps:List Str} {n:Nat}
end
section
variable [fr0:Frm] {xi:XI} {X:Cx} {body suite:List Stmt} {b0:Stmt} {n x:Str} {np hpos pos:Pos} {C0:Addr} {i:Nat} {tb:(DS->Addr->Prop)->DTS} {th:DTS} {K:PySem.W.Frag}
end
section
variable [Frm] {X:Cx}
end
end DL
namespace L2
open PySem PySem.Spec PyProof.Rows
section
variable {prog:Program} {w:World} {A:Around} {E:Value->Shared->Prop} {s:Shared}
theorem we {t b:Addr} {vs ws:List Value} {Q:Value->Shared->Prop} (ht:IsTup s.heap t vs.toArray) (hb:IsTup s.heap b ws.toArray) (hv:vs=[])
  (h:Q (.ref b) s):wpAny (model prog w) A (binaryOp .Add (.ref t) (.ref b)) Q E s:=by
 obtain ⟨⟨cls,dd,data,sl⟩,ho,hc,n,hd⟩:=id ht
 obtain ⟨⟨cls2,dd2,data2,sl2⟩,ho2,hc2,n2,hd2⟩:=id hb
 simp only at hc hd hc2 hd2
 subst hc hd hc2 hd2
 exact concat_meets ⟨_,ho,rfl⟩ ⟨_,ho2,rfl⟩ noFill_tuple_add seq_tuple_add PySem.F.slot_tuple_add PySem.F.entry_tuple_add (PySem.F.args_tuple_add_2 _ _)
   (tuple_addW0 t b vs.toArray ws.toArray n n2 dd dd2 sl sl2 (by simp [hv])) ⟨ho,ho2,h⟩
end
section
variable {X:Cx}
def AR (K:PySem.W.Frag):R2:=fun x y H Q=>∃ a b ys,x = .ref a /\ y = .ref b /\ SqT K H a [] /\ SqT K H b ys /\ Q (.ref b) H
theorem yG:OpR X (binaryOp .Add) (fun x y H Q=>zF X.K x y H Q∨AR X.K x y H Q):=by
 intro pins s σ H x y v u Q I rx ry h
 rcases h with h | h
 ·exact xE pins s σ H x y v u Q I rx ry h
 ·obtain ⟨a,b,ys,rfl,rfl,ha,hb,q⟩:=h
  cases rx
  cases ry
  obtain ⟨its,r1,p1,_⟩:=I.tuple ha
  obtain ⟨its2,r2,p2,_⟩:=I.tuple hb
  exact we p1 p2 (r1.nil_iff.mpr rfl) ⟨.ref b,H,I,rfl,q⟩
end
end L2
namespace DL
open PySem PySem.Spec L2
open PyProof.Rows hiding St
variable [TB]
section
variable {X:Cx}
def Cr:D->D->(D->Prop)->Prop
 | .tup xs,.tup ys,P=>(xs.length + ys.length <= sizeLine) /\ P (.tup (xs++ys))
 | _,_,_=>False
theorem yH:OpD X (binaryOp .Add) Cr:=by
 refine ⟨fun x y P P' f h=>?_,_,yG,fun {pp} M H x y v u Q lv rx ry h=>?_⟩
 ·cases x <;> first | exact h.elim | skip
  cases y <;> first | exact h.elim | exact ⟨h.1,f _ h.2⟩
 ·cases x <;> first | exact h.elim | skip
  cases y <;> first | exact h.elim | skip
  rename_i xs ys
  by_cases z:xs=[]
  ·subst z
   have ry':=ry
   simp only [Rep] at rx ry
   obtain ⟨a,us,rfl,ha,ra⟩:=rx
   obtain ⟨b,ws,rfl,hb,rb⟩:=ry
   have e:us=[]:=List.length_eq_zero_iff.mp ra.length.symm
   subst e
   exact .inr ⟨a,b,ws,rfl,rfl,SqT.of ha,SqT.of hb,h.2 H _ .refl ry'⟩
  ·have rx':=rx
   simp only [Rep] at rx ry
   obtain ⟨a,us,rfl,ha,ra⟩:=rx
   obtain ⟨b,ws,rfl,hb,rb⟩:=ry
   obtain ⟨h2,h⟩:=h
   refine .inl ⟨a,b,us,ws,rfl,rfl,SqT.of ha,SqT.of hb,?_,by rw [← ra.length,← rb.length]; exact h2,fun e=>?_,fun e l hl=>?_⟩
   ·rintro rfl
    exact z (List.length_eq_zero_iff.mp ra.length)
   ·subst e
    have e2:ys=[]:=List.length_eq_zero_iff.mp rb.length
    subst e2
    rw [List.append_nil] at h
    exact h H _ .refl rx'
   ·refine h _ _ (.new hl) ?_
    simp only [Rep]
    exact ⟨l,_,rfl,ak,(ra.append rb).mv (.new hl)⟩
end
end DL
namespace DL
open PySem PySem.Spec L2
open PyProof.Rows hiding St
variable [TB]
section
variable [Frm] {X:Cx}
end
end DL
namespace L2
open PySem PySem.Spec PyProof.Rows
open AutoSeq1 (wpAny_loadPart')
section
variable {prog:Program} {w:World} {A:Around} {E:Value->Shared->Prop} {s:Shared}
end
section
variable {X:Cx}
end
end L2
namespace DL
open PySem PySem.Spec L2
open PyProof.Rows hiding St
variable [TB]
section
variable [Frm] {X:Cx}
end
end DL
namespace L2
open PySem PySem.Spec PyProof.Rows
section
variable {X:Cx}
end
end L2
namespace DL
open PySem PySem.Spec L2
open PyProof.Rows hiding St
variable [TB]
section
variable [Frm] {X:Cx}
end
end DL
namespace DL
open PySem PySem.Spec L2
open PyProof.Rows hiding St
variable [TB]
section
variable {X:Cx}
end
end DL
namespace L2
open PySem PySem.Spec PyProof.Rows
section
variable {P:Program} {w:World} {K:PySem.W.Frag} {mg:Str->Option Value} {base:Heap} {N:List Str} {qual:Str} {scope:Scope} {f:Addr} {cd:Value} {cl:List (Str×Addr)} {A:Around} {outer:List Env} {s:Shared} {H:Hp} {E:XK} {vs:List V}
end
section
variable {X:Cx}
end
end L2
namespace DL
open PySem PySem.Spec L2
open PyProof.Rows hiding St
variable [TB]
section
variable {P:Program} {w:World} {K:PySem.W.Frag} {mg:Str->Option Value} {base:Heap} {N:List Str} {qual:Str} {scope:Scope} {f c':Addr} {cl:List (Str×Addr)} {A:Around} {outer:List Env} {s:Shared} {H:Hp} {E:XK} {vs:List V}
end
end DL
namespace DL
open PySem PySem.Spec L2
open PyProof.Rows hiding St
variable [TB]
section
variable {X:Cx} {k:Nat} {cn a hn n xn qual:Str} {st:Stmt} {f C0 fa c':Addr} {fd:FuncData} {gn N2:List Str} {params:Arguments} {body:Expr} {scope:Scope} {cl:List (Str×Addr)} {vs:List V} {ds:List D} {te:(DS->Addr->Prop)->DE}
end
end DL
namespace L2
open PySem PySem.Spec PyProof.Rows
end L2
namespace DL
open PySem PySem.Spec L2
open PyProof.Rows hiding St
section
variable [TB]
end
end DL
namespace DL
open PySem PySem.Spec L2
open PyProof.Rows hiding St
variable [TB]
end DL
namespace DL
open PySem PySem.Spec L2
open PyProof.Rows hiding St
section
variable [TB]
end
end DL
namespace DL
open PySem PySem.Spec L2
open PyProof.Rows hiding St
variable [TB]
section
variable {P:Program} {w:World} {K:PySem.W.Frag} {mg:Str->Option Value} {base:Heap} {N:List Str} {qual:Str} {scope:Scope} {f c':Addr} {cl:List (Str×Addr)} {A:Around} {outer:List Env} {s:Shared} {H:Hp} {E:XK} {vs:List V}
end
section
variable {X:Cx} {k:Nat} {cn a hn n xn qual:Str} {st:Stmt} {f C0 fa c':Addr} {fd:FuncData} {gn N2:List Str} {params:Arguments} {body:Expr} {scope:Scope} {cl:List (Str×Addr)} {vs:List V} {ds:List D} {te:(DS->Addr->Prop)->DE}
end
end DL
namespace DL
open PySem PySem.Spec L2
open PyProof.Rows hiding St
variable [TB]
section
variable [Frm] {X:Cx}
end
end DL
namespace L2
open PySem PySem.Spec PyProof.Rows
section
variable {X:Cx}
end
end L2
namespace DL
open PySem PySem.Spec L2
open PyProof.Rows hiding St
variable [TB]
section
variable [Frm] {X:Cx}
end
end DL
namespace DL
open PySem PySem.Spec L2
open PyProof.Rows hiding St
variable [TB]
section
variable [Frm] {X:Cx}
end
end DL
namespace DL
open PySem PySem.Spec L2
open PyProof.Rows hiding St
variable [TB]
section
variable {K:PySem.W.Frag} {pp:Option Addr} {M M':List Addr} {H H':Hp}
end
section
variable {X:Cx}
end
section
variable [Frm] {X:Cx}
end
end DL
namespace DL
open PySem PySem.Spec L2
open PyProof.Rows hiding St
variable [TB]
section
variable {K:PySem.W.Frag} {pp:Option Addr} {M M':List Addr} {H H':Hp}
end
section
variable [Frm] {X:Cx}
end
section
variable {X:Cx} {k:Nat}
end
end DL
namespace DL
open PySem PySem.Spec L2
open PyProof.Rows hiding St
variable [TB]
section
variable {K:PySem.W.Frag} {pp:Option Addr} {M M':List Addr} {H H' H1 H5:Hp}
end
section
variable [Frm] {X:Cx}
end
end DL
namespace DL
open PySem PySem.Spec L2
open PyProof.Rows hiding St
variable [TB]
variable [Frm]
section
variable {K:PySem.W.Frag} {F:Fx} {pp:Option Addr} {M:List Addr} {H H1:Hp} {σ:St} {ρ:DS} {i:Nat}
end
section
variable {X:Cx}
end
section
variable {K:PySem.W.Frag} {F:Fx} {M:List Addr} {H:Hp} {σ:St} {ρ:DS} {i n:Nat}
end
section
variable {X:Cx}
end
section
variable {K:PySem.W.Frag} {pp:Option Addr} {M M':List Addr} {H H' H'':Hp}
end
section
variable {X:Cx}
end
end DL
namespace L2
open PySem PySem.Spec PyProof.Rows
section
variable {P:Program} {w:World} {K:PySem.W.Frag} {mg:Str->Option Value} {base:Heap} {N:List Str} {qual:Str} {scope:Scope} {f:Addr} {cd:Value} {cl:List (Str×Addr)} {A:Around} {outer:List Env} {s:Shared} {H:Hp} {E:XK} {vs:List V}
end
end L2
namespace L2
open PySem PySem.Spec PyProof.Rows PySem.W
section
variable {prog:Program} {w:World} {A:Around} {E:Value->Shared->Prop} {s:Shared} {a kS:Addr} {keys:Array Value} {vs:List Value} {kz:List Int} {e e1:Nat} {P:PySem.Fin->Shared->Prop}
end
end L2
namespace L2
open PySem PySem.Spec PyProof.Rows PySem.W
section
variable {X:Cx} {pins:List (Addr×Obj)} {σ:St} {H:Hp} {s:Shared} {l fa:Addr} {xs:List V} {kz:List Int} {R:Hp->Prop} {Q:VK}
end
end L2
namespace DL
open PySem PySem.Spec L2
open PyProof.Rows hiding St
variable [TB]
section
variable {P:Program} {w:World} {K:PySem.W.Frag} {mg:Str->Option Value} {base:Heap} {N:List Str} {qual:Str} {scope:Scope} {f c':Addr} {cl:List (Str×Addr)} {A:Around} {outer:List Env} {s:Shared} {H:Hp} {E:XK} {vs:List V}
end
section
variable {X:Cx} {k:Nat} {qual:Str} {fa c':Addr} {N2:List Str} {params:Arguments} {body:Expr} {scope:Scope} {cl:List (Str×Addr)} {vs:List V} {te:DE}
end
end DL
namespace L2
open PySem PySem.Spec PyProof.Rows PySem.W
section
variable {X:Cx}
end
end L2
namespace DL
open PySem PySem.Spec L2
open PyProof.Rows hiding St
variable [TB]
variable [Frm]
section
variable {X:Cx}
end
end DL
namespace L2
open PySem PySem.Spec PyProof.Rows
section
variable {X:Cx} {body suite:List Stmt} {b0:Stmt} {x:Str} {np hpos pos:Pos} {C0:Addr} {Wo:St->XK}
end
end L2
namespace DL
open PySem PySem.Spec L2
open PyProof.Rows hiding St
variable [TB]
section
variable [fr0:Frm] {X:Cx} {body suite:List Stmt} {b0:Stmt} {x:Str} {np hpos pos:Pos} {C0:Addr} {tb:(DS->Addr->Prop)->DTS} {th:DTS} {K:PySem.W.Frag}
end
end DL
namespace L2
open PySem PySem.Spec PyProof.Rows
section
variable {M:Model} {A:Around} {E:Value->Shared->Prop} {s:Shared} {env:Env}
end
section
variable {X:Cx} {pins:List (Addr×Obj)} {σ:St} {H H':Hp} {s s':Shared} {B h':Heap} {W:St->XK} {e:Value}
end
section
variable {X:Cx} {pins:List (Addr×Obj)} {σ:St} {H:Hp} {s:Shared} {scope:Scope} {cl:List (Str×Addr)} {N':List Str} {js:List (Option Nat)}
variable {elt iter:Expr} {x:Str} {px pos:Pos} {ifs:List Expr} {wi:TI} {g:TG} {tc:TT} {te:TE} {Q:VK}
variable {gB:Blk->TG} {tcB:Blk->TT}
end
end L2
namespace DL
open PySem PySem.Spec L2
open PyProof.Rows hiding St
variable [TB]
section
variable [fr0:Frm] {X:Cx}
end
end DL
namespace L2
open PySem PySem.Spec PyProof.Rows
section
variable {X:Cx}
end
end L2
namespace DL
open PySem PySem.Spec L2
open PyProof.Rows hiding St
variable [TB]
variable [Frm]
section
variable {X:Cx}
end
end DL
namespace TS
open PySem PyProof.Rows
def gal:Bool->Keyed->Array Keyed->Nat->Nat->Nat->StateT SortSt Sem (Option Nat):=sortPriv% PySem.Builtin.gallop
def mlo:Array Keyed->Array Keyed->StateT SortSt Sem (Array Keyed):=sortPriv% PySem.Builtin.mergeLo
def mhi:Array Keyed->Array Keyed->StateT SortSt Sem (Array Keyed):=sortPriv% PySem.Builtin.mergeHi
section
variable {prog:Program} {w:World} {A:Around} {E:Value->Shared->Prop} {s:Shared}
structure Cm (prog:Program) (w:World) (A:Around) (s:Shared) (κ:SortKind) (S:Keyed->Prop) (r:Keyed->Nat):Prop where
 lt:∀ x y,S x->S y->∀ Q:Bool->Shared->Prop,Q (decide (r x < r y)) s->wpAny (model prog w) A (keyLt' κ x.1 y.1) Q (fun _ _=>False) s
variable {κ:SortKind} {S:Keyed->Prop} {r:Keyed->Nat}
theorem uD (c:Cm prog w A s κ S r) {x y:Keyed} (hx:S x) (hy:S y) {st:SortSt} (hk:kindOf st=κ) {Q:Option Bool->SortSt->Prop} (q:Q (some (decide (r x < r y))) st):wpS (model prog w) A E s (lt' x y) Q st:=by
 rw [lt'_eq]
 refine wpS_bind (wpS_get ?_)
 rw [hk]
 refine wpS_bind (wpS_lift (wpAny_attempt (wpAny_mono (c.lt x y hx hy (fun b s'=>s'=s /\ b=decide (r x < r y)) ⟨rfl,rfl⟩) (fun b s' hb=>?_) fun _ _ hF=>hF.elim)))
 obtain ⟨rfl,rfl⟩:=hb
 exact ⟨rfl,wpS_pure q⟩
theorem aA {arr:Array Keyed} {i:Nat} (hi:i < arr.size) {st:SortSt} {Q:Keyed->SortSt->Prop} (q:Q arr[i] st):wpS (model prog w) A E s (elem' arr i) Q st:=by
 rw [elem'_eq,getElem?_pos arr i hi]
 exact wpS_pure q
def Bef (r:Keyed->Nat) (left:Bool) (key:Keyed) (x:Keyed):Prop:=if left=true then r x < r key else r x <= r key
theorem Bef.mono {left:Bool} {key x y:Keyed} (h:r x <= r y) (b:Bef r left key y):Bef r left key x:=by
 unfold Bef at b ⊢
 split at b <;> simp_all <;> omega
theorem wU {n:Nat} {B:Nat->Prop} {st:SortSt} {f:Nat->Option (Option Nat)×Nat×Nat->StateT SortSt Sem (ForInStep (Option (Option Nat)×Nat×Nat))}
  (f1:∀ x lo hi,hi <= lo->f x (none,lo,hi)=pure (.done (none,lo,hi)))
  (f2:∀ x lo hi,lo < hi->hi <= n->∀ Q':_->SortSt->Prop,(B (lo + (hi - lo) / 2)->Q' (.yield (none,lo + (hi - lo) / 2 + 1,hi)) st)->(¬ B (lo + (hi - lo) / 2)->Q' (.yield (none,lo,lo + (hi - lo) / 2)) st)->wpS (model prog w) A E s (f x (none,lo,hi)) Q' st)
  (hB:∀ i j,i <= j->j < n->B j->B i) {lo hi:Nat} (h1:lo <= hi) (h2:hi <= n) (h3:∀ i,i < lo->B i) (h4:∀ i,hi <= i->i < n->¬ B i) {Q:_->SortSt->Prop}
  (q:∀ l k,k <= n->(∀ i,i < k->B i)->(∀ i,k <= i->i < n->¬ B i)->Q (none,l,k) st):wpS (model prog w) A E s (forIn [:n] (none,lo,hi) f) Q st:=by
 refine wpS_forRange (fun x c st'=>st'=st /\ ∃ lo hi,c=(none,lo,hi) /\ lo <= hi /\ hi <= n /\ hi - lo <= n - x /\ (∀ i,i < lo->B i) /\ (∀ i,hi <= i->i < n->¬ B i)) ?_ ?_ ⟨rfl,lo,hi,rfl,h1,h2,by omega,h3,h4⟩
 ·rintro x c st' _ hx ⟨rfl,lo,hi,rfl,a1,a2,a3,a4,a5⟩
  by_cases z:hi <= lo
  ·rw [f1 x lo hi z]
   have:lo=hi:=by omega
   subst this
   exact wpS_pure (q _ _ a2 a4 a5)
  ·refine f2 x lo hi (by omega) a2 _ (fun b=>⟨rfl,_,_,rfl,by omega,a2,by omega,fun i hi'=>hB _ _ (by omega) (by omega) b,a5⟩) (fun b=>⟨rfl,_,_,rfl,by omega,by omega,by omega,a4,fun i hi' hn' bi=>b (hB _ _ hi' hn' bi)⟩)
 ·rintro c st' ⟨rfl,lo,hi,rfl,a1,a2,a3,a4,a5⟩
  have:lo=hi:=by omega
  subst this
  exact q _ _ a2 a4 a5
theorem iW (c:Cm prog w A s κ S r) {left:Bool} {key:Keyed} {arr:Array Keyed} {base n hint:Nat} (hkey:S key) (hn:base + n <= arr.size) (hh:hint < n) (hS:∀ i (h:i < arr.size),S arr[i])
  (hs:∀ i j (hi:base + i < arr.size) (hj:base + j < arr.size),i < j->j < n->r arr[base + i] <= r arr[base + j])
  {st:SortSt} (hk:kindOf st=κ) {Q:Option Nat->SortSt->Prop}
  (q:∀ k,k <= n->(∀ i (hi:base + i < arr.size),i < k->Bef r left key arr[base + i])->(∀ i (hi:base + i < arr.size),k <= i->i < n->¬ Bef r left key arr[base + i])->Q (some k) st) :
  wpS (model prog w) A E s (gal left key arr base n hint) Q st:=by
 let B:Nat->Prop:=fun i=>∃ hi:base + i < arr.size,Bef r left key arr[base + i]
 have hB:∀ i j,i <= j->j < n->B j->B i:=by
  rintro i j hij hj ⟨h1,h2⟩
  refine ⟨by omega,?_⟩
  rcases Nat.lt_or_eq_of_le hij with z | z
  ·exact Bef.mono (hs i j (by omega) h1 z hj) h2
  ·subst z; exact h2
 have hb:∀ (i:Nat) (hi:i < n) (Q':Option Bool->SortSt->Prop),(∀ b:Bool,(b=true↔B i)->Q' (some b) st) ->
   wpS (model prog w) A E s (elem' arr (base + i) >>= fun x=>if left=true then lt' x key else lt' key x >>= fun o=>pure (o.map (!·))) Q' st:=by
  intro i hi Q' hq
  refine wpS_bind (aA (by omega) ?_)
  by_cases hl:left=true
  ·rw [if_pos hl]
   refine uD c (hS _ _) hkey hk (hq _ ?_)
   exact ⟨fun h=>⟨by omega,by unfold Bef; rw [if_pos hl]; simpa using h⟩,fun ⟨_,h⟩=>by unfold Bef at h; rw [if_pos hl] at h; simpa using h⟩
  ·rw [if_neg hl]
   refine wpS_bind (uD c hkey (hS _ _) hk (wpS_pure (hq _ ?_)))
   exact ⟨fun h=>⟨by omega,by unfold Bef; rw [if_neg hl]; simpa using h⟩,fun ⟨_,h⟩=>by unfold Bef at h; rw [if_neg hl] at h; simpa using h⟩
 have fin:∀ k,k <= n->(∀ i,i < k->B i)->(∀ i,k <= i->i < n->¬ B i)->Q (some k) st:=fun k h1 h2 h3=>q k h1 (fun i hi hk=>(h2 i hk).2) (fun i hi hk hn hb=>h3 i hk hn ⟨hi,hb⟩)
 refine wpS_bind (hb hint hh _ fun b eb=>?_)
 dsimp only
 by_cases hbt:b=true
 ·rw [if_pos hbt]
  have b0:=eb.mp hbt
  refine wpS_bind (wpS_mono (wpS_forRange (Q:=fun c st'=>st'=st /\ ∃ la of,c=(none,la,of) /\ la < of /\ hint + la < n /\ B (hint + la) /\ (of < n - hint->¬ B (hint + of))) (fun x c st'=>st'=st /\ ∃ la of,c=(none,la,of) /\ la < of /\ hint + la < n /\ x < of /\ B (hint + la)) ?_ ?_ ⟨rfl,0,1,rfl,by omega,by omega,by omega,b0⟩) ?_)
  ·rintro x c st' _ hx ⟨rfl,la,of,rfl,a1,a2,a3,a4⟩
   dsimp only
   by_cases z:of ≥ n - hint
   ·rw [if_pos z]
    exact wpS_pure ⟨rfl,la,of,rfl,a1,a2,a4,fun h=>by omega⟩
   ·rw [if_neg z]
    refine wpS_bind (hb (hint + of) (by omega) _ fun b eb=>?_)
    dsimp only
    cases b with
    | false=>exact wpS_pure ⟨rfl,la,of,rfl,a1,a2,a4,fun _ h=>by have:=eb.mpr h; simp at this⟩
    | true=>exact wpS_pure ⟨rfl,of,2 * of + 1,rfl,by omega,by omega,by omega,eb.mp rfl⟩
  ·rintro c st' ⟨rfl,la,of,rfl,a1,a2,a3,a4⟩
   exact ⟨rfl,la,of,rfl,a1,a2,a4,fun h=>by omega⟩
  ·rintro _ st' ⟨rfl,la,of,rfl,a1,a2,a3,a4⟩
   dsimp only
   refine wpS_bind (wU (B:=B) (n:=n) (fun x lo hi h=>by dsimp only; rw [if_pos h]) (fun x lo hi h1 h2 Q' q1 q2=>?_) hB (by omega) (by omega) (fun i hi=>hB _ _ (by omega) (by omega) a3) (fun i hi hn' bi=>?_) fun l k k1 k2 k3=>?_)
   ·dsimp only
    rw [if_neg (by omega)]
    refine wpS_bind (hb _ (by omega) _ fun b eb=>?_)
    dsimp only
    cases b with
    | false=>exact wpS_pure (q2 fun h=>by have:=eb.mpr h; simp at this)
    | true=>exact wpS_pure (q1 (eb.mp rfl))
   ·exact a4 (by omega) (hB _ _ (by omega) hn' bi)
   ·exact wpS_pure (fin _ k1 k2 k3)
 ·rw [if_neg hbt]
  have b0:¬ B hint:=fun h=>hbt (eb.mpr h)
  refine wpS_bind (wpS_mono (wpS_forRange (Q:=fun c st'=>st'=st /\ ∃ la of,c=(none,la,of) /\ la < of /\ la <= hint /\ ¬ B (hint - la) /\ (of < hint + 1->B (hint - of))) (fun x c st'=>st'=st /\ ∃ la of,c=(none,la,of) /\ la < of /\ la <= hint /\ x < of /\ ¬ B (hint - la)) ?_ ?_ ⟨rfl,0,1,rfl,by omega,by omega,by omega,b0⟩) ?_)
  ·rintro x c st' _ hx ⟨rfl,la,of,rfl,a1,a2,a3,a4⟩
   dsimp only
   by_cases z:of ≥ hint + 1
   ·rw [if_pos z]
    exact wpS_pure ⟨rfl,la,of,rfl,a1,a2,a4,fun h=>by omega⟩
   ·rw [if_neg z]
    refine wpS_bind (hb (hint - of) (by omega) _ fun b eb=>?_)
    dsimp only
    cases b with
    | true=>exact wpS_pure ⟨rfl,la,of,rfl,a1,a2,a4,fun _=>eb.mp rfl⟩
    | false=>exact wpS_pure ⟨rfl,of,2 * of + 1,rfl,by omega,by omega,by omega,fun h=>by have:=eb.mpr h; simp at this⟩
  ·rintro c st' ⟨rfl,la,of,rfl,a1,a2,a3,a4⟩
   exact ⟨rfl,la,of,rfl,a1,a2,a4,fun h=>by omega⟩
  ·rintro _ st' ⟨rfl,la,of,rfl,a1,a2,a3,a4⟩
   dsimp only
   refine wpS_bind (wU (B:=B) (n:=n) (fun x lo hi h=>by dsimp only; rw [if_pos h]) (fun x lo hi h1 h2 Q' q1 q2=>?_) hB (by omega) (by omega) (fun i hi=>hB _ _ (by omega) (by omega) (a4 (by omega))) (fun i hi hn' bi=>a3 (hB _ _ hi (by omega) bi)) fun l k k1 k2 k3=>?_)
   ·dsimp only
    rw [if_neg (by omega)]
    refine wpS_bind (hb _ (by omega) _ fun b eb=>?_)
    dsimp only
    cases b with
    | false=>exact wpS_pure (q2 fun h=>by have:=eb.mpr h; simp at this)
    | true=>exact wpS_pure (q1 (eb.mp rfl))
   ·exact wpS_pure (fin _ k1 k2 k3)
end
end TS
namespace TS
open PySem PyProof.Rows
section
variable {prog:Program} {w:World} {A:Around} {E:Value->Shared->Prop} {s:Shared}
variable {κ:SortKind} {S:Keyed->Prop} {r:Keyed->Nat}
abbrev Up (r:Keyed->Nat) (l:List Keyed):Prop:=l.Pairwise fun x y=>r x <= r y
structure Mg (r:Keyed->Nat) (T out ra rb:List Keyed):Prop where
 pm:(out++(ra++rb)).Perm T
 so:Up r out
 sa:Up r ra
 sb:Up r rb
 le:∀ x∈out,∀ y∈ra++rb,r x <= r y
theorem Mg.stepA {T out c ra rb:List Keyed} (m:Mg r T out (c++ra) rb) (h:∀ x∈c,∀ y∈rb,r x <= r y):Mg r T (out++c) ra rb:=by
 have sa:=List.pairwise_append.mp m.sa
 refine ⟨by simpa [List.append_assoc] using m.pm,List.pairwise_append.mpr ⟨m.so,sa.1,fun x hx y hy=>m.le x hx y (by simp [hy])⟩,sa.2.1,m.sb,fun x hx y hy=>?_⟩
 rcases List.mem_append.mp hx with hx | hx
 ·exact m.le x hx y (by simp at hy ⊢; rcases hy with hy | hy <;> simp [hy])
 ·rcases List.mem_append.mp hy with hy | hy
  ·exact sa.2.2 x hx y hy
  ·exact h x hx y hy
theorem Mg.stepB {T out c ra rb:List Keyed} (m:Mg r T out ra (c++rb)) (h:∀ x∈c,∀ y∈ra,r x <= r y):Mg r T (out++c) ra rb:=by
 have sb:=List.pairwise_append.mp m.sb
 refine ⟨List.Perm.trans ?_ m.pm,List.pairwise_append.mpr ⟨m.so,sb.1,fun x hx y hy=>m.le x hx y (by simp [hy])⟩,m.sa,sb.2.1,fun x hx y hy=>?_⟩
 ·rw [List.append_assoc]
  refine List.Perm.append_left _ ?_
  rw [← List.append_assoc,← List.append_assoc]
  exact List.Perm.append_right _ List.perm_append_comm
 rcases List.mem_append.mp hx with hx | hx
 ·exact m.le x hx y (by simp at hy ⊢; rcases hy with hy | hy <;> simp [hy])
 ·rcases List.mem_append.mp hy with hy | hy
  ·exact h x hx y hy
  ·exact sb.2.2 x hx y hy
def Gd (r:Keyed->Nat) (T l:List Keyed):Prop:=l.Perm T /\ Up r l
theorem Mg.doneA {T out ra:List Keyed} (m:Mg r T out ra []):Gd r T (out++ra):=by
 have:=Mg.stepA (c:=ra) (ra:=[]) (by simpa using m) fun x hx y hy=>by simp at hy
 exact ⟨by simpa using this.pm,this.so⟩
theorem Mg.doneB {T out rb:List Keyed} (m:Mg r T out [] rb):Gd r T (out++rb):=by
 have:=Mg.stepB (c:=rb) (rb:=[]) (by simpa using m) fun x hx y hy=>by simp at hy
 exact ⟨by simpa using this.pm,this.so⟩
theorem Mg.last {T out rb:List Keyed} {x:Keyed} (m:Mg r T out [x] rb) (h:∀ y∈rb,r y <= r x):Gd r T (out++rb++[x]):=by
 have:=Mg.stepB (c:=rb) (rb:=[]) (by simpa using m) fun y hy z hz=>by
  simp at hz
  subst hz
  exact h y hy
 exact this.doneA
theorem dA (a:Array Keyed) (i:Nat):(a.extract i a.size).toList=a.toList.drop i:=by
 rw [Array.toList_extract]
 simp only [List.extract]
 exact List.take_of_length_le (by simp)
theorem fo {a:Array Keyed} {i:Nat} (h:i < a.size):a.toList.drop i=a[i]::a.toList.drop (i + 1):=by
 rw [List.drop_eq_getElem_cons (by simpa using h)]
 simp
theorem bV {a:Array Keyed}:a.toList.drop a.size=[]:=by simp
abbrev sg (st:SortSt) (g:Nat):SortSt:=SortSt.mk' (kindOf st) (arrOf st) (pendingOf st) g (failedOf st)
theorem nU {a:Array Keyed} (u:Up r a.toList) {i j:Nat} (hi:i < a.size) (hj:j < a.size) (h:i < j):r a[i] <= r a[j]:=by
 have:=List.pairwise_iff_getElem.mp u i j (by simpa using hi) (by simpa using hj) h
 simpa using this
theorem wV (a:Array Keyed) (i k:Nat):(a.extract i (i + k)).toList++a.toList.drop (i + k)=a.toList.drop i:=by
 rw [Array.toList_extract]
 simp only [List.extract]
 rw [show i + k - i=k by omega,← List.drop_drop]
 exact List.take_append_drop _ _
def Iv (r:Keyed->Nat) (a b:Array Keyed) (out:Array Keyed) (ia ib:Nat):Prop:=ia + 1 < a.size /\ ib < b.size /\ Mg r (a.toList++b.toList) out.toList (a.toList.drop ia) (b.toList.drop ib)
section
variable {a b:Array Keyed} {out:Array Keyed} {ia ib:Nat}
theorem uE {a:Array Keyed} {i:Nat} {y:Keyed} (h:y∈a.toList.drop i):∃ j,∃ hj:j < a.size,i <= j /\ a[j]=y:=by
 obtain ⟨k,hk⟩:=List.mem_iff_getElem?.mp h
 rw [List.getElem?_drop] at hk
 obtain ⟨h1,h2⟩:=List.getElem?_eq_some_iff.mp hk
 exact ⟨i + k,by simpa using h1,by omega,by simpa using h2⟩
theorem jY {a:Array Keyed} (u:Up r a.toList) {i:Nat} (hi:i < a.size):∀ y∈a.toList.drop i,r a[i] <= r y:=fun y hy=>by
 obtain ⟨j,hj,hij,rfl⟩:=uE hy
 rcases Nat.lt_or_eq_of_le hij with z | z
 ·exact nU u hi hj z
 ·subst z; exact Nat.le_refl _
theorem uF {a:Array Keyed} {i k:Nat} {x:Keyed} (hx:x∈(a.extract i (i + k)).toList):∃ j,∃ hj:i + j < a.size,j < k /\ a[i + j]=x:=by
 obtain ⟨j,hj⟩:=List.mem_iff_getElem?.mp hx
 obtain ⟨h1,h2⟩:=List.getElem?_eq_some_iff.mp hj
 simp at h1 h2
 exact ⟨j,by omega,by omega,h2⟩
variable (ua:Up r a.toList) (ub:Up r b.toList) (na:0 < a.size) (hl:∀ y∈b.toList,r y <= r (a[a.size - 1]'(by omega)))
include ua ub hl
theorem Iv.pushB (v:Iv r a b out ia ib) (h:r (b[ib]'v.2.1) <= r (a[ia]'(by have:=v.1; omega))) :
  (ib + 1=b.size->Gd r (a.toList++b.toList) (out.push (b[ib]'v.2.1)++a.extract ia a.size++b.extract (ib + 1) b.size).toList) /\ (ib + 1≠b.size->Iv r a b (out.push (b[ib]'v.2.1)) ia (ib + 1)):=by
 obtain ⟨v1,v2,m⟩:=v
 rw [fo v2] at m
 have m2:=Mg.stepB (c:=[b[ib]]) m fun x hx y hy=>by
  rw [List.mem_singleton.mp hx]
  exact Nat.le_trans h (jY ua _ y hy)
 have e:(out.push b[ib]).toList=out.toList++[b[ib]]:=Array.toList_push
 rw [← e] at m2
 refine ⟨fun z=>?_,fun z=>⟨v1,by omega,m2⟩⟩
 rw [z,bV] at m2
 have:=m2.doneA
 rw [Array.toList_append,Array.toList_append,dA,dA,z,bV,List.append_nil]
 exact this
theorem Iv.pushA (v:Iv r a b out ia ib) (h:r (a[ia]'(by have:=v.1; omega)) <= r (b[ib]'v.2.1)) :
  (ia + 1 + 1=a.size->Gd r (a.toList++b.toList) (out.push (a[ia]'(by have:=v.1; omega))++b.extract ib b.size++a.extract (ia + 1) a.size).toList) /\ (ia + 1 + 1≠a.size->Iv r a b (out.push (a[ia]'(by have:=v.1; omega))) (ia + 1) ib):=by
 obtain ⟨v1,v2,m⟩:=v
 rw [fo (show ia < a.size by omega)] at m
 have m2:=Mg.stepA (c:=[a[ia]]) m fun x hx y hy=>by
  rw [List.mem_singleton.mp hx]
  exact Nat.le_trans h (jY ub _ y hy)
 have e:(out.push a[ia]).toList=out.toList++[a[ia]]:=Array.toList_push
 rw [← e] at m2
 refine ⟨fun z=>?_,fun z=>⟨by omega,v2,m2⟩⟩
 have e2:a.toList.drop (ia + 1)=[a[a.size - 1]'(by omega)]:=by
  rw [fo (show ia + 1 < a.size by omega),z,bV]
  congr 2
  omega
 rw [e2] at m2
 have:=m2.last fun y hy=>hl y (List.mem_of_mem_drop hy)
 rw [Array.toList_append,Array.toList_append,dA,dA,e2]
 exact this
theorem Iv.chunkB (v:Iv r a b out ia ib) {k:Nat} (hk:k <= b.size - ib) (h:∀ i (hi:ib + i < b.size),i < k->r b[ib + i] <= r (a[ia]'(by have:=v.1; omega))) :
  (ib + k=b.size->Gd r (a.toList++b.toList) (out++b.extract ib (ib + k)++a.extract ia a.size++b.extract (ib + k) b.size).toList) /\ (ib + k≠b.size->Iv r a b (out++b.extract ib (ib + k)) ia (ib + k)):=by
 obtain ⟨v1,v2,m⟩:=v
 rw [← wV b ib k] at m
 have m2:=Mg.stepB m fun x hx y hy=>by
  obtain ⟨j,hj,hjk,rfl⟩:=uF hx
  exact Nat.le_trans (h j hj hjk) (jY ua _ y hy)
 have e:(out++b.extract ib (ib + k)).toList=out.toList++(b.extract ib (ib + k)).toList:=Array.toList_append
 rw [← e] at m2
 refine ⟨fun z=>?_,fun z=>⟨v1,by omega,m2⟩⟩
 rw [z,bV] at m2
 have:=m2.doneA
 rw [Array.toList_append,Array.toList_append,dA,dA,z,bV,List.append_nil]
 exact this
theorem Iv.chunkA (v:Iv r a b out ia ib) {k:Nat} (hk:k <= a.size - ia) (h:∀ i (hi:ia + i < a.size),i < k->r a[ia + i] <= r (b[ib]'v.2.1)) :
  (ia + k + 1=a.size->Gd r (a.toList++b.toList) (out++a.extract ia (ia + k)++b.extract ib b.size++a.extract (ia + k) a.size).toList) /\ (ia + k=a.size->Gd r (a.toList++b.toList) (out++a.extract ia (ia + k)++a.extract (ia + k) a.size++b.extract ib b.size).toList) /\ (ia + k + 1≠a.size->ia + k≠a.size->Iv r a b (out++a.extract ia (ia + k)) (ia + k) ib):=by
 obtain ⟨v1,v2,m⟩:=v
 rw [← wV a ia k] at m
 have m2:=Mg.stepA m fun x hx y hy=>by
  obtain ⟨j,hj,hjk,rfl⟩:=uF hx
  exact Nat.le_trans (h j hj hjk) (jY ub _ y hy)
 have e:(out++a.extract ia (ia + k)).toList=out.toList++(a.extract ia (ia + k)).toList:=Array.toList_append
 rw [← e] at m2
 refine ⟨fun z=>?_,fun z=>?_,fun z z'=>⟨by omega,v2,m2⟩⟩
 ·have e2:a.toList.drop (ia + k)=[a[a.size - 1]'(by omega)]:=by
   rw [fo (show ia + k < a.size by omega),z,bV]
   congr 2
   omega
  rw [e2] at m2
  have:=m2.last fun y hy=>hl y (List.mem_of_mem_drop hy)
  rw [Array.toList_append,Array.toList_append,dA,dA,e2]
  exact this
 ·rw [z,bV] at m2
  have:=m2.doneB
  rw [Array.toList_append,Array.toList_append,dA,dA,z,bV,List.append_nil]
  exact this
end
theorem au {α:Type} {d:Prop} [Decidable d] {m m':StateT SortSt Sem α} {st:SortSt} {Q:α->SortSt->Prop} (h:d) (q:wpS (model prog w) A E s m Q st):wpS (model prog w) A E s (if d then m else m') Q st:=by rw [if_pos h]; exact q
theorem ar {α:Type} {d:Prop} [Decidable d] {m m':StateT SortSt Sem α} {st:SortSt} {Q:α->SortSt->Prop} (h:¬ d) (q:wpS (model prog w) A E s m' Q st):wpS (model prog w) A E s (if d then m else m') Q st:=by rw [if_neg h]; exact q
theorem bd {α:Type} {d:Prop} [Decidable d] {m m':StateT SortSt Sem α} {st:SortSt} {Q:α->SortSt->Prop} (h:d->wpS (model prog w) A E s m Q st) (h':¬ d->wpS (model prog w) A E s m' Q st):wpS (model prog w) A E s (if d then m else m') Q st:=by
 by_cases z:d
 ·exact au z (h z)
 ·exact ar z (h' z)
theorem AS (c:Cm prog w A s κ S r) {a b:Array Keyed} (hSa:∀ i (h:i < a.size),S a[i]) (hSb:∀ i (h:i < b.size),S b[i]) (ua:Up r a.toList) (ub:Up r b.toList) (na:0 < a.size) (nb:0 < b.size)
  (h0:r b[0] <= r a[0]) (hl:∀ y∈b.toList,r y <= r (a[a.size - 1]'(by omega))) {st:SortSt} (hk:kindOf st=κ) {Q:Array Keyed->SortSt->Prop}
  (q:∀ out g,Gd r (a.toList++b.toList) out.toList->Q out (sg st g)):wpS (model prog w) A E s (mlo a b) Q st:=by
 have pushB:∀ {out ia ib},(v:Iv r a b out ia ib)->r (b[ib]'v.2.1) <= r (a[ia]'(by have:=v.1; omega))->_:=fun v h=>Iv.pushB ua ub na hl v h
 have pushA:∀ {out ia ib},(v:Iv r a b out ia ib)->r (a[ia]'(by have:=v.1; omega)) <= r (b[ib]'v.2.1)->_:=fun v h=>Iv.pushA ua ub na hl v h
 have chunkB:∀ {out ia ib},(v:Iv r a b out ia ib)->∀ {k},k <= b.size - ib->(∀ i (hi:ib + i < b.size),i < k->r b[ib + i] <= r (a[ia]'(by have:=v.1; omega)))->_:=fun v k hk h=>Iv.chunkB ua ub na hl v hk h
 have chunkA:∀ {out ia ib},(v:Iv r a b out ia ib)->∀ {k},k <= a.size - ia->(∀ i (hi:ia + i < a.size),i < k->r a[ia + i] <= r (b[ib]'v.2.1))->_:=fun v k hk h=>Iv.chunkA ua ub na hl v hk h
 refine wpS_bind (wpS_lift (wpAny_rule ⟨rfl,?_⟩))
 refine wpS_bind (aA nb ?_)
 dsimp only
 have m0:Mg r (a.toList++b.toList) [b[0]] a.toList (b.toList.drop 1):=by
  have m:Mg r (a.toList++b.toList) [] a.toList ([b[0]]++b.toList.drop 1):=by
   rw [List.singleton_append,← fo nb,List.drop_zero]
   exact ⟨List.Perm.refl _,List.Pairwise.nil,ua,ub,fun x hx=>by simp at hx⟩
  have:=m.stepB fun x hx y hy=>by
   rw [List.mem_singleton.mp hx]
   exact Nat.le_trans h0 (jY ua na y (by rw [List.drop_zero]; exact hy))
  exact this
 by_cases e1:1=b.size
 ·rw [if_pos (by simpa using e1)]
  rw [e1,bV] at m0
  refine wpS_pure (q _ (gallopOf st) ?_)
  have:=m0.doneA
  rw [Array.toList_append,Array.toList_append,dA,dA,e1,bV,List.append_nil,List.drop_zero]
  exact this
 rw [if_neg (by simpa using e1)]
 by_cases e2:0 + 1=a.size
 ·rw [if_pos (by simpa using e2)]
  have e3:a.toList=[a[a.size - 1]'(by omega)]:=by
   have:=fo na
   rw [List.drop_zero,e2,bV] at this
   rw [this]
   congr 2
   omega
  refine wpS_pure (q _ (gallopOf st) ?_)
  rw [e3] at m0
  have:=m0.last fun y hy=>hl y (List.mem_of_mem_drop hy)
  rw [Array.toList_append,Array.toList_append,dA,dA,List.drop_zero]
  rw [← e3] at this
  exact this
 rw [if_neg (by simpa using e2)]
 refine wpS_bind (wpS_get ?_)
 have v0:Iv r a b #[b[0]] 0 1:=⟨by omega,by omega,m0⟩
 refine wpS_bind (wpS_mono (wpS_forRange (Q:=fun c st'=>∃ g,st'=sg st g /\ ∃ ret out ia ib mg,c=(ret,out,ia,ib,mg) /\ ∃ o,ret=some o /\ Gd r (a.toList++b.toList) o.toList)
  (fun x c st'=>∃ g,st'=sg st g /\ ∃ out ia ib mg,c=(none,out,ia,ib,mg) /\ Iv r a b out ia ib /\ x < ia + ib) ?_ ?_ ⟨gallopOf st,rfl,_,_,_,_,rfl,v0,by omega⟩) ?_)
 ·rintro x c0 st' _ hx ⟨g,rfl,out,ia,ib,mg,rfl,v,hx2⟩
  dsimp only
  refine wpS_bind (wpS_mono (wpS_forRange (Q:=fun c st'=>∃ g,st'=sg st g /\ ∃ ret out' ia' ib' ac bc,c=(ret,out',ia',ib',ac,bc) /\ ((∃ o,ret=some o /\ Gd r (a.toList++b.toList) o.toList)∨(ret=none /\ Iv r a b out' ia' ib' /\ ia + ib < ia' + ib')))
   (fun y c st'=>∃ g,st'=sg st g /\ ∃ out' ia' ib' ac bc,c=(none,out',ia',ib',ac,bc) /\ Iv r a b out' ia' ib' /\ ia + ib + y <= ia' + ib') ?_ ?_ ⟨_,rfl,_,_,_,_,_,rfl,v,by omega⟩) ?_)
  ·rintro y c1 st' _ hy ⟨g,rfl,out,ia,ib,ac,bc,rfl,v,hy2⟩
   have v1:=v.1
   refine wpS_bind (aA v.2.1 (wpS_bind (aA (by (try dsimp only); omega) (wpS_bind (uD c (hSb _ _) (hSa _ _) (by exact hk) ?_)))))
   by_cases z:r (b[ib]'v.2.1) < r (a[ia]'(by (try dsimp only); omega))
   ·refine au (by simpa using z) ?_
    refine wpS_bind (aA v.2.1 ?_)
    obtain ⟨d1,d2⟩:=pushB v (Nat.le_of_lt z)
    by_cases e3:ib + 1=b.size
    ·refine au (by simpa using e3) ?_
     exact wpS_pure ⟨_,rfl,_,_,_,_,_,_,rfl,.inl ⟨_,rfl,d1 e3⟩⟩
    refine ar (by simpa using e3) ?_
    refine bd (fun _=>?_) (fun _=>?_)
    ·exact wpS_pure ⟨_,rfl,_,_,_,_,_,_,rfl,.inr ⟨rfl,d2 e3,by (try dsimp only); omega⟩⟩
    ·exact wpS_pure ⟨_,rfl,_,_,_,_,_,rfl,d2 e3,by (try dsimp only); omega⟩
   ·refine ar (by simpa using z) ?_
    refine wpS_bind (aA (by (try dsimp only); omega) ?_)
    obtain ⟨d1,d2⟩:=pushA v (by (try dsimp only); omega)
    by_cases e3:ia + 1 + 1=a.size
    ·refine au (by simpa using e3) ?_
     exact wpS_pure ⟨_,rfl,_,_,_,_,_,_,rfl,.inl ⟨_,rfl,d1 e3⟩⟩
    refine ar (by simpa using e3) ?_
    refine bd (fun _=>?_) (fun _=>?_)
    ·exact wpS_pure ⟨_,rfl,_,_,_,_,_,_,rfl,.inr ⟨rfl,d2 e3,by (try dsimp only); omega⟩⟩
    ·exact wpS_pure ⟨_,rfl,_,_,_,_,_,rfl,d2 e3,by (try dsimp only); omega⟩
  ·rintro c1 st' ⟨g,rfl,out,ia,ib,ac,bc,rfl,v,hy2⟩
   exfalso
   have:=v.1
   have:=v.2.1
   omega
  rintro c1 st' ⟨g,rfl,ret,out2,ia2,ib2,ac,bc,rfl,hd⟩
  rcases hd with ⟨o,rfl,ho⟩ | ⟨rfl,v2,hp⟩
  ·exact wpS_pure ⟨_,rfl,_,_,_,_,_,rfl,o,rfl,ho⟩
  refine wpS_bind (wpS_lift (wpAny_rule ⟨rfl,?_⟩))
  refine wpS_bind (wpS_mono (wpS_forRange (Q:=fun c st'=>∃ g,st'=sg st g /\ ∃ ret out' ia' ib' mg ac bc,c=(ret,out',ia',ib',mg,ac,bc) /\ ((∃ o,ret=some o /\ Gd r (a.toList++b.toList) o.toList)∨(ret=none /\ Iv r a b out' ia' ib' /\ ia2 + ib2 <= ia' + ib')))
   (fun y c st'=>∃ g,st'=sg st g /\ ∃ out' ia' ib' mg ac bc,c=(none,out',ia',ib',mg,ac,bc) /\ Iv r a b out' ia' ib' /\ ia2 + ib2 + y <= ia' + ib') ?_ ?_ ⟨_,rfl,_,_,_,_,_,_,rfl,v2,by (try dsimp only); omega⟩) ?_)
  ·rintro y c1 st' _ hy ⟨g,rfl,out,ia,ib,mg,ac,bc,rfl,v,hy2⟩
   have v1:=v.1
   have v1b:=v.2.1
   refine bd (fun _=>?_) (fun _=>?_)
   all_goals
    refine wpS_bind (wpS_modify ?_)
    refine wpS_bind (aA v.2.1 ?_)
    refine wpS_bind (iW c (hSb _ _) (by (try dsimp only); omega) (by (try dsimp only); omega) hSa (fun i j hi hj hij _=>nU ua hi hj (by (try dsimp only); omega)) (by exact hk) (fun k k1 k2 k3=>?_))
    obtain ⟨f1,f2,f3⟩:=chunkA v k1 fun i hi h=>by have:=k2 i hi h; simpa [Bef] using this
    by_cases hk0:k > 0
    ·refine au hk0 ?_
     by_cases e1:ia + k + 1=a.size
     ·refine au (by simpa using e1) ?_
      exact wpS_pure ⟨_,rfl,_,_,_,_,_,_,_,rfl,.inl ⟨_,rfl,f1 e1⟩⟩
     refine ar (by simpa using e1) ?_
     by_cases e2:ia + k=a.size
     ·refine au (by simpa using e2) ?_
      exact wpS_pure ⟨_,rfl,_,_,_,_,_,_,_,rfl,.inl ⟨_,rfl,f2 e2⟩⟩
     refine ar (by simpa using e2) ?_
     have jv:=f3 e1 e2
     have hle:r (b[ib]'v.2.1) <= r (a[ia + k]'(by have:=jv.1; (try dsimp only); omega)):=Nat.le_of_lt (by have:=k3 k (by have:=jv.1; (try dsimp only); omega) (Nat.le_refl _) (by have:=jv.1; (try dsimp only); omega); simpa [Bef] using this)
     refine wpS_bind (aA jv.2.1 ?_)
     obtain ⟨d1,d2⟩:=pushB jv hle
     by_cases e3:ib + 1=b.size
     ·refine au (by simpa using e3) ?_
      exact wpS_pure ⟨_,rfl,_,_,_,_,_,_,_,rfl,.inl ⟨_,rfl,d1 e3⟩⟩
     refine ar (by simpa using e3) ?_
     have jw:=d2 e3
     refine wpS_bind (aA (by have:=jw.1; (try dsimp only); omega) ?_)
     refine wpS_bind (iW c (hSa _ _) (by (try dsimp only); omega) (by have:=jw.2.1; (try dsimp only); omega) hSb (fun i j hi hj hij _=>nU ub hi hj (by (try dsimp only); omega)) (by exact hk) (fun k' k1' k2' k3'=>?_))
     obtain ⟨d3,d4⟩:=chunkB jw k1' fun i hi h=>Nat.le_of_lt (by have:=k2' i (by (try dsimp only); omega) h; simpa [Bef] using this)
     by_cases hk0':k' > 0
     ·refine au hk0' ?_
      by_cases e4:ib + 1 + k'=b.size
      ·refine au (by simpa using e4) ?_
       exact wpS_pure ⟨_,rfl,_,_,_,_,_,_,_,rfl,.inl ⟨_,rfl,d3 e4⟩⟩
      refine ar (by simpa using e4) ?_
      have jx:=d4 e4
      have hle2:=Nat.le_of_not_lt (by have:=k3' k' (by have:=jx.2.1; (try dsimp only); omega) (Nat.le_refl _) (by have:=jx.2.1; (try dsimp only); omega); simpa [Bef] using this)
      refine wpS_bind (aA (by have:=jw.1; (try dsimp only); omega) ?_)
      obtain ⟨d5,d6⟩:=pushA jx hle2
      by_cases e5:ia + k + 1 + 1=a.size
      ·refine au (by simpa using e5) ?_
       exact wpS_pure ⟨_,rfl,_,_,_,_,_,_,_,rfl,.inl ⟨_,rfl,d5 e5⟩⟩
      refine ar (by simpa using e5) ?_
      have jy:=d6 e5
      refine bd (fun _=>?_) (fun _=>?_)
      ·exact wpS_pure ⟨_,rfl,_,_,_,_,_,_,_,rfl,.inr ⟨rfl,jy,by (try dsimp only); omega⟩⟩
      ·exact wpS_pure ⟨_,rfl,_,_,_,_,_,_,rfl,jy,by (try dsimp only); omega⟩
     ·refine ar hk0' ?_
      have z':k'=0:=by (try dsimp only); omega
      subst z'
      have hle2:=Nat.le_of_not_lt (by have:=k3' 0 (by have:=jw.2.1; (try dsimp only); omega) (Nat.le_refl _) (by have:=jw.2.1; (try dsimp only); omega); simpa [Bef] using this)
      refine wpS_bind (aA (by have:=jw.1; (try dsimp only); omega) ?_)
      obtain ⟨d5,d6⟩:=pushA jw hle2
      by_cases e5:ia + k + 1 + 1=a.size
      ·refine au (by simpa using e5) ?_
       exact wpS_pure ⟨_,rfl,_,_,_,_,_,_,_,rfl,.inl ⟨_,rfl,d5 e5⟩⟩
      refine ar (by simpa using e5) ?_
      have jy:=d6 e5
      refine bd (fun _=>?_) (fun _=>?_)
      ·exact wpS_pure ⟨_,rfl,_,_,_,_,_,_,_,rfl,.inr ⟨rfl,jy,by (try dsimp only); omega⟩⟩
      ·exact wpS_pure ⟨_,rfl,_,_,_,_,_,_,rfl,jy,by (try dsimp only); omega⟩
    ·refine ar hk0 ?_
     have z0:k=0:=by (try dsimp only); omega
     subst z0
     have jv:=v
     have hle:r (b[ib]'v.2.1) <= r (a[ia]'(by (try dsimp only); omega)):=Nat.le_of_lt (by have:=k3 0 (by (try dsimp only); omega) (Nat.le_refl _) (by (try dsimp only); omega); simpa [Bef] using this)
     refine wpS_bind (aA jv.2.1 ?_)
     obtain ⟨d1,d2⟩:=pushB jv hle
     by_cases e3:ib + 1=b.size
     ·refine au (by simpa using e3) ?_
      exact wpS_pure ⟨_,rfl,_,_,_,_,_,_,_,rfl,.inl ⟨_,rfl,d1 e3⟩⟩
     refine ar (by simpa using e3) ?_
     have jw:=d2 e3
     refine wpS_bind (aA (by have:=jw.1; (try dsimp only); omega) ?_)
     refine wpS_bind (iW c (hSa _ _) (by (try dsimp only); omega) (by have:=jw.2.1; (try dsimp only); omega) hSb (fun i j hi hj hij _=>nU ub hi hj (by (try dsimp only); omega)) (by exact hk) (fun k' k1' k2' k3'=>?_))
     obtain ⟨d3,d4⟩:=chunkB jw k1' fun i hi h=>Nat.le_of_lt (by have:=k2' i (by (try dsimp only); omega) h; simpa [Bef] using this)
     by_cases hk0':k' > 0
     ·refine au hk0' ?_
      by_cases e4:ib + 1 + k'=b.size
      ·refine au (by simpa using e4) ?_
       exact wpS_pure ⟨_,rfl,_,_,_,_,_,_,_,rfl,.inl ⟨_,rfl,d3 e4⟩⟩
      refine ar (by simpa using e4) ?_
      have jx:=d4 e4
      have hle2:=Nat.le_of_not_lt (by have:=k3' k' (by have:=jx.2.1; (try dsimp only); omega) (Nat.le_refl _) (by have:=jx.2.1; (try dsimp only); omega); simpa [Bef] using this)
      refine wpS_bind (aA (by have:=jw.1; (try dsimp only); omega) ?_)
      obtain ⟨d5,d6⟩:=pushA jx hle2
      by_cases e5:ia + 1 + 1=a.size
      ·refine au (by simpa using e5) ?_
       exact wpS_pure ⟨_,rfl,_,_,_,_,_,_,_,rfl,.inl ⟨_,rfl,d5 e5⟩⟩
      refine ar (by simpa using e5) ?_
      have jy:=d6 e5
      refine bd (fun _=>?_) (fun _=>?_)
      ·exact wpS_pure ⟨_,rfl,_,_,_,_,_,_,_,rfl,.inr ⟨rfl,jy,by (try dsimp only); omega⟩⟩
      ·exact wpS_pure ⟨_,rfl,_,_,_,_,_,_,rfl,jy,by (try dsimp only); omega⟩
     ·refine ar hk0' ?_
      have z':k'=0:=by (try dsimp only); omega
      subst z'
      have hle2:=Nat.le_of_not_lt (by have:=k3' 0 (by have:=jw.2.1; (try dsimp only); omega) (Nat.le_refl _) (by have:=jw.2.1; (try dsimp only); omega); simpa [Bef] using this)
      refine wpS_bind (aA (by have:=jw.1; (try dsimp only); omega) ?_)
      obtain ⟨d5,d6⟩:=pushA jw hle2
      by_cases e5:ia + 1 + 1=a.size
      ·refine au (by simpa using e5) ?_
       exact wpS_pure ⟨_,rfl,_,_,_,_,_,_,_,rfl,.inl ⟨_,rfl,d5 e5⟩⟩
      refine ar (by simpa using e5) ?_
      have jy:=d6 e5
      refine bd (fun _=>?_) (fun _=>?_)
      ·exact wpS_pure ⟨_,rfl,_,_,_,_,_,_,_,rfl,.inr ⟨rfl,jy,by (try dsimp only); omega⟩⟩
      ·exact wpS_pure ⟨_,rfl,_,_,_,_,_,_,rfl,jy,by (try dsimp only); omega⟩
  ·rintro c1 st' ⟨g,rfl,out,ia,ib,mg,ac,bc,rfl,v,hy2⟩
   exfalso
   have:=v.1
   have:=v.2.1
   omega
  rintro c1 st' ⟨g,rfl,ret,out3,ia3,ib3,mg3,ac3,bc3,rfl,hd⟩
  rcases hd with ⟨o,rfl,ho⟩ | ⟨rfl,v3,hp3⟩
  ·exact wpS_pure ⟨_,rfl,_,_,_,_,_,rfl,o,rfl,ho⟩
  refine wpS_bind (wpS_modify ?_)
  exact wpS_pure ⟨_,rfl,_,_,_,_,rfl,v3,by (try dsimp only); omega⟩
 ·rintro c1 st' ⟨g,rfl,out,ia,ib,mg,rfl,v,hy2⟩
  exfalso
  have:=v.1
  have:=v.2.1
  omega
 ·rintro _ st' ⟨g,rfl,ret,out,ia,ib,mg,rfl,o,rfl,ho⟩
  exact wpS_pure (q _ _ ho)
end
end TS
namespace TS
open PySem PyProof.Rows
section
variable {prog:Program} {w:World} {A:Around} {E:Value->Shared->Prop} {s:Shared}
variable {κ:SortKind} {S:Keyed->Prop} {r:Keyed->Nat}
structure Mh (r:Keyed->Nat) (T ra rb o:List Keyed):Prop where
 pm:((ra++rb)++o).Perm T
 sa:Up r ra
 sb:Up r rb
 so:Up r o
 le:∀ x∈ra++rb,∀ y∈o,r x <= r y
theorem Mh.stepB {T o c ra rb:List Keyed} (m:Mh r T ra (rb++c) o) (h:∀ x∈ra,∀ y∈c,r x <= r y):Mh r T ra rb (c++o):=by
 have sb:=List.pairwise_append.mp m.sb
 refine ⟨by simpa [List.append_assoc] using m.pm,m.sa,sb.1,List.pairwise_append.mpr ⟨sb.2.1,m.so,fun x hx y hy=>m.le x (by simp [hx]) y hy⟩,fun x hx y hy=>?_⟩
 rcases List.mem_append.mp hy with hy | hy
 ·rcases List.mem_append.mp hx with hx | hx
  ·exact h x hx y hy
  ·exact sb.2.2 x hx y hy
 ·exact m.le x (by simp at hx ⊢; rcases hx with hx | hx <;> simp [hx]) y hy
theorem Mh.stepA {T o c ra rb:List Keyed} (m:Mh r T (ra++c) rb o) (h:∀ x∈rb,∀ y∈c,r x <= r y):Mh r T ra rb (c++o):=by
 have sa:=List.pairwise_append.mp m.sa
 refine ⟨List.Perm.trans ?_ m.pm,sa.1,m.sb,List.pairwise_append.mpr ⟨sa.2.1,m.so,fun x hx y hy=>m.le x (by simp [hx]) y hy⟩,fun x hx y hy=>?_⟩
 ·rw [← List.append_assoc]
  refine List.Perm.append_right _ ?_
  rw [List.append_assoc,List.append_assoc]
  exact List.Perm.append_left _ List.perm_append_comm
 rcases List.mem_append.mp hy with hy | hy
 ·rcases List.mem_append.mp hx with hx | hx
  ·exact sa.2.2 x hx y hy
  ·exact h x hx y hy
 ·exact m.le x (by simp at hx ⊢; rcases hx with hx | hx <;> simp [hx]) y hy
theorem Mh.doneA {T o ra:List Keyed} (m:Mh r T ra [] o):Gd r T (ra++o):=by
 have:=Mh.stepA (c:=ra) (ra:=[]) (by simpa using m) fun x hx=>by simp at hx
 exact ⟨by simpa using this.pm,this.so⟩
theorem Mh.doneB {T o rb:List Keyed} (m:Mh r T [] rb o):Gd r T (rb++o):=by
 have:=Mh.stepB (c:=rb) (rb:=[]) (by simpa using m) fun x hx=>by simp at hx
 exact ⟨by simpa using this.pm,this.so⟩
theorem Mh.first {T o ra:List Keyed} {x:Keyed} (m:Mh r T ra [x] o) (h:∀ y∈ra,r x <= r y):Gd r T ([x]++ra++o):=by
 have:=Mh.stepA (c:=ra) (ra:=[]) (by simpa using m) fun y hy z hz=>by
  simp at hy
  subst hy
  exact h z hz
 have:=this.doneB
 rwa [← List.append_assoc] at this
theorem dD (a:Array Keyed) (n:Nat):(a.extract 0 n).toList=a.toList.take n:=by
 rw [Array.toList_extract]
 simp [List.extract]
theorem fq {a:Array Keyed} {i:Nat} (h0:0 < i) (h:i <= a.size):a.toList.take i=a.toList.take (i - 1)++[a[i - 1]'(by omega)]:=by
 obtain ⟨j,rfl⟩:∃ j,i=j + 1:=⟨i - 1,by omega⟩
 rw [List.take_succ_eq_append_getElem (by simp; omega)]
 simp
theorem qP {a:Array Keyed} {i n:Nat} (h:i <= n):a.toList.take n=a.toList.take i++(a.extract i n).toList:=by
 rw [Array.toList_extract]
 simp only [List.extract]
 rw [← List.take_add,show i + (n - i)=n by omega]
theorem uG {a:Array Keyed} {i:Nat} {y:Keyed} (h:y∈a.toList.take i):∃ j,∃ hj:j < a.size,j < i /\ a[j]=y:=by
 obtain ⟨k,hk⟩:=List.mem_iff_getElem?.mp h
 obtain ⟨h1,h2⟩:=List.getElem?_eq_some_iff.mp hk
 simp at h1 h2
 exact ⟨k,by omega,by omega,h2⟩
theorem mC {a:Array Keyed} (u:Up r a.toList) {i:Nat} (h0:0 < i) (hi:i <= a.size):∀ y∈a.toList.take i,r y <= r (a[i - 1]'(by omega)):=fun y hy=>by
 obtain ⟨j,hj,hij,rfl⟩:=uG hy
 rcases Nat.lt_or_eq_of_le (show j <= i - 1 by omega) with z | z
 ·exact nU u hj _ z
 ·subst z; exact Nat.le_refl _
theorem qQ {a:Array Keyed} {i n:Nat} {x:Keyed} (hx:x∈(a.extract i n).toList):∃ j,∃ hj:j < a.size,i <= j /\ j < n /\ a[j]=x:=by
 obtain ⟨j,hj⟩:=List.mem_iff_getElem?.mp hx
 obtain ⟨h1,h2⟩:=List.getElem?_eq_some_iff.mp hj
 simp at h1 h2
 exact ⟨i + j,by omega,by omega,by omega,h2⟩
theorem qR (o:Array Keyed) (x:Keyed):(o.push x).reverse.toList=[x]++o.toList.reverse:=by simp
theorem uH (o c:Array Keyed):(o++c.reverse).reverse.toList=c.toList++o.toList.reverse:=by simp
def Jv (r:Keyed->Nat) (a b:Array Keyed) (out:Array Keyed) (na nb:Nat):Prop:=0 < na /\ na <= a.size /\ 1 < nb /\ nb <= b.size /\ Mh r (a.toList++b.toList) (a.toList.take na) (b.toList.take nb) out.toList.reverse
section
variable {a b:Array Keyed} {out:Array Keyed} {na nb:Nat}
variable (ua:Up r a.toList) (ub:Up r b.toList) (b0:0 < b.size) (hf:∀ y∈a.toList,r (b[0]'b0) <= r y)
include ua ub hf
theorem Jv.pushA (v:Jv r a b out na nb) (h:r (b[nb - 1]'(by have:=v.2.2; omega)) <= r (a[na - 1]'(by have:=v.1; have:=v.2.1; omega))) :
  (na - 1=0->Gd r (a.toList++b.toList) (a.extract 0 (na - 1)++b.extract 0 nb++(out.push (a[na - 1]'(by have:=v.1; have:=v.2.1; omega))).reverse).toList) /\ (na - 1≠0->Jv r a b (out.push (a[na - 1]'(by have:=v.1; have:=v.2.1; omega))) (na - 1) nb):=by
 obtain ⟨v1,v2,v3,v4,m⟩:=v
 rw [fq v1 v2] at m
 have m2:=m.stepA fun x hx y hy=>by
  rw [List.mem_singleton.mp hy]
  exact Nat.le_trans (mC ub (by omega) v4 x hx) h
 rw [← qR] at m2
 refine ⟨fun z=>?_,fun z=>⟨by omega,by omega,v3,v4,by simpa using m2⟩⟩
 have e0:a.toList.take (na - 1)=[]:=by rw [z,List.take_zero]
 rw [e0] at m2
 have:=m2.doneB
 rw [Array.toList_append,Array.toList_append,dD,dD,e0,List.nil_append]
 exact this
theorem Jv.pushB (v:Jv r a b out na nb) (h:r (a[na - 1]'(by have:=v.1; have:=v.2.1; omega)) <= r (b[nb - 1]'(by have:=v.2.2; omega))) :
  (nb - 1=1->Gd r (a.toList++b.toList) (b.extract 0 (nb - 1)++a.extract 0 na++(out.push (b[nb - 1]'(by have:=v.2.2; omega))).reverse).toList) /\ (nb - 1≠1->Jv r a b (out.push (b[nb - 1]'(by have:=v.2.2; omega))) na (nb - 1)):=by
 obtain ⟨v1,v2,v3,v4,m⟩:=v
 rw [fq (show 0 < nb by omega) v4] at m
 have m2:=m.stepB fun x hx y hy=>by
  rw [List.mem_singleton.mp hy]
  exact Nat.le_trans (mC ua v1 v2 x hx) h
 rw [← qR] at m2
 refine ⟨fun z=>?_,fun z=>⟨v1,v2,by omega,by omega,by simpa using m2⟩⟩
 have e:b.toList.take (nb - 1)=[b[0]]:=by
  rw [z,fq (by omega) (by omega)]
  simp
 rw [e] at m2
 have:=m2.first fun y hy=>hf y (List.mem_of_mem_take hy)
 rw [Array.toList_append,Array.toList_append,dD,dD,e]
 exact this
theorem Jv.chunkA (v:Jv r a b out na nb) {k:Nat} (hk:k <= na) (h:∀ i (hi:i < a.size),k <= i->i < na->r (b[nb - 1]'(by have:=v.2.2; omega)) <= r a[i]) :
  (k=0->Gd r (a.toList++b.toList) (a.extract 0 k++b.extract 0 nb++(out++(a.extract k na).reverse).reverse).toList) /\ (k≠0->Jv r a b (out++(a.extract k na).reverse) k nb):=by
 obtain ⟨v1,v2,v3,v4,m⟩:=v
 rw [qP hk] at m
 have m2:=m.stepA fun x hx y hy=>by
  obtain ⟨j,hj,hkj,hjn,rfl⟩:=qQ hy
  exact Nat.le_trans (mC ub (by omega) v4 x hx) (h j hj hkj hjn)
 rw [← uH] at m2
 refine ⟨fun z=>?_,fun z=>⟨by omega,by omega,v3,v4,by simpa using m2⟩⟩
 subst z
 rw [List.take_zero] at m2
 have:=m2.doneB
 rw [Array.toList_append,Array.toList_append,dD,dD,List.take_zero,List.nil_append]
 exact this
theorem Jv.chunkB (v:Jv r a b out na nb) {k:Nat} (hk:k <= nb) (h:∀ i (hi:i < b.size),k <= i->i < nb->r (a[na - 1]'(by have:=v.1; have:=v.2.1; omega)) <= r b[i]) :
  (k=1->Gd r (a.toList++b.toList) (b.extract 0 k++a.extract 0 na++(out++(b.extract k nb).reverse).reverse).toList) /\ (k=0->Gd r (a.toList++b.toList) (a.extract 0 na++b.extract 0 k++(out++(b.extract k nb).reverse).reverse).toList) /\ (k≠1->k≠0->Jv r a b (out++(b.extract k nb).reverse) na k):=by
 obtain ⟨v1,v2,v3,v4,m⟩:=v
 rw [qP hk] at m
 have m2:=m.stepB fun x hx y hy=>by
  obtain ⟨j,hj,hkj,hjn,rfl⟩:=qQ hy
  exact Nat.le_trans (mC ua v1 v2 x hx) (h j hj hkj hjn)
 rw [← uH] at m2
 refine ⟨fun z=>?_,fun z=>?_,fun z z'=>⟨v1,v2,by omega,by omega,by simpa using m2⟩⟩
 ·subst z
  have e:b.toList.take 1=[b[0]]:=by
   rw [fq (by omega) (by omega)]
   simp
  rw [e] at m2
  have:=m2.first fun y hy=>hf y (List.mem_of_mem_take hy)
  rw [Array.toList_append,Array.toList_append,dD,dD,e]
  exact this
 ·subst z
  rw [List.take_zero] at m2
  have:=m2.doneA
  rw [Array.toList_append,Array.toList_append,dD,dD,List.take_zero,List.append_nil]
  exact this
end
theorem AT (c:Cm prog w A s κ S r) {a b:Array Keyed} (hSa:∀ i (h:i < a.size),S a[i]) (hSb:∀ i (h:i < b.size),S b[i]) (ua:Up r a.toList) (ub:Up r b.toList) (na0:0 < a.size) (nb0:0 < b.size)
  (hf:∀ y∈a.toList,r b[0] <= r y) (hl:∀ y∈b.toList,r y <= r (a[a.size - 1]'(by omega))) {st:SortSt} (hk:kindOf st=κ) {Q:Array Keyed->SortSt->Prop}
  (q:∀ out g,Gd r (a.toList++b.toList) out.toList->Q out (sg st g)):wpS (model prog w) A E s (mhi a b) Q st:=by
 have pushB:∀ {out na nb},(v:Jv r a b out na nb)->r (a[na - 1]'(by have:=v.1; have:=v.2.1; omega)) <= r (b[nb - 1]'(by have:=v.2.2; omega))->_:=fun v h=>Jv.pushB ua ub nb0 hf v h
 have pushA:∀ {out na nb},(v:Jv r a b out na nb)->r (b[nb - 1]'(by have:=v.2.2; omega)) <= r (a[na - 1]'(by have:=v.1; have:=v.2.1; omega))->_:=fun v h=>Jv.pushA ua ub nb0 hf v h
 have chunkB:∀ {out na nb},(v:Jv r a b out na nb)->∀ {k},k <= nb->(∀ i (hi:i < b.size),k <= i->i < nb->r (a[na - 1]'(by have:=v.1; have:=v.2.1; omega)) <= r b[i])->_:=fun v k hk h=>Jv.chunkB ua ub nb0 hf v hk h
 have chunkA:∀ {out na nb},(v:Jv r a b out na nb)->∀ {k},k <= na->(∀ i (hi:i < a.size),k <= i->i < na->r (b[nb - 1]'(by have:=v.2.2; omega)) <= r a[i])->_:=fun v k hk h=>Jv.chunkA ua ub nb0 hf v hk h
 refine wpS_bind (wpS_lift (wpAny_rule ⟨rfl,?_⟩))
 refine wpS_bind (aA (show a.size - 1 < a.size by omega) ?_)
 have et:a.toList=a.toList.take (a.size - 1)++[a[a.size - 1]'(by omega)]:=by
  have:=fq na0 (Nat.le_refl a.size)
  rwa [List.take_of_length_le (by simp)] at this
 have m0:Mh r (a.toList++b.toList) (a.toList.take (a.size - 1)) b.toList [a[a.size - 1]'(by omega)]:=by
  have m:Mh r (a.toList++b.toList) (a.toList.take (a.size - 1)++[a[a.size - 1]'(by omega)]) b.toList []:=by
   rw [← et]
   exact ⟨by simp,ua,ub,List.Pairwise.nil,fun x _ y hy=>by simp at hy⟩
  have:=m.stepA fun x hx y hy=>by
   rw [List.mem_singleton.mp hy]
   exact hl x hx
  simpa using this
 by_cases e1:a.size - 1=0
 ·refine au (by simpa using e1) ?_
  have e0:a.toList.take (a.size - 1)=[]:=by rw [e1,List.take_zero]
  have e4:b.toList.take b.size=b.toList:=List.take_of_length_le (by simp)
  rw [e0] at m0
  refine wpS_pure (q _ (gallopOf st) ?_)
  have:=m0.doneB
  rw [Array.toList_append,Array.toList_append,dD,dD,e0,e4,List.nil_append]
  simpa using this
 refine ar (by simpa using e1) ?_
 by_cases e2:b.size=1
 ·refine au (by simpa using e2) ?_
  have e3:b.toList=[b[0]]:=by
   have:=fq nb0 (Nat.le_refl b.size)
   rw [List.take_of_length_le (by simp)] at this
   simpa [e2] using this
  refine wpS_pure (q _ (gallopOf st) ?_)
  have e4:b.toList.take b.size=b.toList:=List.take_of_length_le (by simp)
  rw [e3] at m0
  have:=m0.first fun y hy=>hf y (List.mem_of_mem_take hy)
  rw [Array.toList_append,Array.toList_append,dD,dD,e4]
  rw [← e3] at this
  simpa using this
 refine ar (by simpa using e2) ?_
 refine wpS_bind (wpS_get ?_)
 have v0:Jv r a b #[a[a.size - 1]'(by omega)] (a.size - 1) b.size:=⟨by omega,by omega,by omega,by omega,by rw [List.take_of_length_le (l:=b.toList) (by simp)]; simpa using m0⟩
 refine wpS_bind (wpS_mono (wpS_forRange (Q:=fun c st'=>∃ g,st'=sg st g /\ ∃ ret na nb out mg,c=(ret,na,nb,out,mg) /\ ∃ o,ret=some o /\ Gd r (a.toList++b.toList) o.toList)
  (fun x c st'=>∃ g,st'=sg st g /\ ∃ na nb out mg,c=(none,na,nb,out,mg) /\ Jv r a b out na nb /\ x + na + nb < a.size + b.size) ?_ ?_ ⟨gallopOf st,rfl,_,_,_,_,rfl,v0,by omega⟩) ?_)
 ·rintro x c0 st' _ hx ⟨g,rfl,na,nb,out,mg,rfl,v,hx2⟩
  refine wpS_bind (wpS_mono (wpS_forRange (Q:=fun c st'=>∃ g,st'=sg st g /\ ∃ ret na' nb' out' ac bc,c=(ret,na',nb',out',ac,bc) /\ ((∃ o,ret=some o /\ Gd r (a.toList++b.toList) o.toList)∨(ret=none /\ Jv r a b out' na' nb' /\ na' + nb' < na + nb)))
   (fun y c st'=>∃ g,st'=sg st g /\ ∃ na' nb' out' ac bc,c=(none,na',nb',out',ac,bc) /\ Jv r a b out' na' nb' /\ na' + nb' + y <= na + nb) ?_ ?_ ⟨_,rfl,_,_,_,_,_,rfl,v,by (try dsimp only); omega⟩) ?_)
  ·rintro y c1 st' _ hy ⟨g,rfl,na,nb,out,ac,bc,rfl,v,hy2⟩
   have v1:=v.1
   have v2:=v.2.1
   have v3:=v.2.2.1
   have v4:=v.2.2.2.1
   refine wpS_bind (aA (by (try dsimp only); omega) (wpS_bind (aA (by (try dsimp only); omega) (wpS_bind (uD c (hSb _ _) (hSa _ _) (by exact hk) ?_)))))
   by_cases z:r (b[nb - 1]'(by omega)) < r (a[na - 1]'(by omega))
   ·refine au (by simpa using z) ?_
    refine wpS_bind (aA (by (try dsimp only); omega) ?_)
    obtain ⟨d1,d2⟩:=pushA v (Nat.le_of_lt z)
    by_cases e3:na - 1=0
    ·refine au (by simpa using e3) ?_
     exact wpS_pure ⟨_,rfl,_,_,_,_,_,_,rfl,.inl ⟨_,rfl,d1 e3⟩⟩
    refine ar (by simpa using e3) ?_
    refine bd (fun _=>?_) (fun _=>?_)
    ·exact wpS_pure ⟨_,rfl,_,_,_,_,_,_,rfl,.inr ⟨rfl,d2 e3,by (try dsimp only); omega⟩⟩
    ·exact wpS_pure ⟨_,rfl,_,_,_,_,_,rfl,d2 e3,by (try dsimp only); omega⟩
   ·refine ar (by simpa using z) ?_
    refine wpS_bind (aA (by (try dsimp only); omega) ?_)
    obtain ⟨d1,d2⟩:=pushB v (by omega)
    by_cases e3:nb - 1=1
    ·refine au (by simpa using e3) ?_
     exact wpS_pure ⟨_,rfl,_,_,_,_,_,_,rfl,.inl ⟨_,rfl,d1 e3⟩⟩
    refine ar (by simpa using e3) ?_
    refine bd (fun _=>?_) (fun _=>?_)
    ·exact wpS_pure ⟨_,rfl,_,_,_,_,_,_,rfl,.inr ⟨rfl,d2 e3,by (try dsimp only); omega⟩⟩
    ·exact wpS_pure ⟨_,rfl,_,_,_,_,_,rfl,d2 e3,by (try dsimp only); omega⟩
  ·rintro c1 st' ⟨g,rfl,na,nb,out,ac,bc,rfl,v,hy2⟩
   exfalso
   have:=v.1
   omega
  rintro c1 st' ⟨g,rfl,ret,na2,nb2,out2,ac,bc,rfl,hd⟩
  rcases hd with ⟨o,rfl,ho⟩ | ⟨rfl,v2,hp⟩
  ·exact wpS_pure ⟨_,rfl,_,_,_,_,_,rfl,o,rfl,ho⟩
  refine wpS_bind (wpS_lift (wpAny_rule ⟨rfl,?_⟩))
  refine wpS_bind (wpS_mono (wpS_forRange (Q:=fun c st'=>∃ g,st'=sg st g /\ ∃ ret na' nb' out' mg ac bc,c=(ret,na',nb',out',mg,ac,bc) /\ ((∃ o,ret=some o /\ Gd r (a.toList++b.toList) o.toList)∨(ret=none /\ Jv r a b out' na' nb' /\ na' + nb' <= na2 + nb2)))
   (fun y c st'=>∃ g,st'=sg st g /\ ∃ na' nb' out' mg ac bc,c=(none,na',nb',out',mg,ac,bc) /\ Jv r a b out' na' nb' /\ na' + nb' + y <= na2 + nb2) ?_ ?_ ⟨_,rfl,_,_,_,_,_,_,rfl,v2,by (try dsimp only); omega⟩) ?_)
  ·rintro y c1 st' _ hy ⟨g,rfl,na,nb,out,mg,ac,bc,rfl,v,hy2⟩
   have v1:=v.1
   have v2:=v.2.1
   have v3:=v.2.2.1
   have v4:=v.2.2.2.1
   refine bd (fun _=>?_) (fun _=>?_)
   all_goals
    refine wpS_bind (wpS_modify ?_)
    refine wpS_bind (aA (by (try dsimp only); omega) ?_)
    refine wpS_bind (iW c (hSb _ _) (by (try dsimp only); omega) (by (try dsimp only); omega) hSa (fun i j hi hj hij _=>nU ua hi hj (by (try dsimp only); omega)) (by exact hk) (fun k k1 k2 k3=>?_))
    replace k1:k <= na:=k1
    obtain ⟨f1,f2⟩:=chunkA v (by (try dsimp only); omega) fun i hi h h'=>Nat.le_of_lt (by have:=k3 i (by (try dsimp only); omega) h (by (try dsimp only); omega); simpa [Bef] using this)
    by_cases hk0:na - k > 0
    ·refine au hk0 ?_
     by_cases e1:k=0
     ·refine au (by simpa using e1) ?_
      exact wpS_pure ⟨_,rfl,_,_,_,_,_,_,_,rfl,.inl ⟨_,rfl,f1 e1⟩⟩
     refine ar (by simpa using e1) ?_
     have jv:=f2 e1
     have hle:r (a[k - 1]'(by (try dsimp only); omega)) <= r (b[nb - 1]'(by (try dsimp only); omega)):=by have:=k2 (k - 1) (by (try dsimp only); omega) (by (try dsimp only); omega); simpa [Bef] using this
     refine wpS_bind (aA (by have:=jv.2.2.1; have:=jv.2.2.2.1; (try dsimp only); omega) ?_)
     obtain ⟨d1,d2⟩:=pushB jv hle
     by_cases e3:nb - 1=1
     ·refine au (by simpa using e3) ?_
      exact wpS_pure ⟨_,rfl,_,_,_,_,_,_,_,rfl,.inl ⟨_,rfl,d1 e3⟩⟩
     refine ar (by simpa using e3) ?_
     have jw:=d2 e3
     have w1:=jw.1
     have w2:=jw.2.1
     have w3:=jw.2.2.1
     have w4:=jw.2.2.2.1
     refine wpS_bind (aA (by (try dsimp only); omega) ?_)
     refine wpS_bind (iW c (hSa _ _) (by (try dsimp only); omega) (by (try dsimp only); omega) hSb (fun i j hi hj hij _=>nU ub hi hj (by (try dsimp only); omega)) (by exact hk) (fun k' k1' k2' k3'=>?_))
     replace k1':k' <= nb - 1:=k1'
     obtain ⟨d3,d4,d5⟩:=chunkB jw (by (try dsimp only); omega) fun i hi h h'=>Nat.le_of_not_lt (by have:=k3' i (by (try dsimp only); omega) h (by (try dsimp only); omega); simpa [Bef] using this)
     by_cases hk0':nb - 1 - k' > 0
     ·refine au hk0' ?_
      by_cases e4:k'=1
      ·refine au (by simpa using e4) ?_
       exact wpS_pure ⟨_,rfl,_,_,_,_,_,_,_,rfl,.inl ⟨_,rfl,d3 e4⟩⟩
      refine ar (by simpa using e4) ?_
      by_cases e6:k'=0
      ·refine au (by simpa using e6) ?_
       exact wpS_pure ⟨_,rfl,_,_,_,_,_,_,_,rfl,.inl ⟨_,rfl,d4 e6⟩⟩
      refine ar (by simpa using e6) ?_
      have jx:=d5 e4 e6
      have hle2:r (b[k' - 1]'(by (try dsimp only); omega)) <= r (a[k - 1]'(by (try dsimp only); omega)):=Nat.le_of_lt (by have:=k2' (k' - 1) (by (try dsimp only); omega) (by (try dsimp only); omega); simpa [Bef] using this)
      refine wpS_bind (aA (by (try dsimp only); omega) ?_)
      obtain ⟨d7,d8⟩:=pushA jx hle2
      by_cases e5:k - 1=0
      ·refine au (by simpa using e5) ?_
       exact wpS_pure ⟨_,rfl,_,_,_,_,_,_,_,rfl,.inl ⟨_,rfl,d7 e5⟩⟩
      refine ar (by simpa using e5) ?_
      have jy:=d8 e5
      refine bd (fun _=>?_) (fun _=>?_)
      ·exact wpS_pure ⟨_,rfl,_,_,_,_,_,_,_,rfl,.inr ⟨rfl,jy,by (try dsimp only); omega⟩⟩
      ·exact wpS_pure ⟨_,rfl,_,_,_,_,_,_,rfl,jy,by (try dsimp only); omega⟩
     ·refine ar hk0' ?_
      have z':k'=nb - 1:=by (try dsimp only); omega
      subst z'
      have hle2:r (b[nb - 1 - 1]'(by (try dsimp only); omega)) <= r (a[k - 1]'(by (try dsimp only); omega)):=Nat.le_of_lt (by have:=k2' (nb - 1 - 1) (by (try dsimp only); omega) (by (try dsimp only); omega); simpa [Bef] using this)
      refine wpS_bind (aA (by (try dsimp only); omega) ?_)
      obtain ⟨d7,d8⟩:=pushA jw hle2
      by_cases e5:k - 1=0
      ·refine au (by simpa using e5) ?_
       exact wpS_pure ⟨_,rfl,_,_,_,_,_,_,_,rfl,.inl ⟨_,rfl,d7 e5⟩⟩
      refine ar (by simpa using e5) ?_
      have jy:=d8 e5
      refine bd (fun _=>?_) (fun _=>?_)
      ·exact wpS_pure ⟨_,rfl,_,_,_,_,_,_,_,rfl,.inr ⟨rfl,jy,by (try dsimp only); omega⟩⟩
      ·exact wpS_pure ⟨_,rfl,_,_,_,_,_,_,rfl,jy,by (try dsimp only); omega⟩
    ·refine ar hk0 ?_
     have z0:k=na:=by (try dsimp only); omega
     subst z0
     have jv:=v
     have hle:r (a[k - 1]'(by (try dsimp only); omega)) <= r (b[nb - 1]'(by (try dsimp only); omega)):=by have:=k2 (k - 1) (by (try dsimp only); omega) (by (try dsimp only); omega); simpa [Bef] using this
     refine wpS_bind (aA (by have:=jv.2.2.1; have:=jv.2.2.2.1; (try dsimp only); omega) ?_)
     obtain ⟨d1,d2⟩:=pushB jv hle
     by_cases e3:nb - 1=1
     ·refine au (by simpa using e3) ?_
      exact wpS_pure ⟨_,rfl,_,_,_,_,_,_,_,rfl,.inl ⟨_,rfl,d1 e3⟩⟩
     refine ar (by simpa using e3) ?_
     have jw:=d2 e3
     have w1:=jw.1
     have w2:=jw.2.1
     have w3:=jw.2.2.1
     have w4:=jw.2.2.2.1
     refine wpS_bind (aA (by (try dsimp only); omega) ?_)
     refine wpS_bind (iW c (hSa _ _) (by (try dsimp only); omega) (by (try dsimp only); omega) hSb (fun i j hi hj hij _=>nU ub hi hj (by (try dsimp only); omega)) (by exact hk) (fun k' k1' k2' k3'=>?_))
     replace k1':k' <= nb - 1:=k1'
     obtain ⟨d3,d4,d5⟩:=chunkB jw (by (try dsimp only); omega) fun i hi h h'=>Nat.le_of_not_lt (by have:=k3' i (by (try dsimp only); omega) h (by (try dsimp only); omega); simpa [Bef] using this)
     by_cases hk0':nb - 1 - k' > 0
     ·refine au hk0' ?_
      by_cases e4:k'=1
      ·refine au (by simpa using e4) ?_
       exact wpS_pure ⟨_,rfl,_,_,_,_,_,_,_,rfl,.inl ⟨_,rfl,d3 e4⟩⟩
      refine ar (by simpa using e4) ?_
      by_cases e6:k'=0
      ·refine au (by simpa using e6) ?_
       exact wpS_pure ⟨_,rfl,_,_,_,_,_,_,_,rfl,.inl ⟨_,rfl,d4 e6⟩⟩
      refine ar (by simpa using e6) ?_
      have jx:=d5 e4 e6
      have hle2:r (b[k' - 1]'(by (try dsimp only); omega)) <= r (a[k - 1]'(by (try dsimp only); omega)):=Nat.le_of_lt (by have:=k2' (k' - 1) (by (try dsimp only); omega) (by (try dsimp only); omega); simpa [Bef] using this)
      refine wpS_bind (aA (by (try dsimp only); omega) ?_)
      obtain ⟨d7,d8⟩:=pushA jx hle2
      by_cases e5:k - 1=0
      ·refine au (by simpa using e5) ?_
       exact wpS_pure ⟨_,rfl,_,_,_,_,_,_,_,rfl,.inl ⟨_,rfl,d7 e5⟩⟩
      refine ar (by simpa using e5) ?_
      have jy:=d8 e5
      refine bd (fun _=>?_) (fun _=>?_)
      ·exact wpS_pure ⟨_,rfl,_,_,_,_,_,_,_,rfl,.inr ⟨rfl,jy,by (try dsimp only); omega⟩⟩
      ·exact wpS_pure ⟨_,rfl,_,_,_,_,_,_,rfl,jy,by (try dsimp only); omega⟩
     ·refine ar hk0' ?_
      have z':k'=nb - 1:=by (try dsimp only); omega
      subst z'
      have hle2:r (b[nb - 1 - 1]'(by (try dsimp only); omega)) <= r (a[k - 1]'(by (try dsimp only); omega)):=Nat.le_of_lt (by have:=k2' (nb - 1 - 1) (by (try dsimp only); omega) (by (try dsimp only); omega); simpa [Bef] using this)
      refine wpS_bind (aA (by (try dsimp only); omega) ?_)
      obtain ⟨d7,d8⟩:=pushA jw hle2
      by_cases e5:k - 1=0
      ·refine au (by simpa using e5) ?_
       exact wpS_pure ⟨_,rfl,_,_,_,_,_,_,_,rfl,.inl ⟨_,rfl,d7 e5⟩⟩
      refine ar (by simpa using e5) ?_
      have jy:=d8 e5
      refine bd (fun _=>?_) (fun _=>?_)
      ·exact wpS_pure ⟨_,rfl,_,_,_,_,_,_,_,rfl,.inr ⟨rfl,jy,by (try dsimp only); omega⟩⟩
      ·exact wpS_pure ⟨_,rfl,_,_,_,_,_,_,rfl,jy,by (try dsimp only); omega⟩
  ·rintro c1 st' ⟨g,rfl,na,nb,out,mg,ac,bc,rfl,v,hy2⟩
   exfalso
   have:=v.1
   omega
  rintro c1 st' ⟨g,rfl,ret,na3,nb3,out3,mg3,ac3,bc3,rfl,hd⟩
  rcases hd with ⟨o,rfl,ho⟩ | ⟨rfl,v3,hp3⟩
  ·exact wpS_pure ⟨_,rfl,_,_,_,_,_,rfl,o,rfl,ho⟩
  refine wpS_bind (wpS_modify ?_)
  exact wpS_pure ⟨_,rfl,_,_,_,_,rfl,v3,by (try dsimp only); omega⟩
 ·rintro c1 st' ⟨g,rfl,na,nb,out,mg,rfl,v,hy2⟩
  exfalso
  have:=v.1
  have:=v.2.2.1
  omega
 ·rintro _ st' ⟨g,rfl,ret,na,nb,out,mg,rfl,o,rfl,ho⟩
  exact wpS_pure (q _ _ ho)
end
end TS
namespace TS
open PySem PyProof.Rows
section
variable {prog:Program} {w:World} {A:Around} {E:Value->Shared->Prop} {s:Shared}
variable {κ:SortKind} {S:Keyed->Prop} {r:Keyed->Nat}
theorem yI {st st':SortSt} {Q:PUnit->SortSt->Prop} (h:Q ⟨⟩ st'):wpS (model prog w) A E s (set st':StateT SortSt Sem PUnit) Q st:=by
 unfold wpS
 exact wpAny_pure ⟨rfl,h⟩
theorem yJ {α:Type} {U V W:List α} {i j:Nat} (hi:U.length=i) (hj:i + V.length=j):((U++V++W).drop i).take (j - i)=V:=by
 subst hi
 rw [List.append_assoc,List.drop_left,show j - U.length=V.length by omega,List.take_left]
theorem uI {arr:Array Keyed} {U V W:List Keyed} {i j:Nat} (e:arr.toList=U++V++W) (hi:U.length=i) (hj:i + V.length=j):(arr.extract i j).toList=V:=by
 rw [Array.toList_extract,e]
 exact yJ hi hj
theorem wW {arr:Array Keyed} {U V W:List Keyed} (e:arr.toList=U++V++W) {i:Nat} (hi:i < V.length) (h:U.length + i < arr.size):arr[U.length + i]=V[i]:=by
 have:arr.toList[U.length + i]? = some V[i]:=by
  rw [e,List.append_assoc,List.getElem?_append_right (by omega),List.getElem?_append_left (by omega),show U.length + i - U.length=i by omega]
  exact List.getElem?_eq_getElem hi
 obtain ⟨h1,h2⟩:=List.getElem?_eq_some_iff.mp this
 simpa using h2
theorem qS {k:Nat}:∀ (M V U W:List Keyed) (n:Nat) (arr:Array Keyed),arr.toList=U++V++W->U.length=k + n->V.length=M.length ->
  ((M.zipIdx n).foldl (fun (a:Array Keyed) (x:Keyed×Nat)=>a.setIfInBounds (k + x.2) x.1) arr).toList=U++M++W
 | [],V,U,W,n,arr,e,hu,hv=>by
  have:V=[]:=List.length_eq_zero_iff.mp (by simpa using hv)
  subst this
  exact e
 | m::M,V,U,W,n,arr,e,hu,hv=>by
  cases V with
  | nil=>simp at hv
  | cons v V =>
   rw [List.zipIdx_cons,List.foldl_cons]
   have e2:(arr.setIfInBounds (k + n) m).toList=(U++[m])++V++W:=by
    rw [Array.toList_setIfInBounds,e,← hu,List.append_assoc,List.set_append_right _ _ (Nat.le_refl U.length)]
    simp
   have:=qS M V (U++[m]) W (n + 1) _ e2 (by rw [List.length_append,hu]; rfl) (by simpa using hv)
   simpa using this
def mat:Nat->StateT SortSt Sem Bool:=sortPriv% PySem.Builtin.mergeAt
theorem iX {l:List Keyed} (u:Up r l) {i j:Nat} (hi:i < l.length) (hj:j < l.length) (h:i <= j):r l[i] <= r l[j]:=by
 rcases Nat.lt_or_eq_of_le h with z | z
 ·exact List.pairwise_iff_getElem.mp u i j hi hj z
 ·subst z; exact Nat.le_refl _
theorem qT {X Y:List Keyed} (ux:Up r X) (uy:Up r Y) (h:∀ x∈X,∀ y∈Y,r x <= r y):Up r (X++Y):=List.pairwise_append.mpr ⟨ux,uy,h⟩
abbrev ap (st:SortSt) (arr:Array Keyed) (p:Array (Nat×Nat×Nat)) (g:Nat):SortSt:=SortSt.mk' (kindOf st) arr p g (failedOf st)
theorem AU (c:Cm prog w A s κ S r) {i:Nat} {st:SortSt} (hk:kindOf st=κ) (hf:failedOf st=none) (hS:∀ x∈(arrOf st).toList,S x) {P X Y R:List Keyed} (e:(arrOf st).toList=P++X++Y++R) {p1 p2:Nat}
  (h1:(pendingOf st)[i]? = some (P.length,X.length,p1)) (h2:(pendingOf st)[i + 1]? = some (P.length + X.length,Y.length,p2)) (x0:0 < X.length) (y0:0 < Y.length) (ux:Up r X) (uy:Up r Y) {Q:Bool->SortSt->Prop}
  (q:∀ Z arr g,arr.toList=P++Z++R->Z.Perm (X++Y)->Up r Z->Q true (ap st arr (((pendingOf st).setIfInBounds i (P.length,X.length + Y.length,p1)).eraseIdxIfInBounds (i + 1)) g)) :
  wpS (model prog w) A E s (mat i) Q st:=by
 have hsz:(arrOf st).size=P.length + X.length + Y.length + R.length:=by
  have:=congrArg List.length e
  simpa [Nat.add_assoc] using this
 have aX:∀ i (hi:i < X.length) (h:P.length + i < (arrOf st).size),(arrOf st)[P.length + i]=X[i]:=fun i hi h=>wW (W:=Y++R) (by rw [e]; simp) hi h
 have aY:∀ i (hi:i < Y.length) (h:P.length + X.length + i < (arrOf st).size),(arrOf st)[P.length + X.length + i]=Y[i]:=fun i hi h=>by
  have:=wW (U:=P++X) (V:=Y) (W:=R) e hi (by rw [List.length_append]; exact h)
  simpa using this
 have hS':∀ i (h:i < (arrOf st).size),S (arrOf st)[i]:=fun i h=>hS _ (by simp)
 have SX:∀ x∈X,S x:=fun x hx=>hS x (by rw [e]; simp [hx])
 have SY:∀ x∈Y,S x:=fun x hx=>hS x (by rw [e]; simp [hx])
 refine wpS_bind (wpS_get ?_)
 dsimp only
 rw [h1,h2]
 refine wpS_bind (yI ?_)
 refine wpS_bind (aA (show P.length + X.length < (arrOf st).size by omega) ?_)
 refine wpS_bind (iW c (hS' _ _) (by omega) (by omega) hS' (fun i j hi hj hij hjn=>?_) (by exact hk) (fun k k1 k2 k3=>?_))
 ·rw [aX i (by omega),aX j hjn]
  exact iX ux _ _ (by omega)
 have eY0:(arrOf st)[P.length + X.length]'(by omega)=Y[0]:=aY 0 y0 (by omega)
 have b1:∀ i (hi:i < X.length),i < k->r X[i] <= r Y[0]:=fun i hi h=>by
  have:=k2 i (by omega) h
  rw [aX i hi,eY0] at this
  simpa [Bef] using this
 have b2:∀ i (hi:i < X.length),k <= i->r Y[0] <= r X[i]:=fun i hi h=>by
  have:=k3 i (by omega) h hi
  rw [aX i hi,eY0] at this
  exact Nat.le_of_lt (by simpa [Bef] using this)
 by_cases e0:X.length - k=0
 ·refine au (by simpa using e0) ?_
  refine wpS_pure (q (X++Y) _ _ (by rw [e]; simp) (List.Perm.refl _) (qT ux uy fun x hx y hy=>?_))
  obtain ⟨i,hi,rfl⟩:=List.getElem_of_mem hx
  obtain ⟨j,hj,rfl⟩:=List.getElem_of_mem hy
  exact Nat.le_trans (b1 i hi (by omega)) (iX uy _ _ (by omega))
 refine ar (by simpa using e0) ?_
 have at_eq:∀ {i j:Nat} (h:i=j) (hi:i < (arrOf st).size) (hj:j < (arrOf st).size),(arrOf st)[i]=(arrOf st)[j]:=fun h _ _=>by subst h; rfl
 refine wpS_bind (aA (show P.length + k + (X.length - k) - 1 < (arrOf st).size by omega) ?_)
 rw [at_eq (show P.length + k + (X.length - k) - 1=P.length + (X.length - 1) by omega) (by omega) (by omega),aX (X.length - 1) (by omega)]
 refine wpS_bind (iW c (SX _ (by simp)) (by omega) (by omega) hS' (fun i j hi hj hij hjn=>?_) (by exact hk) (fun n n1 n2 n3=>?_))
 ·rw [aY i (by omega),aY j hjn]
  exact iX uy _ _ (by omega)
 have c1:∀ i (hi:i < Y.length),i < n->r Y[i] <= r X[X.length - 1]:=fun i hi h=>by
  have:=n2 i (by omega) h
  rw [aY i hi] at this
  exact Nat.le_of_lt (by simpa [Bef] using this)
 have c2:∀ i (hi:i < Y.length),n <= i->r X[X.length - 1] <= r Y[i]:=fun i hi h=>by
  have:=n3 i (by omega) h hi
  rw [aY i hi] at this
  exact Nat.le_of_not_lt (by simpa [Bef] using this)
 by_cases e1:n=0
 ·refine au (by simpa using e1) ?_
  refine wpS_pure (q (X++Y) _ _ (by rw [e]; simp) (List.Perm.refl _) (qT ux uy fun x hx y hy=>?_))
  obtain ⟨i,hi,rfl⟩:=List.getElem_of_mem hx
  obtain ⟨j,hj,rfl⟩:=List.getElem_of_mem hy
  exact Nat.le_trans (iX ux hi (by omega) (by omega)) (c2 j hj (by omega))
 refine ar (by simpa using e1) ?_
 have ex:((arrOf st).extract (P.length + k) (P.length + X.length)).toList=X.drop k:=uI (U:=P++X.take k) (W:=Y++R) (by rw [e]; simp only [List.append_assoc]; rw [← List.append_assoc (X.take k),List.take_append_drop]) (by simp; omega) (by simp; omega)
 have ey:((arrOf st).extract (P.length + X.length) (P.length + X.length + n)).toList=Y.take n:=uI (U:=P++X) (W:=Y.drop n++R) (by rw [e]; simp only [List.append_assoc]; rw [← List.append_assoc (Y.take n),List.take_append_drop]) (by simp) (by simp; omega)
 generalize hx:(arrOf st).extract (P.length + k) (P.length + X.length)=x at ex
 generalize hy:(arrOf st).extract (P.length + X.length) (P.length + X.length + n)=y at ey
 have lx:x.size=X.length - k:=by have:=congrArg List.length ex; simpa using this
 have ly:y.size=n:=by have:=congrArg List.length ey; simp at this; omega
 have gx:∀ i (hi:i < x.size),x[i]=X[k + i]'(by omega):=fun i hi=>by
  have:x.toList[i]? = some (X[k + i]'(by omega)):=by rw [ex,List.getElem?_drop]; exact List.getElem?_eq_getElem _
  obtain ⟨_,h⟩:=List.getElem?_eq_some_iff.mp this
  simpa using h
 have gy:∀ i (hi:i < y.size),y[i]=Y[i]'(by omega):=fun i hi=>by
  have:y.toList[i]? = some (Y[i]'(by omega)):=by rw [ey,List.getElem?_take_of_lt (by omega)]; exact List.getElem?_eq_getElem _
  obtain ⟨_,h⟩:=List.getElem?_eq_some_iff.mp this
  simpa using h
 have Sx:∀ i (h:i < x.size),S x[i]:=fun i h=>by rw [gx i h]; exact SX _ (by simp)
 have Sy:∀ i (h:i < y.size),S y[i]:=fun i h=>by rw [gy i h]; exact SY _ (by simp)
 have vx:Up r x.toList:=by rw [ex]; exact List.Pairwise.sublist (List.drop_sublist _ _) ux
 have vy:Up r y.toList:=by rw [ey]; exact List.Pairwise.sublist (List.take_sublist _ _) uy
 have hlast:∀ z∈y.toList,r z <= r (x[x.size - 1]'(by omega)):=fun z hz=>by
  rw [ey] at hz
  obtain ⟨i,hi,rfl⟩:=List.getElem_of_mem hz
  rw [List.length_take] at hi
  rw [gx _ (by omega),List.getElem_take]
  have h1:=c1 i (by omega) (by omega)
  have h2:k + (x.size - 1)=X.length - 1:=by omega
  simpa [h2] using h1
 have hfirst:∀ z∈x.toList,r (y[0]'(by omega)) <= r z:=fun z hz=>by
  rw [ex] at hz
  obtain ⟨i,hi,rfl⟩:=List.getElem_of_mem hz
  rw [List.length_drop] at hi
  rw [gy _ (by omega),List.getElem_drop]
  exact b2 _ _ (by omega)
 have fin:∀ (out:Array Keyed) (g:Nat),Gd r (x.toList++y.toList) out.toList->Q true (ap st (List.foldl (fun (a:Array Keyed) (x:Keyed×Nat)=>a.setIfInBounds (P.length + k + x.2) x.1) (arrOf st) out.toList.zipIdx) (((pendingOf st).setIfInBounds i (P.length,X.length + Y.length,p1)).eraseIdxIfInBounds (i + 1)) g):=fun out g gd=>by
  obtain ⟨gp,gu⟩:=gd
  rw [ex,ey] at gp
  have ea:=qS (k:=P.length + k) out.toList (X.drop k++Y.take n) (P++X.take k) (Y.drop n++R) 0 (arrOf st) (by rw [e]; simp only [List.append_assoc]; rw [← List.append_assoc (Y.take n),List.take_append_drop,← List.append_assoc (X.take k),List.take_append_drop]) (by simp; omega) gp.length_eq.symm
  refine q (X.take k++out.toList++Y.drop n) _ g (by rw [ea]; simp) ?_ ?_
  ·refine List.Perm.trans (List.Perm.append_right _ (List.Perm.append_left _ gp)) ?_
   rw [show X.take k++(X.drop k++Y.take n)++Y.drop n=X++Y by simp only [List.append_assoc]; rw [List.take_append_drop,← List.append_assoc,List.take_append_drop]]
  ·have m1:∀ z∈out.toList,(∃ i,∃ hi:i < X.length,k <= i /\ z=X[i])∨(∃ i,∃ hi:i < Y.length,i < n /\ z=Y[i]):=fun z hz=>by
    rcases List.mem_append.mp (gp.mem_iff.mp hz) with hz | hz
    ·obtain ⟨i,hi,rfl⟩:=List.getElem_of_mem hz
     rw [List.length_drop] at hi
     exact .inl ⟨k + i,by omega,by omega,by rw [List.getElem_drop]⟩
    ·obtain ⟨i,hi,rfl⟩:=List.getElem_of_mem hz
     rw [List.length_take] at hi
     exact .inr ⟨i,by omega,by omega,by rw [List.getElem_take]⟩
   refine qT (qT (List.Pairwise.sublist (List.take_sublist _ _) ux) gu fun a ha z hz=>?_) (List.Pairwise.sublist (List.drop_sublist _ _) uy) fun a ha z hz=>?_
   ·obtain ⟨j,hj,rfl⟩:=List.getElem_of_mem ha
    rw [List.length_take] at hj
    rw [List.getElem_take]
    rcases m1 z hz with ⟨i,hi,h,rfl⟩ | ⟨i,hi,h,rfl⟩
    ·exact iX ux _ _ (by omega)
    ·exact Nat.le_trans (b1 j (by omega) (by omega)) (iX uy _ _ (by omega))
   ·obtain ⟨j,hj,rfl⟩:=List.getElem_of_mem hz
    rw [List.length_drop] at hj
    rw [List.getElem_drop]
    have cc:=c2 (n + j) (by omega) (by omega)
    have low:∀ i (hi:i < X.length),r X[i] <= r Y[n + j]:=fun i hi=>Nat.le_trans (iX ux hi (by omega) (by omega)) cc
    rcases List.mem_append.mp ha with ha | ha
    ·obtain ⟨i,hi,rfl⟩:=List.getElem_of_mem ha
     rw [List.length_take] at hi
     rw [List.getElem_take]
     exact low i (by omega)
    ·rcases m1 a ha with ⟨i,hi,h,rfl⟩ | ⟨i,hi,h,rfl⟩
     ·exact low i hi
     ·exact iX uy _ _ (by omega)
 refine bd (fun _=>?_) (fun _=>?_)
 ·refine wpS_bind (AS c Sx Sy vx vy (by omega) (by omega) (hfirst _ (by simp)) hlast (by exact hk) fun out g gd=>?_)
  refine wpS_bind (wpS_modify (wpS_bind (wpS_get (wpS_pure ?_))))
  show Q (failedOf st).isNone _
  rw [hf]
  exact fin out g gd
 ·refine wpS_bind (AT c Sx Sy vx vy (by omega) (by omega) hfirst hlast (by exact hk) fun out g gd=>?_)
  refine wpS_bind (wpS_modify (wpS_bind (wpS_get (wpS_pure ?_))))
  show Q (failedOf st).isNone _
  rw [hf]
  exact fin out g gd
end
end TS
namespace TS
open PySem PyProof.Rows
section
variable {prog:Program} {w:World} {A:Around} {E:Value->Shared->Prop} {s:Shared}
variable {κ:SortKind} {S:Keyed->Prop} {r:Keyed->Nat}
def rk (r:Keyed->Nat) (arr:Array Keyed) (i:Nat):Nat:=(arr[i]?.map r).getD 0
theorem se {arr:Array Keyed} {i:Nat} (h:i < arr.size):rk r arr i=r arr[i]:=by
 unfold rk
 rw [getElem?_pos arr i h]
 rfl
theorem gP {x y:Array Keyed} {i j:Nat} (h:x[i]? = y[j]?):rk r x i=rk r y j:=by
 unfold rk
 rw [h]
def Dis (r:Keyed->Nat) (arr:Array Keyed):Prop:=(arr.toList.map r).Nodup
theorem Dis.ne {arr:Array Keyed} (d:Dis r arr) (i j:Nat) (h:i < j) (hj:j < arr.size):rk r arr i≠rk r arr j:=by
 rw [se (show i < arr.size by omega),se hj]
 have:=List.pairwise_iff_getElem.mp d i j (by simp; omega) (by simpa using hj) h
 simpa using this
theorem Dis.perm {x y:Array Keyed} (d:Dis r y) (p:x.Perm y):Dis r x:=((Array.perm_iff_toList_perm.mp p).map r).nodup_iff.mpr d
theorem gQ {x y:Array Keyed} (h:∀ z∈y.toList,S z) (p:x.Perm y):∀ z∈x.toList,S z:=fun z hz=>h z ((Array.perm_iff_toList_perm.mp p).mem_iff.mp hz)
def Asc (r:Keyed->Nat) (arr:Array Keyed) (lo hi:Nat):Prop:=∀ i j,lo <= i->i < j->j < hi->rk r arr i < rk r arr j
theorem Asc.one (arr:Array Keyed) (lo:Nat):Asc r arr lo (lo + 1):=fun i j h1 h2 h3=>by omega
theorem Asc.snoc {arr:Array Keyed} {lo hi:Nat} (a:Asc r arr lo hi) (h:lo < hi) (h2:rk r arr (hi - 1) < rk r arr hi):Asc r arr lo (hi + 1):=fun i j i1 ij j1=>by
 by_cases z:j=hi
 ·subst z
  by_cases z2:i=j - 1
  ·subst z2; exact h2
  ·exact Nat.lt_trans (a i (j - 1) i1 (by omega) (by omega)) h2
 ·exact a i j i1 ij (by omega)
theorem ix (c:Cm prog w A s κ S r) {st:SortSt} {i j:Nat} {Q:Option Bool->SortSt->Prop} (hk:kindOf st=κ) (hS:∀ x∈(arrOf st).toList,S x) (hi:i < (arrOf st).size) (hj:j < (arrOf st).size)
  (h:Q (some (decide (rk r (arrOf st) i < rk r (arrOf st) j))) st):wpS (model prog w) A E s (ltAt' i j) Q st:=by
 rw [ltAt'_eq]
 refine wpS_bind (wpS_get ?_)
 refine wpS_bind (aA hi (wpS_bind (aA hj (uD c (hS _ (by simp)) (hS _ (by simp)) hk ?_))))
 rw [se hi,se hj] at h
 exact h
theorem AV {st:SortSt} {i j:Nat} {Q:Unit->SortSt->Prop} (h:Q () (setArr st (mirror (arrOf st) i j ((j - i) / 2)))):wpS (model prog w) A E s (reverseSlice' i j) Q st:=by
 rw [reverseSlice'_eq]
 exact wpS_modify h
theorem AW {st:SortSt} {i j:Nat} {Q:Unit->SortSt->Prop} (h:Q () (setArr st (bubble (arrOf st) i (i - j)))):wpS (model prog w) A E s (moveDown' i j) Q st:=by
 rw [moveDown'_eq]
 exact wpS_modify h
def cru:Nat->Nat->StateT SortSt Sem (Option Nat):=sortPriv% PySem.Builtin.countRun
theorem AX (c:Cm prog w A s κ S r) {st:SortSt} {lo nrem:Nat} {Q:Option Nat->SortSt->Prop} (hk:kindOf st=κ) (hS:∀ x∈(arrOf st).toList,S x) (hd:Dis r (arrOf st)) (hn:1 <= nrem) (hz:lo + nrem=(arrOf st).size)
  (q:∀ n arr,1 <= n->n <= nrem->arr.Perm (arrOf st)->(∀ k,k < lo->arr[k]? = (arrOf st)[k]?)->Asc r arr lo (lo + n)->Q (some n) (setArr st arr)):wpS (model prog w) A E s (cru lo nrem) Q st:=by
 refine wpS_bind (wpS_mono (wpS_forRange (Q:=fun c st'=>st'=st /\ ∃ n,c=(none,n) /\ 1 <= n /\ n <= nrem /\ Asc r (arrOf st) lo (lo + n) /\ (n < nrem->rk r (arrOf st) (lo + n) < rk r (arrOf st) (lo + n - 1)))
  (fun x c st'=>st'=st /\ c=(none,x) /\ 1 <= x /\ x <= nrem /\ Asc r (arrOf st) lo (lo + x)) ?_ ?_ ⟨rfl,rfl,Nat.le_refl _,hn,Asc.one _ _⟩) ?_)
 ·rintro x c1 st' _ hx ⟨rfl,rfl,x1,x2,ha⟩
  dsimp only
  refine wpS_bind (ix c hk hS (by omega) (by omega) ?_)
  dsimp only
  by_cases z:rk r (arrOf st') (lo + x) < rk r (arrOf st') (lo + x - 1)
  ·rw [if_pos (by simpa using z)]
   exact wpS_pure ⟨rfl,x,rfl,x1,x2,ha,fun _=>z⟩
  ·rw [if_neg (by simpa using z)]
   have:=hd.ne (lo + x - 1) (lo + x) (by omega) (by omega)
   exact wpS_pure ⟨rfl,rfl,by omega,by omega,ha.snoc (by omega) (by omega)⟩
 ·rintro c1 st' ⟨rfl,rfl,x1,x2,ha⟩
  exact ⟨rfl,_,rfl,x1,x2,ha,fun h=>by omega⟩
 rintro _ st' ⟨rfl,n,rfl,n1,n2,ha,hb⟩
 dsimp only
 by_cases z:n=nrem
 ·rw [if_pos (by simpa using z)]
  exact wpS_pure (q n _ n1 n2 (Array.Perm.refl _) (fun _ _=>rfl) ha)
 rw [if_neg (by simpa using z)]
 by_cases z1:n > 1
 ·rw [if_pos z1]
  refine wpS_bind (ix c hk hS (by omega) (by omega) ?_)
  have:=ha lo (lo + n - 1) (by omega) (by omega) (by omega)
  dsimp only
  rw [if_pos (by simpa using this)]
  exact wpS_pure (q n _ n1 n2 (Array.Perm.refl _) (fun _ _=>rfl) ha)
 rw [if_neg z1]
 have en:n=1:=by omega
 subst en
 refine wpS_bind (wpS_lift (wpAny_rule ⟨rfl,?_⟩))
 refine wpS_bind (wpS_mono (wpS_forRange (Q:=fun c st1=>st1=st' /\ ∃ n,c=(none,n,0) /\ 2 <= n /\ n <= nrem /\ (∀ i j,lo <= i->i < j->j < lo + n->rk r (arrOf st') j < rk r (arrOf st') i))
  (fun x c st1=>st1=st' /\ c=(none,x,0) /\ 2 <= x /\ x <= nrem /\ (∀ i j,lo <= i->i < j->j < lo + x->rk r (arrOf st') j < rk r (arrOf st') i)) ?_ ?_ ⟨rfl,rfl,by omega,by omega,fun i j h1 h2 h3=>?_⟩) ?_)
 ·rintro x c1 st1 _ hx ⟨rfl,rfl,x1,x2,ha⟩
  refine wpS_bind (ix c hk hS (by dsimp only; omega) (by dsimp only; omega) ?_)
  by_cases z:rk r (arrOf st1) (lo + x) < rk r (arrOf st1) (lo + x - 1)
  ·refine au (by simpa using z) (ar (by simp) (wpS_pure ⟨rfl,rfl,by omega,by omega,fun i j h1 h2 h3=>?_⟩))
   by_cases z2:j=lo + x
   ·subst z2
    by_cases z3:i=lo + x - 1
    ·subst z3; exact z
    ·exact Nat.lt_trans z (ha i (lo + x - 1) h1 (by omega) (by omega))
   ·exact ha i j h1 h2 (by omega)
  ·have:=hd.ne (lo + x - 1) (lo + x) (by omega) (by omega)
   refine ar (by simpa using z) (wpS_bind (ix c hk hS (by dsimp only; omega) (by dsimp only; omega) ?_))
   refine au ?_ (wpS_pure ⟨rfl,x,rfl,x1,x2,ha⟩)
   have:rk r (arrOf st1) (lo + x - 1) < rk r (arrOf st1) (lo + x):=by omega
   simpa using this
 ·rintro c1 st1 ⟨rfl,rfl,x1,x2,ha⟩
  exact ⟨rfl,_,rfl,x1,x2,ha⟩
 ·have h5:=hb (by omega)
  have h6:i=lo:=by omega
  have h7:j=lo + 1:=by omega
  subst h6 h7
  exact h5
 rintro _ st1 ⟨rfl,n,rfl,m1,m2,hdsc⟩
 refine ar (by simp) ?_
 refine wpS_bind (AV ?_)
 generalize harr:mirror (arrOf st1) lo (lo + n) ((lo + n - lo) / 2)=arr'
 have gm:∀ k,arr'[k]? = if lo <= k /\ k < lo + n then (arrOf st1)[lo + (lo + n) - 1 - k]? else (arrOf st1)[k]?:=fun k=>by rw [← harr]; exact getElem?_mirror_all (by omega) k
 have pm:arr'.Perm (arrOf st1):=by rw [← harr]; exact mirror_perm _ _ _ _
 have sz':arr'.size=(arrOf st1).size:=by rw [← harr]; exact mirror_size _ _ _ _
 have hS':=gQ hS pm
 have hd':=hd.perm pm
 have asc:Asc r arr' lo (lo + n):=fun i j h1 h2 h3=>by
  have e1:rk r arr' i=rk r (arrOf st1) (lo + (lo + n) - 1 - i):=gP (by rw [gm,if_pos ⟨h1,by omega⟩])
  have e2:rk r arr' j=rk r (arrOf st1) (lo + (lo + n) - 1 - j):=gP (by rw [gm,if_pos ⟨by omega,h3⟩])
  rw [e1,e2]
  exact hdsc _ _ (by omega) (by omega) (by omega)
 refine wpS_bind (wpS_mono (wpS_forRange (Q:=fun c st2=>st2=setArr st1 arr' /\ ∃ n,c=(none,n) /\ 1 <= n /\ n <= nrem /\ Asc r arr' lo (lo + n))
  (fun x c st2=>st2=setArr st1 arr' /\ c=(none,x) /\ 1 <= x /\ x <= nrem /\ Asc r arr' lo (lo + x)) ?_ ?_ ⟨rfl,rfl,by dsimp only; omega,by dsimp only; omega,asc⟩) ?_)
 ·rintro x c1 st2 _ hx ⟨rfl,rfl,x1,x2,ha⟩
  refine wpS_bind (ix c hk hS' (show lo + x < arr'.size by omega) (show lo + x - 1 < arr'.size by omega) ?_)
  by_cases z:rk r arr' (lo + x) < rk r arr' (lo + x - 1)
  ·exact au (by simpa using z) (wpS_pure ⟨rfl,x,rfl,x1,x2,ha⟩)
  ·have:=hd'.ne (lo + x - 1) (lo + x) (by omega) (by omega)
   exact ar (by simpa using z) (wpS_pure ⟨rfl,rfl,by omega,by omega,ha.snoc (by omega) (by omega)⟩)
 ·rintro c1 st2 ⟨rfl,rfl,x1,x2,ha⟩
  exact ⟨rfl,_,rfl,x1,x2,ha⟩
 rintro _ st2 ⟨rfl,n',rfl,l1,l2,ha⟩
 exact wpS_pure (q n' arr' l1 l2 pm (fun k hk=>by rw [gm,if_neg (by omega)]) ha)
def bso:Nat->Nat->Nat->StateT SortSt Sem Bool:=sortPriv% PySem.Builtin.binarySort
theorem AY (c:Cm prog w A s κ S r) {st:SortSt} {lo n ok:Nat} {Q:Bool->SortSt->Prop} (hk:kindOf st=κ) (hS:∀ x∈(arrOf st).toList,S x) (hd:Dis r (arrOf st)) (h1:1 <= ok) (h2:ok <= n) (hz:lo + n <= (arrOf st).size) (ha:Asc r (arrOf st) lo (lo + ok))
  (q:∀ arr,arr.Perm (arrOf st)->(∀ k,k < lo->arr[k]? = (arrOf st)[k]?)->Asc r arr lo (lo + n)->Q true (setArr st arr)):wpS (model prog w) A E s (bso lo n ok) Q st:=by
 refine wpS_bind (wpS_mono (wpS_forRange (Q:=fun c st'=>c=(none,()) /\ ∃ arr,st'=setArr st arr /\ arr.Perm (arrOf st) /\ (∀ k,k < lo->arr[k]? = (arrOf st)[k]?) /\ Asc r arr lo (lo + n))
  (fun x c st'=>ok <= x /\ x <= n /\ c=(none,()) /\ ∃ arr,st'=setArr st arr /\ arr.Perm (arrOf st) /\ (∀ k,k < lo->arr[k]? = (arrOf st)[k]?) /\ Asc r arr lo (lo + x)) ?_ ?_ ⟨by omega,by omega,rfl,_,rfl,Array.Perm.refl _,fun _ _=>rfl,by rw [show max ok 1=ok by omega]; exact ha⟩) ?_)
 ·rintro k c1 st' hk1 hk2 ⟨k1,k2,rfl,arr,rfl,pm,bl,asc⟩
  have sz:arr.size=(arrOf st).size:=pm.size_eq
  have hS':=gQ hS pm
  have hd':=hd.perm pm
  refine wpS_bind (wpS_mono (wpS_forRange (Q:=fun c st'=>st'=setArr st arr /\ ∃ l,c=(none,l,l) /\ l <= k /\ (∀ i,i < l->rk r arr (lo + i) < rk r arr (lo + k)) /\ (∀ i,l <= i->i < k->rk r arr (lo + k) < rk r arr (lo + i)))
   (fun x c st'=>st'=setArr st arr /\ ∃ l h,c=(none,l,h) /\ l <= h /\ h <= k /\ h - l <= k - x /\ (∀ i,i < l->rk r arr (lo + i) < rk r arr (lo + k)) /\ (∀ i,h <= i->i < k->rk r arr (lo + k) < rk r arr (lo + i))) ?_ ?_ ⟨rfl,0,k,rfl,by omega,by omega,by omega,fun i hi=>by omega,fun i hi hi'=>by omega⟩) ?_)
  ·rintro x c2 st2 _ hx ⟨rfl,l,h,rfl,a1,a2,a3,a4,a5⟩
   refine bd (fun z=>?_) (fun z=>?_)
   ·have z:h <= l:=z
    have:l=h:=by omega
    subst this
    exact wpS_pure ⟨rfl,l,rfl,a2,a4,a5⟩
   ·have z:¬ h <= l:=z
    refine wpS_bind (ix c hk hS' (show lo + k < arr.size by omega) (show lo + (l + h) / 2 < arr.size by omega) ?_)
    by_cases y:rk r arr (lo + k) < rk r arr (lo + (l + h) / 2)
    ·refine au (by simpa using y) (wpS_pure ⟨rfl,l,(l + h) / 2,rfl,by omega,by omega,by omega,a4,fun i hi hi'=>?_⟩)
     by_cases y2:i=(l + h) / 2
     ·subst y2; exact y
     ·exact Nat.lt_trans y (asc _ _ (by omega) (by omega) (by omega))
    ·have:=hd'.ne (lo + (l + h) / 2) (lo + k) (by omega) (by omega)
     refine ar (by simpa using y) (wpS_pure ⟨rfl,(l + h) / 2 + 1,h,rfl,by omega,by omega,by omega,fun i hi=>?_,a5⟩)
     by_cases y2:i=(l + h) / 2
     ·subst y2; omega
     ·exact Nat.lt_trans (asc _ (lo + (l + h) / 2) (by omega) (by omega) (by omega)) (by omega)
  ·rintro c2 st2 ⟨rfl,l,h,rfl,a1,a2,a3,a4,a5⟩
   have:l=h:=by omega
   subst this
   exact ⟨rfl,l,rfl,a2,a4,a5⟩
  rintro _ st2 ⟨rfl,l,rfl,a2,a4,a5⟩
  refine wpS_bind (AW (wpS_pure ⟨by omega,by omega,rfl,_,rfl,(bubble_perm _ _ _).trans pm,fun j hj=>?_,fun i j i1 ij j1=>?_⟩))
  ·show (bubble arr (lo + k) (lo + k - (lo + l)))[j]? = _
   rw [getElem?_bubble (show lo + k < arr.size by omega) _ (by omega),if_neg (by omega),if_neg (by omega)]
   exact bl j hj
  ·have gb:∀ j,(bubble arr (lo + k) (lo + k - (lo + l)))[j]? = if j=lo + l then arr[lo + k]? else if lo + l < j /\ j <= lo + k then arr[j - 1]? else arr[j]?:=fun j=>by
    rw [getElem?_bubble (show lo + k < arr.size by omega) _ (by omega),show lo + k - (lo + k - (lo + l))=lo + l by omega]
   show rk r (bubble arr (lo + k) (lo + k - (lo + l))) i < rk r (bubble arr (lo + k) (lo + k - (lo + l))) j
   have ge:∀ j,j < lo + l->rk r (bubble arr (lo + k) (lo + k - (lo + l))) j=rk r arr j:=fun j h=>gP (by rw [gb,if_neg (by omega),if_neg (by omega)])
   have ge1:rk r (bubble arr (lo + k) (lo + k - (lo + l))) (lo + l)=rk r arr (lo + k):=gP (by rw [gb,if_pos rfl])
   have ge2:∀ j,lo + l < j->j <= lo + k->rk r (bubble arr (lo + k) (lo + k - (lo + l))) j=rk r arr (j - 1):=fun j h h'=>gP (by rw [gb,if_neg (by omega),if_pos ⟨h,h'⟩])
   have a4':∀ i,lo <= i->i < lo + l->rk r arr i < rk r arr (lo + k):=fun i h h'=>by have:=a4 (i - lo) (by omega); rwa [show lo + (i - lo)=i by omega] at this
   have a5':∀ i,lo + l <= i->i < lo + k->rk r arr (lo + k) < rk r arr i:=fun i h h'=>by have:=a5 (i - lo) (by omega) (by omega); rwa [show lo + (i - lo)=i by omega] at this
   rcases Nat.lt_trichotomy i (lo + l) with y | y | y
   ·rw [ge i y]
    rcases Nat.lt_trichotomy j (lo + l) with y2 | y2 | y2
    ·rw [ge j y2]
     exact asc i j i1 ij (by omega)
    ·rw [y2,ge1]
     exact a4' i i1 y
    ·rw [ge2 j y2 (by omega)]
     exact asc i (j - 1) i1 (by omega) (by omega)
   ·rw [y,ge1,ge2 j (by omega) (by omega)]
    exact a5' _ (by omega) (by omega)
   ·rw [ge2 i y (by omega),ge2 j (by omega) (by omega)]
    exact asc (i - 1) (j - 1) (by omega) (by omega) (by omega)
 ·rintro c1 st' ⟨k1,k2,rfl,arr,rfl,pm,bl,asc⟩
  refine ⟨rfl,arr,rfl,pm,bl,?_⟩
  rwa [show max (max ok 1) n=n by omega] at asc
 rintro _ st' ⟨rfl,arr,rfl,pm,bl,asc⟩
 exact wpS_pure (q arr pm bl asc)
end
end TS
namespace TS
open PySem PyProof.Rows
section
variable {prog:Program} {w:World} {A:Around} {E:Value->Shared->Prop} {s:Shared}
variable {κ:SortKind} {S:Keyed->Prop} {r:Keyed->Nat}
def PB (r:Keyed->Nat):List (Nat×Nat×Nat)->List (List Keyed)->Nat->Prop
 | [],bs,_=>bs=[]
 | p::ps,bs,off=>∃ b bs',bs=b::bs' /\ p.1=off /\ p.2.1=b.length /\ 0 < b.length /\ Up r b /\ PB r ps bs' (off + b.length)
theorem PB.len:∀ {ps bs off},PB r ps bs off->ps.length=bs.length
 | [],bs,off,h=>by have h:bs=[]:=h; subst h; rfl
 | p::ps,bs,off,h=>by
  obtain ⟨b,bs',rfl,_,_,_,_,h⟩:=h
  simp [PB.len h]
theorem PB.split:∀ {p1 p2 bs off},PB r (p1++p2) bs off->∃ b1 b2,bs=b1++b2 /\ PB r p1 b1 off /\ PB r p2 b2 (off + b1.flatten.length)
 | [],p2,bs,off,h=>⟨[],bs,rfl,rfl,by simpa using h⟩
 | p::p1,p2,bs,off,h=>by
  obtain ⟨b,bs',rfl,a1,a2,a3,a4,h⟩:=h
  obtain ⟨b1,b2,rfl,h1,h2⟩:=PB.split h
  refine ⟨b::b1,b2,rfl,⟨b,b1,rfl,a1,a2,a3,a4,h1⟩,?_⟩
  rw [List.flatten_cons,List.length_append,← Nat.add_assoc]
  exact h2
theorem PB.join:∀ {p1 p2 b1 b2 off},PB r p1 b1 off->PB r p2 b2 (off + b1.flatten.length)->PB r (p1++p2) (b1++b2) off
 | [],p2,b1,b2,off,h1,h2=>by
  have h1:b1=[]:=h1
  subst h1
  simpa using h2
 | p::p1,p2,b1,b2,off,h1,h2=>by
  obtain ⟨b,bs',rfl,a1,a2,a3,a4,h⟩:=h1
  refine ⟨b,bs'++b2,rfl,a1,a2,a3,a4,PB.join h ?_⟩
  rw [List.flatten_cons,List.length_append,← Nat.add_assoc] at h2
  exact h2
theorem PB.congr:∀ {ps qs bs off},PB r ps bs off->ps.map (fun p=>(p.1,p.2.1))=qs.map (fun p=>(p.1,p.2.1))->PB r qs bs off
 | [],qs,bs,off,h,e=>by
  have:qs=[]:=by simpa using e.symm
  subst this
  exact h
 | p::ps,[],bs,off,h,e=>by simp at e
 | p::ps,q::qs,bs,off,h,e=>by
  obtain ⟨b,bs',rfl,a1,a2,a3,a4,h⟩:=h
  rw [List.map_cons,List.map_cons] at e
  injection e with e1 e2
  injection e1 with e3 e4
  exact ⟨b,bs',rfl,e3 ▸ a1,e4 ▸ a2,a3,a4,PB.congr h e2⟩
structure Rn (κ:SortKind) (r:Keyed->Nat) (A0:Array Keyed) (st:SortSt) (lo:Nat) (rest:List Keyed):Prop where
 kd:kindOf st=κ
 fl:failedOf st=none
 pm:(arrOf st).Perm A0
 bl:∃ bs,(arrOf st).toList=bs.flatten++rest /\ bs.flatten.length=lo /\ PB r (pendingOf st).toList bs 0
variable {A0:Array Keyed}
theorem uJ (c:Cm prog w A s κ S r) (hS:∀ x∈A0.toList,S x) {st:SortSt} {lo i:Nat} {rest:List Keyed} (R:Rn κ r A0 st lo rest) (hi:i + 2 <= (pendingOf st).size) {Q:Bool->SortSt->Prop}
  (q:∀ st',Rn κ r A0 st' lo rest->(pendingOf st').size + 1=(pendingOf st).size->Q true st'):wpS (model prog w) A E s (mat i) Q st:=by
 obtain ⟨kd,fl,pm,bs,e,el,pb⟩:=R
 obtain ⟨p1,x,y,p2,ep,e1⟩:∃ p1 x y p2,(pendingOf st).toList=p1++x::y::p2 /\ p1.length=i:=by
  refine ⟨(pendingOf st).toList.take i,((pendingOf st).toList[i]'(by simp; omega)),((pendingOf st).toList[i + 1]'(by simp; omega)),(pendingOf st).toList.drop (i + 2),?_,by simp; omega⟩
  conv=>lhs; rw [← List.take_append_drop i (pendingOf st).toList]
  congr 1
  rw [List.drop_eq_getElem_cons (by simp; omega),List.drop_eq_getElem_cons (by simp; omega)]
 rw [ep] at pb
 obtain ⟨b1,b2,rfl,h1,h2⟩:=pb.split
 obtain ⟨X,bs2,rfl,x1,x2,x3,x4,h3⟩:=h2
 obtain ⟨Y,bs3,rfl,y1,y2,y3,y4,h4⟩:=h3
 obtain ⟨xs,xn,xp⟩:=x
 obtain ⟨ys,yn,yp⟩:=y
 dsimp only at x1 x2 y1 y2
 rw [Nat.zero_add] at x1 y1
 subst x1 x2 y1 y2
 have ga:(pendingOf st)[i]? = some (b1.flatten.length,X.length,xp):=by
  rw [← Array.getElem?_toList,ep,← e1,List.getElem?_append_right (Nat.le_refl _),Nat.sub_self]
  rfl
 have gb:(pendingOf st)[i + 1]? = some (b1.flatten.length + X.length,Y.length,yp):=by
  rw [← Array.getElem?_toList,ep,← e1,List.getElem?_append_right (by omega),show p1.length + 1 - p1.length=1 by omega]
  rfl
 have e':(arrOf st).toList=b1.flatten++X++Y++(bs3.flatten++rest):=by
  rw [e]
  simp
 have ep2:(((pendingOf st).setIfInBounds i (b1.flatten.length,X.length + Y.length,xp)).eraseIdxIfInBounds (i + 1)).toList=p1++(b1.flatten.length,X.length + Y.length,xp)::p2:=by
  rw [Array.toList_eraseIdxIfInBounds,Array.toList_setIfInBounds,ep,← e1,List.set_append_right _ _ (Nat.le_refl _),Nat.sub_self,List.set_cons_zero,List.eraseIdx_append_of_length_le (by omega),show p1.length + 1 - p1.length=1 by omega]
  rfl
 refine AU c kd fl (gQ hS pm) e' ga gb x3 y3 x4 y4 fun Z arr g ez zp zu=>q _ ⟨kd,fl,?_,b1++Z::bs3,?_,?_,?_⟩ ?_
 ·refine Array.Perm.trans (Array.perm_iff_toList_perm.mpr ?_) pm
  show arr.toList.Perm (arrOf st).toList
  rw [ez,e']
  refine List.Perm.append_right _ ?_
  rw [List.append_assoc]
  exact List.Perm.append_left _ zp
 ·show arr.toList=_
  rw [ez]
  simp
 ·rw [← el]
  have:=zp.length_eq
  simp at this ⊢
  omega
 ·show PB r (((pendingOf st).setIfInBounds i (b1.flatten.length,X.length + Y.length,xp)).eraseIdxIfInBounds (i + 1)).toList _ 0
  rw [ep2]
  have zl:=zp.length_eq
  rw [List.length_append] at zl
  refine PB.join h1 ⟨Z,bs3,rfl,by simp,by dsimp only; omega,by omega,zu,?_⟩
  rw [zl,← Nat.add_assoc]
  exact h4
 ·show (((pendingOf st).setIfInBounds i (b1.flatten.length,X.length + Y.length,xp)).eraseIdxIfInBounds (i + 1)).size + 1=(pendingOf st).size
  rw [← Array.length_toList,ep2,← Array.length_toList (xs:=pendingOf st),ep]
  simp
  omega
theorem Rn.size {st:SortSt} {lo:Nat} {rest:List Keyed} (R:Rn κ r A0 st lo rest):(arrOf st).size=A0.size /\ lo + rest.length=A0.size:=by
 obtain ⟨kd,fl,pm,bs,e,el,pb⟩:=R
 have h:=pm.size_eq
 have h2:=congrArg List.length e
 rw [List.length_append,Array.length_toList] at h2
 omega
theorem Rn.arr {st:SortSt} {lo:Nat} {rest:List Keyed} (R:Rn κ r A0 st lo rest) {arr:Array Keyed} (p:arr.Perm (arrOf st)) (h:∀ k,k < lo->arr[k]? = (arrOf st)[k]?):Rn κ r A0 (setArr st arr) lo (arr.toList.drop lo):=by
 obtain ⟨kd,fl,pm,bs,e,el,pb⟩:=R
 refine ⟨kd,fl,p.trans pm,bs,?_,el,pb⟩
 show arr.toList=bs.flatten++arr.toList.drop lo
 have:arr.toList.take lo=bs.flatten:=by
  apply List.ext_getElem?
  intro k
  by_cases z:k < lo
  ·rw [List.getElem?_take_of_lt z,Array.getElem?_toList,h k z,← Array.getElem?_toList,e,List.getElem?_append_left (by omega)]
  ·rw [List.getElem?_eq_none (by rw [List.length_take]; omega),List.getElem?_eq_none (by omega)]
 rw [← this,List.take_append_drop]
theorem Asc.up {arr:Array Keyed} {lo n:Nat} (a:Asc r arr lo (lo + n)) (h:lo + n <= arr.size):Up r ((arr.toList.drop lo).take n):=by
 refine List.pairwise_iff_getElem.mpr fun i j hi hj hij=>?_
 simp at hi hj ⊢
 have:=a (lo + i) (lo + j) (by omega) (by omega) (by omega)
 rw [se (by omega),se (by omega)] at this
 omega
theorem Rn.push {st:SortSt} {lo n:Nat} {rest:List Keyed} (R:Rn κ r A0 st lo rest) (h:n <= rest.length) (h0:0 < n) (u:Up r (rest.take n)):Rn κ r A0 (setPending st ((pendingOf st).push (lo,n,0))) (lo + n) (rest.drop n):=by
 obtain ⟨kd,fl,pm,bs,e,el,pb⟩:=R
 have hl:(rest.take n).length=n:=by rw [List.length_take]; omega
 refine ⟨kd,fl,pm,bs++[rest.take n],?_,?_,?_⟩
 ·show (arrOf st).toList=_
  rw [e,List.flatten_append,List.append_assoc]
  congr 1
  simp
 ·rw [List.flatten_append,List.length_append,el]
  simp
  omega
 ·show PB r ((pendingOf st).push (lo,n,0)).toList _ 0
  rw [Array.toList_push]
  exact PB.join pb ⟨_,[],rfl,by dsimp only; omega,hl.symm,by omega,u,rfl⟩
theorem Rn.pow {st:SortSt} {lo:Nat} {rest:List Keyed} (R:Rn κ r A0 st lo rest) (k pw:Nat):Rn κ r A0 (setPending st ((pendingOf st).modify k fun x=>(x.1,x.2.1,pw))) lo rest:=by
 obtain ⟨kd,fl,pm,bs,e,el,pb⟩:=R
 refine ⟨kd,fl,pm,bs,e,el,pb.congr ?_⟩
 show _=((pendingOf st).modify k fun x=>(x.1,x.2.1,pw)).toList.map _
 rw [Array.toList_modify]
 apply List.ext_getElem?
 intro i
 rw [List.getElem?_map,List.getElem?_map,List.getElem?_modify]
 cases (pendingOf st).toList[i]? with
 | none=>rfl
 | some x=>by_cases z:k=i <;> simp [z]
theorem PB.few:∀ {ps bs off},PB r ps bs off->ps.length <= bs.flatten.length
 | [],bs,off,h=>by simp
 | p::ps,bs,off,h=>by
  obtain ⟨b,bs',rfl,_,_,h0,_,h⟩:=h
  have:=PB.few h
  simp at this ⊢
  omega
def srs:StateT SortSt Sem Unit:=sortPriv% PySem.Builtin.sortRuns
def mrn:Nat->Nat->Nat->Nat:=sortPriv% PySem.Builtin.minRun
theorem wp_srs (c:Cm prog w A s κ S r) (hS:∀ x∈A0.toList,S x) (hd:Dis r A0) {st:SortSt} (hk:kindOf st=κ) (hf:failedOf st=none) (ha:arrOf st=A0) (hp:pendingOf st = #[]) {Q:Unit->SortSt->Prop}
  (q:∀ st',(arrOf st').Perm A0->Up r (arrOf st').toList->failedOf st'=none->Q () st'):wpS (model prog w) A E s srs Q st:=by
 refine wpS_bind (wpS_get ?_)
 dsimp only
 have hz:(arrOf st).size=A0.size:=by rw [ha]
 have R0:Rn κ r A0 st 0 A0.toList:=⟨hk,hf,by rw [ha],[],by rw [ha]; rfl,rfl,by rw [hp]; rfl⟩
 refine wpS_bind (wpS_mono (wpS_forRange (Q:=fun c st'=>∃ lo,c=(none,lo) /\ Rn κ r A0 st' A0.size [])
  (fun x c st'=>∃ lo rest,c=(none,lo) /\ Rn κ r A0 st' lo rest /\ x <= lo /\ lo <= A0.size) ?_ ?_ ⟨0,_,rfl,R0,by omega,by omega⟩) ?_)
 ·rintro x c1 st1 _ hx ⟨lo,rest,rfl,R,hx2,hlo⟩
  have rs:=R.size
  by_cases z:lo ≥ (arrOf st).size
  ·refine au z (wpS_pure ⟨_,rfl,?_⟩)
   have e1:lo=A0.size:=by omega
   have e2:rest=[]:=List.length_eq_zero_iff.mp (by omega)
   subst e1 e2
   exact R
  refine ar z ?_
  have hS1:=gQ hS R.pm
  have hd1:=hd.perm R.pm
  refine wpS_bind (AX c R.kd hS1 hd1 (show 1 <= (arrOf st).size - lo by omega) (show lo + ((arrOf st).size - lo)=(arrOf st1).size by omega) fun n arr n1 n2 pm bl asc=>?_)
  replace n2:n <= (arrOf st).size - lo:=n2
  have R1:=R.arr pm bl
  have psz:=pm.size_eq
  have rs1:=R1.size
  refine bd (fun z1=>?_) (fun z1=>?_)
  ·have z1:n < mrn (arrOf st).size (arrOf st).size 0:=z1
   refine wpS_bind (wpS_lift (wpAny_rule ⟨rfl,?_⟩))
   refine wpS_bind (AY c R1.kd (gQ hS1 pm) (hd1.perm pm) n1 (show n <= min ((arrOf st).size - lo) (mrn (arrOf st).size (arrOf st).size 0) by omega) (show lo + min ((arrOf st).size - lo) (mrn (arrOf st).size (arrOf st).size 0) <= arr.size by omega) asc fun arr2 pm2 bl2 asc2=>?_)
   replace asc2:Asc r arr2 lo (lo + min ((arrOf st).size - lo) (mrn (arrOf st).size (arrOf st).size 0)):=asc2
   refine ar (by simp) ?_
   have R2:=R1.arr pm2 bl2
   have rs2:=R2.size
   have u2:=asc2.up (show lo + min ((arrOf st).size - lo) (mrn (arrOf st).size (arrOf st).size 0) <= arr2.size by have:=pm2.size_eq; have:arr2.size=arr.size:=this; omega)
   generalize hr2:arr2.toList.drop lo=rest2 at R2 u2 rs2
   generalize hg:setArr (setArr st1 arr) arr2=st2 at R2 rs2
   refine wpS_bind (wpS_get ?_)
   have pushed:∀ st3,Rn κ r A0 st3 lo rest2->Rn κ r A0 (setPending st3 ((pendingOf st3).push (lo,min ((arrOf st).size - lo) (mrn (arrOf st).size (arrOf st).size 0),0))) (lo + min ((arrOf st).size - lo) (mrn (arrOf st).size (arrOf st).size 0)) (rest2.drop (min ((arrOf st).size - lo) (mrn (arrOf st).size (arrOf st).size 0))):=fun st3 R3=>R3.push (by omega) (by omega) u2
   cases hb:(pendingOf st2).back? with
   | none =>
    refine wpS_bind (wpS_modify ?_)
    exact wpS_pure ⟨_,_,rfl,pushed _ R2,show _ + 1 <= lo + min ((arrOf st).size - lo) (mrn (arrOf st).size (arrOf st).size 0) by omega,show lo + min ((arrOf st).size - lo) (mrn (arrOf st).size (arrOf st).size 0) <= A0.size by omega⟩
   | some t =>
    obtain ⟨s1,n1,o1⟩:=t
    refine wpS_bind (wpS_mono (wpS_forRange (Q:=fun c st3=>c=(none,()) /\ Rn κ r A0 st3 lo rest2) (fun x c st3=>c=(none,()) /\ Rn κ r A0 st3 lo rest2) ?_ (fun c st3 h=>h) ⟨rfl,R2⟩) ?_)
    ·rintro y c2 st3 _ hy ⟨rfl,R3⟩
     refine wpS_bind (wpS_get ?_)
     by_cases z2:(pendingOf st3).size > 1
     ·have e5:(if (pendingOf st3).size > 1 then (pendingOf st3)[(pendingOf st3).size - 2]? else none)=some ((pendingOf st3)[(pendingOf st3).size - 2]'(by omega)):=by rw [if_pos z2]; exact getElem?_pos _ _ _
      rw [e5]
      refine bd (fun _=>wpS_pure ⟨rfl,R3⟩) (fun _=>?_)
      exact wpS_bind (uJ c hS R3 (show (pendingOf st3).size - 2 + 2 <= (pendingOf st3).size by omega) fun st4 R4 _=>ar (by simp) (wpS_pure ⟨rfl,R4⟩))
     ·rw [show (if (pendingOf st3).size > 1 then (pendingOf st3)[(pendingOf st3).size - 2]? else none)=none from if_neg z2]
      exact wpS_pure ⟨rfl,R3⟩
    rintro _ st3 ⟨rfl,R3⟩
    refine wpS_bind (wpS_modify (wpS_bind (wpS_modify ?_)))
    exact wpS_pure ⟨_,_,rfl,pushed _ (R3.pow _ _),show _ + 1 <= lo + min ((arrOf st).size - lo) (mrn (arrOf st).size (arrOf st).size 0) by omega,show lo + min ((arrOf st).size - lo) (mrn (arrOf st).size (arrOf st).size 0) <= A0.size by omega⟩
  ·have R2:=R1
   have rs2:=R2.size
   have u2:=asc.up (show lo + n <= arr.size by omega)
   generalize hr2:arr.toList.drop lo=rest2 at R2 u2 rs2
   generalize hg:setArr st1 arr=st2 at R2 rs2
   refine wpS_bind (wpS_get ?_)
   have pushed:∀ st3,Rn κ r A0 st3 lo rest2->Rn κ r A0 (setPending st3 ((pendingOf st3).push (lo,n,0))) (lo + n) (rest2.drop (n)):=fun st3 R3=>R3.push (by omega) (by omega) u2
   cases hb:(pendingOf st2).back? with
   | none =>
    refine wpS_bind (wpS_modify ?_)
    exact wpS_pure ⟨_,_,rfl,pushed _ R2,show _ + 1 <= lo + n by omega,show lo + n <= A0.size by omega⟩
   | some t =>
    obtain ⟨s1,n1,o1⟩:=t
    refine wpS_bind (wpS_mono (wpS_forRange (Q:=fun c st3=>c=(none,()) /\ Rn κ r A0 st3 lo rest2) (fun x c st3=>c=(none,()) /\ Rn κ r A0 st3 lo rest2) ?_ (fun c st3 h=>h) ⟨rfl,R2⟩) ?_)
    ·rintro y c2 st3 _ hy ⟨rfl,R3⟩
     refine wpS_bind (wpS_get ?_)
     by_cases z2:(pendingOf st3).size > 1
     ·have e5:(if (pendingOf st3).size > 1 then (pendingOf st3)[(pendingOf st3).size - 2]? else none)=some ((pendingOf st3)[(pendingOf st3).size - 2]'(by omega)):=by rw [if_pos z2]; exact getElem?_pos _ _ _
      rw [e5]
      refine bd (fun _=>wpS_pure ⟨rfl,R3⟩) (fun _=>?_)
      exact wpS_bind (uJ c hS R3 (show (pendingOf st3).size - 2 + 2 <= (pendingOf st3).size by omega) fun st4 R4 _=>ar (by simp) (wpS_pure ⟨rfl,R4⟩))
     ·rw [show (if (pendingOf st3).size > 1 then (pendingOf st3)[(pendingOf st3).size - 2]? else none)=none from if_neg z2]
      exact wpS_pure ⟨rfl,R3⟩
    rintro _ st3 ⟨rfl,R3⟩
    refine wpS_bind (wpS_modify (wpS_bind (wpS_modify ?_)))
    exact wpS_pure ⟨_,_,rfl,pushed _ (R3.pow _ _),show _ + 1 <= lo + n by omega,show lo + n <= A0.size by omega⟩
 ·rintro c1 st1 ⟨lo,rest,rfl,R,hx2,hlo⟩
  have rs:=R.size
  replace hx2:max 0 (arrOf st).size <= lo:=hx2
  have e1:lo=A0.size:=by omega
  have e2:rest=[]:=List.length_eq_zero_iff.mp (by omega)
  subst e1 e2
  exact ⟨_,rfl,R⟩
 rintro _ st1 ⟨lo,rfl,R⟩
 refine wpS_bind (wpS_mono (wpS_forRange (Q:=fun c st2=>c=(none,()) /\ Rn κ r A0 st2 A0.size [] /\ (pendingOf st2).size <= 1)
  (fun x c st2=>c=(none,()) /\ Rn κ r A0 st2 A0.size [] /\ ((pendingOf st2).size + x <= A0.size∨(pendingOf st2).size <= 1)) ?_ ?_ ⟨rfl,R,?_⟩) ?_)
 ·rintro x c1 st2 _ hx ⟨rfl,R,hx2⟩
  refine wpS_bind (wpS_get ?_)
  refine bd (fun z=>wpS_pure ⟨rfl,R,z⟩) (fun z=>?_)
  have z:¬ (pendingOf st2).size <= 1:=z
  refine wpS_bind (uJ c hS R ?_ fun st3 R3 h3=>ar (by simp) (wpS_pure ⟨rfl,R3,by omega⟩))
  have fin:∀ b:Bool,(if b=true then (pendingOf st2).size - 2 - 1 else (pendingOf st2).size - 2) + 2 <= (pendingOf st2).size:=fun b=>by cases b <;> simp <;> omega
  exact fin _
 ·rintro c1 st2 ⟨rfl,R,hx2⟩
  replace hx2:(pendingOf st2).size + max 0 (arrOf st).size <= A0.size∨(pendingOf st2).size <= 1:=hx2
  exact ⟨rfl,R,by omega⟩
 ·obtain ⟨kd,fl,pm,bs,e,el,pb⟩:=R
  have:=pb.few
  rw [el,Array.length_toList] at this
  omega
 rintro _ st2 ⟨rfl,R,h1⟩
 refine wpS_pure (q st2 R.pm ?_ R.fl)
 obtain ⟨kd,fl,pm,bs,e,el,pb⟩:=R
 have hl:=pb.len
 rw [Array.length_toList] at hl
 rw [List.append_nil] at e
 rw [e]
 cases bs with
 | nil=>exact List.Pairwise.nil
 | cons b bs =>
  have hb:bs=[]:=List.length_eq_zero_iff.mp (by simp at hl; omega)
  subst hb
  obtain ⟨p,hp⟩:∃ p,(pendingOf st2).toList=[p]:=List.length_eq_one_iff.mp (by rw [Array.length_toList]; simpa using hl)
  rw [hp] at pb
  obtain ⟨b',bs',e2,_,_,_,u,_⟩:=pb
  injection e2 with e2 _
  subst e2
  simpa using u
end
end TS
namespace L2
open PySem PySem.Spec PyProof.Rows PySem.W
theorem mD (a b:Int) (r r':List Key):lexI (.inl a::r) (.inl b::r')=if a=b then lexI r r' else decide (a < b):=rfl
theorem mE:∀ k:List Key,lexI k k=false
 | []=>rfl
 | .inl a::r=>by rw [mD,if_pos rfl]; exact mE r
 | .inr a::r=>rfl
theorem qU:∀ a b c:List Key,lexI a b=true->lexI b c=true->lexI a c=true
 | [],[],_,h,_=>by cases h
 | [],_::_,[],_,h=>by cases h
 | [],_::_,_::_,_,_=>rfl
 | _::_,[],_,h,_=>by cases h
 | _::_,_::_,[],_,h=>by cases h
 | .inr _::_,.inl _::_,_::_,h,_=>by cases h
 | .inr _::_,.inr _::_,_::_,h,_=>by cases h
 | .inl _::_,.inr _::_,_::_,h,_=>by cases h
 | .inl _::_,.inl _::_,.inr _::_,_,h=>by cases h
 | .inl a::r,.inl b::s,.inl c::t,h1,h2=>by
  rw [mD] at h1 h2 ⊢
  by_cases e1:a=b
  ·rw [if_pos e1] at h1
   subst e1
   by_cases e2:a=c
   ·rw [if_pos e2] at h2 ⊢
    exact qU r s t h1 h2
   ·rw [if_neg e2] at h2 ⊢
    exact h2
  ·rw [if_neg e1] at h1
   have h1:=of_decide_eq_true h1
   by_cases e2:b=c
   ·subst e2
    rw [if_neg e1]
    exact decide_eq_true h1
   ·rw [if_neg e2] at h2
    have h2:=of_decide_eq_true h2
    rw [if_neg (by omega)]
    exact decide_eq_true (by omega)
theorem wX {a b:List Key} (h:lexI a b=true):lexI b a=false:=by
 cases e:lexI b a with
 | false=>rfl
 | true =>
  have:=qU a b a h e
  rw [mE] at this
  cases this
theorem nV:∀ {a b:List Key},kP a->kP b->a≠b->lexI a b=false->lexI b a=true
 | [],[],_,_,h,_=>absurd rfl h
 | [],_::_,_,_,_,h=>by cases h
 | _::_,[],_,_,_,_=>rfl
 | x::r,y::s,ha,hb,h,e=>by
  obtain ⟨a,rfl⟩:=ha x List.mem_cons_self
  obtain ⟨b,rfl⟩:=hb y List.mem_cons_self
  rw [mD] at e ⊢
  by_cases z:a=b
  ·subst z
   rw [if_pos rfl] at e ⊢
   exact nV (fun x hx=>ha x (List.mem_cons_of_mem _ hx)) (fun x hx=>hb x (List.mem_cons_of_mem _ hx)) (fun z=>h (by rw [z])) e
  ·rw [if_neg z] at e
   rw [if_neg (Ne.symm z)]
   have:=of_decide_eq_false e
   exact decide_eq_true (by omega)
def rkK (ks:List (List Key)) (k:List Key):Nat:=ks.countP fun z=>lexI z k
theorem wY {α:Type} {p q:α->Bool}:∀ {l:List α},(∀ z∈l,p z=true->q z=true)->l.countP p <= l.countP q
 | [],_=>by simp
 | x::l,h=>by
  have:=wY (p:=p) (q:=q) (l:=l) fun z hz=>h z (List.mem_cons_of_mem _ hz)
  have h0:=h x List.mem_cons_self
  rw [List.countP_cons,List.countP_cons]
  cases e:p x with
  | false=>simp; omega
  | true=>rw [h0 e]; simp; omega
theorem wZ {α:Type} {p q:α->Bool} {k:α} (h1:p k=false) (h2:q k=true):∀ {l:List α},(∀ z∈l,p z=true->q z=true)->k∈l->l.countP p < l.countP q
 | [],_,h=>by simp at h
 | x::l,h,hk=>by
  have hl:=fun z hz=>h z (List.mem_cons_of_mem x hz)
  have h0:=h x List.mem_cons_self
  rw [List.countP_cons,List.countP_cons]
  rcases List.mem_cons.mp hk with rfl | hk
  ·have:=wY (l:=l) hl
   rw [h1,h2]
   simp
   omega
  ·have:=wZ h1 h2 hl hk
   cases e:p x with
   | false=>simp; omega
   | true=>rw [h0 e]; simp; omega
theorem qV {ks:List (List Key)} (hi:∀ k∈ks,kP k) {k k':List Key} (hk:k∈ks) (hk':k'∈ks):decide (rkK ks k < rkK ks k')=lexI k k':=by
 have lt:∀ {x y:List Key},x∈ks->lexI x y=true->rkK ks x < rkK ks y:=fun {x y} hx h=>wZ (p:=fun z=>lexI z x) (q:=fun z=>lexI z y) (k:=x) (mE _) h (fun z _ hz=>qU _ _ _ hz h) hx
 cases e:lexI k k' with
 | true=>exact decide_eq_true (lt hk e)
 | false =>
  refine decide_eq_false ?_
  by_cases z:k=k'
  ·subst z; omega
  ·have:=lt hk' (nV (hi k hk) (hi k' hk') z e)
   omega
theorem yK {ks:List (List Key)} (hi:∀ k∈ks,kP k) (nd:ks.Nodup):(srtK ks).Pairwise fun a b=>lexI a b=true:=by
 unfold srtK
 by_cases h:ks.length < 2
 ·rw [if_pos h]
  match ks,h with
  | [],_=>exact .nil
  | [_],_=>exact List.pairwise_singleton _ _
 ·rw [if_neg h]
  have ge:∀ i (hi:i < ks.length),ks.getD i []=ks[i]:=fun i hi=>by simp [hi]
  have O:StrO ks.length (fun i j=>lexI (ks.getD i []) (ks.getD j [])):=by
   refine ⟨fun i j k _ _ _ h1 h2=>qU _ _ _ h1 h2,fun i j _ _ h1=>wX h1,fun i j hi' hj e h1=>?_⟩
   rw [ge i hi',ge j hj] at h1 ⊢
   exact nV (hi _ (by simp)) (hi _ (by simp)) (fun z=>e ((List.getElem_inj nd).mp z)) h1
  have pm:=KGood.end (fun i j=>lexI (ks.getD i []) (ks.getD j [])) _ (gN (N:=ks.length) (by omega))
  have as:=qO O (by omega)
  have sz:=pm.size
  generalize kRun (fun i j=>lexI (ks.getD i []) (ks.getD j [])) (kas_sort ks.length)=p at pm as sz
  rw [List.pairwise_map,List.pairwise_iff_getElem]
  intro i j hi hj hij
  have:=as i j hij (by rw [Array.length_toList] at hj; omega)
  rw [Array.length_toList] at hi hj
  have e1:p.getD i 0=p[i]:=by simp [Array.getD,hi]
  have e2:p.getD j 0=p[j]:=by simp [Array.getD,hj]
  rw [e1,e2] at this
  simpa using this
theorem xa:∀ {xs ys:List (List Key)},xs.Pairwise (fun a b=>lexI a b=true)->ys.Pairwise (fun a b=>lexI a b=true)->(∀ k,k∈xs↔k∈ys)->xs=ys
 | [],[],_,_,_=>rfl
 | [],y::ys,_,_,h=>absurd ((h y).mpr List.mem_cons_self) (by simp)
 | x::xs,[],_,_,h=>absurd ((h x).mp List.mem_cons_self) (by simp)
 | x::xs,y::ys,hx,hy,h=>by
  obtain ⟨hx1,hx2⟩:=List.pairwise_cons.mp hx
  obtain ⟨hy1,hy2⟩:=List.pairwise_cons.mp hy
  have exy:x=y:=by
   rcases List.mem_cons.mp ((h x).mp List.mem_cons_self) with e | e
   ·exact e
   ·rcases List.mem_cons.mp ((h y).mpr List.mem_cons_self) with e' | e'
    ·exact e'.symm
    ·have a:=hy1 x e
     have b:=hx1 y e'
     rw [wX a] at b
     cases b
  subst exy
  have ni:∀ {zs:List (List Key)},(∀ z∈zs,lexI x z=true)->x∉zs:=fun hz m=>by
   have:=hz x m
   rw [mE] at this
   cases this
  rw [xa hx2 hy2 fun k=>⟨fun hk=>?_,fun hk=>?_⟩]
  ·rcases List.mem_cons.mp ((h k).mp (List.mem_cons_of_mem _ hk)) with rfl | e
   ·exact absurd hk (ni hx1)
   ·exact e
  ·rcases List.mem_cons.mp ((h k).mpr (List.mem_cons_of_mem _ hk)) with rfl | e
   ·exact absurd hk (ni hy1)
   ·exact e
theorem jZ:∀ {k k':List Key} {us:List Value},Paired isI k us->Paired isI k' us->k=k'
 | _,_,_,.nil,.nil=>rfl
 | _,_,_,.cons h1 r1,.cons h2 r2=>by
  obtain ⟨i,t,rfl,rfl⟩:=h1
  obtain ⟨j,u,rfl,e⟩:=h2
  cases e
  rw [jZ r1 r2]
theorem TupI.uniq {h:Heap} {k k':List Key} {v:Value} (t:TupI h k v) (t':TupI h k' v):k=k':=by
 obtain ⟨a,o,xs,n,rfl,g,_,d,p⟩:=t
 obtain ⟨a',o',xs',n',e,g',_,d',p'⟩:=t'
 cases e
 rw [g] at g'
 cases g'
 rw [d] at d'
 cases d'
 exact jZ p p'
open Classical in
noncomputable def kf (h:Heap) (v:Value):List Key:=if z:∃ k,TupI h k v then Classical.choose z else []
theorem mF {h:Heap} {k:List Key} {v:Value} (t:TupI h k v):kf h v=k:=by
 unfold kf
 rw [dif_pos ⟨k,t⟩]
 exact (Classical.choose_spec (⟨k,t⟩:∃ k,TupI h k v)).uniq t
theorem sf {α β:Type} {R:α->β->Prop} {f:β->α} {xs:List α} {ys:List β} (h:Paired R xs ys) (hf:∀ a b,R a b->f b=a):xs=ys.map f:=by
 induction h with
 | nil=>rfl
 | cons h _ ih=>rw [List.map_cons,hf _ _ h,← ih]
theorem uK {α β:Type} {R:α->β->Prop} {xs:List α} {ys:List β} (h:Paired R xs ys):∀ y∈ys,∃ x∈xs,R x y:=by
 induction h with
 | nil=>intro y hy; simp at hy
 | cons h _ ih =>
  intro y hy
  rcases List.mem_cons.mp hy with rfl | hy
  ·exact ⟨_,List.mem_cons_self,h⟩
  ·obtain ⟨x,hx,r⟩:=ih y hy
   exact ⟨x,List.mem_cons_of_mem _ hx,r⟩
theorem lz {α β:Type} {R:α->β->Prop} {f:β->α}:∀ {ys:List β},Paired R (ys.map f) ys->∀ y∈ys,R (f y) y
 | [],_,y,hy=>by simp at hy
 | z::ys,h,y,hy=>by
  rw [List.map_cons] at h
  cases h with
  | cons h1 h2 =>
   rcases List.mem_cons.mp hy with rfl | hy
   ·exact h1
   ·exact lz h2 y hy
theorem nW {α β:Type} {R:α->β->Prop} {f:β->α}:∀ {ys:List β},(∀ y∈ys,R (f y) y)->Paired R (ys.map f) ys
 | [],_=>.nil
 | z::ys,h=>.cons (h z List.mem_cons_self) (nW fun y hy=>h y (List.mem_cons_of_mem _ hy))
section
variable {prog:Program} {w:World} {A:Around} {E:Value->Shared->Prop} {s:Shared} {b fin:Bool} {Q:Bool->Shared->Prop}
theorem sh {a:Addr} {vs:List Value} {ks:List (List Key)} {n:Nat} {P:PySem.Fin->Shared->Prop} (ho:s.heap.get? a=some (seqObj "list" vs.toArray n)) (hp:Paired (TupI s.heap) ks vs) (hne:2 <= ks.length->∀ k∈ks,k≠[]) (hi:∀ k∈ks,kP k) (nd:ks.Nodup) (h64:vs.length <= 1000)
  (q:∀ (h':Heap) (out:List Value) (c:Nat),(∀ b o,b≠a->s.heap.get? b=some o->h'.get? b=some o)->h'.get? a=some (seqObj "list" out.toArray c)->(∀ R:List Key->Value->Prop,Paired R ks vs->Paired R (srtK ks) out)->P (.done (.ret .none)) { s with heap:=h' }) :
  wpAny (model prog w) A (Builtin.«list.sort» ⟨[.ref a],[]⟩) P E s:=by
 have hl:=iw hp
 have ha:a < s.heap.objs.size:=Heap.lt_size ho
 have sb:=Heap.SameBut.update s.heap a (Obj.mapSeq fun _=>(#[]:Array Value))
 obtain ⟨e1,ho1⟩:∃ e1,(s.heap.update a (Obj.mapSeq fun _=>(#[]:Array Value))).get? a=some (seqObj "list" #[] e1):=⟨_,get?_update_seq ho fun _=>#[]⟩
 rw [list_sort_plain]
 refine wpAny_bind (listItems_at ho rfl (wpAny_bind (listUpdate_at ho rfl ?_ (by rw [List.size_toArray,sizeLine_eq]; omega) (Nat.zero_le _))))
 refine wpAny_bind (seqEpoch_at ho1 rfl (wpAny_bind (wpAny_newTuple ?_ (by show vs.length <= _; rw [sizeLine_eq]; omega))))
 refine wpAny_bind (wpAny_newList (wpAny_holding ?_) (Nat.zero_le _))
 show wpAny (model prog w) A _ P E { s with heap:=((s.heap.update a (Obj.mapSeq fun _=>(#[]:Array Value))).push (seqObj "tuple" vs.toArray 0)).push (seqObj "list" #[] 0) }
 have kp:∀ b o,b≠a->s.heap.get? b=some o->(((s.heap.update a (Obj.mapSeq fun _=>(#[]:Array Value))).push (seqObj "tuple" vs.toArray 0)).push (seqObj "list" #[] 0)).get? b=some o:=fun b o hb e =>
  Heap.get?_push_of_some _ (Heap.get?_push_of_some _ ((sb.2 b hb).trans e))
 have ho3:(((s.heap.update a (Obj.mapSeq fun _=>(#[]:Array Value))).push (seqObj "tuple" vs.toArray 0)).push (seqObj "list" #[] 0)).get? a=some (seqObj "list" #[] e1):=Heap.get?_push_of_some _ (Heap.get?_push_of_some _ ho1)
 generalize ((s.heap.update a (Obj.mapSeq fun _=>(#[]:Array Value))).push (seqObj "tuple" vs.toArray 0)).push (seqObj "list" #[] 0)=h3 at kp ho3
 have hp3:Paired (TupI h3) ks vs:=fV hp fun k v t=>t.keep ho kp
 dsimp only
 have fin:∀ (st:SortSt) (out:List Value),(arrOf st).map (·.2)=out.toArray->failedOf st=none->out.length <= 1000->(∀ R:List Key->Value->Prop,Paired R ks vs->Paired R (srtK ks) out) ->
   wpAny (model prog w) A (do
    let touched:=(← seqEpoch a) != e1
    Builtin.List.listUpdate (.ref a) fun _=>(arrOf st).map (·.2)
    if let some e:=failedOf st then rule "list.sort.comparison-raised"; throw e
    if touched then rule "list.sort.modified"; raiseError "ValueError" "list modified during sort"
    ret .none) P E { s with heap:=h3 }:=by
  intro st out e f hz hR
  rw [e,f]
  refine wpAny_bind (seqEpoch_at ho3 rfl ?_)
  refine wpAny_bind (listUpdate_at ho3 rfl ?_ (Nat.zero_le _) (by show out.toArray.size <= _; rw [List.size_toArray,sizeLine_eq]; omega))
  simp only [bne_self_eq_false,Bool.false_eq_true,if_false]
  refine wpAny_pure (q _ out _ (fun b o hb e=>?_) (get?_update_seq ho3 fun _=>out.toArray) hR)
  exact ((Heap.SameBut.update h3 a (Obj.mapSeq fun _=>out.toArray)).2 b hb).trans (kp b o hb e)
 by_cases h2:vs.length < 2
 ·have hz:vs.toArray.size < 2:=by rw [List.size_toArray]; exact h2
  rw [if_pos hz,if_pos hz]
  refine wpAny_bind (wpAny_pure (wpAny_bind (wpAny_pure ?_)))
  refine fin _ vs ?_ rfl h64 fun R hR=>?_
  ·show (vs.toArray.zip vs.toArray).map (·.2)=vs.toArray
   apply Array.toList_inj.mp
   simp [List.map_snd_zip]
  ·unfold srtK
   rw [if_pos (by omega)]
   exact hR
 ·have hz:¬ vs.toArray.size < 2:=by rw [List.size_toArray]; exact h2
  rw [if_neg hz,if_neg hz]
  obtain ⟨fs,t1,t2,t3⟩:=wN hp3 (hne (by omega))
  refine wpAny_bind (kat_kind (s:={ s with heap:=h3 }) (T:=.type "int") t1 (by omega) (fun v hv=>?_) (by decide) ?_)
  ·obtain ⟨i,t,rfl⟩:=t3 v hv
   exact Looks.of_pure rfl
  ·have ek:=sf hp3 fun k v t=>mF t
   have rel:∀ x y,(∃ k∈ks,TupI h3 k x)->(∃ k∈ks,TupI h3 k y)->decide (rkK ks (kf h3 x) < rkK ks (kf h3 y))=lexI (kf h3 x) (kf h3 y):=by
    rintro x y ⟨k,hk,tx⟩ ⟨k',hk',ty⟩
    rw [mF tx,mF ty]
    exact qV hi hk hk'
   have cm:TS.Cm prog w A { s with heap:=h3 } (tuples' (Value.type "int" != Value.type "tuple")) (fun x=>x.2=x.1 /\ ∃ k∈ks,TupI h3 k x.1) (fun x=>rkK ks (kf h3 x.1)):=⟨fun x y hx hy Q q=>by
    obtain ⟨_,k,hk,tx⟩:=hx
    obtain ⟨_,k',hk',ty⟩:=hy
    refine yt (s:={ s with heap:=h3 }) tx ty ?_
    have:=rel x.1 y.1 ⟨k,hk,tx⟩ ⟨k',hk',ty⟩
    rw [mF tx,mF ty] at this
    rw [← this]
    simpa [mF tx,mF ty] using q⟩
   have hzl:(vs.toArray.zip vs.toArray).toList=vs.zip vs:=by simp
   have hS:∀ x∈(vs.toArray.zip vs.toArray).toList,x.2=x.1 /\ ∃ k∈ks,TupI h3 k x.1:=fun x hx=>by
    rw [hzl] at hx
    obtain ⟨e,hm⟩:=mem_zip_self hx
    exact ⟨e.symm,uK hp3 x.1 hm⟩
   have hd:TS.Dis (fun x:Keyed=>rkK ks (kf h3 x.1)) (vs.toArray.zip vs.toArray):=by
    unfold TS.Dis
    rw [hzl]
    have e:∀ g:List Key->Nat,(vs.zip vs).map (fun x:Keyed=>g (kf h3 x.1))=ks.map g:=fun g=>by
     have:(vs.zip vs).map (fun x:Keyed=>g (kf h3 x.1))=((vs.zip vs).map (·.1)).map (fun v=>g (kf h3 v)):=by rw [List.map_map]; rfl
     rw [this,List.map_fst_zip (Nat.le_refl _),ek,List.map_map]
     rfl
    rw [e (rkK ks)]
    unfold List.Nodup
    rw [List.pairwise_map]
    refine List.Pairwise.imp_of_mem (fun {x y} hx hy hxy z=>?_) nd
    have h1:=qV hi hx hy
    have h2:=qV hi hy hx
    rw [z] at h1
    rw [z] at h2
    simp at h1 h2
    have:=nV (hi x hx) (hi y hy) hxy h1
    rw [h2] at this
    cases this
   refine wpAny_bind (wpAny_mono (TS.wp_srs (st:=SortSt.mk' (tuples' (Value.type "int" != Value.type "tuple")) (vs.toArray.zip vs.toArray) #[] 7 none) (Q:=fun _ st'=>(arrOf st').Perm (vs.toArray.zip vs.toArray) /\ TS.Up (fun x=>rkK ks (kf h3 x.1)) (arrOf st').toList /\ failedOf st'=none) cm hS hd rfl rfl rfl rfl fun st' a1 a2 a3=>⟨a1,a2,a3⟩) (fun r s' hq=>?_) fun _ _ x=>x)
   obtain ⟨⟨⟩,st'⟩:=r
   obtain ⟨rfl,pm,up,fl⟩:=hq
   dsimp only at pm up fl
   have pl:=Array.perm_iff_toList_perm.mp pm
   rw [hzl] at pl
   have pv:((arrOf st').toList.map (·.2)).Perm vs:=by
    have:=pl.map (·.2)
    rwa [List.map_snd_zip (Nat.le_refl _)] at this
   refine fin st' ((arrOf st').toList.map (·.2)) (Array.toList_inj.mp (by rw [Array.toList_map])) fl (by rw [pv.length_eq]; exact h64) fun R hR=>?_
   have e12:∀ x∈(arrOf st').toList,x.2=x.1 /\ ∃ k∈ks,TupI h3 k x.1:=fun x hx=>hS x (by rw [hzl]; exact pl.mem_iff.mp hx)
   have pk:(((arrOf st').toList.map (·.2)).map (kf h3)).Perm ks:=by
    conv=>rhs; rw [ek]
    exact pv.map _
   have up2:(((arrOf st').toList.map (·.2)).map (kf h3)).Pairwise fun a b=>lexI a b=true:=by
    rw [List.map_map,List.pairwise_map]
    have nd2:(((arrOf st').toList.map (·.2)).map (kf h3)).Nodup:=pk.nodup_iff.mpr nd
    rw [List.map_map] at nd2
    unfold List.Nodup at nd2
    rw [List.pairwise_map] at nd2
    refine List.Pairwise.imp_of_mem (fun {x y} hx hy h=>?_) (up.and nd2)
    obtain ⟨f1,k,hk,tx⟩:=e12 x hx
    obtain ⟨f2,k',hk',ty⟩:=e12 y hy
    show lexI (kf h3 x.2) (kf h3 y.2)=true
    have h1:rkK ks (kf h3 x.1) <= rkK ks (kf h3 y.1):=h.1
    have h2:kf h3 x.2≠kf h3 y.2:=h.2
    rw [f1,f2] at h2 ⊢
    rw [mF tx,mF ty] at h1 h2 ⊢
    cases z:lexI k k' with
    | true=>rfl
    | false =>
     have:=nV (hi k hk) (hi k' hk') h2 z
     have h3:=qV hi hk' hk
     rw [this] at h3
     have:=of_decide_eq_true h3
     omega
   have es:srtK ks=((arrOf st').toList.map (·.2)).map (kf h3):=xa (yK hi nd) up2 fun k=>by rw [(nT ks).mem_iff,pk.mem_iff]
   rw [es]
   rw [ek] at hR
   have all:=lz hR
   exact nW fun v hv=>all v (pv.mem_iff.mp hv)
end
section
variable {X:Cx}
theorem si (hc:X.calm=true):fA X (.builtin "sorted") (fun xs H Q=>∃ a kvs,xs=[.ref a] /\ H a=some (.dT kvs) /\ (∀ k∈kvs.map (·.1),kP k) /\ (2 <= kvs.length->∀ k∈kvs.map (·.1),k≠[]) /\ ((kvs.map (·.1)).Nodup /\ kvs.length <= 1000) /\
  ∀ l bs,H l=none->Paired (yx H) (srtK (kvs.map (·.1))) bs->Q (.ref l) (upd H l (.lst bs))):=by
 intro pins s σ H xs us Q I r h
 obtain ⟨a,kvs,rfl,e,hi,hne,⟨nd,h64⟩,q⟩:=h
 obtain ⟨u,rfl,e2⟩:=rJ r
 cases e2
 obtain ⟨z,lo,xs,rel,o,es,ep,g1,g2,g3,g4,g5,g6⟩:=xI I.hok e
 have hsz:es.size=xs.length:=size_of_entries g4
 have hxl:kvs.length=xs.length:=Paired.length rel
 refine Calls.call_function_entry kind_sorted plain_sorted entry_sorted (args_sorted1 _) ?_
 unfold Builtin.«sorted»
 refine wpAny_bind (m:=checkCount "sorted" 1 1 _) (wpAny_pure ?_)
 refine wpAny_bind (kdu_collect (yw lo es ep) (I.ok.hd hc) ⟨o,g1,g2,g3⟩ (by rw [sizeLine_eq]; omega) fun h' tk acc hk hI=>?_)
 have hacc:acc.toList=xs.map fun x=>Value.ref x.2.1:=by
  apply List.ext_getElem?
  intro i
  rw [Array.getElem?_toList]
  cases hx:xs[i]? with
  | none =>
   have h1:xs.length <= i:=by simpa using hx
   rw [List.getElem?_map,hx,Array.getElem?_eq_none (by rw [hI.1]; omega)]
   rfl
  | some x =>
   have h1:i < xs.length:=(List.getElem?_eq_some_iff.mp hx).1
   obtain ⟨v,hv⟩:∃ v,acc[i]? = some v:=⟨acc[i]'(by rw [hI.1]; omega),by simp [hI.1,hsz,h1]⟩
   have h2:(es[i]?).map (·.key)=some v:=hI.2 i v hv
   rw [entry_at g4 i,hx] at h2
   rw [hv,List.getElem?_map,hx]
   simpa [entryOfKey] using h2.symm
 rw [hacc]
 have I1:Inv X pins σ H { s with heap:=h',toks:=tk }:=I.kept hk
 refine wpAny_bind (wpAny_newList ?_ (by rw [List.length_map,sizeLine_eq]; omega))
 have hoL:(h'.push (seqObj "list" (xs.map fun x=>Value.ref x.2.1).toArray 0)).get? h'.objs.size=some (seqObj "list" (xs.map fun x=>Value.ref x.2.1).toArray 0):=Heap.get?_push_size _ rfl
 refine wpAny_bind (wpAny_holding (wpAny_call_entry slot_list_sort ⟨_,hoL,rfl⟩ entry_list_sort ?body (args_list_sort _)))
 case body =>
  have kk:=yy rel
  refine sh (s:={ s with heap:=h'.push (seqObj "list" (xs.map fun x=>Value.ref x.2.1).toArray 0),toks:=tk }) hoL (ks:=kvs.map (·.1)) (fV (rY kk) (S:=TupI _) fun k v z=>?_) (fun h2=>hne (by simpa using h2)) hi nd (by rw [List.length_map]; omega) fun h4 out c kp ho hR=>?_
  ·obtain ⟨hm,b,rfl,hb⟩:=z
   exact ((I1.kept (t':=tk) fun b o e=>Heap.get?_push_of_some _ e).tupI (hi k hm) hb)
  ·obtain ⟨bs,p1,p2⟩:=uq (hR _ kk)
   have hb:bs.length <= sizeLine:=by
    rw [← iw p1,(nT _).length_eq,List.length_map]
    exact z
   exact ⟨_,rfl,wpAny_pure ⟨_,rfl,.ref h'.objs.size,upd H h'.objs.size (.lst bs),I1.laid (o:=.lst bs) (fun b u e=>kp b u (Nat.ne_of_lt (Heap.lt_size e)) (Heap.get?_push_of_some _ e)) (Nat.le_refl _) ⟨hb,out,c,p2,ho⟩,rfl,q _ bs (I1.hok.fresh (Nat.le_refl _)) p1⟩⟩
end
end L2
namespace DL
open PySem PySem.Spec L2
open PyProof.Rows hiding St
variable [TB]
variable [Frm]
section
variable {X:Cx}
def uL:DSp:=fun ds P=>match ds with
 | [.dT ks _]=>((∀ k∈ks,kP k) /\ (2 <= ks.length->∀ k∈ks,k≠[]) /\ (ks.Nodup /\ ks.length <= 1000)) /\ P (.lst ((srtK ks).map keyD))
 | _=>False
theorem qW (hc:X.calm=true:=by rfl):CallD X (.builtin "sorted") uL:=by
 refine ⟨fun ds P P' f h=>?_,_,si hc,fun {pp} M H ds vs Q lv r h=>?_⟩
 ·unfold uL at h ⊢
  split at h
  ·exact ⟨h.1,f _ h.2⟩
  ·exact h.elim
 ·unfold uL at h
  split at h
  ·rename_i ks es
   obtain ⟨⟨h1,h2,h3,h4⟩,h⟩:=h
   simp only [Reps,Rep] at r
   obtain ⟨x,t,rfl,⟨a,kvs,rfl,_,_,ha,rfl,_⟩,rfl⟩:=r
   rw [List.length_map] at h2 h4
   refine ⟨a,kvs,rfl,ha,h1,h2,⟨h3,h4⟩,fun l bs hl hp=>h _ _ (.new hl) ?_⟩
   simp only [Rep]
   exact ⟨l,bs,rfl,(lv.fresh hl).1,(lv.fresh hl).2,ak,(ut hp).mv (.new hl)⟩
  ·exact h.elim
end
end DL
namespace DL
open PySem PySem.Spec L2
open PyProof.Rows hiding St
variable [TB]
variable [Frm]
section
variable {X:Cx}
end
end DL
namespace My
open PySem L2
def top (i:Nat):Stmt:=PySem.Challenge.pw_othersum_k08_books_put_together.main.body.getD i (.Pass ⟨0,0,0,0⟩)
abbrev cO:Stmt:=top 16
theorem pJ:FnScope ["thing"] ["thing"] (ag cO):=⟨rfl,rfl,rfl,by decide +kernel,rfl,by decide +kernel,by decide +kernel⟩
abbrev cg:Stmt:=top 17
theorem nX:FnScope ["thing","least","most"] ["thing","least","most"] (ag cg):=⟨rfl,rfl,rfl,by decide +kernel,rfl,by decide +kernel,by decide +kernel⟩
abbrev cP:Stmt:=top 18
theorem pK:FnScope ["thing"] ["thing"] (ag cP):=⟨rfl,rfl,rfl,by decide +kernel,rfl,by decide +kernel,by decide +kernel⟩
abbrev cQ:Stmt:=top 19
theorem sc_together:FnScope ["counts","tried","well"] ["counts"] (ag cQ):=⟨rfl,rfl,rfl,by decide +kernel,rfl,by decide +kernel,by decide +kernel⟩
abbrev aM:Stmt:=top 20
theorem fE:FnScope ["many","rows"] ["many","rows"] (ag aM):=⟨rfl,rfl,rfl,by decide +kernel,rfl,by decide +kernel,by decide +kernel⟩
abbrev dU:Stmt:=top 28
theorem sc_book_of:FnScope ["many","marks","rows","pairs"] ["many","marks","rows"] (ag dU):=⟨rfl,rfl,rfl,by decide +kernel,rfl,by decide +kernel,by decide +kernel⟩
abbrev ft:Stmt:=top 29
theorem nY:FnScope ["one","other"] ["one","other"] (ag ft):=⟨rfl,rfl,rfl,by decide +kernel,rfl,by decide +kernel,by decide +kernel⟩
abbrev cR:Stmt:=top 30
theorem sc_gathered:FnScope ["many","pairs","found","kinds","counts","cells"] ["many","pairs"] (ag cR):=⟨rfl,rfl,rfl,by decide +kernel,rfl,by decide +kernel,by decide +kernel⟩
abbrev cS:Stmt:=top 31
theorem pL:FnScope ["counts"] ["counts"] (ag cS):=⟨rfl,rfl,rfl,by decide +kernel,rfl,by decide +kernel,by decide +kernel⟩
abbrev bf:Stmt:=top 32
theorem sc_counts_of_row:FnScope ["row","many","counts"] ["row","many"] (ag bf):=⟨rfl,rfl,rfl,by decide +kernel,rfl,by decide +kernel,by decide +kernel⟩
abbrev ci:Stmt:=top 33
theorem nZ:FnScope ["marks"] ["marks"] (ag ci):=⟨rfl,rfl,rfl,by decide +kernel,rfl,by decide +kernel,by decide +kernel⟩
abbrev cT:Stmt:=top 34
theorem pM:FnScope ["rows","many","marks"] ["rows","many","marks"] (ag cT):=⟨rfl,rfl,rfl,by decide +kernel,rfl,by decide +kernel,by decide +kernel⟩
abbrev fx:Stmt:=top 35
theorem uM:FnScope ["row","many","marks"] ["row","many","marks"] (ag fx):=⟨rfl,rfl,rfl,by decide +kernel,rfl,by decide +kernel,by decide +kernel⟩
abbrev cj:Stmt:=top 36
theorem oa:FnScope ["kinds","marks"] ["kinds","marks"] (ag cj):=⟨rfl,rfl,rfl,by decide +kernel,rfl,by decide +kernel,by decide +kernel⟩
abbrev cU:Stmt:=top 38
theorem pN:FnScope ["_law_script"] ["_law_script"] (ag cU):=⟨rfl,rfl,rfl,by decide +kernel,rfl,by decide +kernel,by decide +kernel⟩
abbrev ck:Stmt:=top 39
theorem sc__law_next:FnScope ["_law_pen_here","_law_many","_law_script","_law_turn","_law_left","_law_cell","_law_number"] ["_law_pen_here","_law_many"] (ag ck):=⟨rfl,rfl,rfl,by decide +kernel,rfl,by decide +kernel,by decide +kernel⟩
abbrev cp:Stmt:=top 40
theorem sc__law_rows:FnScope ["_law_pen_here","_law_many","_law_marks","_law_elder","_law_full","_law_rows_here","_law_size","_law_k","_law_kinds","_law_tried"] ["_law_pen_here","_law_many","_law_marks","_law_elder","_law_full"] (ag cp):=⟨rfl,rfl,rfl,by decide +kernel,rfl,by decide +kernel,by decide +kernel⟩
abbrev cV:Stmt:=top 41
theorem sc__law_due:FnScope ["_law_many","_law_marks","_law_rows_here","_law_found","_law_house","_law_kinds","_law_tried","_law_well","_law_counts","_law_ahead"] ["_law_many","_law_marks","_law_rows_here"] (ag cV):=⟨rfl,rfl,rfl,by decide +kernel,rfl,by decide +kernel,by decide +kernel⟩
abbrev aZ:Stmt:=top 42
theorem sc__law_refused:FnScope ["_law_one","_law_other","_law_caught","error"] ["_law_one","_law_other"] (ag aZ):=⟨rfl,rfl,rfl,by decide +kernel,rfl,by decide +kernel,by decide +kernel⟩
abbrev bD:Stmt:=top 43
theorem sc__law_unlike:FnScope ["_law_pen_here","_law_many","_law_marks","_law_rows_here","_law_way","_law_at"] ["_law_pen_here","_law_many","_law_marks","_law_rows_here"] (ag bD):=⟨rfl,rfl,rfl,by decide +kernel,rfl,by decide +kernel,by decide +kernel⟩
abbrev mG:Stmt:=top 44
theorem sc_law:FnScope ["_law_script","_law_pen_here","_law_many","_law_marks","_law_full","_law_first","_law_second","_law_third","_law_books","_law_due_here","_law_whole","_law_bare","_law_k"] ["_law_script"] (ag mG):=⟨rfl,rfl,rfl,by decide +kernel,rfl,by decide +kernel,by decide +kernel⟩
set_option genInjectivity false in
set_option genSizeOf false in
structure Tx (K:PySem.W.Frag) (mg:Str->Option Value) where
 iH:Addr
 gi:FuncData
 bj:Df K mg "is_whole" cO ["thing"] iH gi
 gc:Addr
 fe:FuncData
 aH:Df K mg "is_within" cg ["thing","least","most"] gc fe
 iI:Addr
 gs:FuncData
 dX:Df K mg "is_count" cP ["thing"] iI gs
 iC:Addr
 gr:FuncData
 dY:Df K mg "together" cQ ["counts"] iC gr
 bQ:Addr
 bH:FuncData
 aU:Df K mg "together_by_house" aM ["many","rows"] bQ bH
 kw:Addr
 iM:FuncData
 ay:Df K mg "book_of" dU ["many","marks","rows"] kw iM
 jz:Addr
 hU:FuncData
 az:Df K mg "beside" ft ["one","other"] jz hU
 fy:Addr
 eF:FuncData
 bT:Df K mg "gathered" cR ["many","pairs"] fy eF
 iF:Addr
 gz:FuncData
 dZ:Df K mg "is_tried" cS ["counts"] iF gz
 dg:Addr
 cI:FuncData
 bA:Df K mg "counts_of_row" bf ["row","many"] dg cI
 gk:Addr
 eY:FuncData
 dl:Df K mg "are_marks" ci ["marks"] gk eY
 iK:Addr
 gA:FuncData
 ee:Df K mg "are_rows" cT ["rows","many","marks"] iK gA
 mL:Addr
 kC:FuncData
 hG:Df K mg "is_row" fx ["row","many","marks"] mL kC
 gv:Addr
 fh:FuncData
 dh:Df K mg "are_kinds" cj ["kinds","marks"] gv fh
 iJ:Addr
 gj:FuncData
 ed:Df K mg "_law_pen" cU ["_law_script"] iJ gj
 eG:Addr
 dF:FuncData
 af:Df K mg "_law_next" ck ["_law_pen_here","_law_many"] eG dF
 gf:Addr
 ff:FuncData
 aV:Df K mg "_law_rows" cp ["_law_pen_here","_law_many","_law_marks","_law_elder","_law_full"] gf ff
 iD:Addr
 gh:FuncData
 bh:Df K mg "_law_due" cV ["_law_many","_law_marks","_law_rows_here"] iD gh
 cy:Addr
 dm:FuncData
 bM:Df K mg "_law_refused" aZ ["_law_one","_law_other"] cy dm
 eI:Addr
 dM:FuncData
 bX:Df K mg "_law_unlike" bD ["_law_pen_here","_law_many","_law_marks","_law_rows_here"] eI dM
 yV:Addr
 vh:FuncData
 Bs:Df K mg "law" mG ["_law_script"] yV vh
 iZ:mg "ValueError" = none
 yW:mg "sum" = none
 bG:mg "tuple" = none
 Bt:mg "any" = none
 wx:mg "all" = none
 iG:mg "range" = none
 aI:mg "isinstance" = none
 Bq:mg "int" = none
 xo:mg "bool" = none
 gU:mg "len" = none
 mM:mg "sorted" = none
 vi:mg "list" = none
 Bp:mg "zip" = none
 eK:Addr
 oG:mg "NoBack" = some (.ref eK)
 ax:Addr
 kB:mg "NoBook" = some (.ref ax)
 dj:Addr
 lH:mg "NoHouse" = some (.ref dj)
 eM:Addr
 oD:mg "NoLead" = some (.ref eM)
 eE:Addr
 oB:mg "NoMark" = some (.ref eE)
 eN:Addr
 oF:mg "NoName" = some (.ref eN)
 de:Addr
 lI:mg "NoRatio" = some (.ref de)
 gg:Addr
 rF:mg "NoRow" = some (.ref gg)
 dc:Addr
 lG:mg "NoShare" = some (.ref dc)
 df:Addr
 lF:mg "NoTable" = some (.ref df)
 eJ:Addr
 oE:mg "NoText" = some (.ref eJ)
 bP:Addr
 iY:mg "NoWeights" = some (.ref bP)
 cw:Addr
 ku:mg "SumError" = some (.ref cw)
 cu:Addr
 kK:mg "TooGreat" = some (.ref cu)
 bB:Tok
 fc:mg "LEAST_HOUSES" = some (.int 2 bB)
 bN:Tok
 fM:mg "MOST_HOUSES" = some (.int 6 bN)
 bY:Tok
 gX:mg "MOST_MARKS" = some (.int 5 bY)
 cG:Tok
 jb:mg "MOST_ROWS" = some (.int 60 cG)
 bW:Tok
 gY:mg "MOST_KINDS" = some (.int 6 bW)
 bZ:Tok
 gZ:mg "MOST_TRIED" = some (.int 1000000000000 bZ)
 oH:Exc K ax
 oC:ExK K ax
 k_ex:PySem.W.exmOne K (.ref ax) (.ref cw)=some true
 k_i:PySem.W.kitOne K (.ref ax) (.ref ax)=some true
 k_v:PySem.W.kitOne K (.ref ax) (.type "ValueError")=some true
 k_a1:PySem.W.kitAny K (.ref ax) [.ref eK,.ref dj,.ref eM,.ref eE,.ref eN,.ref de]=some false
 k_a2:PySem.W.kitAny K (.ref ax) [.ref gg,.ref dc,.ref df,.ref eJ,.ref bP,.ref cu]=some false
open DL
section
variable {P:Program} {w:World} {K:PySem.W.Frag} {mg:Str->Option Value} {base:Heap}
theorem pO (T:Tx K mg):FnOk P w K mg base CX0 1 T.iJ T.gj ["_law_script"] (wD K):=by
 refine T.ed.F.ok pN (fun vs H Q E h=>?_) (fun cdv A outer s H vs Q E hr h=>?_)
 ·obtain ⟨a,ns,rfl,_⟩:=h
  rfl
 ·obtain ⟨a,ns,rfl,hs,k⟩:=h
  refine ⟨_,(fN (mX (sQ (cH (pv 0) (cH bE (cH bE fF)))))),?_⟩
  refine ⟨_,rfl,(by show (3:Nat) <= sizeLine; decide),fun p hp=>?_⟩
  refine k p _ hp ⟨ak,?_,Int.le_refl 0⟩ (qm hp)
  rcases hs with ⟨o,e⟩ | e
  ·exact .inl ⟨o,ic hp e⟩
  ·exact .inr e
theorem og (T:Tx K mg):FnOk P w K mg base CX0 1 T.eG T.dF ["_law_pen_here","_law_many"] (tG K):=by
 refine T.af.F.ok sc__law_next (fun vs H Q E h=>?_) (fun cdv A outer s H vs Q E hr h=>?_)
 ·obtain ⟨p,a,ns,t,l,m,rfl,_⟩:=h
  rfl
 ·obtain ⟨p,a,ns,t,l,m,rfl,pen,m1,m2,k⟩:=h
  refine ⟨_,(bv (mY (pv 0) (zV rfl (ji (lL (i:=2) sc__law_next.nd rfl (Or.inl rfl)) (ji (lL (i:=3) sc__law_next.nd rfl (Or.inl rfl)) (ji (lL (i:=4) sc__law_next.nd rfl (Or.inl rfl)) sK)))))
   (bv (vm (jD BD (pv 4) bE (aS _)) (bv (mY (cK jC (pv 3) bE) (sL (pv 0) bE lN))
   (bv (vm (PW.pt (zg (jD BG (pv 3) (jj cA rfl T.gU PySem.boot_len (cH (pv 2) fF)) (aS _)) (wy (jD BE (vv lM (pv 2) (pv 3) (fun _ _=>rfl)) (cK wz bE bE) (aS _))))) (bv (gC (i:=5) sc__law_next.nd rfl (Or.inl rfl) bE)
   (bv (vm (jD zy (jj cA rfl T.gU PySem.boot_len (cH (pv 2) fF)) bE (aS _)) (fN (gC (i:=5) sc__law_next.nd rfl (Or.inl rfl) (cK iN (vv lM (pv 2) (cK iN (pv 3) (jj cA rfl T.gU PySem.boot_len (cH (pv 2) fF))) (fun _ _=>rfl)) bE))) jB)
   (bv (gC (i:=6) sc__law_next.nd rfl (Or.inl rfl) (cK iN (cK hZ (cK jC (cK jC (pv 5) (cK hZ bE (pv 3))) bE) bE) bE))
   (bv (gC (i:=6) sc__law_next.nd rfl (Or.inl rfl) (cK iN (cK jC (cK jC (cK hZ (pv 6) (pv 6)) (cK hZ bE (pv 3))) bE) bE))
   (fN (mX (cK iN (cK lU (cK iN (cK hZ (pv 6) (cK jC (pv 6) bE)) bE) bE) (pv 1)))))))) jB)
   (fN (gC (i:=4) sc__law_next.nd rfl (Or.inl rfl) (vv lM (pv 2) (pv 3) (fun _ _=>rfl)))))) jB)
   (bv (mY (cK lU (pv 4) (pv 1)) (sL (pv 0) bE lN))
   (fN (mX (cK iN (pv 4) (pv 1))))))),?_⟩
  have ht:=pen.t0
  have hm:(0:Int) < m:=by omega
  -- the pen's three parts
  refine ⟨_,rfl,p,_,rfl,pen.lst,rfl,_,_,rfl,_,_,rfl,_,_,rfl,rfl,?_⟩
  -- if left == 0
  refine ⟨_,rfl,rfl,_,rfl,?_⟩
  refine ite2 (fun hl=>?_) (fun hl=>?_)
  ·-- pen[1]=turn + 1
   refine ⟨_,rfl,_,_,rfl,rfl,_,rfl,p,_,1,1,rfl,rfl,pen.lst,rfl,?_⟩
   have pen1:Pen K (upd H p (.lst [.ref a,.int (t + 1),.int l])) p a ns (t + 1) l:=pen.put (by omega)
   have sq:=pen1.scr.sq
   -- if turn >= len(script) or script[turn] < 10 ** 18
   refine ⟨_,rfl,_,rfl,a,_,rfl,.inl sq,_,_,rfl,rfl,_,rfl,?_⟩
   refine ite2 (fun h1=>iteT ?_) (fun h1=>⟨_,rfl,_,rfl,a,_,t,_,rfl,rfl,sq,tE ht (by simp only [decide_eq_true_eq,List.length_map] at h1; omega),_,_,rfl,rfl,⟨by decide,by decide,by decide⟩,_,_,rfl,rfl,_,rfl,ite2 (fun h2=>?_) (fun h2=>?_)⟩)
   rotate_left 2
   ·-- left=script[turn]; pen[2]=left // many; return left % many
    simp only [decide_eq_true_eq,List.length_map] at h1
    refine ⟨_,rfl,_,rfl,a,_,t,_,rfl,rfl,sq,tE ht (by omega),?_⟩
    refine ⟨_,rfl,_,rfl,_,_,rfl,rfl,⟨hm,tH (by omega) (by omega)⟩,_,rfl,p,_,2,2,rfl,rfl,pen1.lst,rfl,?_⟩
    refine ⟨_,rfl,_,rfl,_,_,rfl,rfl,hm,?_⟩
    exact k _ (t + 1) _ _ (Int.emod_nonneg _ (by omega)) (Int.emod_lt_of_pos _ hm) (pen1.put (by omega)) (SBut.upd.trans SBut.upd)
   all_goals
    -- cell = ..; if len(script) > 0: cell=script[turn % len(script)] % ..
    refine ⟨_,rfl,a,_,rfl,.inl sq,_,_,rfl,rfl,_,rfl,?_⟩
    refine ite2 (fun h3=>?_) (fun h3=>?_)
    ·simp only [decide_eq_true_eq,List.length_map] at h3
     refine ⟨_,rfl,_,rfl,_,rfl,a,_,rfl,.inl sq,_,_,rfl,rfl,(by show (0:Int) < ((ns.map V.int).length:Int); rw [List.length_map]; omega),a,_,_,_,rfl,rfl,sq,tE (by rw [List.length_map]; exact Int.emod_nonneg _ (by omega)) (by rw [List.length_map]; exact Int.emod_lt_of_pos _ (by omega)),_,_,rfl,rfl,mpos,?_⟩
     refine ⟨_,rfl,_,rfl,_,_,rfl,rfl,vG,_,_,rfl,rfl,_,_,rfl,rfl,_,_,rfl,rfl,zW,_,_,rfl,rfl,mpos,?_⟩
     refine ⟨_,rfl,_,rfl,_,_,rfl,rfl,lV (by decide) (by decide),_,rfl,_,_,rfl,rfl,vG,_,_,rfl,rfl,_,_,rfl,rfl,_,_,rfl,rfl,mpos,?_⟩
     refine ⟨_,rfl,_,rfl,_,_,rfl,rfl,_,_,rfl,rfl,lV (by decide) (by decide),_,_,rfl,rfl,mpos,_,_,rfl,rfl,⟨by decide,jK (by decide) (by decide)⟩,_,rfl,_,_,rfl,rfl,hm,?_⟩
     exact k _ (t + 1) _ _ (Int.emod_nonneg _ (by omega)) (Int.emod_lt_of_pos _ hm) pen1 SBut.upd
    ·refine ⟨_,rfl,_,rfl,_,_,rfl,rfl,vG,_,_,rfl,rfl,_,_,rfl,rfl,_,_,rfl,rfl,zW,_,_,rfl,rfl,mpos,?_⟩
     refine ⟨_,rfl,_,rfl,_,_,rfl,rfl,lV (by decide) (by decide),_,rfl,_,_,rfl,rfl,vG,_,_,rfl,rfl,_,_,rfl,rfl,_,_,rfl,rfl,mpos,?_⟩
     refine ⟨_,rfl,_,rfl,_,_,rfl,rfl,_,_,rfl,rfl,lV (by decide) (by decide),_,_,rfl,rfl,mpos,_,_,rfl,rfl,⟨by decide,jK (by decide) (by decide)⟩,_,rfl,_,_,rfl,rfl,hm,?_⟩
     exact k _ (t + 1) _ _ (Int.emod_nonneg _ (by omega)) (Int.emod_lt_of_pos _ hm) pen1 SBut.upd
  ·-- pen[2]=left // many; return left % many
   refine ⟨_,rfl,_,rfl,_,_,rfl,rfl,⟨hm,tH (by omega) (by omega)⟩,_,rfl,p,_,2,2,rfl,rfl,pen.lst,rfl,?_⟩
   refine ⟨_,rfl,_,rfl,_,_,rfl,rfl,hm,?_⟩
   exact k _ t _ _ (Int.emod_nonneg _ (by omega)) (Int.emod_lt_of_pos _ hm) (pen.put ht) SBut.upd
theorem aB (T:Tx K mg):FnOk P w K mg base CX0 1 T.eG T.dF ["_law_pen_here","_law_many"] (spD K 2 rX):=ye (og T)
theorem aC:cZ rX:=tX
def AZ:D->Bool
 | .int _=>true
 | _=>false
def gW:DSp:=fun ds Q=>match ds with
 | [d]=>tU d=true /\ Q (.bl (AZ d))
 | _=>False
theorem iy:cZ gW:=fun ds P P' f h=>by
 unfold gW at h ⊢
 split at h
 ·exact ⟨h.1,f _ h.2⟩
 ·exact h.elim
theorem iz (T:Tx K mg):FnOk P w K mg base CX0 1 T.iH T.gi ["thing"] (spD K 1 gW):=by
 refine fnD (k:=0) T.bj.F pJ (fun cdv A outer s H E hr=>(ao (aO (tO (aw tV rfl T.aI rfl (aa (ad 0 (pv 0)) (aa (kN (n:="int") rfl T.Bq rfl) ae))) (tN (wE (aw rW rfl T.aI rfl (aa (ad 0 (pv 0)) (aa (kN (n:="bool") rfl T.xo rfl) ae))))))))) (fun ds Q hl h=>?_)
 unfold gW at h
 split at h
 case h_2=>exact h.elim
 rename_i d
 obtain ⟨h1,h⟩:=h
 refine ⟨rfl,h1,?_⟩
 cases d with
 | int i=>exact Br.t ⟨rfl,h1,h⟩
 | bl i=>exact Br.t ⟨rfl,h1,h⟩
 | _=>exact Br.f h
def aT (c:Int×Int):D:=.tup [.int c.1,.int c.2]
def gTog:DSp:=fun ds Q=>match ds with
 | [.lst xs]=>∃ cs:List (Int×Int),xs=cs.map aT /\ cs.length <= 1000 /\ Q (.tup [.int (cs.map (·.1)).sum,.int (cs.map (·.2)).sum])
 | [.tup xs]=>∃ cs:List (Int×Int),xs=cs.map aT /\ cs.length <= 1000 /\ Q (.tup [.int (cs.map (·.1)).sum,.int (cs.map (·.2)).sum])
 | _=>False
theorem sj:cZ gTog:=fun ds P P' f h=>by
 unfold gTog at h ⊢
 split at h
 ·obtain ⟨cs,a,b,h⟩:=h
  exact ⟨cs,a,b,f _ h⟩
 ·obtain ⟨cs,a,b,h⟩:=h
  exact ⟨cs,a,b,f _ h⟩
 ·exact h.elim
theorem Ba (cs:List (Int×Int)):(cs.map aT).map (fun d=>match d with | .tup (x::_)=>x | _=>.non)=(cs.map (·.1)).map D.int:=by
 rw [List.map_map,List.map_map]; rfl
theorem yL (cs:List (Int×Int)):(cs.map aT).map (fun d=>match d with | .tup [_,x]=>x | _=>.non)=(cs.map (·.2)).map D.int:=by
 rw [List.map_map,List.map_map]; rfl
theorem Cs {cs:List (Int×Int)} {s:Sl} {Q:List D->Prop} (hc:cs.length <= 1000) (hq:Q ((cs.map (·.1)).map D.int)):ej (kZ 0) eQ (dOp gIx (dVar 0) (dC (.int 0))) (cs.map aT) [] [s] Q:=by
 refine cE (fun d=>match d with | .tup (x::_)=>x | _=>.non) (fun ρ=>∃ s,ρ=[s]) ?_ (fun d hd ρ Y Z hN hY=>?_) _ ⟨_,rfl⟩ ?_
 ·rw [List.length_map]; exact Nat.le_trans hc (by decide)
 ·obtain ⟨s,rfl⟩:=hN
  obtain ⟨c,_,rfl⟩:=List.mem_map.mp hd
  exact Br.t (hY _ ⟨_,rfl⟩)
 ·rw [Ba]; exact hq
theorem Ct {cs:List (Int×Int)} {s:Sl} {Q:List D->Prop} (hc:cs.length <= 1000) (hq:Q ((cs.map (·.2)).map D.int)):ej (kZ 0) eQ (dOp gIx (dVar 0) (dC (.int 1))) (cs.map aT) [] [s] Q:=by
 refine cE (fun d=>match d with | .tup [_,x]=>x | _=>.non) (fun ρ=>∃ s,ρ=[s]) ?_ (fun d hd ρ Y Z hN hY=>?_) _ ⟨_,rfl⟩ ?_
 ·rw [List.length_map]; exact Nat.le_trans hc (by decide)
 ·obtain ⟨s,rfl⟩:=hN
  obtain ⟨c,_,rfl⟩:=List.mem_map.mp hd
  exact Br.t (hY _ ⟨_,rfl⟩)
 ·rw [yL]; exact hq
theorem sk (T:Tx K mg):FnOk P w K mg base CX0 1 T.iC T.gr ["counts"] (spD K 1 gTog):=by
 refine fnD (k:=0) T.dY.F sc_together (fun cdv A outer s H E hr=>(aq (bx (i:=1) sc_together.nd rfl (by first | exact Or.inl rfl | exact Or.inr rfl) (aw wK rfl T.yW PyProof.Rows.boot_sum (aa (aE (PCD.pld (bo (N':=["count"]) rfl rfl (by decide +kernel) rfl (.own .nil) (by decide +kernel) (lr (ad 0 (pv 0))) (fun B=>(aJ (i:=0) (show List.Nodup (α:=PySem.Str) ["count"] by decide +kernel) rfl (by first | exact Or.inl rfl | exact Or.inr rfl))) (fun B=>bu) (fun B=>(aK (ad 0 (pv 0)) ah (fun _ _=>rfl)))))) ae)))
   (aq (bx (i:=2) sc_together.nd rfl (by first | exact Or.inl rfl | exact Or.inr rfl) (aw wK rfl T.yW PyProof.Rows.boot_sum (aa (aE (PCD.pld (bo (N':=["count"]) rfl rfl (by decide +kernel) rfl (.own .nil) (by decide +kernel) (lr (ad 0 (pv 0))) (fun B=>(aJ (i:=0) (show List.Nodup (α:=PySem.Str) ["count"] by decide +kernel) rfl (by first | exact Or.inl rfl | exact Or.inr rfl))) (fun B=>bu) (fun B=>(aK (ad 0 (pv 0)) ah (fun _ _=>rfl)))))) ae)))
   (ao (aO (bU (aa (ad 1 (pv 1)) (aa (ad 2 (pv 2)) ae)))))))) (fun ds Q hl h=>?_)
 unfold gTog at h
 split at h
 case h_3=>exact h.elim
 all_goals
  obtain ⟨cs,rfl,hc,h⟩:=h
  refine Cs hc (pC ?_)
  refine Ct hc (pC ?_)
  exact ⟨sz,h⟩
structure Cnt (n:Nat) (t w:Int):Prop where
 lo:0 <= w
 hi:w <= t
 bt:Bd n t
 bw:Bd n w
theorem Cnt.mono {m n:Nat} {t w:Int} (h:Cnt m t w) (l:m <= n):Cnt n t w:=⟨h.lo,h.hi,h.bt.mono l,h.bw.mono l⟩
theorem uN {n:Nat} {t w:Int} (lo:0 <= w) (hi:w <= t) (b:Bd n t):Cnt n t w:=⟨lo,hi,b,b.le (by omega)⟩
abbrev Row:=List (Int×Int)
def rowD (r:Row):D:=.tup (r.map aT)
def RowN (n m:Nat) (r:Row):Prop:=r.length=m /\ ∀ c∈r,Cnt n c.1 c.2
abbrev yM (m:Nat) (r:Row):Prop:=RowN 200 m r
theorem RowN.up {n m:Nat} {r:Row} (o:RowN n m r) (h:n <= 200:=by decide):yM m r:=⟨o.1,fun c hc=>(o.2 c hc).mono h⟩
def at_ (r:Row) (h:Nat):Int×Int:=r.getD h (0,0)
def col (t:List Row) (h:Nat):List (Int×Int):=t.map fun r=>at_ r h
def sumP (cs:List (Int×Int)):Int×Int:=((cs.map (·.1)).sum,(cs.map (·.2)).sum)
def sums (t:List Row) (m:Nat):Row:=(List.range m).map fun h=>sumP (col t h)
theorem Bb {n m:Nat} {r:Row} (o:RowN n m r) {h:Nat} (hh:h < m):r[h]? = some (at_ r h) /\ Cnt n (at_ r h).1 (at_ r h).2:=by
 have hl:h < r.length:=by rw [o.1]; exact hh
 have e:r[h]? = some (at_ r h):=by
  unfold at_
  rw [List.getD_eq_getElem?_getD]
  simp [hl]
 exact ⟨e,o.2 _ (List.mem_of_getElem? e)⟩
theorem Bc {n m:Nat} {r:Row} (o:RowN n m r) {h:Int} {Q:D->Prop} (h0:0 <= h) (h1:h < m) (q:Q (aT (at_ r h.toNat))):opt (atI (r.map aT) h) Q:=by
 refine tZ h0 ?_ q
 rw [List.getElem?_map,(Bb o (h:=h.toNat) (by omega)).1]
 rfl
def wf:DSp:=fun ds Q=>match ds with
 | [.int x,.int lo,.int hi]=>(lo <= x /\ x <= hi) /\ Q (.bl true)
 | _=>False
theorem eA:cZ wf:=fun ds P P' f h=>by
 unfold wf at h ⊢
 split at h
 ·exact ⟨h.1,f _ h.2⟩
 ·exact h.elim
theorem eB (T:Tx K mg):FnOk P w K mg base CX0 2 T.gc T.fe ["thing","least","most"] (spD K 3 wf):=by
 refine fnD (k:=1) T.aH.F nX (fun cdv A outer s H E hr=>(ao (aO (tO (ai (iz T) iy (hr.mono (by decide)) rfl T.bj.m T.bj.F.kp T.bj.b (aa (ad 0 (pv 0)) ae)) (tN (qu tS tS (ad 1 (pv 1)) (ad 0 (pv 0)) (ad 2 (pv 2)))))))) (fun ds Q hl h=>?_)
 unfold wf at h
 split at h
 case h_2=>exact h.elim
 rename_i x lo hi
 obtain ⟨⟨h1,h2⟩,h⟩:=h
 have h':Q (.bl (decide (x <= hi))):=by rw [decide_eq_true h2]; exact h
 exact ⟨rfl,rfl,Br.t (Br.dt h1 h')⟩
theorem wg {m:Nat} {t:List Row} (ho:∀ r∈t,yM m r) (hl:t.length <= 1000) {h:Int} (h0:0 <= h) (h1:h < m) {s:Sl} {Q:List D->Prop} (q:Q ((col t h.toNat).map aT)) :
  ej (kZ 0) eQ (dOp gIx (dVar 0) (dVar 1)) (t.map rowD) [] [s,.val (.int h)] Q:=by
 refine bz (fun pre acc ρ=>∃ t0 t1:List Row,t=t0++t1 /\ pre=t0.map rowD /\ acc=(col t0 h.toNat).map aT /\ ∃ s,ρ=[s,.val (.int h)]) (fun acc ρ hN=>?_) (fun pre d post acc ρ Y e hN hY=>?_) _ ⟨[],t,rfl,rfl,rfl,_,rfl⟩
 ·obtain ⟨t0,t1,rfl,e,rfl,_⟩:=hN
  have:t1=[]:=by
   have:=congrArg List.length e
   simp at this
   exact this
  subst this
  simpa using q
 ·obtain ⟨t0,t1,rfl,rfl,rfl,s,rfl⟩:=hN
  rw [List.map_append] at e
  have e:=List.append_cancel_left e
  cases t1 with
  | nil=>simp at e
  | cons r t1 =>
   rw [List.map_cons] at e
   injection e with e1 e2
   subst e1
   have o:=ho r (by simp)
   refine Br.t (Bc o h0 h1 ⟨?_,hY _ _ ⟨t0++[r],t1,by simp,by simp,by simp [col],_,rfl⟩⟩)
   rw [List.length_map]
   unfold col
   rw [List.length_map]
   have:t0.length <= 1000:=by rw [List.length_append] at hl; omega
   exact Nat.lt_of_le_of_lt this (by decide)
def gTbh:DSp:=fun ds Q=>match ds with
 | [.int m,.lst xs]=>∃ (n:Nat) (t:List Row),m=n /\ xs=t.map rowD /\ (n <= 6 /\ t.length <= 1000 /\ ∀ r∈t,yM n r) /\ Q (rowD (sums t n))
 | _=>False
theorem fW:cZ gTbh:=fun ds P P' f h=>by
 unfold gTbh at h ⊢
 split at h
 ·obtain ⟨n,t,a,b,c,h⟩:=h
  exact ⟨n,t,a,b,c,f _ h⟩
 ·exact h.elim
theorem cF:∀ (n:Nat) (lo:Int),jg lo n=(List.range n).map fun (i:Nat)=>D.int (lo + i)
 | 0,_=>rfl
 | n + 1,lo=>by
  rw [List.range_succ_eq_map,List.map_cons,List.map_map,jg,cF n (lo + 1)]
  congr 1
  ·simp
  ·apply List.map_congr_left
   intro i _
   simp only [Function.comp]
   congr 1
   omega
theorem fX (T:Tx K mg):FnOk P w K mg base CX0 2 T.bQ T.bH ["many","rows"] (spD K 2 gTbh):=by
 refine fnD (k:=1) T.aU.F fE (fun cdv A outer s H E hr=>(ao (aO (bK cx rfl T.bG rfl (aa (aE (PCD.pld (bo (N':=["house","rows"]) rfl rfl (by decide +kernel) rfl (.own (.cap (j:=1) rfl (by first | exact Or.inl rfl | exact Or.inr rfl) rfl .nil)) (by decide +kernel) (eP rfl T.iG (aa (ad 0 (pv 0)) ae)) (fun B=>(aJ (i:=0) (show List.Nodup (α:=PySem.Str) ["house","rows"] by decide +kernel) rfl (by first | exact Or.inl rfl | exact Or.inr rfl))) (fun B=>bu) (fun B=>(ai (sk T) sj (hr.mono (by decide)) rfl T.dY.m T.dY.F.kp T.dY.b (aa (aE (PCD.pld (bo (N':=["row","house"]) rfl rfl (by decide +kernel) rfl (.own (.cap (j:=0) rfl (by first | exact Or.inl rfl | exact Or.inr rfl) rfl .nil)) (by decide +kernel) (dH (ad 1 (pv 1))) (fun B=>(aJ (i:=0) (show List.Nodup (α:=PySem.Str) ["row","house"] by decide +kernel) rfl (by first | exact Or.inl rfl | exact Or.inr rfl))) (fun B=>bu) (fun B=>(aK (ad 0 (pv 0)) (ad 1 (pv 1)) (fun _ _=>rfl)))))) ae)))))) ae))))) (fun ds Q hl h=>?_)
 unfold gTbh at h
 split at h
 case h_2=>exact h.elim
 obtain ⟨n,t,rfl,rfl,⟨h6,h1000,ho⟩,h⟩:=h
 refine ⟨⟨by omega,by omega⟩,?_⟩
 rw [Int.toNat_natCast]
 refine cE (fun d=>match d with | .int i=>aT (sumP (col t i.toNat)) | _=>.non) (fun ρ=>∃ s,ρ=[s,.val (.lst (t.map rowD))]) ?_ (fun d hd ρ Y Z hN hY=>?_) _ ⟨_,rfl⟩ ?_
 ·rw [cF,List.length_map,List.length_range]
  exact Nat.le_trans h6 (by decide)
 ·obtain ⟨s,rfl⟩:=hN
  rw [cF] at hd
  obtain ⟨i,hi,rfl⟩:=List.mem_map.mp hd
  have hi:=List.mem_range.mp hi
  refine Br.t (wg ho h1000 (by omega) (by omega) ⟨rfl,col t (0 + (i:Int)).toNat,rfl,?_,hY _ ⟨_,rfl⟩⟩)
  unfold col
  rw [List.length_map]
  exact h1000
 ·show Q (.tup (List.map _ (jg 0 n)))
  have e:(jg 0 n).map (fun d=>match d with | .int i=>aT (sumP (col t i.toNat)) | _=>.non)=(sums t n).map aT:=by
   rw [cF,List.map_map]
   unfold sums
   rw [List.map_map]
   apply List.map_congr_left
   intro i _
   show aT (sumP (col t (0 + (i:Int)).toNat))=aT (sumP (col t i))
   congr 3
   omega
  rw [e]
  exact h
def kI (ks:List Int):List Key:=ks.map .inl
def cq (ks:List Int):D:=.tup (ks.map .int)
theorem dJ (ks:List Int):cq ks=keyD (kI ks):=by
 unfold keyD kI cq
 rw [List.map_map]
 rfl
theorem fL {a b:List Int} (h:kI a=kI b):a=b:=by
 unfold kI at h
 exact (List.map_inj_right (fun _ _ e=>Sum.inl.inj e)).mp h
theorem sr {a b:List Int}:(kI a=kI b)↔a=b:=⟨fL,fun e=>by rw [e]⟩
theorem mH (ks:List Int):kP (kI ks):=fun x hx=>by
 obtain ⟨i,_,rfl⟩:=List.mem_map.mp hx
 exact ⟨i,rfl⟩
def addG (k:List Int) (r:Row):List (List Int×List Row)->List (List Int×List Row)
 | []=>[(k,[r])]
 | p::t=>if p.1=k then (p.1,p.2++[r])::t else p::addG k r t
def grp (ps:List (List Int×Row)):List (List Int×List Row):=ps.foldl (fun g p=>addG p.1 p.2 g) []
theorem mI (ps:List (List Int×Row)) (p:List Int×Row):grp (ps++[p])=addG p.1 p.2 (grp ps):=by
 unfold grp
 rw [List.foldl_append]
 rfl
def emb (g:List (List Int×List Row)):List (List Key×List D):=g.map fun p=>(kI p.1,p.2.map rowD)
def embV (g:List (List Int×List Row)):List (List Key×D):=g.map fun p=>(kI p.1,.lst (p.2.map rowD))
theorem pP (k:List Int) (r:Row):∀ g,kQ (kI k) (rowD r) (emb g)=emb (addG k r g)
 | []=>rfl
 | p::t=>by
  show kQ (kI k) (rowD r) ((kI p.1,p.2.map rowD)::emb t)=_
  unfold kQ addG
  by_cases e:p.1=k
  ·rw [if_pos (show (kI p.1,p.2.map rowD).1=kI k by rw [e]),if_pos e]
   simp [emb]
  ·rw [if_neg (show ¬ (kI p.1,p.2.map rowD).1=kI k from fun z=>e (fL z)),if_neg e,pP k r t]
   rfl
theorem jq (k:List Int) (r:Row):∀ g:List (List Int×List Row),(addG k r g).map (·.1)=if k∈g.map (·.1) then g.map (·.1) else g.map (·.1)++[k]
 | []=>rfl
 | p::t=>by
  unfold addG
  by_cases e:p.1=k
  ·rw [if_pos e,if_pos (by simp [e])]
   rfl
  ·rw [if_neg e,List.map_cons,jq k r t]
   by_cases m:k∈t.map (·.1)
   ·rw [if_pos m,if_pos (by rw [List.map_cons]; exact List.mem_cons_of_mem _ m),List.map_cons]
   ·rw [if_neg m,if_neg (by rw [List.map_cons]; intro z; rcases List.mem_cons.mp z with z | z; exact e z.symm; exact m z),List.map_cons]
    rfl
structure GOk (C:List Int->Prop) (R:Row->Prop) (n:Nat) (g:List (List Int×List Row)):Prop where
 nd:(g.map (·.1)).Nodup
 it:∀ p∈g,C p.1 /\ p.2≠[] /\ p.2.length <= n /\ ∀ r∈p.2,R r
 len:g.length <= n
theorem GOk.add {C:List Int->Prop} {R:Row->Prop} {n:Nat} {g:List (List Int×List Row)} (h:GOk C R n g) {k:List Int} {r:Row} (hk:C k) (hr:R r):GOk C R (n + 1) (addG k r g):=by
 refine ⟨?_,?_,?_⟩
 ·rw [jq]
  split
  ·exact h.nd
  ·rename_i m
   refine List.nodup_append.mpr ⟨h.nd,by simp,fun a ha b hb e=>?_⟩
   rw [List.mem_singleton.mp hb] at e
   exact m (e ▸ ha)
 ·have key:∀ g:List (List Int×List Row),(∀ p∈g,C p.1 /\ p.2≠[] /\ p.2.length <= n /\ ∀ r∈p.2,R r)->∀ p∈addG k r g,C p.1 /\ p.2≠[] /\ p.2.length <= n + 1 /\ ∀ r∈p.2,R r:=by
   intro g
   induction g with
   | nil =>
    intro _ p hp
    rw [List.mem_singleton.mp hp]
    exact ⟨hk,by simp,by simp,fun x hx=>by rw [List.mem_singleton.mp hx]; exact hr⟩
   | cons q t ih =>
    intro h p hp
    unfold addG at hp
    split at hp
    ·rcases List.mem_cons.mp hp with rfl | hp
     ·have:=h q List.mem_cons_self
      refine ⟨this.1,by simp,by simp; exact this.2.2.1,fun x hx=>?_⟩
      rcases List.mem_append.mp hx with hx | hx
      ·exact this.2.2.2 x hx
      ·rw [List.mem_singleton.mp hx]; exact hr
     ·have:=h p (List.mem_cons_of_mem _ hp)
      exact ⟨this.1,this.2.1,Nat.le_succ_of_le this.2.2.1,this.2.2.2⟩
    ·rcases List.mem_cons.mp hp with rfl | hp
     ·have:=h p List.mem_cons_self
      exact ⟨this.1,this.2.1,Nat.le_succ_of_le this.2.2.1,this.2.2.2⟩
     ·exact ih (fun p hp=>h p (List.mem_cons_of_mem _ hp)) p hp
  exact key g h.it
 ·have:=congrArg List.length (jq k r g)
  rw [List.length_map] at this
  rw [this]
  split
  ·rw [List.length_map]; exact Nat.le_succ_of_le h.len
  ·rw [List.length_append,List.length_map]; simp; exact h.len
theorem uO {C:List Int->Prop} {R:Row->Prop}:∀ (ps:List (List Int×Row)),(∀ p∈ps,C p.1 /\ R p.2)->GOk C R ps.length (grp ps):=by
 intro ps
 generalize hn:ps.length=n
 induction n generalizing ps with
 | zero =>
  intro _
  have:ps=[]:=List.length_eq_zero_iff.mp hn
  subst this
  exact ⟨List.nodup_nil,fun p hp=>by simp [grp] at hp,Nat.zero_le _⟩
 | succ n ih =>
  intro h
  obtain ⟨qs,p,rfl⟩:∃ qs p,ps=qs++[p]:=⟨ps.dropLast,ps.getLast (by intro z; rw [z] at hn; simp at hn),(List.dropLast_concat_getLast _).symm⟩
  rw [mI]
  have hp:=h p (by simp)
  exact (ih qs (by simp at hn; exact hn) fun q hq=>h q (by simp [hq])).add hp.1 hp.2
def bL (g:List (List Int×List Row)) (k:List Int):List Row:=((g.find? fun p=>decide (p.1=k)).map (·.2)).getD []
theorem uP {g:List (List Int×List Row)} {k:List Int} (h:k∈g.map (·.1)):∃ p∈g,p.1=k /\ bL g k=p.2 /\ fC (embV g) (kI k)=some (.lst (p.2.map rowD)):=by
 induction g with
 | nil=>simp at h
 | cons q t ih =>
  by_cases e:q.1=k
  ·refine ⟨q,List.mem_cons_self,e,?_,?_⟩
   ·unfold bL
    rw [List.find?_cons_of_pos (by simpa using e)]
    rfl
   ·unfold fC embV
    rw [List.map_cons,List.find?_cons_of_pos (by simpa [sr] using e)]
    rfl
  ·have h':k∈t.map (·.1):=by
    rw [List.map_cons] at h
    rcases List.mem_cons.mp h with h | h
    ·exact absurd h.symm e
    ·exact h
   obtain ⟨p,h1,h2,h3,h4⟩:=ih h'
   refine ⟨p,List.mem_cons_of_mem _ h1,h2,?_,?_⟩
   ·unfold bL at h3 ⊢
    rw [List.find?_cons_of_neg (by simpa using e)]
    exact h3
   ·unfold fC embV at h4 ⊢
    rw [List.map_cons,List.find?_cons_of_neg (by simpa [sr] using e)]
    exact h4
def bp (ks:List (List Int)):List (List Int):=if ks.length < 2 then ks else (kRun (fun i j=>lexI ((ks.map kI).getD i []) ((ks.map kI).getD j [])) (PySem.W.kas_sort ks.length)).toList.map fun i=>ks.getD i []
theorem kc (ks:List (List Int)) (i:Nat):(ks.map kI).getD i []=kI (ks.getD i []):=by
 rw [List.getD_eq_getElem?_getD,List.getD_eq_getElem?_getD,List.getElem?_map]
 cases ks[i]? <;> rfl
theorem pQ (ks:List (List Int)):srtK (ks.map kI)=(bp ks).map kI:=by
 unfold srtK bp
 rw [List.length_map]
 split
 ·rfl
 ·rw [List.map_map]
  apply List.map_congr_left
  intro i _
  exact kc ks i
theorem aN (ks:List (List Int)):(bp ks).Perm ks:=by
 unfold bp
 split
 ·exact List.Perm.refl _
 ·exact nS (KGood.end _ _ (gN (by omega)))
def cb (c:List Int×Row):D:=.tup [cq c.1,rowD c.2]
def dE (m:Nat) (ps:List (List Int×Row)):List (List Int×Row):=(bp ((grp ps).map (·.1))).map fun k=>(k,sums (bL (grp ps) k) m)
def xb (r:Row):Prop:=∃ c∈r,0 < c.1
theorem Be {ns:List Int} (h:∀ n∈ns,0 <= n):∀ x∈ns,x <= ns.sum /\ 0 <= ns.sum:=by
 induction ns with
 | nil=>intro x hx; simp at hx
 | cons a r ih =>
  intro x hx
  have h0:=h a List.mem_cons_self
  have hr:0 <= r.sum:=by
   cases r with
   | nil=>simp
   | cons b t=>exact (ih (fun n hn=>h n (List.mem_cons_of_mem _ hn)) b List.mem_cons_self).2
  rw [List.sum_cons]
  rcases List.mem_cons.mp hx with rfl | hx
  ·omega
  ·have:=(ih (fun n hn=>h n (List.mem_cons_of_mem _ hn)) x hx).1
   omega
theorem Bf (ds:List D):fzOs (ds.map O.val)=ds:=by
 induction ds with
 | nil=>rfl
 | cons d r ih=>simp only [List.map_cons,fzOs,fzO,ih]
theorem Bg (g:List (List Int×List Row)):fzO (dlO (emb g)) = .dT ((embV g).map (·.1)) ((embV g).map (·.2)):=by
 unfold dlO emb embV
 simp only [fzO]
 refine congr (congrArg D.dT ?_) ?_
 ·rw [List.map_map,List.map_map]
  rfl
 ·rw [ma,List.map_map,List.map_map,List.map_map]
  apply List.map_congr_left
  intro p _
  simp only [Function.comp,fzO,Bf]
theorem pR {l:Nat} {ks:List (List Int)} (nd:ks.Nodup) (hl:∀ k∈ks,k.length=l) (h2:2 <= ks.length):∀ k∈ks,k≠[]:=by
 intro k hk z
 subst z
 have l0:l=0:=(hl [] hk).symm
 subst l0
 match ks,nd,hl,h2 with
 | a::b::r,nd,hl,_ =>
  have ha:a=[]:=List.length_eq_zero_iff.mp (hl a (by simp))
  have hb:b=[]:=List.length_eq_zero_iff.mp (hl b (by simp))
  subst ha hb
  simp at nd
 | [_],_,_,h2=>simp at h2
 | [],_,_,h2=>simp at h2
def ltI:List Int->List Int->Bool
 | [],[]=>false
 | [],_::_=>true
 | _::_,[]=>false
 | a::r,b::r'=>if a=b then ltI r r' else decide (a < b)
theorem kg:∀ a b:List Int,lexI (kI a) (kI b)=ltI a b
 | [],[]=>rfl
 | [],_::_=>rfl
 | _::_,[]=>rfl
 | a::r,b::r'=>by
  show (if a=b then lexI (kI r) (kI r') else decide (a < b))=if a=b then ltI r r' else decide (a < b)
  rw [kg r r']
theorem pS:∀ a:List Int,ltI a a=false
 | []=>rfl
 | a::r=>by
  show (if a=a then ltI r r else _)=_
  rw [if_pos rfl]
  exact pS r
theorem uQ:∀ a b c:List Int,ltI a b=true->ltI b c=true->ltI a c=true
 | [],[],_,h,_=>by cases h
 | [],_::_,[],_,h=>by cases h
 | [],_::_,_::_,_,_=>rfl
 | _::_,[],_,h,_=>by cases h
 | _::_,_::_,[],_,h=>by cases h
 | a::r,b::s,c::t,h1,h2=>by
  unfold ltI at h1 h2 ⊢
  by_cases e1:a=b
  ·rw [if_pos e1] at h1
   subst e1
   by_cases e2:a=c
   ·rw [if_pos e2] at h2 ⊢
    exact uQ r s t h1 h2
   ·rw [if_neg e2] at h2 ⊢
    exact h2
  ·rw [if_neg e1] at h1
   have h1:=of_decide_eq_true h1
   by_cases e2:b=c
   ·subst e2
    rw [if_neg e1]
    exact decide_eq_true h1
   ·rw [if_neg e2] at h2
    have h2:=of_decide_eq_true h2
    rw [if_neg (by omega)]
    exact decide_eq_true (by omega)
theorem xc {a b:List Int} (h:ltI a b=true):ltI b a=false:=by
 cases e:ltI b a with
 | false=>rfl
 | true =>
  have:=uQ a b a h e
  rw [pS] at this
  cases this
theorem xf:∀ a b:List Int,a≠b->ltI a b=false->ltI b a=true
 | [],[],h,_=>absurd rfl h
 | [],_::_,_,h=>by cases h
 | _::_,[],_,_=>rfl
 | a::r,b::s,h,e=>by
  unfold ltI at e ⊢
  by_cases z:a=b
  ·subst z
   rw [if_pos rfl] at e ⊢
   exact xf r s (fun z=>h (by rw [z])) e
  ·rw [if_neg z] at e
   rw [if_neg (Ne.symm z)]
   have:=of_decide_eq_false e
   exact decide_eq_true (by omega)
theorem jr {ks:List (List Int)} (nd:ks.Nodup):(bp ks).Pairwise fun a b=>ltI a b=true:=by
 unfold bp
 by_cases h:ks.length < 2
 ·rw [if_pos h]
  match ks,h with
  | [],_=>exact .nil
  | [_],_=>exact List.pairwise_singleton _ _
 ·rw [if_neg h]
  have gd:∀ i,i < ks.length->ks[i]? = some (ks.getD i []):=fun i hi=>by simp [hi]
  have O:StrO ks.length (fun i j=>lexI ((ks.map kI).getD i []) ((ks.map kI).getD j [])):=by
   refine ⟨fun i j k _ _ _ h1 h2=>?_,fun i j _ _ h1=>?_,fun i j hi hj e h1=>?_⟩
   ·simp only [kc,kg] at *
    exact uQ _ _ _ h1 h2
   ·simp only [kc,kg] at *
    exact xc h1
   ·simp only [kc,kg] at *
    refine xf _ _ (fun z=>e ?_) h1
    have e1:ks.getD i []=ks[i]:=by simp [hi]
    have e2:ks.getD j []=ks[j]:=by simp [hj]
    rw [e1,e2] at z
    exact (List.getElem_inj nd).mp z
  have pm:=KGood.end (fun i j=>lexI ((ks.map kI).getD i []) ((ks.map kI).getD j [])) _ (gN (N:=ks.length) (by omega))
  have as:=qO O (by omega)
  have sz:=pm.size
  generalize kRun (fun i j=>lexI ((ks.map kI).getD i []) ((ks.map kI).getD j [])) (PySem.W.kas_sort ks.length)=p at pm as sz
  rw [List.pairwise_map,List.pairwise_iff_getElem]
  intro i j hi hj hij
  have:=as i j hij (by rw [Array.length_toList] at hj; omega)
  simp only [kc,kg] at this
  rw [Array.length_toList] at hi hj
  have e1:p.getD i 0=p[i]:=by simp [Array.getD,hi]
  have e2:p.getD j 0=p[j]:=by simp [Array.getD,hj]
  rw [e1,e2] at this
  simpa using this
theorem yN:∀ {xs ys:List (List Int)},xs.Pairwise (fun a b=>ltI a b=true)->ys.Pairwise (fun a b=>ltI a b=true)->(∀ k,k∈xs↔k∈ys)->xs=ys
 | [],[],_,_,_=>rfl
 | [],y::ys,_,_,h=>absurd ((h y).mpr List.mem_cons_self) (by simp)
 | x::xs,[],_,_,h=>absurd ((h x).mp List.mem_cons_self) (by simp)
 | x::xs,y::ys,hx,hy,h=>by
  obtain ⟨hx1,hx2⟩:=List.pairwise_cons.mp hx
  obtain ⟨hy1,hy2⟩:=List.pairwise_cons.mp hy
  have exy:x=y:=by
   rcases List.mem_cons.mp ((h x).mp List.mem_cons_self) with e | e
   ·exact e
   ·rcases List.mem_cons.mp ((h y).mpr List.mem_cons_self) with e' | e'
    ·exact e'.symm
    ·have a:=hy1 x e
     have b:=hx1 y e'
     rw [xc a] at b
     cases b
  subst exy
  have ni:∀ {zs:List (List Int)},(∀ z∈zs,ltI x z=true)->x∉zs:=fun hz m=>by
   have:=hz x m
   rw [pS] at this
   cases this
  rw [yN hx2 hy2 fun k=>⟨fun hk=>?_,fun hk=>?_⟩]
  ·rcases List.mem_cons.mp ((h k).mp (List.mem_cons_of_mem _ hk)) with rfl | e
   ·exact absurd hk (ni hx1)
   ·exact e
  ·rcases List.mem_cons.mp ((h k).mpr (List.mem_cons_of_mem _ hk)) with rfl | e
   ·exact absurd hk (ni hy1)
   ·exact e
theorem oh {xs ys:List (List Int)} (hx:xs.Nodup) (hy:ys.Nodup) (h:∀ k,k∈xs↔k∈ys):bp xs=bp ys :=
 yN (jr hx) (jr hy) fun k=>by rw [(aN xs).mem_iff,(aN ys).mem_iff]; exact h k
theorem xg (ps:List (List Int×Row)):((grp ps).map (·.1)).Nodup:=(uO (C:=fun _=>True) (R:=fun _=>True) ps fun _ _=>⟨trivial,trivial⟩).nd
theorem qX (k:List Int) (r:Row) (k':List Int):∀ g:List (List Int×List Row),bL (addG k r g) k'=if k=k' then bL g k'++[r] else bL g k'
 | []=>by
  unfold addG bL
  by_cases e:k=k'
  ·rw [if_pos e,List.find?_cons_of_pos (by simpa using e)]
   rfl
  ·rw [if_neg e,List.find?_cons_of_neg (by simpa using e)]
 | p::t=>by
  have ih:=qX k r k' t
  unfold addG
  unfold bL at ih ⊢
  by_cases e:p.1=k
  ·rw [if_pos e]
   by_cases e2:k=k'
   ·rw [if_pos e2,List.find?_cons_of_pos (by simp [e,e2]),List.find?_cons_of_pos (by simp [e,e2])]
    rfl
   ·rw [if_neg e2,List.find?_cons_of_neg (by simp [e,e2]),List.find?_cons_of_neg (by simp [e,e2])]
  ·rw [if_neg e]
   by_cases e2:p.1=k'
   ·rw [List.find?_cons_of_pos (by simpa using e2),List.find?_cons_of_pos (by simpa using e2),if_neg (fun z=>e (by rw [e2,z]))]
   ·rw [List.find?_cons_of_neg (by simpa using e2),List.find?_cons_of_neg (by simpa using e2)]
    exact ih
theorem lA (ps:List (List Int×Row)) (k:List Int):bL (grp ps) k=(ps.filter fun p=>decide (p.1=k)).map (·.2):=by
 have key:∀ (qs:List (List Int×Row)) g,bL (qs.foldl (fun g (p:List Int×Row)=>addG p.1 p.2 g) g) k=bL g k++(qs.filter fun p=>decide (p.1=k)).map (·.2):=by
  intro qs
  induction qs with
  | nil=>intro g; simp
  | cons q t ih =>
   intro g
   rw [List.foldl_cons,ih,qX]
   by_cases e:q.1=k
   ·rw [if_pos e,List.filter_cons_of_pos (by simpa using e),List.map_cons,List.append_assoc]
    rfl
   ·rw [if_neg e,List.filter_cons_of_neg (by simpa using e)]
 rw [grp,key]
 rfl
theorem uR (ps:List (List Int×Row)) (k:List Int):k∈(grp ps).map (·.1)↔k∈ps.map (·.1):=by
 have key:∀ (qs:List (List Int×Row)) g,k∈(qs.foldl (fun g (p:List Int×Row)=>addG p.1 p.2 g) g).map (·.1)↔k∈g.map (·.1)∨k∈qs.map (·.1):=by
  intro qs
  induction qs with
  | nil=>intro g; simp
  | cons q t ih =>
   intro g
   rw [List.foldl_cons,ih,jq,List.map_cons,List.mem_cons]
   by_cases m:q.1∈g.map (·.1)
   ·rw [if_pos m]
    constructor
    ·rintro (h | h)
     ·exact .inl h
     ·exact .inr (.inr h)
    ·rintro (h | h | h)
     ·exact .inl h
     ·exact .inl (h ▸ m)
     ·exact .inr h
   ·rw [if_neg m,List.mem_append,List.mem_singleton]
    constructor
    ·rintro ((h | h) | h)
     ·exact .inl h
     ·exact .inr (.inl h)
     ·exact .inr (.inr h)
    ·rintro (h | h | h)
     ·exact .inl (.inl h)
     ·exact .inl (.inr h)
     ·exact .inr h
 rw [grp,key]
 simp
def eR (r:Row):Bool:=(r.map fun c=>decide (0 < c.1)).any id
theorem ss {r:Row}:eR r=true↔xb r:=by
 unfold eR xb
 rw [List.any_eq_true]
 constructor
 ·rintro ⟨b,hb,e⟩
  obtain ⟨c,hc,rfl⟩:=List.mem_map.mp hb
  exact ⟨c,hc,by simpa using e⟩
 ·rintro ⟨c,hc,hp⟩
  exact ⟨true,List.mem_map.mpr ⟨c,hc,by simpa using hp⟩,rfl⟩
def qY:DSp:=fun ds Q=>match ds with
 | [.tup xs]=>∃ r:Row,xs=r.map aT /\ r.length <= 1000 /\ Q (.bl (eR r))
 | _=>False
theorem sv:cZ qY:=fun ds P P' f h=>by
 unfold qY at h ⊢
 split at h
 ·obtain ⟨r,a,b,h⟩:=h
  exact ⟨r,a,b,f _ h⟩
 ·exact h.elim
theorem sw (T:Tx K mg):FnOk P w K mg base CX0 1 T.iF T.gz ["counts"] (spD K 1 qY):=by
 refine fnD (k:=0) T.dZ.F pL (fun cdv A outer s H E hr=>(ao (aO (aw AF rfl T.Bt PyProof.Rows.boot_any (aa (aE (PCD.pld (bo (N':=["count"]) rfl rfl (by decide +kernel) rfl (.own .nil) (by decide +kernel) (Ah (ad 0 (pv 0))) (fun B=>(aJ (i:=0) (show List.Nodup (α:=PySem.Str) ["count"] by decide +kernel) rfl (by first | exact Or.inl rfl | exact Or.inr rfl))) (fun B=>bu) (fun B=>(qq rV (aK (ad 0 (pv 0)) ah (fun _ _=>rfl)) ah (aS _)))))) ae))))) (fun ds Q hl h=>?_)
 unfold qY at h
 split at h
 case h_2=>exact h.elim
 obtain ⟨r,rfl,hl,h⟩:=h
 refine cE (fun d=>match d with | .tup (.int t::_)=>.bl (decide (0 < t)) | _=>.non) (fun ρ=>∃ s,ρ=[s]) (by rw [List.length_map]; exact Nat.le_trans hl (by decide)) (fun d hd ρ Y Z hN hY=>?_) _ ⟨_,rfl⟩ ?_
 ·obtain ⟨s,rfl⟩:=hN
  obtain ⟨c,_,rfl⟩:=List.mem_map.mp hd
  exact Br.t (hY _ ⟨_,rfl⟩)
 ·have e:(r.map aT).map (fun d=>match d with | .tup (.int t::_)=>D.bl (decide (0 < t)) | _=>.non)=(r.map fun c=>decide (0 < c.1)).map D.bl:=by
   rw [List.map_map,List.map_map]
   rfl
  rw [e]
  exact ir h
def gath (n:Nat) (ps:List (List Int×Row)):List (List Int×Row):=(dE n ps).filter fun c=>eR c.2
def oi:DSpN:=fun ds _ L=>match ds with
 | [.int m,.lst xs]=>∃ (n:Nat) (ps:List (List Int×Row)) (l:Nat),m=n /\ xs=ps.map cb /\ (n <= 6 /\ ps.length <= 180 /\ ∀ p∈ps,p.1.length=l /\ RowN 110 n p.2) /\ L ((gath n ps).map cb)
 | [.int m,.tup xs]=>∃ (n:Nat) (ps:List (List Int×Row)) (l:Nat),m=n /\ xs=ps.map cb /\ (n <= 6 /\ ps.length <= 180 /\ ∀ p∈ps,p.1.length=l /\ RowN 110 n p.2) /\ L ((gath n ps).map cb)
 | _=>False
theorem kh:AA oi:=fun ds P P' L L' f fl h=>by
 unfold oi at h ⊢
 split at h
 ·obtain ⟨n,ps,l,a,b,c,h⟩:=h
  exact ⟨n,ps,l,a,b,c,fl _ h⟩
 ·obtain ⟨n,ps,l,a,b,c,h⟩:=h
  exact ⟨n,ps,l,a,b,c,fl _ h⟩
 ·exact h.elim
theorem pU (T:Tx K mg):FnOk P w K mg base CX0 3 T.fy T.eF ["many","pairs"] (spDN K 2 oi):=by
 refine fnDN (k:=2) T.bT.F sc_gathered (fun cdv A outer s H E hr=>(qC (ur (i:=2) sc_gathered.nd rfl (by first | exact Or.inl rfl | exact Or.inr rfl))
   (ym (qv PassesOwn.never rfl (lr (ad 1 (pv 1))) (tQ (n:=2) rfl (dw (aJ (i:=3) sc_gathered.nd rfl (by first | exact Or.inl rfl | exact Or.inr rfl)) (dw (aJ (i:=4) sc_gathered.nd rfl (by first | exact Or.inl rfl | exact Or.inr rfl)) pf))) (ao (AO hr (pv 2) (pv 3) (pv 4))))
   (qC (pB (i:=5) sc_gathered.nd rfl rfl (bo (N':=["kinds","many","found"]) rfl rfl (by decide +kernel) rfl (.own (.cap (j:=0) rfl (by first | exact Or.inl rfl | exact Or.inr rfl) rfl (.cap (j:=2) rfl (by first | exact Or.inl rfl | exact Or.inr rfl) rfl .nil))) (by decide +kernel) (dH (aw qW rfl T.mM (by decide +kernel) (aa (ad 2 (pv 2)) ae))) (fun B=>(aJ (i:=0) (show List.Nodup (α:=PySem.Str) ["kinds","many","found"] by decide +kernel) rfl (by first | exact Or.inl rfl | exact Or.inr rfl))) (fun B=>bu) (fun B=>(bU (aa (ad 0 (pv 0)) (aa (ai (fX T) fW (hr.mono (by decide)) rfl T.aU.m T.aU.F.kp T.aU.b (aa (ad 1 (pv 1)) (aa (wO hr (ad 2 (pv 2)) (ad 0 (pv 0)) (fun _ _=>rfl)) ae))) ae))))))
   (yk (PCD.pld (bo (N':=["cell"]) rfl rfl (by decide +kernel) rfl (.own .nil) (by decide +kernel) (dH (ad 5 (pv 5))) (fun B=>(aJ (i:=0) (show List.Nodup (α:=PySem.Str) ["cell"] by decide +kernel) rfl (by first | exact Or.inl rfl | exact Or.inr rfl))) (fun B=>(yf (bS (ai (sw T) sv (hr.mono (by decide)) rfl T.dZ.m T.dZ.F.kp T.dZ.b (aa (aK (ad 0 (pv 0)) ah (fun _ _=>rfl)) ae))))) (fun B=>(ad 0 (pv 0)))))))))) (fun ds Q L hl h=>?_)
 unfold oi at h
 split at h
 ·obtain ⟨n,ps,l,rfl,rfl,⟨n6,p180,hps⟩,h⟩:=h
  have gok:∀ qs:List (List Int×Row),(∀ p∈qs,p∈ps)->GOk (fun k=>k.length=l) (fun r=>RowN 110 n r) qs.length (grp qs):=fun qs hq=>uO qs fun p hp=>hps p (hq p hp)
  refine ⟨fun ρ=>∃ a b:Sl,ρ=[.val (.int n),.val (.lst (ps.map cb)),.obj (dlO (emb (grp ps))),a,b,.nil],?_,?_⟩
  ·refine jS (fun pre ρ=>∃ p0 p1:List (List Int×Row),ps=p0++p1 /\ pre=p0.map cb /\ ∃ a b:Sl,ρ=[.val (.int n),.val (.lst (ps.map cb)),.obj (dlO (emb (grp p0))),a,b,.nil]) (fun ρ hN=>?_) (fun pre d post ρ X e hN hX=>?_) _ ⟨[],ps,rfl,rfl,_,_,rfl⟩
   ·obtain ⟨p0,p1,rfl,e,a,b,rfl⟩:=hN
    have:p1=[]:=by
     have:=congrArg List.length e
     simp at this
     exact this
    subst this
    rw [List.append_nil]
    exact ⟨a,b,rfl⟩
   ·obtain ⟨p0,p1,rfl,rfl,a,b,rfl⟩:=hN
    rw [List.map_append] at e
    have e:=List.append_cancel_left e
    cases p1 with
    | nil=>simp at e
    | cons p p1 =>
     rw [List.map_cons] at e
     injection e with e1 e2
     subst e1
     have go:=gok p0 fun q hq=>by simp [hq]
     have pl:p0.length <= 180:=by rw [List.length_append] at p180; omega
     refine ⟨rfl,emb (grp p0),kI p.1,rowD p.2,rfl,?_,rfl,?_,fun q hq=>?_,hX _ ⟨p0++[p],p1,by simp,by simp,_,_,by rw [pP,← mI]; rfl⟩⟩
     ·show Sl.val (cq p.1)=_
      rw [dJ]
     ·unfold emb
      rw [List.length_map]
      exact Nat.lt_of_le_of_lt (show (grp p0).length <= 180 from Nat.le_trans go.len pl) (by decide)
     ·obtain ⟨q',hq',rfl⟩:=List.mem_map.mp hq
      rw [List.length_map]
      exact Nat.lt_of_le_of_lt (show q'.2.length <= 180 from Nat.le_trans (go.it q' hq').2.2.1 pl) (by decide)
  ·rintro _ ⟨a,b,rfl⟩
   have go:=gok ps fun q hq=>hq
   have hk:(emb (grp ps)).map (·.1)=((grp ps).map (·.1)).map kI:=by unfold emb; rw [List.map_map,List.map_map]; rfl
   have kl:((grp ps).map (·.1)).length <= 180:=by rw [List.length_map]; exact Nat.le_trans go.len p180
   have kln:∀ k∈(grp ps).map (·.1),k.length=l:=fun k hk=>by
    obtain ⟨p,hp,rfl⟩:=List.mem_map.mp hk
    exact (go.it p hp).1
   have sl:(bp ((grp ps).map (·.1))).length <= 180:=by rw [(aN _).length_eq]; exact kl
   refine ⟨⟨fun k hk'=>?_,fun h2 k hk'=>?_,?_⟩,?_⟩
   ·rw [hk] at hk'
    obtain ⟨k',_,rfl⟩:=List.mem_map.mp hk'
    exact mH k'
   ·rw [hk] at h2 hk'
    rw [List.length_map] at h2
    obtain ⟨k',hk2,rfl⟩:=List.mem_map.mp hk'
    intro z
    exact pR go.nd kln h2 k' hk2 (fL (b:=[]) z)
   ·refine ⟨?_,by rw [hk,List.length_map]; omega⟩
    rw [hk]
    exact go.nd.map kI (fun a b h e=>h (fL e))
   ·have e1:(srtK ((emb (grp ps)).map (·.1))).map keyD=(bp ((grp ps).map (·.1))).map cq:=by
     rw [hk,pQ,List.map_map]
     apply List.map_congr_left
     intro k _
     exact (dJ k).symm
    show ej _ _ _ ((srtK ((emb (grp ps)).map (·.1))).map keyD) _ _ _
    rw [e1]
    refine bz (fun pre acc ρ=>∃ k0 k1:List (List Int),bp ((grp ps).map (·.1))=k0++k1 /\ pre=k0.map cq /\ acc=(k0.map fun k=>(k,sums (bL (grp ps) k) n)).map cb /\ ∃ s:Sl,ρ=[s,.val (.int n),.val (fzO (dlO (emb (grp ps))))]) (fun acc ρ hN=>?_) (fun pre d post acc ρ Y e hN hY=>?_) _ ⟨[],_,rfl,rfl,rfl,_,rfl⟩
    ·obtain ⟨k0,k1,e,e2,rfl,s,rfl⟩:=hN
     have:k1=[]:=by
      have:=congrArg List.length e2
      rw [e] at this
      simp at this
      exact this
     subst this
     rw [List.append_nil] at e
     rw [← e]
     have epl:((bp ((grp ps).map (·.1))).map fun k=>(k,sums (bL (grp ps) k) n))=dE n ps:=rfl
     rw [epl]
     have pll:(dE n ps).length <= 180:=by unfold dE; rw [List.length_map]; exact sl
     refine bz (fun pre acc ρ=>∃ c0 c1:List (List Int×Row),dE n ps=c0++c1 /\ pre=c0.map cb /\ acc=(c0.filter fun c=>eR c.2).map cb /\ ∃ s:Sl,ρ=[s]) (fun acc ρ hN=>?_) (fun pre d post acc ρ Y e hN hY=>?_) _ ⟨[],_,rfl,rfl,rfl,_,rfl⟩
     ·obtain ⟨c0,c1,e3,e4,rfl,s,rfl⟩:=hN
      have:c1=[]:=by
       have:=congrArg List.length e4
       rw [e3] at this
       simp at this
       exact this
      subst this
      rw [List.append_nil] at e3
      rw [← e3]
      exact h
     ·obtain ⟨c0,c1,e3,rfl,rfl,s,rfl⟩:=hN
      rw [e3,List.map_append] at e
      have e:=List.append_cancel_left e
      cases c1 with
      | nil=>simp at e
      | cons c c1 =>
       rw [List.map_cons] at e
       injection e with e1 e2
       subst e1
       rw [e3,List.length_append] at pll
       have hc:c∈dE n ps:=by rw [e3]; simp
       have hcl:c.2.length <= 1000:=by
        obtain ⟨k,_,rfl⟩:=List.mem_map.mp hc
        show (sums _ n).length <= 1000
        unfold sums
        rw [List.length_map,List.length_range]
        omega
       refine ⟨rfl,c.2,rfl,hcl,?_⟩
       cases z:eR c.2 with
       | true =>
        refine Br.t ⟨?_,hY _ _ ⟨c0++[c],c1,by rw [e3]; simp,by simp,by rw [List.filter_append,List.filter_cons_of_pos (by simpa using z)]; simp,_,rfl⟩⟩
        rw [List.length_map]
        exact Nat.lt_of_le_of_lt (show _ <= 180 from Nat.le_trans (List.length_filter_le _ _) (by omega)) (by decide)
       | false=>exact Br.f (hY _ _ ⟨c0++[c],c1,by rw [e3]; simp,by simp,by rw [List.filter_append,List.filter_cons_of_neg (by simp [z])]; simp,_,rfl⟩)
    ·obtain ⟨k0,k1,e3,rfl,rfl,s,rfl⟩:=hN
     rw [e3,List.map_append] at e
     have e:=List.append_cancel_left e
     cases k1 with
     | nil=>simp at e
     | cons k k1 =>
      rw [List.map_cons] at e
      injection e with e1 e2
      subst e1
      have hk':k∈bp ((grp ps).map (·.1)):=by rw [e3]; simp
      obtain ⟨p,hp,_,h3,h4⟩:=uP ((aN _).mem_iff.mp hk')
      have gp:=go.it p hp
      rw [e3,List.length_append] at sl
      refine Br.t ⟨embV (grp ps),kI k,.lst (p.2.map rowD),Bg _,dJ k,h4,rfl,n,p.2,rfl,rfl,⟨n6,Nat.le_trans gp.2.2.1 (by omega),fun r hr=>(gp.2.2.2 r hr).up⟩,sz,?_,hY _ _ ⟨k0++[k],k1,by rw [e3]; simp,by simp,by rw [List.map_append,List.map_append,← h3]; rfl,_,rfl⟩⟩
      rw [List.length_map,List.length_map]
      exact Nat.lt_of_le_of_lt (show k0.length <= 180 by omega) (by decide)
 ·obtain ⟨n,ps,l,rfl,rfl,⟨n6,p180,hps⟩,h⟩:=h
  have gok:∀ qs:List (List Int×Row),(∀ p∈qs,p∈ps)->GOk (fun k=>k.length=l) (fun r=>RowN 110 n r) qs.length (grp qs):=fun qs hq=>uO qs fun p hp=>hps p (hq p hp)
  refine ⟨fun ρ=>∃ a b:Sl,ρ=[.val (.int n),.val (.tup (ps.map cb)),.obj (dlO (emb (grp ps))),a,b,.nil],?_,?_⟩
  ·refine jS (fun pre ρ=>∃ p0 p1:List (List Int×Row),ps=p0++p1 /\ pre=p0.map cb /\ ∃ a b:Sl,ρ=[.val (.int n),.val (.tup (ps.map cb)),.obj (dlO (emb (grp p0))),a,b,.nil]) (fun ρ hN=>?_) (fun pre d post ρ X e hN hX=>?_) _ ⟨[],ps,rfl,rfl,_,_,rfl⟩
   ·obtain ⟨p0,p1,rfl,e,a,b,rfl⟩:=hN
    have:p1=[]:=by
     have:=congrArg List.length e
     simp at this
     exact this
    subst this
    rw [List.append_nil]
    exact ⟨a,b,rfl⟩
   ·obtain ⟨p0,p1,rfl,rfl,a,b,rfl⟩:=hN
    rw [List.map_append] at e
    have e:=List.append_cancel_left e
    cases p1 with
    | nil=>simp at e
    | cons p p1 =>
     rw [List.map_cons] at e
     injection e with e1 e2
     subst e1
     have go:=gok p0 fun q hq=>by simp [hq]
     have pl:p0.length <= 180:=by rw [List.length_append] at p180; omega
     refine ⟨rfl,emb (grp p0),kI p.1,rowD p.2,rfl,?_,rfl,?_,fun q hq=>?_,hX _ ⟨p0++[p],p1,by simp,by simp,_,_,by rw [pP,← mI]; rfl⟩⟩
     ·show Sl.val (cq p.1)=_
      rw [dJ]
     ·unfold emb
      rw [List.length_map]
      exact Nat.lt_of_le_of_lt (show (grp p0).length <= 180 from Nat.le_trans go.len pl) (by decide)
     ·obtain ⟨q',hq',rfl⟩:=List.mem_map.mp hq
      rw [List.length_map]
      exact Nat.lt_of_le_of_lt (show q'.2.length <= 180 from Nat.le_trans (go.it q' hq').2.2.1 pl) (by decide)
  ·rintro _ ⟨a,b,rfl⟩
   have go:=gok ps fun q hq=>hq
   have hk:(emb (grp ps)).map (·.1)=((grp ps).map (·.1)).map kI:=by unfold emb; rw [List.map_map,List.map_map]; rfl
   have kl:((grp ps).map (·.1)).length <= 180:=by rw [List.length_map]; exact Nat.le_trans go.len p180
   have kln:∀ k∈(grp ps).map (·.1),k.length=l:=fun k hk=>by
    obtain ⟨p,hp,rfl⟩:=List.mem_map.mp hk
    exact (go.it p hp).1
   have sl:(bp ((grp ps).map (·.1))).length <= 180:=by rw [(aN _).length_eq]; exact kl
   refine ⟨⟨fun k hk'=>?_,fun h2 k hk'=>?_,?_⟩,?_⟩
   ·rw [hk] at hk'
    obtain ⟨k',_,rfl⟩:=List.mem_map.mp hk'
    exact mH k'
   ·rw [hk] at h2 hk'
    rw [List.length_map] at h2
    obtain ⟨k',hk2,rfl⟩:=List.mem_map.mp hk'
    intro z
    exact pR go.nd kln h2 k' hk2 (fL (b:=[]) z)
   ·refine ⟨?_,by rw [hk,List.length_map]; omega⟩
    rw [hk]
    exact go.nd.map kI (fun a b h e=>h (fL e))
   ·have e1:(srtK ((emb (grp ps)).map (·.1))).map keyD=(bp ((grp ps).map (·.1))).map cq:=by
     rw [hk,pQ,List.map_map]
     apply List.map_congr_left
     intro k _
     exact (dJ k).symm
    show ej _ _ _ ((srtK ((emb (grp ps)).map (·.1))).map keyD) _ _ _
    rw [e1]
    refine bz (fun pre acc ρ=>∃ k0 k1:List (List Int),bp ((grp ps).map (·.1))=k0++k1 /\ pre=k0.map cq /\ acc=(k0.map fun k=>(k,sums (bL (grp ps) k) n)).map cb /\ ∃ s:Sl,ρ=[s,.val (.int n),.val (fzO (dlO (emb (grp ps))))]) (fun acc ρ hN=>?_) (fun pre d post acc ρ Y e hN hY=>?_) _ ⟨[],_,rfl,rfl,rfl,_,rfl⟩
    ·obtain ⟨k0,k1,e,e2,rfl,s,rfl⟩:=hN
     have:k1=[]:=by
      have:=congrArg List.length e2
      rw [e] at this
      simp at this
      exact this
     subst this
     rw [List.append_nil] at e
     rw [← e]
     have epl:((bp ((grp ps).map (·.1))).map fun k=>(k,sums (bL (grp ps) k) n))=dE n ps:=rfl
     rw [epl]
     have pll:(dE n ps).length <= 180:=by unfold dE; rw [List.length_map]; exact sl
     refine bz (fun pre acc ρ=>∃ c0 c1:List (List Int×Row),dE n ps=c0++c1 /\ pre=c0.map cb /\ acc=(c0.filter fun c=>eR c.2).map cb /\ ∃ s:Sl,ρ=[s]) (fun acc ρ hN=>?_) (fun pre d post acc ρ Y e hN hY=>?_) _ ⟨[],_,rfl,rfl,rfl,_,rfl⟩
     ·obtain ⟨c0,c1,e3,e4,rfl,s,rfl⟩:=hN
      have:c1=[]:=by
       have:=congrArg List.length e4
       rw [e3] at this
       simp at this
       exact this
      subst this
      rw [List.append_nil] at e3
      rw [← e3]
      exact h
     ·obtain ⟨c0,c1,e3,rfl,rfl,s,rfl⟩:=hN
      rw [e3,List.map_append] at e
      have e:=List.append_cancel_left e
      cases c1 with
      | nil=>simp at e
      | cons c c1 =>
       rw [List.map_cons] at e
       injection e with e1 e2
       subst e1
       rw [e3,List.length_append] at pll
       have hc:c∈dE n ps:=by rw [e3]; simp
       have hcl:c.2.length <= 1000:=by
        obtain ⟨k,_,rfl⟩:=List.mem_map.mp hc
        show (sums _ n).length <= 1000
        unfold sums
        rw [List.length_map,List.length_range]
        omega
       refine ⟨rfl,c.2,rfl,hcl,?_⟩
       cases z:eR c.2 with
       | true =>
        refine Br.t ⟨?_,hY _ _ ⟨c0++[c],c1,by rw [e3]; simp,by simp,by rw [List.filter_append,List.filter_cons_of_pos (by simpa using z)]; simp,_,rfl⟩⟩
        rw [List.length_map]
        exact Nat.lt_of_le_of_lt (show _ <= 180 from Nat.le_trans (List.length_filter_le _ _) (by omega)) (by decide)
       | false=>exact Br.f (hY _ _ ⟨c0++[c],c1,by rw [e3]; simp,by simp,by rw [List.filter_append,List.filter_cons_of_neg (by simp [z])]; simp,_,rfl⟩)
    ·obtain ⟨k0,k1,e3,rfl,rfl,s,rfl⟩:=hN
     rw [e3,List.map_append] at e
     have e:=List.append_cancel_left e
     cases k1 with
     | nil=>simp at e
     | cons k k1 =>
      rw [List.map_cons] at e
      injection e with e1 e2
      subst e1
      have hk':k∈bp ((grp ps).map (·.1)):=by rw [e3]; simp
      obtain ⟨p,hp,_,h3,h4⟩:=uP ((aN _).mem_iff.mp hk')
      have gp:=go.it p hp
      rw [e3,List.length_append] at sl
      refine Br.t ⟨embV (grp ps),kI k,.lst (p.2.map rowD),Bg _,dJ k,h4,rfl,n,p.2,rfl,rfl,⟨n6,Nat.le_trans gp.2.2.1 (by omega),fun r hr=>(gp.2.2.2 r hr).up⟩,sz,?_,hY _ _ ⟨k0++[k],k1,by rw [e3]; simp,by simp,by rw [List.map_append,List.map_append,← h3]; rfl,_,rfl⟩⟩
      rw [List.length_map,List.length_map]
      exact Nat.lt_of_le_of_lt (show k0.length <= 180 by omega) (by decide)
 ·exact h.elim
def wj:DSp:=fun ds Q=>oi ds Q fun es=>Q (.lst es)
theorem lB:cZ wj:=fun ds P P' f h=>kh _ _ _ _ _ f (fun es q=>f _ q) h
theorem lC (T:Tx K mg):FnOk P w K mg base CX0 3 T.fy T.eF ["many","pairs"] (spD K 2 wj):=DL.FnOk.asD (pU T) (fun ds Q h=>h) kh
structure Bk where
 m:Nat
 marks:List Int
 cells:List (List Int×Row)
def eS (b:Bk):D:=.tup [.int b.m,cq b.marks,.tup (b.cells.map cb)]
theorem cr {d:D} (h:shp d=true) {A B:Prop} (q:B):Br (!eqD d d) A B:=by
 rw [qy h]
 exact Br.f q
theorem Cu {d e:D} (h:d=e) (s:shp e=true) {A B:Prop} (q:B):Br (!eqD d e) A B:=by rw [h]; exact cr s q
structure Rw where
 h:Int
 ks:List Int
 t:Int
 w:Int
def rwD (r:Rw):D:=.tup [.int r.h,cq r.ks,.int r.t,.int r.w]
structure RwOk (n:Nat) (ms:List Int) (r:Rw):Prop where
 h0:0 <= r.h
 h1:r.h < n
 kl:r.ks.length=ms.length
 kk:∀ (i:Nat) (k m:Int),r.ks[i]? = some k->ms[i]? = some m->0 <= k /\ k < m
 w0:0 <= r.w
 wt:r.w <= r.t
 t1:r.t <= 10 ^ 12
structure MsOk (ms:List Int):Prop where
 l5:ms.length <= 5
 it:∀ m∈ms,1 <= m /\ m <= 6
def sqD (b:Bool) (ds:List D):D:=match b with
 | true=>.tup ds
 | false=>.lst ds
def Bh:DSp:=fun ds Q=>∃ t w:Int,ds=[.tup [.int t,.int w]] /\ (0 <= w /\ w <= t) /\ Q (.bl true)
theorem sx:cZ Bh:=fun ds P P' f ⟨t,w,a,b,h⟩=>⟨t,w,a,b,f _ h⟩
theorem sy (T:Tx K mg):FnOk P w K mg base CX0 2 T.iI T.gs ["thing"] (spD K 1 Bh):=by
 refine fnD (k:=1) T.dX.F pK (fun cdv A outer s H E hr=>(aq (cf (PWD.pt (ii (cC (bS (aw fQ rfl T.aI rfl (aa (ad 0 (pv 0)) (aa (kN (n:="tuple") rfl T.bG rfl) ae))))) (dP (bq (fB hr) (aw fK rfl T.gU PySem.boot_len (aa (ad 0 (pv 0)) ae)) ah (aS _))))) (ao (aO fP)) aL)
   (aq (cf (PWD.pt (ii (cC (bS (ai (iz T) iy (hr.mono (by decide)) rfl T.bj.m T.bj.F.kp T.bj.b (aa (aK (ad 0 (pv 0)) ah (fun _ _=>rfl)) ae)))) (dP (cC (bS (ai (iz T) iy (hr.mono (by decide)) rfl T.bj.m T.bj.F.kp T.bj.b (aa (aK (ad 0 (pv 0)) ah (fun _ _=>rfl)) ae))))))) (ao (aO fP)) aL)
   (ao (aO (qu tS tS ah (aK (ad 0 (pv 0)) ah (fun _ _=>rfl)) (aK (ad 0 (pv 0)) ah (fun _ _=>rfl)))))))) (fun ds Q hl h=>?_)
 obtain ⟨t,w,rfl,⟨w0,wt⟩,h⟩:=h
 have h':Q (.bl (decide (w <= t))):=by rw [decide_eq_true wt]; exact h
 exact ⟨rfl,rfl,Br.f ⟨⟨rfl,rfl⟩,Br.f ⟨rfl,rfl,Br.f ⟨rfl,rfl,Br.f (Br.dt w0 h')⟩⟩⟩⟩
def xh:DSp:=fun ds Q=>∃ (ks ms:List Int) (bm:Bool),ds=[cq ks,sqD bm (ms.map D.int)] /\ ks.length=ms.length /\ ms.length <= 1000 /\ (∀ (i:Nat) (k m:Int),ks[i]? = some k->ms[i]? = some m->0 <= k /\ k < m) /\ Q (.bl true)
theorem pV:cZ xh:=fun ds P P' f ⟨ks,ms,bm,a,b,c,d,h⟩=>⟨ks,ms,bm,a,b,c,d,f _ h⟩
theorem oj:∀ (ks ms:List Int),zipD (ks.map D.int) (ms.map D.int)=(ks.zip ms).map fun p=>.tup [.int p.1,.int p.2]
 | [],_=>rfl
 | _::_,[]=>rfl
 | k::ks,m::ms=>by
  rw [List.map_cons,List.map_cons,zipD,oj ks ms,List.zip_cons_cons,List.map_cons]
theorem pW {n:Nat}:(List.replicate n true).all id=true:=by
 rw [List.all_eq_true]
 intro b hb
 rw [List.eq_of_mem_replicate hb]
 rfl
theorem pX (T:Tx K mg):FnOk P w K mg base CX0 3 T.gv T.fh ["kinds","marks"] (spD K 2 xh):=by
 refine fnD (k:=2) T.dh.F oa (fun cdv A outer s H E hr=>(aq (cf (PWD.pt (ii (cC (bS (aw fQ rfl T.aI rfl (aa (ad 0 (pv 0)) (aa (kN (n:="tuple") rfl T.bG rfl) ae))))) (dP (bq (fB hr) (aw fK rfl T.gU PySem.boot_len (aa (ad 0 (pv 0)) ae)) (aw fK rfl T.gU PySem.boot_len (aa (ad 1 (pv 1)) ae)) (aS _))))) (ao (aO fP)) aL)
   (ao (aO (aw um rfl T.wx PyProof.Rows.boot_all (aa (aE (PCD.pld (bo (N':=["kind","most"]) rfl rfl (by decide +kernel) rfl (.own (.own .nil)) (by decide +kernel) (yF rfl T.Bp (aa (ad 0 (pv 0)) (aa (ad 1 (pv 1)) ae))) (fun B=>(tQ (n:=2) rfl (dw (aJ (i:=0) (show List.Nodup (α:=PySem.Str) ["kind","most"] by decide +kernel) rfl (by first | exact Or.inl rfl | exact Or.inr rfl)) (dw (aJ (i:=1) (show List.Nodup (α:=PySem.Str) ["kind","most"] by decide +kernel) rfl (by first | exact Or.inl rfl | exact Or.inr rfl)) pf)))) (fun B=>bu) (fun B=>(ai (eB T) eA (hr.mono (by decide)) rfl T.aH.m T.aH.F.kp T.aH.b (aa (ad 0 (pv 0)) (aa ah (aa (dq qw (ad 1 (pv 1)) ah) ae)))))))) ae)))))) (fun ds Q hl h=>?_)
 obtain ⟨ks,ms,bm,rfl,el,m5,hk,h⟩:=h
 cases bm
 all_goals
  refine ⟨rfl,rfl,Br.f ⟨⟨rfl,rfl⟩,Cu (by rw [List.length_map,List.length_map,el]) rfl ?_⟩⟩
  refine ⟨ks.map D.int,ms.map D.int,rfl,rfl,?_⟩
  rw [oj]
  refine cE (fun _=>.bl true) (fun ρ=>∃ a b,ρ=[a,b]) ?_ (fun d hd ρ Y Z hN hY=>?_) _ ⟨_,_,rfl⟩ ?_
  ·rw [List.length_map,List.length_zip]
   exact Nat.le_trans (Nat.le_trans (Nat.min_le_right _ _) m5) (by decide)
  ·obtain ⟨a,b,rfl⟩:=hN
   obtain ⟨p,hp,rfl⟩:=List.mem_map.mp hd
   obtain ⟨i,hi⟩:=List.mem_iff_getElem?.mp hp
   rw [List.getElem?_zip_eq_some] at hi
   have:=hk i p.1 p.2 hi.1 hi.2
   exact ⟨rfl,Br.t ⟨rfl,⟨this.1,by omega⟩,hY _ ⟨_,_,rfl⟩⟩⟩
  ·have e:((ks.zip ms).map fun p=>D.tup [.int p.1,.int p.2]).map (fun _=>D.bl true)=(List.replicate (ks.zip ms).length true).map D.bl:=by
    rw [List.map_map,List.map_replicate]
    exact List.map_const' ..
   rw [e]
   refine ir ?_
   rw [pW]
   exact h
def xj:DSp:=fun ds Q=>∃ (r:Rw) (n:Nat) (ms:List Int) (bm:Bool),ds=[rwD r,.int n,sqD bm (ms.map D.int)] /\ RwOk n ms r /\ MsOk ms /\ Q (.bl true)
theorem wk:cZ xj:=fun ds P P' f ⟨r,n,ms,bm,a,b,c,h⟩=>⟨r,n,ms,bm,a,b,c,f _ h⟩
theorem wl (T:Tx K mg):FnOk P w K mg base CX0 4 T.mL T.kC ["row","many","marks"] (spD K 3 xj):=by
 refine fnD (k:=3) T.hG.F uM (fun cdv A outer s H E hr=>(aq (cf (PWD.pt (ii (cC (bS (aw fQ rfl T.aI rfl (aa (ad 0 (pv 0)) (aa (kN (n:="tuple") rfl T.bG rfl) ae))))) (dP (bq (fB hr) (aw fK rfl T.gU PySem.boot_len (aa (ad 0 (pv 0)) ae)) ah (aS _))))) (ao (aO fP)) aL)
   (aq (cf (PWD.pt (ii (cC (bS (ai (eB T) eA (hr.mono (by decide)) rfl T.aH.m T.aH.F.kp T.aH.b (aa (aK (ad 0 (pv 0)) ah (fun _ _=>rfl)) (aa ah (aa (dq qw (ad 1 (pv 1)) ah) ae)))))) (dP (cC (bS (ai (pX T) pV (hr.mono (by decide)) rfl T.dh.m T.dh.F.kp T.dh.b (aa (aK (ad 0 (pv 0)) ah (fun _ _=>rfl)) (aa (ad 2 (pv 2)) ae)))))))) (ao (aO fP)) aL)
   (ao (aO (tO (ai (sy T) sx (hr.mono (by decide)) rfl T.dX.m T.dX.F.kp T.dX.b (aa (bU (aa (aK (ad 0 (pv 0)) ah (fun _ _=>rfl)) (aa (aK (ad 0 (pv 0)) ah (fun _ _=>rfl)) ae))) ae)) (tN (qq tS (aK (ad 0 (pv 0)) ah (fun _ _=>rfl)) (fm rfl T.gZ) (aS _))))))))) (fun ds Q hl h=>?_)
 obtain ⟨r,n,ms,bm,rfl,o,mo,h⟩:=h
 have h':Q (.bl (decide (r.t <= 10 ^ 12))):=by rw [decide_eq_true o.t1]; exact h
 refine ⟨rfl,rfl,Br.f ⟨⟨rfl,rfl⟩,Br.f ?_⟩⟩
 refine ⟨rfl,⟨o.h0,by have:=o.h1; omega⟩,Br.f ⟨rfl,r.ks,ms,bm,rfl,o.kl,Nat.le_trans mo.l5 (by decide),o.kk,Br.f ?_⟩⟩
 exact ⟨sz,rfl,r.t,r.w,rfl,⟨o.w0,o.wt⟩,Br.t h'⟩
def uS:DSp:=fun ds Q=>∃ (rs:List Rw) (n:Nat) (ms:List Int) (br bm:Bool),ds=[sqD br (rs.map rwD),.int n,sqD bm (ms.map D.int)] /\ rs.length <= 60 /\ (∀ r∈rs,RwOk n ms r) /\ MsOk ms /\ Q (.bl true)
theorem sA:cZ uS:=fun ds P P' f ⟨r,n,ms,x,y,a,b,c,d,h⟩=>⟨r,n,ms,x,y,a,b,c,d,f _ h⟩
theorem sC (T:Tx K mg):FnOk P w K mg base CX0 5 T.iK T.gA ["rows","many","marks"] (spD K 3 uS):=by
 refine fnD (k:=4) T.ee.F pM (fun cdv A outer s H E hr=>(aq (cf (PWD.pt (ii (cC (bS (aw uu rfl T.aI rfl (aa (ad 0 (pv 0)) (aa (bU (aa (kN (n:="list") rfl T.vi rfl) (aa (kN (n:="tuple") rfl T.bG rfl) ae))) ae))))) (dP (bq rV (aw fK rfl T.gU PySem.boot_len (aa (ad 0 (pv 0)) ae)) (fm rfl T.jb) (aS _))))) (ao (aO fP)) aL)
   (ao (aO (aw um rfl T.wx PyProof.Rows.boot_all (aa (aE (PCD.pld (bo (N':=["row","many","marks"]) rfl rfl (by decide +kernel) rfl (.own (.cap (j:=1) rfl (by first | exact Or.inl rfl | exact Or.inr rfl) rfl (.cap (j:=2) rfl (by first | exact Or.inl rfl | exact Or.inr rfl) rfl .nil))) (by decide +kernel) (lr (ad 0 (pv 0))) (fun B=>(aJ (i:=0) (show List.Nodup (α:=PySem.Str) ["row","many","marks"] by decide +kernel) rfl (by first | exact Or.inl rfl | exact Or.inr rfl))) (fun B=>bu) (fun B=>(ai (wl T) wk (hr.mono (by decide)) rfl T.hG.m T.hG.F.kp T.hG.b (aa (ad 0 (pv 0)) (aa (ad 1 (pv 1)) (aa (ad 2 (pv 2)) ae)))))))) ae)))))) (fun ds Q hl h=>?_)
 obtain ⟨rs,n,ms,br,bm,rfl,l60,ro,mo,h⟩:=h
 cases br
 all_goals
  refine ⟨sz,_,rfl,rfl,Br.f (Br.dn (by rw [List.length_map]; omega) ?_)⟩
  refine cE (fun _=>.bl true) (fun ρ=>∃ a,ρ=[a,.val (.int n),.val (sqD bm (ms.map D.int))]) ?_ (fun d hd ρ Y Z hN hY=>?_) _ ⟨_,rfl⟩ ?_
  ·rw [List.length_map]
   exact Nat.le_trans l60 (by decide)
  ·obtain ⟨a,rfl⟩:=hN
   obtain ⟨r,hr,rfl⟩:=List.mem_map.mp hd
   exact Br.t ⟨rfl,r,n,ms,bm,rfl,ro r hr,mo,hY _ ⟨_,rfl⟩⟩
  ·have e:(rs.map rwD).map (fun _=>D.bl true)=(List.replicate rs.length true).map D.bl:=by
    rw [List.map_map,List.map_replicate]
    exact List.map_const' ..
   rw [e]
   refine ir ?_
   rw [pW]
   exact h
def qZ:DSp:=fun ds Q=>∃ (ms:List Int) (bm:Bool),ds=[sqD bm (ms.map D.int)] /\ MsOk ms /\ Q (.bl true)
theorem pY:cZ qZ:=fun ds P P' f ⟨ms,bm,a,b,h⟩=>⟨ms,bm,a,b,f _ h⟩
theorem pZ (T:Tx K mg):FnOk P w K mg base CX0 3 T.gk T.eY ["marks"] (spD K 1 qZ):=by
 refine fnD (k:=2) T.dl.F nZ (fun cdv A outer s H E hr=>(aq (cf (PWD.pt (ii (cC (bS (aw uu rfl T.aI rfl (aa (ad 0 (pv 0)) (aa (bU (aa (kN (n:="list") rfl T.vi rfl) (aa (kN (n:="tuple") rfl T.bG rfl) ae))) ae))))) (dP (bq rV (aw fK rfl T.gU PySem.boot_len (aa (ad 0 (pv 0)) ae)) (fm rfl T.gX) (aS _))))) (ao (aO fP)) aL)
   (ao (aO (aw um rfl T.wx PyProof.Rows.boot_all (aa (aE (PCD.pld (bo (N':=["kinds"]) rfl rfl (by decide +kernel) rfl (.own .nil) (by decide +kernel) (lr (ad 0 (pv 0))) (fun B=>(aJ (i:=0) (show List.Nodup (α:=PySem.Str) ["kinds"] by decide +kernel) rfl (by first | exact Or.inl rfl | exact Or.inr rfl))) (fun B=>bu) (fun B=>(ai (eB T) eA (hr.mono (by decide)) rfl T.aH.m T.aH.F.kp T.aH.b (aa (ad 0 (pv 0)) (aa ah (aa (fm rfl T.gY) ae)))))))) ae)))))) (fun ds Q hl h=>?_)
 obtain ⟨ms,bm,rfl,mo,h⟩:=h
 cases bm
 all_goals
  have l5:=mo.l5
  refine ⟨sz,_,rfl,rfl,Br.f (Br.dn (by rw [List.length_map]; omega) ?_)⟩
  refine cE (fun _=>.bl true) (fun ρ=>∃ a,ρ=[a]) ?_ (fun d hd ρ Y Z hN hY=>?_) _ ⟨_,rfl⟩ ?_
  ·rw [List.length_map]
   exact Nat.le_trans mo.l5 (by decide)
  ·obtain ⟨a,rfl⟩:=hN
   obtain ⟨m,hm,rfl⟩:=List.mem_map.mp hd
   exact Br.t ⟨rfl,mo.it m hm,hY _ ⟨_,rfl⟩⟩
  ·have e:(ms.map D.int).map (fun _=>D.bl true)=(List.replicate ms.length true).map D.bl:=by
    rw [List.map_map,List.map_replicate]
    exact List.map_const' ..
   rw [e]
   refine ir ?_
   rw [pW]
   exact h
def eT (n:Nat) (r:Rw):Row:=(List.replicate n (0,0)).set r.h.toNat (r.t,r.w)
def gCoR:DSp:=fun ds Q=>∃ (r:Rw) (n:Nat) (ms:List Int),ds=[rwD r,.int n] /\ RwOk n ms r /\ n <= 6 /\ Q (rowD (eT n r))
theorem ki:cZ gCoR:=fun ds P P' f ⟨r,n,ms,a,b,c,h⟩=>⟨r,n,ms,a,b,c,f _ h⟩
theorem kj (T:Tx K mg):FnOk P w K mg base CX0 1 T.dg T.cI ["row","many"] (spD K 2 gCoR):=by
 refine fnD (k:=0) T.bA.F sc_counts_of_row (fun cdv A outer s H E hr=>(aq (wF (i:=2) sc_counts_of_row.nd rfl (by first | exact Or.inl rfl | exact Or.inr rfl) (AC (aE (cY (aa (bU (aa ah (aa ah ae))) ae))) (ad 1 (pv 1))))
   (aq (yj (bU (aa (aK (ad 0 (pv 0)) ah (fun _ _=>rfl)) (aa (aK (ad 0 (pv 0)) ah (fun _ _=>rfl)) ae))) (Ay (pv 2) (aK (ad 0 (pv 0)) ah (fun _ _=>rfl))))
   (ao (aO (bK cx rfl T.bG rfl (aa (ad 2 (pv 2)) ae))))))) (fun ds Q hl h=>?_)
 obtain ⟨r,n,ms,rfl,o,n6,h⟩:=h
 have h0:=o.h0
 have h1:=o.h1
 have e:∀ k:Nat,(List.replicate k [D.tup [.int 0,.int 0]]).flatten=(List.replicate k ((0,0):Int×Int)).map aT:=fun k=>by
  induction k with
  | zero=>rfl
  | succ k ih=>rw [List.replicate_succ,List.replicate_succ,List.flatten_cons,List.map_cons,ih]; rfl
 refine ⟨sz,sz,⟨⟨by omega,by omega⟩,?_⟩,?_⟩
 ·rw [Int.toNat_natCast]
  exact Nat.le_trans (show 1 * n <= 6 by omega) (by decide)
 rw [Int.toNat_natCast,e]
 refine ⟨sz,trivial,r.h.toNat,Az h0 (by rw [List.length_map,List.length_replicate]; exact h1),?_⟩
 show Q (.tup (((List.replicate n ((0,0):Int×Int)).map aT).set r.h.toNat (aT (r.t,r.w))))
 rw [← List.map_set]
 exact h
def km:DSp:=fun ds Q=>∃ (n:Nat) (ms:List Int) (rs:List Rw) (bm br:Bool),ds=[.int n,sqD bm (ms.map D.int),sqD br (rs.map rwD)] /\ (2 <= n /\ n <= 6) /\ MsOk ms /\ rs.length <= 60 /\ (∀ r∈rs,RwOk n ms r) /\ Q (eS ⟨n,ms,gath n (rs.map fun r=>(r.ks,eT n r))⟩)
theorem da:cZ km:=fun ds P P' f ⟨n,ms,rs,x,y,a,b,c,d,e,h⟩=>⟨n,ms,rs,x,y,a,b,c,d,e,f _ h⟩
theorem yO {n:Nat} {ms:List Int} {r:Rw} (o:RwOk n ms r):RowN 110 n (eT n r):=by
 refine ⟨by unfold eT; simp,fun c hc=>?_⟩
 unfold eT at hc
 rcases List.mem_or_eq_of_mem_set hc with hc | rfl
 ·rw [List.eq_of_mem_replicate hc]
  exact uN (Int.le_refl 0) (Int.le_refl 0) (by unfold Bd; exact Nat.two_pow_pos _)
 ·refine uN o.w0 o.wt ?_
  have:=o.t1
  have:=o.w0
  have:=o.wt
  unfold Bd
  have e:(2:Nat) ^ 110=1298074214633706907132624082305024:=by decide
  omega
theorem db (T:Tx K mg):FnOk P w K mg base CX0 6 T.kw T.iM ["many","marks","rows"] (spD K 3 km):=by
 refine fnD (k:=5) T.ay.F sc_book_of (fun cdv A outer s H E hr=>(aq (cf (cC (bS (ai (eB T) eA (hr.mono (by decide)) rfl T.aH.m T.aH.F.kp T.aH.b (aa (ad 0 (pv 0)) (aa (fm rfl T.fc) (aa (fm rfl T.fM) ae)))))) (ao gI) aL)
   (aq (cf (cC (bS (ai (pZ T) pY (hr.mono (by decide)) rfl T.dl.m T.dl.F.kp T.dl.b (aa (ad 1 (pv 1)) ae)))) (ao gI) aL)
   (aq (cf (cC (bS (ai (sC T) sA (hr.mono (by decide)) rfl T.ee.m T.ee.F.kp T.ee.b (aa (ad 2 (pv 2)) (aa (ad 0 (pv 0)) (aa (ad 1 (pv 1)) ae)))))) (ao gI) aL)
   (aq (pB (i:=3) sc_book_of.nd rfl rfl (bo (N':=["row","many"]) rfl rfl (by decide +kernel) rfl (.own (.cap (j:=0) rfl (by first | exact Or.inl rfl | exact Or.inr rfl) rfl .nil)) (by decide +kernel) (lr (ad 2 (pv 2))) (fun B=>(aJ (i:=0) (show List.Nodup (α:=PySem.Str) ["row","many"] by decide +kernel) rfl (by first | exact Or.inl rfl | exact Or.inr rfl))) (fun B=>bu) (fun B=>(bU (aa (bK cx rfl T.bG rfl (aa (aK (ad 0 (pv 0)) ah (fun _ _=>rfl)) ae)) (aa (ai (kj T) ki (hr.mono (by decide)) rfl T.bA.m T.bA.F.kp T.bA.b (aa (ad 0 (pv 0)) (aa (ad 1 (pv 1)) ae))) ae))))))
   (ao (aO (bU (aa (ad 0 (pv 0)) (aa (bK cx rfl T.bG rfl (aa (ad 1 (pv 1)) ae)) (aa (bK cx rfl T.bG rfl (aa (ai (lC T) lB (hr.mono (by decide)) rfl T.bT.m T.bT.F.kp T.bT.b (aa (ad 0 (pv 0)) (aa (ad 3 (pv 3)) ae))) ae)) ae))))))))))) (fun ds Q hl h=>?_)
 obtain ⟨n,ms,rs,bm,br,rfl,⟨n2,n6⟩,mo,l60,ro,h⟩:=h
 cases bm
 all_goals cases br
 all_goals
  refine ⟨rfl,⟨by omega,by omega⟩,Br.f ⟨rfl,ms,_,rfl,mo,Br.f ⟨rfl,rs,n,ms,_,_,rfl,l60,ro,mo,Br.f ?_⟩⟩⟩
  refine bz (fun pre acc ρ=>∃ r0 r1:List Rw,rs=r0++r1 /\ pre=r0.map rwD /\ acc=(r0.map fun r=>(r.ks,eT n r)).map cb /\ ∃ s:Sl,ρ=[s,.val (.int n)]) (fun acc ρ hN=>?_) (fun pre d post acc ρ Y e hN hY=>?_) _ ⟨[],_,rfl,rfl,rfl,_,rfl⟩
  ·obtain ⟨r0,r1,e,e2,rfl,s,rfl⟩:=hN
   have:r1=[]:=by
    have:=congrArg List.length e2
    rw [e] at this
    simp at this
    exact this
   subst this
   rw [List.append_nil] at e
   subst e
   have fin:wj [.int n,.lst ((rs.map fun r=>(r.ks,eT n r)).map cb)] (fun d=>nJ [d] fun d=>[D.int n,cq ms,d].length <= sizeLine /\ Q (.tup [.int n,cq ms,d])):=by
    refine ⟨n,_,ms.length,rfl,rfl,⟨n6,by rw [List.length_map]; exact Nat.le_trans l60 (by decide),fun p hp=>?_⟩,sz,h⟩
    obtain ⟨r,hr,rfl⟩:=List.mem_map.mp hp
    exact ⟨(ro r hr).kl,yO (ro r hr)⟩
   exact ⟨rfl,fin⟩
  ·obtain ⟨r0,r1,e3,rfl,rfl,s,rfl⟩:=hN
   rw [e3,List.map_append] at e
   have e:=List.append_cancel_left e
   cases r1 with
   | nil=>simp at e
   | cons r r1 =>
    rw [List.map_cons] at e
    injection e with e1 e2
    subst e1
    have hr:=ro r (by rw [e3]; simp)
    rw [e3,List.length_append] at l60
    refine Br.t ⟨rfl,r,n,ms,rfl,hr,n6,sz,?_,hY _ _ ⟨r0++[r],r1,by rw [e3]; simp,by simp,by rw [List.map_append,List.map_append]; rfl,_,rfl⟩⟩
    rw [List.length_map,List.length_map]
    exact Nat.lt_of_le_of_lt (show r0.length <= 60 by omega) (by decide)
def addX {α:Type} (k:List Int) (r:α):List (List Int×List α)->List (List Int×List α)
 | []=>[(k,[r])]
 | p::t=>if p.1=k then (p.1,p.2++[r])::t else p::addX k r t
def grpX {α:Type} (ps:List (List Int×α)):List (List Int×List α):=ps.foldl (fun g p=>addX p.1 p.2 g) []
theorem uT {α:Type} (ps:List (List Int×α)) (p:List Int×α):grpX (ps++[p])=addX p.1 p.2 (grpX ps):=by
 unfold grpX
 rw [List.foldl_append]
 rfl
theorem gR {α:Type} (k:List Int) (r:α):∀ g:List (List Int×List α),(addX k r g).map (·.1)=if k∈g.map (·.1) then g.map (·.1) else g.map (·.1)++[k]
 | []=>rfl
 | p::t=>by
  unfold addX
  by_cases e:p.1=k
  ·rw [if_pos e,if_pos (by simp [e])]
   rfl
  ·rw [if_neg e,List.map_cons,gR k r t]
   by_cases m:k∈t.map (·.1)
   ·rw [if_pos m,if_pos (by rw [List.map_cons]; exact List.mem_cons_of_mem _ m),List.map_cons]
   ·rw [if_neg m,if_neg (by rw [List.map_cons]; intro z; rcases List.mem_cons.mp z with z | z; exact e z.symm; exact m z),List.map_cons]
    rfl
def xsOf {α:Type} (g:List (List Int×List α)) (k:List Int):List α:=((g.find? fun p=>decide (p.1=k)).map (·.2)).getD []
theorem ol {α:Type} (k:List Int) (r:α) (k':List Int):∀ g:List (List Int×List α),xsOf (addX k r g) k'=if k=k' then xsOf g k'++[r] else xsOf g k'
 | []=>by
  unfold addX xsOf
  by_cases e:k=k'
  ·rw [if_pos e,List.find?_cons_of_pos (by simpa using e)]
   rfl
  ·rw [if_neg e,List.find?_cons_of_neg (by simpa using e)]
 | p::t=>by
  have ih:=ol k r k' t
  unfold addX
  unfold xsOf at ih ⊢
  by_cases e:p.1=k
  ·rw [if_pos e]
   by_cases e2:k=k'
   ·rw [if_pos e2,List.find?_cons_of_pos (by simp [e,e2]),List.find?_cons_of_pos (by simp [e,e2])]
    rfl
   ·rw [if_neg e2,List.find?_cons_of_neg (by simp [e,e2]),List.find?_cons_of_neg (by simp [e,e2])]
  ·rw [if_neg e]
   by_cases e2:p.1=k'
   ·rw [List.find?_cons_of_pos (by simpa using e2),List.find?_cons_of_pos (by simpa using e2),if_neg (fun z=>e (by rw [e2,z]))]
   ·rw [List.find?_cons_of_neg (by simpa using e2),List.find?_cons_of_neg (by simpa using e2)]
    exact ih
theorem uU {α:Type} (ps:List (List Int×α)) (k:List Int):xsOf (grpX ps) k=(ps.filter fun p=>decide (p.1=k)).map (·.2):=by
 have key:∀ (qs:List (List Int×α)) g,xsOf (qs.foldl (fun g (p:List Int×α)=>addX p.1 p.2 g) g) k=xsOf g k++(qs.filter fun p=>decide (p.1=k)).map (·.2):=by
  intro qs
  induction qs with
  | nil=>intro g; simp
  | cons q t ih =>
   intro g
   rw [List.foldl_cons,ih,ol]
   by_cases e:q.1=k
   ·rw [if_pos e,List.filter_cons_of_pos (by simpa using e),List.map_cons,List.append_assoc]
    rfl
   ·rw [if_neg e,List.filter_cons_of_neg (by simpa using e)]
 rw [grpX,key]
 rfl
theorem rf {α:Type} (ps:List (List Int×α)) (k:List Int):k∈(grpX ps).map (·.1)↔k∈ps.map (·.1):=by
 have key:∀ (qs:List (List Int×α)) g,k∈(qs.foldl (fun g (p:List Int×α)=>addX p.1 p.2 g) g).map (·.1)↔k∈g.map (·.1)∨k∈qs.map (·.1):=by
  intro qs
  induction qs with
  | nil=>intro g; simp
  | cons q t ih =>
   intro g
   rw [List.foldl_cons,ih,gR,List.map_cons,List.mem_cons]
   by_cases m:q.1∈g.map (·.1)
   ·rw [if_pos m]
    constructor
    ·rintro (h | h)
     ·exact .inl h
     ·exact .inr (.inr h)
    ·rintro (h | h | h)
     ·exact .inl h
     ·exact .inl (h ▸ m)
     ·exact .inr h
   ·rw [if_neg m,List.mem_append,List.mem_singleton]
    constructor
    ·rintro ((h | h) | h)
     ·exact .inl h
     ·exact .inr (.inl h)
     ·exact .inr (.inr h)
    ·rintro (h | h | h)
     ·exact .inl (.inl h)
     ·exact .inl (.inr h)
     ·exact .inr h
 rw [grpX,key]
 simp
theorem eU {α:Type} (ps:List (List Int×α)):((grpX ps).map (·.1)).Nodup:=by
 have key:∀ (qs:List (List Int×α)) g,(g.map (·.1)).Nodup->((qs.foldl (fun g (p:List Int×α)=>addX p.1 p.2 g) g).map (·.1)).Nodup:=by
  intro qs
  induction qs with
  | nil=>intro g h; exact h
  | cons q t ih =>
   intro g h
   rw [List.foldl_cons]
   refine ih _ ?_
   rw [gR]
   by_cases m:q.1∈g.map (·.1)
   ·rw [if_pos m]; exact h
   ·rw [if_neg m]
    refine List.nodup_append.mpr ⟨h,by simp,fun a ha b hb e=>?_⟩
    rw [List.mem_singleton.mp hb] at e
    exact m (e ▸ ha)
 exact key ps [] List.nodup_nil
def aR (n:Nat) (rs:List Rw):Row:=(List.range n).map fun (h:Nat)=>(((rs.filter fun r=>decide (r.h=(h:Int))).map (·.t)).sum,((rs.filter fun r=>decide (r.h=(h:Int))).map (·.w)).sum)
theorem Cv (kds:List (List Key×D)):fzO (dvO kds) = .dT (kds.map (·.1)) (kds.map (·.2)):=by
 unfold dvO
 simp only [fzO]
 congr 1
 rw [ma,List.map_map]
 apply List.map_congr_left
 intro p _
 simp only [Function.comp,fzO]
theorem gS {α:Type} {p:α->Bool} {l:List α} {n:Nat} (h:l.length <= n):(l.filter p).length <= n:=Nat.le_trans (List.length_filter_le _ _) h
theorem jt {α:Type} (ps:List (List Int×α)):(grpX ps).length <= ps.length:=by
 have key:∀ (qs:List (List Int×α)) g,(qs.foldl (fun g (p:List Int×α)=>addX p.1 p.2 g) g).length <= g.length + qs.length:=by
  intro qs
  induction qs with
  | nil=>intro g; simp
  | cons q t ih =>
   intro g
   rw [List.foldl_cons,List.length_cons]
   have h1:=ih (addX q.1 q.2 g)
   have h2:=congrArg List.length (gR q.1 q.2 g)
   rw [List.length_map] at h2
   have h3:(addX q.1 q.2 g).length <= g.length + 1:=by
    rw [h2]
    split
    ·rw [List.length_map]; omega
    ·rw [List.length_append,List.length_map]; simp
   omega
 have:=key ps []
 simpa [grpX] using this
def embG {α:Type} (F:List α->D) (g:List (List Int×List α)):List (List Key×D):=g.map fun p=>(kI p.1,F p.2)
theorem om {α:Type} (F:List α->D) (k:List Int):∀ g:List (List Int×List α),(fC (embG F g) (kI k)).getD (F [])=F (xsOf g k)
 | []=>rfl
 | p::t=>by
  have ih:=om F k t
  unfold fC embG xsOf at ih ⊢
  rw [List.map_cons]
  by_cases e:p.1=k
  ·rw [List.find?_cons_of_pos (by simpa [sr] using e),List.find?_cons_of_pos (by simpa using e)]
   rfl
  ·rw [List.find?_cons_of_neg (by simpa [sr] using e),List.find?_cons_of_neg (by simpa using e)]
   exact ih
theorem xk {α:Type} (F:List α->D) {k:List Int}:∀ {g:List (List Int×List α)},k∈g.map (·.1)->fC (embG F g) (kI k)=some (F (xsOf g k))
 | [],h=>by simp at h
 | p::t,h=>by
  unfold fC embG xsOf
  rw [List.map_cons]
  by_cases e:p.1=k
  ·rw [List.find?_cons_of_pos (by simpa [sr] using e),List.find?_cons_of_pos (by simpa using e)]
   rfl
  ·rw [List.find?_cons_of_neg (by simpa [sr] using e),List.find?_cons_of_neg (by simpa using e)]
   have h':k∈t.map (·.1):=by
    rw [List.map_cons] at h
    rcases List.mem_cons.mp h with h | h
    ·exact absurd h.symm e
    ·exact h
   have ih:=xk F h'
   unfold fC embG xsOf at ih
   exact ih
theorem rm {α:Type} (F:List α->D) (k:List Int) (r:α):∀ (g:List (List Int×List α)),(g.map (·.1)).Nodup->putA (embG F g) (kI k) (F (xsOf g k++[r]))=embG F (addX k r g)
 | [],_=>rfl
 | p::t,nd=>by
  have nd':=List.nodup_cons.mp (by simpa using nd:(p.1::t.map (·.1)).Nodup)
  by_cases e:p.1=k
  ·have er:xsOf (p::t) k=p.2:=by
    unfold xsOf
    rw [List.find?_cons_of_pos (by simpa using e)]
    rfl
   have et:(embG F t).map (fun q=>if q.1=kI k then (q.1,F (xsOf (p::t) k++[r])) else q)=embG F t:=by
    rw [← List.map_id (embG F t),List.map_map]
    apply List.map_congr_left
    intro q hq
    obtain ⟨q',hq',rfl⟩:=List.mem_map.mp hq
    simp only [Function.comp,id]
    rw [if_neg]
    intro z
    exact nd'.1 (by rw [e,← fL z]; exact List.mem_map.mpr ⟨q',hq',rfl⟩)
   unfold putA addX
   rw [if_pos e]
   have ea:((embG F (p::t)).any fun q=>decide (q.1=kI k))=true:=by
    rw [List.any_eq_true]
    exact ⟨(kI p.1,F p.2),List.mem_cons_self,by simp [e]⟩
   rw [if_pos ea]
   show (if kI p.1=kI k then (kI p.1,F (xsOf (p::t) k++[r])) else (kI p.1,F p.2))::(embG F t).map _=(kI p.1,F (p.2++[r]))::embG F t
   rw [if_pos (by rw [e]),et,er]
  ·have er:xsOf (p::t) k=xsOf t k:=by
    unfold xsOf
    rw [List.find?_cons_of_neg (by simpa using e)]
   have ih:=rm F k r t nd'.2
   have nk:¬ kI p.1=kI k:=fun z=>e (fL z)
   unfold putA at ih ⊢
   unfold addX
   rw [if_neg e,er]
   have ea:((embG F (p::t)).any fun q=>decide (q.1=kI k))=(embG F t).any fun q=>decide (q.1=kI k):=by
    show (decide (kI p.1=kI k) || (embG F t).any fun q=>decide (q.1=kI k))=_
    rw [decide_eq_false nk,Bool.false_or]
   rw [ea]
   by_cases a:((embG F t).any fun q=>decide (q.1=kI k))=true
   ·rw [if_pos a] at ih ⊢
    show (if kI p.1=kI k then _ else (kI p.1,F p.2))::(embG F t).map _=(kI p.1,F p.2)::embG F (addX k r t)
    rw [if_neg nk,ih]
   ·rw [if_neg a] at ih ⊢
    show (kI p.1,F p.2)::(embG F t++_)=(kI p.1,F p.2)::embG F (addX k r t)
    rw [ih]
def aD (rs:List Rw):List (List Int×Rw):=(rs.filter fun r=>decide (0 < r.t)).map fun r=>(r.ks,r)
def dueK (n:Nat) (rs:List Rw):List (List Int×Row):=(bp ((grpX (aD rs)).map (·.1))).map fun k=>(k,aR n (xsOf (grpX (aD rs)) k))
def lstR (n:Nat) (xs:List Rw):D:=.lst ((aR n xs).map aT)
theorem ko (rs:List Rw) (r:Rw):aD (rs++[r])=if 0 < r.t then aD rs++[(r.ks,r)] else aD rs:=by
 unfold aD
 rw [List.filter_append]
 by_cases h:0 < r.t
 ·rw [if_pos h,List.filter_cons_of_pos (by simpa using h)]
  simp
 ·rw [if_neg h,List.filter_cons_of_neg (by simpa using h)]
  simp
theorem dW (n:Nat) (xs:List Rw):(aR n xs).length=n:=by unfold aR; rw [List.length_map,List.length_range]
theorem ju {n:Nat} {xs:List Rw} {h:Nat} (hh:h < n):(aR n xs)[h]? = some (((xs.filter fun r=>decide (r.h=(h:Int))).map (·.t)).sum,((xs.filter fun r=>decide (r.h=(h:Int))).map (·.w)).sum):=by
 unfold aR
 rw [List.getElem?_map,List.getElem?_range hh]
 rfl
theorem wm (l:List Int) (x:Int):(l++[x]).sum=l.sum + x:=by
 induction l with
 | nil=>simp
 | cons a l ih=>rw [List.cons_append,List.sum_cons,List.sum_cons,ih]; omega
theorem sD {n:Nat} {ms:List Int} {xs:List Rw} {r:Rw} (o:RwOk n ms r):aR n (xs++[r])=(aR n xs).set r.h.toNat (((aR n xs).getD r.h.toNat (0,0)).1 + r.t,((aR n xs).getD r.h.toNat (0,0)).2 + r.w):=by
 have h0:=o.h0
 have h1:=o.h1
 apply List.ext_getElem?
 intro i
 by_cases hi:i < n
 ·rw [ju hi,List.getElem?_set,List.getD_eq_getElem?_getD,ju (show r.h.toNat < n by omega),List.filter_append]
  by_cases e:r.h.toNat=i
  ·rw [if_pos e,if_pos (by rw [dW]; omega),List.filter_cons_of_pos (by simp; omega)]
   subst e
   simp only [List.map_append,List.map_cons,List.map_nil,List.filter_nil,wm]
   rfl
  ·rw [if_neg e,ju hi,List.filter_cons_of_neg (by simp; omega)]
   simp
 ·rw [List.getElem?_eq_none (by rw [dW]; omega),List.getElem?_eq_none (by rw [List.length_set,dW]; omega)]
theorem yP {A:Row} {h:Int} {x:Int×Int} (h0:0 <= h) (h1:h < A.length):cutD (A.map aT) none (some h)++[aT x]++cutD (A.map aT) (some (h + 1)) none=(A.set h.toNat x).map aT:=by
 have hn:¬ h < 0:=by omega
 have hn1:¬ h + 1 < 0:=by omega
 have e1:cutD (A.map aT) none (some h)=(A.take h.toNat).map aT:=by
  unfold cutD
  have s1:HT.sIx (A.map aT).length 0 none=0:=rfl
  have s2:HT.sIx (A.map aT).length (A.map aT).length (some h)=h.toNat:=by
   rw [List.length_map]
   unfold HT.sIx
   simp [hn]
   omega
  rw [s1,s2,List.drop_zero,Nat.sub_zero,List.map_take]
 have e2:cutD (A.map aT) (some (h + 1)) none=(A.drop (h.toNat + 1)).map aT:=by
  unfold cutD
  have s1:HT.sIx (A.map aT).length 0 (some (h + 1))=h.toNat + 1:=by
   rw [List.length_map]
   unfold HT.sIx
   simp [hn1]
   omega
  have s2:HT.sIx (A.map aT).length (A.map aT).length none=(A.map aT).length:=rfl
  rw [s1,s2,List.map_drop]
  apply List.take_of_length_le
  rw [List.length_drop]
  exact Nat.le_refl _
 rw [e1,e2,← List.map_singleton (f:=aT),← List.map_append,← List.map_append,List.set_eq_take_append_cons_drop,if_pos (by omega)]
 simp
theorem Bi (xs:List D) (lo hi:Option Int):(cutD xs lo hi).length <= xs.length:=by
 unfold cutD
 rw [List.length_take,List.length_drop]
 omega
def gDue:DSp:=fun ds Q=>∃ (n:Nat) (ms:List Int) (rs:List Rw),ds=[.int n,.lst (ms.map D.int),.lst (rs.map rwD)] /\ (2 <= n /\ n <= 6) /\ MsOk ms /\ rs.length <= 180 /\ (∀ r∈rs,RwOk n ms r) /\ Q (eS ⟨n,ms,dueK n rs⟩)
theorem iA:cZ gDue:=fun ds P P' f ⟨n,ms,rs,a,b,c,d,e,h⟩=>⟨n,ms,rs,a,b,c,d,e,f _ h⟩
theorem uV {n:Nat} (n6:n <= 6) {s:Sl} {Q:List D->Prop} (q:Q ((List.replicate n ((0,0):Int×Int)).map aT)):ej (kZ 0) eQ (dTup (tP (dC (.int 0)) (tP (dC (.int 0)) Ad))) (jg 0 ((n:Int)).toNat) [] [s] Q:=by
 refine cE (fun _=>aT (0,0)) (fun ρ=>∃ s,ρ=[s]) ?_ (fun d hd ρ Y Z hN hY=>?_) _ ⟨_,rfl⟩ ?_
 ·rw [cF,List.length_map,List.length_range,Int.toNat_natCast]
  exact Nat.le_trans n6 (by decide)
 ·obtain ⟨s,rfl⟩:=hN
  exact Br.t ⟨sz,hY _ ⟨_,rfl⟩⟩
 ·rw [cF,List.map_map,Int.toNat_natCast]
  rw [List.map_replicate] at q
  have e:(List.range n).map ((fun _=>aT (0,0)) ∘ fun (i:Nat)=>D.int (0 + i))=List.replicate n (aT (0,0)):=by
   have:(List.range n).map (fun _=>aT (0,0))=_:=List.map_const'
   rw [List.length_range] at this
   exact this
  rw [e]
  exact q
theorem iB (T:Tx K mg):FnOk P w K mg base CX0 3 T.iD T.gh ["_law_many","_law_marks","_law_rows_here"] (spD K 3 gDue):=by
 refine fnD (k:=2) T.bh.F sc__law_due (fun cdv A outer s H E hr=>(aq (ur (i:=3) sc__law_due.nd rfl (by first | exact Or.inl rfl | exact Or.inr rfl))
   (bO (qv PassesOwn.never rfl (dH (ad 2 (pv 2))) (tQ (n:=4) rfl (dw (aJ (i:=4) sc__law_due.nd rfl (by first | exact Or.inl rfl | exact Or.inr rfl)) (dw (aJ (i:=5) sc__law_due.nd rfl (by first | exact Or.inl rfl | exact Or.inr rfl)) (dw (aJ (i:=6) sc__law_due.nd rfl (by first | exact Or.inl rfl | exact Or.inr rfl)) (dw (aJ (i:=7) sc__law_due.nd rfl (by first | exact Or.inl rfl | exact Or.inr rfl)) pf))))) (ao (cf (bq rV (ad 6 (pv 6)) ah (aS _)) (aq (bx (i:=8) sc__law_due.nd rfl (by first | exact Or.inl rfl | exact Or.inr rfl) (yC hr (pv 3) (ad 5 (pv 5)) (aE (PCD.pld (bo (N':=["_law_k"]) rfl rfl (by decide +kernel) rfl (.own .nil) (by decide +kernel) (eP rfl T.iG (aa (ad 0 (pv 0)) ae)) (fun B=>(aJ (i:=0) (show List.Nodup (α:=PySem.Str) ["_law_k"] by decide +kernel) rfl (by first | exact Or.inl rfl | exact Or.inr rfl))) (fun B=>bu) (fun B=>(bU (aa ah (aa ah ae)))))))))
   (aq (bx (i:=9) sc__law_due.nd rfl (by first | exact Or.inl rfl | exact Or.inr rfl) (aK (ad 8 (pv 8)) (ad 4 (pv 4)) (fun _ _=>rfl)))
   (aq (bx (i:=8) sc__law_due.nd rfl (by first | exact Or.inl rfl | exact Or.inr rfl) (aE (iU (aE (iU (aE (nP (ad 8 (pv 8)) ik (fR (ad 4 (pv 4))))) (aE (cY (aa (bU (aa (dq gJ (aK (ad 9 (pv 9)) ah (fun _ _=>rfl)) (ad 6 (pv 6))) (aa (dq gJ (aK (ad 9 (pv 9)) ah (fun _ _=>rfl)) (ad 7 (pv 7))) ae))) ae))))) (aE (nP (ad 8 (pv 8)) (fR (dq gJ (ad 4 (pv 4)) ah)) ik)))))
   (ao (yB hr (pv 3) (ad 5 (pv 5)) (ad 8 (pv 8))))))) aL)))
   (ao (aO (bU (aa (ad 0 (pv 0)) (aa (bK cx rfl T.bG rfl (aa (ad 1 (pv 1)) ae)) (aa (bK cx rfl T.bG rfl (aa (aE (PCD.pld (bo (N':=["_law_kinds","_law_found"]) rfl rfl (by decide +kernel) rfl (.own (.cap (j:=3) rfl (by first | exact Or.inl rfl | exact Or.inr rfl) rfl .nil)) (by decide +kernel) (dH (aw qW rfl T.mM (by decide +kernel) (aa (ad 3 (pv 3)) ae))) (fun B=>(aJ (i:=0) (show List.Nodup (α:=PySem.Str) ["_law_kinds","_law_found"] by decide +kernel) rfl (by first | exact Or.inl rfl | exact Or.inr rfl))) (fun B=>bu) (fun B=>(bU (aa (ad 0 (pv 0)) (aa (bK cx rfl T.bG rfl (aa (wO hr (ad 1 (pv 1)) (ad 0 (pv 0)) (fun _ _=>rfl)) ae)) ae))))))) ae)) ae))))))))) (fun ds Q hl h=>?_)
 obtain ⟨n,ms,rs,rfl,⟨n2,n6⟩,mo,r60,ro,h⟩:=h
 have pl:∀ r0:List Rw,r0.length <= 180->(aD r0).length <= 180:=fun r0 h0=>by unfold aD; rw [List.length_map]; exact gS h0
 have z0:D.lst ((List.replicate n ((0,0):Int×Int)).map aT)=lstR n []:=by
  unfold lstR aR
  congr 1
  have:(List.range n).map (fun (h:Nat)=>((((([]:List Rw).filter fun r=>decide (r.h=(h:Int))).map (·.t)).sum,((([]:List Rw).filter fun r=>decide (r.h=(h:Int))).map (·.w)).sum):Int×Int))=List.replicate n (0,0):=by
   have:(List.range n).map (fun _=>((0,0):Int×Int))=_:=List.map_const'
   rw [List.length_range] at this
   exact this
  rw [this]
 refine ⟨fun ρ=>∃ a b c d e f:Sl,ρ=[.val (.int n),.val (.lst (ms.map D.int)),.val (.lst (rs.map rwD)),.obj (dvO (embG (lstR n) (grpX (aD rs)))),a,b,c,d,e,f],?_,?_⟩
 ·refine jS (fun pre ρ=>∃ r0 r1:List Rw,rs=r0++r1 /\ pre=r0.map rwD /\ ∃ a b c d e f:Sl,ρ=[.val (.int n),.val (.lst (ms.map D.int)),.val (.lst (rs.map rwD)),.obj (dvO (embG (lstR n) (grpX (aD r0)))),a,b,c,d,e,f]) (fun ρ hN=>?_) (fun pre d post ρ X e hN hX=>?_) _ ⟨[],_,rfl,rfl,_,_,_,_,_,_,rfl⟩
  ·obtain ⟨r0,r1,e,e2,a,b,c,d,e',f,rfl⟩:=hN
   have:r1=[]:=by
    have:=congrArg List.length e2
    rw [e] at this
    simp at this
    exact this
   subst this
   rw [List.append_nil] at e
   rw [← e]
   exact ⟨a,b,c,d,e',f,rfl⟩
  ·obtain ⟨r0,r1,e3,rfl,a,b,c,d',e',f,rfl⟩:=hN
   rw [e3,List.map_append] at e
   have e:=List.append_cancel_left e
   cases r1 with
   | nil=>simp at e
   | cons r r1 =>
    rw [List.map_cons] at e
    injection e with e1 e2
    subst e1
    have hr:=ro r (by rw [e3]; simp)
    have h0:=hr.h0
    have h1:=hr.h1
    have l60:=r60
    rw [e3,List.length_append,List.length_cons] at l60
    have p0:=pl r0 (by omega)
    refine ⟨rfl,Br.di (fun z=>?_) (fun z=>?_)⟩
    ·refine ⟨trivial,⟨by omega,by omega⟩,uV n6 ⟨embG (lstR n) (grpX (aD r0)),kI r.ks,rfl,dJ _,?_⟩⟩
     rw [z0,om]
     have al:=dW n (xsOf (grpX (aD r0)) r.ks)
     refine tZ (d:=aT ((aR n (xsOf (grpX (aD r0)) r.ks)).getD r.h.toNat (0,0))) h0 ?_ ?_
     ·rw [List.getElem?_map,List.getD_eq_getElem?_getD]
      have:r.h.toNat < (aR n (xsOf (grpX (aD r0)) r.ks)).length:=by omega
      simp [this]
     ·have cl:=Bi ((aR n (xsOf (grpX (aD r0)) r.ks)).map aT)
      have e5:=yP (A:=aR n (xsOf (grpX (aD r0)) r.ks)) (x:=(((aR n (xsOf (grpX (aD r0)) r.ks)).getD r.h.toNat (0,0)).1 + r.t,((aR n (xsOf (grpX (aD r0)) r.ks)).getD r.h.toNat (0,0)).2 + r.w)) h0 (by omega)
      rw [← sD hr] at e5
      refine ⟨sz,sz,?_,?_,trivial,embG (lstR n) (grpX (aD r0)),kI r.ks,rfl,dJ _,?_,hX _ ⟨r0++[r],r1,by rw [e3]; simp,by simp,.val (.int r.h),.val (cq r.ks),.val (.int r.t),.val (.int r.w),.val (lstR n (xsOf (grpX (aD r0)) r.ks++[r])),.val (aT ((aR n (xsOf (grpX (aD r0)) r.ks)).getD r.h.toNat (0,0))),?_⟩⟩
      ·have:=cl none (some r.h)
       rw [List.length_map] at this
       exact Nat.le_trans (show _ <= 10 by simp only [List.length_singleton]; omega) (by decide)
      ·have h1:=cl none (some r.h)
       have h2:=cl (some (r.h + 1)) none
       rw [List.length_map] at h1 h2
       exact Nat.le_trans (show _ <= 20 by rw [List.length_append,List.length_singleton]; omega) (by decide)
      ·unfold embG
       rw [List.length_map]
       exact Nat.lt_of_le_of_lt (show _ <= 180 from Nat.le_trans (jt _) p0) (by decide)
      ·have e6:=rm (lstR n) r.ks r (grpX (aD r0)) (eU _)
       rw [ko,if_pos z,uT,← e6]
       unfold lstR
       rw [← e5]
       rfl
    ·exact hX _ ⟨r0++[r],r1,by rw [e3]; simp,by simp,_,_,_,_,_,_,by rw [ko,if_neg z]; rfl⟩
 ·rintro _ ⟨a,b,c,d,e',f,rfl⟩
  obtain ⟨ps,hps⟩:∃ ps,ps=aD rs:=⟨_,rfl⟩
  have p60:=pl rs r60
  have kv:∀ p∈ps,p.1.length=ms.length:=fun p hp=>by
   rw [hps] at hp
   obtain ⟨r,hr,rfl⟩:=List.mem_map.mp hp
   exact (ro r (List.mem_filter.mp hr).1).kl
  unfold dueK at h
  rw [← hps] at h p60 ⊢
  have hk:(embG (lstR n) (grpX ps)).map (·.1)=((grpX ps).map (·.1)).map kI:=by unfold embG; rw [List.map_map,List.map_map]; rfl
  have kl:((grpX ps).map (·.1)).length <= 180:=by rw [List.length_map]; exact Nat.le_trans (jt _) p60
  have kln:∀ k∈(grpX ps).map (·.1),k.length=ms.length:=fun k hk=>by
   rw [rf] at hk
   obtain ⟨p,hp,rfl⟩:=List.mem_map.mp hk
   exact kv p hp
  have sl60:(bp ((grpX ps).map (·.1))).length <= 180:=by rw [(aN _).length_eq]; exact kl
  refine ⟨⟨fun k hk'=>?_,fun h2 k hk'=>?_,?_⟩,?_⟩
  ·rw [hk] at hk'
   obtain ⟨k',_,rfl⟩:=List.mem_map.mp hk'
   exact mH k'
  ·rw [hk] at h2 hk'
   rw [List.length_map] at h2
   obtain ⟨k',hk2,rfl⟩:=List.mem_map.mp hk'
   intro z
   exact pR (eU ps) kln h2 k' hk2 (fL (b:=[]) z)
  ·refine ⟨?_,by rw [hk,List.length_map]; omega⟩
   rw [hk]
   exact (eU ps).map kI (fun a b h e=>h (fL e))
  ·have e1:(srtK ((embG (lstR n) (grpX ps)).map (·.1))).map keyD=(bp ((grpX ps).map (·.1))).map cq:=by
    rw [hk,pQ,List.map_map]
    apply List.map_congr_left
    intro k _
    exact (dJ k).symm
   show ej _ _ _ ((srtK ((embG (lstR n) (grpX ps)).map (·.1))).map keyD) _ _ _
   rw [e1]
   refine bz (fun pre acc ρ=>∃ k0 k1:List (List Int),bp ((grpX ps).map (·.1))=k0++k1 /\ pre=k0.map cq /\ acc=(k0.map fun k=>(k,aR n (xsOf (grpX ps) k))).map cb /\ ∃ s:Sl,ρ=[s,.val (fzO (dvO (embG (lstR n) (grpX ps))))]) (fun acc ρ hN=>?_) (fun pre d post acc ρ Y e hN hY=>?_) _ ⟨[],_,rfl,rfl,rfl,_,rfl⟩
   ·obtain ⟨k0,k1,e,e2,rfl,s,rfl⟩:=hN
    have:k1=[]:=by
     have:=congrArg List.length e2
     rw [e] at this
     simp at this
     exact this
    subst this
    rw [List.append_nil] at e
    rw [← e]
    exact ⟨sz,h⟩
   ·obtain ⟨k0,k1,e3,rfl,rfl,s,rfl⟩:=hN
    rw [e3,List.map_append] at e
    have e:=List.append_cancel_left e
    cases k1 with
    | nil=>simp at e
    | cons k k1 =>
     rw [List.map_cons] at e
     injection e with e1 e2
     subst e1
     have hk':k∈bp ((grpX ps).map (·.1)):=by rw [e3]; simp
     have h4:=xk (lstR n) ((aN _).mem_iff.mp hk')
     rw [e3,List.length_append] at sl60
     refine Br.t ⟨embG (lstR n) (grpX ps),kI k,lstR n (xsOf (grpX ps) k),Cv _,dJ k,h4,sz,?_,hY _ _ ⟨k0++[k],k1,by rw [e3]; simp,by simp,by rw [List.map_append,List.map_append]; rfl,_,rfl⟩⟩
     rw [List.length_map,List.length_map]
     exact Nat.lt_of_le_of_lt (show k0.length <= 180 by omega) (by decide)
theorem eV {α:Type} (p:α->Bool) (F:α->Int):∀ l:List α,((l.filter p).map F).sum=(l.map fun x=>if p x=true then F x else 0).sum
 | []=>rfl
 | x::l=>by
  by_cases h:p x=true
  ·rw [List.filter_cons_of_pos h,List.map_cons,List.map_cons,List.sum_cons,List.sum_cons,eV p F l,if_pos h]
  ·rw [List.filter_cons_of_neg h,List.map_cons,List.sum_cons,eV p F l,if_neg h,Int.zero_add]
theorem gT {α:Type} {F G:α->Int} {l:List α} (h:∀ x∈l,F x=G x):(l.map F).sum=(l.map G).sum:=by rw [List.map_congr_left h]
theorem qa {n:Nat} {ms:List Int} {r:Rw} (o:RwOk n ms r) {h:Nat} (hh:h < n):at_ (eT n r) h=if r.h=(h:Int) then (r.t,r.w) else (0,0):=by
 unfold at_ eT
 have h0:=o.h0
 have h1:=o.h1
 rw [List.getD_eq_getElem?_getD,List.getElem?_set]
 by_cases e:r.h=(h:Int)
 ·rw [if_pos e,if_pos (by omega),if_pos (by rw [List.length_replicate]; omega)]
  rfl
 ·rw [if_neg e,if_neg (by omega),List.getElem?_replicate,if_pos hh]
  rfl
theorem qc {rows:List Row} {n h:Nat} (hh:h < n):at_ (sums rows n) h=sumP (col rows h):=by
 unfold at_ sums
 rw [List.getD_eq_getElem?_getD,List.getElem?_map,List.getElem?_range hh]
 rfl
def prs (n:Nat) (rs:List Rw):List (List Int×Row):=rs.map fun r=>(r.ks,eT n r)
theorem rn (n:Nat) (rs:List Rw) (k:List Int):bL (grp (prs n rs)) k=(rs.filter fun r=>decide (r.ks=k)).map (eT n):=by
 rw [lA]
 unfold prs
 rw [List.filter_map,List.map_map]
 rfl
structure Part (pr:Int×Int->Int) (fr:Rw->Int):Prop where
 un:∀ r:Rw,pr (r.t,r.w)=fr r
 z:pr (0,0)=0
 su:∀ cs,pr (sumP cs)=(cs.map pr).sum
theorem Bj:Part (·.1) (·.t):=⟨fun _=>rfl,rfl,fun _=>rfl⟩
section
variable {n:Nat} {ms:List Int} {rs:List Rw} {pr:Int×Int->Int} {fr:Rw->Int}
theorem xm (pt:Part pr fr) (ro:∀ r∈rs,RwOk n ms r) {h:Nat} (hh:h < n) (k:List Int):pr (at_ (sums (bL (grp (prs n rs)) k) n) h)=(rs.map fun r=>if r.ks=k then (if r.h=(h:Int) then fr r else 0) else 0).sum:=by
 rw [qc hh,rn,pt.su]
 unfold col
 rw [List.map_map,List.map_map,eV]
 apply gT
 intro r hr
 by_cases e:r.ks=k
 ·rw [if_pos (by simpa using e),if_pos e]
  show pr (at_ (eT n r) h)=_
  rw [qa (ro r hr) hh]
  split
  ·exact pt.un r
  ·exact pt.z
 ·rw [if_neg (by simpa using e),if_neg e]
theorem uW {F:Rw->Int}:∀ {l:List Rw},0 < (l.map F).sum->∃ r∈l,0 < F r
 | [],h=>by simp at h
 | r::l,h=>by
  rw [List.map_cons,List.sum_cons] at h
  by_cases e:0 < F r
  ·exact ⟨r,List.mem_cons_self,e⟩
  ·obtain ⟨x,hx,hp⟩:=uW (F:=F) (l:=l) (by omega)
   exact ⟨x,List.mem_cons_of_mem _ hx,hp⟩
theorem on (ro:∀ r∈rs,RwOk n ms r) (k:List Int):eR (sums (bL (grp (prs n rs)) k) n)=true↔∃ r∈rs,r.ks=k /\ 0 < r.t:=by
 rw [ss]
 constructor
 ·rintro ⟨c,hc,hp⟩
  obtain ⟨h,hh,rfl⟩:=List.mem_map.mp hc
  have hh:=List.mem_range.mp hh
  have e:=xm Bj ro hh k
  rw [qc hh] at e
  rw [e] at hp
  obtain ⟨r,hr,q⟩:=uW hp
  by_cases e1:r.ks=k
  ·rw [if_pos e1] at q
   by_cases e2:r.h=(h:Int)
   ·rw [if_pos e2] at q
    exact ⟨r,hr,e1,q⟩
   ·rw [if_neg e2] at q
    omega
  ·rw [if_neg e1] at q
   omega
 ·rintro ⟨r,hr,e1,tp⟩
  have o:=ro r hr
  have h0:=o.h0
  have h1:=o.h1
  have hh:r.h.toNat < n:=by omega
  refine ⟨at_ (sums (bL (grp (prs n rs)) k) n) r.h.toNat,?_,?_⟩
  ·rw [qc hh]
   exact List.mem_map.mpr ⟨r.h.toNat,List.mem_range.mpr hh,rfl⟩
  ·have e:=xm Bj ro hh k
   rw [e]
   have hin:r.t∈rs.map fun r'=>if r'.ks=k then (if r'.h=(r.h.toNat:Int) then r'.t else 0) else 0:=List.mem_map.mpr ⟨r,hr,by rw [if_pos e1,if_pos (by omega)]⟩
   have hall:∀ x∈rs.map fun r'=>if r'.ks=k then (if r'.h=(r.h.toNat:Int) then r'.t else 0) else 0,0 <= x:=fun x hx=>by
    obtain ⟨r',hr',rfl⟩:=List.mem_map.mp hx
    have o':=ro r' hr'
    have:=o'.w0
    have:=o'.wt
    split
    ·split
     ·omega
     ·omega
    ·omega
   have:=(Be hall _ hin).1
   omega
theorem zt (ro:∀ r∈rs,RwOk n ms r):∀ r∈rs,r.t <= 0->r.t=0:=fun r hr h=>by
 have:=(ro r hr).w0
 have:=(ro r hr).wt
 omega
theorem zw (ro:∀ r∈rs,RwOk n ms r):∀ r∈rs,r.t <= 0->r.w=0:=fun r hr h=>by
 have:=(ro r hr).w0
 have:=(ro r hr).wt
 omega
theorem qd (ro:∀ r∈rs,RwOk n ms r) (m:Nat):aR m (rs.filter fun r=>decide (0 < r.t))=aR m rs:=by
 unfold aR
 apply List.map_congr_left
 intro h _
 refine Prod.ext ?_ ?_
 ·show (((rs.filter _).filter _).map _).sum=((rs.filter _).map _).sum
  rw [eV,eV,eV]
  apply gT
  intro r hr
  have:=zt ro r hr
  by_cases z:0 < r.t
  ·rw [if_pos (by simpa using z)]
  ·rw [if_neg (by simpa using z),this (by omega)]
   split <;> rfl
 ·show (((rs.filter _).filter _).map _).sum=((rs.filter _).map _).sum
  rw [eV,eV,eV]
  apply gT
  intro r hr
  have:=zw ro r hr
  by_cases z:0 < r.t
  ·rw [if_pos (by simpa using z)]
  ·rw [if_neg (by simpa using z),this (by omega)]
   split <;> rfl
theorem uX {l:List Rw} (ro:∀ r∈l,RwOk n ms r):sums (l.map (eT n)) n=aR n l:=by
 unfold sums aR
 apply List.map_congr_left
 intro h hh
 have hh:=List.mem_range.mp hh
 unfold sumP col
 simp only [List.map_map]
 refine Prod.ext ?_ ?_
 ·show (l.map fun r=>(at_ (eT n r) h).1).sum=((l.filter fun r=>decide (r.h=(h:Int))).map (·.t)).sum
  rw [eV]
  apply gT
  intro r hr
  rw [qa (ro r hr) hh]
  by_cases z:r.h=(h:Int)
  ·rw [if_pos z,if_pos (by simpa using z)]
  ·rw [if_neg z,if_neg (by simpa using z)]
 ·show (l.map fun r=>(at_ (eT n r) h).2).sum=((l.filter fun r=>decide (r.h=(h:Int))).map (·.w)).sum
  rw [eV]
  apply gT
  intro r hr
  rw [qa (ro r hr) hh]
  by_cases z:r.h=(h:Int)
  ·rw [if_pos z,if_pos (by simpa using z)]
  ·rw [if_neg z,if_neg (by simpa using z)]
theorem oq (rs:List Rw) (k:List Int):xsOf (grpX (aD rs)) k=(rs.filter fun r=>decide (r.ks=k)).filter fun r=>decide (0 < r.t):=by
 rw [uU]
 unfold aD
 rw [List.filter_map,List.map_map]
 have e2:∀ l:List Rw,l.map ((·.2) ∘ fun r=>(r.ks,r))=l:=fun l=>by
  have:((·.2) ∘ fun r:Rw=>(r.ks,r))=id:=rfl
  rw [this,List.map_id]
 rw [e2,List.filter_filter,List.filter_filter]
 apply List.filter_congr
 intro r _
 exact Bool.and_comm _ _
theorem cW (rs:List Rw) (k:List Int):k∈(grpX (aD rs)).map (·.1)↔∃ r∈rs,r.ks=k /\ 0 < r.t:=by
 rw [rf]
 unfold aD
 rw [List.map_map]
 constructor
 ·intro h
  obtain ⟨r,hr,rfl⟩:=List.mem_map.mp h
  obtain ⟨hr,tp⟩:=List.mem_filter.mp hr
  exact ⟨r,hr,rfl,by simpa using tp⟩
 ·rintro ⟨r,hr,rfl,tp⟩
  exact List.mem_map.mpr ⟨r,List.mem_filter.mpr ⟨hr,by simpa using tp⟩,rfl⟩
theorem rq (ro:∀ r∈rs,RwOk n ms r):gath n (prs n rs)=dueK n rs:=by
 unfold gath dE dueK
 rw [List.filter_map]
 have ek:(bp ((grp (prs n rs)).map (·.1))).filter ((fun c=>eR c.2) ∘ fun k=>(k,sums (bL (grp (prs n rs)) k) n))=bp ((grpX (aD rs)).map (·.1)):=by
  refine yN ((jr (xg _)).filter _) (jr (eU _)) fun k=>?_
  rw [List.mem_filter,(aN _).mem_iff,(aN _).mem_iff,cW,uR]
  constructor
  ·rintro ⟨_,h⟩
   exact (on ro k).mp h
  ·intro h
   refine ⟨?_,(on ro k).mpr h⟩
   obtain ⟨r,hr,rfl,_⟩:=h
   exact List.mem_map.mpr ⟨(r.ks,eT n r),List.mem_map.mpr ⟨r,hr,rfl⟩,rfl⟩
 rw [ek]
 apply List.map_congr_left
 intro k _
 have ro':∀ r∈rs.filter fun r=>decide (r.ks=k),RwOk n ms r:=fun r hr=>ro r (List.mem_filter.mp hr).1
 rw [rn,uX ro',oq,qd ro']
end
inductive TupN:Nat->D->Prop
 | int {n:Nat} {i:Int}:TupN n (.int i)
 | tup {n:Nat} {ds:List D} (l:ds.length <= 1000) (h:∀ d∈ds,TupN n d):TupN (n + 1) (.tup ds)
theorem qe {n:Nat} {ks:List Int} (l:ks.length <= 1000):TupN (n + 1) (cq ks):=.tup (by rw [List.length_map]; exact l) fun d hd=>by
 obtain ⟨k,_,rfl⟩:=List.mem_map.mp hd
 exact .int
theorem Bl {n:Nat} {r:Row} (l:r.length <= 1000):TupN (n + 2) (rowD r):=.tup (by rw [List.length_map]; exact l) fun d hd=>by
 obtain ⟨c,_,rfl⟩:=List.mem_map.mp hd
 refine .tup (show 2 <= 1000 by decide) fun d hd=>?_
 simp only [List.mem_cons,List.not_mem_nil,or_false] at hd
 rcases hd with rfl | rfl
 ·exact .int
 ·exact .int
theorem yQ {n:Nat} {c:List Int×Row} (l1:c.1.length <= 1000) (l2:c.2.length <= 1000):TupN (n + 3) (cb c):=.tup (show 2 <= 1000 by decide) fun d hd=>by
 simp only [List.mem_cons,List.not_mem_nil,or_false] at hd
 rcases hd with rfl | rfl
 ·exact qe l1
 ·exact Bl l2
theorem yR {b:Bk} (h1:b.marks.length <= 1000) (h2:b.cells.length <= 1000) (h3:∀ c∈b.cells,c.1.length <= 1000 /\ c.2.length <= 1000):TupN 5 (eS b):=.tup (show 3 <= 1000 by decide) fun d hd=>by
 simp only [List.mem_cons,List.not_mem_nil,or_false] at hd
 rcases hd with rfl | rfl | rfl
 ·exact .int
 ·exact qe h1
 ·refine .tup (by rw [List.length_map]; exact h2) fun d hd=>?_
  obtain ⟨c,hc,rfl⟩:=List.mem_map.mp hd
  exact yQ (h3 c hc).1 (h3 c hc).2
theorem lD:∀ {n:Nat} {d:D},TupN n d->Shp (n + 1) d
 | _,_,.int=>.int
 | _,_,.tup _ h=>.tup fun d hd=>lD (h d hd)
theorem Cw {r:Rw} (l:r.ks.length <= 1000):TupN 2 (rwD r):=.tup (show 4 <= 1000 by decide) fun d hd=>by
 simp only [List.mem_cons,List.not_mem_nil,or_false] at hd
 rcases hd with rfl | rfl | rfl | rfl
 ·exact .int
 ·exact qe l
 ·exact .int
 ·exact .int
theorem ou (ls:List Int):shp (.lst (ls.map D.int))=true:=Shp.shp (n:=2) (.lst fun d hd=>by
 obtain ⟨k,_,rfl⟩:=List.mem_map.mp hd
 exact .int)
theorem yS {rs:List Rw} (h:∀ r∈rs,r.ks.length <= 1000):shp (.lst (rs.map rwD))=true:=Shp.shp (n:=4) (.lst fun d hd=>by
 obtain ⟨r,hr,rfl⟩:=List.mem_map.mp hd
 exact lD (Cw (h r hr)))
theorem rA {n:Nat} {ms:List Int} {rs:List Rw} (n6:n <= 6) (mo:MsOk ms) (rl:rs.length <= 180) (ro:∀ r∈rs,RwOk n ms r):TupN 5 (eS ⟨n,ms,dueK n rs⟩):=by
 refine yR (Nat.le_trans mo.l5 (by decide)) ?_ fun c hc=>?_
 ·show (dueK n rs).length <= 1000
  unfold dueK
  rw [List.length_map,(aN _).length_eq,List.length_map]
  refine Nat.le_trans (jt _) ?_
  unfold aD
  rw [List.length_map]
  exact gS (by omega)
 ·obtain ⟨k,hk,rfl⟩:=List.mem_map.mp hc
  rw [(aN _).mem_iff,cW] at hk
  obtain ⟨r,hr,rfl,_⟩:=hk
  have:=(ro r hr).kl
  have:=mo.l5
  exact ⟨by show r.ks.length <= 1000; omega,by show (aR n _).length <= 1000; rw [dW]; omega⟩
def Bm:DSp:=fun ds Q=>∃ (n:Nat) (ms:List Int) (es:List Rw) (fu:Bool),ds=[.pen,.int n,.lst (ms.map D.int),.lst (es.map rwD),.bl fu] /\ (2 <= n /\ n <= 6) /\ MsOk ms /\ es.length <= 120 /\ (∀ r∈es,RwOk n ms r) /\ ∀ rs:List Rw,rs.length <= 60->(∀ r∈rs,RwOk n ms r)->Q (.lst (rs.map rwD))
theorem fY:cZ Bm:=fun ds P P' f ⟨n,ms,es,fu,a,b,c,d,e,h⟩=>⟨n,ms,es,fu,a,b,c,d,e,fun rs x y=>f _ (h rs x y)⟩
theorem fZ (T:Tx K mg):FnOk P w K mg base CX0 3 T.gf T.ff ["_law_pen_here","_law_many","_law_marks","_law_elder","_law_full"] (spD K 5 Bm):=by
 refine fnD (k:=2) T.aV.F sc__law_rows (fun cdv A outer s H E hr=>(aq (wF (i:=5) sc__law_rows.nd rfl (by first | exact Or.inl rfl | exact Or.inr rfl) (cY ae))
   (aq (bx (i:=6) sc__law_rows.nd rfl (by first | exact Or.inl rfl | exact Or.inr rfl) ah)
   (bO (cf (cC (bS (ad 4 (pv 4)))) (ao (bx (i:=6) sc__law_rows.nd rfl (by first | exact Or.inl rfl | exact Or.inr rfl) (ai (aB T) aC (hr.mono (by decide)) rfl T.af.m T.af.F.kp T.af.b (aa (ad 0 (pv 0)) (aa (aK (aE (cY (aa ah (aa ah ae)))) (ai (aB T) aC (hr.mono (by decide)) rfl T.af.m T.af.F.kp T.af.b (aa (ad 0 (pv 0)) (aa ah ae))) (fun _ _=>rfl)) ae))))) aL)
   (bO (qv PassesOwn.never rfl (eP rfl T.iG (aa (ad 6 (pv 6)) ae)) (aJ (i:=7) sc__law_rows.nd rfl (by first | exact Or.inl rfl | exact Or.inr rfl)) (aq (bx (i:=8) sc__law_rows.nd rfl (by first | exact Or.inl rfl | exact Or.inr rfl) (bK cx rfl T.bG rfl (aa (aE (PCD.pld (bo (N':=["_law_kinds","_law_pen_here"]) rfl rfl (by decide +kernel) rfl (.own (.cap (j:=0) rfl (by first | exact Or.inl rfl | exact Or.inr rfl) rfl .nil)) (by decide +kernel) (dH (ad 2 (pv 2))) (fun B=>(aJ (i:=0) (show List.Nodup (α:=PySem.Str) ["_law_kinds","_law_pen_here"] by decide +kernel) rfl (by first | exact Or.inl rfl | exact Or.inr rfl))) (fun B=>bu) (fun B=>(ai (aB T) aC (hr.mono (by decide)) rfl T.af.m T.af.F.kp T.af.b (aa (ad 1 (pv 1)) (aa (ad 0 (pv 0)) ae))))))) ae)))
   (bO (cf (PWD.pt (qr (bq (fB hr) (ad 3 (pv 3)) (aE (cY ae)) (aS _)) (qr (cC (bS (ad 4 (pv 4)))) (oY (bq (tY hr) (ai (aB T) aC (hr.mono (by decide)) rfl T.af.m T.af.F.kp T.af.b (aa (ad 0 (pv 0)) (aa ah ae))) ah (aS _)))))) (ao (bx (i:=8) sc__law_rows.nd rfl (by first | exact Or.inl rfl | exact Or.inr rfl) (aK (aK (ad 3 (pv 3)) (ai (aB T) aC (hr.mono (by decide)) rfl T.af.m T.af.F.kp T.af.b (aa (ad 0 (pv 0)) (aa (aw fK rfl T.gU PySem.boot_len (aa (ad 3 (pv 3)) ae)) ae))) (fun _ _=>rfl)) ah (fun _ _=>rfl)))) aL)
   (aq (bx (i:=9) sc__law_rows.nd rfl (by first | exact Or.inl rfl | exact Or.inr rfl) (aK (aE (cY (aa (ai (aB T) aC (hr.mono (by decide)) rfl T.af.m T.af.F.kp T.af.b (aa (ad 0 (pv 0)) (aa ah ae))) (aa (dq wH ah ah) (aa (dq wG (ai (aB T) aC (hr.mono (by decide)) rfl T.af.m T.af.F.kp T.af.b (aa (ad 0 (pv 0)) (aa (dq wH ah ah) ae))) ah) ae))))) (ai (aB T) aC (hr.mono (by decide)) rfl T.af.m T.af.F.kp T.af.b (aa (ad 0 (pv 0)) (aa ah ae))) (fun _ _=>rfl)))
   (ao (Al (pv 5) (bU (aa (ai (aB T) aC (hr.mono (by decide)) rfl T.af.m T.af.F.kp T.af.b (aa (ad 0 (pv 0)) (aa (ad 1 (pv 1)) ae))) (aa (ad 8 (pv 8)) (aa (ad 9 (pv 9)) (aa (dq yb (dq wG (ad 9 (pv 9)) (ai (aB T) aC (hr.mono (by decide)) rfl T.af.m T.af.F.kp T.af.b (aa (ad 0 (pv 0)) (aa ah ae)))) ah) ae)))))))))))
   (ao (aO (ad 5 (pv 5))))))))) (fun ds Q hl h=>?_)
 obtain ⟨n,ms,es,fu,rfl,⟨n2,n6⟩,mo,el,eo,h⟩:=h
 have m5:=mo.l5
 refine ⟨sz,fun ρ=>∃ z:Int,0 <= z /\ z <= 60 /\ ρ=[.val .pen,.val (.int n),.val (.lst (ms.map D.int)),.val (.lst (es.map rwD)),.val (.bl fu),.own [],.val (.int z),.nil,.nil,.nil],?_,?_⟩
 ·cases fu with
  | true=>exact Br.f ⟨60,by decide,by decide,rfl⟩
  | false =>
   refine Br.t ⟨sz,rfl,⟨by decide,by decide⟩,fun z z0 z1=>mh z0 z1 fun d hd=>?_⟩
   have hc:∃ c:Int,d = .int c /\ 1 <= c /\ c <= 61:=by
    simp only [List.mem_cons,List.not_mem_nil,or_false] at hd
    rcases hd with rfl | rfl
    ·exact ⟨_,rfl,by decide,by decide⟩
    ·exact ⟨_,rfl,by decide,by decide⟩
   obtain ⟨c,rfl,c0,c1⟩:=hc
   exact ⟨rfl,⟨by omega,by omega⟩,fun x x0 x1=>⟨x,x0,by omega,rfl⟩⟩
 rintro _ ⟨sz0,z0,z60,rfl⟩
 refine ⟨fun ρ=>∃ rs:List Rw,rs.length <= 60 /\ (∀ r∈rs,RwOk n ms r) /\ ∃ a b c:Sl,ρ=[.val .pen,.val (.int n),.val (.lst (ms.map D.int)),.val (.lst (es.map rwD)),.val (.bl fu),.own (rs.map rwD),.val (.int sz0),a,b,c],⟨⟨by omega,by omega⟩,?_⟩,?_⟩
 ·refine mi (fun k ρ=>∃ rs:List Rw,(rs.length:Int) <= k /\ (∀ r∈rs,RwOk n ms r) /\ ∃ a b c:Sl,ρ=[.val .pen,.val (.int n),.val (.lst (ms.map D.int)),.val (.lst (es.map rwD)),.val (.bl fu),.own (rs.map rwD),.val (.int sz0),a,b,c]) _ _ ?_ ?_ _ ⟨[],by simp,fun r hr=>by simp at hr,_,_,_,rfl⟩
  ·rintro ρ ⟨rs,rl,ro,a,b,c,rfl⟩
   exact ⟨rs,by omega,ro,a,b,c,rfl⟩
  ·rintro k ρ X k0 k1 ⟨rs,rl,ro,a,b,c,rfl⟩ hX
   refine bz (fun pre acc ρ=>∃ m0 m1 ks:List Int,ms=m0++m1 /\ pre=m0.map D.int /\ acc=ks.map D.int /\ ks.length=m0.length /\ (∀ (i:Nat) (k m:Int),ks[i]? = some k->m0[i]? = some m->0 <= k /\ k < m) /\ ∃ s,ρ=[s,.val .pen]) (fun acc ρ hN=>?_) (fun pre d post acc ρ Y e hN hY=>?_) _ ⟨[],ms,[],rfl,rfl,rfl,rfl,fun i k m hk=>by simp at hk,_,rfl⟩
   ·obtain ⟨m0,m1,ks,e1,e2,rfl,kl,kk,s,rfl⟩:=hN
    have:m1=[]:=by
     have:=congrArg List.length e2
     rw [e1] at this
     simp at this
     exact this
    subst this
    rw [List.append_nil] at e1
    subst e1
    refine ⟨fun ρ=>∃ ks:List Int,ks.length=ms.length /\ (∀ (i:Nat) (k m:Int),ks[i]? = some k->ms[i]? = some m->0 <= k /\ k < m) /\ ρ=[.val .pen,.val (.int n),.val (.lst (ms.map D.int)),.val (.lst (es.map rwD)),.val (.bl fu),.own (rs.map rwD),.val (.int sz0),.val (.int k),.val (cq ks),c],?_,?_⟩
    ·have el2:((es.map rwD).length:Int)=es.length:=by rw [List.length_map]
     have hsh:shp (.lst (es.map rwD))=true:=yS fun r hr=>by have:=(eo r hr).kl; omega
     cases es with
     | nil=>exact ⟨sz,⟨rfl,rfl⟩,cr (d:=.lst []) rfl (Br.f ⟨ks,kl,kk,rfl⟩)⟩
     | cons e0 et =>
      have eb:eqD (.lst ((e0::et).map rwD)) (.lst [])=false:=rfl
      refine ⟨sz,⟨hsh,rfl⟩,?_⟩
      rw [eb]
      refine Br.t ?_
      cases fu with
      | true=>exact Br.f (Br.f ⟨ks,kl,kk,rfl⟩)
      | false =>
       refine Br.t ⟨rfl,⟨by decide,by decide⟩,fun y y0 y1=>⟨⟨rfl,rfl⟩,fun _=>?_,fun _=>⟨ks,kl,kk,rfl⟩⟩⟩
       have e1:(1:Int) <= ((e0::et).map rwD).length:=by rw [List.length_map,List.length_cons]; omega
       refine ⟨rfl,⟨by omega,by omega⟩,fun q q0 q1=>mh q0 (by omega) fun d hd=>?_⟩
       obtain ⟨r,hr,rfl⟩:=List.mem_map.mp hd
       exact ⟨r.ks,(eo r hr).kl,(eo r hr).kk,rfl⟩
    ·rintro _ ⟨ks,kl,kk,rfl⟩
     refine ⟨rfl,⟨by decide,by decide⟩,fun t1 t10 t11=>⟨cpow,cpow,rfl,⟨by decide,by decide⟩,fun t2 t20 t21=>?_⟩⟩
     simp only [Int.reduceToNat,Int.reducePow] at t21
     refine ⟨.inl ⟨by omega,by omega⟩,sz,rfl,⟨by decide,by decide⟩,fun y y0 y1=>mh y0 y1 fun d hd=>?_⟩
     have ht:∃ t:Int,d = .int t /\ 0 <= t /\ t <= 10 ^ 12:=by
      simp only [List.mem_cons,List.not_mem_nil,or_false] at hd
      rcases hd with rfl | rfl | rfl
      ·exact ⟨_,rfl,t10,by omega⟩
      ·exact ⟨_,rfl,by decide,by decide⟩
      ·exact ⟨_,rfl,by omega,by omega⟩
     obtain ⟨t,rfl,t0,t12⟩:=ht
     refine ⟨trivial,rfl,⟨by omega,by omega⟩,fun hh hh0 hh1=>⟨rfl,⟨by decide,by decide⟩,fun q q0 q1=>⟨.inl ⟨by omega,by omega⟩,⟨by decide,?_⟩,sz,?_,hX _ ⟨rs++[⟨hh,ks,t,t * q / 1000⟩],?_,?_,_,_,_,by rw [List.map_append]; rfl⟩⟩⟩⟩
     ·exact jK (by decide) (by decide)
     ·rw [List.length_map]
      exact Nat.lt_of_le_of_lt (show rs.length <= 100 by omega) (by decide)
     ·rw [List.length_append,List.length_singleton]
      omega
     ·intro r hr
      rcases List.mem_append.mp hr with hr | hr
      ·exact ro r hr
      ·rw [List.mem_singleton.mp hr]
       have p1:0 <= t * q:=Int.mul_nonneg t0 q0
       have p2:t * q <= t * 1000:=Int.mul_le_mul_of_nonneg_left (by omega) t0
       exact ⟨hh0,hh1,kl,kk,Int.ediv_nonneg p1 (by decide),by show t * q / 1000 <= t; omega,t12⟩
   ·obtain ⟨m0,m1,ks,e1,rfl,rfl,kl,kk,s,rfl⟩:=hN
    rw [e1,List.map_append] at e
    have e:=List.append_cancel_left e
    cases m1 with
    | nil=>simp at e
    | cons x m1 =>
     rw [List.map_cons] at e
     injection e with e3 e4
     subst e3
     have hx:=mo.it x (by rw [e1]; simp)
     rw [e1,List.length_append] at m5
     refine Br.t ⟨rfl,⟨by omega,by omega⟩,fun r r0 r1=>⟨?_,hY _ _ ⟨m0++[x],m1,ks++[r],by rw [e1]; simp,by simp,by simp,by simp [kl],fun i k m hk hm=>?_,_,rfl⟩⟩⟩
     ·rw [List.length_map,kl]
      exact Nat.lt_of_le_of_lt (show m0.length <= 10 by omega) (by decide)
     ·by_cases z:i < m0.length
      ·rw [List.getElem?_append_left (by omega)] at hk
       rw [List.getElem?_append_left z] at hm
       exact kk i k m hk hm
      ·rw [List.getElem?_append_right (by omega)] at hk
       rw [List.getElem?_append_right (by omega)] at hm
       have z2:i - m0.length=0:=by
        have:=(List.getElem?_eq_some_iff.mp hm).1
        simp at this
        omega
       rw [kl,z2] at hk
       rw [z2] at hm
       simp at hk hm
       omega
 ·rintro _ ⟨rs,rl,ro,a,b,c,rfl⟩
  exact h rs rl ro
structure BkG (n:Nat) (ms:List Int) (l:Nat) (cs:List (List Int×Row)):Prop where
 m6:n <= 6
 mk5:ms.length <= 5
 len:cs.length <= l
 it:∀ c∈cs,c.1.length=ms.length /\ RowN 110 n c.2
theorem eW (ls:List Int):shp (cq ls)=true:=Shp.shp (n:=2) (.tup fun d hd=>by
 obtain ⟨k,_,rfl⟩:=List.mem_map.mp hd
 exact .int)
theorem wn (x y:D) (xs ys:List D):eqD (.tup (x::xs)) (.tup (y::ys))=(eqD x y && eqD (.tup xs) (.tup ys)):=rfl
theorem wo (x y:D) (xs ys:List D):eqD (.lst (x::xs)) (.lst (y::ys))=(eqD x y && eqD (.lst xs) (.lst ys)):=rfl
theorem rB:∀ a b:List Int,eqD (cq a) (cq b)=decide (a=b)
 | [],[]=>rfl
 | [],_::_=>by
  rw [decide_eq_false (by simp)]
  rfl
 | _::_,[]=>by
  rw [decide_eq_false (by simp)]
  rfl
 | x::xs,y::ys=>by
  have ih:=rB xs ys
  unfold cq at ih ⊢
  rw [List.map_cons,List.map_cons,wn,ih,pz]
  by_cases h:x=y <;> by_cases h':xs=ys <;> simp [h,h']
def gBes:DSp:=fun ds Q=>∃ (n:Nat) (ms:List Int) (c1 c2:List (List Int×Row)),ds=[eS ⟨n,ms,c1⟩,eS ⟨n,ms,c2⟩] /\ BkG n ms 180 (c1++c2) /\ Q (eS ⟨n,ms,gath n (c1++c2)⟩)
theorem eC:cZ gBes:=fun ds P P' f ⟨n,ms,c1,c2,a,b,h⟩=>⟨n,ms,c1,c2,a,b,f _ h⟩
theorem eD (T:Tx K mg):FnOk P w K mg base CX0 4 T.jz T.hU ["one","other"] (spD K 2 gBes):=by
 refine fnD (k:=3) T.az.F nY (fun cdv A outer s H E hr=>(aq (cf (PWD.pt (ii (bq (fB hr) (aK (ad 0 (pv 0)) ah (fun _ _=>rfl)) (aK (ad 1 (pv 1)) ah (fun _ _=>rfl)) (aS _)) (dP (bq (fB hr) (aK (ad 0 (pv 0)) ah (fun _ _=>rfl)) (aK (ad 1 (pv 1)) ah (fun _ _=>rfl)) (aS _))))) (ao gI) aL)
   (ao (aO (bU (aa (aK (ad 0 (pv 0)) ah (fun _ _=>rfl)) (aa (aK (ad 0 (pv 0)) ah (fun _ _=>rfl)) (aa (bK cx rfl T.bG rfl (aa (ai (lC T) lB (hr.mono (by decide)) rfl T.bT.m T.bT.F.kp T.bT.b (aa (aK (ad 0 (pv 0)) ah (fun _ _=>rfl)) (aa (dq yH (aK (ad 0 (pv 0)) ah (fun _ _=>rfl)) (aK (ad 1 (pv 1)) ah (fun _ _=>rfl))) ae))) ae)) ae)))))))) (fun ds Q hl h=>?_)
 obtain ⟨n,ms,c1,c2,rfl,g,h⟩:=h
 refine ⟨⟨rfl,rfl⟩,cr (d:=.int n) rfl ⟨⟨eW ms,eW ms⟩,cr (eW ms) ?_⟩⟩
 have gl:=g.len
 have e:c1.map cb++c2.map cb=(c1++c2).map cb:=by rw [List.map_append]
 have fin:wj [.int n,.tup (c1.map cb++c2.map cb)] (fun d=>nJ [d] fun d=>([D.int n,cq ms,d].length <= sizeLine /\ Q (.tup [.int n,cq ms,d]))):=by
  rw [e]
  exact ⟨n,c1++c2,ms.length,rfl,rfl,⟨g.m6,gl,g.it⟩,sz,h⟩
 refine ⟨?_,rfl,fin⟩
 rw [List.length_append] at gl
 show (c1.map cb).length + (c2.map cb).length <= sizeLine
 rw [List.length_map,List.length_map]
 exact Nat.le_trans gl (by decide)
def Bn (c:Addr):DSpE:=fun ds _ W=>∃ (b1 b2:Bk),ds=[eS b1,eS b2] /\ (b1.m≠b2.m∨b1.marks≠b2.marks) /\ W c
theorem uY {c:Addr}:At (Bn c):=fun ds P P' W W' f fw ⟨b1,b2,a,b,h⟩=>⟨b1,b2,a,b,fw _ h⟩
theorem uZ (T:Tx K mg):FnOk P w K mg base (CXE P w) 4 T.jz T.hU ["one","other"] (spDE K 2 (Bn T.ax)):=by
 refine fnDE (k:=3) T.az.F nY (fun fr W hW cdv A outer s H E hr=>(aq (cf (PWD.pt (ii (bq (fB hr) (aK (ad 0 (pv 0)) ah (fun _ _=>rfl)) (aK (ad 1 (pv 1)) ah (fun _ _=>rfl)) (aS _)) (dP (bq (fB hr) (aK (ad 0 (pv 0)) ah (fun _ _=>rfl)) (aK (ad 1 (pv 1)) ah (fun _ _=>rfl)) (aS _))))) (ao (vR T.oH rfl rfl T.kB ue hW (aa Ac ae))) aL)
   (ao gI))) (fun ds Q W hl h=>?_)
 obtain ⟨b1,b2,rfl,hn,h⟩:=h
 refine ⟨⟨rfl,rfl⟩,?_⟩
 by_cases em:b1.m=b2.m
 ·have e2:eqD (.int b1.m) (.int b2.m)=true:=by rw [em]; exact qy rfl
  rw [e2]
  refine Br.f ⟨⟨eW _,eW _⟩,?_⟩
  have e3:eqD (cq b1.marks) (cq b2.marks)=false:=by
   rw [rB]
   exact decide_eq_false (hn.resolve_left fun z=>z em)
  rw [e3]
  exact Br.t ⟨by decide,h⟩
 ·have e2:eqD (.int b1.m) (.int b2.m)=false:=by rw [pz]; exact decide_eq_false (by omega)
  rw [e2]
  exact Br.t (Br.t ⟨by decide,h⟩)
def gRef:DSp:=fun ds Q=>∃ (b1 b2:Bk),ds=[eS b1,eS b2] /\ (b1.m≠b2.m∨b1.marks≠b2.marks) /\ Q (.bl true)
theorem kU:cZ gRef:=fun ds P P' f ⟨b1,b2,a,b,h⟩=>⟨b1,b2,a,b,f _ h⟩
theorem kW (T:Tx K mg):FnOk P w K mg base CX0 5 T.cy T.dm ["_law_one","_law_other"] (spD K 2 gRef):=by
 refine fnD (k:=4) T.bM.F sc__law_refused (fun cdv A outer s H E hr=>(aq (bx (i:=2) sc__law_refused.nd rfl (by first | exact Or.inl rfl | exact Or.inr rfl) Ab)
   (aq (Aw (X:=(cxOf CX0 P w K mg base ["_law_one","_law_other","_law_caught","error"] "_law_refused" (ag aZ) T.cy cdv A outer s H E).nox) (K:=K) (i:=3) (x:="SumError") rfl rfl rfl rfl sc__law_refused.nd rfl rfl rfl T.ku yg (fun fr W hW pn=>(ao (ya (vQ (x:="beside") (uZ T) uY ue hW (hr.mono (by decide)) rfl T.az.m T.az.F.kp T.az.b (aa (ad 0 (pv 0)) (aa (ad 1 (pv 1)) ae)))))) (fun ea=>(ao (bx (i:=2) sc__law_refused.nd rfl (by first | exact Or.inl rfl | exact Or.inr rfl) (ad 3 (pv 3))))))
   (aq (cf (PWD.pt (ii (cC (bS (aw (id:="isinstance") (g:=gIsX K) qA rfl T.aI rfl (aa (ad 2 (pv 2)) (aa (dQ rfl T.kB) ae))))) (dP (cC (bS (aw (id:="isinstance") (g:=gIsX K) qA rfl T.aI rfl (aa (ad 2 (pv 2)) (aa (kN (n:="ValueError") rfl T.iZ rfl) ae)))))))) (ao (aO fP)) aL)
   (aq (cf (bS (aw (id:="isinstance") (g:=gIsX K) qA rfl T.aI rfl (aa (ad 2 (pv 2)) (aa (bU (aa (dQ rfl T.oG) (aa (dQ rfl T.lH) (aa (dQ rfl T.oD) (aa (dQ rfl T.oB) (aa (dQ rfl T.oF) (aa (dQ rfl T.lI) ae))))))) ae)))) (ao (aO fP)) aL)
   (ao (aO (wE (aw (id:="isinstance") (g:=gIsX K) qA rfl T.aI rfl (aa (ad 2 (pv 2)) (aa (bU (aa (dQ rfl T.rF) (aa (dQ rfl T.lG) (aa (dQ rfl T.lF) (aa (dQ rfl T.oE) (aa (dQ rfl T.iY) (aa (dQ rfl T.kK) ae))))))) ae))))))))))) (fun ds Q hl h=>?_)
 obtain ⟨b1,b2,rfl,hn,h⟩:=h
 have nx:∀ C,D.exc T.ax = .exc C->ExK K C:=fun C e=>by cases e; exact T.oC
 refine ⟨rfl,b1,b2,rfl,hn,.inl ⟨T.k_ex,?_⟩⟩
 refine ⟨_,_,true,rfl,nx,rfl,T.k_i,Br.f ⟨_,_,true,rfl,nx,rfl,T.k_v,Br.f ?_⟩⟩
 refine ⟨sz,_,_,false,rfl,nx,rfl,T.k_a1,Br.f ?_⟩
 exact ⟨sz,_,_,false,rfl,nx,rfl,T.k_a2,h⟩
def XR (rs:List Rw) (k:List Int):List Rw:=(rs.filter fun r=>decide (r.ks=k)).filter fun r=>decide (0 < r.t)
theorem vb (a b:List Rw) (k:List Int):XR (a++b) k=XR a k++XR b k:=by unfold XR; rw [List.filter_append,List.filter_append]
theorem lE (n:Nat) (rs:List Rw):dueK n rs=(bp ((grpX (aD rs)).map (·.1))).map fun k=>(k,aR n (XR rs k)):=by
 unfold dueK
 apply List.map_congr_left
 intro k _
 rw [oq]
 rfl
theorem rC {k:List Int}:∀ {l:List (List Int)},l.Nodup->l.filter (fun x=>decide (x=k))=if k∈l then [k] else []
 | [],_=>by simp
 | x::l,h=>by
  obtain ⟨h1,h2⟩:=List.nodup_cons.mp h
  have ih:=rC (k:=k) h2
  by_cases e:x=k
  ·subst e
   rw [List.filter_cons_of_pos (by simp),ih,if_neg h1,if_pos (by simp)]
  ·rw [List.filter_cons_of_neg (by simpa using e),ih]
   by_cases z:k∈l
   ·rw [if_pos z,if_pos (by simp [z])]
   ·rw [if_neg z,if_neg (by simp [z,Ne.symm e])]
theorem key_iff {rs:List Rw} {k:List Int}:k∈bp ((grpX (aD rs)).map (·.1))↔∃ r∈rs,r.ks=k /\ 0 < r.t:=by
 rw [(aN _).mem_iff,cW]
theorem wq (n:Nat) (rs:List Rw) (k:List Int):((dueK n rs).filter fun c=>decide (c.1=k)).map (·.2)=if k∈bp ((grpX (aD rs)).map (·.1)) then [aR n (XR rs k)] else []:=by
 rw [lE,List.filter_map,List.map_map]
 have nd:(bp ((grpX (aD rs)).map (·.1))).Nodup:=(aN _).nodup_iff.mpr (eU _)
 have e:(bp ((grpX (aD rs)).map (·.1))).filter ((fun c:List Int×Row=>decide (c.1=k)) ∘ fun k=>(k,aR n (XR rs k)))=if k∈bp ((grpX (aD rs)).map (·.1)) then [k] else []:=rC nd
 rw [e]
 split <;> rfl
theorem Bo {rs:List Rw} {k:List Int} (h:k∉bp ((grpX (aD rs)).map (·.1))):XR rs k=[]:=by
 rw [key_iff] at h
 unfold XR
 rw [List.filter_eq_nil_iff]
 intro r hr hp
 obtain ⟨h1,h2⟩:=List.mem_filter.mp hr
 exact h ⟨r,h1,by simpa using h2,by simpa using hp⟩
def sT (l:List Rw) (h:Nat):Int×Int:=(((l.filter fun r=>decide (r.h=(h:Int))).map (·.t)).sum,((l.filter fun r=>decide (r.h=(h:Int))).map (·.w)).sum)
theorem wr {n h:Nat} (hh:h < n) (l:List Rw):at_ (aR n l) h=sT l h:=by
 unfold at_
 rw [List.getD_eq_getElem?_getD,ju hh]
 rfl
theorem vc {n h:Nat} (hh:h < n) (rs:List Rw) (k:List Int):sumP (col (((dueK n rs).filter fun c=>decide (c.1=k)).map (·.2)) h)=sT (XR rs k) h:=by
 rw [wq]
 by_cases z:k∈bp ((grpX (aD rs)).map (·.1))
 ·rw [if_pos z]
  show sumP [at_ (aR n (XR rs k)) h]=_
  rw [wr hh]
  unfold sumP
  simp
 ·rw [if_neg z,Bo z]
  rfl
theorem vd (a b:List Rw) (h:Nat):sT (a++b) h=((sT a h).1 + (sT b h).1,(sT a h).2 + (sT b h).2):=by
 unfold sT
 rw [List.filter_append,List.map_append,List.map_append,List.sum_append,List.sum_append]
theorem wu (a b:List (Int×Int)):sumP (a++b)=((sumP a).1 + (sumP b).1,(sumP a).2 + (sumP b).2):=by
 unfold sumP
 rw [List.map_append,List.map_append,List.sum_append,List.sum_append]
theorem sE (n:Nat) (a b:List Rw):dE n (dueK n a++dueK n b)=dueK n (a++b):=by
 have keys:∀ k,k∈(grp (dueK n a++dueK n b)).map (·.1)↔k∈(grpX (aD (a++b))).map (·.1):=fun k=>by
  rw [uR,cW,List.map_append,List.mem_append]
  have one:∀ rs:List Rw,k∈(dueK n rs).map (·.1)↔∃ r∈rs,r.ks=k /\ 0 < r.t:=fun rs=>by
   rw [lE,List.map_map]
   have:(bp ((grpX (aD rs)).map (·.1))).map ((fun x:List Int×Row=>x.1) ∘ fun k=>(k,aR n (XR rs k)))=bp ((grpX (aD rs)).map (·.1)):=by
    conv=>rhs; rw [← List.map_id (bp ((grpX (aD rs)).map (·.1)))]
    rfl
   rw [this,key_iff]
  rw [one,one]
  constructor
  ·rintro (⟨r,h1,h2⟩ | ⟨r,h1,h2⟩)
   ·exact ⟨r,by simp [h1],h2⟩
   ·exact ⟨r,by simp [h1],h2⟩
  ·rintro ⟨r,h1,h2⟩
   rcases List.mem_append.mp h1 with h1 | h1
   ·exact .inl ⟨r,h1,h2⟩
   ·exact .inr ⟨r,h1,h2⟩
 rw [lE n (a++b)]
 unfold dE
 rw [oh (xg _) (eU _) keys]
 apply List.map_congr_left
 intro k _
 rw [lA]
 congr 1
 unfold sums aR
 apply List.map_congr_left
 intro h hh
 have hh:=List.mem_range.mp hh
 show sumP (col _ h)=sT (XR (a++b) k) h
 rw [vb,vd,List.filter_append,List.map_append]
 show sumP (List.map _ (_++_))=_
 rw [List.map_append,wu]
 have h1:=vc hh a k
 have h2:=vc hh b k
 unfold col at h1 h2
 rw [h1,h2]
section
variable {n:Nat} {ms:List Int} {rs:List Rw}
theorem ve (ro:∀ r∈rs,RwOk n ms r) {c:List Int×Row} (h:c∈dueK n rs):eR c.2=true:=by
 rw [← rq ro] at h
 exact (List.mem_filter.mp h).2
theorem qf {F:Rw->Int} {B:Int}:∀ {l:List Rw},(∀ r∈l,0 <= F r /\ F r <= B)->0 <= (l.map F).sum /\ (l.map F).sum <= l.length * B
 | [],_=>by simp
 | x::l,h=>by
  have h1:=h x List.mem_cons_self
  have h2:=qf fun r hr=>h r (List.mem_cons_of_mem _ hr)
  rw [List.map_cons,List.sum_cons,List.length_cons]
  have:((l.length + 1:Nat):Int) * B=l.length * B + B:=by rw [Int.natCast_add,Int.add_mul]; simp
  omega
theorem oz:∀ {l:List Rw},(∀ r∈l,r.w <= r.t)->(l.map (·.w)).sum <= (l.map (·.t)).sum
 | [],_=>by simp
 | x::l,h=>by
  have h1:=h x List.mem_cons_self
  have h2:=oz fun r hr=>h r (List.mem_cons_of_mem _ hr)
  rw [List.map_cons,List.sum_cons,List.map_cons,List.sum_cons]
  omega
theorem rD (ro:∀ r∈rs,RwOk n ms r) (rl:rs.length <= 180) {c:List Int×Row} (h:c∈dueK n rs):c.1.length=ms.length /\ RowN 110 n c.2:=by
 rw [lE] at h
 obtain ⟨k,hk,rfl⟩:=List.mem_map.mp h
 obtain ⟨r,hr,rfl,_⟩:=key_iff.mp hk
 refine ⟨(ro r hr).kl,dW n _,fun c hc=>?_⟩
 obtain ⟨h,hh,rfl⟩:=List.mem_map.mp hc
 have sub:∀ x∈(XR rs r.ks).filter (fun r=>decide (r.h=(h:Int))),x∈rs:=fun x hx=>(List.mem_filter.mp (List.mem_filter.mp (List.mem_filter.mp hx).1).1).1
 have ln:((XR rs r.ks).filter (fun r=>decide (r.h=(h:Int)))).length <= 180:=by
  unfold XR
  exact gS (gS (gS rl))
 generalize (XR rs r.ks).filter (fun r=>decide (r.h=(h:Int)))=l at sub ln
 have b1:=qf (F:=(·.t)) (B:=10 ^ 12) (l:=l) fun x hx=>by
  have o:=ro x (sub x hx)
  exact ⟨by have:=o.w0; have:=o.wt; show 0 <= x.t; omega,o.t1⟩
 have b2:=qf (F:=(·.w)) (B:=10 ^ 12) (l:=l) fun x hx=>by
  have o:=ro x (sub x hx)
  exact ⟨o.w0,by have:=o.wt; have:=o.t1; show x.w <= _; omega⟩
 have b3:=oz (l:=l) fun x hx=>(ro x (sub x hx)).wt
 refine uN b2.1 b3 ?_
 have:(l.length:Int) * 10 ^ 12 <= 180 * 10 ^ 12:=Int.mul_le_mul_of_nonneg_right (by omega) (by decide)
 unfold Bd
 refine Nat.lt_of_lt_of_le (m:=2 ^ 60) ?_ (Nat.pow_le_pow_right (by decide) (by decide))
 have h1:=b1.1
 have h2:=b1.2
 have e60:(2:Nat) ^ 60=1152921504606846976:=by decide
 rw [e60]
 omega
theorem vf (n:Nat) (rs:List Rw):(dueK n rs).length <= rs.length:=by
 unfold dueK
 rw [List.length_map,(aN _).length_eq,List.length_map]
 refine Nat.le_trans (jt _) ?_
 unfold aD
 rw [List.length_map]
 exact List.length_filter_le _ _
theorem yT {r2:List Rw} (ro:∀ r∈rs,RwOk n ms r) (ro2:∀ r∈r2,RwOk n ms r):gath n (dueK n rs++dueK n r2)=dueK n (rs++r2):=by
 unfold gath
 rw [sE,List.filter_eq_self]
 intro c hc
 exact ve (ms:=ms) (fun r hr=>(List.mem_append.mp hr).elim (ro r) (ro2 r)) hc
theorem Cy {r2:List Rw} (n6:n <= 6) (mo:MsOk ms) (ro:∀ r∈rs,RwOk n ms r) (ro2:∀ r∈r2,RwOk n ms r) (rl:rs.length + r2.length <= 180):BkG n ms 180 (dueK n rs++dueK n r2):=by
 refine ⟨n6,mo.l5,?_,fun c hc=>?_⟩
 ·rw [List.length_append]
  have:=vf n rs
  have:=vf n r2
  omega
 ·rcases List.mem_append.mp hc with hc | hc
  ·exact rD ro (by omega) hc
  ·exact rD ro2 (by omega) hc
end
theorem cutL (xs:List D) (h:Nat) (hh:h <= xs.length):cutD xs none (some (h:Int))=xs.take h:=by
 have e1:HT.sIx xs.length 0 none=0:=rfl
 have e2:HT.sIx xs.length xs.length (some (h:Int))=h:=by
  rw [HT.sIx_nat]
  omega
 unfold cutD
 rw [e1,e2,List.drop_zero,Nat.sub_zero]
theorem cutR (xs:List D) (h:Nat) (hh:h <= xs.length):cutD xs (some (h:Int)) none=xs.drop h:=by
 have e1:HT.sIx xs.length 0 (some (h:Int))=h:=by
  rw [HT.sIx_nat]
  omega
 have e2:HT.sIx xs.length xs.length none=xs.length:=rfl
 unfold cutD
 rw [e1,e2]
 apply List.take_of_length_le
 rw [List.length_drop]
 exact Nat.le_refl _
theorem oA:∀ a b:List Int,eqD (.lst (a.map D.int)) (.lst (b.map D.int))=decide (a=b)
 | [],[]=>rfl
 | [],_::_=>by
  rw [decide_eq_false (by simp)]
  rfl
 | _::_,[]=>by
  rw [decide_eq_false (by simp)]
  rfl
 | x::xs,y::ys=>by
  have ih:=oA xs ys
  rw [List.map_cons,List.map_cons,wo,ih,pz]
  by_cases h:x=y <;> by_cases h':xs=ys <;> simp [h,h']
def gUnl:DSp:=fun ds Q=>∃ (n:Nat) (ms:List Int) (rs:List Rw),ds=[.pen,.int n,.lst (ms.map D.int),.lst (rs.map rwD)] /\ (2 <= n /\ n <= 6) /\ MsOk ms /\ rs.length <= 60 /\ (∀ r∈rs,RwOk n ms r) /\ ∀ b:Bk,(n≠b.m∨ms≠b.marks)->Q (eS b)
theorem mJ:cZ gUnl:=fun ds P P' f ⟨n,ms,rs,a,b,c,d,e,h⟩=>⟨n,ms,rs,a,b,c,d,e,fun b x=>f _ (h b x)⟩
theorem rE {rs:List Rw} (rl:rs.length <= 60) (f:List Int->List Int) {te:DE} (hte:∀ (r:Rw),r∈rs->∀ (Y:D->DS->Prop),(Y (rwD ⟨r.h,f r.ks,r.t,r.w⟩) [.val (rwD r)])->te [.val (rwD r)] Y) {s:Sl} {Q:List D->Prop} (q:Q ((rs.map fun r=>(⟨r.h,f r.ks,r.t,r.w⟩:Rw)).map rwD)) :
  ej (kZ 0) eQ te (rs.map rwD) [] [s] Q:=by
 refine bz (fun pre acc ρ=>∃ r0 r1:List Rw,rs=r0++r1 /\ pre=r0.map rwD /\ acc=(r0.map fun r=>(⟨r.h,f r.ks,r.t,r.w⟩:Rw)).map rwD /\ ∃ s,ρ=[s]) (fun acc ρ hN=>?_) (fun pre d post acc ρ Y e hN hY=>?_) _ ⟨[],rs,rfl,rfl,rfl,_,rfl⟩
 ·obtain ⟨r0,r1,e1,e2,rfl,s,rfl⟩:=hN
  have:r1=[]:=by
   have:=congrArg List.length e2
   rw [e1] at this
   simp at this
   exact this
  subst this
  rw [List.append_nil] at e1
  rw [← e1]
  exact q
 ·obtain ⟨r0,r1,e1,rfl,rfl,s,rfl⟩:=hN
  rw [e1,List.map_append] at e
  have e:=List.append_cancel_left e
  cases r1 with
  | nil=>simp at e
  | cons r r1 =>
   rw [List.map_cons] at e
   injection e with e3 e4
   subst e3
   refine Br.t (hte r (by rw [e1]; simp) _ ⟨?_,hY _ _ ⟨r0++[r],r1,by rw [e1]; simp,by simp,by rw [List.map_append,List.map_append]; rfl,_,rfl⟩⟩)
   rw [e1,List.length_append] at rl
   rw [List.length_map,List.length_map]
   exact Nat.lt_of_le_of_lt (show r0.length <= 60 by omega) (by decide)
theorem mK (T:Tx K mg):FnOk P w K mg base CX0 7 T.eI T.dM ["_law_pen_here","_law_many","_law_marks","_law_rows_here"] (spD K 4 gUnl):=by
 refine fnD (k:=6) T.bX.F sc__law_unlike (fun cdv A outer s H E hr=>(aq (bx (i:=4) sc__law_unlike.nd rfl (by first | exact Or.inl rfl | exact Or.inr rfl) (ai (aB T) aC (hr.mono (by decide)) rfl T.af.m T.af.F.kp T.af.b (aa (ad 0 (pv 0)) (aa ah ae))))
   (aq (cf (bq (tY hr) (ad 4 (pv 4)) ah (aS _)) (ao (aO (ai (db T) da (hr.mono (by decide)) rfl T.ay.m T.ay.F.kp T.ay.b (aa (dq gJ ah (dq tR (dq qw (ad 1 (pv 1)) ah) ah)) (aa (ad 2 (pv 2)) (aa (aE (cY ae)) ae)))))) aL)
   (aq (cf (PWD.pt (qr (bq (tY hr) (ad 4 (pv 4)) ah (aS _)) (oY (bq rV (aw fK rfl T.gU PySem.boot_len (aa (ad 2 (pv 2)) ae)) ah (aS _))))) (aq (bx (i:=5) sc__law_unlike.nd rfl (by first | exact Or.inl rfl | exact Or.inr rfl) (ai (aB T) aC (hr.mono (by decide)) rfl T.af.m T.af.F.kp T.af.b (aa (ad 0 (pv 0)) (aa (aw fK rfl T.gU PySem.boot_len (aa (ad 2 (pv 2)) ae)) ae))))
   (ao (aO (ai (db T) da (hr.mono (by decide)) rfl T.ay.m T.ay.F.kp T.ay.b (aa (ad 1 (pv 1)) (aa (aE (iU (aE (iU (aE (nP (ad 2 (pv 2)) ik (fR (ad 5 (pv 5))))) (aE (cY (aa (dq gJ ah (dq tR (aK (ad 2 (pv 2)) (ad 5 (pv 5)) (fun _ _=>rfl)) ah)) ae))))) (aE (nP (ad 2 (pv 2)) (fR (dq gJ (ad 5 (pv 5)) ah)) ik)))) (aa (aE (cY ae)) ae))))))) aL)
   (aq (cf (PWD.pt (qr (bq (tY hr) (ad 4 (pv 4)) ah (aS _)) (oY (bq rV (aw fK rfl T.gU PySem.boot_len (aa (ad 2 (pv 2)) ae)) ah (aS _))))) (ao (aO (ai (db T) da (hr.mono (by decide)) rfl T.ay.m T.ay.F.kp T.ay.b (aa (ad 1 (pv 1)) (aa (aE (nP (ad 2 (pv 2)) (fR ah) ik)) (aa (aE (PCD.pld (bo (N':=["_law_row"]) rfl rfl (by decide +kernel) rfl (.own .nil) (by decide +kernel) (dH (ad 3 (pv 3))) (fun B=>(aJ (i:=0) (show List.Nodup (α:=PySem.Str) ["_law_row"] by decide +kernel) rfl (by first | exact Or.inl rfl | exact Or.inr rfl))) (fun B=>bu) (fun B=>(bU (aa (aK (ad 0 (pv 0)) ah (fun _ _=>rfl)) (aa (AD (aK (ad 0 (pv 0)) ah (fun _ _=>rfl)) (fR ah) ik) (aa (aK (ad 0 (pv 0)) ah (fun _ _=>rfl)) (aa (aK (ad 0 (pv 0)) ah (fun _ _=>rfl)) ae))))))))) ae)))))) aL)
   (aq (cf (bq (fB hr) (ad 2 (pv 2)) (uh (ad 2 (pv 2)) (yc tT ah)) (aS _)) (ao (aO (ai (db T) da (hr.mono (by decide)) rfl T.ay.m T.ay.F.kp T.ay.b (aa (ad 1 (pv 1)) (aa (uh (ad 2 (pv 2)) (yc tT ah)) (aa (aE (PCD.pld (bo (N':=["_law_row"]) rfl rfl (by decide +kernel) rfl (.own .nil) (by decide +kernel) (dH (ad 3 (pv 3))) (fun B=>(aJ (i:=0) (show List.Nodup (α:=PySem.Str) ["_law_row"] by decide +kernel) rfl (by first | exact Or.inl rfl | exact Or.inr rfl))) (fun B=>bu) (fun B=>(bU (aa (aK (ad 0 (pv 0)) ah (fun _ _=>rfl)) (aa (uh (aK (ad 0 (pv 0)) ah (fun _ _=>rfl)) (yc tT ah)) (aa (aK (ad 0 (pv 0)) ah (fun _ _=>rfl)) (aa (aK (ad 0 (pv 0)) ah (fun _ _=>rfl)) ae))))))))) ae)))))) aL)
   (ao (aO (ai (db T) da (hr.mono (by decide)) rfl T.ay.m T.ay.F.kp T.ay.b (aa (dq gJ ah (dq tR (dq qw (ad 1 (pv 1)) ah) ah)) (aa (ad 2 (pv 2)) (aa (aE (cY ae)) ae)))))))))))) (fun ds Q hl h=>?_)
 obtain ⟨n,ms,rs,rfl,⟨n2,n6⟩,mo,rl,ro,h⟩:=h
 have m5:=mo.l5
 have ml:((ms.map D.int).length:Int)=ms.length:=by rw [List.length_map]
 have other:km [.int (2 + ((n:Int) - 1) % 5),.lst (ms.map D.int),.lst []] Q:=by
  have e:(((2 + (n - 1) % 5:Nat)):Int)=2 + ((n:Int) - 1) % 5:=by omega
  rw [← e]
  exact ⟨2 + (n - 1) % 5,ms,[],false,false,rfl,⟨by omega,by omega⟩,mo,by simp,fun r hr=>by simp at hr,h _ (.inl (by show n≠2 + (n - 1) % 5; omega))⟩
 refine ⟨rfl,⟨by decide,by decide⟩,fun way w0 w1=>?_⟩
 have hw:way=0∨way=1∨way=2∨way=3:=by omega
 rcases hw with rfl | rfl | rfl | rfl
 ·exact ⟨⟨rfl,rfl⟩,Br.t ⟨(show (0:Int) < 5 by decide),sz,rfl,other⟩⟩
 ·refine ⟨⟨rfl,rfl⟩,Br.f ⟨⟨rfl,rfl⟩,Br.t ?_⟩⟩
  by_cases hms:ms=[]
  ·subst hms
   exact Br.f ⟨⟨rfl,rfl⟩,Br.f (Br.f ⟨rfl,⟨rfl,rfl⟩,cr (d:=.lst []) rfl ⟨(show (0:Int) < 5 by decide),sz,rfl,other⟩⟩)⟩
  ·have l1:1 <= ms.length:=by
    cases ms with
    | nil=>exact absurd rfl hms
    | cons a b=>simp
   refine Br.dt (by omega) ?_
   refine ⟨rfl,⟨by omega,by omega⟩,fun x x0 x1=>?_⟩
   rw [ml] at x1
   have xl:x.toNat < ms.length:=by omega
   have hx:(ms.map D.int)[x.toNat]? = some (.int ms[x.toNat]):=by rw [List.getElem?_map]; simp [xl]
   have hm:=mo.it _ (List.getElem_mem xl)
   have ec:cutD (ms.map D.int) none (some x)++[.int (1 + ms[x.toNat] % 6)]++cutD (ms.map D.int) (some (x + 1)) none=(ms.set x.toNat (1 + ms[x.toNat] % 6)).map D.int:=by
    have ex:x=((x.toNat:Nat):Int):=by omega
    have ex1:x + 1=((x.toNat + 1:Nat):Int):=by omega
    rw [show cutD (ms.map D.int) none (some x)=(ms.map D.int).take x.toNat by rw [ex]; exact cutL _ _ (by rw [List.length_map]; omega),ex1,cutR _ _ (by rw [List.length_map]; omega)]
    rw [← List.map_take,← List.map_drop,List.set_eq_take_append_cons_drop,if_pos xl]
    simp
   have lc:=congrArg List.length ec
   rw [List.length_append,List.length_append,List.length_map,List.length_set,List.length_singleton] at lc
   refine tZ x0 hx ⟨(show (0:Int) < 6 by decide),sz,?_,?_,sz,rfl,?_⟩
   ·exact Nat.le_trans (show _ <= 10 by simp only [List.length_singleton]; omega) (by decide)
   ·exact Nat.le_trans (show _ <= 10 by rw [List.length_append,List.length_singleton]; omega) (by decide)
   ·rw [ec]
    refine ⟨n,ms.set x.toNat (1 + ms[x.toNat] % 6),[],false,false,rfl,⟨n2,n6⟩,⟨by rw [List.length_set]; exact m5,fun m hm'=>?_⟩,by simp,fun r hr=>by simp at hr,h _ (.inr fun z=>?_)⟩
    ·rcases List.mem_or_eq_of_mem_set hm' with hm' | rfl
     ·exact mo.it m hm'
     ·omega
    ·have z:ms=ms.set x.toNat (1 + ms[x.toNat] % 6):=z
     have:=congrArg (fun l:List Int=>l[x.toNat]?) z
     simp [xl] at this
     omega
 ·refine ⟨⟨rfl,rfl⟩,Br.f ⟨⟨rfl,rfl⟩,Br.f (Br.f ⟨⟨rfl,rfl⟩,Br.t ?_⟩)⟩⟩
  cases ms with
  | nil=>exact Br.f ⟨rfl,⟨rfl,rfl⟩,cr (d:=.lst []) rfl ⟨(show (0:Int) < 5 by decide),sz,rfl,other⟩⟩
  | cons m0 mt =>
   refine Br.dt (by rw [List.map_cons,List.length_cons]; omega) ?_
   have ec:cutD ((m0::mt).map D.int) (some 1) none=mt.map D.int:=by
    rw [show (some (1:Int))=some ((1:Nat):Int) from rfl,cutR _ _ (by simp)]
    rfl
   have fin:∀ rr:List Rw,rr=(rs.map fun r=>(⟨r.h,r.ks.drop 1,r.t,r.w⟩:Rw))->km [.int n,.lst (cutD ((m0::mt).map D.int) (some 1) none),.lst (rr.map rwD)] Q:=fun rr er=>by
    rw [ec,er]
    refine ⟨n,mt,_,false,false,rfl,⟨n2,n6⟩,⟨by simp at m5; omega,fun m hm=>mo.it m (List.mem_cons_of_mem _ hm)⟩,by rw [List.length_map]; exact rl,fun r hr=>?_,h _ (.inr fun z=>?_)⟩
    ·obtain ⟨q,hq,rfl⟩:=List.mem_map.mp hr
     have o:=ro q hq
     have kl:=o.kl
     rw [List.length_cons] at kl
     refine ⟨o.h0,o.h1,by show (q.ks.drop 1).length=_; rw [List.length_drop]; omega,fun i k m hk hm=>?_,o.w0,o.wt,o.t1⟩
     have hk:(q.ks.drop 1)[i]? = some k:=hk
     rw [List.getElem?_drop] at hk
     exact o.kk (1 + i) k m hk (by rw [Nat.add_comm]; exact hm)
    ·have z:m0::mt=mt:=z
     have:=congrArg List.length z
     simp at this
   refine rE rl (fun ks=>ks.drop 1) (fun r hr Y hY=>?_) ⟨rfl,fin _ rfl⟩
   have kl:=(ro r hr).kl
   rw [List.length_cons] at kl
   have e:cutD (r.ks.map D.int) (some 1) none=(r.ks.drop 1).map D.int:=by
    rw [show (some (1:Int))=some ((1:Nat):Int) from rfl,cutR _ _ (by rw [List.length_map]; omega),List.map_drop]
   have hY2:Y (.tup [.int r.h,.tup (cutD (r.ks.map D.int) (some 1) none),.int r.t,.int r.w]) [.val (rwD r)]:=by
    rw [e]
    exact hY
   exact ⟨sz,hY2⟩
 ·refine ⟨⟨rfl,rfl⟩,Br.f ⟨⟨rfl,rfl⟩,Br.f (Br.f ⟨⟨rfl,rfl⟩,Br.f (Br.f ⟨rfl,⟨ou ms,?_⟩,?_⟩)⟩)⟩⟩
  ·rw [← List.map_reverse]
   exact ou _
  ·rw [← List.map_reverse,oA]
   by_cases z:ms=ms.reverse
   ·rw [decide_eq_true z]
    exact Br.f ⟨(show (0:Int) < 5 by decide),sz,rfl,other⟩
   ·rw [decide_eq_false z]
    refine Br.t ?_
    have fin:∀ rr:List Rw,rr=(rs.map fun r=>(⟨r.h,r.ks.reverse,r.t,r.w⟩:Rw))->km [.int n,.lst (ms.map D.int).reverse,.lst (rr.map rwD)] Q:=fun rr er=>by
     rw [← List.map_reverse,er]
     refine ⟨n,ms.reverse,_,false,false,rfl,⟨n2,n6⟩,⟨by rw [List.length_reverse]; exact m5,fun m hm=>mo.it m (List.mem_reverse.mp hm)⟩,by rw [List.length_map]; exact rl,fun r hr=>?_,h _ (.inr z)⟩
     obtain ⟨q,hq,rfl⟩:=List.mem_map.mp hr
     have o:=ro q hq
     have kl:=o.kl
     refine ⟨o.h0,o.h1,by show q.ks.reverse.length=_; rw [List.length_reverse,List.length_reverse]; exact kl,fun i k m hk hm=>?_,o.w0,o.wt,o.t1⟩
     have hk:q.ks.reverse[i]? = some k:=hk
     have hi:i < ms.length:=by have:=(List.getElem?_eq_some_iff.mp hm).1; simpa using this
     rw [List.getElem?_reverse (by omega)] at hk
     rw [List.getElem?_reverse hi] at hm
     rw [kl] at hk
     exact o.kk _ k m hk hm
    refine ⟨rfl,?_⟩
    refine rE rl (fun ks=>ks.reverse) (fun r hr Y hY=>?_) ⟨rfl,fin _ rfl⟩
    have hY2:Y (.tup [.int r.h,.tup (r.ks.map D.int).reverse,.int r.t,.int r.w]) [.val (rwD r)]:=by
     rw [← List.map_reverse]
     exact hY
    exact ⟨rfl,sz,hY2⟩
theorem wv {n:Nat} {ms:List Int} {rs:List Rw} (ro:∀ r∈rs,RwOk n ms r):eS ⟨n,ms,gath n (rs.map fun r=>(r.ks,eT n r))⟩=eS ⟨n,ms,dueK n rs⟩:=by rw [← rq ro]; rfl
theorem yU (a b:List Rw) (h:Nat):sT (a++b) h=sT (b++a) h:=by
 rw [vd,vd,Int.add_comm (sT a h).1,Int.add_comm (sT a h).2]
theorem vg (n:Nat) (a b:List Rw):dueK n (a++b)=dueK n (b++a):=by
 have ks:bp ((grpX (aD (a++b))).map (·.1))=bp ((grpX (aD (b++a))).map (·.1)):=oh (eU _) (eU _) fun k=>by
  rw [cW,cW]
  constructor
  ·rintro ⟨r,hr,h⟩
   exact ⟨r,List.mem_append.mpr (List.mem_append.mp hr).symm,h⟩
  ·rintro ⟨r,hr,h⟩
   exact ⟨r,List.mem_append.mpr (List.mem_append.mp hr).symm,h⟩
 rw [lE,lE,ks]
 apply List.map_congr_left
 intro k _
 congr 1
 unfold aR
 apply List.map_congr_left
 intro h _
 show sT (XR (a++b) k) h=sT (XR (b++a) k) h
 rw [vb,vb,yU]
abbrev B8 (n:Nat) (ms:List Int) (rs:List Rw):D:=eS ⟨n,ms,dueK n rs⟩
theorem ww (n:Nat) (ms:List Int) (a b:List Rw):B8 n ms (a++b)=B8 n ms (b++a):=by show eS _=eS _; rw [vg]
theorem Cz (T:Tx K mg):FnOk P w K mg base CX0 9 T.yV T.vh ["_law_script"] (DL.spLaw K):=by
 refine lawD (k:=8) T.Bs.F sc_law rfl (by decide) (fun cdv A outer s H E hr=>gC (i:=1) sc_law.nd rfl (by first | exact Or.inl rfl | exact Or.inr rfl) (sS (pO T) (hr.mono (by decide)) rfl T.ed.m T.ed.F.kp T.ed.b .nil zQ (cH (pv 0) fF))) (fun cdv A outer s H E hr=>(bO (bx (i:=2) sc_law.nd rfl (by first | exact Or.inl rfl | exact Or.inr rfl) (dq gJ ah (ai (aB T) aC (hr.mono (by decide)) rfl T.af.m T.af.F.kp T.af.b (aa (ad 1 (pv 1)) (aa ah ae)))))
   (bO (bx (i:=3) sc_law.nd rfl (by first | exact Or.inl rfl | exact Or.inr rfl) (aE (PCD.pld (bo (N':=["_law_k","_law_pen_here"]) rfl rfl (by decide +kernel) rfl (.own (.cap (j:=1) rfl (by first | exact Or.inl rfl | exact Or.inr rfl) rfl .nil)) (by decide +kernel) (eP rfl T.iG (aa (ai (aB T) aC (hr.mono (by decide)) rfl T.af.m T.af.F.kp T.af.b (aa (ad 1 (pv 1)) (aa ah ae))) ae)) (fun B=>(aJ (i:=0) (show List.Nodup (α:=PySem.Str) ["_law_k","_law_pen_here"] by decide +kernel) rfl (by first | exact Or.inl rfl | exact Or.inr rfl))) (fun B=>bu) (fun B=>(dq gJ ah (ai (aB T) aC (hr.mono (by decide)) rfl T.af.m T.af.F.kp T.af.b (aa (ad 1 (pv 1)) (aa ah ae)))))))))
   (aq (bx (i:=4) sc_law.nd rfl (by first | exact Or.inl rfl | exact Or.inr rfl) (qq (tY hr) (ai (aB T) aC (hr.mono (by decide)) rfl T.af.m T.af.F.kp T.af.b (aa (ad 1 (pv 1)) (aa ah ae))) ah (aS _)))
   (bO (cf (bS (ad 4 (pv 4))) (ao (bx (i:=3) sc_law.nd rfl (by first | exact Or.inl rfl | exact Or.inr rfl) (aE (cY (aa ah (aa ah (aa ah ae))))))) aL)
   (bO (bx (i:=5) sc_law.nd rfl (by first | exact Or.inl rfl | exact Or.inr rfl) (ai (fZ T) fY (hr.mono (by decide)) rfl T.aV.m T.aV.F.kp T.aV.b (aa (ad 1 (pv 1)) (aa (ad 2 (pv 2)) (aa (ad 3 (pv 3)) (aa (aE (cY ae)) (aa (ad 4 (pv 4)) ae)))))))
   (bO (bx (i:=6) sc_law.nd rfl (by first | exact Or.inl rfl | exact Or.inr rfl) (ai (fZ T) fY (hr.mono (by decide)) rfl T.aV.m T.aV.F.kp T.aV.b (aa (ad 1 (pv 1)) (aa (ad 2 (pv 2)) (aa (ad 3 (pv 3)) (aa (ad 5 (pv 5)) (aa (ad 4 (pv 4)) ae)))))))
   (bO (bx (i:=7) sc_law.nd rfl (by first | exact Or.inl rfl | exact Or.inr rfl) (ai (fZ T) fY (hr.mono (by decide)) rfl T.aV.m T.aV.F.kp T.aV.b (aa (ad 1 (pv 1)) (aa (ad 2 (pv 2)) (aa (ad 3 (pv 3)) (aa (aE (iU (ad 5 (pv 5)) (ad 6 (pv 6)))) (aa (ad 4 (pv 4)) ae)))))))
   (bO (pB (i:=8) sc_law.nd rfl rfl (bo (N':=["_law_rows_here","_law_many","_law_marks"]) rfl rfl (by decide +kernel) rfl (.own (.cap (j:=2) rfl (by first | exact Or.inl rfl | exact Or.inr rfl) rfl (.cap (j:=3) rfl (by first | exact Or.inl rfl | exact Or.inr rfl) rfl .nil))) (by decide +kernel) (dH (aE (cY (aa (ad 5 (pv 5)) (aa (ad 6 (pv 6)) (aa (ad 7 (pv 7)) ae)))))) (fun B=>(aJ (i:=0) (show List.Nodup (α:=PySem.Str) ["_law_rows_here","_law_many","_law_marks"] by decide +kernel) rfl (by first | exact Or.inl rfl | exact Or.inr rfl))) (fun B=>bu) (fun B=>(ai (db T) da (hr.mono (by decide)) rfl T.ay.m T.ay.F.kp T.ay.b (aa (ad 1 (pv 1)) (aa (ad 2 (pv 2)) (aa (ad 0 (pv 0)) ae)))))))
   (bO (bx (i:=9) sc_law.nd rfl (by first | exact Or.inl rfl | exact Or.inr rfl) (ai (iB T) iA (hr.mono (by decide)) rfl T.bh.m T.bh.F.kp T.bh.b (aa (ad 2 (pv 2)) (aa (ad 3 (pv 3)) (aa (aE (iU (ad 5 (pv 5)) (ad 6 (pv 6)))) ae)))))
   (aq (cf (PWD.pt (ii (bq (fB hr) (ai (eD T) eC (hr.mono (by decide)) rfl T.az.m T.az.F.kp T.az.b (aa (aK (ad 8 (pv 8)) ah (fun _ _=>rfl)) (aa (aK (ad 8 (pv 8)) ah (fun _ _=>rfl)) ae))) (ad 9 (pv 9)) (aS _)) (dP (bq (fB hr) (ai (eD T) eC (hr.mono (by decide)) rfl T.az.m T.az.F.kp T.az.b (aa (aK (ad 8 (pv 8)) ah (fun _ _=>rfl)) (aa (aK (ad 8 (pv 8)) ah (fun _ _=>rfl)) ae))) (ad 9 (pv 9)) (aS _))))) (ao (aO fP)) aL)
   (aq (cf (bq (fB hr) (ad 8 (pv 8)) (aE (PCD.pld (bo (N':=["_law_rows_here","_law_many","_law_marks"]) rfl rfl (by decide +kernel) rfl (.own (.cap (j:=2) rfl (by first | exact Or.inl rfl | exact Or.inr rfl) rfl (.cap (j:=3) rfl (by first | exact Or.inl rfl | exact Or.inr rfl) rfl .nil))) (by decide +kernel) (dH (aE (cY (aa (ad 5 (pv 5)) (aa (ad 6 (pv 6)) (aa (ad 7 (pv 7)) ae)))))) (fun B=>(aJ (i:=0) (show List.Nodup (α:=PySem.Str) ["_law_rows_here","_law_many","_law_marks"] by decide +kernel) rfl (by first | exact Or.inl rfl | exact Or.inr rfl))) (fun B=>bu) (fun B=>(ai (iB T) iA (hr.mono (by decide)) rfl T.bh.m T.bh.F.kp T.bh.b (aa (ad 1 (pv 1)) (aa (ad 2 (pv 2)) (aa (ad 0 (pv 0)) ae)))))))) (aS _)) (ao (aO fP)) aL)
   (bO (bx (i:=10) sc_law.nd rfl (by first | exact Or.inl rfl | exact Or.inr rfl) (ai (iB T) iA (hr.mono (by decide)) rfl T.bh.m T.bh.F.kp T.bh.b (aa (ad 2 (pv 2)) (aa (ad 3 (pv 3)) (aa (aE (iU (aE (iU (ad 5 (pv 5)) (ad 6 (pv 6)))) (ad 7 (pv 7)))) ae)))))
   (aq (cf (PWD.pt (ii (bq (fB hr) (ai (eD T) eC (hr.mono (by decide)) rfl T.az.m T.az.F.kp T.az.b (aa (ad 9 (pv 9)) (aa (aK (ad 8 (pv 8)) ah (fun _ _=>rfl)) ae))) (ad 10 (pv 10)) (aS _)) (dP (bq (fB hr) (ai (eD T) eC (hr.mono (by decide)) rfl T.az.m T.az.F.kp T.az.b (aa (aK (ad 8 (pv 8)) ah (fun _ _=>rfl)) (aa (ai (eD T) eC (hr.mono (by decide)) rfl T.az.m T.az.F.kp T.az.b (aa (aK (ad 8 (pv 8)) ah (fun _ _=>rfl)) (aa (aK (ad 8 (pv 8)) ah (fun _ _=>rfl)) ae))) ae))) (ad 10 (pv 10)) (aS _))))) (ao (aO fP)) aL)
   (bO (bx (i:=11) sc_law.nd rfl (by first | exact Or.inl rfl | exact Or.inr rfl) (ai (db T) da (hr.mono (by decide)) rfl T.ay.m T.ay.F.kp T.ay.b (aa (ad 2 (pv 2)) (aa (ad 3 (pv 3)) (aa (aE (cY ae)) ae)))))
   (aq (cf (PWD.pt (ii (bq (fB hr) (ai (eD T) eC (hr.mono (by decide)) rfl T.az.m T.az.F.kp T.az.b (aa (ad 9 (pv 9)) (aa (ad 11 (pv 11)) ae))) (ad 9 (pv 9)) (aS _)) (dP (bq (fB hr) (ai (eD T) eC (hr.mono (by decide)) rfl T.az.m T.az.F.kp T.az.b (aa (ad 11 (pv 11)) (aa (ad 11 (pv 11)) ae))) (ad 11 (pv 11)) (aS _))))) (ao (aO fP)) aL)
   (bO (qv PassesOwn.never rfl (eP rfl T.iG (aa ah ae)) (aJ (i:=12) sc_law.nd rfl (by first | exact Or.inl rfl | exact Or.inr rfl)) (ao (cf (cC (bS (ai (kW T) kU (hr.mono (by decide)) rfl T.bM.m T.bM.F.kp T.bM.b (aa (aK (ad 8 (pv 8)) (ad 12 (pv 12)) (fun _ _=>rfl)) (aa (ai (mK T) mJ (hr.mono (by decide)) rfl T.bX.m T.bX.F.kp T.bX.b (aa (ad 1 (pv 1)) (aa (ad 2 (pv 2)) (aa (ad 3 (pv 3)) (aa (ad 5 (pv 5)) ae))))) ae))))) (ao (aO fP)) aL)))
   (ao (aO fP))))))))))))))))))) ?_
 refine ⟨fun ρ=>∃ n:Nat,(2 <= n /\ n <= 6) /\ ρ=[.nil,.val .pen,.val (.int n),.nil,.nil,.nil,.nil,.nil,.nil,.nil,.nil,.nil,.nil],⟨rfl,⟨by decide,by decide⟩,fun r r0 r1=>⟨(2 + r).toNat,⟨by omega,by omega⟩,?_⟩⟩,?_⟩
 ·have e:((2 + r).toNat:Int)=2 + r:=by omega
  rw [e]
  rfl
 rintro _ ⟨n,⟨n2,n6⟩,rfl⟩
 refine ⟨fun ρ=>∃ ms:List Int,MsOk ms /\ ρ=[.nil,.val .pen,.val (.int n),.val (.lst (ms.map D.int)),.nil,.nil,.nil,.nil,.nil,.nil,.nil,.nil,.nil],⟨rfl,⟨by decide,by decide⟩,fun m m0 m1=>⟨⟨by omega,by omega⟩,?_⟩⟩,?_⟩
 ·refine bz (fun pre acc ρ=>∃ ms:List Int,acc=ms.map D.int /\ ms.length=pre.length /\ (∀ x∈ms,1 <= x /\ x <= 6) /\ ∃ s,ρ=[s,.val .pen]) (fun acc ρ hN=>?_) (fun pre d post acc ρ Y e hN hY=>?_) _ ⟨[],rfl,rfl,fun x hx=>by simp at hx,_,rfl⟩
  ·obtain ⟨ms,rfl,el,hv,_⟩:=hN
   rw [cF,List.length_map,List.length_range] at el
   exact ⟨ms,⟨by omega,hv⟩,rfl⟩
  ·obtain ⟨ms,rfl,el,hv,s,rfl⟩:=hN
   have hlen:=congrArg List.length e
   rw [cF,List.length_map,List.length_range,List.length_append,List.length_cons] at hlen
   refine Br.t ⟨rfl,⟨by decide,by decide⟩,fun r r0 r1=>⟨?_,hY _ _ ⟨ms++[1 + r],by rw [List.map_append]; rfl,by simp [el],fun x hx=>?_,_,rfl⟩⟩⟩
   ·rw [List.length_map]
    exact Nat.lt_of_le_of_lt (show ms.length <= 10 by omega) (by decide)
   ·rcases List.mem_append.mp hx with hx | hx
    ·exact hv x hx
    ·rw [List.mem_singleton.mp hx]
     omega
 rintro _ ⟨ms,mo,rfl⟩
 refine ⟨rfl,⟨by decide,by decide⟩,fun fu f0 f1=>⟨⟨rfl,rfl⟩,?_⟩⟩
 obtain ⟨fb,hfb⟩:∃ fb:Bool,(if false=true then !eqD (D.int fu) (D.int 0) else eqD (D.int fu) (D.int 0))=fb:=⟨_,rfl⟩
 rw [hfb]
 clear hfb
 refine ⟨fun ρ=>∃ ms:List Int,MsOk ms /\ ρ=[.nil,.val .pen,.val (.int n),.val (.lst (ms.map D.int)),.val (.bl fb),.nil,.nil,.nil,.nil,.nil,.nil,.nil,.nil],?_,?_⟩
 ·cases fb with
  | true=>exact Br.t ⟨sz,[6,6,6],⟨by decide,fun m hm=>by simp at hm; omega⟩,rfl⟩
  | false=>exact Br.f ⟨ms,mo,rfl⟩
 rintro _ ⟨ms,mo,rfl⟩
 have m5:=mo.l5
 refine ⟨fun ρ=>∃ r1:List Rw,r1.length <= 60 /\ (∀ r∈r1,RwOk n ms r) /\ ρ=[.nil,.val .pen,.val (.int n),.val (.lst (ms.map D.int)),.val (.bl fb),.val (.lst (r1.map rwD)),.nil,.nil,.nil,.nil,.nil,.nil,.nil],⟨sz,rfl,n,ms,[],fb,rfl,⟨n2,n6⟩,mo,by simp,fun r hr=>by simp at hr,fun rs rl ro=>⟨rs,rl,ro,rfl⟩⟩,?_⟩
 rintro _ ⟨r1,l1,o1,rfl⟩
 refine ⟨fun ρ=>∃ r2:List Rw,r2.length <= 60 /\ (∀ r∈r2,RwOk n ms r) /\ ρ=[.nil,.val .pen,.val (.int n),.val (.lst (ms.map D.int)),.val (.bl fb),.val (.lst (r1.map rwD)),.val (.lst (r2.map rwD)),.nil,.nil,.nil,.nil,.nil,.nil],⟨rfl,n,ms,r1,fb,rfl,⟨n2,n6⟩,mo,by omega,o1,fun rs rl ro=>⟨rs,rl,ro,rfl⟩⟩,?_⟩
 rintro _ ⟨r2,l2,o2,rfl⟩
 have o12:∀ r∈r1++r2,RwOk n ms r:=fun r hr=>(List.mem_append.mp hr).elim (o1 r) (o2 r)
 have l12:(r1++r2).length <= 120:=by rw [List.length_append]; omega
 have e12:r1.map rwD++r2.map rwD=(r1++r2).map rwD:=by rw [List.map_append]
 have z12:(r1.map rwD).length + (r2.map rwD).length <= sizeLine:=by rw [List.length_map,List.length_map]; exact Nat.le_trans (show r1.length + r2.length <= 1000 by omega) (by decide)
 refine ⟨fun ρ=>∃ r3:List Rw,r3.length <= 60 /\ (∀ r∈r3,RwOk n ms r) /\ ρ=[.nil,.val .pen,.val (.int n),.val (.lst (ms.map D.int)),.val (.bl fb),.val (.lst (r1.map rwD)),.val (.lst (r2.map rwD)),.val (.lst (r3.map rwD)),.nil,.nil,.nil,.nil,.nil],⟨z12,rfl,n,ms,r1++r2,fb,by rw [e12],⟨n2,n6⟩,mo,l12,o12,fun rs rl ro=>⟨rs,rl,ro,rfl⟩⟩,?_⟩
 rintro _ ⟨r3,l3,o3,rfl⟩
 have o123:∀ r∈r1++r2++r3,RwOk n ms r:=fun r hr=>(List.mem_append.mp hr).elim (o12 r) (o3 r)
 have l123:(r1++r2++r3).length <= 180:=by rw [List.length_append]; omega
 refine ⟨fun ρ=>ρ=[.nil,.val .pen,.val (.int n),.val (.lst (ms.map D.int)),.val (.bl fb),.val (.lst (r1.map rwD)),.val (.lst (r2.map rwD)),.val (.lst (r3.map rwD)),.val (.lst [B8 n ms r1,B8 n ms r2,B8 n ms r3]),.nil,.nil,.nil,.nil],?_,?_⟩
 ·refine ⟨sz,Br.t ⟨rfl,n,ms,r1,false,false,rfl,⟨n2,n6⟩,mo,l1,o1,(show 0 < sizeLine by decide),Br.t ⟨rfl,n,ms,r2,false,false,rfl,⟨n2,n6⟩,mo,l2,o2,(show 1 < sizeLine by decide),Br.t ⟨rfl,n,ms,r3,false,false,rfl,⟨n2,n6⟩,mo,l3,o3,(show 2 < sizeLine by decide),?_⟩⟩⟩⟩
  rw [wv o1,wv o2,wv o3]
  rfl
 rintro _ rfl
 refine ⟨fun ρ=>ρ=[.nil,.val .pen,.val (.int n),.val (.lst (ms.map D.int)),.val (.bl fb),.val (.lst (r1.map rwD)),.val (.lst (r2.map rwD)),.val (.lst (r3.map rwD)),.val (.lst [B8 n ms r1,B8 n ms r2,B8 n ms r3]),.val (B8 n ms (r1++r2)),.nil,.nil,.nil],⟨z12,rfl,n,ms,r1++r2,by rw [e12],⟨n2,n6⟩,mo,by omega,o12,rfl⟩,?_⟩
 rintro _ rfl
 have tn:∀ rs:List Rw,rs.length <= 180->(∀ r∈rs,RwOk n ms r)->shp (B8 n ms rs)=true:=fun rs rl ro=>(lD (rA n6 mo rl ro)).shp
 have bes:∀ (a b:List Rw) (Q:D->Prop),a.length + b.length <= 180->(∀ r∈a,RwOk n ms r)->(∀ r∈b,RwOk n ms r)->Q (B8 n ms (a++b))->gBes [B8 n ms a,B8 n ms b] Q:=fun a b Q hl ha hb q=>⟨n,ms,dueK n a,dueK n b,rfl,Cy n6 mo ha hb hl,by rw [yT ha hb]; exact q⟩
 have s12:=tn (r1++r2) (by omega) o12
 have s123:=tn (r1++r2++r3) l123 o123
 have s0:=tn [] (by simp) (fun r hr=>by simp at hr)
 refine ⟨rfl,bes r1 r2 _ (by omega) o1 o2 ⟨⟨s12,s12⟩,cr s12 ⟨rfl,bes r2 r1 _ (by omega) o2 o1 ?_⟩⟩⟩
 rw [ww n ms r2 r1]
 refine ⟨⟨s12,s12⟩,cr s12 ?_⟩
 have sB:shp (.lst [B8 n ms r1,B8 n ms r2,B8 n ms r3])=true:=Shp.shp (n:=7) (.lst fun d hd=>by
  simp only [List.mem_cons,List.not_mem_nil,or_false] at hd
  rcases hd with rfl | rfl | rfl
  ·exact lD (rA n6 mo (by omega) o1)
  ·exact lD (rA n6 mo (by omega) o2)
  ·exact lD (rA n6 mo (by omega) o3))
 refine ⟨sz,Br.t ⟨rfl,n,ms,r1,rfl,⟨n2,n6⟩,mo,by omega,o1,(show 0 < sizeLine by decide),Br.t ⟨rfl,n,ms,r2,rfl,⟨n2,n6⟩,mo,by omega,o2,(show 1 < sizeLine by decide),Br.t ⟨rfl,n,ms,r3,rfl,⟨n2,n6⟩,mo,by omega,o3,(show 2 < sizeLine by decide),⟨sB,sB⟩,cr sB ?_⟩⟩⟩⟩
 have e123:r1.map rwD++r2.map rwD++r3.map rwD=(r1++r2++r3).map rwD:=by rw [List.map_append,List.map_append]
 have z123:(r1.map rwD++r2.map rwD).length + (r3.map rwD).length <= sizeLine:=by rw [List.length_append,List.length_map,List.length_map,List.length_map]; exact Nat.le_trans (show r1.length + r2.length + r3.length <= 1000 by omega) (by decide)
 refine ⟨fun ρ=>ρ=[.nil,.val .pen,.val (.int n),.val (.lst (ms.map D.int)),.val (.bl fb),.val (.lst (r1.map rwD)),.val (.lst (r2.map rwD)),.val (.lst (r3.map rwD)),.val (.lst [B8 n ms r1,B8 n ms r2,B8 n ms r3]),.val (B8 n ms (r1++r2)),.val (B8 n ms (r1++r2++r3)),.nil,.nil],⟨z12,z123,rfl,n,ms,r1++r2++r3,by rw [e123],⟨n2,n6⟩,mo,l123,o123,rfl⟩,?_⟩
 rintro _ rfl
 have o23:∀ r∈r2++r3,RwOk n ms r:=fun r hr=>(List.mem_append.mp hr).elim (o2 r) (o3 r)
 rw [List.length_append] at l12
 refine ⟨rfl,bes (r1++r2) r3 _ (by rw [List.length_append]; omega) o12 o3 ⟨⟨s123,s123⟩,cr s123 ⟨rfl,bes r2 r3 _ (by omega) o2 o3 ⟨rfl,bes r1 (r2++r3) _ (by rw [List.length_append]; omega) o1 o23 ?_⟩⟩⟩⟩
 rw [← List.append_assoc]
 refine ⟨⟨s123,s123⟩,cr s123 ?_⟩
 refine ⟨fun ρ=>ρ=[.nil,.val .pen,.val (.int n),.val (.lst (ms.map D.int)),.val (.bl fb),.val (.lst (r1.map rwD)),.val (.lst (r2.map rwD)),.val (.lst (r3.map rwD)),.val (.lst [B8 n ms r1,B8 n ms r2,B8 n ms r3]),.val (B8 n ms (r1++r2)),.val (B8 n ms (r1++r2++r3)),.val (B8 n ms []),.nil],⟨sz,rfl,n,ms,[],false,false,rfl,⟨n2,n6⟩,mo,by simp,fun r hr=>by simp at hr,?_⟩,?_⟩
 ·rw [wv (ms:=ms) (rs:=[]) fun r hr=>by simp at hr]
  rfl
 rintro _ rfl
 have oe:∀ r∈([]:List Rw),RwOk n ms r:=fun r hr=>by simp at hr
 refine ⟨rfl,bes (r1++r2) [] _ (by rw [List.length_append,List.length_nil]; omega) o12 oe ?_⟩
 rw [List.append_nil]
 refine ⟨⟨s12,s12⟩,cr s12 ⟨rfl,bes [] [] _ (by simp) oe oe ⟨⟨s0,s0⟩,cr s0 ?_⟩⟩⟩
 refine ⟨fun ρ=>∃ s:Sl,ρ=[.nil,.val .pen,.val (.int n),.val (.lst (ms.map D.int)),.val (.bl fb),.val (.lst (r1.map rwD)),.val (.lst (r2.map rwD)),.val (.lst (r3.map rwD)),.val (.lst [B8 n ms r1,B8 n ms r2,B8 n ms r3]),.val (B8 n ms (r1++r2)),.val (B8 n ms (r1++r2++r3)),.val (B8 n ms []),s],⟨⟨by decide,by decide⟩,?_⟩,?_⟩
 ·refine mi (fun k ρ=>∃ s:Sl,ρ=[.nil,.val .pen,.val (.int n),.val (.lst (ms.map D.int)),.val (.bl fb),.val (.lst (r1.map rwD)),.val (.lst (r2.map rwD)),.val (.lst (r3.map rwD)),.val (.lst [B8 n ms r1,B8 n ms r2,B8 n ms r3]),.val (B8 n ms (r1++r2)),.val (B8 n ms (r1++r2++r3)),.val (B8 n ms []),s]) _ _ ?_ ?_ _ ⟨_,rfl⟩
  ·rintro ρ ⟨s,rfl⟩
   exact ⟨_,rfl⟩
  ·rintro k ρ X k0 k1 ⟨s,rfl⟩ hX
   refine mh k0 (show k < 3 by simpa using k1) fun d hd=>?_
   have hb:∃ rs:List Rw,d=B8 n ms rs:=by
    simp only [List.mem_cons,List.not_mem_nil,or_false] at hd
    rcases hd with rfl | rfl | rfl
    ·exact ⟨_,rfl⟩
    ·exact ⟨_,rfl⟩
    ·exact ⟨_,rfl⟩
   obtain ⟨rs,rfl⟩:=hb
   exact ⟨rfl,n,ms,r1,rfl,⟨n2,n6⟩,mo,l1,o1,fun b hb=>⟨rfl,⟨n,ms,dueK n rs⟩,b,rfl,hb,Br.f (hX _ ⟨_,rfl⟩)⟩⟩
 ·rintro _ ⟨s,rfl⟩
  rfl
end
set_option maxHeartbeats 0 in
theorem all_mk {l:PySem.W.OpenLaw} {w:World} {K:PySem.W.Frag} {h:Heap} {mg:Str->Option Value} {fa f0 f1 f2 f3 f4 f5 f6 f7 f8 f9 f10 f11 f12 f13 f14 f15 f16 f17 f18 f19 f20:Addr} (X:K.In h) (G:h.Ns mainGlobals mg) (hfa:mg "law" = some (.ref fa))
  {od0 an0 od1 an1 od2 an2 od3 an3 od4 an4 od5 an5 od6 an6 od7 an7 od8 an8 od9 an9 od10 an10 od11 an11 od12 an12 od13 an13 od14 an14 od15 an15 od16 an16 od17 an17 od18 an18 od19 an19 od20 an20:Option Addr} {sl0 sl1 sl2 sl3 sl4 sl5 sl6 sl7 sl8 sl9 sl10 sl11 sl12 sl13 sl14 sl15 sl16 sl17 sl18 sl19 sl20:Array (Option Value)} {oc0 kV0 dc0 pm0 cd0 ct0 oc1 kV1 dc1 pm1 cd1 ct1 oc2 kV2 dc2 pm2 cd2 ct2 oc3 kV3 dc3 pm3 cd3 ct3 oc4 kV4 dc4 pm4 cd4 ct4 oc5 kV5 dc5 pm5 cd5 ct5 oc6 kV6 dc6 pm6 cd6 ct6 oc7 kV7 dc7 pm7 cd7 ct7 oc8 kV8 dc8 pm8 cd8 ct8 oc9 kV9 dc9 pm9 cd9 ct9 oc10 kV10 dc10 pm10 cd10 ct10 oc11 kV11 dc11 pm11 cd11 ct11 oc12 kV12 dc12 pm12 cd12 ct12 oc13 kV13 dc13 pm13 cd13 ct13 oc14 kV14 dc14 pm14 cd14 ct14 oc15 kV15 dc15 pm15 cd15 ct15 oc16 kV16 dc16 pm16 cd16 ct16 oc17 kV17 dc17 pm17 cd17 ct17 oc18 kV18 dc18 pm18 cd18 ct18 oc19 kV19 dc19 pm19 cd19 ct19 oc20 kV20 dc20 pm20 cd20 ct20:Value}
  (a0:PySem.W.nsIn K mainGlobals "is_whole" = some (some (.ref f0))) (l0:K.lookup f0=some ⟨oc0,od0,.func (PySem.W.fnOf "is_whole" "is_whole" (aQ cO) (aF cO) (ag cO) .none kV0 dc0 pm0 an0 cd0 ct0),sl0⟩) (c0:PySem.W.codeIn K cd0 "is_whole" = true) (k0:PySem.W.keepIn K (.ref f0)=true)
  (a1:PySem.W.nsIn K mainGlobals "is_within" = some (some (.ref f1))) (l1:K.lookup f1=some ⟨oc1,od1,.func (PySem.W.fnOf "is_within" "is_within" (aQ cg) (aF cg) (ag cg) .none kV1 dc1 pm1 an1 cd1 ct1),sl1⟩) (c1:PySem.W.codeIn K cd1 "is_within" = true) (k1:PySem.W.keepIn K (.ref f1)=true)
  (a2:PySem.W.nsIn K mainGlobals "is_count" = some (some (.ref f2))) (l2:K.lookup f2=some ⟨oc2,od2,.func (PySem.W.fnOf "is_count" "is_count" (aQ cP) (aF cP) (ag cP) .none kV2 dc2 pm2 an2 cd2 ct2),sl2⟩) (c2:PySem.W.codeIn K cd2 "is_count" = true) (k2:PySem.W.keepIn K (.ref f2)=true)
  (a3:PySem.W.nsIn K mainGlobals "together" = some (some (.ref f3))) (l3:K.lookup f3=some ⟨oc3,od3,.func (PySem.W.fnOf "together" "together" (aQ cQ) (aF cQ) (ag cQ) .none kV3 dc3 pm3 an3 cd3 ct3),sl3⟩) (c3:PySem.W.codeIn K cd3 "together" = true) (k3:PySem.W.keepIn K (.ref f3)=true)
  (a4:PySem.W.nsIn K mainGlobals "together_by_house" = some (some (.ref f4))) (l4:K.lookup f4=some ⟨oc4,od4,.func (PySem.W.fnOf "together_by_house" "together_by_house" (aQ aM) (aF aM) (ag aM) .none kV4 dc4 pm4 an4 cd4 ct4),sl4⟩) (c4:PySem.W.codeIn K cd4 "together_by_house" = true) (k4:PySem.W.keepIn K (.ref f4)=true)
  (a5:PySem.W.nsIn K mainGlobals "book_of" = some (some (.ref f5))) (l5:K.lookup f5=some ⟨oc5,od5,.func (PySem.W.fnOf "book_of" "book_of" (aQ dU) (aF dU) (ag dU) .none kV5 dc5 pm5 an5 cd5 ct5),sl5⟩) (c5:PySem.W.codeIn K cd5 "book_of" = true) (k5:PySem.W.keepIn K (.ref f5)=true)
  (a6:PySem.W.nsIn K mainGlobals "beside" = some (some (.ref f6))) (l6:K.lookup f6=some ⟨oc6,od6,.func (PySem.W.fnOf "beside" "beside" (aQ ft) (aF ft) (ag ft) .none kV6 dc6 pm6 an6 cd6 ct6),sl6⟩) (c6:PySem.W.codeIn K cd6 "beside" = true) (k6:PySem.W.keepIn K (.ref f6)=true)
  (a7:PySem.W.nsIn K mainGlobals "gathered" = some (some (.ref f7))) (l7:K.lookup f7=some ⟨oc7,od7,.func (PySem.W.fnOf "gathered" "gathered" (aQ cR) (aF cR) (ag cR) .none kV7 dc7 pm7 an7 cd7 ct7),sl7⟩) (c7:PySem.W.codeIn K cd7 "gathered" = true) (k7:PySem.W.keepIn K (.ref f7)=true)
  (a8:PySem.W.nsIn K mainGlobals "is_tried" = some (some (.ref f8))) (l8:K.lookup f8=some ⟨oc8,od8,.func (PySem.W.fnOf "is_tried" "is_tried" (aQ cS) (aF cS) (ag cS) .none kV8 dc8 pm8 an8 cd8 ct8),sl8⟩) (c8:PySem.W.codeIn K cd8 "is_tried" = true) (k8:PySem.W.keepIn K (.ref f8)=true)
  (a9:PySem.W.nsIn K mainGlobals "counts_of_row" = some (some (.ref f9))) (l9:K.lookup f9=some ⟨oc9,od9,.func (PySem.W.fnOf "counts_of_row" "counts_of_row" (aQ bf) (aF bf) (ag bf) .none kV9 dc9 pm9 an9 cd9 ct9),sl9⟩) (c9:PySem.W.codeIn K cd9 "counts_of_row" = true) (k9:PySem.W.keepIn K (.ref f9)=true)
  (a10:PySem.W.nsIn K mainGlobals "are_marks" = some (some (.ref f10))) (l10:K.lookup f10=some ⟨oc10,od10,.func (PySem.W.fnOf "are_marks" "are_marks" (aQ ci) (aF ci) (ag ci) .none kV10 dc10 pm10 an10 cd10 ct10),sl10⟩) (c10:PySem.W.codeIn K cd10 "are_marks" = true) (k10:PySem.W.keepIn K (.ref f10)=true)
  (a11:PySem.W.nsIn K mainGlobals "are_rows" = some (some (.ref f11))) (l11:K.lookup f11=some ⟨oc11,od11,.func (PySem.W.fnOf "are_rows" "are_rows" (aQ cT) (aF cT) (ag cT) .none kV11 dc11 pm11 an11 cd11 ct11),sl11⟩) (c11:PySem.W.codeIn K cd11 "are_rows" = true) (k11:PySem.W.keepIn K (.ref f11)=true)
  (a12:PySem.W.nsIn K mainGlobals "is_row" = some (some (.ref f12))) (l12:K.lookup f12=some ⟨oc12,od12,.func (PySem.W.fnOf "is_row" "is_row" (aQ fx) (aF fx) (ag fx) .none kV12 dc12 pm12 an12 cd12 ct12),sl12⟩) (c12:PySem.W.codeIn K cd12 "is_row" = true) (k12:PySem.W.keepIn K (.ref f12)=true)
  (a13:PySem.W.nsIn K mainGlobals "are_kinds" = some (some (.ref f13))) (l13:K.lookup f13=some ⟨oc13,od13,.func (PySem.W.fnOf "are_kinds" "are_kinds" (aQ cj) (aF cj) (ag cj) .none kV13 dc13 pm13 an13 cd13 ct13),sl13⟩) (c13:PySem.W.codeIn K cd13 "are_kinds" = true) (k13:PySem.W.keepIn K (.ref f13)=true)
  (a14:PySem.W.nsIn K mainGlobals "_law_pen" = some (some (.ref f14))) (l14:K.lookup f14=some ⟨oc14,od14,.func (PySem.W.fnOf "_law_pen" "_law_pen" (aQ cU) (aF cU) (ag cU) .none kV14 dc14 pm14 an14 cd14 ct14),sl14⟩) (c14:PySem.W.codeIn K cd14 "_law_pen" = true) (k14:PySem.W.keepIn K (.ref f14)=true)
  (a15:PySem.W.nsIn K mainGlobals "_law_next" = some (some (.ref f15))) (l15:K.lookup f15=some ⟨oc15,od15,.func (PySem.W.fnOf "_law_next" "_law_next" (aQ ck) (aF ck) (ag ck) .none kV15 dc15 pm15 an15 cd15 ct15),sl15⟩) (c15:PySem.W.codeIn K cd15 "_law_next" = true) (k15:PySem.W.keepIn K (.ref f15)=true)
  (a16:PySem.W.nsIn K mainGlobals "_law_rows" = some (some (.ref f16))) (l16:K.lookup f16=some ⟨oc16,od16,.func (PySem.W.fnOf "_law_rows" "_law_rows" (aQ cp) (aF cp) (ag cp) .none kV16 dc16 pm16 an16 cd16 ct16),sl16⟩) (c16:PySem.W.codeIn K cd16 "_law_rows" = true) (k16:PySem.W.keepIn K (.ref f16)=true)
  (a17:PySem.W.nsIn K mainGlobals "_law_due" = some (some (.ref f17))) (l17:K.lookup f17=some ⟨oc17,od17,.func (PySem.W.fnOf "_law_due" "_law_due" (aQ cV) (aF cV) (ag cV) .none kV17 dc17 pm17 an17 cd17 ct17),sl17⟩) (c17:PySem.W.codeIn K cd17 "_law_due" = true) (k17:PySem.W.keepIn K (.ref f17)=true)
  (a18:PySem.W.nsIn K mainGlobals "_law_refused" = some (some (.ref f18))) (l18:K.lookup f18=some ⟨oc18,od18,.func (PySem.W.fnOf "_law_refused" "_law_refused" (aQ aZ) (aF aZ) (ag aZ) .none kV18 dc18 pm18 an18 cd18 ct18),sl18⟩) (c18:PySem.W.codeIn K cd18 "_law_refused" = true) (k18:PySem.W.keepIn K (.ref f18)=true)
  (a19:PySem.W.nsIn K mainGlobals "_law_unlike" = some (some (.ref f19))) (l19:K.lookup f19=some ⟨oc19,od19,.func (PySem.W.fnOf "_law_unlike" "_law_unlike" (aQ bD) (aF bD) (ag bD) .none kV19 dc19 pm19 an19 cd19 ct19),sl19⟩) (c19:PySem.W.codeIn K cd19 "_law_unlike" = true) (k19:PySem.W.keepIn K (.ref f19)=true)
  (a20:PySem.W.nsIn K mainGlobals "law" = some (some (.ref f20))) (l20:K.lookup f20=some ⟨oc20,od20,.func (PySem.W.fnOf "law" "law" (aQ mG) (aF mG) (ag mG) .none kV20 dc20 pm20 an20 cd20 ct20),sl20⟩) (c20:PySem.W.codeIn K cd20 "law" = true) (k20:PySem.W.keepIn K (.ref f20)=true)
  (z0:PySem.W.nsIn K mainGlobals "ValueError" = some none) (z1:PySem.W.nsIn K mainGlobals "sum" = some none) (z2:PySem.W.nsIn K mainGlobals "tuple" = some none) (z3:PySem.W.nsIn K mainGlobals "any" = some none) (z4:PySem.W.nsIn K mainGlobals "all" = some none) (z5:PySem.W.nsIn K mainGlobals "range" = some none) (z6:PySem.W.nsIn K mainGlobals "isinstance" = some none) (z7:PySem.W.nsIn K mainGlobals "int" = some none) (z8:PySem.W.nsIn K mainGlobals "bool" = some none) (z9:PySem.W.nsIn K mainGlobals "len" = some none) (z10:PySem.W.nsIn K mainGlobals "sorted" = some none) (z11:PySem.W.nsIn K mainGlobals "list" = some none) (z12:PySem.W.nsIn K mainGlobals "zip" = some none)
  {eK ax dj eM eE eN de gg dc df eJ bP cw cu:Addr}
  {bB bN bY cG bW bZ:Tok}
  (dL:PySem.W.nsIn K mainGlobals "LEAST_HOUSES" = some (some (.int 2 bB)))
  (eL:PySem.W.nsIn K mainGlobals "MOST_HOUSES" = some (some (.int 6 bN)))
  (fg:PySem.W.nsIn K mainGlobals "MOST_MARKS" = some (some (.int 5 bY)))
  (gq:PySem.W.nsIn K mainGlobals "MOST_ROWS" = some (some (.int 60 cG)))
  (eZ:PySem.W.nsIn K mainGlobals "MOST_KINDS" = some (some (.int 6 bW)))
  (eX:PySem.W.nsIn K mainGlobals "MOST_TRIED" = some (some (.int 1000000000000 bZ)))
  (mP:PySem.W.nsIn K mainGlobals "NoBack" = some (some (.ref eK)))
  (mS:PySem.W.nsIn K mainGlobals "NoBook" = some (some (.ref ax)))
  (kJ:PySem.W.nsIn K mainGlobals "NoHouse" = some (some (.ref dj)))
  (mO:PySem.W.nsIn K mainGlobals "NoLead" = some (some (.ref eM)))
  (mR:PySem.W.nsIn K mainGlobals "NoMark" = some (some (.ref eE)))
  (mQ:PySem.W.nsIn K mainGlobals "NoName" = some (some (.ref eN)))
  (kq:PySem.W.nsIn K mainGlobals "NoRatio" = some (some (.ref de)))
  (qg:PySem.W.nsIn K mainGlobals "NoRow" = some (some (.ref gg)))
  (kx:PySem.W.nsIn K mainGlobals "NoShare" = some (some (.ref dc)))
  (kt:PySem.W.nsIn K mainGlobals "NoTable" = some (some (.ref df)))
  (mU:PySem.W.nsIn K mainGlobals "NoText" = some (some (.ref eJ)))
  (gw:PySem.W.nsIn K mainGlobals "NoWeights" = some (some (.ref bP)))
  (iL:PySem.W.nsIn K mainGlobals "SumError" = some (some (.ref cw)))
  (iE:PySem.W.nsIn K mainGlobals "TooGreat" = some (some (.ref cu)))
  (mT:PySem.W.excIn K ax [.type "ValueError",.type "Exception",.type "BaseException",.type "object"] "ValueError.__new__" = true)
  (kH:PySem.W.findIn K (.ref ax) "__getattribute__" = some (some (.builtin "BaseException.__getattribute__")))
  (kD:PySem.W.findIn K (.ref ax) "__getattr__" = some none)
  (kE:PySem.W.subIn K (.ref ax) (.type "BaseException")=some true)
  (kF:PySem.W.findIn K (.ref ax) "__class__" = some (some (.builtin "object.__class__")))
  (ky:PySem.W.specialIn K (.builtin "object.__class__") "__get__" = some (some (.builtin "getset_descriptor.__get__")))
  (kA:PySem.W.takesIn K (.builtin "object.__class__")=some true)
  (kr:PySem.W.mroIn K ax (.type "object")=some true)
  (kG:(PySem.W.clsIn K ax).isSome=true)
  (k_ex:PySem.W.exmOne K (.ref ax) (.ref cw)=some true)
  (k_i:PySem.W.kitOne K (.ref ax) (.ref ax)=some true)
  (k_v:PySem.W.kitOne K (.ref ax) (.type "ValueError")=some true)
  (k_a1:PySem.W.kitAny K (.ref ax) [.ref eK,.ref dj,.ref eM,.ref eE,.ref eN,.ref de]=some false)
  (k_a2:PySem.W.kitAny K (.ref ax) [.ref gg,.ref dc,.ref df,.ref eJ,.ref bP,.ref cu]=some false)
  :
  ∃ fd:FuncData,(∀ (s:Shared) (v:Value),BindsTo s fd ⟨[v],[]⟩ [("_law_script",v)]) /\ ∀ base:Heap,K.In base->base.Ns mainGlobals mg->FnOk l.prog w K mg base CX0 9 fa fd ["_law_script"] (DL.spLaw K):=by
 have e:=hfa.symm.trans (PySem.W.mg_of X G a20)
 cases e
 have F0:=bI (st:=cO) l0 c0 k0
 have F1:=bI (st:=cg) l1 c1 k1
 have F2:=bI (st:=cP) l2 c2 k2
 have F3:=bI (st:=cQ) l3 c3 k3
 have F4:=bI (st:=aM) l4 c4 k4
 have F5:=bI (st:=dU) l5 c5 k5
 have F6:=bI (st:=ft) l6 c6 k6
 have F7:=bI (st:=cR) l7 c7 k7
 have F8:=bI (st:=cS) l8 c8 k8
 have F9:=bI (st:=bf) l9 c9 k9
 have F10:=bI (st:=ci) l10 c10 k10
 have F11:=bI (st:=cT) l11 c11 k11
 have F12:=bI (st:=fx) l12 c12 k12
 have F13:=bI (st:=cj) l13 c13 k13
 have F14:=bI (st:=cU) l14 c14 k14
 have F15:=bI (st:=ck) l15 c15 k15
 have F16:=bI (st:=cp) l16 c16 k16
 have F17:=bI (st:=cV) l17 c17 k17
 have F18:=bI (st:=aZ) l18 c18 k18
 have F19:=bI (st:=bD) l19 c19 k19
 have F20:=bI (st:=mG) l20 c20 k20
 let T:Tx K mg:={ iH:=f0,gi:=_,bj:=⟨F0,PySem.W.mg_of X G a0,F0.binds (ps:=["thing"]) (fun _ _ _ _ _ _ us hl=>match us,hl with | [_],_=>rfl)⟩,gc:=f1,fe:=_,aH:=⟨F1,PySem.W.mg_of X G a1,F1.binds (ps:=["thing","least","most"]) (fun _ _ _ _ _ _ us hl=>match us,hl with | [_,_,_],_=>rfl)⟩,iI:=f2,gs:=_,dX:=⟨F2,PySem.W.mg_of X G a2,F2.binds (ps:=["thing"]) (fun _ _ _ _ _ _ us hl=>match us,hl with | [_],_=>rfl)⟩,iC:=f3,gr:=_,dY:=⟨F3,PySem.W.mg_of X G a3,F3.binds (ps:=["counts"]) (fun _ _ _ _ _ _ us hl=>match us,hl with | [_],_=>rfl)⟩,bQ:=f4,bH:=_,aU:=⟨F4,PySem.W.mg_of X G a4,F4.binds (ps:=["many","rows"]) (fun _ _ _ _ _ _ us hl=>match us,hl with | [_,_],_=>rfl)⟩,kw:=f5,iM:=_,ay:=⟨F5,PySem.W.mg_of X G a5,F5.binds (ps:=["many","marks","rows"]) (fun _ _ _ _ _ _ us hl=>match us,hl with | [_,_,_],_=>rfl)⟩,jz:=f6,hU:=_,az:=⟨F6,PySem.W.mg_of X G a6,F6.binds (ps:=["one","other"]) (fun _ _ _ _ _ _ us hl=>match us,hl with | [_,_],_=>rfl)⟩,fy:=f7,eF:=_,bT:=⟨F7,PySem.W.mg_of X G a7,F7.binds (ps:=["many","pairs"]) (fun _ _ _ _ _ _ us hl=>match us,hl with | [_,_],_=>rfl)⟩,iF:=f8,gz:=_,dZ:=⟨F8,PySem.W.mg_of X G a8,F8.binds (ps:=["counts"]) (fun _ _ _ _ _ _ us hl=>match us,hl with | [_],_=>rfl)⟩,dg:=f9,cI:=_,bA:=⟨F9,PySem.W.mg_of X G a9,F9.binds (ps:=["row","many"]) (fun _ _ _ _ _ _ us hl=>match us,hl with | [_,_],_=>rfl)⟩,gk:=f10,eY:=_,dl:=⟨F10,PySem.W.mg_of X G a10,F10.binds (ps:=["marks"]) (fun _ _ _ _ _ _ us hl=>match us,hl with | [_],_=>rfl)⟩,iK:=f11,gA:=_,ee:=⟨F11,PySem.W.mg_of X G a11,F11.binds (ps:=["rows","many","marks"]) (fun _ _ _ _ _ _ us hl=>match us,hl with | [_,_,_],_=>rfl)⟩,mL:=f12,kC:=_,hG:=⟨F12,PySem.W.mg_of X G a12,F12.binds (ps:=["row","many","marks"]) (fun _ _ _ _ _ _ us hl=>match us,hl with | [_,_,_],_=>rfl)⟩,gv:=f13,fh:=_,dh:=⟨F13,PySem.W.mg_of X G a13,F13.binds (ps:=["kinds","marks"]) (fun _ _ _ _ _ _ us hl=>match us,hl with | [_,_],_=>rfl)⟩,iJ:=f14,gj:=_,ed:=⟨F14,PySem.W.mg_of X G a14,F14.binds (ps:=["_law_script"]) (fun _ _ _ _ _ _ us hl=>match us,hl with | [_],_=>rfl)⟩,eG:=f15,dF:=_,af:=⟨F15,PySem.W.mg_of X G a15,F15.binds (ps:=["_law_pen_here","_law_many"]) (fun _ _ _ _ _ _ us hl=>match us,hl with | [_,_],_=>rfl)⟩,gf:=f16,ff:=_,aV:=⟨F16,PySem.W.mg_of X G a16,F16.binds (ps:=["_law_pen_here","_law_many","_law_marks","_law_elder","_law_full"]) (fun _ _ _ _ _ _ us hl=>match us,hl with | [_,_,_,_,_],_=>rfl)⟩,iD:=f17,gh:=_,bh:=⟨F17,PySem.W.mg_of X G a17,F17.binds (ps:=["_law_many","_law_marks","_law_rows_here"]) (fun _ _ _ _ _ _ us hl=>match us,hl with | [_,_,_],_=>rfl)⟩,cy:=f18,dm:=_,bM:=⟨F18,PySem.W.mg_of X G a18,F18.binds (ps:=["_law_one","_law_other"]) (fun _ _ _ _ _ _ us hl=>match us,hl with | [_,_],_=>rfl)⟩,eI:=f19,dM:=_,bX:=⟨F19,PySem.W.mg_of X G a19,F19.binds (ps:=["_law_pen_here","_law_many","_law_marks","_law_rows_here"]) (fun _ _ _ _ _ _ us hl=>match us,hl with | [_,_,_,_],_=>rfl)⟩,yV:=fa,vh:=_,Bs:=⟨F20,PySem.W.mg_of X G a20,F20.binds (ps:=["_law_script"]) (fun _ _ _ _ _ _ us hl=>match us,hl with | [_],_=>rfl)⟩,iZ:=PySem.W.mg_none_of X G z0,yW:=PySem.W.mg_none_of X G z1,bG:=PySem.W.mg_none_of X G z2,Bt:=PySem.W.mg_none_of X G z3,wx:=PySem.W.mg_none_of X G z4,iG:=PySem.W.mg_none_of X G z5,aI:=PySem.W.mg_none_of X G z6,Bq:=PySem.W.mg_none_of X G z7,xo:=PySem.W.mg_none_of X G z8,gU:=PySem.W.mg_none_of X G z9,mM:=PySem.W.mg_none_of X G z10,vi:=PySem.W.mg_none_of X G z11,Bp:=PySem.W.mg_none_of X G z12,eK:=eK,oG:=PySem.W.mg_of X G mP,ax:=ax,kB:=PySem.W.mg_of X G mS,dj:=dj,lH:=PySem.W.mg_of X G kJ,eM:=eM,oD:=PySem.W.mg_of X G mO,eE:=eE,oB:=PySem.W.mg_of X G mR,eN:=eN,oF:=PySem.W.mg_of X G mQ,de:=de,lI:=PySem.W.mg_of X G kq,gg:=gg,rF:=PySem.W.mg_of X G qg,dc:=dc,lG:=PySem.W.mg_of X G kx,df:=df,lF:=PySem.W.mg_of X G kt,eJ:=eJ,oE:=PySem.W.mg_of X G mU,bP:=bP,iY:=PySem.W.mg_of X G gw,cw:=cw,ku:=PySem.W.mg_of X G iL,cu:=cu,kK:=PySem.W.mg_of X G iE,bB:=bB,fc:=PySem.W.mg_of X G dL,bN:=bN,fM:=PySem.W.mg_of X G eL,bY:=bY,gX:=PySem.W.mg_of X G fg,cG:=cG,jb:=PySem.W.mg_of X G gq,bW:=bW,gY:=PySem.W.mg_of X G eZ,bZ:=bZ,gZ:=PySem.W.mg_of X G eX,oH:=⟨mT⟩,oC:=⟨kH,kD,kE,kF,ky,kA,kr,kG⟩,k_ex:=k_ex,k_i:=k_i,k_v:=k_v,k_a1:=k_a1,k_a2:=k_a2 }
 exact ⟨PySem.W.fnOf "law" "law" (aQ mG) (aF mG) (ag mG) .none kV20 dc20 pm20 an20 cd20 ct20,fun s v=>.of_eq rfl,fun base _ _=>Cz T⟩
end My
theorem PySem.W.Fast.tw7861127914334366967 : True := trivial
theorem PySem.W.Fast.tw9835738247713831004 : True := trivial
theorem PySem.W.Fast.tw11439773573017309464 : True := trivial
theorem PySem.W.Fast.tw14416652567086099605 : True := trivial
theorem PySem.W.Fast.tw11294279433923872257 : True := trivial
theorem PySem.W.Fast.tw11130598578239289150 : True := trivial
theorem PySem.W.Fast.tw2504671017677786746 : True := trivial
theorem PySem.W.Fast.tw13991203148517070557 : True := trivial
theorem PySem.W.Fast.tw12983516265870861735 : True := trivial
theorem PySem.W.Fast.tw14813272408076816865 : True := trivial
theorem PySem.W.Fast.tw1000636564575758406 : True := trivial
theorem PySem.W.Fast.tw3413570375691562026 : True := trivial
theorem PySem.W.Fast.tw13894340423413298298 : True := trivial
theorem PySem.W.Fast.tw10200753443637288006 : True := trivial
theorem PySem.W.Fast.tw6003961881323863006 : True := trivial
theorem PySem.W.Fast.tw1284520243153167440 : True := trivial
theorem PySem.W.Fast.tw18270776354407988568 : True := trivial
theorem PySem.W.Fast.tw8183986202548493044 : True := trivial
theorem PySem.W.Fast.tw6077058115805164903 : True := trivial
theorem PySem.W.Fast.tw15321085313813771645 : True := trivial
theorem PySem.W.Fast.tw17719775678704297988 : True := trivial
theorem PySem.W.Fast.tw12594457630021246232 : True := trivial
theorem PySem.W.Fast.tw18119080968111500661 : True := trivial
theorem PySem.W.Fast.tw16667173063493134326 : True := trivial
theorem PySem.W.Fast.tw6767057801604923096 : True := trivial
theorem PySem.W.Fast.tw3722903500702653156 : True := trivial
theorem PySem.W.Fast.tw10767872577111602845 : True := trivial
theorem PySem.W.Fast.tw2008258954952404315 : True := trivial
theorem PySem.W.Fast.tw8305695870522528116 : True := trivial
theorem PySem.W.Fast.tw15792319219421645698 : True := trivial
theorem PySem.W.Fast.tw16244446642512845207 : True := trivial
theorem PySem.W.Fast.tw16909676461262358778 : True := trivial
theorem PySem.W.Fast.tw16363201097664512671 : True := trivial
theorem PySem.W.Fast.tw17691239252970926227 : True := trivial
theorem PySem.W.Fast.tw16406423225622010162 : True := trivial
theorem PySem.W.Fast.tw2297048599302939630 : True := trivial
theorem PySem.W.Fast.tw4169884261944639131 : True := trivial
theorem PySem.W.Fast.tw6765839558516582596 : True := trivial
theorem PySem.W.Fast.tw4113225246184554252 : True := trivial
theorem PySem.W.Fast.tw16843231196537645874 : True := trivial
theorem PySem.W.Fast.tw209509282230942238 : True := trivial
theorem PySem.W.Fast.tw12620454040355031025 : True := trivial
theorem PySem.W.Fast.tw15394480465289473178 : True := trivial
theorem PySem.W.Fast.tw15398447540427117279 : True := trivial
theorem PySem.W.Fast.tw13373335431141371224 : True := trivial
theorem PySem.W.Fast.tw3941277811090692944 : True := trivial
theorem PySem.W.Fast.tw18141051029876090840 : True := trivial
theorem PySem.W.Fast.tw16812883368400060250 : True := trivial
theorem PySem.W.Fast.tw10940170566249249623 : True := trivial
theorem PySem.W.Fast.tw16670985825325104733 : True := trivial
theorem PySem.W.Fast.tw10650012175395582905 : True := trivial
theorem PySem.W.Fast.tw16303136061745529204 : True := trivial
theorem PySem.W.Fast.tw18015041938863618488 : True := trivial
theorem PySem.W.Fast.tw11270300586203848052 : True := trivial
theorem PySem.W.Fast.tw16515766337929475836 : True := trivial
theorem PySem.W.Fast.tw4514599611393901502 : True := trivial
theorem PySem.W.Fast.tw15900670112027023281 : True := trivial
theorem PySem.W.Fast.tw15276558642972754711 : True := trivial
theorem PySem.W.Fast.tw11533574981230346716 : True := trivial
theorem PySem.W.Fast.tw13611348815056052390 : True := trivial
theorem PySem.W.Fast.tw900724232982595897 : True := trivial
theorem PySem.W.Fast.tw3438661339605054779 : True := trivial
theorem PySem.W.Fast.tw11537278788587787966 : True := trivial
theorem PySem.W.Fast.tw16521941415532072221 : True := trivial
theorem PySem.W.Fast.tw10479356833559647582 : True := trivial
theorem PySem.W.Fast.tw4471742737345022744 : True := trivial
theorem PySem.W.Fast.tw590103599826166710 : True := trivial
theorem PySem.W.Fast.tw6899550749831271115 : True := trivial
theorem PySem.W.Fast.tw13336726206030786567 : True := trivial
theorem PySem.W.Fast.tw8429126551759527976 : True := trivial
theorem PySem.W.Fast.tw76240050484909299 : True := trivial
theorem PySem.W.Fast.tw17770842450121365137 : True := trivial
theorem PySem.W.Fast.tw1763769209766560968 : True := trivial
theorem PySem.W.Fast.tw17137214501242937900 : True := trivial
theorem PySem.W.Fast.tw12935377847039268915 : True := trivial
theorem PySem.W.Fast.tw7481806604399040055 : True := trivial
theorem PySem.W.Fast.tw16116462475039933351 : True := trivial
theorem PySem.W.Fast.tw13168964563366973933:True:=trivial
theorem PySem.W.Fast.tw7411542656344892379:True:=trivial
theorem PySem.W.Fast.tw5185176394278532311:True:=trivial
theorem PySem.W.Fast.tw10124327344455440599:True:=trivial
theorem PySem.W.Fast.tw4772448403119134198:True:=trivial
theorem PySem.W.Fast.tw9043023555654487018:True:=trivial
theorem PySem.W.Fast.tw4513697852500279172:True:=trivial
theorem PySem.W.Fast.tw1165669833746272717:True:=trivial
theorem PySem.W.Fast.tw12114512214734770113:True:=trivial
theorem PySem.W.Fast.tw3015490317031635803:True:=trivial
theorem PySem.W.Fast.tw5128521166368631091:True:=trivial
theorem PySem.W.Fast.tw15318110344807477783:True:=trivial
theorem PySem.W.Fast.tw7898337363683617557:True:=trivial
theorem PySem.W.Fast.tw15732154278591561519:True:=trivial
theorem PySem.W.Fast.tw13281214109600335829:True:=trivial
theorem PySem.W.Fast.tw739811041683580226:True:=trivial
theorem PySem.W.Fast.tw8326834454763003270:True:=trivial
theorem PySem.W.Fast.tw12584378347339968573:True:=trivial
theorem PySem.W.Fast.tw3591361493033809423:True:=trivial
theorem PySem.W.Fast.tw6513853900616068099:True:=trivial
theorem PySem.W.Fast.tw2517347229435144440:True:=trivial
open PySem PySem.W PyProof.Rows
set_option maxRecDepth 100000 in
set_option maxHeartbeats 0 in
theorem PySem.Challenge.cw_othersum_k08_books_put_together_holds : PySem.Challenge.rw_othersum_k08_books_put_together.Holds := by
  w_on; o_law; k_head; (case hw => w_witness2)
  k_fill
  refine L2.walk_ofK (l := PySem.Challenge.rw_othersum_k08_books_put_together) (n := 63) (k := 9) (x := "_law_script") (CX := L2.CX0) (sp := DL.spLaw) rfl (by decide) rfl ⟨rfl, by decide, by decide⟩ (fun w h Y => PySem.W.kIn_of Y) ?F DL.law_sp (fun _ _ _ _ z => z)
  case F =>
    intro w mg fa h KX G hmg
    refine' My.all_mk KX G hmg ?a0 ?l0 ?c0 ?k0 ?a1 ?l1 ?c1 ?k1 ?a2 ?l2 ?c2 ?k2 ?a3 ?l3 ?c3 ?k3 ?a4 ?l4 ?c4 ?k4 ?a5 ?l5 ?c5 ?k5 ?a6 ?l6 ?c6 ?k6 ?a7 ?l7 ?c7 ?k7 ?a8 ?l8 ?c8 ?k8 ?a9 ?l9 ?c9 ?k9 ?a10 ?l10 ?c10 ?k10 ?a11 ?l11 ?c11 ?k11 ?a12 ?l12 ?c12 ?k12 ?a13 ?l13 ?c13 ?k13 ?a14 ?l14 ?c14 ?k14 ?a15 ?l15 ?c15 ?k15 ?a16 ?l16 ?c16 ?k16 ?a17 ?l17 ?c17 ?k17 ?a18 ?l18 ?c18 ?k18 ?a19 ?l19 ?c19 ?k19 ?a20 ?l20 ?c20 ?k20 ?z0 ?z1 ?z2 ?z3 ?z4 ?z5 ?z6 ?z7 ?z8 ?z9 ?z10 ?z11 ?z12 ?dL ?eL ?fg ?gq ?eZ ?eX ?mP ?mS ?kJ ?mO ?mR ?mQ ?kq ?qg ?kx ?kt ?mU ?gw ?iL ?iE ?mT ?kH ?kD ?kE ?kF ?ky ?kA ?kr ?kG ?k_ex ?k_i ?k_v ?k_a1 ?k_a2
    (case a0 => k_is)
    (case l0 => k_is)
    (case c0 => k_is)
    (case k0 => k_is)
    (case a1 => k_is)
    (case l1 => k_is)
    (case c1 => k_is)
    (case k1 => k_is)
    (case a2 => k_is)
    (case l2 => k_is)
    (case c2 => k_is)
    (case k2 => k_is)
    (case a3 => k_is)
    (case l3 => k_is)
    (case c3 => k_is)
    (case k3 => k_is)
    (case a4 => k_is)
    (case l4 => k_is)
    (case c4 => k_is)
    (case k4 => k_is)
    (case a5 => k_is)
    (case l5 => k_is)
    (case c5 => k_is)
    (case k5 => k_is)
    (case a6 => k_is)
    (case l6 => k_is)
    (case c6 => k_is)
    (case k6 => k_is)
    (case a7 => k_is)
    (case l7 => k_is)
    (case c7 => k_is)
    (case k7 => k_is)
    (case a8 => k_is)
    (case l8 => k_is)
    (case c8 => k_is)
    (case k8 => k_is)
    (case a9 => k_is)
    (case l9 => k_is)
    (case c9 => k_is)
    (case k9 => k_is)
    (case a10 => k_is)
    (case l10 => k_is)
    (case c10 => k_is)
    (case k10 => k_is)
    (case a11 => k_is)
    (case l11 => k_is)
    (case c11 => k_is)
    (case k11 => k_is)
    (case a12 => k_is)
    (case l12 => k_is)
    (case c12 => k_is)
    (case k12 => k_is)
    (case a13 => k_is)
    (case l13 => k_is)
    (case c13 => k_is)
    (case k13 => k_is)
    (case a14 => k_is)
    (case l14 => k_is)
    (case c14 => k_is)
    (case k14 => k_is)
    (case a15 => k_is)
    (case l15 => k_is)
    (case c15 => k_is)
    (case k15 => k_is)
    (case a16 => k_is)
    (case l16 => k_is)
    (case c16 => k_is)
    (case k16 => k_is)
    (case a17 => k_is)
    (case l17 => k_is)
    (case c17 => k_is)
    (case k17 => k_is)
    (case a18 => k_is)
    (case l18 => k_is)
    (case c18 => k_is)
    (case k18 => k_is)
    (case a19 => k_is)
    (case l19 => k_is)
    (case c19 => k_is)
    (case k19 => k_is)
    (case a20 => k_is)
    (case l20 => k_is)
    (case c20 => k_is)
    (case k20 => k_is)
    (case z0 => k_is)
    (case z1 => k_is)
    (case z2 => k_is)
    (case z3 => k_is)
    (case z4 => k_is)
    (case z5 => k_is)
    (case z6 => k_is)
    (case z7 => k_is)
    (case z8 => k_is)
    (case z9 => k_is)
    (case z10 => k_is)
    (case z11 => k_is)
    (case z12 => k_is)
    (case dL => k_is)
    (case eL => k_is)
    (case fg => k_is)
    (case gq => k_is)
    (case eZ => k_is)
    (case eX => k_is)
    (case mP => k_is)
    (case mS => k_is)
    (case kJ => k_is)
    (case mO => k_is)
    (case mR => k_is)
    (case mQ => k_is)
    (case kq => k_is)
    (case qg => k_is)
    (case kx => k_is)
    (case kt => k_is)
    (case mU => k_is)
    (case gw => k_is)
    (case iL => k_is)
    (case iE => k_is)
    (case mT => k_exc)
    (case kH => k_is)
    (case kD => k_is)
    (case kE => k_is)
    (case kF => k_is)
    (case ky => k_is)
    (case kA => k_is)
    (case kr => k_is)
    (case kG => kernel_rfl)
    (case k_ex => first | kit_is | kernel_rfl)
    (case k_i => first | kit_is | kernel_rfl)
    (case k_v => first | kit_is | kernel_rfl)
    (case k_a1 => first | kit_is | kernel_rfl)
    (case k_a2 => first | kit_is | kernel_rfl)
#print axioms PySem.Challenge.cw_othersum_k08_books_put_together_holds
