import PyProof.Rows.All
import Wide.All
import OpenK.AllK
import Wide.FinOn
import Lean
import PyProof.EqAt
import PyProof.EqKinds
import PyProof.TupleCall
import PySem.Challenge.RW_othersum_k51_books_written_and_read
noncomputable section
set_option Elab.async false
set_option linter.all false
set_option maxRecDepth 100000
namespace L2
open PySem PySem.Spec PyProof.Rows
abbrev Key:=Sum Int Str
def rp:Key->Value->Bool
 | .inl k,v=>Value.isInt k v
 | .inr x,v=>Value.isStrOf x v
def keyH (w:World):Key->Int
 | .inl k=>hashInt k
 | .inr x=>hashStr w x
theorem aZ:∀ {k:Key} {v:Value},rp k v=true->(∃ i t,k=Sum.inl i /\ v=Value.int i t)∨(∃ x t,k=Sum.inr x /\ v=Value.str x t)
 | .inl i,v,h=>by
  obtain ⟨t,e⟩:=Value.isInt_shape (k:=i) (v:=v) h
  exact .inl ⟨i,t,rfl,e⟩
 | .inr x,v,h=>by
  obtain ⟨t,e⟩:=Value.isStrOf_shape (x:=x) (v:=v) h
  exact .inr ⟨x,t,rfl,e⟩
theorem sy (i:Int) (t:Tok):rp (.inl i) (.int i t)=true:=by simp [rp,Value.isInt]
theorem sA (x:Str) (t:Tok):rp (.inr x) (.str x t)=true:=by simp [rp,Value.isStrOf]
theorem zm (a b:Int):decide ((Sum.inl a:Key)=Sum.inl b)=(a == b):=by
 by_cases e:a=b
 ·subst e; simp
 ·have h:¬ (Sum.inl a:Key)=Sum.inl b:=fun q=>e (Sum.inl.inj q)
  rw [decide_eq_false h]
  exact (beq_eq_false_iff_ne.mpr e).symm
theorem zn (a b:Str):decide ((Sum.inr a:Key)=Sum.inr b)=decide (a=b):=by
 by_cases e:a=b
 ·subst e; simp
 ·have h:¬ (Sum.inr a:Key)=Sum.inr b:=fun q=>e (Sum.inr.inj q)
  rw [decide_eq_false h,decide_eq_false e]
theorem zo (a:Int) (b:Str):decide ((Sum.inl a:Key)=Sum.inr b)=false:=decide_eq_false (fun q=>nomatch q)
theorem zp (a:Str) (b:Int):decide ((Sum.inr a:Key)=Sum.inl b)=false:=decide_eq_false (fun q=>nomatch q)
def bA (prog:Program) (w:World):PySem.KeyKind prog w Key where
 is:=rp
 hash:=keyH w
 inj:=fun v a b ha hb=>by
  rcases aZ ha with ⟨i,t,rfl,rfl⟩ | ⟨x,t,rfl,rfl⟩
  ·rcases aZ hb with ⟨j,u,rfl,e⟩ | ⟨y,u,rfl,e⟩
   ·injection e with e1 _; rw [e1]
   ·exact nomatch e
  ·rcases aZ hb with ⟨j,u,rfl,e⟩ | ⟨y,u,rfl,e⟩
   ·exact nomatch e
   ·injection e with e1 _; rw [e1]
 byValue:=fun k v h=>by
  rcases aZ h with ⟨i,t,rfl,rfl⟩ | ⟨x,t,rfl,rfl⟩ <;> rfl
 pyHash:=fun hv h=>by
  rcases aZ hv with ⟨i,t,rfl,rfl⟩ | ⟨x,t,rfl,rfl⟩
  ·exact wpAny_pyHash_int h
  ·exact wpAny_pyHash_str h
 eqBool:=fun hu hv h=>by
  rcases aZ hu with ⟨i,t,rfl,rfl⟩ | ⟨x,t,rfl,rfl⟩
  ·rcases aZ hv with ⟨j,u,rfl,rfl⟩ | ⟨y,u,rfl,rfl⟩
   ·rw [zm] at h; exact wpAny_eqBool_int h
   ·rw [zo] at h; exact SeqAt.EqAt.int_str i t y u _ _ _ _ h
  ·rcases aZ hv with ⟨j,u,rfl,rfl⟩ | ⟨y,u,rfl,rfl⟩
   ·rw [zp] at h; exact SeqAt.EqAt.str_int x t j u _ _ _ _ h
   ·rw [zn] at h; exact wpAny_eqBool_str h
 «strs»:=fun k x t v h=>by
  rcases aZ h with ⟨i,u,rfl,e⟩ | ⟨y,u,rfl,e⟩
  ·exact nomatch e
  ·injection e with e1 _
   subst e1
   cases v <;> rfl
theorem jd (prog:Program) (w:World) (i:Int) (t:Tok):(bA prog w).is (.inl i) (.int i t)=true:=sy i t
theorem oJ (prog:Program) (w:World) (x:Str) (t:Tok):(bA prog w).is (.inr x) (.str x t)=true:=sA x t
end L2
namespace L2
open PySem PySem.Spec PyProof.Rows
inductive V where
 | non | bl (b:Bool) | int (i:Int) | str (x:Str) | byt (b:Array UInt8) | flt (b:UInt64) | ref (a:Addr) | ty (n:String)
 deriving DecidableEq
def RelV:V->Value->Prop
 | .non,u=>u=Value.none
 | .bl b,u=>u=Value.bool b
 | .int i,u=>∃ t,u=Value.int i t
 | .str x,u=>∃ t,u=Value.str x t
 | .byt b,u=>∃ t,u=Value.bytes b t
 | .flt b,u=>∃ t,u=Value.float b t
 | .ref a,u=>u=Value.ref a
 | .ty n,u=>u=Value.type n
abbrev Vals:List V->List Value->Prop:=Paired RelV
theorem Vals.length {xs:List V} {us:List Value} (r:Vals xs us):xs.length=us.length:=Paired.length r
theorem Vals.get:∀ {xs:List V} {us:List Value} {i:Nat} {x:V},Vals xs us->xs[i]? = some x->∃ u,us[i]? = some u /\ RelV x u
 | _,_,_,_,.nil,e=>by simp at e
 | _,_,0,_,.cons r _,e=>by simp at e; subst e; exact ⟨_,rfl,r⟩
 | _,_,i + 1,x,.cons _ t,e=>by
  obtain ⟨u,h1,h2⟩:=Vals.get (i:=i) (x:=x) t (by simpa using e)
  exact ⟨u,by simpa using h1,h2⟩
theorem Vals.set {x:V} {u:Value} (r:RelV x u):∀ {xs:List V} {us:List Value} (i:Nat),Vals xs us->Vals (xs.set i x) (us.set i u)
 | _,_,_,.nil=>.nil
 | _,_,0,.cons _ t=>.cons r t
 | _,_,i + 1,.cons q t=>.cons q (Vals.set r i t)
theorem Vals.append:∀ {xs ys:List V} {us ws:List Value},Vals xs us->Vals ys ws->Vals (xs++ys) (us++ws)
 | _,_,_,_,.nil,s=>s
 | _,_,_,_,.cons r t,s=>.cons r (Vals.append t s)
theorem Vals.take:∀ {xs:List V} {us:List Value} (n:Nat),Vals xs us->Vals (xs.take n) (us.take n)
 | _,_,0,_=>.nil
 | _,_,_ + 1,.nil=>.nil
 | _,_,n + 1,.cons r t=>.cons r (Vals.take n t)
theorem Vals.drop:∀ {xs:List V} {us:List Value} (n:Nat),Vals xs us->Vals (xs.drop n) (us.drop n)
 | _,_,0,r=>r
 | _,_,_ + 1,.nil=>.nil
 | _,_,n + 1,.cons _ t=>Vals.drop n t
def RelO:Option V->Option Value->Prop
 | some v,some u=>RelV v u
 | none,none=>True
 | _,_=>False
def KV {κ:Type}:List (κ×V)->List (κ×Value)->Prop:=Paired fun (p:κ×V) (q:κ×Value)=>p.1=q.1 /\ RelV p.2 q.2
def kV:Key->V
 | .inl i=>.int i
 | .inr x=>.str x
inductive HO where
  | lst (xs:List V)
  | tup (xs:List V)
  | dK (kvs:List (Key×V)) | dT (kvs:List (List Key×V))
  | set (S:Int->Bool) (n:Nat)
  | ins (C dx:Addr) (fs:List (Str×V))
  | own (x:Addr)
  | xd (fs:List (Str×V))
  | met (f x:Addr)
  | rng (lo hi:Int)
  | frz (o:Obj) (u:HO)
  | tbl (ps:Array Value)
  | ext (φ:Heap->Prop)
abbrev Hp:=Addr->Option HO
def upd (H:Hp) (a:Addr) (o:HO):Hp:=fun b=>if b=a then some o else H b
theorem ai {H:Hp} {a:Addr} {o:HO}:upd H a o a=some o:=by unfold upd; rw [if_pos rfl]
theorem ah {H:Hp} {a b:Addr} {o:HO} (h:b≠a):upd H a o b=H b:=by unfold upd; rw [if_neg h]
theorem ku {H:Hp} {a b:Addr} {o u:HO} (h:H a=some o) (h':H b=some u) (d:o≠u):a≠b:=by
 intro e; subst e; rw [h] at h'; exact d (Option.some.inj h')
theorem bT {H:Hp} {a b:Addr} {o:HO} (h:H a=some o) (h':H b=none):a≠b:=by
 intro e; subst e; rw [h] at h'; cases h'
section
variable (P:Program) (w:World)
def NoDc (h:Heap) (a:Addr):Prop:=∃ o,h.get? a=some o /\ o.dict=none
def NdOr (h:Heap) (a:Addr) (xs:List V):Prop:=NoDc h a∨∃ i x,xs=[V.int i,x]
def ObjOk (H:Hp) (h:Heap) (a:Addr):HO->Prop
 | .lst xs=>xs.length <= sizeLine /\ ∃ (its:List Value) (n:Nat),Vals xs its /\ h.get? a=some { cls:=.type "list",data:=.seq its.toArray n }
 | .tup xs=>(xs.length <= sizeLine /\ NdOr h a xs) /\ ∃ its:List Value,Vals xs its /\ IsTup h a its.toArray
 | .dK kvs=>kvs.length <= sizeLine /\ (a == sysModules)=false /\ ∃ vs,KV kvs vs /\ h.DictOf (bA P w) a vs
 | .dT kvs=>kvs.length <= sizeLine /\ (a == sysModules)=false /\ ∃ xs:List (List Key×Addr×Value),
   Paired (fun (p:List Key×V) (q:List Key×Addr×Value)=>p.1=q.1 /\ H q.2.1=some (.tup (p.1.map kV)) /\ RelV p.2 q.2.2) kvs xs /\
   ∃ o es ep,h.get? a=some o /\ o.ExactDict /\ o.data = .dict es ep /\ es.toList=xs.map (entryOfKey (tupleKind (bA P w))) /\ (xs.map (·.1)).Nodup
 | .set S n=>h.SetOf (intKind P w) a S n
 | .ins C dx fs=>H dx=some (.own a) /\ fs.length <= 1000 /\ dx≠a /\ h.get? a=some (PySem.W.instObj C dx) /\
   ∃ mA,h.Ns1 dx mA /\ (∀ f,RelO (fs.lookup f) (mA f)) /\ PySem.Within mA (fs.map (·.1))
 | .own _=>∃ o,h.get? a=some o
 | .xd fs=>∃ mA,h.Ns1 a mA /\ ∀ f,RelO (fs.lookup f) (mA f)
 | .rng lo hi=>∃ t u v,h.get? a=some { cls:=.type "range",data:=.fields #[.int lo t,.int hi u,.int 1 v] }
 | .frz o u=>h.get? a=some o /\ ObjOk H h a u
 | .tbl ps=>h.get? a=some { cls:=.none,data:=.fields ps }
 | .met f x=>h.get? a=some (PySem.W.methodObj (.ref f) (.ref x))
 | .ext φ=>φ h /\ (∃ o,h.get? a=some o) /\ ∀ h1 h2:Heap,φ h1->(∀ o,h1.get? a=some o->h2.get? a=some o)->φ h2
def HOk (H:Hp) (h:Heap):Prop:=∀ a o,H a=some o->ObjOk P w H h a o
end
section
variable {P:Program} {w:World} {H H':Hp} {h h':Heap} {a:Addr} {o:HO}
theorem ObjOk.lt (x:ObjOk P w H h a o):a < h.objs.size:=by
 cases o with
 | lst xs=>obtain ⟨_,_,_,_,e⟩:=x; exact Heap.lt_size e
 | tup xs=>obtain ⟨_,_,_,p⟩:=x; exact p.lt
 | dK kvs=>obtain ⟨_,_,_,_,o,_,_,e,_⟩:=x; exact Heap.lt_size e
 | dT kvs=>obtain ⟨_,_,_,_,o,_,_,e,_⟩:=x; exact Heap.lt_size e
 | set S n=>obtain ⟨o,_,_,_,e,_⟩:=x; exact Heap.lt_size e
 | ins C dx fs=>obtain ⟨_,_,_,e,_⟩:=x; exact Heap.lt_size e
 | own y=>obtain ⟨_,e⟩:=x; exact Heap.lt_size e
 | xd fs=>obtain ⟨_,⟨_,_,_,e,_⟩,_⟩:=x; exact Heap.lt_size e
 | rng lo hi=>obtain ⟨_,_,_,e⟩:=x; exact Heap.lt_size e
 | frz ob u=>obtain ⟨e,_⟩:=x; exact Heap.lt_size e
 | tbl ps=>exact Heap.lt_size (show h.get? a=some _ from x)
 | met f y=>exact Heap.lt_size (show h.get? a=some _ from x)
 | ext φ=>obtain ⟨_,⟨_,e⟩,_⟩:=x; exact Heap.lt_size e
theorem Paired.mapP {α β:Type} {F G:α->β->Prop}:∀ {l₁:List α} {l₂:List β},Paired F l₁ l₂->(∀ a b,F a b->G a b)->Paired G l₁ l₂
 | _,_,.nil,_=>.nil
 | _,_,.cons r t,f=>.cons (f _ _ r) (Paired.mapP t f)
theorem ObjOk.stay (x:ObjOk P w H h a o) (k:∀ b u,(b=a∨H b=some (.own a))->h.get? b=some u->h'.get? b=some u)
  (ho:∀ b,H b=some (.own a)->H' b=some (.own a)) (ht:∀ b xs,H b=some (.tup xs)->H' b=some (.tup xs)):ObjOk P w H' h' a o:=by
 induction o with
 | lst xs=>obtain ⟨z,its,n,r,e⟩:=x; exact ⟨z,its,n,r,k _ _ (.inl rfl) e⟩
 | tup xs=>obtain ⟨⟨z,nz⟩,its,r,ob,e,c⟩:=x; exact ⟨⟨z,nz.imp_left fun ⟨o,e,n⟩=>⟨o,k _ _ (.inl rfl) e,n⟩⟩,its,r,ob,k _ _ (.inl rfl) e,c⟩
 | dK kvs=>obtain ⟨z,y,vs,r,ob,es,ep,e,c⟩:=x; exact ⟨z,y,vs,r,ob,es,ep,k _ _ (.inl rfl) e,c⟩
 | dT kvs =>
  obtain ⟨z,y,xs,r,ob,es,ep,e,c⟩:=x
  exact ⟨z,y,xs,Paired.mapP r fun p q z=>⟨z.1,ht _ _ z.2.1,z.2.2⟩,ob,es,ep,k _ _ (.inl rfl) e,c⟩
 | set S n=>obtain ⟨ob,es,ep,t,e,c⟩:=x; exact ⟨ob,es,ep,t,k _ _ (.inl rfl) e,c⟩
 | ins C dx fs =>
  obtain ⟨d,z,ne,e,mA,⟨od,es,ep,e2,c⟩,r⟩:=x
  exact ⟨ho _ d,z,ne,k _ _ (.inl rfl) e,mA,⟨od,es,ep,k _ _ (.inr d) e2,c⟩,r⟩
 | own y=>obtain ⟨ob,e⟩:=x; exact ⟨ob,k _ _ (.inl rfl) e⟩
 | xd fs=>obtain ⟨mA,⟨od,es,ep,e,c⟩,r⟩:=x; exact ⟨mA,⟨od,es,ep,k _ _ (.inl rfl) e,c⟩,r⟩
 | rng lo hi=>obtain ⟨t,u,v,e⟩:=x; exact ⟨t,u,v,k _ _ (.inl rfl) e⟩
 | frz ob u ih=>obtain ⟨e,q⟩:=x; exact ⟨k _ _ (.inl rfl) e,ih q⟩
 | tbl ps =>
  have e:h.get? a=some { cls:=.none,data:=.fields ps }:=x
  show h'.get? a=some { cls:=.none,data:=.fields ps }
  exact k a _ (.inl rfl) e
 | met f y =>
  have e:h.get? a=some (PySem.W.methodObj (.ref f) (.ref y)):=x
  show h'.get? a=some (PySem.W.methodObj (.ref f) (.ref y))
  exact k a _ (.inl rfl) e
 | ext φ=>obtain ⟨p,⟨o,e⟩,st⟩:=x; exact ⟨st _ _ p fun o q=>k _ _ (.inl rfl) q,⟨o,k _ _ (.inl rfl) e⟩,st⟩
theorem HOk.lt (x:HOk P w H h) (e:H a=some o):a < h.objs.size:=(x a o e).lt
theorem HOk.fresh (x:HOk P w H h) (e:h.objs.size <= a):H a=none:=by
 cases q:H a with
 | none=>rfl
 | some u=>exact absurd (Nat.lt_of_lt_of_le (x.lt q) e) (Nat.lt_irrefl _)
theorem HOk.kept (x:HOk P w H h) (k:∀ b u,h.get? b=some u->h'.get? b=some u):HOk P w H h':=fun a o e =>
 (x a o e).stay (fun b u _ q=>k b u q) (fun _ q=>q) fun _ _ q=>q
theorem HOk.laid (x:HOk P w H h) (k:∀ b u,h.get? b=some u->h'.get? b=some u) (hp:h.objs.size <= a) (new:ObjOk P w (upd H a o) h' a o):HOk P w (upd H a o) h':=fun b u e=>by
 have hn:=x.fresh hp
 by_cases hb:b=a
 ·subst hb; rw [ai] at e; cases e; exact new
 ·rw [ah hb] at e
  exact (x b u e).stay (fun c v _ q=>k c v q) (fun c q=>by rw [ah (bT q hn)]; exact q) fun c xs q=>by rw [ah (bT q hn)]; exact q
end
def Rd (H:Hp) (a:Addr) (u:HO):Prop:=H a=some u∨∃ o,H a=some (.frz o u)
theorem Rd.ok {P:Program} {w:World} {H:Hp} {h:Heap} {a:Addr} {u:HO} (r:Rd H a u) (x:HOk P w H h):ObjOk P w H h a u:=by
 rcases r with r | ⟨o,r⟩
 ·exact x a u r
 ·obtain ⟨_,q⟩:=x a _ r
  exact q
def Mut:Option HO->Prop
 | some (.lst _)=>True
 | some (.dK _)=>True
 | some (.dT _)=>True
 | some (.set _ _)=>True
 | some (.ins _ _ _)=>True
 | some (.ext _)=>True
 | _=>False
section
variable {P:Program} {w:World} {H:Hp} {h h':Heap} {x e:Addr} {o':HO}
theorem HOk.write (ok:HOk P w H h) (mu:Mut (H x)) (he:e=x∨H e=some (.own x)) (k:∀ b u,b≠e->h.get? b=some u->h'.get? b=some u) (heo:∃ u,h'.get? e=some u)
  (new:ObjOk P w (upd H x o') h' x o'):HOk P w (upd H x o') h':=fun b u q=>by
 have nown:∀ c y,H c=some (.own y)->c≠x:=fun c y r z=>by subst z; rw [r] at mu; exact mu
 have ntup:∀ c xs,H c=some (.tup xs)->c≠x:=fun c xs r z=>by subst z; rw [r] at mu; exact mu
 by_cases hb:b=x
 ·subst hb; rw [ai] at q; cases q; exact new
 ·rw [ah hb] at q
  by_cases hbe:b=e
  ·have q':H b=some (.own x):=by
    rcases he with z | z
    ·exact absurd (hbe.trans z) hb
    ·rw [hbe]; exact z
   rw [q] at q'; cases q'
   obtain ⟨v,hv⟩:=heo
   exact ⟨v,by rw [hbe]; exact hv⟩
  ·refine (ok b u q).stay (fun c v hc r=>k c v ?_ r) (fun c r=>by rw [ah (nown c b r)]; exact r) fun c xs r=>by rw [ah (ntup c xs r)]; exact r
   rcases hc with rfl | hc
   ·exact hbe
   ·rintro rfl
    rcases he with z | z
    ·exact nown c b hc z
    ·rw [hc] at z; cases z; exact hb rfl
end
structure Un (fs ex:List Addr) (H H':Hp) (h h':Heap):Prop where
 keep:∀ b o,h.get? b=some o->H b=none->b∉fs->b∉ex->h'.get? b=some o
 slot:∀ b o,h.get? b=some o->H b=none->b∈fs->b∉ex->∃ sl,h'.get? b=some { o with slots:=sl }
 free:∀ b o,h.get? b=some o->H b=none->b∉ex->H' b=none
 there:∀ b o,h.get? b=some o->b∉ex->∃ o',h'.get? b=some o'
 tups:∀ b xs,H b=some (.tup xs)->H' b=some (.tup xs)
 frzs:∀ b o u,H b=some (.frz o u)->H' b=some (.frz o u)
 tbls:∀ b ps,H b=some (.tbl ps)->∃ more,H' b=some (.tbl (ps++more))
section
variable {fs fs' ex ex':List Addr} {H H1 H2:Hp} {h h1 h2 h':Heap} {a x e:Addr} {o:HO}
theorem Un.any (u:Un fs ex H H1 h h1) {b:Addr} {ob:Obj} (q:h.get? b=some ob) (n:H b=none) (hx:b∉ex):∃ sl,h1.get? b=some { ob with slots:=sl }:=by
 by_cases hb:b∈fs
 ·exact u.slot b ob q n hb hx
 ·exact ⟨ob.slots,u.keep b ob q n hb hx⟩
theorem Un.kept (k:∀ b u,h.get? b=some u->h'.get? b=some u):Un fs ex H H h h' :=
 ⟨fun b ob q _ _ _=>k b ob q,fun b ob q _ _ _=>⟨ob.slots,k b ob q⟩,fun _ _ _ n _=>n,fun b ob q _=>⟨ob,k b ob q⟩,fun _ _ q=>q,fun _ _ _ q=>q,fun _ ps q=>⟨#[],by rw [q]; simp⟩⟩
theorem Un.refl:Un fs ex H H h h:=Un.kept fun _ _ q=>q
theorem Un.laid (k:∀ b u,h.get? b=some u->h'.get? b=some u) (hp:h.objs.size <= a) (hn:H a=none):Un fs ex H (upd H a o) h h' where
 keep:=fun b u q _ _ _=>k b u q
 slot:=fun b u q _ _ _=>⟨u.slots,k b u q⟩
 free:=fun b u q n _=>by rw [ah (Nat.ne_of_lt (Nat.lt_of_lt_of_le (Heap.lt_size q) hp))]; exact n
 there:=fun b u q _=>⟨u,k b u q⟩
 tups:=fun b xs q=>by rw [ah (bT q hn)]; exact q
 frzs:=fun b u xs q=>by rw [ah (bT q hn)]; exact q
 tbls:=fun b ps q=>⟨#[],by rw [ah (bT q hn),q]; simp⟩
theorem Un.write (mu:Mut (H x)) (he:e=x∨H e=some (.own x)) (k:∀ b u,b≠e->h.get? b=some u->h'.get? b=some u) (heo:∃ u,h'.get? e=some u):Un fs ex H (upd H x o) h h':=by
 have hx:∀ b,H b=none->b≠x:=fun b n z=>by subst z; rw [n] at mu; exact mu
 have hb:∀ b,H b=none->b≠e:=fun b n z=>by
  subst z
  rcases he with r | r
  ·exact hx b n r
  ·rw [n] at r; cases r
 have hm:∀ b u,H b=some u->¬ Mut (some u)->b≠x:=fun b u q nm z=>by subst z; rw [q] at mu; exact nm mu
 refine ⟨fun b u q n _ _=>k b u (hb b n) q,fun b u q n _ _=>⟨u.slots,k b u (hb b n) q⟩,fun b u q n _=>by rw [ah (hx b n)]; exact n,fun b u q _=>?_,
  fun b xs q=>by rw [ah (hm b _ q fun z=>z)]; exact q,fun b u xs q=>by rw [ah (hm b _ q fun z=>z)]; exact q,fun b ps q=>⟨#[],by rw [ah (hm b _ q fun z=>z),q]; simp⟩⟩
 by_cases hbe:b=e
 ·subst hbe; exact heo
 ·exact ⟨u,k b u hbe q⟩
theorem Un.mono (u:Un fs ex H H1 h h1) (hs:∀ b∈fs,b∈fs') (hx:∀ b∈ex,b∈ex'):Un fs' ex' H H1 h h1 :=
 ⟨fun b ob q n hb he=>u.keep b ob q n (fun z=>hb (hs b z)) fun z=>he (hx b z),fun _ _ q n _ he=>u.any q n fun z=>he (hx _ z),fun b ob q n he=>u.free b ob q n fun z=>he (hx b z),fun b ob q he=>u.there b ob q fun z=>he (hx b z),u.tups,u.frzs,u.tbls⟩
end
def trk (h:Heap) (H:Hp):List Addr:=(List.range h.objs.size).filter fun a=>(H a).isSome
def hidT (h:Heap) (H:Hp):Heap:=PySem.W.hideAll h (trk h H)
theorem sC (h:Heap) (H:Hp):(hidT h H).objs.size=h.objs.size:=PySem.W.hideAll_size _ _
theorem vv {h:Heap} {H:Hp} {b:Addr} {o:Obj} (e:h.get? b=some o) (n:H b=none):(hidT h H).get? b=some o :=
 PySem.W.hideAll_get _ e fun hm=>by
  have q:(H b).isSome=true:=(List.mem_filter.mp hm).2
  rw [n] at q; simp at q
theorem xK {h:Heap} {H:Hp} {b:Addr} {o:Obj} (e:(hidT h H).get? b=some o):h.get? b=some o /\ H b=none:=by
 have e':h.get? b=some o:=PySem.W.of_hideAll (trk h H) e
 refine ⟨e',?_⟩
 cases q:H b with
 | none=>rfl
 | some x =>
  have hm:b∈trk h H:=List.mem_filter.mpr ⟨List.mem_range.mpr (Heap.lt_size e'),by simp [q]⟩
  have z:(hidT h H).get? b=none:=PySem.W.hideAll_none (trk h H) hm
  rw [z] at e; cases e
def xL (g h:Heap) (L:Addr):List (Addr×Obj):=(List.range h.objs.size).filterMap fun a=>if a=L∨(g.get? a).isSome=true then none else (h.get? a).map fun o=>(a,o)
def rest (g h:Heap) (L d:Addr):List (Addr×Obj):=(xL g h L).filter fun p=>decide (p.1≠d)
end L2
namespace L2
open PySem PySem.Spec PyProof.Rows
structure Mod (K:PySem.W.Frag) (mg:Str->Option Value) (base:Heap):Prop where
 kin:K.In base
 glob:base.Ns mainGlobals mg
 blt:∃ mb,base.Ns builtinsNs mb /\ ∀ x:Str,x ≠ "__name__" -> mb x=bootBuiltins x
 nolimit:base.NoLimit
structure Cx where
 prog:Program
 w:World
 K:PySem.W.Frag
 mg:Str->Option Value
 base:Heap
 A:Around
 N:List Str
 s₀:Shared
 H₀:Hp
 env:Env
 outer:List Env
 stack:List Env
 ex:List Addr
 fn:Str->Bool
 calm:Bool
 pn:List (Addr×Obj)
 xe:Value->Shared->Prop
def frs (l:List Env):List Addr:=l.filterMap (·.frame)
abbrev Cx.fs (X:Cx):List Addr:=frs X.outer
def Vis (sc:Scope) (x:Str):Prop:=sc.names.lookup x=some .local∨sc.names.lookup x=some .cell∨sc.names.lookup x=some .free
def Loc (sc:Scope) (x:Str):Prop:=sc.names.lookup x=some .local∨sc.names.lookup x=some .cell
def Look (env:Env) (h:Heap) (m:Str->Option Value) (x:Str) (u:Value):Prop :=
 (env.kindOf x=some .local /\ m x=some u)∨((env.kindOf x=some .cell∨env.kindOf x=some .free) /\ ∃ c,env.cells.lookup x=some c /\ h.IsCell c (some u))
structure Cx.Ok (X:Cx):Prop where
 mod:Mod X.K X.mg X.base
 kind:X.env.scope.kind = .function
 glob:X.env.globals=mainGlobals
 blt:X.env.builtins=builtinsNs
 above:X.s₀.heap.objs.size <= X.env.locals
 inj:∀ x y c,X.env.cells.lookup x=some c->X.env.cells.lookup y=some c->x=y
 has:∀ x,(X.env.kindOf x=some .cell∨X.env.kindOf x=some .free)->∃ c,X.env.cells.lookup x=some c
 cab:∀ x c,X.fn x=true->X.env.cells.lookup x=some c->X.s₀.heap.objs.size <= c
 hd:X.calm=true->X.A.handled=none
 frames:X.A.frames=some X.stack
 stk:X.stack=X.outer∨(X.stack=X.env::X.outer /\ X.env.frame=some X.env.locals)
 exf:∀ b∈X.ex,b≠X.env.locals /\ ∀ x c,X.env.cells.lookup x=some c->c≠b
 bs:∀ b o,X.base.get? b=some o->X.s₀.heap.get? b=some o /\ X.H₀ b=none
 bsz:X.base.objs.size <= X.s₀.heap.objs.size
 noex:∀ b o,X.base.get? b=some o->b∉X.ex
 exfs:∀ b∈X.ex,b∉X.fs
 funs:X.s₀.heap.FunFrames X.base X.outer
 frf:∀ b∈X.fs,X.H₀ b=none
structure Inv (X:Cx) (pins:List (Addr×Obj)) (σ:List (Option V)) (H:Hp) (s:Shared):Prop where
 ok:X.Ok
 os:s.os=X.s₀.os
 bare:AllBare s.gens
 base:Un X.fs X.ex X.H₀ H X.s₀.heap s.heap
 loc:∃ m,s.heap.Ns X.env.locals m /\ ∀ (i:Nat) (x:Str) (v:V),X.N[i]? = some x->σ[i]? = some (some v)->Vis X.env.scope x->∃ u,RelV v u /\ Look X.env s.heap m x u
 cell:∀ x c,X.env.cells.lookup x=some c->∃ v,s.heap.IsCell c v
 free:H X.env.locals=none
 freeC:∀ x c,X.env.cells.lookup x=some c->H c=none
 pin:∀ p∈X.pn++pins,s.heap.get? p.1=some p.2 /\ H p.1=none /\ p.1≠X.env.locals /\ p.1∉X.fs /\ ∀ v,p.2.data ≠ .cell v
 hok:HOk X.prog X.w H s.heap
 len:σ.length=X.N.length
section
variable {X:Cx} {pins:List (Addr×Obj)} {σ:List (Option V)} {H H':Hp} {s:Shared} {h':Heap}
theorem Cx.Ok.nofr (ok:X.Ok) {b:Addr} {o:Obj} (e:X.base.get? b=some o):b∉X.fs:=fun hb=>by
 have:=(ok.funs.mem hb).1
 rw [e] at this; cases this
theorem Inv.bs (I:Inv X pins σ H s):∀ b o,X.base.get? b=some o->s.heap.get? b=some o /\ H b=none:=fun b o e =>
 ⟨I.base.keep b o (I.ok.bs b o e).1 (I.ok.bs b o e).2 (I.ok.nofr e) (I.ok.noex b o e),I.base.free b o (I.ok.bs b o e).1 (I.ok.bs b o e).2 (I.ok.noex b o e)⟩
theorem Inv.bk (I:Inv X pins σ H s):∀ b o,X.base.get? b=some o->s.heap.get? b=some o:=fun b o e=>(I.bs b o e).1
theorem Inv.mod (I:Inv X pins σ H s):Mod X.K X.mg X.base:=I.ok.mod
theorem Inv.kIn (I:Inv X pins σ H s):X.K.In s.heap:=I.ok.mod.kin.keeps I.bk
theorem Inv.lt (I:Inv X pins σ H s):X.env.locals < s.heap.objs.size:=let ⟨_,hn,_⟩:=I.loc; hn.lt
theorem Inv.sz (I:Inv X pins σ H s):X.s₀.heap.objs.size <= s.heap.objs.size:=Nat.le_trans I.ok.above (Nat.le_of_lt I.lt)
theorem Inv.nofs (I:Inv X pins σ H s) {a:Addr} (h:s.heap.objs.size <= a):a∉X.fs:=fun hb=>by
 obtain ⟨_,o,ho,_⟩:=I.ok.funs.mem hb
 exact absurd (Nat.lt_of_lt_of_le (Heap.lt_size ho) (Nat.le_trans I.sz h)) (Nat.lt_irrefl _)
theorem Inv.cne (I:Inv X pins σ H s):∀ x c,X.env.cells.lookup x=some c->c≠X.env.locals:=fun x c e z=>by
 obtain ⟨v,o,ho,hd⟩:=I.cell x c e
 obtain ⟨m,⟨o',es,ep,ho',hd',_⟩,_⟩:=I.loc
 rw [z,ho'] at ho; cases ho; rw [hd'] at hd; cases hd
theorem Inv.funs (I:Inv X pins σ H s):s.heap.FunFrames X.base X.outer:=by
 have all:∀ (l:List Env),(∀ b∈frs l,b∈X.fs)->X.s₀.heap.FunFrames X.base l->s.heap.FunFrames X.base l:=by
  intro l
  induction l with
  | nil=>intro _ _; trivial
  | cons env r ih =>
   intro hs hl
   obtain ⟨hk,⟨L,o,hf,hn,ho,hd⟩,hr⟩:=hl
   have hL:L∈X.fs:=hs L (by unfold frs; rw [List.filterMap_cons,hf]; exact List.mem_cons_self)
   obtain ⟨sl,e⟩:=I.base.slot L o ho (I.ok.frf L hL) hL fun z=>I.ok.exfs L z hL
   exact ⟨hk,⟨L,_,hf,hn,e,hd⟩,ih (fun b hb=>hs b (by unfold frs; rw [List.filterMap_cons,hf]; exact List.mem_cons_of_mem _ hb)) hr⟩
 exact all X.outer (fun _ hb=>hb) I.ok.funs
theorem Inv.stack (I:Inv X pins σ H s):s.heap.FunFrames X.base X.stack:=by
 rcases I.ok.stk with e | ⟨e,hf⟩
 ·rw [e]; exact I.funs
 ·rw [e]
  obtain ⟨m,hn,_⟩:=I.loc
  refine .cons (by rw [I.ok.kind]; decide) hf hn ?_ I.funs
  exact Heap.get?_none_of_le (Nat.le_trans I.ok.bsz I.ok.above)
theorem Inv.stkSub (I:Inv X pins σ H s):∀ b∈frs X.stack,b∈X.env.locals::X.fs:=fun b hb=>by
 rcases I.ok.stk with e | ⟨e,hf⟩
 ·rw [e] at hb; exact List.mem_cons_of_mem _ hb
 ·rw [e] at hb
  unfold frs at hb
  rw [List.filterMap_cons,hf] at hb
  exact hb
theorem Inv.stkFree (I:Inv X pins σ H s):∀ b∈frs X.stack,H b=none:=fun b hb=>by
 rcases List.mem_cons.mp (I.stkSub b hb) with e | hb
 ·rw [e]; exact I.free
 ·obtain ⟨_,o,ho,_⟩:=I.ok.funs.mem hb
  exact I.base.free b o ho (I.ok.frf b hb) fun z=>I.ok.exfs b z hb
theorem Inv.step {g':Array GenState} {t':Nat} {d':Drawn} {ch:List Addr} (I:Inv X pins σ H s)
  (hch:∀ b∈ch,(b∈X.ex∨X.s₀.heap.objs.size <= b) /\ b≠X.env.locals /\ (∀ x c,X.env.cells.lookup x=some c->c≠b) /\ ∀ p∈X.pn++pins,p.1≠b)
  (keep:∀ b o,b≠X.env.locals->b∉X.fs->b∉ch->s.heap.get? b=some o->H b=none->h'.get? b=some o)
  (slot:∀ b o,b≠X.env.locals->b∈X.fs->b∉ch->s.heap.get? b=some o->H b=none->∃ sl,h'.get? b=some { o with slots:=sl }) (free:∀ b o,b∉ch->s.heap.get? b=some o->H b=none->H' b=none)
  (there:∀ b o,b∉ch->s.heap.get? b=some o->∃ o',h'.get? b=some o')
  (tups:∀ b xs,H b=some (.tup xs)->H' b=some (.tup xs)) (frzs:∀ b o u,H b=some (.frz o u)->H' b=some (.frz o u)) (tbls:∀ b ps,H b=some (.tbl ps)->∃ more,H' b=some (.tbl (ps++more)))
  (ns:∀ m,s.heap.Ns X.env.locals m->h'.Ns X.env.locals m) (hok:HOk X.prog X.w H' h') (hg:AllBare g') :
  Inv X pins σ H' { s with heap:=h',gens:=g',drawn:=d',toks:=t' }:=by
 have neL:∀ b o,X.s₀.heap.get? b=some o->b≠X.env.locals:=fun b o e=>Nat.ne_of_lt (Nat.lt_of_lt_of_le (Heap.lt_size e) I.ok.above)
 have neC:∀ b o,X.s₀.heap.get? b=some o->b∉X.ex->b∉ch:=fun b o e hx hb=>by
  rcases (hch b hb).1 with z | z
  ·exact hx z
  ·exact absurd (Nat.lt_of_lt_of_le (Heap.lt_size e) z) (Nat.lt_irrefl _)
 have cellK:∀ x c,X.env.cells.lookup x=some c->∀ v,s.heap.IsCell c v->h'.IsCell c v:=fun x c e v ⟨o,ho,hd⟩=>by
  have nch:c∉ch:=fun z=>(hch c z).2.2.1 x c e rfl
  by_cases hc:c∈X.fs
  ·obtain ⟨sl,q⟩:=slot c o (I.cne x c e) hc nch ho (I.freeC x c e)
   exact ⟨_,q,hd⟩
  ·exact ⟨o,keep c o (I.cne x c e) hc nch ho (I.freeC x c e),hd⟩
 refine ⟨I.ok,I.os,hg,⟨fun b o e n hb hx=>?_,fun b o e n hb hx=>?_,fun b o e n hx=>?_,fun b o e hx=>?_,fun b xs e=>tups b xs (I.base.tups b xs e),fun b o xs e=>frzs b o xs (I.base.frzs b o xs e),fun b ps e=>?_⟩,?_,fun x c e=>?_,?_,fun x c e=>?_,fun p hp=>?_,hok,I.len⟩
 ·exact keep b o (neL b o e) hb (neC b o e hx) (I.base.keep b o e n hb hx) (I.base.free b o e n hx)
 ·obtain ⟨sl,e1⟩:=I.base.slot b o e n hb hx
  obtain ⟨sl',e2⟩:=slot b _ (neL b o e) hb (neC b o e hx) e1 (I.base.free b o e n hx)
  exact ⟨sl',e2⟩
 ·obtain ⟨o',e1⟩:=I.base.there b o e hx
  exact free b o' (neC b o e hx) e1 (I.base.free b o e n hx)
 ·obtain ⟨o',e1⟩:=I.base.there b o e hx
  exact there b o' (neC b o e hx) e1
 ·obtain ⟨m1,e1⟩:=I.base.tbls b ps e
  obtain ⟨m2,e2⟩:=tbls b _ e1
  exact ⟨m1++m2,by rw [e2,Array.append_assoc]⟩
 ·obtain ⟨m,hn,hl⟩:=I.loc
  refine ⟨m,ns m hn,fun i x v e1 e2 e3=>?_⟩
  obtain ⟨u,r,l⟩:=hl i x v e1 e2 e3
  refine ⟨u,r,?_⟩
  rcases l with l | ⟨k,c,e,z⟩
  ·exact .inl l
  ·exact .inr ⟨k,c,e,cellK x c e _ z⟩
 ·obtain ⟨v,z⟩:=I.cell x c e
  exact ⟨v,cellK x c e v z⟩
 ·obtain ⟨m,⟨o,_,_,ho,_⟩,_⟩:=I.loc
  exact free _ o (fun z=>(hch _ z).2.1 rfl) ho I.free
 ·obtain ⟨v,o,ho,hd⟩:=I.cell x c e
  exact free c o (fun z=>(hch c z).2.2.1 x c e rfl) ho (I.freeC x c e)
 ·obtain ⟨e,n,ne,nf,d⟩:=I.pin p hp
  have nch:p.1∉ch:=fun z=>(hch p.1 z).2.2.2 p hp rfl
  exact ⟨keep p.1 p.2 ne nf nch e n,free p.1 p.2 nch e n,ne,nf,d⟩
theorem Inv.un {t':Nat} (I:Inv X pins σ H s) (u:Un X.fs [] H H' s.heap h') (hok:HOk X.prog X.w H' h'):Inv X pins σ H' { s with heap:=h',toks:=t' }:=by
 obtain ⟨m,⟨o,es,ep,ho,r⟩,_⟩:=id I.loc
 obtain ⟨sl,hL⟩:=u.any ho I.free (by simp)
 exact I.step (g':=s.gens) (d':=s.drawn) (ch:=[]) (fun _ z=>nomatch z) (fun b o _ hb _ e n=>u.keep b o e n hb (by simp)) (fun b o _ hb _ e n=>u.slot b o e n hb (by simp)) (fun b o _ e n=>u.free b o e n (by simp)) (fun b o _ e=>u.there b o e (by simp)) u.tups u.frzs u.tbls (fun m' hm=>by
  obtain ⟨o',es',ep',ho',r'⟩:=hm
  rw [ho] at ho'; cases ho'
  exact ⟨_,es',ep',hL,r'⟩) hok I.bare
theorem Inv.call {g':Array GenState} {t':Nat} {d':Drawn} {ch:List Addr} (I:Inv X pins σ H s) (u:Un (frs X.stack) ch H H' s.heap h') (hok:HOk X.prog X.w H' h') (hg:AllBare g')
  (hch:∀ b∈ch,(b∈X.ex∨X.s₀.heap.objs.size <= b) /\ b≠X.env.locals /\ (∀ x c,X.env.cells.lookup x=some c->c≠b) /\ ∀ p∈X.pn++pins,p.1≠b) :
  Inv X pins σ H' { s with heap:=h',gens:=g',drawn:=d',toks:=t' }:=by
 obtain ⟨m,⟨o,es,ep,ho,r⟩,_⟩:=id I.loc
 obtain ⟨sl,hL⟩:=u.any ho I.free fun z=>(hch _ z).2.1 rfl
 exact I.step (ch:=ch) hch (fun b o hL hb hc e n=>u.keep b o e n (fun z=>(List.mem_cons.mp (I.stkSub b z)).elim hL hb) hc) (fun b o _ _ hc e n=>u.any e n hc) (fun b o hc e n=>u.free b o e n hc) (fun b o hc e=>u.there b o e hc) u.tups u.frzs u.tbls (fun m' hm=>by
  obtain ⟨o',es',ep',ho',r'⟩:=hm
  rw [ho] at ho'; cases ho'
  exact ⟨_,es',ep',hL,r'⟩) hok hg
theorem Inv.turned {t':Nat} {it:Addr} (I:Inv X pins σ H s) (k:∀ b o,b≠it->s.heap.get? b=some o->h'.get? b=some o) (hn:H it=none) (hL:it≠X.env.locals)
  (h1:it∈X.ex∨X.s₀.heap.objs.size <= it) (h2:∀ x c,X.env.cells.lookup x=some c->c≠it) (h3:∀ p∈X.pn++pins,p.1≠it):Inv X pins σ H { s with heap:=h',toks:=t' }:=by
 have nit:∀ b u,H b=some u->b≠it:=fun b u e z=>by rw [z,hn] at e; cases e
 refine I.step (g':=s.gens) (d':=s.drawn) (ch:=[it]) (fun b hb=>?_) (fun b o _ _ hc e _=>k b o (fun z=>hc (by simp [z])) e) (fun b o _ _ hc e _=>⟨o.slots,k b o (fun z=>hc (by simp [z])) e⟩) (fun _ _ _ _ n=>n)
  (fun b o hc e=>⟨o,k b o (fun z=>hc (by simp [z])) e⟩) (fun _ _ e=>e) (fun _ _ _ e=>e) (fun b ps e=>⟨#[],by rw [e]; simp⟩) (fun m hm=>?_) (fun b u e=>?_) I.bare
 ·have e:b=it:=by simpa using hb
  subst e
  exact ⟨h1,hL,h2,h3⟩
 ·obtain ⟨o,es,ep,ho,r⟩:=hm
  exact ⟨o,es,ep,k _ o (Ne.symm hL) ho,r⟩
 ·refine (I.hok b u e).stay (fun c v hc q=>k c v ?_ q) (fun _ q=>q) fun _ _ q=>q
  rcases hc with z | z
  ·rw [z]; exact nit b u e
  ·exact nit c _ z
theorem Inv.tok (I:Inv X pins σ H s) (t:Nat):Inv X pins σ H { s with toks:=t }:=I.un (h':=s.heap) (t':=t) Un.refl I.hok
theorem Inv.kept {t':Nat} (I:Inv X pins σ H s) (k:∀ b u,s.heap.get? b=some u->h'.get? b=some u):Inv X pins σ H { s with heap:=h',toks:=t' }:=I.un (Un.kept k) (I.hok.kept k)
theorem Inv.laid {a:Addr} {o:HO} {t':Nat} (I:Inv X pins σ H s) (k:∀ b u,s.heap.get? b=some u->h'.get? b=some u) (hp:s.heap.objs.size <= a) (new:ObjOk X.prog X.w (upd H a o) h' a o) :
  Inv X pins σ (upd H a o) { s with heap:=h',toks:=t' }:=I.un (Un.laid k hp (I.hok.fresh hp)) (I.hok.laid k hp new)
theorem Inv.write {x e:Addr} {o:HO} {t':Nat} (I:Inv X pins σ H s) (mu:Mut (H x)) (he:e=x∨H e=some (.own x)) (k:∀ b u,b≠e->s.heap.get? b=some u->h'.get? b=some u) (heo:∃ u,h'.get? e=some u)
  (new:ObjOk X.prog X.w (upd H x o) h' x o):Inv X pins σ (upd H x o) { s with heap:=h',toks:=t' }:=I.un (Un.write mu he k heo) (I.hok.write mu he k heo new)
theorem Inv.pins_of {pins':List (Addr×Obj)} (I:Inv X pins σ H s) (h:∀ p∈pins',s.heap.get? p.1=some p.2 /\ H p.1=none /\ p.1≠X.env.locals /\ p.1∉X.fs /\ ∀ v,p.2.data ≠ .cell v):Inv X pins' σ H s :=
 ⟨I.ok,I.os,I.bare,I.base,I.loc,I.cell,I.free,I.freeC,fun p hp=>(List.mem_append.mp hp).elim (fun z=>I.pin p (List.mem_append_left _ z)) (h p),I.hok,I.len⟩
theorem qa {N:List Str} (hN:N.Nodup) {i j:Nat} {x:Str} (a:N[i]? = some x) (b:N[j]? = some x):i=j:=by
 obtain ⟨h1,e1⟩:=List.getElem?_eq_some_iff.mp a
 obtain ⟨h2,e2⟩:=List.getElem?_eq_some_iff.mp b
 exact (List.getElem_inj hN).mp (e1.trans e2.symm)
theorem mB {M:Model} {A:Around} {E:Value->Shared->Prop} {i:Nat} {x:Str} {v:V} {u:Value} {Q:Unit->Shared->Prop} (I:Inv X pins σ H s) (hN:X.N.Nodup) (hi:X.N[i]? = some x) (hx:Loc X.env.scope x) (r:RelV v u)
  (h:∀ s',Inv X pins (σ.set i (some v)) H s'->(∃ a,Heap.SameBut a s.heap s'.heap /\ (a=X.env.locals∨X.env.cells.lookup x=some a))->Q () s') (hf:X.fn x=true∨X.env.scope.names.lookup x=some .local:=by first | exact .inl rfl | exact .inr rfl | assumption):wpAny M A (storeName X.env x u) Q E s:=by
 obtain ⟨m,hn,hl⟩:=id I.loc
 have hcls:(X.env.scope.kind == .class || (X.env.scope.kind == .module && X.env.locals != X.env.globals))=false:=by rw [I.ok.kind]; rfl
 have hiσ:i < σ.length:=by rw [I.len]; exact (List.getElem?_eq_some_iff.mp hi).1
 have cne:=I.cne
 have tracked:∀ {a:Addr} {h':Heap},(∃ o,s.heap.get? a=some o /\ H a=none)->Heap.SameBut a s.heap h'->HOk X.prog X.w H h':=fun {a h'} ha hs b ob e=>by
  obtain ⟨_,_,hfree⟩:=ha
  refine (I.hok b ob e).stay (fun c w' hc q=>(hs.2 c ?_).trans q) (fun _ q=>q) fun _ _ q=>q
  rintro rfl
  rcases hc with rfl | hc
  ·rw [hfree] at e; cases e
  ·rw [hfree] at hc; cases hc
 rcases hx with hk | hk
 ·refine wpAny_storeName_local hk hn (fun h' hn' hs=>?_) hcls
  obtain ⟨oL,_,_,hoL,_⟩:=id hn
  refine h _ ⟨I.ok,I.os,I.bare,⟨fun b o e n hb hx=>?_,fun b o e n hb hx=>?_,I.base.free,fun b o e hx=>?_,I.base.tups,I.base.frzs,I.base.tbls⟩,⟨_,hn',fun j y v' e1 e2 e3=>?_⟩,fun y c e=>?_,I.free,I.freeC,fun p hp=>?_,tracked ⟨oL,hoL,I.free⟩ hs,by simpa using I.len⟩ ⟨_,hs,.inl rfl⟩
  ·exact (hs.2 b (Nat.ne_of_lt (Nat.lt_of_lt_of_le (Heap.lt_size e) I.ok.above))).trans (I.base.keep b o e n hb hx)
  ·obtain ⟨sl,e1⟩:=I.base.slot b o e n hb hx
   exact ⟨sl,(hs.2 b (Nat.ne_of_lt (Nat.lt_of_lt_of_le (Heap.lt_size e) I.ok.above))).trans e1⟩
  ·obtain ⟨o',e1⟩:=I.base.there b o e hx
   exact ⟨o',(hs.2 b (Nat.ne_of_lt (Nat.lt_of_lt_of_le (Heap.lt_size e) I.ok.above))).trans e1⟩
  ·by_cases hj:j=i
   ·subst hj
    rw [hi] at e1; cases e1
    rw [List.getElem?_set_self hiσ] at e2
    cases e2
    exact ⟨u,r,.inl ⟨hk,by simp⟩⟩
   ·rw [List.getElem?_set_ne (Ne.symm hj)] at e2
    obtain ⟨u',r',q⟩:=hl j y v' e1 e2 e3
    refine ⟨u',r',?_⟩
    rcases q with ⟨k,e⟩ | ⟨k,c,e,z⟩
    ·refine .inl ⟨k,?_⟩
     have:y≠x:=fun e=>hj (qa hN e1 (e ▸ hi))
     simp [this,e]
    ·exact .inr ⟨k,c,e,z.sameBut hs (cne y c e)⟩
  ·obtain ⟨w',z⟩:=I.cell y c e
   exact ⟨w',z.sameBut hs (cne y c e)⟩
  ·obtain ⟨e,n,ne,nf,d⟩:=I.pin p hp
   exact ⟨(hs.2 p.1 ne).trans e,n,ne,nf,d⟩
 ·have hfn:X.fn x=true:=by
   rcases hf with z | z
   ·exact z
   ·rw [z] at hk; cases hk
  obtain ⟨c,hc⟩:=I.ok.has x (.inl hk)
  obtain ⟨w',z⟩:=I.cell x c hc
  refine wpAny_storeName_cell I.ok.kind hk hc z (fun h' hc' hs=>?_)
  obtain ⟨oc,hoc,hocd⟩:=id z
  refine h { s with heap:=h' } ⟨I.ok,I.os,I.bare,⟨fun b o e n hb hx=>?_,fun b o e n hb hx=>?_,I.base.free,fun b o e hx=>?_,I.base.tups,I.base.frzs,I.base.tbls⟩,⟨m,hn.sameBut hs (Ne.symm (cne x c hc)),fun j y v' e1 e2 e3=>?_⟩,fun y c' e=>?_,I.free,I.freeC,fun p hp=>?_,tracked ⟨oc,hoc,I.freeC x c hc⟩ hs,by simpa using I.len⟩ ⟨c,hs,.inr hc⟩
  ·exact (hs.2 b (Nat.ne_of_lt (Nat.lt_of_lt_of_le (Heap.lt_size e) (I.ok.cab x c hfn hc)))).trans (I.base.keep b o e n hb hx)
  ·obtain ⟨sl,e1⟩:=I.base.slot b o e n hb hx
   exact ⟨sl,(hs.2 b (Nat.ne_of_lt (Nat.lt_of_lt_of_le (Heap.lt_size e) (I.ok.cab x c hfn hc)))).trans e1⟩
  ·obtain ⟨o',e1⟩:=I.base.there b o e hx
   exact ⟨o',(hs.2 b (Nat.ne_of_lt (Nat.lt_of_lt_of_le (Heap.lt_size e) (I.ok.cab x c hfn hc)))).trans e1⟩
  ·by_cases hj:j=i
   ·subst hj
    rw [hi] at e1; cases e1
    rw [List.getElem?_set_self hiσ] at e2
    cases e2
    exact ⟨u,r,.inr ⟨.inl hk,c,hc,hc'⟩⟩
   ·rw [List.getElem?_set_ne (Ne.symm hj)] at e2
    obtain ⟨u',r',q⟩:=hl j y v' e1 e2 e3
    refine ⟨u',r',?_⟩
    rcases q with q | ⟨k,c',e,z'⟩
    ·exact .inl q
    ·refine .inr ⟨k,c',e,z'.sameBut hs ?_⟩
     rintro rfl
     exact hj (qa hN e1 (I.ok.inj _ _ _ e hc ▸ hi))
  ·by_cases hcc:c'=c
   ·subst hcc; exact ⟨_,hc'⟩
   ·obtain ⟨w2,z2⟩:=I.cell y c' e
    exact ⟨w2,z2.sameBut hs hcc⟩
  ·obtain ⟨e,n,ne,nf,d⟩:=I.pin p hp
   refine ⟨(hs.2 p.1 ?_).trans e,n,ne,nf,d⟩
   intro q
   rw [q,hoc] at e
   have q':oc=p.2:=Option.some.inj e
   exact d w' (by rw [← q']; exact hocd)
theorem qb {M:Model} {A:Around} {E:Value->Shared->Prop} {i:Nat} {x:Str} {v:V} {u:Value} {Q:Unit->Shared->Prop} (I:Inv X pins σ H s) (hN:X.N.Nodup) (hi:X.N[i]? = some x) (hx:Loc X.env.scope x) (r:RelV v u)
  (h:∀ s',Inv X pins (σ.set i (some v)) H s'->Q () s') (hf:X.fn x=true∨X.env.scope.names.lookup x=some .local:=by first | exact .inl rfl | exact .inr rfl | assumption):wpAny M A (storeName X.env x u) Q E s :=
 mB I hN hi hx r (fun s' I' _=>h s' I') hf
theorem Inv.call' {s':Shared} {ch:List Addr} (I:Inv X pins σ H s) (ho:s'.os=s.os) (u:Un (frs X.stack) ch H H' s.heap s'.heap) (hok:HOk X.prog X.w H' s'.heap) (hg:AllBare s'.gens)
  (hch:∀ b∈ch,(b∈X.ex∨X.s₀.heap.objs.size <= b) /\ b≠X.env.locals /\ (∀ x c,X.env.cells.lookup x=some c->c≠b) /\ ∀ p∈X.pn++pins,p.1≠b):Inv X pins σ H' s':=by
 obtain ⟨h',g',d',t',o'⟩:=s'
 have e:o'=s.os:=ho
 subst e
 exact I.call (g':=g') (t':=t') (d':=d') u hok hg hch
end
abbrev XK:=Value->Option Addr->Hp->Prop
abbrev St:=List (Option V)
abbrev VK:=V->Hp->Prop
abbrev TE:=St->Hp->VK->Prop
abbrev TT:=St->Hp->(Bool->Hp->Prop)->Prop
abbrev TA:=St->Hp->(List V->Hp->Prop)->Prop
structure Ends where
 nx:St->Hp->Prop
 rt:VK
 bk:St->Hp->Prop:=fun _ _=>False
 ct:St->Hp->Prop:=fun _ _=>False
abbrev TS:=Ends->St->Hp->Prop
def EP (X:Cx) (pins:List (Addr×Obj)) (σ:St) (Q:VK) (u:Value) (s':Shared):Prop:=∃ v H',Inv X pins σ H' s' /\ RelV v u /\ Q v H'
def TP (X:Cx) (pins:List (Addr×Obj)) (σ:St) (Q:Bool->Hp->Prop) (b:Bool) (s':Shared):Prop:=∃ H',Inv X pins σ H' s' /\ Q b H'
def AP (X:Cx) (pins:List (Addr×Obj)) (σ:St) (Q:List V->Hp->Prop) (us:List Value) (s':Shared):Prop:=∃ vs H',Inv X pins σ H' s' /\ Vals vs us /\ Q vs H'
def SP (X:Cx) (pins:List (Addr×Obj)) (D:Ends) (f:Flow) (s':Shared):Prop :=
 match f with
 | .next=>∃ σ' H',Inv X pins σ' H' s' /\ D.nx σ' H'
 | .brk=>∃ σ' H',Inv X pins σ' H' s' /\ D.bk σ' H'
 | .cont=>∃ σ' H',Inv X pins σ' H' s' /\ D.ct σ' H'
 | .ret u=>∃ v σ' H',Inv X pins σ' H' s' /\ RelV v u /\ D.rt v H'
def PE (X:Cx) (e:Expr) (t:TE):Prop :=
 ∀ (pins:List (Addr×Obj)) (s:Shared) (σ:St) (H:Hp) (Q:VK),Inv X pins σ H s->t σ H Q->wpAny (model X.prog X.w) X.A (eval e X.env) (EP X pins σ Q) X.xe s
def PT (X:Cx) (e:Expr) (t:TT):Prop :=
 ∀ (pins:List (Addr×Obj)) (s:Shared) (σ:St) (H:Hp) (Q:Bool->Hp->Prop),Inv X pins σ H s->t σ H Q->wpAny (model X.prog X.w) X.A (isTrue e X.env (eval e X.env)) (TP X pins σ Q) X.xe s
def PW (X:Cx) (e:Expr) (t:TT):Prop :=
 ∀ (whole:Sem Value) (pins:List (Addr×Obj)) (s:Shared) (σ:St) (H:Hp) (Q:Bool->Hp->Prop),Inv X pins σ H s->t σ H Q->wpAny (model X.prog X.w) X.A (isTrue e X.env whole) (TP X pins σ Q) X.xe s
theorem PW.pt {X:Cx} {e:Expr} {t:TT} (h:PW X e t):PT X e t:=h _
def PA (X:Cx) (es:List Expr) (t:TA):Prop :=
 ∀ (pos:Pos) (pins:List (Addr×Obj)) (s:Shared) (σ:St) (H:Hp) (Q:List V->Hp->Prop),Inv X pins σ H s->t σ H Q->wpAny (model X.prog X.w) X.A (spliced (backTo pos (starEach es X.env))) (AP X pins σ Q) X.xe s
def PS (X:Cx) (st:Stmt) (t:TS):Prop :=
 ∀ (pins:List (Addr×Obj)) (s:Shared) (σ:St) (H:Hp) (D:Ends),Inv X pins σ H s->t D σ H->wpAny (model X.prog X.w) X.A (exec st X.env) (SP X pins D) X.xe s
def PSs (X:Cx) (st:List Stmt) (t:TS):Prop :=
 ∀ (pins:List (Addr×Obj)) (s:Shared) (σ:St) (H:Hp) (D:Ends),Inv X pins σ H s->t D σ H->wpAny (model X.prog X.w) X.A (execs st X.env) (SP X pins D) X.xe s
theorem thn {α:Type} {t:Sem α} {Q Q':α->Shared->Prop} {M:Model} {A:Around} {E:Value->Shared->Prop} {s:Shared} (h:wpAny M A t Q E s) (hQ:∀ a s,Q a s->Q' a s):wpAny M A t Q' E s:=wpAny_mono h hQ fun _ _ x=>x
end L2
namespace L2
open PySem PySem.Spec PyProof.Rows
section
variable {X:Cx}
def tVar (i:Nat):TE:=fun σ H Q=>∃ v,σ[i]? = some (some v) /\ Q v H
def tC (v:V):TE:=fun _ H Q=>Q v H
theorem zq {i:Nat} {x:Str} {pos:Pos} (hN:X.N[i]? = some x) (hv:Vis X.env.scope x) (hd:(x == ("__debug__" : Str))=false:=by decide) (hcd:(x == ("__classdict__" : Str))=false:=by decide):PE X (.Name x pos) (tVar i):=by
 intro pins s σ H Q I h
 obtain ⟨v,e,h⟩:=h
 obtain ⟨m,hn,hl⟩:=I.loc
 obtain ⟨u,r,l⟩:=hl i x v hN e hv
 have fin:EP X pins σ Q u s:=⟨v,H,I,r,h⟩
 rcases l with ⟨hk,hm⟩ | ⟨hk,c,hc,hcell⟩
 ·exact wpAny_Name (wpAny_loadName_local I.ok.kind hk hn hm fin) hd
 ·rcases hk with hk | hk
  ·exact wpAny_Name (wpAny_loadName_cell I.ok.kind hk hc hcell fin) hd
  ·exact wpAny_Name (wpAny_loadName_free I.ok.kind hk hc hcell fin hcd) hd
theorem ba {i j pos}:PE X (.Constant (.int i) j pos) (tC (.int i)):=fun _ _ _ H _ I h=>wpAny_Constant_int ⟨.int i,H,I.tok _,⟨_,rfl⟩,h⟩
theorem Bt {b j pos}:PE X (.Constant (.bool b) j pos) (tC (.bl b)):=fun _ _ _ H _ I h=>Constant_bool ⟨.bl b,H,I,rfl,h⟩
theorem zr {j pos}:PE X (.Constant .none j pos) (tC .non):=fun _ _ _ H _ I h=>Constant_none ⟨.non,H,I,rfl,h⟩
theorem wG {x j pos}:PE X (.Constant (.str x) j pos) (tC (.str x)):=fun _ _ _ H _ I h=>Calls.Constant_str ⟨.str x,H,I.tok _,⟨_,rfl⟩,h⟩
def Gl (X:Cx) (x:Str):Prop:=X.env.kindOf x=some .globalImplicit
theorem sD {E:Value->Shared->Prop} {pins:List (Addr×Obj)} {s:Shared} {σ:St} {H:Hp} {x:Str} {u:Value} {pos:Pos} {Q:Value->Shared->Prop} (I:Inv X pins σ H s) (hg:Gl X x) (hm:X.mg x=some u) (h:Q u s)
  (hd:(x == ("__debug__" : Str))=false:=by decide):wpAny (model X.prog X.w) X.A (eval (.Name x pos) X.env) Q E s :=
 Calls.Name_function_global I.ok.kind hg (Calls.loadGlobal_global (by rw [I.ok.glob]; exact I.mod.glob.keeps I.bk) hm h) hd
theorem je {E:Value->Shared->Prop} {pins:List (Addr×Obj)} {s:Shared} {σ:St} {H:Hp} {x:Str} {u:Value} {pos:Pos} {Q:Value->Shared->Prop} (I:Inv X pins σ H s) (hg:Gl X x) (hm:X.mg x=none) (hv:bootBuiltins x=some u) (h:Q u s)
  (hn:x ≠ "__name__":=by decide) (hd:(x == ("__debug__" : Str))=false:=by decide):wpAny (model X.prog X.w) X.A (eval (.Name x pos) X.env) Q E s:=by
 obtain ⟨mb,h1,h2⟩:=I.mod.blt
 exact Calls.Name_function_global I.ok.kind hg (Calls.loadGlobal_builtin (by rw [I.ok.glob]; exact I.mod.glob.keeps I.bk) hm (by rw [I.ok.blt]; exact h1.keeps I.bk) ((h2 x hn).trans hv) h) hd
theorem xM {x:Str} {v:V} {u:Value} {pos:Pos} (hg:Gl X x) (hm:X.mg x=some u) (r:RelV v u) (hd:(x == ("__debug__" : Str))=false:=by decide):PE X (.Name x pos) (tC v) :=
 fun _ _ _ H _ I h=>sD I hg hm ⟨v,H,I,r,h⟩ hd
theorem xN {x:Str} {v:V} {u:Value} {pos:Pos} (hg:Gl X x) (hm:X.mg x=none) (hv:bootBuiltins x=some u) (r:RelV v u) (hn:x ≠ "__name__":=by decide) (hd:(x == ("__debug__" : Str))=false:=by decide):PE X (.Name x pos) (tC v) :=
 fun _ _ _ H _ I h=>je I hg hm hv ⟨v,H,I,r,h⟩ hn hd
variable {a b:Expr} {ta tb:TE} {pos:Pos}
def tB (t:TE):TT:=fun σ H Q=>t σ H fun x H1=>∃ c,x = .bl c /\ Q c H1
theorem zt {e:Expr} {t:TE} (h:PE X e t) (he:∀ whole,isTrue e X.env whole=(do let v ← whole; standAt e.pos; holding [v] (truthy v)):=by intro _; rfl):PT X e (tB t):=by
 intro pins s σ H Q I hw
 refine isTrue_plain (thn (h pins s σ H _ I hw) fun v s1 ⟨x,H1,I1,r1,q1⟩=>?_) (he _)
 obtain ⟨d,rfl,q⟩:=q1
 cases r1
 exact wpAny_truthy_bool ⟨H1,I1,q⟩
variable {tA tB':TT} {rest:List Expr}
def tAnd (t u:TT):TT:=fun σ H Q=>t σ H fun c H1=>if c=true then u σ H1 Q else Q false H1
def tOr (t u:TT):TT:=fun σ H Q=>t σ H fun c H1=>if c=true then Q true H1 else u σ H1 Q
def tNot (t:TT):TT:=fun σ H Q=>t σ H fun c H1=>Q (!c) H1
theorem xO (ha:PT X a tA):PW X (.BoolOp .And [a] pos) tA:=by
 intro wh pins s σ H Q I h
 refine isTrue_and (thn (ha pins s σ H Q I h) fun c s1 e=>?_)
 cases c with
 | true=>exact isTrue_and_nil e
 | false=>exact e
theorem wH (ha:PT X a tA):PW X (.BoolOp .Or [a] pos) tA:=by
 intro wh pins s σ H Q I h
 refine isTrue_or (thn (ha pins s σ H Q I h) fun c s1 e=>?_)
 cases c with
 | false=>exact isTrue_or_nil e
 | true=>exact e
theorem zu (ha:PT X a tA) (hb:PW X (.BoolOp .And (b::rest) pos) tB'):PW X (.BoolOp .And (a::b::rest) pos) (tAnd tA tB'):=by
 intro wh pins s σ H Q I h
 refine isTrue_and (thn (ha pins s σ H _ I h) fun c s1 ⟨H1,I1,q1⟩=>?_)
 cases c with
 | true=>exact hb wh pins s1 σ H1 Q I1 q1
 | false=>exact ⟨H1,I1,q1⟩
theorem zv (ha:PT X a tA) (hb:PW X (.BoolOp .Or (b::rest) pos) tB'):PW X (.BoolOp .Or (a::b::rest) pos) (tOr tA tB'):=by
 intro wh pins s σ H Q I h
 refine isTrue_or (thn (ha pins s σ H _ I h) fun c s1 ⟨H1,I1,q1⟩=>?_)
 cases c with
 | true=>exact ⟨H1,I1,q1⟩
 | false=>exact hb wh pins s1 σ H1 Q I1 q1
theorem zw (ha:PT X a tA):PT X (.UnaryOp .Not a pos) (tNot tA):=by
 intro pins s σ H Q I h
 exact isTrue_not (ha pins s σ H (fun c H1=>Q (!c) H1) I h)
def Bu (ta tb:TE):TE:=fun σ H Q=>ta σ H fun x H1=>∃ c,x = .bl c /\ if c=true then tb σ H1 Q else Q (.bl false) H1
def tOrV (ta tb:TE):TE:=fun σ H Q=>ta σ H fun x H1=>∃ c,x = .bl c /\ if c=true then Q (.bl true) H1 else tb σ H1 Q
theorem zx {op} {t:TE} (h:PE X a t):PE X (.BoolOp op [a] pos) t:=fun pins s σ H Q I hw=>BoolOp_one (h pins s σ H Q I hw)
theorem zy (ha:PE X a ta) (hb:PE X (.BoolOp .And (b::rest) pos) tb):PE X (.BoolOp .And (a::b::rest) pos) (Bu ta tb):=by
 intro pins s σ H Q I h
 refine BoolOp_and (thn (ha pins s σ H _ I h) fun v s1 ⟨x,H1,I1,r1,q1⟩=>?_)
 obtain ⟨c,rfl,q1⟩:=q1
 cases r1
 refine wpAny_truthy_bool ?_
 cases c with
 | true=>exact hb pins s1 σ H1 Q I1 q1
 | false=>exact ⟨.bl false,H1,I1,rfl,q1⟩
theorem Bv (ha:PE X a ta) (hb:PE X (.BoolOp .Or (b::rest) pos) tb):PE X (.BoolOp .Or (a::b::rest) pos) (tOrV ta tb):=by
 intro pins s σ H Q I h
 refine BoolOp_or (thn (ha pins s σ H _ I h) fun v s1 ⟨x,H1,I1,r1,q1⟩=>?_)
 obtain ⟨c,rfl,q1⟩:=q1
 cases r1
 refine wpAny_truthy_bool ?_
 cases c with
 | false=>exact hb pins s1 σ H1 Q I1 q1
 | true=>exact ⟨.bl true,H1,I1,rfl,q1⟩
end
end L2
namespace L2
open PySem PySem.Spec PyProof.Rows
def SqL (K:PySem.W.Frag) (H:Hp) (a:Addr) (xs:List V):Prop :=
 Rd H a (.lst xs) ∨
  ∃ (o:Obj) (its:Array Value) (n:Nat),K.lookup a=some o /\ o.cls = .type "list" /\ o.dict=none /\ o.data = .seq its n /\ its.size <= sizeLine /\ Vals xs its.toList
def SqT (K:PySem.W.Frag) (H:Hp) (a:Addr) (xs:List V):Prop :=
 Rd H a (.tup xs) ∨
  ∃ (o:Obj) (its:Array Value) (n:Nat),K.lookup a=some o /\ o.cls = .type "tuple" /\ o.data = .seq its n /\ its.size <= sizeLine /\ Vals xs its.toList
def absV:Value->Option V
 | .none=>some .non
 | .bool b=>some (.bl b)
 | .int i _=>some (.int i)
 | .str x _=>some (.str x)
 | .bytes b _=>some (.byt b)
 | .float b _=>some (.flt b)
 | .ref a=>some (.ref a)
 | .type n=>some (.ty n)
 | _=>none
theorem RelV.abs {x:V} {u:Value} (r:RelV x u):absV u=some x:=by
 cases x with
 | non=>cases r; rfl
 | bl _=>cases r; rfl
 | int _=>obtain ⟨t,rfl⟩:=r; rfl
 | str _=>obtain ⟨t,rfl⟩:=r; rfl
 | byt _=>obtain ⟨t,rfl⟩:=r; rfl
 | flt _=>obtain ⟨t,rfl⟩:=r; rfl
 | ref _=>cases r; rfl
 | ty _=>cases r; rfl
theorem RelV.inj {x y:V} {u:Value} (r:RelV x u) (q:RelV y u):x=y:=Option.some.inj (r.abs.symm.trans q.abs)
theorem Vals.inj:∀ {xs ys:List V} {us:List Value},Vals xs us->Vals ys us->xs=ys
 | _,_,_,.nil,.nil=>rfl
 | _,_,_,.cons r t,.cons r' t'=>by rw [r.inj r',Vals.inj t t']
section
variable {X:Cx} {pins:List (Addr×Obj)} {σ:St} {H:Hp} {s:Shared} {a:Addr} {xs ys:List V}
theorem SqL.of {K:PySem.W.Frag} (h:H a=some (.lst xs)):SqL K H a xs:=.inl (.inl h)
theorem SqT.of {K:PySem.W.Frag} (h:H a=some (.tup xs)):SqT K H a xs:=.inl (.inl h)
theorem Inv.list (I:Inv X pins σ H s) (h:SqL X.K H a xs):∃ its:List Value,Vals xs its /\ PlainL s.heap a its.toArray /\ xs.length <= sizeLine:=by
 rcases h with h | ⟨o,its,n,hk,hc,hd,hs,hz,r⟩
 ·obtain ⟨z,its,n,r,e⟩:=h.ok I.hok
  exact ⟨its,r,⟨_,n,e,rfl,rfl,rfl⟩,z⟩
 ·refine ⟨its.toList,r,⟨o,n,I.kIn a o hk,hc,hd,by simpa using hs⟩,?_⟩
  have e:=r.length
  simp only [Array.length_toList] at e
  omega
theorem Inv.tuple (I:Inv X pins σ H s) (h:SqT X.K H a xs):∃ its:List Value,Vals xs its /\ IsTup s.heap a its.toArray /\ xs.length <= sizeLine:=by
 rcases h with h | ⟨o,its,n,hk,hc,hs,hz,r⟩
 ·obtain ⟨z,its,r,p⟩:=h.ok I.hok
  exact ⟨its,r,p,z.1⟩
 ·refine ⟨its.toList,r,⟨o,I.kIn a o hk,hc,n,by simpa using hs⟩,?_⟩
  have e:=r.length
  simp only [Array.length_toList] at e
  omega
theorem Inv.list_inj (I:Inv X pins σ H s) (h:SqL X.K H a xs) (h':SqL X.K H a ys):xs=ys:=by
 obtain ⟨its,r,⟨o,n,e,_,_,d⟩,_⟩:=I.list h
 obtain ⟨its',r',⟨o',n',e',_,_,d'⟩,_⟩:=I.list h'
 rw [e] at e'; cases e'
 rw [d] at d'
 injection d' with d1 _
 have:its=its':=by simpa using congrArg Array.toList d1
 subst this
 exact r.inj r'
theorem Inv.tuple_inj (I:Inv X pins σ H s) (h:SqT X.K H a xs) (h':SqT X.K H a ys):xs=ys:=by
 obtain ⟨its,r,⟨o,e,_,n,d⟩,_⟩:=I.tuple h
 obtain ⟨its',r',⟨o',e',_,n',d'⟩,_⟩:=I.tuple h'
 rw [e] at e'; cases e'
 rw [d] at d'
 injection d' with d1 _
 have:its=its':=by simpa using congrArg Array.toList d1
 subst this
 exact r.inj r'
end
abbrev Cx.wish (X:Cx) (E:Value->Shared->Prop):Cx:={ X with xe:=E }
abbrev Cx.nox (X:Cx):Cx:=X.wish fun _ _=>False
theorem Cx.Ok.wish {X:Cx} (ok:X.Ok) (E:Value->Shared->Prop):(X.wish E).Ok :=
 ⟨ok.mod,ok.kind,ok.glob,ok.blt,ok.above,ok.inj,ok.has,ok.cab,ok.hd,ok.frames,ok.stk,ok.exf,ok.bs,ok.bsz,ok.noex,ok.exfs,ok.funs,ok.frf⟩
theorem Cx.Ok.unwish {X:Cx} {E:Value->Shared->Prop} (ok:(X.wish E).Ok):X.Ok :=
 ⟨ok.mod,ok.kind,ok.glob,ok.blt,ok.above,ok.inj,ok.has,ok.cab,ok.hd,ok.frames,ok.stk,ok.exf,ok.bs,ok.bsz,ok.noex,ok.exfs,ok.funs,ok.frf⟩
section
variable {X:Cx} {pins:List (Addr×Obj)} {σ:St} {H:Hp} {s:Shared} {E:Value->Shared->Prop}
theorem Inv.wish (I:Inv X pins σ H s) (E:Value->Shared->Prop):Inv (X.wish E) pins σ H s:=⟨I.ok.wish E,I.os,I.bare,I.base,I.loc,I.cell,I.free,I.freeC,I.pin,I.hok,I.len⟩
theorem Inv.unwish (I:Inv (X.wish E) pins σ H s):Inv X pins σ H s:=⟨I.ok.unwish,I.os,I.bare,I.base,I.loc,I.cell,I.free,I.freeC,I.pin,I.hok,I.len⟩
theorem SP.unwish {D:Ends} {f:Flow} {s':Shared} (h:SP (X.wish E) pins D f s'):SP X pins D f s':=by
 cases f with
 | next=>obtain ⟨σ',H',I,q⟩:=h; exact ⟨σ',H',I.unwish,q⟩
 | brk=>obtain ⟨σ',H',I,q⟩:=h; exact ⟨σ',H',I.unwish,q⟩
 | cont=>obtain ⟨σ',H',I,q⟩:=h; exact ⟨σ',H',I.unwish,q⟩
 | ret u=>obtain ⟨v,σ',H',I,r,q⟩:=h; exact ⟨v,σ',H',I.unwish,r,q⟩
theorem PSs.nox {st:List Stmt} {t:TS} (h:PSs X.nox st t):PSs X st t:=fun pins s σ H D I hw =>
 wpAny_mono (h pins s σ H D (I.wish _) hw) (fun _ _ q=>q.unwish) fun _ _ z=>False.elim z
end
section
variable {X:Cx} {st:Stmt} {rest:List Stmt} {t u:TS} {e:Expr} {te:TE} {pos:Pos}
def Bw:TS:=fun D σ H=>D.nx σ H
def tSeq (t u:TS):TS:=fun D σ H=>t { D with nx:=u D } σ H
theorem dG:PSs X [] Bw:=fun _ _ σ H _ I h=>wpAny_execs_nil ⟨σ,H,I,h⟩
theorem aA (h1:PS X st t) (h2:PSs X rest u):PSs X (st::rest) (tSeq t u):=by
 intro pins s σ H D I h
 refine wpAny_execs_cons (thn (h1 pins s σ H { D with nx:=u D } I h) fun f s1 q=>?_)
 cases f with
 | next =>
  obtain ⟨σ',H',I',q⟩:=q
  exact h2 pins s1 σ' H' D I' q
 | ret v=>exact q
 | brk=>exact q
 | cont=>exact q
theorem dW (h1:PS X st t):PSs X [st] t:=by
 intro pins s σ H D I h
 refine wpAny_execs_cons (thn (h1 pins s σ H D I h) fun f s1 q=>?_)
 cases f with
 | next=>exact wpAny_execs_nil q
 | ret v=>exact q
 | brk=>exact q
 | cont=>exact q
theorem Inv.quiet {pins:List (Addr×Obj)} {σ:St} {H:Hp} {s:Shared} (I:Inv X pins σ H s):interactive X.env=false:=by simp [interactive,I.ok.kind]
def vw (te:TE):TS:=fun D σ H=>te σ H fun _ H1=>D.nx σ H1
theorem gL (he:PE X e te) (hs:swapsWith e none pos.line X.env=pure false:=by rfl):PS X (.Expr e pos) (vw te):=by
 intro pins s σ H D I h
 exact wpAny_Expr_any (thn (he pins s σ H _ I h) fun v s1 ⟨x,H1,I1,r1,q1⟩=>⟨σ,H1,I1,q1⟩) I.quiet hs
def tRet (te:TE):TS:=fun D σ H=>te σ H D.rt
theorem mC (he:PE X e te):PS X (.Return (some e) pos) (tRet te):=by
 intro pins s σ H D I h
 exact wpAny_Return_some (thn (he pins s σ H _ I h) fun v s1 ⟨x,H1,I1,r1,q1⟩=>⟨x,σ,H1,I1,r1,q1⟩)
def tIfS (c:TT) (t u:TS):TS:=fun D σ H=>c σ H fun b H1=>if b=true then t D σ H1 else u D σ H1
theorem ld {c:Expr} {a b:List Stmt} {tc:TT} (hc:PT X c tc) (ha:PSs X a t) (hb:PSs X b u):PS X (.If c a b pos) (tIfS tc t u):=by
 intro pins s σ H D I h
 refine wpAny_If (thn (hc pins s σ H _ I h) fun d s1 ⟨H1,I1,q1⟩=>?_)
 cases d with
 | true=>exact ha pins s1 σ H1 D I1 q1
 | false=>exact hb pins s1 σ H1 D I1 q1
def zz:TS:=fun _ _ _=>False
theorem vx:PS X st zz:=fun _ _ _ _ _ _ h=>h.elim
end
abbrev TG:=V->St->Hp->(St->Hp->Prop)->Prop
abbrev TGs:=List V->St->Hp->(St->Hp->Prop)->Prop
def PG (X:Cx) (target:Expr) (t:TG):Prop :=
 ∀ (pins:List (Addr×Obj)) (s:Shared) (σ:St) (H:Hp) (v:V) (u:Value) (Q:St->Hp->Prop),Inv X pins σ H s->RelV v u->t v σ H Q ->
  wpAny (model X.prog X.w) X.A (assign target X.env u) (fun _ s'=>∃ σ' H',Inv X pins σ' H' s' /\ Q σ' H') X.xe s
def PGs (X:Cx) (ts:List Expr) (t:TGs):Prop :=
 ∀ (pins:List (Addr×Obj)) (s:Shared) (σ:St) (H:Hp) (vs:List V) (us:List Value) (Q:St->Hp->Prop),Inv X pins σ H s->Vals vs us->t vs σ H Q ->
  wpAny (model X.prog X.w) X.A (assignInOrder ((assignEach ts X.env).map (·.2)) us) (fun _ s'=>∃ σ' H',Inv X pins σ' H' s' /\ Q σ' H') X.xe s
abbrev TSet:=V->V->V->Hp->(Hp->Prop)->Prop
def PSet (X:Cx) (t:TSet):Prop :=
 ∀ (pins:List (Addr×Obj)) (s:Shared) (σ:St) (H:Hp) (o i v:V) (ov iv u:Value) (Q:Hp->Prop),Inv X pins σ H s->RelV o ov->RelV i iv->RelV v u->t o i v H Q ->
  wpAny (model X.prog X.w) X.A (setItem ov iv u) (fun _ s'=>∃ H',Inv X pins σ H' s' /\ Q H') X.xe s
section
variable {X:Cx} {pos:Pos}
def gName (i:Nat):TG:=fun v σ H Q=>Q (σ.set i (some v)) H
theorem fB {i:Nat} {x:Str} (hN:X.N.Nodup) (hi:X.N[i]? = some x) (hx:Loc X.env.scope x) (hf:X.fn x=true∨X.env.scope.names.lookup x=some .local:=by first | exact .inl rfl | exact .inr rfl | assumption):PG X (.Name x pos) (gName i):=by
 intro pins s σ H v u Q I r h
 exact wpAny_assign_Name (qb I hN hi hx r (fun s' I'=>⟨_,H,I',h⟩) hf)
def gNil:TGs:=fun vs σ H Q=>vs=[] /\ Q σ H
def xP (t:TG) (u:TGs):TGs:=fun vs σ H Q=>∃ v r,vs=v::r /\ t v σ H fun σ' H'=>u r σ' H' Q
theorem oK:PGs X [] gNil:=by
 intro pins s σ H vs us Q I r h
 obtain ⟨e,h⟩:=h
 subst e
 cases r
 exact assignInOrder_nil ⟨σ,H,I,h⟩
theorem ff {e:Expr} {es:List Expr} {t:TG} {u:TGs} (h1:PG X e t) (h2:PGs X es u)
  (hs:(assignEach (e::es) X.env).map (·.2)=assign e X.env::(assignEach es X.env).map (·.2):=by rfl):PGs X (e::es) (xP t u):=by
 intro pins s σ H vs us Q I r h
 obtain ⟨v,vr,e1,h⟩:=h
 subst e1
 cases r with
 | cons r rr =>
  rw [hs]
  refine assignInOrder_cons (thn (h1 pins s σ H _ _ _ I r h) fun _ s1 ⟨σ1,H1,I1,q1⟩=>?_)
  exact h2 pins s1 σ1 H1 _ _ Q I1 rr q1
def gTup (K:PySem.W.Frag) (n:Nat) (t:TGs):TG:=fun v σ H Q=>∃ a xs,v = .ref a /\ SqT K H a xs /\ xs.length=n /\ t xs σ H Q
theorem zA {es:List Expr} {k:Nat} {t:TGs} {n:Nat} (hc:X.calm=true) (h:PGs X es t)
  (hn:(assignEach es X.env).length=n:=by rfl) (hst:(assignEach es X.env).findIdx? (·.1)=none:=by rfl):PG X (.Tuple es k pos) (gTup X.K n t):=by
 intro pins s σ H v u Q I r hw
 obtain ⟨a,xs,e1,hq,hl,hw⟩:=hw
 subst e1
 cases r
 obtain ⟨its,rv,ht,hz⟩:=I.tuple hq
 refine assign_Tuple_tuple (I.ok.hd hc) ht (by simp [hn,← hl,rv.length]) hst fun h' hx=>?_
 have I1:Inv X pins σ H { s with heap:=h' }:=I.kept (t':=s.toks) fun b o e=>hx b o (Nat.ne_of_lt (Heap.lt_size e)) e
 exact h pins _ σ H xs _ Q I1 (by simpa using rv) hw
def gSub (to ti:TE) (t:TSet):TG:=fun v σ H Q=>to σ H fun o H1=>ti σ H1 fun i H2=>t o i v H2 fun H3=>Q σ H3
theorem sE {o i:Expr} {to ti:TE} {t:TSet} (ho:PE X o to) (hi:PE X i ti) (hs:PSet X t)
  (ha:∀ v,assign (.Subscript o i pos) X.env v=(do
   let ov ← holding [v] (eval o X.env)
   let iv ← holding [v,ov] (eval i X.env)
   standAt pos
   holding [v,ov,iv] (setItem ov iv v)
   release [v,ov,iv] []):=by intro _; rfl):PG X (.Subscript o i pos) (gSub to ti t):=by
 intro pins s σ H v u Q I r h
 rw [ha]
 refine wpAny_bind (wpAny_holding (thn (ho pins s σ H _ I h) fun ov s1 ⟨x,H1,I1,r1,q1⟩=>?_))
 refine wpAny_bind (wpAny_holding (thn (hi pins s1 σ H1 _ I1 q1) fun iv s2 ⟨y,H2,I2,r2,q2⟩=>?_))
 refine wpAny_bind (wpAny_standAt (wpAny_bind (wpAny_holding (thn (hs pins s2 σ H2 x y v ov iv u _ I2 r1 r2 r q2) fun _ s3 ⟨H3,I3,q3⟩=>?_))))
 exact wpAny_release ⟨σ,H3,I3,q3⟩
def tAsg (te:TE) (g:TG):TS:=fun D σ H=>te σ H fun x H1=>g x σ H1 D.nx
theorem kF {tg e:Expr} {te:TE} {g:TG} (he:PE X e te) (hg:PG X tg g) (hs:swapsWithSole [tg] e pos.line X.env=pure false:=by rfl) (hw:swappedStores [tg] e X.env=pure none:=by rfl)
  (h1:(assignEach [tg] X.env).map (·.2)=[assign tg X.env]:=by rfl):PS X (.Assign [tg] e pos) (tAsg te g):=by
 intro pins s σ H D I h
 refine wpAny_Assign_stores (thn (he pins s σ H _ I h) fun v s1 ⟨x,H1,I1,r1,q1⟩=>?_) hs hw
 rw [h1]
 exact thn (hg pins s1 σ H1 x v _ I1 r1 q1) fun _ s2 q=>q
theorem dX {i:Nat} {x:Str} {e:Expr} {te:TE} {pos':Pos} (hN:X.N.Nodup) (hi:X.N[i]? = some x) (hx:Loc X.env.scope x) (he:PE X e te) (hs:swapsWith e (some (.Name x pos')) pos.line X.env=pure false:=by rfl) (hf:X.fn x=true∨X.env.scope.names.lookup x=some .local:=by first | exact .inl rfl | exact .inr rfl | assumption) :
  PS X (.Assign [.Name x pos'] e pos) (tAsg te (gName i)):=by
 intro pins s σ H D I h
 refine wpAny_Assign_Name (thn (he pins s σ H _ I h) fun v s1 ⟨y,H1,I1,r1,q1⟩=>?_) hs
 exact qb I1 hN hi hx r1 (fun s2 I2=>⟨_,H1,I2,q1⟩) hf
end
section
variable {X:Cx} {pos:Pos}
end
structure It where
 go:Nat->Hp->Prop
 yld:Nat->Hp->V->Hp->Prop
 stop:Nat->Hp->Prop
def FpOk (X:Cx) (pins:List (Addr×Obj)) (H:Hp) (b:Addr):Prop :=
 H b=none /\ b≠X.env.locals /\ b∉X.fs /\ (b∈X.ex∨X.s₀.heap.objs.size <= b) /\ (∀ x c,X.env.cells.lookup x=some c->c≠b) /\ ∀ p∈X.pn++pins,p.1≠b
theorem Inv.fpOk {X:Cx} {pins:List (Addr×Obj)} {σ:St} {H H':Hp} {s:Shared} {b:Addr} (I:Inv X pins σ H s) (hb:s.heap.objs.size <= b) (hn:H' b=none):FpOk X pins H' b:=by
 refine ⟨hn,Nat.ne_of_gt (Nat.lt_of_lt_of_le I.lt hb),I.nofs hb,.inr (Nat.le_trans I.sz hb),fun x c e z=>?_,fun p hp z=>?_⟩
 ·obtain ⟨v,q⟩:=I.cell x c e
  exact absurd (Nat.lt_of_lt_of_le q.lt (by rw [z]; exact hb)) (Nat.lt_irrefl _)
 ·exact absurd (Nat.lt_of_lt_of_le (Heap.lt_size (I.pin p hp).1) (by rw [z]; exact hb)) (Nat.lt_irrefl _)
structure Turn (P:Program) (w:World) (K:PySem.W.Frag) (tg:Expr) (J:It) (fp:List Addr) (it:Addr) (tn:Nat->Heap->Prop):Prop where
 mem:it∈fp
 obj:∀ i h,tn i h->∀ b∈fp,∃ o,h.get? b=some o /\ ∀ v,o.data ≠ .cell v
 keep:∀ i h h',tn i h->(∀ b∈fp,∀ o,h.get? b=some o->h'.get? b=some o)->tn i h'
 item:∀ (X:Cx),X.prog=P->X.w=w->X.K=K->X.calm=true->∀ (i:Nat) (pins:List (Addr×Obj)) (s:Shared) (σ:St) (H:Hp) (E:Value->Shared->Prop),Inv X pins σ H s->(∀ b∈fp,FpOk X pins H b)->tn i s.heap->J.go i H ->
  wpAny (model P w) X.A (pyNext (.ref it)) (fun r s1=>∃ u,r=some u /\
   wpAny (model P w) X.A (letOwnedTupleGo tg (.ref it) u) (fun _ s2=>∃ x H',Inv X pins σ H' s2 /\ RelV x u /\ J.yld i H x H' /\ tn (i + 1) s2.heap /\ ∀ b∈fp,H' b=none) E s1) E s
 done:∀ (X:Cx),X.prog=P->X.w=w->X.K=K->X.calm=true->∀ (i:Nat) (pins:List (Addr×Obj)) (s:Shared) (σ:St) (H:Hp) (E:Value->Shared->Prop),Inv X pins σ H s->(∀ b∈fp,FpOk X pins H b)->tn i s.heap->J.stop i H ->
  wpAny (model P w) X.A (pyNext (.ref it)) (fun r s1=>r=none /\ Inv X pins σ H s1) E s
 self:∀ (A:Around) (i:Nat) (s:Shared) (Q:Value->Shared->Prop) (E:Value->Shared->Prop),tn i s.heap->Q (.ref it) s->wpAny (model P w) A (pyIter (.ref it)) Q E s
abbrev TI:=St->Hp->(It->Hp->Prop)->Prop
def PIE (X:Cx) (pins:List (Addr×Obj)) (σ:St) (tg:Expr) (R:It->Hp->Prop) (itv:Value) (s2:Shared):Prop :=
 ∃ (it:Addr) (fp:List Addr) (tn:Nat->Heap->Prop) (J:It) (H':Hp),itv = .ref it /\ Inv X pins σ H' s2 /\ Turn X.prog X.w X.K tg J fp it tn /\ tn 0 s2.heap /\ (∀ b∈fp,FpOk X pins H' b) /\ R J H'
def PI (X:Cx) (tg iter:Expr) (wi:TI):Prop :=
 ∀ (pins:List (Addr×Obj)) (s:Shared) (σ:St) (H:Hp) (R:It->Hp->Prop),Inv X pins σ H s->wi σ H R ->
  wpAny (model X.prog X.w) X.A (eval iter X.env) (fun v s1=>wpAny (model X.prog X.w) X.A (pyIter v) (PIE X pins σ tg R) X.xe s1) X.xe s
theorem vy {M:Model} {A:Around} {E:Value->Shared->Prop} {s:Shared} {tg:Expr} {it:Addr} {u:Value} {o:Obj} {n:String} {vs:Array Value} {Q:Unit->Shared->Prop} (ho:s.heap.get? it=some o) (hc:o.cls = .type n) (hd:o.data = .fields vs)
  (hn:["enumerate","zip","dict_itemiterator","dict_reverseitemiterator","odict_iterator","itertools.zip_longest","itertools.pairwise"].contains n=false) (hQ:Q () s):wpAny M A (letOwnedTupleGo tg (.ref it) u) Q E s:=by
 unfold letOwnedTupleGo
 cases tg <;> first
  | exact wpAny_pure hQ
  | (cases u <;> first
    | exact wpAny_pure hQ
    | (refine wpAny_bind (wpAny_load ho ?_)
       rw [hc,hd]
       show wpAny M A (if (["enumerate","zip","dict_itemiterator","dict_reverseitemiterator","odict_iterator","itertools.zip_longest","itertools.pairwise"].contains n && vs[0]? == some (rawInt _))=true then _ else _) Q E s
       rw [if_neg (by intro h; rw [hn,Bool.false_and] at h; cases h)]
       exact wpAny_pure hQ))
def Itl (K:PySem.W.Frag) (a:Addr):It :=
 ⟨fun i H=>∃ xs x,SqL K H a xs /\ xs[i]? = some x,fun i H x H'=>H'=H /\ ∀ xs,SqL K H a xs->xs[i]? = some x,fun i H=>∃ xs,SqL K H a xs /\ xs.length <= i⟩
def Itt (K:PySem.W.Frag) (a:Addr):It :=
 ⟨fun i H=>∃ xs x,SqT K H a xs /\ xs[i]? = some x,fun i H x H'=>H'=H /\ ∀ xs,SqT K H a xs->xs[i]? = some x,fun i H=>∃ xs,SqT K H a xs /\ xs.length <= i⟩
def Itr (lo:Int) (n:Nat):It:=⟨fun i _=>i < n,fun i H x H'=>H'=H /\ x = .int (lo + i),fun i _=>n <= i⟩
theorem mD {P:Program} {w:World} {K:PySem.W.Frag} {tg:Expr} (a it:Addr):Turn P w K tg (Itl K a) [it] it (fun i h=>h.IsListIter it a i) where
 mem:=by simp
 obj:=fun i h st b hb=>by
  have e:b=it:=by simpa using hb
  subst e
  obtain ⟨o,e,c,d⟩:=st
  exact ⟨o,e,fun v z=>by rw [d] at z; cases z⟩
 keep:=fun i h h' st k=>st.at fun o e=>k it (by simp) o e
 item:=by
  intro X hP hw hK hc i pins s σ H E I hf st hg
  subst hP hw hK
  obtain ⟨xs,x,hq,hx⟩:=hg
  obtain ⟨its,rv,p,hz⟩:=I.list hq
  obtain ⟨u,hu,ru⟩:=rv.get hx
  obtain ⟨f0,f1,f2,f3,f4,f5⟩:=hf it (by simp)
  refine wpAny_pyNext_list_item st p.isList (x:=u) (by simpa using hu) fun h' st' sb=>?_
  have I1:Inv X pins σ H { s with heap:=h' }:=I.turned (t':=s.toks) (fun b o hb e=>(sb.2 b hb).trans e) f0 f1 f3 f4 f5
  obtain ⟨o,e,c,d⟩:=id st'
  exact ⟨u,rfl,vy (s:={ s with heap:=h' }) e c d (by decide) ⟨x,H,I1,ru,⟨rfl,fun ys hy=>by rw [I.list_inj hy hq]; exact hx⟩,st',fun b hb=>(hf b hb).1⟩⟩
 done:=by
  intro X hP hw hK hc i pins s σ H E I hf st hg
  subst hP hw hK
  obtain ⟨xs,hq,hx⟩:=hg
  obtain ⟨its,rv,p,hz⟩:=I.list hq
  obtain ⟨f0,f1,f2,f3,f4,f5⟩:=hf it (by simp)
  have hl:=rv.length
  exact wpAny_pyNext_list_end (I.ok.hd hc) st p.isList (by simp; omega) fun h' eb=>⟨rfl,I.turned (t':=s.toks) (fun b o hb e=>eb b o hb e) f0 f1 f3 f4 f5⟩
 self:=fun _ _ _ _ _ st h=>wpAny_pyIter_listiter st h
theorem kG {P:Program} {w:World} {K:PySem.W.Frag} {tg:Expr} (a it:Addr):Turn P w K tg (Itt K a) [it] it (fun i h=>h.IsTupleIter it a i) where
 mem:=by simp
 obj:=fun i h st b hb=>by
  have e:b=it:=by simpa using hb
  subst e
  obtain ⟨o,e,c,d⟩:=st
  exact ⟨o,e,fun v z=>by rw [d] at z; cases z⟩
 keep:=fun i h h' st k=>st.at fun o e=>k it (by simp) o e
 item:=by
  intro X hP hw hK hc i pins s σ H E I hf st hg
  subst hP hw hK
  obtain ⟨xs,x,hq,hx⟩:=hg
  obtain ⟨its,rv,p,hz⟩:=I.tuple hq
  obtain ⟨u,hu,ru⟩:=rv.get hx
  obtain ⟨f0,f1,f2,f3,f4,f5⟩:=hf it (by simp)
  refine wpAny_pyNext_tuple_item st (show s.heap.IsTuple a its.toArray from p) (x:=u) (by simpa using hu) fun h' st' sb=>?_
  have I1:Inv X pins σ H { s with heap:=h' }:=I.turned (t':=s.toks) (fun b o hb e=>(sb.2 b hb).trans e) f0 f1 f3 f4 f5
  obtain ⟨o,e,c,d⟩:=id st'
  exact ⟨u,rfl,vy (s:={ s with heap:=h' }) e c d (by decide) ⟨x,H,I1,ru,⟨rfl,fun ys hy=>by rw [I.tuple_inj hy hq]; exact hx⟩,st',fun b hb=>(hf b hb).1⟩⟩
 done:=by
  intro X hP hw hK hc i pins s σ H E I hf st hg
  subst hP hw hK
  obtain ⟨xs,hq,hx⟩:=hg
  obtain ⟨its,rv,p,hz⟩:=I.tuple hq
  obtain ⟨f0,f1,f2,f3,f4,f5⟩:=hf it (by simp)
  have hl:=rv.length
  exact wpAny_pyNext_tuple_end (I.ok.hd hc) st (show s.heap.IsTuple a its.toArray from p) (by simp; omega) fun h' eb=>⟨rfl,I.turned (t':=s.toks) (fun b o hb e=>eb b o hb e) f0 f1 f3 f4 f5⟩
 self:=fun _ _ _ _ _ st h=>wpAny_pyIter_tupleiter st h
theorem rq {P:Program} {w:World} {K:PySem.W.Frag} {tg:Expr} (it:Addr) (lo:Int) (n:Nat):Turn P w K tg (Itr lo n) [it] it (fun i h=>IsRangeIter h it (lo + (i:Nat) * 1) ((n:Int) - (i:Nat)) 1) where
 mem:=by simp
 obj:=fun i h st b hb=>by
  have e:b=it:=by simpa using hb
  subst e
  exact ⟨_,st,fun v z=>by
   have z':Data.fields _=Data.cell v:=z
   cases z'⟩
 keep:=fun i h h' st k=>k it (by simp) _ st
 item:=by
  intro X hP hw hK hc i pins s σ H E I hf st hg
  subst hP hw hK
  obtain ⟨f0,f1,f2,f3,f4,f5⟩:=hf it (by simp)
  have W:=Walks.range (prog:=X.prog) (w:=X.w) (I.ok.hd hc) it lo 1 n
  refine W.item i s _ _ hg st fun v h' tk hv st' kk=>?_
  obtain ⟨t,rfl⟩:=hv
  have I1:Inv X pins σ H { s with heap:=h',toks:=tk }:=I.turned (fun b o hb e=>kk b o (by simpa using hb) e) f0 f1 f3 f4 f5
  refine ⟨_,rfl,vy (s:={ s with heap:=h',toks:=tk }) (n:="range_iterator") st' rfl rfl (by decide) ⟨.int (lo + i),H,I1,⟨t,?_⟩,⟨rfl,rfl⟩,st',fun b hb=>(hf b hb).1⟩⟩
  rw [Int.mul_one]
 done:=by
  intro X hP hw hK hc i pins s σ H E I hf st hg
  subst hP hw hK
  obtain ⟨f0,f1,f2,f3,f4,f5⟩:=hf it (by simp)
  exact wpAny_pyNext_range_end (I.ok.hd hc) st (by have:n <= i:=hg; omega) fun h' eb=>⟨rfl,I.turned (t':=s.toks) (fun b o hb e=>eb b o hb e) f0 f1 f3 f4 f5⟩
 self:=fun _ _ _ _ _ st h=>wpAny_pyIter_rangeiter st h
end L2
namespace L2
open PySem PySem.Spec PyProof.Rows
section
variable {X:Cx} {tg:Expr}
def Bx (K:PySem.W.Frag) (tl:TE):TI:=fun σ H R=>tl σ H fun x H1=>∃ a,x = .ref a /\ (∃ xs,SqL K H1 a xs) /\ R (Itl K a) H1
def iTup (K:PySem.W.Frag) (tl:TE):TI:=fun σ H R=>tl σ H fun x H1=>∃ a,x = .ref a /\ (∃ xs,SqT K H1 a xs) /\ R (Itt K a) H1
theorem sF {l:Expr} {tl:TE} (hl:PE X l tl):PI X tg l (Bx X.K tl):=by
 intro pins s σ H R I h
 refine thn (hl pins s σ H _ I h) fun v s1 ⟨x,H1,I1,r1,q1⟩=>?_
 obtain ⟨a,e,⟨xs,hq⟩,q⟩:=q1
 subst e
 cases r1
 obtain ⟨its,rv,p,hz⟩:=I1.list hq
 refine wpAny_pyIter_list p.isList ?_
 refine ⟨s1.heap.objs.size,[s1.heap.objs.size],_,_,H1,rfl,I1.kept (t':=s1.toks) fun b o e=>Heap.get?_push_of_some _ e,mD a _,⟨_,Heap.get?_push_size _ rfl,rfl,rfl⟩,fun b hb=>?_,q⟩
 have e:b=s1.heap.objs.size:=by simpa using hb
 subst e
 exact I1.fpOk (Nat.le_refl _) (I1.hok.fresh (Nat.le_refl _))
theorem zB {l:Expr} {tl:TE} (hl:PE X l tl):PI X tg l (iTup X.K tl):=by
 intro pins s σ H R I h
 refine thn (hl pins s σ H _ I h) fun v s1 ⟨x,H1,I1,r1,q1⟩=>?_
 obtain ⟨a,e,⟨xs,hq⟩,q⟩:=q1
 subst e
 cases r1
 obtain ⟨its,rv,p,hz⟩:=I1.tuple hq
 refine wpAny_pyIter_tuple (show s1.heap.IsTuple a its.toArray from p) ?_
 refine ⟨s1.heap.objs.size,[s1.heap.objs.size],_,_,H1,rfl,I1.kept (t':=s1.toks) fun b o e=>Heap.get?_push_of_some _ e,kG a _,⟨_,Heap.get?_push_size _ rfl,rfl,rfl⟩,fun b hb=>?_,q⟩
 have e:b=s1.heap.objs.size:=by simpa using hb
 subst e
 exact I1.fpOk (Nat.le_refl _) (I1.hok.fresh (Nat.le_refl _))
theorem qc {pins:List (Addr×Obj)} {σ:St} {H:Hp} {s:Shared} {R:It->Hp->Prop} {E:Value->Shared->Prop} {lo hi:Int} {t u v:Tok} {tk:Nat} (I:Inv X pins σ H s) (h1 : -(2 ^ 62) <= lo) (h2:lo < 2 ^ 62) (h3 : -(2 ^ 62) <= hi) (h4:hi < 2 ^ 62)
  (q:R (Itr lo (hi - lo).toNat) H):wpAny (model X.prog X.w) X.A (pyIter (.ref s.heap.objs.size)) (PIE X pins σ tg R) E { s with heap:=s.heap.push { cls:=.type "range",data:=.fields #[.int lo t,.int hi u,.int 1 v] },toks:=tk }:=by
 refine wpAny_pyIter_range (IsRange.new ..) (small_one h1 h2 h3 h4) ?_
 have I1:Inv X pins σ H { s with heap:=s.heap.push { cls:=.type "range",data:=.fields #[.int lo t,.int hi u,.int 1 v] },toks:=tk }:=I.kept fun b o e=>Heap.get?_push_of_some _ e
 refine ⟨(s.heap.push { cls:=.type "range",data:=.fields #[.int lo t,.int hi u,.int 1 v] }).objs.size,[(s.heap.push { cls:=.type "range",data:=.fields #[.int lo t,.int hi u,.int 1 v] }).objs.size],_,_,H,rfl,
  I1.kept (t':=tk) fun b o e=>Heap.get?_push_of_some _ e,rq _ lo (hi - lo).toNat,?_,fun b hb=>?_,q⟩
 ·have e1:lo + ((0:Nat):Int) * 1=lo:=by simp
  have e2:(((hi - lo).toNat:Nat):Int) - ((0:Nat):Int)=Builtin.Range.rangeSize lo hi 1:=by rw [rangeSize_one]; split <;> omega
  show IsRangeIter _ _ (lo + ((0:Nat):Int) * 1) ((((hi - lo).toNat:Nat):Int) - ((0:Nat):Int)) 1
  rw [e1,e2]
  exact Heap.get?_push_size _ rfl
 ·have e:b=(s.heap.push { cls:=.type "range",data:=.fields #[.int lo t,.int hi u,.int 1 v] }).objs.size:=by simpa using hb
  subst e
  exact I1.fpOk (Nat.le_refl _) (I1.hok.fresh (Nat.le_refl _))
def By (ta:TA):TI:=fun σ H R=>ta σ H fun vs H1=>∃ j:Int,vs=[.int j] /\ -(2 ^ 62) <= j /\ j < 2 ^ 62 /\ R (Itr 0 j.toNat) H1
def Bz (ta:TA):TI:=fun σ H R=>ta σ H fun vs H1=>∃ i j:Int,vs=[.int i,.int j] /\ (-(2 ^ 62) <= i /\ i < 2 ^ 62 /\ -(2 ^ 62) <= j /\ j < 2 ^ 62) /\ R (Itr i (j - i).toNat) H1
theorem sG {a:Expr} {ta:TA} {p pos:Pos} (hg:Gl X "range") (hm:X.mg "range" = none) (ha:PA X [a] ta) (hs:starEach [a] X.env=[(false,eval a X.env)]:=by rfl):PI X tg (.Call (.Name "range" p) [a] [] pos) (By ta):=by
 intro pins s σ H R I h
 refine Call_ (je I hg hm boot_range (PyProof.Rows.callWith_type1 (thn (ha pos pins s σ H _ I h) fun us s1 ⟨vs,H1,I1,r1,q1⟩=>?_) hs rfl))
 obtain ⟨j,e,q1,q2,q⟩:=q1
 subst e
 cases r1 with
 | cons r rr =>
  cases rr
  obtain ⟨t,rfl⟩:=r
  exact call_range_1 (qc I1 (by omega) (by omega) q1 q2 (by simpa using q))
theorem sH {a b:Expr} {ta:TA} {p pos:Pos} (hg:Gl X "range") (hm:X.mg "range" = none) (ha:PA X [a,b] ta) (hs:starEach [a,b] X.env=[(false,eval a X.env),(false,eval b X.env)]:=by rfl) (hs2:starEach [b] X.env=[(false,eval b X.env)]:=by rfl) :
  PI X tg (.Call (.Name "range" p) [a,b] [] pos) (Bz ta):=by
 intro pins s σ H R I h
 refine Call_ (je I hg hm boot_range (PyProof.Rows.callWith_type1 (thn (ha pos pins s σ H _ I h) fun us s1 ⟨vs,H1,I1,r1,q1⟩=>?_) (by rw [hs,hs2]) (by rw [hs2]; rfl)))
 obtain ⟨i,j,e,⟨q1,q2,q3,q4⟩,q⟩:=q1
 subst e
 cases r1 with
 | cons r rr =>
  cases rr with
  | cons r' rr =>
   cases rr
   obtain ⟨t,rfl⟩:=r
   obtain ⟨t',rfl⟩:=r'
   exact call_range_2 (qc I1 q1 q2 q3 q4 q)
def tFor (wi:TI) (g:TG) (tb:TS):TS:=fun D σ H=>wi σ H fun J H1=>∃ W:Nat->Nat->St->Hp->Prop,(∃ m,W 0 m σ H1) /\ ∀ i m σ H,W i m σ H ->
 (J.stop i H /\ D.nx σ H)∨(J.go i H /\ ∃ N:St->Hp->Prop,(∀ σ' H',N σ' H'->∃ m',m' < m /\ W (i + 1) m' σ' H') /\ ∀ x H',J.yld i H x H'->g x σ H' fun σ2 H2=>tb { D with nx:=N,ct:=N,bk:=D.nx } σ2 H2)
def mE (fp:List Addr) (h:Heap):List (Addr×Obj):=fp.filterMap fun b=>(h.get? b).map fun o=>(b,o)
theorem fg {fp:List Addr} {h:Heap} {b:Addr} {o:Obj} (hb:b∈fp) (e:h.get? b=some o):(b,o)∈mE fp h:=List.mem_filterMap.mpr ⟨b,hb,by rw [e]; rfl⟩
theorem sI {fp:List Addr} {h:Heap} {p:Addr×Obj} (hp:p∈mE fp h):p.1∈fp /\ h.get? p.1=some p.2:=by
 obtain ⟨b,hb,e⟩:=List.mem_filterMap.mp hp
 cases q:h.get? b with
 | none=>rw [q] at e; cases e
 | some o =>
  rw [q] at e
  have e':(b,o)=p:=Option.some.inj e
  subst e'
  exact ⟨hb,q⟩
theorem Inv.pinned {pins:List (Addr×Obj)} {σ:St} {H:Hp} {s:Shared} {fp:List Addr} (I:Inv X pins σ H s) (hf:∀ b∈fp,FpOk X pins H b) (ho:∀ b∈fp,∃ o,s.heap.get? b=some o /\ ∀ v,o.data ≠ .cell v):Inv X (pins++mE fp s.heap) σ H s :=
 I.pins_of fun p hp=>(List.mem_append.mp hp).elim (fun z=>I.pin p (List.mem_append_right _ z)) fun z=>by
  obtain ⟨hb,e⟩:=sI z
  obtain ⟨f0,f1,f2,_⟩:=hf p.1 hb
  obtain ⟨o,e',d⟩:=ho p.1 hb
  rw [e] at e'; cases e'
  exact ⟨e,f0,f1,f2,d⟩
theorem Inv.unpinned {pins pl:List (Addr×Obj)} {σ:St} {H:Hp} {s:Shared} (I:Inv X (pins++pl) σ H s):Inv X pins σ H s:=I.pins_of fun p hp=>I.pin p (List.mem_append_right _ (List.mem_append_left _ hp))
theorem wI {iter:Expr} {body:List Stmt} {wi:TI} {g:TG} {tb:TS} {pos:Pos} (hp:PassesOwn (model X.prog X.w) X.A X.env X.xe) (hc:X.calm=true) (hi:PI X tg iter wi) (hg:PG X tg g) (hb:PSs X body tb)
  (hs:∀ x,foldedSetIterable iter X.env x=pure x:=by intro _; rfl):PS X (.For tg iter body [] pos) (tFor wi g tb):=by
 intro pins s σ H D I h
 refine wpAny_For (thn (hi pins s σ H _ I h) fun v s1 h1=>thn h1 fun itv s2 h2=>?_) hs
 obtain ⟨it,fp,tn,J,H2,e,I2,T,st2,f2,W,⟨m0,w0⟩,turn⟩:=h2
 subst e
 -- what stays true of the iterator's objects through the loop
 have stat:∀ {H':Hp},(∀ b∈fp,H' b=none)->∀ b∈fp,FpOk X pins H' b:=fun hn b hb=>⟨hn b hb,(f2 b hb).2⟩
 refine codeAny_forLoop_any (fun n s'=>∃ i σ' H',Inv X pins σ' H' s' /\ tn i s'.heap /\ (∀ b∈fp,H' b=none) /\ W i n σ' H') ?_ m0 ⟨0,σ,H2,I2,st2,fun b hb=>(f2 b hb).1,w0⟩
 rintro n s3 ⟨i,σ3,H3,I3,st3,fr3,w3⟩
 rcases turn i n σ3 H3 w3 with ⟨stop,qn⟩ | ⟨go,N,hN,step⟩
 ·refine wpAny_passesOwn hp (thn (T.done X rfl rfl rfl hc i pins s3 σ3 H3 X.xe I3 (stat fr3) st3 stop) fun r s4 ⟨hr,I4⟩=>?_)
  subst hr
  exact wpAny_execs_nil ⟨σ3,H3,I4,qn⟩
 ·refine wpAny_passesOwn hp (thn (T.item X rfl rfl rfl hc i pins s3 σ3 H3 X.xe I3 (stat fr3) st3 go) fun r s4 ⟨u,hr,h4⟩=>?_)
  subst hr
  refine wpAny_passesOwn hp (thn h4 fun _ s5 ⟨x,H5,I5,r5,y5,st5,fr5⟩=>?_)
  have I5':=I5.pinned (stat fr5) (T.obj _ _ st5)
  refine wpAny_passesOwn hp (thn (hg _ s5 σ3 H5 x u _ I5' r5 (step x H5 y5)) fun _ s6 ⟨σ6,H6,I6,q6⟩=>?_)
  refine wpAny_passesOwn hp (thn (hb _ s6 σ6 H6 _ I6 q6) fun f s7 q7=>?_)
  have again:∀ {σ7:St} {H7:Hp},Inv X (pins++mE fp s5.heap) σ7 H7 s7->N σ7 H7->∃ m,m < n /\ ∃ i σ' H',Inv X pins σ' H' s7 /\ tn i s7.heap /\ (∀ b∈fp,H' b=none) /\ W i m σ' H':=fun {σ7 H7} I7 n7=>by
   obtain ⟨m',hm,w7⟩:=hN σ7 H7 n7
   refine ⟨m',hm,i + 1,σ7,H7,I7.unpinned,T.keep _ _ _ st5 fun b hb o e=>(I7.pin (b,o) (List.mem_append_right _ (List.mem_append_right _ (fg hb e)))).1,fun b hb=>?_,w7⟩
   obtain ⟨o,e,d⟩:=T.obj _ _ st5 b hb
   exact (I7.pin (b,o) (List.mem_append_right _ (List.mem_append_right _ (fg hb e)))).2.1
  cases f with
  | next=>obtain ⟨σ7,H7,I7,n7⟩:=q7; exact again I7 n7
  | cont=>obtain ⟨σ7,H7,I7,n7⟩:=q7; exact again I7 n7
  | brk=>obtain ⟨σ7,H7,I7,q7⟩:=q7; exact ⟨σ7,H7,I7.unpinned,q7⟩
  | ret v=>obtain ⟨x7,σ7,H7,I7,r7,q7⟩:=q7; exact ⟨x7,σ7,H7,I7.unpinned,r7,q7⟩
end
end L2
namespace L2
open PySem PySem.Spec PyProof.Rows
abbrev R2:=V->V->Hp->VK->Prop
def OpR (X:Cx) (f:Value->Value->Sem Value) (r:R2):Prop :=
 ∀ (pins:List (Addr×Obj)) (s:Shared) (σ:St) (H:Hp) (x y:V) (v u:Value) (Q:VK),Inv X pins σ H s->RelV x v->RelV y u->r x y H Q ->
  wpAny (model X.prog X.w) X.A (f v u) (EP X pins σ Q) X.xe s
def UnR (X:Cx) (f:Value->Sem Value) (r:V->Hp->VK->Prop):Prop :=
 ∀ (pins:List (Addr×Obj)) (s:Shared) (σ:St) (H:Hp) (x:V) (v:Value) (Q:VK),Inv X pins σ H s->RelV x v->r x H Q ->
  wpAny (model X.prog X.w) X.A (f v) (EP X pins σ Q) X.xe s
def cx (X:Cx) (f:Value) (r:List V->Hp->VK->Prop):Prop :=
 ∀ (pins:List (Addr×Obj)) (s:Shared) (σ:St) (H:Hp) (xs:List V) (us:List Value) (Q:VK),Inv X pins σ H s->Vals xs us->r xs H Q ->
  wpAny (model X.prog X.w) X.A (call f us) (EP X pins σ Q) X.xe s
def tOp (r:R2) (ta tb:TE):TE:=fun σ H Q=>ta σ H fun x H1=>tb σ H1 fun y H2=>r x y H2 Q
def tUn (r:V->Hp->VK->Prop) (ta:TE):TE:=fun σ H Q=>ta σ H fun x H1=>r x H1 Q
def rI (C:Int->Int->Prop) (g:Int->Int->V):R2:=fun x y H Q=>∃ i j,x = .int i /\ y = .int j /\ C i j /\ Q (g i j) H
def rI0 (g:Int->Int->V):R2:=fun x y H Q=>∃ i j,x = .int i /\ y = .int j /\ Q (g i j) H
def rU (g:Int->V):V->Hp->VK->Prop:=fun x H Q=>∃ i,x = .int i /\ Q (g i) H
section
variable {X:Cx} {a b c:Expr} {ta tb tc:TE} {pos:Pos}
theorem binT (ha:PE X a ta) (hb:PE X b tb) {pins:List (Addr×Obj)} {s:Shared} {σ:St} {H:Hp} {R:V->V->Hp->Prop} (I:Inv X pins σ H s)
  (h:ta σ H fun x H1=>tb σ H1 fun y H2=>R x y H2) {Q:Value->Shared->Prop} {f:Value->Value->Sem Value}
  (hf:∀ v u s2 x y H2,Inv X pins σ H2 s2->RelV x v->RelV y u->R x y H2->wpAny (model X.prog X.w) X.A (f v u) Q X.xe s2) :
  wpAny (model X.prog X.w) X.A (eval a X.env) (fun v s₁=>wpAny (model X.prog X.w) X.A (eval b X.env) (fun u s₂=>wpAny (model X.prog X.w) X.A (f v u) Q X.xe s₂) X.xe s₁) X.xe s:=by
 refine thn (ha pins s σ H _ I h) fun v s1 ⟨x,H1,I1,r1,q1⟩=>?_
 refine thn (hb pins s1 σ H1 _ I1 q1) fun u s2 ⟨y,H2,I2,r2,q2⟩=>?_
 exact hf v u s2 x y H2 I2 r1 r2 q2
theorem cr {op:Operator} {r:R2} (ho:OpR X (binaryOp op) r) (ha:PE X a ta) (hb:PE X b tb):PE X (.BinOp a op b pos) (tOp r ta tb):=by
 intro pins s σ H Q I h
 exact wpAny_BinOp (binT ha hb I h fun v u s2 x y H2 I2 rx ry q=>ho pins s2 σ H2 x y v u Q I2 rx ry q)
theorem BB {op:UnaryOp} {r:V->Hp->VK->Prop} (ho:UnR X (unaryOp op) r) (ha:PE X a ta):PE X (.UnaryOp op a pos) (tUn r ta):=by
 intro pins s σ H Q I h
 exact UnaryOp_ (thn (ha pins s σ H _ I h) fun v s1 ⟨x,H1,I1,r1,q1⟩=>ho pins s1 σ H1 x v Q I1 r1 q1)
theorem opI {f:Value->Value->Sem Value} {C:Int->Int->Prop} {g:Int->Int->Int}
  (rule:∀ (i j:Int) (t u:Tok) (s:Shared) (Q:Value->Shared->Prop) (E:Value->Shared->Prop),C i j->Q (.int (g i j) s.toks) { s with toks:=s.toks + 1 }->wpAny (model X.prog X.w) X.A (f (.int i t) (.int j u)) Q E s) :
  OpR X f (rI C fun i j=>.int (g i j)):=by
 intro pins s σ H x y v u Q I rx ry h
 obtain ⟨i,j,rfl,rfl,hc,q⟩:=h
 obtain ⟨t,rfl⟩:=rx
 obtain ⟨t',rfl⟩:=ry
 exact rule i j t t' s _ _ hc ⟨.int (g i j),H,I.tok _,⟨_,rfl⟩,q⟩
theorem opI0 {f:Value->Value->Sem Value} {g:Int->Int->Int}
  (rule:∀ (i j:Int) (t u:Tok) (s:Shared) (Q:Value->Shared->Prop) (E:Value->Shared->Prop),Q (.int (g i j) s.toks) { s with toks:=s.toks + 1 }->wpAny (model X.prog X.w) X.A (f (.int i t) (.int j u)) Q E s) :
  OpR X f (rI0 fun i j=>.int (g i j)):=by
 intro pins s σ H x y v u Q I rx ry h
 obtain ⟨i,j,rfl,rfl,q⟩:=h
 obtain ⟨t,rfl⟩:=rx
 obtain ⟨t',rfl⟩:=ry
 exact rule i j t t' s _ _ ⟨.int (g i j),H,I.tok _,⟨_,rfl⟩,q⟩
theorem opB0 {f:Value->Value->Sem Value} {g:Int->Int->Bool}
  (rule:∀ (i j:Int) (t u:Tok) (s:Shared) (Q:Value->Shared->Prop) (E:Value->Shared->Prop),Q (.bool (g i j)) s->wpAny (model X.prog X.w) X.A (f (.int i t) (.int j u)) Q E s) :
  OpR X f (rI0 fun i j=>.bl (g i j)):=by
 intro pins s σ H x y v u Q I rx ry h
 obtain ⟨i,j,rfl,rfl,q⟩:=h
 obtain ⟨t,rfl⟩:=rx
 obtain ⟨t',rfl⟩:=ry
 exact rule i j t t' s _ _ ⟨.bl (g i j),H,I,rfl,q⟩
def CPow (i j:Int):Prop:=0 <= j /\ j <= 1000000 /\ i.natAbs < 2 ^ 64
theorem jf:OpR X (binaryOp .Add) (rI0 fun i j=>.int (i + j)):=opI0 fun _ _ _ _ _ _ _ q=>add_int q
theorem zC:OpR X (binaryOp .Sub) (rI0 fun i j=>.int (i - j)):=opI0 fun _ _ _ _ _ _ _ q=>sub_int q
theorem iB:OpR X (binaryOp .Mod) (rI (fun _ j=>0 < j) fun i j=>.int (i % j)):=opI fun i j _ _ _ _ _ hc q=>by
 have h1:(0:Int) < j:=hc
 exact mod_int' (by omega) (by rw [Int.fmod_eq_emod_of_nonneg i (by omega)]; exact q)
theorem wJ:OpR X (binaryOp .Pow) (rI CPow fun i j=>.int (i ^ j.toNat)):=opI fun _ _ _ _ _ _ _ hc q=>pow_int_small hc.1 hc.2.1 hc.2.2 q
theorem unI {f:Value->Sem Value} {g:Int->Int}
  (rule:∀ (i:Int) (t:Tok) (s:Shared) (Q:Value->Shared->Prop) (E:Value->Shared->Prop),Q (.int (g i) s.toks) { s with toks:=s.toks + 1 }->wpAny (model X.prog X.w) X.A (f (.int i t)) Q E s) :
  UnR X f (rU fun i=>.int (g i)):=by
 intro pins s σ H x v Q I rx h
 obtain ⟨i,rfl,q⟩:=h
 obtain ⟨t,rfl⟩:=rx
 exact rule i t s _ _ ⟨.int (g i),H,I.tok _,⟨_,rfl⟩,q⟩
theorem zD:UnR X (unaryOp .USub) (rU fun i=>.int (-i)):=unI fun _ _ _ _ _ q=>neg_int q
end
def scal:V->V->Bool
 | .non,.non=>true | .non,.int _=>true | .int _,.non=>true | .non,.bl _=>true | .bl _,.non=>true | .non,.str _=>true | .str _,.non=>true
 | .int _,.int _=>true | .bl _,.bl _=>true | .str _,.str _=>true | .byt _,.byt _=>true
 | .int _,.str _=>true | .str _,.int _=>true | .bl _,.str _=>true | .str _,.bl _=>true
 | _,_=>false
def rEq:R2:=fun x y H Q=>scal x y=true /\ Q (.bl (decide (x=y))) H
theorem xQ {i j:Int}:decide (V.int i=V.int j)=(i == j):=by
 rw [Bool.eq_iff_iff]
 simp
theorem zE {i j:Bool}:decide (V.bl i=V.bl j)=(i == j):=by
 rw [Bool.eq_iff_iff]
 simp
theorem xR {i j:Str}:decide (V.str i=V.str j)=(i == j):=by
 rw [Bool.eq_iff_iff]
 simp
theorem xS {i j:Array UInt8}:decide (V.byt i=V.byt j)=(i.toList == j.toList):=by
 rw [Bool.eq_iff_iff]
 cases i
 cases j
 simp
section
variable {X:Cx} {a b c:Expr} {ta tb tc:TE} {pos:Pos}
theorem bK {pins:List (Addr×Obj)} {σ:St} {H:Hp} {s:Shared} {Q:VK} {k k':Bool} (I:Inv X pins σ H s) (q:Q (.bl k) H) (e:k=k'):EP X pins σ Q (.bool k') s:=by
 subst e
 exact ⟨.bl k,H,I,rfl,q⟩
theorem BC:OpR X (compareOp .Eq) rEq:=by
 intro pins s σ H x y v u Q I rx ry h
 obtain ⟨hs,q⟩:=h
 cases x with
 | non =>
  cases rx
  cases y with
  | non=>cases ry; exact PySem.EqNone.eq_none_none (bK I q (by simp))
  | bl j=>cases ry; exact PySem.EqNone.eq_none_bool (bK I q (by simp))
  | int j=>obtain ⟨t',rfl⟩:=ry; exact PySem.EqNone.eq_none_int (bK I q (by simp))
  | str j=>obtain ⟨t',rfl⟩:=ry; exact PySem.EqNone.eq_none_str (bK I q (by simp))
  | _=>exact absurd (show false=true from hs) Bool.false_ne_true
 | bl i =>
  cases rx
  cases y with
  | non=>cases ry; exact PySem.EqNone.eq_bool_none (bK I q (by simp))
  | bl j=>cases ry; exact eq_bool (bK I q zE)
  | str j=>obtain ⟨t',rfl⟩:=ry; exact PySem.EqMixed.eq_bool_str (bK I q (by simp))
  | _=>exact absurd (show false=true from hs) Bool.false_ne_true
 | int i =>
  obtain ⟨t,rfl⟩:=rx
  cases y with
  | non=>cases ry; exact PySem.EqNone.eq_int_none (bK I q (by simp))
  | int j=>obtain ⟨t',rfl⟩:=ry; exact eq_int (bK I q xQ)
  | str j=>obtain ⟨t',rfl⟩:=ry; exact PySem.EqMixed.eq_int_str (bK I q (by simp))
  | _=>exact absurd (show false=true from hs) Bool.false_ne_true
 | str i =>
  obtain ⟨t,rfl⟩:=rx
  cases y with
  | non=>cases ry; exact PySem.EqNone.eq_str_none (bK I q (by simp))
  | bl j=>cases ry; exact PySem.EqMixed.eq_str_bool (bK I q (by simp))
  | int j=>obtain ⟨t',rfl⟩:=ry; exact PySem.EqMixed.eq_str_int (bK I q (by simp))
  | str j=>obtain ⟨t',rfl⟩:=ry; exact eq_str (bK I q xR)
  | _=>exact absurd (show false=true from hs) Bool.false_ne_true
 | byt i =>
  obtain ⟨t,rfl⟩:=rx
  cases y with
  | byt j=>obtain ⟨t',rfl⟩:=ry; exact PySem.W.eq_bytes (bK I q xS)
  | _=>exact absurd (show false=true from hs) Bool.false_ne_true
 | _=>cases y <;> exact absurd (show false=true from hs) Bool.false_ne_true
theorem BD:OpR X (compareOp .Lt) (rI0 fun i j=>.bl (decide (i < j))):=opB0 fun _ _ _ _ _ _ _ q=>lt_int q
theorem BE:OpR X (compareOp .LtE) (rI0 fun i j=>.bl (decide (i <= j))):=opB0 fun _ _ _ _ _ _ _ q=>le_int q
theorem zF:OpR X (compareOp .Gt) (rI0 fun i j=>.bl (decide (j < i))):=opB0 fun _ _ _ _ _ _ _ q=>gt_int q
theorem BF:OpR X (compareOp .GtE) (rI0 fun i j=>.bl (decide (j <= i))):=opB0 fun _ _ _ _ _ _ _ q=>ge_int q
theorem zG:OpR X (compareOp .Is) (fun x y H Q=>y = .non /\ Q (.bl (decide (x = .non))) H):=by
 intro pins s σ H x y v u Q I rx ry h
 obtain ⟨rfl,q⟩:=h
 cases ry
 refine is_none_gen (bK I q ?_)
 cases x <;> first
  | (cases rx; rfl)
  | (obtain ⟨t,rfl⟩:=rx; rfl)
theorem aH (b:Expr) {op:CmpOp} (h:op ≠ .In:=by decide) (h2:op ≠ .NotIn:=by decide):behindInMarks op b=false:=by
 have e1:(op == CmpOp.In)=false:=by cases op <;> first | rfl | exact absurd rfl h
 have e2:(op == CmpOp.NotIn)=false:=by cases op <;> first | rfl | exact absurd rfl h2
 cases b <;> simp [behindInMarks,e1,e2]
theorem xT {op:CmpOp} {r:R2} (ho:OpR X (compareOp op) r) (ha:PE X a ta) (hb:PE X b tb) (hm:behindInMarks op b=false):PE X (.Compare a [op] [b] pos) (tOp r ta tb):=by
 intro pins s σ H Q I h
 exact wpAny_Compare1 (binT ha hb I h fun v u s2 x y H2 I2 rx ry q=>ho pins s2 σ H2 x y v u Q I2 rx ry q) hm
def zH (t:TE):TT:=fun σ H Q=>t σ H fun x H'=>∃ k,x = .bl k /\ Q k H'
theorem jg {op:CmpOp} {r:R2} (ho:OpR X (compareOp op) r) (ha:PE X a ta) (hb:PE X b tb) (hm:behindInMarks op b=false):PT X (.Compare a [op] [b] pos) (zH (tOp r ta tb)):=by
 intro pins s σ H Q I h
 refine wpAny_isTrue_Compare1 (thn (ha pins s σ H _ I h) fun v s1 ⟨x,H1,I1,r1,q1⟩=>thn (hb pins s1 σ H1 _ I1 q1) fun u s2 ⟨y,H2,I2,r2,q2⟩ =>
  thn (ho pins s2 σ H2 x y v u _ I2 r1 r2 q2) fun c s3 ⟨z,H3,I3,r3,k,e,q3⟩=>?_) hm
 subst e
 cases r3
 exact wpAny_truthy_bool ⟨H3,I3,q3⟩
def sJ (r r':R2) (ta tb tc:TE):TE:=fun σ H Q=>ta σ H fun x H1=>tb σ H1 fun y H2=>r x y H2 fun z H3=>∃ k,z = .bl k /\
 (if k=true then tc σ H3 fun w' H4=>r' y w' H4 Q else Q (.bl false) H3)
theorem vz {op op':CmpOp} {r r':R2} (ho:OpR X (compareOp op) r) (ho':OpR X (compareOp op') r') (ha:PE X a ta) (hb:PE X b tb) (hc:PE X c tc)
  (hm:lastMarks [op,op'] [b,c]=false:=by with_unfolding_all rfl):PE X (.Compare a [op,op'] [b,c] pos) (sJ r r' ta tb tc):=by
 intro pins s σ H Q I h
 refine Compare_chain (thn (ha pins s σ H _ I h) fun v s1 ⟨x,H1,I1,r1,q1⟩=>chain_link (thn (hb pins s1 σ H1 _ I1 q1) fun u s2 ⟨y,H2,I2,r2,q2⟩ =>
  thn (ho pins s2 σ H2 x y v u _ I2 r1 r2 q2) fun d s3 ⟨z,H3,I3,r3,k,e,q3⟩=>?_)) hm
 subst e
 cases r3
 refine wpAny_truthy_bool ?_
 cases k with
 | false=>exact ite_ff ⟨.bl false,H3,I3,rfl,q3⟩
 | true=>exact ite_tt (chain_last (thn (hc pins s3 σ H3 _ I3 q3) fun w' s4 ⟨z',H4,I4,r4,q4⟩=>ho' pins s4 σ H4 y z' u w' Q I4 r2 r4 q4))
theorem vA {op op':CmpOp} {r r':R2} (ho:OpR X (compareOp op) r) (ho':OpR X (compareOp op') r') (ha:PE X a ta) (hb:PE X b tb) (hc:PE X c tc)
  (hm:lastMarks [op,op'] [b,c]=false:=by with_unfolding_all rfl):PT X (.Compare a [op,op'] [b,c] pos) (zH (sJ r r' ta tb tc)):=by
 intro pins s σ H Q I h
 refine isTrue_chain (thn (ha pins s σ H _ I h) fun v s1 ⟨x,H1,I1,r1,q1⟩=>test_link (thn (hb pins s1 σ H1 _ I1 q1) fun u s2 ⟨y,H2,I2,r2,q2⟩ =>
  thn (ho pins s2 σ H2 x y v u _ I2 r1 r2 q2) fun d s3 ⟨z,H3,I3,r3,k,e,q3⟩=>?_)) hm
 subst e
 cases r3
 refine wpAny_truthy_bool ?_
 cases k with
 | false =>
  obtain ⟨k',e',q'⟩:=q3
  cases e'
  exact ite_ff ⟨H3,I3,q'⟩
 | true =>
  refine ite_tt (test_last (thn (hc pins s3 σ H3 _ I3 q3) fun w' s4 ⟨z',H4,I4,r4,q4⟩=>thn (ho' pins s4 σ H4 y z' u w' _ I4 r2 r4 q4) fun d' s5 ⟨z2,H5,I5,r5,k2,e2,q5⟩=>?_))
  subst e2
  cases r5
  exact wpAny_truthy_bool ⟨H5,I5,q5⟩
theorem kH:(sizeLine:Nat) < 2 ^ 63:=by rw [sizeLine_eq]; decide
theorem rA:OpR X (binaryOp .Add) (fun x y H Q=>∃ i j,x = .str i /\ y = .str j /\ i.length + j.length <= sizeLine /\ Q (.str (i++j)) H):=by
 intro pins s σ H x y v u Q I rx ry h
 obtain ⟨i,j,rfl,rfl,hz,q⟩:=h
 obtain ⟨t,rfl⟩:=rx
 obtain ⟨t',rfl⟩:=ry
 exact add_str (fun t' tk=>⟨.str (i++j),H,I.tok _,⟨_,rfl⟩,q⟩) hz
theorem iM {x:V} {us:List Value} (r:Vals [x] us):∃ u,us=[u] /\ RelV x u:=by
 cases r with
 | cons r1 r2=>cases r2; exact ⟨_,rfl,r1⟩
theorem BG {x y:V} {us:List Value} (r:Vals [x,y] us):∃ u w',us=[u,w'] /\ RelV x u /\ RelV y w':=by
 cases r with
 | cons r1 r2 =>
  cases r2 with
  | cons r3 r4=>cases r4; exact ⟨_,_,rfl,r1,r3⟩
theorem mF:cx X (.type "str") (fun xs H Q=>∃ i,xs=[.int i] /\ i.natAbs.log2 < 1920 /\ Q (.str (toString i)) H):=by
 intro pins s σ H xs us Q I r h
 obtain ⟨i,rfl,hz,q⟩:=h
 obtain ⟨u,rfl,t,rfl⟩:=iM r
 exact PySem.P.str_of_int hz ⟨.str _,H,I.tok _,⟨_,rfl⟩,q⟩
end
end L2
namespace L2
open PySem PySem.Spec PyProof.Rows
structure ObjM (h:Heap) (x dx C:Addr) (mA:Str->Option Value):Prop where
 obj:h.get? x=some (PySem.W.instObj C dx)
 ns:h.Ns1 dx mA
 ne:dx≠x
theorem sK {h:Heap} {dx:Addr} {mA:Str->Option Value} (n:h.Ns1 dx mA):∃ od,h.get? dx=some od /\ ∀ name,PySem.W.lookIn name od=some (mA name):=by
 obtain ⟨o,es,ep,ho,hd,hk,_,hm⟩:=n
 refine ⟨o,ho,fun name=>?_⟩
 have e:=hm name
 unfold nsFind findBy at e
 rw [← Array.find?_toList] at e
 unfold PySem.W.lookIn
 rw [hd]
 dsimp only
 split
 ·rename_i y q
  rw [q] at e
  exact congrArg some e
 ·rename_i q
  rw [q] at e
  have a:es.toList.any (·.refKey)=false:=by
   rw [List.any_eq_false]
   intro y hy
   obtain ⟨z,t,hkey⟩:=hk y (Array.mem_toList_iff.mp hy)
   simp [DictEntry.refKey,hkey]
  have a':¬ es.toList.any (·.refKey)=true:=by rw [a]; exact Bool.false_ne_true
  rw [if_neg a']
  exact congrArg some e
theorem ObjM.look {h:Heap} {x dx C:Addr} {mA:Str->Option Value} (I:ObjM h x dx C mA):∃ od,PySem.W.InstAt h x (PySem.W.instObj C dx) C (some od) /\ ∀ name,PySem.W.lookIn name od=some (mA name) :=
 let ⟨od,ho,hl⟩:=sK I.ns
 ⟨od,⟨I.obj,rfl,rfl,ho⟩,hl⟩
section
variable {prog:Program} {w:World} {A:Around} {E:Value->Shared->Prop} {s:Shared} {K:PySem.W.Frag} {x dx C f:Addr} {mA:Str->Option Value} {name:Str} {v:Value}
end
theorem RelO.some_of {v:V} {o:Option Value} (r:RelO (some v) o):∃ u,o=some u /\ RelV v u:=by
 cases o with
 | none=>exact (show False from r).elim
 | some u=>exact ⟨u,rfl,r⟩
section
variable {P:Program} {w:World} {H H':Hp} {h h':Heap} {a C dx:Addr} {fs fs':List (Str×V)}
theorem xU (hok:HOk P w H h) (e:H a=some (.ins C dx fs)):∃ mA,ObjM h a dx C mA /\ (∀ f,RelO (fs.lookup f) (mA f)) /\ PySem.Within mA (fs.map (·.1)) /\ fs.length <= 1000 /\ H dx=some (.own a):=by
 obtain ⟨d,z,ne,ob,mA,n,r,q⟩:=(show ObjOk P w H h a (.ins C dx fs) from hok a _ e)
 exact ⟨mA,⟨ob,n,ne⟩,r,q,z,d⟩
end
structure Cls (K:PySem.W.Frag) (C:Addr):Prop where
 pg:PySem.W.plainGet K C Str.empty=true
 hd:PySem.W.hasDictIn K C=true
 po:PySem.W.plainOver K C=true
 sa:PySem.W.findIn K (.ref C) "__setattr__" = some (some (.builtin "object.__setattr__"))
theorem Cls.get {K:PySem.W.Frag} {C:Addr} (c:Cls K C) (f:Str):PySem.W.plainGet K C f=true:=c.pg
section
variable {X:Cx} {pins:List (Addr×Obj)} {σ:St} {H:Hp} {s:Shared} {a C dx:Addr} {fs:List (Str×V)} {f:Str} {v:V} {A:Around} {E:Value->Shared->Prop}
end
section
variable {X:Cx} {o e value:Expr} {f:Str} {pos pos' tpos:Pos} {ta tv:TE}
end
section
variable {X:Cx} {pins:List (Addr×Obj)} {σ:St} {H:Hp} {s:Shared} {A:Around} {E:Value->Shared->Prop} {Q:Value->Shared->Prop} {c:Value} {b:Bool}
inductive TyOf (K:PySem.W.Frag) (H:Hp):V->Value->Prop where
 | non:TyOf K H .non (.type "NoneType")
 | bl (x:Bool):TyOf K H (.bl x) (.type "bool")
 | int (i:Int):TyOf K H (.int i) (.type "int")
 | str (x:Str):TyOf K H (.str x) (.type "str")
 | flt (x:UInt64):TyOf K H (.flt x) (.type "float")
 | lst {a:Addr} {xs:List V} (e:H a=some (.lst xs)):TyOf K H (.ref a) (.type "list")
 | frz {a:Addr} {o:Obj} {xs:List V} (e:H a=some (.frz o (.lst xs))):TyOf K H (.ref a) (.type "list")
 | tup {a:Addr} {xs:List V} (e:H a=some (.tup xs)):TyOf K H (.ref a) (.type "tuple")
 | dK {a:Addr} {kvs:List (Key×V)} (e:H a=some (.dK kvs)):TyOf K H (.ref a) (.type "dict")
 | dT {a:Addr} {kvs:List (List Key×V)} (e:H a=some (.dT kvs)):TyOf K H (.ref a) (.type "dict")
 | ins {a C dx:Addr} {fs:List (Str×V)} (e:H a=some (.ins C dx fs)) (cl:Cls K C) (ha:PySem.W.findIn K (.ref C) "__class__" = some (some (.builtin "object.__class__")))
   (hn:PySem.W.specialIn K (.builtin "object.__class__") "__get__" = some (some (.builtin "getset_descriptor.__get__"))) (htk:PySem.W.takesIn K (.builtin "object.__class__")=some true)
   (hm:PySem.W.mroIn K C (.type "object")=some true):TyOf K H (.ref a) (.ref C)
theorem sL {x:V} {u t:Value} (I:Inv X pins σ H s) (rx:RelV x u) (ty:TyOf X.K H x t) (e:PySem.W.kitOne X.K t c=some b) (h:∀ tk,Q (.bool b) { s with toks:=tk }) :
  wpAny (model X.prog X.w) A (call (.builtin "isinstance") [u,c]) Q E s:=by
 cases ty with
 | non=>cases (show u=Value.none from rx); exact PySem.W.kia_one PySem.W.kitx_none I.kIn True.intro e (fun z=>nomatch z) h
 | bl y=>cases (show u=Value.bool y from rx); exact PySem.W.kia_one PySem.W.kitx_bool I.kIn True.intro e (fun z=>nomatch z) h
 | int i=>obtain ⟨t,q⟩:=(show ∃ t,u=Value.int i t from rx); cases q; exact PySem.W.kia_one PySem.W.kitx_int I.kIn True.intro e (fun z=>nomatch z) h
 | str y=>obtain ⟨t,q⟩:=(show ∃ t,u=Value.str y t from rx); cases q; exact PySem.W.kia_one PySem.W.kitx_str I.kIn True.intro e (fun z=>nomatch z) h
 | flt y=>obtain ⟨t,q⟩:=(show ∃ t,u=Value.float y t from rx); cases q; exact PySem.W.kia_one PySem.W.kitx_float I.kIn True.intro e (fun z=>nomatch z) h
 | @lst a xs ea =>
  cases (show u=Value.ref a from rx)
  obtain ⟨_,_,n,_,h1⟩:=(show ObjOk X.prog X.w H s.heap a (.lst xs) from I.hok a _ ea)
  exact PySem.W.kia_one PySem.W.kitx_list I.kIn ⟨_,h1,rfl⟩ e (fun z=>nomatch z) h
 | @frz a ob xs ea =>
  cases (show u=Value.ref a from rx)
  obtain ⟨_,_,_,n,_,h1⟩:=(show ObjOk X.prog X.w H s.heap a (.frz ob (.lst xs)) from I.hok a _ ea)
  exact PySem.W.kia_one PySem.W.kitx_list I.kIn ⟨_,h1,rfl⟩ e (fun z=>nomatch z) h
 | @tup a xs ea =>
  cases (show u=Value.ref a from rx)
  obtain ⟨_,_,_,p⟩:=(show ObjOk X.prog X.w H s.heap a (.tup xs) from I.hok a _ ea)
  obtain ⟨o,h1,h2,_⟩:=p
  exact PySem.W.kia_one PySem.W.kitx_tuple I.kIn ⟨o,h1,h2⟩ e (fun z=>nomatch z) h
 | @dK a kvs ea =>
  cases (show u=Value.ref a from rx)
  obtain ⟨_,_,vs,_,p⟩:=(show ObjOk X.prog X.w H s.heap a (.dK kvs) from I.hok a _ ea)
  obtain ⟨o,es,ep,h1,h2,_⟩:=p
  exact PySem.W.kia_one PySem.W.kitx_dict I.kIn ⟨o,h1,h2.1⟩ e (fun z=>nomatch z) h
 | @dT a kvs ea =>
  cases (show u=Value.ref a from rx)
  obtain ⟨_,_,xs,_,o,es,ep,h1,h2,_⟩:=(show ObjOk X.prog X.w H s.heap a (.dT kvs) from I.hok a _ ea)
  exact PySem.W.kia_one PySem.W.kitx_dict I.kIn ⟨o,h1,h2.1⟩ e (fun z=>nomatch z) h
 | @ins a C dx fs ea cl ha hn htk hm =>
  cases (show u=Value.ref a from rx)
  obtain ⟨mA,O,_⟩:=xU I.hok ea
  obtain ⟨od,J,_⟩:=O.look
  exact PySem.W.kia_one (PySem.W.kitx_own (cl.get _) cl.hd ha hn htk hm) I.kIn J e (fun z=>nomatch z) h
end
end L2
namespace L2
open PySem PySem.Spec PyProof.Rows
structure Room (k:Nat) (A:Around):Prop where
 hd:A.handled=none
 dp:A.depth + 3 * k + 5 < recursionLimit
 un:A.units + 16 * k + 200 < cLine
theorem Room.mono {j k:Nat} {A:Around} (r:Room k A) (h:j <= k):Room j A:=⟨r.hd,by have:=r.dp; omega,by have:=r.un; omega⟩
theorem Room.deeper {k:Nat} {A:Around} (r:Room (k + 1) A) (env:Env):Room k (A.deeper env) :=
 ⟨r.hd,by have:=r.dp; show A.depth + 1 + 3 * k + 5 < _; omega,by have:=r.un; show A.units + 3 + 16 * k + 200 < _; omega⟩
theorem Room.depth {k:Nat} {A:Around} (r:Room k A):A.depth < recursionLimit:=by have:=r.dp; omega
theorem Room.units {k:Nat} {A:Around} (r:Room k A):A.units + 64 < cLine:=by have:=r.un; omega
def tNil:TA:=fun _ H Q=>Q [] H
def vB (ta:TE) (tr:TA):TA:=fun σ H Q=>ta σ H fun x H1=>tr σ H1 fun xs H2=>Q (x::xs) H2
section
variable {X:Cx} {e:Expr} {es:List Expr} {te:TE} {t:TA} {pos:Pos}
theorem bL:PA X [] tNil:=fun _ _ _ _ H Q I h=>Calls.spliced_nil ⟨[],H,I,.nil,h⟩
theorem aP (ha:PE X e te) (hr:PA X es t) (hs:starEach (e::es) X.env=(false,eval e X.env)::starEach es X.env:=by rfl):PA X (e::es) (vB te t):=by
 intro pos pins s σ H Q I h
 rw [hs]
 show wpAny _ _ (spliced ((false,eval e X.env)::backTo pos (starEach es X.env))) _ _ s
 refine Calls.spliced_cons (thn (ha pins s σ H _ I h) fun u s1 ⟨x,H1,I1,r1,q1⟩=>?_)
 exact thn (hr pos pins s1 σ H1 _ I1 q1) fun us s2 ⟨xs,H2,I2,r2,q2⟩=>⟨x::xs,H2,I2,.cons r1 r2,q2⟩
def tTup (t:TA):TE:=fun σ H Q=>t σ H fun xs H1=>xs.length <= sizeLine /\ ∀ p,H1 p=none->Q (.ref p) (upd H1 p (.tup xs))
def tLst (t:TA):TE:=fun σ H Q=>t σ H fun xs H1=>xs.length <= sizeLine /\ ∀ p,H1 p=none->Q (.ref p) (upd H1 p (.lst xs))
theorem wK {x1} (h:PA X es t):PE X (.Tuple es x1 pos) (tTup t):=by
 intro pins s σ H Q I hq
 refine wpAny_Tuple_spliced (thn (h pos pins s σ H _ I hq) fun us s1 ⟨xs,H1,I1,r,z,q⟩=>⟨by rw [← r.length]; exact z,?_⟩)
 have hf:H1 s1.heap.objs.size=none:=I1.hok.fresh (Nat.le_refl _)
 refine ⟨.ref s1.heap.objs.size,upd H1 s1.heap.objs.size (.tup xs),I1.laid (t':=s1.toks) (fun b u e=>Heap.get?_push_of_some _ e) (Nat.le_refl _) ?_,rfl,q _ hf⟩
 exact ⟨⟨z,.inl ⟨_,Heap.get?_push_size _ rfl,rfl⟩⟩,us,r,⟨_,Heap.get?_push_size _ rfl,rfl,_,rfl⟩⟩
theorem sM (h:PA X es t):PE X (.List es pos) (tLst t):=by
 intro pins s σ H Q I hq
 refine wpAny_List_spliced (thn (h pos pins s σ H _ I hq) fun us s1 ⟨xs,H1,I1,r,z,q⟩=>⟨by rw [← r.length]; exact z,?_⟩)
 have hf:H1 s1.heap.objs.size=none:=I1.hok.fresh (Nat.le_refl _)
 refine ⟨.ref s1.heap.objs.size,upd H1 s1.heap.objs.size (.lst xs),I1.laid (t':=s1.toks) (fun b u e=>Heap.get?_push_of_some _ e) (Nat.le_refl _) ?_,rfl,q _ hf⟩
 exact ⟨z,us,0,r,Heap.get?_push_size _ rfl⟩
end
abbrev Sp:=List V->Hp->VK->XK->Prop
abbrev CXT:=List Env->Hp->Shared->XK->Value->Shared->Prop
structure Env0 (P:Program) (w:World) (K:PySem.W.Frag) (mg:Str->Option Value) (base:Heap) (A:Around) (outer:List Env) (s:Shared) (H:Hp):Prop where
 frames:A.frames=some outer
 mod:Mod K mg base
 bs:∀ b o,base.get? b=some o->s.heap.get? b=some o /\ H b=none
 bsz:base.objs.size <= s.heap.objs.size
 funs:s.heap.FunFrames base outer
 frf:∀ b∈frs outer,H b=none
 hok:HOk P w H s.heap
 bare:AllBare s.gens
def CE (outer:List Env) (P:Program) (w:World) (H:Hp) (s:Shared) (Q:VK) (u:Value) (s':Shared):Prop :=
 ∃ v H',s'.os=s.os /\ AllBare s'.gens /\ Un (frs outer) [] H H' s.heap s'.heap /\ HOk P w H' s'.heap /\ RelV v u /\ Q v H'
def CR (CX:CXT) (outer:List Env) (P:Program) (w:World) (H:Hp) (s:Shared) (Q:VK) (E:XK) (r:Result) (s':Shared):Prop :=
 match r with
 | .ok (.ret u)=>CE outer P w H s Q u s'
 | .ok _=>False
 | .error e=>CX outer H s E e s'
structure FnOk (P:Program) (w:World) (K:PySem.W.Frag) (mg:Str->Option Value) (base:Heap) (CX:CXT) (k:Nat) (f:Addr) (fd:FuncData) (ps:List Str) (sp:Sp):Prop where
 len:∀ vs H Q E,sp vs H Q E->vs.length=ps.length
 run:∀ (A:Around) (outer:List Env) (s:Shared) (H:Hp) (args:Args) (us:List Value) (vs:List V) (Q:VK) (E:XK),Room k A->Env0 P w K mg base A outer s H->BindsTo s fd args (ps.zip us)->Vals vs us->sp vs H Q E ->
  codeAny (model P w) A (.call (.ref f) args) (CR CX outer P w H s Q E) s
theorem FnOk.imp {P:Program} {w:World} {K:PySem.W.Frag} {mg:Str->Option Value} {base:Heap} {CX:CXT} {k:Nat} {f:Addr} {fd:FuncData} {ps:List Str} {sp sp':Sp} (F:FnOk P w K mg base CX k f fd ps sp)
  (h:∀ vs H Q E,sp' vs H Q E->sp vs H Q E):FnOk P w K mg base CX k f fd ps sp' :=
 ⟨fun vs H Q E q=>F.len vs H Q E (h _ _ _ _ q),fun A outer s H args us vs Q E hr he hb hv hs=>F.run A outer s H args us vs Q E hr he hb hv (h _ _ _ _ hs)⟩
section
variable {X:Cx} {pins:List (Addr×Obj)} {σ:St} {H:Hp} {s s':Shared}
theorem Inv.env0 (I:Inv X pins σ H s):Env0 X.prog X.w X.K X.mg X.base X.A X.stack s H :=
 ⟨I.ok.frames,I.ok.mod,I.bs,Nat.le_trans I.ok.bsz I.sz,I.stack,I.stkFree,I.hok,I.bare⟩
theorem Inv.after {Q:VK} {u:Value} (I:Inv X pins σ H s) (h:CE X.stack X.prog X.w H s Q u s'):EP X pins σ Q u s':=by
 obtain ⟨v,H',os,bare,un,hok,r,q⟩:=h
 obtain ⟨hh,g,d,t,os'⟩:=s'
 obtain rfl:os'=s.os:=os
 exact ⟨v,H',I.call (h':=hh) (g':=g) (d':=d) (t':=t) (ch:=[]) un hok bare (fun b z=>absurd z (by simp)),r,q⟩
end
def zI (sp:Sp) (dvs:List V) (E:XK) (t:TA):TE:=fun σ H Q=>t σ H fun vs H1=>sp (vs++dvs) H1 Q E
def Binds (K:PySem.W.Frag) (fd:FuncData) (ps:List Str) (ds:List Value):Prop :=
 ∀ (s:Shared) (us:List Value),K.In s.heap->(us++ds).length=ps.length->BindsTo s fd ⟨us,[]⟩ (ps.zip (us++ds))
theorem Binds.all {K:PySem.W.Frag} {fd:FuncData} {ps:List Str} (h:∀ us:List Value,us.length=ps.length->bindArgs fd ⟨us,[]⟩=pure (ps.zip us)):Binds K fd ps []:=fun s us _ hl=>by
 rw [List.append_nil] at hl ⊢
 exact .of_eq (h us hl)
def sN (CX:CXT) (X:Cx) (E:XK):Prop:=∀ (pins:List (Addr×Obj)) (σ:St) (H:Hp) (s:Shared) (e:Value) (s':Shared),Inv X pins σ H s->CX X.stack H s E e s'->X.xe e s'
section
variable {X:Cx} {CX:CXT} {k:Nat} {f C:Addr} {fd:FuncData} {ps:List Str} {sp:Sp} {dvs:List V} {ds:List Value} {E:XK} {x m:Str} {p pos apos:Pos} {e o:Expr} {es:List Expr} {ta:TE} {t:TA}
theorem zJ {pins:List (Addr×Obj)} {σ:St} {H:Hp} {s:Shared} {Q:VK} {us:List Value} {vs:List V} (F:FnOk X.prog X.w X.K X.mg X.base CX k f fd ps sp) (hr:Room k X.A) (hb:Binds X.K fd ps ds) (hd:Vals dvs ds) (hx:sN CX X E)
  (I:Inv X pins σ H s) (r:Vals vs us) (h:sp (vs++dvs) H Q E):wpAny (model X.prog X.w) X.A (call (.ref f) us) (EP X pins σ Q) X.xe s:=by
 have r2:Vals (vs++dvs) (us++ds):=r.append hd
 have hl:(us++ds).length=ps.length:=by rw [← r2.length]; exact F.len _ _ _ _ h
 refine wpAny_call (codeAny_mono (F.run X.A X.stack s H ⟨us,[]⟩ (us++ds) (vs++dvs) Q E hr I.env0 (hb s us I.kIn hl) r2 h) fun r s' hq=>?_)
 cases r with
 | error e=>exact hx pins σ H s e s' I hq
 | ok fl =>
  cases fl with
  | ret u=>exact I.after hq
  | next=>exact False.elim hq
  | brk=>exact False.elim hq
  | cont=>exact False.elim hq
theorem oM (F:FnOk X.prog X.w X.K X.mg X.base CX k f fd ps sp) (hr:Room k X.A) (hg:Gl X x) (hm:X.mg x=some (.ref f)) (hk:PySem.W.keepIn X.K (.ref f)=true) (hb:Binds X.K fd ps ds) (hd:Vals dvs ds) (hx:sN CX X E)
  (ha:PA X (e::es) t) (hdb:(x == ("__debug__" : Str))=false:=by decide) (he:starEach (e::es) X.env=(false,eval e X.env)::starEach es X.env:=by rfl) (hpl:(backTo pos (starEach es X.env)).any (·.1)=false:=by rfl) :
  PE X (.Call (.Name x p) (e::es) [] pos) (zI sp dvs E t):=by
 intro pins s σ H Q I h
 refine wpAny_Call_Name_kw (sD I hg hm ?_ hdb)
 refine PySem.W.callWith_K (h₀:=X.base) I.ok.mod.kin hk (thn (ha pos pins s σ H _ I h) fun us s1 ⟨vs,H1,I1,r,q⟩=>⟨I1.kIn,?_⟩) he hpl
 exact zJ F hr hb hd hx I1 r q
end
section
variable {X:Cx} {CX:CXT} {k:Nat} {f C:Addr} {fd:FuncData} {ps ks:List Str} {sp:Sp} {E:XK} {x m:Str} {p pos apos kpos:Pos} {e o:Expr} {es:List Expr} {kws:List Keyword} {te ta:TE} {t tk:TA} {nm:Option Str}
variable {g:List Value->List Value->List Value} {gV:List V->List V->List V}
end
structure FnScope (N P:List Str) (sc:Scope):Prop where
 kind:sc.kind = .function
 co:sc.isCoroutine=false
 gen:sc.isGenerator=false
 nd:N.Nodup
 pre:N.take P.length=P
 par:∀ x∈P,sc.names.lookup x=some .local∨sc.names.lookup x=some .cell
 nofree:∀ y∈sc.names,y.2 ≠ .free
theorem mG {kindOf:Str->Option NameKind} {x:Str}:∀ {binds:List (Str×Value)} {m:Str->Option Value},(∀ v,(x,v)∉binds)->bindL kindOf binds m x=m x
 | [],_,_=>rfl
 | (n,v)::r,m,h=>by
  unfold bindL
  rw [mG fun w hw=>h w (List.mem_cons_of_mem _ hw)]
  split
  ·have:x≠n:=by rintro rfl; exact h v List.mem_cons_self
   simp [this]
  ·rfl
theorem mH {kindOf:Str->Option NameKind} {x:Str}:∀ {binds:List (Str×Value)} {m:Str->Option Value},(∀ v,(x,v)∉binds)->bindC kindOf binds m x=m x
 | [],_,_=>rfl
 | (n,v)::r,m,h=>by
  unfold bindC
  rw [mH fun w hw=>h w (List.mem_cons_of_mem _ hw)]
  split
  ·rfl
  ·have:x≠n:=by rintro rfl; exact h v List.mem_cons_self
   simp [this]
theorem mI {kindOf:Str->Option NameKind} {x:Str} {v:Value}:∀ {P:List Str} {vs:List Value} {i:Nat} {m:Str->Option Value},P.Nodup->P[i]? = some x->vs[i]? = some v->kindOf x=some .local ->
  bindL kindOf (P.zip vs) m x=some v
 | [],_,_,_,_,h,_,_=>by simp at h
 | _::_,[],_,_,_,_,h,_=>by simp at h
 | p::P,w::vs,0,m,nd,h1,h2,hk=>by
  simp at h1 h2; subst h1; subst h2
  show bindL kindOf ((p,w)::P.zip vs) m p=_
  unfold bindL
  rw [mG fun v hv=>(List.nodup_cons.mp nd).1 (List.of_mem_zip hv).1,if_pos hk]
  simp
 | p::P,w::vs,i + 1,m,nd,h1,h2,hk=>by
  show bindL kindOf ((p,w)::P.zip vs) m x=_
  unfold bindL
  exact mI (i:=i) (List.nodup_cons.mp nd).2 (by simpa using h1) (by simpa using h2) hk
theorem mJ {kindOf:Str->Option NameKind} {x:Str} {v:Value}:∀ {P:List Str} {vs:List Value} {i:Nat} {m:Str->Option Value},P.Nodup->P[i]? = some x->vs[i]? = some v->kindOf x≠some .local ->
  bindC kindOf (P.zip vs) m x=some v
 | [],_,_,_,_,h,_,_=>by simp at h
 | _::_,[],_,_,_,_,h,_=>by simp at h
 | p::P,w::vs,0,m,nd,h1,h2,hk=>by
  simp at h1 h2; subst h1; subst h2
  show bindC kindOf ((p,w)::P.zip vs) m p=_
  unfold bindC
  rw [mH fun v hv=>(List.nodup_cons.mp nd).1 (List.of_mem_zip hv).1,if_neg hk]
  simp
 | p::P,w::vs,i + 1,m,nd,h1,h2,hk=>by
  show bindC kindOf ((p,w)::P.zip vs) m x=_
  unfold bindC
  exact mJ (i:=i) (List.nodup_cons.mp nd).2 (by simpa using h1) (by simpa using h2) hk
def start (N:List Str) (vs:List V):St:=vs.map some++List.replicate (N.length - vs.length) none
def cxOf (CX:CXT) (P:Program) (w:World) (K:PySem.W.Frag) (mg:Str->Option Value) (base:Heap) (N:List Str) (qual:Str) (scope:Scope) (f:Addr) (cd:Value) (A:Around) (outer:List Env) (s:Shared) (H:Hp) (E:XK):Cx where
 prog:=P
 w:=w
 K:=K
 mg:=mg
 base:=base
 A:=A.deeper (envOfC qual scope s.heap.objs.size f cd)
 N:=N
 s₀:=s
 H₀:=H
 env:=envOfC qual scope s.heap.objs.size f cd
 outer:=outer
 stack:=envOfC qual scope s.heap.objs.size f cd::outer
 ex:=[]
 calm:=true
 fn:=fun _=>true
 pn:=[]
 xe:=fun e s'=>wpAny (model P w) (A.deeper (envOfC qual scope s.heap.objs.size f cd)) (leaving (envOfC qual scope s.heap.objs.size f cd) e) (fun _ s''=>CX outer H s E e s'') (fun e' s''=>CX outer H s E e' s'') s'
theorem qd {sc:Scope} {n:Nat} {x:Str} (h:sc.names.lookup x=some .cell):∃ c,(cellsFrom n sc.names []).lookup x=some c:=by
 have q:=PySem.W.cellsFrom_some sc.names n [] (.inl h)
 exact Option.isSome_iff_exists.mp q
theorem sO {CX:CXT} {P:Program} {w:World} {K:PySem.W.Frag} {mg:Str->Option Value} {base:Heap} {N ps:List Str} {qual:Str} {scope:Scope} {f:Addr} {cd:Value} {A:Around} {outer:List Env} {s s1:Shared} {H:Hp} {E:XK} {us:List Value} {vs:List V}
  (S:FnScope N ps scope) (hd:A.handled=none) (e0:Env0 P w K mg base A outer s H) (hl:vs.length=ps.length) (r:Vals vs us)
  (x:InCallC s s.heap.objs.size (bindL (envOfC qual scope s.heap.objs.size f cd).kindOf (ps.zip us) fun _=>none) (cellsFrom (s.heap.objs.size + 1) scope.names []) (bindC (envOfC qual scope s.heap.objs.size f cd).kindOf (ps.zip us) fun _=>none) s1) :
  Inv (cxOf CX P w K mg base N qual scope f cd A outer s H E) [] (start N vs) H s1:=by
 have hpl:ps.length <= N.length:=by have:=congrArg List.length S.pre; rw [List.length_take] at this; omega
 obtain ⟨h1,tk,rfl,hk⟩:=x.done
 have noA:∀ b:Addr,b∉(cxOf CX P w K mg base N qual scope f cd A outer s H E).ex:=fun b z=>absurd (show b∈([]:List Addr) from z) (by simp)
 refine ⟨⟨e0.mod,S.kind,rfl,rfl,Nat.le_refl _,fun y z c h1 h2=>?_,fun y hy=>?_,fun y c _ h=>?_,fun _=>hd,Around.frames_deeper e0.frames,.inr ⟨rfl,rfl⟩,fun b z=>absurd z (noA b),e0.bs,e0.bsz,fun b _ _=>noA b,fun b z=>absurd z (noA b),e0.funs,e0.frf⟩,
  rfl,e0.bare,Un.kept hk,⟨_,x.toInCall.ns,fun i y v h1 h2 h3=>?_⟩,fun y c h=>⟨_,x.cell y c h⟩,e0.hok.fresh (Nat.le_refl _),fun y c h=>?_,fun p hp=>absurd (show p∈([]:List (Addr×Obj)) from hp) (by simp),e0.hok.kept hk,?_⟩
 ·exact name_of_addr x.apart (PySem.mem_of_lookup h1) (PySem.mem_of_lookup h2)
 ·have hy:scope.names.lookup y=some .cell∨scope.names.lookup y=some .free:=hy
  rcases hy with hy | hy
  ·exact qd hy
  ·exact absurd rfl (S.nofree _ (PySem.mem_of_lookup hy))
 ·exact Nat.le_of_lt (x.above y c (PySem.mem_of_lookup h))
 ·have hi:i < vs.length:=by
   unfold start at h2
   by_cases hi:i < vs.length
   ·exact hi
   ·rw [List.getElem?_append_right (by simpa using hi)] at h2
    rw [List.getElem?_replicate] at h2
    split at h2 <;> cases h2
  have ha:vs[i]? = some v:=by
   unfold start at h2
   rw [List.getElem?_append_left (by simpa using hi),List.getElem?_map] at h2
   cases e:vs[i]? with
   | none=>rw [e] at h2; cases h2
   | some a=>rw [e] at h2; cases h2; rfl
  obtain ⟨u,hu,rv⟩:=r.get ha
  have hp:ps[i]? = some y:=by
   rw [← S.pre,List.getElem?_take_of_lt (by omega)]; exact h1
  have ndP:ps.Nodup:=by rw [← S.pre]; exact S.nd.sublist (List.take_sublist _ _)
  refine ⟨u,rv,?_⟩
  rcases S.par y (List.mem_of_getElem? hp) with k | k
  ·exact .inl ⟨k,mI ndP hp hu k⟩
  ·obtain ⟨c,e⟩:=qd (n:=s.heap.objs.size + 1) k
   refine .inr ⟨.inl k,c,e,?_⟩
   have q:=x.cell y c e
   rw [mJ ndP hp hu (by show scope.names.lookup y≠_; rw [k]; decide)] at q
   exact q
 ·exact e0.hok.fresh (Nat.le_of_lt (x.above y c (PySem.mem_of_lookup h)))
 ·unfold start
  show _=N.length
  rw [List.length_append,List.length_map,List.length_replicate]
  omega
theorem BH {CX:CXT} {P:Program} {w:World} {K:PySem.W.Frag} {mg:Str->Option Value} {base:Heap} {k:Nat} {f:Addr} {name qual:Str} {params:Arguments} {body:List Stmt} {scope:Scope} {dV kV doc pm cdv ct oc:Value} {an od:Option Addr}
  {osl:Array (Option Value)} {N ps:List Str} {sp:Sp} (lk:K.lookup f=some ⟨oc,od,.func (PySem.W.fnOf name qual params body scope dV kV doc pm an cdv ct),osl⟩) (hcd:PySem.W.codeIn K cdv qual=true) (S:FnScope N ps scope)
  (len:∀ vs H Q E,sp vs H Q E->vs.length=ps.length)
  (hbody:∀ (A:Around) (outer:List Env) (s:Shared) (H:Hp) (vs:List V) (Q:VK) (E:XK),Room k (A.deeper (envOfC qual scope s.heap.objs.size f cdv))->sp vs H Q E ->
   ∃ t,PSs (cxOf CX P w K mg base N qual scope f cdv A outer s H E) body t /\ t { nx:=fun _ H'=>Q .non H',rt:=Q } (start N vs) H) :
  FnOk P w K mg base CX (k + 1) f (PySem.W.fnOf name qual params body scope dV kV doc pm an cdv ct) ps sp:=by
 refine ⟨len,fun A outer s H args us vs Q E hr e0 hb r hsp=>?_⟩
 have hl:=len _ _ _ _ hsp
 have KX:K.In s.heap:=e0.mod.kin.keeps fun b o e=>(e0.bs b o e).1
 have lim:s.heap.NoLimit:=e0.mod.nolimit.keeps fun b o e=>(e0.bs b o e).1
 have hkind:∀ y∈ps.zip us,scope.names.lookup y.1=some .local∨(scope.names.lookup y.1=some .cell /\ ((cellsFrom (s.heap.objs.size + 1) scope.names []).lookup y.1).isSome=true):=fun ⟨n,v⟩ hy=>by
  rcases S.par n (List.of_mem_zip hy).1 with q | q
  ·exact .inl q
  ·exact .inr ⟨q,PySem.W.cellsFrom_some _ _ _ (.inl q)⟩
 refine codeAny_call_function hr.depth (KX _ _ lk) rfl S.co S.gen rfl (PySem.W.codeRec_of KX hcd) (hb _ _ _ _ ?_)
 refine wpAny_newFunctionEnv_cells S.kind hkind fun env he s1 x=>?_
 subst he
 refine ⟨lim.keeps x.toInCall.keep,codeAny_func ?_⟩
 obtain ⟨t,ht,hq⟩:=hbody A outer s H vs Q E (hr.deeper _) hsp
 have I:Inv (cxOf CX P w K mg base N qual scope f cdv A outer s H E) [] (start N vs) H s1:=sO S hr.hd e0 hl r x
 refine wpAny_mono (ht [] s1 (start N vs) H _ I hq) (fun fl s' hs=>?_) fun e s' hs=>hs
 have fin:∀ {σ':St} {H':Hp} {v:V} {u:Value},Inv (cxOf CX P w K mg base N qual scope f cdv A outer s H E) [] σ' H' s'->RelV v u->Q v H'->CE outer P w H s Q u s' :=
  fun {σ' H' v u} J rv q=>⟨v,H',J.os,J.bare,J.base,J.hok,rv,q⟩
 cases fl with
 | ret u =>
  obtain ⟨v,σ',H',J,rv,q⟩:=hs
  exact fin J rv q
 | next =>
  obtain ⟨σ',H',J,q⟩:=hs
  exact fin (v:=V.non) (u:=Value.none) J rfl q
 | brk =>
  obtain ⟨_,_,_,q⟩:=hs
  exact False.elim q
 | cont =>
  obtain ⟨_,_,_,q⟩:=hs
  exact False.elim q
end L2
namespace L2
open PySem PySem.Spec PyProof.Rows
section
variable {X:Cx} {x:Str} {p pos:Pos} {e:Expr} {es:List Expr} {t:TA} {id T:String} {r:List V->Hp->VK->Prop}
def tCB (r:List V->Hp->VK->Prop) (t:TA):TE:=fun σ H Q=>t σ H fun vs H1=>r vs H1 Q
theorem gh (hc:cx X (.builtin id) r) (hg:Gl X x) (hm:X.mg x=none) (hv:bootBuiltins x=some (.builtin id)) (ha:PA X (e::es) t) (hn:x ≠ "__name__":=by decide) (hdb:(x == ("__debug__" : Str))=false:=by decide)
  (he:starEach (e::es) X.env=(false,eval e X.env)::starEach es X.env:=by rfl) (hpl:(backTo pos (starEach es X.env)).any (·.1)=false:=by rfl):PE X (.Call (.Name x p) (e::es) [] pos) (tCB r t):=by
 intro pins s σ H Q I h
 refine wpAny_Call_Name_kw (je I hg hm hv ?_ hn hdb)
 exact PyProof.Rows.callWith_builtin1 (thn (ha pos pins s σ H _ I h) fun us s1 ⟨vs,H1,I1,r1,q1⟩=>hc pins s1 σ H1 vs us Q I1 r1 q1) he hpl
theorem ji (hc:cx X (.type T) r) (hg:Gl X x) (hm:X.mg x=none) (hv:bootBuiltins x=some (.type T)) (ha:PA X (e::es) t) (hn:x ≠ "__name__":=by decide) (hdb:(x == ("__debug__" : Str))=false:=by decide)
  (he:starEach (e::es) X.env=(false,eval e X.env)::starEach es X.env:=by rfl) (hpl:(backTo pos (starEach es X.env)).any (·.1)=false:=by rfl):PE X (.Call (.Name x p) (e::es) [] pos) (tCB r t):=by
 intro pins s σ H Q I h
 refine wpAny_Call_Name_kw (je I hg hm hv ?_ hn hdb)
 exact PyProof.Rows.callWith_type1 (thn (ha pos pins s σ H _ I h) fun us s1 ⟨vs,H1,I1,r1,q1⟩=>hc pins s1 σ H1 vs us Q I1 r1 q1) he hpl
end
end L2
namespace HT
open PySem PyProof.Rows
def lexLt:List Int->List Int->Bool
 | [],[]=>false
 | [],_::_=>true
 | _::_,[]=>false
 | x::xs,y::ys=>if x=y then lexLt xs ys else decide (x < y)
theorem lexLt_cons (x y:Int) (xs ys:List Int):lexLt (x::xs) (y::ys)=if x=y then lexLt xs ys else decide (x < y):=rfl
section
open PySem.SeqAt
open PySem.AutoSeq1 (wpAny_loadPart')
open PySem.MeetsSeq PySem.MeetsSeq2 PySem.MeetsSeq3
end
section
variable {prog:Program} {w:World} {A:Around} {E:Value->Shared->Prop} {s:Shared}
def sIx (n d:Nat):Option Int->Nat
 | none=>d
 | some v=>if v < 0 then (v + (n:Int)).toNat else min v.toNat n
theorem sIx_none (n d:Nat):sIx n d none=d:=rfl
theorem sIx_nat (n d k:Nat):sIx n d (some (k:Int))=min k n:=by
 show (if (k:Int) < 0 then ((k:Int) + (n:Int)).toNat else min (k:Int).toNat n)=min k n
 rw [if_neg (by omega),Int.toNat_natCast]
end
end HT
namespace L2
open PySem PySem.Spec PyProof.Rows
abbrev TO:=St->Hp->(Option Int->Hp->Prop)->Prop
def PO (X:Cx) (e:Option Expr) (t:TO):Prop :=
 ∀ (pins:List (Addr×Obj)) (s:Shared) (σ:St) (H:Hp) (Q:Option Int->Hp->Prop),Inv X pins σ H s->t σ H Q ->
  wpAny (model X.prog X.w) X.A (evalPart e X.env) (fun u s'=>∃ o H',Inv X pins σ H' s' /\ IsPart u o /\ Q o H') X.xe s
def xV:TO:=fun _ H Q=>Q none H
def BI (t:TE):TO:=fun σ H Q=>t σ H fun x H1=>∃ i,x = .int i /\ Q (some i) H1
theorem gM {ns:List Int}:∀ {us:List Value},Vals (ns.map V.int) us->IntsAre us ns:=by
 induction ns with
 | nil=>intro us r; rw [List.map_nil] at r; cases r; exact .nil
 | cons n ns ih =>
  intro us r
  rw [List.map_cons] at r
  cases r with
  | cons r1 r2 =>
   obtain ⟨t,e⟩:=r1
   subst e
   exact .cons n t (ih r2)
section
variable {X:Cx} {e:Expr} {te:TE} {lo hi:Option Expr} {tl th:TO} {pos p2:Pos}
theorem xW:PO X none xV:=by
 intro pins s σ H Q I h
 rw [evalPart_none]
 exact wpAny_pure ⟨none,H,I,.none,h⟩
theorem xX (h:PE X e te):PO X (some e) (BI te):=by
 intro pins s σ H Q I hw
 rw [evalPart_some]
 refine thn (h pins s σ H _ I hw) fun u s1 ⟨x,H1,I1,r1,q1⟩=>?_
 obtain ⟨i,rfl,q⟩:=q1
 obtain ⟨t,rfl⟩:=r1
 exact ⟨some i,H1,I1,.int i t,q⟩
def SlR (X:Cx) (r:V->Option Int->Option Int->Hp->VK->Prop):Prop :=
 ∀ (pins:List (Addr×Obj)) (s:Shared) (σ:St) (H:Hp) (x:V) (v vl vu:Value) (lo hi:Option Int) (sl:Addr) (Q:VK),Inv X pins σ H s->RelV x v->s.heap.IsSliceOf sl vl vu .none->IsPart vl lo->IsPart vu hi->r x lo hi H Q ->
  ∃ T id,typeLookup (.type T) "__getitem__" = pure (some (.builtin id)) /\ s.TypeIs v T /\ wpAny (model X.prog X.w) X.A (getItem v (.ref sl)) (EP X pins σ Q) X.xe s
def tSl (r:V->Option Int->Option Int->Hp->VK->Prop) (te:TE) (tl th:TO):TE:=fun σ H Q=>te σ H fun x H1=>tl σ H1 fun l H2=>th σ H2 fun u H3=>r x l u H3 Q
theorem qe {r:V->Option Int->Option Int->Hp->VK->Prop} (hr:SlR X r) (he:PE X e te) (hl:PO X lo tl) (hu:PO X hi th):PE X (.Subscript e (.Slice lo hi none p2) pos) (tSl r te tl th):=by
 intro pins s σ H Q I h
 refine Subscript_ (thn (he pins s σ H _ I h) fun v s1 ⟨x,H1,I1,r1,q1⟩=>?_)
 refine wpAny_Slice (thn (hl pins s1 σ H1 _ I1 q1) fun vl s2 ⟨l,H2,I2,pl,q2⟩=>thn (hu pins s2 σ H2 _ I2 q2) fun vu s3 ⟨u,H3,I3,pu,q3⟩=>?_)
 rw [evalPart_none]
 refine wpAny_pure ?_
 have I4:Inv X pins σ H3 { s3 with heap:=s3.heap.push { cls:=.type "slice",data:=.fields #[vl,vu,.none] } }:=I3.kept (t':=s3.toks) fun b ob q=>Heap.get?_push_of_some _ q
 obtain ⟨T,id,hT,ht,hg⟩:=hr pins { s3 with heap:=s3.heap.push { cls:=.type "slice",data:=.fields #[vl,vu,.none] } } σ H3 x v vl vu l u s3.heap.objs.size Q I4 r1 (Heap.IsSliceOf.new ..) pl pu q3
 show wpAny (model X.prog X.w) X.A (subscriptTail e (.Slice lo hi none p2) v (.ref s3.heap.objs.size)) (EP X pins σ Q) X.xe { s3 with heap:=s3.heap.push { cls:=.type "slice",data:=.fields #[vl,vu,.none] } }
 exact tail_any (ops:=[.ref s3.heap.objs.size,v]) ht hT hg (by with_unfolding_all rfl)
def cutV (xs:List V) (lo hi:Option Int):List V:=(xs.drop (HT.sIx xs.length 0 lo)).take (HT.sIx xs.length xs.length hi - HT.sIx xs.length 0 lo)
theorem oN (xs:List V) (lo hi:Option Int):(cutV xs lo hi).length <= xs.length:=by
 unfold cutV
 rw [List.length_take,List.length_drop]
 omega
end
end L2
namespace L2
open PySem PySem.Spec PyProof.Rows
def ixN (n:Nat) (i:Int):Option Nat:=if 0 <= i then (if i < n then some i.toNat else none) else if -(n:Int) <= i then some (i + n).toNat else none
def atI {α:Type} (xs:List α) (i:Int):Option α:=(ixN xs.length i).bind fun j=>xs[j]?
theorem sP {n:Nat} {i:Int} {j:Nat} (h:ixN n i=some j):seqIndex? i n=some j /\ j < n /\ -(n:Int) <= i /\ i < n:=by
 unfold ixN at h
 by_cases h0:0 <= i
 ·rw [if_pos h0] at h
  by_cases h1:i < n
  ·rw [if_pos h1] at h
   have e:i.toNat=j:=Option.some.inj h
   exact ⟨by rw [seqIndex_of h0 h1,e],by omega,by omega,h1⟩
  ·rw [if_neg h1] at h; cases h
 ·rw [if_neg h0] at h
  by_cases h1 : -(n:Int) <= i
  ·rw [if_pos h1] at h
   have e:(i + n).toNat=j:=Option.some.inj h
   exact ⟨by rw [seqIndex_neg (by omega) h1,e],by omega,h1,by omega⟩
  ·rw [if_neg h1] at h; cases h
theorem oO {α:Type} {xs:List α} {i:Int} {v:α} (h:atI xs i=some v):∃ j,seqIndex? i xs.length=some j /\ xs[j]? = some v /\ j < xs.length /\ -(xs.length:Int) <= i /\ i < xs.length:=by
 unfold atI at h
 cases e:ixN xs.length i with
 | none=>rw [e] at h; cases h
 | some j =>
  rw [e] at h
  obtain ⟨h1,h2,h3,h4⟩:=sP e
  exact ⟨j,h1,h,h2,h3,h4⟩
theorem atI_nat {α:Type} {xs:List α} {j:Nat} {v:α} (h:xs[j]? = some v):atI xs (j:Int)=some v:=by
 have hj:j < xs.length:=(List.getElem?_eq_some_iff.mp h).1
 have e:ixN xs.length (j:Int)=some j:=by
  unfold ixN
  rw [if_pos (by omega),if_pos (by omega)]; simp
 unfold atI; rw [e]; exact h
def oP (b:Expr):Prop:=∀ o i,subscripted b false o i=operate [o,i] (getItem o i)
def IxR (X:Cx) (r:R2):Prop :=
 ∀ (value slice:Expr) (pins:List (Addr×Obj)) (s:Shared) (σ:St) (H:Hp) (x y:V) (v u:Value) (Q:VK),Inv X pins σ H s->RelV x v->RelV y u->r x y H Q ->
  subscripted slice false v u=operate [v,u] (getItem v u)->wpAny (model X.prog X.w) X.A (subscriptTail value slice v u) (EP X pins σ Q) X.xe s
def MtR (X:Cx) (id:String) (r:V->List V->Hp->VK->Prop):Prop :=
 ∀ (pins:List (Addr×Obj)) (s:Shared) (σ:St) (H:Hp) (x:V) (xs:List V) (v:Value) (us:List Value) (Q:VK),Inv X pins σ H s->RelV x v->Vals xs us->r x xs H Q ->
  wpAny (model X.prog X.w) X.A (call (.builtin id) (v::us)) (EP X pins σ Q) X.xe s
section
variable {X:Cx} {a b:Expr} {ta tb:TE} {pos:Pos}
theorem IxR.or {r r':R2} (h:IxR X r) (h':IxR X r'):IxR X (fun x y H Q=>r x y H Q∨r' x y H Q):=by
 intro value slice pins s σ H x y v u Q I rx ry q hs
 rcases q with q | q
 ·exact h value slice pins s σ H x y v u Q I rx ry q hs
 ·exact h' value slice pins s σ H x y v u Q I rx ry q hs
theorem mK {r:R2} (hr:IxR X r) (ha:PE X a ta) (hb:PE X b tb) (hs:oP b):PE X (.Subscript a b pos) (tOp r ta tb):=by
 intro pins s σ H Q I h
 exact Subscript_ (binT ha hb I h fun v u s2 x y H2 I2 rx ry q=>hr a b pins s2 σ H2 x y v u Q I2 rx ry q (hs _ _))
def rIxL (K:PySem.W.Frag):R2:=fun x y H Q=>∃ p xs i v,x = .ref p /\ y = .int i /\ SqL K H p xs /\ atI xs i=some v /\ Q v H
def rIxT (K:PySem.W.Frag):R2:=fun x y H Q=>∃ p xs i v,x = .ref p /\ y = .int i /\ SqT K H p xs /\ atI xs i=some v /\ Q v H
def rIxS:R2:=fun x y H Q=>∃ z i c,x = .str z /\ y = .int i /\ z.length <= sizeLine /\ atI z.cps.toList i=some c /\ Q (.str ⟨#[c]⟩) H
theorem lg:IxR X (rIxL X.K):=by
 intro value slice pins s σ H x y v u Q I rx ry h hs
 obtain ⟨p,xs,i,z,rfl,rfl,hq,he,q⟩:=h
 cases rx
 obtain ⟨t,rfl⟩:=ry
 obtain ⟨its,r,pl,hz⟩:=I.list hq
 obtain ⟨j,h1,h2,h3,h4,h5⟩:=oO he
 obtain ⟨w,ew,rw'⟩:=r.get h2
 have hl:=r.length
 have hn:=kH
 have fin:EP X pins σ Q w s:=⟨z,H,I,rw',q⟩
 by_cases h0:0 <= i
 ·have hj:i.toNat=j:=by
   rw [seqIndex_of h0 h5] at h1
   exact Option.some.inj h1
  exact item_listR pl.isList h0 (by omega) (by rw [hj]; simpa using ew) fin hs
 ·have hj:(i + (its.toArray.size:Int)).toNat=j:=by
   rw [seqIndex_neg (by omega) h4] at h1
   rw [List.size_toArray,← hl]
   exact Option.some.inj h1
  exact subscriptTail_builtinR (x:=w) pl.isList.typeIs slot_list_getitem.lookup
   (wpAny_getItem_list_neg (Q:=fun r s'=>r=w /\ EP X pins σ Q r s') pl.isList (by omega) (by rw [List.size_toArray] <;> omega) (by omega) (by rw [hj]; simpa using ew) ⟨rfl,fin⟩) hs
theorem zK:IxR X (rIxT X.K):=by
 intro value slice pins s σ H x y v u Q I rx ry h hs
 obtain ⟨p,xs,i,z,rfl,rfl,hq,he,q⟩:=h
 cases rx
 obtain ⟨t,rfl⟩:=ry
 obtain ⟨its,r,pl,hz⟩:=I.tuple hq
 obtain ⟨j,h1,h2,h3,h4,h5⟩:=oO he
 obtain ⟨w,ew,rw'⟩:=r.get h2
 have hl:=r.length
 have hn:=kH
 have fin:EP X pins σ Q w s:=⟨z,H,I,rw',q⟩
 exact subscriptTail_builtinR (x:=w) pl.typeIs slot_tuple_getitem.lookup
  (getItem_tuple (j:=j) (Q:=fun r s'=>r=w /\ EP X pins σ Q r s') pl (by omega) (by omega) (by rw [List.size_toArray,← hl]; exact h1) (by simpa using ew) ⟨rfl,fin⟩) hs
theorem zL:IxR X rIxS:=by
 intro value slice pins s σ H x y v u Q I rx ry h hs
 obtain ⟨z,i,c,rfl,rfl,hz,he,q⟩:=h
 obtain ⟨t,rfl⟩:=rx
 obtain ⟨t',rfl⟩:=ry
 obtain ⟨j,h1,h2,h3,h4,h5⟩:=oO he
 have hl:z.cps.toList.length=z.length:=by simp [Str.length]
 rw [hl] at h1 h4 h5
 have hn:=kH
 exact tail_any (typeIs_str s z t) slot_str_getitem.lookup (getItem_str (c:=c) (by
  have e1:decide (i < -(2 ^ 63:Int))=false:=decide_eq_false (by omega)
  have e2:decide (i ≥ 2 ^ 63)=false:=decide_eq_false (by omega)
  rw [e1,e2,Bool.or_false]) (by rw [h1]; simpa using h2) ⟨.str ⟨#[c]⟩,H,I.tok _,⟨_,rfl⟩,q⟩) hs
theorem rB (its:List Value) (n j:Nat) (u:Value):Obj.mapSeq (·.setIfInBounds j u) { cls:=.type "list",data:=.seq its.toArray n }={ cls:=.type "list",data:=.seq (its.set j u).toArray n }:=by
 simp [Obj.mapSeq]
theorem Inv.lst {pins:List (Addr×Obj)} {σ:St} {H:Hp} {s:Shared} {p:Addr} {xs:List V} (I:Inv X pins σ H s) (h:H p=some (.lst xs)) :
  ∃ (its:List Value) (n:Nat),Vals xs its /\ s.heap.get? p=some { cls:=.type "list",data:=.seq its.toArray n } /\ xs.length <= sizeLine:=by
 obtain ⟨z,its,n,r,e⟩:=I.hok p _ h
 exact ⟨its,n,r,e,z⟩
theorem Inv.lstUpd {pins:List (Addr×Obj)} {σ:St} {H:Hp} {s:Shared} {p:Addr} {xs ys:List V} {its its':List Value} {n n':Nat} {f:Obj->Obj} (I:Inv X pins σ H s) (h:H p=some (.lst xs))
  (ho:s.heap.get? p=some { cls:=.type "list",data:=.seq its.toArray n }) (hf:f { cls:=.type "list",data:=.seq its.toArray n }={ cls:=.type "list",data:=.seq its'.toArray n' }) (r:Vals ys its') (hz:ys.length <= sizeLine) (t:Nat) :
  Inv X pins σ (upd H p (.lst ys)) { s with heap:=s.heap.update p f,toks:=t }:=by
 have e:(s.heap.update p f).get? p=some { cls:=.type "list",data:=.seq its'.toArray n' }:=by
  rw [Heap.get?_update_self f ho (by rw [hf] <;> rfl),hf]
 refine I.write (x:=p) (e:=p) (by rw [h]; trivial) (.inl rfl) (fun b u hb q=>(Heap.get?_update_other _ _ (Ne.symm hb)).trans q) ⟨_,e⟩ ?_
 exact ⟨hz,its',n',r,e⟩
def BJ:V->V->V->Hp->(Hp->Prop)->Prop:=fun o i v H Q=>∃ p xs k j,o = .ref p /\ i = .int k /\ H p=some (.lst xs) /\ ixN xs.length k=some j /\ Q (upd H p (.lst (xs.set j v)))
theorem lq:PSet X BJ:=by
 intro pins s σ H o i v ov iv u Q I ro ri rv h
 obtain ⟨p,xs,k,j,rfl,rfl,hp,hj,q⟩:=h
 cases ro
 obtain ⟨t,rfl⟩:=ri
 obtain ⟨its,n,r,ho,hz⟩:=I.lst hp
 obtain ⟨h1,h2,h3,h4⟩:=sP hj
 have hl:=r.length
 have hn:=kH
 have I':Inv X pins σ (upd H p (.lst (xs.set j v))) { s with heap:=s.heap.update p (Obj.mapSeq (·.setIfInBounds j u)) } :=
  I.lstUpd hp ho (rB its n j u) (r.set rv j) (by rw [List.length_set]; exact hz) s.toks
 by_cases h0:0 <= k
 ·have hk:k.toNat=j:=by
   rw [seqIndex_of h0 h4] at h1
   exact Option.some.inj h1
  exact PySem.W.ki_setAt ho h0 (by omega) (by rw [List.size_toArray,← hl]; exact h4) (by rw [hk]; exact ⟨_,I',q⟩)
 ·have hk:(k + (its.toArray.size:Int)).toNat=j:=by
   rw [seqIndex_neg (by omega) h3] at h1
   rw [List.size_toArray,← hl]
   exact Option.some.inj h1
  exact PySem.W.ki_setBack ho (by omega) (by rw [List.size_toArray,← hl]; exact h3) (by omega) (by rw [hk]; exact ⟨_,I',q⟩)
theorem mL (lo hi:Option Int) (n:Nat):(sliceBounds lo hi none n).1=((HT.sIx n 0 lo:Nat):Int) /\ (sliceBounds lo hi none n).2.1=((HT.sIx n n hi:Nat):Int) /\ (sliceBounds lo hi none n).2.2=1:=by
 refine ⟨?_,?_,rfl⟩
 ·cases lo with
  | none=>simp [sliceBounds,HT.sIx]
  | some i =>
   simp only [sliceBounds,HT.sIx,Option.getD_none,show (1:Int) > 0 by decide,if_true]
   by_cases h:i < 0
   ·simp only [h,if_true] <;> omega
   ·simp only [h,if_false] <;> omega
 ·cases hi with
  | none=>simp [sliceBounds,HT.sIx]
  | some i =>
   simp only [sliceBounds,HT.sIx,Option.getD_none,show (1:Int) > 0 by decide,if_true]
   by_cases h:i < 0
   ·simp only [h,if_true] <;> omega
   ·simp only [h,if_false] <;> omega
theorem lr (its:List Value) (lo hi:Option Int):slicePick its.toArray lo hi none=((its.drop (HT.sIx its.length 0 lo)).take (HT.sIx its.length its.length hi - HT.sIx its.length 0 lo)).toArray:=by
 obtain ⟨h1,h2,h3⟩:=mL lo hi its.toArray.size
 unfold slicePick
 rw [h1,h2,h3]
 simp only [sliceRange_one,pick_run,List.size_toArray] <;> rfl
def rSlL (K:PySem.W.Frag):V->Option Int->Option Int->Hp->VK->Prop:=fun x lo hi H Q=>∃ a xs,x = .ref a /\ SqL K H a xs /\ ∀ p,H p=none->Q (.ref p) (upd H p (.lst (cutV xs lo hi)))
theorem xY:SlR X (rSlL X.K):=by
 intro pins s σ H x v vl vu lo hi sl Q I rx hs pl pu h
 obtain ⟨a,xs,rfl,hx,q⟩:=h
 cases rx
 obtain ⟨its,r,ht,hz⟩:=I.list hx
 have hlen:=r.length
 refine ⟨"list",_,slot_list_getitem.lookup,ht.isList.typeIs,?_⟩
 refine wpAny_getItem_list_slice ht.isList hs pl pu .none (by simp) ?_ (by rw [List.size_toArray] <;> omega)
 rw [lr,← hlen]
 refine ⟨.ref s.heap.objs.size,_,I.laid (t':=s.toks) (o:=.lst (cutV xs lo hi)) (fun b ob q=>Heap.get?_push_of_some _ q) (Nat.le_refl _) ?_,rfl,q _ (I.hok.fresh (Nat.le_refl _))⟩
 exact ⟨Nat.le_trans (oN xs lo hi) hz,_,0,(r.drop (HT.sIx xs.length 0 lo)).take (HT.sIx xs.length xs.length hi - HT.sIx xs.length 0 lo),Heap.get?_push_size _ rfl⟩
def fC:V->Bool
 | .non=>true
 | .bl _=>true
 | .int _=>true
 | .str _=>true
 | _=>false
def eqV:V->V->Bool
 | .non,.non=>true
 | .bl a,.bl b=>a == b
 | .bl a,.int b=>(if a then 1 else 0) == b
 | .int a,.bl b=>a == (if b then 1 else 0)
 | .int a,.int b=>a == b
 | .str a,.str b=>a == b
 | _,_=>false
theorem zM {A:Around} {s:Shared} {y x:V} {u v:Value} (ry:RelV y u) (rx:RelV x v) (fy:fC y=true) (fx:fC x=true):SeqAt.EqAt A s u v (eqV y x):=by
 cases y with
 | non =>
  cases ry
  cases x with
  | non=>cases rx; exact SeqAt.EqAt.same _
  | bl b=>cases rx; exact SeqAt.EqAt.none_bool b
  | int b=>obtain ⟨t,rfl⟩:=rx; exact SeqAt.EqAt.none_int b t
  | str b=>obtain ⟨t,rfl⟩:=rx; exact SeqAt.EqAt.none_str b t
  | _=>exact absurd (show false=true from fx) Bool.false_ne_true
 | bl a =>
  cases ry
  cases x with
  | non=>cases rx; exact SeqAt.EqAt.bool_none a
  | bl b=>cases rx; exact SeqAt.EqAt.bool_bool a b
  | int b=>obtain ⟨t,rfl⟩:=rx; exact SeqAt.EqAt.bool_int a b t
  | str b=>obtain ⟨t,rfl⟩:=rx; exact SeqAt.EqAt.bool_str a b t
  | _=>exact absurd (show false=true from fx) Bool.false_ne_true
 | int a =>
  obtain ⟨t',rfl⟩:=ry
  cases x with
  | non=>cases rx; exact SeqAt.EqAt.int_none a t'
  | bl b=>cases rx; exact SeqAt.EqAt.int_bool a t' b
  | int b=>obtain ⟨t,rfl⟩:=rx; exact SeqAt.EqAt.int_int a t' b t
  | str b=>obtain ⟨t,rfl⟩:=rx; exact SeqAt.EqAt.int_str a t' b t
  | _=>exact absurd (show false=true from fx) Bool.false_ne_true
 | str a =>
  obtain ⟨t',rfl⟩:=ry
  cases x with
  | non=>cases rx; exact SeqAt.EqAt.str_none a t'
  | bl b=>cases rx; exact SeqAt.EqAt.str_bool a t' b
  | int b=>obtain ⟨t,rfl⟩:=rx; exact SeqAt.EqAt.str_int a t' b t
  | str b=>obtain ⟨t,rfl⟩:=rx; exact SeqAt.EqAt.str_str a t' b t
  | _=>exact absurd (show false=true from fx) Bool.false_ne_true
 | _=>exact absurd (show false=true from fy) Bool.false_ne_true
def eqU (x:V) (u:Value):Bool:=match u with
 | .none=>eqV .non x
 | .bool b=>eqV (.bl b) x
 | .int i _=>eqV (.int i) x
 | .str z _=>eqV (.str z) x
 | _=>false
theorem sQ {x y:V} {u:Value} (r:RelV y u) (f:fC y=true):eqU x u=eqV y x:=by
 cases y with
 | non=>cases r; rfl
 | bl b=>cases r; rfl
 | int i=>obtain ⟨t,rfl⟩:=r; rfl
 | str z=>obtain ⟨t,rfl⟩:=r; rfl
 | _=>exact absurd (show false=true from f) Bool.false_ne_true
theorem oQ {x:V}:∀ {xs:List V} {us:List Value},Vals xs us->xs.all fC=true->us.any (eqU x)=xs.any fun y=>eqV y x
 | _,_,.nil,_=>rfl
 | y::xs,u::us,.cons r t,f=>by
  rw [List.all_cons,Bool.and_eq_true] at f
  rw [List.any_cons,List.any_cons,sQ r f.1,oQ t f.2]
theorem iT {A:Around} {s:Shared} {x:V} {v:Value} (rx:RelV x v) (fx:fC x=true):∀ {xs:List V} {us:List Value},Vals xs us->xs.all fC=true->∀ u∈us,SeqAt.EqAt A s u v (eqU x u)
 | _,_,.nil,_=>fun u hu=>by cases hu
 | y::xs,u::us,.cons r t,f=>fun u' hu=>by
  rw [List.all_cons,Bool.and_eq_true] at f
  rcases List.mem_cons.mp hu with rfl | hu
  ·rw [sQ r f.1]; exact zM r rx f.1 fx
  ·exact iT rx fx t f.2 u' hu
def inV (x:V) (xs:List V):Bool:=xs.any fun y=>eqV y x
def rIn (K:PySem.W.Frag) (neg:Bool):R2:=fun x y H Q=>∃ p xs,y = .ref p /\ (SqL K H p xs∨SqT K H p xs) /\ fC x=true /\ xs.all fC=true /\ Q (.bl (if neg then !inV x xs else inV x xs)) H
theorem mM:OpR X (compareOp .NotIn) (rIn X.K true):=by
 intro pins s σ H x y v u Q I rx ry h
 obtain ⟨p,xs,rfl,hq,fx,fs,q⟩:=h
 cases ry
 rcases hq with hq | hq
 ·obtain ⟨its,r,pl,hz⟩:=I.list hq
  refine SeqAt.notIn_listAt (eqU x) pl.isList (fun w hw=>iT rx fx r fs w (by simpa using hw)) ⟨.bl _,H,I,rfl,?_⟩
  rw [show its.toArray.any (eqU x)=its.any (eqU x) by simp,oQ r fs]
  exact q
 ·obtain ⟨its,r,pl,hz⟩:=I.tuple hq
  refine SeqAt.notIn_tupleAt (eqU x) pl (fun w hw=>iT rx fx r fs w (by simpa using hw)) ⟨.bl _,H,I,rfl,?_⟩
  rw [show its.toArray.any (eqU x)=its.any (eqU x) by simp,oQ r fs]
  exact q
theorem bW:cx X (.builtin "len") (fun xs H Q=>∃ p ys,xs=[.ref p] /\ (SqL X.K H p ys∨SqT X.K H p ys) /\ Q (.int ys.length) H):=by
 intro pins s σ H xs us Q I r h
 obtain ⟨p,ys,rfl,hq,q⟩:=h
 obtain ⟨u,rfl,rx⟩:=iM r
 cases rx
 have hn:=kH
 rcases hq with hq | hq
 ·obtain ⟨its,r',pl,hz⟩:=I.list hq
  have hlen:=r'.length
  exact Calls.call_len_list pl.isList (by simp only [List.size_toArray] <;> omega) ⟨.int ys.length,H,I.tok _,⟨s.toks + 1,by rw [List.size_toArray,hlen]⟩,q⟩
 ·obtain ⟨its,r',pl,hz⟩:=I.tuple hq
  have hlen:=r'.length
  exact len_tuple pl (by simp only [List.size_toArray] <;> omega) ⟨.int ys.length,H,I.tok _,⟨s.toks + 1,by rw [List.size_toArray,hlen]⟩,q⟩
theorem mO:cx X (.builtin "len") (fun xs H Q=>∃ z,xs=[.str z] /\ z.length <= sizeLine /\ Q (.int z.length) H):=by
 intro pins s σ H xs us Q I r h
 obtain ⟨z,rfl,hz,q⟩:=h
 obtain ⟨u,rfl,t,rfl⟩:=iM r
 have hn:=kH
 exact len_str (by omega) ⟨.int z.length,H,I.tok _,⟨_,rfl⟩,q⟩
theorem mP:cx X (.type "list") (fun xs H Q=>∃ p ys,xs=[.ref p] /\ (SqL X.K H p ys∨SqT X.K H p ys) /\ ∀ l,H l=none->Q (.ref l) (upd H l (.lst ys))):=by
 intro pins s σ H xs us Q I r h
 obtain ⟨p,ys,rfl,hq,q⟩:=h
 obtain ⟨u,rfl,rx⟩:=iM r
 cases rx
 have fin:∀ (its:List Value),Vals ys its->ys.length <= sizeLine->∀ (h':Heap) (c':Nat),(∀ b o',s.heap.get? b=some o'->h'.get? b=some o') ->
   h'.get? s.heap.objs.size=some { cls:=.type "list",dict:=none,data:=.seq its.toArray c',slots:=#[] }->EP X pins σ Q (.ref s.heap.objs.size) { s with heap:=h' }:=fun its r' hz h' c' kp e =>
  ⟨.ref s.heap.objs.size,_,I.laid (t':=s.toks) kp (Nat.le_refl _) (show ObjOk X.prog X.w _ h' _ (.lst ys) from ⟨hz,its,c',r',e⟩),rfl,q _ (I.hok.fresh (Nat.le_refl _))⟩
 rcases hq with hq | hq
 ·obtain ⟨its,r',pl,hz⟩:=I.list hq
  have hlen:=r'.length
  obtain ⟨o,ho,hc,n,hd⟩:=pl.isList
  exact call_list_seq p (.inl rfl) ho hc hd (fun h' c' kp e=>fin its r' hz h' c' kp e) (by simp only [List.size_toArray] <;> omega)
 ·obtain ⟨its,r',pl,hz⟩:=I.tuple hq
  have hlen:=r'.length
  obtain ⟨o,ho,hc,n,hd⟩:=pl
  exact call_list_seq p (.inr rfl) ho hc hd (fun h' c' kp e=>fin its r' hz h' c' kp e) (by simp only [List.size_toArray] <;> omega)
theorem lu:cx X (.type "tuple") (fun xs H Q=>∃ p ys,xs=[.ref p] /\ ((SqL X.K H p ys /\ ∀ l,H l=none->Q (.ref l) (upd H l (.tup ys)))∨(SqT X.K H p ys /\ Q (.ref p) H))):=by
 intro pins s σ H xs us Q I r h
 obtain ⟨p,ys,rfl,h⟩:=h
 obtain ⟨u,rfl,rx⟩:=iM r
 cases rx
 rcases h with ⟨hq,q⟩ | ⟨hq,q⟩
 ·obtain ⟨its,r',pl,hz⟩:=I.list hq
  have hlen:=r'.length
  refine call_tuple_list pl.isList (fun h' kp=>?_) (by simp only [List.size_toArray] <;> omega)
  have I1:Inv X pins σ H { s with heap:=h' }:=I.kept (t':=s.toks) kp
  have I2:Inv X pins σ (upd H h'.objs.size (.tup ys)) { s with heap:=h'.push { cls:=.type "tuple",data:=.seq its.toArray } } :=
   I1.laid (t':=s.toks) (fun b o e=>Heap.get?_push_of_some _ e) (Nat.le_refl _) (show ObjOk X.prog X.w _ _ _ (.tup ys) from ⟨⟨hz,.inl ⟨_,Heap.get?_push_size _ rfl,rfl⟩⟩,its,r',IsTup.new _ _⟩)
  exact ⟨.ref h'.objs.size,_,I2,rfl,q _ (I1.hok.fresh (Nat.le_refl _))⟩
 ·obtain ⟨its,r',pl,hz⟩:=I.tuple hq
  exact call_tuple_same pl ⟨.ref p,H,I,rfl,q⟩
def tyV (K:PySem.W.Frag) (T:String) (x:V) (H:Hp):Prop:=match x with
 | .str _=>T = "str"
 | .int _=>T = "int"
 | .ref p=>(T = "list" /\ ∃ xs,SqL K H p xs)∨(T = "tuple" /\ ∃ o,K.lookup p=some o /\ o.cls = .type "tuple" /\ o.dict=none) ∨
   (T = "dict" /\ ((∃ kvs,H p=some (.dK kvs))∨∃ kvs,H p=some (.dT kvs)))∨(T = "set" /\ ∃ S n,H p=some (.set S n))
 | _=>False
theorem wL {pins:List (Addr×Obj)} {σ:St} {H:Hp} {s:Shared} {T:String} {x:V} {v:Value} (I:Inv X pins σ H s) (r:RelV x v) (ty:tyV X.K T x H) :
  s.TypeIs v T /\ ∀ a,v = .ref a->∃ ob,s.heap.get? a=some ob /\ ob.dict=none:=by
 cases x with
 | str z =>
  obtain ⟨t,rfl⟩:=r
  cases (show T = "str" from ty)
  exact ⟨typeIs_str s z t,fun _ e=>nomatch e⟩
 | int i =>
  obtain ⟨t,rfl⟩:=r
  cases (show T = "int" from ty)
  exact ⟨typeIs_int s i t,fun _ e=>nomatch e⟩
 | ref p =>
  cases r
  rcases ty with ⟨rfl,xs,hq⟩ | ⟨rfl,o,hk,hc,hd⟩ | ⟨rfl,hk⟩ | ⟨rfl,S,n,hk⟩
  ·obtain ⟨its,_,pl,_⟩:=I.list hq
   refine ⟨pl.isList.typeIs,fun a e=>?_⟩
   cases e
   obtain ⟨o,n,e,c,hd,_⟩:=pl
   exact ⟨o,e,hd⟩
  ·refine ⟨⟨o,I.kIn p o hk,hc⟩,fun a e=>?_⟩
   cases e
   exact ⟨o,I.kIn _ o hk,hd⟩
  ·have z:∃ o,s.heap.get? p=some o /\ o.ExactDict:=by
    rcases hk with ⟨kvs,hk⟩ | ⟨kvs,hk⟩
    ·obtain ⟨_,_,_,_,o,_,_,e,ex,_⟩:=I.hok p _ hk
     exact ⟨o,e,ex⟩
    ·obtain ⟨_,_,_,_,o,_,_,e,ex,_⟩:=I.hok p _ hk
     exact ⟨o,e,ex⟩
   obtain ⟨o,e,ex⟩:=z
   refine ⟨⟨o,e,ex.1⟩,fun a e2=>?_⟩
   cases e2
   exact ⟨o,e,ex.2.1⟩
  ·obtain ⟨o,_,_,_,e,ex,_⟩:=I.hok p _ hk
   refine ⟨⟨o,e,ex.1⟩,fun a e2=>?_⟩
   cases e2
   exact ⟨o,e,ex.2.1⟩
 | _=>exact False.elim ty
def tBM0 (K:PySem.W.Frag) (T:String) (r:V->List V->Hp->VK->Prop) (to:TE):TE:=fun σ H Q=>to σ H fun x H1=>tyV K T x H1 /\ r x [] H1 Q
def tBM (K:PySem.W.Frag) (T:String) (r:V->List V->Hp->VK->Prop) (to:TE) (t:TA):TE:=fun σ H Q=>to σ H fun x H1=>tyV K T x H1 /\ t σ H1 fun xs H2=>r x xs H2 Q
variable {o e:Expr} {es:List Expr} {to:TE} {t:TA} {name:Str} {apos cpos:Pos} {T id:String} {r:V->List V->Hp->VK->Prop}
theorem sR (pa:PlainAttrs T) (slot:Slot T name id) (hty:typeOf (.builtin id)=pure (.type "method_descriptor")) (hm:MtR X id r) (ho:PE X o to)
  (hbase:attributeBase o name X.env (eval o X.env)=eval o X.env:=by rfl) (hline:(apos.endLine == cpos.line)=true:=by rfl):PE X (.Call (.Attribute o name apos) [] [] cpos) (tBM0 X.K T r to):=by
 intro pins s σ H Q I h
 refine wpAny_Call_method0_late hbase hline (thn (ho pins s σ H _ I h) fun v s1 ⟨x,H1,I1,r1,ty,q1⟩=>?_)
 obtain ⟨h1,h2⟩:=wL I1 r1 ty
 exact ⟨T,id,pa,slot,hty,h1,h2,Calls.callWith_builtin rfl (PySem.evalArgs_none (hm pins s1 σ H1 x [] v [] Q I1 r1 .nil q1))⟩
theorem oR (pa:PlainAttrs T) (slot:Slot T name id) (hty:typeOf (.builtin id)=pure (.type "method_descriptor")) (hm:MtR X id r) (ho:PE X o to) (ha:PA X (e::es) t)
  (hbase:attributeBase o name X.env (eval o X.env)=eval o X.env:=by rfl)
  (hfew:((backTo cpos (starEach (e::es) X.env)).all (fun x=>!x.1) && (backToKw cpos (keywordEach [] X.env)).all (fun x=>x.1.isSome)
   && decide ((e::es).length + ([]:List Keyword).length + (if ([]:List Keyword).isEmpty then 0 else 1) < 30))=true:=by rfl)
  (hline:(apos.endLine == cpos.line)=true:=by rfl) (hs:starEach (e::es) X.env=(false,eval e X.env)::starEach es X.env:=by rfl) (hplain:(backTo cpos (starEach es X.env)).any (·.1)=false:=by rfl) :
  PE X (.Call (.Attribute o name apos) (e::es) [] cpos) (tBM X.K T r to t):=by
 intro pins s σ H Q I h
 refine wpAny_Call_method_late hbase hfew hline rfl (thn (ho pins s σ H _ I h) fun v s1 ⟨x,H1,I1,r1,ty,q1⟩=>?_)
 obtain ⟨h1,h2⟩:=wL I1 r1 ty
 refine ⟨T,id,pa,slot,hty,h1,h2,?_⟩
 have hA:=ha cpos pins s1 σ H1 _ I1 q1
 rw [hs] at hA ⊢
 refine Calls.callWith_builtin (by show (false || (backTo cpos (starEach es X.env)).any (·.1))=false; rw [hplain] <;> rfl) (Calls.evalArgs_plain ?_)
 exact thn hA fun us s2 ⟨vs,H2,I2,r2,q2⟩=>hm pins s2 σ H2 x vs v us Q I2 r1 r2 q2
end
end L2
namespace L2
open PySem PySem.Spec PyProof.Rows
def MtM (X:Cx) (id:String) (r:V->List V->Hp->VK->Prop):Prop :=
 ∀ (pins:List (Addr×Obj)) (s:Shared) (σ:St) (H:Hp) (x:V) (xs:List V) (v:Value) (us:List Value) (Q:VK),Inv X pins σ H s->RelV x v->Vals xs us->r x xs H Q ->
  wpAny (model X.prog X.w) X.A (call (.builtin id) (v::us)) (EP X pins σ Q) X.xe s
theorem Vals.one:∀ {x:V} {us:List Value},Vals [x] us->∃ u,us=[u] /\ RelV x u
 | _,_,.cons r .nil=>⟨_,rfl,r⟩
theorem Vals.two:∀ {x y:V} {us:List Value},Vals [x,y] us->∃ u v,us=[u,v] /\ RelV x u /\ RelV y v
 | _,_,_,.cons r (.cons q .nil)=>⟨_,_,rfl,r,q⟩
theorem Vals.zero:∀ {us:List Value},Vals [] us->us=[]
 | _,.nil=>rfl
theorem Vals.rep {xs:List V} {us:List Value} (h:Vals xs us):∀ k:Nat,Vals (List.replicate k xs).flatten (List.replicate k us).flatten
 | 0=>.nil
 | k + 1=>by
  rw [List.replicate_succ,List.replicate_succ,List.flatten_cons,List.flatten_cons]
  exact Vals.append h (Vals.rep h k)
theorem mQ (its:List Value):∀ (k:Nat) (acc:List Value),
  List.foldl (fun x1 x2=>x1++x2) acc.toArray (List.replicate k its.toArray)=(acc++(List.replicate k its).flatten).toArray
 | 0,acc=>by simp
 | k + 1,acc=>by
  have e:acc.toArray++its.toArray=(acc++its).toArray:=by simp
  have e2:(acc++its)++(List.replicate k its).flatten=acc++(List.replicate (k + 1) its).flatten:=by
   rw [List.replicate_succ,List.flatten_cons,List.append_assoc]
  rw [← e2,← mQ its k (acc++its),← e,List.replicate_succ,List.foldl_cons]
section
variable {X:Cx} {pins:List (Addr×Obj)} {σ:St} {H:Hp} {s:Shared} {l b:Addr} {xs ys zs:List V}
theorem Inv.lset {its its':List Value} {n:Nat} {f:Array Value->Array Value} {t':Nat} (I:Inv X pins σ H s) (hH:H l=some (.lst xs))
  (e:s.heap.get? l=some { cls:=.type "list",data:=.seq its.toArray n }) (hf:f its.toArray=its'.toArray) (hv:Vals ys its') (hz:ys.length <= sizeLine) :
  Inv X pins σ (upd H l (.lst ys)) { s with heap:=s.heap.update l (Obj.mapSeq f),toks:=t' }:=by
 have q:=PySem.IsL.update e f
 rw [hf] at q
 refine I.write (x:=l) (e:=l) (by rw [hH]; exact trivial) (.inl rfl) (fun b' u hb hu=>(Heap.get?_update_other s.heap (Obj.mapSeq f) (Ne.symm hb)).trans hu) ⟨_,q⟩ ?_
 exact ⟨hz,its',_,hv,q⟩
theorem Inv.lnew {its:List Value} {t':Nat} (I:Inv X pins σ H s) (hv:Vals ys its) (hz:ys.length <= sizeLine) :
  Inv X pins σ (upd H s.heap.objs.size (.lst ys)) { s with heap:=s.heap.push { cls:=.type "list",data:=.seq its.toArray },toks:=t' } :=
 I.laid (fun _ _ q=>Heap.get?_push_of_some _ q) (Nat.le_refl _) ⟨hz,its,0,hv,Heap.get?_push_size _ rfl⟩
theorem Inv.fresh (I:Inv X pins σ H s):H s.heap.objs.size=none:=I.hok.fresh (Nat.le_refl _)
theorem Inv.lstM (I:Inv X pins σ H s) (hH:H l=some (.lst xs)):xs.length <= sizeLine /\ ∃ (its:List Value) (n:Nat),Vals xs its /\ xs.length=its.length /\ s.heap.get? l=some { cls:=.type "list",data:=.seq its.toArray n }:=by
 obtain ⟨z,its,n,r,e⟩:=I.hok l _ hH
 exact ⟨z,its,n,r,r.length,e⟩
theorem vC {n:Nat} (h:n <= sizeLine):Builtin.List.listTooLong n=false:=by
 unfold Builtin.List.listTooLong
 exact decide_eq_false (by omega)
end
section
variable {X:Cx}
def oS:V->List V->Hp->VK->Prop:=fun x vs H Q=>∃ l xs y,x = .ref l /\ vs=[y] /\ H l=some (.lst xs) /\ xs.length < sizeLine /\ Q .non (upd H l (.lst (xs++[y])))
theorem gi:MtM X "list.append" oS:=by
 intro pins s σ H x vs v us Q I rx rv h
 obtain ⟨l,xs,y,rfl,rfl,hH,hz,q⟩:=h
 cases rx
 obtain ⟨u,rfl,ru⟩:=rv.one
 obtain ⟨z,its,n,r,hl,e⟩:=I.lstM hH
 refine call_meets F.slot_list_append ⟨_,e,rfl⟩ F.entry_list_append (F.args_list_append_2 _ _) (PySem.list_append l its.toArray n u (by rw [List.size_toArray]; omega)) ⟨e,?_⟩
 refine ⟨.non,_,I.lset (its':=its++[u]) hH e (by simp) (r.append (.cons ru .nil)) ?_,rfl,q⟩
 rw [List.length_append,List.length_singleton]
 omega
def qf:V->List V->Hp->VK->Prop:=fun x vs H Q=>∃ l xs,x = .ref l /\ vs=[] /\ H l=some (.lst xs) /\ Q .non (upd H l (.lst []))
theorem lx:MtM X "list.clear" qf:=by
 intro pins s σ H x vs v us Q I rx rv h
 obtain ⟨l,xs,rfl,rfl,hH,q⟩:=h
 cases rx
 have hus:=rv.zero
 subst hus
 obtain ⟨z,its,n,r,hl,e⟩:=I.lstM hH
 refine call_meets F.slot_list_clear ⟨_,e,rfl⟩ F.entry_list_clear (F.args_list_clear_1 _) (AutoSeq1.list_clear_list_0 l its.toArray n (by rw [List.size_toArray]; omega)) ⟨e,?_⟩
 exact ⟨.non,_,I.lset (its':=[]) (ys:=[]) hH e rfl .nil (Nat.zero_le _),rfl,q⟩
def rCat:R2:=fun x y H Q=>∃ l b xs zs,x = .ref l /\ y = .ref b /\ H l=some (.lst xs) /\ H b=some (.lst zs) /\ xs.length + zs.length <= sizeLine /\ ∀ p,H p=none->Q (.ref p) (upd H p (.lst (xs++zs)))
theorem zN:OpR X (binaryOp .Add) rCat:=by
 intro pins s σ H x y v u Q I rx ry h
 obtain ⟨l,b,xs,zs,rfl,rfl,hH,hB,hz,q⟩:=h
 cases rx
 cases ry
 obtain ⟨z,its,n,r,hl,e⟩:=I.lstM hH
 obtain ⟨z2,its2,n2,r2,hl2,e2⟩:=I.lstM hB
 refine PySem.P.add_list e e2 ?_ (by rw [List.size_toArray,List.size_toArray]; omega)
 have ea:its.toArray++its2.toArray=(its++its2).toArray:=by simp
 rw [ea]
 exact ⟨.ref _,_,I.lnew (t':=s.toks) (r.append r2) (by rw [List.length_append]; omega),rfl,q _ I.fresh⟩
def rRep:R2:=fun x y H Q=>∃ l k xs,x = .ref l /\ y = .int k /\ H l=some (.lst xs) /\ -(2 ^ 63) <= k /\ k < 2 ^ 63 /\ xs.length * k.toNat <= sizeLine /\
 ∀ p,H p=none->Q (.ref p) (upd H p (.lst (List.replicate k.toNat xs).flatten))
theorem xZ {α:Type} (xs:List α) (k:Nat):(List.replicate k xs).flatten.length=k * xs.length:=by
 induction k with
 | zero=>simp
 | succ k ih=>rw [List.replicate_succ,List.flatten_cons,List.length_append,ih,Nat.succ_mul,Nat.add_comm]
theorem zO:OpR X (binaryOp .Mult) rRep:=by
 intro pins s σ H x y v u Q I rx ry h
 obtain ⟨l,k,xs,rfl,rfl,hH,h1,h2,hz,q⟩:=h
 cases rx
 obtain ⟨t,rfl⟩:=ry
 obtain ⟨z,its,n,r,hl,e⟩:=I.lstM hH
 have hlen:its.toArray.size * k.toNat <= sizeLine:=by rw [List.size_toArray,← hl]; exact hz
 have hcap:¬ its.toArray.size * k.toNat > (2 ^ 63 - 1) / 8:=by
  have:(sizeLine:Nat) <= (2 ^ 63 - 1) / 8:=by decide
  omega
 have hfit:¬ (!Builtin.List.listFitsIndex k)=true:=by
  rw [fitsIndex_both h1 h2]
  exact Bool.false_ne_true
 have hlong:¬ Builtin.List.listTooLong (its.toArray.size * k.toNat)=true:=by
  rw [vC hlen]
  exact Bool.false_ne_true
 have hnew:List.foldl (fun x1 x2=>x1++x2) #[] (List.replicate (if its.toArray.isEmpty=true then 0 else k.toNat) its.toArray)=(List.replicate k.toNat its).flatten.toArray:=by
  have f0:∀ m:Nat,List.foldl (fun x1 x2=>x1++x2) #[] (List.replicate m its.toArray)=(List.replicate m its).flatten.toArray:=fun m=>by
   have:=mQ its m []
   rw [List.nil_append] at this
   exact this
  rw [f0]
  cases its with
  | nil=>simp
  | cons a r'=>rw [if_neg (by simp)]
 refine wpAny_binaryOp_repeat_ref (T:="list") (U:="int") (by decide) ⟨_,e,rfl⟩ (fun s'=>typeIs_int s' k t) noFill_list_mul F.fills_int_mul F.slot_int_rmul repeat_list F.slot_int_index.lookup
  (call_meets F.slot_int_rmul (typeIs_int s k t) F.entry_int_rmul (F.args_int_rmul_2 _ _) (int___rmul___int_list k t l its.toArray n)
   ⟨e,rfl,⟨_,e,rfl⟩,call_meets F.slot_list_mul ⟨_,e,rfl⟩ F.entry_list_mul (F.args_list_mul_2 _ _) (AutoListH.list___mul___list_int_3 l its.toArray n k t hfit hcap hlong) ⟨e,?_⟩⟩)
 rw [hnew]
 exact ⟨.ref _,_,I.lnew (t':=s.toks) (r.rep k.toNat) (by rw [xZ,Nat.mul_comm]; exact hz),rfl,q _ I.fresh⟩
end
section
variable {prog:Program} {w:World} {A:Around} {E:Value->Shared->Prop} {s:Shared}
end
section
variable {X:Cx}
end
end L2
namespace L2
open PySem PySem.Spec PyProof.Rows
section
variable {κ:Type} [DecidableEq κ]
def valV (kvs:List (κ×V)) (k:κ):Option V:=(kvs.find? fun kv=>decide (kv.1=k)).map (·.2)
def putK (kvs:List (κ×V)) (k:κ) (v:V):List (κ×V) :=
 if (kvs.any fun kv=>decide (kv.1=k))=true then kvs.map (fun kv=>if kv.1=k then (kv.1,v) else kv) else kvs++[(k,v)]
theorem iU {p:κ×V} {r:List (κ×V)} {k:κ} (e:p.1=k):valV (p::r) k=some p.2:=by simp [valV,List.find?_cons,e]
theorem gj {p:κ×V} {r:List (κ×V)} {k:κ} (e:¬ p.1=k):valV (p::r) k=valV r k:=by simp [valV,List.find?_cons,e]
theorem ly (k:κ):∀ kvs:List (κ×V),(kvs.any fun kv=>decide (kv.1=k))=(valV kvs k).isSome
 | []=>rfl
 | p::r=>by
  rw [List.any_cons]
  by_cases e:p.1=k
  ·simp only [iU e,decide_eq_true e,Bool.true_or,Option.isSome_some]
  ·rw [gj e,decide_eq_false e,Bool.false_or]; exact ly k r
theorem fE (kvs:List (κ×V)) (k:κ) (v:V):(putK kvs k v).length <= kvs.length + 1:=by
 unfold putK
 split
 ·rw [List.length_map]; omega
 ·rw [List.length_append,List.length_cons,List.length_nil]; omega
theorem RelO.isSome_eq {o:Option V} {u:Option Value} (r:RelO o u):o.isSome=u.isSome:=by
 cases o with
 | none=>cases u with
  | none=>rfl
  | some _=>exact (show False from r).elim
 | some _=>cases u with
  | none=>exact (show False from r).elim
  | some _=>rfl
theorem KV.val {kvs:List (κ×V)} {vs:List (κ×Value)} (r:KV kvs vs) (k:κ):RelO (valV kvs k) (valueAt vs k):=by
 unfold KV at r
 induction r with
 | nil=>exact True.intro
 | @cons p q ps qs h t ih =>
  obtain ⟨h1,h2⟩:=h
  by_cases e:p.1=k
  ·have e':q.1=k:=h1.symm.trans e
   have b:valueAt (q::qs) k=some q.2:=by simp [valueAt,List.find?_cons,e']
   rw [iU e,b]; exact h2
  ·have e':¬ q.1=k:=fun z=>e (h1.trans z)
   have b:valueAt (q::qs) k=valueAt qs k:=by simp [valueAt,List.find?_cons,e']
   rw [gj e,b]; exact ih
theorem KV.any {kvs:List (κ×V)} {vs:List (κ×Value)} (r:KV kvs vs) (k:κ):(kvs.any fun kv=>decide (kv.1=k))=vs.any fun kv=>decide (kv.1=k):=by
 unfold KV at r
 induction r with
 | nil=>rfl
 | cons h t ih=>rw [List.any_cons,List.any_cons,ih,h.1]
theorem KV.repl {kvs:List (κ×V)} {vs:List (κ×Value)} (r:KV kvs vs) (k:κ) {y:V} {u:Value} (ry:RelV y u) :
  KV (kvs.map fun kv=>if kv.1=k then (kv.1,y) else kv) (vs.map fun kv=>if kv.1=k then (kv.1,u) else kv):=by
 unfold KV at r ⊢
 induction r with
 | nil=>exact .nil
 | @cons p q ps qs h t ih =>
  rw [List.map_cons,List.map_cons]
  refine .cons ?_ ih
  obtain ⟨h1,h2⟩:=h
  by_cases e:p.1=k
  ·rw [if_pos e,if_pos (h1.symm.trans e)]; exact ⟨h1,ry⟩
  ·rw [if_neg e,if_neg (fun z=>e (h1.trans z))]; exact ⟨h1,h2⟩
theorem KV.put {kvs:List (κ×V)} {vs:List (κ×Value)} (r:KV kvs vs) (k:κ) {y:V} {u:Value} (ry:RelV y u):KV (putK kvs k y) (stored vs k u):=by
 unfold putK stored
 rw [r.any k]
 by_cases e:(vs.any fun kv=>decide (kv.1=k))=true
 ·rw [if_pos e,if_pos e]; exact r.repl k ry
 ·rw [if_neg e,if_neg e]; exact Paired.snoc r ⟨rfl,ry⟩
theorem KV.length {kvs:List (κ×V)} {vs:List (κ×Value)} (r:KV kvs vs):kvs.length=vs.length:=Paired.length r
end
theorem ya {P:Program} {w:World} {k:Key} {u:Value} (r:RelV (kV k) u):(bA P w).is k u=true:=by
 cases k with
 | inl i=>obtain ⟨t,e⟩:=(show ∃ t,u=Value.int i t from r); subst e; exact jd P w i t
 | inr x=>obtain ⟨t,e⟩:=(show ∃ t,u=Value.str x t from r); subst e; exact oJ P w x t
theorem mR {P:Program} {w:World}:∀ {ks:List Key} {us:List Value},Vals (ks.map kV) us->ItemsAre (bA P w) ks us
 | [],_,r=>by rw [List.map_nil] at r; cases r; exact .nil
 | k::ks,_,r=>by
  rw [List.map_cons] at r
  cases r with
  | cons h t=>exact .cons (ya h) (mR t)
abbrev KT (H:Hp):List (List Key×V)->List (List Key×Addr×Value)->Prop:=Paired fun p q=>p.1=q.1 /\ H q.2.1=some (.tup (p.1.map kV)) /\ RelV p.2 q.2.2
theorem KT.val {H:Hp} {kvs:List (List Key×V)} {xs:List (List Key×Addr×Value)} (r:KT H kvs xs) (k:List Key):RelO (valV kvs k) ((atKey xs k).map (·.2)):=by
 induction r with
 | nil=>exact True.intro
 | @cons p q ps qs h t ih =>
  obtain ⟨h1,_,h2⟩:=h
  by_cases e:p.1=k
  ·have e':q.1=k:=h1.symm.trans e
   have b:atKey (q::qs) k=some q.2:=by simp [atKey,List.find?_cons,e']
   rw [iU e,b]; exact h2
  ·have e':¬ q.1=k:=fun z=>e (h1.trans z)
   have b:atKey (q::qs) k=atKey qs k:=by simp [atKey,List.find?_cons,e']
   rw [gj e,b]; exact ih
theorem KT.repl {H:Hp} {kvs:List (List Key×V)} {xs:List (List Key×Addr×Value)} (r:KT H kvs xs) (k:List Key) {y:V} {u:Value} (ry:RelV y u) :
  KT H (kvs.map fun kv=>if kv.1=k then (kv.1,y) else kv) (xs.map (putAt k u)):=by
 induction r with
 | nil=>exact .nil
 | @cons p q ps qs h t ih =>
  rw [List.map_cons,List.map_cons]
  refine .cons ?_ ih
  obtain ⟨h1,h2,h3⟩:=h
  unfold putAt
  by_cases e:p.1=k
  ·rw [if_pos e,if_pos (h1.symm.trans e)]; exact ⟨h1,h2,ry⟩
  ·rw [if_neg e,if_neg (fun z=>e (h1.trans z))]; exact ⟨h1,h2,h3⟩
theorem KT.put {H:Hp} {kvs:List (List Key×V)} {xs:List (List Key×Addr×Value)} (r:KT H kvs xs) (k:List Key) {b:Addr} {y:V} {u:Value} (hb:H b=some (.tup (k.map kV))) (ry:RelV y u) :
  KT H (putK kvs k y) (storedH xs k b u):=by
 have e:(kvs.any fun kv=>decide (kv.1=k))=(atKey xs k).isSome:=by
  rw [ly,(r.val k).isSome_eq,Option.isSome_map]
 unfold putK storedH
 rw [e]
 by_cases q:(atKey xs k).isSome=true
 ·rw [if_pos q,if_pos q]; exact r.repl k ry
 ·rw [if_neg q,if_neg q]; exact Paired.snoc r ⟨rfl,hb,ry⟩
theorem KT.keeps {H H':Hp} {kvs:List (List Key×V)} {xs:List (List Key×Addr×Value)} (r:KT H kvs xs) (ht:∀ b ys,H b=some (.tup ys)->H' b=some (.tup ys)):KT H' kvs xs :=
 Paired.mapP r fun _ _ z=>⟨z.1,ht _ _ z.2.1,z.2.2⟩
section
variable {P:Program} {w:World} {H:Hp} {h:Heap} {a:Addr}
theorem zP {u:HO} (ok:HOk P w H h) (e:Rd H a u):ObjOk P w H h a u:=e.ok ok
theorem yb {kvs:List (Key×V)} (ok:HOk P w H h) (e:Rd H a (.dK kvs)):kvs.length <= sizeLine /\ (a == sysModules)=false /\ ∃ vs,KV kvs vs /\ h.DictOf (bA P w) a vs :=
 show ObjOk P w H h a (.dK kvs) from zP ok e
theorem BK {kvs:List (Key×V)} (ok:HOk P w H h) (e:H a=some (.dK kvs)):kvs.length <= sizeLine /\ (a == sysModules)=false /\ ∃ vs,KV kvs vs /\ h.DictOf (bA P w) a vs:=yb ok (.inl e)
theorem qg {ks:List Key} (ok:HOk P w H h) (e:H a=some (.tup (ks.map kV))):(tupleKind (bA P w)).is h ks a:=by
 obtain ⟨_,its,r,o,h1,h2,n,h3⟩:=(show ObjOk P w H h a (.tup (ks.map kV)) from ok a _ e)
 exact ⟨o,its.toArray,n,h1,h2,h3,by simpa using mR r⟩
theorem vD {kvs:List (List Key×V)} (ok:HOk P w H h) (e:Rd H a (.dT kvs)):kvs.length <= sizeLine /\ (a == sysModules)=false /\
  ∃ xs,KT H kvs xs /\ h.DictOfH (tupleKind (bA P w)) a xs:=by
 obtain ⟨z,y,xs,r,o,es,ep,h1,h2,h3,h4,h5⟩:=(show ObjOk P w H h a (.dT kvs) from zP ok e)
 refine ⟨z,y,xs,r,o,es,ep,h1,h2,h3,h4,fun x hx=>?_,h5⟩
 have all:∀ {l:List (List Key×V)} {m:List (List Key×Addr×Value)},KT H l m->∀ x∈m,(tupleKind (bA P w)).is h x.1 x.2.1:=by
  intro l m q
  induction q with
  | nil=>intro x hx; exact nomatch hx
  | @cons p q ps qs hq t ih =>
   intro x hx
   rcases List.mem_cons.mp hx with e | hx
   ·subst e
    exact qg ok (by rw [← hq.1]; exact hq.2.1)
   ·exact ih x hx
 exact all r x hx
theorem zQ {kvs:List (List Key×V)} (ok:HOk P w H h) (e:H a=some (.dT kvs)):kvs.length <= sizeLine /\ (a == sysModules)=false /\
  ∃ xs,KT H kvs xs /\ h.DictOfH (tupleKind (bA P w)) a xs:=vD ok (.inl e)
end
def DGet (H:Hp) (a:Addr) (y:V) (r:Option V):Prop :=
 (∃ kvs k,Rd H a (.dK kvs) /\ y=kV k /\ r=valV kvs k)∨∃ kvs k b,Rd H a (.dT kvs) /\ y = .ref b /\ H b=some (.tup (k.map kV)) /\ r=valV kvs k
def DPut (H:Hp) (a:Addr) (y v:V) (H':Hp):Prop :=
 (∃ kvs k,H a=some (.dK kvs) /\ y=kV k /\ kvs.length < sizeLine /\ H'=upd H a (.dK (putK kvs k v))) ∨
 ∃ kvs k b,H a=some (.dT kvs) /\ y = .ref b /\ H b=some (.tup (k.map kV)) /\ kvs.length < sizeLine /\ H'=upd H a (.dT (putK kvs k v))
theorem DPut.t {H:Hp} {a b:Addr} {kvs:List (List Key×V)} {k:List Key} {v:V} (e:H a=some (.dT kvs)) (eb:H b=some (.tup (k.map kV))) (hl:kvs.length < sizeLine) :
  DPut H a (.ref b) v (upd H a (.dT (putK kvs k v))):=.inr ⟨kvs,k,b,e,rfl,eb,hl,rfl⟩
section
variable {X:Cx} {pins:List (Addr×Obj)} {σ:St} {H:Hp} {s:Shared} {a:Addr} {y v:V} {u r:Value} {o:Option V} {A:Around} {E:Value->Shared->Prop}
theorem Inv.big (I:Inv X pins σ H s):sysModules < s.heap.objs.size:=by
 have h:mainGlobals < s.heap.objs.size:=(I.mod.glob.keeps I.bk).lt
 exact Nat.lt_trans (by decide) h
theorem sS {Q:Value->Shared->Prop} (hu:A.units + 1 < cLine) (I:Inv X pins σ H s) (g:DGet H a y (some v)) (ry:RelV y u) (h:∀ w' s',Inv X pins σ H s'->RelV v w'->Q w' s') :
  wpAny (model X.prog X.w) A (getItem (.ref a) u) Q E s:=by
 rcases g with ⟨kvs,k,e,ey,l⟩ | ⟨kvs,k,b,e,ey,eb,l⟩
 ·subst ey
  obtain ⟨z,hd,vs,rel,dd⟩:=yb I.hok e
  obtain ⟨w',hw,rw'⟩:=RelO.some_of (v:=v) (o:=valueAt vs k) (by rw [l]; exact rel.val k)
  exact wpAny_getItem_of (ya ry) dd.mapOf hw (h w' _ (I.tok _) rw')
 ·subst ey
  cases (show u=Value.ref b from ry)
  obtain ⟨z,hd,xs,rel,dd⟩:=vD I.hok e
  obtain ⟨w',hw,rw'⟩:=RelO.some_of (v:=v) (o:=(atKey xs k).map (·.2)) (by rw [l]; exact rel.val k)
  obtain ⟨p,hp,hp2⟩:=Option.map_eq_some_iff.mp hw
  refine wpAny_getItem_heap (tupleKind_room_in1 hu) (qg I.hok eb) dd hp ?_
  rw [hp2]
  exact h w' _ (I.tok _) rw'
theorem oT {h':Heap} {t':Nat} {ob:HO} (I:Inv X pins σ H s) (mu:Mut (H a)) (hs:Heap.SameBut a s.heap h') (he:∃ q,h'.get? a=some q) (new:ObjOk X.prog X.w (upd H a ob) h' a ob) :
  Inv X pins σ (upd H a ob) { s with heap:=h',toks:=t' } :=
 I.write (x:=a) (e:=a) mu (.inl rfl) (fun b q hb z=>(hs.2 b hb).trans z) he new
theorem zR {P:Program} {w:World} {H':Hp} {h':Heap} {kvs:List (Key×V)} {vs:List (Key×Value)} (z:kvs.length <= sizeLine) (hd:(a == sysModules)=false) (rel:KV kvs vs) (dd:h'.DictOf (bA P w) a vs) :
  ObjOk P w H' h' a (.dK kvs):=⟨z,hd,vs,rel,dd⟩
theorem sT {H':Hp} {Q:Unit->Shared->Prop} (hu:A.units + 1 < cLine) (I:Inv X pins σ H s) (g:DPut H a y v H') (ry:RelV y u) (rv:RelV v r) (h:∀ s',Inv X pins σ H' s'->Q () s') :
  wpAny (model X.prog X.w) A (setItem (.ref a) u r) Q E s:=by
 rcases g with ⟨kvs,k,e,ey,l,eH⟩ | ⟨kvs,k,b,e,ey,eb,l,eH⟩
 ·subst ey eH
  obtain ⟨z,hd,vs,rel,dd⟩:=BK I.hok e
  have hz:vs.length <= sizeLine:=by rw [← rel.length]; exact z
  have hl:(putK kvs k v).length <= sizeLine:=by have:=fE kvs k v; omega
  refine wpAny_setItem_pairs (hsz:=hz) (ya ry) dd fun h' dd' hs=>h _ ?_
  have he:∃ q,h'.get? a=some q:=let ⟨q,_,_,hq,_⟩:=dd'; ⟨q,hq⟩
  exact oT I (by rw [e]; exact True.intro) hs he (zR hl hd (rel.put k rv) dd')
 ·subst ey eH
  cases (show u=Value.ref b from ry)
  obtain ⟨z,hd,xs,rel,dd⟩:=zQ I.hok e
  have hz:xs.length <= sizeLine:=by rw [← Paired.length rel]; exact z
  have hl:(putK kvs k v).length <= sizeLine:=by have:=fE kvs k v; omega
  refine wpAny_setItem_heap (hsz:=hz) (tupleKind_room_in1 hu) (qg I.hok eb) dd fun h' dd' hs=>h _ ?_
  obtain ⟨q,es,ep,hq,h2,h3,h4,_,h5⟩:=dd'
  refine oT I (by rw [e]; exact True.intro) hs ⟨q,hq⟩ ⟨hl,hd,_,(rel.put k eb rv).keeps fun c ys ec=>?_,q,es,ep,hq,h2,h3,h4,h5⟩
  rw [ah (ku ec e (fun z=>nomatch z))]
  exact ec
end
section
variable {X:Cx} {pins:List (Addr×Obj)} {σ:St} {H:Hp} {s:Shared} {a:Addr} {kvs:List (Key×V)} {k:Key} {u:Value} {A:Around} {E:Value->Shared->Prop}
end
def NoSl (i:Expr):Prop:=∀ ov iv,subscripted i false ov iv=operate [ov,iv] (getItem ov iv)
theorem yc {prog:Program} {w:World} {A:Around} {E:Value->Shared->Prop} {s:Shared} {env:Env} {value slice:Expr} {pos:Pos} {T id:String} {Q:Value->Shared->Prop}
  (hl:typeLookup (.type T) "__getitem__" = pure (some (.builtin id))) (hs:NoSl slice)
  (h:wpAny (model prog w) A (eval value env) (fun o s₁=>wpAny (model prog w) A (eval slice env) (fun i s₂=>s₂.TypeIs o T /\ wpAny (model prog w) A (getItem o i) Q E s₂) E s₁) E s) :
  wpAny (model prog w) A (eval (.Subscript value slice pos) env) Q E s:=by
 refine Subscript_ (wpAny_mono h (fun o s₁ h₁=>wpAny_mono h₁ (fun i s₂ h₂=>?_) fun _ _ x=>x) fun _ _ x=>x)
 obtain ⟨hT,h₂⟩:=h₂
 unfold subscriptTail
 refine wpAny_bind ?_
 rw [getitemInPython_of_ne hT.not_modules]
 refine wpAny_bind (wpAny_specialOf hT hl ?_)
 have fin:wpAny (model prog w) A (subscripted slice false o i) (fun r s₃=>wpAny (model prog w) A (letTemporaryGo value o r >>= fun _=>pure r) Q E s₃) E s₂:=by
  rw [hs o i]
  exact wpAny_operating (wpAny_mono h₂ (fun r s₃ h₃=>wpAny_bind (wpAny_letTemporaryGo (wpAny_pure h₃))) fun _ _ x=>x)
 first
  | exact wpAny_pure (wpAny_bind fin)
  | exact wpAny_bind (wpAny_pure (wpAny_bind fin))
  | exact wpAny_bind fin
theorem oU {X:Cx} {pins:List (Addr×Obj)} {σ:St} {H:Hp} {s:Shared} {a:Addr} {y:V} {o:Option V} (I:Inv X pins σ H s) (g:DGet H a y o):s.TypeIs (.ref a) "dict":=by
 rcases g with ⟨kvs,k,e,_,_⟩ | ⟨kvs,k,b,e,_,_,_⟩
 ·obtain ⟨_,_,vs,_,dd⟩:=yb I.hok e
  exact dd.typeIs
 ·obtain ⟨_,_,xs,_,dd⟩:=vD I.hok e
  exact dd.typeIs
def BL (td ty:TE):TE:=fun σ H Q=>td σ H fun x H1=>ty σ H1 fun y H2=>∃ a v,x = .ref a /\ DGet H2 a y (some v) /\ Q v H2
def BM (td ty tv:TE):TS:=fun D σ H=>tv σ H fun v H1=>td σ H1 fun x H2=>ty σ H2 fun y H3=>∃ a H4,x = .ref a /\ DPut H3 a y v H4 /\ D.nx σ H4
section
variable {X:Cx} {o i e value:Expr} {pos pos' tpos:Pos} {td ty tv:TE}
theorem yd (hu:X.A.units + 1 < cLine) (ho:PE X o td) (hi:PE X i ty) (hs:NoSl i):PE X (.Subscript o i pos) (BL td ty):=by
 intro pins s σ H Q I h
 refine yc PySem.F.slot_dict_getitem.lookup hs (thn (ho pins s σ H _ I h) fun u s1 ⟨x,H1,I1,rx,q1⟩=>thn (hi pins s1 σ H1 _ I1 q1) fun iv s2 ⟨y,H2,I2,ry,a,v,ex,g,q2⟩=>?_)
 subst ex
 obtain rfl:u=Value.ref a:=rx
 exact ⟨oU I2 g,sS hu I2 g ry fun w' s3 I3 rw'=>⟨v,H2,I3,rw',q2⟩⟩
theorem ye (hu:X.A.units + 1 < cLine) (ho:PE X o td) (hi:PE X i ty) (hv:PE X value tv) (hs:swapsWith value (some (.Subscript o i pos')) pos.line X.env=pure false) :
  PS X (.Assign [.Subscript o i pos'] value pos) (BM td ty tv):=by
 intro pins s σ H D I h
 refine wpAny_Assign_Subscript (thn (hv pins s σ H _ I h) fun r s1 ⟨v,H1,I1,rv,q1⟩=>thn (ho pins s1 σ H1 _ I1 q1) fun u s2 ⟨x,H2,I2,rx,q2⟩=>thn (hi pins s2 σ H2 _ I2 q2) fun iv s3 ⟨y,H3,I3,ry,a,H4,ex,g,q3⟩=>?_) hs
 subst ex
 obtain rfl:u=Value.ref a:=rx
 exact sT hu I3 g ry rv fun s4 I4=>⟨σ,H4,I4,q3⟩
end
theorem vE {P:Program} {w:World} {H:Hp} (h:Heap) (hb:sysModules < h.objs.size):ObjOk P w H (h.push { cls:=.type "dict",data:=.dict #[] }) h.objs.size (.dT []) :=
 ⟨Nat.zero_le _,beq_eq_false_iff_ne.mpr (Ne.symm (Nat.ne_of_lt hb)),[],.nil,_,#[],0,Heap.get?_push_size _ rfl,⟨rfl,rfl,rfl⟩,rfl,rfl,List.nodup_nil⟩
def zS:TE:=fun _ H Q=>∀ p,H p=none->Q (.ref p) (upd H p (.dT []))
section
variable {X:Cx} {pos:Pos}
theorem vF:PE X (.Dict [] [] pos) zS:=fun pins s σ H Q I h =>
 wpAny_Dict_empty ⟨.ref s.heap.objs.size,_,I.laid (a:=s.heap.objs.size) (o:=.dT []) (t':=s.toks) (fun _ _ q=>Heap.get?_push_of_some _ q) (Nat.le_refl _) (vE s.heap I.big),rfl,h _ (I.hok.fresh (Nat.le_refl _))⟩
end
structure M1 (X:Cx) (o:Expr) (m:Str) (apos:Pos) (e:Expr) (cpos:Pos):Prop where
 base:attributeBase o m X.env (eval o X.env)=eval o X.env
 few:((backTo cpos (starEach [e] X.env)).all (fun x=>!x.1) && (backToKw cpos (keywordEach [] X.env)).all (fun x=>x.1.isSome)
  && decide (([e]:List Expr).length + ([]:List Keyword).length + (if ([]:List Keyword).isEmpty then 0 else 1) < 30))=true
 line:(apos.endLine == cpos.line)=true
 trees:backTo cpos (starEach [e] X.env)=[(false,eval e X.env)]
structure M2 (X:Cx) (o:Expr) (m:Str) (apos:Pos) (e f:Expr) (cpos:Pos):Prop where
 base:attributeBase o m X.env (eval o X.env)=eval o X.env
 few:((backTo cpos (starEach [e,f] X.env)).all (fun x=>!x.1) && (backToKw cpos (keywordEach [] X.env)).all (fun x=>x.1.isSome)
  && decide (([e,f]:List Expr).length + ([]:List Keyword).length + (if ([]:List Keyword).isEmpty then 0 else 1) < 30))=true
 line:(apos.endLine == cpos.line)=true
 trees:backTo cpos (starEach [e,f] X.env)=[(false,eval e X.env),(false,eval f X.env)]
section
variable {X:Cx} {pins:List (Addr×Obj)} {σ:St} {H:Hp} {s:Shared} {a:Addr} {y d:V} {u r:Value} {o:Option V} {A:Around} {E:Value->Shared->Prop}
end
section
variable {X:Cx} {o e f:Expr} {apos cpos:Pos} {td ty tx:TE}
end
section
variable {X:Cx} {pins:List (Addr×Obj)} {σ:St} {H:Hp} {s:Shared} {a:Addr} {kvs:List (Key×V)} {A:Around} {E:Value->Shared->Prop}
end
section
variable {X:Cx} {pins:List (Addr×Obj)} {σ:St} {H:Hp} {s:Shared} {a:Addr} {y:V} {u:Value} {A:Around} {E:Value->Shared->Prop}
end
end L2
namespace Att
open PySem PySem.W PySem.Calls PyProof.Rows
theorem jj {P:Params} {h:Heap}:∀ (ns:List Int) (vs:List Value),WellAll P h vs (ns.map WData.int)->IntsAre vs ns:=by
 intro ns
 induction ns with
 | nil =>
  intro vs w
  rw [List.map_nil] at w
  cases w
  exact .nil
 | cons n ns ih =>
  intro vs w
  rw [List.map_cons] at w
  cases w with
  | cons a b =>
   cases a
   exact .cons _ _ (ih _ b)
theorem sU {l:OpenLaw} {n:Nat} (hn:l.most=some n) {P:Params} {h:Heap} {args:List WData} {vals:List Value}
  (hpre:l.row.toRowW.claim.pre args=true) (hwl:WellAll P h vals args) :
  ∃ a vs ns,vals=[Value.ref a] /\ args=[WData.list (ns.map WData.int)] /\ h.get? a=some { cls:=.type "list",data:=.seq vs.toArray } /\ IntsAre vs ns /\ ns.length <= n:=by
 have hsh:WShape.hasAll [] args [.list .int]=true:=(pre_splitW hpre).1
 have hc:l.pre.holds [] { args:=args }=true:=(pre_splitW hpre).2
 obtain ⟨d,r,rfl,h1,h2⟩:=hasAllW_cons hsh
 obtain rfl:=hasAllW_nil h2
 obtain ⟨xs,rfl,h3⟩:=hasW_list h1
 obtain ⟨ns,rfl⟩:=items_int h3
 have hlen:ns.length <= n:=by
  unfold OpenLaw.pre at hc
  have h4:(WTm.not (.lt (.lit (.int (n:Int))) (.len (.arg 0)))).holds [] { args:=[.list (ns.map .int)] }=true:=by
   have h4:=(holds_andW hc).1
   rw [hn] at h4
   exact h4
  have h5:=condW_of h4 (w_not (w_lt w_lit (w_len_list (w_arg rfl))))
  rw [List.length_map] at h5
  refine Nat.le_of_not_lt fun q=>?_
  have q':(n:Int) < ((ns.length:Nat):Int):=by omega
  first
   | (rw [decide_eq_true q'] at h5; exact absurd h5 (by decide))
   | (simp at h5; omega)
 cases hwl with
 | cons w1 w2 =>
  cases w2
  cases w1 with
  | list ho hall=>exact ⟨_,_,ns,rfl,rfl,ho,jj ns _ hall,hlen⟩
theorem sV (l:OpenLaw) (args:List WData):l.row.toRowW.claim.post args (.bool true) args=true :=
 postW_of (r:=l.row.toRowW) (X:=(true == true))
  (show WShape.has [] (.bool true) .bool=true by first | rfl | decide | simp [WShape.has,WShape.arms,WShape.armsAll])
  (show (WTm.eq .res (.lit (.bool true))).value [] { args:=args,res:=some (.bool true),after:=args }=some (.bool (true == true)) from w_eq_bool (w_res rfl) w_lit) rfl
theorem attach_call {l:OpenLaw} {n:Nat} {q:Program} {loose:List Str} {XP:(Str->Option Value)->Heap->Prop} {YP:World->Heap->Prop} {d:DefRec}
  (hn:l.most=some n) (hdf:d.params.defaults=[])
  (call:∀ (w:World) (s₀ s₁:Shared) (mg mb:Str->Option Value) (fa:Addr) (o:Obj) (pm cd doc:Value) (a:Addr) (vs:List Value) (ns:List Int),
   Ground q loose [] XP w s₀ mg mb s₁.heap->YP w s₁.heap ->
   s₁.heap.get? fa=some o->o.data = .func (docDef d.name d.params d.body d.scope pm cd doc)->s₁.heap.CodeRec cd d.name->mg d.name=some (.ref fa) ->
   s₁.heap.get? a=some { cls:=.type "list",data:=.seq vs.toArray }->IntsAre vs ns->ns.length <= n->s₁.gens = #[] ->
   codeAny (model l.prog w) callerA (.call (.ref fa) ⟨[.ref a],[]⟩) (fun r s'=>r = .ok (.ret (.bool true)) /\ OldK s₁.heap s'.heap /\ s'.os=s₁.os /\ AllBare s'.gens) s₁) :
  WalkO q loose XP YP l.row.toRowW d [] (fun f vs=>PySem.call f vs):=by
 intro w s₀ s₁ mg mb G Y fa o pm cd doc dV kV ho hd hcd hD hmg hg args vals as hpre hlay hrd hwl hlo
 obtain rfl:dV = .none:=Dflts.none hD hdf
 obtain rfl:kV = .none:=Dflts.noKw hD
 obtain ⟨a,vs,ns,rfl,rfl,hobj,hints,hlen⟩:=sU hn hpre hwl
 refine enter_call (codeAny_mono (call w s₀ s₁ mg mb fa o pm cd doc a vs ns G Y ho (fd_plain hd) hcd hmg hobj hints hlen hg) fun r s' hq=>?_)
 obtain ⟨rfl,h2,h3,h4⟩:=hq
 exact ⟨.inl ⟨.bool true,.bool true,[],rfl,fun _=>rfl,.bool true,sV l _,fun _=>⟨List.Pairwise.nil,fun _ hm=>(nomatch hm)⟩⟩,h2,h3,h4⟩
section
variable {prog:Program} {w:World} {A:Around} {E:Value->Shared->Prop} {s:Shared} {K:Frag}
end
end Att
namespace L2
open PySem PySem.Spec PyProof.Rows
theorem mS:∀ {vs:List Value} {ns:List Int},IntsAre vs ns->Vals (ns.map V.int) vs
 | _,_,.nil=>.nil
 | _,_,.cons n t h=>.cons ⟨t,rfl⟩ (mS h)
def Only (H:Hp):Prop:=∀ b,H b=none∨∃ o xs,H b=some (.frz o (.lst xs))
theorem vG {P:Program} {w:World} {K:PySem.W.Frag} {mg mb:Str->Option Value} {CX:CXT} {k:Nat} {fa a:Addr} {fd:FuncData} {x:Str} {sp:Sp} {s₁:Shared} {vs:List Value} {ns:List Int}
  (KX:K.In s₁.heap) (hns:s₁.heap.Ns mainGlobals mg) (hb:s₁.heap.Ns builtinsNs mb) (hbb:∀ x:Str,x ≠ "__name__" -> mb x=bootBuiltins x) (hlim:s₁.heap.NoLimit) (hg:s₁.gens = #[])
  (ha:s₁.heap.get? a=some { cls:=.type "list",data:=.seq vs.toArray }) (hi:IntsAre vs ns) (hl:ns.length <= sizeLine) (hr:Room k callerA)
  (F:∀ base:Heap,K.In base->base.Ns mainGlobals mg->FnOk P w K mg base CX k fa fd [x] sp) (hbind:∀ (s:Shared) (u:Value),BindsTo s fd ⟨[u],[]⟩ [(x,u)])
  (hsp:∀ H:Hp,Only H->SqL K H a (ns.map V.int)->sp [.ref a] H (fun v _=>v = .bl true) fun _ _ _=>False)
  (hCX:∀ H e s',CX [] H s₁ (fun _ _ _=>False) e s'->False) :
  codeAny (model P w) callerA (.call (.ref fa) ⟨[.ref a],[]⟩) (fun r s'=>r = .ok (.ret (.bool true)) /\ OldK s₁.heap s'.heap /\ s'.os=s₁.os /\ AllBare s'.gens) s₁:=by
 have rv:=mS hi
 have lenV:=hi.length
 -- from an abstract heap in which nothing but the script may be tracked
 have core:∀ H:Hp,Only H->SqL K H a (ns.map V.int)->HOk P w H s₁.heap->(∀ b,H b≠none->b=a)->(H a≠none->K.lookup a=none) ->
   codeAny (model P w) callerA (.call (.ref fa) ⟨[.ref a],[]⟩) (fun r s'=>r = .ok (.ret (.bool true)) /\ OldK s₁.heap s'.heap /\ s'.os=s₁.os /\ AllBare s'.gens) s₁:=by
  intro H hO hS hok hA hK
  have base_of:∀ {b:Addr} {o:Obj},s₁.heap.get? b=some o->H b=none->(hidT s₁.heap H).get? b=some o:=fun e n=>vv e n
  have noA:∀ {b:Addr} {o:Obj} {es:Array DictEntry} {ep:Nat},s₁.heap.get? b=some o->o.data = .dict es ep->H b=none:=fun {b o es ep} e d=>by
   cases q:H b with
   | none=>rfl
   | some u =>
    have e':b=a:=hA b (by rw [q]; simp)
    subst e'
    rw [ha] at e; cases e
    have d':Data.seq vs.toArray _=Data.dict es ep:=d
    cases d'
  have nsK:∀ {b:Addr} {m:Str->Option Value},s₁.heap.Ns b m->(hidT s₁.heap H).Ns b m:=fun {b m} ⟨o,es,ep,e,d,r⟩=>⟨o,es,ep,base_of e (noA e d),d,r⟩
  have hKb:K.In (hidT s₁.heap H):=fun b o e=>base_of (KX b o e) (by
   cases q:H b with
   | none=>rfl
   | some u =>
    have e':b=a:=hA b (by rw [q]; simp)
    subst e'
    rw [hK (by rw [q]; simp)] at e; cases e)
  have hM:Mod K mg (hidT s₁.heap H):=⟨hKb,nsK hns,⟨mb,nsK hb,hbb⟩,let ⟨mc,h1,h2⟩:=hlim; ⟨mc,nsK h1,h2⟩⟩
  have e0:Env0 P w K mg (hidT s₁.heap H) callerA [] s₁ H:=⟨rfl,hM,fun b o e=>xK e,Nat.le_of_eq (sC _ _),trivial,fun b hb=>absurd (show b∈([]:List Addr) from hb) (by simp),hok,.of_eq hg⟩
  refine codeAny_mono ((F _ hKb (nsK hns)).run callerA [] s₁ H ⟨[.ref a],[]⟩ [.ref a] [.ref a] _ _ hr e0 (hbind s₁ (.ref a)) (.cons rfl .nil) (hsp H hO hS)) fun r s' h=>?_
  cases r with
  | error e=>exact (hCX H e s' h).elim
  | ok fl =>
   cases fl with
   | next=>exact False.elim h
   | brk=>exact False.elim h
   | cont=>exact False.elim h
   | ret u =>
    obtain ⟨v,H',os,bare,un,hok',r',q⟩:=h
    have q':v = .bl true:=q
    subst q'
    obtain rfl:u=Value.bool true:=r'
    refine ⟨rfl,OldK.of_keep fun b o e=>?_,os,bare⟩
    cases q:H b with
    | none=>exact un.keep b o e q (by intro z; exact absurd (show b∈([]:List Addr) from z) (by simp)) (by simp)
    | some u =>
     rcases hO b with z | ⟨ob,xs,z⟩
     ·rw [q] at z; cases z
     ·have z2:=un.frzs b ob _ z
      obtain ⟨e1,_⟩:=hok b _ z
      obtain ⟨e2,_⟩:=hok' b _ z2
      rw [e] at e1; cases e1
      exact e2
 cases hk:K.lookup a with
 | some o =>
  -- the script is one of the module's own objects
  have e:=KX a o hk
  rw [ha] at e
  cases e
  refine core (fun _=>none) (fun _=>.inl rfl) (.inr ⟨_,vs.toArray,_,hk,rfl,rfl,rfl,by rw [List.size_toArray,lenV]; exact hl,by simpa using rv⟩) (fun b u z=>by have z':(none:Option HO)=some u:=z; cases z') (fun b z=>absurd rfl z) fun z=>absurd rfl z
 | none =>
  refine core (fun b=>if b=a then some (.frz { cls:=.type "list",data:=.seq vs.toArray } (.lst (ns.map V.int))) else none) (fun b=>?_) (.inl (.inr ⟨{ cls:=.type "list",data:=.seq vs.toArray },if_pos rfl⟩)) (fun b u z=>?_) (fun b z=>?_) fun _=>hk
  ·by_cases hb:b=a
   ·exact .inr ⟨_,_,if_pos hb⟩
   ·exact .inl (if_neg hb)
  ·by_cases hb:b=a
   ·have z':=(if_pos hb).symm.trans z
    cases z'
    subst hb
    exact ⟨ha,by rw [List.length_map]; exact hl,vs,_,rv,ha⟩
   ·have z':=(if_neg hb).symm.trans z
    cases z'
  ·by_cases hb:b=a
   ·exact hb
   ·exact absurd (if_neg hb) z
end L2
namespace L2
open PySem PySem.Spec PyProof.Rows
theorem walk_of {l:PySem.W.OpenLaw} {n k:Nat} {q:Program} {loose:List Str} {XP:(Str->Option Value)->Heap->Prop} {YP:World->Heap->Prop} {d:DefRec} {K:Params->PySem.W.Frag} {CX:World->CXT} {sp:World->Sp} {x:Str}
  (hn:l.most=some n) (hn2:n <= sizeLine) (hdf:d.params.defaults=[]) (hr:Room k callerA)
  (hY:∀ (w:World) (h:Heap),YP w h->(K w.params).In h)
  (F:∀ (w:World) (mg:Str->Option Value) (fa:Addr) (h:Heap),(K w.params).In h->h.Ns mainGlobals mg->mg d.name=some (.ref fa) ->
   ∃ fd:FuncData,(∀ (s:Shared) (u:Value),BindsTo s fd ⟨[u],[]⟩ [(x,u)]) /\
    ∀ base:Heap,(K w.params).In base->base.Ns mainGlobals mg->FnOk l.prog w (K w.params) mg base (CX w) k fa fd [x] (sp w))
  (hsp:∀ (w:World) (H:Hp) (a:Addr) (ns:List Int),ns.length <= n->Only H->SqL (K w.params) H a (ns.map V.int)->sp w [.ref a] H (fun v _=>v = .bl true) fun _ _ _=>False)
  (hCX:∀ (w:World) (H:Hp) (s:Shared) (e:Value) (s':Shared),CX w [] H s (fun _ _ _=>False) e s'->False) :
  PySem.W.WalkO q loose XP YP l.row.toRowW d [] (fun f vs=>PySem.call f vs):=by
 refine Att.attach_call hn hdf fun w s₀ s₁ mg mb fa o pm cd doc a vs ns G Y ho hd hcd hmg hobj hints hlen hg=>?_
 have KX:=hY w _ Y
 obtain ⟨fd,hb,hF⟩:=F w mg fa _ KX G.T.g hmg
 exact vG KX G.T.g G.T.b G.T.builtins G.T.nolimit hg hobj hints (Nat.le_trans hlen hn2) hr hF hb (fun H hO hS=>hsp w H a ns hlen hO hS) fun H e s'=>hCX w H s₁ e s'
theorem walk_ofK {l:PySem.W.OpenLaw} {n k:Nat} {q:Program} {loose:List Str} {XP:(Str->Option Value)->Heap->Prop} {YP:World->Heap->Prop} {d:DefRec} {K:Params->PySem.W.Frag} {CX:CXT} {sp:PySem.W.Frag->Sp} {x:Str}
  (hn:l.most=some n) (hn2:n <= sizeLine) (hdf:d.params.defaults=[]) (hr:Room k callerA)
  (hY:∀ (w:World) (h:Heap),YP w h->(K w.params).In h)
  (F:∀ (w:World) (mg:Str->Option Value) (fa:Addr) (h:Heap),(K w.params).In h->h.Ns mainGlobals mg->mg d.name=some (.ref fa) ->
   ∃ fd:FuncData,(∀ (s:Shared) (u:Value),BindsTo s fd ⟨[u],[]⟩ [(x,u)]) /\
    ∀ base:Heap,(K w.params).In base->base.Ns mainGlobals mg->FnOk l.prog w (K w.params) mg base CX k fa fd [x] (sp (K w.params)))
  (hsp:∀ (K:PySem.W.Frag) (H:Hp) (a:Addr) (ns:List Int),ns.length <= n->Only H->SqL K H a (ns.map V.int)->sp K [.ref a] H (fun v _=>v = .bl true) fun _ _ _=>False)
  (hCX:∀ (H:Hp) (s:Shared) (e:Value) (s':Shared),CX [] H s (fun _ _ _=>False) e s'->False) :
  PySem.W.WalkO q loose XP YP l.row.toRowW d [] (fun f vs=>PySem.call f vs) :=
 walk_of (K:=K) (CX:=fun _=>CX) (sp:=fun w=>sp (K w.params)) hn hn2 hdf hr hY F (fun w H a ns h1 h2 h3=>hsp (K w.params) H a ns h1 h2 h3) fun _ H s e s'=>hCX H s e s'
end L2
/- THE LAST THEOREM (shape; LID,My.* are yours):
  My.Adr: a structure of the addresses that your layer names (classes,functions); My.Txt K t: a structure (Prop) of the equations over K;
  My.txt_mk:{K} {implicit addresses ..} (e1:nsIn K mainGlobals "law" = some (some (.ref f))) (e2:K.lookup f = some ⟨oc,od,.func (fnOf "law" "law" params body scope dV kV doc pm an cdv ct),sl⟩) (e3:codeIn K cdv "law" = true) .. : ∃ t,My.Txt K t
set_option maxRecDepth 100000 in
set_option maxHeartbeats 0 in
theorem PySem.Challenge.cw_LID_holds:PySem.Challenge.rw_LID.Holds:=by
 w_on; o_law; k_head; (case hw=>w_witness2)
 k_fill
 refine L2.walk_of (l:=PySem.Challenge.rw_LID) (n:=63) (k:=40) (x:="script") (CX:=fun w=>..) (sp:=fun _=>My.sp_law) rfl (by decide) rfl ⟨rfl,by decide,by decide⟩ (fun w h Y=>PySem.W.kIn_of Y) ?F ?S ?C
 case F =>
  intro w mg fa h KX G hmg
  have T:∃ t,My.Txt (L2.KOf KX) t:=by
   dsimp only [L2.KOf]                          -- K must stand as «<heap const> w.params» for k_is
   refine' My.txt_mk ?e1 ?e2 ?e3 ..
   (case e1=>PySem.W.k_is)                    -- in the order: a name -> its address -> its object -> its parts
   (case e2=>PySem.W.k_is)
   ..
  obtain ⟨t,T⟩:=T
  have e0:=hmg.symm.trans (PySem.W.mg_of KX G T.law)
  cases e0                                       -- fa is the law's own address
  exact ⟨_,fun s u=>.of_eq rfl,fun base kb nb=>My.law_fn T kb nb⟩     -- if «.of_eq rfl» comes too early: refine' ⟨_,?b,fun base kb nb=>My.law_fn T kb nb⟩; exact fun s u=>.of_eq rfl
 case S=>exact fun w H a ns hl hO hS=>..
 case C=>exact ..
(the tactic k_is has no namespace: write k_is) -/
namespace L2
open PySem PySem.Spec PyProof.Rows
def fF (s:Stmt):Arguments:=match s with
 | .FunctionDef _ a _ _ _ _ _ _ _ _=>a
 | _=>{ posonlyargs:=[],args:=[],vararg:=none,kwonlyargs:=[],kw_defaults:=[],kwarg:=none,defaults:=[] }
def cy (s:Stmt):List Stmt:=match s with
 | .FunctionDef _ _ b _ _ _ _ _ _ _=>b
 | _=>[]
def ak (s:Stmt):Scope:=match s with
 | .FunctionDef _ _ _ _ _ _ sc _ _ _=>sc
 | _=>{ kind:=.function,names:=[],isGenerator:=false,isCoroutine:=false }
abbrev CX0:CXT:=fun _ _ _ _ _ _=>False
abbrev E0:XK:=fun _ _ _=>False
theorem yf {X:Cx}:sN CX0 X E0:=fun _ _ _ _ _ _ _ h=>h.elim
structure Fun (K:PySem.W.Frag) (x qual:Str) (st:Stmt) (f:Addr) (fd:FuncData):Prop where
 ex:∃ (oc:Value) (od:Option Addr) (kV doc pm:Value) (an:Option Addr) (cdv ct:Value) (osl:Array (Option Value)),
  fd=PySem.W.fnOf x qual (fF st) (cy st) (ak st) .none kV doc pm an cdv ct /\ K.lookup f=some ⟨oc,od,.func fd,osl⟩ /\ PySem.W.codeIn K cdv qual=true
 kp:PySem.W.keepIn K (.ref f)=true
section
variable {P:Program} {w:World} {K:PySem.W.Frag} {mg:Str->Option Value} {base:Heap}
theorem Fun.ok {x qual:Str} {st:Stmt} {f:Addr} {fd:FuncData} {N ps:List Str} {k:Nat} {sp:Sp} (F:Fun K x qual st f fd) (S:FnScope N ps (ak st)) (len:∀ vs H Q E,sp vs H Q E->vs.length=ps.length)
  (hbody:∀ (cdv:Value) (A:Around) (outer:List Env) (s:Shared) (H:Hp) (vs:List V) (Q:VK) (E:XK),Room k (A.deeper (envOfC qual (ak st) s.heap.objs.size f cdv))->sp vs H Q E ->
   ∃ t,PSs (cxOf CX0 P w K mg base N qual (ak st) f cdv A outer s H E).nox (cy st) t /\ t { nx:=fun _ H'=>Q .non H',rt:=Q } (start N vs) H):FnOk P w K mg base CX0 (k + 1) f fd ps sp:=by
 obtain ⟨oc,od,kV,doc,pm,an,cdv,ct,osl,rfl,lk,hcd⟩:=F.ex
 refine BH lk hcd S len fun A outer s H vs Q E hr hsp=>?_
 obtain ⟨t,h,q⟩:=hbody cdv A outer s H vs Q E hr hsp
 exact ⟨t,h.nox,q⟩
theorem Fun.binds {x qual:Str} {st:Stmt} {f:Addr} {fd:FuncData} {ps:List Str} (F:Fun K x qual st f fd)
  (h:∀ (kV doc pm:Value) (an:Option Addr) (cdv ct:Value) (us:List Value),us.length=ps.length->bindArgs (PySem.W.fnOf x qual (fF st) (cy st) (ak st) .none kV doc pm an cdv ct) ⟨us,[]⟩=pure (ps.zip us)):Binds K fd ps []:=by
 obtain ⟨oc,od,kV,doc,pm,an,cdv,ct,osl,rfl,lk,hcd⟩:=F.ex
 exact .all (h kV doc pm an cdv ct)
theorem zT {x qual:Str} {st:Stmt} {f:Addr} {oc:Value} {od an:Option Addr} {osl:Array (Option Value)} {kV doc pm cdv ct:Value} (l:K.lookup f=some ⟨oc,od,.func (PySem.W.fnOf x qual (fF st) (cy st) (ak st) .none kV doc pm an cdv ct),osl⟩)
  (c:PySem.W.codeIn K cdv qual=true) (k:PySem.W.keepIn K (.ref f)=true):Fun K x qual st f (PySem.W.fnOf x qual (fF st) (cy st) (ak st) .none kV doc pm an cdv ct):=⟨⟨oc,od,kV,doc,pm,an,cdv,ct,osl,rfl,l,c⟩,k⟩
end
section
variable {X:Cx}
theorem pv (i:Nat) {x:Str} {pos:Pos} (hN:X.N[i]? = some x:=by rfl) (hv:Vis X.env.scope x:=by first | exact Or.inl rfl | exact Or.inr (Or.inl rfl) | exact Or.inr (Or.inr rfl)) (hd:(x == ("__debug__" : Str))=false:=by decide)
  (hcd:(x == ("__classdict__" : Str))=false:=by decide):PE X (.Name x pos) (tVar i):=zq hN hv hd hcd
end
theorem iteF {A B:Prop} (h:B):if false=true then A else B:=by
 rw [if_neg Bool.false_ne_true]
 exact h
theorem iteT {A B:Prop} (h:A):if true=true then A else B:=by
 rw [if_pos rfl]
 exact h
theorem ite2 {c A B:Prop} [Decidable c] (h1:c->A) (h2:¬ c->B):if c then A else B:=by
 by_cases h:c
 ·rw [if_pos h]
  exact h1 h
 ·rw [if_neg h]
  exact h2 h
def Same (H H':Hp):Prop:=∀ b o,H b=some o->H' b=some o
end L2
namespace L2
open PySem PySem.Spec PyProof.Rows
section
variable {X:Cx}
end
section
variable {κ:Type} [DecidableEq κ]
end
end L2
namespace L2
open PySem PySem.Spec PyProof.Rows
section
variable {X:Cx} {pos:Pos}
def gLs (K:PySem.W.Frag) (n:Nat) (t:TGs):TG:=fun v σ H Q=>∃ a xs,v = .ref a /\ SqL K H a xs /\ xs.length=n /\ t xs σ H Q
theorem BN {es:List Expr} {k:Nat} {t:TGs} {n:Nat} (hc:X.calm=true) (h:PGs X es t)
  (hn:(assignEach es X.env).length=n:=by rfl) (hst:(assignEach es X.env).findIdx? (·.1)=none:=by rfl):PG X (.Tuple es k pos) (gLs X.K n t):=by
 intro pins s σ H v u Q I r hw
 obtain ⟨a,xs,e1,hq,hl,hw⟩:=hw
 subst e1
 cases r
 obtain ⟨its,rv,pl,hz⟩:=I.list hq
 rw [assign_Tuple]
 refine wpAny_bind (wpAny_standAt ?_)
 unfold unpack
 rw [show (assignEach es X.env).length=its.toArray.size by simp [hn,← hl,rv.length],hst]
 refine wpAny_bind (wpAny_holding (PySem.W.kun_itemsOf (I.ok.hd hc) pl.isList fun h' hx=>?_))
 have I1:Inv X pins σ H { s with heap:=h' }:=I.kept (t':=s.toks) fun b o e=>hx b o (Nat.ne_of_lt (Heap.lt_size e)) e
 exact h pins _ σ H xs _ Q I1 (by simpa using rv) hw
def knV (H:Hp):V->Prop
 | .non=>True | .bl _=>True | .int _=>True | .str _=>True
 | .ref a=>(∃ xs,H a=some (.lst xs))∨(∃ o xs,H a=some (.frz o (.lst xs)))∨(∃ xs,H a=some (.tup xs))∨(∃ kvs,H a=some (.dK kvs))∨(∃ kvs,H a=some (.dT kvs))
 | _=>False
def wM:V->Bool
 | .int _=>true | .bl _=>true | _=>false
def zU:V->Bool
 | .bl _=>true | _=>false
def wN:V->Bool
 | .str _=>true | _=>false
def isTupO:Option HO->Bool
 | some (.tup _)=>true | _=>false
def gk:Option HO->Bool
 | some (.lst _)=>true | some (.frz _ (.lst _))=>true | _=>false
def ft (H:Hp):V->Bool
 | .ref a=>isTupO (H a) | _=>false
def fu (H:Hp):V->Bool
 | .ref a=>gk (H a) | _=>false
theorem aD {K:PySem.W.Frag} {t T:String} {b:Bool}
  (h:(if (Value.type t == Value.type T)=true then some true else if PySem.W.kitMeta T=true then (PySem.fastBuiltinMro t).map (·.contains (.type T)) else none)=some b):PySem.W.kitOne K (.type t) (.type T)=some b:=h
theorem dl {T:String} {f:Hp->V->Bool}
  (hn:∀ (H:Hp),PySem.W.kitOne X.K (.type "NoneType") (.type T)=some (f H .non)) (hb:∀ (H:Hp) c,PySem.W.kitOne X.K (.type "bool") (.type T)=some (f H (.bl c)))
  (hi:∀ (H:Hp) i,PySem.W.kitOne X.K (.type "int") (.type T)=some (f H (.int i))) (hs:∀ (H:Hp) x,PySem.W.kitOne X.K (.type "str") (.type T)=some (f H (.str x)))
  (hl:∀ (H:Hp) a xs,H a=some (.lst xs)->PySem.W.kitOne X.K (.type "list") (.type T)=some (f H (.ref a)))
  (hf:∀ (H:Hp) a o xs,H a=some (.frz o (.lst xs))->PySem.W.kitOne X.K (.type "list") (.type T)=some (f H (.ref a)))
  (ht:∀ (H:Hp) a xs,H a=some (.tup xs)->PySem.W.kitOne X.K (.type "tuple") (.type T)=some (f H (.ref a)))
  (hd:∀ (H:Hp) a kvs,H a=some (.dK kvs)->PySem.W.kitOne X.K (.type "dict") (.type T)=some (f H (.ref a)))
  (hd':∀ (H:Hp) a kvs,H a=some (.dT kvs)->PySem.W.kitOne X.K (.type "dict") (.type T)=some (f H (.ref a))) :
  cx X (.builtin "isinstance") (fun xs H Q=>∃ x,xs=[x,.ty T] /\ knV H x /\ Q (.bl (f H x)) H):=by
 intro pins s σ H xs us Q I r h
 obtain ⟨x,rfl,kn,q⟩:=h
 obtain ⟨u1,u2,rfl,r1,r2⟩:=BG r
 cases r2
 have fin:∀ t,TyOf X.K H x t->PySem.W.kitOne X.K t (.type T)=some (f H x)->wpAny (model X.prog X.w) X.A (call (.builtin "isinstance") [u1,.type T]) (EP X pins σ Q) X.xe s :=
  fun t ty e=>sL I r1 ty e fun tk=>⟨.bl (f H x),H,I.tok tk,rfl,q⟩
 cases x with
 | non=>exact fin _ .non (hn H)
 | bl c=>exact fin _ (.bl c) (hb H c)
 | int i=>exact fin _ (.int i) (hi H i)
 | str y=>exact fin _ (.str y) (hs H y)
 | ref a =>
  rcases kn with ⟨ys,e⟩ | ⟨o,ys,e⟩ | ⟨ys,e⟩ | ⟨ys,e⟩ | ⟨ys,e⟩
  ·exact fin _ (.lst e) (hl H a ys e)
  ·exact fin _ (.frz e) (hf H a o ys e)
  ·exact fin _ (.tup e) (ht H a ys e)
  ·exact fin _ (.dK e) (hd H a ys e)
  ·exact fin _ (.dT e) (hd' H a ys e)
 | _=>exact kn.elim
theorem jl {K:PySem.W.Frag}:PySem.W.kitOne K (.type "NoneType") (.type "int")=some false:=aD (by decide +kernel)
theorem oV {K:PySem.W.Frag}:PySem.W.kitOne K (.type "bool") (.type "int")=some true:=aD (by decide +kernel)
theorem rC {K:PySem.W.Frag}:PySem.W.kitOne K (.type "int") (.type "int")=some true:=aD (by decide +kernel)
theorem rD {K:PySem.W.Frag}:PySem.W.kitOne K (.type "str") (.type "int")=some false:=aD (by decide +kernel)
theorem jp {K:PySem.W.Frag}:PySem.W.kitOne K (.type "list") (.type "int")=some false:=aD (by decide +kernel)
theorem mT {K:PySem.W.Frag}:PySem.W.kitOne K (.type "tuple") (.type "int")=some false:=aD (by decide +kernel)
theorem jq {K:PySem.W.Frag}:PySem.W.kitOne K (.type "dict") (.type "int")=some false:=aD (by decide +kernel)
theorem iN {K:PySem.W.Frag}:PySem.W.kitOne K (.type "NoneType") (.type "bool")=some false:=aD (by decide +kernel)
theorem mU {K:PySem.W.Frag}:PySem.W.kitOne K (.type "bool") (.type "bool")=some true:=aD (by decide +kernel)
theorem oW {K:PySem.W.Frag}:PySem.W.kitOne K (.type "int") (.type "bool")=some false:=aD (by decide +kernel)
theorem oX {K:PySem.W.Frag}:PySem.W.kitOne K (.type "str") (.type "bool")=some false:=aD (by decide +kernel)
theorem iC {K:PySem.W.Frag}:PySem.W.kitOne K (.type "list") (.type "bool")=some false:=aD (by decide +kernel)
theorem lz {K:PySem.W.Frag}:PySem.W.kitOne K (.type "tuple") (.type "bool")=some false:=aD (by decide +kernel)
theorem iD {K:PySem.W.Frag}:PySem.W.kitOne K (.type "dict") (.type "bool")=some false:=aD (by decide +kernel)
theorem jr {K:PySem.W.Frag}:PySem.W.kitOne K (.type "NoneType") (.type "str")=some false:=aD (by decide +kernel)
theorem oY {K:PySem.W.Frag}:PySem.W.kitOne K (.type "bool") (.type "str")=some false:=aD (by decide +kernel)
theorem rE {K:PySem.W.Frag}:PySem.W.kitOne K (.type "int") (.type "str")=some false:=aD (by decide +kernel)
theorem rF {K:PySem.W.Frag}:PySem.W.kitOne K (.type "str") (.type "str")=some true:=aD (by decide +kernel)
theorem ju {K:PySem.W.Frag}:PySem.W.kitOne K (.type "list") (.type "str")=some false:=aD (by decide +kernel)
theorem mV {K:PySem.W.Frag}:PySem.W.kitOne K (.type "tuple") (.type "str")=some false:=aD (by decide +kernel)
theorem jv {K:PySem.W.Frag}:PySem.W.kitOne K (.type "dict") (.type "str")=some false:=aD (by decide +kernel)
theorem gN {K:PySem.W.Frag}:PySem.W.kitOne K (.type "NoneType") (.type "tuple")=some false:=aD (by decide +kernel)
theorem lB {K:PySem.W.Frag}:PySem.W.kitOne K (.type "bool") (.type "tuple")=some false:=aD (by decide +kernel)
theorem mW {K:PySem.W.Frag}:PySem.W.kitOne K (.type "int") (.type "tuple")=some false:=aD (by decide +kernel)
theorem mX {K:PySem.W.Frag}:PySem.W.kitOne K (.type "str") (.type "tuple")=some false:=aD (by decide +kernel)
theorem gl {K:PySem.W.Frag}:PySem.W.kitOne K (.type "list") (.type "tuple")=some false:=aD (by decide +kernel)
theorem kx {K:PySem.W.Frag}:PySem.W.kitOne K (.type "tuple") (.type "tuple")=some true:=aD (by decide +kernel)
theorem gq {K:PySem.W.Frag}:PySem.W.kitOne K (.type "dict") (.type "tuple")=some false:=aD (by decide +kernel)
theorem iO {K:PySem.W.Frag}:PySem.W.kitOne K (.type "NoneType") (.type "list")=some false:=aD (by decide +kernel)
theorem mY {K:PySem.W.Frag}:PySem.W.kitOne K (.type "bool") (.type "list")=some false:=aD (by decide +kernel)
theorem oZ {K:PySem.W.Frag}:PySem.W.kitOne K (.type "int") (.type "list")=some false:=aD (by decide +kernel)
theorem pd {K:PySem.W.Frag}:PySem.W.kitOne K (.type "str") (.type "list")=some false:=aD (by decide +kernel)
theorem iE {K:PySem.W.Frag}:PySem.W.kitOne K (.type "list") (.type "list")=some true:=aD (by decide +kernel)
theorem lC {K:PySem.W.Frag}:PySem.W.kitOne K (.type "tuple") (.type "list")=some false:=aD (by decide +kernel)
theorem iF {K:PySem.W.Frag}:PySem.W.kitOne K (.type "dict") (.type "list")=some false:=aD (by decide +kernel)
theorem pf:cx X (.builtin "isinstance") (fun xs H Q=>∃ x,xs=[x,.ty "int"] /\ knV H x /\ Q (.bl (wM x)) H) :=
 dl (f:=fun _ x=>wM x) (fun _=>jl) (fun _ _=>oV) (fun _ _=>rC) (fun _ _=>rD) (fun _ _ _ _=>jp) (fun _ _ _ _ _=>jp) (fun _ _ _ _=>mT) (fun _ _ _ _=>jq) (fun _ _ _ _=>jq)
theorem mZ:cx X (.builtin "isinstance") (fun xs H Q=>∃ x,xs=[x,.ty "bool"] /\ knV H x /\ Q (.bl (zU x)) H) :=
 dl (f:=fun _ x=>zU x) (fun _=>iN) (fun _ _=>mU) (fun _ _=>oW) (fun _ _=>oX) (fun _ _ _ _=>iC) (fun _ _ _ _ _=>iC) (fun _ _ _ _=>lz) (fun _ _ _ _=>iD) (fun _ _ _ _=>iD)
theorem pj:cx X (.builtin "isinstance") (fun xs H Q=>∃ x,xs=[x,.ty "str"] /\ knV H x /\ Q (.bl (wN x)) H) :=
 dl (f:=fun _ x=>wN x) (fun _=>jr) (fun _ _=>oY) (fun _ _=>rE) (fun _ _=>rF) (fun _ _ _ _=>ju) (fun _ _ _ _ _=>ju) (fun _ _ _ _=>mV) (fun _ _ _ _=>jv) (fun _ _ _ _=>jv)
theorem lD:cx X (.builtin "isinstance") (fun xs H Q=>∃ x,xs=[x,.ty "tuple"] /\ knV H x /\ Q (.bl (ft H x)) H) :=
 dl (f:=ft) (fun _=>gN) (fun _ _=>lB) (fun _ _=>mW) (fun _ _=>mX) (fun H a xs e=>by simp only [ft,e,isTupO]; exact gl) (fun H a o xs e=>by simp only [ft,e,isTupO]; exact gl) (fun H a xs e=>by simp only [ft,e,isTupO]; exact kx) (fun H a xs e=>by simp only [ft,e,isTupO]; exact gq) (fun H a xs e=>by simp only [ft,e,isTupO]; exact gq)
theorem nj:cx X (.builtin "isinstance") (fun xs H Q=>∃ x,xs=[x,.ty "list"] /\ knV H x /\ Q (.bl (fu H x)) H) :=
 dl (f:=fu) (fun _=>iO) (fun _ _=>mY) (fun _ _=>oZ) (fun _ _=>pd) (fun H a xs e=>by simp only [fu,e,gk]; exact iE) (fun H a o xs e=>by simp only [fu,e,gk]; exact iE) (fun H a xs e=>by simp only [fu,e,gk]; exact lC) (fun H a xs e=>by simp only [fu,e,gk]; exact iF) (fun H a xs e=>by simp only [fu,e,gk]; exact iF)
def Big (i:Int):Prop:=i.natAbs.log2 < 8000
theorem wO {i:Int} (h:i.natAbs < 2 ^ 8000):Big i:=by
 unfold Big
 rcases Nat.eq_zero_or_pos i.natAbs with h0 | hp
 ·rw [h0]; decide
 ·exact (Nat.log2_lt (Nat.ne_of_gt hp)).mpr h
theorem Big.bits {i:Int} (h:Big i):Builtin.Int.intBits i <= 8000:=by
 unfold Builtin.Int.intBits
 unfold Big at h
 split
 ·exact Nat.zero_le _
 ·omega
def CMulB (i j:Int):Prop:=(-(2 ^ 64) < i /\ i < 2 ^ 64)∨(-(2 ^ 64) < j /\ j < 2 ^ 64)∨(Big i /\ Big j)
theorem CMulB.ok {i j:Int} (h:CMulB i j):IntMulOk i j:=by
 rcases h with ⟨h1,h2⟩ | ⟨h1,h2⟩ | ⟨h1,h2⟩
 ·exact .of_left (intBits_le_64 h1 h2)
 ·exact .of_right (intBits_le_64 h1 h2)
 ·have b1:=h1.bits
  have b2:=h2.bits
  unfold IntMulOk
  have:Builtin.Int.intTooBig (Builtin.Int.intBits i + Builtin.Int.intBits j)=false:=by
   unfold Builtin.Int.intTooBig
   refine decide_eq_false ?_
   have e:bitsLine=134217728:=by decide
   rw [e]
   omega
  rw [this]
  simp
theorem gO:OpR X (binaryOp .Mult) (rI CMulB fun i j=>.int (i * j)):=opI fun _ _ _ _ _ _ _ hc q=>mul_int q hc.ok
def zV (_ j:Int):Prop:=0 < j /\ Big j
theorem lE:OpR X (binaryOp .FloorDiv) (rI zV fun i j=>.int (i / j)):=opI fun i j _ _ _ _ _ hc q=>by
 have h1:(0:Int) < j:=hc.1
 exact floordiv_int (by omega) (by rw [Int.fdiv_eq_ediv_of_nonneg i (by omega)]; exact q) (.inl (PyProof.noPylong_of_log2 (Nat.lt_trans hc.2 (by decide))))
end
structure Df (K:PySem.W.Frag) (mg:Str->Option Value) (x:Str) (st:Stmt) (ps:List Str) (f:Addr) (fd:FuncData):Prop where
 F:Fun K x x st f fd
 m:mg x=some (.ref f)
 b:Binds K fd ps []
def SBut (p:Addr) (H H':Hp):Prop:=∀ b o,b≠p->H b=some o->H' b=some o
theorem SBut.trans {p:Addr} {H H1 H2:Hp} (x:SBut p H H1) (y:SBut p H1 H2):SBut p H H2:=fun b o n e=>y b o n (x b o n e)
theorem SBut.upd {p:Addr} {H:Hp} {o:HO}:SBut p H (upd H p o):=fun b u n e=>by rw [ah n]; exact e
theorem qh {q:Addr} {H:Hp} {o:HO} (h:H q=none):Same H (upd H q o):=fun b u e=>by rw [ah (bT e h)]; exact e
theorem fG {H:Hp} {p q:Addr} {o u:HO} (h:H p=none) (e:H q=some u):upd H p o q=some u:=by rw [ah (bT e h)]; exact e
def Scr (K:PySem.W.Frag) (H:Hp) (a:Addr) (ns:List Int):Prop:=(∃ o,H a=some (.frz o (.lst (ns.map V.int))))∨∀ H',SqL K H' a (ns.map V.int)
theorem Scr.sq {K:PySem.W.Frag} {H:Hp} {a:Addr} {ns:List Int} (h:Scr K H a ns):SqL K H a (ns.map V.int):=by
 rcases h with ⟨o,h⟩ | h
 ·exact .inl (.inr ⟨o,h⟩)
 ·exact h H
theorem zW {K:PySem.W.Frag} {H:Hp} {a:Addr} {ns:List Int} (h1:Only H) (h:SqL K H a (ns.map V.int)):Scr K H a ns:=by
 rcases h with (h | ⟨o,h⟩) | h
 ·rcases h1 a with z | ⟨o,xs,z⟩
  ·rw [z] at h; cases h
  ·rw [z] at h; cases h
 ·exact .inl ⟨o,h⟩
 ·exact .inr fun H'=>.inr h
structure Pen (K:PySem.W.Frag) (H:Hp) (p a:Addr) (ns:List Int) (t l:Int):Prop where
 lst:H p=some (.lst [.ref a,.int t,.int l])
 scr:Scr K H a ns
 t0:0 <= t
theorem Pen.put {K:PySem.W.Frag} {H:Hp} {p a:Addr} {ns:List Int} {t l t' l':Int} (h:Pen K H p a ns t l) (h0:0 <= t'):Pen K (upd H p (.lst [.ref a,.int t',.int l'])) p a ns t' l':=by
 refine ⟨ai,?_,h0⟩
 rcases h.scr with ⟨o,e⟩ | e
 ·refine .inl ⟨o,?_⟩
  rw [ah (ku e h.lst (by intro z; cases z))]
  exact e
 ·exact .inr e
theorem Pen.same {K:PySem.W.Frag} {H H':Hp} {p a:Addr} {ns:List Int} {t l:Int} (h:Pen K H p a ns t l) (s:Same H H'):Pen K H' p a ns t l:=by
 refine ⟨s _ _ h.lst,?_,h.t0⟩
 rcases h.scr with ⟨o,e⟩ | e
 ·exact .inl ⟨o,s _ _ e⟩
 ·exact .inr e
theorem sW {ns:List Int} {i:Int} (h0:0 <= i) (h:i < (ns.length:Int)):atI (ns.map V.int) i=some (.int (ns.getD i.toNat 0)):=by
 obtain ⟨j,rfl⟩:=Int.eq_ofNat_of_zero_le h0
 have hj:j < ns.length:=by omega
 refine atI_nat ?_
 simp [List.getElem?_map,hj]
end L2
namespace L2
open PySem PySem.Spec PyProof.Rows
section
variable {X:Cx} {pos:Pos}
def vH:R2:=fun x y H Q=>∃ p xs i v,x = .ref p /\ y = .int i /\ H p=some (.tup xs) /\ atI xs i=some v /\ Q v H
def zX:R2:=fun x y H Q=>∃ p xs i v,x = .ref p /\ y = .int i /\ H p=some (.lst xs) /\ atI xs i=some v /\ Q v H
theorem lF:IxR X vH:=fun value slice pins s σ H x y v u Q I rx ry ⟨p,xs,i,z,e1,e2,h,e3,q⟩ hs=>zK value slice pins s σ H x y v u Q I rx ry ⟨p,xs,i,z,e1,e2,SqT.of h,e3,q⟩ hs
theorem qi:IxR X zX:=fun value slice pins s σ H x y v u Q I rx ry ⟨p,xs,i,z,e1,e2,h,e3,q⟩ hs=>lg value slice pins s σ H x y v u Q I rx ry ⟨p,xs,i,z,e1,e2,SqL.of h,e3,q⟩ hs
def lenO:Option HO->Option Nat
 | some (.lst xs)=>some xs.length | some (.tup xs)=>some xs.length | _=>none
def BO:List V->Hp->VK->Prop:=fun xs H Q=>∃ p n,xs=[.ref p] /\ lenO (H p)=some n /\ Q (.int n) H
theorem sX:cx X (.builtin "len") BO:=by
 intro pins s σ H xs us Q I r h
 obtain ⟨p,n,rfl,e,q⟩:=h
 cases o:H p with
 | none=>rw [o] at e; cases e
 | some ob =>
  rw [o] at e
  cases ob with
  | lst ys=>cases e; exact bW pins s σ H _ us Q I r ⟨p,ys,rfl,.inl (SqL.of o),q⟩
  | tup ys=>cases e; exact bW pins s σ H _ us Q I r ⟨p,ys,rfl,.inr (SqT.of o),q⟩
  | _=>cases e
def gLsH (n:Nat) (t:TGs):TG:=fun v σ H Q=>∃ a xs,v = .ref a /\ H a=some (.lst xs) /\ xs.length=n /\ t xs σ H Q
theorem zY {es:List Expr} {k:Nat} {t:TGs} {n:Nat} (hc:X.calm=true) (h:PGs X es t)
  (hn:(assignEach es X.env).length=n:=by rfl) (hst:(assignEach es X.env).findIdx? (·.1)=none:=by rfl):PG X (.Tuple es k pos) (gLsH n t) :=
 fun pins s σ H v u Q I r ⟨a,xs,e1,e2,e3,q⟩=>BN hc h hn hst pins s σ H v u Q I r ⟨a,xs,e1,SqL.of e2,e3,q⟩
def zZ (n:Nat) (t:TGs):TG:=fun v σ H Q=>∃ a xs,v = .ref a /\ H a=some (.tup xs) /\ xs.length=n /\ t xs σ H Q
theorem sY {es:List Expr} {k:Nat} {t:TGs} {n:Nat} (hc:X.calm=true) (h:PGs X es t)
  (hn:(assignEach es X.env).length=n:=by rfl) (hst:(assignEach es X.env).findIdx? (·.1)=none:=by rfl):PG X (.Tuple es k pos) (zZ n t) :=
 fun pins s σ H v u Q I r ⟨a,xs,e1,e2,e3,q⟩=>zA hc h hn hst pins s σ H v u Q I r ⟨a,xs,e1,SqT.of e2,e3,q⟩
end
end L2
namespace L2
open PySem PySem.Spec PyProof.Rows
def sZ (K:PySem.W.Frag):Sp:=fun vs H Q _=>∃ (p a:Addr) (ns:List Int) (t l m:Int),vs=[.ref p,.int m] /\ Pen K H p a ns t l /\ 1 <= m /\ m <= 10 ^ 60 /\
 ∀ (r t' l':Int) (H':Hp),0 <= r->r < m->Pen K H' p a ns t' l'->SBut p H H'->Q (.int r) H'
def wP (K:PySem.W.Frag):Sp:=fun vs H Q _=>∃ (a:Addr) (ns:List Int),vs=[.ref a] /\ Scr K H a ns /\ ∀ (p:Addr) (H':Hp),H p=none->Pen K H' p a ns 0 0->Same H H'->Q (.ref p) H'
theorem lG {x d y:Int} (h0:0 < d) (h:d <= 18446744073709551616):CMulB (x % d) y:=by
 have h1:=Int.emod_nonneg x (show d≠0 by omega)
 have h2:=Int.emod_lt_of_pos x h0
 exact .inl ⟨by omega,by omega⟩
theorem vI {c y:Int} (h : -18446744073709551616 < c /\ c < 18446744073709551616:=by decide):CMulB c y:=.inl h
theorem Aa {c y:Int} (h : -18446744073709551616 < c /\ c < 18446744073709551616:=by decide):CMulB y c:=.inr (.inl h)
theorem mpos {c:Int} (h:0 < c:=by decide):0 < c:=h
theorem tj {c:Int} (h0:0 <= c) (h:c <= 10 ^ 60):Big c:=wO (Nat.lt_of_lt_of_le (Nat.lt_of_le_of_lt (show c.natAbs <= 10 ^ 60 by omega) (show 10 ^ 60 < 2 ^ 200 by decide)) (Nat.pow_le_pow_right (by decide) (by decide)))
theorem jw {c:Int} (h0:0 <= c) (h:c <= 18446744073709551616):Big c:=wO (Nat.lt_of_lt_of_le (Nat.lt_of_le_of_lt (show c.natAbs <= 18446744073709551616 by omega) (show 18446744073709551616 < 2 ^ 65 by decide)) (Nat.pow_le_pow_right (by decide) (by decide)))
end L2
namespace Ra
end Ra
namespace L2
open PySem PySem.Spec PyProof.Rows
def cR (cells:List (Str×Addr)):List (Str×NameKind)->List (Str×Addr)->Option (List (Str×Addr))
 | [],cs=>some cs
 | (n,k)::r,cs=>if k == .free then (match cells.lookup n with
  | some c=>cR cells r ((n,c)::cs)
  | none=>none) else cR cells r cs
theorem gr {scope:Scope} {env:Env} {cl:List (Str×Addr)} (h:cR env.cells scope.names []=some cl):closureFor scope env=pure cl:=by
 simp only [closureFor]
 generalize ([]:List (Str×Addr))=cs at h ⊢
 generalize scope.names=l at h ⊢
 induction l generalizing cs with
 | nil=>cases h; rfl
 | cons a r ih =>
  obtain ⟨n,k⟩:=a
  unfold cR at h
  rw [List.forIn_cons]
  by_cases hk:(k == NameKind.free)=true
  ·rw [if_pos hk] at h
   cases e:env.cells.lookup n with
   | none=>rw [e] at h; cases h
   | some c =>
    rw [e] at h
    have:=ih _ h
    simp only [hk,if_true,cellOf,e,pure_bind]
    exact this
  ·rw [if_neg hk] at h
   have:=ih _ h
   simp only [hk,Bool.false_eq_true,if_false,pure_bind]
   exact this
theorem gP {cells cl:List (Str×Addr)}:∀ {l:List (Str×NameKind)} {cs:List (Str×Addr)},cR cells l cs=some cl->(∀ y c,cs.lookup y=some c->cells.lookup y=some c)->∀ y c,cl.lookup y=some c->cells.lookup y=some c
 | [],cs,h,hs,y,c,e=>by cases h; exact hs y c e
 | (n,k)::r,cs,h,hs,y,c,e=>by
  unfold cR at h
  by_cases hk:(k == NameKind.free)=true
  ·rw [if_pos hk] at h
   cases q:cells.lookup n with
   | none=>rw [q] at h; cases h
   | some c' =>
    rw [q] at h
    refine gP h (fun z d hz=>?_) y c e
    by_cases hzn:(z == n)=true
    ·rw [List.lookup_cons,hzn] at hz
     cases hz
     rw [eq_of_beq hzn]; exact q
    ·rw [List.lookup_cons,(Bool.not_eq_true _).mp hzn] at hz
     exact hs z d hz
  ·rw [if_neg hk] at h
   exact gP h hs y c e
theorem fh {cells cl:List (Str×Addr)}:∀ {l:List (Str×NameKind)} {cs:List (Str×Addr)},cR cells l cs=some cl->∀ y,((y,NameKind.free)∈l∨∃ c,cs.lookup y=some c)->∃ c,cl.lookup y=some c
 | [],cs,h,y,e=>by
  cases h
  rcases e with e | e
  ·simp at e
  ·exact e
 | (n,k)::r,cs,h,y,e=>by
  unfold cR at h
  by_cases hk:(k == NameKind.free)=true
  ·rw [if_pos hk] at h
   cases q:cells.lookup n with
   | none=>rw [q] at h; cases h
   | some c' =>
    rw [q] at h
    refine fh h y ?_
    rcases e with e | ⟨c,e⟩
    ·rcases List.mem_cons.mp e with e | e
     ·cases e
      exact .inr ⟨c',by rw [List.lookup_cons,beq_self_eq_true]⟩
     ·exact .inl e
    ·by_cases hyn:(y == n)=true
     ·exact .inr ⟨c',by rw [List.lookup_cons,hyn]⟩
     ·exact .inr ⟨c,by rw [List.lookup_cons,(Bool.not_eq_true _).mp hyn]; exact e⟩
  ·rw [if_neg hk] at h
   refine fh h y ?_
   rcases e with e | e
   ·rcases List.mem_cons.mp e with e | e
    ·cases e
     exact absurd rfl hk
    ·exact .inl e
   ·exact .inr e
inductive Cap (X:Cx) (scope:Scope):List Str->List (Option Nat)->Prop where
 | nil:Cap X scope [] []
 | own {x:Str} {N:List Str} {js:List (Option Nat)} (h:Cap X scope N js):Cap X scope (x::N) (none::js)
 | cap {x:Str} {j:Nat} {N:List Str} {js:List (Option Nat)} (h1:X.N[j]? = some x) (h2:X.env.kindOf x=some .cell∨X.env.kindOf x=some .free)
   (h3:scope.names.lookup x=some .free) (h:Cap X scope N js):Cap X scope (x::N) (some j::js)
def sub1 (σ:St):Option Nat->Option V
 | none=>none
 | some j=>(σ[j]?).join
def sub (js:List (Option Nat)) (σ:St):St:=js.map (sub1 σ)
theorem Cap.len {X:Cx} {scope:Scope} {N:List Str} {js:List (Option Nat)} (h:Cap X scope N js):js.length=N.length:=by induction h <;> simp [*]
theorem Cap.at {X:Cx} {scope:Scope} {N:List Str} {js:List (Option Nat)} (h:Cap X scope N js):∀ {i:Nat} {x:Str} {σ:St} {v:V},N[i]? = some x->(sub js σ)[i]? = some (some v) ->
  ∃ j:Nat,X.N[j]? = some x /\ σ[j]? = some (some v) /\ (X.env.kindOf x=some .cell∨X.env.kindOf x=some .free) /\ scope.names.lookup x=some .free:=by
 induction h with
 | nil=>intro i x σ v h; simp at h
 | own h ih =>
  intro i x σ v h1 h2
  cases i with
  | zero=>simp [sub,sub1] at h2
  | succ i=>exact ih (by simpa using h1) (by simpa [sub] using h2)
 | @cap x j N js k1 k2 k3 h ih =>
  intro i y σ v h1 h2
  cases i with
  | zero =>
   simp at h1
   subst h1
   simp [sub,sub1] at h2
   refine ⟨j,k1,?_,k2,k3⟩
   cases q:σ[j]? with
   | none=>rw [q] at h2; simp at h2
   | some o=>rw [q] at h2; simp at h2; rw [h2]
  | succ i=>exact ih (by simpa using h1) (by simpa [sub] using h2)
def cS (X:Cx) (scope:Scope) (cl:List (Str×Addr)) (C:Addr) (N':List Str) (s₃:Shared) (H₃:Hp) (fp:List Addr) (pins:List (Addr×Obj)):Cx :=
 { X with N:=N',s₀:=s₃,H₀:=H₃,env:=compEnvC scope cl C X.env,outer:=X.stack,ex:=fp,fn:=fun y=>scope.names.lookup y == some .cell,pn:=X.pn++pins,xe:=fun _ _=>False }
structure Blk where
 C:Addr
 s3:Shared
 H3:Hp
 fp:List Addr
 pins:List (Addr×Obj)
abbrev cxB (X:Cx) (scope:Scope) (cl:List (Str×Addr)) (N':List Str) (B:Blk):Cx:=cS X scope (cellsFrom (B.C + 1) scope.names cl) B.C N' B.s3 B.H3 B.fp B.pins
def PTs (X:Cx) (ifs:List Expr) (t:TT):Prop :=
 ∀ (pins:List (Addr×Obj)) (s:Shared) (σ:St) (H:Hp) (Q:Bool->Hp->Prop),Inv X pins σ H s->t σ H Q ->
  wpAny (model X.prog X.w) X.A (forIn ifs true fun c r=>if r=true then do let ok ← isTrue c X.env (eval c X.env); pure (ForInStep.yield ok) else pure (ForInStep.yield r)) (TP X pins σ Q) X.xe s
def yg:TT:=fun _ H Q=>Q true H
theorem yh {X:Cx}:PTs X [] yg:=fun _ _ _ H _ I h=>wpAny_tests_nil ⟨H,I,h⟩
theorem yi {X:Cx} {c:Expr} {t:TT} (h:PT X c t):PTs X [c] t:=fun pins s σ H Q I q=>wpAny_tests_one (h pins s σ H Q I q)
def yj (wi:TI) (js:List (Option Nat)) (g:Blk->TG) (tc:Blk->TT) (te:Blk->TE):TE:=fun σ H Q=>wi σ H fun J H1=>∀ (B:Blk) D,H1 D=none->∃ W:Nat->Nat->St->Hp->Prop,(∃ m,W 0 m (sub js σ) (upd H1 D (.lst []))) /\ ∀ i m σ' H',W i m σ' H' ->
 (J.stop i H' /\ Q (.ref D) H')∨(J.go i H' /\ ∃ N:St->Hp->Prop,(∀ σ2 H2,N σ2 H2->∃ m',m' < m /\ W (i + 1) m' σ2 H2) /\ ∀ y H2,J.yld i H' y H2->g B y σ' H2 fun σ3 H3=>tc B σ3 H3 fun b H4 =>
  if b=true then te B σ3 H4 fun v H5=>∃ ys,H5 D=some (.lst ys) /\ ys.length < sizeLine /\ N σ3 (upd H5 D (.lst (ys++[v]))) else N σ3 H4)
theorem nq {scope:Scope} {env:Env} {y:Str} (h:(relabel scope env).names.lookup y=some .cell∨(relabel scope env).names.lookup y=some .free):(y,NameKind.free)∈scope.names∨(y,NameKind.cell)∈scope.names:=by
 have key:∀ k,(y,k)∈(relabel scope env).names->(k = .cell∨k = .free)->(y,NameKind.free)∈scope.names∨(y,NameKind.cell)∈scope.names:=by
  intro k hm hk
  obtain ⟨⟨n,q⟩,hn,e⟩:=List.mem_map.mp hm
  dsimp only at e
  split at e
  ·rename_i c
   simp only [Bool.and_eq_true] at c
   have:q = .free:=eq_of_beq c.1.1
   subst this
   cases e
   exact .inl hn
  ·cases e
   rcases hk with rfl | rfl
   ·exact .inr hn
   ·exact .inl hn
 rcases h with h | h
 ·exact key _ (PySem.mem_of_lookup h) (.inl rfl)
 ·exact key _ (PySem.mem_of_lookup h) (.inr rfl)
theorem jx {scope:Scope} {env:Env} {y:Str} (h:scope.names.lookup y=some .free):(relabel scope env).names.lookup y=some .cell∨(relabel scope env).names.lookup y=some .free:=by
 show (List.lookup y (scope.names.map _))=_∨(List.lookup y (scope.names.map _))=_
 generalize scope.names=l at h
 induction l with
 | nil=>simp at h
 | cons a r ih =>
  obtain ⟨n,k⟩:=a
  rw [List.lookup_cons] at h
  rw [List.map_cons]
  cases e:y == n with
  | true =>
   rw [e] at h
   cases h
   dsimp only
   split
   ·left; rw [List.lookup_cons,e]
   ·right; rw [List.lookup_cons,e]
  | false =>
   rw [e] at h
   dsimp only
   split <;> (rw [List.lookup_cons,e]; exact ih h)
theorem bv:∀ (names:List (Str×NameKind)) (n:Nat) (acc:List (Str×Addr)),cellsFrom n names acc=cellsFrom n names []++acc
 | [],_,_=>rfl
 | (x,k)::r,n,acc=>by
  unfold cellsFrom
  split
  ·rw [bv r (n + 1) ((x,n)::acc),bv r (n + 1) [(x,n)],List.append_assoc]; rfl
  ·exact bv r n acc
theorem cW:∀ (names:List (Str×NameKind)) (n:Nat) (y:Str) (c:Addr),(y,c)∈cellsFrom n names []->(y,NameKind.cell)∈names
 | [],_,_,_,h=>(nomatch h)
 | (x,k)::r,n,y,c,h=>by
  unfold cellsFrom at h
  split at h
  ·rename_i hk
   rw [bv] at h
   rcases List.mem_append.mp h with h | h
   ·exact List.mem_cons_of_mem _ (cW r _ y c h)
   ·have e:=List.mem_singleton.mp h
    cases e
    rw [show k = .cell from eq_of_beq hk]
    exact List.mem_cons_self
  ·exact List.mem_cons_of_mem _ (cW r _ y c h)
theorem gs:∀ {l:List (Str×Addr)} {y:Str} {c:Addr},(y,c)∈l->∃ d,l.lookup y=some d
 | (x,k)::r,y,c,h=>by
  rw [List.lookup_cons]
  cases e:y == x with
  | true=>exact ⟨_,rfl⟩
  | false =>
   rcases List.mem_cons.mp h with h | h
   ·cases h; simp at e
   ·exact gs h
theorem dH:∀ (names:List (Str×NameKind)) (n:Nat) (y:Str),(y,NameKind.cell)∈names->∃ c,(y,c)∈cellsFrom n names []
 | (x,k)::r,n,y,h=>by
  unfold cellsFrom
  split
  ·rw [bv]
   rcases List.mem_cons.mp h with h | h
   ·cases h
    exact ⟨n,List.mem_append_right _ (List.mem_singleton.mpr rfl)⟩
   ·obtain ⟨c,q⟩:=dH r (n + 1) y h
    exact ⟨c,List.mem_append_left _ q⟩
  ·rename_i hk
   rcases List.mem_cons.mp h with h | h
   ·cases h; exact absurd rfl hk
   ·exact dH r n y h
theorem dm {l r:List (Str×Addr)} {y:Str} {c:Addr} (h:(l++r).lookup y=some c):l.lookup y=some c∨(l.lookup y=none /\ r.lookup y=some c):=by
 rw [List.lookup_append] at h
 cases e:l.lookup y with
 | none=>rw [e] at h; exact .inr ⟨rfl,h⟩
 | some d=>rw [e] at h; exact .inl h
theorem jy {l r:List (Str×Addr)} {y:Str} {c:Addr} (h:l.lookup y=some c):(l++r).lookup y=some c:=by rw [List.lookup_append,h]; rfl
theorem jz {l r:List (Str×Addr)} {y:Str} (h:l.lookup y=none):(l++r).lookup y=r.lookup y:=by rw [List.lookup_append,h]; rfl
theorem iP {M:Model} {A:Around} {E:Value->Shared->Prop} {s:Shared} {scope:Scope} {globals:Addr} {cl:List (Str×Addr)} {qual:Str} {outer:Env} {Q:Env->Shared->Prop}
  (h:∀ h₁:Heap,h₁.Ns s.heap.objs.size (fun _=>none)->(∀ b o,s.heap.get? b=some o->h₁.get? b=some o)->CellsOk h₁ (s.heap.objs.size + 1) (cellsFrom (s.heap.objs.size + 1) scope.names []) ->
   Q (newEnv scope s.heap.objs.size globals (cellsFrom (s.heap.objs.size + 1) scope.names cl) qual none .none (some outer) builtinsNs) { s with heap:=h₁ }) :
  wpAny M A (newFunctionEnv scope globals cl [] qual none .none (some outer)) Q E s:=by
 simp only [newFunctionEnv,Option.isSome_some,if_true]
 refine wpAny_bind (wpAny_alloc ?_)
 refine wpAny_bind (wpAny_layCells _ (fun name kind cells=>by cases hkc:kind == NameKind.cell <;> simp [hkc]) _ _ _ _ ?_)
 have ok:=cellsFrom_ok scope.names (s.heap.push { cls:=.type "dict",data:=.dict #[] }) (s.heap.objs.size + 1) [] ⟨fun _ _ hm=>(nomatch hm),List.Pairwise.nil⟩ (by rw [Heap.size_push]; exact Nat.le_refl _)
 rw [Heap.size_push] at ok
 rw [show ({ s with heap:=s.heap.push { cls:=.type "dict",data:=.dict #[] } }:Shared).heap.objs.size=s.heap.objs.size + 1 from Heap.size_push ..]
 rw [List.forIn_nil]
 exact wpAny_bind (wpAny_pure (wpAny_pure (h _ ((Heap.Ns.new s.heap (.type "dict")).keeps (pushCells_keeps _ _)) (fun b o e=>pushCells_keeps _ _ b o (Heap.get?_push_of_some _ e)) ok)))
section
variable {X:Cx} {pins:List (Addr×Obj)} {σ:St} {H:Hp} {s:Shared} {scope:Scope} {cl:List (Str×Addr)} {N':List Str} {js:List (Option Nat)}
theorem vJ {fp:List Addr} {h₁:Heap} (I:Inv X pins σ H s) (hclo:cR X.env.cells scope.names []=some cl) (hdis:∀ y∈scope.names,y.2 = .free->(y.1,NameKind.cell)∉scope.names) (hkind:scope.kind = .function) (cap:Cap X scope N' js)
  (hf:∀ b∈fp,FpOk X pins H b) (ho:∀ b∈fp,∃ o,s.heap.get? b=some o)
  (hns:h₁.Ns s.heap.objs.size (fun _=>none)) (hk:∀ b o,s.heap.get? b=some o->h₁.get? b=some o) (cok:CellsOk h₁ (s.heap.objs.size + 1) (cellsFrom (s.heap.objs.size + 1) scope.names [])) {t':Nat} :
  Inv (cS X scope (cellsFrom (s.heap.objs.size + 1) scope.names cl) s.heap.objs.size N' s H fp pins) [] (sub js σ) H { s with heap:=h₁,toks:=t' }:=by
 have sb:=gP hclo (fun y c e=>by simp at e)
 rw [bv]
 generalize hnw:cellsFrom (s.heap.objs.size + 1) scope.names []=nw at cok ⊢
 have nk:∀ y c,(y,c)∈nw->(y,NameKind.cell)∈scope.names:=fun y c h=>by rw [← hnw] at h; exact cW _ _ y c h
 have nh:∀ y,(y,NameKind.cell)∈scope.names->∃ c,nw.lookup y=some c:=fun y h=>by
  obtain ⟨c,q⟩:=dH scope.names (s.heap.objs.size + 1) y h
  rw [hnw] at q
  exact gs q
 have ng:∀ y c,nw.lookup y=some c->h₁.IsCell c none /\ s.heap.objs.size + 1 <= c:=fun y c h=>cok.empty y c (PySem.mem_of_lookup h)
 have old:∀ y c,cl.lookup y=some c->c < s.heap.objs.size:=fun y c h=>by
  obtain ⟨v,o,q1,q2⟩:=I.cell y c (sb y c h)
  exact Heap.lt_size q1
 have nf:∀ y,(y,NameKind.free)∈scope.names->nw.lookup y=none:=fun y h=>by
  cases e:nw.lookup y with
  | none=>rfl
  | some c=>exact absurd (nk y c (PySem.mem_of_lookup e)) (hdis _ h rfl)
 refine ⟨⟨I.ok.mod,hkind,I.ok.glob,I.ok.blt,Nat.le_refl _,fun y z c h1 h2=>?_,fun y hy=>?_,fun y c z h=>?_,I.ok.hd,I.ok.frames,.inl rfl,fun b hb=>⟨?_,fun y c h=>?_⟩,I.bs,Nat.le_trans I.ok.bsz I.sz,fun b o e hb=>?_,fun b hb=>?_,I.stack,I.stkFree⟩,
  rfl,I.bare,Un.kept hk,⟨_,hns,fun i y v h1 h2 h3=>?_⟩,fun y c h=>?_,I.hok.fresh (Nat.le_refl _),fun y c h=>?_,fun p hp=>?_,I.hok.kept hk,?_⟩
 ·rcases dm h1 with a | ⟨_,a⟩ <;> rcases dm h2 with b | ⟨_,b⟩
  ·exact name_of_addr cok.apart (PySem.mem_of_lookup a) (PySem.mem_of_lookup b)
  ·exact absurd (Nat.lt_of_lt_of_le (old z c b) (Nat.le_of_succ_le (ng y c a).2)) (Nat.lt_irrefl _)
  ·exact absurd (Nat.lt_of_lt_of_le (old y c a) (Nat.le_of_succ_le (ng z c b).2)) (Nat.lt_irrefl _)
  ·exact I.ok.inj y z c (sb y c a) (sb z c b)
 ·show ∃ c,(nw++cl).lookup y=some c
  rcases nq hy with q | q
  ·obtain ⟨c,e⟩:=fh hclo y (.inl q)
   exact ⟨c,by rw [jz (nf y q)]; exact e⟩
  ·obtain ⟨c,e⟩:=nh y q
   exact ⟨c,jy e⟩
 ·have z:(y,NameKind.cell)∈scope.names:=PySem.mem_of_lookup (eq_of_beq z)
  obtain ⟨d,e⟩:=nh y z
  have h:(nw++cl).lookup y=some c:=h
  rw [jy e] at h
  have h:d=c:=Option.some.inj h
  rw [← h]
  exact Nat.le_of_succ_le (ng y d e).2
 ·obtain ⟨o,e⟩:=ho b hb
  exact Nat.ne_of_lt (Heap.lt_size e)
 ·rcases dm h with a | ⟨_,a⟩
  ·obtain ⟨o,e⟩:=ho b hb
   rintro rfl
   exact absurd (Nat.lt_of_lt_of_le (Heap.lt_size e) (Nat.le_of_succ_le (ng y c a).2)) (Nat.lt_irrefl _)
  ·exact (hf b hb).2.2.2.2.1 y c (sb y c a)
 ·have fb:=hf b hb
  rcases fb.2.2.2.1 with z | z
  ·exact I.ok.noex b o e z
  ·have h1:b < X.base.objs.size:=Heap.lt_size e
   exact absurd (Nat.lt_of_lt_of_le h1 (Nat.le_trans I.ok.bsz z)) (Nat.lt_irrefl _)
 ·intro z
  have:=I.stkSub b z
  rcases List.mem_cons.mp this with z | z
  ·exact (hf b hb).2.1 z
  ·exact (hf b hb).2.2.1 z
 ·obtain ⟨j,k1,k2,k3,k4⟩:=cap.at h1 h2
  obtain ⟨m,hm,hl⟩:=I.loc
  have vis:Vis X.env.scope y:=by
   rcases k3 with k | k
   ·exact .inr (.inl k)
   ·exact .inr (.inr k)
  obtain ⟨u,r,lk⟩:=hl j y v k1 k2 vis
  refine ⟨u,r,.inr ⟨jx k4,?_⟩⟩
  have q4:(y,NameKind.free)∈scope.names:=PySem.mem_of_lookup k4
  rcases lk with ⟨k5,_⟩ | ⟨_,c,e1,e2⟩
  ·rcases k3 with k | k <;> (rw [k] at k5; cases k5)
  ·obtain ⟨c',e3⟩:=fh hclo y (.inl q4)
   have:=sb y c' e3
   rw [e1] at this
   cases this
   refine ⟨c,by show (nw++cl).lookup y=some c; rw [jz (nf y q4)]; exact e3,?_⟩
   obtain ⟨o,q1,q2⟩:=e2
   exact ⟨o,hk _ _ q1,q2⟩
 ·rcases dm h with a | ⟨_,a⟩
  ·exact ⟨_,(ng y c a).1⟩
  ·obtain ⟨v,o,q1,q2⟩:=I.cell y c (sb y c a)
   exact ⟨v,o,hk _ _ q1,q2⟩
 ·rcases dm h with a | ⟨_,a⟩
  ·exact I.hok.fresh (Nat.le_of_succ_le (ng y c a).2)
  ·exact I.freeC y c (sb y c a)
 ·have hp:p∈X.pn++pins:=by simpa [cS] using hp
  obtain ⟨q1,q2,q3,q4,q5⟩:=I.pin p hp
  refine ⟨hk _ _ q1,q2,Nat.ne_of_lt (Heap.lt_size q1),fun z=>?_,q5⟩
  have:=I.stkSub p.1 z
  rcases List.mem_cons.mp this with z | z
  ·exact q3 z
  ·exact q4 z
 ·simp [sub,cap.len]; rfl
theorem Ab {fs ex:List Addr} {H:Hp} {h h':Heap} {C:Addr} (hC:C∈ex) (hs:Heap.SameBut C h h'):Un fs ex H H h h' where
 keep:=fun b o e _ _ nx=>by rw [hs.2 b (by rintro rfl; exact nx hC)]; exact e
 slot:=fun b o e _ _ nx=>⟨o.slots,by rw [hs.2 b (by rintro rfl; exact nx hC)]; exact e⟩
 free:=fun b o _ n _=>n
 there:=fun b o e nx=>⟨o,by rw [hs.2 b (by rintro rfl; exact nx hC)]; exact e⟩
 tups:=fun _ _ h=>h
 frzs:=fun _ _ _ h=>h
 tbls:=fun b ps h=>⟨#[],by simpa using h⟩
theorem Inv.but {C:Addr} {h':Heap} (I:Inv X pins σ H s) (f:FpOk X pins H C) (hs:Heap.SameBut C s.heap h'):Inv X pins σ H { s with heap:=h' }:=by
 refine I.call' (s':={ s with heap:=h' }) (ch:=[C]) rfl (Ab List.mem_cons_self hs) ?_ I.bare (fun b hb=>?_)
 ·intro a o e
  refine ObjOk.stay (I.hok a o e) (fun b u hb q=>?_) (fun _ h=>h) (fun _ _ h=>h)
  show h'.get? b=some u
  rw [hs.2 b]
  ·exact q
  ·rintro rfl
   rcases hb with rfl | hb
   ·rw [f.1] at e; cases e
   ·rw [f.1] at hb; cases hb
 ·have:b=C:=by simpa using hb
  subst this
  exact ⟨f.2.2.2.1,f.2.1,f.2.2.2.2.1,f.2.2.2.2.2⟩
variable {elt iter:Expr} {x:Str} {px pos:Pos} {ifs:List Expr} {wi:TI} {g:TG} {tc:TT} {te:TE} {Q:VK} {gB:Blk->TG} {tcB:Blk->TT} {teB:Blk->TE}
theorem tm {prog:Program} {w:World} {A:Around} {R:Result->Shared->Prop} {e tg it0:Expr} {cs:List Expr} {sc:Scope} {ps:Pos} {itv av:Value} {cenv:Env} {z:Shared} (J:Nat->Shared->Prop)
  (turn:∀ k z,J k z->wpAny (model prog w) A (pyNext itv) (fun r z1=>match r with
   | none=>R (.ok .next) z1
   | some u=>wpAny (model prog w) A (letOwnedTupleGo tg itv u) (fun _ z2=>wpAny (model prog w) A (assign tg cenv u) (fun _ z3 =>
     wpAny (model prog w) A (forIn cs true fun c r=>if r=true then do let ok ← isTrue c cenv (eval c cenv); pure (ForInStep.yield ok) else pure (ForInStep.yield r)) (fun b z4 =>
      if b=true then wpAny (model prog w) A (eval e cenv) (fun y z5 =>
       wpAny (model prog w) A (call (.builtin "list.append") [av,y]) (fun _ z6=>∃ m,m < k /\ J m z6) (fun _ _=>False) z5) (fun _ _=>False) z4
      else ∃ m,m < k /\ J m z4) (fun _ _=>False) z3) (fun _ _=>False) z2) (fun _ _=>False) z1) (fun _ _=>False) z)
  (k:Nat) (h:J k z):codeAny (model prog w) A (.compLoop (.ListComp e [⟨tg,it0,cs,0⟩] sc ps) 0 itv av cenv) R z:=by
 have no:∀ {α:Type} {m:Sem α} {P:α->Shared->Prop} {E:Value->Shared->Prop} {z:Shared},wpAny (model prog w) A m P (fun _ _=>False) z->wpAny (model prog w) A m P E z:=fun h=>wpAny_mono h (fun _ _ q=>q) fun _ _ q=>q.elim
 refine codeAny_loop rfl J (fun k z hJ=>?_) k h
 show wpAny _ A ((compTurn (.ListComp e [⟨tg,it0,cs,0⟩] sc ps) 0 itv av cenv).onRaise (fun x=>do noteFrame x cenv; theTreesLotGoes x)) _ _ z
 refine wpAny_noted ?_
 rw [compTurn_list]
 refine wpAny_bind (wpAny_standAt (wpAny_bind (no (thn (turn k z hJ) fun r z1 q1=>?_))))
 cases r with
 | none=>exact wpAny_pure q1
 | some u =>
  refine wpAny_bind (no (thn q1 fun _ z2 q2=>wpAny_bind (no (thn q2 fun _ z3 q3=>wpAny_bind (no (thn q3 fun b z4 q4=>?_))))))
  cases b with
  | false=>exact wpAny_pure ⟨rfl,q4⟩
  | true=>exact wpAny_bind (wpAny_bind (no (thn q4 fun y z5 q5=>wpAny_bind (no (thn q5 fun _ z6 q6=>wpAny_pure (wpAny_pure ⟨rfl,q6⟩))))))
theorem rG {RR:Value->Addr->Result->Shared->Prop} {s3:Shared} {H3:Hp} {D it:Addr} {fp:List Addr} {tn:Nat->Heap->Prop} {J:It} {W:Nat->Nat->St->Hp->Prop} {m0 t':Nat} {h₁:Heap} {tg:Expr}
  (hc:X.calm=true) (hclo:cR X.env.cells scope.names []=some cl) (hdis:∀ y∈scope.names,y.2 = .free->(y.1,NameKind.cell)∉scope.names) (hkind:scope.kind = .function) (cap:Cap X scope N' js)
  (hb:PG (cS X scope (cellsFrom (s3.heap.objs.size + 1) scope.names cl) s3.heap.objs.size N' s3 H3 fp pins) tg g /\ PTs (cS X scope (cellsFrom (s3.heap.objs.size + 1) scope.names cl) s3.heap.objs.size N' s3 H3 fp pins) ifs tc /\ PE (cS X scope (cellsFrom (s3.heap.objs.size + 1) scope.names cl) s3.heap.objs.size N' s3 H3 fp pins) elt te)
  (I3:Inv X pins σ H3 s3) (T:Turn X.prog X.w X.K tg J fp it tn) (st3:tn 0 s3.heap) (f3:∀ b∈fp,FpOk X pins H3 b) (w0:W 0 m0 (sub js σ) H3)
  (turn:∀ i m σ' H',W i m σ' H'->(J.stop i H' /\ Q (.ref D) H')∨(J.go i H' /\ ∃ N:St->Hp->Prop,(∀ σ2 H2,N σ2 H2->∃ m',m' < m /\ W (i + 1) m' σ2 H2) /\ ∀ y H2,J.yld i H' y H2->g y σ' H2 fun σ3 H3=>tc σ3 H3 fun b H4 =>
   if b=true then te σ3 H4 fun v H5=>∃ ys,H5 D=some (.lst ys) /\ ys.length < sizeLine /\ N σ3 (upd H5 D (.lst (ys++[v]))) else N σ3 H4))
  (hns:h₁.Ns s3.heap.objs.size (fun _=>none)) (hk:∀ b o,s3.heap.get? b=some o->h₁.get? b=some o) (cok:CellsOk h₁ (s3.heap.objs.size + 1) (cellsFrom (s3.heap.objs.size + 1) scope.names []))
  (hR:∀ s' H' m,Inv X pins σ H' s'->FpOk X pins H' s3.heap.objs.size->s'.heap.Ns s3.heap.objs.size m->Q (.ref D) H'->RR (.ref D) s3.heap.objs.size (.ok .next) s') :
  codeAny (model X.prog X.w) X.A (.compStart (.ListComp elt [⟨tg,iter,ifs,0⟩] scope pos) 0 (.ref it) (.ref D) (compEnvC scope (cellsFrom (s3.heap.objs.size + 1) scope.names cl) s3.heap.objs.size X.env)) (RR (.ref D) s3.heap.objs.size) { s3 with heap:=h₁,toks:=t' }:=by
 have ob3:∀ b∈fp,∃ o,s3.heap.get? b=some o:=fun b hb=>let ⟨o,e,_⟩:=T.obj _ _ st3 b hb; ⟨o,e⟩
 have I0:Inv (cS X scope (cellsFrom (s3.heap.objs.size + 1) scope.names cl) s3.heap.objs.size N' s3 H3 fp pins) [] (sub js σ) H3 { s3 with heap:=h₁,toks:=t' }:=vJ I3 hclo hdis hkind cap f3 ob3 hns hk cok
 have tn0:tn 0 h₁:=T.keep _ _ _ st3 fun b _ o e=>hk b o e
 have hC:FpOk X pins H3 s3.heap.objs.size:=I3.fpOk (Nat.le_refl _) (I3.hok.fresh (Nat.le_refl _))
 obtain ⟨bg,bt,be⟩:=hb
 have stat:∀ {H':Hp},(∀ b∈fp,H' b=none)->∀ b∈fp,FpOk (cS X scope (cellsFrom (s3.heap.objs.size + 1) scope.names cl) s3.heap.objs.size N' s3 H3 fp pins) [] H' b:=fun {H'} hn b hb=>by
  obtain ⟨o,e⟩:=ob3 b hb
  refine ⟨hn b hb,Nat.ne_of_lt (Heap.lt_size e),I0.ok.exfs b hb,.inl hb,fun y c h=>(I0.ok.exf b hb).2 y c h,fun p hp=>?_⟩
  exact (f3 b hb).2.2.2.2.2 p (by simpa [cS] using hp)
 have loop:codeAny (model X.prog X.w) X.A (.compLoop (.ListComp elt [⟨tg,iter,ifs,0⟩] scope pos) 0 (.ref it) (.ref D) (compEnvC scope (cellsFrom (s3.heap.objs.size + 1) scope.names cl) s3.heap.objs.size X.env)) (RR (.ref D) s3.heap.objs.size) { s3 with heap:=h₁,toks:=t' }:=by
  refine tm (fun n s'=>∃ i σ' H',Inv (cS X scope (cellsFrom (s3.heap.objs.size + 1) scope.names cl) s3.heap.objs.size N' s3 H3 fp pins) [] σ' H' s' /\ tn i s'.heap /\ (∀ b∈fp,H' b=none) /\ W i n σ' H') (fun n s4 hJ=>?_) m0 ⟨0,sub js σ,H3,I0,tn0,fun b hb=>(f3 b hb).1,w0⟩
  obtain ⟨i,σ4,H4,I4,st4,fr4,w4⟩:=hJ
  rcases turn i n σ4 H4 w4 with ⟨stop,q⟩ | ⟨go,N,hN,step⟩
  ·refine thn (T.done (cS X scope (cellsFrom (s3.heap.objs.size + 1) scope.names cl) s3.heap.objs.size N' s3 H3 fp pins) rfl rfl rfl hc i [] s4 σ4 H4 _ I4 (stat fr4) st4 stop) fun r s5 ⟨hr,I5⟩=>?_
   subst hr
   have u:Un (frs X.stack) fp H3 H4 s3.heap s5.heap:=I5.base
   have free:H4 s3.heap.objs.size=none:=I5.free
   have back:Inv X pins σ H4 s5:=by
    refine I3.call' (s':=s5) (ch:=s3.heap.objs.size::fp) I5.os (u.mono (fun _ h=>h) fun b h=>List.mem_cons_of_mem _ h) I5.hok I5.bare (fun b hb=>?_)
    rcases List.mem_cons.mp hb with rfl | hb
    ·exact ⟨hC.2.2.2.1,hC.2.1,hC.2.2.2.2.1,hC.2.2.2.2.2⟩
    ·have:=f3 b hb
     exact ⟨this.2.2.2.1,this.2.1,this.2.2.2.2.1,this.2.2.2.2.2⟩
   obtain ⟨m,hm,_⟩:=I5.loc
   exact hR s5 H4 m back ⟨free,hC.2⟩ hm q
  ·refine thn (T.item (cS X scope (cellsFrom (s3.heap.objs.size + 1) scope.names cl) s3.heap.objs.size N' s3 H3 fp pins) rfl rfl rfl hc i [] s4 σ4 H4 _ I4 (stat fr4) st4 go) fun r s5 ⟨u,hr,h5⟩=>?_
   subst hr
   refine thn h5 fun _ s6 ⟨y,H6,I6,r6,y6,st6,fr6⟩=>?_
   have I6':=I6.pinned (stat fr6) (T.obj _ _ st6)
   refine thn (bg _ s6 σ4 H6 y u _ I6' r6 (step y H6 y6)) fun _ s7 ⟨σ7,H7,I7,q7⟩=>?_
   refine thn (bt _ s7 σ7 H7 _ I7 q7) fun b s8 ⟨H8,I8,q8⟩=>?_
   have again:∀ {H':Hp} {s':Shared},Inv (cS X scope (cellsFrom (s3.heap.objs.size + 1) scope.names cl) s3.heap.objs.size N' s3 H3 fp pins) ([]++mE fp s6.heap) σ7 H' s'->N σ7 H'->∃ m,m < n /\ ∃ i σ' H',Inv (cS X scope (cellsFrom (s3.heap.objs.size + 1) scope.names cl) s3.heap.objs.size N' s3 H3 fp pins) [] σ' H' s' /\ tn i s'.heap /\ (∀ b∈fp,H' b=none) /\ W i m σ' H':=fun {H' s'} I9 n9=>by
    obtain ⟨m',hm,w9⟩:=hN σ7 H' n9
    refine ⟨m',hm,i + 1,σ7,H',I9.unpinned,T.keep _ _ _ st6 fun b hb o e=>(I9.pin (b,o) (List.mem_append_right _ (List.mem_append_right _ (fg hb e)))).1,fun b hb=>?_,w9⟩
    obtain ⟨o,e,d⟩:=T.obj _ _ st6 b hb
    exact (I9.pin (b,o) (List.mem_append_right _ (List.mem_append_right _ (fg hb e)))).2.1
   cases b with
   | false=>exact iteF (again I8 q8)
   | true =>
    refine iteT (thn (be _ s8 σ7 H8 _ I8 q8) fun yv s9 ⟨v9,H9,I9,r9,ys,hD,hl,n9⟩=>?_)
    exact thn (gi _ s9 σ7 H9 (.ref D) [v9] (.ref D) [yv] (fun _ H'=>H'=upd H9 D (.lst (ys++[v9]))) I9 rfl (.cons r9 .nil) ⟨D,ys,v9,rfl,rfl,hD,hl,rfl⟩) fun _ s10 ⟨_,H10,I10,_,e10⟩=>by
     subst e10
     exact again I10 n9
 exact codeAny_compStart_list loop (T.self _ 0 _ _ _ tn0 loop)
theorem qj {RR:Value->Addr->Result->Shared->Prop} {tg:Expr} (hc:X.calm=true) (hclo:cR X.env.cells scope.names []=some cl) (hdis:∀ y∈scope.names,y.2 = .free->(y.1,NameKind.cell)∉scope.names) (hkind:scope.kind = .function) (cap:Cap X scope N' js)
  (hi:PI X tg iter wi)
  (hb:∀ B:Blk,PG (cxB X scope cl N' B) tg (gB B) /\ PTs (cxB X scope cl N' B) ifs (tcB B) /\ PE (cxB X scope cl N' B) elt (teB B))
  (I:Inv X pins σ H s) (h:yj wi js gB tcB teB σ H Q)
  (hR:∀ D C s' H' m,Inv X pins σ H' s'->FpOk X pins H' C->s'.heap.Ns C m->Q (.ref D) H'->RR (.ref D) C (.ok .next) s') :
  wpAny (model X.prog X.w) X.A (eval iter X.env) (fun v s1=>wpAny (model X.prog X.w) X.A (pyIter v) (fun it s2=>wpAny (model X.prog X.w) X.A (newList []) (fun acc s3 =>
   wpAny (model X.prog X.w) X.A (newFunctionEnv scope X.env.globals cl [] X.env.qual none .none (some X.env)) (fun cenv s4 =>
    codeAny (model X.prog X.w) X.A (.compStart (.ListComp elt [⟨tg,iter,ifs,0⟩] scope pos) 0 it acc { cenv with scope:=relabel scope X.env }) (RR acc cenv.locals) s4) X.xe s3) X.xe s2) X.xe s1) X.xe s:=by
 refine thn (hi pins s σ H _ I h) fun v s1 h1=>thn h1 fun itv s2 h2=>?_
 obtain ⟨it,fp,tn,J,H2,e,I2,T,st2,f2,h2⟩:=h2
 subst e
 have hD0:H2 s2.heap.objs.size=none:=I2.hok.fresh (Nat.le_refl _)
 obtain ⟨W,⟨m0,w0⟩,turn⟩:=h2 ⟨(s2.heap.push { cls:=.type "list",data:=.seq ([]:List Value).toArray }).objs.size,{ s2 with heap:=s2.heap.push { cls:=.type "list",data:=.seq ([]:List Value).toArray } },upd H2 s2.heap.objs.size (.lst []),fp,pins⟩ s2.heap.objs.size hD0
 refine wpAny_newObj_type (iP (fun h₁ hns₁ hk₁ cok₁=>?_))
 have I3:Inv X pins σ (upd H2 s2.heap.objs.size (.lst [])) { s2 with heap:=s2.heap.push { cls:=.type "list",data:=.seq ([]:List Value).toArray } }:=I2.lnew .nil (Nat.zero_le _)
 refine rG (s3:={ s2 with heap:=s2.heap.push { cls:=.type "list",data:=.seq ([]:List Value).toArray } }) (cl:=cl) (fp:=fp) hc hclo hdis hkind cap (hb ⟨(s2.heap.push { cls:=.type "list",data:=.seq ([]:List Value).toArray }).objs.size,{ s2 with heap:=s2.heap.push { cls:=.type "list",data:=.seq ([]:List Value).toArray } },upd H2 s2.heap.objs.size (.lst []),fp,pins⟩) I3 T ?_ (fun b hb=>?_) w0 turn hns₁ hk₁ cok₁ (fun s' H' m=>hR _ _ s' H' m)
 ·exact T.keep _ _ _ st2 fun b _ o e=>Heap.get?_push_of_some _ e
 ·have:=f2 b hb
  obtain ⟨o,e,_⟩:=T.obj _ _ st2 b hb
  exact ⟨by show upd H2 s2.heap.objs.size (.lst []) b=none; rw [ah (Nat.ne_of_lt (Heap.lt_size e))]; exact this.1,this.2⟩
theorem yk {tg:Expr} (hc:X.calm=true) (hclo:cR X.env.cells scope.names []=some cl) (hdis:∀ y∈scope.names,y.2 = .free->(y.1,NameKind.cell)∉scope.names) (hkind:scope.kind = .function) (cap:Cap X scope N' js)
  (hnames:∀ y∈scope.names,y.2 = .local->scope.names.lookup y.1=some .local) (hi:PI X tg iter wi)
  (hb:∀ B:Blk,PG (cxB X scope cl N' B) tg (gB B) /\ PTs (cxB X scope cl N' B) ifs (tcB B) /\ PE (cxB X scope cl N' B) elt (teB B))
  (hs:∀ v,foldedSetIterable iter X.env v=pure v:=by intro _; rfl):PE X (.ListComp elt [⟨tg,iter,ifs,0⟩] scope pos) (yj wi js gB tcB teB):=by
 intro pins s σ H Q I h
 rw [eval_ListComp]
 refine wpAny_comprehension_free (use:=none) rfl hs (gr hclo) hkind hnames (qj (RR:=fun acc C=>compPost (model X.prog X.w) X.A X.xe none (EP X pins σ Q) acc C) hc hclo hdis hkind cap hi hb I h ?_)
 intro D C s' H' m I' f hm q
 exact ⟨m,hm,fun h' hs'=>⟨.ref D,H',I'.but f hs',rfl,q⟩⟩
theorem ym {tg:Expr} {i:Nat} {y:Str} {py spos:Pos} (hN:X.N.Nodup) (hy:X.N[i]? = some y) (hl:X.env.scope.names.lookup y=some .local) (hc:X.calm=true) (hclo:cR X.env.cells scope.names []=some cl) (hdis:∀ y∈scope.names,y.2 = .free->(y.1,NameKind.cell)∉scope.names) (hkind:scope.kind = .function) (cap:Cap X scope N' js)
  (hnames:∀ y∈scope.names,y.2 = .local->scope.names.lookup y.1=some .local) (hi:PI X tg iter wi)
  (hb:∀ B:Blk,PG (cxB X scope cl N' B) tg (gB B) /\ PTs (cxB X scope cl N' B) ifs (tcB B) /\ PE (cxB X scope cl N' B) elt (teB B))
  (hsw:swapsWith (.ListComp elt [⟨tg,iter,ifs,0⟩] scope pos) (some (.Name y py)) spos.line X.env=pure true:=by rfl)
  (hs:∀ v,foldedSetIterable iter X.env v=pure v:=by intro _; rfl):PS X (.Assign [.Name y py] (.ListComp elt [⟨tg,iter,ifs,0⟩] scope pos) spos) (tAsg (yj wi js gB tcB teB) (gName i)):=by
 intro pins s σ H D I h
 rw [exec_Assign_Name_used _ _ _ _ hsw]
 refine wpAny_bind (wpAny_standAt (wpAny_bind ?_))
 show wpAny _ X.A (do let _ ← comprehension (.ListComp elt [⟨tg,iter,ifs,0⟩] scope pos) scope X.env _ (newList []) false (eval iter X.env) (some (assign (.Name y py) X.env))) _ _ s
 refine wpAny_bind (thn (wpAny_comprehension_free (use:=some (assign (.Name y py) X.env)) (Q:=fun _ s'=>SP X pins D .next s') rfl hs (gr hclo) hkind hnames
  (qj (RR:=fun acc C=>compPost (model X.prog X.w) X.A X.xe (some (assign (.Name y py) X.env)) (fun _ s'=>SP X pins D .next s') acc C) hc hclo hdis hkind cap hi hb I h ?_)) fun _ s' q=>wpAny_pure (wpAny_pure q))
 intro Dl C s' H' m I' f hm q
 show wpAny _ X.A (assign (.Name y py) X.env (.ref Dl)) _ _ _
 refine wpAny_assign_Name (mB I' hN hy (.inl hl) (v:=.ref Dl) rfl (fun s2 I2 hch=>?_) (.inr hl))
 obtain ⟨a,hsb,ha⟩:=hch
 have hCa:C≠a:=by
  rcases ha with rfl | ha
  ·exact f.2.1
  ·exact fun z=>f.2.2.2.2.1 y a ha z.symm
 refine ⟨m,hm.sameBut hsb hCa,fun h' hs'=>⟨_,H',I2.but f hs',q⟩⟩
end
end L2
namespace L2
open PySem PySem.Spec PyProof.Rows
section
end
end L2
namespace L2
open PySem PySem.Spec PyProof.Rows
section
variable {P:Program} {w:World} {H:Hp} {h:Heap} {a:Addr} {o:HO}
end
section
variable {X:Cx} {pins:List (Addr×Obj)} {σ:St} {H H':Hp} {s s':Shared} {B h':Heap}
end
section
variable {X:Cx} {pins:List (Addr×Obj)} {σ:St} {H H':Hp} {s s':Shared} {B h':Heap} {W:St->XK} {e:Value}
end
end L2
namespace L2
open PySem PySem.Spec PyProof.Rows
section
variable {X:Cx} {pins:List (Addr×Obj)} {σ:St} {H H':Hp} {s s':Shared} {B h':Heap} {W:St->XK} {e:Value}
end
section
variable {X:Cx} {k:Nat} {f C:Addr} {fd:FuncData} {ps:List Str} {sp:Sp} {dvs:List V} {ds:List Value} {W:St->XK} {x m:Str} {p pos apos:Pos} {e o:Expr} {es:List Expr} {ta:TE} {t:TA}
end
section
variable {X:Cx} {W:St->XK} {C:Addr} {x:Str} {np cpos pos:Pos} {e:Expr} {es:List Expr} {t:TA}
end
end L2
namespace L2
open PySem PySem.Spec PyProof.Rows
def excA (C:Addr) (dd:Option Addr) (ea:Addr):HO:=.ext fun h=>∃ o,h.get? ea=some o /\ o.cls = .ref C /\ o.dict=dd /\ ∃ vs,o.data = .fields vs
abbrev excO (C ea:Addr):HO:=excA C none ea
section
variable {X:Cx} {pins:List (Addr×Obj)} {σ:St} {H H':Hp} {s s':Shared} {B h':Heap} {W:St->XK} {e:Value}
end
section
variable {X:Cx} {body suite:List Stmt} {b0:Stmt} {n x:Str} {np hpos pos:Pos} {C0:Addr} {i:Nat} {Wo:St->XK}
end
end L2
namespace L2
open PySem PySem.Spec PyProof.Rows
open PySem.W (Looks)
section
variable {prog:Program} {w:World} {A:Around} {E:Value->Shared->Prop} {s:Shared} {K:PySem.W.Frag} {x D:Addr}
open PySem.W PySem.Calls Builtin Builtin.ObjectAttr Builtin.Getset_descriptor in
end
end L2
namespace L2
open PySem PySem.Spec PyProof.Rows
open PySem.W (Looks)
section
variable {prog:Program} {w:World} {A:Around} {E:Value->Shared->Prop} {s:Shared} {K:PySem.W.Frag} {x dx C:Addr} {mA:Str->Option Value} {name:Str} {v:Value}
open PySem.W in
end
def exD (fs:List (Str×V)) (dx:Addr):HO:=.ext fun h=>∃ mA,h.Ns1 dx mA /\ (∀ f,RelO (fs.lookup f) (mA f)) /\ PySem.Within mA (fs.map (·.1)) /\ fs.length <= 1000
section
variable {X:Cx} {pins:List (Addr×Obj)} {σ:St} {H:Hp} {s:Shared} {a C dx:Addr} {fs:List (Str×V)} {f:Str} {v:V} {A:Around} {E:Value->Shared->Prop}
end
section
variable {X:Cx} {o e value:Expr} {f:Str} {pos pos' tpos:Pos} {ta tv:TE}
end
section
variable {K:PySem.W.Frag} {C fI:Addr}
section
variable {prog:Program} {w:World} {A:Around} {E:Value->Shared->Prop} {s:Shared}
end
end
end L2
namespace L2
open PySem PySem.Spec PyProof.Rows
section
variable {X:Cx} {pins:List (Addr×Obj)} {σ:St} {H G:Hp} {s s':Shared} {a:Addr} {W:St->XK}
end
section
variable {X:Cx} {W:St->XK} {k:Nat} {C f:Addr} {fd:FuncData} {ps:List Str} {a1 a2 x:Str} {np cpos pos:Pos} {e:Expr} {es:List Expr} {t:TA}
end
end L2
namespace DL
open PySem PySem.Spec L2
open PyProof.Rows hiding St
inductive D where
 | non | bl (b:Bool) | int (i:Int) | str (x:Str) | ty (n:String) | tup (ds:List D) | lst (ds:List D)
 | dK (ks:List Key) (ds:List D) | dT (ks:List (List Key)) (ds:List D) | pen | exc (C:Addr) | cls (C:Addr) | exa (C:Addr) (fs:List (Str×V))
inductive O where
 | val (d:D) | lst (os:List O) | dct (ks:List (List Key)) (os:List O) | tup (os:List O) | dck (ks:List Key) (os:List O)
inductive Sl where
 | nil | val (d:D) | own (ds:List D) | obj (o:O) | pin (v:V) (d:D)
section
variable (K:PySem.W.Frag) (pp:Option Addr) (M:List Addr) (H:Hp)
mutual
def Rep:D->V->Prop
 | .non,v=>v = .non
 | .bl b,v=>v = .bl b
 | .int i,v=>v = .int i
 | .str x,v=>v = .str x
 | .ty n,v=>v = .ty n
 | .tup ds,v=>∃ a xs,v = .ref a /\ H a=some (.tup xs) /\ Reps ds xs
 | .lst ds,v=>∃ a xs,v = .ref a /\ a∉M /\ pp≠some a /\ H a=some (.lst xs) /\ Reps ds xs
 | .dK ks ds,v=>∃ a kvs,v = .ref a /\ a∉M /\ pp≠some a /\ H a=some (.dK kvs) /\ kvs.map (·.1)=ks /\ Reps ds (kvs.map (·.2))
 | .dT ks ds,v=>∃ a kvs,v = .ref a /\ a∉M /\ pp≠some a /\ Rd H a (.dT kvs) /\ kvs.map (·.1)=ks /\ Reps ds (kvs.map (·.2))
 | .pen,v=>∃ p,v = .ref p /\ pp=some p /\ ∃ a ns t l,Pen K H p a ns t l
 | .exc C,v=>∃ a,v = .ref a /\ a∉M /\ pp≠some a /\ H a=some (excO C a)
 | .cls C,v=>v = .ref C
 | .exa C fs,v=>∃ a dx,v = .ref a /\ a∉M /\ pp≠some a /\ H a=some (excA C (some dx) a) /\ dx∉M /\ pp≠some dx /\ H dx=some (exD fs dx)
def Reps:List D->List V->Prop
 | [],xs=>xs=[]
 | d::ds,xs=>∃ x r,xs=x::r /\ Rep d x /\ Reps ds r
end
end
section
variable {K:PySem.W.Frag} {pp:Option Addr} {M M' M'':List Addr} {H H' H'':Hp}
class TB where
 tb:List (Addr×Str)
instance (priority:=low) TB.none:TB:=⟨[]⟩
def Tabs [TB] (H:Hp):Prop:=∀ P ql,TB.tb.lookup P=some ql->∃ ps,H P=some (.tbl ps) /\ TriplesOk ps.toList /\
 ∀ pos cv,codeAmong pos ps.toList=some cv->∃ c oc u vs t,cv = .ref c /\ H c=some (.frz oc u) /\ oc.data = .fields vs /\ vs[1]? = some (.str ql t)
def TF (o:HO):Prop:=(∃ ps,o = .tbl ps)∨∃ ob u,o = .frz ob u
theorem Tabs.of [TB] {H H':Hp} (h:Tabs H) (k:∀ b o,H b=some o->TF o->H' b=some o):Tabs H':=fun P ql hq =>
 let ⟨ps,e1,e2,e3⟩:=h P ql hq
 ⟨ps,k _ _ e1 (.inl ⟨_,rfl⟩),e2,fun pos cv e=>let ⟨c,oc,u,vs,t,f1,f2,f3⟩:=e3 pos cv e; ⟨c,oc,u,vs,t,f1,k _ _ f2 (.inr ⟨_,_,rfl⟩),f3⟩⟩
theorem Tabs.upd [TB] {H:Hp} {l:Addr} {o o':HO} (h:Tabs H) (hl:H l=some o) (ht:¬ TF o):Tabs (upd H l o') :=
 h.of fun b x e tf=>by
  rw [ah]
  ·exact e
  ·rintro rfl
   rw [hl] at e; cases e
   exact ht tf
theorem Tabs.new [TB] {H:Hp} {l:Addr} {o':HO} (h:Tabs H) (hl:H l=none):Tabs (L2.upd H l o') :=
 h.of fun b x e _=>fG hl e
theorem lH {xs:List V}:¬ TF (.lst xs):=by rintro (⟨_,e⟩ | ⟨_,_,e⟩) <;> cases e
def NT (o:HO):Prop:=∀ ps,o ≠ .tbl ps
def NP (pp:Option Addr) (a:Addr) (o:HO):Prop:=pp≠some a /\ NT o
theorem np {pp:Option Addr} {a:Addr} {o:HO} (h:pp≠some a) (t:NT o:=by intro _ z; cases z):NP pp a o:=⟨h,t⟩
structure Mv [TB] (K:PySem.W.Frag) (pp:Option Addr) (M:List Addr) (H:Hp) (M':List Addr) (H':Hp):Prop where
 tup:∀ a xs,H a=some (.tup xs)->H' a=some (.tup xs)
 oth:∀ a o,H a=some o->a∉M->NP pp a o->H' a=some o /\ a∉M'
 pen:∀ p,pp=some p->(∃ a ns t l,Pen K H p a ns t l)->∃ a ns t l,Pen K H' p a ns t l
 tb:Tabs H->Tabs H'
variable [TB]
theorem Mv.lst (m:Mv K pp M H M' H') (a:Addr) (xs:List V) (h:H a=some (.lst xs)) (n:a∉M) (q:pp≠some a):H' a=some (.lst xs) /\ a∉M':=m.oth a _ h n (np q)
theorem Mv.refl:Mv K pp M H M H:=⟨fun _ _ h=>h,fun _ _ h n _=>⟨h,n⟩,fun _ _ h=>h,fun h=>h⟩
theorem Mv.trans (x:Mv K pp M H M' H') (y:Mv K pp M' H' M'' H''):Mv K pp M H M'' H'' :=
 ⟨fun a xs h=>y.tup a xs (x.tup a xs h),fun a xs h n q=>y.oth a xs (x.oth a xs h n q).1 (x.oth a xs h n q).2 q,fun p e h=>y.pen p e (x.pen p e h),fun h=>y.tb (x.tb h)⟩
mutual
theorem Rep.mv (m:Mv K pp M H M' H'):∀ (d:D) (v:V),Rep K pp M H d v->Rep K pp M' H' d v
 | .non,_,h=>by simp only [Rep] at h ⊢; exact h
 | .bl _,_,h=>by simp only [Rep] at h ⊢; exact h
 | .int _,_,h=>by simp only [Rep] at h ⊢; exact h
 | .str _,_,h=>by simp only [Rep] at h ⊢; exact h
 | .ty _,_,h=>by simp only [Rep] at h ⊢; exact h
 | .tup ds,_,h=>by
  simp only [Rep] at h ⊢
  obtain ⟨a,xs,e,h1,h2⟩:=h
  exact ⟨a,xs,e,m.tup a xs h1,Reps.mv m ds xs h2⟩
 | .lst ds,_,h=>by
  simp only [Rep] at h ⊢
  obtain ⟨a,xs,e,h0,hp,h1,h2⟩:=h
  exact ⟨a,xs,e,(m.lst a xs h1 h0 hp).2,hp,(m.lst a xs h1 h0 hp).1,Reps.mv m ds xs h2⟩
 | .dK ks ds,_,h=>by
  simp only [Rep] at h ⊢
  obtain ⟨a,xs,e,h0,hp,h1,h2,h3⟩:=h
  exact ⟨a,xs,e,(m.oth a _ h1 h0 (np hp)).2,hp,(m.oth a _ h1 h0 (np hp)).1,h2,Reps.mv m ds _ h3⟩
 | .dT ks ds,_,h=>by
  simp only [Rep] at h ⊢
  obtain ⟨a,xs,e,h0,hp,h1,h2,h3⟩:=h
  rcases h1 with h1 | ⟨o,h1⟩
  ·exact ⟨a,xs,e,(m.oth a _ h1 h0 (np hp)).2,hp,.inl (m.oth a _ h1 h0 (np hp)).1,h2,Reps.mv m ds _ h3⟩
  ·exact ⟨a,xs,e,(m.oth a _ h1 h0 (np hp)).2,hp,.inr ⟨o,(m.oth a _ h1 h0 (np hp)).1⟩,h2,Reps.mv m ds _ h3⟩
 | .pen,_,h=>by
  simp only [Rep] at h ⊢
  obtain ⟨p,e,e2,h⟩:=h
  exact ⟨p,e,e2,m.pen p e2 h⟩
 | .exc C,_,h=>by
  simp only [Rep] at h ⊢
  obtain ⟨a,e,h0,hp,h1⟩:=h
  exact ⟨a,e,(m.oth a _ h1 h0 (np hp)).2,hp,(m.oth a _ h1 h0 (np hp)).1⟩
 | .cls _,_,h=>by simp only [Rep] at h ⊢; exact h
 | .exa C fs,_,h=>by
  simp only [Rep] at h ⊢
  obtain ⟨a,dx,e,h0,hp,h1,h2,h3,h4⟩:=h
  exact ⟨a,dx,e,(m.oth a _ h1 h0 (np hp)).2,hp,(m.oth a _ h1 h0 (np hp)).1,(m.oth dx _ h4 h2 (np h3)).2,h3,(m.oth dx _ h4 h2 (np h3)).1⟩
theorem Reps.mv (m:Mv K pp M H M' H'):∀ (ds:List D) (xs:List V),Reps K pp M H ds xs->Reps K pp M' H' ds xs
 | [],_,h=>by simp only [Reps] at h ⊢; exact h
 | d::ds,_,h=>by
  simp only [Reps] at h ⊢
  obtain ⟨x,r,e,h1,h2⟩:=h
  exact ⟨x,r,e,Rep.mv m d x h1,Reps.mv m ds r h2⟩
end
theorem Reps.length:∀ {ds:List D} {xs:List V},Reps K pp M H ds xs->ds.length=xs.length
 | [],_,h=>by simp only [Reps] at h; subst h; rfl
 | _::_,_,h=>by
  simp only [Reps] at h
  obtain ⟨x,r,rfl,_,h2⟩:=h
  simp [Reps.length h2]
theorem Reps.get:∀ {ds:List D} {xs:List V} {i:Nat} {x:V},Reps K pp M H ds xs->xs[i]? = some x->∃ d,ds[i]? = some d /\ Rep K pp M H d x
 | [],_,_,_,h,e=>by simp only [Reps] at h; subst h; simp at e
 | d::ds,_,0,x,h,e=>by
  simp only [Reps] at h
  obtain ⟨y,r,rfl,h1,h2⟩:=h
  simp at e; subst e
  exact ⟨d,rfl,h1⟩
 | d::ds,_,i + 1,x,h,e=>by
  simp only [Reps] at h
  obtain ⟨y,r,rfl,h1,h2⟩:=h
  obtain ⟨d',e1,e2⟩:=Reps.get (i:=i) h2 (by simpa using e)
  exact ⟨d',by simpa using e1,e2⟩
theorem Reps.get':∀ {ds:List D} {xs:List V} {i:Nat} {d:D},Reps K pp M H ds xs->ds[i]? = some d->∃ x,xs[i]? = some x /\ Rep K pp M H d x
 | [],_,_,_,h,e=>by simp at e
 | d::ds,_,0,x,h,e=>by
  simp only [Reps] at h
  obtain ⟨y,r,rfl,h1,h2⟩:=h
  simp at e; subst e
  exact ⟨y,rfl,h1⟩
 | d::ds,_,i + 1,x,h,e=>by
  simp only [Reps] at h
  obtain ⟨y,r,rfl,h1,h2⟩:=h
  obtain ⟨d',e1,e2⟩:=Reps.get' (i:=i) h2 (by simpa using e)
  exact ⟨d',by simpa using e1,e2⟩
theorem Reps.append:∀ {ds es:List D} {xs ys:List V},Reps K pp M H ds xs->Reps K pp M H es ys->Reps K pp M H (ds++es) (xs++ys)
 | [],_,_,_,h,q=>by simp only [Reps] at h; subst h; exact q
 | d::ds,_,_,_,h,q=>by
  simp only [Reps] at h
  obtain ⟨y,r,rfl,h1,h2⟩:=h
  simp only [List.cons_append,Reps]
  exact ⟨y,_,rfl,h1,Reps.append h2 q⟩
theorem Reps.drop:∀ {ds:List D} {xs:List V} (n:Nat),Reps K pp M H ds xs->Reps K pp M H (ds.drop n) (xs.drop n)
 | _,_,0,h=>h
 | [],_,n + 1,h=>by simp only [Reps] at h; subst h; simp [Reps]
 | d::ds,_,n + 1,h=>by
  simp only [Reps] at h
  obtain ⟨y,r,rfl,h1,h2⟩:=h
  exact Reps.drop n h2
theorem Reps.take:∀ {ds:List D} {xs:List V} (n:Nat),Reps K pp M H ds xs->Reps K pp M H (ds.take n) (xs.take n)
 | _,_,0,h=>by simp [Reps]
 | [],_,n + 1,h=>by simp only [Reps] at h; subst h; simp [Reps]
 | d::ds,_,n + 1,h=>by
  simp only [Reps] at h
  obtain ⟨y,r,rfl,h1,h2⟩:=h
  simp only [List.take_succ_cons,Reps]
  exact ⟨y,_,rfl,h1,Reps.take n h2⟩
theorem Reps.set {d:D} {x:V} (hd:Rep K pp M H d x):∀ {ds:List D} {xs:List V} (n:Nat),Reps K pp M H ds xs->Reps K pp M H (ds.set n d) (xs.set n x)
 | [],_,n,h=>by simp only [Reps] at h; subst h; simp [Reps]
 | e::ds,_,0,h=>by
  simp only [Reps] at h
  obtain ⟨y,r,rfl,h1,h2⟩:=h
  simp only [List.set_cons_zero,Reps]
  exact ⟨x,r,rfl,hd,h2⟩
 | e::ds,_,n + 1,h=>by
  simp only [Reps] at h
  obtain ⟨y,r,rfl,h1,h2⟩:=h
  simp only [List.set_cons_succ,Reps]
  exact ⟨y,_,rfl,h1,Reps.set hd n h2⟩
theorem Reps.one {d:D} {x:V} (h:Rep K pp M H d x):Reps K pp M H [d] [x]:=by simp only [Reps]; exact ⟨x,[],rfl,h,rfl⟩
theorem Reps.nil:Reps K pp M H [] []:=by simp only [Reps]
theorem Reps.cons {d:D} {x:V} {ds:List D} {xs:List V} (h:Rep K pp M H d x) (q:Reps K pp M H ds xs):Reps K pp M H (d::ds) (x::xs):=by simp only [Reps]; exact ⟨x,xs,rfl,h,q⟩
def NW (pp:Option Addr) (b:Addr) (o:HO):Prop:=(pp=some b->∀ xs,o ≠ .lst xs) /\ NT o
theorem nw {pp:Option Addr} {b:Addr} {o:HO} (h:pp≠some b) (t:NT o:=by intro _ z; cases z):NW pp b o:=⟨fun z=>absurd z h,t⟩
structure SameQ (K:PySem.W.Frag) (pp:Option Addr) (H H':Hp):Prop where
 keep:∀ b o,H b=some o->NW pp b o->H' b=some o
 pen:∀ p,pp=some p->(∃ a ns t l,Pen K H p a ns t l)->∃ a ns t l,Pen K H' p a ns t l
 live:∀ b,H b≠none->H' b≠none
structure SameP (K:PySem.W.Frag) (pp:Option Addr) (H H':Hp):Prop extends SameQ K pp H H' where
 tb:Tabs H->Tabs H'
theorem SameQ.refl:SameQ K pp H H:=⟨fun _ _ h _=>h,fun _ _ h=>h,fun _ h=>h⟩
theorem SameP.refl:SameP K pp H H:=⟨.refl,fun h=>h⟩
theorem SameQ.trans (x:SameQ K pp H H') (y:SameQ K pp H' H''):SameQ K pp H H'' :=
 ⟨fun b o h n=>y.keep b o (x.keep b o h n) n,fun p e h=>y.pen p e (x.pen p e h),fun b h=>y.live b (x.live b h)⟩
theorem SameP.trans (x:SameP K pp H H') (y:SameP K pp H' H''):SameP K pp H H'':=⟨x.toSameQ.trans y.toSameQ,fun h=>y.tb (x.tb h)⟩
theorem SameP.of (s:Same H H'):SameP K pp H H':=⟨⟨fun b o h _=>s b o h,fun _ _ ⟨a,ns,t,l,h⟩=>⟨a,ns,t,l,h.same s⟩,fun b h e=>by
 cases q:H b with
 | none=>exact h q
 | some o=>rw [s b o q] at e; cases e⟩,fun h=>h.of fun b o e _=>s b o e⟩
theorem SameP.new {l:Addr} {o:HO} (h:H l=none):SameP K pp H (upd H l o):=.of (qh h)
theorem SameP.mv (s:SameP K pp H H'):Mv K pp M H M H' :=
 ⟨fun a xs h=>s.keep a _ h ⟨fun _ _ z=>(by cases z),fun _ z=>(by cases z)⟩,fun a xs h n q=>⟨s.keep a _ h ⟨fun z=>absurd z q.1,q.2⟩,n⟩,s.pen,s.tb⟩
theorem Mv.new {l:Addr} {o:HO} (h:H l=none):Mv K pp M H M (upd H l o):=(SameP.new h).mv
theorem Mv.newOwn {l:Addr} {o:HO} (h:H l=none):Mv K pp M H (l::M) (upd H l o) :=
 ⟨fun a xs e=>fG h e,fun a xs e n q=>⟨fG h e,by
  intro z
  rcases List.mem_cons.mp z with rfl | z
  ·rw [h] at e; cases e
  ·exact n z⟩,(SameP.new h).pen,fun t=>t.new h⟩
theorem Mv.less {l:List Addr} (h:∀ a∈l,a∈M):Mv K pp M H l H:=⟨fun _ _ h=>h,fun a xs e n _=>⟨e,fun z=>n (h a z)⟩,fun _ _ h=>h,fun h=>h⟩
theorem yn {p l:Addr} {xs ys:List V} (hl:H l=some (.lst xs)) (hp:p≠l):(∃ a ns t k,Pen K H p a ns t k)->∃ a ns t k,Pen K (upd H l (.lst ys)) p a ns t k:=by
 rintro ⟨a,ns,t,k,h⟩
 refine ⟨a,ns,t,k,?_,?_,h.t0⟩
 ·rw [ah hp]; exact h.lst
 ·rcases h.scr with ⟨o,e⟩ | e
  ·refine .inl ⟨o,?_⟩
   rw [ah (ku e hl (by intro z; cases z))]; exact e
  ·exact .inr e
theorem Mv.write {l:Addr} {xs ys:List V} (hl:H l=some (.lst xs)) (hm:l∈M) (hp:pp≠some l):Mv K pp M H M (upd H l (.lst ys)) :=
 ⟨fun a zs e=>by rw [ah (ku e hl (by intro z; cases z))]; exact e,
  fun a zs e n q=>⟨by rw [ah (by rintro rfl; exact n hm)]; exact e,n⟩,
  fun p e h=>yn hl (by rintro rfl; exact hp e) h,fun t=>t.upd hl lH⟩
end
section
variable (K:PySem.W.Frag) (pp:Option Addr) (M:List Addr) (H:Hp)
mutual
def RO:O->V->List Addr->Prop
 | .val d,v,A=>A=[] /\ Rep K pp M H d v
 | .lst os,v,A=>∃ a xs B,v = .ref a /\ H a=some (.lst xs) /\ A=a::B /\ ROs os xs B
 | .dct ks os,v,A=>∃ a kvs B,v = .ref a /\ H a=some (.dT kvs) /\ kvs.map (·.1)=ks /\ A=a::B /\ ROs os (kvs.map (·.2)) B
 | .tup os,v,A=>∃ a xs,v = .ref a /\ H a=some (.tup xs) /\ ROs os xs A
 | .dck ks os,v,A=>∃ a kvs B,v = .ref a /\ H a=some (.dK kvs) /\ kvs.map (·.1)=ks /\ A=a::B /\ ROs os (kvs.map (·.2)) B
def ROs:List O->List V->List Addr->Prop
 | [],xs,A=>xs=[] /\ A=[]
 | o::os,xs,A=>∃ x r B C,xs=x::r /\ A=B++C /\ RO o x B /\ ROs os r C
end
end
section
variable {K:PySem.W.Frag} {pp:Option Addr} {M M':List Addr} {H H':Hp} [TB]
mutual
theorem RO.mv (m:Mv K pp M H M' H'):∀ (q:O) (v:V) (A:List Addr),(∀ a∈A,∀ o,H a=some o->NT o->H' a=some o)->RO K pp M H q v A->RO K pp M' H' q v A
 | .val d,v,A,_,h=>by
  simp only [RO] at h ⊢
  exact ⟨h.1,Rep.mv m d v h.2⟩
 | .lst os,v,A,k,h=>by
  simp only [RO] at h ⊢
  obtain ⟨a,xs,B,e,ha,rfl,r⟩:=h
  exact ⟨a,xs,B,e,k a List.mem_cons_self _ ha (by intro _ z; cases z),rfl,ROs.mv m os xs B (fun b hb=>k b (List.mem_cons_of_mem _ hb)) r⟩
 | .dct ks os,v,A,k,h=>by
  simp only [RO] at h ⊢
  obtain ⟨a,kvs,B,e,ha,e2,rfl,r⟩:=h
  exact ⟨a,kvs,B,e,k a List.mem_cons_self _ ha (by intro _ z; cases z),e2,rfl,ROs.mv m os _ B (fun b hb=>k b (List.mem_cons_of_mem _ hb)) r⟩
 | .tup os,v,A,k,h=>by
  simp only [RO] at h ⊢
  obtain ⟨a,xs,e,ha,r⟩:=h
  exact ⟨a,xs,e,m.tup a xs ha,ROs.mv m os xs A k r⟩
 | .dck ks os,v,A,k,h=>by
  simp only [RO] at h ⊢
  obtain ⟨a,kvs,B,e,ha,e2,rfl,r⟩:=h
  exact ⟨a,kvs,B,e,k a List.mem_cons_self _ ha (by intro _ z; cases z),e2,rfl,ROs.mv m os _ B (fun b hb=>k b (List.mem_cons_of_mem _ hb)) r⟩
theorem ROs.mv (m:Mv K pp M H M' H'):∀ (os:List O) (xs:List V) (A:List Addr),(∀ a∈A,∀ o,H a=some o->NT o->H' a=some o)->ROs K pp M H os xs A->ROs K pp M' H' os xs A
 | [],xs,A,_,h=>by simp only [ROs] at h ⊢; exact h
 | o::os,xs,A,k,h=>by
  simp only [ROs] at h ⊢
  obtain ⟨x,r,B,C,e,rfl,h1,h2⟩:=h
  exact ⟨x,r,B,C,e,rfl,RO.mv m o x B (fun b hb=>k b (List.mem_append.mpr (.inl hb))) h1,ROs.mv m os r C (fun b hb=>k b (List.mem_append.mpr (.inr hb))) h2⟩
end
mutual
def fzO:O->D
 | .val d=>d
 | .lst os=>.lst (fzOs os)
 | .dct ks os=>.dT ks (fzOs os)
 | .tup os=>.tup (fzOs os)
 | .dck ks os=>.dK ks (fzOs os)
def fzOs:List O->List D
 | []=>[]
 | o::os=>fzO o::fzOs os
end
mutual
theorem RO.fz (m:Mv K pp M H M' H):∀ (q:O) (v:V) (A:List Addr),(∀ a∈A,a∉M' /\ pp≠some a)->RO K pp M H q v A->Rep K pp M' H (fzO q) v
 | .val d,v,A,_,h=>by
  simp only [RO] at h
  simp only [fzO]
  exact Rep.mv m d v h.2
 | .lst os,v,A,k,h=>by
  simp only [RO] at h
  simp only [fzO,Rep]
  obtain ⟨a,xs,B,e,ha,rfl,r⟩:=h
  exact ⟨a,xs,e,(k a List.mem_cons_self).1,(k a List.mem_cons_self).2,ha,ROs.fz m os xs B (fun b hb=>k b (List.mem_cons_of_mem _ hb)) r⟩
 | .dct ks os,v,A,k,h=>by
  simp only [RO] at h
  simp only [fzO,Rep]
  obtain ⟨a,kvs,B,e,ha,e2,rfl,r⟩:=h
  exact ⟨a,kvs,e,(k a List.mem_cons_self).1,(k a List.mem_cons_self).2,.inl ha,e2,ROs.fz m os _ B (fun b hb=>k b (List.mem_cons_of_mem _ hb)) r⟩
 | .tup os,v,A,k,h=>by
  simp only [RO] at h
  simp only [fzO,Rep]
  obtain ⟨a,xs,e,ha,r⟩:=h
  exact ⟨a,xs,e,ha,ROs.fz m os xs A k r⟩
 | .dck ks os,v,A,k,h=>by
  simp only [RO] at h
  simp only [fzO,Rep]
  obtain ⟨a,kvs,B,e,ha,e2,rfl,r⟩:=h
  exact ⟨a,kvs,e,(k a List.mem_cons_self).1,(k a List.mem_cons_self).2,ha,e2,ROs.fz m os _ B (fun b hb=>k b (List.mem_cons_of_mem _ hb)) r⟩
theorem ROs.fz (m:Mv K pp M H M' H):∀ (os:List O) (xs:List V) (A:List Addr),(∀ a∈A,a∉M' /\ pp≠some a)->ROs K pp M H os xs A->Reps K pp M' H (fzOs os) xs
 | [],xs,A,_,h=>by simp only [ROs] at h; simp only [fzOs,Reps]; exact h.1
 | o::os,xs,A,k,h=>by
  simp only [ROs] at h
  simp only [fzOs,Reps]
  obtain ⟨x,r,B,C,e,rfl,h1,h2⟩:=h
  exact ⟨x,r,e,RO.fz m o x B (fun b hb=>k b (List.mem_append.mpr (.inl hb))) h1,ROs.fz m os r C (fun b hb=>k b (List.mem_append.mpr (.inr hb))) h2⟩
end
theorem lI:∀ os:List O,fzOs os=os.map fzO
 | []=>rfl
 | o::os=>by simp only [fzOs,List.map_cons,lI os]
end
structure Fx where
 pp:Option Addr
 M0:List Addr
 H0:Hp
abbrev DS:=List Sl
variable [TB]
class Frm where
 L:PySem.W.Frag->Fx->List Addr->Hp->Prop
 W:DS->Addr->Prop
 cl:∀ K (F:Fx) M H M' H',L K F M H->Mv K F.pp M H M' H'->L K F M' H'
instance (priority:=low) Frm.free:Frm:=⟨fun _ _ _ _=>True,fun _ _=>False,fun _ _ _ _ _ _ h _=>h⟩
variable [Frm]
structure Lv0 (pp:Option Addr) (M:List Addr) (H:Hp):Prop where
 m:∀ a∈M,H a≠none
 p:∀ p,pp=some p->H p≠none
structure Lv (pp:Option Addr) (M:List Addr) (H:Hp):Prop extends Lv0 pp M H where
 t:Tabs H
theorem Lv0.sameQ {K:PySem.W.Frag} {pp:Option Addr} {M:List Addr} {H H':Hp} (l:Lv0 pp M H) (s:SameQ K pp H H'):Lv0 pp M H' :=
 ⟨fun a ha=>s.live a (l.m a ha),fun p e=>s.live p (l.p p e)⟩
theorem Lv0.fresh {pp:Option Addr} {M:List Addr} {H:Hp} {a:Addr} (l:Lv0 pp M H) (h:H a=none):a∉M /\ pp≠some a:=⟨fun z=>l.m a z h,fun z=>l.p a z h⟩
structure Lk (K:PySem.W.Frag) (F:Fx) (M:List Addr) (H:Hp):Prop where
 l:Frm.L K F M H
 t:Tabs H
theorem Lk.cl {K:PySem.W.Frag} {F:Fx} {M M':List Addr} {H H':Hp} (h:Lk K F M H) (m:Mv K F.pp M H M' H'):Lk K F M' H':=⟨Frm.cl _ _ _ _ _ _ h.l m,m.tb h.t⟩
section
variable (K:PySem.W.Frag) (F:Fx) (M:List Addr) (H:Hp)
def RSl:Sl->Option V->Prop
 | .nil,_=>True
 | .val d,o=>∃ v,o=some v /\ Rep K F.pp M H d v
 | .own ds,o=>∃ l xs,o=some (.ref l) /\ l∈M /\ F.H0 l=none /\ F.pp≠some l /\ H l=some (.lst xs) /\ Reps K F.pp M H ds xs
 | .obj _,o=>∃ v,o=some v
 | .pin w d,o=>∃ v,o=some v /\ v=w /\ Rep K F.pp M H d v
def Ow:Sl->Option V->List Addr->Prop
 | .own _,o,A=>∃ l,o=some (.ref l) /\ A=[l]
 | .obj q,o,A=>A.Nodup /\ ∃ v,o=some v /\ RO K F.pp M H q v A
 | _,_,_=>True
def OwF (σ:St) (ρ:DS):Prop:=∃ As:Nat->List Addr,(∀ (i:Nat) s o,ρ[i]? = some s->σ[i]? = some o->Ow K F M H s o (As i)) /\ (∀ i,∀ a∈As i,a∈M /\ F.H0 a=none /\ F.pp≠some a) /\ ∀ i j,i≠j->∀ a∈As i,a∉As j
structure RSt (σ:St) (ρ:DS):Prop where
 len:σ.length=ρ.length
 sl:∀ (i:Nat) s o,ρ[i]? = some s->σ[i]? = some o->RSl K F M H s o
 ow:OwF K F M H σ ρ
 sub:∀ a∈F.M0,a∈M
 same:SameQ K F.pp F.H0 H
 old:∀ a∈F.M0,F.H0 a≠none
 liv0:Lv0 F.pp M H
 lk:Lk K F M H
end
section
variable {K:PySem.W.Frag} {F:Fx} {M M':List Addr} {H H':Hp} {σ:St} {ρ:DS}
theorem RSt.liv (r:RSt K F M H σ ρ):Lv F.pp M H:=⟨r.liv0,r.lk.t⟩
theorem RSt.sameT (r:RSt K F M H σ ρ):SameP K F.pp F.H0 H:=⟨r.same,fun _=>r.lk.t⟩
omit [Frm] in
theorem Ow.mv {s:Sl} {o:Option V} {A:List Addr} (m:Mv K F.pp M H M' H') (k:∀ a∈A,∀ x,H a=some x->NT x->H' a=some x) (h:Ow K F M H s o A):Ow K F M' H' s o A:=by
 cases s with
 | nil=>trivial
 | val d=>trivial
 | pin w d=>trivial
 | own ds=>exact h
 | obj q =>
  obtain ⟨nd,v,e,h⟩:=h
  exact ⟨nd,v,e,RO.mv m q v A k h⟩
omit [Frm] in
theorem OwF.keep (h:OwF K F M H σ ρ) (m:Mv K F.pp M H M' H') (k:∀ a,a∈M->F.pp≠some a->F.H0 a=none->a∈M' /\ ∀ x,H a=some x->NT x->H' a=some x):OwF K F M' H' σ ρ:=by
 obtain ⟨As,h1,h2,h3⟩:=h
 refine ⟨As,fun i s o e1 e2=>(h1 i s o e1 e2).mv m fun a ha=>(k a (h2 i a ha).1 (h2 i a ha).2.2 (h2 i a ha).2.1).2,fun i a ha=>⟨(k a (h2 i a ha).1 (h2 i a ha).2.2 (h2 i a ha).2.1).1,(h2 i a ha).2⟩,h3⟩
omit [Frm] in
theorem OwF.step {σ':St} {ρ':DS} (h:OwF K F M H σ ρ) (m:Mv K F.pp M H M' H') (i:Nat) (hσ:∀ j,j≠i->σ'[j]? = σ[j]?) (hρ:∀ j,j≠i->ρ'[j]? = ρ[j]?)
  (k:∀ A,(∀ s o,ρ[i]? = some s->σ[i]? = some o->Ow K F M H s o A)->(∀ a∈A,a∈M /\ F.H0 a=none /\ F.pp≠some a)->∃ B,(∀ s o,ρ'[i]? = some s->σ'[i]? = some o->Ow K F M' H' s o B) /\
   (∀ b∈B,b∈M' /\ F.H0 b=none /\ F.pp≠some b /\ (b∈A∨b∉M)) /\ ∀ a,a∈M->F.pp≠some a->F.H0 a=none->a∉A->a∈M' /\ ∀ x,H a=some x->NT x->H' a=some x):OwF K F M' H' σ' ρ':=by
 obtain ⟨As,h1,h2,h3⟩:=h
 obtain ⟨B,k1,k2,k3⟩:=k (As i) (h1 i) (h2 i)
 have old:∀ j,j≠i->∀ a∈As j,a∈M' /\ ∀ x,H a=some x->NT x->H' a=some x:=fun j e a ha=>k3 a (h2 j a ha).1 (h2 j a ha).2.2 (h2 j a ha).2.1 (h3 j i e a ha)
 refine ⟨fun j=>if j=i then B else As j,fun j s o e1 e2=>?_,fun j a ha=>?_,fun j l e a ha hb=>?_⟩
 ·show Ow K F M' H' s o (if j=i then B else As j)
  by_cases e:j=i
  ·subst e
   rw [if_pos rfl]
   exact k1 s o e1 e2
  ·rw [if_neg e]
   rw [hρ j e] at e1
   rw [hσ j e] at e2
   exact (h1 j s o e1 e2).mv m fun a ha=>(old j e a ha).2
 ·replace ha:a∈(if j=i then B else As j):=ha
  by_cases e:j=i
  ·subst e
   rw [if_pos rfl] at ha
   exact ⟨(k2 a ha).1,(k2 a ha).2.1,(k2 a ha).2.2.1⟩
  ·rw [if_neg e] at ha
   exact ⟨(old j e a ha).1,(h2 j a ha).2⟩
 ·replace ha:a∈(if j=i then B else As j):=ha
  replace hb:a∈(if l=i then B else As l):=hb
  by_cases e1:j=i
  ·subst e1
   rw [if_pos rfl] at ha
   rw [if_neg (Ne.symm e)] at hb
   rcases (k2 a ha).2.2.2 with z | z
   ·exact h3 j l e a z hb
   ·exact z (h2 l a hb).1
  ·rw [if_neg e1] at ha
   by_cases e2:l=i
   ·subst e2
    rw [if_pos rfl] at hb
    rcases (k2 a hb).2.2.2 with z | z
    ·exact h3 j l e a ha z
    ·exact z (h2 j a ha).1
   ·rw [if_neg e2] at hb
    exact h3 j l e a ha hb
omit [Frm] in
theorem OwF.none (h:∀ (i:Nat) s,ρ[i]? = some s->(∀ ds,s ≠ .own ds) /\ ∀ q,s ≠ .obj q):OwF K F M H σ ρ:=by
 refine ⟨fun _=>[],fun i s o e1 _=>?_,fun _ _ h=>(by simp at h),fun _ _ _ _ h=>(by simp at h)⟩
 cases s with
 | nil=>trivial
 | val d=>trivial
 | pin w d=>trivial
 | own ds=>exact absurd rfl ((h i _ e1).1 ds)
 | obj q=>exact absurd rfl ((h i _ e1).2 q)
theorem RSt.own (r:RSt K F M H σ ρ) (i j:Nat) (ds es:List D) (a:Addr) (h1:ρ[i]? = some (.own ds)) (h2:ρ[j]? = some (.own es)) (h3:σ[i]? = some (some (.ref a))) (h4:σ[j]? = some (some (.ref a))):i=j:=by
 obtain ⟨As,k1,k2,k3⟩:=r.ow
 obtain ⟨l,e,e2⟩:=k1 i _ _ h1 h3
 cases e
 obtain ⟨l,e,e3⟩:=k1 j _ _ h2 h4
 cases e
 by_cases z:i=j
 ·exact z
 ·exact absurd (by rw [e3]; simp) (k3 i j z a (by rw [e2]; simp))
omit [Frm] in
theorem SameP.ow (s:SameP K F.pp H H') (a:Addr) (_:a∈M) (p:F.pp≠some a) (_:F.H0 a=none):a∈M /\ ∀ x,H a=some x->NT x->H' a=some x:=⟨‹_›,fun x e n=>s.keep a x e (nw p n)⟩
theorem RSt.sameP (r:RSt K F M H σ ρ) (s:SameP K F.pp H H'):RSt K F M H' σ ρ:=by
 refine ⟨r.len,fun i q o h1 h2=>?_,r.ow.keep s.mv fun a h1 h2 h3=>s.ow a h1 h2 h3,r.sub,r.same.trans s.toSameQ,r.old,r.liv0.sameQ s.toSameQ,r.lk.cl s.mv⟩
 have:=r.sl i q o h1 h2
 cases q with
 | nil=>trivial
 | val d=>obtain ⟨v,e,h⟩:=this; exact ⟨v,e,h.mv s.mv⟩
 | pin w d=>obtain ⟨v,e,ew,h⟩:=this; exact ⟨v,e,ew,h.mv s.mv⟩
 | own ds =>
  obtain ⟨l,xs,e,hm,h0,hp,hl,hr⟩:=this
  exact ⟨l,xs,e,hm,h0,hp,s.keep l _ hl (nw hp),hr.mv s.mv⟩
 | obj q=>exact this
theorem RSt.at (r:RSt K F M H σ ρ) {i:Nat} {s:Sl} (h:ρ[i]? = some s):∃ o,σ[i]? = some o /\ RSl K F M H s o:=by
 have hi:i < σ.length:=by rw [r.len]; exact (List.getElem?_eq_some_iff.mp h).1
 exact ⟨σ[i],by simp [hi],r.sl i s _ h (by simp [hi])⟩
omit [Frm] in
theorem OwF.drop {σ':St} {ρ':DS} (h:OwF K F M H σ ρ) (i:Nat) (hσ:∀ j,j≠i->σ'[j]? = σ[j]?) (hρ:∀ j,j≠i->ρ'[j]? = ρ[j]?) (hn:∀ s,ρ'[i]? = some s->(∀ ds,s ≠ .own ds) /\ ∀ q,s ≠ .obj q):OwF K F M H σ' ρ' :=
 h.step .refl i hσ hρ fun A _ _=>⟨[],fun s o e _=>(by
  cases s with
  | nil=>trivial
  | val d=>trivial
  | pin w d=>trivial
  | own ds=>exact absurd rfl ((hn _ e).1 ds)
  | obj q=>exact absurd rfl ((hn _ e).2 q)),fun _ h=>(by simp at h),fun a ha _ _ _=>⟨ha,fun _ e _=>e⟩⟩
omit [Frm] in
theorem aB {α:Type} {l:List α} {i:Nat} {x y:α} (h:(l.set i x)[i]? = some y):y=x:=by
 have hi:i < l.length:=by have:=(List.getElem?_eq_some_iff.mp h).1; simpa using this
 simp [hi] at h
 exact h.symm
theorem RSt.set (r:RSt K F M H σ ρ) {d:D} {v:V} (h:Rep K F.pp M H d v) (i:Nat):RSt K F M H (σ.set i (some v)) (ρ.set i (.val d)):=by
 refine ⟨by simp [r.len],fun j s o h1 h2=>?_,r.ow.drop i (fun j e=>List.getElem?_set_ne (Ne.symm e)) (fun j e=>List.getElem?_set_ne (Ne.symm e)) (fun s e=>?_),r.sub,r.same,r.old,r.liv0,r.lk⟩
 ·by_cases e:i=j
  ·subst e
   rw [aB h1,aB h2]
   exact ⟨v,rfl,h⟩
  ·rw [List.getElem?_set_ne e] at h1 h2
   exact r.sl j s o h1 h2
 ·rw [aB e]
  exact ⟨fun ds z=>(by cases z),fun q z=>(by cases z)⟩
end
end DL
namespace DL
open PySem PySem.Spec L2
open PyProof.Rows hiding St
variable [TB]
variable [Frm]
abbrev DE:=DS->(D->DS->Prop)->Prop
abbrev DT:=DS->(Bool->DS->Prop)->Prop
abbrev DA:=DS->(List D->DS->Prop)->Prop
structure DEnds where
 nx:DS->Prop
 rt:D->Prop
 bk:DS->Prop:=fun _=>False
 ct:DS->Prop:=fun _=>False
abbrev DTS:=DEnds->DS->Prop
def slot:DS->Nat->Sl
 | [],_=>.nil
 | s::_,0=>s
 | _::r,n + 1=>slot r n
theorem aI:∀ {ρ:DS} {i:Nat} {s:Sl},slot ρ i=s->s ≠ .nil->ρ[i]? = some s
 | [],_,_,h,n=>absurd h.symm n
 | _::_,0,_,h,_=>by subst h; rfl
 | _::r,i + 1,s,h,n=>by simpa using aI (ρ:=r) (i:=i) h n
section
variable {X:Cx} {F:Fx}
structure PED (X:Cx) (e:Expr) (t:DE):Prop where
 mono:∀ ρ P P',(∀ d ρ',P d ρ'->P' d ρ')->t ρ P->t ρ P'
 run:∃ T:TE,PE X e T /\ ∀ {F:Fx} M H σ ρ (Q:VK),RSt X.K F M H σ ρ ->
  (t ρ fun d ρ'=>∀ M' H' v,Mv X.K F.pp M H M' H'->RSt X.K F M' H' σ ρ'->Rep X.K F.pp M' H' d v->Q v H')->T σ H Q
structure PTD (X:Cx) (e:Expr) (t:DT):Prop where
 mono:∀ ρ P P',(∀ b ρ',P b ρ'->P' b ρ')->t ρ P->t ρ P'
 run:∃ T:TT,PT X e T /\ ∀ {F:Fx} M H σ ρ (Q:Bool->Hp->Prop),RSt X.K F M H σ ρ ->
  (t ρ fun b ρ'=>∀ M' H',Mv X.K F.pp M H M' H'->RSt X.K F M' H' σ ρ'->Q b H')->T σ H Q
structure PWD (X:Cx) (e:Expr) (t:DT):Prop where
 mono:∀ ρ P P',(∀ b ρ',P b ρ'->P' b ρ')->t ρ P->t ρ P'
 run:∃ T:TT,PW X e T /\ ∀ {F:Fx} M H σ ρ (Q:Bool->Hp->Prop),RSt X.K F M H σ ρ ->
  (t ρ fun b ρ'=>∀ M' H',Mv X.K F.pp M H M' H'->RSt X.K F M' H' σ ρ'->Q b H')->T σ H Q
structure PAD (X:Cx) (es:List Expr) (t:DA):Prop where
 mono:∀ ρ P P',(∀ d ρ',P d ρ'->P' d ρ')->t ρ P->t ρ P'
 run:∃ T:TA,PA X es T /\ ∀ {F:Fx} M H σ ρ (Q:List V->Hp->Prop),RSt X.K F M H σ ρ ->
  (t ρ fun ds ρ'=>∀ M' H' vs,Mv X.K F.pp M H M' H'->RSt X.K F M' H' σ ρ'->Reps X.K F.pp M' H' ds vs->Q vs H')->T σ H Q
abbrev dC (d:D):DE:=fun ρ Q=>Q d ρ
theorem PED.con {e:Expr} {d:D} {v:V} (h:PE X e (tC v)) (r:∀ pp M H,Rep X.K pp M H d v):PED X e (dC d) :=
 ⟨fun _ _ _ f h=>f _ _ h,_,h,fun {F} M H _ _ _ rs q=>q M H v .refl rs (r _ M H)⟩
theorem ae {i j pos}:PED X (.Constant (.int i) j pos) (dC (.int i)):=.con ba fun _ _ _=>by simp only [Rep]
theorem gQ {i j pos}:PED X (.Constant (.bool i) j pos) (dC (.bl i)):=.con Bt fun _ _ _=>by simp only [Rep]
theorem nr {j pos}:PED X (.Constant .none j pos) (dC .non):=.con zr fun _ _ _=>by simp only [Rep]
theorem aJ {i j pos}:PED X (.Constant (.str i) j pos) (dC (.str i)):=.con wG fun _ _ _=>by simp only [Rep]
theorem dY {x:Str} {n:String} {pos:Pos} (hg:Gl X x) (hm:X.mg x=none) (hv:bootBuiltins x=some (.type n)) (hn:x ≠ "__name__":=by decide) (hd:(x == ("__debug__" : Str))=false:=by decide):PED X (.Name x pos) (dC (.ty n)) :=
 .con (xN (v:=.ty n) hg hm hv rfl hn hd) fun _ _ _=>by simp only [Rep]
def BP (i:Nat) (ρ:DS) (Q:D->DS->Prop):Sl->Prop
 | .val d=>Q d ρ
 | .own ds=>Q (.lst ds) (ρ.set i (.val (.lst ds)))
 | .obj q=>Q (fzO q) (ρ.set i (.val (fzO q)))
 | .pin _ d=>Q d ρ
 | .nil=>False
abbrev dVar (i:Nat):DE:=fun ρ Q=>BP i ρ Q (slot ρ i)
theorem RSt.freeze {K:PySem.W.Frag} {M:List Addr} {H:Hp} {σ:St} {ρ:DS} {i:Nat} {ds:List D} (r:RSt K F M H σ ρ) (h:ρ[i]? = some (.own ds)) :
  ∃ M' v,σ[i]? = some (some v) /\ Mv K F.pp M H M' H /\ RSt K F M' H σ (ρ.set i (.val (.lst ds))) /\ Rep K F.pp M' H (.lst ds) v:=by
 obtain ⟨o,ho,l,xs,rfl,hm,h0,hp,hl,hr⟩:=r.at h
 have m:Mv K F.pp M H (M.filter fun a=>decide (a≠l)) H:=.less fun a ha=>(List.mem_filter.mp ha).1
 have rl:Rep K F.pp (M.filter fun a=>decide (a≠l)) H (.lst ds) (.ref l):=by
  simp only [Rep]
  exact ⟨l,xs,rfl,by simp,hp,hl,hr.mv m⟩
 refine ⟨_,_,ho,m,⟨by simp [r.len],fun j s o h1 h2=>?_,r.ow.step m i (fun _ _=>rfl) (fun j e=>List.getElem?_set_ne (Ne.symm e)) (fun A hA _=>⟨[],fun s o e _=>?_,fun _ h=>(by simp at h),fun a ha _ _ hn=>⟨?_,fun _ e _=>e⟩⟩),fun a ha=>?_,r.same,r.old,?_,r.lk.cl m⟩,rl⟩
 ·by_cases e:i=j
  ·subst e
   rw [ho] at h2
   rw [aB h1]
   cases h2
   exact ⟨_,rfl,rl⟩
  ·rw [List.getElem?_set_ne e] at h1
   have q:=r.sl j s o h1 h2
   cases s with
   | nil=>trivial
   | val d=>obtain ⟨v,e,q⟩:=q; exact ⟨v,e,q.mv m⟩
   | pin w d=>obtain ⟨v,e,ew,q⟩:=q; exact ⟨v,e,ew,q.mv m⟩
   | own es =>
    obtain ⟨l',ys,rfl,hm',h0',hp',hl',hr'⟩:=q
    refine ⟨l',ys,rfl,List.mem_filter.mpr ⟨hm',?_⟩,h0',hp',hl',hr'.mv m⟩
    by_cases z:l'=l
    ·subst z
     exact absurd (r.own i j _ _ _ h h1 ho h2) e
    ·simpa using z
   | obj q=>exact ‹_›
 ·rw [aB e]
  trivial
 ·obtain ⟨l2,e2,e3⟩:=hA _ _ h ho
  cases e2
  refine List.mem_filter.mpr ⟨ha,?_⟩
  by_cases z:a=l
  ·subst z
   exact absurd (by rw [e3]; simp) hn
  ·simpa using z
 ·refine List.mem_filter.mpr ⟨r.sub a ha,?_⟩
  by_cases z:a=l
  ·subst z
   exact absurd h0 (r.old a ha)
  ·simpa using z
 ·exact ⟨fun a ha=>r.liv.m a (List.mem_filter.mp ha).1,r.liv.p⟩
theorem RSt.objAt {K:PySem.W.Frag} {M:List Addr} {H:Hp} {σ:St} {ρ:DS} {i:Nat} {q:O} (r:RSt K F M H σ ρ) (h:ρ[i]? = some (.obj q)) :
  ∃ v A,σ[i]? = some (some v) /\ A.Nodup /\ RO K F.pp M H q v A /\ (∀ a∈A,a∈M /\ F.H0 a=none /\ F.pp≠some a) /\ ∀ (j:Nat) s o,j≠i->ρ[j]? = some s->σ[j]? = some o->∀ l,(∃ ds,s = .own ds)->o=some (.ref l)->l∉A:=by
 obtain ⟨o,ho,_⟩:=r.at h
 obtain ⟨As,k1,k2,k3⟩:=r.ow
 obtain ⟨nd,v,rfl,hq⟩:=k1 i _ _ h ho
 refine ⟨v,As i,ho,nd,hq,k2 i,fun j s o e h1 h2 l hs ho' hl=>?_⟩
 obtain ⟨ds,rfl⟩:=hs
 subst ho'
 obtain ⟨l2,e2,e3⟩:=k1 j _ _ h1 h2
 cases e2
 exact k3 j i e l (by rw [e3]; simp) hl
theorem RSt.freezeO {K:PySem.W.Frag} {M:List Addr} {H:Hp} {σ:St} {ρ:DS} {i:Nat} {q:O} (r:RSt K F M H σ ρ) (h:ρ[i]? = some (.obj q)) :
  ∃ M' v,σ[i]? = some (some v) /\ Mv K F.pp M H M' H /\ RSt K F M' H σ (ρ.set i (.val (fzO q))) /\ Rep K F.pp M' H (fzO q) v:=by
 obtain ⟨As,k1,k2,k3⟩:=r.ow
 obtain ⟨o,ho,_⟩:=r.at h
 obtain ⟨nd,v,rfl,hq⟩:=k1 i _ _ h ho
 have m:Mv K F.pp M H (M.filter fun a=>decide (a∉As i)) H:=.less fun a ha=>(List.mem_filter.mp ha).1
 have rl:Rep K F.pp (M.filter fun a=>decide (a∉As i)) H (fzO q) v:=RO.fz m q v (As i) (fun a ha=>⟨fun z=>absurd ha (by simpa using (List.mem_filter.mp z).2),(k2 i a ha).2.2⟩) hq
 refine ⟨_,_,ho,m,⟨by simp [r.len],fun j s o h1 h2=>?_,⟨fun j=>if j=i then [] else As j,fun j s o e1 e2=>?_,fun j a ha=>?_,fun j l e a ha hb=>?_⟩,fun a ha=>?_,r.same,r.old,?_,r.lk.cl m⟩,rl⟩
 ·by_cases e:i=j
  ·subst e
   rw [ho] at h2
   rw [aB h1]
   cases h2
   exact ⟨_,rfl,rl⟩
  ·rw [List.getElem?_set_ne e] at h1
   have q':=r.sl j s o h1 h2
   cases s with
   | nil=>trivial
   | val d=>obtain ⟨v,e,q⟩:=q'; exact ⟨v,e,q.mv m⟩
   | pin w d=>obtain ⟨v,e,ew,q⟩:=q'; exact ⟨v,e,ew,q.mv m⟩
   | own es =>
    obtain ⟨l',ys,rfl,hm',h0',hp',hl',hr'⟩:=q'
    refine ⟨l',ys,rfl,List.mem_filter.mpr ⟨hm',?_⟩,h0',hp',hl',hr'.mv m⟩
    obtain ⟨l2,e2,e3⟩:=k1 j _ _ h1 h2
    cases e2
    simpa using k3 j i (Ne.symm e) l' (by rw [e3]; simp)
   | obj q=>exact ‹_›
 ·show Ow K F _ H s o (if j=i then [] else As j)
  by_cases e:j=i
  ·subst e
   rw [aB e1]
   trivial
  ·rw [if_neg e]
   rw [List.getElem?_set_ne (Ne.symm e)] at e1
   exact (k1 j s o e1 e2).mv m fun a _ x z _=>z
 ·replace ha:a∈(if j=i then [] else As j):=ha
  by_cases e:j=i
  ·rw [if_pos e] at ha; simp at ha
  ·rw [if_neg e] at ha
   exact ⟨List.mem_filter.mpr ⟨(k2 j a ha).1,by simpa using k3 j i e a ha⟩,(k2 j a ha).2⟩
 ·replace ha:a∈(if j=i then [] else As j):=ha
  replace hb:a∈(if l=i then [] else As l):=hb
  by_cases e1:j=i
  ·rw [if_pos e1] at ha; simp at ha
  ·by_cases e2:l=i
   ·rw [if_pos e2] at hb; simp at hb
   ·rw [if_neg e1] at ha
    rw [if_neg e2] at hb
    exact k3 j l e a ha hb
 ·refine List.mem_filter.mpr ⟨r.sub a ha,?_⟩
  have:a∉As i:=fun z=>r.old a ha (k2 i a z).2.1
  simpa using this
 ·exact ⟨fun a ha=>r.liv.m a (List.mem_filter.mp ha).1,r.liv.p⟩
theorem ab (i:Nat) {e:Expr} (h:PE X e (tVar i)):PED X e (dVar i):=by
 refine ⟨fun ρ P P' f h=>?_,_,h,fun {F} M H σ ρ Q rs h=>?_⟩
 ·unfold dVar at h ⊢
  cases e:slot ρ i with
  | nil=>rw [e] at h; exact h
  | val d=>rw [e] at h; exact f _ _ h
  | own ds=>rw [e] at h; exact f _ _ h
  | obj q=>rw [e] at h; exact f _ _ h
  | pin w d=>rw [e] at h; exact f _ _ h
 ·unfold dVar at h
  cases e:slot ρ i with
  | nil=>rw [e] at h; exact h.elim
  | val d =>
   rw [e] at h
   obtain ⟨o,ho,v,rfl,r⟩:=rs.at (aI e (by intro z; cases z))
   exact ⟨v,ho,h M H v .refl rs r⟩
  | pin w d =>
   rw [e] at h
   obtain ⟨o,ho,v,rfl,_,r⟩:=rs.at (aI e (by intro z; cases z))
   exact ⟨v,ho,h M H v .refl rs r⟩
  | own ds =>
   rw [e] at h
   obtain ⟨M',v,ho,m,rs',r⟩:=rs.freeze (aI e (by intro z; cases z))
   exact ⟨v,ho,h M' H v m rs' r⟩
  | obj q =>
   rw [e] at h
   obtain ⟨M',v,ho,m,rs',r⟩:=rs.freezeO (aI e (by intro z; cases z))
   exact ⟨v,ho,h M' H v m rs' r⟩
structure OpD (X:Cx) (f:Value->Value->Sem Value) (g:D->D->(D->Prop)->Prop):Prop where
 mono:∀ x y P P',(∀ d,P d->P' d)->g x y P->g x y P'
 run:∃ r:R2,OpR X f r /\ ∀ {pp:Option Addr} M H x y v u (Q:VK),Lv pp M H->Rep X.K pp M H x v->Rep X.K pp M H y u ->
  g x y (fun d=>∀ H' w,SameP X.K pp H H'->Rep X.K pp M H' d w->Q w H')->r v u H Q
abbrev dOp (g:D->D->(D->Prop)->Prop) (ta tb:DE):DE:=fun ρ Q=>ta ρ fun x ρ1=>tb ρ1 fun y ρ2=>g x y fun d=>Q d ρ2
variable {a b c:Expr} {ta tb tc:DE} {pos:Pos} {g g':D->D->(D->Prop)->Prop}
theorem fi {g:D->D->(D->Prop)->Prop} (hg:∀ x y P P',(∀ d,P d->P' d)->g x y P->g x y P') (ha:PED X a ta) (hb:PED X b tb):∀ ρ P P',(∀ d ρ',P d ρ'->P' d ρ')->dOp g ta tb ρ P->dOp g ta tb ρ P' :=
 fun ρ _ _ f h=>ha.mono _ _ _ (fun _ _ h=>hb.mono _ _ _ (fun _ _ h=>hg _ _ _ _ (fun _ h=>f _ _ h) h) h) h
theorem jA {g:D->D->(D->Prop)->Prop} {r:R2} {Ta Tb:TE} (hg:∀ M H x y v u (Q:VK),Lv F.pp M H->Rep X.K F.pp M H x v->Rep X.K F.pp M H y u ->
   g x y (fun d=>∀ H' w,SameP X.K F.pp H H'->Rep X.K F.pp M H' d w->Q w H')->r v u H Q)
  (hgm:∀ x y P P',(∀ d,P d->P' d)->g x y P->g x y P') (ha:PED X a ta) (hb:PED X b tb)
  (ra:∀ M H σ ρ (Q:VK),RSt X.K F M H σ ρ->(ta ρ fun d ρ'=>∀ M' H' v,Mv X.K F.pp M H M' H'->RSt X.K F M' H' σ ρ'->Rep X.K F.pp M' H' d v->Q v H')->Ta σ H Q)
  (rb:∀ M H σ ρ (Q:VK),RSt X.K F M H σ ρ->(tb ρ fun d ρ'=>∀ M' H' v,Mv X.K F.pp M H M' H'->RSt X.K F M' H' σ ρ'->Rep X.K F.pp M' H' d v->Q v H')->Tb σ H Q)
  {M:List Addr} {H:Hp} {σ:St} {ρ:DS} {Q:VK} (rs:RSt X.K F M H σ ρ)
  (h:dOp g ta tb ρ fun d ρ'=>∀ M' H' v,Mv X.K F.pp M H M' H'->RSt X.K F M' H' σ ρ'->Rep X.K F.pp M' H' d v->Q v H'):tOp r Ta Tb σ H Q:=by
 refine ra M H σ ρ _ rs (ha.mono _ _ _ (fun x ρ1 h M1 H1 v m1 rs1 r1=>?_) h)
 refine rb M1 H1 σ ρ1 _ rs1 (hb.mono _ _ _ (fun y ρ2 h M2 H2 u m2 rs2 r2=>?_) h)
 refine hg M2 H2 x y v u _ rs2.liv (r1.mv m2) r2 (hgm _ _ _ _ (fun d h H' w s r=>?_) h)
 exact h M2 H' w ((m1.trans m2).trans s.mv) (rs2.sameP s) r
theorem cQ {op:Operator} (ho:OpD X (binaryOp op) g) (ha:PED X a ta) (hb:PED X b tb):PED X (.BinOp a op b pos) (dOp g ta tb):=by
 obtain ⟨r,hr,hg⟩:=ho.run
 obtain ⟨Ta,pa,ra⟩:=ha.run
 obtain ⟨Tb,pb,rb⟩:=hb.run
 exact ⟨fi ho.mono ha hb,_,cr hr pa pb,fun {F} M H σ ρ Q rs h=>jA hg ho.mono ha hb ra rb rs h⟩
theorem dZ {op:CmpOp} (ho:OpD X (compareOp op) g) (ha:PED X a ta) (hb:PED X b tb) (hm:behindInMarks op b=false):PED X (.Compare a [op] [b] pos) (dOp g ta tb):=by
 obtain ⟨r,hr,hg⟩:=ho.run
 obtain ⟨Ta,pa,ra⟩:=ha.run
 obtain ⟨Tb,pb,rb⟩:=hb.run
 exact ⟨fi ho.mono ha hb,_,xT hr pa pb hm,fun {F} M H σ ρ Q rs h=>jA hg ho.mono ha hb ra rb rs h⟩
def blD:D->(Bool->Prop)->Prop
 | .bl b,P=>P b
 | _,_=>False
theorem iV {d:D} {P P':Bool->Prop} (f:∀ b,P b->P' b) (h:blD d P):blD d P':=by cases d <;> first | exact h | exact f _ h
abbrev dB (t:DE):DT:=fun ρ Q=>t ρ fun d ρ'=>blD d fun b=>Q b ρ'
theorem gR {K:PySem.W.Frag} {pp:Option Addr} {M:List Addr} {H:Hp} {d:D} {v:V} {P:Bool->Prop} (r:Rep K pp M H d v) (h:blD d P):∃ k,v = .bl k /\ P k:=by
 cases d <;> first | exact h.elim | (simp only [Rep] at r; exact ⟨_,r,h⟩)
theorem pq (ha:PED X a ta):∀ ρ P P',(∀ b ρ',P b ρ'->P' b ρ')->dB ta ρ P->dB ta ρ P':=fun _ _ _ f h=>ha.mono _ _ _ (fun _ _ h=>iV (fun _ h=>f _ _ h) h) h
theorem bf {op:CmpOp} (ho:OpD X (compareOp op) g) (ha:PED X a ta) (hb:PED X b tb) (hm:behindInMarks op b=false):PTD X (.Compare a [op] [b] pos) (dB (dOp g ta tb)):=by
 obtain ⟨r,hr,hg⟩:=ho.run
 obtain ⟨Ta,pa,ra⟩:=ha.run
 obtain ⟨Tb,pb,rb⟩:=hb.run
 refine ⟨pq (X:=X) (a:=.Compare a [op] [b] pos) (dZ ho ha hb hm),_,jg hr pa pb hm,fun {F} M H σ ρ Q rs h=>?_⟩
 refine jA hg ho.mono ha hb ra rb rs (fi ho.mono ha hb _ _ _ (fun d ρ' h M' H' v m rs' r=>?_) h)
 obtain ⟨k,e,h⟩:=gR r h
 exact ⟨k,e,h M' H' m rs'⟩
theorem aU {e:Expr} {t:DE} (h:PED X e t) (he:∀ whole,isTrue e X.env whole=(do let v ← whole; standAt e.pos; holding [v] (truthy v)):=by intro _; rfl):PTD X e (dB t):=by
 obtain ⟨T,p,r⟩:=h.run
 refine ⟨pq h,_,zt p he,fun {F} M H σ ρ Q rs q=>?_⟩
 refine r M H σ ρ _ rs (h.mono _ _ _ (fun d ρ' h M' H' v m rs' r=>?_) q)
 obtain ⟨k,e,h⟩:=gR r h
 exact ⟨k,e,h M' H' m rs'⟩
structure Br (b:Bool) (A B:Prop):Prop where
 yes:b=true->A
 no:b=false->B
theorem Br.t {A B:Prop} (h:A):Br true A B:=⟨fun _=>h,fun e=>nomatch e⟩
theorem Br.f {A B:Prop} (h:B):Br false A B:=⟨(fun e=>nomatch e),fun _=>h⟩
abbrev dNot (t:DT):DT:=fun ρ Q=>t ρ fun b ρ'=>Q (!b) ρ'
abbrev dAnd (t u:DT):DT:=fun ρ Q=>t ρ fun b ρ'=>Br b (u ρ' Q) (Q false ρ')
abbrev dOr (t u:DT):DT:=fun ρ Q=>t ρ fun b ρ'=>Br b (Q true ρ') (u ρ' Q)
variable {tA tB:DT} {rest:List Expr}
theorem aV (h:PTD X a tA):PTD X (.UnaryOp .Not a pos) (dNot tA):=by
 obtain ⟨T,p,r⟩:=h.run
 exact ⟨fun _ _ _ f q=>h.mono _ _ _ (fun _ _ q=>f _ _ q) q,_,zw p,fun {F} M H σ ρ Q rs q=>r M H σ ρ _ rs q⟩
theorem PWD.pt {e:Expr} {t:DT} (h:PWD X e t):PTD X e t:=by
 obtain ⟨T,p,r⟩:=h.run
 exact ⟨h.mono,T,p.pt,r⟩
theorem tq (h:PTD X a tA):PWD X (.BoolOp .And [a] pos) tA:=by
 obtain ⟨T,p,r⟩:=h.run
 exact ⟨h.mono,T,xO p,r⟩
theorem cz (h:PTD X a tA):PWD X (.BoolOp .Or [a] pos) tA:=by
 obtain ⟨T,p,r⟩:=h.run
 exact ⟨h.mono,T,wH p,r⟩
theorem tt (ha:PTD X a tA) (hb:PWD X (.BoolOp .And (b::rest) pos) tB):PWD X (.BoolOp .And (a::b::rest) pos) (dAnd tA tB):=by
 obtain ⟨T,p,r⟩:=ha.run
 obtain ⟨U,q,s⟩:=hb.run
 refine ⟨fun _ _ _ f h=>ha.mono _ _ _ (fun _ _ h=>⟨fun e=>hb.mono _ _ _ f (h.yes e),fun e=>f _ _ (h.no e)⟩) h,_,zu p q,fun {F} M H σ ρ Q rs h=>?_⟩
 refine r M H σ ρ _ rs (ha.mono _ _ _ (fun c ρ1 h M1 H1 m1 rs1=>?_) h)
 cases c with
 | true=>exact iteT (s M1 H1 σ ρ1 _ rs1 (hb.mono _ _ _ (fun c ρ2 h M2 H2 m2 rs2=>h M2 H2 (m1.trans m2) rs2) (h.yes rfl)))
 | false=>exact iteF (h.no rfl M1 H1 m1 rs1)
theorem dI (ha:PTD X a tA) (hb:PWD X (.BoolOp .Or (b::rest) pos) tB):PWD X (.BoolOp .Or (a::b::rest) pos) (dOr tA tB):=by
 obtain ⟨T,p,r⟩:=ha.run
 obtain ⟨U,q,s⟩:=hb.run
 refine ⟨fun _ _ _ f h=>ha.mono _ _ _ (fun _ _ h=>⟨fun e=>f _ _ (h.yes e),fun e=>hb.mono _ _ _ f (h.no e)⟩) h,_,zv p q,fun {F} M H σ ρ Q rs h=>?_⟩
 refine r M H σ ρ _ rs (ha.mono _ _ _ (fun c ρ1 h M1 H1 m1 rs1=>?_) h)
 cases c with
 | true=>exact iteT (h.yes rfl M1 H1 m1 rs1)
 | false=>exact iteF (s M1 H1 σ ρ1 _ rs1 (hb.mono _ _ _ (fun c ρ2 h M2 H2 m2 rs2=>h M2 H2 (m1.trans m2) rs2) (h.no rfl)))
abbrev BQ (t u:DE):DE:=fun ρ Q=>t ρ fun d ρ'=>blD d fun b=>Br b (u ρ' Q) (Q (.bl false) ρ')
abbrev dOrV (t u:DE):DE:=fun ρ Q=>t ρ fun d ρ'=>blD d fun b=>Br b (Q (.bl true) ρ') (u ρ' Q)
theorem cD {K:PySem.W.Frag} {pp:Option Addr} {M:List Addr} {H:Hp} {b:Bool}:Rep K pp M H (.bl b) (.bl b):=by simp only [Rep]
theorem bB {K:PySem.W.Frag} {pp:Option Addr} {M:List Addr} {H:Hp} {b:Int}:Rep K pp M H (.int b) (.int b):=by simp only [Rep]
theorem fH {K:PySem.W.Frag} {pp:Option Addr} {M:List Addr} {H:Hp} {b:Str}:Rep K pp M H (.str b) (.str b):=by simp only [Rep]
theorem nu {op} {t:DE} (h:PED X a t):PED X (.BoolOp op [a] pos) t:=by
 obtain ⟨T,p,r⟩:=h.run
 exact ⟨h.mono,T,zx p,r⟩
theorem kJ (ha:PED X a ta) (hb:PED X (.BoolOp .And (b::rest) pos) tb):PED X (.BoolOp .And (a::b::rest) pos) (BQ ta tb):=by
 obtain ⟨T,p,r⟩:=ha.run
 obtain ⟨U,q,s⟩:=hb.run
 refine ⟨fun _ _ _ f h=>ha.mono _ _ _ (fun _ _ h=>iV (fun _ h=>⟨fun e=>hb.mono _ _ _ f (h.yes e),fun e=>f _ _ (h.no e)⟩) h) h,_,zy p q,fun {F} M H σ ρ Q rs h=>?_⟩
 refine r M H σ ρ _ rs (ha.mono _ _ _ (fun d ρ1 h M1 H1 v m1 rs1 r1=>?_) h)
 obtain ⟨c,e,h⟩:=gR r1 h
 refine ⟨c,e,?_⟩
 cases c with
 | true=>exact iteT (s M1 H1 σ ρ1 _ rs1 (hb.mono _ _ _ (fun c ρ2 h M2 H2 v m2 rs2=>h M2 H2 v (m1.trans m2) rs2) (h.yes rfl)))
 | false=>exact iteF (h.no rfl M1 H1 _ m1 rs1 cD)
theorem BR (ha:PED X a ta) (hb:PED X (.BoolOp .Or (b::rest) pos) tb):PED X (.BoolOp .Or (a::b::rest) pos) (dOrV ta tb):=by
 obtain ⟨T,p,r⟩:=ha.run
 obtain ⟨U,q,s⟩:=hb.run
 refine ⟨fun _ _ _ f h=>ha.mono _ _ _ (fun _ _ h=>iV (fun _ h=>⟨fun e=>f _ _ (h.yes e),fun e=>hb.mono _ _ _ f (h.no e)⟩) h) h,_,Bv p q,fun {F} M H σ ρ Q rs h=>?_⟩
 refine r M H σ ρ _ rs (ha.mono _ _ _ (fun d ρ1 h M1 H1 v m1 rs1 r1=>?_) h)
 obtain ⟨c,e,h⟩:=gR r1 h
 refine ⟨c,e,?_⟩
 cases c with
 | true=>exact iteT (h.yes rfl M1 H1 _ m1 rs1 cD)
 | false=>exact iteF (s M1 H1 σ ρ1 _ rs1 (hb.mono _ _ _ (fun c ρ2 h M2 H2 v m2 rs2=>h M2 H2 v (m1.trans m2) rs2) (h.no rfl)))
abbrev kK (g g':D->D->(D->Prop)->Prop) (ta tb tc:DE):DE:=fun ρ Q=>ta ρ fun x ρ1=>tb ρ1 fun y ρ2=>g x y fun d=>blD d fun k=>Br k (tc ρ2 fun z ρ3=>g' y z fun d=>Q d ρ3) (Q (.bl false) ρ2)
theorem jB (ho:∀ x y P P',(∀ d,P d->P' d)->g x y P->g x y P') (ho':∀ x y P P',(∀ d,P d->P' d)->g' x y P->g' x y P') (ha:PED X a ta) (hb:PED X b tb) (hc:PED X c tc) :
  ∀ ρ P P',(∀ d ρ',P d ρ'->P' d ρ')->kK g g' ta tb tc ρ P->kK g g' ta tb tc ρ P' :=
 fun _ _ _ f h=>ha.mono _ _ _ (fun _ _ h=>hb.mono _ _ _ (fun _ _ h=>ho _ _ _ _ (fun _ h=>iV (fun _ h=>⟨fun e=>hc.mono _ _ _ (fun _ _ h=>ho' _ _ _ _ (fun _ h=>f _ _ h) h) (h.yes e),fun e=>f _ _ (h.no e)⟩) h) h) h) h
theorem kL {op op':CmpOp} (ho:OpD X (compareOp op) g) (ho':OpD X (compareOp op') g') (ha:PED X a ta) (hb:PED X b tb) (hc:PED X c tc)  :
  ∃ (r r':R2) (Ta Tb Tc:TE),OpR X (compareOp op) r /\ OpR X (compareOp op') r' /\ PE X a Ta /\ PE X b Tb /\ PE X c Tc /\ ∀ {F:Fx} M H σ ρ (Q:VK),RSt X.K F M H σ ρ ->
  (kK g g' ta tb tc ρ fun d ρ'=>∀ M' H' v,Mv X.K F.pp M H M' H'->RSt X.K F M' H' σ ρ'->Rep X.K F.pp M' H' d v->Q v H')->sJ r r' Ta Tb Tc σ H Q:=by
 obtain ⟨r,hr,hg⟩:=ho.run
 obtain ⟨r',hr',hg'⟩:=ho'.run
 obtain ⟨Ta,pa,ra⟩:=ha.run
 obtain ⟨Tb,pb,rb⟩:=hb.run
 obtain ⟨Tc,pc,rc⟩:=hc.run
 refine ⟨r,r',Ta,Tb,Tc,hr,hr',pa,pb,pc,fun {F} M H σ ρ Q rs h=>?_⟩
 refine ra M H σ ρ _ rs (ha.mono _ _ _ (fun x ρ1 h M1 H1 v m1 rs1 r1=>?_) h)
 refine rb M1 H1 σ ρ1 _ rs1 (hb.mono _ _ _ (fun y ρ2 h M2 H2 u m2 rs2 r2=>?_) h)
 refine hg M2 H2 x y v u _ rs2.liv (r1.mv m2) r2 (ho.mono _ _ _ _ (fun d h H' w s r=>?_) h)
 obtain ⟨k,e,h⟩:=gR r h
 refine ⟨k,e,?_⟩
 have rs3:=rs2.sameP s
 have m3:Mv X.K F.pp M H M2 H':=(m1.trans m2).trans s.mv
 cases k with
 | false=>exact iteF (h.no rfl M2 H' _ m3 rs3 cD)
 | true =>
  refine iteT (rc M2 H' σ ρ2 _ rs3 (hc.mono _ _ _ (fun z ρ3 h M4 H4 w' m4 rs4 r4=>?_) (h.yes rfl)))
  refine hg' M4 H4 y z u w' _ rs4.liv ((r2.mv s.mv).mv m4) r4 (ho'.mono _ _ _ _ (fun d h H5 w s r=>?_) h)
  exact h M4 H5 w ((m3.trans m4).trans s.mv) (rs4.sameP s) r
theorem gt {op op':CmpOp} (ho:OpD X (compareOp op) g) (ho':OpD X (compareOp op') g') (ha:PED X a ta) (hb:PED X b tb) (hc:PED X c tc)
  (hm:lastMarks [op,op'] [b,c]=false:=by with_unfolding_all rfl):PED X (.Compare a [op,op'] [b,c] pos) (kK g g' ta tb tc):=by
 obtain ⟨r,r',Ta,Tb,Tc,hr,hr',pa,pb,pc,h⟩:=kL ho ho' ha hb hc
 exact ⟨jB ho.mono ho'.mono ha hb hc,_,vz hr hr' pa pb pc hm,h⟩
theorem qk {op op':CmpOp} (ho:OpD X (compareOp op) g) (ho':OpD X (compareOp op') g') (ha:PED X a ta) (hb:PED X b tb) (hc:PED X c tc)
  (hm:lastMarks [op,op'] [b,c]=false:=by with_unfolding_all rfl):PTD X (.Compare a [op,op'] [b,c] pos) (dB (kK g g' ta tb tc)):=by
 obtain ⟨r,r',Ta,Tb,Tc,hr,hr',pa,pb,pc,h⟩:=kL ho ho' ha hb hc
 refine ⟨pq (X:=X) (a:=.Compare a [op,op'] [b,c] pos) (gt ho ho' ha hb hc hm),_,vA hr hr' pa pb pc hm,fun {F} M H σ ρ Q rs q=>?_⟩
 refine h M H σ ρ _ rs (jB ho.mono ho'.mono ha hb hc _ _ _ (fun d ρ' h M' H' v m rs' r=>?_) q)
 obtain ⟨k,e,h⟩:=gR r h
 exact ⟨k,e,h M' H' m rs'⟩
variable {tL:DA} {es:List Expr} {e:Expr}
abbrev yo:DA:=fun ρ Q=>Q [] ρ
abbrev qm (t:DE) (u:DA):DA:=fun ρ Q=>t ρ fun x ρ1=>u ρ1 fun xs ρ2=>Q (x::xs) ρ2
theorem ac:PAD X [] yo:=⟨fun _ _ _ f h=>f _ _ h,_,bL,fun {F} M H _ _ _ rs h=>h M H [] .refl rs .nil⟩
theorem aa (ha:PED X e ta) (hr:PAD X es tL) (hs:starEach (e::es) X.env=(false,eval e X.env)::starEach es X.env:=by rfl):PAD X (e::es) (qm ta tL):=by
 obtain ⟨T,p,r⟩:=ha.run
 obtain ⟨U,q,s⟩:=hr.run
 refine ⟨fun _ _ _ f h=>ha.mono _ _ _ (fun _ _ h=>hr.mono _ _ _ (fun _ _ h=>f _ _ h) h) h,_,aP p q hs,fun {F} M H σ ρ Q rs h=>?_⟩
 refine r M H σ ρ _ rs (ha.mono _ _ _ (fun x ρ1 h M1 H1 v m1 rs1 r1=>?_) h)
 exact s M1 H1 σ ρ1 _ rs1 (hr.mono _ _ _ (fun ds ρ2 h M2 H2 vs m2 rs2 r2=>h M2 H2 (v::vs) (m1.trans m2) rs2 (.cons (r1.mv m2) r2)) h)
abbrev dTup (t:DA):DE:=fun ρ Q=>t ρ fun xs ρ1=>xs.length <= sizeLine /\ Q (.tup xs) ρ1
theorem aX {x1} (h:PAD X es tL):PED X (.Tuple es x1 pos) (dTup tL):=by
 obtain ⟨T,p,r⟩:=h.run
 refine ⟨fun _ _ _ f q=>h.mono _ _ _ (fun _ _ q=>⟨q.1,f _ _ q.2⟩) q,_,wK p,fun {F} M H σ ρ Q rs q=>?_⟩
 refine r M H σ ρ _ rs (h.mono _ _ _ (fun ds ρ1 q M1 H1 vs m1 rs1 r1=>?_) q)
 refine ⟨by rw [← r1.length]; exact q.1,fun l hl=>?_⟩
 refine q.2 M1 _ _ (m1.trans (.new hl)) (rs1.sameP (.new hl)) ?_
 simp only [Rep]
 exact ⟨l,vs,rfl,ai,r1.mv (.new hl)⟩
structure PLD (X:Cx) (e:Expr) (t:DA):Prop where
 mono:∀ ρ P P',(∀ d ρ',P d ρ'->P' d ρ')->t ρ P->t ρ P'
 run:∃ T:TE,PE X e T /\ ∀ {F:Fx} M H σ ρ (Q:VK),RSt X.K F M H σ ρ ->
  (t ρ fun ds ρ'=>∀ M' H1 H' l xs,Mv X.K F.pp M H M' H1->RSt X.K F M' H1 σ ρ'->H1 l=none->H'=upd H1 l (.lst xs)->Reps X.K F.pp M' H1 ds xs->Q (.ref l) H')->T σ H Q
abbrev dLst (t:DA):DA:=fun ρ Q=>t ρ fun xs ρ1=>xs.length <= sizeLine /\ Q xs ρ1
theorem bh (h:PAD X es tL):PLD X (.List es pos) (dLst tL):=by
 obtain ⟨T,p,r⟩:=h.run
 refine ⟨fun _ _ _ f q=>h.mono _ _ _ (fun _ _ q=>⟨q.1,f _ _ q.2⟩) q,_,sM p,fun {F} M H σ ρ Q rs q=>?_⟩
 refine r M H σ ρ _ rs (h.mono _ _ _ (fun ds ρ1 q M1 H1 vs m1 rs1 r1=>?_) q)
 exact ⟨by rw [← r1.length]; exact q.1,fun l hl=>q.2 M1 H1 _ l vs m1 rs1 hl rfl r1⟩
abbrev dFrz (t:DA):DE:=fun ρ Q=>t ρ fun xs ρ1=>Q (.lst xs) ρ1
theorem aq (h:PLD X e tL):PED X e (dFrz tL):=by
 obtain ⟨T,p,r⟩:=h.run
 refine ⟨fun _ _ _ f q=>h.mono _ _ _ (fun _ _ q=>f _ _ q) q,T,p,fun {F} M H σ ρ Q rs q=>?_⟩
 refine r M H σ ρ _ rs (h.mono _ _ _ (fun ds ρ1 q M1 H1 H' l xs m1 rs1 hl e r1=>?_) q)
 subst e
 refine q M1 _ _ (m1.trans (.new hl)) (rs1.sameP (.new hl)) ?_
 simp only [Rep]
 exact ⟨l,xs,rfl,(rs1.liv.fresh hl).1,(rs1.liv.fresh hl).2,ai,r1.mv (.new hl)⟩
end
end DL
namespace DL
open PySem PySem.Spec L2
open PyProof.Rows hiding St
variable [TB]
variable [Frm]
abbrev DSp:=List D->(D->Prop)->Prop
def spD (K:PySem.W.Frag) (n:Nat) (g:DSp):Sp:=fun vs H Q _=>∃ pp M ds,Lv pp M H /\ Reps K pp M H ds vs /\ ds.length=n /\ g ds (fun d=>∀ H' v,SameP K pp H H'->Rep K pp M H' d v->Q v H')
def bR (g:DSp):Prop:=∀ ds P P',(∀ d,P d->P' d)->g ds P->g ds P'
structure CallD (X:Cx) (f:Value) (g:DSp):Prop where
 mono:bR g
 run:∃ r:List V->Hp->VK->Prop,cx X f r /\ ∀ {pp:Option Addr} M H ds vs (Q:VK),Lv pp M H->Reps X.K pp M H ds vs->g ds (fun d=>∀ H' w,SameP X.K pp H H'->Rep X.K pp M H' d w->Q w H')->r vs H Q
abbrev dCB (g:DSp) (t:DA):DE:=fun ρ Q=>t ρ fun ds ρ1=>g ds fun d=>Q d ρ1
abbrev BS (n:Nat) (g:DSp) (t:DA):DE:=fun ρ Q=>t ρ fun ds ρ1=>ds.length=n /\ g ds fun d=>Q d ρ1
section
variable {X:Cx} {F:Fx} {x:Str} {p pos:Pos} {e:Expr} {es:List Expr} {t:DA} {id T:String} {g:DSp}
theorem al (hc:CallD X (.builtin id) g) (hg:Gl X x) (hm:X.mg x=none) (hv:bootBuiltins x=some (.builtin id)) (ha:PAD X (e::es) t) (hn:x ≠ "__name__":=by decide) (hdb:(x == ("__debug__" : Str))=false:=by decide)
  (he:starEach (e::es) X.env=(false,eval e X.env)::starEach es X.env:=by rfl) (hpl:(backTo pos (starEach es X.env)).any (·.1)=false:=by rfl):PED X (.Call (.Name x p) (e::es) [] pos) (dCB g t):=by
 obtain ⟨r,hr,h⟩:=hc.run
 obtain ⟨T,pa,ra⟩:=ha.run
 refine ⟨fun _ _ _ f q=>ha.mono _ _ _ (fun _ _ q=>hc.mono _ _ _ (fun _ q=>f _ _ q) q) q,_,gh hr hg hm hv pa hn hdb he hpl,fun {F} M H σ ρ Q rs q=>?_⟩
 refine ra M H σ ρ _ rs (ha.mono _ _ _ (fun ds ρ1 q M1 H1 vs m1 rs1 r1=>?_) q)
 exact h M1 H1 ds vs _ rs1.liv r1 (hc.mono _ _ _ (fun d q H' w s r=>q M1 H' w (m1.trans s.mv) (rs1.sameP s) r) q)
theorem aK (hc:CallD X (.type T) g) (hg:Gl X x) (hm:X.mg x=none) (hv:bootBuiltins x=some (.type T)) (ha:PAD X (e::es) t) (hn:x ≠ "__name__":=by decide) (hdb:(x == ("__debug__" : Str))=false:=by decide)
  (he:starEach (e::es) X.env=(false,eval e X.env)::starEach es X.env:=by rfl) (hpl:(backTo pos (starEach es X.env)).any (·.1)=false:=by rfl):PED X (.Call (.Name x p) (e::es) [] pos) (dCB g t):=by
 obtain ⟨r,hr,h⟩:=hc.run
 obtain ⟨T,pa,ra⟩:=ha.run
 refine ⟨fun _ _ _ f q=>ha.mono _ _ _ (fun _ _ q=>hc.mono _ _ _ (fun _ q=>f _ _ q) q) q,_,ji hr hg hm hv pa hn hdb he hpl,fun {F} M H σ ρ Q rs q=>?_⟩
 refine ra M H σ ρ _ rs (ha.mono _ _ _ (fun ds ρ1 q M1 H1 vs m1 rs1 r1=>?_) q)
 exact h M1 H1 ds vs _ rs1.liv r1 (hc.mono _ _ _ (fun d q H' w s r=>q M1 H' w (m1.trans s.mv) (rs1.sameP s) r) q)
theorem ao {k n:Nat} {f:Addr} {fd:FuncData} {ps:List Str} (Fn:FnOk X.prog X.w X.K X.mg X.base CX0 k f fd ps (spD X.K n g)) (gm:bR g) (hr:Room k X.A) (hg:Gl X x) (hm:X.mg x=some (.ref f)) (hk:PySem.W.keepIn X.K (.ref f)=true) (hb:Binds X.K fd ps [])
  (ha:PAD X (e::es) t) (hdb:(x == ("__debug__" : Str))=false:=by decide) (he:starEach (e::es) X.env=(false,eval e X.env)::starEach es X.env:=by rfl) (hpl:(backTo pos (starEach es X.env)).any (·.1)=false:=by rfl) :
  PED X (.Call (.Name x p) (e::es) [] pos) (BS n g t):=by
 obtain ⟨T,pa,ra⟩:=ha.run
 refine ⟨fun _ _ _ f q=>ha.mono _ _ _ (fun _ _ q=>⟨q.1,gm _ _ _ (fun _ q=>f _ _ q) q.2⟩) q,_,oM Fn hr hg hm hk hb .nil yf pa hdb he hpl,fun {F} M H σ ρ Q rs q=>?_⟩
 refine ra M H σ ρ _ rs (ha.mono _ _ _ (fun ds ρ1 q M1 H1 vs m1 rs1 r1=>?_) q)
 rw [List.append_nil]
 exact ⟨F.pp,M1,ds,rs1.liv,r1,q.1,gm _ _ _ (fun d q H' w s r=>q M1 H' w (m1.trans s.mv) (rs1.sameP s) r) q.2⟩
end
structure EO (K:PySem.W.Frag) (F:Fx) (M:List Addr) (H:Hp) (E:DEnds) (D:Ends):Prop where
 nx:∀ M' H' σ' ρ',Mv K F.pp M H M' H'->RSt K F M' H' σ' ρ'->E.nx ρ'->D.nx σ' H'
 bk:∀ M' H' σ' ρ',Mv K F.pp M H M' H'->RSt K F M' H' σ' ρ'->E.bk ρ'->D.bk σ' H'
 ct:∀ M' H' σ' ρ',Mv K F.pp M H M' H'->RSt K F M' H' σ' ρ'->E.ct ρ'->D.ct σ' H'
 rt:∀ M' H' σ' ρ' d v,Mv K F.pp M H M' H'->RSt K F M' H' σ' ρ'->Rep K F.pp M' H' d v->E.rt d->D.rt v H'
theorem EO.mv {K:PySem.W.Frag} {F:Fx} {M M1:List Addr} {H H1:Hp} {E:DEnds} {D:Ends} (o:EO K F M H E D) (m:Mv K F.pp M H M1 H1):EO K F M1 H1 E D :=
 ⟨fun _ _ _ _ m'=>o.nx _ _ _ _ (m.trans m'),fun _ _ _ _ m'=>o.bk _ _ _ _ (m.trans m'),fun _ _ _ _ m'=>o.ct _ _ _ _ (m.trans m'),fun _ _ _ _ _ _ m'=>o.rt _ _ _ _ _ _ (m.trans m')⟩
def PSD (X:Cx) (st:Stmt) (t:DTS):Prop:=∃ T:TS,PS X st T /\ ∀ {F:Fx} M H σ ρ (E:DEnds) (D:Ends),RSt X.K F M H σ ρ->EO X.K F M H E D->t E ρ->T D σ H
def PSsD (X:Cx) (st:List Stmt) (t:DTS):Prop:=∃ T:TS,PSs X st T /\ ∀ {F:Fx} M H σ ρ (E:DEnds) (D:Ends),RSt X.K F M H σ ρ->EO X.K F M H E D->t E ρ->T D σ H
section
variable {X:Cx} {F:Fx} {st:Stmt} {rest a b:List Stmt} {t u:DTS} {e c:Expr} {te:DE} {tc:DT} {tl:DA} {pos:Pos}
abbrev BT:DTS:=fun E ρ=>E.nx ρ
abbrev dSeq (t u:DTS):DTS:=fun E ρ=>t { E with nx:=u E } ρ
abbrev dMid (t u:DTS):DTS:=fun E ρ=>∃ N:DS->Prop,t { E with nx:=N } ρ /\ ∀ ρ',N ρ'->u E ρ'
theorem aL:PSsD X [] BT:=⟨_,dG,fun {F} M H σ ρ E D rs o h=>o.nx M H σ ρ .refl rs h⟩
theorem ag (h:PSD X st t):PSsD X [st] t:=by
 obtain ⟨T,p,r⟩:=h
 exact ⟨T,dW p,r⟩
theorem af (h1:PSD X st t) (h2:PSsD X rest u):PSsD X (st::rest) (dSeq t u):=by
 obtain ⟨T,p,r⟩:=h1
 obtain ⟨U,q,s⟩:=h2
 refine ⟨_,aA p q,fun {F} M H σ ρ E D rs o h=>r M H σ ρ { E with nx:=u E } { D with nx:=U D } rs ⟨fun M' H' σ' ρ' m rs' h=>?_,o.bk,o.ct,o.rt⟩ h⟩
 exact s M' H' σ' ρ' E D rs' (o.mv m) h
theorem bF (h1:PSD X st t) (h2:PSsD X rest u):PSsD X (st::rest) (dMid t u):=by
 obtain ⟨T,p,r⟩:=h1
 obtain ⟨U,q,s⟩:=h2
 refine ⟨_,aA p q,fun {F} M H σ ρ E D rs o h=>?_⟩
 obtain ⟨N,h,hn⟩:=h
 refine r M H σ ρ { E with nx:=N } { D with nx:=U D } rs ⟨fun M' H' σ' ρ' m rs' h=>?_,o.bk,o.ct,o.rt⟩ h
 exact s M' H' σ' ρ' E D rs' (o.mv m) (hn _ h)
abbrev Ac:DTS:=fun _ _=>False
theorem lJ:PSD X st Ac:=⟨_,vx,fun _ _ _ _ _ _ _ _ h=>h⟩
abbrev dRet (te:DE):DTS:=fun E ρ=>te ρ fun d _=>E.rt d
theorem az (h:PED X e te):PSD X (.Return (some e) pos) (dRet te):=by
 obtain ⟨T,p,r⟩:=h.run
 refine ⟨_,mC p,fun {F} M H σ ρ E D rs o q=>r M H σ ρ _ rs (h.mono _ _ _ (fun d ρ' q M' H' v m rs' r'=>?_) q)⟩
 exact o.rt M' H' σ ρ' d v m rs' r' q
abbrev dIfS (c:DT) (t u:DTS):DTS:=fun E ρ=>c ρ fun b ρ'=>Br b (t E ρ') (u E ρ')
theorem cE (hc:PTD X c tc) (ha:PSsD X a t) (hb:PSsD X b u):PSD X (.If c a b pos) (dIfS tc t u):=by
 obtain ⟨T,p,r⟩:=hc.run
 obtain ⟨U,q,s⟩:=ha
 obtain ⟨U',q',s'⟩:=hb
 refine ⟨_,ld p q q',fun {F} M H σ ρ E D rs o h=>r M H σ ρ _ rs (hc.mono _ _ _ (fun k ρ1 h M1 H1 m1 rs1=>?_) h)⟩
 cases k with
 | true=>exact iteT (s M1 H1 σ ρ1 E D rs1 (o.mv m1) (h.yes rfl))
 | false=>exact iteF (s' M1 H1 σ ρ1 E D rs1 (o.mv m1) (h.no rfl))
abbrev dSet (i:Nat) (te:DE):DTS:=fun E ρ=>te ρ fun d ρ'=>E.nx (ρ'.set i (.val d))
theorem aO {i:Nat} {x:Str} {pos':Pos} (hN:X.N.Nodup) (hi:X.N[i]? = some x) (hx:Loc X.env.scope x) (h:PED X e te) (hs:swapsWith e (some (.Name x pos')) pos.line X.env=pure false:=by rfl) (hf:X.fn x=true∨X.env.scope.names.lookup x=some .local:=by first | exact .inl rfl | exact .inr rfl | assumption) :
  PSD X (.Assign [.Name x pos'] e pos) (dSet i te):=by
 obtain ⟨T,p,r⟩:=h.run
 refine ⟨_,dX hN hi hx p hs hf,fun {F} M H σ ρ E D rs o q=>r M H σ ρ _ rs (h.mono _ _ _ (fun d ρ' q M' H' v m rs' r'=>?_) q)⟩
 exact o.nx M' H' _ _ m (rs'.set r' i) q
abbrev dOwn (i:Nat) (t:DA):DTS:=fun E ρ=>t ρ fun ds ρ'=>E.nx (ρ'.set i (.own ds))
theorem RSt.newOwn {K:PySem.W.Frag} {M:List Addr} {H:Hp} {σ:St} {ρ:DS} {l:Addr} {xs:List V} {ds:List D} (r:RSt K F M H σ ρ) (hl:H l=none) (hd:Reps K F.pp M H ds xs) (i:Nat) :
  RSt K F (l::M) (upd H l (.lst xs)) (σ.set i (some (.ref l))) (ρ.set i (.own ds)):=by
 have m:Mv K F.pp M H (l::M) (upd H l (.lst xs)):=.newOwn hl
 have s:SameP K F.pp H (upd H l (.lst xs)):=.new hl
 have h0:F.H0 l=none:=by
  cases e:F.H0 l with
  | none=>rfl
  | some o=>exact absurd hl (r.same.live l (by rw [e]; intro z; cases z))
 refine ⟨by simp [r.len],fun j q o h1 h2=>?_,r.ow.step m i (fun j e=>List.getElem?_set_ne (Ne.symm e)) (fun j e=>List.getElem?_set_ne (Ne.symm e)) (fun A _ _=>⟨[l],fun s o e1 e2=>?_,fun b hb=>?_,fun a ha hp h0' _=>⟨List.mem_cons_of_mem _ ha,fun x e _=>fG hl e⟩⟩),fun a ha=>List.mem_cons_of_mem _ (r.sub a ha),r.same.trans s.toSameQ,r.old,?_,r.lk.cl m⟩
 ·by_cases e:i=j
  ·subst e
   rw [aB h1,aB h2]
   exact ⟨l,xs,rfl,List.mem_cons_self,h0,(r.liv.fresh hl).2,ai,hd.mv m⟩
  ·rw [List.getElem?_set_ne e] at h1 h2
   have q':=r.sl j q o h1 h2
   cases q with
   | nil=>trivial
   | val d=>obtain ⟨v,e,q⟩:=q'; exact ⟨v,e,q.mv m⟩
   | pin w d=>obtain ⟨v,e,ew,q⟩:=q'; exact ⟨v,e,ew,q.mv m⟩
   | own es =>
    obtain ⟨l',ys,rfl,hm',h0',hp',hl',hr'⟩:=q'
    exact ⟨l',ys,rfl,List.mem_cons_of_mem _ hm',h0',hp',fG hl hl',hr'.mv m⟩
   | obj q=>exact q'
 ·rw [aB e1,aB e2]
  exact ⟨l,rfl,rfl⟩
 ·rw [List.mem_singleton.mp hb]
  exact ⟨List.mem_cons_self,h0,(r.liv.fresh hl).2,.inr (r.liv.fresh hl).1⟩
 ·refine ⟨fun a ha=>?_,fun p e=>s.live p (r.liv.p p e)⟩
  rcases List.mem_cons.mp ha with rfl | ha
  ·rw [ai]; intro z; cases z
  ·exact s.live a (r.liv.m a ha)
theorem iG {i:Nat} {x:Str} {pos':Pos} (hN:X.N.Nodup) (hi:X.N[i]? = some x) (hx:Loc X.env.scope x) (h:PLD X e tl) (hs:swapsWith e (some (.Name x pos')) pos.line X.env=pure false:=by rfl) (hf:X.fn x=true∨X.env.scope.names.lookup x=some .local:=by first | exact .inl rfl | exact .inr rfl | assumption) :
  PSD X (.Assign [.Name x pos'] e pos) (dOwn i tl):=by
 obtain ⟨T,p,r⟩:=h.run
 refine ⟨_,dX hN hi hx p hs hf,fun {F} M H σ ρ E D rs o q=>r M H σ ρ _ rs (h.mono _ _ _ (fun ds ρ' q M' H1 H' l xs m rs' hl e r'=>?_) q)⟩
 subst e
 exact o.nx _ _ _ _ (m.trans (.newOwn hl)) (rs'.newOwn hl r' i) q
abbrev DG:=D->DS->(DS->Prop)->Prop
structure PGD (X:Cx) (tg:Expr) (g:DG):Prop where
 mono:∀ d ρ P P',(∀ ρ',P ρ'->P' ρ')->g d ρ P->g d ρ P'
 run:∃ G:TG,PG X tg G /\ ∀ {F:Fx} M H σ ρ d v (Q:St->Hp->Prop),RSt X.K F M H σ ρ->Rep X.K F.pp M H d v->(g d ρ fun ρ'=>∀ M' H' σ',Mv X.K F.pp M H M' H'->RSt X.K F M' H' σ' ρ'->Q σ' H')->G v σ H Q
abbrev cF (i:Nat):DG:=fun d ρ Q=>Q (ρ.set i (.val d))
theorem aj {i:Nat} {x:Str} (hN:X.N.Nodup) (hi:X.N[i]? = some x) (hx:Loc X.env.scope x) (hf:X.fn x=true∨X.env.scope.names.lookup x=some .local:=by first | exact .inl rfl | exact .inr rfl | assumption):PGD X (.Name x pos) (cF i) :=
 ⟨fun _ _ _ _ f h=>f _ h,_,fB hN hi hx hf,fun {F} M H σ ρ d v Q rs r h=>h M H _ .refl (rs.set r i)⟩
abbrev DGs:=List D->DS->(DS->Prop)->Prop
structure PGsD (X:Cx) (tg:List Expr) (g:DGs):Prop where
 mono:∀ d ρ P P',(∀ ρ',P ρ'->P' ρ')->g d ρ P->g d ρ P'
 run:∃ G:TGs,PGs X tg G /\ ∀ {F:Fx} M H σ ρ ds vs (Q:St->Hp->Prop),RSt X.K F M H σ ρ->Reps X.K F.pp M H ds vs->(g ds ρ fun ρ'=>∀ M' H' σ',Mv X.K F.pp M H M' H'->RSt X.K F M' H' σ' ρ'->Q σ' H')->G vs σ H Q
def tu:DGs:=fun ds ρ Q=>match ds with
 | []=>Q ρ
 | _=>False
def gu (g:DG) (u:DGs):DGs:=fun ds ρ Q=>match ds with
 | d::r=>g d ρ fun ρ'=>u r ρ' Q
 | []=>False
theorem bi:PGsD X [] tu:=by
 refine ⟨fun ds _ _ _ f h=>?_,_,oK,fun {F} M H σ ρ ds vs Q rs r h=>?_⟩
 ·cases ds with
  | nil=>exact f _ h
  | cons=>exact h
 ·cases ds with
  | nil=>simp only [Reps] at r; exact ⟨r,h M H σ .refl rs⟩
  | cons=>exact h.elim
theorem ar {e:Expr} {es:List Expr} {g:DG} {u:DGs} (h1:PGD X e g) (h2:PGsD X es u)
  (hs:(assignEach (e::es) X.env).map (·.2)=assign e X.env::(assignEach es X.env).map (·.2):=by rfl):PGsD X (e::es) (gu g u):=by
 obtain ⟨G,p,r⟩:=h1.run
 obtain ⟨G',p',r'⟩:=h2.run
 refine ⟨fun ds _ _ _ f h=>?_,_,ff p p' hs,fun {F} M H σ ρ ds vs Q rs rd h=>?_⟩
 ·cases ds with
  | nil=>exact h
  | cons=>exact h1.mono _ _ _ _ (fun _ h=>h2.mono _ _ _ _ f h) h
 ·cases ds with
  | nil=>exact h.elim
  | cons d ds =>
   simp only [Reps] at rd
   obtain ⟨v,vr,rfl,rd,rr⟩:=rd
   refine ⟨v,vr,rfl,r M H σ ρ d v _ rs rd (h1.mono _ _ _ _ (fun ρ' h M1 H1 σ1 m1 rs1=>?_) h)⟩
   exact r' M1 H1 σ1 ρ' ds vr _ rs1 (rr.mv m1) (h2.mono _ _ _ _ (fun ρ2 h M2 H2 σ2 m2 rs2=>h M2 H2 σ2 (m1.trans m2) rs2) h)
def tD (n:Nat) (g:DGs):DG:=fun d ρ Q=>match d with
 | .tup ds=>ds.length=n /\ g ds ρ Q
 | _=>False
theorem bX {es:List Expr} {k:Nat} {g:DGs} {n:Nat} (hc:X.calm=true) (h:PGsD X es g)
  (hn:(assignEach es X.env).length=n:=by rfl) (hst:(assignEach es X.env).findIdx? (·.1)=none:=by rfl):PGD X (.Tuple es k pos) (tD n g):=by
 obtain ⟨G,p,r⟩:=h.run
 refine ⟨fun d _ _ _ f q=>?_,_,sY hc p hn hst,fun {F} M H σ ρ d v Q rs rd q=>?_⟩
 ·cases d <;> first | exact q.elim | exact ⟨q.1,h.mono _ _ _ _ f q.2⟩
 ·cases d with
  | tup ds =>
   simp only [Rep] at rd
   obtain ⟨a,xs,rfl,ha,rd⟩:=rd
   exact ⟨a,xs,rfl,ha,by rw [← rd.length]; exact q.1,r M H σ ρ ds xs _ rs rd q.2⟩
  | _=>exact q.elim
abbrev dAsg (te:DE) (g:DG):DTS:=fun E ρ=>te ρ fun d ρ'=>g d ρ' E.nx
theorem Ad {tg:Expr} {g:DG} (he:PED X e te) (hg:PGD X tg g) (hs:swapsWithSole [tg] e pos.line X.env=pure false:=by rfl) (hw:swappedStores [tg] e X.env=pure none:=by rfl) (hh:PS X (.Assign [tg] e pos) (tAsg (Classical.choose he.run) (Classical.choose hg.run)):=by exact kF (Classical.choose_spec he.run).1 (Classical.choose_spec hg.run).1):PSD X (.Assign [tg] e pos) (dAsg te g):=by
 obtain ⟨_,r⟩:=Classical.choose_spec he.run
 obtain ⟨_,r'⟩:=Classical.choose_spec hg.run
 refine ⟨_,hh,fun {F} M H σ ρ E D rs o q=>r M H σ ρ _ rs (he.mono _ _ _ (fun d ρ' q M' H' v m rs' rd=>?_) q)⟩
 exact r' M' H' σ ρ' d v _ rs' rd (hg.mono _ _ _ _ (fun ρ2 q M2 H2 σ2 m2 rs2=>o.nx M2 H2 σ2 ρ2 (m.trans m2) rs2 q) q)
def lK (g:DG) (b:DTS):List D->DEnds->DS->Prop
 | [],E,ρ=>E.nx ρ
 | d::r,E,ρ=>g d ρ fun ρ1=>b { E with nx:=fun ρ'=>lK g b r E ρ',ct:=fun ρ'=>lK g b r E ρ',bk:=E.nx } ρ1
structure ItOkV (K:PySem.W.Frag) (pp:Option Addr) (J:It) (M:List Addr) (H:Hp) (vs:List V):Prop where
 yld:∀ M2 H2,Mv K pp M H M2 H2->∀ i x H3,i < vs.length->J.yld i H2 x H3->H3=H2 /\ vs[i]? = some x
 go:∀ M2 H2,Mv K pp M H M2 H2->∀ i,i < vs.length->J.go i H2
 stop:∀ M2 H2,Mv K pp M H M2 H2->∀ i,vs.length <= i->J.stop i H2
structure ItOk (K:PySem.W.Frag) (pp:Option Addr) (J:It) (M:List Addr) (H:Hp) (ds:List D):Prop where
 yld:∀ M2 H2,Mv K pp M H M2 H2->∀ i d x H3,ds[i]? = some d->J.yld i H2 x H3->SameP K pp H2 H3 /\ Rep K pp M2 H3 d x
 go:∀ M2 H2,Mv K pp M H M2 H2->∀ i,i < ds.length->J.go i H2
 stop:∀ M2 H2,Mv K pp M H M2 H2->∀ i,ds.length <= i->J.stop i H2
theorem ItOkV.of {K:PySem.W.Frag} {pp:Option Addr} {J:It} {M:List Addr} {H:Hp} {vs:List V} {ds:List D} (o:ItOkV K pp J M H vs) (rd:Reps K pp M H ds vs):ItOk K pp J M H ds where
 yld:=fun M2 H2 m i d x H3 e y=>by
  obtain ⟨v,e1,r⟩:=rd.get' e
  obtain ⟨rfl,e2⟩:=o.yld M2 H2 m i x H3 (List.getElem?_eq_some_iff.mp e1).1 y
  rw [e1] at e2
  cases e2
  exact ⟨.refl,r.mv m⟩
 go:=fun M2 H2 m i h=>o.go M2 H2 m i (by rw [← rd.length]; exact h)
 stop:=fun M2 H2 m i h=>o.stop M2 H2 m i (by rw [← rd.length]; exact h)
structure PID (X:Cx) (tg iter:Expr) (t:DA):Prop where
 mono:∀ ρ P P',(∀ d ρ',P d ρ'->P' d ρ')->t ρ P->t ρ P'
 run:∃ wi:TI,PI X tg iter wi /\ ∀ {F:Fx} M H σ ρ (R:It->Hp->Prop),RSt X.K F M H σ ρ ->
  (t ρ fun ds ρ'=>∀ M' H' J,Mv X.K F.pp M H M' H'->RSt X.K F M' H' σ ρ'->ItOk X.K F.pp J M' H' ds->R J H')->wi σ H R
abbrev dFor (t:DA) (g:DG) (b:DTS):DTS:=fun E ρ=>t ρ fun ds ρ'=>lK g b ds E ρ'
theorem cm {tg iter:Expr} {body:List Stmt} {t:DA} {g:DG} {tb:DTS} {pos:Pos} (hp:PassesOwn (model X.prog X.w) X.A X.env X.xe) (hc:X.calm=true) (hi:PID X tg iter t) (hg:PGD X tg g) (hb:PSsD X body tb)
  (hs:∀ x,foldedSetIterable iter X.env x=pure x:=by intro _; rfl):PSD X (.For tg iter body [] pos) (dFor t g tb):=by
 obtain ⟨wi,pi,ri⟩:=hi.run
 obtain ⟨G,pg,rg⟩:=hg.run
 obtain ⟨T,p,r⟩:=hb
 refine ⟨_,wI hp hc pi pg p hs,fun {F} M H σ ρ E D rs o h=>ri M H σ ρ _ rs (hi.mono _ _ _ (fun ds ρ1 h M1 H1 J m1 rs1 ok=>?_) h)⟩
 refine ⟨fun i m σ2 H2=>∃ M2 ρ2,m=ds.length - i /\ i <= ds.length /\ Mv X.K F.pp M1 H1 M2 H2 /\ RSt X.K F M2 H2 σ2 ρ2 /\ lK g tb (ds.drop i) E ρ2,⟨ds.length,M1,ρ1,rfl,Nat.zero_le _,.refl,rs1,h⟩,?_⟩
 rintro i m σ2 H2 ⟨M2,ρ2,rfl,hi2,m2,rs2,h2⟩
 by_cases hlt:i < ds.length
 ·have e1:ds[i]? = some ds[i]:=by simp [hlt]
  rw [List.drop_eq_getElem_cons hlt] at h2
  refine .inr ⟨ok.go M2 H2 m2 i hlt,fun σ' H'=>∃ M' ρ',Mv X.K F.pp M1 H1 M' H' /\ RSt X.K F M' H' σ' ρ' /\ lK g tb (ds.drop (i + 1)) E ρ',fun σ' H' ⟨M',ρ',mm,rs',h'⟩=>⟨ds.length - (i + 1),by omega,M',ρ',rfl,hlt,mm,rs',h'⟩,fun x H3 y=>?_⟩
  obtain ⟨sp,rx⟩:=ok.yld M2 H2 m2 i _ x H3 e1 y
  have m23:=m2.trans (sp.mv (M:=M2))
  refine rg M2 H3 σ2 ρ2 _ _ _ (rs2.sameP sp) rx (hg.mono _ _ _ _ (fun ρ3 h3 M3 H3 σ3 m3 rs3=>?_) h2)
  refine r M3 H3 σ3 ρ3 _ _ rs3 ⟨fun M4 H4 σ4 ρ4 m4 rs4 h4=>⟨M4,ρ4,(m23.trans m3).trans m4,rs4,h4⟩,fun M4 H4 σ4 ρ4 m4 rs4 h4=>?_,fun M4 H4 σ4 ρ4 m4 rs4 h4=>⟨M4,ρ4,(m23.trans m3).trans m4,rs4,h4⟩,fun M4 H4 σ4 ρ4 d' v m4 rs4 r4 h4=>?_⟩ h3
  ·exact o.nx M4 H4 σ4 ρ4 (((m1.trans m23).trans m3).trans m4) rs4 h4
  ·exact o.rt M4 H4 σ4 ρ4 d' v (((m1.trans m23).trans m3).trans m4) rs4 r4 h4
 ·have e:i=ds.length:=by omega
  refine .inl ⟨ok.stop M2 H2 m2 i (by omega),?_⟩
  have hd:ds.drop i=[]:=by rw [List.drop_eq_nil_iff]; omega
  rw [hd] at h2
  exact o.nx M2 H2 σ2 ρ2 (m1.trans m2) rs2 h2
abbrev BU (te:DE):DA:=fun ρ Q=>te ρ fun d ρ'=>match d with
 | .lst ds=>Q ds ρ'
 | _=>False
abbrev BV (te:DE):DA:=fun ρ Q=>te ρ fun d ρ'=>match d with
 | .tup ds=>Q ds ρ'
 | _=>False
theorem aS {tg l:Expr} (hl:PED X l te):PID X tg l (BU te):=by
 obtain ⟨T,p,r⟩:=hl.run
 refine ⟨fun _ _ _ f h=>hl.mono _ _ _ (fun d _ h=>?_) h,_,sF p,fun {F} M H σ ρ R rs h=>r M H σ ρ _ rs (hl.mono _ _ _ (fun d ρ' h M' H' v m rs' rd=>?_) h)⟩
 ·cases d <;> first | exact h.elim | exact f _ _ h
 ·cases d with
  | lst ds =>
   simp only [Rep] at rd
   obtain ⟨a,xs,rfl,hm,hp,ha,rd⟩:=rd
   refine ⟨a,rfl,⟨xs,SqL.of ha⟩,h M' H' _ m rs' (ItOkV.of (vs:=xs) ⟨fun M2 H2 m2 i x H3 _ y=>?_,fun M2 H2 m2 i hi=>?_,fun M2 H2 m2 i hi=>?_⟩ rd)⟩
   ·exact ⟨y.1,y.2 xs (SqL.of (m2.lst a xs ha hm hp).1)⟩
   ·exact ⟨xs,xs[i],SqL.of (m2.lst a xs ha hm hp).1,by simp [hi]⟩
   ·exact ⟨xs,SqL.of (m2.lst a xs ha hm hp).1,hi⟩
  | _=>exact h.elim
theorem nv {tg l:Expr} (hl:PED X l te):PID X tg l (BV te):=by
 obtain ⟨T,p,r⟩:=hl.run
 refine ⟨fun _ _ _ f h=>hl.mono _ _ _ (fun d _ h=>?_) h,_,zB p,fun {F} M H σ ρ R rs h=>r M H σ ρ _ rs (hl.mono _ _ _ (fun d ρ' h M' H' v m rs' rd=>?_) h)⟩
 ·cases d <;> first | exact h.elim | exact f _ _ h
 ·cases d with
  | tup ds =>
   simp only [Rep] at rd
   obtain ⟨a,xs,rfl,ha,rd⟩:=rd
   refine ⟨a,rfl,⟨xs,SqT.of ha⟩,h M' H' _ m rs' (ItOkV.of (vs:=xs) ⟨fun M2 H2 m2 i x H3 _ y=>?_,fun M2 H2 m2 i hi=>?_,fun M2 H2 m2 i hi=>?_⟩ rd)⟩
   ·exact ⟨y.1,y.2 xs (SqT.of (m2.tup a xs ha))⟩
   ·exact ⟨xs,xs[i],SqT.of (m2.tup a xs ha),by simp [hi]⟩
   ·exact ⟨xs,SqT.of (m2.tup a xs ha),hi⟩
  | _=>exact h.elim
def ee (lo:Int):Nat->List D
 | 0=>[]
 | n + 1=>.int lo::ee (lo + 1) n
theorem gS {K:PySem.W.Frag} {pp:Option Addr} {M:List Addr} {H:Hp}:∀ (n:Nat) (lo:Int),Reps K pp M H (ee lo n) ((List.range n).map fun (i:Nat)=>V.int (lo + i))
 | 0,_=>by simp [ee,Reps]
 | n + 1,lo=>by
  rw [List.range_succ_eq_map,List.map_cons,ee]
  refine .cons (by simp [Rep]) ?_
  have:=gS (K:=K) (pp:=pp) (M:=M) (H:=H) n (lo + 1)
  rw [List.map_map]
  refine (congrArg (Reps K pp M H (ee (lo + 1) n)) (List.map_congr_left fun i _=>?_)).mp this
  simp only [Function.comp]
  congr 1
  omega
abbrev diR1 (t:DA):DA:=fun ρ Q=>t ρ fun ds ρ'=>match ds with
 | [.int j]=>(-(2 ^ 62) <= j /\ j < 2 ^ 62) /\ Q (ee 0 j.toNat) ρ'
 | _=>False
abbrev diR2 (t:DA):DA:=fun ρ Q=>t ρ fun ds ρ'=>match ds with
 | [.int i,.int j]=>(-(2 ^ 62) <= i /\ i < 2 ^ 62 /\ -(2 ^ 62) <= j /\ j < 2 ^ 62) /\ Q (ee i (j - i).toNat) ρ'
 | _=>False
theorem itOk_range {K:PySem.W.Frag} {pp:Option Addr} {M:List Addr} {H:Hp} {lo:Int} {n:Nat}:ItOkV K pp (Itr lo n) M H ((List.range n).map fun (i:Nat)=>V.int (lo + i)) where
 yld:=fun M2 H2 _ i x H3 hi y=>by
  obtain ⟨e1,e2⟩:=y
  refine ⟨e1,?_⟩
  have hi':i < n:=by simpa using hi
  simp [hi',e2]
 go:=fun _ _ _ i hi=>by show i < n; simpa using hi
 stop:=fun _ _ _ i hi=>by show n <= i; simpa using hi
variable {es:List Expr} {ea eb:Expr}
theorem dn {tg:Expr} {p:Pos} (hg:Gl X "range") (hm:X.mg "range" = none) (ha:PAD X [ea] tl) (hs:starEach [ea] X.env=[(false,eval ea X.env)]:=by rfl):PID X tg (.Call (.Name "range" p) [ea] [] pos) (diR1 tl):=by
 obtain ⟨T,pa,r⟩:=ha.run
 refine ⟨fun _ _ _ f h=>ha.mono _ _ _ (fun d _ h=>?_) h,_,sG hg hm pa hs,fun {F} M H σ ρ R rs h=>r M H σ ρ _ rs (ha.mono _ _ _ (fun d ρ' h M' H' v m rs' rd=>?_) h)⟩
 ·split at h
  ·exact ⟨h.1,f _ _ h.2⟩
  ·exact h.elim
 ·split at h
  ·rename_i j
   simp only [Reps,Rep] at rd
   obtain ⟨x,r,rfl,rfl,rfl⟩:=rd
   exact ⟨j,rfl,h.1.1,h.1.2,h.2 M' H' _ m rs' (itOk_range.of (gS _ _))⟩
  ·exact h.elim
theorem tE {tg:Expr} {p:Pos} (hg:Gl X "range") (hm:X.mg "range" = none) (ha:PAD X [ea,eb] tl) (hs:starEach [ea,eb] X.env=[(false,eval ea X.env),(false,eval eb X.env)]:=by rfl) (hs2:starEach [eb] X.env=[(false,eval eb X.env)]:=by rfl):PID X tg (.Call (.Name "range" p) [ea,eb] [] pos) (diR2 tl):=by
 obtain ⟨T,pa,r⟩:=ha.run
 refine ⟨fun _ _ _ f h=>ha.mono _ _ _ (fun d _ h=>?_) h,_,sH hg hm pa hs hs2,fun {F} M H σ ρ R rs h=>r M H σ ρ _ rs (ha.mono _ _ _ (fun d ρ' h M' H' v m rs' rd=>?_) h)⟩
 ·split at h
  ·exact ⟨h.1,f _ _ h.2⟩
  ·exact h.elim
 ·split at h
  ·rename_i i j
   simp only [Reps,Rep] at rd
   obtain ⟨x,r,rfl,rfl,y,r',rfl,rfl,rfl⟩:=rd
   exact ⟨i,j,rfl,h.1,h.2 M' H' _ m rs' (itOk_range.of (gS _ _))⟩
  ·exact h.elim
end
end DL
namespace DL
open PySem PySem.Spec L2
open PyProof.Rows hiding St
variable [TB]
variable [Frm]
def ny (n:Nat) (ds:List D):DS:=ds.map .val++List.replicate (n - ds.length) .nil
theorem kM {K:PySem.W.Frag} {F:Fx} {M:List Addr} {H:Hp}:∀ {ds:List D} {vs:List V},Reps K F.pp M H ds vs->∀ (i:Nat) s o,(ds.map Sl.val)[i]? = some s->(vs.map some)[i]? = some o->RSl K F M H s o
 | [],_,_,_,_,_,h1,_=>by simp at h1
 | d::ds,_,h,0,s,o,h1,h2=>by
  simp only [Reps] at h
  obtain ⟨x,r,rfl,h,_⟩:=h
  simp at h1 h2
  subst h1 h2
  exact ⟨x,rfl,h⟩
 | d::ds,_,h,i + 1,s,o,h1,h2=>by
  simp only [Reps] at h
  obtain ⟨x,r,rfl,_,h⟩:=h
  exact kM h i s o (by simpa using h1) (by simpa using h2)
theorem pw {ds:List D} {n i:Nat} {es:List D} (h:(ds.map Sl.val++List.replicate n Sl.nil)[i]? = some (.own es)):False:=by
 have:=List.mem_of_getElem? h
 rcases List.mem_append.mp this with h | h
 ·obtain ⟨d,_,e⟩:=List.mem_map.mp h; cases e
 ·have:=List.eq_of_mem_replicate h; cases this
theorem pz {ds:List D} {n i:Nat} {q:O} (h:(ds.map Sl.val++List.replicate n Sl.nil)[i]? = some (.obj q)):False:=by
 have:=List.mem_of_getElem? h
 rcases List.mem_append.mp this with h | h
 ·obtain ⟨d,_,e⟩:=List.mem_map.mp h; cases e
 ·have:=List.eq_of_mem_replicate h; cases this
theorem nA {K:PySem.W.Frag} {pp:Option Addr} {M:List Addr} {H:Hp} {ds:List D} {vs:List V} {N:List Str} (lv:Lv pp M H) (r:Reps K pp M H ds vs) (lk:Frm.L K ⟨pp,M,H⟩ M H):RSt K ⟨pp,M,H⟩ M H (L2.start N vs) (ny N.length ds):=by
 have hl:=r.length
 refine ⟨by simp [L2.start,ny,hl],fun i s o h1 h2=>?_,OwF.none (fun i s e=>⟨fun ds z=>(pw (z ▸ e)).elim,fun q z=>(pz (z ▸ e)).elim⟩),fun a h=>h,.refl,lv.m,lv.toLv0,⟨lk,lv.t⟩⟩
 unfold ny at h1
 unfold L2.start at h2
 by_cases hi:i < ds.length
 ·rw [List.getElem?_append_left (by simpa using hi)] at h1
  rw [List.getElem?_append_left (by simpa [← hl] using hi)] at h2
  exact kM (F:=⟨pp,M,H⟩) r i s o h1 h2
 ·rw [List.getElem?_append_right (by simp; omega)] at h1
  have:=List.eq_of_mem_replicate (List.mem_of_getElem? h1)
  subst this
  trivial
omit [Frm] in
theorem fnD {P:Program} {w:World} {K:PySem.W.Frag} {mg:Str->Option Value} {base:Heap} {x qual:Str} {st:Stmt} {f:Addr} {fd:FuncData} {N ps:List Str} {k:Nat} {g:DSp} {t:DTS} (Fn:Fun K x qual st f fd) (S:FnScope N ps (ak st))
  (hb:∀ (cdv:Value) (A:Around) (outer:List Env) (s:Shared) (H:Hp) (E:XK),Room k (A.deeper (envOfC qual (ak st) s.heap.objs.size f cdv)) -> @PSsD _ Frm.free (cxOf CX0 P w K mg base N qual (ak st) f cdv A outer s H E).nox (cy st) t)
  (hg:∀ ds Q,ds.length=ps.length->g ds Q->t { nx:=fun _=>Q .non,rt:=Q } (ny N.length ds)):FnOk P w K mg base CX0 (k + 1) f fd ps (spD K ps.length g):=by
 refine Fn.ok S (fun vs H Q E h=>?_) (fun cdv A outer s H vs Q E hr h=>?_)
 ·obtain ⟨pp,M,ds,_,r,e,_⟩:=h
  rw [← r.length,e]
 ·obtain ⟨pp,M,ds,lv,r,e,h⟩:=h
  obtain ⟨T,p,run⟩:=hb cdv A outer s H E hr
  refine ⟨T,p,run M H _ _ _ _ (nA lv r trivial) ⟨fun M' H' σ' ρ' m rs q=>?_,fun _ _ _ _ _ _ q=>q,fun _ _ _ _ _ _ q=>q,fun M' H' σ' ρ' d v m rs rd q=>?_⟩ (hg ds _ e h)⟩
  ·exact q H' .non rs.sameT (by simp only [Rep])
  ·exact q H' v rs.sameT (rd.mv (.less rs.sub))
section
variable {X:Cx} {pp:Option Addr}
def g2I (C:Int->Int->Prop) (f:Int->Int->D):D->D->(D->Prop)->Prop
 | .int i,.int j,P=>C i j /\ P (f i j)
 | _,_,_=>False
def g2I0 (f:Int->Int->D):D->D->(D->Prop)->Prop
 | .int i,.int j,P=>P (f i j)
 | _,_,_=>False
theorem OpD.ofI {f:Value->Value->Sem Value} {C:Int->Int->Prop} {h:Int->Int->V} {h':Int->Int->D} (o:OpR X f (rI C h)) (e:∀ pp M H i j,Rep X.K pp M H (h' i j) (h i j)):OpD X f (g2I C h'):=by
 refine ⟨fun x y P P' f h=>?_,_,o,fun {pp} M H x y v u Q _ rx ry h=>?_⟩
 ·cases x <;> cases y <;> first | exact h.elim | exact ⟨h.1,f _ h.2⟩
 ·cases x <;> first | exact h.elim | skip
  cases y <;> first | exact h.elim | skip
  simp only [Rep] at rx ry
  exact ⟨_,_,rx,ry,h.1,h.2 H _ .refl (e _ M H _ _)⟩
theorem OpD.ofI0 {f:Value->Value->Sem Value} {h:Int->Int->V} {h':Int->Int->D} (o:OpR X f (rI0 h)) (e:∀ pp M H i j,Rep X.K pp M H (h' i j) (h i j)):OpD X f (g2I0 h'):=by
 refine ⟨fun x y P P' f h=>?_,_,o,fun {pp} M H x y v u Q _ rx ry h=>?_⟩
 ·cases x <;> cases y <;> first | exact h.elim | exact f _ h
 ·cases x <;> first | exact h.elim | skip
  cases y <;> first | exact h.elim | skip
  simp only [Rep] at rx ry
  exact ⟨_,_,rx,ry,h H _ .refl (e _ M H _ _)⟩
theorem fv:OpD X (binaryOp .Add) (g2I0 fun i j=>.int (i + j)):=.ofI0 jf fun _ _ _ _ _=>bB
theorem wQ:OpD X (binaryOp .Sub) (g2I0 fun i j=>.int (i - j)):=.ofI0 zC fun _ _ _ _ _=>bB
theorem wR:OpD X (binaryOp .Mult) (g2I CMulB fun i j=>.int (i * j)):=.ofI gO fun _ _ _ _ _=>bB
theorem Ae:OpD X (binaryOp .Mod) (g2I (fun _ j=>0 < j) fun i j=>.int (i % j)):=.ofI iB fun _ _ _ _ _=>bB
theorem yp:OpD X (binaryOp .FloorDiv) (g2I zV fun i j=>.int (i / j)):=.ofI lE fun _ _ _ _ _=>bB
theorem nC:OpD X (binaryOp .Pow) (g2I CPow fun i j=>.int (i ^ j.toNat)):=.ofI wJ fun _ _ _ _ _=>bB
theorem nD:OpD X (compareOp .LtE) (g2I0 fun i j=>.bl (decide (i <= j))):=.ofI0 BE fun _ _ _ _ _=>cD
theorem pA:OpD X (compareOp .Gt) (g2I0 fun i j=>.bl (decide (j < i))):=.ofI0 zF fun _ _ _ _ _=>cD
def yq:D->Bool
 | .non=>true
 | _=>false
theorem tF {K:PySem.W.Frag} {M:List Addr} {H:Hp} {d:D} {v:V} (r:Rep K pp M H d v):decide (v = .non)=yq d:=by
 cases d <;> simp only [Rep] at r
 case non=>subst r; rfl
 case bl=>subst r; rfl
 case int=>subst r; rfl
 case str=>subst r; rfl
 case ty=>subst r; rfl
 case tup=>obtain ⟨a,xs,rfl,_⟩:=r; rfl
 case lst=>obtain ⟨a,xs,rfl,_⟩:=r; rfl
 case dK=>obtain ⟨a,xs,rfl,_⟩:=r; rfl
 case dT=>obtain ⟨a,xs,rfl,_⟩:=r; rfl
 case pen=>obtain ⟨a,rfl,_⟩:=r; rfl
 case exc=>obtain ⟨a,rfl,_⟩:=r; rfl
 case exa=>obtain ⟨a,dx,rfl,_⟩:=r; rfl
 case cls=>subst r; rfl
def gIsN (n:Bool):D->D->(D->Prop)->Prop
 | x,.non,P=>P (.bl (if n then !yq x else yq x))
 | _,_,_=>False
theorem Af:OpD X (compareOp .Is) (gIsN false):=by
 refine ⟨fun x y P P' f h=>?_,_,zG,fun {pp} M H x y v u Q _ rx ry h=>?_⟩
 ·cases y <;> first | exact h.elim | exact f _ h
 ·cases y <;> first | exact h.elim | skip
  simp only [Rep] at ry
  exact ⟨ry,h H _ .refl (by rw [tF rx]; exact cD)⟩
structure UnD (X:Cx) (f:Value->Sem Value) (g:D->(D->Prop)->Prop):Prop where
 mono:∀ x P P',(∀ d,P d->P' d)->g x P->g x P'
 run:∃ r,UnR X f r /\ ∀ {pp:Option Addr} M H x v (Q:VK),Lv pp M H->Rep X.K pp M H x v->g x (fun d=>∀ H' w,SameP X.K pp H H'->Rep X.K pp M H' d w->Q w H')->r v H Q
abbrev dUn (g:D->(D->Prop)->Prop) (ta:DE):DE:=fun ρ Q=>ta ρ fun x ρ1=>g x fun d=>Q d ρ1
theorem rH {op:UnaryOp} {g:D->(D->Prop)->Prop} {a:Expr} {ta:DE} {pos:Pos} (ho:UnD X (unaryOp op) g) (ha:PED X a ta):PED X (.UnaryOp op a pos) (dUn g ta):=by
 obtain ⟨r,hr,hg⟩:=ho.run
 obtain ⟨Ta,pa,ra⟩:=ha.run
 refine ⟨fun _ _ _ f h=>ha.mono _ _ _ (fun _ _ h=>ho.mono _ _ _ (fun _ h=>f _ _ h) h) h,_,BB hr pa,fun {F} M H σ ρ Q rs h=>ra M H σ ρ _ rs (ha.mono _ _ _ (fun x ρ1 h M1 H1 v m1 rs1 r1=>?_) h)⟩
 exact hg M1 H1 x v _ rs1.liv r1 (ho.mono _ _ _ (fun d h H' w s r=>h M1 H' w (m1.trans s.mv) (rs1.sameP s) r) h)
def gNeg:D->(D->Prop)->Prop
 | .int i,P=>P (.int (-i))
 | _,_=>False
theorem kN:UnD X (unaryOp .USub) gNeg:=by
 refine ⟨fun x P P' f h=>?_,_,zD,fun {pp} M H x v Q _ rx h=>?_⟩
 ·cases x <;> first | exact h.elim | exact f _ h
 ·cases x <;> first | exact h.elim | skip
  simp only [Rep] at rx
  exact ⟨_,rx,h H _ .refl bB⟩
def Ag:D->Bool
 | .int _=>true
 | .bl _=>true
 | _=>false
def yr:D->Bool
 | .bl _=>true
 | _=>false
def Ah:D->Bool
 | .str _=>true
 | _=>false
def qo:D->Bool
 | .tup _=>true
 | _=>false
def qp:D->Bool
 | .lst _=>true
 | _=>false
def yt:D->Bool
 | .pen=>false
 | .exc _=>false
 | .exa _ _=>false
 | .cls _=>false
 | .ty _=>false
 | .dT _ _=>false
 | _=>true
theorem Ai {K:PySem.W.Frag} {M:List Addr} {H:Hp} {d:D} {v:V} (r:Rep K pp M H d v) (f:yt d=true):knV H v:=by
 cases d <;> first | cases f | skip
 all_goals simp only [Rep] at r
 case non=>subst r; trivial
 case bl=>subst r; trivial
 case int=>subst r; trivial
 case str=>subst r; trivial
 case tup=>obtain ⟨a,xs,rfl,h,_⟩:=r; exact .inr (.inr (.inl ⟨xs,h⟩))
 case lst=>obtain ⟨a,xs,rfl,_,_,h,_⟩:=r; exact .inl ⟨xs,h⟩
 case dK=>obtain ⟨a,xs,rfl,_,_,h,_⟩:=r; exact .inr (.inr (.inr (.inl ⟨xs,h⟩)))
def gIs (T:String) (f:D->Bool):DSp:=fun ds P=>match ds with
 | [d,.ty T']=>T'=T /\ yt d=true /\ P (.bl (f d))
 | _=>False
theorem CallD.isOf {T:String} {f:Hp->V->Bool} {fD:D->Bool} (hc:cx X (.builtin "isinstance") (fun xs H Q=>∃ x,xs=[x,.ty T] /\ knV H x /\ Q (.bl (f H x)) H))
  (e:∀ pp M H d v,Rep X.K pp M H d v->yt d=true->f H v=fD d):CallD X (.builtin "isinstance") (gIs T fD):=by
 refine ⟨fun ds P P' f h=>?_,_,hc,fun {pp} M H ds vs Q _ r h=>?_⟩
 ·unfold gIs at h ⊢; split at h
  ·exact ⟨h.1,h.2.1,f _ h.2.2⟩
  ·exact h.elim
 ·unfold gIs at h; split at h
  case h_2=>exact h.elim
  ·rename_i d T'
   obtain ⟨e1,e2,h⟩:=h
   simp only [Reps] at r
   obtain ⟨x,r,rfl,rx,y,r',rfl,ry,rfl⟩:=r
   simp only [Rep] at ry
   subst ry e1
   exact ⟨x,rfl,Ai rx e2,h H _ .refl (by rw [e _ M H d x rx e2]; exact cD)⟩
theorem tG:CallD X (.builtin "isinstance") (gIs "int" Ag):=.isOf pf fun pp M H d v r _=>by
 cases d <;> simp only [Rep] at r
 case non=>subst r; rfl
 case bl=>subst r; rfl
 case int=>subst r; rfl
 case str=>subst r; rfl
 case ty=>subst r; rfl
 case tup=>obtain ⟨a,xs,rfl,_⟩:=r; rfl
 case lst=>obtain ⟨a,xs,rfl,_⟩:=r; rfl
 case dK=>obtain ⟨a,xs,rfl,_⟩:=r; rfl
 case dT=>obtain ⟨a,xs,rfl,_⟩:=r; rfl
 case pen=>obtain ⟨a,rfl,_⟩:=r; rfl
 case exc=>obtain ⟨a,rfl,_⟩:=r; rfl
 case exa=>obtain ⟨a,dx,rfl,_⟩:=r; rfl
 case cls=>subst r; rfl
theorem rJ:CallD X (.builtin "isinstance") (gIs "bool" yr):=.isOf mZ fun pp M H d v r _=>by
 cases d <;> simp only [Rep] at r
 case non=>subst r; rfl
 case bl=>subst r; rfl
 case int=>subst r; rfl
 case str=>subst r; rfl
 case ty=>subst r; rfl
 case tup=>obtain ⟨a,xs,rfl,_⟩:=r; rfl
 case lst=>obtain ⟨a,xs,rfl,_⟩:=r; rfl
 case dK=>obtain ⟨a,xs,rfl,_⟩:=r; rfl
 case dT=>obtain ⟨a,xs,rfl,_⟩:=r; rfl
 case pen=>obtain ⟨a,rfl,_⟩:=r; rfl
 case exc=>obtain ⟨a,rfl,_⟩:=r; rfl
 case exa=>obtain ⟨a,dx,rfl,_⟩:=r; rfl
 case cls=>subst r; rfl
theorem nE:CallD X (.builtin "isinstance") (gIs "str" Ah):=.isOf pj fun pp M H d v r _=>by
 cases d <;> simp only [Rep] at r
 case non=>subst r; rfl
 case bl=>subst r; rfl
 case int=>subst r; rfl
 case str=>subst r; rfl
 case ty=>subst r; rfl
 case tup=>obtain ⟨a,xs,rfl,_⟩:=r; rfl
 case lst=>obtain ⟨a,xs,rfl,_⟩:=r; rfl
 case dK=>obtain ⟨a,xs,rfl,_⟩:=r; rfl
 case dT=>obtain ⟨a,xs,rfl,_⟩:=r; rfl
 case pen=>obtain ⟨a,rfl,_⟩:=r; rfl
 case exc=>obtain ⟨a,rfl,_⟩:=r; rfl
 case exa=>obtain ⟨a,dx,rfl,_⟩:=r; rfl
 case cls=>subst r; rfl
theorem aT:CallD X (.builtin "isinstance") (gIs "tuple" qo):=.isOf lD fun pp M H d v r f=>by
 cases d <;> first | cases f | skip
 all_goals simp only [Rep] at r
 case non=>subst r; rfl
 case bl=>subst r; rfl
 case int=>subst r; rfl
 case str=>subst r; rfl
 case tup=>obtain ⟨a,xs,rfl,h,_⟩:=r; simp [ft,h,isTupO,qo]
 case lst=>obtain ⟨a,xs,rfl,_,_,h,_⟩:=r; simp [ft,h,isTupO,qo]
 case dK=>obtain ⟨a,xs,rfl,_,_,h,_⟩:=r; simp [ft,h,isTupO,qo]
theorem gT:CallD X (.builtin "isinstance") (gIs "list" qp):=.isOf nj fun pp M H d v r f=>by
 cases d <;> first | cases f | skip
 all_goals simp only [Rep] at r
 case non=>subst r; rfl
 case bl=>subst r; rfl
 case int=>subst r; rfl
 case str=>subst r; rfl
 case tup=>obtain ⟨a,xs,rfl,h,_⟩:=r; simp [fu,h,gk,qp]
 case lst=>obtain ⟨a,xs,rfl,_,_,h,_⟩:=r; simp [fu,h,gk,qp]
 case dK=>obtain ⟨a,xs,rfl,_,_,h,_⟩:=r; simp [fu,h,gk,qp]
def gLen:DSp:=fun ds P=>match ds with
 | [.tup xs]=>P (.int xs.length)
 | [.lst xs]=>P (.int xs.length)
 | _=>False
theorem cG:CallD X (.builtin "len") gLen:=by
 refine ⟨fun ds P P' f h=>?_,_,sX,fun {pp} M H ds vs Q _ r h=>?_⟩
 ·unfold gLen at h ⊢; split at h
  ·exact f _ h
  ·exact f _ h
  ·exact h.elim
 ·unfold gLen at h; split at h
  case h_3=>exact h.elim
  ·simp only [Reps,Rep] at r
   obtain ⟨x,r,rfl,⟨a,ys,rfl,ha,ry⟩,rfl⟩:=r
   exact ⟨a,ys.length,rfl,by rw [ha]; rfl,h H _ .refl (by rw [← ry.length]; exact bB)⟩
  ·simp only [Reps,Rep] at r
   obtain ⟨x,r,rfl,⟨a,ys,rfl,_,_,ha,ry⟩,rfl⟩:=r
   exact ⟨a,ys.length,rfl,by rw [ha]; rfl,h H _ .refl (by rw [← ry.length]; exact bB)⟩
def tH:DSp:=fun ds P=>match ds with
 | [.tup xs]=>P (.tup xs)
 | [.lst xs]=>P (.tup xs)
 | _=>False
theorem cu:CallD X (.type "tuple") tH:=by
 refine ⟨fun ds P P' f h=>?_,_,lu,fun {pp} M H ds vs Q _ r h=>?_⟩
 ·unfold tH at h ⊢; split at h
  ·exact f _ h
  ·exact f _ h
  ·exact h.elim
 ·unfold tH at h; split at h
  case h_3=>exact h.elim
  ·simp only [Reps] at r
   obtain ⟨x,r,rfl,rx,rfl⟩:=r
   have rx':=rx
   simp only [Rep] at rx
   obtain ⟨a,ys,rfl,ha,ry⟩:=rx
   exact ⟨a,ys,rfl,.inr ⟨SqT.of ha,h H _ .refl rx'⟩⟩
  ·simp only [Reps,Rep] at r
   obtain ⟨x,r,rfl,⟨a,ys,rfl,_,_,ha,ry⟩,rfl⟩:=r
   refine ⟨a,ys,rfl,.inl ⟨SqL.of ha,fun l hl=>h _ _ (.new hl) ?_⟩⟩
   simp only [Rep]
   exact ⟨l,ys,rfl,ai,ry.mv (.new hl)⟩
abbrev tI (te:DE):DA:=fun ρ Q=>te ρ fun d ρ'=>match d with
 | .tup xs=>Q xs ρ'
 | .lst xs=>Q xs ρ'
 | _=>False
theorem fJ {x:Str} {e:Expr} {p pos:Pos} {te:DE} (hg:Gl X x) (hm:X.mg x=none) (hv:bootBuiltins x=some (.type "list")) (he:PED X e te) (hn:x ≠ "__name__":=by decide) (hdb:(x == ("__debug__" : Str))=false:=by decide)
  (hs:starEach [e] X.env=(false,eval e X.env)::starEach [] X.env:=by rfl) (hpl:(backTo pos (starEach [] X.env)).any (·.1)=false:=by rfl):PLD X (.Call (.Name x p) [e] [] pos) (tI te):=by
 obtain ⟨T,pa,ra⟩:=he.run
 refine ⟨fun _ _ _ f h=>he.mono _ _ _ (fun d _ h=>?_) h,_,ji mP hg hm hv (aP pa bL hs) hn hdb hs hpl,fun {F} M H σ ρ Q rs h=>ra M H σ ρ _ rs (he.mono _ _ _ (fun d ρ1 h M1 H1 v m1 rs1 r1=>?_) h)⟩
 ·cases d <;> first | exact h.elim | exact f _ _ h
 ·cases d <;> first | exact h.elim | skip
  all_goals simp only [Rep] at r1
  case tup xs =>
   obtain ⟨a,ys,rfl,ha,ry⟩:=r1
   exact ⟨a,ys,rfl,.inr (SqT.of ha),fun l hl=>h M1 H1 _ l ys m1 rs1 hl rfl ry⟩
  case lst xs =>
   obtain ⟨a,ys,rfl,_,_,ha,ry⟩:=r1
   exact ⟨a,ys,rfl,.inl (SqL.of ha),fun l hl=>h M1 H1 _ l ys m1 rs1 hl rfl ry⟩
def opt (o:Option D) (P:D->Prop):Prop:=match o with
 | some d=>P d
 | none=>False
theorem vK {o:Option D} {P P':D->Prop} (f:∀ d,P d->P' d) (h:opt o P):opt o P':=by cases o <;> first | exact h.elim | exact f _ h
theorem vL {o:Option D} {P:D->Prop} (h:opt o P):∃ d,o=some d /\ P d:=by cases o <;> first | exact h.elim | exact ⟨_,rfl,h⟩
def gIx:D->D->(D->Prop)->Prop
 | .tup xs,.int i,P=>opt (atI xs i) P
 | .lst xs,.int i,P=>opt (atI xs i) P
 | _,_,_=>False
theorem tJ {K:PySem.W.Frag} {M:List Addr} {H:Hp} {ds:List D} {xs:List V} {i:Int} {d:D} (r:Reps K pp M H ds xs) (h:atI ds i=some d):∃ v,atI xs i=some v /\ Rep K pp M H d v:=by
 unfold atI at h ⊢
 rw [r.length] at h
 cases q:ixN xs.length i with
 | none=>rw [q] at h; cases h
 | some j =>
  rw [q] at h
  obtain ⟨v,e1,e2⟩:=r.get' (i:=j) h
  exact ⟨v,e1,e2⟩
def BW:R2:=fun x y H Q=>vH x y H Q∨zX x y H Q
theorem ay {a b:Expr} {ta tb:DE} {pos:Pos} (ha:PED X a ta) (hb:PED X b tb) (hs:oP b):PED X (.Subscript a b pos) (dOp gIx ta tb):=by
 have gm:∀ x y P P',(∀ d,P d->P' d)->gIx x y P->gIx x y P':=fun x y P P' f h=>by
  cases x <;> first | exact h.elim | skip
  all_goals cases y <;> first | exact h.elim | exact vK f h
 obtain ⟨Ta,pa,ra⟩:=ha.run
 obtain ⟨Tb,pb,rb⟩:=hb.run
 refine ⟨fi gm ha hb,_,mK (IxR.or lF qi) pa pb hs,fun {F} M H σ ρ Q rs h=>jA (fun M H x y v u Q _ rx ry h=>?_) gm ha hb ra rb rs h⟩
 cases x <;> first | exact h.elim | skip
 all_goals cases y <;> first | exact h.elim | skip
 all_goals
  obtain ⟨d,e,h⟩:=vL h
  simp only [Rep] at rx ry
 ·obtain ⟨p,xs,rfl,hp,r⟩:=rx
  obtain ⟨z,e2,rz⟩:=tJ r e
  exact .inl ⟨p,xs,_,z,rfl,ry,hp,e2,h H z .refl rz⟩
 ·obtain ⟨p,xs,rfl,_,_,hp,r⟩:=rx
  obtain ⟨z,e2,rz⟩:=tJ r e
  exact .inr ⟨p,xs,_,z,rfl,ry,hp,e2,h H z .refl rz⟩
end
end DL
namespace DL
open PySem PySem.Spec L2
open PyProof.Rows hiding St
variable [TB]
variable [Frm]
section
variable {X:Cx} {F:Fx}
def BX (i:Nat) (E:DEnds) (ρ:DS) (d:D):Sl->Prop
 | .own ds=>ds.length < sizeLine /\ E.nx (ρ.set i (.own (ds++[d])))
 | _=>False
def Aj:Sl->Prop
 | .own _=>True
 | _=>False
abbrev dApp (i:Nat) (te:DE):DTS:=fun E ρ=>Aj (slot ρ i) /\ te ρ fun d ρ'=>BX i E ρ' d (slot ρ' i)
theorem RSt.write {K:PySem.W.Frag} {M:List Addr} {H:Hp} {σ:St} {ρ:DS} {l:Addr} {ys:List V} {ds es:List D} {i:Nat} (r:RSt K F M H σ ρ) (h:ρ[i]? = some (.own ds)) (hl:σ[i]? = some (some (.ref l))) (hd:Reps K F.pp M H es ys) :
  Mv K F.pp M H M (upd H l (.lst ys)) /\ RSt K F M (upd H l (.lst ys)) σ (ρ.set i (.own es)):=by
 obtain ⟨l',xs,e,hm,h0,hp,hl',hr⟩:=r.sl i _ _ h hl
 cases e
 have m:Mv K F.pp M H M (upd H l (.lst ys)):=.write hl' hm hp
 refine ⟨m,⟨by simp [r.len],fun j q o h1 h2=>?_,r.ow.step m i (fun _ _=>rfl) (fun j e=>List.getElem?_set_ne (Ne.symm e)) (fun A hA hB=>⟨A,fun s o e1 e2=>?_,fun b hb=>⟨(hB b hb).1,(hB b hb).2.1,(hB b hb).2.2,.inl hb⟩,fun a ha _ _ hn=>⟨ha,fun x e _=>?_⟩⟩),r.sub,?_,r.old,?_,r.lk.cl m⟩⟩
 ·by_cases e:i=j
  ·subst e
   rw [hl] at h2
   rw [aB h1]
   cases h2
   exact ⟨l,ys,rfl,hm,h0,hp,ai,hd.mv m⟩
  ·rw [List.getElem?_set_ne e] at h1
   have q':=r.sl j q o h1 h2
   cases q with
   | nil=>trivial
   | val d=>obtain ⟨v,e,q⟩:=q'; exact ⟨v,e,q.mv m⟩
   | pin w d=>obtain ⟨v,e,ew,q⟩:=q'; exact ⟨v,e,ew,q.mv m⟩
   | own es =>
    obtain ⟨l',zs,rfl,hm',h0',hp',hl'',hr'⟩:=q'
    refine ⟨l',zs,rfl,hm',h0',hp',?_,hr'.mv m⟩
    rw [ah]
    ·exact hl''
    ·rintro rfl
     exact e (r.own i j _ _ _ h h1 hl h2)
   | obj q=>exact q'
 ·rw [aB e1]
  exact hA _ _ h e2
 ·obtain ⟨l2,e2,e3⟩:=hA _ _ h hl
  cases e2
  rw [ah (by rintro rfl; exact hn (by rw [e3]; simp))]
  exact e
 ·refine ⟨fun b o e n=>?_,fun p e h=>m.pen p e (r.same.pen p e h),fun b e=>?_⟩
  ·rw [ah (by rintro rfl; rw [h0] at e; cases e)]
   exact r.same.keep b o e n
  ·by_cases z:b=l
   ·subst z; rw [ai]; intro z; cases z
   ·rw [ah z]; exact r.same.live b e
 ·refine ⟨fun a ha=>?_,fun p e=>?_⟩
  ·by_cases z:a=l
   ·subst z; rw [ai]; intro z; cases z
   ·rw [ah z]; exact r.liv.m a ha
  ·by_cases z:p=l
   ·subst z; rw [ai]; intro z; cases z
   ·rw [ah z]; exact r.liv.p p e
theorem gv {i:Nat} {o e:Expr} {apos cpos pos:Pos} {te:DE} (ho:PE X o (tVar i)) (he:PED X e te)
  (hbase:attributeBase o "append" X.env (eval o X.env)=eval o X.env:=by rfl)
  (hfew:((backTo cpos (starEach [e] X.env)).all (fun x=>!x.1) && (backToKw cpos (keywordEach [] X.env)).all (fun x=>x.1.isSome)
   && decide ([e].length + ([]:List Keyword).length + (if ([]:List Keyword).isEmpty then 0 else 1) < 30))=true:=by rfl)
  (hline:(apos.endLine == cpos.line)=true:=by rfl) (hst:starEach [e] X.env=(false,eval e X.env)::starEach [] X.env:=by rfl) (hpl:(backTo cpos (starEach [] X.env)).any (·.1)=false:=by rfl)
  (hs:swapsWith (.Call (.Attribute o "append" apos) [e] [] cpos) none pos.line X.env=pure false:=by rfl):PSD X (.Expr (.Call (.Attribute o "append" apos) [e] [] cpos) pos) (dApp i te):=by
 have hm:PE X (.Call (.Attribute o "append" apos) [e] [] cpos) (tBM X.K "list" oS (tVar i) (vB (Classical.choose he.run) tNil)):=oR PySem.F.plainAttrs_list PySem.F.slot_list_append PySem.F.type_list_append gi ho (aP (Classical.choose_spec he.run).1 bL hst) hbase hfew hline hst hpl
 obtain ⟨_,r⟩:=Classical.choose_spec he.run
 refine ⟨_,gL hm hs,fun {F} M H σ ρ E D rs oo h=>?_⟩
 obtain ⟨h0,h⟩:=h
 cases q:slot ρ i with
 | nil=>rw [q] at h0; exact h0.elim
 | val d=>rw [q] at h0; exact h0.elim
 | pin w d=>rw [q] at h0; exact h0.elim
 | obj z=>rw [q] at h0; exact h0.elim
 | own ds =>
  obtain ⟨oo1,ho1,l,xs,rfl,hm1,h01,hp1,hl1,hr1⟩:=rs.at (aI q (by intro z; cases z))
  refine ⟨.ref l,ho1,.inl ⟨rfl,xs,SqL.of hl1⟩,?_⟩
  refine r M H σ ρ _ rs (he.mono _ _ _ (fun d ρ' h M' H' v m rs' rd=>?_) h)
  cases q':slot ρ' i with
  | nil=>rw [q'] at h; exact h.elim
  | val d=>rw [q'] at h; exact h.elim
  | pin w d=>rw [q'] at h; exact h.elim
  | obj z=>rw [q'] at h; exact h.elim
  | own ds' =>
   rw [q'] at h
   have g1:=aI q' (by intro z; cases z)
   obtain ⟨l',xs',e',hm',h0',hp',hl',hr'⟩:=rs'.sl i _ _ g1 ho1
   cases e'
   obtain ⟨m2,rs2⟩:=rs'.write g1 ho1 (hr'.append (.one rd))
   exact ⟨l,xs',v,rfl,rfl,hl',by rw [← hr'.length]; exact h.1,oo.nx M' _ _ _ (m.trans m2) rs2 h.2⟩
end
def rK:DSp:=fun ds P=>match ds with
 | [.pen,.int m]=>(1 <= m /\ m <= 10 ^ 60) /\ ∀ r,0 <= r->r < m->P (.int r)
 | _=>False
theorem tK:bR rK:=fun ds P P' f h=>by
 unfold rK at h ⊢
 split at h
 ·exact ⟨h.1,fun r h0 h1=>f _ (h.2 r h0 h1)⟩
 ·exact h.elim
theorem yu {P:Program} {w:World} {K:PySem.W.Frag} {mg:Str->Option Value} {base:Heap} {k:Nat} {f:Addr} {fd:FuncData} {ps:List Str} (h:FnOk P w K mg base CX0 k f fd ps (sZ K)):FnOk P w K mg base CX0 k f fd ps (spD K 2 rK) :=
 h.imp fun vs H Q E h=>by
  obtain ⟨pp,M,ds,lv,r,e,h⟩:=h
  unfold rK at h
  split at h
  case h_2=>exact h.elim
  ·rename_i m
   obtain ⟨⟨m1,m2⟩,h⟩:=h
   simp only [Reps,Rep] at r
   obtain ⟨x,_,rfl,⟨p,rfl,ep,a,ns,t,l,pen⟩,y,_,rfl,rfl,rfl⟩:=r
   refine ⟨p,a,ns,t,l,m,rfl,pen,m1,m2,fun r t' l' H' h0 h1 pen' sb=>h r h0 h1 H' _ ⟨⟨fun b o hb n=>?_,fun q e _=>?_,fun b hb=>?_⟩,fun tb=>tb.of fun b o e tf=>sb b o (by rintro rfl; rw [pen.lst] at e; cases e; exact lH tf) e⟩ bB⟩
   ·by_cases z:b=p
    ·subst z
     rw [pen.lst] at hb
     cases hb
     exact absurd rfl (n.1 ep _)
    ·exact sb b o z hb
   ·rw [ep] at e; cases e
    exact ⟨a,ns,t',l',pen'⟩
   ·by_cases z:b=p
    ·subst z; rw [pen'.lst]; intro z; cases z
    ·cases q:H b with
     | none=>exact absurd q hb
     | some o=>rw [sb b o z q]; intro z; cases z
def spLaw (K:PySem.W.Frag):Sp:=fun vs H Q _=>∃ a ns,vs=[.ref a] /\ Scr K H a ns /\ Tabs H /\ ∀ H',Q (.bl true) H'
omit [TB] [Frm] in
theorem law_sp (K:PySem.W.Frag) (H:Hp) (a:Addr) (ns:List Int) (_:ns.length <= 63) (h1:Only H) (h:SqL K H a (ns.map V.int)) : @spLaw TB.none K [.ref a] H (fun v _=>v = .bl true) fun _ _ _=>False :=
 ⟨a,ns,rfl,zW h1 h,fun _ _ e=>(by cases e),fun _=>rfl⟩
omit [Frm] in
theorem lawD {P:Program} {w:World} {K:PySem.W.Frag} {mg:Str->Option Value} {base:Heap} {st:Stmt} {f:Addr} {fd:FuncData} {N:List Str} {x:Str} {k:Nat} {t:DTS} {s1:Stmt} {rest:List Stmt} (Fn:Fun K "law" "law" st f fd) (S:FnScope N [x] (ak st)) (hs:cy st=s1::rest) (hN:2 <= N.length)
  (h1:∀ (cdv:Value) (A:Around) (outer:List Env) (s:Shared) (H:Hp) (E:XK),Room k (A.deeper (envOfC "law" (ak st) s.heap.objs.size f cdv))->PS (cxOf CX0 P w K mg base N "law" (ak st) f cdv A outer s H E).nox s1 (tAsg (zI (wP K) [] E0 (vB (tVar 0) tNil)) (gName 1)))
  (hb:∀ (cdv:Value) (A:Around) (outer:List Env) (s:Shared) (H:Hp) (E:XK),Room k (A.deeper (envOfC "law" (ak st) s.heap.objs.size f cdv)) -> @PSsD _ Frm.free (cxOf CX0 P w K mg base N "law" (ak st) f cdv A outer s H E).nox rest t)
  (hg:t { nx:=fun _=>False,rt:=fun d=>d = .bl true } (.nil :: .val .pen::List.replicate (N.length - 2) .nil)):FnOk P w K mg base CX0 (k + 1) f fd [x] (spLaw K):=by
 refine Fn.ok S (fun vs H Q E h=>?_) (fun cdv A outer s H vs Q E hr h=>?_)
 ·obtain ⟨a,ns,rfl,_⟩:=h
  rfl
 ·obtain ⟨a,ns,rfl,hs',hT,h⟩:=h
  rw [hs]
  refine ⟨_,aA (u:=fun D σ H'=>∃ p:Addr,@RSt _ Frm.free K ⟨some p,[],H'⟩ [] H' σ (.nil :: .val .pen::List.replicate (N.length - 2) .nil) /\ ∀ H'',D.rt (.bl true) H'') (h1 cdv A outer s H E hr) ?_,?_⟩
  ·intro pins s' σ H' D I ⟨p,rs,q⟩
   obtain ⟨T,pT,run⟩:=hb cdv A outer s H E hr
   refine pT pins s' σ H' D I (run [] H' σ _ { nx:=fun _=>False,rt:=fun d=>d = .bl true } D rs ⟨fun _ _ _ _ _ _ q=>q.elim,fun _ _ _ _ _ _ q=>q.elim,fun _ _ _ _ _ _ q=>q.elim,fun M2 H2 σ2 ρ2 d v _ _ rd e=>?_⟩ hg)
   subst e
   simp only [Rep] at rd
   subst rd
   exact q H2
  ·refine ⟨.ref a,?_,a,ns,rfl,hs',fun p H' hp pen sm=>⟨p,⟨?_,fun i s o e1 e2=>?_,OwF.none (fun i s e1=>?_),fun a z=>by simp at z,.refl,fun a z=>by simp at z,⟨fun a z=>by simp at z,fun q e=>?_⟩,⟨trivial,hT.of fun b o e _=>sm b o e⟩⟩,h⟩⟩
   ·simp [L2.start]
   ·simp [L2.start]; omega
   ·match i,e1 with
    | 0,e1=>simp at e1; subst e1; trivial
    | 1,e1 =>
     simp at e1
     subst e1
     have hi:1 < (L2.start N [V.ref a]).length:=by simp [L2.start]; omega
     simp [hi] at e2
     subst e2
     refine ⟨_,rfl,?_⟩
     simp only [Rep]
     exact ⟨p,rfl,rfl,a,ns,0,0,pen⟩
    | i + 2,e1 =>
     have:=List.eq_of_mem_replicate (List.mem_of_getElem? (by simpa using e1))
     subst this
     trivial
   ·have:=List.mem_of_getElem? e1
    simp at this
    rcases this with rfl | rfl | ⟨_,rfl⟩ <;> exact ⟨fun ds z=>(by cases z),fun q z=>(by cases z)⟩
   ·cases e
    rw [pen.lst]; intro z; cases z
end DL
namespace DL
open PySem PySem.Spec L2
open PyProof.Rows hiding St
variable [TB]
variable [Frm]
mutual
def toPy:D->PyData
 | .non=>.none
 | .bl b=>.bool b
 | .int i=>.int i
 | .str x=>.str x
 | .tup ds=>.tuple (lL ds)
 | .lst ds=>.list (lL ds)
 | .ty _=>.none
 | .dK _ _=>.none
 | .dT _ _=>.none
 | .pen=>.none
 | .exc _=>.none
 | .exa _ _=>.none
 | .cls _=>.none
def lL:List D->List PyData
 | []=>[]
 | d::ds=>toPy d::lL ds
def pln:D->Bool
 | .pen=>false
 | .exc _=>false
 | .exa _ _=>false
 | .cls _=>false
 | .ty _=>false
 | .dK _ _=>false
 | .dT _ _=>false
 | .tup ds=>plns ds
 | .lst ds=>plns ds
 | _=>true
def plns:List D->Bool
 | []=>true
 | d::ds=>pln d && plns ds
end
def eqD (x y:D):Bool:=PyData.eqv (toPy x) (toPy y)
def shp (d:D):Bool:=pln d && SeqAt.shaped (toPy d)
mutual
theorem gw {P:Program} {w:World} {K:PySem.W.Frag} {pp:Option Addr} {M:List Addr} {H:Hp} {h:Heap} (ok:HOk P w H h):∀ (d:D) (v:V) (u:Value),pln d=true->Rep K pp M H d v->RelV v u->∃ as,Reads h u (toPy d) as
 | .non,_,_,_,r,q=>by simp only [Rep] at r; subst r; cases q; exact ⟨_,.none⟩
 | .bl b,_,_,_,r,q=>by simp only [Rep] at r; subst r; cases q; exact ⟨_,.bool b⟩
 | .int i,_,_,_,r,q=>by simp only [Rep] at r; subst r; obtain ⟨t,rfl⟩:=q; exact ⟨_,.int i t⟩
 | .str x,_,_,_,r,q=>by simp only [Rep] at r; subst r; obtain ⟨t,rfl⟩:=q; exact ⟨_,.str x t⟩
 | .tup ds,_,_,p,r,q=>by
  simp only [Rep] at r
  obtain ⟨a,xs,rfl,ha,r⟩:=r
  cases q
  obtain ⟨_,its,vs,o,ho,hc,n,hd⟩:=ok a _ ha
  obtain ⟨as,z⟩:=jC ok ds xs its (by simpa only [pln] using p) r vs
  exact ⟨_,by rw [toPy]; exact .tuple ho hc hd (by simpa using z)⟩
 | .lst ds,_,_,p,r,q=>by
  simp only [Rep] at r
  obtain ⟨a,xs,rfl,_,_,ha,r⟩:=r
  cases q
  obtain ⟨_,its,n,vs,ho⟩:=ok a _ ha
  obtain ⟨as,z⟩:=jC ok ds xs its (by simpa only [pln] using p) r vs
  exact ⟨_,by rw [toPy]; exact .list ho rfl rfl (by simpa using z)⟩
 | .ty _,_,_,p,_,_=>by simp [pln] at p
 | .dK _ _,_,_,p,_,_=>by simp [pln] at p
 | .dT _ _,_,_,p,_,_=>by simp [pln] at p
 | .pen,_,_,p,_,_=>by simp [pln] at p
 | .exc _,_,_,p,_,_=>by simp [pln] at p
 | .exa _ _,_,_,p,_,_=>by simp [pln] at p
 | .cls _,_,_,p,_,_=>by simp [pln] at p
theorem jC {P:Program} {w:World} {K:PySem.W.Frag} {pp:Option Addr} {M:List Addr} {H:Hp} {h:Heap} (ok:HOk P w H h):∀ (ds:List D) (vs:List V) (us:List Value),plns ds=true->Reps K pp M H ds vs->Vals vs us->∃ as,ReadsAll h us (lL ds) as
 | [],_,_,_,r,q=>by simp only [Reps] at r; subst r; cases q; exact ⟨_,.nil⟩
 | d::ds,_,_,p,r,q=>by
  simp only [Reps] at r
  obtain ⟨x,r',rfl,r1,r2⟩:=r
  simp only [plns,Bool.and_eq_true] at p
  cases q with
  | cons q1 q2 =>
   obtain ⟨as,z1⟩:=gw ok d _ _ p.1 r1 q1
   obtain ⟨bs,z2⟩:=jC ok ds _ _ p.2 r2 q2
   exact ⟨_,by rw [lL]; exact .cons z1 z2⟩
end
section
variable {X:Cx} {pp:Option Addr} {k:Nat}
def rEqD (K:PySem.W.Frag) (n:Bool):R2:=fun x y H Q=>∃ pp M dx dy,Rep K pp M H dx x /\ Rep K pp M H dy y /\ shp dx=true /\ shp dy=true /\ Q (.bl (if n then !eqD dx dy else eqD dx dy)) H
theorem Ak (hr:Room k X.A):OpR X (compareOp .Eq) (rEqD X.K false):=by
 intro pins s σ H x y v u Q I rx ry h
 obtain ⟨pp,M,dx,dy,r1,r2,s1,s2,q⟩:=h
 unfold shp at s1 s2
 rw [Bool.and_eq_true] at s1 s2
 obtain ⟨as,z1⟩:=gw I.hok dx x v s1.1 r1 rx
 obtain ⟨bs,z2⟩:=gw I.hok dy y u s2.1 r2 ry
 exact SeqAt.compareEq_shaped z1 z2 s1.2 s2.2 (by have:=hr.un; omega) (bK I q rfl)
theorem Al (hr:Room k X.A):OpR X (compareOp .NotEq) (rEqD X.K true):=by
 intro pins s σ H x y v u Q I rx ry h
 obtain ⟨pp,M,dx,dy,r1,r2,s1,s2,q⟩:=h
 unfold shp at s1 s2
 rw [Bool.and_eq_true] at s1 s2
 obtain ⟨as,z1⟩:=gw I.hok dx x v s1.1 r1 rx
 obtain ⟨bs,z2⟩:=gw I.hok dy y u s2.1 r2 ry
 exact SeqAt.compareNe_shaped z1 z2 s1.2 s2.2 (by have:=hr.un; omega) (bK I q rfl)
def gEq (n:Bool):D->D->(D->Prop)->Prop:=fun x y P=>(shp x=true /\ shp y=true) /\ P (.bl (if n then !eqD x y else eqD x y))
theorem jD (hr:Room k X.A):OpD X (compareOp .Eq) (gEq false) :=
 ⟨fun _ _ _ _ f h=>⟨h.1,f _ h.2⟩,_,Ak hr,fun {pp} M H x y v u Q _ rx ry h=>⟨pp,M,x,y,rx,ry,h.1.1,h.1.2,h.2 H _ .refl cD⟩⟩
theorem lM (hr:Room k X.A):OpD X (compareOp .NotEq) (gEq true) :=
 ⟨fun _ _ _ _ f h=>⟨h.1,f _ h.2⟩,_,Al hr,fun {pp} M H x y v u Q _ rx ry h=>⟨pp,M,x,y,rx,ry,h.1.1,h.1.2,h.2 H _ .refl cD⟩⟩
end
end DL
namespace DL
open PySem PySem.Spec L2
open PyProof.Rows hiding St
variable [TB]
variable [Frm]
section
variable {X:Cx} {F:Fx} {pp:Option Addr}
abbrev DO:=DS->(Option Int->DS->Prop)->Prop
structure POD (X:Cx) (e:Option Expr) (t:DO):Prop where
 mono:∀ ρ P P',(∀ b ρ',P b ρ'->P' b ρ')->t ρ P->t ρ P'
 run:∃ T:TO,PO X e T /\ ∀ {F:Fx} M H σ ρ (Q:Option Int->Hp->Prop),RSt X.K F M H σ ρ ->
  (t ρ fun o ρ'=>∀ M' H',Mv X.K F.pp M H M' H'->RSt X.K F M' H' σ ρ'->Q o H')->T σ H Q
abbrev Am:DO:=fun ρ Q=>Q none ρ
abbrev An (te:DE):DO:=fun ρ Q=>te ρ fun d ρ'=>match d with
 | .int i=>Q (some i) ρ'
 | _=>False
theorem gU:POD X none Am:=⟨fun _ _ _ f h=>f _ _ h,_,xW,fun {F} M H σ ρ Q rs h=>h M H .refl rs⟩
theorem eh {e:Expr} {te:DE} (he:PED X e te):POD X (some e) (An te):=by
 obtain ⟨T,p,r⟩:=he.run
 refine ⟨fun _ _ _ f h=>he.mono _ _ _ (fun d _ h=>?_) h,_,xX p,fun {F} M H σ ρ Q rs h=>r M H σ ρ _ rs (he.mono _ _ _ (fun d ρ' h M' H' v m rs' rd=>?_) h)⟩
 ·cases d <;> first | exact h.elim | exact f _ _ h
 ·cases d <;> first | exact h.elim | skip
  simp only [Rep] at rd
  exact ⟨_,rd,h M' H' m rs'⟩
def cutD (xs:List D) (lo hi:Option Int):List D:=(xs.drop (HT.sIx xs.length 0 lo)).take (HT.sIx xs.length xs.length hi - HT.sIx xs.length 0 lo)
theorem Reps.cut {K:PySem.W.Frag} {M:List Addr} {H:Hp} {ds:List D} {xs:List V} (lo hi:Option Int) (r:Reps K pp M H ds xs):Reps K pp M H (cutD ds lo hi) (cutV xs lo hi):=by
 unfold cutD cutV
 rw [r.length]
 exact (r.drop _).take _
end
end DL
namespace DL
open PySem PySem.Spec L2
open PyProof.Rows hiding St
variable [TB]
variable [Frm]
theorem bb {g:DG} {b:DTS} {E:DEnds} {ds:List D} (N:List D->DS->Prop) (hn:∀ ρ,N ds ρ->E.nx ρ)
  (hs:∀ (pre:List D) (d:D) (post:List D) (ρ:DS) (X:DS->Prop),ds=pre++d::post->N pre ρ->(∀ ρ',N (pre++[d]) ρ'->X ρ')->g d ρ fun ρ1=>b { E with nx:=X,ct:=X,bk:=E.nx } ρ1) (ρ:DS) (h:N [] ρ):lK g b ds E ρ:=by
 have key:∀ (post pre:List D),ds=pre++post->∀ ρ,N pre ρ->lK g b post E ρ:=by
  intro post
  induction post with
  | nil=>intro pre e ρ h; rw [List.append_nil] at e; subst e; exact hn ρ h
  | cons d r ih=>intro pre e ρ h; exact hs pre d r ρ _ e h (ih (pre++[d]) (by rw [e,List.append_assoc]; rfl))
 exact key ds [] rfl ρ h
theorem tM {α:Type} {xs:List α} {r:Int} (h0:0 <= r) (h1:r < xs.length):∃ d,atI xs r=some d /\ xs[r.toNat]? = some d:=by
 obtain ⟨j,rfl⟩:=Int.eq_ofNat_of_zero_le h0
 have hj:j < xs.length:=by omega
 exact ⟨xs[j],atI_nat (by simp [hj]),by simp [hj]⟩
theorem tN {xs:List D} {r:Int} {Q:D->Prop} (h0:0 <= r) (h1:r < xs.length) (h:∀ d∈xs,Q d):opt (atI xs r) Q:=by
 obtain ⟨d,e,e2⟩:=tM h0 h1
 rw [e]
 exact h d (List.mem_of_getElem? e2)
theorem bS {xs:List D} {r:Int} {d:D} {Q:D->Prop} (h0:0 <= r) (e:xs[r.toNat]? = some d) (h:Q d):opt (atI xs r) Q:=by
 obtain ⟨j,rfl⟩:=Int.eq_ofNat_of_zero_le h0
 rw [atI_nat (show xs[j]? = some d from e)]
 exact h
theorem cpow {i j:Int} (h:0 <= j /\ j <= 1000000 /\ i.natAbs < 2 ^ 64:=by decide):CPow i j:=h
theorem sz {n:Nat} (h:Nat.ble n 1000=true:=by rfl):n <= sizeLine:=Nat.le_trans (Nat.le_of_ble_eq_true h) (by decide)
theorem lN {i j:Int}:eqD (.int i) (.int j)=decide (i=j):=by
 show (i == j)=_
 by_cases h:i=j <;> simp [h]
end DL
namespace DL
open PySem PySem.Spec L2
open PyProof.Rows hiding St
variable [TB]
variable [Frm]
def Bd (n:Nat) (i:Int):Prop:=i.natAbs < 2 ^ n
theorem Bd.mono {m n:Nat} {i:Int} (h:Bd m i) (l:m <= n):Bd n i:=Nat.lt_of_lt_of_le h (Nat.pow_le_pow_right (by decide) l)
theorem Bd.le {m:Nat} {i j:Int} (h:Bd m j) (l:i.natAbs <= j.natAbs):Bd m i:=Nat.lt_of_le_of_lt l h
theorem wS {i:Int} {n:Nat} (h:i.natAbs < 2 ^ n:=by decide):Bd n i:=h
end DL
namespace DL
open PySem PySem.Spec L2
open PyProof.Rows hiding St
variable [TB]
variable [Frm]
end DL
namespace DL
open PySem PySem.Spec L2
open PyProof.Rows hiding St
variable [TB]
def nF:Sl->Sl
 | .own _=>.nil
 | .obj _=>.nil
 | s=>s
theorem fK (s:Sl):(∀ ds,nF s ≠ .own ds) /\ ∀ q,nF s ≠ .obj q:=by
 cases s <;> exact ⟨fun ds z=>(by cases z),fun q z=>(by cases z)⟩
def bY (ρ:DS):DS:=ρ.map nF
def Ao (ρ:DS):Option Nat->Sl
 | none=>.nil
 | some j=>nF (slot ρ j)
def subD (js:List (Option Nat)) (ρ:DS):DS:=js.map (Ao ρ)
def cH (g:DG) (tc:DT) (te:DE):List D->List D->DS->(List D->Prop)->Prop
 | [],acc,_,Q=>Q acc
 | d::r,acc,ρ,Q=>g d ρ fun ρ1=>tc ρ1 fun b ρ2=>Br b (te ρ2 fun y ρ3=>acc.length < sizeLine /\ cH g tc te r (acc++[y]) (bY ρ3) Q) (cH g tc te r acc (bY ρ2) Q)
abbrev BY (t:DA) (js:List (Option Nat)) (g:DG) (tc:DT) (te:DE):DA:=fun ρ Q=>t ρ fun ds ρ1=>cH g tc te ds [] (subD js ρ1) fun ys=>Q ys ρ1
def delH (H:Hp) (a:Addr):Hp:=fun b=>if b=a then none else H b
theorem tO {H:Hp} {a:Addr}:delH H a a=none:=by simp [delH]
theorem cX {H:Hp} {a b:Addr} (h:b≠a):delH H a b=H b:=by simp [delH,h]
theorem Tabs.del {H:Hp} {l:Addr} {o:HO} (h:Tabs H) (hl:H l=some o) (ht:¬ TF o):Tabs (delH H l) :=
 h.of fun b x e tf=>by
  rw [cX]
  ·exact e
  ·rintro rfl
   rw [hl] at e; cases e
   exact ht tf
theorem vM {H:Hp} {a:Addr} {o:HO} (h:H a=some o):upd (delH H a) a o=H:=by
 funext b
 by_cases e:b=a
 ·subst e; rw [ai,h]
 ·rw [ah e,cX e]
section
variable {X:Cx} {F:Fx} {K:PySem.W.Frag} {pp:Option Addr}
theorem RSt.rebase {M:List Addr} {H:Hp} {σ:St} {ρ:DS} (r:RSt K F M H σ ρ):RSt K ⟨F.pp,M,H⟩ M H σ (bY ρ):=by
 refine ⟨by simp [bY,r.len],fun i s o h1 h2=>?_,OwF.none (fun i s h1=>?_),fun a h=>h,.refl,r.liv.m,r.liv0,⟨trivial,r.lk.t⟩⟩
 ·simp only [bY,List.getElem?_map] at h1
  cases q:ρ[i]? with
  | none=>rw [q] at h1; cases h1
  | some s' =>
   rw [q] at h1
   cases h1
   have:=r.sl i s' o q h2
   cases s' with
   | nil=>trivial
   | val d=>exact this
   | pin w d=>exact this
   | own ds=>trivial
   | obj q=>trivial
 ·simp only [bY,List.getElem?_map] at h1
  cases q:ρ[i]? with
  | none=>rw [q] at h1; cases h1
  | some s' =>
   rw [q] at h1
   cases h1
   exact fK s'
theorem RSt.writeFree {M:List Addr} {H:Hp} {σ:St} {ρ:DS} {D:Addr} {xs ys:List V} (r:RSt K ⟨F.pp,M,H⟩ M H σ (bY ρ)) (hD:D∈M) (hp:F.pp≠some D) (h:H D=some (.lst xs)) :
  RSt K ⟨F.pp,M,upd H D (.lst ys)⟩ M (upd H D (.lst ys)) σ (bY ρ):=by
 have m:Mv K F.pp M H M (upd H D (.lst ys)):=.write h hD hp
 have lv:Lv0 F.pp M (upd H D (.lst ys)):=by
  refine ⟨fun a ha=>?_,fun p e=>?_⟩
  ·by_cases z:a=D
   ·subst z; rw [ai]; intro z; cases z
   ·rw [ah z]; exact r.liv.m a ha
  ·by_cases z:p=D
   ·subst z; rw [ai]; intro z; cases z
   ·rw [ah z]; exact r.liv.p p e
 refine ⟨r.len,fun i s o h1 h2=>?_,OwF.none (fun i s h1=>?_),fun a h=>h,.refl,lv.m,lv,⟨trivial,m.tb r.lk.t⟩⟩
 rotate_left
 ·simp only [bY,List.getElem?_map] at h1
  cases q:ρ[i]? with
  | none=>rw [q] at h1; cases h1
  | some s' =>
   rw [q] at h1
   cases h1
   exact fK s'
 have q:=r.sl i s o h1 h2
 cases s with
 | nil=>trivial
 | val d=>obtain ⟨v,e,q⟩:=q; exact ⟨v,e,q.mv m⟩
 | pin w d=>obtain ⟨v,e,ew,q⟩:=q; exact ⟨v,e,ew,q.mv m⟩
 | obj z=>exact q
 | own ds =>
  exfalso
  simp only [bY,List.getElem?_map] at h1
  cases q:ρ[i]? with
  | none=>rw [q] at h1; cases h1
  | some s'=>rw [q] at h1; cases s' <;> cases h1
theorem pB (ρ:DS):bY (bY ρ)=bY ρ:=by
 simp only [bY,List.map_map]
 refine List.map_congr_left fun s _=>?_
 cases s <;> rfl
theorem kO (js:List (Option Nat)) (ρ:DS):bY (subD js ρ)=subD js ρ:=by
 simp only [bY,subD,List.map_map]
 refine List.map_congr_left fun o _=>?_
 cases o with
 | none=>rfl
 | some j=>simp only [Function.comp,Ao]; cases slot ρ j <;> rfl
theorem RSt.block {M:List Addr} {H:Hp} {σ:St} {ρ:DS} {D:Addr} (r:RSt K F M H σ ρ) (js:List (Option Nat)) (hD:H D=none) :
  RSt K ⟨F.pp,D::M,upd H D (.lst [])⟩ (D::M) (upd H D (.lst [])) (L2.sub js σ) (subD js ρ):=by
 have m:Mv K F.pp M H (D::M) (upd H D (.lst [])):=.newOwn hD
 have lv:Lv0 F.pp (D::M) (upd H D (.lst [])):=by
  refine ⟨fun a ha=>?_,fun p e=>(SameP.new (K:=K) (pp:=F.pp) hD).live p (r.liv.p p e)⟩
  rcases List.mem_cons.mp ha with rfl | ha
  ·rw [ai]; intro z; cases z
  ·exact (SameP.new (K:=K) (pp:=F.pp) hD).live a (r.liv.m a ha)
 refine ⟨by simp [L2.sub,subD],fun i s o h1 h2=>?_,OwF.none (fun i s h1=>?_),fun a h=>h,.refl,lv.m,lv,⟨trivial,m.tb r.lk.t⟩⟩
 ·simp only [subD,List.getElem?_map] at h1
  simp only [L2.sub,List.getElem?_map] at h2
  cases q:js[i]? with
  | none=>rw [q] at h1; cases h1
  | some jo =>
   rw [q] at h1 h2
   cases h1
   cases h2
   cases jo with
   | none=>trivial
   | some j =>
    show RSl K _ _ _ (nF (slot ρ j)) _
    cases e:slot ρ j with
    | nil=>trivial
    | own ds=>trivial
    | obj q=>trivial
    | val d =>
     obtain ⟨o,ho,v,rfl,hr⟩:=r.at (aI e (by intro z; cases z))
     exact ⟨v,by simp [sub1,ho],hr.mv m⟩
    | pin w d =>
     obtain ⟨o,ho,v,rfl,ew,hr⟩:=r.at (aI e (by intro z; cases z))
     exact ⟨v,by simp [sub1,ho],ew,hr.mv m⟩
 ·simp only [subD,List.getElem?_map] at h1
  cases q:js[i]? with
  | none=>rw [q] at h1; cases h1
  | some jo =>
   rw [q] at h1
   cases jo with
   | none=>cases h1; exact ⟨fun ds z=>(by cases z),fun q z=>(by cases z)⟩
   | some j =>
    cases h1
    exact fK (slot ρ j)
structure PTsD (X:Cx) (ifs:List Expr) (t:DT):Prop where
 mono:∀ ρ P P',(∀ b ρ',P b ρ'->P' b ρ')->t ρ P->t ρ P'
 run:∃ T:TT,PTs X ifs T /\ ∀ {F:Fx} M H σ ρ (Q:Bool->Hp->Prop),RSt X.K F M H σ ρ ->
  (t ρ fun b ρ'=>∀ M' H',Mv X.K F.pp M H M' H'->RSt X.K F M' H' σ ρ'->Q b H')->T σ H Q
abbrev bU:DT:=fun ρ Q=>Q true ρ
theorem aM:PTsD X [] bU:=⟨fun _ _ _ f h=>f _ _ h,_,yh,fun {F} M H σ ρ Q rs h=>h M H .refl rs⟩
theorem tP {c:Expr} {t:DT} (h:PTD X c t):PTsD X [c] t:=by
 obtain ⟨T,p,r⟩:=h.run
 exact ⟨h.mono,T,yi p,r⟩
structure PCD (X:Cx) (e:Expr) (t:DA):Prop where
 mono:∀ ρ P P',(∀ d ρ',P d ρ'->P' d ρ')->t ρ P->t ρ P'
 run:∃ T:TE,PE X e T /\ (∀ (i:Nat) (y:Str) (py spos:Pos),X.N.Nodup->X.N[i]? = some y->X.env.scope.names.lookup y=some .local->swapsWith e (some (.Name y py)) spos.line X.env=pure true->PS X (.Assign [.Name y py] e spos) (tAsg T (gName i))) /\
  ∀ {F:Fx} M H σ ρ (Q:VK),RSt X.K F M H σ ρ ->
  (t ρ fun ds ρ'=>∀ M' H1 H' l xs,Mv X.K F.pp M H M' H1->RSt X.K F M' H1 σ ρ'->H1 l=none->H'=upd H1 l (.lst xs)->Reps X.K F.pp M' H1 ds xs->Q (.ref l) H')->T σ H Q
theorem PCD.pld {e:Expr} {t:DA} (h:PCD X e t):PLD X e t:=by
 obtain ⟨T,p,_,r⟩:=h.run
 exact ⟨h.mono,T,p,r⟩
theorem gW {g:DG} {tc:DT} {te:DE} (hg:∀ d ρ P P',(∀ ρ',P ρ'->P' ρ')->g d ρ P->g d ρ P') (hc:∀ ρ P P',(∀ b ρ',P b ρ'->P' b ρ')->tc ρ P->tc ρ P') (he:∀ ρ P P',(∀ d ρ',P d ρ'->P' d ρ')->te ρ P->te ρ P') {Q Q':List D->Prop} (f:∀ ys,Q ys->Q' ys) :
  ∀ (ds acc:List D) (ρ:DS),cH g tc te ds acc ρ Q->cH g tc te ds acc ρ Q'
 | [],acc,ρ,h=>f _ h
 | d::r,acc,ρ,h=>hg _ _ _ _ (fun ρ1 h=>hc _ _ _ (fun b ρ2 h=>⟨fun e=>he _ _ _ (fun y ρ3 h=>⟨h.1,gW hg hc he f r _ _ h.2⟩) (h.yes e),fun e=>gW hg hc he f r _ _ (h.no e)⟩) h) h
theorem aF {tg elt iter:Expr} {ifs:List Expr} {scope:Scope} {cl:List (Str×Addr)} {N':List Str} {js:List (Option Nat)} {pos:Pos} {t:DA} {g:DG} {tc:DT} {te:DE}
  (hc:X.calm=true) (hclo:cR X.env.cells scope.names []=some cl) (hdis:∀ y∈scope.names,y.2 = .free->(y.1,NameKind.cell)∉scope.names) (hkind:scope.kind = .function) (cap:Cap X scope N' js)
  (hnames:∀ y∈scope.names,y.2 = .local->scope.names.lookup y.1=some .local) (hi:PID X tg iter t)
  (hg:∀ B:Blk,PGD (cxB X scope cl N' B) tg g) (ht:∀ B:Blk,PTsD (cxB X scope cl N' B) ifs tc) (he:∀ B:Blk,PED (cxB X scope cl N' B) elt te)
  (hs:∀ v,foldedSetIterable iter X.env v=pure v:=by intro _; rfl):PCD X (.ListComp elt [⟨tg,iter,ifs,0⟩] scope pos) (BY t js g tc te):=by
 obtain ⟨wi,pi,ri⟩:=hi.run
 have hb:∀ B:Blk,PG (cxB X scope cl N' B) tg (Classical.choose (hg B).run) /\ PTs (cxB X scope cl N' B) ifs (Classical.choose (ht B).run) /\ PE (cxB X scope cl N' B) elt (Classical.choose (he B).run):=fun B =>
  ⟨(Classical.choose_spec (hg B).run).1,(Classical.choose_spec (ht B).run).1,(Classical.choose_spec (he B).run).1⟩
 let B0:Blk:=⟨0,X.s₀,X.H₀,[],[]⟩
 refine ⟨fun _ _ _ f h=>hi.mono _ _ _ (fun ds ρ1 h=>gW (hg B0).mono (ht B0).mono (he B0).mono (fun ys h=>f _ _ h) _ _ _ h) h,_,yk hc hclo hdis hkind cap hnames pi hb hs,fun i y py spos hN hy hl hsw=>ym hN hy hl hc hclo hdis hkind cap hnames pi hb hsw hs,fun {F} M H σ ρ Q rs h=>?_⟩
 refine ri M H σ ρ _ rs (hi.mono _ _ _ (fun ds ρ1 h M1 H1 J m1 rs1 ok=>?_) h)
 intro B Dl hD
 obtain ⟨_,rg⟩:=Classical.choose_spec (hg B).run
 obtain ⟨_,rt⟩:=Classical.choose_spec (ht B).run
 obtain ⟨_,re⟩:=Classical.choose_spec (he B).run
 have fr:=rs1.liv.fresh hD
 have m3:Mv X.K F.pp M1 H1 (Dl::M1) (upd H1 Dl (.lst [])):=.newOwn hD
 refine ⟨fun i m σ' H'=>∃ M' ρ' acc ys,m=ds.length - i /\ i <= ds.length /\ Mv X.K F.pp M1 H1 M' H' /\ SameP X.K F.pp H1 H' /\ RSt X.K ⟨F.pp,M',H'⟩ M' H' σ' (bY ρ') /\ Dl∈M' /\ (∀ a∈M1,a∈M') /\ H' Dl=some (.lst ys) /\ Reps X.K F.pp M' H' acc ys /\
  cH g tc te (ds.drop i) acc (bY ρ') fun ys=>∀ M' H1 H' l xs,Mv X.K F.pp M H M' H1->RSt X.K F M' H1 σ ρ1->H1 l=none->H'=upd H1 l (.lst xs)->Reps X.K F.pp M' H1 ys xs->Q (.ref l) H',
  ⟨ds.length,Dl::M1,subD js ρ1,[],[],rfl,Nat.zero_le _,m3,.new hD,by rw [kO]; exact rs1.block js hD,List.mem_cons_self,fun a ha=>List.mem_cons_of_mem _ ha,ai,.nil,by rw [kO]; exact h⟩,?_⟩
 rintro i m σ' H' ⟨M',ρ',acc,ys,rfl,hil,mv,sm,rs',hDm,hsub,hDl,ra,hcoll⟩
 by_cases hlt:i < ds.length
 ·have e1:ds[i]? = some ds[i]:=by simp [hlt]
  rw [List.drop_eq_getElem_cons hlt] at hcoll
  refine .inr ⟨ok.go M' H' mv i hlt,fun σ2 H2=>∃ M2 ρ2 acc ys,Mv X.K F.pp M1 H1 M2 H2 /\ SameP X.K F.pp H1 H2 /\ RSt X.K ⟨F.pp,M2,H2⟩ M2 H2 σ2 (bY ρ2) /\ Dl∈M2 /\ (∀ a∈M1,a∈M2) /\ H2 Dl=some (.lst ys) /\ Reps X.K F.pp M2 H2 acc ys /\
   cH g tc te (ds.drop (i + 1)) acc (bY ρ2) fun ys=>∀ M' H1 H' l xs,Mv X.K F.pp M H M' H1->RSt X.K F M' H1 σ ρ1->H1 l=none->H'=upd H1 l (.lst xs)->Reps X.K F.pp M' H1 ys xs->Q (.ref l) H',
   fun σ2 H2 ⟨M2,ρ2,acc,ys,a1,a2,a3,a4,a5,a6,a7,a8⟩=>⟨ds.length - (i + 1),by omega,M2,ρ2,acc,ys,rfl,hlt,a1,a2,a3,a4,a5,a6,a7,a8⟩,fun y H2 yl=>?_⟩
  obtain ⟨sp,rx⟩:=ok.yld M' H' mv i _ y H2 e1 yl
  have rs'':RSt X.K ⟨F.pp,M',H2⟩ M' H2 σ' (bY ρ'):=by
   have:=(rs'.sameP sp).rebase
   rw [pB] at this
   exact this
  have mv2:=mv.trans (sp.mv (M:=M'))
  have sm2:=sm.trans sp
  have ra2:=ra.mv (sp.mv (M:=M'))
  have hDl2:H2 Dl=some (.lst ys):=sp.keep Dl _ hDl (nw fr.2)
  refine rg M' H2 σ' (bY ρ') _ _ _ rs'' rx ((hg B).mono _ _ _ _ (fun ρ3 h3 M3 H3 σ3 m3 rs3=>?_) hcoll)
  refine rt M3 H3 σ3 ρ3 _ rs3 ((ht B).mono _ _ _ (fun b ρ4 h4 M4 H4 m4 rs4=>?_) h3)
  -- what stands behind a step within this turn
  have keep:∀ {M5:List Addr} {H5:Hp} {σ5:St} {ρ5:DS},Mv X.K F.pp M' H2 M5 H5->RSt X.K ⟨F.pp,M',H2⟩ M5 H5 σ5 ρ5->Mv X.K F.pp M1 H1 M5 H5 /\ SameP X.K F.pp H1 H5 /\ RSt X.K ⟨F.pp,M5,H5⟩ M5 H5 σ5 (bY ρ5) /\ Dl∈M5 /\ (∀ a∈M1,a∈M5) /\ H5 Dl=some (.lst ys) /\ Reps X.K F.pp M5 H5 acc ys:=fun mm rr =>
   ⟨mv2.trans mm,sm2.trans rr.sameT,rr.rebase,rr.sub _ hDm,fun a ha=>rr.sub _ (hsub a ha),rr.same.keep Dl _ hDl2 (nw fr.2),ra2.mv mm⟩
  cases b with
  | false =>
   refine iteF ?_
   obtain ⟨a1,a2,a3,a4,a5,a6,a7⟩:=keep (m3.trans m4) rs4
   exact ⟨M4,ρ4,acc,ys,a1,a2,a3,a4,a5,a6,a7,h4.no rfl⟩
  | true =>
   refine iteT (re M4 H4 σ3 ρ4 _ rs4 ((he B).mono _ _ _ (fun y ρ5 h5 M5 H5 v m5 rs5 r5=>?_) (h4.yes rfl)))
   obtain ⟨a1,a2,a3,a4,a5,a6,a7⟩:=keep ((m3.trans m4).trans m5) rs5
   have mw:Mv X.K F.pp M5 H5 M5 (upd H5 Dl (.lst (ys++[v]))):=.write a6 a4 fr.2
   refine ⟨ys,a6,by rw [← a7.length]; exact h5.1,M5,ρ5,acc++[y],ys++[v],a1.trans mw,?_,a3.writeFree a4 fr.2 a6,a4,a5,ai,(a7.append (.one r5)).mv mw,h5.2⟩
   refine ⟨⟨fun b o e n=>?_,fun p e hp=>mw.pen p e (a2.pen p e hp),fun b hb=>?_⟩,fun tb=>mw.tb (a2.tb tb)⟩
   ·rw [ah (by rintro rfl; rw [hD] at e; cases e)]
    exact a2.keep b o e n
   ·by_cases z:b=Dl
    ·subst z; rw [ai]; intro z; cases z
    ·rw [ah z]; exact a2.live b hb
 ·have e:i=ds.length:=by omega
  refine .inl ⟨ok.stop M' H' mv i (by omega),?_⟩
  have hd:ds.drop i=[]:=by rw [List.drop_eq_nil_iff]; omega
  rw [hd] at hcoll
  have sd:SameP X.K F.pp H1 (delH H' Dl):=by
   refine ⟨⟨fun b o e n=>?_,fun p e hp=>?_,fun b hb=>?_⟩,fun tb=>(sm.tb tb).del hDl lH⟩
   ·rw [cX (by rintro rfl; rw [hD] at e; cases e)]
    exact sm.keep b o e n
   ·obtain ⟨a,ns,t,l,pn⟩:=sm.pen p e hp
    have np:p≠Dl:=by rintro rfl; exact fr.2 e
    refine ⟨a,ns,t,l,by rw [cX np]; exact pn.lst,?_,pn.t0⟩
    rcases pn.scr with ⟨o,q⟩ | q
    ·exact .inl ⟨o,by rw [cX (ku q hDl (by intro z; cases z))]; exact q⟩
    ·exact .inr q
   ·rw [cX (by rintro rfl; exact hb hD)]
    exact sm.live b hb
  have md:Mv X.K F.pp M' H' M1 (delH H' Dl):=by
   refine ⟨fun a xs q=>by rw [cX (ku q hDl (by intro z; cases z))]; exact q,fun a o q n p=>⟨by rw [cX (by rintro rfl; exact n hDm)]; exact q,fun z=>n (hsub a z)⟩,fun p e hp=>?_,fun tb=>tb.del hDl lH⟩
   obtain ⟨a,ns,t,l,pn⟩:=hp
   have np:p≠Dl:=by rintro rfl; exact fr.2 e
   refine ⟨a,ns,t,l,by rw [cX np]; exact pn.lst,?_,pn.t0⟩
   rcases pn.scr with ⟨o,q⟩ | q
   ·exact .inl ⟨o,by rw [cX (ku q hDl (by intro z; cases z))]; exact q⟩
   ·exact .inr q
  exact hcoll M1 (delH H' Dl) H' Dl ys (m1.trans sd.mv) (rs1.sameP sd) tO (vM hDl).symm (ra.mv md)
theorem gX {e:Expr} {t:DA} {i:Nat} {y:Str} {py pos:Pos} (hN:X.N.Nodup) (hy:X.N[i]? = some y) (hl:X.env.scope.names.lookup y=some .local) (h:PCD X e t) (hsw:swapsWith e (some (.Name y py)) pos.line X.env=pure true:=by rfl):PSD X (.Assign [.Name y py] e pos) (dSet i (dFrz t)):=by
 obtain ⟨T,_,p,r⟩:=h.run
 refine ⟨_,p i y py pos hN hy hl hsw,fun {F} M H σ ρ E D rs o q=>r M H σ ρ _ rs (h.mono _ _ _ (fun ds ρ1 q M1 H1 H' l xs m1 rs1 hl e r1=>?_) q)⟩
 subst e
 refine o.nx M1 _ _ _ (m1.trans (.new hl)) ((rs1.sameP (.new hl)).set ?_ i) q
 simp only [Rep]
 exact ⟨l,xs,rfl,(rs1.liv.fresh hl).1,(rs1.liv.fresh hl).2,ai,r1.mv (.new hl)⟩
end
end DL
namespace L2
open PySem PySem.Spec PyProof.Rows
section
variable {X:Cx} {tg:Expr}
theorem vN (hc:X.calm=true):cx X (.builtin "sum") (fun xs H Q=>∃ (p:Addr) (ns:List Int),xs=[.ref p] /\ SqL X.K H p (ns.map V.int) /\ Q (.int ns.sum) H):=by
 intro pins s σ H xs us Q I r h
 obtain ⟨p,ns,rfl,hl,q⟩:=h
 obtain ⟨u,rfl,e⟩:=iM r
 cases e
 obtain ⟨its,rv,pl,_⟩:=I.list hl
 have hi:IntsAre its ns:=gM rv
 obtain ⟨ps,e⟩:=hi.allInts.items
 have il:=pl.isList
 rw [e] at il
 refine sum_intListG (I.ok.hd hc) il fun h' tk t' hk=>⟨.int ns.sum,H,I.kept hk,⟨t',?_⟩,q⟩
 have e2:numsOf its=ns:=hi.numsOf
 have e3:=nums_intItems ps
 rw [← e] at e3
 have e4:ps.toList.map (·.1)=ns:=by rw [← e3,← e2]
 rw [preSum_eq,List.take_of_length_le (by simp),e4]
def iSeq (K:PySem.W.Frag) (tl:TE):TI:=fun σ H R=>tl σ H fun x H1=>(∃ a,x = .ref a /\ (∃ xs,SqL K H1 a xs) /\ R (Itl K a) H1)∨(∃ a,x = .ref a /\ (∃ xs,SqT K H1 a xs) /\ R (Itt K a) H1)
theorem Ap {l:Expr} {tl:TE} (hl:PE X l tl):PI X tg l (iSeq X.K tl):=by
 intro pins s σ H R I h
 refine thn (hl pins s σ H _ I h) fun v s1 ⟨x,H1,I1,r1,q1⟩=>?_
 rcases q1 with ⟨a,rfl,⟨xs,hq⟩,q⟩ | ⟨a,rfl,⟨xs,hq⟩,q⟩
 ·cases r1
  obtain ⟨its,rv,p,hz⟩:=I1.list hq
  refine wpAny_pyIter_list p.isList ⟨s1.heap.objs.size,[s1.heap.objs.size],_,_,H1,rfl,I1.kept (t':=s1.toks) (fun b o e=>Heap.get?_push_of_some _ e),mD a _,⟨_,Heap.get?_push_size _ rfl,rfl,rfl⟩,fun b hb=>?_,q⟩
  rw [show b=s1.heap.objs.size by simpa using hb]
  exact I1.fpOk (Nat.le_refl _) (I1.hok.fresh (Nat.le_refl _))
 ·cases r1
  obtain ⟨its,rv,p,hz⟩:=I1.tuple hq
  refine wpAny_pyIter_tuple (show s1.heap.IsTuple a its.toArray from p) ⟨s1.heap.objs.size,[s1.heap.objs.size],_,_,H1,rfl,I1.kept (t':=s1.toks) (fun b o e=>Heap.get?_push_of_some _ e),kG a _,⟨_,Heap.get?_push_size _ rfl,rfl,rfl⟩,fun b hb=>?_,q⟩
  rw [show b=s1.heap.objs.size by simpa using hb]
  exact I1.fpOk (Nat.le_refl _) (I1.hok.fresh (Nat.le_refl _))
end
end L2
namespace DL
open PySem PySem.Spec L2
open PyProof.Rows hiding St
variable [TB]
variable [Frm]
section
variable {X:Cx}
def jE:List D->Option (List Int)
 | []=>some []
 | .int i::r=>(jE r).map (i :: ·)
 | _=>none
theorem kP:∀ ns:List Int,jE (ns.map D.int)=some ns
 | []=>rfl
 | n::r=>by simp [jE,kP r]
theorem nG:∀ {ds:List D} {ns:List Int},jE ds=some ns->ds=ns.map D.int
 | [],ns,h=>by cases h; rfl
 | .int i::r,ns,h=>by
  simp only [jE,Option.map_eq_some_iff] at h
  obtain ⟨ms,h,rfl⟩:=h
  rw [nG h]; rfl
theorem nH {K:PySem.W.Frag} {pp:Option Addr} {M:List Addr} {H:Hp}:∀ {ns:List Int} {xs:List V},Reps K pp M H (ns.map D.int) xs->xs=ns.map V.int
 | [],xs,h=>by simpa only [List.map_nil,Reps] using h
 | n::r,xs,h=>by
  simp only [List.map_cons,Reps,Rep] at h
  obtain ⟨x,t,rfl,rfl,h⟩:=h
  rw [nH h]; rfl
def gSum:DSp:=fun ds P=>match ds with
 | [.lst xs]=>match jE xs with
  | some ns=>P (.int ns.sum)
  | none=>False
 | _=>False
theorem lO {ns:List Int} {P:D->Prop} (h:P (.int ns.sum)):gSum [.lst (ns.map D.int)] P:=by
 unfold gSum
 simp only [kP]
 exact h
theorem qq {ds:List D} {P:D->Prop} (h:gSum ds P):∃ ns:List Int,ds=[.lst (ns.map D.int)] /\ P (.int ns.sum):=by
 unfold gSum at h
 split at h
 ·rename_i xs
  cases e:jE xs with
  | none=>rw [e] at h; exact h.elim
  | some ns =>
   rw [e] at h
   exact ⟨ns,by rw [nG e],h⟩
 ·exact h.elim
theorem tQ (hc:X.calm=true:=by rfl):CallD X (.builtin "sum") gSum:=by
 refine ⟨fun ds P P' f h=>?_,_,vN hc,fun {pp} M H ds vs Q _ r h=>?_⟩
 ·obtain ⟨ns,rfl,h2⟩:=qq h
  exact lO (f _ h2)
 ·obtain ⟨ns,rfl,h2⟩:=qq h
  simp only [Reps,Rep] at r
  obtain ⟨x,_,rfl,⟨a,ys,rfl,_,_,ha,ry⟩,rfl⟩:=r
  refine ⟨a,ns,rfl,SqL.of (by rw [ha,nH ry]),h2 H _ .refl bB⟩
abbrev BZ (te:DE):DA:=fun ρ Q=>te ρ fun d ρ'=>match d with
 | .lst ds=>Q ds ρ'
 | .tup ds=>Q ds ρ'
 | _=>False
theorem wT {tg l:Expr} {te:DE} (hl:PED X l te):PID X tg l (BZ te):=by
 obtain ⟨T,p,r⟩:=hl.run
 refine ⟨fun _ _ _ f h=>hl.mono _ _ _ (fun d _ h=>?_) h,_,Ap p,fun {F} M H σ ρ R rs h=>r M H σ ρ _ rs (hl.mono _ _ _ (fun d ρ' h M' H' v m rs' rd=>?_) h)⟩
 ·cases d <;> first | exact h.elim | exact f _ _ h
 ·cases d <;> first | exact h.elim | skip
  all_goals simp only [Rep] at rd
  case tup ds =>
   obtain ⟨a,xs,rfl,ha,rd⟩:=rd
   refine .inr ⟨a,rfl,⟨xs,SqT.of ha⟩,h M' H' _ m rs' (ItOkV.of (vs:=xs) ⟨fun M2 H2 m2 i x H3 _ y=>?_,fun M2 H2 m2 i hi=>?_,fun M2 H2 m2 i hi=>?_⟩ rd)⟩
   ·exact ⟨y.1,y.2 xs (SqT.of (m2.tup a xs ha))⟩
   ·exact ⟨xs,xs[i],SqT.of (m2.tup a xs ha),by simp [hi]⟩
   ·exact ⟨xs,SqT.of (m2.tup a xs ha),hi⟩
  case lst ds =>
   obtain ⟨a,xs,rfl,hm,hp,ha,rd⟩:=rd
   refine .inl ⟨a,rfl,⟨xs,SqL.of ha⟩,h M' H' _ m rs' (ItOkV.of (vs:=xs) ⟨fun M2 H2 m2 i x H3 _ y=>?_,fun M2 H2 m2 i hi=>?_,fun M2 H2 m2 i hi=>?_⟩ rd)⟩
   ·exact ⟨y.1,y.2 xs (SqL.of (m2.lst a xs ha hm hp).1)⟩
   ·exact ⟨xs,xs[i],SqL.of (m2.lst a xs ha hm hp).1,by simp [hi]⟩
   ·exact ⟨xs,SqL.of (m2.lst a xs ha hm hp).1,hi⟩
end
theorem bj {g:DG} {tc:DT} {te:DE} {ds:List D} {Q:List D->Prop} (N:List D->List D->DS->Prop) (hn:∀ acc ρ,N ds acc ρ->Q acc)
  (hs:∀ (pre:List D) (d:D) (post acc:List D) (ρ:DS) (Y:List D->DS->Prop),ds=pre++d::post->N pre acc ρ->(∀ acc' ρ',N (pre++[d]) acc' (bY ρ')->Y acc' ρ') ->
   g d ρ fun ρ1=>tc ρ1 fun b ρ2=>Br b (te ρ2 fun y ρ3=>acc.length < sizeLine /\ Y (acc++[y]) ρ3) (Y acc ρ2)) (ρ:DS) (h:N [] [] ρ):cH g tc te ds [] ρ Q:=by
 have key:∀ (post pre acc:List D),ds=pre++post->∀ ρ,N pre acc ρ->cH g tc te post acc ρ Q:=by
  intro post
  induction post with
  | nil=>intro pre acc e ρ h; rw [List.append_nil] at e; subst e; exact hn acc ρ h
  | cons d r ih=>intro pre acc e ρ h; exact hs pre d r acc ρ (fun acc' ρ'=>cH g tc te r acc' (bY ρ') Q) e h (fun acc' ρ' h'=>ih (pre++[d]) acc' (by rw [e,List.append_assoc]; rfl) _ h')
 exact key ds [] [] rfl ρ h
theorem aQ {g:DG} {te:DE} {ds:List D} {Q:List D->Prop} (f:D->D) (N:DS->Prop) (hl:ds.length <= sizeLine)
  (hs:∀ d∈ds,∀ (ρ:DS) (Y:D->DS->Prop) (Z:DS->Prop),N ρ->(∀ ρ',N (bY ρ')->Y (f d) ρ')->g d ρ fun ρ1=>bU ρ1 fun b ρ2=>Br b (te ρ2 Y) (Z ρ2)) (ρ:DS) (h:N ρ) (hq:Q (ds.map f)):cH g bU te ds [] ρ Q:=by
 refine bj (fun pre acc ρ=>acc=pre.map f /\ N ρ) (fun acc ρ h=>by rw [h.1]; exact hq) (fun pre d post acc ρ Y e hN hY=>?_) ρ ⟨rfl,h⟩
 obtain ⟨rfl,hN⟩:=hN
 have hlt:(pre.map f).length < sizeLine:=by
  rw [List.length_map]
  have:ds.length=pre.length + (post.length + 1):=by rw [e]; simp
  omega
 refine hs d (by rw [e]; simp) ρ (fun y ρ3=>(pre.map f).length < sizeLine /\ Y (pre.map f++[y]) ρ3) (fun ρ2=>Y (pre.map f) ρ2) hN fun ρ' h'=>⟨hlt,hY _ ρ' ⟨by simp,h'⟩⟩
end DL
namespace DL
open PySem PySem.Spec L2
open PyProof.Rows hiding St
variable [TB]
variable [Frm]
structure Shp (n:Nat) (d:D):Prop where
 p:pln d=true
 c:(toPy d).canLay0=true
 d:(toPy d).depth <= n
theorem Shp.mono {m n:Nat} {d:D} (h:Shp m d) (l:m <= n):Shp n d:=⟨h.p,h.c,Nat.le_trans h.d l⟩
theorem Shp.shp {n:Nat} {d:D} (h:Shp n d) (l:n <= 64:=by decide):shp d=true:=by
 unfold DL.shp SeqAt.shaped
 rw [h.p,h.c,decide_eq_true (Nat.le_trans h.d l)]; rfl
theorem Shp.int {i:Int} {n:Nat}:Shp n (.int i):=⟨rfl,rfl,Nat.zero_le _⟩
theorem pC {n:Nat}:∀ {ds:List D},(∀ d∈ds,Shp n d)->plns ds=true /\ PyData.canLayAll0 (lL ds)=true /\ PyData.depthAll (lL ds) <= n
 | [],_=>⟨rfl,rfl,Nat.zero_le _⟩
 | d::ds,h=>by
  obtain ⟨a,b,c⟩:=pC (ds:=ds) fun x hx=>h x (List.mem_cons_of_mem _ hx)
  have q:=h d List.mem_cons_self
  refine ⟨by simp only [plns,q.p,a,Bool.and_self],by simp only [lL,PyData.canLayAll0,q.c,b,Bool.and_self],?_⟩
  simp only [lL,PyData.depthAll]
  exact Nat.max_le.mpr ⟨q.d,c⟩
theorem Shp.tup {n:Nat} {ds:List D} (h:∀ d∈ds,Shp n d):Shp (n + 1) (.tup ds):=by
 obtain ⟨a,b,c⟩:=pC h
 exact ⟨by simp only [pln,a],by simp only [toPy,PyData.canLay0,b],by simp only [toPy,PyData.depth]; omega⟩
theorem Shp.lst {n:Nat} {ds:List D} (h:∀ d∈ds,Shp n d):Shp (n + 1) (.lst ds):=by
 obtain ⟨a,b,c⟩:=pC h
 exact ⟨by simp only [pln,a],by simp only [toPy,PyData.canLay0,b],by simp only [toPy,PyData.depth]; omega⟩
theorem gx {d:D} (h:shp d=true):eqD d d=true:=by
 unfold shp at h
 rw [Bool.and_eq_true] at h
 exact SeqAt.eqv_refl _ (SeqAt.canLay_of_shaped h.2)
theorem Shp.pair {n:Nat} {i j:Int}:Shp (n + 1) (.tup [.int i,.int j]):=.tup fun d hd=>by
 simp only [List.mem_cons,List.not_mem_nil,or_false] at hd
 rcases hd with rfl | rfl <;> exact .int
end DL
namespace DL
open PySem PySem.Spec L2
open PyProof.Rows hiding St
variable [TB]
abbrev DSpE:=List D->(D->Prop)->(Addr->Prop)->Prop
section
variable [Frm] {X:Cx} {x:Str} {p pos np cpos:Pos} {e:Expr} {es:List Expr} {t:DA} {g:DSpE} {W:DS->Addr->Prop}
end
section
variable [fr0:Frm] {X:Cx} {body suite:List Stmt} {b0:Stmt} {n x:Str} {np hpos pos:Pos} {C0:Addr} {i:Nat} {tb:(DS->Addr->Prop)->DTS} {th:DTS} {K:PySem.W.Frag}
theorem RSt.setNil {K:PySem.W.Frag} {F:Fx} {M:List Addr} {H:Hp} {σ:St} {ρ:DS} {o:Option V} (r:RSt K F M H σ ρ) (i:Nat):RSt K F M H (σ.set i o) (ρ.set i .nil):=by
 refine ⟨by simp [r.len],fun j s o h1 h2=>?_,r.ow.drop i (fun j e=>List.getElem?_set_ne (Ne.symm e)) (fun j e=>List.getElem?_set_ne (Ne.symm e)) (fun s e=>?_),r.sub,r.same,r.old,r.liv0,r.lk⟩
 ·by_cases e:i=j
  ·subst e
   rw [aB h1]
   trivial
  ·rw [List.getElem?_set_ne e] at h1 h2
   exact r.sl j s o h1 h2
 ·rw [aB e]
  exact ⟨fun ds z=>(by cases z),fun q z=>(by cases z)⟩
end
section
variable [Frm] {X:Cx} {x:Str} {pos:Pos}
theorem jF {e tg:Expr} {te:DE} {g:DG} (he:PED X e te) (hg:PGD X tg g) (hs:swapsWithSole [tg] e pos.line X.env=pure false:=by rfl) (hw:swappedStores [tg] e X.env=pure none:=by rfl)
  (h1:(assignEach [tg] X.env).map (·.2)=[assign tg X.env]:=by rfl):PSD X (.Assign [tg] e pos) (dAsg te g) :=
 Ad he hg hs hw (kF (Classical.choose_spec he.run).1 (Classical.choose_spec hg.run).1 hs hw h1)
end
end DL
namespace L2
open PySem PySem.Spec PyProof.Rows
section
variable {X:Cx} {tg:Expr}
end
end L2
namespace DL
open PySem PySem.Spec L2
open PyProof.Rows hiding St
variable [TB]
variable [Frm]
section
variable {X:Cx}
end
omit [Frm] in
theorem Br.di {p:Prop} [Decidable p] {A B:Prop} (a:p->A) (b:¬p->B):Br (decide p) A B:=⟨fun z=>a (of_decide_eq_true z),fun z=>b (of_decide_eq_false z)⟩
theorem gy {g:DG} {b:DTS} {E:DEnds} (N:Int->DS->Prop):∀ (n:Nat) (lo:Int),(∀ ρ,N (lo + n) ρ->E.nx ρ) ->
  (∀ (k:Int) (ρ:DS) (X:DS->Prop),lo <= k->k < lo + n->N k ρ->(∀ ρ',N (k + 1) ρ'->X ρ')->g (.int k) ρ fun ρ1=>b { E with nx:=X,ct:=X,bk:=E.nx } ρ1)->∀ ρ,N lo ρ->lK g b (ee lo n) E ρ
 | 0,lo,hn,_,ρ,h=>hn ρ (by simpa using h)
 | n + 1,lo,hn,hs,ρ,h=>hs lo ρ _ (Int.le_refl _) (by omega) h fun ρ' h'=>gy N n (lo + 1) (fun ρ h=>hn ρ (by rw [show lo + ((n + 1:Nat):Int)=lo + 1 + (n:Int) by omega]; exact h)) (fun k ρ X h1 h2=>hs k ρ X (by omega) (by omega)) ρ' h'
end DL
namespace L2
open PySem PySem.Spec PyProof.Rows
section
variable {X:Cx} {pins:List (Addr×Obj)} {σ:St} {H:Hp} {s:Shared} {h':Heap}
theorem Inv.turnedN {ch:List Addr} {T:Addr} {o:HO} {t':Nat} (I:Inv X pins σ H s) (hf:∀ b∈ch,FpOk X pins H b) (k:∀ b u,b∉ch->s.heap.get? b=some u->h'.get? b=some u) (hT:s.heap.objs.size <= T)
  (new:ObjOk X.prog X.w (upd H T o) h' T o):Inv X pins σ (upd H T o) { s with heap:=h',toks:=t' }:=by
 have hn:=I.hok.fresh hT
 refine I.call' (s':={ s with heap:=h',toks:=t' }) (ch:=ch) rfl ⟨fun b u q _ _ hx=>k b u hx q,fun b u q _ _ hx=>⟨u.slots,k b u hx q⟩,fun b u q n _=>?_,fun b u q hx=>⟨u,k b u hx q⟩,fun b xs e=>?_,fun b p u e=>?_,fun b ps e=>⟨#[],?_⟩⟩ (fun a q e=>?_) I.bare
  (fun b hb=>⟨(hf b hb).2.2.2.1,(hf b hb).2.1,(hf b hb).2.2.2.2.1,(hf b hb).2.2.2.2.2⟩)
 ·rw [ah (Nat.ne_of_lt (Nat.lt_of_lt_of_le (Heap.lt_size q) hT))]; exact n
 ·rw [ah (by rintro rfl; rw [hn] at e; cases e)]; exact e
 ·rw [ah (by rintro rfl; rw [hn] at e; cases e)]; exact e
 ·rw [ah (by rintro rfl; rw [hn] at e; cases e)]; simpa using e
 ·by_cases z:a=T
  ·subst z
   rw [ai] at e
   cases e
   exact new
  ·rw [ah z] at e
   refine ObjOk.stay (I.hok a q e) (fun b u hb q'=>k b u (fun hc=>?_) q') (fun b hb=>?_) (fun b xs hb=>?_)
   ·have:=(hf b hc).1
    rcases hb with rfl | hb
    ·rw [this] at e; cases e
    ·rw [this] at hb; cases hb
   ·rw [ah (by rintro rfl; rw [hn] at hb; cases hb)]; exact hb
   ·rw [ah (by rintro rfl; rw [hn] at hb; cases hb)]; exact hb
theorem Inv.turnedL {ch:List Addr} {t':Nat} (I:Inv X pins σ H s) (hf:∀ b∈ch,FpOk X pins H b) (k:∀ b u,b∉ch->s.heap.get? b=some u->h'.get? b=some u):Inv X pins σ H { s with heap:=h',toks:=t' }:=by
 refine I.call' (s':={ s with heap:=h',toks:=t' }) (ch:=ch) rfl ⟨fun b u q _ _ hx=>k b u hx q,fun b u q _ _ hx=>⟨u.slots,k b u hx q⟩,fun b u q n _=>n,fun b u q hx=>⟨u,k b u hx q⟩,fun b xs e=>e,fun b p u e=>e,fun b ps e=>⟨#[],by simpa using e⟩⟩ (fun a q e=>?_) I.bare
  (fun b hb=>⟨(hf b hb).2.2.2.1,(hf b hb).2.1,(hf b hb).2.2.2.2.1,(hf b hb).2.2.2.2.2⟩)
 refine ObjOk.stay (I.hok a q e) (fun b u hb q'=>k b u (fun hc=>?_) q') (fun b hb=>hb) (fun b xs hb=>hb)
 have:=(hf b hc).1
 rcases hb with rfl | hb
 ·rw [this] at e; cases e
 ·rw [this] at hb; cases hb
end
theorem tR:bootBuiltins "enumerate" = some (.type "enumerate"):=by decide +kernel
theorem vO:bootBuiltins "zip" = some (.type "zip"):=by decide +kernel
section
variable {X:Cx}
end
end L2
namespace DL
open PySem PySem.Spec L2
open PyProof.Rows hiding St
variable [TB]
variable [Frm]
section
variable {X:Cx} {F:Fx}
def cY (k:Nat):List D->List D
 | []=>[]
 | d::r=>.tup [.int k,d]::cY (k + 1) r
omit [Frm] in
theorem bm:∀ (ds:List D) (k:Nat),(cY k ds).length=ds.length
 | [],_=>rfl
 | _::r,k=>by simp [cY,bm r]
omit [Frm] in
theorem nI:∀ (ds:List D) (k i:Nat) (d:D),(cY k ds)[i]? = some d->∃ e,ds[i]? = some e /\ d = .tup [.int ((k + i:Nat):Int),e]
 | [],_,i,d,h=>by simp [cY] at h
 | e::r,k,0,d,h=>by
  simp [cY] at h
  exact ⟨e,rfl,h.symm⟩
 | e::r,k,i + 1,d,h=>by
  simp only [cY,List.getElem?_cons_succ] at h ⊢
  obtain ⟨e',h1,h2⟩:=nI r (k + 1) i d h
  exact ⟨e',h1,by rw [h2]; congr 3; congr 1; omega⟩
def zipD:List D->List D->List D
 | x::xs,y::ys=>.tup [x,y]::zipD xs ys
 | _,_=>[]
omit [Frm] in
theorem jG:∀ (xs ys:List D),(zipD xs ys).length=min xs.length ys.length
 | [],_=>by simp [zipD]
 | _::_,[]=>by simp [zipD]
 | _::xs,_::ys=>by simp [zipD,jG xs ys]
omit [Frm] in
theorem qr:∀ (xs ys:List D) (i:Nat) (d:D),(zipD xs ys)[i]? = some d->∃ x y,xs[i]? = some x /\ ys[i]? = some y /\ d = .tup [x,y]
 | [],_,i,d,h=>by simp [zipD] at h
 | _::_,[],i,d,h=>by simp [zipD] at h
 | x::xs,y::ys,0,d,h=>by
  simp [zipD] at h
  exact ⟨x,y,rfl,rfl,h.symm⟩
 | x::xs,y::ys,i + 1,d,h=>by
  simp only [zipD,List.getElem?_cons_succ] at h ⊢
  exact qr xs ys i d h
def Aq (k:Nat) (d:D) (ρ:DS) (Q:DS->Prop) (j:D):Sl->Prop
 | .own ds=>match j with
  | .int i=>∃ n,ixN ds.length i=some n /\ Q (ρ.set k (.own (ds.set n d)))
  | _=>False
 | _=>False
abbrev Ca (k:Nat) (ti:DE):DG:=fun d ρ Q=>Aj (slot ρ k) /\ ti ρ fun j ρ'=>Aq k d ρ' Q j (slot ρ' k)
theorem wU {k:Nat} {o i:Expr} {ti:DE} {pos:Pos} (ho:PE X o (tVar k)) (hi:PED X i ti)
  (ha:∀ v,assign (.Subscript o i pos) X.env v=(do
   let ov ← holding [v] (eval o X.env)
   let iv ← holding [v,ov] (eval i X.env)
   standAt pos
   holding [v,ov,iv] (setItem ov iv v)
   release [v,ov,iv] []):=by intro _; rfl):PGD X (.Subscript o i pos) (Ca k ti):=by
 obtain ⟨T,p,r⟩:=hi.run
 refine ⟨fun d ρ P P' f h=>⟨h.1,hi.mono _ _ _ (fun j ρ' h=>?_) h.2⟩,_,sE ho p lq ha,fun {F} M H σ ρ d v Q rs rd h=>?_⟩
 ·cases q:slot ρ' k with
  | nil=>rw [q] at h; exact h.elim
  | val d=>rw [q] at h; exact h.elim
  | pin w d=>rw [q] at h; exact h.elim
  | obj z=>rw [q] at h; exact h.elim
  | own ds =>
   rw [q] at h
   cases j <;> first | exact h.elim | (obtain ⟨n,e,h⟩:=h; exact ⟨n,e,f _ h⟩)
 ·obtain ⟨h0,h⟩:=h
  cases q:slot ρ k with
  | nil=>rw [q] at h0; exact h0.elim
  | val d=>rw [q] at h0; exact h0.elim
  | pin w d=>rw [q] at h0; exact h0.elim
  | obj z=>rw [q] at h0; exact h0.elim
  | own ds =>
   obtain ⟨oo1,ho1,l,xs,rfl,hm1,h01,hp1,hl1,hr1⟩:=rs.at (aI q (by intro z; cases z))
   refine ⟨.ref l,ho1,?_⟩
   refine r M H σ ρ _ rs (hi.mono _ _ _ (fun j ρ' h M' H' w m rs' rj=>?_) h)
   cases q':slot ρ' k with
   | nil=>rw [q'] at h; exact h.elim
   | val d=>rw [q'] at h; exact h.elim
   | pin w d=>rw [q'] at h; exact h.elim
   | obj z=>rw [q'] at h; exact h.elim
   | own ds' =>
    rw [q'] at h
    cases j <;> first | exact h.elim | skip
    rename_i j
    obtain ⟨n,e,h⟩:=h
    have g1:=aI q' (by intro z; cases z)
    obtain ⟨l',xs',e',hm',h0',hp',hl',hr'⟩:=rs'.sl k _ _ g1 ho1
    cases e'
    simp only [Rep] at rj
    subst rj
    obtain ⟨m2,rs2⟩:=rs'.write g1 ho1 (hr'.set (rd.mv m) n)
    exact ⟨l,xs',j,n,rfl,rfl,hl',by rw [← hr'.length]; exact e,h M' _ _ (m.trans m2) rs2⟩
omit [Frm] in
theorem wV {n:Nat} {i:Int} (h0:0 <= i) (h:i < n):ixN n i=some i.toNat:=by
 unfold ixN
 rw [if_pos h0,if_pos h]
end
end DL
namespace DL
open PySem PySem.Spec L2
open PyProof.Rows hiding St
variable [TB]
abbrev DTN:=(D->Prop)->(List D->Prop)->DS->Prop
section
variable [Frm]
structure EN (K:PySem.W.Frag) (F:Fx) (M:List Addr) (H:Hp) (Q:D->Prop) (L:List D->Prop) (D:Ends):Prop where
 rt:∀ M' H' σ' ρ' d v,Mv K F.pp M H M' H'->RSt K F M' H' σ' ρ'->Rep K F.pp M' H' d v->Q d->D.rt v H'
 nx:∀ M' H' σ' ρ',Mv K F.pp M H M' H'->RSt K F M' H' σ' ρ'->Q .non->D.nx σ' H'
 nw:∀ M' H' ds l xs,SameP K F.pp F.H0 H'->(∀ a∈F.M0,a∈M')->F.H0 l=none->F.pp≠some l->l∈M'->H' l=some (.lst xs)->Reps K F.pp M' H' ds xs->L ds->D.rt (.ref l) H'
theorem EN.mv {K:PySem.W.Frag} {F:Fx} {M M1:List Addr} {H H1:Hp} {Q:DL.D->Prop} {L:List DL.D->Prop} {D:Ends} (o:EN K F M H Q L D) (m:Mv K F.pp M H M1 H1):EN K F M1 H1 Q L D :=
 ⟨fun _ _ _ _ _ _ m'=>o.rt _ _ _ _ _ _ (m.trans m'),fun _ _ _ _ m'=>o.nx _ _ _ _ (m.trans m'),o.nw⟩
def PSsN (X:Cx) (st:List Stmt) (t:DTN):Prop:=∃ T:TS,PSs X st T /\ ∀ {F:Fx} M H σ ρ (Q:D->Prop) (L:List D->Prop) (D:Ends),RSt X.K F M H σ ρ->EN X.K F M H Q L D->t Q L ρ->T D σ H
variable {X:Cx} {st:Stmt} {rest:List Stmt} {t:DTS} {u:DTN} {e:Expr} {tl:DA} {pos:Pos}
theorem yw (h:PLD X e tl):PSsN X [.Return (some e) pos] (fun _ L ρ=>tl ρ fun ds _=>L ds):=by
 obtain ⟨T,p,r⟩:=h.run
 refine ⟨_,dW (mC p),fun {F} M H σ ρ Q L D rs en q=>r M H σ ρ _ rs (h.mono _ _ _ (fun ds ρ' q M' H1 H' l xs m rs' hl e r'=>?_) q)⟩
 subst e
 have h0:F.H0 l=none:=by
  cases e:F.H0 l with
  | none=>rfl
  | some o=>exact absurd hl (rs'.same.live l (by rw [e]; intro z; cases z))
 exact en.nw (l::M') _ ds l xs (rs'.sameT.trans (.new hl)) (fun a ha=>List.mem_cons_of_mem _ (rs'.sub a ha)) h0 (rs'.liv.fresh hl).2 List.mem_cons_self ai (r'.mv (.newOwn hl)) q
theorem qt (h1:PSD X st t) (h2:PSsN X rest u):PSsN X (st::rest) (fun Q L ρ=>t { nx:=u Q L,rt:=Q } ρ):=by
 obtain ⟨T,p,r⟩:=h1
 obtain ⟨U,q,s⟩:=h2
 refine ⟨_,aA p q,fun {F} M H σ ρ Q L D rs en h=>r M H σ ρ { nx:=u Q L,rt:=Q } { D with nx:=U D } rs ⟨fun M' H' σ' ρ' m rs' h=>?_,fun _ _ _ _ _ _ q=>q.elim,fun _ _ _ _ _ _ q=>q.elim,en.rt⟩ h⟩
 exact s M' H' σ' ρ' Q L D rs' (en.mv m) h
theorem yx (h1:PSD X st t) (h2:PSsN X rest u):PSsN X (st::rest) (fun Q L ρ=>∃ N:DS->Prop,t { nx:=N,rt:=Q } ρ /\ ∀ ρ',N ρ'->u Q L ρ'):=by
 obtain ⟨T,p,r⟩:=h1
 obtain ⟨U,q,s⟩:=h2
 refine ⟨_,aA p q,fun {F} M H σ ρ Q L D rs en h=>?_⟩
 obtain ⟨N,h,hn⟩:=h
 refine r M H σ ρ { nx:=N,rt:=Q } { D with nx:=U D } rs ⟨fun M' H' σ' ρ' m rs' h=>?_,fun _ _ _ _ _ _ q=>q.elim,fun _ _ _ _ _ _ q=>q.elim,en.rt⟩ h
 exact s M' H' σ' ρ' Q L D rs' (en.mv m) (hn ρ' h)
end
abbrev DSpN:=List D->(D->Prop)->(List D->Prop)->Prop
def spDN (K:PySem.W.Frag) (n:Nat) (g:DSpN):Sp:=fun vs H Q _=>∃ pp M ds,Lv pp M H /\ Reps K pp M H ds vs /\ ds.length=n /\ g ds (fun d=>∀ H' v,SameP K pp H H'->Rep K pp M H' d v->Q v H')
 (fun es=>∀ M' H' l xs,SameP K pp H H'->(∀ a∈M,a∈M')->H l=none->pp≠some l->l∈M'->H' l=some (.lst xs)->Reps K pp M' H' es xs->Q (.ref l) H')
def Ar (g:DSpN):Prop:=∀ ds P P' L L',(∀ d,P d->P' d)->(∀ es,L es->L' es)->g ds P L->g ds P' L'
theorem fnDN {P:Program} {w:World} {K:PySem.W.Frag} {mg:Str->Option Value} {base:Heap} {x qual:Str} {st:Stmt} {f:Addr} {fd:FuncData} {N ps:List Str} {k:Nat} {g:DSpN} {t:DTN} (Fn:Fun K x qual st f fd) (S:FnScope N ps (ak st))
  (hb:∀ (cdv:Value) (A:Around) (outer:List Env) (s:Shared) (H:Hp) (E:XK),Room k (A.deeper (envOfC qual (ak st) s.heap.objs.size f cdv)) -> @PSsN _ Frm.free (cxOf CX0 P w K mg base N qual (ak st) f cdv A outer s H E).nox (cy st) t)
  (hg:∀ ds Q L,ds.length=ps.length->g ds Q L->t Q L (ny N.length ds)):FnOk P w K mg base CX0 (k + 1) f fd ps (spDN K ps.length g):=by
 refine Fn.ok S (fun vs H Q E h=>?_) (fun cdv A outer s H vs Q E hr h=>?_)
 ·obtain ⟨pp,M,ds,_,r,e,_⟩:=h
  rw [← r.length,e]
 ·obtain ⟨pp,M,ds,lv,r,e,h⟩:=h
  obtain ⟨T,p,run⟩:=hb cdv A outer s H E hr
  refine ⟨T,p,run M H _ _ _ _ _ (nA lv r trivial) ⟨fun M' H' σ' ρ' d v m rs rd q=>?_,fun M' H' σ' ρ' m rs q=>?_,fun M' H' es l xs s sub h0 hp hm hl rr q=>?_⟩ (hg ds _ _ e h)⟩
  ·exact q H' v rs.sameT (rd.mv (.less rs.sub))
  ·exact q H' .non rs.sameT (by simp only [Rep])
  ·exact q M' H' l xs s sub h0 hp hm hl rr
theorem FnOk.asD {P:Program} {w:World} {K:PySem.W.Frag} {mg:Str->Option Value} {base:Heap} {k n:Nat} {f:Addr} {fd:FuncData} {ps:List Str} {g:DSpN} {g':DSp} (h:FnOk P w K mg base CX0 k f fd ps (spDN K n g)) (hg:∀ ds Q,g' ds Q->g ds Q (fun es=>Q (.lst es))) (gm:Ar g):FnOk P w K mg base CX0 k f fd ps (spD K n g') :=
 h.imp fun vs H Q E h=>by
  obtain ⟨pp,M,ds,lv,r,e,h⟩:=h
  refine ⟨pp,M,ds,lv,r,e,gm _ _ _ _ _ (fun d q=>q) (fun es q M' H' l xs s sub hl hp hm hH rr=>q H' _ s ?_) (hg _ _ h)⟩
  simp only [Rep]
  exact ⟨l,xs,rfl,(lv.fresh hl).1,hp,hH,rr.mv (.less sub)⟩
section
variable [Frm] {X:Cx}
end
end DL
namespace DL
open PySem PySem.Spec L2
open PyProof.Rows hiding St
variable [TB]
variable [Frm]
def ky:DS->Bool
 | []=>true
 | .own _::_=>false
 | .obj _::_=>false
 | _::r=>ky r
def bM:Nat->DS->Bool
 | _,[]=>true
 | 0,_::r=>ky r
 | _ + 1,.own _::_=>false
 | _ + 1,.obj _::_=>false
 | k + 1,_::r=>bM k r
omit [Frm] in
theorem jH:∀ {ρ:DS} {j:Nat} {ds:List D},ky ρ=true->ρ[j]? = some (.own ds)->False
 | [],j,ds,_,h=>by simp at h
 | s::r,0,ds,h,e=>by
  simp at e
  subst e
  simp [ky] at h
 | s::r,j + 1,ds,h,e=>by
  cases s <;> first | (simp [ky] at h; done) | exact jH (ρ:=r) (by simpa [ky] using h) (by simpa using e)
omit [Frm] in
theorem gY:∀ {ρ:DS} {k j:Nat} {ds:List D},bM k ρ=true->ρ[j]? = some (.own ds)->j=k
 | [],k,j,ds,_,h=>by simp at h
 | s::r,0,0,ds,h,e=>rfl
 | s::r,0,j + 1,ds,h,e=>(jH (ρ:=r) (by simpa [bM] using h) (by simpa using e)).elim
 | s::r,k + 1,0,ds,h,e=>by
  simp at e
  subst e
  simp [bM] at h
 | s::r,k + 1,j + 1,ds,h,e=>by
  cases s <;> first | (simp [bM] at h; done) | exact congrArg Nat.succ (gY (ρ:=r) (k:=k) (by simpa [bM] using h) (by simpa using e))
omit [Frm] in
theorem jI:∀ {ρ:DS} {j:Nat} {q:O},ky ρ=true->ρ[j]? = some (.obj q)->False
 | [],j,ds,_,h=>by simp at h
 | s::r,0,ds,h,e=>by
  simp at e
  subst e
  simp [ky] at h
 | s::r,j + 1,ds,h,e=>by
  cases s <;> first | (simp [ky] at h; done) | exact jI (ρ:=r) (by simpa [ky] using h) (by simpa using e)
omit [Frm] in
theorem kQ:∀ {ρ:DS} {k j:Nat} {q:O},bM k ρ=true->ρ[j]? = some (.obj q)->j=k
 | [],k,j,ds,_,h=>by simp at h
 | s::r,0,0,ds,h,e=>rfl
 | s::r,0,j + 1,ds,h,e=>(jI (ρ:=r) (by simpa [bM] using h) (by simpa using e)).elim
 | s::r,k + 1,0,ds,h,e=>by
  simp at e
  subst e
  simp [bM] at h
 | s::r,k + 1,j + 1,ds,h,e=>by
  cases s <;> first | (simp [bM] at h; done) | exact congrArg Nat.succ (kQ (ρ:=r) (k:=k) (by simpa [bM] using h) (by simpa using e))
section
variable {K:PySem.W.Frag} {F:Fx} {M M0 M':List Addr} {H H':Hp} {σ:St} {ρ:DS} {i:Nat} {ds:List D} {v:V}
theorem RSt.thaw (r:RSt K F M H σ ρ) (h:ρ[i]? = some (.own ds)) (oo:bM i ρ=true) (ho:σ[i]? = some (some v)) (m0:Mv K F.pp M H M0 H) (rl:Rep K F.pp M0 H (.lst ds) v) (m:Mv K F.pp M0 H M' H') (r':RSt K F M' H' σ (ρ.set i (.val (.lst ds)))) :
  ∃ M'',Mv K F.pp M H M'' H' /\ RSt K F M'' H' σ ρ:=by
 obtain ⟨o,ho1,l,xs,rfl,hm,h0,hp,hl,hr⟩:=r.at h
 rw [ho1] at ho
 cases ho
 simp only [Rep] at rl
 obtain ⟨l2,xs2,e,n2,p2,h2,r2⟩:=rl
 cases e
 rw [hl] at h2
 cases h2
 obtain ⟨hl',hn'⟩:=m.lst l xs hl n2 p2
 have mm:=m0.trans m
 have m2:Mv K F.pp M H (l::M') H':=by
  refine ⟨mm.tup,fun a o e n p=>?_,mm.pen,mm.tb⟩
  obtain ⟨q1,q2⟩:=mm.oth a o e n p
  refine ⟨q1,fun z=>?_⟩
  rcases List.mem_cons.mp z with rfl | z
  ·exact n hm
  ·exact q2 z
 refine ⟨l::M',m2,⟨r.len,fun j s o h1 h2=>?_,⟨fun j=>if j=i then [l] else [],fun j s o h1 h2=>?_,fun j a ha=>?_,fun j k e a ha hb=>?_⟩,fun a ha=>List.mem_cons_of_mem _ (r'.sub a ha),r'.same,r.old,⟨fun a ha=>?_,r'.liv.p⟩,r.lk.cl m2⟩⟩
 ·have q:=r.sl j s o h1 h2
  cases s with
  | nil=>trivial
  | val d=>obtain ⟨v,e,q⟩:=q; exact ⟨v,e,q.mv m2⟩
  | pin w d=>obtain ⟨v,e,ew,q⟩:=q; exact ⟨v,e,ew,q.mv m2⟩
  | own es =>
   have e:=gY oo h1
   subst e
   rw [h] at h1
   cases h1
   rw [ho1] at h2
   cases h2
   exact ⟨l,xs,rfl,List.mem_cons_self,h0,hp,hl',hr.mv m2⟩
  | obj z=>exact q
 ·show Ow K F _ H' s o (if j=i then [l] else [])
  cases s with
  | nil=>trivial
  | val d=>trivial
  | pin w d=>trivial
  | own es =>
   have e:=gY oo h1
   subst e
   rw [ho1] at h2
   cases h2
   rw [if_pos rfl]
   exact ⟨l,rfl,rfl⟩
  | obj z =>
   have e:=kQ oo h1
   subst e
   rw [h] at h1
   cases h1
 ·replace ha:a∈(if j=i then [l] else []):=ha
  by_cases e:j=i
  ·rw [if_pos e] at ha
   rw [List.mem_singleton.mp ha]
   exact ⟨List.mem_cons_self,h0,hp⟩
  ·rw [if_neg e] at ha; simp at ha
 ·replace ha:a∈(if j=i then [l] else []):=ha
  replace hb:a∈(if k=i then [l] else []):=hb
  by_cases e1:j=i
  ·subst e1
   rw [if_neg (Ne.symm e)] at hb; simp at hb
  ·rw [if_neg e1] at ha; simp at ha
 ·rcases List.mem_cons.mp ha with rfl | ha
  ·rw [hl']; intro z; cases z
  ·exact r'.liv.m a ha
end
section
variable {X:Cx} {e:Expr}
abbrev At (k:Nat) (t:DT):DT:=fun ρ Q=>∃ ds,slot ρ k = .own ds /\ bM k ρ=true /\ t (ρ.set k (.val (.lst ds))) fun b ρ'=>ρ'=ρ.set k (.val (.lst ds)) /\ Q b ρ
theorem gZ {t:DT} (k:Nat) (h:PTD X e t):PTD X e (At k t):=by
 obtain ⟨T,p,r⟩:=h.run
 refine ⟨fun ρ P P' f ⟨ds,e,o,q⟩=>⟨ds,e,o,h.mono _ _ _ (fun b ρ' q=>⟨q.1,f _ _ q.2⟩) q⟩,T,p,fun {F} M H σ ρ Q rs ⟨ds,e,o,q⟩=>?_⟩
 have g:=aI e (by intro z; cases z)
 obtain ⟨M0,v,ho,m0,rs0,rl⟩:=rs.freeze g
 refine r M0 H σ _ Q rs0 (h.mono _ _ _ (fun b ρ' q M' H' m rs'=>?_) q)
 obtain ⟨rfl,q⟩:=q
 obtain ⟨M2,m2,rs2⟩:=rs.thaw g o ho m0 rl m rs'
 exact q M2 H' m2 rs2
end
end DL
namespace DL
open PySem PySem.Spec L2
open PyProof.Rows hiding St
variable [TB]
variable [Frm]
end DL
namespace L2
open PySem PySem.Spec PyProof.Rows
section
variable {prog:Program} {w:World} {A:Around} {E:Value->Shared->Prop} {s:Shared}
end
section
variable {X:Cx} {e st:Expr} {te:TE} {tk:TO} {pos p2:Pos}
end
end L2
namespace PySem
end PySem
namespace L2
open PySem PySem.Spec PyProof.Rows
section
variable {X:Cx}
end
end L2
namespace DL
open PySem PySem.Spec L2
open PyProof.Rows hiding St
variable [TB]
variable [Frm]
section
variable {X:Cx} {pp:Option Addr}
end
end DL
namespace DL
open PySem PySem.Spec L2
open PyProof.Rows hiding St
variable [TB]
variable [Frm]
section
variable {X:Cx} {pp:Option Addr}
end
end DL
namespace L2
open PySem PySem.Spec PyProof.Rows
section
variable {X:Cx}
def Au:V->List V->Hp->VK->Prop:=fun x vs H Q=>∃ l xs y j,x = .ref l /\ vs=[y] /\ H l=some (.lst xs) /\ fC y=true /\ xs.all fC=true /\ (∃ z,xs[j]? = some z /\ eqV z y=true) /\ (∀ m z,m < j->xs[m]? = some z->eqV z y=false) /\ Q (.int ((j:Nat):Int)) H
theorem vP:MtM X "list.index" Au:=by
 intro pins s σ H x vs v us Q I rx rv h
 obtain ⟨l,xs,y,j,rfl,rfl,hH,fy,fs,⟨z0,hz0,e0⟩,hno,q⟩:=h
 cases rx
 obtain ⟨u,rfl,ru⟩:=rv.one
 obtain ⟨z,its,n,r,hl,e⟩:=I.lstM hH
 have fl:∀ (m:Nat) (z:V),xs[m]? = some z->fC z=true:=fun m z hz=>List.all_eq_true.mp fs z (List.mem_of_getElem? hz)
 have hj:j < its.length:=by rw [← hl]; exact (List.getElem?_eq_some_iff.mp hz0).1
 have at_:∀ (m:Nat) (hm:m < its.toArray.size),∃ z,xs[m]? = some z /\ eqU y its.toArray[m]=eqV z y:=fun m hm=>by
  have hm':m < xs.length:=by rw [hl]; simpa using hm
  obtain ⟨w,hw,rw'⟩:=r.get (show xs[m]? = some xs[m] by simp [hm'])
  refine ⟨xs[m],by simp [hm'],?_⟩
  have:its.toArray[m]=w:=by
   have hm2:m < its.length:=by simpa using hm
   have:its[m]? = some its[m]:=by simp [hm2]
   rw [hw] at this
   cases this
   simp
  rw [this]
  exact sQ rw' (fl m _ (by simp [hm']))
 have sj:(j:Int) < 2 ^ 63 - 1:=by
  have:j < sizeLine:=by omega
  have:(sizeLine:Int) < 2 ^ 63 - 1:=by decide
  omega
 refine call_meets F.slot_list_index ⟨_,e,rfl⟩ F.entry_list_index (F.args_list_index_2 _ _) (SeqAt.list_indexAt l its.toArray n none #[] u (eqU y) j (by simpa using hj) sj ?_ (fun m hm hlt=>?_)) ⟨e,fun w hw=>iT ru fy r fs w (by simpa using hw),?_⟩
 ·obtain ⟨z1,h1,h2⟩:=at_ j (by simpa using hj)
  rw [hz0] at h1
  cases h1
  rw [h2]
  exact e0
 ·obtain ⟨z1,h1,h2⟩:=at_ m hm
  rw [h2]
  exact hno m z1 hlt h1
 ·exact ⟨.int _,H,I.tok _,⟨_,rfl⟩,q⟩
end
end L2
namespace DL
open PySem PySem.Spec L2
open PyProof.Rows hiding St
variable [TB]
def jJ:D->Bool
 | .non=>true
 | .bl _=>true
 | .int _=>true
 | .str _=>true
 | _=>false
def toV:D->V
 | .bl b=>.bl b
 | .int i=>.int i
 | .str s=>.str s
 | _=>.non
def eqF (x y:D):Bool:=eqV (toV x) (toV y)
section
variable {K:PySem.W.Frag} {pp:Option Addr} {M:List Addr} {H:Hp}
theorem lP {d:D} {v:V} (f:jJ d=true) (r:Rep K pp M H d v):v=toV d /\ fC v=true:=by
 cases d <;> first | exact absurd (show false=true from f) Bool.false_ne_true | skip
 all_goals
  simp only [Rep] at r
  subst r
  exact ⟨rfl,rfl⟩
theorem jK:∀ {ds:List D} {xs:List V},ds.all jJ=true->Reps K pp M H ds xs->xs=ds.map toV /\ xs.all fC=true
 | [],xs,_,r=>by
  simp only [Reps] at r
  subst r
  exact ⟨rfl,rfl⟩
 | d::ds,xs,f,r=>by
  simp only [Reps] at r
  obtain ⟨x,r',rfl,hd,hr⟩:=r
  rw [List.all_cons,Bool.and_eq_true] at f
  obtain ⟨e1,e2⟩:=lP f.1 hd
  obtain ⟨e3,e4⟩:=jK f.2 hr
  subst e1 e3
  exact ⟨rfl,by rw [List.all_cons,e2,e4]; rfl⟩
end
variable [Frm]
section
variable {X:Cx}
structure M1D (X:Cx) (name:Str) (id:String) (g:D->D->(D->Prop)->Prop):Prop where
 mono:∀ x y P P',(∀ d,P d->P' d)->g x y P->g x y P'
 slot:Slot "list" name id
 ty:typeOf (.builtin id)=pure (.type "method_descriptor")
 run:∃ r,MtR X id r /\ ∀ {pp:Option Addr} M H x y v u (Q:VK),Rep X.K pp M H x v->Rep X.K pp M H y u->g x y (fun d=>∀ w,Rep X.K pp M H d w->Q w H)->r v [u] H Q
def Cb:D->Prop
 | .lst _=>True
 | _=>False
abbrev dM1 (g:D->D->(D->Prop)->Prop) (to te:DE):DE:=fun ρ Q=>to ρ fun x ρ1=>Cb x /\ te ρ1 fun y ρ2=>g x y fun d=>Q d ρ2
theorem Av {name:Str} {id:String} {g:D->D->(D->Prop)->Prop} {o e:Expr} {to te:DE} {apos cpos:Pos} (hm:M1D X name id g) (ho:PED X o to) (he:PED X e te)
  (hbase:attributeBase o name X.env (eval o X.env)=eval o X.env:=by rfl)
  (hfew:((backTo cpos (starEach [e] X.env)).all (fun x=>!x.1) && (backToKw cpos (keywordEach [] X.env)).all (fun x=>x.1.isSome)
   && decide ([e].length + ([]:List Keyword).length + (if ([]:List Keyword).isEmpty then 0 else 1) < 30))=true:=by rfl)
  (hline:(apos.endLine == cpos.line)=true:=by rfl) (hst:starEach [e] X.env=(false,eval e X.env)::starEach [] X.env:=by rfl) (hpl:(backTo cpos (starEach [] X.env)).any (·.1)=false:=by rfl) :
  PED X (.Call (.Attribute o name apos) [e] [] cpos) (dM1 g to te):=by
 obtain ⟨r,mr,hr⟩:=hm.run
 obtain ⟨To,po,ro⟩:=ho.run
 obtain ⟨Te,pe,re⟩:=he.run
 refine ⟨fun _ _ _ f h=>ho.mono _ _ _ (fun _ _ h=>⟨h.1,he.mono _ _ _ (fun _ _ h=>hm.mono _ _ _ _ (fun _ h=>f _ _ h) h) h.2⟩) h,_,oR PySem.F.plainAttrs_list hm.slot hm.ty mr po (aP pe bL hst) hbase hfew hline hst hpl,fun {F} M H σ ρ Q rs h=>?_⟩
 refine ro M H σ ρ _ rs (ho.mono _ _ _ (fun x ρ1 h M1 H1 v m1 rs1 r1=>?_) h)
 obtain ⟨hx,h⟩:=h
 have tv:tyV X.K "list" v H1:=by
  cases x <;> first | exact hx.elim | skip
  have r1':=r1
  simp only [Rep] at r1'
  obtain ⟨a,xs,rfl,_,_,ha,_⟩:=r1'
  exact .inl ⟨rfl,xs,SqL.of ha⟩
 refine ⟨tv,re M1 H1 σ ρ1 _ rs1 (he.mono _ _ _ (fun y ρ2 h M2 H2 u m2 rs2 r2=>?_) h)⟩
 exact hr M2 H2 x y v u _ (r1.mv m2) r2 (hm.mono _ _ _ _ (fun d q w rw=>q M2 H2 w (m1.trans m2) rs2 rw) h)
def Cc:D->D->(D->Prop)->Prop
 | .lst ds,y,P=>(jJ y=true /\ ds.all jJ=true) /\ ∃ j:Nat,((∃ z,ds[j]? = some z /\ eqF z y=true) /\ ∀ m z,m < j->ds[m]? = some z->eqF z y=false) /\ P (.int (j:Int))
 | _,_,_=>False
theorem qu:M1D X "index" "list.index" Cc:=by
 refine ⟨fun x y P P' f h=>?_,PySem.F.slot_list_index,PySem.F.type_list_index,_,vP,fun {pp} M H x y v u Q rx ry h=>?_⟩
 ·cases x <;> first | exact h.elim | skip
  obtain ⟨h1,j,h2,h3⟩:=h
  exact ⟨h1,j,h2,f _ h3⟩
 ·cases x <;> first | exact h.elim | skip
  rename_i ds
  simp only [Rep] at rx
  obtain ⟨a,xs,rfl,hm,hp,ha,r⟩:=rx
  obtain ⟨⟨f1,f2⟩,j,⟨⟨z,hz,ez⟩,hno⟩,h⟩:=h
  obtain ⟨e1,e2⟩:=lP f1 ry
  obtain ⟨e3,e4⟩:=jK f2 r
  refine ⟨a,xs,u,j,rfl,rfl,ha,e2,e4,⟨toV z,?_,?_⟩,fun m w hm hw=>?_,h _ bB⟩
  ·rw [e3,List.getElem?_map,hz]; rfl
  ·rw [e1]; exact ez
  ·rw [e3,List.getElem?_map] at hw
   cases q:ds[m]? with
   | none=>rw [q] at hw; cases hw
   | some d =>
    rw [q] at hw
    cases hw
    rw [e1]
    exact hno m d hm q
end
end DL
namespace DL
open PySem PySem.Spec L2
open PyProof.Rows hiding St
variable [TB]
variable [Frm]
end DL
namespace L2
open PySem PySem.Spec PyProof.Rows
section
variable {prog:Program} {w:World} {A:Around} {E:Value->Shared->Prop} {s:Shared}
end
end L2
namespace DL
open PySem PySem.Spec L2
open PyProof.Rows hiding St
variable [TB]
section
variable [Frm]
variable {X:Cx} {F:Fx} {pp:Option Addr}
abbrev dSlL (te:DE) (tl th:DO):DA:=fun ρ Q=>te ρ fun x ρ1=>tl ρ1 fun lo ρ2=>th ρ2 fun hi ρ3=>match x with
 | .lst xs=>Q (cutD xs lo hi) ρ3
 | _=>False
theorem kR {e:Expr} {lo hi:Option Expr} {te:DE} {tl th:DO} {pos p2:Pos} (he:PED X e te) (hl:POD X lo tl) (hh:POD X hi th):PLD X (.Subscript e (.Slice lo hi none p2) pos) (dSlL te tl th):=by
 obtain ⟨T,p,r⟩:=he.run
 obtain ⟨Tl,pl,rl⟩:=hl.run
 obtain ⟨Th,ph,rh⟩:=hh.run
 refine ⟨fun _ _ _ f h=>he.mono _ _ _ (fun x _ h=>hl.mono _ _ _ (fun _ _ h=>hh.mono _ _ _ (fun _ _ h=>?_) h) h) h,_,qe xY p pl ph,fun {F} M H σ ρ Q rs h=>?_⟩
 ·cases x <;> first | exact h.elim | exact f _ _ h
 refine r M H σ ρ _ rs (he.mono _ _ _ (fun x ρ1 h M1 H1 v m1 rs1 r1=>?_) h)
 refine rl M1 H1 σ ρ1 _ rs1 (hl.mono _ _ _ (fun lo ρ2 h M2 H2 m2 rs2=>?_) h)
 refine rh M2 H2 σ ρ2 _ rs2 (hh.mono _ _ _ (fun hi ρ3 h M3 H3 m3 rs3=>?_) h)
 have r3:=(r1.mv m2).mv m3
 cases x <;> first | exact h.elim | skip
 simp only [Rep] at r3
 obtain ⟨a,xs,rfl,_,_,ha,rx⟩:=r3
 exact ⟨a,xs,rfl,SqL.of ha,fun l hl=>h M3 H3 _ l _ ((m1.trans m2).trans m3) rs3 hl rfl (rx.cut lo hi)⟩
abbrev Cd (ta tb:DE):DA:=fun ρ Q=>ta ρ fun x ρ1=>tb ρ1 fun y ρ2=>match x,y with
 | .lst xs,.lst ys=>xs.length + ys.length <= sizeLine /\ Q (xs++ys) ρ2
 | _,_=>False
theorem ei {a b:Expr} {ta tb:DE} {pos:Pos} (ha:PED X a ta) (hb:PED X b tb):PLD X (.BinOp a .Add b pos) (Cd ta tb):=by
 obtain ⟨Ta,pa,ra⟩:=ha.run
 obtain ⟨Tb,pb,rb⟩:=hb.run
 refine ⟨fun _ _ _ f h=>ha.mono _ _ _ (fun x _ h=>hb.mono _ _ _ (fun y _ h=>?_) h) h,_,cr zN pa pb,fun {F} M H σ ρ Q rs h=>?_⟩
 ·cases x <;> first | exact h.elim | skip
  cases y <;> first | exact h.elim | exact ⟨h.1,f _ _ h.2⟩
 refine ra M H σ ρ _ rs (ha.mono _ _ _ (fun x ρ1 h M1 H1 v m1 rs1 r1=>?_) h)
 refine rb M1 H1 σ ρ1 _ rs1 (hb.mono _ _ _ (fun y ρ2 h M2 H2 u m2 rs2 r2=>?_) h)
 have r1:=r1.mv m2
 cases x <;> first | exact h.elim | skip
 cases y <;> first | exact h.elim | skip
 simp only [Rep] at r1 r2
 obtain ⟨l,xs,rfl,_,_,hl,rx⟩:=r1
 obtain ⟨l',ys,rfl,_,_,hl',ry⟩:=r2
 exact ⟨l,l',xs,ys,rfl,rfl,hl,hl',by rw [← rx.length,← ry.length]; exact h.1,fun p hp=>h.2 M2 H2 _ p _ (m1.trans m2) rs2 hp rfl (rx.append ry)⟩
abbrev Ce (ta tb:DE):DA:=fun ρ Q=>ta ρ fun x ρ1=>tb ρ1 fun y ρ2=>match x,y with
 | .lst xs,.int k=>((-(2 ^ 63) <= k /\ k < 2 ^ 63) /\ xs.length * k.toNat <= sizeLine) /\ Q (List.replicate k.toNat xs).flatten ρ2
 | _,_=>False
theorem Reps.reps {K:PySem.W.Frag} {M:List Addr} {H:Hp} {ds:List D} {xs:List V} (r:Reps K pp M H ds xs):∀ k:Nat,Reps K pp M H (List.replicate k ds).flatten (List.replicate k xs).flatten
 | 0=>by simp [Reps]
 | k + 1=>by
  rw [List.replicate_succ,List.replicate_succ,List.flatten_cons,List.flatten_cons]
  exact r.append (Reps.reps r k)
theorem Aw {a b:Expr} {ta tb:DE} {pos:Pos} (ha:PED X a ta) (hb:PED X b tb):PLD X (.BinOp a .Mult b pos) (Ce ta tb):=by
 obtain ⟨Ta,pa,ra⟩:=ha.run
 obtain ⟨Tb,pb,rb⟩:=hb.run
 refine ⟨fun _ _ _ f h=>ha.mono _ _ _ (fun x _ h=>hb.mono _ _ _ (fun y _ h=>?_) h) h,_,cr zO pa pb,fun {F} M H σ ρ Q rs h=>?_⟩
 ·cases x <;> first | exact h.elim | skip
  cases y <;> first | exact h.elim | exact ⟨h.1,f _ _ h.2⟩
 refine ra M H σ ρ _ rs (ha.mono _ _ _ (fun x ρ1 h M1 H1 v m1 rs1 r1=>?_) h)
 refine rb M1 H1 σ ρ1 _ rs1 (hb.mono _ _ _ (fun y ρ2 h M2 H2 u m2 rs2 r2=>?_) h)
 have r1:=r1.mv m2
 cases x <;> first | exact h.elim | skip
 cases y <;> first | exact h.elim | skip
 simp only [Rep] at r1 r2
 obtain ⟨l,xs,rfl,_,_,hl,rx⟩:=r1
 subst r2
 exact ⟨l,_,xs,rfl,rfl,hl,h.1.1.1,h.1.1.2,by rw [← rx.length]; exact h.1.2,fun p hp=>h.2 M2 H2 _ p _ (m1.trans m2) rs2 hp rfl (Reps.reps rx _)⟩
end
end DL
namespace L2
open PySem PySem.Spec PyProof.Rows
abbrev cT (h:Heap) (z TI TO:Addr) (f0 f1:Value):Prop :=
 h.get? z=some { cls:=.type "zip",dict:=none,data:=.fields #[f0,f1,.bool false,.ref TI,.ref TO],slots:=#[] }
abbrev cq (h:Heap) (T:Addr) (xs:Array Value):Prop:=h.get? T=some { cls:=.type "tuple",data:=.seq xs }
def OwnF (f:Value):Prop:=f = .none∨∃ a:Int,f = .int a 0
abbrev itsL (n m:Nat):List Value:=(List.range m).map fun j=>Value.ref (n + j)
def KeptZ (n m:Nat) (h h':Heap):Prop:=∀ (b:Nat) o,b < n∨b=n + m∨n + m + 2 < b->h.get? b=some o->h'.get? b=some o
section
variable {prog:Program} {w:World} {A:Around} {E:Value->Shared->Prop} {s:Shared}
theorem hU {a:Addr} {Q:Option Obj->Shared->Prop} (h:Q (s.heap.get? a) s):wpAny (model prog w) A (loadIfAlive a) Q E s :=
 fun Γ p _=>by
  show Sem.wp _ Γ (.loadIfAlive a .pure) _ _ p s
  rw [Sem.wp_loadIfAlive]
  exact h
theorem vQ {z TI TO:Addr} {f0 f1:Value} {Q:Bool->Shared->Prop} (hf:OwnF f0) (hz:cT s.heap z TI TO f0 f1) (q1:Q true s)
  (q2:∀ h' f1',cT h' z TI TO f0 f1'->Heap.SameBut z s.heap h'->Q false { s with heap:=h' }) :
  wpAny (model prog w) A (Builtin.SmallTypes.ownedTupleIsFree (.ref z)) Q E s:=by
 unfold Builtin.SmallTypes.ownedTupleIsFree
 refine wpAny_bind (wpAny_field hz rfl (x:=f0) rfl ?_)
 rcases hf with rfl | ⟨a,rfl⟩
 ·exact wpAny_pure q1
 ·show wpAny _ _ (loadIfAlive a.toNat >>= _) _ _ _
  refine wpAny_bind (hU ?_)
  cases e:s.heap.get? a.toNat with
  | none=>exact wpAny_pure q1
  | some o =>
   show wpAny _ _ (field (.ref z) 1 >>= _) _ _ _
   refine wpAny_bind (wpAny_field hz rfl (x:=f1) rfl ?_)
   by_cases hb:(f1 != .bool true)=true
   ·rw [if_pos hb]
    refine wpAny_bind (wpAny_setField_rec hz (by simp) fun h' hz' hs=>wpAny_pure (q2 h' (.bool true) ?_ hs))
    exact hz'
   ·rw [if_neg hb]
    refine wpAny_bind (wpAny_pure ?_)
    exact wpAny_pure (q2 s.heap f1 hz (Heap.SameBut.refl ..))
end
end L2
namespace L2
open PySem PySem.Spec PyProof.Rows
theorem fL {α:Type} {l:List α} {j:Nat} {p:α} (h:l[j]? = some p):j < l.length:=(List.getElem?_eq_some_iff.mp h).1
section
variable {h0 h h':Heap} {n k c:Nat} {src:List (Addr×Array Value)}
end
section
variable {prog:Program} {w:World} {A:Around} {E:Value->Shared->Prop} {s:Shared}
theorem fM {T:Addr} {ws:Array Value} {x:Value} {k:Nat} {Q:Unit->Shared->Prop} (hT:cq s.heap T ws) (hz:ws.size <= sizeLine)
  (h:∀ h',cq h' T (ws.setIfInBounds k x)->Heap.SameBut T s.heap h'->Q () { s with heap:=h' }) :
  wpAny (model prog w) A (updateSeq T (·.setIfInBounds k x)) Q E s:=by
 refine wpAny_updateSeq hT rfl (h _ ?_ (Heap.SameBut.update ..)) hz (by simp; omega)
 show Heap.get? _ _=_
 rw [Heap.get?_update_self _ hT rfl]
 simp [Obj.mapSeq]
theorem tS {α:Type} {l:List α} {c:Nat} {x:α} {r:List α} (h:l.drop c=x::r):l[c]? = some x /\ l.drop (c + 1)=r:=by
 have hc:c < l.length:=by
  rcases Nat.lt_or_ge c l.length with h' | h'
  ·exact h'
  ·rw [List.drop_eq_nil_of_le h'] at h; cases h
 rw [List.drop_eq_getElem_cons hc] at h
 cases h
 exact ⟨by simp,rfl⟩
theorem tT {n m c:Nat} (h:c < m):(itsL n m)[c]? = some (.ref (n + c)):=by
 unfold itsL
 rw [List.getElem?_map,List.getElem?_range h]
 rfl
def Told (src:List (Addr×Array Value)) (k c:Nat) (vs:List Value):Prop:=vs.length=c /\ ∀ (j:Nat) (p:Addr×Array Value),j < c->src[j]? = some p->p.2[k]? = vs[j]?
theorem Told.push {src:List (Addr×Array Value)} {k c:Nat} {vs:List Value} {p:Addr×Array Value} {v:Value} (t:Told src k c vs) (hc:src[c]? = some p) (hv:p.2[k]? = some v):Told src k (c + 1) (vs++[v]):=by
 refine ⟨by simp [t.1],fun j q hj hq=>?_⟩
 by_cases z:j=c
 ·subst z
  rw [hc] at hq
  cases hq
  rw [hv,List.getElem?_append_right (by rw [t.1]; exact Nat.le_refl _),t.1]
  simp
 ·rw [t.2 j q (by omega) hq,List.getElem?_append_left (by rw [t.1]; omega)]
end
end L2
namespace PySem
namespace F
end F
end PySem
namespace L2
open PySem PySem.Spec PyProof.Rows
abbrev tuO (xs:List Value):Obj:={ cls:=.type "tuple",data:=.seq xs.toArray }
abbrev ziO (TI TO:Addr):Obj:={ cls:=.type "zip",data:=.fields #[.none,.bool false,.bool false,.ref TI,.ref TO] }
section
variable {prog:Program} {w:World} {A:Around} {E:Value->Shared->Prop} {s:Shared}
end
end L2
namespace L2
open PySem PySem.Spec PyProof.Rows
section
variable {X:Cx} {pins:List (Addr×Obj)} {σ:St} {H:Hp} {s:Shared} {h':Heap}
end
def Ax (xss:List (List V)) (i:Nat) (r:List V):Prop:=r.length=xss.length /\ ∀ (j:Nat) xs,xss[j]? = some xs->xs[i]? = r[j]?
def SrcV (xss:List (List V)) (src:List (Addr×Array Value)):Prop:=xss.length=src.length /\ ∀ (j:Nat) xs (p:Addr×Array Value),xss[j]? = some xs->src[j]? = some p->Vals xs p.2.toList
theorem Vals.got:∀ {xs:List V} {us:List Value} {i:Nat} {u:Value},Vals xs us->us[i]? = some u->∃ x,xs[i]? = some x /\ RelV x u:=fun {xs us i u} r e=>by
 have hi:i < us.length:=fL e
 have hx:xs[i]? = some (xs[i]'(by rw [r.length]; exact hi)):=by simp
 obtain ⟨u',e',ru⟩:=r.get hx
 rw [e] at e'
 cases e'
 exact ⟨_,hx,ru⟩
theorem nJ {i:Nat}:∀ {xss:List (List V)} {src:List (Addr×Array Value)} {vs:List Value},SrcV xss src->vs.length=src.length->(∀ (j:Nat) (p:Addr×Array Value),src[j]? = some p->p.2[i]? = vs[j]?)->∃ r,Ax xss i r /\ Vals r vs
 | [],src,vs,hv,hl,_=>by
  have h0:src=[]:=List.length_eq_zero_iff.mp (by rw [← hv.1]; rfl)
  subst h0
  have h1:vs=[]:=List.length_eq_zero_iff.mp (by rw [hl]; rfl)
  subst h1
  exact ⟨[],⟨rfl,fun j xs h=>by simp at h⟩,.nil⟩
 | xs::xss,[],vs,hv,hl,_=>absurd hv.1 (by simp)
 | xs::xss,p::src,[],hv,hl,_=>absurd hl (by simp)
 | xs::xss,p::src,v::vs,hv,hl,h=>by
  obtain ⟨r,hr,rv⟩:=nJ (xss:=xss) (src:=src) (vs:=vs) (i:=i) ⟨by simpa using hv.1,fun j xs p h1 h2=>hv.2 (j + 1) xs p (by simpa using h1) (by simpa using h2)⟩ (by simpa using hl) fun j p hj=>by
   have:=h (j + 1) p (by simpa using hj)
   simpa using this
  have h0:=h 0 p rfl
  have h0:p.2[i]? = some v:=by simpa using h0
  obtain ⟨x,hx,rx⟩:=(hv.2 0 xs p rfl rfl).got (u:=v) (i:=i) (by rw [Array.getElem?_toList]; exact h0)
  refine ⟨x::r,⟨by simp [hr.1],fun j ys hj=>?_⟩,.cons rx rv⟩
  cases j with
  | zero=>simp at hj; subst hj; simpa using hx
  | succ j=>simpa using hr.2 j ys (by simpa using hj)
theorem qv {xss:List (List V)} {src:List (Addr×Array Value)} {i:Nat} {vs:List Value} (hv:SrcV xss src) (ht:Told src i src.length vs):∃ r,Ax xss i r /\ Vals r vs :=
 nJ hv ht.1 fun j p hj=>ht.2 j p (fL hj) hj
section
variable {X:Cx}
theorem qw {n m b:Nat} (h:b < n∨n + m + 2 < b):b < n∨b=n + m∨n + m + 2 < b:=h.imp_right .inr
end
end L2
namespace PySem
namespace F
end F
end PySem
namespace L2
open PySem PySem.Spec PyProof.Rows
section
variable {X:Cx}
end
end L2
namespace L2
open PySem PySem.Spec PyProof.Rows
section
variable {X:Cx}
end
end L2
namespace DL
open PySem PySem.Spec PyProof.Rows L2
variable [TB]
variable [Frm]
section
variable {X:Cx}
end
end DL
namespace L2
open PySem PySem.Spec PyProof.Rows
section
variable {X:Cx}
theorem tU (f:Bool->Bool):∀ (bs:List Bool),(List.range bs.length).all (fun i=>f (bs.getD i false))=bs.all f:=by
 intro bs
 rw [Bool.eq_iff_iff]
 simp only [List.all_eq_true,List.mem_range]
 constructor
 ·intro h b hb
  obtain ⟨i,hi,e⟩:=List.mem_iff_getElem.mp hb
  have:=h i hi
  rw [List.getD_eq_getElem?_getD,List.getElem?_eq_getElem hi] at this
  subst e
  simpa using this
 ·intro h i hi
  have:=h bs[i] (List.getElem_mem hi)
  rw [List.getD_eq_getElem?_getD,List.getElem?_eq_getElem hi]
  simpa using this
theorem tV:∀ (bs:List Bool),(List.range bs.length).any (fun i=>bs.getD i false)=bs.any id:=by
 intro bs
 rw [Bool.eq_iff_iff]
 simp only [List.any_eq_true,List.mem_range]
 constructor
 ·rintro ⟨i,hi,h⟩
  rw [List.getD_eq_getElem?_getD,List.getElem?_eq_getElem hi] at h
  exact ⟨bs[i],List.getElem_mem hi,by simpa using h⟩
 ·rintro ⟨b,hb,h⟩
  obtain ⟨i,hi,e⟩:=List.mem_iff_getElem.mp hb
  refine ⟨i,hi,?_⟩
  rw [List.getD_eq_getElem?_getD,List.getElem?_eq_getElem hi]
  subst e
  simpa using h
theorem jM {prog:Program} {w:World} {A:Around} {bs:List Bool} {its:List Value} (r:Vals (bs.map V.bl) its):TruthOf prog w A (fun i v=>its.toArray[i]? = some v) (fun i=>bs.getD i false):=by
 intro i v s Q E h q
 have h:its[i]? = some v:=by simpa using h
 have hi:i < bs.length:=by
  have:=r.length
  have:=fL h
  simp at *
  omega
 obtain ⟨u,hu,ru⟩:=r.get (i:=i) (x:=.bl bs[i]) (by simp [hi])
 rw [h] at hu
 cases hu
 cases ru
 have q:Q (bs.getD i false) s:=q
 rw [List.getD_eq_getElem?_getD,List.getElem?_eq_getElem hi] at q
 exact wpAny_truthy_bool q
theorem vR (hc:X.calm=true):cx X (.builtin "all") (fun xs H Q=>∃ (p:Addr) (bs:List Bool),xs=[.ref p] /\ SqL X.K H p (bs.map V.bl) /\ Q (.bl (bs.all id)) H):=by
 intro pins s σ H xs us Q I r h
 obtain ⟨p,bs,rfl,hl,q⟩:=h
 obtain ⟨u,rfl,e⟩:=iM r
 cases e
 obtain ⟨its,rv,pl,_⟩:=I.list hl
 have hlen:its.toArray.size=bs.length:=by have:=rv.length; simpa using this.symm
 have hne:p≠s.heap.objs.size:=by
  obtain ⟨o,ho,_⟩:=pl.isList
  exact Nat.ne_of_lt (Heap.lt_size ho)
 refine call_all_walk (wpAny_pyIter_list pl.isList ⟨s.heap.objs.size,_,_,_,_,_,_,rfl,Walks.list (A:=X.A.in1) (I.ok.hd hc) s.heap.objs.size p hne its.toArray,⟨⟨_,Heap.get?_push_size _ rfl,rfl,rfl⟩,pl.isList.push _⟩,jM rv,fun h' tk hk=>⟨.bl (bs.all id),H,I.kept fun b o e=>hk b o ?_ (Heap.get?_push_of_some _ e),?_,q⟩⟩)
 ·intro hb
  have:b=s.heap.objs.size:=by simpa using hb
  exact absurd (Heap.lt_size e) (by rw [this]; exact Nat.lt_irrefl _)
 ·show Value.bool _=Value.bool _
  rw [hlen]
  have:=tU id bs
  simp only [id] at this ⊢
  rw [this]
theorem vS (hc:X.calm=true):cx X (.builtin "any") (fun xs H Q=>∃ (p:Addr) (bs:List Bool),xs=[.ref p] /\ SqL X.K H p (bs.map V.bl) /\ Q (.bl (bs.any id)) H):=by
 intro pins s σ H xs us Q I r h
 obtain ⟨p,bs,rfl,hl,q⟩:=h
 obtain ⟨u,rfl,e⟩:=iM r
 cases e
 obtain ⟨its,rv,pl,_⟩:=I.list hl
 have hlen:its.toArray.size=bs.length:=by have:=rv.length; simpa using this.symm
 have hne:p≠s.heap.objs.size:=by
  obtain ⟨o,ho,_⟩:=pl.isList
  exact Nat.ne_of_lt (Heap.lt_size ho)
 refine call_any_walk (wpAny_pyIter_list pl.isList ⟨s.heap.objs.size,_,_,_,_,_,_,rfl,Walks.list (A:=X.A.in1) (I.ok.hd hc) s.heap.objs.size p hne its.toArray,⟨⟨_,Heap.get?_push_size _ rfl,rfl,rfl⟩,pl.isList.push _⟩,jM rv,fun h' tk hk=>⟨.bl (bs.any id),H,I.kept fun b o e=>hk b o ?_ (Heap.get?_push_of_some _ e),?_,q⟩⟩)
 ·intro hb
  have:b=s.heap.objs.size:=by simpa using hb
  exact absurd (Heap.lt_size e) (by rw [this]; exact Nat.lt_irrefl _)
 ·show Value.bool _=Value.bool _
  rw [hlen,tV]
end
end L2
namespace DL
open PySem PySem.Spec L2
open PyProof.Rows hiding St
variable [TB]
variable [Frm]
section
variable {X:Cx}
def pD:List D->Option (List Bool)
 | []=>some []
 | .bl b::r=>(pD r).map (b :: ·)
 | _=>none
theorem nK:∀ bs:List Bool,pD (bs.map D.bl)=some bs
 | []=>rfl
 | n::r=>by simp [pD,nK r]
theorem qx:∀ {ds:List D} {bs:List Bool},pD ds=some bs->ds=bs.map D.bl
 | [],ns,h=>by cases h; rfl
 | .bl i::r,ns,h=>by
  simp only [pD,Option.map_eq_some_iff] at h
  obtain ⟨ms,h,rfl⟩:=h
  rw [qx h]; rfl
theorem lQ {K:PySem.W.Frag} {pp:Option Addr} {M:List Addr} {H:Hp}:∀ {ns:List Bool} {xs:List V},Reps K pp M H (ns.map D.bl) xs->xs=ns.map V.bl
 | [],xs,h=>by simpa only [List.map_nil,Reps] using h
 | n::r,xs,h=>by
  simp only [List.map_cons,Reps,Rep] at h
  obtain ⟨x,t,rfl,rfl,h⟩:=h
  rw [lQ h]; rfl
def gTru (f:List Bool->Bool):DSp:=fun ds P=>match ds with
 | [.lst xs]=>match pD xs with
  | some bs=>P (.bl (f bs))
  | none=>False
 | _=>False
theorem jN {f:List Bool->Bool} {bs:List Bool} {P:D->Prop} (h:P (.bl (f bs))):gTru f [.lst (bs.map D.bl)] P:=by
 unfold gTru
 simp only [nK]
 exact h
theorem iW {f:List Bool->Bool} {ds:List D} {P:D->Prop} (h:gTru f ds P):∃ bs:List Bool,ds=[.lst (bs.map D.bl)] /\ P (.bl (f bs)):=by
 unfold gTru at h
 split at h
 ·rename_i xs
  cases e:pD xs with
  | none=>rw [e] at h; exact h.elim
  | some ns =>
   rw [e] at h
   exact ⟨ns,by rw [qx e],h⟩
 ·exact h.elim
theorem tW (hc:X.calm=true:=by rfl):CallD X (.builtin "all") (gTru fun bs=>bs.all id):=by
 refine ⟨fun ds P P' f h=>?_,_,vR hc,fun {pp} M H ds vs Q _ r h=>?_⟩
 ·obtain ⟨ns,rfl,h2⟩:=iW h
  exact jN (f _ h2)
 ·obtain ⟨ns,rfl,h2⟩:=iW h
  simp only [Reps,Rep] at r
  obtain ⟨x,_,rfl,⟨a,ys,rfl,_,_,ha,ry⟩,rfl⟩:=r
  refine ⟨a,ns,rfl,SqL.of (by rw [ha,lQ ry]),h2 H _ .refl cD⟩
theorem Ay (hc:X.calm=true:=by rfl):CallD X (.builtin "any") (gTru fun bs=>bs.any id):=by
 refine ⟨fun ds P P' f h=>?_,_,vS hc,fun {pp} M H ds vs Q _ r h=>?_⟩
 ·obtain ⟨ns,rfl,h2⟩:=iW h
  exact jN (f _ h2)
 ·obtain ⟨ns,rfl,h2⟩:=iW h
  simp only [Reps,Rep] at r
  obtain ⟨x,_,rfl,⟨a,ys,rfl,_,_,ha,ry⟩,rfl⟩:=r
  refine ⟨a,ns,rfl,SqL.of (by rw [ha,lQ ry]),h2 H _ .refl cD⟩
theorem fj {x:Str} {pos:Pos} {i:Int} {t:Tok} (hg:Gl X x) (hm:X.mg x=some (.int i t)) (hd:(x == ("__debug__" : Str))=false:=by decide):PED X (.Name x pos) (dC (.int i)) :=
 .con (xM (v:=.int i) hg hm ⟨t,rfl⟩ hd) fun _ _ _=>by simp only [Rep]
end
end DL
namespace L2
open PySem PySem.Spec PyProof.Rows
section
variable {prog:Program} {w:World} {A:Around} {E:Value->Shared->Prop} {s:Shared}
theorem yy {elts:List Expr} {x1} {pos:Pos} {z TI TO T:Addr} {f0 f1:Value} {Q:Unit->Shared->Prop} (hf:OwnF f0) (hz:cT s.heap z TI TO f0 f1)
  (hQ:∀ h' f0',OwnF f0'->cT h' z TI TO f0' f1->Heap.SameBut z s.heap h'->Q () { s with heap:=h' }) :
  wpAny (model prog w) A (letOwnedTupleGo (.Tuple elts x1 pos) (.ref z) (.ref T)) Q E s:=by
 unfold letOwnedTupleGo
 refine wpAny_bind (wpAny_load hz ?_)
 show wpAny _ _ (if (["enumerate","zip","dict_itemiterator","dict_reverseitemiterator","odict_iterator","itertools.zip_longest","itertools.pairwise"].contains "zip" &&
   (#[f0,f1,.bool false,.ref TI,.ref TO]:Array Value)[0]? == some (rawInt T))=true then _ else _) Q E s
 split
 ·refine wpAny_bind (wpAny_rule ?_)
  show wpAny _ _ (setField (.ref z) 0 .none) Q E s
  exact wpAny_setField_rec hz (by simp) fun h' hz' hs'=>hQ h' .none (.inl rfl) hz' hs'
 ·exact wpAny_pure (hQ s.heap f0 hf hz (Heap.SameBut.refl _ _))
end
def fpZ (n m:Nat):List Addr:=(List.range (m + 3)).map (n + ·)
theorem fpZ_mem {n m b:Nat}:b∈fpZ n m↔n <= b /\ b < n + m + 3:=by
 unfold fpZ
 simp only [List.mem_map,List.mem_range]
 constructor
 ·rintro ⟨a,h1,h2⟩
  omega
 ·rintro ⟨h1,h2⟩
  exact ⟨b - n,by omega,by omega⟩
theorem tX {n m c:Nat} (h:c∈fpZ n m):c=n + m + 2∨c=n + m∨c=n + m + 1∨(c - n < m /\ n + (c - n)=c):=by
 have:=fpZ_mem.mp h
 omega
theorem pE {n m b:Nat} (h:b∉fpZ n m):b < n∨n + m + 2 < b:=by
 have:¬ (n <= b /\ b < n + m + 3):=fun z=>h (fpZ_mem.mpr z)
 omega
theorem Az {n m b:Nat} (h:b∉fpZ n m):b≠n + m + 2:=by
 have:=pE h
 omega
section
variable {X:Cx}
end
end L2
namespace DL
open PySem PySem.Spec PyProof.Rows L2
variable [TB]
variable [Frm]
section
variable {X:Cx}
end
end DL
namespace DL
open PySem PySem.Spec L2
open PyProof.Rows hiding St
variable [TB]
variable [Frm]
mutual
def flD:D->Prop
 | .non=>True
 | .bl _=>True
 | .int _=>True
 | .str _=>True
 | .ty _=>True
 | .cls _=>True
 | .tup ds=>flDs ds
 | _=>False
def flDs:List D->Prop
 | []=>True
 | d::r=>flD d /\ flDs r
end
omit [Frm] in
mutual
theorem Rep.flat {K:PySem.W.Frag} {pp:Option Addr} {M M':List Addr} {H:Hp}:∀ (d:D) (v:V),flD d->Rep K pp M H d v->Rep K pp M' H d v
 | .non,_,_,h=>by simp only [Rep] at h ⊢; exact h
 | .bl _,_,_,h=>by simp only [Rep] at h ⊢; exact h
 | .int _,_,_,h=>by simp only [Rep] at h ⊢; exact h
 | .str _,_,_,h=>by simp only [Rep] at h ⊢; exact h
 | .ty _,_,_,h=>by simp only [Rep] at h ⊢; exact h
 | .cls _,_,_,h=>by simp only [Rep] at h ⊢; exact h
 | .tup ds,_,f,h=>by
  simp only [Rep] at h ⊢
  simp only [flD] at f
  obtain ⟨a,xs,e,ha,r⟩:=h
  exact ⟨a,xs,e,ha,Reps.flat ds xs f r⟩
 | .lst _,_,f,_=>by simp only [flD] at f
 | .dK _ _,_,f,_=>by simp only [flD] at f
 | .dT _ _,_,f,_=>by simp only [flD] at f
 | .pen,_,f,_=>by simp only [flD] at f
 | .exc _,_,f,_=>by simp only [flD] at f
 | .exa _ _,_,f,_=>by simp only [flD] at f
theorem Reps.flat {K:PySem.W.Frag} {pp:Option Addr} {M M':List Addr} {H:Hp}:∀ (ds:List D) (xs:List V),flDs ds->Reps K pp M H ds xs->Reps K pp M' H ds xs
 | [],xs,_,h=>by simp only [Reps] at h ⊢; exact h
 | d::ds,xs,f,h=>by
  simp only [Reps] at h ⊢
  simp only [flDs] at f
  obtain ⟨x,r,e,h1,h2⟩:=h
  exact ⟨x,r,e,Rep.flat d x f.1 h1,Reps.flat ds r f.2 h2⟩
end
def pinS (v:V):Sl->Sl
 | .nil=>.nil
 | .val d=>.pin v d
 | .own ds=>.pin v (.lst ds)
 | .obj q=>.pin v (fzO q)
 | .pin w d=>.pin w d
def pinL (vs:Nat->V):Nat->DS->DS
 | _,[]=>[]
 | n,s::r=>pinS (vs n) s::pinL vs (n + 1) r
inductive Unp (vs:Nat->V):Nat->DS->DS->DS->Prop
 | nil {n}:Unp vs n [] [] []
 | keep {n s r r' r2}:Unp vs (n + 1) r r' r2->Unp vs n (s::r) (pinS (vs n) s::r') (s::r2)
 | drop {n s s' r r' r2}:Unp vs (n + 1) r r' r2->Unp vs n (s::r) (s'::r') (.nil::r2)
 | flat {n s d r r' r2}:flD d->Unp vs (n + 1) r r' r2->Unp vs n (s::r) (.val d::r') (.val d::r2)
 | ownF {n s ds r r' r2}:flDs ds->Unp vs (n + 1) r r' r2->Unp vs n (s::r) (.own ds::r') (.own ds::r2)
omit [Frm] in
theorem lR (vs:Nat->V):∀ (ρ:DS) (n i:Nat),(pinL vs n ρ)[i]? = (ρ[i]?).map (pinS (vs (n + i)))
 | [],_,_=>by simp [pinL]
 | s::r,n,0=>by simp [pinL]
 | s::r,n,i + 1=>by
  simp only [pinL,List.getElem?_cons_succ]
  rw [lR vs r (n + 1) i,show n + 1 + i=n + (i + 1) by omega]
omit [Frm] in
theorem qy (vs:Nat->V):∀ (ρ:DS) (n:Nat),(pinL vs n ρ).length=ρ.length
 | [],_=>rfl
 | s::r,n=>by simp [pinL,qy vs r (n + 1)]
omit [Frm] in
theorem Unp.self (vs:Nat->V):∀ (ρ:DS) (n:Nat),Unp vs n ρ (pinL vs n ρ) ρ
 | [],_=>.nil
 | _::r,n=>.keep (Unp.self vs r (n + 1))
omit [Frm] in
theorem Unp.len {vs:Nat->V} {n:Nat} {a b c:DS} (h:Unp vs n a b c):b.length=c.length /\ c.length=a.length:=by
 induction h with
 | nil=>exact ⟨rfl,rfl⟩
 | keep _ ih=>simp [ih.1,ih.2]
 | drop _ ih=>simp [ih.1,ih.2]
 | flat _ _ ih=>simp [ih.1,ih.2]
 | ownF _ _ ih=>simp [ih.1,ih.2]
omit [Frm] in
theorem Unp.get {vs:Nat->V} {n:Nat} {a b c:DS} (h:Unp vs n a b c):∀ (i:Nat) (s:Sl),c[i]? = some s->s = .nil∨(a[i]? = some s /\ b[i]? = some (pinS (vs (n + i)) s))∨(∃ d,s = .val d /\ flD d /\ b[i]? = some (.val d))∨∃ ds,s = .own ds /\ flDs ds /\ b[i]? = some (.own ds):=by
 induction h with
 | nil=>intro i s e; simp at e
 | @keep n s0 r r' r2 _ ih =>
  intro i s e
  cases i with
  | zero=>simp at e; subst e; exact .inr (.inl ⟨by simp,by simp⟩)
  | succ i =>
   have:=ih i s (by simpa using e)
   rw [show n + 1 + i=n + (i + 1) by omega] at this
   simpa using this
 | @drop n s0 s' r r' r2 _ ih =>
  intro i s e
  cases i with
  | zero=>simp at e; exact .inl e.symm
  | succ i =>
   have:=ih i s (by simpa using e)
   rw [show n + 1 + i=n + (i + 1) by omega] at this
   simpa using this
 | @flat n s0 d r r' r2 f _ ih =>
  intro i s e
  cases i with
  | zero=>simp at e; exact .inr (.inr (.inl ⟨d,e.symm,f,by simp⟩))
  | succ i =>
   have:=ih i s (by simpa using e)
   rw [show n + 1 + i=n + (i + 1) by omega] at this
   simpa using this
 | @ownF n s0 ds r r' r2 f _ ih =>
  intro i s e
  cases i with
  | zero=>simp at e; exact .inr (.inr (.inr ⟨ds,e.symm,f,by simp⟩))
  | succ i =>
   have:=ih i s (by simpa using e)
   rw [show n + 1 + i=n + (i + 1) by omega] at this
   simpa using this
section
variable {K:PySem.W.Frag} {F:Fx} {M:List Addr} {H:Hp} {σ:St} {ρ:DS}
omit [TB] [Frm] in
mutual
theorem RO.nt {pp:Option Addr}:∀ (q:O) (v:V) (A:List Addr),RO K pp M H q v A->∀ a∈A,∀ ps,H a≠some (.tbl ps)
 | .val d,v,A,h,a,ha=>by simp only [RO] at h; rw [h.1] at ha; simp at ha
 | .lst os,v,A,h,a,ha=>by
  simp only [RO] at h
  obtain ⟨b,xs,B,e,hb,rfl,r⟩:=h
  rcases List.mem_cons.mp ha with rfl | ha
  ·rw [hb]; intro _ z; cases z
  ·exact ROs.nt os xs B r a ha
 | .dct ks os,v,A,h,a,ha=>by
  simp only [RO] at h
  obtain ⟨b,kvs,B,e,hb,e2,rfl,r⟩:=h
  rcases List.mem_cons.mp ha with rfl | ha
  ·rw [hb]; intro _ z; cases z
  ·exact ROs.nt os _ B r a ha
 | .tup os,v,A,h,a,ha=>by
  simp only [RO] at h
  obtain ⟨b,xs,e,hb,r⟩:=h
  exact ROs.nt os xs A r a ha
 | .dck ks os,v,A,h,a,ha=>by
  simp only [RO] at h
  obtain ⟨b,kvs,B,e,hb,e2,rfl,r⟩:=h
  rcases List.mem_cons.mp ha with rfl | ha
  ·rw [hb]; intro _ z; cases z
  ·exact ROs.nt os _ B r a ha
theorem ROs.nt {pp:Option Addr}:∀ (os:List O) (xs:List V) (A:List Addr),ROs K pp M H os xs A->∀ a∈A,∀ ps,H a≠some (.tbl ps)
 | [],xs,A,h,a,ha=>by simp only [ROs] at h; rw [h.2] at ha; simp at ha
 | o::os,xs,A,h,a,ha=>by
  simp only [ROs] at h
  obtain ⟨x,r,B,C,e,rfl,h1,h2⟩:=h
  rcases List.mem_append.mp ha with ha | ha
  ·exact RO.nt o x B h1 a ha
  ·exact ROs.nt os r C h2 a ha
end
open Classical in
theorem RSt.owN (r:RSt K F M H σ ρ):∃ As:Nat->List Addr,(∀ (i:Nat) s o,ρ[i]? = some s->σ[i]? = some o->Ow K F M H s o (As i)) /\ (∀ i,∀ a∈As i,a∈M /\ F.H0 a=none /\ F.pp≠some a) /\ (∀ i j,i≠j->∀ a∈As i,a∉As j) /\ ∀ i,∀ a∈As i,∀ ps,H a≠some (.tbl ps):=by
 obtain ⟨As,k1,k2,k3⟩:=r.ow
 refine ⟨fun i=>(As i).filter fun a=>decide (∀ ps,H a≠some (.tbl ps)),fun i s o e1 e2=>?_,fun i a ha=>k2 i a (List.mem_filter.mp ha).1,fun i j e a ha hb=>k3 i j e a (List.mem_filter.mp ha).1 (List.mem_filter.mp hb).1,fun i a ha=>by simpa using (List.mem_filter.mp ha).2⟩
 have q:=k1 i s o e1 e2
 cases s with
 | nil=>trivial
 | val d=>trivial
 | pin w d=>trivial
 | own ds =>
  obtain ⟨l,rfl,e⟩:=q
  obtain ⟨l',xs,e',_,_,_,hl,_⟩:=r.sl i _ _ e1 e2
  cases e'
  refine ⟨l,rfl,?_⟩
  show (As i).filter _=[l]
  rw [e,List.filter_eq_self]
  intro a ha
  simp at ha; subst ha
  simp [hl]
 | obj b =>
  obtain ⟨nd,v,rfl,hq⟩:=q
  have e:(As i).filter (fun a=>decide (∀ ps,H a≠some (.tbl ps)))=As i:=by
   rw [List.filter_eq_self]
   intro a ha
   simpa using RO.nt b v (As i) hq a ha
  show Ow K F M H _ _ ((As i).filter _)
  rw [e]
  exact ⟨nd,v,rfl,hq⟩
open Classical in
theorem RSt.look (r:RSt K F M H σ ρ) (vs:Nat->V) (hv:∀ (i:Nat) v,σ[i]? = some (some v)->vs i=v) :
  ∃ M0,Mv K F.pp M H M0 H /\ RSt K F M0 H σ (pinL vs 0 ρ) /\ (∀ M' H' σ' ρ' ρ2,Mv K F.pp M0 H M' H'->RSt K F M' H' σ' ρ'->Unp vs 0 ρ ρ' ρ2->∃ M2,Mv K F.pp M H M2 H' /\ RSt K F M2 H' σ' ρ2) /\
   ∃ As:Nat->List Addr,(∀ (i:Nat) s o,ρ[i]? = some s->σ[i]? = some o->Ow K F M H s o (As i)) /\ ∀ M' H',Mv K F.pp M0 H M' H'->∀ i,i < ρ.length->∀ a∈As i,∀ x,H a=some x->NT x->H' a=some x:=by
 obtain ⟨As,k1,k2,k3,k4⟩:=r.owN
 obtain ⟨A,hA⟩:∃ A:List Addr,∀ a,a∈A↔∃ i,i < ρ.length /\ a∈As i:=⟨(List.range ρ.length).flatMap As,fun a=>by simp⟩
 have inA:∀ (i:Nat) s,ρ[i]? = some s->∀ a∈As i,a∈A:=fun i s e a ha=>(hA a).mpr ⟨i,(List.getElem?_eq_some_iff.mp e).1,ha⟩
 have ofA:∀ a∈A,a∈M /\ F.H0 a=none /\ F.pp≠some a:=fun a ha=>by
  obtain ⟨i,_,h⟩:=(hA a).mp ha
  exact k2 i a h
 have ntA:∀ a∈A,∀ ps,H a≠some (.tbl ps):=fun a ha=>by
  obtain ⟨i,_,h⟩:=(hA a).mp ha
  exact k4 i a h
 have m0:Mv K F.pp M H (M.filter fun a=>decide (a∉A)) H:=.less fun a ha=>(List.mem_filter.mp ha).1
 have n0:∀ a∈A,a∉M.filter fun a=>decide (a∉A):=fun a ha z=>absurd ha (by simpa using (List.mem_filter.mp z).2)
 have z0:∀ i:Nat,vs (0 + i)=vs i:=fun i=>by rw [Nat.zero_add]
 refine ⟨_,m0,⟨by rw [qy,r.len],fun i s o h1 h2=>?_,OwF.none (fun i s h1=>?_),fun a ha=>?_,r.same,r.old,⟨fun a ha=>r.liv.m a (List.mem_filter.mp ha).1,r.liv.p⟩,r.lk.cl m0⟩,?_,As,k1,fun M' H' m i hi a ha x e nt=>(m.oth a x e (n0 a ((hA a).mpr ⟨i,hi,ha⟩)) ⟨(k2 i a ha).2.2,nt⟩).1⟩
 ·rw [lR] at h1
  obtain ⟨s0,e0,rfl⟩:=Option.map_eq_some_iff.mp h1
  rw [z0]
  have q:=r.sl i s0 o e0 h2
  cases s0 with
  | nil=>trivial
  | val d=>obtain ⟨v,rfl,q⟩:=q; exact ⟨v,rfl,(hv i v h2).symm,q.mv m0⟩
  | pin w d=>obtain ⟨v,e,ew,q⟩:=q; exact ⟨v,e,ew,q.mv m0⟩
  | own ds =>
   obtain ⟨l,xs,rfl,hm,h0,hp,hl,hr⟩:=q
   have hlA:l∈A:=by
    obtain ⟨l2,e2,e3⟩:=k1 i _ _ e0 h2
    cases e2
    exact inA i _ e0 l (by rw [e3]; simp)
   refine ⟨.ref l,rfl,(hv i _ h2).symm,?_⟩
   simp only [Rep]
   exact ⟨l,xs,rfl,n0 l hlA,hp,hl,hr.mv m0⟩
  | obj b =>
   obtain ⟨nd,v,rfl,hq⟩:=k1 i _ _ e0 h2
   exact ⟨v,rfl,(hv i v h2).symm,RO.fz m0 b v (As i) (fun a ha=>⟨n0 a (inA i _ e0 a ha),(k2 i a ha).2.2⟩) hq⟩
 ·rw [lR] at h1
  obtain ⟨s0,e0,rfl⟩:=Option.map_eq_some_iff.mp h1
  cases s0 <;> exact ⟨fun ds z=>(by cases z),fun q z=>(by cases z)⟩
 ·refine List.mem_filter.mpr ⟨r.sub a ha,?_⟩
  have:a∉A:=fun z=>r.old a ha (ofA a z).2.1
  simpa using this
 ·intro M' H' σ' ρ' ρ2 m r' u
  have mm:=m0.trans m
  have m2:Mv K F.pp M H (A++M') H':=by
   refine ⟨mm.tup,fun a o e n p=>?_,mm.pen,mm.tb⟩
   obtain ⟨q1,q2⟩:=mm.oth a o e n p
   refine ⟨q1,fun z=>?_⟩
   rcases List.mem_append.mp z with z | z
   ·exact n (ofA a z).1
   ·exact q2 z
  have kp:∀ a∈A,∀ x,H a=some x->NT x->H' a=some x:=fun a ha x e nt=>(m.oth a x e (n0 a ha) ⟨(ofA a ha).2.2,nt⟩).1
  obtain ⟨ul,ul2⟩:=u.len
  have key:∀ (i:Nat) s o,ρ[i]? = some s->ρ'[i]? = some (pinS (vs (0 + i)) s)->s ≠ .nil->σ'[i]? = some o->σ[i]? = some o:=fun i s o e1 e2 hn h2=>by
   obtain ⟨o0,ho0,q0⟩:=r.at e1
   have q1:=r'.sl i _ _ e2 h2
   rw [z0] at q1
   rw [ho0]
   cases s with
   | nil=>exact absurd rfl hn
   | val d =>
    obtain ⟨v,rfl,q⟩:=q0
    obtain ⟨v',rfl,e,_⟩:=q1
    rw [e,hv i v ho0]
   | pin w d =>
    obtain ⟨v,rfl,e',q⟩:=q0
    obtain ⟨v',rfl,e,_⟩:=q1
    rw [e,e']
   | own ds =>
    obtain ⟨l,xs,rfl,hm,h0,hp,hl,hr⟩:=q0
    obtain ⟨v',rfl,e,_⟩:=q1
    rw [e,hv i _ ho0]
   | obj q =>
    obtain ⟨v,rfl⟩:=q0
    obtain ⟨v',rfl,e,_⟩:=q1
    rw [e,hv i v ho0]
  obtain ⟨Bs,b1,b2,b3⟩:=r'.ow
  have dj:∀ a∈A,a∉M':=fun a ha=>by
   cases e:H a with
   | none=>exact absurd e (r.liv.m a (ofA a ha).1)
   | some x=>exact (m.oth a x e (n0 a ha) ⟨(ofA a ha).2.2,fun ps q=>ntA a ha ps (by rw [e,q])⟩).2
  let nw:Nat->Prop:=fun i=>∃ ds,ρ2[i]? = some (.own ds) /\ ρ'[i]? = some (.own ds)
  have inC:∀ i a,a∈(if nw i then Bs i else if i < ρ.length then As i else [])->(nw i /\ a∈Bs i)∨(¬ nw i /\ i < ρ.length /\ a∈As i):=fun i a ha=>by
   by_cases h:nw i
   ·rw [if_pos h] at ha; exact .inl ⟨h,ha⟩
   ·rw [if_neg h] at ha
    by_cases e:i < ρ.length
    ·rw [if_pos e] at ha; exact .inr ⟨h,e,ha⟩
    ·rw [if_neg e] at ha; simp at ha
  refine ⟨A++M',m2,⟨by rw [r'.len,ul],fun i s o h1 h2=>?_,⟨fun i=>if nw i then Bs i else if i < ρ.length then As i else [],fun i s o h1 h2=>?_,fun i a ha=>?_,fun i j e a ha hb=>?_⟩,fun a ha=>List.mem_append.mpr (.inr (r'.sub a ha)),r'.same,r.old,⟨fun a ha=>?_,r'.liv.p⟩,r.lk.cl m2⟩⟩
  ·rcases u.get i s h1 with rfl | ⟨e1,e2⟩ | ⟨d,rfl,f,e2⟩ | ⟨ds,rfl,f,e2⟩
   ·trivial
   ·by_cases hn:s = .nil
    ·subst hn; trivial
    have h3:=key i s o e1 e2 hn h2
    have q0:=r.sl i s o e1 h3
    cases s with
    | nil=>trivial
    | val d=>obtain ⟨v,e,q⟩:=q0; exact ⟨v,e,q.mv m2⟩
    | pin w d=>obtain ⟨v,e,ew,q⟩:=q0; exact ⟨v,e,ew,q.mv m2⟩
    | own ds =>
     obtain ⟨l,xs,rfl,hm,h0,hp,hl,hr⟩:=q0
     have hlA:l∈A:=by
      obtain ⟨l2,e2,e3⟩:=k1 i _ _ e1 h3
      cases e2
      exact inA i _ e1 l (by rw [e3]; simp)
     exact ⟨l,xs,rfl,List.mem_append.mpr (.inl hlA),h0,hp,kp l hlA _ hl (by intro _ z; cases z),hr.mv m2⟩
    | obj q=>exact q0
   ·obtain ⟨v,e,q⟩:=r'.sl i _ _ e2 h2
    exact ⟨v,e,q.flat _ _ f⟩
   ·obtain ⟨l,xs,e,hm,h0,hp,hl,hr⟩:=r'.sl i _ _ e2 h2
    exact ⟨l,xs,e,List.mem_append.mpr (.inr hm),h0,hp,hl,Reps.flat ds xs f hr⟩
  ·show Ow K F _ H' s o (if nw i then Bs i else if i < ρ.length then As i else [])
   rcases u.get i s h1 with rfl | ⟨e1,e2⟩ | ⟨d,rfl,f,e2⟩ | ⟨ds,rfl,f,e2⟩
   ·trivial
   ·by_cases hn:s = .nil
    ·subst hn; trivial
    have h3:=key i s o e1 e2 hn h2
    have nn:¬ nw i:=fun ⟨ds,z1,z2⟩=>by
     rw [h1] at z1
     cases z1
     rw [e2] at z2
     cases z2
    rw [if_neg nn,if_pos (List.getElem?_eq_some_iff.mp e1).1]
    exact (k1 i s o e1 h3).mv m2 fun a ha=>kp a (inA i s e1 a ha)
   ·trivial
   ·have nn:nw i:=⟨ds,h1,e2⟩
    rw [if_pos nn]
    exact b1 i _ o e2 h2
  ·rcases inC i a ha with ⟨_,ha⟩ | ⟨_,e,ha⟩
   ·have:=b2 i a ha
    exact ⟨List.mem_append.mpr (.inr this.1),this.2⟩
   ·exact ⟨List.mem_append.mpr (.inl ((hA a).mpr ⟨i,e,ha⟩)),(k2 i a ha).2⟩
  ·rcases inC i a ha with ⟨_,ha⟩ | ⟨_,e1,ha⟩ <;> rcases inC j a hb with ⟨_,hb⟩ | ⟨_,e2,hb⟩
   ·exact b3 i j e a ha hb
   ·exact dj a ((hA a).mpr ⟨j,e2,hb⟩) (b2 i a ha).1
   ·exact dj a ((hA a).mpr ⟨i,e1,ha⟩) (b2 j a hb).1
   ·exact k3 i j e a ha hb
  ·rcases List.mem_append.mp ha with ha | ha
   ·intro z
    have:=r.liv.m a (ofA a ha).1
    cases e:H a with
    | none=>exact this e
    | some x=>rw [kp a ha x e (fun ps q=>ntA a ha ps (by rw [e,q]))] at z; cases z
   ·exact r'.liv.m a ha
end
section
variable {X:Cx} {e:Expr} {st:Stmt}
omit [Frm] in
theorem AA (σ:St) (i:Nat) (v:V) (h:σ[i]? = some (some v)):(fun i=>((σ[i]?).getD none).getD V.non) i=v:=by simp [h]
abbrev AB (t:DT):DT:=fun ρ Q=>∀ vs:Nat->V,t (pinL vs 0 ρ) fun b ρ'=>ρ'=pinL vs 0 ρ /\ Q b ρ
theorem yz {t:DT} (h:PTD X e t):PTD X e (AB t):=by
 obtain ⟨T,p,r⟩:=h.run
 refine ⟨fun ρ P P' f q vs=>h.mono _ _ _ (fun b ρ' q=>⟨q.1,f _ _ q.2⟩) (q vs),T,p,fun {F} M H σ ρ Q rs q=>?_⟩
 obtain ⟨M0,m0,rs0,th,_⟩:=rs.look _ (AA σ)
 refine r M0 H σ _ Q rs0 (h.mono _ _ _ (fun b ρ' q M' H' m rs'=>?_) (q _))
 obtain ⟨rfl,q⟩:=q
 obtain ⟨M2,m2,rs2⟩:=th M' H' σ _ ρ m rs' (Unp.self _ ρ 0)
 exact q M2 H' m2 rs2
abbrev AC (t:DTS):DTS:=fun E ρ=>∀ vs:Nat->V,t { nx:=fun ρ'=>∃ ρ2,Unp vs 0 ρ ρ' ρ2 /\ E.nx ρ2,rt:=E.rt,bk:=fun ρ'=>∃ ρ2,Unp vs 0 ρ ρ' ρ2 /\ E.bk ρ2,ct:=fun ρ'=>∃ ρ2,Unp vs 0 ρ ρ' ρ2 /\ E.ct ρ2 } (pinL vs 0 ρ)
theorem yA {t:DTS} (h:PSD X st t):PSD X st (AC t):=by
 obtain ⟨T,p,r⟩:=h
 refine ⟨T,p,fun {F} M H σ ρ E D rs o q=>?_⟩
 obtain ⟨M0,m0,rs0,th,_⟩:=rs.look _ (AA σ)
 refine r M0 H σ _ { nx:=fun ρ'=>∃ ρ2,Unp _ 0 ρ ρ' ρ2 /\ E.nx ρ2,rt:=E.rt,bk:=fun ρ'=>∃ ρ2,Unp _ 0 ρ ρ' ρ2 /\ E.bk ρ2,ct:=fun ρ'=>∃ ρ2,Unp _ 0 ρ ρ' ρ2 /\ E.ct ρ2 } D rs0 ⟨fun M' H' σ' ρ' m rs' q=>?_,fun M' H' σ' ρ' m rs' q=>?_,fun M' H' σ' ρ' m rs' q=>?_,fun M' H' σ' ρ' d v m rs' rd q=>o.rt M' H' σ' ρ' d v (m0.trans m) rs' rd q⟩ (q _)
 ·obtain ⟨ρ2,u,q⟩:=q
  obtain ⟨M2,m2,rs2⟩:=th M' H' σ' ρ' ρ2 m rs' u
  exact o.nx M2 H' σ' ρ2 m2 rs2 q
 ·obtain ⟨ρ2,u,q⟩:=q
  obtain ⟨M2,m2,rs2⟩:=th M' H' σ' ρ' ρ2 m rs' u
  exact o.bk M2 H' σ' ρ2 m2 rs2 q
 ·obtain ⟨ρ2,u,q⟩:=q
  obtain ⟨M2,m2,rs2⟩:=th M' H' σ' ρ' ρ2 m rs' u
  exact o.ct M2 H' σ' ρ2 m2 rs2 q
end
section
variable {K:PySem.W.Frag} {pp:Option Addr} {M:List Addr} {H:Hp}
omit [Frm] in
mutual
theorem RO.live:∀ (q:O) (v:V) (A:List Addr),RO K pp M H q v A->∀ a∈A,H a≠none
 | .val d,v,A,h,a,ha=>by simp only [RO] at h; rw [h.1] at ha; simp at ha
 | .lst os,v,A,h,a,ha=>by
  simp only [RO] at h
  obtain ⟨b,xs,B,e,hb,rfl,r⟩:=h
  rcases List.mem_cons.mp ha with rfl | ha
  ·rw [hb]; intro z; cases z
  ·exact ROs.live os xs B r a ha
 | .dct ks os,v,A,h,a,ha=>by
  simp only [RO] at h
  obtain ⟨b,kvs,B,e,hb,e2,rfl,r⟩:=h
  rcases List.mem_cons.mp ha with rfl | ha
  ·rw [hb]; intro z; cases z
  ·exact ROs.live os _ B r a ha
 | .tup os,v,A,h,a,ha=>by
  simp only [RO] at h
  obtain ⟨b,xs,e,hb,r⟩:=h
  exact ROs.live os xs A r a ha
 | .dck ks os,v,A,h,a,ha=>by
  simp only [RO] at h
  obtain ⟨b,kvs,B,e,hb,e2,rfl,r⟩:=h
  rcases List.mem_cons.mp ha with rfl | ha
  ·rw [hb]; intro z; cases z
  ·exact ROs.live os _ B r a ha
theorem ROs.live:∀ (os:List O) (xs:List V) (A:List Addr),ROs K pp M H os xs A->∀ a∈A,H a≠none
 | [],xs,A,h,a,ha=>by simp only [ROs] at h; rw [h.2] at ha; simp at ha
 | o::os,xs,A,h,a,ha=>by
  simp only [ROs] at h
  obtain ⟨x,r,B,C,e,rfl,h1,h2⟩:=h
  rcases List.mem_append.mp ha with ha | ha
  ·exact RO.live o x B h1 a ha
  ·exact ROs.live os r C h2 a ha
end
omit [Frm] in
theorem ROs.vals:∀ {ds:List D} {xs:List V},Reps K pp M H ds xs->ROs K pp M H (ds.map O.val) xs []
 | [],xs,h=>by simp only [Reps] at h; simp only [List.map_nil,ROs]; exact ⟨h,trivial⟩
 | d::ds,xs,h=>by
  simp only [Reps] at h
  obtain ⟨x,r,rfl,h1,h2⟩:=h
  simp only [List.map_cons,ROs,RO]
  exact ⟨x,r,[],[],rfl,rfl,⟨rfl,h1⟩,ROs.vals h2⟩
omit [Frm] in
theorem ROs.put {o:O}:∀ {os:List O} {xs:List V} {A:List Addr} (n:Nat),ROs K pp M H os xs A->A.Nodup->os[n]? = some o ->
  ∃ x B,xs[n]? = some x /\ RO K pp M H o x B /\ B.Nodup /\ (∀ a∈B,a∈A) /\ ∀ {M':List Addr} {H':Hp} o' x' B',Mv K pp M H M' H'->(∀ a∈A,a∉B->∀ z,H a=some z->H' a=some z) ->
   RO K pp M' H' o' x' B'->B'.Nodup->(∀ b∈B',b∈B∨b∉A)->∃ A',A'.Nodup /\ (∀ a∈A',a∈A∨a∈B') /\ ROs K pp M' H' (os.set n o') (xs.set n x') A'
 | [],xs,A,n,h,nd,e=>by simp at e
 | o0::os,xs,A,0,h,nd,e=>by
  simp only [ROs] at h
  obtain ⟨x,r,B,C,rfl,rfl,h1,h2⟩:=h
  simp at e
  subst e
  obtain ⟨n1,n2,n3⟩:=List.nodup_append.mp nd
  refine ⟨x,B,rfl,h1,n1,fun a ha=>List.mem_append.mpr (.inl ha),fun {M' H'} o' x' B' m k r' nb hb=>⟨B'++C,?_,fun a ha=>?_,?_⟩⟩
  ·refine List.nodup_append.mpr ⟨nb,n2,fun a ha b hc z=>?_⟩
   subst z
   rcases hb a ha with z | z
   ·exact n3 a z a hc rfl
   ·exact z (List.mem_append.mpr (.inr hc))
  ·rcases List.mem_append.mp ha with ha | ha
   ·exact .inr ha
   ·exact .inl (List.mem_append.mpr (.inr ha))
  ·simp only [List.set_cons_zero,ROs]
   exact ⟨x',r,B',C,rfl,rfl,r',ROs.mv m os r C (fun a ha z e _=>k a (List.mem_append.mpr (.inr ha)) (fun y=>n3 a y a ha rfl) z e) h2⟩
 | o0::os,xs,A,n + 1,h,nd,e=>by
  simp only [ROs] at h
  obtain ⟨x0,r,B0,C,rfl,rfl,h1,h2⟩:=h
  obtain ⟨n1,n2,n3⟩:=List.nodup_append.mp nd
  obtain ⟨x,B,ex,hB,nB,sB,f⟩:=ROs.put n h2 n2 (by simpa using e)
  refine ⟨x,B,by simpa using ex,hB,nB,fun a ha=>List.mem_append.mpr (.inr (sB a ha)),fun {M' H'} o' x' B' m k r' nb hb=>?_⟩
  obtain ⟨C',c1,c2,c3⟩:=f o' x' B' m (fun a ha hn z e=>k a (List.mem_append.mpr (.inr ha)) hn z e) r' nb (fun b hb'=>(hb b hb').imp id fun z y=>z (List.mem_append.mpr (.inr y)))
  refine ⟨B0++C',?_,fun a ha=>?_,?_⟩
  ·refine List.nodup_append.mpr ⟨n1,c1,fun a ha b hc z=>?_⟩
   subst z
   rcases c2 a hc with z | z
   ·exact n3 a ha a z rfl
   ·rcases hb a z with y | y
    ·exact n3 a ha a (sB a y) rfl
    ·exact y (List.mem_append.mpr (.inl ha))
  ·rcases List.mem_append.mp ha with ha | ha
   ·exact .inl (List.mem_append.mpr (.inl ha))
   ·exact (c2 a ha).imp (fun z=>List.mem_append.mpr (.inr z)) id
  ·simp only [List.set_cons_succ,ROs]
   exact ⟨x0,_,B0,C',rfl,rfl,RO.mv m o0 x0 B0 (fun a ha z e _=>k a (List.mem_append.mpr (.inl ha)) (fun y=>n3 a ha a (sB a y) rfl) z e) h1,c3⟩
end
section
variable {K:PySem.W.Frag} {F:Fx} {M:List Addr} {H:Hp} {σ:St} {ρ:DS} {i:Nat} {q q':O} {l:Addr} {xs ys:List V}
theorem RSt.writeO (r:RSt K F M H σ ρ) (h:ρ[i]? = some (.obj q)) (hl:H l=some (.lst xs))
  (k:∀ v A,σ[i]? = some (some v)->A.Nodup->RO K F.pp M H q v A->(∀ a∈A,a∈M /\ F.H0 a=none /\ F.pp≠some a)->l∈A /\ ∃ A',A'.Nodup /\ (∀ a∈A',a∈A) /\ (Mv K F.pp M H M (upd H l (.lst ys))->RO K F.pp M (upd H l (.lst ys)) q' v A')) :
  Mv K F.pp M H M (upd H l (.lst ys)) /\ RSt K F M (upd H l (.lst ys)) σ (ρ.set i (.obj q')):=by
 obtain ⟨v,A,ho,nd,hq,hA,hoth⟩:=r.objAt h
 obtain ⟨lA,_⟩:=k v A ho nd hq hA
 obtain ⟨hm,h0,hp⟩:=hA l lA
 have m:Mv K F.pp M H M (upd H l (.lst ys)):=.write hl hm hp
 refine ⟨m,⟨by simp [r.len],fun j s o h1 h2=>?_,r.ow.step m i (fun _ _=>rfl) (fun j e=>List.getElem?_set_ne (Ne.symm e)) (fun A1 hA1 hB1=>?_),r.sub,?_,r.old,?_,r.lk.cl m⟩⟩
 ·by_cases e:i=j
  ·subst e
   rw [ho] at h2
   rw [aB h1]
   cases h2
   exact ⟨v,rfl⟩
  ·rw [List.getElem?_set_ne e] at h1
   have q':=r.sl j s o h1 h2
   cases s with
   | nil=>trivial
   | val d=>obtain ⟨v,e,q⟩:=q'; exact ⟨v,e,q.mv m⟩
   | pin w d=>obtain ⟨v,e,ew,q⟩:=q'; exact ⟨v,e,ew,q.mv m⟩
   | own es =>
    obtain ⟨l',zs,rfl,hm',h0',hp',hl'',hr'⟩:=q'
    refine ⟨l',zs,rfl,hm',h0',hp',?_,hr'.mv m⟩
    rw [ah]
    ·exact hl''
    ·rintro rfl
     exact hoth j _ _ (Ne.symm e) h1 h2 _ ⟨es,rfl⟩ rfl lA
   | obj q=>exact q'
 ·obtain ⟨nd1,v1,e1,hq1⟩:=hA1 _ _ h ho
  cases e1
  obtain ⟨lA1,A',nd',sub,ro⟩:=k v A1 ho nd1 hq1 hB1
  refine ⟨A',fun s o e1 e2=>?_,fun b hb=>⟨(hB1 b (sub b hb)).1,(hB1 b (sub b hb)).2.1,(hB1 b (sub b hb)).2.2,.inl (sub b hb)⟩,fun a ha _ _ hn=>⟨ha,fun x e _=>?_⟩⟩
  ·rw [ho] at e2
   cases e2
   rw [aB e1]
   exact ⟨nd',v,rfl,ro m⟩
  ·rw [ah (by rintro rfl; exact hn lA1)]
   exact e
 ·refine ⟨fun b o e n=>?_,fun p e h=>m.pen p e (r.same.pen p e h),fun b e=>?_⟩
  ·rw [ah (by rintro rfl; rw [h0] at e; cases e)]
   exact r.same.keep b o e n
  ·by_cases z:b=l
   ·subst z; rw [ai]; intro z; cases z
   ·rw [ah z]; exact r.same.live b e
 ·refine ⟨fun a ha=>?_,fun p e=>?_⟩
  ·by_cases z:a=l
   ·subst z; rw [ai]; intro z; cases z
   ·rw [ah z]; exact r.liv.m a ha
  ·by_cases z:p=l
   ·subst z; rw [ai]; intro z; cases z
   ·rw [ah z]; exact r.liv.p p e
theorem RSt.newObj {M1:List Addr} {H1 H':Hp} {A:List Addr} {v:V} (r:RSt K F M1 H1 σ ρ) (s:SameP K F.pp H1 H') (hn:A.Nodup) (hA:∀ a∈A,H1 a=none /\ F.pp≠some a) (ro:RO K F.pp (A++M1) H' q v A) (i:Nat) :
  Mv K F.pp M1 H1 (A++M1) H' /\ RSt K F (A++M1) H' (σ.set i (some v)) (ρ.set i (.obj q)):=by
 have m1:Mv K F.pp M1 H1 M1 H':=s.mv
 have m:Mv K F.pp M1 H1 (A++M1) H':=by
  refine ⟨m1.tup,fun a o e n p=>⟨(m1.oth a o e n p).1,fun z=>?_⟩,m1.pen,m1.tb⟩
  rcases List.mem_append.mp z with z | z
  ·rw [(hA a z).1] at e; cases e
  ·exact n z
 have f0:∀ a∈A,F.H0 a=none:=fun a ha=>by
  cases e:F.H0 a with
  | none=>rfl
  | some o=>exact absurd (hA a ha).1 (r.same.live a (by rw [e]; intro z; cases z))
 refine ⟨m,⟨by simp [r.len],fun j t o h1 h2=>?_,r.ow.step m i (fun j e=>List.getElem?_set_ne (Ne.symm e)) (fun j e=>List.getElem?_set_ne (Ne.symm e)) (fun A0 _ _=>⟨A,fun t o e1 e2=>?_,fun b hb=>⟨List.mem_append.mpr (.inl hb),f0 b hb,(hA b hb).2,.inr fun z=>r.liv.m b z (hA b hb).1⟩,fun a ha p0 z0 _=>⟨List.mem_append.mpr (.inr ha),(s.ow (M:=M1) a ha p0 z0).2⟩⟩),fun a ha=>List.mem_append.mpr (.inr (r.sub a ha)),r.same.trans s.toSameQ,r.old,⟨fun a ha=>?_,fun p e=>s.live p (r.liv.p p e)⟩,r.lk.cl m⟩⟩
 ·by_cases e:i=j
  ·subst e
   rw [aB h1,aB h2]
   exact ⟨v,rfl⟩
  ·rw [List.getElem?_set_ne e] at h1 h2
   have q':=r.sl j t o h1 h2
   cases t with
   | nil=>trivial
   | val d=>obtain ⟨v,e,q⟩:=q'; exact ⟨v,e,q.mv m⟩
   | pin w d=>obtain ⟨v,e,ew,q⟩:=q'; exact ⟨v,e,ew,q.mv m⟩
   | own es =>
    obtain ⟨l',zs,rfl,hm',h0',hp',hl'',hr'⟩:=q'
    exact ⟨l',zs,rfl,List.mem_append.mpr (.inr hm'),h0',hp',(s.ow (M:=M1) l' hm' hp' h0').2 _ hl'' (by intro _ z; cases z),hr'.mv m⟩
   | obj q=>exact q'
 ·rw [aB e1,aB e2]
  exact ⟨hn,v,rfl,ro⟩
 ·rcases List.mem_append.mp ha with ha | ha
  ·exact RO.live q v A ro a ha
  ·exact s.live a (r.liv.m a ha)
end
abbrev DTB:=(D->Prop)->(O->Prop)->DS->Prop
section
variable {X:Cx} {st:Stmt} {rest:List Stmt} {t:DTS} {u:DTB} {e:Expr} {te:DE} {pos:Pos}
end
section
variable {X:Cx}
def AD (i n:Nat) (E:DEnds) (ρ:DS):Sl->Prop
 | .obj (.tup os)=>∃ es,os[n]? = some (.lst es) /\ E.nx (ρ.set i (.obj (.tup (os.set n (.lst [])))))
 | _=>False
abbrev dClr (i n:Nat):DTS:=fun E ρ=>AD i n E ρ (slot ρ i)
omit [Frm] in
theorem atI_nat {α:Type} {xs:List α} {n:Nat} {x:α} (h:xs[n]? = some x):atI xs (n:Int)=some x:=by
 have hn:n < xs.length:=(List.getElem?_eq_some_iff.mp h).1
 unfold atI ixN
 rw [if_pos (by omega),if_pos (by omega)]
 simpa using h
theorem tY {i n:Nat} {c:Int} {o:Expr} {j} {ppos cp apos cpos pos:Pos} (hc:c=(n:Int)) (ho:PE X o (tVar i))
  (hbase:attributeBase (.Subscript o (.Constant (.int c) j cp) ppos) "clear" X.env (eval (.Subscript o (.Constant (.int c) j cp) ppos) X.env)=eval (.Subscript o (.Constant (.int c) j cp) ppos) X.env:=by rfl) (hline:(apos.endLine == cpos.line)=true:=by rfl)
  (hs:swapsWith (.Call (.Attribute (.Subscript o (.Constant (.int c) j cp) ppos) "clear" apos) [] [] cpos) none pos.line X.env=pure false:=by rfl) :
  PSD X (.Expr (.Call (.Attribute (.Subscript o (.Constant (.int c) j cp) ppos) "clear" apos) [] [] cpos) pos) (dClr i n):=by
 have hm:PE X (.Call (.Attribute (.Subscript o (.Constant (.int c) j cp) ppos) "clear" apos) [] [] cpos) (tBM0 X.K "list" qf (tOp BW (tVar i) (tC (.int c)))):=sR PySem.F.plainAttrs_list PySem.F.slot_list_clear PySem.F.type_list_clear lx (mK (IxR.or lF qi) ho ba (fun _ _=>rfl)) hbase hline
 refine ⟨_,gL hm hs,fun {F} M H σ ρ E D rs oo h=>?_⟩
 have h:AD i n E ρ (slot ρ i):=h
 cases q:slot ρ i with
 | nil=>rw [q] at h; exact h.elim
 | val d=>rw [q] at h; exact h.elim
 | pin w d=>rw [q] at h; exact h.elim
 | own ds=>rw [q] at h; exact h.elim
 | obj b =>
  rw [q] at h
  cases b with
  | val d=>exact h.elim
  | lst os=>exact h.elim
  | dct ks os=>exact h.elim
  | dck ks os=>exact h.elim
  | tup os =>
   obtain ⟨es,e1,h⟩:=h
   have g1:=aI q (by intro z; cases z)
   obtain ⟨v,A,ho1,nd,hq,hA,_⟩:=rs.objAt g1
   simp only [RO] at hq
   obtain ⟨a,xs,rfl,ha,rx⟩:=hq
   obtain ⟨x,B,ex,rb,nb,sb,_⟩:=ROs.put n rx nd e1
   simp only [RO] at rb
   obtain ⟨l,ys,C,rfl,hl,rfl,ry⟩:=rb
   obtain ⟨m2,rs2⟩:=rs.writeO (q':=.tup (os.set n (.lst []))) (ys:=[]) g1 hl fun v A1 hv nd1 hq1 hA1=>by
    rw [ho1] at hv
    cases hv
    simp only [RO] at hq1
    obtain ⟨a1,xs1,e,ha1,rx1⟩:=hq1
    cases e
    rw [ha] at ha1
    cases ha1
    obtain ⟨x1,B1,ex1,rb1,nb1,sb1,f1⟩:=ROs.put n rx1 nd1 e1
    rw [ex] at ex1
    cases ex1
    simp only [RO] at rb1
    obtain ⟨l1,ys1,C1,e,hl1,rfl,ry1⟩:=rb1
    cases e
    have lA:l∈A1:=sb1 l List.mem_cons_self
    obtain ⟨b1,b2,b3⟩:=hA1 l lA
    obtain ⟨A',c1,c2,c3⟩:=f1 (.lst []) (.ref l) [l] (.write (ys:=[]) hl b1 b3) (fun a _ hn z e=>by rw [ah (by rintro rfl; exact hn List.mem_cons_self)]; exact e) (by simp only [RO,ROs]; exact ⟨l,[],[],rfl,ai,rfl,rfl,rfl⟩) (by simp) (fun b hb=>.inl (by rw [List.mem_singleton.mp hb]; exact List.mem_cons_self))
    refine ⟨lA,A',c1,fun a ha=>(c2 a ha).elim id fun z=>(by rw [List.mem_singleton.mp z]; exact lA),fun m=>?_⟩
    simp only [RO]
    refine ⟨a,xs,rfl,m.tup a xs ha,?_⟩
    have:xs.set n (.ref l)=xs:=by
     have hn:n < xs.length:=(List.getElem?_eq_some_iff.mp ex).1
     have:=(List.getElem?_eq_some_iff.mp ex).2
     rw [← this]; exact List.set_getElem_self hn
    rw [this] at c3
    exact c3
   refine ⟨.ref a,ho1,.inl ⟨a,xs,c,.ref l,rfl,rfl,ha,by rw [hc]; exact atI_nat ex,.inl ⟨rfl,ys,SqL.of hl⟩,?_⟩⟩
   exact ⟨l,ys,rfl,rfl,hl,oo.nx M _ _ _ m2 rs2 h⟩
end
end DL
namespace L2
open PySem PySem.Spec PyProof.Rows
section
variable {X:Cx}
end
end L2
namespace DL
open PySem PySem.Spec L2
open PyProof.Rows hiding St
variable [TB]
variable [Frm]
section
variable {X:Cx}
end
section
variable {X:Cx}
end
end DL
namespace PySem
section
variable {prog:Program} {w:World} {K:Type} [DecidableEq K] {knd:HeapKind prog w K} {A:Around} {E:Value->Shared->Prop} {z:Shared}
theorem vT {c b:Addr} {ps:List (K×Addr×Value)} {q:K} {x:Value} {R:Value->Shared->Prop} (room:knd.room A) (isK:knd.is z.heap q b) (D:z.heap.DictOfH knd c ps) (few:ps.length <= sizeLine)
  (old:∀ p,atKey ps q=some p->R p.2 { z with toks:=z.toks + knd.draws q })
  (new:atKey ps q=none->∀ h2,h2.DictOfH knd c (storedH ps q b x)->Heap.SameBut c z.heap h2->R x { z with heap:=h2,toks:=z.toks + knd.draws q }) :
  wpAny (model prog w) A (dictSetDefault c (.ref b) x) R E z:=by
 obtain ⟨ob,en,ep,g1,g2,g3,g4,g5,g6⟩:=D
 unfold dictSetDefault
 try with_reducible refine wpAny_holding ?_
 refine wpAny_bind (knd.pyHash room isK ?_)
 refine wpAny_bind (wpAny_dictFind_heap (s:={ z with toks:=z.toks + knd.draws q }) room isK g1 g3 g4 g5 g6 (fun none_=>?_) (fun j p at_=>?_))
 ·have few2:en.size <= sizeLine:=by rw [size_of_entries g4]; exact few
  have a0:=atKey_none_of_get none_
  refine wpAny_bind (wpAny_rule (wpAny_bind (wpAny_updateDictKeys (hz:=few2) (s:={ z with toks:=z.toks + knd.draws q }) g1 g3 (wpAny_pure (new a0 _ ⟨_,_,ep + 1,Heap.get?_update_self _ g1 (Obj.isFreed_of_dict (Obj.data_mapDictKeys g3 _)),g2.mapDictKeys _,Obj.data_mapDictKeys g3 _,?_,?_,?_⟩ (Heap.SameBut.update ..))))))
  all_goals rw [storedH_new a0]
  ·simp [g4,entryOfKey]
  ·intro y hy
   rcases List.mem_append.mp hy with hy | hy
   ·exact knd.keeps (g5 y hy) g1 g3 (Heap.SameBut.update ..)
   ·rw [List.mem_singleton.mp hy]
    exact knd.keeps isK g1 g3 (Heap.SameBut.update ..)
  ·rw [List.map_append,List.map_singleton]
   refine List.nodup_append.mpr ⟨g6,List.nodup_cons.mpr ⟨by simp,List.nodup_nil⟩,fun y hy u hu e=>?_⟩
   have e:y=q:=by rw [List.mem_singleton.mp hu] at e; exact e
   subst e
   exact not_mem_keys_of_get none_ hy
 ·refine wpAny_bind (wpAny_dictEntries (s:={ z with toks:=z.toks + knd.draws q }) g1 g3 ?_)
  rw [entry_at g4 j,at_]
  exact wpAny_bind (wpAny_rule (wpAny_pure (old p (atKey_of_get g6 at_))))
theorem kA (knd:HeapKind prog w K) (c b:Addr) (x:Value) (plain:(c == sysModules)=false) :
  MeetsIn prog w (Builtin.«dict.setdefault» ⟨[.ref c,.ref b,x],[]⟩) (fun A R z=>knd.room A.in1 /\ ∃ q ps,knd.is z.heap q b /\ z.heap.DictOfH knd c ps /\ ps.length <= sizeLine /\
   (∀ p,atKey ps q=some p->R (.ok (.ret p.2)) { z with toks:=z.toks + knd.draws q }) /\
   (atKey ps q=none->∀ h2,h2.DictOfH knd c (storedH ps q b x)->Heap.SameBut c z.heap h2->R (.ok (.ret x)) { z with heap:=h2,toks:=z.toks + knd.draws q })) :=
 .of_wp fun A R z ⟨room,q,ps,isK,D,few,old,new⟩=>by
  unfold Builtin.«dict.setdefault»
  refine wpAny_bind ?_
  unfold Builtin.Dict.keyAndDefault
  refine wpAny_bind (wpAny_notOrdered_dict D.typeIs ?_)
  show wpAny _ _ (pure (c,Value.ref b,some x)) _ _ z
  refine wpAny_pure ?_
  show wpAny _ _ (if (c == sysModules)=true then _ else (dictSetDefault c (.ref b) x >>= _)) _ _ z
  rw [if_neg (by rw [plain]; exact Bool.false_ne_true)]
  exact wpAny_bind (vT room isK D few (fun p e=>wpAny_pure ⟨p.2,rfl,old p e⟩) fun e h2 D2 sb=>wpAny_pure ⟨x,rfl,new e h2 D2 sb⟩)
end
end PySem
namespace L2
open PySem PySem.Spec PyProof.Rows
section
variable {X:Cx}
def Cf:V->List V->Hp->VK->Prop:=fun x vs H Q=>∃ a kvs k b y,x = .ref a /\ vs=[.ref b,y] /\ H a=some (.dT kvs) /\ H b=some (.tup (k.map kV)) /\ kvs.length < sizeLine /\
 (∀ v,valV kvs k=some v->Q v H) /\ (valV kvs k=none->Q y (upd H a (.dT (putK kvs k y))))
theorem lS (hu:X.A.units + 1 < cLine):MtM X "dict.setdefault" Cf:=by
 intro pins s σ H x vs v us Q I rx rv h
 obtain ⟨a,kvs,k,b,y,rfl,rfl,e,eb,l,h1,h2⟩:=h
 cases rx
 cases rv with
 | cons r1 rr =>
  obtain ⟨u,rfl,ru⟩:=Vals.one rr
  cases r1
  obtain ⟨z,plain,xs,rel,dd⟩:=zQ I.hok e
  have hz:xs.length <= sizeLine:=by rw [← Paired.length rel]; exact z
  have hl:(putK kvs k y).length <= sizeLine:=by have:=fE kvs k y; omega
  refine call_meetsIn F.slot_dict_setdefault dd.typeIs F.entry_dict_setdefault (F.args_dict_setdefault_3 _ _ _) (kA (tupleKind (bA X.prog X.w)) a b u plain) ⟨tupleKind_room_in1 hu,k,xs,qg I.hok eb,dd,hz,fun p hp=>?_,fun hn h' dd' hs=>?_⟩
  ·have q:=rel.val k
   rw [hp] at q
   cases ev:valV kvs k with
   | none=>rw [ev] at q; exact q.elim
   | some v' =>
    rw [ev] at q
    exact ⟨v',H,I.tok _,q,h1 v' ev⟩
  ·have q:=rel.val k
   rw [hn] at q
   cases ev:valV kvs k with
   | some v'=>rw [ev] at q; exact q.elim
   | none =>
    obtain ⟨q,es,ep,hq,h2',h3,h4,_,h5⟩:=dd'
    refine ⟨y,_,oT (ob:=.dT (putK kvs k y)) I (by rw [e]; exact True.intro) hs ⟨q,hq⟩ ⟨hl,plain,_,(rel.put k eb ru).keeps fun c ys ec=>?_,q,es,ep,hq,h2',h3,h4,h5⟩,ru,h2 ev⟩
    rw [ah (ku ec e (fun z=>nomatch z))]
    exact ec
end
end L2
namespace L2
open PySem PySem.Spec PyProof.Rows PySem.W
def kRun {α:Type} (c:Nat->Nat->Bool):KasT α->α
 | .ret a=>a
 | .ask i j k=>kRun c (k (c i j))
def KGood {α:Type} (N:Nat) (P:α->Prop):KasT α->Prop
 | .ret a=>P a
 | .ask i j k=>(i < N /\ j < N) /\ ∀ b,KGood N P (k b)
theorem KGood.bind {α β:Type} {N:Nat} {P:α->Prop} {R:β->Prop} {f:α->KasT β} (hf:∀ a,P a->KGood N R (f a)):∀ (t:KasT α),KGood N P t->KGood N R (t.bind f)
 | .ret a,h=>hf a h
 | .ask i j k,h=>⟨h.1,fun b=>KGood.bind hf (k b) (h.2 b)⟩
theorem KGood.end {α:Type} {N:Nat} {P:α->Prop} (c:Nat->Nat->Bool):∀ (t:KasT α),KGood N P t->P (kRun c t)
 | .ret a,h=>h
 | .ask i j k,h=>KGood.end c (k (c i j)) (h.2 _)
theorem KGood.wp {α:Type} {N:Nat} {P:α->Prop} {c:Nat->Nat->Bool} {cmp:Nat->Nat->(Bool->Shared->Prop)->Shared->Prop} {s:Shared}
  (hc:∀ i j (C:Bool->Shared->Prop),i < N->j < N->C (c i j) s->cmp i j C s):∀ (t:KasT α) (Q:α->Shared->Prop),KGood N P t->Q (kRun c t) s->t.kasWp cmp Q s
 | .ret a,Q,_,q=>q
 | .ask i j k,Q,h,q=>hc i j _ h.1.1 h.1.2 (KGood.wp hc (k (c i j)) Q (h.2 _) q)
def PmN (N:Nat) (p:Array Nat):Prop:=p.toList.Perm (List.range N)
section
variable {N:Nat} {p:Array Nat}
theorem PmN.lt (h:PmN N p) (h0:0 < N) (i:Nat):p.getD i 0 < N:=by
 by_cases hi:i < p.size
 ·have e:p.getD i 0=p[i]:=by simp [Array.getD,hi]
  have hm:p[i]∈p.toList:=Array.mem_toList_iff.mpr (Array.getElem_mem hi)
  rw [e]
  exact List.mem_range.mp (h.mem_iff.mp hm)
 ·have e:p.getD i 0=0:=by simp [Array.getD,hi]
  rw [e]
  exact h0
theorem PmN.rev (h:PmN N p) (i j:Nat):PmN N (kas_rev p i j):=(Array.perm_iff_toList_perm.mp (mirror_perm _ _ _ _)).trans h
theorem PmN.bub (h:PmN N p) (i j:Nat):PmN N (bubble p i j):=(Array.perm_iff_toList_perm.mp (bubble_perm _ _ _)).trans h
theorem lT (h0:0 < N) (h:PmN N p):∀ (f n:Nat),KGood N (fun _=>True) (kas_asc p f n)
 | 0,n=>trivial
 | f + 1,n=>⟨⟨h.lt h0 _,h.lt h0 _⟩,fun b=>by
  dsimp only
  split
  ·trivial
  ·exact lT h0 h f (n + 1)⟩
theorem gz (h0:0 < N):∀ (f:Nat) (p:Array Nat) (n q:Nat),PmN N p->KGood N (fun r=>PmN N r.1) (kas_desc f p n q)
 | 0,p,n,q,h=>h
 | f + 1,p,n,q,h=>⟨⟨h.lt h0 _,h.lt h0 _⟩,fun b=>by
  dsimp only
  split
  ·split
   ·exact gz h0 f _ _ _ (h.rev _ _)
   ·exact gz h0 f _ _ _ h
  ·refine ⟨⟨h.lt h0 _,h.lt h0 _⟩,fun d=>?_⟩
   dsimp only
   split
   ·exact h
   ·exact gz h0 f _ _ _ h⟩
theorem kT (h0:0 < N) (h:PmN N p) (n m:Nat):KGood N (fun r=>PmN N r.2) (kas_tail3 n m p):=by
 unfold kas_tail3
 refine KGood.bind (N:=N) (P:=fun _=>True) (R:=fun (r:Nat×Array Nat)=>PmN N r.2) ?_ _ (lT h0 (h.rev 0 n) _ _)
 intro m _
 exact h.rev 0 n
theorem gA (h0:0 < N) (h:PmN N p) (n m:Nat):KGood N (fun r=>PmN N r.2) (kas_descPart n m p):=KGood.bind (fun r hr=>by
 split
 ·exact kT h0 (hr.rev _ _) _ _
 ·exact kT h0 hr _ _) _ (gz h0 _ _ _ _ h)
theorem kU (h0:0 < N) (h:PmN N p) (m:Nat):KGood N (fun r=>PmN N r.2) (kas_count m p):=KGood.bind (fun n _=>by
 split
 ·exact h
 ·split
  ·refine ⟨⟨h.lt h0 _,h.lt h0 _⟩,fun b=>?_⟩
   dsimp only
   split
   ·exact h
   ·exact gA h0 (h.rev _ _) _ _
  ·exact gA h0 h _ _) _ (lT h0 h _ _)
theorem hV (h0:0 < N) (h:PmN N p) (k:Nat):∀ (f l r:Nat),KGood N (fun _=>True) (kas_place p k f l r)
 | 0,l,r=>trivial
 | f + 1,l,r=>by
  unfold kas_place
  split
  ·trivial
  ·refine ⟨⟨h.lt h0 _,h.lt h0 _⟩,fun b=>?_⟩
   dsimp only
   split
   ·exact hV h0 h k f _ _
   ·exact hV h0 h k f _ _
theorem qz (h0:0 < N):∀ (f:Nat) (p:Array Nat) (k:Nat),PmN N p->KGood N (PmN N) (kas_bin f p k)
 | 0,p,k,h=>h
 | f + 1,p,k,h=>KGood.bind (fun l _=>qz h0 f _ _ (h.bub _ _)) _ (hV h0 h k _ _ _)
theorem dq (h0:0 < N):KGood N (PmN N) (kas_sort N):=by
 have hp:PmN N (List.toArray (List.range N)):=by unfold PmN; rw [List.toList_toArray]
 exact KGood.bind (fun r hr=>by
  split
  ·exact qz h0 _ _ _ hr
  ·exact hr) _ (kU h0 hp N)
end
def lexI:List Key->List Key->Bool
 | [],[]=>false
 | [],_::_=>true
 | _::_,[]=>false
 | .inl a::r,.inl b::r'=>if a=b then lexI r r' else decide (a < b)
 | _,_=>false
def srtK (ks:List (List Key)):List (List Key):=if ks.length < 2 then ks else (kRun (fun i j=>lexI (ks.getD i []) (ks.getD j [])) (kas_sort ks.length)).toList.map fun i=>ks.getD i []
theorem nL {α:Type} {xs:List α} {d:α} {is:List Nat} (h:is.Perm (List.range xs.length)):(is.map fun i=>xs.getD i d).Perm xs:=by
 refine (h.map _).trans ?_
 have:(List.range xs.length).map (fun i=>xs.getD i d)=xs:=by
  apply List.ext_getElem
  ·simp
  ·intro i h1 h2
   simp [h2]
 rw [this]
theorem tZ (ks:List (List Key)):(srtK ks).Perm ks:=by
 unfold srtK
 split
 ·exact List.Perm.refl _
 ·exact nL (KGood.end _ _ (dq (by omega)))
def isI (k:Key) (u:Value):Prop:=∃ i t,k = .inl i /\ u=Value.int i t
def TupI (h:Heap) (k:List Key) (v:Value):Prop:=∃ a o xs n,v = .ref a /\ h.get? a=some o /\ o.cls = .type "tuple" /\ o.data = .seq xs n /\ Paired isI k xs.toList
theorem hW {α β:Type} {R:α->β->Prop} {xs:List α} {ys:List β} (h:Paired R xs ys):xs.length=ys.length:=by
 induction h with
 | nil=>rfl
 | cons _ _ ih=>simp [ih]
section
variable {prog:Program} {w:World} {A:Around} {E:Value->Shared->Prop} {s:Shared} {b fin:Bool} {Q:Bool->Shared->Prop}
theorem AE (o:Bool) {x y:Int} {t u:Tok} {Q:Bool->Shared->Prop} (h:Q (decide (x < y)) s):wpAny (model prog w) A (oneLt' o (.int x t) (.int y u)) Q E s:=by
 cases o with
 | true=>exact oneLt_int h
 | false=>exact kat_one _ _ (wpAny_lt_int h)
theorem qA:∀ {k1 k2:List Key} {xs ys:List Value} (i:Nat),Paired isI k1 xs->Paired isI k2 ys->fin=decide (xs.length < ys.length)->Q (lexI k1 k2) s->KatLex prog w A b fin Q (xs.zip ys) i s
 | _,_,_,_,i,.nil,.nil,e,q=>by
  subst e
  exact q
 | _,_,_,_,i,.nil,.cons _ _,e,q=>by
  subst e
  exact q
 | _,_,_,_,i,.cons _ _,.nil,e,q=>by
  subst e
  exact q
 | _,_,_,_,i,.cons h1 r1,.cons h2 r2,e,q=>by
  obtain ⟨x,t,rfl,rfl⟩:=h1
  obtain ⟨y,u,rfl,rfl⟩:=h2
  refine kat_cons (wpAny_eqBool_int ?_)
  by_cases z:x=y
  ·subst z
   have e1:(x == x)=true:=by simp
   rw [e1]
   refine kat_yes (qA (i + 1) r1 r2 (by rw [e]; simp) ?_)
   simpa [lexI] using q
  ·have e1:(x == y)=false:=by simpa using z
   rw [e1]
   refine kat_no (AE _ ?_)
   simpa [lexI,z] using q
theorem yB {k1 k2:List Key} {v1 v2:Value} (h1:TupI s.heap k1 v1) (h2:TupI s.heap k2 v2) (q:Q (lexI k1 k2) s):wpAny (model prog w) A (keyLt' (tuples' b) v1 v2) Q E s:=by
 obtain ⟨x,ox,xs,n,rfl,hx,_,dx,px⟩:=h1
 obtain ⟨y,oy,ys,m,rfl,hy,_,dy,py⟩:=h2
 exact kat_lt hx dx hy dy (qA 0 px py (by simp) q)
end
def RawD (d:Addr) (es:Array DictEntry) (ep:Nat) (h:Heap):Prop:=∃ o,h.get? d=some o /\ o.ExactDict /\ o.data = .dict es ep
theorem RawD.type {d:Addr} {es:Array DictEntry} {ep:Nat} {s:Shared} (h:RawD d es ep s.heap):s.TypeIs (.ref d) "dict":=let ⟨o,e,x,_⟩:=h; ⟨o,e,x.1⟩
theorem RawD.keep {d:Addr} {es:Array DictEntry} {ep:Nat} {h h':Heap} (r:RawD d es ep h) (k:∀ o,h.get? d=some o->h'.get? d=some o):RawD d es ep h':=let ⟨o,e,x⟩:=r; ⟨o,k o e,x⟩
section
variable {prog:Program} {w:World} {A:Around} {E:Value->Shared->Prop} {s:Shared} {d it:Addr} {es:Array DictEntry} {ep i:Nat}
theorem vU {Q:Value->Shared->Prop} (lo:(d == sysModules)=false) (r:RawD d es ep s.heap)
  (q:Q (.ref s.heap.objs.size) { s with heap:=s.heap.push { cls:=.type "dict_keyiterator",data:=.fields #[.ref d,.int 0 0,.int es.size 0,.int ep 0] } }):wpAny (model prog w) A (pyIter (.ref d)) Q E s:=by
 have ty:=r.type
 obtain ⟨o,g1,_,g2⟩:=r
 refine wpAny_pyIter_slot ty F.slot_dict_iter (wpAny_call_entry F.slot_dict_iter ty F.entry_dict_iter ?_ (F.args_dict_iter_1 _))
 unfold Builtin.«dict.__iter__» Builtin.Dict.dictSlotNone
 refine wpAny_bind (wpAny_bind (wpAny_notOrdered_dict ty (wpAny_pure ?_)))
 unfold Builtin.Dict.showsAll
 show wpAny _ _ ((if (d == sysModules)=true then unsupported "sys.modules:all-start-up-values-wanted" else pure ()) >>= _) _ _ s
 rw [if_neg (by rw [lo]; exact Bool.false_ne_true)]
 refine wpAny_bind (wpAny_pure (wpAny_bind (wpAny_dictEntries g1 g2 (wpAny_bind (wpAny_dictEpoch g1 g2 ?_)))))
 exact wpAny_bind (wpAny_newObj_type (wpAny_pure ⟨_,rfl,"dict_keyiterator",_,⟨_,Heap.get?_push_size _ rfl,rfl⟩,F.slot_dict_keyiterator_next.lookup,q⟩))
theorem vV {n:Nat} {Q:Option Value->Shared->Prop} (hi:i < es.size) (en:es.size=n) (g:s.heap.IsKeyIter it d i n ep) (r:RawD d es ep s.heap)
  (q:∀ h',h'.IsKeyIter it d (i + 1) n ep->Heap.SameBut it s.heap h'->Q (some es[i].key) { s with heap:=h' }):wpAny (model prog w) A (pyNext (.ref it)) Q E s:=by
 subst en
 have ty:=g.typeIs
 obtain ⟨o,g1,g2,g3⟩:=g
 obtain ⟨od,r1,_,r2⟩:=r
 unfold pyNext
 refine wpAny_bind (wpAny_attempt (wpAny_callSpecial?_slot (name:=Str.ofString "__next__") ty F.slot_dict_keyiterator_next (wpAny_call_entry F.slot_dict_keyiterator_next ty F.entry_dict_keyiterator_next ?_ (F.args_dict_keyiterator_next_1 _))))
 refine wpAny_bind (wpAny_pure (wpAny_bind (wpAny_bind (wpAny_bind (wpAny_typeNameOfWhole_keyiter ty (wpAny_pure (wpAny_bind (wpAny_fieldsOf g1 g3 ?_))))))))
 simp only [show Builtin.Dict_items.ownsTuple "dict_keyiterator" = false by decide,Bool.false_eq_true,if_false]
 show wpAny _ _ (if (Value.ref d == Value.none)=true then _ else _) _ _ s
 rw [if_neg (show ¬ ((Value.ref d == Value.none)=true) from Bool.false_ne_true)]
 refine wpAny_bind (wpAny_pure (wpAny_bind (wpAny_dictEntries r1 r2 ?_)))
 rw [if_neg (by simp)]
 refine wpAny_bind (wpAny_pure (wpAny_bind (wpAny_dictEpoch r1 r2 ?_)))
 rw [if_neg (by simp)]
 refine wpAny_pure ?_
 simp only [show ¬ ((i:Int) < 0) from by omega,if_false,Int.toNat_natCast,Array.getElem?_eq_getElem hi]
 refine wpAny_bind (wpAny_bind (wpAny_typeNameOfWhole_keyiter ty (wpAny_pure (wpAny_bind (wpAny_isOneOf_keyiter ty ?_)))))
 show wpAny _ _ (setField (.ref it) 1 (rawInt ((i:Int) + 1)) >>= _) _ _ s
 refine wpAny_bind (wpAny_setField g1 g3 (by simp) ?_)
 have g':(s.heap.update it (Obj.mapFields (·.setIfInBounds 1 (rawInt ((i:Int) + 1))))).IsKeyIter it d (i + 1) es.size ep :=
  ⟨_,Heap.get?_update_self _ g1 (Obj.isFreed_of_fields (Obj.data_mapFields g3 _)),(Obj.cls_mapFields ..).trans g2,by rw [Obj.data_mapFields g3]; simp [rawInt]⟩
 refine wpAny_bind (wpAny_holding (wpAny_bind (wpAny_isOneOf_keyiter (s:={ s with heap:=s.heap.update it (Obj.mapFields (·.setIfInBounds 1 (rawInt ((i:Int) + 1)))) }) g'.typeIs ?_)))
 show wpAny _ _ (pure es[i].key) _ _ _
 exact wpAny_pure (wpAny_pure ⟨_,rfl,wpAny_pure (q _ g' (Heap.SameBut.update ..))⟩)
theorem yC {n:Nat} {Q:Option Value->Shared->Prop} (hh:A.handled=none) (hi:es.size <= i) (en:es.size=n) (g:s.heap.IsKeyIter it d i n ep) (r:RawD d es ep s.heap)
  (q:∀ h',Heap.ExtBut it s.heap h'->Q none { s with heap:=h' }):wpAny (model prog w) A (pyNext (.ref it)) Q E s:=by
 subst en
 have ty:=g.typeIs
 obtain ⟨o,g1,g2,g3⟩:=g
 obtain ⟨od,r1,_,r2⟩:=r
 unfold pyNext
 refine wpAny_bind (wpAny_attempt (wpAny_callSpecial?_slot (name:=Str.ofString "__next__") ty F.slot_dict_keyiterator_next (wpAny_call_entry F.slot_dict_keyiterator_next ty F.entry_dict_keyiterator_next ?_ (F.args_dict_keyiterator_next_1 _))))
 refine wpAny_bind (wpAny_pure (wpAny_bind (wpAny_bind (wpAny_bind (wpAny_typeNameOfWhole_keyiter ty (wpAny_pure (wpAny_bind (wpAny_fieldsOf g1 g3 ?_))))))))
 simp only [show Builtin.Dict_items.ownsTuple "dict_keyiterator" = false by decide,Bool.false_eq_true,if_false]
 show wpAny _ _ (if (Value.ref d == Value.none)=true then _ else _) _ _ s
 rw [if_neg (show ¬ ((Value.ref d == Value.none)=true) from Bool.false_ne_true)]
 refine wpAny_bind (wpAny_pure (wpAny_bind (wpAny_dictEntries r1 r2 ?_)))
 rw [if_neg (by simp)]
 refine wpAny_bind (wpAny_pure (wpAny_bind (wpAny_dictEpoch r1 r2 ?_)))
 rw [if_neg (by simp)]
 refine wpAny_pure ?_
 simp only [show ¬ ((i:Int) < 0) from by omega,if_false,Int.toNat_natCast,Array.getElem?_eq_none hi]
 refine wpAny_bind (wpAny_bind (wpAny_typeNameOfWhole_keyiter ty (wpAny_pure ?_)))
 show wpAny _ _ (setField (.ref it) 0 .none >>= _) _ _ s
 refine wpAny_bind (wpAny_setField g1 g3 (by simp) ?_)
 show wpAny _ _ (newExc (.type "StopIteration") [] >>= _) _ _ _
 refine wpAny_bind ?_
 simp only [newExc,newTuple]
 refine wpAny_bind (wpAny_newObj_type ?_ (by size_fits))
 refine wpAny_bind (m:=firstArgMember _ _) (wpAny_of_eq (a:=Value.none) (by first | rfl | (simp only [firstArgMember]; rfl)) ?_)
 refine wpAny_newObj_type ?_ (by size_fits)
 simp only [raiseNew]
 refine wpAny_bind (wpAny_handled ?_)
 rw [show A.in1.handled=none from hh]
 refine wpAny_bind (wpAny_pure (wpAny_throw ?_))
 refine wpAny_bind (wpAny_isInstance (T:="StopIteration") (b:=true) ⟨_,Heap.get?_push_size _ rfl,rfl⟩ isSubtype_stop ?_)
 exact wpAny_pure (q _ (((Heap.SameBut.update ..).extBut.push _).push _))
theorem yD (lo:(d == sysModules)=false) (es:Array DictEntry) (ep:Nat):KdlSrc prog w "dict" d d es.size (fun i v=>(es[i]?).map (·.key)=some v) (RawD d es ep) where
 type:=fun _ r=>r.type
 there:=fun _ ⟨_,e,_⟩=>⟨Heap.lt_size e,Heap.lt_size e⟩
 keep:=fun _ _ r k=>r.keep fun o e=>k d (.inl rfl) o e
 notList:=by decide
 notTuple:=by decide
 hint:=fun _ _ _ _ r q=>kdl_hint_dict r.type q
 iter:=fun A s hh r=>⟨_,fun i h=>h.IsKeyIter s.heap.objs.size d i es.size ep /\ RawD d es ep h,(fun _ _ q=>vU lo r q),{
  sub:=fun b hb=>by simp at hb; simp [hb]
  frame:=fun _ _ _ st k=>⟨st.1.at fun o e=>k _ (by simp) o e,st.2.keep fun o e=>k d (by simp) o e⟩
  item:=fun i s' Q E hi st q=>vV hi rfl st.1 st.2 fun h' g' sb=>by
   have ne:d≠s.heap.objs.size:=by
    obtain ⟨_,e,_⟩:=r
    exact Nat.ne_of_lt (Heap.lt_size e)
   refine q es[i].key h' s'.toks (by simp [hi]) ⟨g',st.2.keep fun o e=>(sb.2 d ne).trans e⟩ fun b o hb e=>?_
   have hb:b≠s.heap.objs.size:=by simpa using hb
   exact (sb.2 b hb).trans e
  done:=fun s' Q E st q=>yC hh (Nat.le_refl _) rfl st.1 st.2 fun h' eb=>q h' s'.toks fun b o hb e=>eb b o (by simpa using hb) e
  self:=fun _ _ _ _ st q=>wpAny_pyIter_keyiter st.1 q },⟨⟨_,Heap.get?_push_size _ rfl,rfl,rfl⟩,r.keep fun o e=>Heap.get?_push_of_some _ e⟩⟩
end
end L2
namespace L2
open PySem PySem.Spec PyProof.Rows PySem.W
section
variable {prog:Program} {w:World} {A:Around} {E:Value->Shared->Prop} {s:Shared}
theorem TupI.keep {h h':Heap} {k:List Key} {v:Value} {a:Addr} {xs:Array Value} {n:Nat} (t:TupI h k v) (ha:h.get? a=some (seqObj "list" xs n)) (kp:∀ b o,b≠a->h.get? b=some o->h'.get? b=some o):TupI h' k v:=by
 obtain ⟨b,o,ys,m,rfl,e,c,d,p⟩:=t
 refine ⟨b,o,ys,m,rfl,kp b o ?_ e,c,d,p⟩
 rintro rfl
 rw [ha] at e
 cases e
 simp [seqObj] at c
theorem fN {α β:Type} {R S:α->β->Prop} {xs:List α} {ys:List β} (h:Paired R xs ys) (f:∀ a b,R a b->S a b):Paired S xs ys:=by
 induction h with
 | nil=>exact .nil
 | cons h _ ih=>exact .cons (f _ _ h) ih
theorem hZ {α β:Type} {R:α->β->Prop} {d:α} {e:β} {xs:List α} {ys:List β} (h:Paired R xs ys):∀ i,i < xs.length->R (xs.getD i d) (ys.getD i e):=by
 induction h with
 | nil=>intro i hi; simp at hi
 | cons h _ ih =>
  intro i hi
  cases i with
  | zero=>simpa using h
  | succ i=>simpa using ih i (by simpa using hi)
theorem jO {α β:Type} {R:α->β->Prop} {d:α} {e:β} {xs:List α} {ys:List β} (h:Paired R xs ys):∀ (is:List Nat),(∀ i∈is,i < xs.length)->Paired R (is.map fun i=>xs.getD i d) (is.map fun i=>ys.getD i e)
 | [],_=>.nil
 | i::is,hi=>.cons (hZ h i (hi i List.mem_cons_self)) (jO h is fun j hj=>hi j (List.mem_cons_of_mem _ hj))
theorem wW {h:Heap}:∀ {ks:List (List Key)} {vs:List Value},Paired (TupI h) ks vs->(∀ k∈ks,k≠[])->∃ fs,KatTups h vs fs /\ fs.length=vs.length /\ ∀ v∈fs,∃ i t,v=Value.int i t
 | _,_,.nil,_=>⟨[],.nil,rfl,fun v hv=>by simp at hv⟩
 | k::ks,v::vs,.cons h1 r,ne=>by
  obtain ⟨fs,h2,h3,h4⟩:=wW r fun k hk=>ne k (List.mem_cons_of_mem _ hk)
  obtain ⟨a,o,xs,n,rfl,e,c,d,p⟩:=h1
  have hk:=ne k List.mem_cons_self
  generalize hxs:xs.toList=l at p
  cases p with
  | nil=>exact absurd rfl hk
  | @cons x u ks' us hx hr =>
   obtain ⟨i,t,rfl,rfl⟩:=hx
   refine ⟨Value.int i t::fs,.cons e c d ?_ h2,by simp [h3],fun v hv=>?_⟩
   ·rw [← Array.getElem?_toList,hxs]
    rfl
   ·rcases List.mem_cons.mp hv with rfl | hv
    ·exact ⟨i,t,rfl⟩
    ·exact h4 v hv
theorem uc {a:Addr} {vs:List Value} {ks:List (List Key)} {n:Nat} {P:PySem.Fin->Shared->Prop} (ho:s.heap.get? a=some (seqObj "list" vs.toArray n)) (hp:Paired (TupI s.heap) ks vs) (hne:2 <= ks.length->∀ k∈ks,k≠[]) (h64:vs.length < 64)
  (q:∀ (h':Heap) (out:List Value) (c:Nat),(∀ b o,b≠a->s.heap.get? b=some o->h'.get? b=some o)->h'.get? a=some (seqObj "list" out.toArray c)->(∀ R:List Key->Value->Prop,Paired R ks vs->Paired R (srtK ks) out)->P (.done (.ret .none)) { s with heap:=h' }) :
  wpAny (model prog w) A (Builtin.«list.sort» ⟨[.ref a],[]⟩) P E s:=by
 have hl:=hW hp
 have ha:a < s.heap.objs.size:=Heap.lt_size ho
 have sb:=Heap.SameBut.update s.heap a (Obj.mapSeq fun _=>(#[]:Array Value))
 obtain ⟨e1,ho1⟩:∃ e1,(s.heap.update a (Obj.mapSeq fun _=>(#[]:Array Value))).get? a=some (seqObj "list" #[] e1):=⟨_,get?_update_seq ho fun _=>#[]⟩
 rw [list_sort_plain]
 refine wpAny_bind (listItems_at ho rfl (wpAny_bind (listUpdate_at ho rfl ?_ (by rw [List.size_toArray,sizeLine_eq]; omega) (Nat.zero_le _))))
 refine wpAny_bind (seqEpoch_at ho1 rfl (wpAny_bind (wpAny_newTuple ?_ (by show vs.length <= _; rw [sizeLine_eq]; omega))))
 refine wpAny_bind (wpAny_newList (wpAny_holding ?_) (Nat.zero_le _))
 show wpAny (model prog w) A _ P E { s with heap:=((s.heap.update a (Obj.mapSeq fun _=>(#[]:Array Value))).push (seqObj "tuple" vs.toArray 0)).push (seqObj "list" #[] 0) }
 have kp:∀ b o,b≠a->s.heap.get? b=some o->(((s.heap.update a (Obj.mapSeq fun _=>(#[]:Array Value))).push (seqObj "tuple" vs.toArray 0)).push (seqObj "list" #[] 0)).get? b=some o:=fun b o hb e =>
  Heap.get?_push_of_some _ (Heap.get?_push_of_some _ ((sb.2 b hb).trans e))
 have ho3:(((s.heap.update a (Obj.mapSeq fun _=>(#[]:Array Value))).push (seqObj "tuple" vs.toArray 0)).push (seqObj "list" #[] 0)).get? a=some (seqObj "list" #[] e1):=Heap.get?_push_of_some _ (Heap.get?_push_of_some _ ho1)
 generalize ((s.heap.update a (Obj.mapSeq fun _=>(#[]:Array Value))).push (seqObj "tuple" vs.toArray 0)).push (seqObj "list" #[] 0)=h3 at kp ho3
 have hp3:Paired (TupI h3) ks vs:=fN hp fun k v t=>t.keep ho kp
 dsimp only
 have fin:∀ (st:SortSt) (out:List Value),(arrOf st).map (·.2)=out.toArray->failedOf st=none->out.length < 64->(∀ R:List Key->Value->Prop,Paired R ks vs->Paired R (srtK ks) out) ->
   wpAny (model prog w) A (do
    let touched:=(← seqEpoch a) != e1
    Builtin.List.listUpdate (.ref a) fun _=>(arrOf st).map (·.2)
    if let some e:=failedOf st then rule "list.sort.comparison-raised"; throw e
    if touched then rule "list.sort.modified"; raiseError "ValueError" "list modified during sort"
    ret .none) P E { s with heap:=h3 }:=by
  intro st out e f hz hR
  rw [e,f]
  refine wpAny_bind (seqEpoch_at ho3 rfl ?_)
  refine wpAny_bind (listUpdate_at ho3 rfl ?_ (Nat.zero_le _) (by show out.toArray.size <= _; rw [List.size_toArray,sizeLine_eq]; omega))
  simp only [bne_self_eq_false,Bool.false_eq_true,if_false]
  refine wpAny_pure (q _ out _ (fun b o hb e=>?_) (get?_update_seq ho3 fun _=>out.toArray) hR)
  exact ((Heap.SameBut.update h3 a (Obj.mapSeq fun _=>out.toArray)).2 b hb).trans (kp b o hb e)
 by_cases h2:vs.length < 2
 ·have hz:vs.toArray.size < 2:=by rw [List.size_toArray]; exact h2
  rw [if_pos hz,if_pos hz]
  refine wpAny_bind (wpAny_pure (wpAny_bind (wpAny_pure ?_)))
  refine fin _ vs ?_ rfl h64 fun R hR=>?_
  ·show (vs.toArray.zip vs.toArray).map (·.2)=vs.toArray
   apply Array.toList_inj.mp
   simp [List.map_snd_zip]
  ·unfold srtK
   rw [if_pos (by omega)]
   exact hR
 ·have hz:¬ vs.toArray.size < 2:=by rw [List.size_toArray]; exact h2
  rw [if_neg hz,if_neg hz]
  obtain ⟨fs,t1,t2,t3⟩:=wW hp3 (hne (by omega))
  refine wpAny_bind (kat_kind (s:={ s with heap:=h3 }) (T:=.type "int") t1 (by omega) (fun v hv=>?_) (by decide) ?_)
  ·obtain ⟨i,t,rfl⟩:=t3 v hv
   exact Looks.of_pure rfl
  ·refine wpAny_bind (wpAny_mono (kat_run (Q:=fun st' s'=>s'={ s with heap:=h3 } /\ (arrOf st').map (·.2)=List.toArray ((kRun (fun i j=>lexI (ks.getD i []) (ks.getD j [])) (kas_sort ks.length)).toList.map fun i=>vs.getD i Value.none) /\ failedOf st'=none) (G:=fun p s'=>s'={ s with heap:=h3 } /\ p=kRun (fun i j=>lexI (ks.getD i []) (ks.getD j [])) (kas_sort ks.length)) rfl (by omega) h64 (fun p st' s' a1 a2 a3 a4=>?_) ?_) (fun r s' hq=>?_) fun _ _ x=>x)
   ·obtain ⟨rfl,rfl⟩:=a4
    exact ⟨rfl,kat_snds rfl a2,a3⟩
   ·rw [← hl]
    refine KGood.wp (N:=ks.length) (P:=PmN ks.length) (fun i j C hi hj hC=>?_) _ _ (dq (by omega)) ⟨rfl,rfl⟩
    show wpAny (model prog w) A (keyLt' _ (vs.getD i Value.none) (vs.getD j Value.none)) C (fun _ _=>False) _
    exact yB (s:={ s with heap:=h3 }) (hZ hp3 i hi) (hZ hp3 j hj) hC
   ·obtain ⟨⟨⟩,st'⟩:=r
    obtain ⟨rfl,e,f⟩:=hq
    refine fin st' _ e f ?_ fun R hR=>?_
    ·have:=(KGood.end (fun i j=>lexI (ks.getD i []) (ks.getD j [])) _ (dq (N:=ks.length) (by omega))).length_eq
     rw [List.length_range] at this
     rw [List.length_map,this,hl]
     exact h64
    ·unfold srtK
     rw [if_neg (by omega)]
     refine jO hR _ fun i hi=>?_
     have:=KGood.end (fun i j=>lexI (ks.getD i []) (ks.getD j [])) _ (dq (N:=ks.length) (by omega))
     exact List.mem_range.mp (this.mem_iff.mp hi)
end
end L2
namespace L2
open PySem PySem.Spec PyProof.Rows PySem.W
section
variable {X:Cx}
def yE (H:Hp) (k:List Key) (v:V):Prop:=∃ b,v = .ref b /\ H b=some (.tup (k.map kV))
def rM (k:List Key):Prop:=∀ x∈k,∃ i:Int,x = .inl i
theorem qB:∀ {k:List Key} {us:List Value},rM k->Vals (k.map kV) us->Paired isI k us
 | [],us,_,h=>by cases h; exact .nil
 | x::k,us,hi,h=>by
  obtain ⟨i,rfl⟩:=hi _ List.mem_cons_self
  rw [List.map_cons] at h
  cases h with
  | cons h1 h2 =>
   obtain ⟨t,rfl⟩:=(show ∃ t,_=Value.int i t from h1)
   exact .cons ⟨i,t,rfl,rfl⟩ (qB (fun y hy=>hi y (List.mem_cons_of_mem _ hy)) h2)
theorem Inv.tupI {pins:List (Addr×Obj)} {σ:St} {H:Hp} {s:Shared} {k:List Key} {b:Addr} (I:Inv X pins σ H s) (hi:rM k) (e:H b=some (.tup (k.map kV))):TupI s.heap k (.ref b):=by
 obtain ⟨_,its,r,o,h1,h2,n,h3⟩:=(show ObjOk X.prog X.w H s.heap b (.tup (k.map kV)) from I.hok b _ e)
 refine ⟨b,o,its.toArray,n,rfl,h1,?_,h3,?_⟩
 ·exact h2
 ·rw [List.toList_toArray]
  exact qB hi r
theorem ud {H:Hp}:∀ {ks:List (List Key)} {out:List Value},Paired (fun k v=>∃ b,v=Value.ref b /\ H b=some (.tup (k.map kV))) ks out->∃ bs,Paired (yE H) ks bs /\ Vals bs out
 | _,_,.nil=>⟨[],.nil,.nil⟩
 | _,_,.cons h r=>by
  obtain ⟨b,rfl,e⟩:=h
  obtain ⟨bs,h1,h2⟩:=ud r
  exact ⟨.ref b::bs,.cons ⟨b,rfl,e⟩ h1,.cons rfl h2⟩
theorem yF {H:Hp} {kvs:List (List Key×V)} {xs:List (List Key×Addr×Value)} (r:KT H kvs xs):Paired (fun k v=>∃ b,v=Value.ref b /\ H b=some (.tup (k.map kV))) (kvs.map (·.1)) (xs.map fun x=>Value.ref x.2.1):=by
 induction r with
 | nil=>exact .nil
 | @cons p q ps qs h t ih=>exact .cons ⟨q.2.1,rfl,h.2.1⟩ ih
theorem rN {α β:Type} {R:α->β->Prop} {xs:List α} {ys:List β} (h:Paired R xs ys):Paired (fun a b=>a∈xs /\ R a b) xs ys:=by
 induction h with
 | nil=>exact .nil
 | cons h _ ih=>exact .cons ⟨List.mem_cons_self,h⟩ (fN ih fun a b z=>⟨List.mem_cons_of_mem _ z.1,z.2⟩)
theorem rO (hc:X.calm=true):cx X (.builtin "sorted") (fun xs H Q=>∃ a kvs,xs=[.ref a] /\ Rd H a (.dT kvs) /\ (∀ k∈kvs.map (·.1),rM k) /\ (2 <= kvs.length->∀ k∈kvs.map (·.1),k≠[]) /\ kvs.length < 64 /\
  ∀ l bs,H l=none->Paired (yE H) (srtK (kvs.map (·.1))) bs->Q (.ref l) (upd H l (.lst bs))):=by
 intro pins s σ H xs us Q I r h
 obtain ⟨a,kvs,rfl,e,hi,hne,h64,q⟩:=h
 obtain ⟨u,rfl,e2⟩:=iM r
 cases e2
 obtain ⟨z,lo,xs,rel,o,es,ep,g1,g2,g3,g4,g5,g6⟩:=vD I.hok e
 have hsz:es.size=xs.length:=size_of_entries g4
 have hxl:kvs.length=xs.length:=Paired.length rel
 refine Calls.call_function_entry kind_sorted plain_sorted entry_sorted (args_sorted1 _) ?_
 unfold Builtin.«sorted»
 refine wpAny_bind (m:=checkCount "sorted" 1 1 _) (wpAny_pure ?_)
 refine wpAny_bind (kdu_collect (yD lo es ep) (I.ok.hd hc) ⟨o,g1,g2,g3⟩ (by rw [sizeLine_eq]; omega) fun h' tk acc hk hI=>?_)
 have hacc:acc.toList=xs.map fun x=>Value.ref x.2.1:=by
  apply List.ext_getElem?
  intro i
  rw [Array.getElem?_toList]
  cases hx:xs[i]? with
  | none =>
   have h1:xs.length <= i:=by simpa using hx
   rw [List.getElem?_map,hx,Array.getElem?_eq_none (by rw [hI.1]; omega)]
   rfl
  | some x =>
   have h1:i < xs.length:=(List.getElem?_eq_some_iff.mp hx).1
   obtain ⟨v,hv⟩:∃ v,acc[i]? = some v:=⟨acc[i]'(by rw [hI.1]; omega),by simp [hI.1,hsz,h1]⟩
   have h2:(es[i]?).map (·.key)=some v:=hI.2 i v hv
   rw [entry_at g4 i,hx] at h2
   rw [hv,List.getElem?_map,hx]
   simpa [entryOfKey] using h2.symm
 rw [hacc]
 have I1:Inv X pins σ H { s with heap:=h',toks:=tk }:=I.kept hk
 refine wpAny_bind (wpAny_newList ?_ (by rw [List.length_map,sizeLine_eq]; omega))
 have hoL:(h'.push (seqObj "list" (xs.map fun x=>Value.ref x.2.1).toArray 0)).get? h'.objs.size=some (seqObj "list" (xs.map fun x=>Value.ref x.2.1).toArray 0):=Heap.get?_push_size _ rfl
 refine wpAny_bind (wpAny_holding (wpAny_call_entry slot_list_sort ⟨_,hoL,rfl⟩ entry_list_sort ?body (args_list_sort _)))
 case body =>
  have kk:=yF rel
  refine uc (s:={ s with heap:=h'.push (seqObj "list" (xs.map fun x=>Value.ref x.2.1).toArray 0),toks:=tk }) hoL (ks:=kvs.map (·.1)) (fN (rN kk) (S:=TupI _) fun k v z=>?_) (fun h2=>hne (by simpa using h2)) (by rw [List.length_map]; omega) fun h4 out c kp ho hR=>?_
  ·obtain ⟨hm,b,rfl,hb⟩:=z
   exact ((I1.kept (t':=tk) fun b o e=>Heap.get?_push_of_some _ e).tupI (hi k hm) hb)
  ·obtain ⟨bs,p1,p2⟩:=ud (hR _ kk)
   have hb:bs.length <= sizeLine:=by
    rw [← hW p1,(tZ _).length_eq,List.length_map]
    exact z
   exact ⟨_,rfl,wpAny_pure ⟨_,rfl,.ref h'.objs.size,upd H h'.objs.size (.lst bs),I1.laid (o:=.lst bs) (fun b u e=>kp b u (Nat.ne_of_lt (Heap.lt_size e)) (Heap.get?_push_of_some _ e)) (Nat.le_refl _) ⟨hb,out,c,p2,ho⟩,rfl,q _ bs (I1.hok.fresh (Nat.le_refl _)) p1⟩⟩
end
end L2
namespace PySem
section
variable {prog:Program} {w:World} {A:Around} {E:Value->Shared->Prop} {s:Shared}
end
end PySem
namespace DL
open PySem PySem.Spec L2
open PyProof.Rows hiding St
variable [TB]
def AF:HO->Prop
 | .lst _=>True
 | .dT _=>True
 | _=>False
section
variable {K:PySem.W.Frag} {pp:Option Addr} {M:List Addr} {H:Hp}
theorem Mv.writeX {l:Addr} {o u:HO} (hl:H l=some o) (ho:AF o) (hm:l∈M) (hp:pp≠some l):Mv K pp M H M (upd H l u):=by
 refine ⟨fun a zs e=>by rw [ah (ku e hl (by rintro rfl; exact ho))]; exact e,fun a zs e n q=>⟨by rw [ah (by rintro rfl; exact n hm)]; exact e,n⟩,fun p e h=>?_,fun tb=>tb.upd hl (by rintro (⟨_,rfl⟩ | ⟨_,_,rfl⟩) <;> exact ho)⟩
 obtain ⟨a,ns,t,k,h⟩:=h
 refine ⟨a,ns,t,k,?_,?_,h.t0⟩
 ·rw [ah (by rintro rfl; exact hp e)]; exact h.lst
 ·rcases h.scr with ⟨o',e⟩ | e
  ·refine .inl ⟨o',?_⟩
   rw [ah (ku e hl (by rintro rfl; exact ho))]; exact e
  ·exact .inr e
end
def k1D:Key->D
 | .inl i=>.int i
 | .inr x=>.str x
def keyD (k:List Key):D:=.tup (k.map k1D)
theorem lU {K:PySem.W.Frag} {pp:Option Addr} {M:List Addr} {H:Hp}:∀ {k:List Key} {xs:List V},Reps K pp M H (k.map k1D) xs->xs=k.map kV
 | [],xs,h=>by simpa only [List.map_nil,Reps] using h
 | .inl i::r,xs,h=>by
  simp only [List.map_cons,k1D,Reps,Rep] at h
  obtain ⟨x,t,rfl,rfl,h⟩:=h
  rw [lU h]; rfl
 | .inr i::r,xs,h=>by
  simp only [List.map_cons,k1D,Reps,Rep] at h
  obtain ⟨x,t,rfl,rfl,h⟩:=h
  rw [lU h]; rfl
theorem lV {K:PySem.W.Frag} {pp:Option Addr} {M:List Addr} {H:Hp}:∀ (k:List Key),Reps K pp M H (k.map k1D) (k.map kV)
 | []=>by simp only [List.map_nil,Reps]
 | .inl i::r=>by
  simp only [List.map_cons,k1D,kV,Reps,Rep]
  exact ⟨_,_,rfl,rfl,lV r⟩
 | .inr i::r=>by
  simp only [List.map_cons,k1D,kV,Reps,Rep]
  exact ⟨_,_,rfl,rfl,lV r⟩
theorem lW {K:PySem.W.Frag} {pp:Option Addr} {M:List Addr} {H:Hp} {k:List Key} {v:V} (h:Rep K pp M H (keyD k) v):∃ b,v = .ref b /\ H b=some (.tup (k.map kV)):=by
 simp only [keyD,Rep] at h
 obtain ⟨b,xs,rfl,hb,h⟩:=h
 rw [lU h] at hb
 exact ⟨b,rfl,hb⟩
theorem vW {K:PySem.W.Frag} {pp:Option Addr} {M:List Addr} {H:Hp} {k:List Key} {b:Addr} (h:H b=some (.tup (k.map kV))):Rep K pp M H (keyD k) (.ref b):=by
 simp only [keyD,Rep]
 exact ⟨b,_,rfl,h,lV k⟩
section
variable {α β:Type}
def ic (ps:List (List Key×α)) (k:List Key):Option α:=(ps.find? fun p=>decide (p.1=k)).map (·.2)
def putA (ps:List (List Key×α)) (k:List Key) (x:α):List (List Key×α) :=
 if (ps.any fun p=>decide (p.1=k))=true then ps.map (fun p=>if p.1=k then (p.1,x) else p) else ps++[(k,x)]
abbrev PK (R:α->β->Prop):List (List Key×α)->List (List Key×β)->Prop:=Paired fun p q=>p.1=q.1 /\ R p.2 q.2
theorem PK.find {R:α->β->Prop} {ps:List (List Key×α)} {qs:List (List Key×β)} (h:PK R ps qs) (k:List Key):(ic ps k=none /\ ic qs k=none)∨∃ x y,ic ps k=some x /\ ic qs k=some y /\ R x y:=by
 induction h with
 | nil=>exact .inl ⟨rfl,rfl⟩
 | @cons p q ps qs h _ ih =>
  unfold ic at ih ⊢
  by_cases e:p.1=k
  ·have e':q.1=k:=h.1.symm.trans e
   refine .inr ⟨p.2,q.2,?_,?_,h.2⟩
   ·rw [List.find?_cons_of_pos (by simpa using e)]; rfl
   ·rw [List.find?_cons_of_pos (by simpa using e')]; rfl
  ·have e':¬ q.1=k:=fun z=>e (h.1.trans z)
   rw [List.find?_cons_of_neg (by simpa using e),List.find?_cons_of_neg (by simpa using e')]
   exact ih
theorem PK.any {R:α->β->Prop} {ps:List (List Key×α)} {qs:List (List Key×β)} (h:PK R ps qs) (k:List Key):(ps.any fun p=>decide (p.1=k))=qs.any fun p=>decide (p.1=k):=by
 induction h with
 | nil=>rfl
 | @cons p q ps qs h _ ih=>simp only [List.any_cons,ih,h.1]
theorem PK.put {R:α->β->Prop} {ps:List (List Key×α)} {qs:List (List Key×β)} (h:PK R ps qs) (k:List Key) {x:α} {y:β} (r:R x y):PK R (putA ps k x) (putA qs k y):=by
 unfold putA
 rw [h.any k]
 by_cases e:(qs.any fun p=>decide (p.1=k))=true
 ·rw [if_pos e,if_pos e]
  clear e
  induction h with
  | nil=>exact .nil
  | @cons p q ps qs h _ ih =>
   rw [List.map_cons,List.map_cons]
   refine .cons ?_ ih
   by_cases e:p.1=k
   ·rw [if_pos e,if_pos (h.1.symm.trans e)]; exact ⟨h.1,r⟩
   ·rw [if_neg e,if_neg (fun z=>e (h.1.trans z))]; exact h
 ·rw [if_neg e,if_neg e]
  exact Paired.snoc h ⟨rfl,r⟩
theorem PK.keys {R:α->β->Prop} {ps:List (List Key×α)} {qs:List (List Key×β)} (h:PK R ps qs):ps.map (·.1)=qs.map (·.1):=by
 induction h with
 | nil=>rfl
 | cons h _ ih=>simp only [List.map_cons,ih,h.1]
end
theorem vX (kvs:List (List Key×V)) (k:List Key):ic kvs k=valV kvs k:=rfl
section
variable {K:PySem.W.Frag} {pp:Option Addr} {M M':List Addr} {H H':Hp}
theorem yG:∀ {kds:List (List Key×D)} {kvs:List (List Key×V)},kvs.map (·.1)=kds.map (·.1)->Reps K pp M H (kds.map (·.2)) (kvs.map (·.2))->PK (Rep K pp M H) kds kvs
 | [],[],_,_=>.nil
 | [],_::_,h,_=>by simp at h
 | _::_,[],h,_=>by simp at h
 | p::ps,q::qs,h,r=>by
  simp only [List.map_cons,List.cons.injEq] at h
  simp only [List.map_cons,Reps] at r
  obtain ⟨x,t,e,r1,r2⟩:=r
  injection e with e1 e2
  subst e1 e2
  exact .cons ⟨h.1.symm,r1⟩ (yG h.2 r2)
theorem yH {kds:List (List Key×D)} {kvs:List (List Key×V)} (h:PK (Rep K pp M H) kds kvs):Reps K pp M H (kds.map (·.2)) (kvs.map (·.2)):=by
 induction h with
 | nil=>simp only [List.map_nil,Reps]
 | cons h _ ih=>exact .cons h.2 ih
theorem PK.imp {α β:Type} {R S:α->β->Prop} {ps:List (List Key×α)} {qs:List (List Key×β)} (h:PK R ps qs) (f:∀ a b,R a b->S a b):PK S ps qs:=by
 induction h with
 | nil=>exact .nil
 | cons h _ ih=>exact .cons ⟨h.1,f _ _ h.2⟩ ih
def dvO (kds:List (List Key×D)):O:=.dct (kds.map (·.1)) (kds.map fun p=>.val p.2)
theorem ro_dv {kds:List (List Key×D)} {v:V} {A:List Addr}:RO K pp M H (dvO kds) v A↔∃ a kvs,v = .ref a /\ H a=some (.dT kvs) /\ A=[a] /\ PK (Rep K pp M H) kds kvs:=by
 have vals:∀ {kds:List (List Key×D)} {xs:List V} {B:List Addr},ROs K pp M H (kds.map fun p=>O.val p.2) xs B->B=[] /\ Reps K pp M H (kds.map (·.2)) xs:=by
  intro kds
  induction kds with
  | nil=>intro xs B h; simp only [List.map_nil,ROs] at h; exact ⟨h.2,by simp only [List.map_nil,Reps]; exact h.1⟩
  | cons p ps ih =>
   intro xs B h
   simp only [List.map_cons,ROs,RO] at h
   obtain ⟨x,r,B1,C,rfl,rfl,⟨rfl,h1⟩,h2⟩:=h
   obtain ⟨rfl,h3⟩:=ih h2
   exact ⟨rfl,.cons h1 h3⟩
 constructor
 ·intro h
  simp only [dvO,RO] at h
  obtain ⟨a,kvs,B,rfl,ha,ek,rfl,r⟩:=h
  obtain ⟨rfl,r2⟩:=vals r
  exact ⟨a,kvs,rfl,ha,rfl,yG ek r2⟩
 ·rintro ⟨a,kvs,rfl,ha,rfl,r⟩
  simp only [dvO,RO]
  refine ⟨a,kvs,[],rfl,ha,r.keys.symm,rfl,?_⟩
  have:=ROs.vals (yH r)
  rw [List.map_map] at this
  exact this
def dlO (kls:List (List Key×List D)):O:=.dct (kls.map (·.1)) (kls.map fun p=>.lst (p.2.map .val))
def PL (K:PySem.W.Frag) (pp:Option Addr) (M:List Addr) (H:Hp):List (List Key×List D)->List (List Key×V)->List Addr->Prop
 | [],kvs,ls=>kvs=[] /\ ls=[]
 | p::ps,kvs,ls=>∃ l xs r t,kvs=(p.1,.ref l)::r /\ ls=l::t /\ H l=some (.lst xs) /\ Reps K pp M H p.2 xs /\ PL K pp M H ps r t
theorem vY {ds:List D} {xs:List V} {B:List Addr} (h:ROs K pp M H (ds.map O.val) xs B):B=[] /\ Reps K pp M H ds xs:=by
 induction ds generalizing xs B with
 | nil=>simp only [List.map_nil,ROs] at h; exact ⟨h.2,by simp only [Reps]; exact h.1⟩
 | cons d ds ih =>
  simp only [List.map_cons,ROs,RO] at h
  obtain ⟨x,r,B1,C,rfl,rfl,⟨rfl,h1⟩,h2⟩:=h
  obtain ⟨rfl,h3⟩:=ih h2
  exact ⟨rfl,.cons h1 h3⟩
theorem AG:∀ {kls:List (List Key×List D)} {kvs:List (List Key×V)} {B:List Addr},kvs.map (·.1)=kls.map (·.1)->ROs K pp M H (kls.map fun p=>O.lst (p.2.map .val)) (kvs.map (·.2)) B->PL K pp M H kls kvs B
 | [],[],B,_,h=>by simp only [List.map_nil,ROs] at h; exact ⟨rfl,h.2⟩
 | [],_::_,_,h,_=>by simp at h
 | _::_,[],_,h,_=>by simp at h
 | p::ps,q::qs,B,e,h=>by
  simp only [List.map_cons,List.cons.injEq] at e
  simp only [List.map_cons,ROs,RO] at h
  obtain ⟨x,r,B1,C,e1,rfl,⟨l,xs,B2,rfl,hl,rfl,h1⟩,h2⟩:=h
  injection e1 with e2 e3
  subst e3
  obtain ⟨rfl,h3⟩:=vY h1
  exact ⟨l,xs,qs,C,by rw [← e.1,← e2],rfl,hl,h3,AG e.2 h2⟩
theorem AH:∀ {kls:List (List Key×List D)} {kvs:List (List Key×V)} {B:List Addr},PL K pp M H kls kvs B->kvs.map (·.1)=kls.map (·.1) /\ ROs K pp M H (kls.map fun p=>O.lst (p.2.map .val)) (kvs.map (·.2)) B
 | [],kvs,B,h=>by
  obtain ⟨rfl,rfl⟩:=h
  simp only [List.map_nil,ROs]
  exact ⟨trivial,trivial,trivial⟩
 | p::ps,kvs,B,h=>by
  obtain ⟨l,xs,r,t,rfl,rfl,hl,h1,h2⟩:=h
  obtain ⟨e,h3⟩:=AH h2
  refine ⟨by simp only [List.map_cons,e],?_⟩
  simp only [List.map_cons,ROs,RO]
  exact ⟨.ref l,_,[l],t,rfl,rfl,⟨l,xs,[],rfl,hl,rfl,ROs.vals h1⟩,h3⟩
theorem ro_dl {kls:List (List Key×List D)} {v:V} {A:List Addr}:RO K pp M H (dlO kls) v A↔∃ a kvs ls,v = .ref a /\ H a=some (.dT kvs) /\ A=a::ls /\ PL K pp M H kls kvs ls:=by
 constructor
 ·intro h
  simp only [dlO,RO] at h
  obtain ⟨a,kvs,B,rfl,ha,ek,rfl,r⟩:=h
  exact ⟨a,kvs,B,rfl,ha,rfl,AG ek r⟩
 ·rintro ⟨a,kvs,ls,rfl,ha,rfl,r⟩
  simp only [dlO,RO]
  obtain ⟨e,r⟩:=AH r
  exact ⟨a,kvs,ls,rfl,ha,e,rfl,r⟩
end
end DL
namespace DL
open PySem PySem.Spec L2
open PyProof.Rows hiding St
variable [TB]
variable [Frm]
section
variable {K:PySem.W.Frag} {F:Fx} {M M':List Addr} {H H':Hp} {σ:St} {ρ:DS} {i:Nat} {q q':O}
theorem RSt.objStep (r:RSt K F M H σ ρ) (h:ρ[i]? = some (.obj q)) (m:Mv K F.pp M H M' H')
  (k:∀ v A,σ[i]? = some (some v)->A.Nodup->RO K F.pp M H q v A->(∀ a∈A,a∈M /\ F.H0 a=none /\ F.pp≠some a)->∃ A',A'.Nodup /\ RO K F.pp M' H' q' v A' /\ (∀ b∈A',b∈M' /\ F.H0 b=none /\ F.pp≠some b /\ (b∈A∨b∉M)) /\
   ∀ a,a∈M->F.pp≠some a->F.H0 a=none->a∉A->a∈M' /\ ∀ x,H a=some x->NT x->H' a=some x)
  (sub:∀ a∈F.M0,a∈M') (same:SameQ K F.pp F.H0 H') (liv:Lv0 F.pp M' H'):RSt K F M' H' σ (ρ.set i (.obj q')):=by
 obtain ⟨v,A,ho,nd,hq,hA,hoth⟩:=r.objAt h
 obtain ⟨_,_,_,_,ke⟩:=k v A ho nd hq hA
 refine ⟨by simp [r.len],fun j s o h1 h2=>?_,r.ow.step m i (fun _ _=>rfl) (fun j e=>List.getElem?_set_ne (Ne.symm e)) (fun A1 hA1 hB1=>?_),sub,same,r.old,liv,r.lk.cl m⟩
 ·by_cases e:i=j
  ·subst e
   rw [ho] at h2
   rw [aB h1]
   cases h2
   exact ⟨v,rfl⟩
  ·rw [List.getElem?_set_ne e] at h1
   have q':=r.sl j s o h1 h2
   cases s with
   | nil=>trivial
   | val d=>obtain ⟨v,e,q⟩:=q'; exact ⟨v,e,q.mv m⟩
   | pin w d=>obtain ⟨v,e,ew,q⟩:=q'; exact ⟨v,e,ew,q.mv m⟩
   | own es =>
    obtain ⟨l',zs,rfl,hm',h0',hp',hl'',hr'⟩:=q'
    have nl:l'∉A:=hoth j _ _ (Ne.symm e) h1 h2 _ ⟨es,rfl⟩ rfl
    obtain ⟨k1,k2⟩:=ke l' hm' hp' h0' nl
    exact ⟨l',zs,rfl,k1,h0',hp',k2 _ hl'' (by intro _ z; cases z),hr'.mv m⟩
   | obj q=>exact q'
 ·obtain ⟨nd1,v1,e1,hq1⟩:=hA1 _ _ h ho
  cases e1
  obtain ⟨A',nd',ro,hb,ha⟩:=k v A1 ho nd1 hq1 hB1
  refine ⟨A',fun s o e1 e2=>?_,hb,ha⟩
  rw [ho] at e2
  cases e2
  rw [aB e1]
  exact ⟨nd',v,rfl,ro⟩
theorem Lv0.upd {pp:Option Addr} {l:Addr} {o:HO} (h:Lv0 pp M H):Lv0 pp M (L2.upd H l o):=by
 refine ⟨fun a ha=>?_,fun p e=>?_⟩
 ·by_cases z:a=l
  ·subst z; rw [ai]; intro z; cases z
  ·rw [ah z]; exact h.m a ha
 ·by_cases z:p=l
  ·subst z; rw [ai]; intro z; cases z
  ·rw [ah z]; exact h.p p e
theorem RSt.sameW {l:Addr} {o:HO} (r:RSt K F M H σ ρ) (h0:F.H0 l=none) (m:Mv K F.pp M H M' (L2.upd H l o)):SameQ K F.pp F.H0 (L2.upd H l o):=by
 refine ⟨fun b o e n=>?_,fun p e h=>m.pen p e (r.same.pen p e h),fun b e=>?_⟩
 ·rw [ah (by rintro rfl; rw [h0] at e; cases e)]
  exact r.same.keep b o e n
 ·by_cases z:b=l
  ·subst z; rw [ai]; intro z; cases z
  ·rw [ah z]; exact r.same.live b e
end
section
variable {X:Cx}
def AI:Sl->Prop
 | .obj _=>True
 | _=>False
omit [Frm] in
theorem vZ {s:Sl} (h:AI s):∃ q,s = .obj q:=by
 cases s <;> first | exact ⟨_,rfl⟩ | exact h.elim
abbrev Cg (i:Nat):DTS:=fun E ρ=>E.nx (ρ.set i (.obj (.dct [] [])))
theorem uf {i:Nat} {y:Str} {py dpos pos:Pos} (hN:X.N.Nodup) (hi:X.N[i]? = some y) (hx:Loc X.env.scope y) (hs:swapsWith (.Dict [] [] dpos) (some (.Name y py)) pos.line X.env=pure false:=by rfl)
  (hf:X.fn y=true∨X.env.scope.names.lookup y=some .local:=by first | exact .inl rfl | exact .inr rfl | assumption):PSD X (.Assign [.Name y py] (.Dict [] [] dpos) pos) (Cg i):=by
 refine ⟨_,dX hN hi hx vF hs hf,fun {F} M H σ ρ E D rs o q p hp=>?_⟩
 have lf:=rs.liv.fresh hp
 obtain ⟨m,rs2⟩:=rs.newObj (q:=.dct [] []) (A:=[p]) (v:=.ref p) (.new hp) (by simp) (fun a ha=>by rw [List.mem_singleton.mp ha]; exact ⟨hp,lf.2⟩) (by simp only [RO,ROs]; exact ⟨p,[],[],rfl,ai,rfl,rfl,rfl,rfl⟩) i
 exact o.nx _ _ _ _ m rs2 q
abbrev Ch (i:Nat) (tk te:DE):DTS:=fun E ρ=>te ρ fun d ρ1=>AI (slot ρ1 i) /\ tk ρ1 fun dk ρ2=>∃ kds k,slot ρ2 i = .obj (dvO kds) /\ dk=keyD k /\ kds.length < sizeLine /\ E.nx (ρ2.set i (.obj (dvO (putA kds k d))))
omit [Frm] in
theorem AJ {α β:Type} {R:α->β->Prop} {ps:List (List Key×α)} {qs:List (List Key×β)} (h:PK R ps qs):ps.length=qs.length:=hW h
theorem yI {i r:Nat} {o ek e:Expr} {pos' pos:Pos} {tk te:DE} (hr:Room r X.A) (ho:PE X o (tVar i)) (hk:PED X ek tk) (he:PED X e te) (hs:swapsWith e (some (.Subscript o ek pos')) pos.line X.env=pure false:=by rfl) :
  PSD X (.Assign [.Subscript o ek pos'] e pos) (Ch i tk te):=by
 obtain ⟨Tk,pk,rk⟩:=hk.run
 obtain ⟨Te,pe,re⟩:=he.run
 refine ⟨_,ye (by have:=hr.units; omega) ho pk pe hs,fun {F} M H σ ρ E D rs oo h=>re M H σ ρ _ rs (he.mono _ _ _ (fun d ρ1 h M1 H1 v m1 rs1 r1=>?_) h)⟩
 obtain ⟨q0,e0⟩:=vZ h.1
 obtain ⟨v0,_,hv0,_⟩:=rs1.objAt (aI e0 (by intro z; cases z))
 refine ⟨v0,hv0,rk M1 H1 σ ρ1 _ rs1 (hk.mono _ _ _ (fun dk ρ2 h M2 H2 y m2 rs2 r2=>?_) h.2)⟩
 obtain ⟨kds,k,es,rfl,hl,h⟩:=h
 obtain ⟨b,rfl,hb⟩:=lW r2
 have g:=aI es (by intro z; cases z)
 obtain ⟨v1,A,hv1,nd,hq,hA,_⟩:=rs2.objAt g
 rw [hv0] at hv1
 cases hv1
 obtain ⟨a,kvs,rfl,ha,rfl,pk⟩:=ro_dv.mp hq
 obtain ⟨am,a0,ap⟩:=hA a (by simp)
 have mw:Mv X.K F.pp M2 H2 M2 (upd H2 a (.dT (putK kvs k v))):=.writeX ha trivial am ap
 refine ⟨a,_,rfl,DPut.t ha hb (by rw [← AJ pk]; exact hl),oo.nx M2 _ σ _ ((m1.trans m2).trans mw) ?_ h⟩
 refine rs2.objStep g mw (fun v' A' hv' _ hq' hA'=>?_) rs2.sub (rs2.sameW a0 mw) rs2.liv.upd
 rw [hv0] at hv'
 cases hv'
 obtain ⟨a',kvs',e,ha',rfl,pk'⟩:=ro_dv.mp hq'
 cases e
 rw [ha] at ha'
 cases ha'
 refine ⟨[a],by simp,ro_dv.mpr ⟨a,_,rfl,ai,rfl,(pk'.imp fun x y z=>z.mv mw).put k ((r1.mv m2).mv mw)⟩,fun c hc=>?_,fun c hc _ _ hn=>⟨hc,fun x e _=>?_⟩⟩
 ·rw [List.mem_singleton.mp hc]
  exact ⟨am,a0,ap,.inl (by simp)⟩
 ·rw [ah (by rintro rfl; exact hn (by simp))]
  exact e
def gIxT:D->D->(D->Prop)->Prop:=fun x y P=>∃ (kds:List (List Key×D)) (k:List Key) (d:D),x = .dT (kds.map (·.1)) (kds.map (·.2)) /\ y=keyD k /\ ic kds k=some d /\ P d
theorem wX {r:Nat} {a b:Expr} {ta tb:DE} {pos:Pos} (hr:Room r X.A) (ha:PED X a ta) (hb:PED X b tb) (hs:NoSl b):PED X (.Subscript a b pos) (dOp gIxT ta tb):=by
 have gm:∀ x y P P',(∀ d,P d->P' d)->gIxT x y P->gIxT x y P':=fun x y P P' f ⟨kds,k,d,h1,h2,h3,h4⟩=>⟨kds,k,d,h1,h2,h3,f _ h4⟩
 obtain ⟨Ta,pa,ra⟩:=ha.run
 obtain ⟨Tb,pb,rb⟩:=hb.run
 refine ⟨fi gm ha hb,_,yd (by have:=hr.units; omega) pa pb hs,fun {F} M H σ ρ Q rs h=>?_⟩
 refine ra M H σ ρ _ rs (ha.mono _ _ _ (fun x ρ1 h M1 H1 v m1 rs1 r1=>?_) h)
 refine rb M1 H1 σ ρ1 _ rs1 (hb.mono _ _ _ (fun y ρ2 h M2 H2 u m2 rs2 r2=>?_) h)
 obtain ⟨kds,k,d,rfl,rfl,ef,h⟩:=h
 obtain ⟨b,rfl,hb⟩:=lW r2
 have r1:=r1.mv m2
 simp only [Rep] at r1
 obtain ⟨c,kvs,rfl,_,_,hc,ek,rr⟩:=r1
 rcases (yG ek rr).find k with ⟨e1,e2⟩ | ⟨x,y,e1,e2,rxy⟩
 ·rw [ef] at e1; cases e1
 ·rw [ef] at e1
  cases e1
  rw [vX] at e2
  exact ⟨c,y,rfl,e2 ▸ .inr ⟨kvs,k,b,hc,rfl,hb,rfl⟩,h M2 H2 y (m1.trans m2) rs2 rxy⟩
def ug:DSp:=fun ds P=>match ds with
 | [.dT ks _]=>((∀ k∈ks,rM k) /\ (2 <= ks.length->∀ k∈ks,k≠[]) /\ ks.length < 64) /\ P (.lst ((srtK ks).map keyD))
 | _=>False
omit [Frm] in
theorem uh {K:PySem.W.Frag} {pp:Option Addr} {M:List Addr} {H:Hp} {ks:List (List Key)} {bs:List V} (h:Paired (yE H) ks bs):Reps K pp M H (ks.map keyD) bs:=by
 induction h with
 | nil=>simp only [List.map_nil,Reps]
 | cons h _ ih =>
  obtain ⟨b,rfl,hb⟩:=h
  exact .cons (vW hb) ih
theorem qC (hc:X.calm=true:=by rfl):CallD X (.builtin "sorted") ug:=by
 refine ⟨fun ds P P' f h=>?_,_,rO hc,fun {pp} M H ds vs Q lv r h=>?_⟩
 ·unfold ug at h ⊢
  split at h
  ·exact ⟨h.1,f _ h.2⟩
  ·exact h.elim
 ·unfold ug at h
  split at h
  ·rename_i ks es
   obtain ⟨⟨h1,h2,h3⟩,h⟩:=h
   simp only [Reps,Rep] at r
   obtain ⟨x,t,rfl,⟨a,kvs,rfl,_,_,ha,rfl,_⟩,rfl⟩:=r
   rw [List.length_map] at h2 h3
   refine ⟨a,kvs,rfl,ha,h1,h2,h3,fun l bs hl hp=>h _ _ (.new hl) ?_⟩
   simp only [Rep]
   exact ⟨l,bs,rfl,(lv.fresh hl).1,(lv.fresh hl).2,ai,(uh hp).mv (.new hl)⟩
  ·exact h.elim
end
end DL
namespace L2
open PySem PySem.Spec PyProof.Rows
section
variable {X:Cx}
end
end L2
namespace DL
open PySem PySem.Spec L2
open PyProof.Rows hiding St
variable [TB]
variable [Frm]
section
variable {X:Cx}
omit [Frm] in
theorem ie {K:PySem.W.Frag} {pp:Option Addr} {M:List Addr} {H:Hp}:∀ {ns:List Int} {xs:List V},Reps K pp M H (ns.map D.int) xs->xs=ns.map V.int
 | [],xs,h=>by simpa only [List.map_nil,Reps] using h
 | n::r,xs,h=>by
  simp only [List.map_cons,Reps,Rep] at h
  obtain ⟨x,t,rfl,rfl,h⟩:=h
  rw [ie h]; rfl
end
section
variable {K:PySem.W.Frag} {pp:Option Addr} {M M':List Addr} {H H':Hp}
omit [Frm] in
theorem PL.mv (m:Mv K pp M H M' H'):∀ {kls:List (List Key×List D)} {kvs:List (List Key×V)} {ls:List Addr},(∀ b∈ls,∀ o,H b=some o->H' b=some o)->PL K pp M H kls kvs ls->PL K pp M' H' kls kvs ls
 | [],kvs,ls,_,h=>h
 | p::ps,kvs,ls,kp,h=>by
  obtain ⟨l,xs,r,t,rfl,rfl,hl,h1,h2⟩:=h
  exact ⟨l,xs,r,t,rfl,rfl,kp l List.mem_cons_self _ hl,h1.mv m,PL.mv m (fun b hb=>kp b (List.mem_cons_of_mem _ hb)) h2⟩
omit [Frm] in
theorem PL.snoc {k:List Key} {es:List D} {l:Addr} {xs:List V} (hl:H l=some (.lst xs)) (hr:Reps K pp M H es xs):∀ {kls:List (List Key×List D)} {kvs:List (List Key×V)} {ls:List Addr},PL K pp M H kls kvs ls->PL K pp M H (kls++[(k,es)]) (kvs++[(k,.ref l)]) (ls++[l])
 | [],kvs,ls,h=>by
  obtain ⟨rfl,rfl⟩:=h
  exact ⟨l,xs,[],[],rfl,rfl,hl,hr,rfl,rfl⟩
 | p::ps,kvs,ls,h=>by
  obtain ⟨l',xs',r,t,rfl,rfl,hl',h1,h2⟩:=h
  exact ⟨l',xs',r++[(k,.ref l)],t++[l],rfl,rfl,hl',h1,PL.snoc hl hr h2⟩
def kB (k:List Key) (d:D):List (List Key×List D)->List (List Key×List D)
 | []=>[(k,[d])]
 | p::r=>if p.1=k then (p.1,p.2++[d])::r else p::kB k d r
omit [Frm] in
theorem PL.add (k:List Key) (d:D):∀ {kls:List (List Key×List D)} {kvs:List (List Key×V)} {ls:List Addr},PL K pp M H kls kvs ls->ls.Nodup ->
  (valV kvs k=none /\ kB k d kls=kls++[(k,[d])])∨∃ l0 xs,valV kvs k=some (.ref l0) /\ l0∈ls /\ H l0=some (.lst xs) /\ (∃ p∈kls,p.1=k /\ p.2.length=xs.length) /\
   ∀ {M':List Addr} {H':Hp} {v:V},Mv K pp M H M' H'->Rep K pp M' H' d v->H' l0=some (.lst (xs++[v]))->(∀ b∈ls,b≠l0->∀ o,H b=some o->H' b=some o)->PL K pp M' H' (kB k d kls) kvs ls
 | [],kvs,ls,h,_=>by
  obtain ⟨rfl,rfl⟩:=h
  exact .inl ⟨rfl,rfl⟩
 | p::ps,kvs,ls,h,nd=>by
  obtain ⟨l,xs,r,t,rfl,rfl,hl,h1,h2⟩:=h
  obtain ⟨n1,n2⟩:=List.nodup_cons.mp nd
  by_cases e:p.1=k
  ·refine .inr ⟨l,xs,iU (p:=(p.1,V.ref l)) e,List.mem_cons_self,hl,⟨p,List.mem_cons_self,e,h1.length⟩,fun {M' H' v} m rd hv kp=>?_⟩
   unfold kB
   rw [if_pos e]
   exact ⟨l,_,r,t,rfl,rfl,hv,(h1.mv m).append (.one rd),PL.mv m (fun b hb=>kp b (List.mem_cons_of_mem _ hb) (by rintro rfl; exact n1 hb)) h2⟩
  ·rcases PL.add k d h2 n2 with ⟨a1,a2⟩ | ⟨l0,ys,a1,a2,a3,⟨p',a4,a5⟩,f⟩
   ·refine .inl ⟨by rw [gj (p:=(p.1,V.ref l)) e]; exact a1,?_⟩
    unfold kB
    rw [if_neg e,a2]
    rfl
   ·refine .inr ⟨l0,ys,by rw [gj (p:=(p.1,V.ref l)) e]; exact a1,List.mem_cons_of_mem _ a2,a3,⟨p',List.mem_cons_of_mem _ a4,a5⟩,fun {M' H' v} m rd hv kp=>?_⟩
    unfold kB
    rw [if_neg e]
    exact ⟨l,xs,r,t,rfl,rfl,kp l List.mem_cons_self (by rintro rfl; exact n1 a2) _ hl,h1.mv m,f m rd hv fun b hb=>kp b (List.mem_cons_of_mem _ hb)⟩
end
section
variable {X:Cx}
abbrev dSda (i jk ja:Nat):DTS:=fun E ρ=>∃ (kls:List (List Key×List D)) (k:List Key) (d:D),slot ρ i = .obj (dlO kls) /\ slot ρ jk = .val (keyD k) /\ slot ρ ja = .val d /\ kls.length < sizeLine /\ (∀ p∈kls,p.2.length < sizeLine) /\ E.nx (ρ.set i (.obj (dlO (kB k d kls))))
omit [Frm] in
theorem PL.len {K:PySem.W.Frag} {pp:Option Addr} {M:List Addr} {H:Hp}:∀ {kls:List (List Key×List D)} {kvs:List (List Key×V)} {ls:List Addr},PL K pp M H kls kvs ls->kls.length=kvs.length
 | [],kvs,ls,h=>by rw [h.1]; rfl
 | p::ps,kvs,ls,h=>by
  obtain ⟨l,xs,r,t,rfl,rfl,hl,h1,h2⟩:=h
  simp [PL.len h2]
theorem AK {i jk ja r:Nat} {o ek ea:Expr} {lp p1 p2 p3 p4 pos:Pos} (hr:Room r X.A) (ho:PE X o (tVar i)) (hk:PE X ek (tVar jk)) (ha:PE X ea (tVar ja))
  (b1:attributeBase o "setdefault" X.env (eval o X.env)=eval o X.env:=by rfl)
  (f1:((backTo p2 (starEach [ek,.List [] lp] X.env)).all (fun x=>!x.1) && (backToKw p2 (keywordEach [] X.env)).all (fun x=>x.1.isSome)
   && decide ([ek,.List [] lp].length + ([]:List Keyword).length + (if ([]:List Keyword).isEmpty then 0 else 1) < 30))=true:=by rfl)
  (l1:(p1.endLine == p2.line)=true:=by rfl) (s1:starEach [ek,.List [] lp] X.env=(false,eval ek X.env)::starEach [.List [] lp] X.env:=by rfl) (s1':starEach [.List [] lp] X.env=(false,eval (.List [] lp) X.env)::starEach [] X.env:=by rfl)
  (q1:(backTo p2 (starEach [.List [] lp] X.env)).any (·.1)=false:=by rfl)
  (b2:attributeBase (.Call (.Attribute o "setdefault" p1) [ek,.List [] lp] [] p2) "append" X.env (eval (.Call (.Attribute o "setdefault" p1) [ek,.List [] lp] [] p2) X.env)=eval (.Call (.Attribute o "setdefault" p1) [ek,.List [] lp] [] p2) X.env:=by rfl)
  (f2:((backTo p4 (starEach [ea] X.env)).all (fun x=>!x.1) && (backToKw p4 (keywordEach [] X.env)).all (fun x=>x.1.isSome)
   && decide ([ea].length + ([]:List Keyword).length + (if ([]:List Keyword).isEmpty then 0 else 1) < 30))=true:=by rfl)
  (l2:(p3.endLine == p4.line)=true:=by rfl) (s2:starEach [ea] X.env=(false,eval ea X.env)::starEach [] X.env:=by rfl) (q2:(backTo p4 (starEach [] X.env)).any (·.1)=false:=by rfl)
  (hs:swapsWith (.Call (.Attribute (.Call (.Attribute o "setdefault" p1) [ek,.List [] lp] [] p2) "append" p3) [ea] [] p4) none pos.line X.env=pure false:=by rfl) :
  PSD X (.Expr (.Call (.Attribute (.Call (.Attribute o "setdefault" p1) [ek,.List [] lp] [] p2) "append" p3) [ea] [] p4) pos) (dSda i jk ja):=by
 have hm:=oR PySem.F.plainAttrs_list PySem.F.slot_list_append PySem.F.type_list_append gi (oR PySem.F.plainAttrs_dict PySem.F.slot_dict_setdefault PySem.F.type_dict_setdefault (lS (X:=X) (by have:=hr.units; omega)) ho (aP hk (aP (sM (pos:=lp) bL) bL s1') s1) b1 f1 l1 s1 q1) (aP ha bL s2) b2 f2 l2 s2 q2
 refine ⟨_,gL hm hs,fun {F} M H σ ρ E D rs oo h=>?_⟩
 obtain ⟨kls,k,d,e1,e2,e3,hlen,hlens,h9⟩:=h
 have g1:=aI e1 (by intro z; cases z)
 obtain ⟨v0,A,hv0,nd,hq,hA,_⟩:=rs.objAt g1
 obtain ⟨a,kvs,ls,rfl,hd,rfl,pl⟩:=ro_dl.mp hq
 obtain ⟨_,hk0,vk,rfl,rk⟩:=rs.at (aI e2 (by intro z; cases z))
 obtain ⟨_,ha0,va,rfl,ra⟩:=rs.at (aI e3 (by intro z; cases z))
 obtain ⟨b,rfl,hb⟩:=lW rk
 obtain ⟨am,a0,ap⟩:=hA a List.mem_cons_self
 obtain ⟨nd1,nd2⟩:=List.nodup_cons.mp nd
 refine ⟨.ref a,hv0,.inr (.inr (.inl ⟨rfl,.inr ⟨kvs,hd⟩⟩)),.ref b,hk0,Nat.zero_le _,fun l hl=>?_⟩
 have la:a≠l:=by rintro rfl; rw [hd] at hl; cases hl
 have lb:b≠l:=by rintro rfl; rw [hb] at hl; cases hl
 have lf:=rs.liv.fresh hl
 have hd1:upd H l (.lst []) a=some (.dT kvs):=by rw [ah la]; exact hd
 have mn:Mv X.K F.pp M H M (upd H l (.lst [])):=.new hl
 have rs1:RSt X.K F M (upd H l (.lst [])) σ ρ:=rs.sameP (.new hl)
 have f0:F.H0 l=none:=by
  cases e:F.H0 l with
  | none=>rfl
  | some o=>exact absurd hl (rs.same.live l (by rw [e]; intro z; cases z))
 refine ⟨a,kvs,k,b,.ref l,rfl,rfl,hd1,by rw [ah lb]; exact hb,by rw [← pl.len]; exact hlen,fun v hv=>?_,fun hn=>?_⟩
 ·rcases pl.add k d nd2 with ⟨a1,_⟩ | ⟨l0,xs,a1,a2,a3,⟨p',c1,c2,c3⟩,_⟩
  ·rw [hv] at a1; cases a1
  rw [hv] at a1
  cases a1
  obtain ⟨lm,l00,lp0⟩:=hA l0 (List.mem_cons_of_mem _ a2)
  have n0:l0≠l:=by rintro rfl; rw [hl] at a3; cases a3
  have hl1:upd H l (.lst []) l0=some (.lst xs):=by rw [ah n0]; exact a3
  have mw:Mv X.K F.pp M (upd H l (.lst [])) M (upd (upd H l (.lst [])) l0 (.lst (xs++[va]))):=.writeX hl1 trivial lm lp0
  have m:=mn.trans mw
  refine ⟨.inl ⟨rfl,xs,SqL.of hl1⟩,va,ha0,l0,xs,va,rfl,rfl,hl1,by rw [← c3]; exact hlens p' c1,oo.nx M _ σ _ m ?_ h9⟩
  refine rs.objStep g1 m (fun v' A' hv' nd' hq' hA'=>?_) rs.sub (rs1.sameW l00 mw) rs1.liv.upd
  rw [hv0] at hv'
  cases hv'
  obtain ⟨a',kvs',ls',e,hd',rfl,pl'⟩:=ro_dl.mp hq'
  cases e
  rw [hd] at hd'
  cases hd'
  obtain ⟨nd1',nd2'⟩:=List.nodup_cons.mp nd'
  rcases pl'.add k d nd2' with ⟨z,_⟩ | ⟨l0',xs',z1,z2,z3,_,f⟩
  ·rw [hv] at z; cases z
  rw [hv] at z1
  cases z1
  rw [a3] at z3
  cases z3
  have na:a≠l0:=by rintro rfl; exact nd1' z2
  have keep:∀ c x,c≠l0->H c=some x->upd (upd H l (.lst [])) l0 (.lst (xs++[va])) c=some x:=fun c x h1 h2=>by
   rw [ah h1,ah (by rintro rfl; rw [hl] at h2; cases h2)]
   exact h2
  refine ⟨a::ls',nd',ro_dl.mpr ⟨a,kvs,ls',rfl,keep a _ na hd,rfl,f m (ra.mv m) ai fun c _ h1 x h2=>keep c x h1 h2⟩,fun c hc=>⟨(hA' c hc).1,(hA' c hc).2.1,(hA' c hc).2.2,.inl hc⟩,fun c hc _ _ hn=>⟨hc,fun x e _=>keep c x (by rintro rfl; exact hn (List.mem_cons_of_mem _ z2)) e⟩⟩
 ·have hput:putK kvs k (.ref l)=kvs++[(k,.ref l)]:=by
   unfold putK
   rw [ly,hn]
   rfl
  rw [hput]
  have m1:Mv X.K F.pp M H (l::M) (upd H l (.lst [])):=.newOwn hl
  have m2:Mv X.K F.pp (l::M) (upd H l (.lst [])) (l::M) (upd (upd H l (.lst [])) a (.dT (kvs++[(k,.ref l)]))):=.writeX hd1 trivial (List.mem_cons_of_mem _ am) ap
  have m2':Mv X.K F.pp M (upd H l (.lst [])) M (upd (upd H l (.lst [])) a (.dT (kvs++[(k,.ref l)]))):=.writeX hd1 trivial am ap
  have hl2:upd (upd H l (.lst [])) a (.dT (kvs++[(k,.ref l)])) l=some (.lst []):=by rw [ah (Ne.symm la),ai]
  have m3:Mv X.K F.pp (l::M) (upd (upd H l (.lst [])) a (.dT (kvs++[(k,.ref l)]))) (l::M) (upd (upd (upd H l (.lst [])) a (.dT (kvs++[(k,.ref l)]))) l (.lst ([]++[va]))):=.writeX hl2 trivial List.mem_cons_self lf.2
  have m:=(m1.trans m2).trans m3
  have same2:=rs1.sameW a0 m2'
  have same3:SameQ X.K F.pp F.H0 (upd (upd (upd H l (.lst [])) a (.dT (kvs++[(k,.ref l)]))) l (.lst ([]++[va]))):=by
   refine ⟨fun c x e n=>?_,fun p e h=>m3.pen p e (same2.pen p e h),fun c e=>?_⟩
   ·rw [ah (by rintro rfl; rw [f0] at e; cases e)]
    exact same2.keep c x e n
   ·by_cases z:c=l
    ·subst z; rw [ai]; intro z; cases z
    ·rw [ah z]; exact same2.live c e
  have lv3:=(rs1.liv.upd (l:=a) (o:=.dT (kvs++[(k,.ref l)]))).upd (l:=l) (o:=.lst ([]++[va]))
  refine ⟨.inl ⟨rfl,[],SqL.of hl2⟩,va,ha0,l,[],va,rfl,rfl,hl2,by decide,oo.nx (l::M) _ σ _ m ?_ h9⟩
  refine rs.objStep g1 m (fun v' A' hv' nd' hq' hA'=>?_) (fun c hc=>List.mem_cons_of_mem _ (rs.sub c hc)) same3 ⟨fun c hc=>?_,lv3.p⟩
  ·rw [hv0] at hv'
   cases hv'
   obtain ⟨a',kvs',ls',e,hd',rfl,pl'⟩:=ro_dl.mp hq'
   cases e
   rw [hd] at hd'
   cases hd'
   obtain ⟨nd1',nd2'⟩:=List.nodup_cons.mp nd'
   have lls:l∉ls':=fun z=>lf.1 (hA' l (List.mem_cons_of_mem _ z)).1
   rcases pl'.add k d nd2' with ⟨_,z⟩ | ⟨l0',xs',z1,_⟩
   ·have keep:∀ c x,c≠a->c≠l->H c=some x->upd (upd (upd H l (.lst [])) a (.dT (kvs++[(k,.ref l)]))) l (.lst ([]++[va])) c=some x:=fun c x h1 h2 h3=>by
     rw [ah h2,ah h1,ah h2]
     exact h3
    have hal:upd (upd (upd H l (.lst [])) a (.dT (kvs++[(k,.ref l)]))) l (.lst ([]++[va])) a=some (.dT (kvs++[(k,.ref l)])):=by rw [ah la,ai]
    refine ⟨a::(ls'++[l]),?_,ro_dl.mpr ⟨a,_,ls'++[l],rfl,hal,rfl,?_⟩,fun c hc=>?_,fun c hc _ _ hn=>⟨List.mem_cons_of_mem _ hc,fun x e _=>keep c x (by rintro rfl; exact hn List.mem_cons_self) (by rintro rfl; exact lf.1 hc) e⟩⟩
    ·refine List.nodup_cons.mpr ⟨fun z=>?_,List.nodup_append.mpr ⟨nd2',by simp,fun x hx y hy e=>?_⟩⟩
     ·rcases List.mem_append.mp z with z | z
      ·exact nd1' z
      ·exact la (List.mem_singleton.mp z)
     ·rw [List.mem_singleton.mp hy] at e
      subst e
      exact lls hx
    ·rw [z]
     exact PL.snoc ai (.one (ra.mv m)) (pl'.mv m fun c hc x e=>keep c x (by rintro rfl; exact nd1' hc) (by rintro rfl; exact lls hc) e)
    ·rcases List.mem_cons.mp hc with rfl | hc
     ·exact ⟨List.mem_cons_of_mem _ am,a0,ap,.inl List.mem_cons_self⟩
     rcases List.mem_append.mp hc with hc | hc
     ·have:=hA' c (List.mem_cons_of_mem _ hc)
      exact ⟨List.mem_cons_of_mem _ this.1,this.2.1,this.2.2,.inl (List.mem_cons_of_mem _ hc)⟩
     ·rw [List.mem_singleton.mp hc]
      exact ⟨List.mem_cons_self,f0,lf.2,.inr lf.1⟩
   ·rw [hn] at z1; cases z1
  ·rcases List.mem_cons.mp hc with rfl | hc
   ·rw [ai]; intro z; cases z
   ·exact lv3.m c hc
end
end DL
namespace DL
open PySem PySem.Spec L2
open PyProof.Rows hiding St
variable [TB]
variable [Frm]
section
variable {K:PySem.W.Frag} {F:Fx} {M:List Addr} {H:Hp} {σ:St} {ρ:DS} {i:Nat}
end
section
variable {X:Cx}
end
end DL
namespace DL
open PySem PySem.Spec L2
open PyProof.Rows hiding St
variable [TB]
variable [Frm] {X:Cx} {st:Stmt}
end DL
namespace DL
open PySem PySem.Spec L2
open PyProof.Rows hiding St
variable [TB]
section
variable {P:Program} {w:World} {K:PySem.W.Frag} {mg:Str->Option Value} {base:Heap} {k:Nat} {f:Addr} {fd:FuncData} {ps:List Str} {n:Nat}
end
end DL
namespace DL
open PySem PySem.Spec L2
open PyProof.Rows hiding St
variable [TB]
section
variable {X:Cx}
end
end DL
namespace L2
open PySem PySem.Spec PyProof.Rows PySem.W
theorem dr {α β:Type} (c:Nat->Nat->Bool) (f:α->KasT β):∀ t:KasT α,kRun c (t.bind f)=kRun c (f (kRun c t))
 | .ret _=>rfl
 | .ask i j k=>dr c f (k (c i j))
structure StrO (N:Nat) (c:Nat->Nat->Bool):Prop where
 tr:∀ i j k,i < N->j < N->k < N->c i j=true->c j k=true->c i k=true
 as:∀ i j,i < N->j < N->c i j=true->c j i=false
 to:∀ i j,i < N->j < N->i≠j->c i j=false->c j i=true
section
variable {N:Nat} {c:Nat->Nat->Bool} {p:Array Nat}
theorem PmN.size (h:PmN N p):p.size=N:=by
 have:=h.length_eq
 simpa using this
theorem PmN.ne (h:PmN N p) {i j:Nat} (hi:i < N) (hj:j < N) (e:i≠j):p.getD i 0≠p.getD j 0:=by
 have nd:p.toList.Nodup:=h.nodup_iff.mpr List.nodup_range
 have s:=h.size
 have e1:p.getD i 0=p.toList[i]'(by simpa [s] using hi):=by simp [Array.getD,s,hi]
 have e2:p.getD j 0=p.toList[j]'(by simpa [s] using hj):=by simp [Array.getD,s,hj]
 rw [e1,e2]
 intro z
 exact e ((List.getElem_inj nd).mp z)
def Asc (c:Nat->Nat->Bool) (p:Array Nat) (n:Nat):Prop:=∀ i j,i < j->j < n->c (p.getD i 0) (p.getD j 0)=true
def Dsc (c:Nat->Nat->Bool) (p:Array Nat) (n:Nat):Prop:=∀ i j,i < j->j < n->c (p.getD j 0) (p.getD i 0)=true
theorem Asc.step (O:StrO N c) (h:PmN N p) {n:Nat} (hn:1 <= n) (hN:n < N) (a:Asc c p n) (e:c (p.getD n 0) (p.getD (n - 1) 0)=false):Asc c p (n + 1):=by
 have h0:0 < N:=by omega
 have last:c (p.getD (n - 1) 0) (p.getD n 0)=true:=O.to _ _ (h.lt h0 _) (h.lt h0 _) (h.ne hN (by omega) (by omega)) e
 intro i j hij hj
 by_cases z:j=n
 ·subst z
  by_cases y:i=j - 1
  ·subst y; exact last
  ·exact O.tr _ _ _ (h.lt h0 _) (h.lt h0 _) (h.lt h0 _) (a i (j - 1) (by omega) (by omega)) last
 ·exact a i j hij (by omega)
theorem Dsc.step (O:StrO N c) (h:PmN N p) {n:Nat} (hn:1 <= n) (hN:n < N) (a:Dsc c p n) (last:c (p.getD n 0) (p.getD (n - 1) 0)=true):Dsc c p (n + 1):=by
 have h0:0 < N:=by omega
 intro i j hij hj
 by_cases z:j=n
 ·subst z
  by_cases y:i=j - 1
  ·subst y; exact last
  ·exact O.tr _ _ _ (h.lt h0 _) (h.lt h0 _) (h.lt h0 _) last (a i (j - 1) (by omega) (by omega))
 ·exact a i j hij (by omega)
theorem pF (O:StrO N c) (h:PmN N p):∀ (f n:Nat),1 <= n->n + f <= N->Asc c p n->Asc c p (kRun c (kas_asc p f n)) /\ n <= kRun c (kas_asc p f n) /\ kRun c (kas_asc p f n) <= n + f /\ (kRun c (kas_asc p f n)=n + f∨c (p.getD (kRun c (kas_asc p f n)) 0) (p.getD (kRun c (kas_asc p f n) - 1) 0)=true)
 | 0,n,_,_,a=>⟨a,Nat.le_refl _,Nat.le_refl _,.inl rfl⟩
 | f + 1,n,hn,hN,a=>by
  have e0:kRun c (kas_asc p (f + 1) n)=kRun c (if c (p.getD n 0) (p.getD (n - 1) 0)=true then .ret n else kas_asc p f (n + 1)):=rfl
  cases e:c (p.getD n 0) (p.getD (n - 1) 0) with
  | true =>
   rw [e0,if_pos e]
   exact ⟨a,Nat.le_refl _,by show n <= _; omega,.inr e⟩
  | false =>
   rw [e0,if_neg (by rw [e]; intro z; cases z)]
   obtain ⟨b1,b2,b3,b4⟩:=pF O h f (n + 1) (by omega) (by omega) (a.step O h hn (by omega) e)
   refine ⟨b1,by omega,by omega,?_⟩
   rcases b4 with b4 | b4
   ·exact .inl (by omega)
   ·exact .inr b4
theorem qD (O:StrO N c) (h:PmN N p):∀ (f n:Nat),1 <= n->n + f <= N->Dsc c p n->∃ m,kRun c (kas_desc f p n 0)=(p,m,0) /\ Dsc c p m /\ n <= m /\ m <= n + f
 | 0,n,_,_,a=>⟨n,rfl,a,Nat.le_refl _,Nat.le_refl _⟩
 | f + 1,n,hn,hN,a=>by
  have h0:0 < N:=by omega
  have e0:kRun c (kas_desc (f + 1) p n 0)=kRun c (if c (p.getD n 0) (p.getD (n - 1) 0)=true then (if 0 > 0 then kas_desc f (kas_rev p (n - (0 + 1)) n) (n + 1) 0 else kas_desc f p (n + 1) 0)
   else .ask (p.getD (n - 1) 0) (p.getD n 0) fun d=>if d=true then .ret (p,n,0) else kas_desc f p (n + 1) (0 + 1)):=rfl
  rw [e0]
  cases e:c (p.getD n 0) (p.getD (n - 1) 0) with
  | true =>
   rw [if_pos rfl,if_neg (by omega)]
   obtain ⟨m,b1,b2,b3,b4⟩:=qD O h f (n + 1) (by omega) (by omega) (a.step O h hn (by omega) e)
   exact ⟨m,b1,b2,by omega,by omega⟩
  | false =>
   rw [if_neg (by intro z; cases z)]
   have last:c (p.getD (n - 1) 0) (p.getD n 0)=true:=O.to _ _ (h.lt h0 _) (h.lt h0 _) (h.ne (by omega) (by omega) (by omega)) e
   have e1:kRun c (.ask (p.getD (n - 1) 0) (p.getD n 0) fun d=>if d=true then .ret (p,n,0) else kas_desc f p (n + 1) (0 + 1))=kRun c (if c (p.getD (n - 1) 0) (p.getD n 0)=true then .ret (p,n,0) else kas_desc f p (n + 1) (0 + 1)):=rfl
   rw [e1,if_pos last]
   exact ⟨n,rfl,a,Nat.le_refl _,by omega⟩
theorem ui {p:Array Nat} {a b:Nat} (ha:a < p.size) (hb:b < p.size) (i:Nat):(p.swapIfInBounds a b).getD i 0=if i=a then p.getD b 0 else if i=b then p.getD a 0 else p.getD i 0:=by
 have e:∀ (q:Array Nat) (j:Nat),q.getD j 0=(q[j]?).getD 0:=fun q j=>by
  by_cases h:j < q.size <;> simp [Array.getD,h]
 rw [e,e,e,e,Array.swapIfInBounds_def,dif_pos ha,dif_pos hb,Array.getElem?_swap]
 by_cases h1:i=a
 ·subst h1
  by_cases h2:i=b
  ·subst h2; simp [hb]
  ·simp [h2,hb,Ne.symm h2]
 ·by_cases h2:i=b
  ·subst h2
   simp [h1,ha,hb]
  ·simp [h1,h2,Ne.symm h1,Ne.symm h2]
theorem qE {p:Array Nat} {k:Nat} (hk:k < p.size):∀ (d:Nat),d <= k->∀ i,(bubble p k d).getD i 0=if i=k - d then p.getD k 0 else if k - d < i /\ i <= k then p.getD (i - 1) 0 else p.getD i 0
 | 0,_,i=>by
  show p.getD i 0=_
  by_cases h:i=k
  ·subst h; simp
  ·rw [if_neg (by omega),if_neg (by omega)]
 | d + 1,hd,i=>by
  rw [bubble_succ,ui (by rw [bubble_size]; omega) (by rw [bubble_size]; omega),qE hk d (by omega),qE hk d (by omega),qE hk d (by omega)]
  by_cases h1:i=k - d
  ·rw [if_pos h1,if_neg (by omega),if_neg (by omega),if_neg (by omega),if_pos (by omega),show k - d - 1=i - 1 by omega]
  ·rw [if_neg h1]
   by_cases h2:i=k - d - 1
   ·rw [if_pos h2,if_pos rfl,if_pos (by omega)]
   ·rw [if_neg h2,if_neg h1,if_neg (show ¬ i=k - (d + 1) by omega)]
    by_cases h3:k - d < i /\ i <= k
    ·rw [if_pos h3,if_pos (by omega)]
    ·rw [if_neg h3,if_neg (by omega)]
theorem qF {p:Array Nat} {n:Nat} (hn:n <= p.size):∀ (d:Nat),d <= n / 2->∀ i,(mirror p 0 n d).getD i 0=if i < d∨(n - d <= i /\ i < n) then p.getD (n - 1 - i) 0 else p.getD i 0
 | 0,_,i=>by
  show p.getD i 0=_
  rw [if_neg (by omega)]
 | d + 1,hd,i=>by
  rw [mirror_succ,ui (by rw [mirror_size]; omega) (by rw [mirror_size]; omega),qF hn d (by omega),qF hn d (by omega),qF hn d (by omega)]
  by_cases h1:i=0 + d
  ·rw [if_pos h1,if_neg (by omega),if_pos (by omega),show n - 1 - d=n - 1 - i by omega]
  ·rw [if_neg h1]
   by_cases h2:i=n - 1 - d
   ·rw [if_pos h2,if_neg (by omega),if_pos (by omega),show n - 1 - i=0 + d by omega]
   ·rw [if_neg h2]
    by_cases h3:i < d∨(n - d <= i /\ i < n)
    ·rw [if_pos h3,if_pos (by omega)]
    ·rw [if_neg h3,if_neg (by omega)]
theorem wY {p:Array Nat} {n:Nat} (hn:n <= p.size) (i:Nat):(kas_rev p 0 n).getD i 0=if i < n then p.getD (n - 1 - i) 0 else p.getD i 0:=by
 unfold kas_rev
 rw [qF hn _ (by omega)]
 by_cases h:i < (n - 0) / 2∨(n - (n - 0) / 2 <= i /\ i < n)
 ·rw [if_pos h,if_pos (by omega)]
 ·rw [if_neg h]
  by_cases h2:i < n
  ·rw [if_pos h2,show n - 1 - i=i by omega]
  ·rw [if_neg h2]
theorem Dsc.rev {n:Nat} (h:PmN N p) (hn:n <= N) (a:Dsc c p n):Asc c (kas_rev p 0 n) n:=by
 intro i j hij hj
 have s:=h.size
 rw [wY (by omega),wY (by omega),if_pos (by omega),if_pos hj]
 exact a _ _ (by omega) (by omega)
theorem uj (O:StrO N c) (h:PmN N p) (h2:2 <= N):Asc c (kRun c (kas_count N p)).2 (kRun c (kas_count N p)).1 /\ 1 <= (kRun c (kas_count N p)).1 /\ (kRun c (kas_count N p)).1 <= N:=by
 obtain ⟨a1,a2,a3,a4⟩:=pF O h (N - 1) 1 (Nat.le_refl _) (by omega) (fun i j hij hj=>by omega)
 unfold kas_count
 rw [dr]
 generalize kRun c (kas_asc p (N - 1) 1)=n at a1 a2 a3 a4
 by_cases e1:(n == N)=true
 ·rw [if_pos e1]
  exact ⟨a1,a2,by show n <= N; omega⟩
 ·rw [if_neg e1]
  have nN:n≠N:=fun z=>e1 (by rw [z]; exact beq_self_eq_true _)
  by_cases e2:n > 1
  ·rw [if_pos e2]
   have e3:kRun c (.ask (p.getD 0 0) (p.getD (n - 1) 0) fun b=>if b=true then .ret (n,p) else kas_descPart n N (kas_rev p 0 n))=kRun c (if c (p.getD 0 0) (p.getD (n - 1) 0)=true then .ret (n,p) else kas_descPart n N (kas_rev p 0 n)):=rfl
   rw [e3,if_pos (a1 0 (n - 1) (by omega) (by omega))]
   exact ⟨a1,a2,by show n <= N; omega⟩
  ·rw [if_neg e2]
   have n1:n=1:=by omega
   subst n1
   have last:c (p.getD 1 0) (p.getD (1 - 1) 0)=true:=by
    rcases a4 with a4 | a4
    ·exact absurd a4 (by omega)
    ·exact a4
   have d2:Dsc c p (1 + 1):=Dsc.step O h (Nat.le_refl _) (by omega) (fun i j hij hj=>by omega) last
   unfold kas_descPart
   rw [dr]
   obtain ⟨m,b1,b2,b3,b4⟩:=qD O h (N - (1 + 1)) (1 + 1) (by omega) (by omega) d2
   rw [b1]
   show Asc c (kRun c (if (0:Nat) > 0 then _ else kas_tail3 m N p)).2 _ /\ _
   rw [if_neg (by omega)]
   have mN:m <= N:=by omega
   unfold kas_tail3
   rw [dr]
   obtain ⟨c1,c2,c3,_⟩:=pF O (h.rev 0 m) (N - m) m (by omega) (by omega) (b2.rev h mN)
   exact ⟨c1,by show 1 <= kRun c _; omega,by show kRun c _ <= N; omega⟩
theorem jP (O:StrO N c) (h:PmN N p) {k:Nat} (hk:k < N) (a:Asc c p k):∀ (f l r:Nat),r - l <= f->l <= r->r <= k->(∀ i,i < l->c (p.getD i 0) (p.getD k 0)=true)->(∀ i,r <= i->i < k->c (p.getD k 0) (p.getD i 0)=true) ->
  (kRun c (kas_place p k f l r) <= k /\ (∀ i,i < kRun c (kas_place p k f l r)->c (p.getD i 0) (p.getD k 0)=true) /\ ∀ i,kRun c (kas_place p k f l r) <= i->i < k->c (p.getD k 0) (p.getD i 0)=true)
 | 0,l,r,hf,hlr,hr,h1,h2=>by
  show l <= k /\ _
  have:l=r:=by omega
  subst this
  exact ⟨hr,h1,h2⟩
 | f + 1,l,r,hf,hlr,hr,h1,h2=>by
  have h0:0 < N:=by omega
  unfold kas_place
  by_cases e:l ≥ r
  ·rw [if_pos e]
   have:l=r:=by omega
   subst this
   exact ⟨hr,h1,h2⟩
  ·rw [if_neg e]
   have e3:∀ (t u:KasT Nat),kRun c (.ask (p.getD k 0) (p.getD ((l + r) / 2) 0) fun b=>if b=true then t else u)=kRun c (if c (p.getD k 0) (p.getD ((l + r) / 2) 0)=true then t else u):=fun _ _=>rfl
   rw [e3]
   cases z:c (p.getD k 0) (p.getD ((l + r) / 2) 0) with
   | true =>
    rw [if_pos rfl]
    refine jP O h hk a f l ((l + r) / 2) (by omega) (by omega) (by omega) h1 fun i hi hik=>?_
    by_cases y:i=(l + r) / 2
    ·rw [y]; exact z
    ·exact O.tr _ _ _ (h.lt h0 _) (h.lt h0 _) (h.lt h0 _) z (a _ _ (by omega) hik)
   | false =>
    rw [if_neg (by intro z; cases z)]
    have z':c (p.getD ((l + r) / 2) 0) (p.getD k 0)=true:=O.to _ _ (h.lt h0 _) (h.lt h0 _) (h.ne hk (by omega) (by omega)) z
    refine jP O h hk a f ((l + r) / 2 + 1) r (by omega) (by omega) hr (fun i hi=>?_) h2
    by_cases y:i=(l + r) / 2
    ·rw [y]; exact z'
    ·exact O.tr _ _ _ (h.lt h0 _) (h.lt h0 _) (h.lt h0 _) (a i _ (by omega) (by omega)) z'
theorem Asc.bub (h:PmN N p) {k l:Nat} (hk:k < N) (a:Asc c p k) (hl:l <= k) (h1:∀ i,i < l->c (p.getD i 0) (p.getD k 0)=true) (h2:∀ i,l <= i->i < k->c (p.getD k 0) (p.getD i 0)=true):Asc c (bubble p k (k - l)) (k + 1):=by
 intro i j hij hj
 have s:=h.size
 have e:=qE (p:=p) (k:=k) (by omega) (k - l) (by omega)
 have el:k - (k - l)=l:=by omega
 rw [e i,e j,el]
 by_cases i1:i=l
 ·rw [if_pos i1,if_neg (by omega),if_pos (by omega)]
  exact h2 (j - 1) (by omega) (by omega)
 ·rw [if_neg i1]
  by_cases j1:j=l
  ·rw [if_pos j1,if_neg (by omega)]
   exact h1 i (by omega)
  ·rw [if_neg j1]
   by_cases i2:l < i /\ i <= k
   ·rw [if_pos i2,if_pos (by omega)]
    exact a _ _ (by omega) (by omega)
   ·rw [if_neg i2]
    by_cases j2:l < j /\ j <= k
    ·rw [if_pos j2]
     exact a _ _ (by omega) (by omega)
    ·rw [if_neg j2]
     exact a _ _ hij (by omega)
theorem uk (O:StrO N c):∀ (f:Nat) (p:Array Nat) (k:Nat),PmN N p->1 <= k->k + f=N->Asc c p k->Asc c (kRun c (kas_bin f p k)) N
 | 0,p,k,h,_,e,a=>by
  have:k=N:=by omega
  subst this
  exact a
 | f + 1,p,k,h,hk,e,a=>by
  unfold kas_bin
  rw [dr]
  obtain ⟨b1,b2,b3⟩:=jP O h (k:=k) (by omega) a k 0 k (by omega) (by omega) (Nat.le_refl _) (fun i hi=>by omega) (fun i hi hik=>by omega)
  exact uk O f _ (k + 1) (h.bub _ _) (by omega) (by omega) (a.bub h (by omega) b1 b2 b3)
theorem wa (O:StrO N c) (h2:2 <= N):Asc c (kRun c (kas_sort N)) N:=by
 have hp:PmN N (List.toArray (List.range N)):=by unfold PmN; rw [List.toList_toArray]
 unfold kas_sort
 rw [dr]
 obtain ⟨a1,a2,a3⟩:=uj O hp h2
 have pm:=KGood.end c _ (kU (N:=N) (by omega) hp N)
 generalize kRun c (kas_count N (List.toArray (List.range N)))=r at a1 a2 a3 pm
 by_cases e:r.1 < N
 ·rw [if_pos e]
  have em:max r.1 1=r.1:=by omega
  rw [em]
  exact uk O _ _ _ pm a2 (by omega) a1
 ·rw [if_neg e]
  have:r.1=N:=by omega
  rw [this] at a1
  exact a1
end
end L2
namespace L2
open PySem PySem.Spec PyProof.Rows
def IterX:Bool->Heap->Addr->Addr->Nat->Prop
 | true,h,i,a,k=>h.IsTupleIter i a k
 | false,h,i,a,k=>h.IsListIter i a k
def SeqX:Bool->Heap->Addr->Array Value->Prop
 | true,h,a,xs=>h.IsTuple a xs
 | false,h,a,xs=>h.IsList a xs
theorem IterX.extBut {t:Bool} {h h':Heap} {i a b:Addr} {k:Nat} (x:IterX t h i a k) (hs:Heap.ExtBut b h h') (e:i≠b):IterX t h' i a k:=by
 cases t with
 | true=>exact Heap.IsTupleIter.extBut x hs e
 | false=>exact Heap.IsListIter.extBut x hs e
theorem IterX.at {t:Bool} {h h':Heap} {i a:Addr} {k:Nat} (x:IterX t h i a k) (e:∀ o,h.get? i=some o->h'.get? i=some o):IterX t h' i a k:=by
 cases t with
 | true=>exact Heap.IsTupleIter.at x e
 | false=>exact Heap.IsListIter.at x e
theorem IterX.cell {t:Bool} {h:Heap} {i a:Addr} {k:Nat} (x:IterX t h i a k):∃ o,h.get? i=some o /\ ∀ v,o.data ≠ .cell v:=by
 cases t with
 | true=>obtain ⟨o,e,_,d⟩:=(show h.IsTupleIter i a k from x); exact ⟨o,e,fun v z=>by rw [d] at z; cases z⟩
 | false=>obtain ⟨o,e,_,d⟩:=(show h.IsListIter i a k from x); exact ⟨o,e,fun v z=>by rw [d] at z; cases z⟩
theorem SeqX.extBut {t:Bool} {h h':Heap} {a b:Addr} {xs:Array Value} (x:SeqX t h a xs) (hs:Heap.ExtBut b h h') (e:a≠b):SeqX t h' a xs:=by
 cases t with
 | true=>exact Heap.IsTuple.extBut x hs e
 | false=>exact Heap.IsList.extBut x hs e
theorem SeqX.at {t:Bool} {h h':Heap} {a:Addr} {xs:Array Value} (x:SeqX t h a xs) (e:∀ o,h.get? a=some o->h'.get? a=some o):SeqX t h' a xs:=by
 cases t with
 | true=>obtain ⟨o,ho,r⟩:=(show h.IsTuple a xs from x); exact ⟨o,e o ho,r⟩
 | false=>exact Heap.IsList.at x e
theorem SeqX.lt {t:Bool} {h:Heap} {a:Addr} {xs:Array Value} (x:SeqX t h a xs):a < h.objs.size:=by
 cases t with
 | true=>obtain ⟨o,ho,_⟩:=(show h.IsTuple a xs from x); exact Heap.lt_size ho
 | false=>obtain ⟨o,ho,_⟩:=(show h.IsList a xs from x); exact Heap.lt_size ho
section
variable {prog:Program} {w:World} {A:Around} {E:Value->Shared->Prop} {s:Shared}
theorem ej {it t:Addr} {i:Nat} {xs:Array Value} {v:Value} {Q:Value->Shared->Prop} (h1:s.heap.IsTupleIter it t i) (h2:s.heap.IsTuple t xs) (h3:xs[i]? = some v)
  (q:∀ h',h'.IsTupleIter it t (i + 1)->Heap.SameBut it s.heap h'->Q v { s with heap:=h' }):wpAny (model prog w) A (Builtin.SmallTypes.nextOf (.ref it)) Q E s:=by
 obtain ⟨ob,ho,oc,od⟩:=id h1
 obtain ⟨ot,hot,_,nt,odt⟩:=h2
 unfold Builtin.SmallTypes.nextOf
 refine wpAny_bind (wpAny_callSpecial?_slot (name:=Str.ofString "__next__") h1.typeIs F.slot_tuple_iterator_next (wpAny_call_entry F.slot_tuple_iterator_next h1.typeIs F.entry_tuple_iterator_next ?_ (F.args_tuple_iterator_next_1 _)))
 refine (show wpAny _ _ (field (.ref it) 0 >>= _) _ _ s from wpAny_bind (wpAny_field ho od (x:=.ref t) rfl ?_))
 refine (show wpAny _ _ (if (Value.ref t == Value.none)=true then _ else _) _ _ s from ?_)
 rw [if_neg (show ¬ ((Value.ref t == Value.none)=true) from fun z=>nomatch z)]
 refine (show wpAny _ _ (field (.ref it) 1 >>= _) _ _ s from wpAny_bind (wpAny_field ho od (x:=.int i 0) rfl ?_))
 refine (show wpAny _ _ (seqItems? (.ref t) >>= _) _ _ s from wpAny_bind (wpAny_seqItems hot odt ?_))
 simp only [Int.toNat_natCast,h3]
 refine wpAny_bind (wpAny_setField ho od (by simp) (wpAny_pure ⟨v,rfl,wpAny_pure (q _ ⟨_,Heap.get?_update_self _ ho (Obj.isFreed_of_fields (Obj.data_mapFields od _)),(Obj.cls_mapFields ..).trans oc,by rw [Obj.data_mapFields od]; simp [rawInt]⟩ (Heap.SameBut.update ..))⟩))
theorem cZ {it t:Addr} {i:Nat} {xs:Array Value} {Q:Value->Shared->Prop} (hh:A.handled=none) (h1:s.heap.IsTupleIter it t i) (h2:s.heap.IsTuple t xs) (h3:xs[i]? = none)
  (q:∀ h' e,Heap.ExtBut it s.heap h'->(∃ o,h'.get? e=some o /\ o.cls = .type "StopIteration")->E (.ref e) { s with heap:=h' }):wpAny (model prog w) A (Builtin.SmallTypes.nextOf (.ref it)) Q E s:=by
 obtain ⟨ob,ho,oc,od⟩:=id h1
 obtain ⟨ot,hot,_,nt,odt⟩:=h2
 unfold Builtin.SmallTypes.nextOf
 refine wpAny_bind (wpAny_callSpecial?_slot (name:=Str.ofString "__next__") h1.typeIs F.slot_tuple_iterator_next (wpAny_call_entry F.slot_tuple_iterator_next h1.typeIs F.entry_tuple_iterator_next ?_ (F.args_tuple_iterator_next_1 _)))
 refine (show wpAny _ _ (field (.ref it) 0 >>= _) _ _ s from wpAny_bind (wpAny_field ho od (x:=.ref t) rfl ?_))
 refine (show wpAny _ _ (if (Value.ref t == Value.none)=true then _ else _) _ _ s from ?_)
 rw [if_neg (show ¬ ((Value.ref t == Value.none)=true) from fun z=>nomatch z)]
 refine (show wpAny _ _ (field (.ref it) 1 >>= _) _ _ s from wpAny_bind (wpAny_field ho od (x:=.int i 0) rfl ?_))
 refine (show wpAny _ _ (seqItems? (.ref t) >>= _) _ _ s from wpAny_bind (wpAny_seqItems hot odt ?_))
 simp only [Int.toNat_natCast,h3]
 refine wpAny_bind (wpAny_rule (wpAny_bind (wpAny_setField ho od (by simp) ?_)))
 refine (show wpAny _ _ (newExc (.type "StopIteration") [] >>= _) _ _ _ from wpAny_bind ?_)
 simp only [newExc,newTuple]
 refine wpAny_bind (wpAny_newObj_type (wpAny_bind (m:=firstArgMember _ _) (wpAny_of_eq (a:=Value.none) (by first | rfl | (simp only [firstArgMember]; rfl)) (wpAny_newObj_type ?_ (by size_fits)))) (by size_fits))
 simp only [raiseNew]; refine wpAny_bind (wpAny_handled ?_); (first | rw [show A.in1.handled=none from hh] | rw [hh]); refine wpAny_bind (wpAny_pure (wpAny_throw ?_))
 exact q _ _ (((Heap.SameBut.update ..).extBut.push _).push _) ⟨_,Heap.get?_push_size _ rfl,rfl⟩
theorem gC {b:Bool} {it t:Addr} {i:Nat} {xs:Array Value} {v:Value} {Q:Value->Shared->Prop} (h1:IterX b s.heap it t i) (h2:SeqX b s.heap t xs) (h3:xs[i]? = some v)
  (q:∀ h',IterX b h' it t (i + 1)->Heap.SameBut it s.heap h'->Q v { s with heap:=h' }):wpAny (model prog w) A (Builtin.SmallTypes.nextOf (.ref it)) Q E s:=by
 cases b with
 | true=>exact ej h1 h2 h3 q
 | false=>exact wpAny_nextOf_list_item h1 h2 h3 q
theorem iH {b:Bool} {it t:Addr} {i:Nat} {xs:Array Value} {Q:Value->Shared->Prop} (hh:A.handled=none) (h1:IterX b s.heap it t i) (h2:SeqX b s.heap t xs) (h3:xs[i]? = none)
  (q:∀ h' e,Heap.ExtBut it s.heap h'->(∃ o,h'.get? e=some o /\ o.cls = .type "StopIteration")->E (.ref e) { s with heap:=h' }):wpAny (model prog w) A (Builtin.SmallTypes.nextOf (.ref it)) Q E s:=by
 cases b with
 | true=>exact cZ hh h1 h2 h3 q
 | false=>exact wpAny_nextOf_list_end hh h1 h2 h3 q
end
end L2
namespace L2
open PySem PySem.Spec PyProof.Rows
section
variable {tk:Addr->Bool}
def wZ (tk:Addr->Bool) (h:Heap) (n:Nat) (src:List (Addr×Array Value)) (k c:Nat):Prop:=∀ (j:Nat) (p:Addr×Array Value),src[j]? = some p->IterX (tk p.1) h (n + j) p.1 (if j < c then k + 1 else k)
def xa (tk:Addr->Bool) (h:Heap) (n:Nat) (src:List (Addr×Array Value)):Prop:=∀ (j:Nat) (p:Addr×Array Value),src[j]? = some p->p.1 < n /\ SeqX (tk p.1) h p.1 p.2
structure ZipStM (tk:Addr->Bool) (h:Heap) (n:Nat) (src:List (Addr×Array Value)) (k:Nat):Prop where
 zip:∃ f0 f1,OwnF f0 /\ cT h (n + src.length + 2) (n + src.length) (n + src.length + 1) f0 f1
 ti:cq h (n + src.length) (itsL n src.length).toArray
 to:∃ ws:Array Value,ws.size=src.length /\ cq h (n + src.length + 1) ws
 its:wZ tk h n src k 0
 ls:xa tk h n src
 ne:src≠[]
structure ZipLpM (tk:Addr->Bool) (h0:Heap) (n:Nat) (src:List (Addr×Array Value)) (k c:Nat) (h:Heap):Prop where
 ti:cq h (n + src.length) (itsL n src.length).toArray
 its:wZ tk h n src k c
 ls:xa tk h n src
 kept:KeptZ n src.length h0 h
 sz:h.objs.size=h0.objs.size
section
variable {h0 h h':Heap} {n k c:Nat} {src:List (Addr×Array Value)}
theorem ZipLpM.same {a:Nat} (L:ZipLpM tk h0 n src k c h) (hs:Heap.SameBut a h h') (ha:a=n + src.length + 1∨a=n + src.length + 2):ZipLpM tk h0 n src k c h' where
 ti:=hs.extBut _ _ (by intro e; have e:(_:Nat)=(_:Nat):=e; omega) L.ti
 its:=fun j p hj=>(L.its j p hj).extBut hs.extBut (by have:=fL hj; intro e; have e:(_:Nat)=(_:Nat):=e; omega)
 ls:=fun j p hj=>⟨(L.ls j p hj).1,(L.ls j p hj).2.extBut hs.extBut (Nat.ne_of_lt (Nat.lt_of_lt_of_le (L.ls j p hj).1 (show n <= a by omega)))⟩
 kept:=fun b o hb e=>hs.extBut _ _ (by intro e; have e:(_:Nat)=(_:Nat):=e; omega) (L.kept b o hb e)
 sz:=hs.1.trans L.sz
theorem ZipLpM.next {p:Addr×Array Value} (L:ZipLpM tk h0 n src k c h) (hc:src[c]? = some p) (hit:IterX (tk p.1) h' (n + c) p.1 (k + 1)) (hs:Heap.SameBut (n + c) h h'):ZipLpM tk h0 n src k (c + 1) h':=by
 have lt:=fL hc
 refine ⟨hs.extBut _ _ (by intro e; have e:(_:Nat)=(_:Nat):=e; omega) L.ti,fun j q hj=>?_,fun j q hj=>⟨(L.ls j q hj).1,(L.ls j q hj).2.extBut hs.extBut (Nat.ne_of_lt (Nat.lt_of_lt_of_le (L.ls j q hj).1 (Nat.le_add_right n c)))⟩,fun b o hb e=>hs.extBut _ _ (by intro e; have e:(_:Nat)=(_:Nat):=e; omega) (L.kept b o hb e),hs.1.trans L.sz⟩
 by_cases z:j=c
 ·subst z
  rw [hc] at hj
  cases hj
  rw [if_pos (by omega)]
  exact hit
 ·have:=(L.its j q hj).extBut hs.extBut (by intro e; have e:(_:Nat)=(_:Nat):=e; omega)
  by_cases y:j < c
  ·rw [if_pos y] at this
   rw [if_pos (by omega)]
   exact this
  ·rw [if_neg y] at this
   rw [if_neg (by omega)]
   exact this
theorem KeptZ.stepM {a:Nat} (L:ZipLpM tk h0 n src k c h) (hs:Heap.ExtBut a h h') (ha:(n <= a /\ a < n + src.length)∨a=n + src.length + 1∨a=n + src.length + 2):KeptZ n src.length h0 h' :=
 fun b o hb e=>hs _ _ (by intro e; have e:(_:Nat)=(_:Nat):=e; omega) (L.kept b o hb e)
end
section
variable {prog:Program} {w:World} {A:Around} {E:Value->Shared->Prop} {s:Shared}
set_option maxHeartbeats 1000000 in
theorem uq {n k:Nat} {src:List (Addr×Array Value)} {Q:Value->Shared->Prop} (hh:A.handled=none) (hsz:src.length <= sizeLine) (hs:ZipStM tk s.heap n src k)
  (hQ:∀ vs h',Told src k src.length vs->ZipStM tk h' n src (k + 1)->cq h' s.heap.objs.size vs.toArray->h'.objs.size=s.heap.objs.size + 1->KeptZ n src.length s.heap h'->Q (.ref s.heap.objs.size) { s with heap:=h' })
  (hE:(∃ (j:Nat) (p:Addr×Array Value),src[j]? = some p /\ p.2[k]? = none)->∀ h' e,KeptZ n src.length s.heap h'->(∃ o,h'.get? e=some o /\ o.cls = .type "StopIteration")->E (.ref e) { s with heap:=h' }) :
  wpAny (model prog w) A (Builtin.«zip.__next__» ⟨[.ref (n + src.length + 2)],[]⟩) (fun fin s'=>∃ v,fin = .done (.ret v) /\ Q v s') E s:=by
 obtain ⟨⟨f0,f1,hf,hz⟩,hTI,⟨ws,hws,hTO⟩,hit,hls,hne⟩:=hs
 show wpAny _ _ (field (.ref (n + src.length + 2)) 2 >>= _) _ _ _
 refine wpAny_bind (wpAny_field hz rfl (x:=.bool false) rfl ?_)
 show wpAny _ _ (field (.ref (n + src.length + 2)) 3 >>= _) _ _ _
 refine wpAny_bind (wpAny_field hz rfl (x:=.ref (n + src.length)) rfl ?_)
 refine wpAny_bind (wpAny_seqItems hTI rfl ?_)
 have hem:((itsL n src.length).toArray.isEmpty)=false:=by
  cases src with
  | nil=>exact absurd rfl hne
  | cons a l=>simp [itsL]
 simp only [hem,Bool.false_eq_true,if_false]
 refine wpAny_bind (vQ hf hz ?_ fun h1 f1' hz1 hs1=>?_)
 ·simp only [if_true]
  refine wpAny_bind (wpAny_rule ?_)
  refine wpAny_bind (wpAny_field hz rfl (x:=.ref (n + src.length + 1)) rfl ?_)
  refine wpAny_bind (wpAny_setField_rec hz (by simp) fun h₁ hz₁ hs₁=>?_)
  replace hz₁:cT h₁ (n + src.length + 2) (n + src.length) (n + src.length + 1) .ellipsis f1:=hz₁
  have L0:ZipLpM tk s.heap n src k 0 s.heap:=⟨hTI,hit,hls,fun _ _ _ e=>e,rfl⟩
  have L1:=L0.same hs₁ (.inr rfl)
  have hTO₁:cq h₁ (n + src.length + 1) ws:=hs₁.extBut _ _ (by intro e; have e:(_:Nat)=(_:Nat):=e; omega) hTO
  refine wpAny_bind (wpAny_forIn_list _ (fun rest b s'=>∃ c h ws vs,rest=((itsL n src.length).toArray.toList.zipIdx).drop c /\ c <= src.length /\ b=(none,()) /\ s'={ s with heap:=h } /\ cT h (n + src.length + 2) (n + src.length) (n + src.length + 1) .ellipsis f1 /\ ZipLpM tk s.heap n src k c h /\ Told src k c vs /\ ws.size=src.length /\ cq h (n + src.length + 1) ws /\ ∀ j,j < c->ws[j]? = vs[j]?) _ ?turn ?fin _ _ ⟨0,h₁,ws,[],rfl,Nat.zero_le _,rfl,rfl,hz₁,L1,⟨rfl,fun j p hj=>absurd hj (Nat.not_lt_zero _)⟩,hws,hTO₁,fun j hj=>absurd hj (Nat.not_lt_zero _)⟩)
  case turn =>
   rintro x rest b s' ⟨c,h,ws,vs,hr,hc,rfl,rfl,hz,L,ht,hws,hTO,hw⟩
   obtain ⟨hx,hr2⟩:=tS hr.symm
   have hc:c < src.length:=by
    have:=fL hx
    simpa using this
   rw [List.toList_toArray,List.getElem?_zipIdx,tT hc] at hx
   simp only [Option.map_some,Nat.zero_add,Option.some.injEq] at hx
   subst hx
   have hp:src[c]? = some src[c]:=by simp [hc]
   have hi:=L.its c _ hp
   rw [if_neg (Nat.lt_irrefl _)] at hi
   have hl:=(L.ls c _ hp).2
   refine wpAny_bind (wpAny_onRaise ?_)
   show wpAny _ _ (Builtin.SmallTypes.nextOf (.ref (n + c)) >>= _) _ _ _
   cases ev:(src[c]).2[k]? with
   | none =>
    refine wpAny_bind (iH hh hi hl ev fun h₂ e hs₂ he=>?_)
    obtain ⟨oe,hoe,hce⟩:=he
    have hz₂:cT h₂ (n + src.length + 2) (n + src.length) (n + src.length + 1) .ellipsis f1:=hs₂ _ _ (by intro e; have e:(_:Nat)=(_:Nat):=e; omega) hz
    have hez:e≠n + src.length + 2:=fun x=>by subst x; rw [hz₂] at hoe; cases hoe; simp at hce
    refine wpAny_setField_rec hz₂ (by simp) fun h₃ _ hs₃=>hE ⟨c,_,hp,ev⟩ h₃ e (fun b o hb x=>hs₃.extBut _ _ (by intro e; have e:(_:Nat)=(_:Nat):=e; omega) (KeptZ.stepM L hs₂ (.inl ⟨Nat.le_add_right _ _,by omega⟩) b o hb x)) ⟨oe,hs₃.extBut _ _ hez hoe,hce⟩
   | some v =>
    refine wpAny_bind (gC hi hl ev fun h₂ hi₂ hs₂=>wpAny_pure ?_)
    have hTO₂:cq h₂ (n + src.length + 1) ws:=hs₂.extBut _ _ (by intro e; have e:(_:Nat)=(_:Nat):=e; omega) hTO
    have hz₂:cT h₂ (n + src.length + 2) (n + src.length) (n + src.length + 1) .ellipsis f1:=hs₂.extBut _ _ (by intro e; have e:(_:Nat)=(_:Nat):=e; omega) hz
    refine wpAny_bind (wpAny_seqItems hTO₂ rfl ?_)
    refine wpAny_bind (fM hTO₂ (by omega) fun h₃ hTO₃ hs₃=>?_)
    refine wpAny_bind (wpAny_letGo (wpAny_pure ?_))
    refine ⟨c + 1,h₃,_,vs++[v],hr2.symm,hc,rfl,rfl,hs₃.extBut _ _ (by intro e; have e:(_:Nat)=(_:Nat):=e; omega) hz₂,(L.next hp hi₂ hs₂).same hs₃ (.inl rfl),ht.push hp ev,by simp [hws],hTO₃,fun j hj=>?_⟩
    rw [Array.getElem?_setIfInBounds]
    by_cases z:c=j
    ·subst z
     rw [if_pos rfl,if_pos (by omega),List.getElem?_append_right (by rw [ht.1]; exact Nat.le_refl _),ht.1]
     simp
    ·rw [if_neg z,hw j (by omega),List.getElem?_append_left (by rw [ht.1]; omega)]
  case fin =>
   rintro b s' ⟨c,h,ws,vs,hr,hc,rfl,rfl,hz,L,ht,hws,hTO,hw⟩
   have hc:c=src.length:=by
    have:=congrArg List.length hr
    simp at this
    omega
   subst hc
   refine wpAny_bind (wpAny_seqItems hTO rfl ?_)
   have ews:ws=vs.toArray:=by
    have:ws.toList=vs:=List.ext_getElem? fun j=>by
     rw [Array.getElem?_toList]
     by_cases z:j < src.length
     ·exact hw j z
     ·rw [Array.getElem?_eq_none (by omega),List.getElem?_eq_none (by rw [ht.1]; omega)]
    rw [← this]
   subst ews
   refine wpAny_bind (wpAny_newTuple ?_ (by simp [ht.1]; exact hsz))
   show wpAny _ _ (Builtin.SmallTypes.ownedTupleHandOut (.ref (n + src.length + 2)) (.ref h.objs.size) >>= _) _ _ _
   refine wpAny_bind ?_
   unfold Builtin.SmallTypes.ownedTupleHandOut
   have hzlt:n + src.length + 2 < h.objs.size:=Heap.lt_size hz
   have hz₆:cT (h.push { cls:=.type "tuple",data:=.seq vs.toArray.toList.toArray }) (n + src.length + 2) (n + src.length) (n + src.length + 1) .ellipsis f1:=Heap.get?_push_of_some _ hz
   refine wpAny_bind (wpAny_setField_rec hz₆ (by simp) fun h₇ hz₇ hs₇=>?_)
   replace hz₇:cT h₇ (n + src.length + 2) (n + src.length) (n + src.length + 1) (rawInt h.objs.size) f1:=hz₇
   refine wpAny_setField_rec hz₇ (by simp) fun h₈ hz₈ hs₈=>?_
   replace hz₈:cT h₈ (n + src.length + 2) (n + src.length) (n + src.length + 1) (rawInt h.objs.size) (.bool false):=hz₈
   have up:∀ c o,c≠n + src.length + 2->h.get? c=some o->h₈.get? c=some o:=fun c o c1 e=>hs₈.extBut _ _ c1 (hs₇.extBut _ _ c1 (Heap.get?_push_of_some _ e))
   have hT₈:cq h₈ h.objs.size vs.toArray:=hs₈.extBut _ _ (Nat.ne_of_gt hzlt) (hs₇.extBut _ _ (Nat.ne_of_gt hzlt) (Heap.get?_push_size _ rfl))
   have hz8:h₈.objs.size=h.objs.size + 1:=by rw [hs₈.1,hs₇.1,Heap.size_push]
   have esz:=L.sz
   rw [esz] at hT₈ hz8
   refine wpAny_pure ⟨_,rfl,?_⟩
   show Q (.ref h.objs.size) _
   rw [esz]
   refine hQ vs h₈ ht ⟨⟨_,_,.inr ⟨_,rfl⟩,hz₈⟩,up _ _ (by intro e; have e:(_:Nat)=(_:Nat):=e; omega) L.ti,⟨_,hws,up _ _ (by intro e; have e:(_:Nat)=(_:Nat):=e; omega) hTO⟩,fun j p hj=>?_,fun j p hj=>⟨(L.ls j p hj).1,(L.ls j p hj).2.at fun o e=>up _ o (Nat.ne_of_lt (Nat.lt_of_lt_of_le (L.ls j p hj).1 (show n <= n + src.length + 2 by omega))) e⟩,hne⟩ hT₈ hz8 fun b o hb e=>up b o (by intro e; have e:(_:Nat)=(_:Nat):=e; omega) (L.kept b o hb e)
   have:=fL hj
   have h1:=(L.its j p hj).at fun o e=>up _ o (by intro e; have e:(_:Nat)=(_:Nat):=e; omega) e
   rw [if_pos this] at h1
   rw [if_neg (Nat.not_lt_zero _)]
   exact h1
 ·simp only [Bool.false_eq_true,if_false]
  have L0:ZipLpM tk s.heap n src k 0 s.heap:=⟨hTI,hit,hls,fun _ _ _ e=>e,rfl⟩
  have L1:=L0.same hs1 (.inr rfl)
  have hTO₁:cq h1 (n + src.length + 1) ws:=hs1.extBut _ _ (by intro e; have e:(_:Nat)=(_:Nat):=e; omega) hTO
  refine wpAny_bind (wpAny_forIn_array' _ (fun rest b s'=>∃ c h vs,rest=((itsL n src.length).toArray.toList).drop c /\ c <= src.length /\ b=(none,vs.toArray) /\ s'={ s with heap:=h } /\ cT h (n + src.length + 2) (n + src.length) (n + src.length + 1) f0 f1' /\ ZipLpM tk s.heap n src k c h /\ Told src k c vs /\ cq h (n + src.length + 1) ws) _ ?turn2 ?fin2 _ _ ⟨0,h1,[],rfl,Nat.zero_le _,rfl,rfl,hz1,L1,⟨rfl,fun j p hj=>absurd hj (Nat.not_lt_zero _)⟩,hTO₁⟩)
  case turn2 =>
   rintro x rest b s' ⟨c,h,vs,hr,hc,rfl,rfl,hz,L,ht,hTO⟩
   obtain ⟨hx,hr2⟩:=tS hr.symm
   have hc:c < src.length:=by
    have:=fL hx
    simpa using this
   rw [List.toList_toArray,tT hc] at hx
   cases hx
   have hp:src[c]? = some src[c]:=by simp [hc]
   have hi:=L.its c _ hp
   rw [if_neg (Nat.lt_irrefl _)] at hi
   have hl:=(L.ls c _ hp).2
   refine wpAny_bind (wpAny_holding ?_)
   show wpAny _ _ (Builtin.SmallTypes.nextOf (.ref (n + c)) >>= _) _ _ _
   cases ev:(src[c]).2[k]? with
   | none =>
    refine wpAny_bind (iH hh hi hl ev fun h₂ e hs₂ he=>?_)
    exact hE ⟨c,_,hp,ev⟩ h₂ e (KeptZ.stepM L hs₂ (.inl ⟨Nat.le_add_right _ _,by omega⟩)) he
   | some v =>
    refine wpAny_bind (gC hi hl ev fun h₂ hi₂ hs₂=>wpAny_pure ?_)
    refine wpAny_pure ⟨c + 1,h₂,vs++[v],hr2.symm,hc,by simp,rfl,hs₂.extBut _ _ (by intro e; have e:(_:Nat)=(_:Nat):=e; omega) hz,L.next hp hi₂ hs₂,ht.push hp ev,hs₂.extBut _ _ (by intro e; have e:(_:Nat)=(_:Nat):=e; omega) hTO⟩
  case fin2 =>
   rintro b s' ⟨c,h,vs,hr,hc,rfl,rfl,hz,L,ht,hTO⟩
   have hc:c=src.length:=by
    have:=congrArg List.length hr
    simp at this
    omega
   subst hc
   refine wpAny_bind (wpAny_newTuple ?_ (by simp [ht.1]; exact hsz))
   have hT₈:cq (h.push { cls:=.type "tuple",data:=.seq vs.toArray.toList.toArray }) h.objs.size vs.toArray:=Heap.get?_push_size _ rfl
   have up:∀ c o,h.get? c=some o->(h.push { cls:=.type "tuple",data:=.seq vs.toArray.toList.toArray }).get? c=some o:=fun c o e=>Heap.get?_push_of_some _ e
   have hz8:(h.push { cls:=.type "tuple",data:=.seq vs.toArray.toList.toArray }).objs.size=h.objs.size + 1:=Heap.size_push ..
   have esz:=L.sz
   rw [esz] at hT₈ hz8
   refine wpAny_pure ⟨_,rfl,?_⟩
   show Q (.ref h.objs.size) _
   rw [esz]
   refine hQ vs _ ht ⟨⟨_,_,hf,up _ _ hz⟩,up _ _ L.ti,⟨_,hws,up _ _ hTO⟩,fun j p hj=>?_,fun j p hj=>⟨(L.ls j p hj).1,(L.ls j p hj).2.at fun o e=>up _ o e⟩,hne⟩ hT₈ hz8 fun b o hb e=>up b o (L.kept b o hb e)
   have:=fL hj
   have h1:=(L.its j p hj).at fun o e=>up _ o e
   rw [if_pos this] at h1
   rw [if_neg (Nat.not_lt_zero _)]
   exact h1
end
theorem dt {prog:Program} {w:World} {A:Around} {E:Value->Shared->Prop} {s:Shared} {n k:Nat} {src:List (Addr×Array Value)} {Q:Option Value->Shared->Prop} (hh:A.handled=none) (hsz:src.length <= sizeLine) (hs:ZipStM tk s.heap n src k)
  (hQ:∀ vs h',Told src k src.length vs->ZipStM tk h' n src (k + 1)->cq h' s.heap.objs.size vs.toArray->h'.objs.size=s.heap.objs.size + 1->KeptZ n src.length s.heap h'->Q (some (.ref s.heap.objs.size)) { s with heap:=h' })
  (hE:(∃ (j:Nat) (p:Addr×Array Value),src[j]? = some p /\ p.2[k]? = none)->∀ h',KeptZ n src.length s.heap h'->Q none { s with heap:=h' }) :
  wpAny (model prog w) A (pyNext (.ref (n + src.length + 2))) Q E s:=by
 obtain ⟨f0,f1,_,hz⟩:=hs.zip
 have hT:s.TypeIs (.ref (n + src.length + 2)) "zip":=⟨_,hz,rfl⟩
 unfold pyNext
 refine wpAny_bind (wpAny_attempt (wpAny_callSpecial?_slot (name:=Str.ofString "__next__") hT F.slot_zip_next
  (wpAny_call_entry F.slot_zip_next hT F.entry_zip_next (uq hh hsz hs (fun vs h' a1 a2 a3 a4 a5=>wpAny_pure (hQ vs h' a1 a2 a3 a4 a5)) fun a h' e hk he=>?_) (F.args_zip_next_1 _))))
 obtain ⟨o,ho,hc⟩:=he
 refine wpAny_bind (wpAny_isInstance (T:="StopIteration") (b:=true) ⟨o,ho,hc⟩ isSubtype_stop ?_)
 exact wpAny_pure (hE a _ hk)
def wb (tk:Addr->Bool) (s:Shared) (src:List (Addr×Array Value)) (Q:Value->Shared->Prop):Prop :=
 ∀ h',ZipStM tk h' s.heap.objs.size src 0->h'.objs.size=s.heap.objs.size + src.length + 3->(∀ c o,s.heap.get? c=some o->h'.get? c=some o)->Q (.ref (s.heap.objs.size + src.length + 2)) { s with heap:=h' }
def SqX (tk:Addr->Bool) (K:PySem.W.Frag) (H:Hp) (a:Addr) (xs:List V):Prop:=if tk a=true then SqT K H a xs else SqL K H a xs
theorem SqX.inj {X:Cx} {pins:List (Addr×Obj)} {σ:St} {H:Hp} {s:Shared} (I:Inv X pins σ H s) {a:Addr} {xs ys:List V} (h1:SqX tk X.K H a xs) (h2:SqX tk X.K H a ys):xs=ys:=by
 unfold SqX at h1 h2
 cases e:tk a with
 | true=>rw [if_pos e] at h1 h2; exact I.tuple_inj h1 h2
 | false=>rw [if_neg (by rw [e]; intro z; cases z)] at h1 h2; exact I.list_inj h1 h2
theorem SqX.at {X:Cx} {pins:List (Addr×Obj)} {σ:St} {H:Hp} {s:Shared} (I:Inv X pins σ H s) {a:Addr} {xs:List V} (h:SqX tk X.K H a xs):∃ its:List Value,Vals xs its /\ SeqX (tk a) s.heap a its.toArray /\ xs.length <= sizeLine:=by
 unfold SqX at h
 cases e:tk a with
 | true =>
  rw [if_pos e] at h
  obtain ⟨its,rv,p,hz⟩:=I.tuple h
  exact ⟨its,rv,p,hz⟩
 | false =>
  rw [if_neg (by rw [e]; intro z; cases z)] at h
  obtain ⟨its,rv,p,hz⟩:=I.list h
  exact ⟨its,rv,p.isList,hz⟩
theorem lX {X:Cx} {K:PySem.W.Frag} {pins:List (Addr×Obj)} {σ:St} {H:Hp} {s:Shared} (hK:X.K=K) (I:Inv X pins σ H s):∀ {as:List Addr} {xss:List (List V)},as.length=xss.length->(∀ (j:Nat) a xs,as[j]? = some a->xss[j]? = some xs->SqX tk K H a xs) ->
  ∃ src:List (Addr×Array Value),src.map (·.1)=as /\ SrcV xss src /\ (∀ p∈src,SeqX (tk p.1) s.heap p.1 p.2) /\ ∀ xs∈xss,xs.length <= sizeLine
 | [],xss,hl,_=>by
  have h0:xss=[]:=List.length_eq_zero_iff.mp (by rw [← hl]; rfl)
  subst h0
  exact ⟨[],rfl,⟨rfl,fun j xs p h=>by simp at h⟩,fun p hp=>by simp at hp,fun xs hx=>by simp at hx⟩
 | a::as,[],hl,_=>absurd hl (by simp)
 | a::as,xs::xss,hl,h=>by
  subst hK
  obtain ⟨src,h1,h2,h3,h4⟩:=lX rfl I (as:=as) (xss:=xss) (by simpa using hl) fun j a xs ha hx=>h (j + 1) a xs (by simpa using ha) (by simpa using hx)
  obtain ⟨its,rv,pl,hz⟩:=(h 0 a xs rfl rfl).at I
  refine ⟨(a,its.toArray)::src,by simp [h1],⟨by simp [h2.1],fun j ys p hy hp=>?_⟩,fun p hp=>?_,fun ys hy=>?_⟩
  ·cases j with
   | zero=>simp at hy hp; subst hy hp; simpa using rv
   | succ j=>exact h2.2 j ys p (by simpa using hy) (by simpa using hp)
  ·rcases List.mem_cons.mp hp with rfl | hp
   ·exact pl
   ·exact h3 p hp
  ·rcases List.mem_cons.mp hy with rfl | hy
   ·exact hz
   ·exact h4 ys hy
abbrev itO (t:Bool) (l:Addr):Obj:={ cls:=.type (match t with | true=>"tuple_iterator" | false=>"list_iterator"),data:=.fields #[.ref l,.int 0 0] }
abbrev m2H (t u:Bool) (h:Heap) (l1 l2:Addr):Heap:=(h.push (itO t l1)).push (itO u l2)
abbrev m2T (t u:Bool) (h:Heap) (l1 l2:Addr):Heap:=(m2H t u h l1 l2).push (tuO [.ref h.objs.size,.ref (h.push (itO t l1)).objs.size])
abbrev m2U (t u:Bool) (h:Heap) (l1 l2:Addr):Heap:=(m2T t u h l1 l2).push (tuO [.none,.none])
abbrev m2Z (t u:Bool) (h:Heap) (l1 l2:Addr):Heap:=(m2U t u h l1 l2).push (ziO (m2H t u h l1 l2).objs.size (m2T t u h l1 l2).objs.size)
theorem SeqX.push {t:Bool} {h:Heap} {a:Addr} {xs:Array Value} (x:SeqX t h a xs) (o:Obj):SeqX t (h.push o) a xs:=x.at fun o e=>Heap.get?_push_of_some _ e
theorem xb {prog:Program} {w:World} {A:Around} {E:Value->Shared->Prop} {s:Shared} {t:Bool} {l:Addr} {xs:Array Value} {Q:Value->Shared->Prop} (h:SeqX t s.heap l xs) (q:Q (.ref s.heap.objs.size) { s with heap:=s.heap.push (itO t l) }):wpAny (model prog w) A (pyIter (.ref l)) Q E s:=by
 cases t with
 | true=>exact wpAny_pyIter_tuple h q
 | false=>exact wpAny_pyIter_list h q
set_option maxHeartbeats 0 in
theorem kC (t u:Bool) (l1 l2:Addr) (xs ys:Array Value) :
  Meets (Builtin.«zip.__new__» ⟨[.type "zip",.ref l1,.ref l2],[]⟩) (fun _ R s=>SeqX t s.heap l1 xs /\ SeqX u s.heap l2 ys /\
   R (.ok (.ret (.ref (m2U t u s.heap l1 l2).objs.size))) { s with heap:=m2Z t u s.heap l1 l2 }) :=
 .of_wp fun prog w A R s h=>by
  obtain ⟨hp,g,d,tok,os⟩:=s; obtain ⟨hl1,hl2,h⟩:=h
  have hsub:=sub_zip
  have hL1:SeqX t (Shared.heap ⟨hp,g,d,tok,os⟩) l1 xs:=hl1
  have hL2:SeqX u (Shared.heap ⟨hp.push (itO t l1),g,d,tok,os⟩) l2 ys:=hl2.push _
  wp_walk using xb hL1,xb hL2
  exact ⟨_,rfl,h⟩
section
variable {prog:Program} {w:World} {A:Around} {E:Value->Shared->Prop} {s:Shared}
theorem IterX.new {t:Bool} {h:Heap} {i a:Addr} (e:h.get? i=some (itO t a)):IterX t h i a 0:=by
 cases t with
 | true=>exact ⟨_,e,rfl,rfl⟩
 | false=>exact ⟨_,e,rfl,rfl⟩
theorem ur {p1 p2:Addr×Array Value} {Q:Value->Shared->Prop} (h1:SeqX (tk p1.1) s.heap p1.1 p1.2) (h2:SeqX (tk p2.1) s.heap p2.1 p2.2) (h:wb tk s [p1,p2] Q) :
  wpAny (model prog w) A (call (.type "zip") [.ref p1.1,.ref p2.1]) Q E s:=by
 refine callType_new F.called_zip (by decide) (F.typeCall_zip_2 _ _) (F.newCall_zip_2 _ _) (fun obj=>F.args_object_init_3 obj _ _) F.entry_zip_new (kC (tk p1.1) (tk p2.1) p1.1 p2.1 p1.2 p2.2) ⟨h1,h2,?_⟩
 have z1:(s.heap.push (itO (tk p1.1) p1.1)).objs.size=s.heap.objs.size + 1:=Heap.size_push ..
 have z2:(m2H (tk p1.1) (tk p2.1) s.heap p1.1 p2.1).objs.size=s.heap.objs.size + 2:=by rw [Heap.size_push,z1]
 have z3:(m2T (tk p1.1) (tk p2.1) s.heap p1.1 p2.1).objs.size=s.heap.objs.size + 3:=by rw [Heap.size_push,z2]
 have z4:(m2U (tk p1.1) (tk p2.1) s.heap p1.1 p2.1).objs.size=s.heap.objs.size + 4:=by rw [Heap.size_push,z3]
 have z5:(m2Z (tk p1.1) (tk p2.1) s.heap p1.1 p2.1).objs.size=s.heap.objs.size + 5:=by rw [Heap.size_push,z4]
 have up:∀ c o,(m2H (tk p1.1) (tk p2.1) s.heap p1.1 p2.1).get? c=some o->(m2Z (tk p1.1) (tk p2.1) s.heap p1.1 p2.1).get? c=some o:=fun c o e=>Heap.get?_push_of_some _ (Heap.get?_push_of_some _ (Heap.get?_push_of_some _ e))
 have g5:(m2Z (tk p1.1) (tk p2.1) s.heap p1.1 p2.1).get? (m2U (tk p1.1) (tk p2.1) s.heap p1.1 p2.1).objs.size=some _:=Heap.get?_push_size _ rfl
 have g4:(m2Z (tk p1.1) (tk p2.1) s.heap p1.1 p2.1).get? (m2T (tk p1.1) (tk p2.1) s.heap p1.1 p2.1).objs.size=some _:=Heap.get?_push_of_some _ (Heap.get?_push_size _ rfl)
 have g3:(m2Z (tk p1.1) (tk p2.1) s.heap p1.1 p2.1).get? (m2H (tk p1.1) (tk p2.1) s.heap p1.1 p2.1).objs.size=some _:=Heap.get?_push_of_some _ (Heap.get?_push_of_some _ (Heap.get?_push_size _ rfl))
 have g2:(m2Z (tk p1.1) (tk p2.1) s.heap p1.1 p2.1).get? (s.heap.push (itO (tk p1.1) p1.1)).objs.size=some (itO (tk p2.1) p2.1):=up _ _ (Heap.get?_push_size _ rfl)
 have g1:(m2Z (tk p1.1) (tk p2.1) s.heap p1.1 p2.1).get? s.heap.objs.size=some (itO (tk p1.1) p1.1):=up _ _ (Heap.get?_push_of_some _ (Heap.get?_push_size _ rfl))
 have kp:∀ c o,s.heap.get? c=some o->(m2Z (tk p1.1) (tk p2.1) s.heap p1.1 p2.1).get? c=some o:=fun c o x=>up _ _ (Heap.get?_push_of_some _ (Heap.get?_push_of_some _ x))
 show _ /\ _
 rw [z2,z3,z4] at g5
 rw [z1,z2] at g3
 rw [z3] at g4
 rw [z1] at g2
 rw [z4]
 refine ⟨⟨_,g5,rfl⟩,h _ ⟨⟨_,_,.inl rfl,g5⟩,g3,⟨_,rfl,g4⟩,fun j p hj=>?_,fun j p hj=>?_,by simp⟩ z5 kp⟩
 ·rw [if_neg (Nat.not_lt_zero _)]
  rcases j with _ | _ | j
  ·simp at hj; subst hj; exact .new g1
  ·simp at hj; subst hj; exact .new g2
  ·simp at hj
 ·rcases j with _ | _ | j
  ·simp at hj; subst hj; exact ⟨h1.lt,h1.at fun o e=>kp _ o e⟩
  ·simp at hj; subst hj; exact ⟨h2.lt,h2.at fun o e=>kp _ o e⟩
  ·simp at hj
end
def ItzM (tk:Addr->Bool) (K:PySem.W.Frag) (as:List Addr):It :=
 ⟨fun i H=>∀ a∈as,∃ xs x,SqX tk K H a xs /\ xs[i]? = some x,
  fun i H v H'=>∃ T r,H T=none /\ v = .ref T /\ (r.length=as.length /\ ∀ (j:Nat) a xs,as[j]? = some a->SqX tk K H a xs->xs[i]? = r[j]?) /\ H'=upd H T (.tup r),
  fun i H=>(∀ a∈as,∃ xs,SqX tk K H a xs) /\ ∃ a∈as,∃ xs,SqX tk K H a xs /\ xs.length <= i⟩
structure ZipTnM (tk:Addr->Bool) (n:Nat) (as:List Addr) (k:Nat) (h:Heap):Prop where
 zip:∃ f0 f1,OwnF f0 /\ cT h (n + as.length + 2) (n + as.length) (n + as.length + 1) f0 f1
 ti:cq h (n + as.length) (itsL n as.length).toArray
 to:∃ ws:Array Value,ws.size=as.length /\ cq h (n + as.length + 1) ws
 its:∀ (j:Nat) (a:Addr),as[j]? = some a->IterX (tk a) h (n + j) a k
theorem pG {K:PySem.W.Frag} {H:Hp}:∀ {as:List Addr},(∀ a∈as,∃ xs,SqX tk K H a xs)->∃ xss:List (List V),as.length=xss.length /\ ∀ (j:Nat) a xs,as[j]? = some a->xss[j]? = some xs->SqX tk K H a xs
 | [],_=>⟨[],rfl,fun j a xs h=>by simp at h⟩
 | a::as,h=>by
  obtain ⟨xs,hx⟩:=h a List.mem_cons_self
  obtain ⟨xss,h1,h2⟩:=pG fun b hb=>h b (List.mem_cons_of_mem _ hb)
  refine ⟨xs::xss,by simp [h1],fun j b ys hb hy=>?_⟩
  cases j with
  | zero=>simp at hb hy; subst hb hy; exact hx
  | succ j=>exact h2 j b ys (by simpa using hb) (by simpa using hy)
theorem ZipTnM.st {n k:Nat} {as:List Addr} {h:Heap} {src:List (Addr×Array Value)} (t:ZipTnM tk n as k h) (hs:src.map (·.1)=as) (hl:∀ p∈src,SeqX (tk p.1) h p.1 p.2) (hlt:∀ a∈as,a < n) (hne:as≠[]):ZipStM tk h n src k:=by
 have hlen:src.length=as.length:=by rw [← hs,List.length_map]
 obtain ⟨z,ti,to,its⟩:=t
 have at_:∀ (j:Nat) (p:Addr×Array Value),src[j]? = some p->as[j]? = some p.1:=fun j p hp=>by rw [← hs,List.getElem?_map,hp]; rfl
 refine ⟨by rw [hlen]; exact z,by rw [hlen]; exact ti,by rw [hlen]; exact to,fun j p hp=>?_,fun j p hp=>⟨hlt p.1 (List.mem_of_getElem? (at_ j p hp)),hl p (List.mem_of_getElem? hp)⟩,fun e=>hne (by rw [← hs,e]; rfl)⟩
 rw [if_neg (Nat.not_lt_zero _)]
 exact its j p.1 (at_ j p hp)
theorem ZipStM.tn {n k:Nat} {as:List Addr} {h:Heap} {src:List (Addr×Array Value)} (z:ZipStM tk h n src k) (hs:src.map (·.1)=as):ZipTnM tk n as k h:=by
 have hlen:src.length=as.length:=by rw [← hs,List.length_map]
 refine ⟨by rw [← hlen]; exact z.zip,by rw [← hlen]; exact z.ti,by rw [← hlen]; exact z.to,fun j a ha=>?_⟩
 have hj:j < src.length:=by rw [hlen]; exact fL ha
 have hp:src[j]? = some src[j]:=by simp [hj]
 have:=z.its j _ hp
 rw [if_neg (Nat.not_lt_zero _)] at this
 have e:(src[j]).1=a:=by
  have:as[j]? = some (src[j]).1:=by rw [← hs,List.getElem?_map,hp]; rfl
  rw [ha] at this
  exact (Option.some.inj this).symm
 rw [← e]
 exact this
theorem ut {P:Program} {w:World} {K:PySem.W.Frag} {elts:List Expr} {k:Nat} {tp:Pos} (n:Nat) (as:List Addr) (hlt:∀ a∈as,a < n) (h1:as≠[]) (hm4:as.length <= 4) :
  Turn P w K (.Tuple elts k tp) (ItzM tk K as) (fpZ n as.length) (n + as.length + 2) (fun i h=>ZipTnM tk n as i h) where
 mem:=fpZ_mem.mpr ⟨by omega,by omega⟩
 obj:=fun i h st c hc=>by
  obtain ⟨⟨f0,f1,_,hz⟩,hTI,⟨ws,_,hTO⟩,its⟩:=st
  rcases tX hc with rfl | rfl | rfl | ⟨lt,e⟩
  ·exact ⟨_,hz,fun v z=>by have z':Data.fields _=Data.cell v:=z; cases z'⟩
  ·exact ⟨_,hTI,fun v z=>by have z':Data.seq _ _=Data.cell v:=z; cases z'⟩
  ·exact ⟨_,hTO,fun v z=>by have z':Data.seq _ _=Data.cell v:=z; cases z'⟩
  ·obtain ⟨o,eo,d⟩:=(its (c - n) as[c - n] (by simp [lt])).cell
   rw [e] at eo
   exact ⟨o,eo,d⟩
 keep:=fun i h h' st kk=>by
  obtain ⟨⟨f0,f1,hf,hz⟩,hTI,⟨ws,hws,hTO⟩,its⟩:=st
  exact ⟨⟨f0,f1,hf,kk _ (fpZ_mem.mpr ⟨by omega,by omega⟩) _ hz⟩,kk _ (fpZ_mem.mpr ⟨by omega,by omega⟩) _ hTI,⟨ws,hws,kk _ (fpZ_mem.mpr ⟨by omega,by omega⟩) _ hTO⟩,fun j a ha=>(its j a ha).at fun o e=>kk _ (fpZ_mem.mpr ⟨by omega,by have:=fL ha; omega⟩) o e⟩
 item:=by
  intro X hP hw hK hc i pins s σ H E I hf st hg
  subst hP hw hK
  obtain ⟨xss,hl,hsq⟩:=pG (tk:=tk) (K:=X.K) (H:=H) (as:=as) fun a ha=>let ⟨xs,x,h,_⟩:=hg a ha; ⟨xs,h⟩
  obtain ⟨src,hsa,hv,hls,hb⟩:=lX (tk:=tk) rfl I hl hsq
  have hls4:src.length=as.length:=by rw [← hsa,List.length_map]
  have hst:=st.st hsa hls hlt h1
  have sz4:src.length <= sizeLine:=Nat.le_trans (show src.length <= 4 by omega) (by decide)
  rw [show n + as.length + 2=n + src.length + 2 by rw [hls4]]
  refine dt (I.ok.hd hc) sz4 hst (fun vs h' ht hz' hT' hs' hk=>?_) (fun he h' hk=>?_)
  ·obtain ⟨r,hr,rv⟩:=qv hv ht
   obtain ⟨f0,f1,hf0,hzz⟩:=hz'.zip
   refine ⟨_,rfl,yy hf0 hzz fun h4 f0' hf0' hz4 hs4=>?_⟩
   have hzl:n + src.length + 2 < s.heap.objs.size:=by
    obtain ⟨_,_,_,q⟩:=st.zip
    rw [hls4]
    exact Heap.lt_size q
   have hz4st:ZipTnM tk n as (i + 1) h4:=by
    have z0:=hz'.tn hsa
    obtain ⟨_,hTI,⟨ws,hws,hTO⟩,its⟩:=z0
    rw [hls4] at hz4 hs4
    refine ⟨⟨f0',f1,hf0',hz4⟩,hs4.extBut _ _ (by intro e; have e:(_:Nat)=(_:Nat):=e; omega) hTI,⟨ws,hws,hs4.extBut _ _ (by intro e; have e:(_:Nat)=(_:Nat):=e; omega) hTO⟩,fun j a ha=>(its j a ha).extBut hs4.extBut (by have:=fL ha; intro e; have e:(_:Nat)=(_:Nat):=e; omega)⟩
   have I2:Inv X pins σ (upd H s.heap.objs.size (.tup r)) { s with heap:=h4 }:=by
    refine I.turnedN (t':=s.toks) (ch:=fpZ n as.length) hf (fun b o hb q=>?_) (Nat.le_refl _) ⟨?_,vs,rv,?_⟩
    ·rw [← hls4] at hb
     exact hs4.extBut _ _ (Az hb) (hk b o (qw (pE hb)) q)
    ·exact ⟨by rw [hr.1,← hl]; exact Nat.le_trans hm4 (by decide),.inl ⟨_,hs4.extBut _ _ (by intro e; have e:(_:Nat)=(_:Nat):=e; omega) hT',rfl⟩⟩
    ·exact ⟨_,hs4.extBut _ _ (by intro e; have e:(_:Nat)=(_:Nat):=e; omega) hT',rfl,_,rfl⟩
   refine ⟨.ref s.heap.objs.size,_,I2,rfl,⟨s.heap.objs.size,r,I.hok.fresh (Nat.le_refl _),rfl,⟨by rw [hr.1,hl],fun j a xs ha hx=>?_⟩,rfl⟩,hz4st,fun b hb=>?_⟩
   ·have hj:j < xss.length:=by rw [← hl]; exact fL ha
    have hxs:xss[j]? = some xss[j]:=by simp [hj]
    have:=hsq j a xss[j] ha hxs
    rw [SqX.inj I hx this]
    exact hr.2 j _ hxs
   ·have:=fpZ_mem.mp hb
    rw [ah (by intro e; have e:(_:Nat)=(_:Nat):=e; omega)]
    exact (hf b hb).1
  ·exfalso
   obtain ⟨j,p,hj,hp⟩:=he
   have ha:as[j]? = some p.1:=by rw [← hsa,List.getElem?_map,hj]; rfl
   obtain ⟨xs,x,h,hx⟩:=hg p.1 (List.mem_of_getElem? ha)
   have hjx:j < xss.length:=by rw [← hl]; exact fL ha
   have hxs:xss[j]? = some xss[j]:=by simp [hjx]
   rw [SqX.inj I h (hsq j p.1 _ ha hxs)] at hx
   obtain ⟨u,hu,_⟩:=(hv.2 j _ p hxs hj).get hx
   rw [Array.getElem?_toList,hp] at hu
   cases hu
 done:=by
  intro X hP hw hK hc i pins s σ H E I hf st hg
  subst hP hw hK
  obtain ⟨hall,a0,ha0,xs0,hx0,hle⟩:=hg
  obtain ⟨xss,hl,hsq⟩:=pG (tk:=tk) (K:=X.K) (H:=H) (as:=as) hall
  obtain ⟨src,hsa,hv,hls,hb⟩:=lX (tk:=tk) rfl I hl hsq
  have hls4:src.length=as.length:=by rw [← hsa,List.length_map]
  have hst:=st.st hsa hls hlt h1
  have sz4:src.length <= sizeLine:=Nat.le_trans (show src.length <= 4 by omega) (by decide)
  rw [show n + as.length + 2=n + src.length + 2 by rw [hls4]]
  refine dt (I.ok.hd hc) sz4 hst (fun vs h' ht hz' hT' hs' hk=>?_) (fun he h' hk=>⟨rfl,?_⟩)
  ·exfalso
   obtain ⟨r,hr,rv⟩:=qv hv ht
   obtain ⟨j,hj⟩:=List.mem_iff_getElem?.mp ha0
   have hjx:j < xss.length:=by rw [← hl]; exact fL hj
   have hxs:xss[j]? = some xss[j]:=by simp [hjx]
   have e:=SqX.inj I hx0 (hsq j a0 _ hj hxs)
   have:=hr.2 j _ hxs
   rw [← e,List.getElem?_eq_none hle,List.getElem?_eq_getElem (by rw [hr.1]; exact hjx)] at this
   cases this
  ·refine I.turnedL (t':=s.toks) (ch:=fpZ n as.length) hf fun b o hb q=>hk b o ?_ q
   rw [← hls4] at hb
   exact qw (pE hb)
 self:=fun A i s Q E st h=>by
  obtain ⟨f0,f1,_,hz⟩:=st.zip
  have hT:s.TypeIs (.ref (n + as.length + 2)) "zip":=⟨_,hz,rfl⟩
  refine wpAny_pyIter_slot hT F.slot_zip_iter (wpAny_call_entry F.slot_zip_iter hT F.entry_zip_iter ?_ (F.args_zip_iter_1 _))
  show wpAny _ _ (ret (.ref (n + as.length + 2))) _ _ s
  exact wpAny_pure ⟨_,rfl,"zip",_,hT,F.slot_zip_next.lookup,h⟩
end
section
variable {X:Cx}
def Ci (K:PySem.W.Frag) (ta:TA):TI:=fun σ H R=>ta σ H fun vs H1=>∃ (tk:Addr->Bool) (a b:Addr),vs=[.ref a,.ref b] /\ (∃ xs,SqX tk K H1 a xs) /\ (∃ xs,SqX tk K H1 b xs) /\ R (ItzM tk K [a,b]) H1
theorem yJ {l l':Expr} {ta:TA} {p pos tp:Pos} {elts:List Expr} {k:Nat} (hg:Gl X "zip") (hm:X.mg "zip" = none) (ha:PA X [l,l'] ta) (he:starEach [l,l'] X.env=(false,eval l X.env)::starEach [l'] X.env:=by rfl) (hpl:(backTo pos (starEach [l'] X.env)).any (·.1)=false:=by rfl) :
  PI X (.Tuple elts k tp) (.Call (.Name "zip" p) [l,l'] [] pos) (Ci X.K ta):=by
 intro pins s σ H R I h
 refine Call_ (je I hg hm vO (PyProof.Rows.callWith_type1 (thn (ha pos pins s σ H _ I h) fun us s1 ⟨vs,H1,I1,r1,q1⟩=>?_) he hpl))
 obtain ⟨tk,a,b,e,⟨xs,hq⟩,⟨ys,hq'⟩,q⟩:=q1
 subst e
 obtain ⟨u,u',rfl,ru,ru'⟩:=r1.two
 cases ru
 cases ru'
 obtain ⟨its,rv,pl,hz⟩:=hq.at I1
 obtain ⟨its',rv',pl',hz'⟩:=hq'.at I1
 refine ur (tk:=tk) (p1:=(a,its.toArray)) (p2:=(b,its'.toArray)) pl pl' fun h' hz hz' hk=>?_
 have I2:Inv X pins σ H1 { s1 with heap:=h' }:=I1.kept (t':=s1.toks) hk
 have hlt:∀ c∈[a,b],c < s1.heap.objs.size:=fun c hc=>by
  simp only [List.mem_cons,List.not_mem_nil,or_false] at hc
  rcases hc with rfl | rfl
  ·exact pl.lt
  ·exact pl'.lt
 have tz:=ut (tk:=tk) (P:=X.prog) (w:=X.w) (K:=X.K) (elts:=elts) (k:=k) (tp:=tp) s1.heap.objs.size [a,b] hlt (by simp) (by simp)
 have tn:=hz.tn (as:=[a,b]) rfl
 exact tz.self X.A 0 _ _ _ tn ⟨_,_,_,ItzM tk X.K [a,b],H1,rfl,I2,tz,tn,fun b hb=>I1.fpOk (fpZ_mem.mp hb).1 (I1.hok.fresh (fpZ_mem.mp hb).1),q⟩
end
end L2
namespace DL
open PySem PySem.Spec PyProof.Rows L2
variable [TB]
variable [Frm]
def seqD:D->Option (List D)
 | .lst xs=>some xs
 | .tup xs=>some xs
 | _=>none
omit [Frm] in
theorem xc {K:PySem.W.Frag} {pp:Option Addr} {M:List Addr} {H:Hp} {d:D} {v:V} {ds:List D} (r:Rep K pp M H d v) (e:seqD d=some ds) :
  ∃ a xs,v = .ref a /\ Reps K pp M H ds xs /\ ∀ M2 H2,Mv K pp M H M2 H2->SqX (fun c=>L2.isTupO (H c)) K H2 a xs:=by
 cases d <;> simp only [seqD] at e <;> cases e
 all_goals simp only [Rep] at r
 ·obtain ⟨a,xs,rfl,ha,rd⟩:=r
  refine ⟨a,xs,rfl,rd,fun M2 H2 m2=>?_⟩
  unfold SqX
  rw [if_pos (show L2.isTupO (H a)=true by rw [ha]; rfl)]
  exact SqT.of (m2.tup a xs ha)
 ·obtain ⟨a,xs,rfl,hm,hp,ha,rd⟩:=r
  refine ⟨a,xs,rfl,rd,fun M2 H2 m2=>?_⟩
  unfold SqX
  rw [if_neg (show ¬ L2.isTupO (H a)=true by rw [ha]; intro z; cases z)]
  exact SqL.of (m2.lst a xs ha hm hp).1
section
variable {X:Cx}
abbrev AL (t:DA):DA:=fun ρ Q=>t ρ fun ds ρ'=>match ds with
 | [a,b]=>∃ xs ys,seqD a=some xs /\ seqD b=some ys /\ Q (zipD xs ys) ρ'
 | _=>False
theorem uu {l l':Expr} {tl:DA} {p pos tp:Pos} {elts:List Expr} {k:Nat} (hg:Gl X "zip") (hm:X.mg "zip" = none) (ha:PAD X [l,l'] tl) (he:starEach [l,l'] X.env=(false,eval l X.env)::starEach [l'] X.env:=by rfl) (hpl:(backTo pos (starEach [l'] X.env)).any (·.1)=false:=by rfl) :
  PID X (.Tuple elts k tp) (.Call (.Name "zip" p) [l,l'] [] pos) (AL tl):=by
 obtain ⟨T,pa,r⟩:=ha.run
 refine ⟨fun _ _ _ f h=>ha.mono _ _ _ (fun d _ h=>?_) h,_,yJ hg hm pa he hpl,fun {F} M H σ ρ R rs h=>r M H σ ρ _ rs (ha.mono _ _ _ (fun d ρ' h M' H' v m rs' rd=>?_) h)⟩
 ·split at h
  ·obtain ⟨xs,ys,a,b,h⟩:=h
   exact ⟨xs,ys,a,b,f _ _ h⟩
  ·exact h.elim
 ·split at h
  case h_2=>exact h.elim
  rename_i d1 d2
  obtain ⟨ds,ds',e1,e2,h⟩:=h
  simp only [Reps] at rd
  obtain ⟨x,r0,rfl,hx,x',r0',rfl,hx',rfl⟩:=rd
  obtain ⟨a,xs,rfl,rd,ka⟩:=xc hx e1
  obtain ⟨b,ys,rfl,rd',kb⟩:=xc hx' e2
  have L:=jG ds ds'
  refine ⟨fun c=>L2.isTupO (H' c),a,b,rfl,⟨xs,ka _ _ .refl⟩,⟨ys,kb _ _ .refl⟩,h M' H' _ m rs' ⟨fun M2 H2 m2 i d y H3 e yl=>?_,fun M2 H2 m2 i hi=>?_,fun M2 H2 m2 i hi=>?_⟩⟩
  ·obtain ⟨T,r,hT,rfl,⟨hr,hz⟩,rfl⟩:=yl
   obtain ⟨d1,d2,hd1,hd2,rfl⟩:=qr ds ds' i d e
   obtain ⟨v1,hv1,rv1⟩:=rd.get' hd1
   obtain ⟨v2,hv2,rv2⟩:=rd'.get' hd2
   have z1:=hz 0 a xs rfl (ka _ _ m2)
   have z2:=hz 1 b ys rfl (kb _ _ m2)
   rw [hv1] at z1
   rw [hv2] at z2
   have er:r=[v1,v2]:=by
    match r,hr,z1,z2 with
    | [p,q],_,z1,z2 =>
     cases z1
     cases z2
     rfl
   subst er
   refine ⟨.new hT,?_⟩
   simp only [Rep]
   exact ⟨T,_,rfl,ai,.cons ((rv1.mv m2).mv (.new hT)) (.one ((rv2.mv m2).mv (.new hT)))⟩
  ·rw [L,rd.length,rd'.length] at hi
   intro c hc
   simp only [List.mem_cons,List.not_mem_nil,or_false] at hc
   rcases hc with rfl | rfl
   ·exact ⟨xs,xs[i]'(by omega),ka _ _ m2,by simp⟩
   ·exact ⟨ys,ys[i]'(by omega),kb _ _ m2,by simp⟩
  ·rw [L,rd.length,rd'.length] at hi
   refine ⟨fun c hc=>?_,?_⟩
   ·simp only [List.mem_cons,List.not_mem_nil,or_false] at hc
    rcases hc with rfl | rfl
    ·exact ⟨xs,ka _ _ m2⟩
    ·exact ⟨ys,kb _ _ m2⟩
   ·rcases Nat.lt_or_ge ys.length xs.length with z | z
    ·exact ⟨b,by simp,ys,kb _ _ m2,by omega⟩
    ·exact ⟨a,by simp,xs,ka _ _ m2,by omega⟩
end
end DL
namespace DL
open PySem PySem.Spec L2
open PyProof.Rows hiding St
variable [TB]
section
variable [Frm] {X:Cx}
end
end DL
namespace L2
open PySem PySem.Spec PyProof.Rows
open AutoSeq1 (wpAny_loadPart')
section
variable {prog:Program} {w:World} {A:Around} {E:Value->Shared->Prop} {s:Shared}
end
section
variable {prog:Program} {w:World} {A:Around} {E:Value->Shared->Prop} {s:Shared}
end
section
variable {X:Cx}
end
end L2
namespace DL
open PySem PySem.Spec L2
open PyProof.Rows hiding St
variable [TB]
section
variable [Frm] {X:Cx}
end
end DL
namespace DL
open PySem PySem.Spec L2
open PyProof.Rows hiding St
variable [TB]
section
variable [Frm] {X:Cx}
theorem RSt.nilAt {K:PySem.W.Frag} {F:Fx} {M:List Addr} {H:Hp} {σ:St} {ρ:DS} (r:RSt K F M H σ ρ) (j:Nat):RSt K F M H σ (ρ.set j .nil):=by
 by_cases h:j < σ.length
 ·have:=r.setNil (o:=σ[j]) j
  rw [List.set_getElem_self h] at this
  exact this
 ·have:=r.setNil (o:=none) j
  rw [List.set_eq_of_length_le (by omega)] at this
  exact this
end
end DL
namespace DL
open PySem PySem.Spec L2
open PyProof.Rows hiding St
variable [TB]
abbrev XI:=Addr->Addr×List (Str×V)
section
variable [Frm] {X:Cx} {xi:XI} {x:Str} {p pos np cpos:Pos} {e:Expr} {es:List Expr} {t:DA} {g:DSpE} {W:DS->Addr->Prop}
end
section
variable {xi:XI} {P:Program} {w:World} {K:PySem.W.Frag} {mg:Str->Option Value} {base:Heap} {k:Nat} {f:Addr} {fd:FuncData} {ps:List Str} {n:Nat}
end
section
variable [fr0:Frm] {xi:XI} {X:Cx} {body suite:List Stmt} {b0:Stmt} {n x:Str} {np hpos pos:Pos} {C0:Addr} {i:Nat} {tb:(DS->Addr->Prop)->DTS} {th:DTS} {K:PySem.W.Frag}
end
section
variable [Frm] {X:Cx}
end
end DL
namespace L2
open PySem PySem.Spec PyProof.Rows
section
variable {prog:Program} {w:World} {A:Around} {E:Value->Shared->Prop} {s:Shared}
end
section
variable {X:Cx}
end
end L2
namespace DL
open PySem PySem.Spec L2
open PyProof.Rows hiding St
variable [TB]
section
variable {X:Cx}
end
end DL
namespace DL
open PySem PySem.Spec L2
open PyProof.Rows hiding St
variable [TB]
section
variable [Frm] {X:Cx}
end
end DL
namespace L2
open PySem PySem.Spec PyProof.Rows
open AutoSeq1 (wpAny_loadPart')
abbrev uv (t:Addr):Obj:={ cls:=.type "tuple_iterator",data:=.fields #[.ref t,.int 0 0] }
abbrev yK (it:Addr):Obj:={ cls:=.type "enumerate",data:=.fields #[.none,.bool false,.ref it,rawInt 0,.none,.none] }
set_option maxHeartbeats 1000000 in
theorem uw (t:Addr) (xs:Array Value) (n:Nat) (dd:Option Addr) (sl:Array (Option Value)) :
  Meets (Builtin.«enumerate.__new__» ⟨[.type "enumerate",.ref t],[]⟩) (fun _ R s=>s.heap.get? t=some ⟨.type "tuple",dd,.seq xs n,sl⟩ /\ R (.ok (.ret (.ref (s.heap.push (uv t)).objs.size))) { s with heap:=(s.heap.push (uv t)).push (yK s.heap.objs.size) }):=by
 refine .of_wp fun prog w A R s ⟨ht,q⟩=>?_
 obtain ⟨hp,g,d,tk,os⟩:=s
 have hs:=sub_enumerate
 have it:Heap.IsTuple (Shared.heap ⟨hp,g,d,tk,os⟩) t xs:=⟨_,ht,rfl,n,rfl⟩
 wp_walk using wpAny_loadPart' ht
 refine wpAny_stack_any (fun σs=>wpAny_pure ?_)
 split
 ·rename_i c _ _ _ _ _
  rcases hcc:(c == Value.type "enumerate") with _ | _
  ·(wp_walk using wpAny_loadPart' ht,wpAny_pyIter_tuple it); exact ⟨_,rfl,q⟩
  ·(wp_walk using wpAny_loadPart' ht,wpAny_pyIter_tuple it); exact ⟨_,rfl,q⟩
 ·(wp_walk using wpAny_loadPart' ht,wpAny_pyIter_tuple it); exact ⟨_,rfl,q⟩
section
variable {prog:Program} {w:World} {A:Around} {E:Value->Shared->Prop} {s:Shared}
theorem wc {t:Addr} {xs:Array Value} {Q:Value->Shared->Prop} (ht:IsTup s.heap t xs)
  (q:∀ h',IsEnum h' (s.heap.objs.size + 1) s.heap.objs.size 0 .none->h'.IsTupleIter s.heap.objs.size t 0->(∀ b o,s.heap.get? b=some o->h'.get? b=some o)->Q (.ref (s.heap.objs.size + 1)) { s with heap:=h' }) :
  wpAny (model prog w) A (call (.type "enumerate") [.ref t]) Q E s:=by
 obtain ⟨⟨cl,dd,da,sl⟩,ho,oc,n,od⟩:=ht
 simp only at oc od
 subst oc od
 have z:(s.heap.push (uv t)).objs.size=s.heap.objs.size + 1:=Heap.size_push ..
 refine callType_new F.called_enumerate (by decide) (F.typeCall_enumerate_1 _) (F.newCall_enumerate_1 _) (fun o=>F.args_object_init_2 o _) F.entry_enumerate_new (uw t xs n dd sl) ⟨ho,?_⟩
 have e:IsEnum ((s.heap.push (uv t)).push (yK s.heap.objs.size)) (s.heap.objs.size + 1) s.heap.objs.size 0 .none:=by
  have:=Heap.get?_push_size (s.heap.push (uv t)) (o:=yK s.heap.objs.size) rfl
  rwa [z] at this
 show _ /\ _
 rw [z]
 exact ⟨⟨_,e,rfl⟩,q _ e ⟨_,Heap.get?_push_of_some _ (Heap.get?_push_size _ rfl),rfl,rfl⟩ fun b o x=>Heap.get?_push_of_some _ (Heap.get?_push_of_some _ x)⟩
theorem ux (hh:A.handled=none) (it t:Addr) (ne:t≠it) (xs:Array Value):Draws prog w A it [it,t] xs.size (fun i v=>xs[i]? = some v) (fun i h=>h.IsTupleIter it t i /\ h.IsTuple t xs):=by
 refine ⟨fun i h x=>?_,fun i h h' x k=>?_,fun i s Q E hi x q=>?_,fun s Q E x q=>cZ hh x.1 x.2 (by simp) q⟩
 ·obtain ⟨⟨o,e,_⟩,_⟩:=x
  exact ⟨o,e⟩
 ·obtain ⟨⟨o,e,r⟩,o2,e2,r2⟩:=x
  exact ⟨⟨o,k it (by simp) o e,r⟩,o2,k t (by simp) o2 e2,r2⟩
 ·refine ej x.1 x.2 (v:=xs[i]) (by simp [hi]) fun h' it' sb=>?_
  exact q _ h' s.toks (by simp [hi]) ⟨it',x.2.extBut sb.extBut ne⟩ sb
theorem uy (hh:A.handled=none) (it t:Addr) {i:Nat} {xs:Array Value} (hx:xs[i]? = none):Draws prog w A it [it,t] 0 (fun _ _=>False) (fun _ h=>h.IsTupleIter it t i /\ h.IsTuple t xs):=by
 refine ⟨fun j h x=>?_,fun j h h' x k=>?_,fun j s Q E hj _ _=>absurd hj (Nat.not_lt_zero _),fun s Q E x q=>cZ hh x.1 x.2 hx q⟩
 ·obtain ⟨⟨o,e,_⟩,_⟩:=x
  exact ⟨o,e⟩
 ·obtain ⟨⟨o,e,r⟩,o2,e2,r2⟩:=x
  exact ⟨⟨o,k it (by simp) o e,r⟩,o2,k t (by simp) o2 e2,r2⟩
end
def IteT (K:PySem.W.Frag) (a:Addr):It :=
 ⟨fun i H=>∃ xs x,SqT K H a xs /\ xs[i]? = some x,fun i H x H'=>∃ T y,H T=none /\ x = .ref T /\ (∀ xs,SqT K H a xs->xs[i]? = some y) /\ H'=upd H T (.tup [.int i,y]),fun i H=>∃ xs,SqT K H a xs /\ xs.length <= i⟩
theorem uz {h:Heap} {a b:Addr} {its:Array Value} {o:Obj} {n:String} (hl:IsTup h a its) (ho:h.get? b=some o) (hc:o.cls = .type n) (hn:n ≠ "tuple"):a≠b:=by
 rintro rfl
 obtain ⟨o',e,c,_⟩:=hl
 rw [ho] at e
 cases e
 rw [hc] at c
 cases c
 exact hn rfl
theorem rP {P:Program} {w:World} {K:PySem.W.Frag} {elts:List Expr} {k:Nat} {tp:Pos} (a e it:Addr) (hei:e≠it):Turn P w K (.Tuple elts k tp) (IteT K a) [e,it] e (fun i h=>(∃ old,IsEnum h e it i old) /\ h.IsTupleIter it a i) where
 mem:=by simp
 obj:=fun i h st b hb=>by
  obtain ⟨⟨old,he⟩,ho⟩:=st
  rcases List.mem_cons.mp hb with rfl | hb
  ·exact ⟨_,he,fun v z=>by
    have z':Data.fields _=Data.cell v:=z
    cases z'⟩
  ·have:b=it:=by simpa using hb
   subst this
   obtain ⟨o,eo,c,d⟩:=ho
   exact ⟨o,eo,fun v z=>by rw [d] at z; cases z⟩
 keep:=fun i h h' st k=>by
  obtain ⟨⟨old,he⟩,o,eo,r⟩:=st
  exact ⟨⟨old,k e (by simp) _ he⟩,o,k it (by simp) o eo,r⟩
 item:=by
  intro X hP hw hK hc i pins s σ H E I hf st hg
  subst hP hw hK
  obtain ⟨xs,x,hq,hx⟩:=hg
  obtain ⟨its,rv,p,hz⟩:=I.tuple hq
  obtain ⟨u,hu,ru⟩:=rv.get hx
  obtain ⟨⟨old,he⟩,hit⟩:=st
  have hae:a≠e:=uz p he rfl (by decide)
  have hai:a≠it:=by
   obtain ⟨o,eo,c,d⟩:=id hit
   exact uz p eo c (by decide)
  have W:=WalksT.enumerateD (prog:=X.prog) (w:=X.w) (A:=X.A) (ux (A:=X.A.in1) (I.ok.hd hc) it a hai its.toArray) e hei (by simp [hei,Ne.symm hae]) (by simp)
  have hi:i < its.toArray.size:=by
   have:=(List.getElem?_eq_some_iff.mp hu).1
   simpa using this
  refine W.item i s _ _ hi ⟨⟨old,he⟩,hit,p⟩ fun T vals h1 tk hP hT hIs hMid hk=>?_
  obtain ⟨t,z,hz',rfl⟩:=hP
  have ezu:z=u:=by
   have:its.toArray[i]? = some u:=by simpa using hu
   rw [this] at hz'
   cases hz'
   rfl
  subst ezu
  have ap:=W.apart i T h1 hMid
  refine ⟨_,rfl,W.go elts k tp i T { s with heap:=h1,toks:=tk } _ _ hMid fun h2 st2 hk2=>?_⟩
  obtain ⟨st21,st22,_⟩:=st2
  have I2:Inv X pins σ (upd H T (.tup [.int i,x])) { s with heap:=h2,toks:=tk }:=by
   refine I.turnedN (ch:=[e,it]) hf (fun b o hb q=>hk2 b o hb (hk b o hb q)) hT ⟨?_,[.int i t,z],.cons ⟨t,rfl⟩ (.cons ru .nil),?_⟩
   ·exact ⟨by show 2 <= sizeLine; decide,.inr ⟨_,_,rfl⟩⟩
   ·obtain ⟨o,eo,r⟩:=hIs
    exact ⟨o,hk2 T o ap eo,r⟩
  refine ⟨.ref T,_,I2,rfl,⟨T,x,I.hok.fresh hT,rfl,fun ys hy=>by rw [I.tuple_inj hy hq]; exact hx,rfl⟩,⟨by simpa using st21,st22⟩,fun b hb=>?_⟩
  have fb:=hf b hb
  rw [ah]
  ·exact fb.1
  ·rintro rfl
   exact ap hb
 done:=by
  intro X hP hw hK hc i pins s σ H E I hf st hg
  subst hP hw hK
  obtain ⟨xs,hq,hx⟩:=hg
  obtain ⟨its,rv,p,hz⟩:=I.tuple hq
  obtain ⟨⟨old,he⟩,hit⟩:=st
  have hl:=rv.length
  refine wpAny_pyNext_enum_endD (uy (A:=X.A.in1) (I.ok.hd hc) it a (i:=i) (xs:=its.toArray) (by simp; omega)) he ⟨hit,p⟩ fun h1 hx1=>⟨rfl,?_⟩
  exact I.turnedL (t':=s.toks) (ch:=[e,it]) hf fun b o hb q=>hx1 b o (fun z=>hb (by simp [z])) q
 self:=fun _ _ _ _ _ st h=>let ⟨_,he⟩:=st.1; wpAny_pyIter_enum he h
section
variable {X:Cx}
def AM (K:PySem.W.Frag) (ta:TA):TI:=fun σ H R=>ta σ H fun vs H1=>∃ a,vs=[.ref a] /\ (∃ xs,SqT K H1 a xs) /\ R (IteT K a) H1
theorem we {l:Expr} {ta:TA} {p pos tp:Pos} {elts:List Expr} {k:Nat} (hg:Gl X "enumerate") (hm:X.mg "enumerate" = none) (ha:PA X [l] ta) (he:starEach [l] X.env=(false,eval l X.env)::starEach [] X.env:=by rfl) (hpl:(backTo pos (starEach [] X.env)).any (·.1)=false:=by rfl) :
  PI X (.Tuple elts k tp) (.Call (.Name "enumerate" p) [l] [] pos) (AM X.K ta):=by
 intro pins s σ H R I h
 refine Call_ (je I hg hm tR (PyProof.Rows.callWith_type1 (thn (ha pos pins s σ H _ I h) fun us s1 ⟨vs,H1,I1,r1,q1⟩=>?_) he hpl))
 obtain ⟨a,e,⟨xs,hq⟩,q⟩:=q1
 subst e
 obtain ⟨u,rfl,ru⟩:=r1.one
 cases ru
 obtain ⟨its,rv,pl,hz⟩:=I1.tuple hq
 refine wc pl fun h1 hE hit hk=>?_
 refine wpAny_pyIter_enum hE ?_
 have ne:s1.heap.objs.size + 1≠s1.heap.objs.size:=by omega
 refine ⟨_,[s1.heap.objs.size + 1,s1.heap.objs.size],_,IteT X.K a,H1,rfl,I1.kept (t':=s1.toks) hk,rP a _ _ ne,⟨⟨_,hE⟩,hit⟩,fun b hb=>?_,q⟩
 rcases List.mem_cons.mp hb with rfl | hb
 ·exact I1.fpOk (Nat.le_succ _) (I1.hok.fresh (Nat.le_succ _))
 ·have:b=s1.heap.objs.size:=by simpa using hb
  subst this
  exact I1.fpOk (Nat.le_refl _) (I1.hok.fresh (Nat.le_refl _))
end
end L2
namespace DL
open PySem PySem.Spec L2
open PyProof.Rows hiding St
variable [TB]
section
variable [Frm] {X:Cx}
abbrev yL (t:DA):DA:=fun ρ Q=>t ρ fun ds ρ'=>match ds with
 | [.tup xs]=>Q (cY 0 xs) ρ'
 | _=>False
theorem qG {l:Expr} {tl:DA} {p pos tp:Pos} {elts:List Expr} {k:Nat} (hg:Gl X "enumerate") (hm:X.mg "enumerate" = none) (ha:PAD X [l] tl) (he:starEach [l] X.env=(false,eval l X.env)::starEach [] X.env:=by rfl) (hpl:(backTo pos (starEach [] X.env)).any (·.1)=false:=by rfl) :
  PID X (.Tuple elts k tp) (.Call (.Name "enumerate" p) [l] [] pos) (yL tl):=by
 obtain ⟨T,pa,r⟩:=ha.run
 refine ⟨fun _ _ _ f h=>ha.mono _ _ _ (fun d _ h=>?_) h,_,we hg hm pa he hpl,fun {F} M H σ ρ R rs h=>r M H σ ρ _ rs (ha.mono _ _ _ (fun d ρ' h M' H' v m rs' rd=>?_) h)⟩
 ·split at h
  ·exact f _ _ h
  ·exact h.elim
 ·split at h
  case h_2=>exact h.elim
  rename_i ds
  simp only [Reps,Rep] at rd
  obtain ⟨x,r0,rfl,⟨a,xs,rfl,ha,rd⟩,rfl⟩:=rd
  refine ⟨a,rfl,⟨xs,SqT.of ha⟩,h M' H' _ m rs' ⟨fun M2 H2 m2 i d y H3 e yl=>?_,fun M2 H2 m2 i hi=>?_,fun M2 H2 m2 i hi=>?_⟩⟩
  ·obtain ⟨T,z,hT,rfl,hz,rfl⟩:=yl
   obtain ⟨d',hd',rfl⟩:=nI ds 0 i d e
   obtain ⟨v',hv',rv'⟩:=rd.get' hd'
   have:=hz xs (SqT.of (m2.tup a xs ha))
   rw [hv'] at this
   cases this
   refine ⟨.new hT,?_⟩
   simp only [Rep]
   exact ⟨T,_,rfl,ai,.cons (by rw [Nat.zero_add]; exact bB) (.one ((rv'.mv m2).mv (.new hT)))⟩
  ·have hi':i < xs.length:=by rw [← rd.length,← bm ds 0]; exact hi
   exact ⟨xs,xs[i],SqT.of (m2.tup a xs ha),by simp [hi']⟩
  ·exact ⟨xs,SqT.of (m2.tup a xs ha),by rw [← rd.length,← bm ds 0]; exact hi⟩
end
end DL
namespace L2
open PySem PySem.Spec PyProof.Rows
section
variable {X:Cx}
def isK (k:Int):Value->Bool
 | .int a _=>a == k
 | _=>false
end
end L2
namespace DL
open PySem PySem.Spec L2
open PyProof.Rows hiding St
variable [TB]
section
variable [Frm] {X:Cx}
end
end DL
namespace DL
open PySem PySem.Spec L2
open PyProof.Rows hiding St
variable [TB]
section
variable {X:Cx}
def AN (x y:D) (P:D->Prop):Prop:=match y with
 | .tup ys=>(jJ x=true /\ ys.all jJ=true) /\ P (.bl (!(ys.any fun y=>eqF y x)))
 | .lst ys=>(jJ x=true /\ ys.all jJ=true) /\ P (.bl (!(ys.any fun y=>eqF y x)))
 | _=>False
theorem iX:OpD X (compareOp .NotIn) AN:=by
 refine ⟨fun x y P P' f h=>?_,_,mM,fun {pp} M H x y v u Q _ rx ry h=>?_⟩
 ·cases y <;> first | exact ⟨h.1,f _ h.2⟩ | exact False.elim h
 ·have go:∀ ys:List D,(jJ x=true /\ ys.all jJ=true)->∀ us:List V,Reps X.K pp M H ys us->fC v=true /\ us.all fC=true /\ inV v us=ys.any fun y=>eqF y x:=fun ys ⟨f1,f2⟩ us r=>by
   obtain ⟨e1,e2⟩:=lP f1 rx
   obtain ⟨e3,e4⟩:=jK f2 r
   refine ⟨e2,e4,?_⟩
   unfold inV
   rw [e3,e1,List.any_map]
   rfl
  cases y <;> first | exact False.elim h | skip
  ·rename_i ys
   simp only [Rep] at ry
   obtain ⟨a,us,rfl,ha,r⟩:=ry
   obtain ⟨g1,g2,g3⟩:=go ys h.1 us r
   refine ⟨a,us,rfl,.inr (SqT.of ha),g1,g2,?_⟩
   rw [if_pos rfl,g3]
   exact h.2 H _ .refl cD
  ·rename_i ys
   simp only [Rep] at ry
   obtain ⟨a,us,rfl,hm,hp,ha,r⟩:=ry
   obtain ⟨g1,g2,g3⟩:=go ys h.1 us r
   refine ⟨a,us,rfl,.inl (SqL.of ha),g1,g2,?_⟩
   rw [if_pos rfl,g3]
   exact h.2 H _ .refl cD
end
end DL
namespace L2
open PySem PySem.Spec PyProof.Rows
section
variable {P:Program} {w:World} {K:PySem.W.Frag} {mg:Str->Option Value} {base:Heap} {N:List Str} {qual:Str} {scope:Scope} {f:Addr} {cd:Value} {cl:List (Str×Addr)} {A:Around} {outer:List Env} {s:Shared} {H:Hp} {E:XK} {vs:List V}
end
section
variable {X:Cx}
end
end L2
namespace DL
open PySem PySem.Spec L2
open PyProof.Rows hiding St
variable [TB]
section
variable {P:Program} {w:World} {K:PySem.W.Frag} {mg:Str->Option Value} {base:Heap} {N:List Str} {qual:Str} {scope:Scope} {f c':Addr} {cl:List (Str×Addr)} {A:Around} {outer:List Env} {s:Shared} {H:Hp} {E:XK} {vs:List V}
end
end DL
namespace DL
open PySem PySem.Spec L2
open PyProof.Rows hiding St
variable [TB]
section
variable {X:Cx} {k:Nat} {cn a hn n xn qual:Str} {st:Stmt} {f C0 fa c':Addr} {fd:FuncData} {gn N2:List Str} {params:Arguments} {body:Expr} {scope:Scope} {cl:List (Str×Addr)} {vs:List V} {ds:List D} {te:(DS->Addr->Prop)->DE}
end
end DL
namespace L2
open PySem PySem.Spec PyProof.Rows
end L2
namespace DL
open PySem PySem.Spec L2
open PyProof.Rows hiding St
section
variable [TB]
end
end DL
namespace DL
open PySem PySem.Spec L2
open PyProof.Rows hiding St
variable [TB]
end DL
namespace DL
open PySem PySem.Spec L2
open PyProof.Rows hiding St
section
variable [TB]
end
end DL
namespace DL
open PySem PySem.Spec L2
open PyProof.Rows hiding St
variable [TB]
section
variable {P:Program} {w:World} {K:PySem.W.Frag} {mg:Str->Option Value} {base:Heap} {N:List Str} {qual:Str} {scope:Scope} {f c':Addr} {cl:List (Str×Addr)} {A:Around} {outer:List Env} {s:Shared} {H:Hp} {E:XK} {vs:List V}
end
section
variable {X:Cx} {k:Nat} {cn a hn n xn qual:Str} {st:Stmt} {f C0 fa c':Addr} {fd:FuncData} {gn N2:List Str} {params:Arguments} {body:Expr} {scope:Scope} {cl:List (Str×Addr)} {vs:List V} {ds:List D} {te:(DS->Addr->Prop)->DE}
end
end DL
namespace DL
open PySem PySem.Spec L2
open PyProof.Rows hiding St
variable [TB]
section
variable [Frm] {X:Cx}
end
end DL
namespace L2
open PySem PySem.Spec PyProof.Rows
section
variable {X:Cx}
end
end L2
namespace DL
open PySem PySem.Spec L2
open PyProof.Rows hiding St
variable [TB]
section
variable [Frm] {X:Cx}
end
end DL
namespace DL
open PySem PySem.Spec L2
open PyProof.Rows hiding St
variable [TB]
section
variable [Frm] {X:Cx}
end
end DL
namespace DL
open PySem PySem.Spec L2
open PyProof.Rows hiding St
variable [TB]
section
variable {K:PySem.W.Frag} {pp:Option Addr} {M M':List Addr} {H H':Hp}
end
section
variable {X:Cx}
end
section
variable [Frm] {X:Cx}
end
end DL
namespace DL
open PySem PySem.Spec L2
open PyProof.Rows hiding St
variable [TB]
section
variable {K:PySem.W.Frag} {pp:Option Addr} {M M':List Addr} {H H':Hp}
end
section
variable [Frm] {X:Cx}
end
section
variable {X:Cx} {k:Nat}
end
end DL
namespace DL
open PySem PySem.Spec L2
open PyProof.Rows hiding St
variable [TB]
section
variable {K:PySem.W.Frag} {pp:Option Addr} {M M':List Addr} {H H' H1 H5:Hp}
theorem SameP.writeNew {l:Addr} {ys zs:List V} (s:SameP K pp H1 H5) (h1:H1 l=none) (h5:H5 l=some (.lst ys)) (np:pp≠some l):SameP K pp H1 (upd H5 l (.lst zs)):=by
 have mw:Mv K pp [l] H5 [l] (upd H5 l (.lst zs)):=.write h5 (by simp) np
 refine ⟨⟨fun b o e n=>?_,fun p e hp=>mw.pen p e (s.pen p e hp),fun b hb=>?_⟩,fun tb=>mw.tb (s.tb tb)⟩
 ·rw [ah (by rintro rfl; rw [h1] at e; cases e)]
  exact s.keep b o e n
 ·by_cases z:b=l
  ·subst z; rw [ai]; intro z; cases z
  ·rw [ah z]; exact s.live b hb
theorem Mv.more {A:List Addr} (m:Mv K pp M H M H') (hA:∀ a∈A,H a=none):Mv K pp M H (A++M) H' :=
 ⟨m.tup,fun a o e n q=>⟨(m.oth a o e n q).1,fun z=>(List.mem_append.mp z).elim (fun z=>by rw [hA a z] at e; cases e) (fun z=>n z)⟩,m.pen,m.tb⟩
end
section
variable [Frm] {X:Cx}
end
end DL
namespace DL
open PySem PySem.Spec L2
open PyProof.Rows hiding St
variable [TB]
variable [Frm]
section
variable {K:PySem.W.Frag} {F:Fx} {pp:Option Addr} {M:List Addr} {H H1:Hp} {σ:St} {ρ:DS} {i:Nat}
end
section
variable {X:Cx}
end
section
variable {K:PySem.W.Frag} {F:Fx} {M:List Addr} {H:Hp} {σ:St} {ρ:DS} {i n:Nat}
end
section
variable {X:Cx}
end
section
variable {K:PySem.W.Frag} {pp:Option Addr} {M M':List Addr} {H H' H'':Hp}
end
section
variable {X:Cx}
end
end DL
namespace L2
open PySem PySem.Spec PyProof.Rows
section
variable {P:Program} {w:World} {K:PySem.W.Frag} {mg:Str->Option Value} {base:Heap} {N:List Str} {qual:Str} {scope:Scope} {f:Addr} {cd:Value} {cl:List (Str×Addr)} {A:Around} {outer:List Env} {s:Shared} {H:Hp} {E:XK} {vs:List V}
end
end L2
namespace L2
open PySem PySem.Spec PyProof.Rows PySem.W
section
variable {prog:Program} {w:World} {A:Around} {E:Value->Shared->Prop} {s:Shared} {a kS:Addr} {keys:Array Value} {vs:List Value} {kz:List Int} {e e1:Nat} {P:PySem.Fin->Shared->Prop}
end
end L2
namespace L2
open PySem PySem.Spec PyProof.Rows PySem.W
section
variable {X:Cx} {pins:List (Addr×Obj)} {σ:St} {H:Hp} {s:Shared} {l fa:Addr} {xs:List V} {kz:List Int} {R:Hp->Prop} {Q:VK}
end
end L2
namespace DL
open PySem PySem.Spec L2
open PyProof.Rows hiding St
variable [TB]
section
variable {P:Program} {w:World} {K:PySem.W.Frag} {mg:Str->Option Value} {base:Heap} {N:List Str} {qual:Str} {scope:Scope} {f c':Addr} {cl:List (Str×Addr)} {A:Around} {outer:List Env} {s:Shared} {H:Hp} {E:XK} {vs:List V}
end
section
variable {X:Cx} {k:Nat} {qual:Str} {fa c':Addr} {N2:List Str} {params:Arguments} {body:Expr} {scope:Scope} {cl:List (Str×Addr)} {vs:List V} {te:DE}
end
end DL
namespace L2
open PySem PySem.Spec PyProof.Rows PySem.W
section
variable {X:Cx}
end
end L2
namespace DL
open PySem PySem.Spec L2
open PyProof.Rows hiding St
variable [TB]
variable [Frm]
section
variable {X:Cx}
end
end DL
namespace L2
open PySem PySem.Spec PyProof.Rows
section
variable {X:Cx} {body suite:List Stmt} {b0:Stmt} {x:Str} {np hpos pos:Pos} {C0:Addr} {Wo:St->XK}
end
end L2
namespace DL
open PySem PySem.Spec L2
open PyProof.Rows hiding St
variable [TB]
section
variable [fr0:Frm] {X:Cx} {body suite:List Stmt} {b0:Stmt} {x:Str} {np hpos pos:Pos} {C0:Addr} {tb:(DS->Addr->Prop)->DTS} {th:DTS} {K:PySem.W.Frag}
end
end DL
namespace L2
open PySem PySem.Spec PyProof.Rows
section
variable {M:Model} {A:Around} {E:Value->Shared->Prop} {s:Shared} {env:Env}
end
section
variable {X:Cx} {pins:List (Addr×Obj)} {σ:St} {H H':Hp} {s s':Shared} {B h':Heap} {W:St->XK} {e:Value}
end
section
variable {X:Cx} {pins:List (Addr×Obj)} {σ:St} {H:Hp} {s:Shared} {scope:Scope} {cl:List (Str×Addr)} {N':List Str} {js:List (Option Nat)}
variable {elt iter:Expr} {x:Str} {px pos:Pos} {ifs:List Expr} {wi:TI} {g:TG} {tc:TT} {te:TE} {Q:VK}
variable {gB:Blk->TG} {tcB:Blk->TT}
end
end L2
namespace DL
open PySem PySem.Spec L2
open PyProof.Rows hiding St
variable [TB]
section
variable [fr0:Frm] {X:Cx}
end
end DL
namespace L2
open PySem PySem.Spec PyProof.Rows
section
variable {X:Cx}
end
end L2
namespace DL
open PySem PySem.Spec L2
open PyProof.Rows hiding St
variable [TB]
variable [Frm]
section
variable {X:Cx}
end
end DL
namespace TS
open PySem PyProof.Rows
section
variable {prog:Program} {w:World} {A:Around} {E:Value->Shared->Prop} {s:Shared}
variable {κ:SortKind} {S:Keyed->Prop} {r:Keyed->Nat}
end
end TS
namespace TS
open PySem PyProof.Rows
section
variable {prog:Program} {w:World} {A:Around} {E:Value->Shared->Prop} {s:Shared}
variable {κ:SortKind} {S:Keyed->Prop} {r:Keyed->Nat}
abbrev Up (r:Keyed->Nat) (l:List Keyed):Prop:=l.Pairwise fun x y=>r x <= r y
section
variable {a b:Array Keyed} {out:Array Keyed} {ia ib:Nat}
variable (ua:Up r a.toList) (ub:Up r b.toList) (na:0 < a.size) (hl:∀ y∈b.toList,r y <= r (a[a.size - 1]'(by omega)))
include ua ub hl
end
end
end TS
namespace TS
open PySem PyProof.Rows
section
variable {prog:Program} {w:World} {A:Around} {E:Value->Shared->Prop} {s:Shared}
variable {κ:SortKind} {S:Keyed->Prop} {r:Keyed->Nat}
section
variable {a b:Array Keyed} {out:Array Keyed} {na nb:Nat}
variable (ua:Up r a.toList) (ub:Up r b.toList) (b0:0 < b.size) (hf:∀ y∈a.toList,r (b[0]'b0) <= r y)
include ua ub hf
end
end
end TS
namespace TS
open PySem PyProof.Rows
section
variable {prog:Program} {w:World} {A:Around} {E:Value->Shared->Prop} {s:Shared}
variable {κ:SortKind} {S:Keyed->Prop} {r:Keyed->Nat}
abbrev ap (st:SortSt) (arr:Array Keyed) (p:Array (Nat×Nat×Nat)) (g:Nat):SortSt:=SortSt.mk' (kindOf st) arr p g (failedOf st)
end
end TS
namespace TS
open PySem PyProof.Rows
section
variable {prog:Program} {w:World} {A:Around} {E:Value->Shared->Prop} {s:Shared}
variable {κ:SortKind} {S:Keyed->Prop} {r:Keyed->Nat}
def rk (r:Keyed->Nat) (arr:Array Keyed) (i:Nat):Nat:=(arr[i]?.map r).getD 0
end
end TS
namespace TS
open PySem PyProof.Rows
section
variable {prog:Program} {w:World} {A:Around} {E:Value->Shared->Prop} {s:Shared}
variable {κ:SortKind} {S:Keyed->Prop} {r:Keyed->Nat}
variable {A0:Array Keyed}
end
end TS
namespace L2
open PySem PySem.Spec PyProof.Rows PySem.W
open Classical in
section
variable {prog:Program} {w:World} {A:Around} {E:Value->Shared->Prop} {s:Shared} {b fin:Bool} {Q:Bool->Shared->Prop}
end
section
variable {X:Cx}
end
end L2
namespace DL
open PySem PySem.Spec L2
open PyProof.Rows hiding St
variable [TB]
variable [Frm]
section
variable {X:Cx}
end
end DL
namespace DL
open PySem PySem.Spec L2
open PyProof.Rows hiding St
variable [TB]
variable [Frm]
section
variable {X:Cx}
end
end DL
namespace L2
open PySem PySem.Spec PyProof.Rows PySem.W
theorem qH {prog:Program} {w:World}:∀ {k:List Key} {xs:List Value},Paired isI k xs->ItemsAre (bA prog w) k xs
 | _,_,.nil=>.nil
 | _,_,.cons h r=>by
  obtain ⟨i,t,rfl,rfl⟩:=h
  exact .cons (jd prog w i t) (qH r)
theorem TupI.key {prog:Program} {w:World} {h:Heap} {k:List Key} {v:Value} (t:TupI h k v):∃ a,v = .ref a /\ IsTupleKey (bA prog w) h k a:=by
 obtain ⟨a,o,xs,n,rfl,e,c,d,p⟩:=t
 exact ⟨a,rfl,o,xs,n,e,c,d,qH p⟩
section
variable {prog:Program} {w:World} {A:Around} {E:Value->Shared->Prop} {s:Shared} {b:Bool} {Q:Bool->Shared->Prop}
theorem yM (hu:A.units < cLine) {k1 k2:List Key} {v1 v2:Value} (h1:TupI s.heap k1 v1) (h2:TupI s.heap k2 v2) (q:Q (decide (k1=k2)) s):wpAny (model prog w) A (eqBool v1 v2) Q E s:=by
 obtain ⟨a,rfl,i1⟩:=h1.key (prog:=prog) (w:=w)
 obtain ⟨c,rfl,i2⟩:=h2.key (prog:=prog) (w:=w)
 exact wpAny_eqBool_tuple hu i1 i2 q
end
open Classical in
section
variable {prog:Program} {w:World} {A:Around} {E:Value->Shared->Prop} {s:Shared} {a kS:Addr} {keys:Array Value} {vs:List Value} {kz:List (Int×List Key)} {e e1:Nat} {P:PySem.Fin->Shared->Prop}
end
end L2
namespace L2
open PySem PySem.Spec PyProof.Rows PySem.W
section
variable {X:Cx} {pins:List (Addr×Obj)} {σ:St} {H:Hp} {s:Shared} {l fa:Addr} {xs:List V} {kz:List (Int×List Key)} {R:Hp->Prop} {RR:Hp->Hp->Prop} {KP:Hp->Int×List Key->V->Prop} {Q:VK}
end
end L2
namespace DL
open PySem PySem.Spec L2
open PyProof.Rows hiding St
variable [TB]
section
variable {X:Cx}
end
section
variable {X:Cx}
variable [Frm]
end
section
variable {X:Cx} {k:Nat} {qual:Str} {fa c':Addr} {N2:List Str} {params:Arguments} {body:Expr} {scope:Scope} {cl:List (Str×Addr)} {vs:List V} {te:DE}
end
end DL
namespace DL
open PySem PySem.Spec L2
open PyProof.Rows hiding St
variable [TB] [Frm]
section
variable {X:Cx} {st:Stmt} {rest:List Stmt} {t:DTS} {u:DTN} {e c:Expr} {tl:DA} {tc:DT} {pos p2:Pos}
end
end DL
namespace SS
open PySem PySem.SetTable
end SS
namespace SS
open PySem PySem.SetTable
end SS
namespace SS
open PySem PySem.SetTable PyProof.Rows L2
section
variable {prog:Program} {w:World} {A:Around} {E:Value->Shared->Prop} {s:Shared}
end
end SS
namespace SS
open PySem PySem.SetTable PyProof.Rows L2
section
variable {prog:Program} {w:World} {A:Around} {E:Value->Shared->Prop} {s:Shared}
end
end SS
namespace SS
open PySem PySem.SetTable PyProof.Rows L2
section
variable {prog:Program} {w:World} {A:Around} {R:Result->Shared->Prop} {I:Addr} {fp wr:List Addr} {G:Array GenState->Array GenState->Prop} {n:Nat} {P:Nat->Value->Prop} {St:Nat->Shared->Prop}
end
section
variable {prog:Program} {w:World} {A:Around} {E:Value->Shared->Prop} {s:Shared}
end
end SS
namespace SS
open PySem PySem.SetTable PyProof.Rows L2
set_option maxRecDepth 100000
section
variable {prog:Program} {w:World} {A:Around} {E:Value->Shared->Prop} {s:Shared} {a it:Addr} {xs:List (List Key×Addr)} {es:Array (Int×Value)} {ep:Nat} {t:SetTable}
end
end SS
namespace SS
open PySem PySem.SetTable PyProof.Rows L2 PySem.W
set_option maxRecDepth 100000
section
variable {prog:Program} {w:World} {A:Around} {E:Value->Shared->Prop} {s:Shared} {a it:Addr} {xs:List (List Key×Addr)} {es:Array (Int×Value)} {ep:Nat} {t:SetTable}
end
end SS
namespace L2
open PySem PySem.Spec PyProof.Rows PySem.W
section
variable {X:Cx}
end
end L2
namespace DL
open PySem PySem.Spec L2
open PyProof.Rows hiding St
variable [TB]
variable [Frm]
section
variable {X:Cx}
end
end DL
namespace L2
open PySem PySem.Spec PyProof.Rows
section
variable {X:Cx}
end
end L2
namespace DL
open PySem PySem.Spec PyProof.Rows L2
variable [TB]
variable [Frm]
section
variable {X:Cx}
end
end DL
namespace PySem
section
variable {prog:Program} {w:World} {A:Around} {E:Value->Shared->Prop} {s:Shared}
end
end PySem
namespace L2
open PySem PySem.Spec PyProof.Rows
section
variable {prog:Program} {w:World} {A:Around} {R:Result->Shared->Prop} {I:Addr} {fp wr:List Addr} {G:Array GenState->Array GenState->Prop} {n:Nat} {P:Nat->Value->Prop} {St:Nat->Shared->Prop}
end
section
variable {prog:Program} {w:World} {A:Around} {E:Value->Shared->Prop} {s:Shared}
end
end L2
namespace L2
open PySem PySem.Spec PyProof.Rows
section
variable {X:Cx}
end
end L2
namespace DL
open PySem PySem.Spec L2
open PyProof.Rows hiding St
variable [TB]
variable [Frm]
section
variable {X:Cx}
end
end DL
namespace L2
open PySem PySem.Spec PyProof.Rows PySem.W
section
variable {prog:Program} {w:World} {A:Around} {E:Value->Shared->Prop} {s:Shared} {b:Bool} {Q:Bool->Shared->Prop}
end
section
variable {prog:Program} {w:World} {A:Around} {E:Value->Shared->Prop} {s:Shared}
end
end L2
namespace L2
open PySem PySem.Spec PyProof.Rows PySem.W
section
variable {X:Cx}
end
end L2
namespace DL
open PySem PySem.Spec L2
open PyProof.Rows hiding St
variable [TB]
section
variable {X:Cx}
variable [Frm]
end
end DL
namespace DL
open PySem PySem.Spec L2
open PyProof.Rows hiding St
variable [TB]
section
variable {X:Cx} {k:Nat}
end
end DL
namespace L2
open PySem PySem.Spec PyProof.Rows
structure FA (K:PySem.W.Frag) (x:Str) (st:Stmt) (f:Addr) (fd:FuncData):Prop where
 a:PySem.W.nsIn K mainGlobals x=some (some (.ref f))
 F:Fun K x x st f fd
section
variable {K:PySem.W.Frag} {x:Str} {st:Stmt} {f:Addr} {fd:FuncData} {mg:Str->Option Value} {h:Heap}
theorem fa_mk {oc kV doc pm cdv ct:Value} {od an:Option Addr} {osl:Array (Option Value)} (a:PySem.W.nsIn K mainGlobals x=some (some (.ref f))) (l:K.lookup f=some ⟨oc,od,.func (PySem.W.fnOf x x (fF st) (cy st) (ak st) .none kV doc pm an cdv ct),osl⟩)
  (c:PySem.W.codeIn K cdv x=true) (k:PySem.W.keepIn K (.ref f)=true):FA K x st f (PySem.W.fnOf x x (fF st) (cy st) (ak st) .none kV doc pm an cdv ct):=⟨a,zT l c k⟩
abbrev BA (x:Str) (st:Stmt) (ps:List Str) (us:List Value):Prop:=∀ (kV doc pm:Value) (an:Option Addr) (cdv ct:Value),bindArgs (PySem.W.fnOf x x (fF st) (cy st) (ak st) .none kV doc pm an cdv ct) ⟨us,[]⟩=pure (ps.zip us)
theorem FA.df {ps:List Str} (A:FA K x st f fd) (X:K.In h) (G:h.Ns mainGlobals mg) (b:∀ us,us.length=ps.length->BA x st ps us):Df K mg x st ps f fd:=⟨A.F,PySem.W.mg_of X G A.a,A.F.binds fun a b' c d e g us hl=>b us hl a b' c d e g⟩
theorem FA.d1 {p:Str} (A:FA K x st f fd) (X:K.In h) (G:h.Ns mainGlobals mg) (b:∀ u,BA x st [p] [u]):Df K mg x st [p] f fd:=A.df X G fun us hl=>match us,hl with | [u],_=>b u
theorem FA.d2 {p p1:Str} (A:FA K x st f fd) (X:K.In h) (G:h.Ns mainGlobals mg) (b:∀ u v,BA x st [p,p1] [u,v]):Df K mg x st [p,p1] f fd:=A.df X G fun us hl=>match us,hl with | [u,v],_=>b u v
theorem FA.d3 {p p1 p2:Str} (A:FA K x st f fd) (X:K.In h) (G:h.Ns mainGlobals mg) (b:∀ u v w,BA x st [p,p1,p2] [u,v,w]):Df K mg x st [p,p1,p2] f fd:=A.df X G fun us hl=>match us,hl with | [u,v,w],_=>b u v w
end
theorem bZ {N P:List Str} {sc:Scope} (a:sc.kind = .function:=by rfl) (b:sc.isCoroutine=false:=by rfl) (c:sc.isGenerator=false:=by rfl) (d:N.Nodup:=by decide +kernel) (e:N.take P.length=P:=by rfl)
  (g:∀ x∈P,sc.names.lookup x=some .local∨sc.names.lookup x=some .cell:=by decide +kernel) (i:∀ y∈sc.names,y.2 ≠ .free:=by decide +kernel):FnScope N P sc:=⟨a,b,c,d,e,g,i⟩
theorem oo {a b:Prop} (h:a∨b:=by first | exact Or.inl rfl | exact Or.inr rfl):a∨b:=h
theorem dk {p:Prop} (h:p:=by decide +kernel):p:=h
theorem rm {j k:Nat} {A:Around} (r:Room k A) (h:j <= k:=by decide):Room j A:=r.mono h
end L2
namespace DL
open PySem PySem.Spec L2
theorem ndB {X:Cx} {scope:Scope} {cl:List (Str×Addr)} {N:List Str} {B:Blk} (h:N.Nodup:=by decide +kernel):(cxB X scope cl N B).N.Nodup:=h
end DL
namespace L2
open PySem PySem.Spec PyProof.Rows PySem.W
section
variable {P:Program} {w:World} {H:Hp} {h:Heap} {d:Addr} {u u':HO}
end
section
variable {X:Cx} {pins:List (Addr×Obj)} {σ:St} {H:Hp} {s:Shared} {d:Addr} {u u':HO} {kvs:List (List Key×V)}
end
section
variable {X:Cx} {tg:Expr}
end
end L2
namespace L2
open PySem PySem.Spec PyProof.Rows PySem.W
section
variable {prog:Program} {w:World} {A:Around} {E:Value->Shared->Prop} {s:Shared} {d it v:Addr} {es:Array DictEntry} {ep i:Nat}
end
section
variable {X:Cx} {tg:Expr}
end
end L2
namespace DL
open PySem PySem.Spec L2
open PyProof.Rows hiding St
variable [TB]
section
variable {K:PySem.W.Frag} {pp:Option Addr} {M:List Addr} {H H':Hp}
structure Dz (H H':Hp):Prop where
 oth:∀ a u,H a=some u->(∀ k,u ≠ .dT k)->(∀ o k,u ≠ .frz o (.dT k))->H' a=some u
 dts:∀ a k,Rd H a (.dT k)->Rd H' a (.dT k)
theorem Dz.pen (z:Dz H H') {p a:Addr} {ns:List Int} {t l:Int} (q:Pen K H p a ns t l):Pen K H' p a ns t l:=by
 refine ⟨z.oth _ _ q.lst (by simp) (by simp),?_,q.t0⟩
 rcases q.scr with ⟨ob,r⟩ | r
 ·exact .inl ⟨ob,z.oth _ _ r (by simp) (by simp)⟩
 ·exact .inr r
mutual
theorem Rep.dz (z:Dz H H'):∀ (x:D) (v:V),Rep K pp M H x v->Rep K pp M H' x v
 | .non,_,h=>by simp only [Rep] at h ⊢; exact h
 | .bl _,_,h=>by simp only [Rep] at h ⊢; exact h
 | .int _,_,h=>by simp only [Rep] at h ⊢; exact h
 | .str _,_,h=>by simp only [Rep] at h ⊢; exact h
 | .ty _,_,h=>by simp only [Rep] at h ⊢; exact h
 | .tup ds,_,h=>by
  simp only [Rep] at h ⊢
  obtain ⟨a,xs,e1,h1,h2⟩:=h
  exact ⟨a,xs,e1,z.oth _ _ h1 (by simp) (by simp),Reps.dz z ds xs h2⟩
 | .lst ds,_,h=>by
  simp only [Rep] at h ⊢
  obtain ⟨a,xs,e1,h0,hp,h1,h2⟩:=h
  exact ⟨a,xs,e1,h0,hp,z.oth _ _ h1 (by simp) (by simp),Reps.dz z ds xs h2⟩
 | .dK ks ds,_,h=>by
  simp only [Rep] at h ⊢
  obtain ⟨a,xs,e1,h0,hp,h1,h2,h3⟩:=h
  exact ⟨a,xs,e1,h0,hp,z.oth _ _ h1 (by simp) (by simp),h2,Reps.dz z ds _ h3⟩
 | .dT ks ds,_,h=>by
  simp only [Rep] at h ⊢
  obtain ⟨a,xs,e1,h0,hp,h1,h2,h3⟩:=h
  exact ⟨a,xs,e1,h0,hp,z.dts _ _ h1,h2,Reps.dz z ds _ h3⟩
 | .pen,_,h=>by
  simp only [Rep] at h ⊢
  obtain ⟨p,e1,e2,a,ns,t,l,q⟩:=h
  exact ⟨p,e1,e2,a,ns,t,l,z.pen q⟩
 | .exc C,_,h=>by
  simp only [Rep] at h ⊢
  obtain ⟨a,e1,h0,hp,h1⟩:=h
  exact ⟨a,e1,h0,hp,z.oth _ _ h1 (by intro _ z; cases z) (by intro _ _ z; cases z)⟩
 | .cls _,_,h=>by simp only [Rep] at h ⊢; exact h
 | .exa C fs,_,h=>by
  simp only [Rep] at h ⊢
  obtain ⟨a,dx,e1,h0,hp,h1,h2,h3,h4⟩:=h
  exact ⟨a,dx,e1,h0,hp,z.oth _ _ h1 (by intro _ z; cases z) (by intro _ _ z; cases z),h2,h3,z.oth _ _ h4 (by intro _ z; cases z) (by intro _ _ z; cases z)⟩
theorem Reps.dz (z:Dz H H'):∀ (ds:List D) (xs:List V),Reps K pp M H ds xs->Reps K pp M H' ds xs
 | [],_,h=>by simp only [Reps] at h ⊢; exact h
 | x::ds,_,h=>by
  simp only [Reps] at h ⊢
  obtain ⟨y,r,e1,h1,h2⟩:=h
  exact ⟨y,r,e1,Rep.dz z x y h1,Reps.dz z ds r h2⟩
end
variable {d:Addr} {kvs:List (List Key×V)} {o:Obj}
theorem Dz.fz (e:H d=some (.dT kvs)):Dz H (upd H d (.frz o (.dT kvs))) :=
 ⟨fun a u h n1 _=>by rw [ah (by rintro rfl; rw [e] at h; cases h; exact n1 _ rfl)]; exact h,fun a k h=>by
  by_cases z:a=d
  ·subst z
   rcases h with h | ⟨ob,h⟩ <;> (rw [e] at h; cases h)
   exact .inr ⟨o,ai⟩
  ·rcases h with h | ⟨ob,h⟩
   ·exact .inl (by rw [ah z]; exact h)
   ·exact .inr ⟨ob,by rw [ah z]; exact h⟩⟩
theorem Dz.th (e:H d=some (.frz o (.dT kvs))):Dz H (upd H d (.dT kvs)) :=
 ⟨fun a u h _ n2=>by rw [ah (by rintro rfl; rw [e] at h; cases h; exact n2 _ _ rfl)]; exact h,fun a k h=>by
  by_cases z:a=d
  ·subst z
   rcases h with h | ⟨ob,h⟩ <;> (rw [e] at h; cases h)
   exact .inl ai
  ·rcases h with h | ⟨ob,h⟩
   ·exact .inl (by rw [ah z]; exact h)
   ·exact .inr ⟨ob,by rw [ah z]; exact h⟩⟩
end
section
variable {X:Cx} {F:Fx} {K:PySem.W.Frag}
end
end DL
namespace L2
open PySem PySem.Spec PyProof.Rows
section
variable {X:Cx}
theorem uA:OpR X (compareOp .LtE) (fun x y H Q=>∃ i j,x = .str i /\ y = .str j /\ Q (.bl (!decide (j.cps.toList < i.cps.toList))) H):=by
 intro pins s σ H x y v u Q I rx ry h
 obtain ⟨i,j,rfl,rfl,q⟩:=h
 obtain ⟨t,rfl⟩:=rx
 obtain ⟨t',rfl⟩:=ry
 exact PySem.P.le_str (bK I q rfl)
theorem nM:∀ (l:List (Str×Tok)),Vals (l.map fun p=>V.str p.1) (strValues l)
 | []=>.nil
 | p::r=>.cons ⟨p.2,rfl⟩ (nM r)
def AO:V->List V->Hp->VK->Prop:=fun x vs H Q=>∃ z y,x = .str z /\ vs=[.str y] /\ (y.length == 0)=false /\ z.length + 2 <= sizeLine /\ ∀ l,H l=none->Q (.ref l) (upd H l (.lst ((Txt.split z y).map V.str)))
theorem uB (x y:Str) (hz:x.length + 2 <= sizeLine):(Txt.split x y).length <= sizeLine:=by
 have e1:=StrLaws.occ_length_le x y 0 x.length (x.length + 1)
 unfold Txt.split
 split
 ·simp; omega
 ·split
  ·simp; omega
  ·rw [length_partsBetween]; omega
theorem wf:MtR X "str.split" AO:=by
 intro pins s σ H x vs v us Q I rx rv h
 obtain ⟨z,y,rfl,rfl,hy,hz,q⟩:=h
 obtain ⟨t,rfl⟩:=rx
 obtain ⟨u,rfl,t',rfl⟩:=rv.one
 have fin:∀ (l:List (Str×Tok)) (k:Nat),l.map (·.1)=Txt.split z y->EP X pins σ Q (.ref s.heap.objs.size) { s with heap:=s.heap.push { cls:=.type "list",data:=.seq (strValues l).toArray },toks:=k }:=fun l k e=>by
  have ev:l.map (fun p=>V.str p.1)=(Txt.split z y).map V.str:=by rw [← e,List.map_map]; rfl
  refine ⟨.ref _,_,I.lnew (t':=k) (ev ▸ nM l) ?_,rfl,q _ I.fresh⟩
  rw [List.length_map]
  exact uB z y hz
 have hn:(Builtin.Str.partsBetween z (Builtin.Str.occurrences z y 0 z.length (z.length + 1)) y.length).length <= sizeLine:=by
  have e1:=StrLaws.occ_length_le z y 0 z.length (z.length + 1)
  rw [length_partsBetween]; omega
 cases h1:(decide (z.length < y.length) || decide (Builtin.Str.strKind z < Builtin.Str.strKind y))
 ·cases hf:(Builtin.Str.occurrences z y 0 z.length (z.length + 1)).isEmpty
  ·refine call_meets F.slot_str_split (typeIs_str _ _ _) F.entry_str_split (F.args_str_split_2 _ _) (meets_str_split_sep z y t t' h1 hy hf (by omega) hn) ?_
   show wants _ _ _ { s with toks:=_,heap:=s.heap.push { cls:=.type "list",data:=.seq (strsFrom s.toks (Builtin.Str.partsBetween z (Builtin.Str.occurrences z y 0 z.length (z.length + 1)) y.length)).toArray } }
   rw [strsFrom_eq]
   exact fin (numbered s.toks _) _ ((numbered_texts _ _).trans ((if_neg (ne_true_of_eq_false h1)).trans (if_neg (ne_true_of_eq_false hf))).symm)
  ·exact call_meets F.slot_str_split (typeIs_str _ _ _) F.entry_str_split (F.args_str_split_2 _ _) (meets_str_split_not_found z y t t' h1 hy hf)
    (fin [(z,t)] s.toks ((if_neg (ne_true_of_eq_false h1)).trans (if_pos hf)).symm)
 ·exact call_meets F.slot_str_split (typeIs_str _ _ _) F.entry_str_split (F.args_str_split_2 _ _) (meets_str_split_cannot_occur z y t t' h1)
   (fin [(z,t)] s.toks (if_pos h1).symm)
def Cj (K:PySem.W.Frag):V->List V->Hp->VK->Prop:=fun x vs H Q=>∃ z p ws,x = .str z /\ vs=[.ref p] /\ SqL K H p (ws.map V.str) /\ JoinOk z ws=true /\ Q (.str (Txt.join z ws)) H
theorem nO:∀ {ws:List Str} {us:List Value},Vals (ws.map V.str) us->∃ l:List (Str×Tok),us=strValues l /\ l.map (·.1)=ws
 | [],_,h=>by cases h; exact ⟨[],rfl,rfl⟩
 | w::ws,_,.cons ⟨t,e⟩ r=>by
  obtain ⟨l,e1,e2⟩:=nO r
  exact ⟨(w,t)::l,by rw [e,e1]; rfl,by rw [List.map_cons,e2]⟩
theorem yN:MtR X "str.join" (Cj X.K):=by
 intro pins s σ H x vs v us Q I rx rv h
 obtain ⟨z,p,ws,rfl,rfl,hl,hok,q⟩:=h
 obtain ⟨t,rfl⟩:=rx
 obtain ⟨u,rfl,ru⟩:=rv.one
 cases ru
 obtain ⟨its,r,pl,_⟩:=I.list hl
 obtain ⟨l,rfl,e⟩:=nO r
 exact SC.join pl.isList e hok fun t' k=>⟨.str _,H,I.tok _,⟨_,rfl⟩,q⟩
theorem nP:cx X (.type "int") (fun xs H Q=>∃ z n,xs=[.str z] /\ intText? z=some n /\ z.length <= 640 /\ Q (.int n) H):=by
 intro pins s σ H xs us Q I r h
 obtain ⟨z,n,rfl,hn,hz,q⟩:=h
 obtain ⟨u,rfl,t,rfl⟩:=iM r
 exact PySem.W.KIN.call_text hn hz ⟨.int _,H,I.tok _,⟨_,rfl⟩,q⟩
def rSlS:V->Option Int->Option Int->Hp->VK->Prop:=fun x lo hi H Q=>∃ z,x = .str z /\ z.length <= sizeLine /\ Q (.str (Txt.slice z lo hi)) H
theorem qI {v:Value} {o:Option Int} (h:IsPart v o):∃ l:Option (Int×Tok),v=partValue l /\ l.map (·.1)=o:=by
 cases h with
 | none=>exact ⟨none,rfl,rfl⟩
 | int i t=>exact ⟨some (i,t),rfl,rfl⟩
theorem AQ:SlR X rSlS:=by
 intro pins s σ H x v vl vu lo hi sl Q I rx hs pl pu h
 obtain ⟨z,rfl,hz,q⟩:=h
 obtain ⟨t,rfl⟩:=rx
 obtain ⟨l,rfl,rfl⟩:=qI pl
 obtain ⟨u,rfl,rfl⟩:=qI pu
 refine ⟨"str",_,F.slot_str_getitem.lookup,typeIs_str _ _ _,wpAny_getItem_str_slice (l:=l) (u:=u) (st:=none) hs rfl ?_⟩
 exact post_val_or_str ⟨Nat.le_trans (Txt.slice_le z _ _) hz,fun t' k=>⟨.str _,H,I.tok _,⟨_,rfl⟩,q⟩⟩
def Its (z:Str):It:=⟨fun i _=>i < z.cps.size,fun i H x H'=>H'=H /\ ∃ c,z.cps[i]? = some c /\ x = .str ⟨#[c]⟩,fun i _=>z.cps.size <= i⟩
theorem qJ {P:Program} {w:World} {K:PySem.W.Frag} {tg:Expr} {it:Addr} {z:Str} {t:Tok} {n:String} (hn:n = "str_ascii_iterator" ∨ n = "str_iterator"):Turn P w K tg (Its z) [it] it (fun i h=>h.IsStrIter it n z t i) where
 mem:=by simp
 obj:=fun i h st b hb=>by
  have e:b=it:=by simpa using hb
  subst e
  obtain ⟨o,e,c,d⟩:=st
  exact ⟨o,e,fun v z=>by rw [d] at z; cases z⟩
 keep:=fun i h h' st k=>let ⟨o,e,r⟩:=st; ⟨o,k it (by simp) o e,r⟩
 item:=by
  intro X hP hw hK hc i pins s σ H E I hf st hg
  subst hP hw hK
  have hg:i < z.cps.size:=hg
  obtain ⟨f0,f1,f2,f3,f4,f5⟩:=hf it (by simp)
  have fin:∀ h':Heap,h'.IsStrIter it n z t (i + 1)->Heap.SameBut it s.heap h'->∃ u,some (Value.str ⟨#[z.cps[i]]⟩ s.toks)=some u /\ wpAny (model X.prog X.w) X.A (letOwnedTupleGo tg (.ref it) u) (fun _ s'=>∃ x H',Inv X pins σ H' s' /\ RelV x u /\ (Its z).yld i H x H' /\ s'.heap.IsStrIter it n z t (i + 1) /\ ∀ b∈[it],H' b=none) E { s with heap:=h',toks:=s.toks + 1 }:=fun h' st' sb=>by
   have I1:Inv X pins σ H { s with heap:=h',toks:=s.toks + 1 }:=I.turned (t':=s.toks + 1) (fun b o hb e=>(sb.2 b hb).trans e) f0 f1 f3 f4 f5
   obtain ⟨oo,e,c,dd⟩:=id st'
   exact ⟨_,rfl,vy (s:={ s with heap:=h',toks:=s.toks + 1 }) e c dd (by rcases hn with rfl | rfl <;> decide) ⟨.str ⟨#[z.cps[i]]⟩,H,I1,⟨_,rfl⟩,⟨rfl,_,Array.getElem?_eq_getElem hg,rfl⟩,st',fun b hb=>(hf b hb).1⟩⟩
  rcases hn with rfl | rfl
  ·exact wpAny_pyNext_ascii_item st (c:=z.cps[i]) (by simp [hg]) fin
  ·exact wpAny_pyNext_wide_item st (c:=z.cps[i]) (by simp [hg]) fin
 done:=by
  intro X hP hw hK hc i pins s σ H E I hf st hg
  subst hP hw hK
  have hg:z.cps.size <= i:=hg
  obtain ⟨f0,f1,f2,f3,f4,f5⟩:=hf it (by simp)
  rcases hn with rfl | rfl
  ·exact wpAny_pyNext_ascii_end (I.ok.hd hc) st (by simp [hg]) fun h' eb=>⟨rfl,I.turned (t':=s.toks) (fun b o hb e=>eb b o hb e) f0 f1 f3 f4 f5⟩
  ·exact wpAny_pyNext_wide_end (I.ok.hd hc) st (by simp [hg]) fun h' eb=>⟨rfl,I.turned (t':=s.toks) (fun b o hb e=>eb b o hb e) f0 f1 f3 f4 f5⟩
 self:=fun _ _ _ _ _ st h=>by
  rcases hn with rfl | rfl
  ·exact wpAny_pyIter_striter_ascii st h
  ·exact wpAny_pyIter_striter_wide st h
def iStr (tl:TE):TI:=fun σ H R=>tl σ H fun x H1=>∃ z,x = .str z /\ R (Its z) H1
theorem AR {tg l:Expr} {tl:TE} (hl:PE X l tl):PI X tg l (iStr tl):=by
 intro pins s σ H R I h
 refine thn (hl pins s σ H _ I h) fun v s1 ⟨x,H1,I1,r1,q1⟩=>?_
 obtain ⟨z,rfl,q⟩:=q1
 obtain ⟨t,rfl⟩:=r1
 have fp:∀ b∈[s1.heap.objs.size],FpOk X pins H1 b:=fun b hb=>by
  have e:b=s1.heap.objs.size:=by simpa using hb
  subst e
  exact I1.fpOk (Nat.le_refl _) (I1.hok.fresh (Nat.le_refl _))
 cases ha:z.cps.all (· < 128)
 ·exact wpAny_pyIter_wide ha ⟨s1.heap.objs.size,[s1.heap.objs.size],_,_,H1,rfl,I1.kept (t':=s1.toks) fun b o e=>Heap.get?_push_of_some _ e,qJ (.inr rfl),⟨_,Heap.get?_push_size _ rfl,rfl,rfl⟩,fp,q⟩
 ·exact wpAny_pyIter_ascii ha ⟨s1.heap.objs.size,[s1.heap.objs.size],_,_,H1,rfl,I1.kept (t':=s1.toks) fun b o e=>Heap.get?_push_of_some _ e,qJ (.inl rfl),⟨_,Heap.get?_push_size _ rfl,rfl,rfl⟩,fp,q⟩
end
end L2
namespace L2
open PySem PySem.Spec PyProof.Rows
def addS (a:List Str) (x:Str):List Str:=if x∈a then a else a++[x]
def metS (xs:List Str):List Str:=xs.foldl addS []
theorem nQ (xs:List Str) (x:Str):metS (xs++[x])=addS (metS xs) x:=by unfold metS; rw [List.foldl_append]; rfl
theorem wg (a:List Str) (x k:Str):k∈addS a x↔k∈a∨k=x:=by
 unfold addS
 split
 ·exact ⟨.inl,fun h=>h.elim id fun e=>by subst e; assumption⟩
 ·simp
theorem jQ (a:List Str) (x:Str):(addS a x).length=if x∈a then a.length else a.length + 1:=by
 unfold addS; split <;> simp
theorem fw (xs:List Str):(metS xs).length <= xs.length:=by
 have key:∀ (ys:List Str) (a:List Str),(ys.foldl addS a).length <= a.length + ys.length:=fun ys=>by
  induction ys with
  | nil=>intro a; simp
  | cons y ys ih =>
   intro a
   have:=ih (addS a y)
   have e:=jQ a y
   rw [List.foldl_cons,List.length_cons]
   split at e <;> omega
 have:=key xs []
 simpa [metS] using this
section
variable {prog:Program} {w:World} {A:Around} {R:Result->Shared->Prop} {I:Addr} {fp wr:List Addr} {G:Array GenState->Array GenState->Prop} {P:Nat->Value->Prop} {St:Nat->Shared->Prop}
theorem set_loopT {xs:List Str} (W:WalksS prog w A.in1 I fp wr G xs.length P St) (S:Addr) (hSf:S∉fp)
  (hval:∀ i v,P i v->∃ x t,xs[i]? = some x /\ v = .str x t) (hb:xs.length + 1 < scanBound) :
  ∀ (k i:Nat) (s:Shared),xs.length - i=k->i <= xs.length->St i s ->
   s.heap.SetOf (PySem.strKind prog w) S (fun k'=>decide (k'∈metS (xs.take i))) (metS (xs.take i)).length ->
   (∀ s',Moved (S::wr) G s s'->s'.heap.SetOf (PySem.strKind prog w) S (fun k'=>decide (k'∈metS xs)) (metS xs).length->R (.ok (.ret .none)) s') ->
   codeAny (model prog w) A (.builtin "set.update.loop" ⟨[.ref S,.ref I],[]⟩) R s:=by
 have hSw:S∉wr:=fun h=>hSf (W.sub _ h)
 have hsub:∀ b∈wr,b∈S::wr:=fun b hb=>List.mem_cons_of_mem _ hb
 intro k
 induction k with
 | zero =>
  intro i s hk hi hst hS hR
  have hin:i=xs.length:=by omega
  subst hin
  rw [List.take_length] at hS
  refine codeAny_builtin PyProof.Rows.F.entry_set_update_loop ?_
  rw [Around.under_plainId PyProof.Rows.F.plain_set_update_loop _]
  show wpAny _ A.in1 (pyNext (.ref I) >>= _) _ _ s
  refine wpAny_bind (W.done s _ _ hst fun s' hm=>?_)
  show wpAny _ A.in1 (ret Value.none) _ _ s'
  exact wpAny_pure (hR s' (hm.mono hsub) (by
   obtain ⟨o,es,ep,t,ho,rest⟩:=hS
   exact ⟨o,es,ep,t,hm.heap S _ hSw ho,rest⟩))
 | succ k ih =>
  intro i s hk hi hst hS hR
  have hlt:i < xs.length:=by omega
  refine codeAny_builtin PyProof.Rows.F.entry_set_update_loop ?_
  rw [Around.under_plainId PyProof.Rows.F.plain_set_update_loop _]
  show wpAny _ A.in1 (pyNext (.ref I) >>= _) _ _ s
  refine wpAny_bind (W.item i s _ _ hlt hst fun v s' hP hst' hm=>?_)
  obtain ⟨x,t,hx,rfl⟩:=hval i v hP
  have hS':s'.heap.SetOf (PySem.strKind prog w) S (fun k'=>decide (k'∈metS (xs.take i))) (metS (xs.take i)).length:=by
   obtain ⟨o,es,ep,tb,ho,rest⟩:=hS
   exact ⟨o,es,ep,tb,hm.heap S _ hSw ho,rest⟩
  have et:xs.take (i + 1)=xs.take i++[x]:=by rw [List.take_add_one,hx]; rfl
  show wpAny _ A.in1 (holding [Value.str x t] (setAdd S (.str x t)) >>= _) _ _ s'
  refine wpAny_bind (wpAny_holding ?_)
  unfold setAdd
  refine wpAny_holding ?_
  refine wpAny_bind ((PySem.strKind prog w).pyHash (k:=x) (strKind_is _ _ _ _) ?_)
  have hroom:(metS (xs.take i)).length + 1 < scanBound:=by
   have:=fw (xs.take i)
   rw [List.length_take] at this
   omega
  refine wpAny_setAddHashed_of (knd:=PySem.strKind prog w) (s:={ s' with toks:=s'.toks + 1 }) (strKind_is _ _ _ _) rfl hS' hroom fun h' hsb hS2=>?_
  have hSi:h'.SetOf (PySem.strKind prog w) S (fun k'=>decide (k'∈metS (xs.take (i + 1)))) (metS (xs.take (i + 1))).length :=
   SetOf_congr hS2 (fun k'=>by
    rw [et,nQ]
    simp [wg]) (by rw [et,nQ,jQ]; simp)
  refine wpAny_pure ⟨plainId_quiet PyProof.Rows.F.plain_set_update_loop _,ih (i + 1) _ (by omega) hlt (W.frame _ s' _ _ hst' (Nat.le_succ _) fun b hb o e=>?_) hSi fun s'' hm'' hS''=>?_⟩
  ·rw [hsb.2 b (fun h:b=S=>hSf (by rw [← h]; exact hb))]; exact e
  ·refine hR s'' (Moved.trans W.gtrans ((hm.mono hsub).then_heap (Nat.le_succ _) fun b o hb e=>?_) hm'') hS''
   rw [hsb.2 b (fun h:b=S=>hb (by rw [h]; exact List.mem_cons_self))]; exact e
end
end L2
namespace PySem
section
variable {prog:Program} {w:World} {A:Around} {E:Value->Shared->Prop} {s:Shared}
set_option maxRecDepth 100000 in
set_option maxHeartbeats 3200000 in
theorem lY {b:Addr} {its:Array Value} {ks:List Str} {R:Value->Shared->Prop} (calm:A.handled=none) (tp:s.heap.IsList b its) (are:∀ (i:Nat) (v:Value),its[i]? = some v->∃ x t,ks[i]? = some x /\ v = .str x t) (hlen:its.size=ks.length) (few:ks.length + 1 < scanBound)
  (q:∀ (h2:Heap) (tk:Nat),h2.SetOf (PySem.strKind prog w) s.heap.objs.size (fun k=>decide (k∈L2.metS ks)) (L2.metS ks).length ->
   (∀ c o,c < s.heap.objs.size->s.heap.get? c=some o->h2.get? c=some o)->R (.ref s.heap.objs.size) { s with heap:=h2,toks:=tk }):wpAny (model prog w) A (call (.type "set") [.ref b]) R E s:=by
 obtain ⟨c,tl,hmro⟩:=F.called_set.mro
 have hmade:=F.called_set.made
 have hsub:=F.called_set.sub
 refine wpAny_call (codeAny_of_tree ?_)
 show wpAny _ _ (callAny (.type "set") _) _ _ _
 refine wpAny_pure ⟨Code.quiet_builtin _ (by decide +kernel),codeAny_builtin F.entry_type_call ?_⟩
 rw [Around.under_plain (weight_type_call_type "set" [.ref b] []) rfl]
 have n1:=F.called_set.notType
 have n2:=F.called_set.canCreate
 have n3:=F.typeCall_set_1 (.ref b)
 repeat (any_goals (first | assumption | wp_step))
 refine codeAny_mono (code_set_new_1 (.ref b) (E:=E) (Q₁:=fun obj z=>∃ led:Bool,obj = .ref s.heap.objs.size /\ z={ s with heap:=s.heap.push { cls:=.type "set",dict:=none,data:=.set #[] 0 (.fresh 0 0 led) } }) fun led=>⟨led,rfl,rfl⟩) fun r z hr=>?_
 cases r with
 | error e=>exact hr
 | ok fl =>
  cases fl with
  | ret obj =>
   obtain ⟨led,rfl,rfl⟩:=hr
   have g1:(s.heap.push { cls:=.type "set",dict:=none,data:=.set #[] 0 (.fresh 0 0 led) }).get? s.heap.objs.size=some { cls:=.type "set",dict:=none,data:=.set #[] 0 (.fresh 0 0 led) }:=Heap.get?_push_size _ rfl
   have ty:Shared.TypeIs { s with heap:=s.heap.push { cls:=.type "set",dict:=none,data:=.set #[] 0 (.fresh 0 0 led) } } (.ref s.heap.objs.size) "set":=⟨_,g1,rfl⟩
   have i1:=F.called_set.init.lookup
   have i2:=F.called_set.init.bind (.ref s.heap.objs.size)
   repeat (any_goals (first | assumption | wp_step))
   refine codeAny_mono (codeAny_call_builtin (R:=wants (fun r z=>r = .none /\ ∃ h2 tk,z={ s with heap:=h2,toks:=tk } /\
     h2.SetOf (PySem.strKind prog w) s.heap.objs.size (fun k=>decide (k∈L2.metS ks)) (L2.metS ks).length /\
     (∀ c o,c < s.heap.objs.size->s.heap.get? c=some o->h2.get? c=some o)) E) F.called_set.init.plain F.entry_set_init (check_set_init_1 ty ?_)) fun r2 z2 hr2=>?_
   ·have tp1:(s.heap.push { cls:=.type "set",dict:=none,data:=.set #[] 0 (.fresh 0 0 led) }).IsList b its:=by
     obtain ⟨o,e,x⟩:=tp
     exact ⟨o,Heap.get?_push_of_some _ e,x⟩
    have blt:b < s.heap.objs.size:=by
     obtain ⟨o,e,x⟩:=tp
     exact Heap.lt_size e
    obtain ⟨o,e,oc,n,od⟩:=id tp1
    obtain ⟨ocls,odict,odata,oslots⟩:=o
    simp only at oc od
    subst oc; subst od
    have t1:=F.sub_list_set
    have t2:=F.sub_list_frozenset
    have t3:(Value.type "list" == Value.type "dict")=false:=by decide
    unfold Builtin.«set.__init__» noKeywords Builtin.Frozenset.updateFrom
    generalize hPI:pyIter=PI
    wp_walk
    subst hPI
    refine wpAny_pyIter_list tp1 ?_
    refine wpAny_bind (wpAny_runValue ?_)
    have calm3:A.in1.in1.in1.handled=none:=by simp [calm]
    have ne:b≠(s.heap.push { cls:=.type "set",dict:=none,data:=.set #[] 0 (.fresh 0 0 led) }).objs.size:=by
     rw [Heap.size_push]; exact Nat.ne_of_lt (Nat.lt_succ_of_lt blt)
    have off:s.heap.objs.size∉[(s.heap.push { cls:=.type "set",dict:=none,data:=.set #[] 0 (.fresh 0 0 led) }).objs.size,b]:=by
     rw [Heap.size_push]; simp only [List.mem_cons,List.mem_singleton,List.not_mem_nil,or_false,not_or]
     exact ⟨Nat.ne_of_lt (Nat.lt_succ_self _),Nat.ne_of_gt blt⟩
    have W:=(Walks.list (prog:=prog) (w:=w) calm3 _ b ne its).toS
    rw [hlen] at W
    refine L2.set_loopT (xs:=ks) W s.heap.objs.size off are few (ks.length - 0) 0 _ (by omega) (Nat.zero_le _) ⟨⟨_,Heap.get?_push_size _ rfl,rfl,rfl⟩,?_⟩ ?s0 ?r0
    ·obtain ⟨o,e,x⟩:=tp1
     exact ⟨o,Heap.get?_push_of_some _ e,x⟩
    case s0 =>
     have hget:((s.heap.push { cls:=.type "set",dict:=none,data:=.set #[] 0 (.fresh 0 0 led) }).push { cls:=.type "list_iterator",data:=.fields #[.ref b,.int 0 0] }).get? s.heap.objs.size
       = some { cls:=.type "set",dict:=none,data:=.set #[] 0 (.fresh 0 0 led) }:=Heap.get?_push_of_some _ g1
     exact PyProof.Rows.SetOf_congr ((PyProof.Rows.setObjOf_fresh (knd:=PySem.strKind prog w) led).setOf hget (by unfold scanBound; omega)) (fun _=>rfl) rfl
    case r0 =>
     intro z hm hS
     obtain ⟨h2,g',d',tk',os'⟩:=z
     have eg:g'=s.gens:=hm.gens
     have ed:d'=s.drawn:=hm.drawn
     have eo:os'=s.os:=hm.os
     subst eg; subst ed; subst eo
     show wpAny _ _ _ _ _ _
     refine wpAny_pure ?_
     show wpAny _ _ (ret Value.none) _ _ _
     refine wpAny_pure ⟨rfl,h2,tk',rfl,hS,fun c o hc e=>?_⟩
     have hc2:c≠(s.heap.push { cls:=.type "set",dict:=none,data:=.set #[] 0 (.fresh 0 0 led) }).objs.size:=by
      rw [Heap.size_push]; exact Nat.ne_of_lt (Nat.lt_succ_of_lt hc)
     exact hm.heap c o (by simp only [List.mem_cons,List.mem_singleton,List.not_mem_nil,or_false,not_or]; exact ⟨Nat.ne_of_lt hc,hc2⟩) (Heap.get?_push_of_some _ (Heap.get?_push_of_some _ e))
   ·cases r2 with
    | error e=>exact hr2
    | ok fl2 =>
     cases fl2 with
     | ret r =>
      obtain ⟨rfl,h2,tk,rfl,hS,hk⟩:=hr2
      repeat (any_goals (first | assumption | wp_step))
      exact q _ _ hS hk
     | _=>exact hr2.elim
  | _=>exact hr.elim
end
end PySem
namespace L2
open PySem PySem.Spec PyProof.Rows
section
variable {X:Cx}
def SetN (a:Addr) (n:Nat):HO:=.ext fun h=>∃ o es ep t,h.get? a=some o /\ o.ExactSet /\ o.data = .set es ep t /\ t.fits es.size=true /\ es.size=n /\ n < scanBound
theorem uC (hc:X.calm=true):cx X (.type "set") (fun xs H Q=>∃ p ws,xs=[.ref p] /\ SqL X.K H p (ws.map V.str) /\ ws.length <= 1000 /\ ∀ l,H l=none->Q (.ref l) (upd H l (SetN l (metS ws).length))):=by
 intro pins s σ H xs us Q I r h
 obtain ⟨p,ws,rfl,e,hl,q⟩:=h
 obtain ⟨u,rfl,e2⟩:=iM r
 cases e2
 obtain ⟨its,rv,pl,_⟩:=I.list e
 have hlen:its.length=ws.length:=by have:=rv.length; simpa using this.symm
 have hf:=fw ws
 refine lY (its:=its.toArray) (ks:=ws) (I.ok.hd hc) pl.isList (fun i v hv=>?_) (by rw [List.size_toArray,hlen]) (by unfold scanBound; omega) fun h' tk hS hk=>?_
 ·have hi:i < ws.length:=by
   rw [← hlen]
   have:=List.getElem?_eq_some_iff.mp (show its[i]? = some v by simpa using hv)
   exact this.1
  obtain ⟨v',e1,t,rfl⟩:=rv.get (i:=i) (x:=.str ws[i]) (by rw [List.getElem?_map,List.getElem?_eq_getElem hi]; rfl)
  rw [show its.toArray[i]? = its[i]? by simp,e1] at hv
  cases hv
  exact ⟨_,_,List.getElem?_eq_getElem hi,rfl⟩
 ·obtain ⟨o,es,ep,t,g1,g2,g3,_,_,g4,g5,g6⟩:=hS
  refine ⟨.ref s.heap.objs.size,_,I.laid (o:=SetN s.heap.objs.size (metS ws).length) (fun b o e=>hk b o (Heap.lt_size e) e) (Nat.le_refl _) ⟨⟨o,es,ep,t,g1,g2,g3,g5,g6,by unfold scanBound; omega⟩,⟨o,g1⟩,fun h1 h2 ⟨o,es,ep,t,f1,f2⟩ k=>⟨o,es,ep,t,k _ f1,f2⟩⟩,rfl,q _ (I.hok.fresh (Nat.le_refl _))⟩
theorem uD:cx X (.builtin "len") (fun xs H Q=>∃ p n,xs=[.ref p] /\ H p=some (SetN p n) /\ Q (.int n) H):=by
 intro pins s σ H xs us Q I r h
 obtain ⟨p,n,rfl,e,q⟩:=h
 obtain ⟨u,rfl,e2⟩:=iM r
 cases e2
 obtain ⟨⟨o,es,ep,t,g1,g2,g3,g4,g5,g6⟩,_⟩:=(show ObjOk X.prog X.w H s.heap p (SetN p n) from I.hok p _ e)
 refine call_len_set g1 g2 g3 g4 (by unfold scanBound at g6; omega) ?_
 rw [g5]
 exact ⟨.int n,H,I.tok _,⟨_,rfl⟩,q⟩
theorem rQ {ws:List Str} (h:ws.Nodup):metS ws=ws:=by
 have key:∀ (ys a:List Str),(a++ys).Nodup->ys.foldl addS a=a++ys:=fun ys=>by
  induction ys with
  | nil=>intro a _; simp
  | cons y ys ih =>
   intro a h
   have hy:y∉a:=fun z=>by
    have:=(List.nodup_append.mp h).2.2 y z y List.mem_cons_self
    exact this rfl
   rw [List.foldl_cons,show addS a y=a++[y] by unfold addS; rw [if_neg hy],ih _ (by simpa using h)]
   simp
 simpa [metS] using key ws [] (by simpa using h)
end
end L2
namespace L2
open PySem PySem.Spec PyProof.Rows
def GtA (A:Around) (s:Shared) (v w:Value) (b:Bool):Prop:=∀ (prog:Program) (wd:World) (E:Value->Shared->Prop) (Q:Value->Shared->Prop),Q (.bool b) s->wpAny (model prog wd) A (richCompare .Gt v w) Q E s
inductive LexW (A:Around) (s:Shared):List Value->List Value->Bool->Prop
 | nn:LexW A s [] [] false
 | nc {w:Value} {ws:List Value}:LexW A s [] (w::ws) false
 | cn {v:Value} {vs:List Value}:LexW A s (v::vs) [] true
 | same {v w:Value} {vs ws:List Value} {b:Bool}:SeqAt.EqAt A s v w true->LexW A s vs ws b->LexW A s (v::vs) (w::ws) b
 | diff {v w:Value} {vs ws:List Value} {b:Bool}:SeqAt.EqAt A s v w false->GtA A s v w b->LexW A s (v::vs) (w::ws) b
section
open PySem.SeqAt
open PySem.AutoSeq1 (wpAny_loadPart')
open PySem.MeetsSeq PySem.MeetsSeq2 PySem.MeetsSeq3
theorem nR (l b:Addr) (items items2:Array Value) (n n2:Nat) (dd dd2:Option Addr) (sl sl2:Array (Option Value)) (r:Bool) :
  Meets (Builtin.«tuple.__gt__» ⟨[.ref l,.ref b],[]⟩)
   (fun A R s=>s.heap.get? l=some { cls:=.type "tuple",dict:=dd,data:=.seq items n,slots:=sl } /\ s.heap.get? b=some { cls:=.type "tuple",dict:=dd2,data:=.seq items2 n2,slots:=sl2 } /\
    LexW A.in1 s items.toList items2.toList r /\ R (.ok (.ret (.bool r))) s) :=
 .of_wp fun prog w A R s h=>by
  obtain ⟨hp,g,d,tk,os⟩:=s; obtain ⟨hl,hb,hx,h⟩:=h
  have f2:=AutoSeq1.sub_tuple_tuple
  wp_walk using wpAny_loadPart' hl,wpAny_loadPart' hb,wpAny_forIn_list _ (fun rest b s'=>b.1=none /\ s'=⟨hp,g,d,tk,os⟩ /\ ∃ (vs ws:List Value),rest=vs.zip ws /\
   LexW A.in1 ⟨hp,g,d,tk,os⟩ vs ws r /\ vs.length + items2.size=ws.length + items.size) _
  case turn =>
   rintro ⟨y,x⟩ rest b s' ⟨hb',rfl,vs,ws,hz,hx,hlen⟩
   cases hx with
   | nn=>rw [List.zip_nil_left] at hz; cases hz
   | nc=>rw [List.zip_nil_left] at hz; cases hz
   | cn=>rw [List.zip_nil_right] at hz; cases hz
   | same he hx =>
    rw [List.zip_cons_cons] at hz
    injection hz with hyx hrest
    injection hyx with hy hx'
    subst hy hx'
    simp only [List.length_cons] at hlen
    refine wpAny_bind (he prog w _ _ ?_)
    wp_walk
    exact ⟨rfl,rfl,_,_,hrest,hx,by omega⟩
   | diff he hg =>
    rw [List.zip_cons_cons] at hz
    injection hz with hyx hrest
    injection hyx with hy hx'
    subst hy hx'
    refine wpAny_bind (he prog w _ _ ?_)
    have hri:=hg prog w
    wp_walk using hri
    exact ⟨_,rfl,by simpa using h⟩
  case fin =>
   rintro ⟨b1,b2⟩ s' ⟨hb',rfl,vs,ws,hz,hx,hlen⟩
   simp only at hb'
   subst hb'
   have hv:r=decide (items2.size < items.size):=by
    cases hx with
    | nn=>simp only [List.length_nil] at hlen; exact (decide_eq_false (by omega)).symm
    | nc=>simp only [List.length_nil,List.length_cons] at hlen; exact (decide_eq_false (by omega)).symm
    | cn=>simp only [List.length_nil,List.length_cons] at hlen; exact (decide_eq_true (by omega)).symm
    | same _ _=>rw [List.zip_cons_cons] at hz; cases hz
    | diff _ _=>rw [List.zip_cons_cons] at hz; cases hz
   rw [hv] at h
   wp_walk
   exact ⟨_,rfl,by simpa [Builtin.Tuple.tupleCompareSizes] using h⟩
  case h =>
   exact ⟨rfl,rfl,items.toList,items2.toList,rfl,hx,by simp; omega⟩
end
section
variable {A:Around} {s:Shared}
theorem xf {l b:Addr} {items items2:Array Value} {r:Bool} (hl:IsTup s.heap l items) (hb:IsTup s.heap b items2) (hx:LexW A.in1 s items.toList items2.toList r) (hu:A.units < cLine):GtA A s (.ref l) (.ref b) r:=fun prog w E Q h=>by
 obtain ⟨⟨cls,dd,data,sl⟩,ho,hc,n,hd⟩:=id hl
 obtain ⟨⟨cls2,dd2,data2,sl2⟩,ho2,hc2,n2,hd2⟩:=id hb
 simp only at hc hd hc2 hd2
 subst hc hd hc2 hd2
 exact richCompare_meets_room (op:=.Gt) ⟨_,ho,rfl⟩ ⟨_,ho2,rfl⟩ PySem.F.slot_tuple_gt PySem.F.entry_tuple_gt (PySem.F.args_tuple_gt_2 _ _) (nR l b items items2 n n2 dd dd2 sl sl2 r)
  ⟨ho,ho2,hx,show Value.bool r≠Value.notImplemented /\ Q (.bool r) s from ⟨(fun x=>nomatch x),h⟩⟩ hu
theorem uE (a:Int) (t:Tok) (c:Int) (u:Tok):GtA A s (.int a t) (.int c u) (decide (c < a)):=fun prog w E Q h=>(PyProof.Rows.gt_int h:wpAny (model prog w) A (compareOp .Gt (.int a t) (.int c u)) Q E s)
theorem nS:∀ {vs ws:List Value} {ns ms:List Int},IntsAre vs ns->IntsAre ws ms->LexW A s vs ws (HT.lexLt ms ns)
 | _,_,_,_,.nil,.nil=>.nn
 | _,_,_,_,.nil,.cons _ _ _=>.nc
 | _,_,_,_,.cons _ _ _,.nil=>.cn
 | _,_,_,_,.cons a t h1,.cons c u h2=>by
  rw [HT.lexLt_cons]
  by_cases e:a=c
  ·subst e
   rw [if_pos rfl]
   exact .same (by have:=SeqAt.EqAt.int_int (A:=A) (s:=s) a t a u; simpa using this) (nS h1 h2)
  ·rw [if_neg (Ne.symm e)]
   exact .diff ((show (a == c)=false by simpa using e) ▸ SeqAt.EqAt.int_int (A:=A) (s:=s) a t c u) (uE a t c u)
end
section
variable {X:Cx}
def gtP (ns:List Int) (i:Int) (ms:List Int) (j:Int):Bool:=if ns=ms then decide (j < i) else HT.lexLt ms ns
def rGtP (K:PySem.W.Frag):R2:=fun x y H Q=>∃ a b p q ns ms i j,x = .ref a /\ y = .ref b /\ SqT K H a [.ref p,.int i] /\ SqT K H b [.ref q,.int j] /\ SqT K H p (ns.map V.int) /\ SqT K H q (ms.map V.int) /\ Q (.bl (gtP ns i ms j)) H
theorem ig:∀ {vs:List Value} {ns:List Int},IntsAre vs ns->Paired isI (ns.map Sum.inl) vs
 | _,_,.nil=>.nil
 | _,_,.cons n t h=>.cons ⟨n,t,rfl,rfl⟩ (ig h)
theorem uF {A:Around} {s:Shared} {l b:Addr} {items items2:Array Value} {ns ms:List Int} (hl:IsTup s.heap l items) (hb:IsTup s.heap b items2) (hi:IntsAre items.toList ns) (hj:IntsAre items2.toList ms) (hu:A.units < cLine):SeqAt.EqAt A s (.ref l) (.ref b) (decide (ns=ms)):=fun prog w E Q h=>by
 obtain ⟨o,ho,hc,n,hd⟩:=hl
 obtain ⟨o2,ho2,hc2,n2,hd2⟩:=hb
 refine yM hu (k1:=ns.map Sum.inl) (k2:=ms.map Sum.inl) ⟨l,o,items,n,rfl,ho,hc,hd,ig hi⟩ ⟨b,o2,items2,n2,rfl,ho2,hc2,hd2,ig hj⟩ ?_
 have e:(decide (ns.map Sum.inl=(ms.map Sum.inl:List Key)))=decide (ns=ms):=by
  by_cases z:ns=ms
  ·rw [decide_eq_true z,decide_eq_true (by rw [z])]
  ·rw [decide_eq_false z,decide_eq_false (fun w=>z ((List.map_inj_right (fun _ _ h=>Sum.inl.inj h)).mp w))]
 rw [e]
 exact h
theorem AS (hu:X.A.units + 1 < cLine):OpR X (compareOp .Gt) (rGtP X.K):=by
 intro pins s σ H x y v u Q I rx ry h
 obtain ⟨a,b,p,q,ns,ms,i,j,rfl,rfl,ha,hb,hp,hq,k⟩:=h
 cases rx
 cases ry
 obtain ⟨its,r1,p1,_⟩:=I.tuple ha
 obtain ⟨its2,r2,p2,_⟩:=I.tuple hb
 obtain ⟨its3,r3,p3,_⟩:=I.tuple hp
 obtain ⟨its4,r4,p4,_⟩:=I.tuple hq
 obtain ⟨u1,v1,rfl,e1,t1,rfl⟩:=r1.two
 obtain ⟨u2,v2,rfl,e2,t2,rfl⟩:=r2.two
 cases e1
 cases e2
 have i1:IntsAre its3.toArray.toList ns:=gM r3
 have i2:IntsAre its4.toArray.toList ms:=gM r4
 refine xf (A:=X.A) (s:=s) (r:=gtP ns i ms j) p1 p2 ?_ (by omega) X.prog X.w _ _ ⟨.bl _,H,I,rfl,k⟩
 have eq:=uF (A:=X.A.in1) p3 p4 i1 i2 hu
 unfold gtP
 split
 ·rename_i e
  rw [decide_eq_true e] at eq
  refine .same eq ?_
  by_cases e':i=j
  ·subst e'
   rw [decide_eq_false (Int.lt_irrefl _)]
   exact .same (by have:=SeqAt.EqAt.int_int (A:=X.A.in1) (s:=s) i t1 i t2; simpa using this) .nn
  ·exact .diff ((show (i == j)=false by simpa using e') ▸ SeqAt.EqAt.int_int (A:=X.A.in1) (s:=s) i t1 j t2) (uE i t1 j t2)
 ·rename_i e
  rw [decide_eq_false e] at eq
  exact .diff eq (xf p3 p4 (nS i1 i2) hu)
end
end L2
namespace DL
open PySem PySem.Spec L2
open PyProof.Rows hiding St
variable [TB]
variable [Frm]
section
variable {X:Cx}
def g2S (C:Str->Str->Prop) (f:Str->Str->D):D->D->(D->Prop)->Prop
 | .str i,.str j,P=>C i j /\ P (f i j)
 | _,_,_=>False
theorem qK {C:Str->Str->Prop} {f:Str->Str->D} {x y:D} {P P':D->Prop} (f':∀ d,P d->P' d) (h:g2S C f x y P):g2S C f x y P':=by
 cases x <;> first | exact h.elim | skip
 cases y <;> first | exact h.elim | exact ⟨h.1,f' _ h.2⟩
theorem qL:OpD X (compareOp .LtE) (g2S (fun _ _=>True) fun i j=>.bl (!decide (j.cps.toList < i.cps.toList))):=by
 refine ⟨fun x y P P' f h=>qK f h,_,uA,fun {pp} M H x y v u Q _ rx ry h=>?_⟩
 cases x <;> first | exact h.elim | skip
 cases y <;> first | exact h.elim | skip
 simp only [Rep] at rx ry
 exact ⟨_,_,rx,ry,h.2 H _ .refl cD⟩
theorem yO:OpD X (binaryOp .Add) (g2S (fun i j=>i.length + j.length <= sizeLine) fun i j=>.str (i++j)):=by
 refine ⟨fun x y P P' f h=>qK f h,_,rA,fun {pp} M H x y v u Q _ rx ry h=>?_⟩
 cases x <;> first | exact h.elim | skip
 cases y <;> first | exact h.elim | skip
 simp only [Rep] at rx ry
 exact ⟨_,_,rx,ry,h.1,h.2 H _ .refl fH⟩
def gIxS:D->D->(D->Prop)->Prop
 | .str z,.int i,P=>z.length <= sizeLine /\ ∃ c,atI z.cps.toList i=some c /\ P (.str ⟨#[c]⟩)
 | _,_,_=>False
theorem uG {a b:Expr} {ta tb:DE} {pos:Pos} (ha:PED X a ta) (hb:PED X b tb) (hs:oP b):PED X (.Subscript a b pos) (dOp gIxS ta tb):=by
 have gm:∀ x y P P',(∀ d,P d->P' d)->gIxS x y P->gIxS x y P':=fun x y P P' f h=>by
  cases x <;> first | exact h.elim | skip
  cases y <;> first | exact h.elim | skip
  obtain ⟨h1,c,h2,h3⟩:=h
  exact ⟨h1,c,h2,f _ h3⟩
 obtain ⟨Ta,pa,ra⟩:=ha.run
 obtain ⟨Tb,pb,rb⟩:=hb.run
 refine ⟨fi gm ha hb,_,mK zL pa pb hs,fun {F} M H σ ρ Q rs h=>jA (fun M H x y v u Q _ rx ry h=>?_) gm ha hb ra rb rs h⟩
 cases x <;> first | exact h.elim | skip
 cases y <;> first | exact h.elim | skip
 obtain ⟨h1,c,h2,h3⟩:=h
 simp only [Rep] at rx ry
 exact ⟨_,_,c,rx,ry,h1,h2,h3 H _ .refl fH⟩
abbrev dSlS (te:DE) (tl th:DO):DE:=fun ρ Q=>te ρ fun x ρ1=>tl ρ1 fun lo ρ2=>th ρ2 fun hi ρ3=>∃ z,x = .str z /\ z.length <= sizeLine /\ Q (.str (Txt.slice z lo hi)) ρ3
theorem AT {e:Expr} {lo hi:Option Expr} {te:DE} {tl th:DO} {pos p2:Pos} (he:PED X e te) (hl:POD X lo tl) (hh:POD X hi th):PED X (.Subscript e (.Slice lo hi none p2) pos) (dSlS te tl th):=by
 obtain ⟨T,p,r⟩:=he.run
 obtain ⟨Tl,pl,rl⟩:=hl.run
 obtain ⟨Th,ph,rh⟩:=hh.run
 refine ⟨fun _ _ _ f h=>he.mono _ _ _ (fun _ _ h=>hl.mono _ _ _ (fun _ _ h=>hh.mono _ _ _ (fun _ _ ⟨z,e1,e2,h⟩=>⟨z,e1,e2,f _ _ h⟩) h) h) h,_,qe AQ p pl ph,fun {F} M H σ ρ Q rs h=>?_⟩
 refine r M H σ ρ _ rs (he.mono _ _ _ (fun x ρ1 h M1 H1 v m1 rs1 r1=>?_) h)
 refine rl M1 H1 σ ρ1 _ rs1 (hl.mono _ _ _ (fun lo ρ2 h M2 H2 m2 rs2=>?_) h)
 refine rh M2 H2 σ ρ2 _ rs2 (hh.mono _ _ _ (fun hi ρ3 h M3 H3 m3 rs3=>?_) h)
 obtain ⟨z,rfl,hz,h⟩:=h
 simp only [Rep] at r1
 exact ⟨z,r1,hz,h M3 H3 _ ((m1.trans m2).trans m3) rs3 fH⟩
def yP:DSp:=fun ds P=>match ds with
 | [.str z]=>z.length <= sizeLine /\ P (.int z.length)
 | _=>False
theorem pH:CallD X (.builtin "len") yP:=by
 refine ⟨fun ds P P' f h=>?_,_,mO,fun {pp} M H ds vs Q _ r h=>?_⟩
 ·unfold yP at h ⊢; split at h
  ·exact ⟨h.1,f _ h.2⟩
  ·exact h.elim
 ·unfold yP at h; split at h
  case h_2=>exact h.elim
  ·rename_i z
   simp only [Reps,Rep] at r
   obtain ⟨x,r,rfl,rfl,rfl⟩:=r
   exact ⟨z,rfl,h.1,h.2 H _ .refl bB⟩
def yQ:DSp:=fun ds P=>match ds with
 | [.int i]=>i.natAbs.log2 < 1920 /\ P (.str (toString i))
 | _=>False
theorem lZ:CallD X (.type "str") yQ:=by
 refine ⟨fun ds P P' f h=>?_,_,mF,fun {pp} M H ds vs Q _ r h=>?_⟩
 ·unfold yQ at h ⊢; split at h
  ·exact ⟨h.1,f _ h.2⟩
  ·exact h.elim
 ·unfold yQ at h; split at h
  case h_2=>exact h.elim
  ·rename_i z
   simp only [Reps,Rep] at r
   obtain ⟨x,r,rfl,rfl,rfl⟩:=r
   exact ⟨z,rfl,h.1,h.2 H _ .refl fH⟩
def yR:DSp:=fun ds P=>match ds with
 | [.str z]=>z.length <= 640 /\ ∃ n,intText? z=some n /\ P (.int n)
 | _=>False
theorem uH:CallD X (.type "int") yR:=by
 refine ⟨fun ds P P' f h=>?_,_,nP,fun {pp} M H ds vs Q _ r h=>?_⟩
 ·unfold yR at h ⊢; split at h
  ·obtain ⟨h1,n,h2,h3⟩:=h
   exact ⟨h1,n,h2,f _ h3⟩
  ·exact h.elim
 ·unfold yR at h; split at h
  case h_2=>exact h.elim
  ·rename_i z
   simp only [Reps,Rep] at r
   obtain ⟨x,r,rfl,rfl,rfl⟩:=r
   obtain ⟨h1,n,h2,h3⟩:=h
   exact ⟨z,n,rfl,h2,h1,h3 H _ .refl bB⟩
omit [Frm] in
theorem jR {K:PySem.W.Frag} {pp:Option Addr} {M:List Addr} {H:Hp}:∀ {ns:List Str} {xs:List V},Reps K pp M H (ns.map D.str) xs->xs=ns.map V.str
 | [],xs,h=>by simpa only [List.map_nil,Reps] using h
 | n::ns,xs,h=>by
  simp only [List.map_cons,Reps,Rep] at h
  obtain ⟨x,r,rfl,rfl,h2⟩:=h
  rw [jR h2,List.map_cons]
abbrev Ck (to te:DE):DE:=fun ρ Q=>to ρ fun x ρ1=>∃ z,x = .str z /\ te ρ1 fun y ρ2=>∃ ws:List Str,(y = .lst (ws.map .str) /\ JoinOk z ws=true) /\ Q (.str (Txt.join z ws)) ρ2
theorem fO {o e:Expr} {to te:DE} {apos cpos:Pos} (ho:PED X o to) (he:PED X e te)
  (hbase:attributeBase o "join" X.env (eval o X.env)=eval o X.env:=by rfl)
  (hfew:((backTo cpos (starEach [e] X.env)).all (fun x=>!x.1) && (backToKw cpos (keywordEach [] X.env)).all (fun x=>x.1.isSome)
   && decide ([e].length + ([]:List Keyword).length + (if ([]:List Keyword).isEmpty then 0 else 1) < 30))=true:=by rfl)
  (hline:(apos.endLine == cpos.line)=true:=by rfl) (hst:starEach [e] X.env=(false,eval e X.env)::starEach [] X.env:=by rfl) (hpl:(backTo cpos (starEach [] X.env)).any (·.1)=false:=by rfl) :
  PED X (.Call (.Attribute o "join" apos) [e] [] cpos) (Ck to te):=by
 obtain ⟨To,po,ro⟩:=ho.run
 obtain ⟨Te,pe,re⟩:=he.run
 refine ⟨fun _ _ _ f h=>ho.mono _ _ _ (fun _ _ ⟨z,e0,h⟩=>⟨z,e0,he.mono _ _ _ (fun _ _ ⟨ws,e1,h⟩=>⟨ws,e1,f _ _ h⟩) h⟩) h,_,oR PySem.F.plainAttrs_str PySem.F.slot_str_join PySem.F.type_str_join yN po (aP pe bL hst) hbase hfew hline hst hpl,fun {F} M H σ ρ Q rs h=>?_⟩
 refine ro M H σ ρ _ rs (ho.mono _ _ _ (fun x ρ1 h M1 H1 v m1 rs1 r1=>?_) h)
 obtain ⟨z,rfl,h⟩:=h
 simp only [Rep] at r1
 subst r1
 refine ⟨rfl,re M1 H1 σ ρ1 _ rs1 (he.mono _ _ _ (fun y ρ2 h M2 H2 u m2 rs2 r2=>?_) h)⟩
 obtain ⟨ws,⟨rfl,hok⟩,h⟩:=h
 simp only [Rep] at r2
 obtain ⟨a,xs,rfl,_,_,ha,rx⟩:=r2
 rw [jR rx] at ha
 exact ⟨z,a,ws,rfl,rfl,SqL.of ha,hok,h M2 H2 _ (m1.trans m2) rs2 fH⟩
abbrev AU (to te:DE):DA:=fun ρ Q=>to ρ fun x ρ1=>∃ z,x = .str z /\ te ρ1 fun y ρ2=>∃ w,(y = .str w /\ (w.length == 0)=false /\ z.length + 2 <= sizeLine) /\ Q ((Txt.split z w).map .str) ρ2
omit [Frm] in
theorem nT {K:PySem.W.Frag} {pp:Option Addr} {M:List Addr} {H:Hp}:∀ {ns:List Str},Reps K pp M H (ns.map D.str) (ns.map V.str)
 | []=>by simp only [List.map_nil,Reps]
 | n::ns=>by
  simp only [List.map_cons,Reps]
  exact ⟨_,_,rfl,fH,nT⟩
theorem qM {o e:Expr} {to te:DE} {apos cpos:Pos} (ho:PED X o to) (he:PED X e te)
  (hbase:attributeBase o "split" X.env (eval o X.env)=eval o X.env:=by rfl)
  (hfew:((backTo cpos (starEach [e] X.env)).all (fun x=>!x.1) && (backToKw cpos (keywordEach [] X.env)).all (fun x=>x.1.isSome)
   && decide ([e].length + ([]:List Keyword).length + (if ([]:List Keyword).isEmpty then 0 else 1) < 30))=true:=by rfl)
  (hline:(apos.endLine == cpos.line)=true:=by rfl) (hst:starEach [e] X.env=(false,eval e X.env)::starEach [] X.env:=by rfl) (hpl:(backTo cpos (starEach [] X.env)).any (·.1)=false:=by rfl) :
  PLD X (.Call (.Attribute o "split" apos) [e] [] cpos) (AU to te):=by
 obtain ⟨To,po,ro⟩:=ho.run
 obtain ⟨Te,pe,re⟩:=he.run
 refine ⟨fun _ _ _ f h=>ho.mono _ _ _ (fun _ _ ⟨z,e0,h⟩=>⟨z,e0,he.mono _ _ _ (fun _ _ ⟨ws,e1,h⟩=>⟨ws,e1,f _ _ h⟩) h⟩) h,_,oR PySem.F.plainAttrs_str PySem.F.slot_str_split PySem.F.type_str_split wf po (aP pe bL hst) hbase hfew hline hst hpl,fun {F} M H σ ρ Q rs h=>?_⟩
 refine ro M H σ ρ _ rs (ho.mono _ _ _ (fun x ρ1 h M1 H1 v m1 rs1 r1=>?_) h)
 obtain ⟨z,rfl,h⟩:=h
 simp only [Rep] at r1
 subst r1
 refine ⟨rfl,re M1 H1 σ ρ1 _ rs1 (he.mono _ _ _ (fun y ρ2 h M2 H2 u m2 rs2 r2=>?_) h)⟩
 obtain ⟨w,⟨rfl,hw,hz⟩,h⟩:=h
 simp only [Rep] at r2
 subst r2
 exact ⟨z,w,rfl,rfl,hw,hz,fun l hl=>h M2 H2 _ l _ (m1.trans m2) rs2 hl rfl nT⟩
def iY (z:Str):List D:=z.cps.toList.map fun c=>.str ⟨#[c]⟩
abbrev Cl (te:DE):DA:=fun ρ Q=>te ρ fun d ρ'=>∃ z,d = .str z /\ Q (iY z) ρ'
theorem xg {tg l:Expr} {te:DE} (hl:PED X l te):PID X tg l (Cl te):=by
 obtain ⟨T,p,r⟩:=hl.run
 refine ⟨fun _ _ _ f h=>hl.mono _ _ _ (fun d _ ⟨z,e,h⟩=>⟨z,e,f _ _ h⟩) h,_,AR p,fun {F} M H σ ρ R rs h=>r M H σ ρ _ rs (hl.mono _ _ _ (fun d ρ' h M' H' v m rs' rd=>?_) h)⟩
 obtain ⟨z,rfl,h⟩:=h
 simp only [Rep] at rd
 refine ⟨z,rd,h M' H' _ m rs' (ItOkV.of (vs:=z.cps.toList.map fun c=>V.str ⟨#[c]⟩) ⟨fun M2 H2 m2 i x H3 e1 y=>?_,fun M2 H2 m2 i hi=>?_,fun M2 H2 m2 i hi=>?_⟩ ?_)⟩
 ·obtain ⟨rfl,c,hc,rfl⟩:=y
  exact ⟨rfl,by rw [List.getElem?_map,Array.getElem?_toList,hc]; rfl⟩
 ·show i < z.cps.size
  simpa using hi
 ·show z.cps.size <= i
  simpa using hi
 ·have:∀ cs:List Nat,Reps X.K F.pp M' H' (cs.map fun c=>D.str ⟨#[c]⟩) (cs.map fun c=>V.str ⟨#[c]⟩):=fun cs=>by
   induction cs with
   | nil=>simp only [List.map_nil,Reps]
   | cons c cs ih =>
    simp only [List.map_cons,Reps]
    exact ⟨_,_,rfl,fH,ih⟩
  exact this _
abbrev wj (te:DE):DE:=fun ρ Q=>te ρ fun d ρ'=>∃ ws:List Str,d = .lst (ws.map .str) /\ ws.length <= 1000 /\ Q (.int (metS ws).length) ρ'
theorem rR {e:Expr} {te:DE} {p p' pos pos':Pos} (hc:X.calm=true) (hgl:Gl X "len") (hml:X.mg "len" = none) (hgs:Gl X "set") (hms:X.mg "set" = none) (he:PED X e te)
  (h1:starEach [e] X.env=(false,eval e X.env)::starEach [] X.env:=by rfl)
  (h2:starEach [.Call (.Name "set" p') [e] [] pos'] X.env=(false,eval (.Call (.Name "set" p') [e] [] pos') X.env)::starEach [] X.env:=by rfl)
  (hp:(backTo pos (starEach [] X.env)).any (·.1)=false:=by rfl) (hp':(backTo pos' (starEach [] X.env)).any (·.1)=false:=by rfl) :
  PED X (.Call (.Name "len" p) [.Call (.Name "set" p') [e] [] pos'] [] pos) (wj te):=by
 obtain ⟨T,pe,re⟩:=he.run
 refine ⟨fun ρ P P' f h=>he.mono _ _ _ (fun d ρ1 ⟨ns,e1,e2,h⟩=>⟨ns,e1,e2,f _ _ h⟩) h,_,gh (he:=h2) (hpl:=hp) uD hgl hml PySem.boot_len (aP (ji (he:=h1) (hpl:=hp') (uC hc) hgs hms rfl (aP pe bL h1)) bL h2),fun {F} M H σ ρ Q rs h=>?_⟩
 refine re M H σ ρ _ rs (he.mono _ _ _ (fun d ρ1 h M1 H1 v m1 rs1 r1=>?_) h)
 obtain ⟨ws,rfl,hl,h9⟩:=h
 simp only [Rep] at r1
 obtain ⟨a,xs,rfl,_,_,ha,rr⟩:=r1
 rw [jR rr] at ha
 exact ⟨a,ws,rfl,SqL.of ha,hl,fun l hn=>⟨l,_,rfl,ai,h9 M1 _ _ (m1.trans (.new hn)) (rs1.sameP (.new hn)) bB⟩⟩
def gGtP:D->D->(D->Prop)->Prop:=fun x y P=>∃ ns i ms j,(x = .tup [.tup (ns.map .int),.int i] /\ y = .tup [.tup (ms.map .int),.int j]) /\ P (.bl (gtP ns i ms j))
theorem AV {k:Nat} (hr:Room k X.A):OpD X (compareOp .Gt) gGtP:=by
 refine ⟨fun x y P P' f ⟨ns,i,ms,j,e,h⟩=>⟨ns,i,ms,j,e,f _ h⟩,_,AS (by have:=hr.units; omega),fun {pp} M H x y v u Q _ rx ry h=>?_⟩
 obtain ⟨ns,i,ms,j,⟨rfl,rfl⟩,h⟩:=h
 simp only [Rep,Reps] at rx ry
 obtain ⟨a,xs,rfl,ha,x1,r1,rfl,⟨p,ys,rfl,hp,ry1⟩,x2,r2,rfl,rfl,rfl⟩:=rx
 obtain ⟨b,us,rfl,hb,y1,s1,rfl,⟨q,zs,rfl,hq,rz1⟩,y2,s2,rfl,rfl,rfl⟩:=ry
 rw [ie ry1] at hp
 rw [ie rz1] at hq
 exact ⟨a,b,p,q,ns,ms,i,j,rfl,rfl,SqT.of ha,SqT.of hb,SqT.of hp,SqT.of hq,h H _ .refl cD⟩
end
end DL
namespace DL
open PySem PySem.Spec L2
open PyProof.Rows hiding St
variable [TB]
section
variable {X:Cx} {K:PySem.W.Frag} {F:Fx} {pp:Option Addr} {M M' M2 L:List Addr} {H H' H1 H2:Hp} {σ:St} {ρ:DS}
def Liv (H:Hp) (L:List Addr):Prop:=∀ a,a∈L↔H a≠none
def tFin (T:TS):TS:=fun D σ H=>(∃ L,Liv H L)->T D σ H
omit [TB] in
open Classical in
theorem AW {st:Stmt} {T:TS} (p:PS X st T):PS X st (tFin T):=fun pins s σ H D I h=>p pins s σ H D I (h ⟨(List.range s.heap.objs.size).filter fun a=>decide (H a≠none),fun a=>by
 rw [List.mem_filter,List.mem_range]
 refine ⟨fun z=>by simpa using z.2,fun z=>⟨?_,by simpa using z⟩⟩
 cases e:H a with
 | none=>exact absurd e z
 | some o=>exact I.hok.lt e⟩)
def valB:Sl->Bool
 | .own _=>false
 | .obj _=>false
 | _=>true
theorem pI (hv:ρ.all valB=true):∀ (i:Nat) s,ρ[i]? = some s->(∀ ds,s ≠ .own ds) /\ ∀ q,s ≠ .obj q:=fun i s e=>by
 have:=List.all_eq_true.mp hv s (List.mem_of_getElem? e)
 refine ⟨fun ds z=>?_,fun q z=>?_⟩ <;> · subst z; cases this
theorem RSt.box (rs:RSt K F M H σ ρ) (hv:ρ.all valB=true) (m:Mv K F.pp M H M' H') (lv:∀ a∈M',H' a≠none) (lp:∀ p,F.pp=some p->H' p≠none):RSt K ⟨F.pp,M',H'⟩ M' H' σ ρ:=by
 refine ⟨rs.len,fun i s o h1 h2=>?_,.none (pI hv),fun a ha=>ha,.refl,lv,⟨lv,lp⟩,⟨trivial,m.tb rs.lk.t⟩⟩
 have q:=rs.sl i s o h1 h2
 cases s with
 | nil=>trivial
 | val d=>obtain ⟨v,e,q⟩:=q; exact ⟨v,e,q.mv m⟩
 | pin w d=>obtain ⟨v,e,ew,q⟩:=q; exact ⟨v,e,ew,q.mv m⟩
 | own ds=>exact absurd rfl ((pI hv i _ h1).1 ds)
 | obj b=>exact absurd rfl ((pI hv i _ h1).2 b)
theorem Mv.up (m:Mv K pp M H M' H') (s:∀ a∈M,a∈L):Mv K pp L H L H' :=
 ⟨m.tup,fun a o e n p=>⟨(m.oth a o e (fun z=>n (s a z)) p).1,n⟩,m.pen,m.tb⟩
def fltS:Sl->Sl
 | .val .non=>.val .non
 | .val (.bl b)=>.val (.bl b)
 | .val (.int n)=>.val (.int n)
 | .val (.str x)=>.val (.str x)
 | _=>.nil
theorem uI (s:Sl):fltS s = .nil∨∃ d,flD d /\ s = .val d /\ fltS s = .val d:=by
 cases s with
 | nil=>exact .inl rfl
 | own ds=>exact .inl rfl
 | obj q=>exact .inl rfl
 | pin w d=>exact .inl rfl
 | val d =>
  cases d with
  | non=>exact .inr ⟨_,by simp only [flD],rfl,rfl⟩
  | bl b=>exact .inr ⟨_,by simp only [flD],rfl,rfl⟩
  | int n=>exact .inr ⟨_,by simp only [flD],rfl,rfl⟩
  | str x=>exact .inr ⟨_,by simp only [flD],rfl,rfl⟩
  | _=>exact .inl rfl
theorem RSt.lbox (rs:RSt K ⟨pp,M,H⟩ M2 H2 σ ρ) (hL:Liv H L):RSt K ⟨pp,L,H⟩ L H2 σ (ρ.map fltS):=by
 refine ⟨by rw [List.length_map]; exact rs.len,fun i s o h1 h2=>?_,.none fun i s h1=>?_,fun a ha=>ha,rs.same,fun a ha=>(hL a).mp ha,⟨fun a ha=>rs.same.live a ((hL a).mp ha),rs.liv0.p⟩,⟨trivial,rs.lk.t⟩⟩
 ·rw [List.getElem?_map] at h1
  obtain ⟨s0,e0,rfl⟩:=Option.map_eq_some_iff.mp h1
  rcases uI s0 with e | ⟨d,f,rfl,e⟩
  ·rw [e]; trivial
  ·rw [e]
   obtain ⟨v,e2,q⟩:=rs.sl i _ o e0 h2
   exact ⟨v,e2,Rep.flat d v f q⟩
 ·rw [List.getElem?_map] at h1
  obtain ⟨s0,e0,rfl⟩:=Option.map_eq_some_iff.mp h1
  rcases uI s0 with e | ⟨d,f,rfl,e⟩ <;> rw [e] <;> exact ⟨fun _ z=>(by cases z),fun _ z=>(by cases z)⟩
theorem RSt.bare (hL:Liv H L) (s:SameP K pp H H') (t:Tabs H') (hp:∀ p,pp=some p->H p≠none) (n:σ.length=ρ.length):RSt K ⟨pp,L,H⟩ L H' σ (ρ.map fun _=>Sl.nil):=by
 have nn:∀ (i:Nat) s,(ρ.map fun _=>Sl.nil)[i]? = some s->s = .nil:=fun i s h=>by
  rw [List.getElem?_map] at h
  obtain ⟨s0,e0,rfl⟩:=Option.map_eq_some_iff.mp h
  rfl
 refine ⟨by rw [List.length_map]; exact n,fun i q o h1 h2=>by rw [nn i q h1]; trivial,.none fun i q h1=>by rw [nn i q h1]; exact ⟨fun _ z=>(by cases z),fun _ z=>(by cases z)⟩,fun a ha=>ha,s.toSameQ,fun a ha=>(hL a).mp ha,⟨fun a ha=>s.live a ((hL a).mp ha),fun p e=>s.live p (hp p e)⟩,⟨trivial,t⟩⟩
abbrev AX (i:Nat) (tl:DA) (te:DE):DTS:=fun E ρ=>tl (ρ.set i .nil) fun ds ρ1=>ρ1.all valB=true /\ te ρ1 fun d _=>E.nx (ρ1.set i (.obj (.tup [.lst (ds.map .val),.val d])))
theorem wk {i:Nat} {x:Str} {e1 e2:Expr} {tl:DA} {te:DE} {x1} {tp pos pos':Pos} (hN:X.N.Nodup) (hi:X.N[i]? = some x) (hx:Loc X.env.scope x) (hl:PLD X e1 tl) (he:PED X e2 te)
  (h1:starEach [e1,e2] X.env=(false,eval e1 X.env)::starEach [e2] X.env:=by rfl) (h2:starEach [e2] X.env=(false,eval e2 X.env)::starEach [] X.env:=by rfl)
  (hs:swapsWith (.Tuple [e1,e2] x1 tp) (some (.Name x pos')) pos.line X.env=pure false:=by rfl) (hf:X.fn x=true∨X.env.scope.names.lookup x=some .local:=by first | exact .inl rfl | exact .inr rfl | assumption) :
  PSD X (.Assign [.Name x pos'] (.Tuple [e1,e2] x1 tp) pos) (AX i tl te):=by
 obtain ⟨T1,p1,r1⟩:=hl.run
 obtain ⟨T2,p2,r2⟩:=he.run
 refine ⟨_,dX hN hi hx (wK (aP p1 (aP p2 bL h2) h1)) hs hf,fun {F} M H σ ρ E D rs o q=>?_⟩
 refine r1 M H σ _ _ (rs.nilAt i) (hl.mono _ _ _ (fun ds ρ1 q M1 H1 H' l xs m1 rs1 hl e rx=>?_) q)
 subst e
 obtain ⟨hv,q⟩:=q
 have fr:=rs1.liv.fresh hl
 have b1:=rs1.box hv (.newOwn hl (o:=.lst xs)) (fun a ha=>by
  rcases List.mem_cons.mp ha with rfl | ha
  ·rw [ai]; intro z; cases z
  ·exact (SameP.new (K:=X.K) (pp:=F.pp) hl).live a (rs1.liv.m a ha)) fun p e=>(SameP.new (K:=X.K) (pp:=F.pp) hl).live p (rs1.liv.p p e)
 refine r2 _ _ σ ρ1 _ b1 (he.mono _ _ _ (fun d ρ2 q M2 H2 v m2 rs2 rd=>?_) q)
 refine ⟨show 2 <= sizeLine by decide,fun t ht=>?_⟩
 have s:SameP X.K F.pp H1 (upd H2 t (.tup [.ref l,v])):=((SameP.new hl).trans rs2.sameT).trans (.new ht)
 have hl2:H2 l=some (.lst xs):=rs2.same.keep l _ ai (nw fr.2)
 have mm:Mv X.K F.pp M1 H1 ([l]++M1) (upd H2 t (.tup [.ref l,v])):=(s.mv (M:=M1)).more fun b hb=>by rw [List.mem_singleton.mp hb]; exact hl
 have m4:Mv X.K F.pp M2 H2 ([l]++M1) (upd H2 t (.tup [.ref l,v])):=(Mv.less fun b hb=>rs2.sub b hb).trans (.new ht)
 obtain ⟨m3,rs3⟩:=rs1.newObj (q:=.tup [.lst (ds.map .val),.val d]) (A:=[l]) (v:=.ref t) s (by simp) (fun a ha=>by rw [List.mem_singleton.mp ha]; exact ⟨hl,fr.2⟩) (by
  simp only [RO,ROs]
  exact ⟨t,_,rfl,ai,.ref l,[v],[l],[],rfl,rfl,⟨l,xs,[],rfl,fG ht hl2,rfl,ROs.vals (rx.mv mm)⟩,v,[],[],[],rfl,rfl,⟨rfl,rd.mv m4⟩,rfl,rfl⟩) i
 exact o.nx _ _ _ _ (m1.trans m3) rs3 q
end
section
variable {X:Cx}
abbrev mkT (m:Str×List Str):D:=.tup [.str m.1,.lst (m.2.map .str)]
abbrev bkT (hs:List Str) (ms:List (Str×List Str)) (b:D):D:=.tup [.tup [.lst (hs.map .str),.lst (ms.map mkT)],b]
abbrev dNo (t:DT) (ρ:DS):Prop:=t ρ fun b ρ'=>b=false /\ ρ'=ρ
abbrev AY (jt i jh jm jk n:Nat) (g:DSp) (t1 t2 t3 t4 t5:DT) (u:DTS):DTS:=fun E ρ =>
 ∃ z hs ms b,(ρ.all valB=true /\ slot ρ jt = .val (.str z) /\ n=1 /\ hs.length <= 1000) /\ ((i < ρ.length /\ jh < ρ.length /\ jm < ρ.length /\ jk < ρ.length) /\ i≠jh /\ i≠jm /\ jh≠jm /\ jh≠jk /\ jm≠jk) /\
 g [.str z] (fun d=>d=bkT hs ms b) /\ dNo t1 (ρ.set i (.val (bkT hs ms b))) /\ dNo t2 (ρ.set i (.val (bkT hs ms b))) /\
 dNo t3 ((((ρ.map fltS).set i (.val (bkT hs ms b))).set jh (.val (.lst (hs.map .str)))).set jm (.val (.lst (ms.map mkT)))) /\
 dNo t4 ((((ρ.map fltS).set i (.val (bkT hs ms b))).set jh (.val (.lst (hs.map .str)))).set jm (.val (.lst (ms.map mkT)))) /\
 (∀ m ds,dNo t5 ((ρ.map fun _=>Sl.nil).set jk (.val (.tup [.str m,.lst ds])))) /\
 u E ((((ρ.set i .nil).set jh .nil).set jm .nil).set jk .nil)
structure Jx (K:PySem.W.Frag) (pp:Option Addr) (H:Hp) (L:List Addr) (lh lm:Addr) (xs:List V) (n:Nat) (Hc:Hp):Prop where
 s:SameP K pp H Hc
 m:Hc lm=some (.lst xs)
 h:∃ ys,ys.length <= n /\ Hc lh=some (.lst ys)
 k:∀ x∈xs,∃ (t:Addr) (nm:Str) (lk:Addr) (zs:List Str),x = .ref t /\ Hc t=some (.tup [.str nm,.ref lk]) /\ lk∉L /\ pp≠some lk /\ lk≠lm /\ Hc lk=some (.lst (zs.map V.str))
theorem qN {K:PySem.W.Frag} {pp:Option Addr} {M:List Addr} {H:Hp}:∀ {ws:List Str} {xs:List V},Reps K pp M H (ws.map D.str) xs->xs=ws.map V.str
 | [],xs,h=>by simpa only [List.map_nil,Reps] using h
 | w::ws,xs,h=>by
  simp only [List.map_cons,Reps] at h
  obtain ⟨x,r,rfl,h1,h2⟩:=h
  simp only [Rep] at h1
  rw [h1,qN h2]
  rfl
theorem nU {K:PySem.W.Frag} {pp:Option Addr} {M:List Addr} {H:Hp}:∀ ws:List Str,Reps K pp M H (ws.map D.str) (ws.map V.str)
 | []=>by simp only [List.map_nil,Reps]
 | w::ws=>by
  simp only [List.map_cons,Reps]
  exact ⟨_,_,rfl,by simp only [Rep],nU ws⟩
theorem uJ {k n jt i jh jm jk:Nat} {f:Addr} {fd:FuncData} {ps:List Str} {g:DSp} {x y w:Str} {p py cpos pos:Pos} {ea:Expr} {c1 c2 c3 c4 c5:Expr} {b1 b2 b3 b4 b5:List Stmt} {q1 q2 q3 q4 q5 q6:Pos} {t1 t2 t3 t4 t5:DT} {e1 e2 e3 e4 e5 u:DTS} {su sk sa sc:Stmt} {tg it:Expr} {rest:List Stmt}
  (Fn:FnOk X.prog X.w X.K X.mg X.base CX0 k f fd ps (spD X.K n g)) (gm:bR g) (hr:Room k X.A) (hg:Gl X x) (hm:X.mg x=some (.ref f)) (hk:PySem.W.keepIn X.K (.ref f)=true) (hb:Binds X.K fd ps [])
  (hea:PE X ea (tVar jt)) (hN:X.N.Nodup) (hi:X.N[i]? = some y) (hx:Loc X.env.scope y)
  (h1:PTD X c1 t1) (d1:PSsD X b1 e1) (h2:PTD X c2 t2) (d2:PSsD X b2 e2)
  (hu:PS X su (tAsg (tOp vH (tVar i) (tC (.int 0))) (zZ 2 (xP (gName jh) (xP (gName jm) gNil)))))
  (h3:PTD X c3 t3) (d3:PSsD X b3 e3) (h4:PTD X c4 t4) (d4:PSsD X b4 e4)
  (hp:PassesOwn (model X.prog X.w) X.A X.env X.xe) (hc:X.calm=true) (hit:PE X it (tVar jm)) (hgk:PG X tg (gName jk)) (h5:PTD X c5 t5) (d5:PSsD X b5 e5)
  (hck:PS X sk (vw (tBM0 X.K "list" qf (tOp vH (tVar jk) (tC (.int 1))))))
  (ha:PS X sa (vw (tBM X.K "list" oS (tVar jh) (vB (tC (.str w)) tNil)))) (hcl:PS X sc (vw (tBM0 X.K "list" qf (tVar jm)))) (hrest:PSsD X rest u)
  (hdb:(x == ("__debug__" : Str))=false:=by decide) (he:starEach [ea] X.env=(false,eval ea X.env)::starEach [] X.env:=by rfl) (hpl:(backTo cpos (starEach [] X.env)).any (·.1)=false:=by rfl)
  (hs:swapsWith (.Call (.Name x p) [ea] [] cpos) (some (.Name y py)) pos.line X.env=pure false:=by rfl) (hf:X.fn y=true∨X.env.scope.names.lookup y=some .local:=by first | exact .inl rfl | exact .inr rfl | assumption)
  (hfs:∀ x,foldedSetIterable it X.env x=pure x:=by intro _; rfl) :
  PSsD X (.Assign [.Name y py] (.Call (.Name x p) [ea] [] cpos) pos :: .If c1 b1 [] q1 :: .If c2 b2 [] q2::su :: .If c3 b3 [] q3 :: .If c4 b4 [] q4 :: .For tg it [.If c5 b5 [] q5,sk] [] q6::sa::sc::rest) (AY jt i jh jm jk n g t1 t2 t3 t4 t5 u):=by
 obtain ⟨T1,p1,r1⟩:=h1.run
 obtain ⟨T2,p2,r2⟩:=h2.run
 obtain ⟨T3,p3,r3⟩:=h3.run
 obtain ⟨T4,p4,r4⟩:=h4.run
 obtain ⟨T5,p5,r5⟩:=h5.run
 obtain ⟨U1,w1,_⟩:=d1
 obtain ⟨U2,w2,_⟩:=d2
 obtain ⟨U3,w3,_⟩:=d3
 obtain ⟨U4,w4,_⟩:=d4
 obtain ⟨U5,w5,_⟩:=d5
 obtain ⟨Ur,pr,rr⟩:=hrest
 refine ⟨_,aA (AW (dX hN hi hx (oM Fn hr hg hm hk hb .nil yf (aP hea bL he) hdb he hpl) hs hf)) (aA (ld p1 w1 dG) (aA (ld p2 w2 dG) (aA hu (aA (ld p3 w3 dG) (aA (ld p4 w4 dG) (aA (wI hp hc (sF hit) hgk (aA (ld p5 w5 dG) (dW hck)) hfs) (aA ha (aA hcl pr)))))))),fun {F} M H σ ρ E D rs o h=>?_⟩
 obtain ⟨z,hs,ms,b,⟨hv,st,rfl,hlen⟩,⟨⟨li,lh',lm',lk'⟩,n1',n2',n3',n4',n5'⟩,hG,n1,n2,n3,n4,n5,hE⟩:=h
 rintro ⟨L,hL⟩
 obtain ⟨o0,ho0,v0,rfl,rz⟩:=rs.at (aI st (by intro z; cases z))
 simp only [Rep] at rz
 subst rz
 have ML:∀ a∈M,a∈L:=fun a ha=>(hL a).mpr (rs.liv.m a ha)
 have sl:σ.length=ρ.length:=rs.len
 refine ⟨.str z,ho0,F.pp,L,[.str z],⟨⟨fun a ha=>(hL a).mp ha,rs.liv.p⟩,rs.lk.t⟩,Reps.one (by simp only [Rep]),rfl,gm _ _ _ (fun d e H1 v s1 rv=>?_) hG⟩
 subst e
 have rsA:=(rs.box hv .refl rs.liv.m rs.liv.p).sameP s1
 have rsB:=rsA.set (rv.mv (.less ML)) i
 refine r1 M H1 _ _ _ rsB (h1.mono _ _ _ (fun k ρ1 e M2 H2 m2 rs2=>?_) n1)
 obtain ⟨rfl,rfl⟩:=e
 refine iteF ?_
 refine r2 M2 H2 _ _ _ rs2 (h2.mono _ _ _ (fun k ρ1 e M3 H3 m3 rs3=>?_) n2)
 obtain ⟨rfl,rfl⟩:=e
 refine iteF ?_
 have rL:Rep X.K F.pp L H3 (bkT hs ms b) v:=rv.mv ((m2.trans m3).up ML)
 have rL':=rL
 simp only [Rep,Reps] at rL'
 obtain ⟨a0,_,rfl,ha0,_,_,rfl,⟨a1,_,rfl,ha1,_,_,rfl,⟨lh,ys,rfl,lhL,lhp,hlh,ry⟩,_,_,rfl,⟨lm,xs,rfl,lmL,lmp,hlm,rx⟩,rfl⟩,vb,_,rfl,rb,rfl⟩:=rL'
 have sgi:(σ.set i (some (.ref a0)))[i]? = some (some (.ref a0)):=List.getElem?_set_self (by omega)
 refine ⟨.ref a0,sgi,a0,[.ref a1,vb],0,.ref a1,rfl,rfl,ha0,rfl,a1,[.ref lh,.ref lm],rfl,ha1,rfl,.ref lh,_,rfl,.ref lm,_,rfl,rfl,?_⟩
 have hjm:(((σ.set i (some (.ref a0))).set jh (some (.ref lh))).set jm (some (.ref lm)))[jm]? = some (some (.ref lm)):=List.getElem?_set_self (by simp; omega)
 have hjh:(((σ.set i (some (.ref a0))).set jh (some (.ref lh))).set jm (some (.ref lm)))[jh]? = some (some (.ref lh)):=by
  rw [List.getElem?_set_ne (Ne.symm n3')]
  exact List.getElem?_set_self (by simp; omega)
 have rlh:Rep X.K F.pp L H3 (.lst (hs.map .str)) (.ref lh):=by
  simp only [Rep]
  exact ⟨lh,ys,rfl,lhL,lhp,hlh,ry⟩
 have rlm:Rep X.K F.pp L H3 (.lst (ms.map mkT)) (.ref lm):=by
  simp only [Rep]
  exact ⟨lm,xs,rfl,lmL,lmp,hlm,rx⟩
 have rsL:=(((rs3.lbox hL).set rL i).set rlh jh).set rlm jm
 rw [List.set_set,List.map_set,List.set_set] at rsL
 refine r3 L H3 _ _ _ rsL (h3.mono _ _ _ (fun k ρ1 e M4 H4 m4 rs4=>?_) n3)
 obtain ⟨rfl,rfl⟩:=e
 refine iteF ?_
 refine r4 M4 H4 _ _ _ rs4 (h4.mono _ _ _ (fun k ρ1 e M5 H5 m5 rs5=>?_) n4)
 obtain ⟨rfl,rfl⟩:=e
 refine iteF ?_
 have m45:=m4.trans m5
 have J5:Jx X.K F.pp H L lh lm xs hs.length H5:=by
  refine ⟨rs5.sameT,(m45.oth lm _ hlm lmL (np lmp)).1,⟨ys,?_,(m45.oth lh _ hlh lhL (np lhp)).1⟩,fun x hx=>?_⟩
  ·have:=ry.length
   rw [List.length_map] at this
   omega
  ·obtain ⟨j,hj⟩:=List.mem_iff_getElem?.mp hx
   obtain ⟨d,hd,rd⟩:=rx.get hj
   rw [List.getElem?_map] at hd
   obtain ⟨m,hm,rfl⟩:=Option.map_eq_some_iff.mp hd
   simp only [Rep,Reps] at rd
   obtain ⟨t,_,rfl,ht,_,_,rfl,rfl,_,_,rfl,⟨lk,zs,rfl,lkL,lkp,hlk,rz⟩,rfl⟩:=rd
   have ez:=qN rz
   subst ez
   refine ⟨t,m.1,lk,m.2,rfl,m45.tup t _ ht,lkL,lkp,?_,(m45.oth lk _ hlk lkL (np lkp)).1⟩
   rintro rfl
   rw [hlm] at hlk
   injection hlk with hlk
   injection hlk with hlk
   rw [hlk] at hx
   obtain ⟨q,_,hq⟩:=List.mem_map.mp hx
   cases hq
 have toN:∀ {a:Addr},a∉L->H a=none:=fun {a} ha=>by
  cases e:H a with
  | none=>rfl
  | some o=>exact absurd ((hL a).mpr (by rw [e]; intro z; cases z)) ha
 refine ⟨.ref lm,hjm,lm,rfl,⟨xs,SqL.of J5.m⟩,fun k m σ' H'=>m=xs.length - k /\ k <= xs.length /\ Jx X.K F.pp H L lh lm xs hs.length H' /\ (∀ Hx,RSt X.K F M Hx σ ρ->RSt X.K F M Hx σ' ((((ρ.set i .nil).set jh .nil).set jm .nil).set jk .nil)) /\ σ'[jm]? = some (some (.ref lm)) /\ σ'[jh]? = some (some (.ref lh)) /\ σ'.length=ρ.length,
  ⟨xs.length,rfl,Nat.zero_le _,J5,fun Hx r=>(((r.setNil i).setNil jh).setNil jm).nilAt jk,hjm,hjh,by simp [sl]⟩,?_⟩
 rintro k m σ' H' ⟨rfl,hk',J,sh,gm',gh',sl'⟩
 by_cases hlt:k < xs.length
 ·refine .inr ⟨⟨xs,xs[k],SqL.of J.m,by simp⟩,fun σ2 H2'=>Jx X.K F.pp H L lh lm xs hs.length H2' /\ (∀ Hx,RSt X.K F M Hx σ ρ->RSt X.K F M Hx σ2 ((((ρ.set i .nil).set jh .nil).set jm .nil).set jk .nil)) /\ σ2[jm]? = some (some (.ref lm)) /\ σ2[jh]? = some (some (.ref lh)) /\ σ2.length=ρ.length,fun σ2 H2' c=>⟨xs.length - (k + 1),by omega,rfl,hlt,c⟩,fun x H2' y=>?_⟩
  obtain ⟨rfl,hy⟩:=y
  have ex:=hy xs (SqL.of J.m)
  obtain ⟨t,nm,lk,zs,rfl,ht,lkL,lkp,lkm,hlk⟩:=J.k x (List.mem_of_getElem? ex)
  have rt:Rep X.K F.pp L H2' (.tup [.str nm,.lst (zs.map .str)]) (.ref t):=by
   simp only [Rep,Reps]
   exact ⟨t,_,rfl,ht,_,_,rfl,rfl,_,_,rfl,⟨lk,_,rfl,lkL,lkp,hlk,nU zs⟩,rfl⟩
  have rsk:=(RSt.bare (ρ:=ρ) hL J.s (J.s.tb rs.lk.t) rs.liv.p sl').set rt jk
  refine r5 L H2' _ _ _ rsk (h5.mono _ _ _ (fun k ρ1 e M6 H6 m6 rs6=>?_) (n5 nm _))
  obtain ⟨rfl,rfl⟩:=e
  refine iteF ?_
  have hjk:(σ'.set jk (some (.ref t)))[jk]? = some (some (.ref t)):=List.getElem?_set_self (by omega)
  have hlk6:=(m6.oth lk _ hlk lkL (np lkp)).1
  refine ⟨.ref t,hjk,t,_,1,.ref lk,rfl,rfl,m6.tup t _ ht,rfl,.inl ⟨rfl,_,SqL.of hlk6⟩,lk,_,rfl,rfl,hlk6,?_,fun Hx r=>?_,?_,?_,by simp [sl']⟩
  ·have lmL':=(m6.oth lm _ J.m lmL (np lmp)).1
   obtain ⟨ys',hys,eys⟩:=J.h
   have lh6:=(m6.oth lh _ eys lhL (np lhp)).1
   refine ⟨rs6.sameT.writeNew (toN lkL) hlk6 lkp,by rw [ah (Ne.symm lkm)]; exact lmL',?_,fun x hx=>?_⟩
   ·by_cases q:lh=lk
    ·subst q
     exact ⟨[],Nat.zero_le _,ai⟩
    ·exact ⟨ys',hys,by rw [ah q]; exact lh6⟩
   ·obtain ⟨t',nm',lk',zs',rfl,ht',lkL',lkp',lkm',hlk'⟩:=J.k x hx
    refine ⟨t',nm',lk',if lk'=lk then [] else zs',rfl,?_,lkL',lkp',lkm',?_⟩
    ·rw [ah (by rintro rfl; rw [ht'] at hlk; cases hlk)]
     exact m6.tup t' _ ht'
    ·by_cases q:lk'=lk
     ·subst q
      rw [ai,if_pos rfl]
      rfl
     ·rw [ah q,if_neg q]
      exact (m6.oth lk' _ hlk' lkL' (np lkp')).1
  ·have:=(sh Hx r).setNil (o:=some (.ref t)) jk
   rw [List.set_set] at this
   exact this
  ·rw [List.getElem?_set_ne (Ne.symm n5')]
   exact gm'
  ·rw [List.getElem?_set_ne (Ne.symm n4')]
   exact gh'
 ·refine .inl ⟨⟨xs,SqL.of J.m,by omega⟩,?_⟩
  obtain ⟨ys',hys,eys⟩:=J.h
  refine ⟨.ref lh,gh',.inl ⟨rfl,ys',SqL.of eys⟩,lh,ys',.str w,rfl,rfl,eys,Nat.lt_of_le_of_lt (Nat.le_trans hys hlen) (by decide),?_⟩
  have s7:=J.s.writeNew (zs:=ys'++[.str w]) (toN lhL) eys lhp
  obtain ⟨zs,hz⟩:∃ zs,(upd H' lh (.lst (ys'++[.str w]))) lm=some (.lst zs):=by
   by_cases q:lm=lh
   ·subst q
    exact ⟨_,ai⟩
   ·exact ⟨xs,by rw [ah q]; exact J.m⟩
  refine ⟨.ref lm,gm',.inl ⟨rfl,zs,SqL.of hz⟩,lm,zs,rfl,rfl,hz,?_⟩
  have s8:=s7.writeNew (zs:=[]) (toN lmL) hz lmp
  exact rr M _ σ' _ E D (sh _ (rs.sameP s8)) (o.mv s8.mv) hE
end
end DL
namespace My
open PySem L2
def top (i:Nat):Stmt:=PySem.Challenge.pw_othersum_k51_books_written_and_read.main.body.getD i (.Pass ⟨0,0,0,0⟩)
abbrev ii:Stmt:=top 4
theorem sc_together:FnScope ["counts","tried","well"] ["counts"] (ak ii):=bZ
abbrev bG:Stmt:=top 5
theorem fq:FnScope ["many","rows"] ["many","rows"] (ak bG):=bZ
abbrev ij:Stmt:=top 11
theorem sc_gathered:FnScope ["many","pairs","found","kinds","counts","cells"] ["many","pairs"] (ak ij):=bZ
abbrev ik:Stmt:=top 12
theorem pJ:FnScope ["counts"] ["counts"] (ak ik):=bZ
abbrev cI:Stmt:=top 13
theorem sc_counts_of_row:FnScope ["row","many","counts"] ["row","many"] (ak cI):=bZ
abbrev uK:Stmt:=top 17
theorem sc_show:FnScope ["names","book","lines","name","kinds","counts","words","house","count"] ["names","book"] (ak uK):=bZ
abbrev uL:Stmt:=top 18
theorem sc_read:FnScope ["text","lines","marks","names","many","pairs","book"] ["text"] (ak uL):=bZ
abbrev ci:Stmt:=top 19
theorem im:FnScope ["words"] ["words"] (ak ci):=bZ
abbrev io:Stmt:=top 20
theorem sc_marks_of:FnScope ["lines","marks","words"] ["lines"] (ak io):=bZ
abbrev db:Stmt:=top 21
theorem jS:FnScope ["words","taken"] ["words","taken"] (ak db):=bZ
abbrev jT:Stmt:=top 22
theorem sc_rows_of:FnScope ["lines","names","rows","line","row"] ["lines","names"] (ak jT):=bZ
abbrev fP:Stmt:=top 23
theorem nV:FnScope ["row","other"] ["row","other"] (ak fP):=bZ
abbrev ma:Stmt:=top 24
theorem sc_row_of:FnScope ["words","names","kinds","word","mark","tried","well"] ["words","names"] (ak ma):=bZ
abbrev fQ:Stmt:=top 25
theorem nW:FnScope ["words"] ["words"] (ak fQ):=bZ
abbrev jU:Stmt:=top 26
theorem rS:FnScope ["word"] ["word"] (ak jU):=bZ
abbrev fR:Stmt:=top 27
theorem nX:FnScope ["word"] ["word"] (ak fR):=bZ
abbrev ip:Stmt:=top 29
theorem pK:FnScope ["_law_script"] ["_law_script"] (ak ip):=bZ
abbrev fS:Stmt:=top 30
theorem sc__law_next:FnScope ["_law_pen_here","_law_many","_law_script","_law_turn","_law_left","_law_cell","_law_number"] ["_law_pen_here","_law_many"] (ak fS):=bZ
abbrev eu:Stmt:=top 31
theorem sc__law_count:FnScope ["_law_pen_here","_law_way","_law_tried","_law_well"] ["_law_pen_here"] (ak eu):=bZ
abbrev eA:Stmt:=top 32
theorem sc__law_words:FnScope ["_law_pen_here","_law_many","_law_letters","_law_turn","_law_stem","_law_found","_law_k","_law_size","_law_odd"] ["_law_pen_here","_law_many"] (ak eA):=bZ
abbrev eB:Stmt:=top 33
theorem sc__law_named:FnScope ["_law_pen_here","_law_houses","_law_marks","_law_word"] ["_law_pen_here"] (ak eB):=bZ
abbrev eC:Stmt:=top 34
theorem sc__law_cells:FnScope ["_law_pen_here","_law_names","_law_houses","_law_marks","_law_cells_here","_law_turn","_law_kinds","_law_counts"] ["_law_pen_here","_law_names"] (ak eC):=bZ
abbrev fT:Stmt:=top 35
theorem sc__law_text:FnScope ["_law_names","_law_cells_here","_law_houses","_law_marks","_law_lines","_law_word","_law_some","_law_kinds","_law_counts","_law_told","_law_house","_law_count_here","_law_numbers"] ["_law_names","_law_cells_here"] (ak fT):=bZ
abbrev bN:Stmt:=top 36
theorem sc__law_kinds_right:FnScope ["_law_book","_law_many","_law_marks","_law_cells_here","_law_numbers","_law_cell","_law_count_here"] ["_law_book"] (ak bN):=bZ
abbrev eD:Stmt:=top 37
theorem sc__law_right:FnScope ["_law_names","_law_book","_law_text_here","_law_found","_law_houses","_law_marks","_law_mark"] ["_law_names","_law_book","_law_text_here"] (ak eD):=bZ
abbrev yS:Stmt:=top 38
theorem sc_law:FnScope ["_law_script","_law_pen_here","_law_turn","_law_names","_law_cells_here","_law_book","_law_text_here","_law_handed","_law_found"] ["_law_script"] (ak yS):=bZ
set_option genInjectivity false in
set_option genSizeOf false in
structure Tx (K:PySem.W.Frag) (mg:Str->Option Value) where
 iu:Addr
 gg:FuncData
 dE:Df K mg "together" ii ["counts"] iu gg
 bI:Addr
 bC:FuncData
 aN:Df K mg "together_by_house" bG ["many","rows"] bI bC
 fm:Addr
 dM:FuncData
 dw:Df K mg "gathered" ij ["many","pairs"] fm dM
 ix:Addr
 ge:FuncData
 dF:Df K mg "is_tried" ik ["counts"] ix ge
 cN:Addr
 ck:FuncData
 bu:Df K mg "counts_of_row" cI ["row","many"] cN ck
 vp:Addr
 pZ:FuncData
 iL:Df K mg "show" uK ["names","book"] vp pZ
 vt:Addr
 pX:FuncData
 eM:Df K mg "read" uL ["text"] vt pX
 cj:Addr
 bV:FuncData
 bc:Df K mg "is_houses_line" ci ["words"] cj bV
 iz:Addr
 gc:FuncData
 dD:Df K mg "marks_of" io ["lines"] iz gc
 de:Addr
 cL:FuncData
 bE:Df K mg "is_mark_line" db ["words","taken"] de cL
 kt:Addr
 iw:FuncData
 fe:Df K mg "rows_of" jT ["lines","names"] kt iw
 fZ:Addr
 eO:FuncData
 cO:Df K mg "is_behind" fP ["row","other"] fZ eO
 my:Addr
 kq:FuncData
 gK:Df K mg "row_of" ma ["words","names"] my kq
 gb:Addr
 eU:FuncData
 bp:Df K mg "are_names" fQ ["words"] gb eU
 kr:Addr
 iy:FuncData
 cc:Df K mg "is_name" jU ["word"] kr iy
 ga:Addr
 eY:FuncData
 bq:Df K mg "is_number" fR ["word"] ga eY
 iA:Addr
 fX:FuncData
 dA:Df K mg "_law_pen" ip ["_law_script"] iA fX
 dR:Addr
 cV:FuncData
 ad:Df K mg "_law_next" fS ["_law_pen_here","_law_many"] dR cV
 eK:Addr
 dO:FuncData
 cg:Df K mg "_law_count" eu ["_law_pen_here"] eK dO
 eS:Addr
 dN:FuncData
 aE:Df K mg "_law_words" eA ["_law_pen_here","_law_many"] eS dN
 eL:Addr
 dP:FuncData
 ce:Df K mg "_law_named" eB ["_law_pen_here"] eL dP
 eP:Addr
 dQ:FuncData
 cf:Df K mg "_law_cells" eC ["_law_pen_here","_law_names"] eP dQ
 fY:Addr
 eX:FuncData
 cP:Df K mg "_law_text" fT ["_law_names","_law_cells_here"] fY eX
 bP:Addr
 bH:FuncData
 aR:Df K mg "_law_kinds_right" bN ["_law_book"] bP bH
 eN:Addr
 dS:FuncData
 aY:Df K mg "_law_right" eD ["_law_names","_law_book","_law_text_here"] eN dS
 zj:Addr
 vq:FuncData
 Bp:Df K mg "law" yS ["_law_script"] zj vq
 oI:mg "ValueError" = none
 wD:mg "sum" = none
 aW:mg "tuple" = none
 Bo:mg "any" = none
 cM:mg "len" = none
 eZ:mg "range" = none
 zk:mg "zip" = none
 wF:mg "int" = none
 gf:mg "enumerate" = none
 au:mg "isinstance" = none
 pY:mg "str" = none
 wE:mg "all" = none
 eR:mg "list" = none
 mz:mg "sorted" = none
 Bq:mg "set" = none
 xJ:mg "bool" = none
 br:Tok
 fc:mg "LEAST_HOUSES" = some (.int 2 br)
 bD:Tok
 fA:mg "MOST_HOUSES" = some (.int 6 bD)
 bO:Tok
 gJ:mg "MOST_MARKS" = some (.int 5 bO)
 bQ:Tok
 gI:mg "MOST_KINDS" = some (.int 6 bQ)
 bo:Tok
 eV:mg "LONGEST_NAME" = some (.int 8 bo)
 bn:Tok
 eQ:mg "MOST_FIGURES" = some (.int 30 bn)
open DL
section
variable {P:Program} {w:World} {K:PySem.W.Frag} {mg:Str->Option Value} {base:Heap}
theorem pL (T:Tx K mg):FnOk P w K mg base CX0 1 T.iA T.fX ["_law_script"] (wP K):=by
 refine T.dA.F.ok pK (fun vs H Q E h=>?_) (fun cdv A outer s H vs Q E hr h=>?_)
 ·obtain ⟨a,ns,rfl,_⟩:=h
  rfl
 ·obtain ⟨a,ns,rfl,hs,k⟩:=h
  refine ⟨_,(dW (mC (sM (aP (pv 0) (aP ba (aP ba bL)))))),?_⟩
  refine ⟨_,rfl,(by show (3:Nat) <= sizeLine; decide),fun p hp=>?_⟩
  refine k p _ hp ⟨ai,?_,Int.le_refl 0⟩ (qh hp)
  rcases hs with ⟨o,e⟩ | e
  ·exact .inl ⟨o,fG hp e⟩
  ·exact .inr e
theorem nY (T:Tx K mg):FnOk P w K mg base CX0 1 T.dR T.cV ["_law_pen_here","_law_many"] (sZ K):=by
 refine T.ad.F.ok sc__law_next (fun vs H Q E h=>?_) (fun cdv A outer s H vs Q E hr h=>?_)
 ·obtain ⟨p,a,ns,t,l,m,rfl,_⟩:=h
  rfl
 ·obtain ⟨p,a,ns,t,l,m,rfl,pen,m1,m2,k⟩:=h
  refine ⟨_,(aA (kF (pv 0) (zY rfl (ff (fB (i:=2) sc__law_next.nd rfl (Or.inl rfl)) (ff (fB (i:=3) sc__law_next.nd rfl (Or.inl rfl)) (ff (fB (i:=4) sc__law_next.nd rfl (Or.inl rfl)) oK)))))
   (aA (ld (jg BC (pv 4) ba (aH _)) (aA (kF (cr jf (pv 3) ba) (sE (pv 0) ba lq))
   (aA (ld (PW.pt (zv (jg BF (pv 3) (gh bW rfl T.cM PySem.boot_len (aP (pv 2) bL)) (aH _)) (wH (jg BD (mK lg (pv 2) (pv 3) (fun _ _=>rfl)) (cr wJ ba ba) (aH _))))) (aA (dX (i:=5) sc__law_next.nd rfl (Or.inl rfl) ba)
   (aA (ld (jg zF (gh bW rfl T.cM PySem.boot_len (aP (pv 2) bL)) ba (aH _)) (dW (dX (i:=5) sc__law_next.nd rfl (Or.inl rfl) (cr iB (mK lg (pv 2) (cr iB (pv 3) (gh bW rfl T.cM PySem.boot_len (aP (pv 2) bL))) (fun _ _=>rfl)) ba))) dG)
   (aA (dX (i:=6) sc__law_next.nd rfl (Or.inl rfl) (cr iB (cr gO (cr jf (cr jf (pv 5) (cr gO ba (pv 3))) ba) ba) ba))
   (aA (dX (i:=6) sc__law_next.nd rfl (Or.inl rfl) (cr iB (cr jf (cr jf (cr gO (pv 6) (pv 6)) (cr gO ba (pv 3))) ba) ba))
   (dW (mC (cr iB (cr lE (cr iB (cr gO (pv 6) (cr jf (pv 6) ba)) ba) ba) (pv 1)))))))) dG)
   (dW (dX (i:=4) sc__law_next.nd rfl (Or.inl rfl) (mK lg (pv 2) (pv 3) (fun _ _=>rfl)))))) dG)
   (aA (kF (cr lE (pv 4) (pv 1)) (sE (pv 0) ba lq))
   (dW (mC (cr iB (pv 4) (pv 1))))))),?_⟩
  have ht:=pen.t0
  have hm:(0:Int) < m:=by omega
  -- the pen's three parts
  refine ⟨_,rfl,p,_,rfl,pen.lst,rfl,_,_,rfl,_,_,rfl,_,_,rfl,rfl,?_⟩
  -- if left == 0
  refine ⟨_,rfl,rfl,_,rfl,?_⟩
  refine ite2 (fun hl=>?_) (fun hl=>?_)
  ·-- pen[1]=turn + 1
   refine ⟨_,rfl,_,_,rfl,rfl,_,rfl,p,_,1,1,rfl,rfl,pen.lst,rfl,?_⟩
   have pen1:Pen K (upd H p (.lst [.ref a,.int (t + 1),.int l])) p a ns (t + 1) l:=pen.put (by omega)
   have sq:=pen1.scr.sq
   -- if turn >= len(script) or script[turn] < 10 ** 18
   refine ⟨_,rfl,_,rfl,a,_,rfl,.inl sq,_,_,rfl,rfl,_,rfl,?_⟩
   refine ite2 (fun h1=>iteT ?_) (fun h1=>⟨_,rfl,_,rfl,a,_,t,_,rfl,rfl,sq,sW ht (by simp only [decide_eq_true_eq,List.length_map] at h1; omega),_,_,rfl,rfl,⟨by decide,by decide,by decide⟩,_,_,rfl,rfl,_,rfl,ite2 (fun h2=>?_) (fun h2=>?_)⟩)
   rotate_left 2
   ·-- left=script[turn]; pen[2]=left // many; return left % many
    simp only [decide_eq_true_eq,List.length_map] at h1
    refine ⟨_,rfl,_,rfl,a,_,t,_,rfl,rfl,sq,sW ht (by omega),?_⟩
    refine ⟨_,rfl,_,rfl,_,_,rfl,rfl,⟨hm,tj (by omega) (by omega)⟩,_,rfl,p,_,2,2,rfl,rfl,pen1.lst,rfl,?_⟩
    refine ⟨_,rfl,_,rfl,_,_,rfl,rfl,hm,?_⟩
    exact k _ (t + 1) _ _ (Int.emod_nonneg _ (by omega)) (Int.emod_lt_of_pos _ hm) (pen1.put (by omega)) (SBut.upd.trans SBut.upd)
   all_goals
    -- cell = ..; if len(script) > 0: cell=script[turn % len(script)] % ..
    refine ⟨_,rfl,a,_,rfl,.inl sq,_,_,rfl,rfl,_,rfl,?_⟩
    refine ite2 (fun h3=>?_) (fun h3=>?_)
    ·simp only [decide_eq_true_eq,List.length_map] at h3
     refine ⟨_,rfl,_,rfl,_,rfl,a,_,rfl,.inl sq,_,_,rfl,rfl,(by show (0:Int) < ((ns.map V.int).length:Int); rw [List.length_map]; omega),a,_,_,_,rfl,rfl,sq,sW (by rw [List.length_map]; exact Int.emod_nonneg _ (by omega)) (by rw [List.length_map]; exact Int.emod_lt_of_pos _ (by omega)),_,_,rfl,rfl,mpos,?_⟩
     refine ⟨_,rfl,_,rfl,_,_,rfl,rfl,vI,_,_,rfl,rfl,_,_,rfl,rfl,_,_,rfl,rfl,Aa,_,_,rfl,rfl,mpos,?_⟩
     refine ⟨_,rfl,_,rfl,_,_,rfl,rfl,lG (by decide) (by decide),_,rfl,_,_,rfl,rfl,vI,_,_,rfl,rfl,_,_,rfl,rfl,_,_,rfl,rfl,mpos,?_⟩
     refine ⟨_,rfl,_,rfl,_,_,rfl,rfl,_,_,rfl,rfl,lG (by decide) (by decide),_,_,rfl,rfl,mpos,_,_,rfl,rfl,⟨by decide,jw (by decide) (by decide)⟩,_,rfl,_,_,rfl,rfl,hm,?_⟩
     exact k _ (t + 1) _ _ (Int.emod_nonneg _ (by omega)) (Int.emod_lt_of_pos _ hm) pen1 SBut.upd
    ·refine ⟨_,rfl,_,rfl,_,_,rfl,rfl,vI,_,_,rfl,rfl,_,_,rfl,rfl,_,_,rfl,rfl,Aa,_,_,rfl,rfl,mpos,?_⟩
     refine ⟨_,rfl,_,rfl,_,_,rfl,rfl,lG (by decide) (by decide),_,rfl,_,_,rfl,rfl,vI,_,_,rfl,rfl,_,_,rfl,rfl,_,_,rfl,rfl,mpos,?_⟩
     refine ⟨_,rfl,_,rfl,_,_,rfl,rfl,_,_,rfl,rfl,lG (by decide) (by decide),_,_,rfl,rfl,mpos,_,_,rfl,rfl,⟨by decide,jw (by decide) (by decide)⟩,_,rfl,_,_,rfl,rfl,hm,?_⟩
     exact k _ (t + 1) _ _ (Int.emod_nonneg _ (by omega)) (Int.emod_lt_of_pos _ hm) pen1 SBut.upd
  ·-- pen[2]=left // many; return left % many
   refine ⟨_,rfl,_,rfl,_,_,rfl,rfl,⟨hm,tj (by omega) (by omega)⟩,_,rfl,p,_,2,2,rfl,rfl,pen.lst,rfl,?_⟩
   refine ⟨_,rfl,_,rfl,_,_,rfl,rfl,hm,?_⟩
   exact k _ t _ _ (Int.emod_nonneg _ (by omega)) (Int.emod_lt_of_pos _ hm) (pen.put ht) SBut.upd
theorem aw (T:Tx K mg):FnOk P w K mg base CX0 1 T.dR T.cV ["_law_pen_here","_law_many"] (spD K 2 rK):=yu (nY T)
theorem ax:bR rK:=tK
def bx (c:Int×Int):D:=.tup [.int c.1,.int c.2]
def gTog:DSp:=fun ds Q=>match ds with
 | [.lst xs]=>∃ cs:List (Int×Int),xs=cs.map bx /\ cs.length <= 1000 /\ Q (.tup [.int (cs.map (·.1)).sum,.int (cs.map (·.2)).sum])
 | [.tup xs]=>∃ cs:List (Int×Int),xs=cs.map bx /\ cs.length <= 1000 /\ Q (.tup [.int (cs.map (·.1)).sum,.int (cs.map (·.2)).sum])
 | _=>False
theorem rT:bR gTog:=fun ds P P' f h=>by
 unfold gTog at h ⊢
 split at h
 ·obtain ⟨cs,a,b,h⟩:=h
  exact ⟨cs,a,b,f _ h⟩
 ·obtain ⟨cs,a,b,h⟩:=h
  exact ⟨cs,a,b,f _ h⟩
 ·exact h.elim
theorem AZ (cs:List (Int×Int)):(cs.map bx).map (fun d=>match d with | .tup (x::_)=>x | _=>.non)=(cs.map (·.1)).map D.int:=by
 rw [List.map_map,List.map_map]; rfl
theorem yT (cs:List (Int×Int)):(cs.map bx).map (fun d=>match d with | .tup [_,x]=>x | _=>.non)=(cs.map (·.2)).map D.int:=by
 rw [List.map_map,List.map_map]; rfl
theorem Cm {cs:List (Int×Int)} {s:Sl} {Q:List D->Prop} (hc:cs.length <= 1000) (hq:Q ((cs.map (·.1)).map D.int)):cH (cF 0) bU (dOp gIx (dVar 0) (dC (.int 0))) (cs.map bx) [] [s] Q:=by
 refine aQ (fun d=>match d with | .tup (x::_)=>x | _=>.non) (fun ρ=>∃ s,ρ=[s]) ?_ (fun d hd ρ Y Z hN hY=>?_) _ ⟨_,rfl⟩ ?_
 ·rw [List.length_map]; exact Nat.le_trans hc (by decide)
 ·obtain ⟨s,rfl⟩:=hN
  obtain ⟨c,_,rfl⟩:=List.mem_map.mp hd
  exact Br.t (hY _ ⟨_,rfl⟩)
 ·rw [AZ]; exact hq
theorem Cn {cs:List (Int×Int)} {s:Sl} {Q:List D->Prop} (hc:cs.length <= 1000) (hq:Q ((cs.map (·.2)).map D.int)):cH (cF 0) bU (dOp gIx (dVar 0) (dC (.int 1))) (cs.map bx) [] [s] Q:=by
 refine aQ (fun d=>match d with | .tup [_,x]=>x | _=>.non) (fun ρ=>∃ s,ρ=[s]) ?_ (fun d hd ρ Y Z hN hY=>?_) _ ⟨_,rfl⟩ ?_
 ·rw [List.length_map]; exact Nat.le_trans hc (by decide)
 ·obtain ⟨s,rfl⟩:=hN
  obtain ⟨c,_,rfl⟩:=List.mem_map.mp hd
  exact Br.t (hY _ ⟨_,rfl⟩)
 ·rw [yT]; exact hq
theorem rV (T:Tx K mg):FnOk P w K mg base CX0 1 T.iu T.gg ["counts"] (spD K 1 gTog):=by
 refine fnD (k:=0) T.dE.F sc_together (fun cdv A outer s H E hr=>(af (aO (i:=1) sc_together.nd rfl oo (al tQ rfl T.wD PyProof.Rows.boot_sum (aa (aq (PCD.pld (aF (N':=["count"]) rfl rfl dk rfl (.own .nil) dk (wT (ab 0 (pv 0))) (fun B=>(aj (i:=0) ndB rfl oo)) (fun B=>aM) (fun B=>(ay (ab 0 (pv 0)) ae (fun _ _=>rfl)))))) ac)))
   (af (aO (i:=2) sc_together.nd rfl oo (al tQ rfl T.wD PyProof.Rows.boot_sum (aa (aq (PCD.pld (aF (N':=["count"]) rfl rfl dk rfl (.own .nil) dk (wT (ab 0 (pv 0))) (fun B=>(aj (i:=0) ndB rfl oo)) (fun B=>aM) (fun B=>(ay (ab 0 (pv 0)) ae (fun _ _=>rfl)))))) ac)))
   (ag (az (aX (aa (ab 1 (pv 1)) (aa (ab 2 (pv 2)) ac)))))))) (fun ds Q hl h=>?_)
 unfold gTog at h
 split at h
 case h_3=>exact h.elim
 all_goals
  obtain ⟨cs,rfl,hc,h⟩:=h
  refine Cm hc (lO ?_)
  refine Cn hc (lO ?_)
  exact ⟨sz,h⟩
structure Cnt (n:Nat) (t w:Int):Prop where
 lo:0 <= w
 hi:w <= t
 bt:Bd n t
 bw:Bd n w
theorem Cnt.mono {m n:Nat} {t w:Int} (h:Cnt m t w) (l:m <= n):Cnt n t w:=⟨h.lo,h.hi,h.bt.mono l,h.bw.mono l⟩
theorem uM {n:Nat} {t w:Int} (lo:0 <= w) (hi:w <= t) (b:Bd n t):Cnt n t w:=⟨lo,hi,b,b.le (by omega)⟩
abbrev Row:=List (Int×Int)
def rowD (r:Row):D:=.tup (r.map bx)
def RowN (n m:Nat) (r:Row):Prop:=r.length=m /\ ∀ c∈r,Cnt n c.1 c.2
abbrev yU (m:Nat) (r:Row):Prop:=RowN 200 m r
theorem RowN.up {n m:Nat} {r:Row} (o:RowN n m r) (h:n <= 200:=by decide):yU m r:=⟨o.1,fun c hc=>(o.2 c hc).mono h⟩
def at_ (r:Row) (h:Nat):Int×Int:=r.getD h (0,0)
def col (t:List Row) (h:Nat):List (Int×Int):=t.map fun r=>at_ r h
def sumP (cs:List (Int×Int)):Int×Int:=((cs.map (·.1)).sum,(cs.map (·.2)).sum)
def sums (t:List Row) (m:Nat):Row:=(List.range m).map fun h=>sumP (col t h)
theorem Ba {n m:Nat} {r:Row} (o:RowN n m r) {h:Nat} (hh:h < m):r[h]? = some (at_ r h) /\ Cnt n (at_ r h).1 (at_ r h).2:=by
 have hl:h < r.length:=by rw [o.1]; exact hh
 have e:r[h]? = some (at_ r h):=by
  unfold at_
  rw [List.getD_eq_getElem?_getD]
  simp [hl]
 exact ⟨e,o.2 _ (List.mem_of_getElem? e)⟩
theorem Bb {n m:Nat} {r:Row} (o:RowN n m r) {h:Int} {Q:D->Prop} (h0:0 <= h) (h1:h < m) (q:Q (bx (at_ r h.toNat))):opt (atI (r.map bx) h) Q:=by
 refine bS h0 ?_ q
 rw [List.getElem?_map,(Ba o (h:=h.toNat) (by omega)).1]
 rfl
theorem wm {m:Nat} {t:List Row} (ho:∀ r∈t,yU m r) (hl:t.length <= 1000) {h:Int} (h0:0 <= h) (h1:h < m) {s:Sl} {Q:List D->Prop} (q:Q ((col t h.toNat).map bx)) :
  cH (cF 0) bU (dOp gIx (dVar 0) (dVar 1)) (t.map rowD) [] [s,.val (.int h)] Q:=by
 refine bj (fun pre acc ρ=>∃ t0 t1:List Row,t=t0++t1 /\ pre=t0.map rowD /\ acc=(col t0 h.toNat).map bx /\ ∃ s,ρ=[s,.val (.int h)]) (fun acc ρ hN=>?_) (fun pre d post acc ρ Y e hN hY=>?_) _ ⟨[],t,rfl,rfl,rfl,_,rfl⟩
 ·obtain ⟨t0,t1,rfl,e,rfl,_⟩:=hN
  have:t1=[]:=by
   have:=congrArg List.length e
   simp at this
   exact this
  subst this
  simpa using q
 ·obtain ⟨t0,t1,rfl,rfl,rfl,s,rfl⟩:=hN
  rw [List.map_append] at e
  have e:=List.append_cancel_left e
  cases t1 with
  | nil=>simp at e
  | cons r t1 =>
   rw [List.map_cons] at e
   injection e with e1 e2
   subst e1
   have o:=ho r (by simp)
   refine Br.t (Bb o h0 h1 ⟨?_,hY _ _ ⟨t0++[r],t1,by simp,by simp,by simp [col],_,rfl⟩⟩)
   rw [List.length_map]
   unfold col
   rw [List.length_map]
   have:t0.length <= 1000:=by rw [List.length_append] at hl; omega
   exact Nat.lt_of_le_of_lt this (by decide)
def gTbh:DSp:=fun ds Q=>match ds with
 | [.int m,.lst xs]=>∃ (n:Nat) (t:List Row),m=n /\ xs=t.map rowD /\ (n <= 6 /\ t.length <= 1000 /\ ∀ r∈t,yU n r) /\ Q (rowD (sums t n))
 | _=>False
theorem fU:bR gTbh:=fun ds P P' f h=>by
 unfold gTbh at h ⊢
 split at h
 ·obtain ⟨n,t,a,b,c,h⟩:=h
  exact ⟨n,t,a,b,c,f _ h⟩
 ·exact h.elim
theorem eE:∀ (n:Nat) (lo:Int),ee lo n=(List.range n).map fun (i:Nat)=>D.int (lo + i)
 | 0,_=>rfl
 | n + 1,lo=>by
  rw [List.range_succ_eq_map,List.map_cons,List.map_map,ee,eE n (lo + 1)]
  congr 1
  ·simp
  ·apply List.map_congr_left
   intro i _
   simp only [Function.comp]
   congr 1
   omega
theorem fV (T:Tx K mg):FnOk P w K mg base CX0 2 T.bI T.bC ["many","rows"] (spD K 2 gTbh):=by
 refine fnD (k:=1) T.aN.F fq (fun cdv A outer s H E hr=>(ag (az (aK cu rfl T.aW rfl (aa (aq (PCD.pld (aF (N':=["house","rows"]) rfl rfl dk rfl (.own (.cap (j:=1) rfl oo rfl .nil)) dk (dn rfl T.eZ (aa (ab 0 (pv 0)) ac)) (fun B=>(aj (i:=0) ndB rfl oo)) (fun B=>aM) (fun B=>(ao (rV T) rT (rm hr) rfl T.dE.m T.dE.F.kp T.dE.b (aa (aq (PCD.pld (aF (N':=["row","house"]) rfl rfl dk rfl (.own (.cap (j:=0) rfl oo rfl .nil)) dk (aS (ab 1 (pv 1))) (fun B=>(aj (i:=0) ndB rfl oo)) (fun B=>aM) (fun B=>(ay (ab 0 (pv 0)) (ab 1 (pv 1)) (fun _ _=>rfl)))))) ac)))))) ac))))) (fun ds Q hl h=>?_)
 unfold gTbh at h
 split at h
 case h_2=>exact h.elim
 obtain ⟨n,t,rfl,rfl,⟨h6,h1000,ho⟩,h⟩:=h
 refine ⟨⟨by omega,by omega⟩,?_⟩
 rw [Int.toNat_natCast]
 refine aQ (fun d=>match d with | .int i=>bx (sumP (col t i.toNat)) | _=>.non) (fun ρ=>∃ s,ρ=[s,.val (.lst (t.map rowD))]) ?_ (fun d hd ρ Y Z hN hY=>?_) _ ⟨_,rfl⟩ ?_
 ·rw [eE,List.length_map,List.length_range]
  exact Nat.le_trans h6 (by decide)
 ·obtain ⟨s,rfl⟩:=hN
  rw [eE] at hd
  obtain ⟨i,hi,rfl⟩:=List.mem_map.mp hd
  have hi:=List.mem_range.mp hi
  refine Br.t (wm ho h1000 (by omega) (by omega) ⟨rfl,col t (0 + (i:Int)).toNat,rfl,?_,hY _ ⟨_,rfl⟩⟩)
  unfold col
  rw [List.length_map]
  exact h1000
 ·show Q (.tup (List.map _ (ee 0 n)))
  have e:(ee 0 n).map (fun d=>match d with | .int i=>bx (sumP (col t i.toNat)) | _=>.non)=(sums t n).map bx:=by
   rw [eE,List.map_map]
   unfold sums
   rw [List.map_map]
   apply List.map_congr_left
   intro i _
   show bx (sumP (col t (0 + (i:Int)).toNat))=bx (sumP (col t i))
   congr 3
   omega
  rw [e]
  exact h
def kI (ks:List Int):List Key:=ks.map .inl
def gD (ks:List Int):D:=.tup (ks.map .int)
theorem iq (ks:List Int):gD ks=keyD (kI ks):=by
 unfold keyD kI gD
 rw [List.map_map]
 rfl
theorem qO {a b:List Int} (h:kI a=kI b):a=b:=by
 unfold kI at h
 exact (List.map_inj_right (fun _ _ e=>Sum.inl.inj e)).mp h
theorem rW {a b:List Int}:(kI a=kI b)↔a=b:=⟨qO,fun e=>by rw [e]⟩
theorem qP (ks:List Int):rM (kI ks):=fun x hx=>by
 obtain ⟨i,_,rfl⟩:=List.mem_map.mp hx
 exact ⟨i,rfl⟩
def addG (k:List Int) (r:Row):List (List Int×List Row)->List (List Int×List Row)
 | []=>[(k,[r])]
 | p::t=>if p.1=k then (p.1,p.2++[r])::t else p::addG k r t
def grp (ps:List (List Int×Row)):List (List Int×List Row):=ps.foldl (fun g p=>addG p.1 p.2 g) []
theorem qQ (ps:List (List Int×Row)) (p:List Int×Row):grp (ps++[p])=addG p.1 p.2 (grp ps):=by
 unfold grp
 rw [List.foldl_append]
 rfl
def emb (g:List (List Int×List Row)):List (List Key×List D):=g.map fun p=>(kI p.1,p.2.map rowD)
def embV (g:List (List Int×List Row)):List (List Key×D):=g.map fun p=>(kI p.1,.lst (p.2.map rowD))
theorem uN (k:List Int) (r:Row):∀ g,kB (kI k) (rowD r) (emb g)=emb (addG k r g)
 | []=>rfl
 | p::t=>by
  show kB (kI k) (rowD r) ((kI p.1,p.2.map rowD)::emb t)=_
  unfold kB addG
  by_cases e:p.1=k
  ·rw [if_pos (show (kI p.1,p.2.map rowD).1=kI k by rw [e]),if_pos e]
   simp [emb]
  ·rw [if_neg (show ¬ (kI p.1,p.2.map rowD).1=kI k from fun z=>e (qO z)),if_neg e,uN k r t]
   rfl
theorem iZ (k:List Int) (r:Row):∀ g:List (List Int×List Row),(addG k r g).map (·.1)=if k∈g.map (·.1) then g.map (·.1) else g.map (·.1)++[k]
 | []=>rfl
 | p::t=>by
  unfold addG
  by_cases e:p.1=k
  ·rw [if_pos e,if_pos (by simp [e])]
   rfl
  ·rw [if_neg e,List.map_cons,iZ k r t]
   by_cases m:k∈t.map (·.1)
   ·rw [if_pos m,if_pos (by rw [List.map_cons]; exact List.mem_cons_of_mem _ m),List.map_cons]
   ·rw [if_neg m,if_neg (by rw [List.map_cons]; intro z; rcases List.mem_cons.mp z with z | z; exact e z.symm; exact m z),List.map_cons]
    rfl
structure GOk (C:List Int->Prop) (R:Row->Prop) (n:Nat) (g:List (List Int×List Row)):Prop where
 nd:(g.map (·.1)).Nodup
 it:∀ p∈g,C p.1 /\ p.2≠[] /\ p.2.length <= n /\ ∀ r∈p.2,R r
 len:g.length <= n
theorem GOk.add {C:List Int->Prop} {R:Row->Prop} {n:Nat} {g:List (List Int×List Row)} (h:GOk C R n g) {k:List Int} {r:Row} (hk:C k) (hr:R r):GOk C R (n + 1) (addG k r g):=by
 refine ⟨?_,?_,?_⟩
 ·rw [iZ]
  split
  ·exact h.nd
  ·rename_i m
   refine List.nodup_append.mpr ⟨h.nd,by simp,fun a ha b hb e=>?_⟩
   rw [List.mem_singleton.mp hb] at e
   exact m (e ▸ ha)
 ·have key:∀ g:List (List Int×List Row),(∀ p∈g,C p.1 /\ p.2≠[] /\ p.2.length <= n /\ ∀ r∈p.2,R r)->∀ p∈addG k r g,C p.1 /\ p.2≠[] /\ p.2.length <= n + 1 /\ ∀ r∈p.2,R r:=by
   intro g
   induction g with
   | nil =>
    intro _ p hp
    rw [List.mem_singleton.mp hp]
    exact ⟨hk,by simp,by simp,fun x hx=>by rw [List.mem_singleton.mp hx]; exact hr⟩
   | cons q t ih =>
    intro h p hp
    unfold addG at hp
    split at hp
    ·rcases List.mem_cons.mp hp with rfl | hp
     ·have:=h q List.mem_cons_self
      refine ⟨this.1,by simp,by simp; exact this.2.2.1,fun x hx=>?_⟩
      rcases List.mem_append.mp hx with hx | hx
      ·exact this.2.2.2 x hx
      ·rw [List.mem_singleton.mp hx]; exact hr
     ·have:=h p (List.mem_cons_of_mem _ hp)
      exact ⟨this.1,this.2.1,Nat.le_succ_of_le this.2.2.1,this.2.2.2⟩
    ·rcases List.mem_cons.mp hp with rfl | hp
     ·have:=h p List.mem_cons_self
      exact ⟨this.1,this.2.1,Nat.le_succ_of_le this.2.2.1,this.2.2.2⟩
     ·exact ih (fun p hp=>h p (List.mem_cons_of_mem _ hp)) p hp
  exact key g h.it
 ·have:=congrArg List.length (iZ k r g)
  rw [List.length_map] at this
  rw [this]
  split
  ·rw [List.length_map]; exact Nat.le_succ_of_le h.len
  ·rw [List.length_append,List.length_map]; simp; exact h.len
theorem xh {C:List Int->Prop} {R:Row->Prop}:∀ (ps:List (List Int×Row)),(∀ p∈ps,C p.1 /\ R p.2)->GOk C R ps.length (grp ps):=by
 intro ps
 generalize hn:ps.length=n
 induction n generalizing ps with
 | zero =>
  intro _
  have:ps=[]:=List.length_eq_zero_iff.mp hn
  subst this
  exact ⟨List.nodup_nil,fun p hp=>by simp [grp] at hp,Nat.zero_le _⟩
 | succ n ih =>
  intro h
  obtain ⟨qs,p,rfl⟩:∃ qs p,ps=qs++[p]:=⟨ps.dropLast,ps.getLast (by intro z; rw [z] at hn; simp at hn),(List.dropLast_concat_getLast _).symm⟩
  rw [qQ]
  have hp:=h p (by simp)
  exact (ih qs (by simp at hn; exact hn) fun q hq=>h q (by simp [hq])).add hp.1 hp.2
def cJ (g:List (List Int×List Row)) (k:List Int):List Row:=((g.find? fun p=>decide (p.1=k)).map (·.2)).getD []
theorem yV {g:List (List Int×List Row)} {k:List Int} (h:k∈g.map (·.1)):∃ p∈g,p.1=k /\ cJ g k=p.2 /\ ic (embV g) (kI k)=some (.lst (p.2.map rowD)):=by
 induction g with
 | nil=>simp at h
 | cons q t ih =>
  by_cases e:q.1=k
  ·refine ⟨q,List.mem_cons_self,e,?_,?_⟩
   ·unfold cJ
    rw [List.find?_cons_of_pos (by simpa using e)]
    rfl
   ·unfold ic embV
    rw [List.map_cons,List.find?_cons_of_pos (by simpa [rW] using e)]
    rfl
  ·have h':k∈t.map (·.1):=by
    rw [List.map_cons] at h
    rcases List.mem_cons.mp h with h | h
    ·exact absurd h.symm e
    ·exact h
   obtain ⟨p,h1,h2,h3,h4⟩:=ih h'
   refine ⟨p,List.mem_cons_of_mem _ h1,h2,?_,?_⟩
   ·unfold cJ at h3 ⊢
    rw [List.find?_cons_of_neg (by simpa using e)]
    exact h3
   ·unfold ic embV at h4 ⊢
    rw [List.map_cons,List.find?_cons_of_neg (by simpa [rW] using e)]
    exact h4
def dJ (ks:List (List Int)):List (List Int):=if ks.length < 2 then ks else (kRun (fun i j=>lexI ((ks.map kI).getD i []) ((ks.map kI).getD j [])) (PySem.W.kas_sort ks.length)).toList.map fun i=>ks.getD i []
theorem jV (ks:List (List Int)) (i:Nat):(ks.map kI).getD i []=kI (ks.getD i []):=by
 rw [List.getD_eq_getElem?_getD,List.getD_eq_getElem?_getD,List.getElem?_map]
 cases ks[i]? <;> rfl
theorem uO (ks:List (List Int)):srtK (ks.map kI)=(dJ ks).map kI:=by
 unfold srtK dJ
 rw [List.length_map]
 split
 ·rfl
 ·rw [List.map_map]
  apply List.map_congr_left
  intro i _
  exact jV ks i
theorem bJ (ks:List (List Int)):(dJ ks).Perm ks:=by
 unfold dJ
 split
 ·exact List.Perm.refl _
 ·exact nL (KGood.end _ _ (dq (by omega)))
def bd (c:List Int×Row):D:=.tup [gD c.1,rowD c.2]
def bz (m:Nat) (ps:List (List Int×Row)):List (List Int×Row):=(dJ ((grp ps).map (·.1))).map fun k=>(k,sums (cJ (grp ps) k) m)
def kW (r:Row):Prop:=∃ c∈r,0 < c.1
theorem xj (ds:List D):fzOs (ds.map O.val)=ds:=by
 induction ds with
 | nil=>rfl
 | cons d r ih=>simp only [List.map_cons,fzOs,fzO,ih]
theorem Co (g:List (List Int×List Row)):fzO (dlO (emb g)) = .dT ((embV g).map (·.1)) ((embV g).map (·.2)):=by
 unfold dlO emb embV
 simp only [fzO]
 refine congr (congrArg D.dT ?_) ?_
 ·rw [List.map_map,List.map_map]
  rfl
 ·rw [lI,List.map_map,List.map_map,List.map_map]
  apply List.map_congr_left
  intro p _
  simp only [Function.comp,fzO,xj]
theorem uP {l:Nat} {ks:List (List Int)} (nd:ks.Nodup) (hl:∀ k∈ks,k.length=l) (h2:2 <= ks.length):∀ k∈ks,k≠[]:=by
 intro k hk z
 subst z
 have l0:l=0:=(hl [] hk).symm
 subst l0
 match ks,nd,hl,h2 with
 | a::b::r,nd,hl,_ =>
  have ha:a=[]:=List.length_eq_zero_iff.mp (hl a (by simp))
  have hb:b=[]:=List.length_eq_zero_iff.mp (hl b (by simp))
  subst ha hb
  simp at nd
 | [_],_,_,h2=>simp at h2
 | [],_,_,h2=>simp at h2
def ltI:List Int->List Int->Bool
 | [],[]=>false
 | [],_::_=>true
 | _::_,[]=>false
 | a::r,b::r'=>if a=b then ltI r r' else decide (a < b)
theorem jW:∀ a b:List Int,lexI (kI a) (kI b)=ltI a b
 | [],[]=>rfl
 | [],_::_=>rfl
 | _::_,[]=>rfl
 | a::r,b::r'=>by
  show (if a=b then lexI (kI r) (kI r') else decide (a < b))=if a=b then ltI r r' else decide (a < b)
  rw [jW r r']
theorem me:∀ a:List Int,ltI a a=false
 | []=>rfl
 | a::r=>by
  show (if a=a then ltI r r else _)=_
  rw [if_pos rfl]
  exact me r
theorem uQ:∀ a b c:List Int,ltI a b=true->ltI b c=true->ltI a c=true
 | [],[],_,h,_=>by cases h
 | [],_::_,[],_,h=>by cases h
 | [],_::_,_::_,_,_=>rfl
 | _::_,[],_,h,_=>by cases h
 | _::_,_::_,[],_,h=>by cases h
 | a::r,b::s,c::t,h1,h2=>by
  unfold ltI at h1 h2 ⊢
  by_cases e1:a=b
  ·rw [if_pos e1] at h1
   subst e1
   by_cases e2:a=c
   ·rw [if_pos e2] at h2 ⊢
    exact uQ r s t h1 h2
   ·rw [if_neg e2] at h2 ⊢
    exact h2
  ·rw [if_neg e1] at h1
   have h1:=of_decide_eq_true h1
   by_cases e2:b=c
   ·subst e2
    rw [if_neg e1]
    exact decide_eq_true h1
   ·rw [if_neg e2] at h2
    have h2:=of_decide_eq_true h2
    rw [if_neg (by omega)]
    exact decide_eq_true (by omega)
theorem xk {a b:List Int} (h:ltI a b=true):ltI b a=false:=by
 cases e:ltI b a with
 | false=>rfl
 | true =>
  have:=uQ a b a h e
  rw [me] at this
  cases this
theorem xm:∀ a b:List Int,a≠b->ltI a b=false->ltI b a=true
 | [],[],h,_=>absurd rfl h
 | [],_::_,_,h=>by cases h
 | _::_,[],_,_=>rfl
 | a::r,b::s,h,e=>by
  unfold ltI at e ⊢
  by_cases z:a=b
  ·subst z
   rw [if_pos rfl] at e ⊢
   exact xm r s (fun z=>h (by rw [z])) e
  ·rw [if_neg z] at e
   rw [if_neg (Ne.symm z)]
   have:=of_decide_eq_false e
   exact decide_eq_true (by omega)
theorem jb {ks:List (List Int)} (nd:ks.Nodup):(dJ ks).Pairwise fun a b=>ltI a b=true:=by
 unfold dJ
 by_cases h:ks.length < 2
 ·rw [if_pos h]
  match ks,h with
  | [],_=>exact .nil
  | [_],_=>exact List.pairwise_singleton _ _
 ·rw [if_neg h]
  have gd:∀ i,i < ks.length->ks[i]? = some (ks.getD i []):=fun i hi=>by simp [hi]
  have O:StrO ks.length (fun i j=>lexI ((ks.map kI).getD i []) ((ks.map kI).getD j [])):=by
   refine ⟨fun i j k _ _ _ h1 h2=>?_,fun i j _ _ h1=>?_,fun i j hi hj e h1=>?_⟩
   ·simp only [jV,jW] at *
    exact uQ _ _ _ h1 h2
   ·simp only [jV,jW] at *
    exact xk h1
   ·simp only [jV,jW] at *
    refine xm _ _ (fun z=>e ?_) h1
    have e1:ks.getD i []=ks[i]:=by simp [hi]
    have e2:ks.getD j []=ks[j]:=by simp [hj]
    rw [e1,e2] at z
    exact (List.getElem_inj nd).mp z
  have pm:=KGood.end (fun i j=>lexI ((ks.map kI).getD i []) ((ks.map kI).getD j [])) _ (dq (N:=ks.length) (by omega))
  have as:=wa O (by omega)
  have sz:=pm.size
  generalize kRun (fun i j=>lexI ((ks.map kI).getD i []) ((ks.map kI).getD j [])) (PySem.W.kas_sort ks.length)=p at pm as sz
  rw [List.pairwise_map,List.pairwise_iff_getElem]
  intro i j hi hj hij
  have:=as i j hij (by rw [Array.length_toList] at hj; omega)
  simp only [jV,jW] at this
  rw [Array.length_toList] at hi hj
  have e1:p.getD i 0=p[i]:=by simp [Array.getD,hi]
  have e2:p.getD j 0=p[j]:=by simp [Array.getD,hj]
  rw [e1,e2] at this
  simpa using this
theorem yW:∀ {xs ys:List (List Int)},xs.Pairwise (fun a b=>ltI a b=true)->ys.Pairwise (fun a b=>ltI a b=true)->(∀ k,k∈xs↔k∈ys)->xs=ys
 | [],[],_,_,_=>rfl
 | [],y::ys,_,_,h=>absurd ((h y).mpr List.mem_cons_self) (by simp)
 | x::xs,[],_,_,h=>absurd ((h x).mp List.mem_cons_self) (by simp)
 | x::xs,y::ys,hx,hy,h=>by
  obtain ⟨hx1,hx2⟩:=List.pairwise_cons.mp hx
  obtain ⟨hy1,hy2⟩:=List.pairwise_cons.mp hy
  have exy:x=y:=by
   rcases List.mem_cons.mp ((h x).mp List.mem_cons_self) with e | e
   ·exact e
   ·rcases List.mem_cons.mp ((h y).mpr List.mem_cons_self) with e' | e'
    ·exact e'.symm
    ·have a:=hy1 x e
     have b:=hx1 y e'
     rw [xk a] at b
     cases b
  subst exy
  have ni:∀ {zs:List (List Int)},(∀ z∈zs,ltI x z=true)->x∉zs:=fun hz m=>by
   have:=hz x m
   rw [me] at this
   cases this
  rw [yW hx2 hy2 fun k=>⟨fun hk=>?_,fun hk=>?_⟩]
  ·rcases List.mem_cons.mp ((h k).mp (List.mem_cons_of_mem _ hk)) with rfl | e
   ·exact absurd hk (ni hx1)
   ·exact e
  ·rcases List.mem_cons.mp ((h k).mpr (List.mem_cons_of_mem _ hk)) with rfl | e
   ·exact absurd hk (ni hy1)
   ·exact e
theorem uR {xs ys:List (List Int)} (hx:xs.Nodup) (hy:ys.Nodup) (h:∀ k,k∈xs↔k∈ys):dJ xs=dJ ys :=
 yW (jb hx) (jb hy) fun k=>by rw [(bJ xs).mem_iff,(bJ ys).mem_iff]; exact h k
theorem uS (ps:List (List Int×Row)):((grp ps).map (·.1)).Nodup:=(xh (C:=fun _=>True) (R:=fun _=>True) ps fun _ _=>⟨trivial,trivial⟩).nd
theorem qR (k:List Int) (r:Row) (k':List Int):∀ g:List (List Int×List Row),cJ (addG k r g) k'=if k=k' then cJ g k'++[r] else cJ g k'
 | []=>by
  unfold addG cJ
  by_cases e:k=k'
  ·rw [if_pos e,List.find?_cons_of_pos (by simpa using e)]
   rfl
  ·rw [if_neg e,List.find?_cons_of_neg (by simpa using e)]
 | p::t=>by
  have ih:=qR k r k' t
  unfold addG
  unfold cJ at ih ⊢
  by_cases e:p.1=k
  ·rw [if_pos e]
   by_cases e2:k=k'
   ·rw [if_pos e2,List.find?_cons_of_pos (by simp [e,e2]),List.find?_cons_of_pos (by simp [e,e2])]
    rfl
   ·rw [if_neg e2,List.find?_cons_of_neg (by simp [e,e2]),List.find?_cons_of_neg (by simp [e,e2])]
  ·rw [if_neg e]
   by_cases e2:p.1=k'
   ·rw [List.find?_cons_of_pos (by simpa using e2),List.find?_cons_of_pos (by simpa using e2),if_neg (fun z=>e (by rw [e2,z]))]
   ·rw [List.find?_cons_of_neg (by simpa using e2),List.find?_cons_of_neg (by simpa using e2)]
    exact ih
theorem ir (ps:List (List Int×Row)) (k:List Int):cJ (grp ps) k=(ps.filter fun p=>decide (p.1=k)).map (·.2):=by
 have key:∀ (qs:List (List Int×Row)) g,cJ (qs.foldl (fun g (p:List Int×Row)=>addG p.1 p.2 g) g) k=cJ g k++(qs.filter fun p=>decide (p.1=k)).map (·.2):=by
  intro qs
  induction qs with
  | nil=>intro g; simp
  | cons q t ih =>
   intro g
   rw [List.foldl_cons,ih,qR]
   by_cases e:q.1=k
   ·rw [if_pos e,List.filter_cons_of_pos (by simpa using e),List.map_cons,List.append_assoc]
    rfl
   ·rw [if_neg e,List.filter_cons_of_neg (by simpa using e)]
 rw [grp,key]
 rfl
theorem mf (ps:List (List Int×Row)) (k:List Int):k∈(grp ps).map (·.1)↔k∈ps.map (·.1):=by
 have key:∀ (qs:List (List Int×Row)) g,k∈(qs.foldl (fun g (p:List Int×Row)=>addG p.1 p.2 g) g).map (·.1)↔k∈g.map (·.1)∨k∈qs.map (·.1):=by
  intro qs
  induction qs with
  | nil=>intro g; simp
  | cons q t ih =>
   intro g
   rw [List.foldl_cons,ih,iZ,List.map_cons,List.mem_cons]
   by_cases m:q.1∈g.map (·.1)
   ·rw [if_pos m]
    constructor
    ·rintro (h | h)
     ·exact .inl h
     ·exact .inr (.inr h)
    ·rintro (h | h | h)
     ·exact .inl h
     ·exact .inl (h ▸ m)
     ·exact .inr h
   ·rw [if_neg m,List.mem_append,List.mem_singleton]
    constructor
    ·rintro ((h | h) | h)
     ·exact .inl h
     ·exact .inr (.inl h)
     ·exact .inr (.inr h)
    ·rintro (h | h | h)
     ·exact .inl (.inl h)
     ·exact .inl (.inr h)
     ·exact .inr h
 rw [grp,key]
 simp
theorem rX {m:Nat} {ps qs:List (List Int×Row)} (hk:∀ k,k∈ps.map (·.1)↔k∈qs.map (·.1)) (hs:∀ k∈ps.map (·.1),sums ((ps.filter fun p=>decide (p.1=k)).map (·.2)) m=sums ((qs.filter fun p=>decide (p.1=k)).map (·.2)) m):bz m ps=bz m qs:=by
 unfold bz
 rw [uR (uS ps) (uS qs) fun k=>by rw [mf,mf]; exact hk k]
 apply List.map_congr_left
 intro k h
 have h:k∈ps.map (·.1):=by
  rw [(bJ _).mem_iff,mf] at h
  exact (hk k).mpr h
 rw [ir,ir,hs k h]
def kX (r:Row):Bool:=(r.map fun c=>decide (0 < c.1)).any id
theorem triedB_iff {r:Row}:kX r=true↔kW r:=by
 unfold kX kW
 rw [List.any_eq_true]
 constructor
 ·rintro ⟨b,hb,e⟩
  obtain ⟨c,hc,rfl⟩:=List.mem_map.mp hb
  exact ⟨c,hc,by simpa using e⟩
 ·rintro ⟨c,hc,hp⟩
  exact ⟨true,List.mem_map.mpr ⟨c,hc,by simpa using hp⟩,rfl⟩
def qS:DSp:=fun ds Q=>match ds with
 | [.tup xs]=>∃ r:Row,xs=r.map bx /\ r.length <= 1000 /\ Q (.bl (kX r))
 | _=>False
theorem rY:bR qS:=fun ds P P' f h=>by
 unfold qS at h ⊢
 split at h
 ·obtain ⟨r,a,b,h⟩:=h
  exact ⟨r,a,b,f _ h⟩
 ·exact h.elim
theorem rZ (T:Tx K mg):FnOk P w K mg base CX0 1 T.ix T.ge ["counts"] (spD K 1 qS):=by
 refine fnD (k:=0) T.dF.F pJ (fun cdv A outer s H E hr=>(ag (az (al Ay rfl T.Bo PyProof.Rows.boot_any (aa (aq (PCD.pld (aF (N':=["count"]) rfl rfl dk rfl (.own .nil) dk (nv (ab 0 (pv 0))) (fun B=>(aj (i:=0) ndB rfl oo)) (fun B=>aM) (fun B=>(dZ pA (ay (ab 0 (pv 0)) ae (fun _ _=>rfl)) ae (aH _)))))) ac))))) (fun ds Q hl h=>?_)
 unfold qS at h
 split at h
 case h_2=>exact h.elim
 obtain ⟨r,rfl,hl,h⟩:=h
 refine aQ (fun d=>match d with | .tup (.int t::_)=>.bl (decide (0 < t)) | _=>.non) (fun ρ=>∃ s,ρ=[s]) (by rw [List.length_map]; exact Nat.le_trans hl (by decide)) (fun d hd ρ Y Z hN hY=>?_) _ ⟨_,rfl⟩ ?_
 ·obtain ⟨s,rfl⟩:=hN
  obtain ⟨c,_,rfl⟩:=List.mem_map.mp hd
  exact Br.t (hY _ ⟨_,rfl⟩)
 ·have e:(r.map bx).map (fun d=>match d with | .tup (.int t::_)=>D.bl (decide (0 < t)) | _=>.non)=(r.map fun c=>decide (0 < c.1)).map D.bl:=by
   rw [List.map_map,List.map_map]
   rfl
  rw [e]
  exact jN h
def gath (n:Nat) (ps:List (List Int×Row)):List (List Int×Row):=(bz n ps).filter fun c=>kX c.2
def nZ:DSpN:=fun ds _ L=>match ds with
 | [.int m,.lst xs]=>∃ (n:Nat) (ps:List (List Int×Row)) (l:Nat),m=n /\ xs=ps.map bd /\ (n <= 6 /\ ps.length <= 60 /\ ∀ p∈ps,p.1.length=l /\ RowN 110 n p.2) /\ L ((gath n ps).map bd)
 | _=>False
theorem jX:Ar nZ:=fun ds P P' L L' f fl h=>by
 unfold nZ at h ⊢
 split at h
 ·obtain ⟨n,ps,l,a,b,c,h⟩:=h
  exact ⟨n,ps,l,a,b,c,fl _ h⟩
 ·exact h.elim
theorem pM (T:Tx K mg):FnOk P w K mg base CX0 3 T.fm T.dM ["many","pairs"] (spDN K 2 nZ):=by
 refine fnDN (k:=2) T.dw.F sc_gathered (fun cdv A outer s H E hr=>(qt (uf (i:=2) sc_gathered.nd rfl oo)
   (yx (cm PassesOwn.never rfl (aS (ab 1 (pv 1))) (bX (n:=2) rfl (ar (aj (i:=3) sc_gathered.nd rfl oo) (ar (aj (i:=4) sc_gathered.nd rfl oo) bi))) (ag (AK hr (pv 2) (pv 3) (pv 4))))
   (qt (gX (i:=5) sc_gathered.nd rfl rfl (aF (N':=["kinds","many","found"]) rfl rfl dk rfl (.own (.cap (j:=0) rfl oo rfl (.cap (j:=2) rfl oo rfl .nil))) dk (aS (al qC rfl T.mz dk (aa (ab 2 (pv 2)) ac))) (fun B=>(aj (i:=0) ndB rfl oo)) (fun B=>aM) (fun B=>(aX (aa (ab 0 (pv 0)) (aa (ao (fV T) fU (rm hr) rfl T.aN.m T.aN.F.kp T.aN.b (aa (ab 1 (pv 1)) (aa (wX hr (ab 2 (pv 2)) (ab 0 (pv 0)) (fun _ _=>rfl)) ac))) ac))))))
   (yw (PCD.pld (aF (N':=["cell"]) rfl rfl dk rfl (.own .nil) dk (aS (ab 5 (pv 5))) (fun B=>(aj (i:=0) ndB rfl oo)) (fun B=>(tP (aU (ao (rZ T) rY (rm hr) rfl T.dF.m T.dF.F.kp T.dF.b (aa (ay (ab 0 (pv 0)) ae (fun _ _=>rfl)) ac))))) (fun B=>(ab 0 (pv 0)))))))))) (fun ds Q L hl h=>?_)
 unfold nZ at h
 split at h
 case h_2=>exact h.elim
 obtain ⟨n,ps,l,rfl,rfl,⟨n6,p60,hps⟩,h⟩:=h
 have gok:∀ qs:List (List Int×Row),(∀ p∈qs,p∈ps)->GOk (fun k=>k.length=l) (fun r=>RowN 110 n r) qs.length (grp qs):=fun qs hq=>xh qs fun p hp=>hps p (hq p hp)
 refine ⟨fun ρ=>∃ a b:Sl,ρ=[.val (.int n),.val (.lst (ps.map bd)),.obj (dlO (emb (grp ps))),a,b,.nil],?_,?_⟩
 ·refine bb (fun pre ρ=>∃ p0 p1:List (List Int×Row),ps=p0++p1 /\ pre=p0.map bd /\ ∃ a b:Sl,ρ=[.val (.int n),.val (.lst (ps.map bd)),.obj (dlO (emb (grp p0))),a,b,.nil]) (fun ρ hN=>?_) (fun pre d post ρ X e hN hX=>?_) _ ⟨[],ps,rfl,rfl,_,_,rfl⟩
  ·obtain ⟨p0,p1,rfl,e,a,b,rfl⟩:=hN
   have:p1=[]:=by
    have:=congrArg List.length e
    simp at this
    exact this
   subst this
   rw [List.append_nil]
   exact ⟨a,b,rfl⟩
  ·obtain ⟨p0,p1,rfl,rfl,a,b,rfl⟩:=hN
   rw [List.map_append] at e
   have e:=List.append_cancel_left e
   cases p1 with
   | nil=>simp at e
   | cons p p1 =>
    rw [List.map_cons] at e
    injection e with e1 e2
    subst e1
    have go:=gok p0 fun q hq=>by simp [hq]
    have pl:p0.length <= 60:=by rw [List.length_append] at p60; omega
    refine ⟨rfl,emb (grp p0),kI p.1,rowD p.2,rfl,?_,rfl,?_,fun q hq=>?_,hX _ ⟨p0++[p],p1,by simp,by simp,_,_,by rw [uN,← qQ]; rfl⟩⟩
    ·show Sl.val (gD p.1)=_
     rw [iq]
    ·unfold emb
     rw [List.length_map]
     exact Nat.lt_of_le_of_lt (show (grp p0).length <= 60 from Nat.le_trans go.len pl) (by decide)
    ·obtain ⟨q',hq',rfl⟩:=List.mem_map.mp hq
     rw [List.length_map]
     exact Nat.lt_of_le_of_lt (show q'.2.length <= 60 from Nat.le_trans (go.it q' hq').2.2.1 pl) (by decide)
 ·rintro _ ⟨a,b,rfl⟩
  have go:=gok ps fun q hq=>hq
  have hk:(emb (grp ps)).map (·.1)=((grp ps).map (·.1)).map kI:=by unfold emb; rw [List.map_map,List.map_map]; rfl
  have kl:((grp ps).map (·.1)).length <= 60:=by rw [List.length_map]; exact Nat.le_trans go.len p60
  have kln:∀ k∈(grp ps).map (·.1),k.length=l:=fun k hk=>by
   obtain ⟨p,hp,rfl⟩:=List.mem_map.mp hk
   exact (go.it p hp).1
  have sl:(dJ ((grp ps).map (·.1))).length <= 60:=by rw [(bJ _).length_eq]; exact kl
  refine ⟨⟨fun k hk'=>?_,fun h2 k hk'=>?_,?_⟩,?_⟩
  ·rw [hk] at hk'
   obtain ⟨k',_,rfl⟩:=List.mem_map.mp hk'
   exact qP k'
  ·rw [hk] at h2 hk'
   rw [List.length_map] at h2
   obtain ⟨k',hk2,rfl⟩:=List.mem_map.mp hk'
   intro z
   exact uP go.nd kln h2 k' hk2 (qO (b:=[]) z)
  ·rw [hk,List.length_map]
   omega
  ·have e1:(srtK ((emb (grp ps)).map (·.1))).map keyD=(dJ ((grp ps).map (·.1))).map gD:=by
    rw [hk,uO,List.map_map]
    apply List.map_congr_left
    intro k _
    exact (iq k).symm
   show cH _ _ _ ((srtK ((emb (grp ps)).map (·.1))).map keyD) _ _ _
   rw [e1]
   refine bj (fun pre acc ρ=>∃ k0 k1:List (List Int),dJ ((grp ps).map (·.1))=k0++k1 /\ pre=k0.map gD /\ acc=(k0.map fun k=>(k,sums (cJ (grp ps) k) n)).map bd /\ ∃ s:Sl,ρ=[s,.val (.int n),.val (fzO (dlO (emb (grp ps))))]) (fun acc ρ hN=>?_) (fun pre d post acc ρ Y e hN hY=>?_) _ ⟨[],_,rfl,rfl,rfl,_,rfl⟩
   ·obtain ⟨k0,k1,e,e2,rfl,s,rfl⟩:=hN
    have:k1=[]:=by
     have:=congrArg List.length e2
     rw [e] at this
     simp at this
     exact this
    subst this
    rw [List.append_nil] at e
    rw [← e]
    have epl:((dJ ((grp ps).map (·.1))).map fun k=>(k,sums (cJ (grp ps) k) n))=bz n ps:=rfl
    rw [epl]
    have pll:(bz n ps).length <= 60:=by unfold bz; rw [List.length_map]; exact sl
    refine bj (fun pre acc ρ=>∃ c0 c1:List (List Int×Row),bz n ps=c0++c1 /\ pre=c0.map bd /\ acc=(c0.filter fun c=>kX c.2).map bd /\ ∃ s:Sl,ρ=[s]) (fun acc ρ hN=>?_) (fun pre d post acc ρ Y e hN hY=>?_) _ ⟨[],_,rfl,rfl,rfl,_,rfl⟩
    ·obtain ⟨c0,c1,e3,e4,rfl,s,rfl⟩:=hN
     have:c1=[]:=by
      have:=congrArg List.length e4
      rw [e3] at this
      simp at this
      exact this
     subst this
     rw [List.append_nil] at e3
     rw [← e3]
     exact h
    ·obtain ⟨c0,c1,e3,rfl,rfl,s,rfl⟩:=hN
     rw [e3,List.map_append] at e
     have e:=List.append_cancel_left e
     cases c1 with
     | nil=>simp at e
     | cons c c1 =>
      rw [List.map_cons] at e
      injection e with e1 e2
      subst e1
      rw [e3,List.length_append] at pll
      have hc:c∈bz n ps:=by rw [e3]; simp
      have hcl:c.2.length <= 1000:=by
       obtain ⟨k,_,rfl⟩:=List.mem_map.mp hc
       show (sums _ n).length <= 1000
       unfold sums
       rw [List.length_map,List.length_range]
       omega
      refine ⟨rfl,c.2,rfl,hcl,?_⟩
      cases z:kX c.2 with
      | true =>
       refine Br.t ⟨?_,hY _ _ ⟨c0++[c],c1,by rw [e3]; simp,by simp,by rw [List.filter_append,List.filter_cons_of_pos (by simpa using z)]; simp,_,rfl⟩⟩
       rw [List.length_map]
       exact Nat.lt_of_le_of_lt (show _ <= 60 from Nat.le_trans (List.length_filter_le _ _) (by omega)) (by decide)
      | false=>exact Br.f (hY _ _ ⟨c0++[c],c1,by rw [e3]; simp,by simp,by rw [List.filter_append,List.filter_cons_of_neg (by simp [z])]; simp,_,rfl⟩)
   ·obtain ⟨k0,k1,e3,rfl,rfl,s,rfl⟩:=hN
    rw [e3,List.map_append] at e
    have e:=List.append_cancel_left e
    cases k1 with
    | nil=>simp at e
    | cons k k1 =>
     rw [List.map_cons] at e
     injection e with e1 e2
     subst e1
     have hk':k∈dJ ((grp ps).map (·.1)):=by rw [e3]; simp
     obtain ⟨p,hp,_,h3,h4⟩:=yV ((bJ _).mem_iff.mp hk')
     have gp:=go.it p hp
     rw [e3,List.length_append] at sl
     refine Br.t ⟨embV (grp ps),kI k,.lst (p.2.map rowD),Co _,iq k,h4,rfl,n,p.2,rfl,rfl,⟨n6,Nat.le_trans gp.2.2.1 (by omega),fun r hr=>(gp.2.2.2 r hr).up⟩,sz,?_,hY _ _ ⟨k0++[k],k1,by rw [e3]; simp,by simp,by rw [List.map_append,List.map_append,← h3]; rfl,_,rfl⟩⟩
     rw [List.length_map,List.length_map]
     exact Nat.lt_of_le_of_lt (show k0.length <= 60 by omega) (by decide)
def Bc:DSp:=fun ds Q=>nZ ds Q fun es=>Q (.lst es)
theorem se:bR Bc:=fun ds P P' f h=>jX _ _ _ _ _ f (fun es q=>f _ q) h
theorem sf (T:Tx K mg):FnOk P w K mg base CX0 3 T.fm T.dM ["many","pairs"] (spD K 2 Bc):=DL.FnOk.asD (pM T) (fun ds Q h=>h) jX
def og (lo hi:Nat) (x:Str):Bool:=x.cps.toList.all fun c=>decide (lo <= c) && decide (c <= hi)
theorem uT (a c:Nat):(!decide ([c] < [a]))=decide (a <= c):=by
 by_cases h:a <= c
 ·rw [decide_eq_true h,decide_eq_false]
  ·rfl
  ·intro z
   cases z with
   | rel z=>exact absurd z (by omega)
   | cons z=>cases z
 ·rw [decide_eq_false h,decide_eq_true]
  ·rfl
  ·exact .rel (by omega)
theorem kY {a b:Nat} {s:Sl} {x:Str} {Q:List D->Prop} (hx:x.length <= 100000) (hq:Q (x.cps.toList.map fun c=>D.bl (decide (a <= c) && decide (c <= b)))) :
  cH (cF 0) bU (kK (g2S (fun _ _=>True) fun i j=>D.bl !decide (j.cps.toList < i.cps.toList)) (g2S (fun _ _=>True) fun i j=>D.bl !decide (j.cps.toList < i.cps.toList)) (dC (.str ⟨#[a]⟩)) (dVar 0) (dC (.str ⟨#[b]⟩))) (iY x) [] [s] Q:=by
 refine aQ (fun d=>match d with | .str y=>.bl (y.cps.toList.all fun c=>decide (a <= c) && decide (c <= b)) | _=>.non) (fun ρ=>∃ s,ρ=[s]) ?_ (fun d hd ρ Y Z hN hY=>?_) _ ⟨_,rfl⟩ ?_
 ·unfold iY
  rw [List.length_map,Array.length_toList]
  exact Nat.le_trans hx (by decide)
 ·obtain ⟨s,rfl⟩:=hN
  obtain ⟨c,_,rfl⟩:=List.mem_map.mp hd
  refine Br.t ⟨trivial,?_⟩
  show Br (!decide ([c] < [a])) _ _
  rw [uT]
  refine ⟨fun e=>⟨trivial,?_⟩,fun e=>?_⟩
  ·have:=hY [.val (.str ⟨#[c]⟩)] ⟨_,rfl⟩
   simp only [List.all_cons,List.all_nil,Bool.and_true,e,Bool.true_and] at this
   show Y (.bl (!decide ([b] < [c]))) _
   rw [uT]
   exact this
  ·have:=hY [.val (.str ⟨#[c]⟩)] ⟨_,rfl⟩
   simp only [List.all_cons,List.all_nil,Bool.and_true,e,Bool.false_and] at this
   exact this
 ·unfold iY
  rw [List.map_map]
  have e:((fun d:D=>match d with | .str y=>D.bl (y.cps.toList.all fun c=>decide (a <= c) && decide (c <= b)) | _=>.non) ∘ fun c=>D.str ⟨#[c]⟩)=fun c=>D.bl (decide (a <= c) && decide (c <= b)):=by
   funext c
   simp
  rw [e]
  exact hq
def isNm (x:Str):Bool:=decide (1 <= x.length) && decide (x.length <= 8) && og 97 122 x
theorem oh {a b:Nat} {x:Str} {P:D->Prop} (h:P (.bl (og a b x))):gTru (fun bs=>bs.all id) [.lst (x.cps.toList.map fun c=>D.bl (decide (a <= c) && decide (c <= b)))] P:=by
 have:=jN (f:=fun bs=>bs.all id) (bs:=x.cps.toList.map fun c=>decide (a <= c) && decide (c <= b)) (P:=P) (by
  rw [List.all_map]
  exact h)
 rw [List.map_map] at this
 exact this
def gName:DSp:=fun ds Q=>∃ x:Str,ds=[.str x] /\ x.length <= 100000 /\ Q (.bl (isNm x))
theorem oi:bR gName:=fun ds P P' f ⟨x,a,b,h⟩=>⟨x,a,b,f _ h⟩
theorem oj (T:Tx K mg):FnOk P w K mg base CX0 1 T.kr T.iy ["word"] (spD K 1 gName):=by
 refine fnD (k:=0) T.cc.F rS (fun cdv A outer s H E hr=>(ag (az (kJ (gt nD nD ae (al pH rfl T.cM PySem.boot_len (aa (ab 0 (pv 0)) ac)) (fj rfl T.eV)) (nu (al tW rfl T.wE PyProof.Rows.boot_all (aa (aq (PCD.pld (aF (N':=["sign"]) rfl rfl dk rfl (.own .nil) dk (xg (ab 0 (pv 0))) (fun B=>(aj (i:=0) ndB rfl oo)) (fun B=>aM) (fun B=>(gt qL qL aJ (ab 0 (pv 0)) aJ))))) ac))))))) (fun ds Q hl h=>?_)
 obtain ⟨x,rfl,hx,h⟩:=h
 unfold isNm at h
 refine ⟨(show x.length <= sizeLine from Nat.le_trans hx (by decide)),fun e1=>⟨fun e2=>?_,fun e2=>?_⟩,fun e1=>Br.f ?_⟩
 ·rw [decide_eq_true (p:=1 <= x.length) (by have:=of_decide_eq_true e1; omega),decide_eq_true (p:=x.length <= 8) (by have:=of_decide_eq_true e2; omega)] at h
  exact ⟨x,rfl,kY hx (oh h)⟩
 ·rw [decide_eq_false (p:=x.length <= 8) (by have:=of_decide_eq_false e2; omega),Bool.and_false] at h
  exact h
 ·rw [decide_eq_false (p:=1 <= x.length) (by have:=of_decide_eq_false e1; omega)] at h
  exact h
theorem jY {i j:Str}:eqD (.str i) (.str j)=decide (i=j):=by
 show (i == j)=_
 by_cases h:i=j <;> simp [h]
structure TxOk (x:Str):Prop where
 le:x.length <= 100000
 ok:PyData.strOk x=true
theorem cK {x:Str} (h:PyData.strOk x=true):shp (.str x)=true:=by
 show (true && (PyData.strOk x && decide (0 <= 64)))=true
 rw [h]
 rfl
theorem ok1 {c:Nat} (h:c < 1114112):PyData.strOk ⟨#[c]⟩=true:=by
 simp [PyData.strOk,h]
theorem xo {x:Str} (h:PyData.strOk x=true) {c:Nat} (hc:c∈x.cps.toList):c < 1114112:=by
 have:=Array.all_eq_true_iff_forall_mem.mp h c (Array.mem_toList_iff.mp hc)
 simpa using this
def yX:Str:=Str.ofString "0"
theorem at0 {z:Str} (h:1 <= z.length):∃ c,atI z.cps.toList 0=some c /\ z.cps.toList.head? = some c:=by
 obtain ⟨d,e1,e2⟩:=tM (xs:=z.cps.toList) (r:=0) (Int.le_refl 0) (by rw [Array.length_toList]; have:z.length=z.cps.size:=rfl; omega)
 exact ⟨d,e1,by rw [List.head?_eq_getElem?]; exact e2⟩
theorem one_eq {c d:Nat}:((⟨#[c]⟩:Str)=⟨#[d]⟩)↔c=d:=⟨fun h=>by injection h with h; simpa using h,fun h=>by rw [h]⟩
def ol (x:Str):Bool:=decide (1 <= x.length) && decide (x.length <= 30) && og 48 57 x && (decide (x=yX) || !decide (x.cps.toList.head? = some 48))
def gNum:DSp:=fun ds Q=>∃ x:Str,ds=[.str x] /\ TxOk x /\ Q (.bl (ol x))
theorem jZ:bR gNum:=fun ds P P' f ⟨x,a,b,h⟩=>⟨x,a,b,f _ h⟩
theorem kc (T:Tx K mg):FnOk P w K mg base CX0 1 T.ga T.eY ["word"] (spD K 1 gNum):=by
 refine fnD (k:=0) T.bq.F nX (fun cdv A outer s H E hr=>(af (cE (PWD.pt (dI (aV (qk nD nD ae (al pH rfl T.cM PySem.boot_len (aa (ab 0 (pv 0)) ac)) (fj rfl T.eQ))) (cz (aV (aU (al tW rfl T.wE PyProof.Rows.boot_all (aa (aq (PCD.pld (aF (N':=["sign"]) rfl rfl dk rfl (.own .nil) dk (xg (ab 0 (pv 0))) (fun B=>(aj (i:=0) ndB rfl oo)) (fun B=>aM) (fun B=>(gt qL qL aJ (ab 0 (pv 0)) aJ))))) ac))))))) (ag (az gQ)) aL)
   (ag (az (BR (dZ (jD hr) (ab 0 (pv 0)) aJ (aH _)) (nu (dZ (lM hr) (uG (ab 0 (pv 0)) ae (fun _ _=>rfl)) aJ (aH _)))))))) (fun ds Q hl h=>?_)
 obtain ⟨x,rfl,⟨hx,hok⟩,h⟩:=h
 unfold ol at h
 have hz:x.length <= sizeLine:=Nat.le_trans hx (by decide)
 refine ⟨hz,fun e1=>?_,fun e1=>Br.t (Br.t ?_)⟩
 ·have e1:=of_decide_eq_true e1
  rw [decide_eq_true (p:=1 <= x.length) (by omega)] at h
  by_cases e2:x.length <= 30
  ·rw [decide_eq_true e2] at h
   have e3:decide (((x.length:Nat):Int) <= 30)=true:=decide_eq_true (by omega)
   show Br (!decide (((x.length:Nat):Int) <= 30)) _ _
   rw [e3]
   refine Br.f ⟨x,rfl,kY hx (oh ?_)⟩
   show Br (!og 48 57 x) _ _
   cases e4:og 48 57 x with
   | false =>
    rw [e4] at h
    exact Br.t h
   | true =>
    rw [e4] at h
    refine Br.f ⟨⟨cK hok,cK dk⟩,?_⟩
    show Br (eqD (.str x) (.str yX)) _ _
    rw [jY]
    refine ⟨fun e5=>?_,fun e5=>?_⟩
    ·rw [e5] at h
     exact h
    ·rw [e5] at h
     obtain ⟨c,c1,c2⟩:=at0 (z:=x) (by omega)
     refine ⟨hz,c,c1,⟨cK (ok1 (xo hok (List.mem_of_mem_head? c2))),cK dk⟩,?_⟩
     show Q (.bl (!eqD (.str ⟨#[c]⟩) (.str ⟨#[48]⟩)))
     rw [jY]
     rw [c2] at h
     have:decide ((⟨#[c]⟩:Str)=⟨#[48]⟩)=decide (some c=some 48):=by
      by_cases q:c=48
      ·subst q; simp
      ·rw [decide_eq_false (fun z=>q (one_eq.mp z)),decide_eq_false (fun z=>q (Option.some.inj z))]
     rw [this]
     exact h
  ·rw [decide_eq_false e2] at h
   have e3:decide (((x.length:Nat):Int) <= 30)=false:=decide_eq_false (by omega)
   show Br (!decide (((x.length:Nat):Int) <= 30)) _ _
   rw [e3]
   exact Br.t (Br.t h)
 ·have e1:=of_decide_eq_false e1
  rw [decide_eq_false (p:=1 <= x.length) (by omega)] at h
  exact h
def nmsB (ws:List Str):Bool:=ws.all isNm && decide ((metS ws).length=ws.length)
def xp:DSp:=fun ds Q=>∃ ws:List Str,ds=[.lst (ws.map .str)] /\ ws.length <= 1000 /\ (∀ x∈ws,x.length <= 100000) /\ Q (.bl (nmsB ws))
theorem kd:bR xp:=fun ds P P' f ⟨x,a,b,c,h⟩=>⟨x,a,b,c,f _ h⟩
theorem kf (T:Tx K mg):FnOk P w K mg base CX0 2 T.gb T.eU ["words"] (spD K 1 xp):=by
 refine fnD (k:=1) T.bp.F nW (fun cdv A outer s H E hr=>(ag (az (kJ (al tW rfl T.wE PyProof.Rows.boot_all (aa (aq (PCD.pld (aF (N':=["word"]) rfl rfl dk rfl (.own .nil) dk (aS (ab 0 (pv 0))) (fun B=>(aj (i:=0) ndB rfl oo)) (fun B=>aM) (fun B=>(ao (oj T) oi (rm hr) rfl T.cc.m T.cc.F.kp T.cc.b (aa (ab 0 (pv 0)) ac)))))) ac)) (nu (dZ (jD hr) (rR rfl rfl T.cM rfl T.Bq (ab 0 (pv 0))) (al cG rfl T.cM PySem.boot_len (aa (ab 0 (pv 0)) ac)) (aH _))))))) (fun ds Q hl h=>?_)
 obtain ⟨ws,rfl,hl,hx,h⟩:=h
 refine aQ (fun d=>match d with | .str x=>.bl (isNm x) | _=>.non) (fun ρ=>∃ s,ρ=[s]) (by rw [List.length_map]; exact Nat.le_trans hl (by decide)) (fun d hd ρ Y Z hN hY=>?_) _ ⟨_,rfl⟩ ?_
 ·obtain ⟨s,rfl⟩:=hN
  obtain ⟨x,hm,rfl⟩:=List.mem_map.mp hd
  exact Br.t ⟨rfl,x,rfl,hx x hm,hY _ ⟨_,rfl⟩⟩
 ·have e:(ws.map D.str).map (fun d=>match d with | .str x=>D.bl (isNm x) | _=>.non)=(ws.map isNm).map D.bl:=by
   rw [List.map_map,List.map_map]
   rfl
  rw [e]
  refine jN ?_
  unfold nmsB at h
  show Br ((ws.map isNm).all id) _ _
  rw [List.all_map]
  refine ⟨fun e1=>⟨ws,rfl,hl,⟨rfl,rfl⟩,?_⟩,fun e1=>?_⟩
  ·rw [show ws.all isNm=true from e1,Bool.true_and] at h
   show Q (.bl (eqD (.int _) (.int _)))
   rw [lN,List.length_map]
   have:decide (((metS ws).length:Int)=(ws.length:Int))=decide ((metS ws).length=ws.length):=by
    by_cases q:(metS ws).length=ws.length
    ·rw [decide_eq_true q,decide_eq_true (by omega)]
    ·rw [decide_eq_false q,decide_eq_false (by omega)]
   rw [this]
   exact h
  ·rw [show ws.all isNm=false from e1,Bool.false_and] at h
   exact h
theorem gE {α:Type} (f:α->D) (k:Nat) (ws:List α) (h:k <= ws.length):cutD (ws.map f) (some (k:Int)) none=(ws.drop k).map f:=by
 unfold cutD
 rw [HT.sIx_none,HT.sIx_nat,List.length_map,Nat.min_eq_left h,← List.map_drop,List.take_of_length_le (by simp)]
def aC:Str:=Str.ofString "houses"
def iQ:Str:=Str.ofString "mark"
def dL:Str:=Str.ofString "case"
def hlB (w:Str) (r:List Str):Bool:=decide (w=aC) && (decide (2 <= r.length) && decide (r.length <= 6)) && nmsB r
def gHl:DSp:=fun ds Q=>∃ (w:Str) (r:List Str),ds=[.lst ((w::r).map .str)] /\ r.length <= 999 /\ TxOk w /\ (∀ x∈r,TxOk x) /\ Q (.bl (hlB w r))
theorem iR:bR gHl:=fun ds P P' f ⟨x,r,a,b,c,d,h⟩=>⟨x,r,a,b,c,d,f _ h⟩
theorem iS (T:Tx K mg):FnOk P w K mg base CX0 3 T.cj T.bV ["words"] (spD K 1 gHl):=by
 refine fnD (k:=2) T.bc.F im (fun cdv A outer s H E hr=>(ag (az (kJ (dZ (jD hr) (ay (ab 0 (pv 0)) ae (fun _ _=>rfl)) aJ (aH _)) (kJ (gt nD nD (fj rfl T.fc) (cQ wQ (al cG rfl T.cM PySem.boot_len (aa (ab 0 (pv 0)) ac)) ae) (fj rfl T.fA)) (nu (ao (kf T) kd (rm hr) rfl T.bp.m T.bp.F.kp T.bp.b (aa (aq (kR (ab 0 (pv 0)) (eh ae) gU)) ac)))))))) (fun ds Q hl h=>?_)
 obtain ⟨x,r,rfl,hr,hx,ho,h⟩:=h
 unfold hlB at h
 refine bS (d:=.str x) (Int.le_refl 0) rfl ⟨⟨cK hx.ok,cK dk⟩,?_⟩
 show Br (eqD (.str x) (.str aC)) _ _
 rw [jY]
 refine ⟨fun e1=>?_,fun e1=>?_⟩
 ·rw [e1,Bool.true_and] at h
  have el:(((((x::r).map D.str).length:Nat):Int) - 1)=(r.length:Int):=by rw [List.length_map,List.length_cons]; omega
  refine ⟨fun e2=>⟨fun e3=>?_,fun e3=>?_⟩,fun e2=>Br.f ?_⟩
  ·have e2:=of_decide_eq_true e2
   have e3:=of_decide_eq_true e3
   rw [decide_eq_true (p:=2 <= r.length) (by omega),decide_eq_true (p:=r.length <= 6) (by omega)] at h
   refine ⟨rfl,r,?_,by omega,fun y hy=>(ho y hy).le,h⟩
   have:=gE D.str 1 (x::r) (by simp)
   exact congrArg (fun z=>[D.lst z]) this
  ·have e3:=of_decide_eq_false e3
   rw [decide_eq_false (p:=r.length <= 6) (by omega),Bool.and_false] at h
   exact h
  ·have e2:=of_decide_eq_false e2
   rw [decide_eq_false (p:=2 <= r.length) (by omega)] at h
   exact h
 ·rw [e1] at h
  exact h
theorem du (ws:List Str):(ws.map D.str).all jJ=true:=by
 rw [List.all_map]
 exact List.all_eq_true.mpr fun _ _=>rfl
theorem mh {a b:Str}:eqF (.str a) (.str b)=decide (a=b):=by
 show (a == b)=_
 by_cases h:a=b <;> simp [h]
theorem mi {n:Str} {ws:List Str}:((ws.map D.str).any fun y=>eqF y (.str n))=decide (n∈ws):=by
 rw [List.any_map]
 by_cases h:n∈ws
 ·rw [decide_eq_true h]
  exact List.any_eq_true.mpr ⟨n,h,by show eqF (.str n) (.str n)=true; rw [mh]; simp⟩
 ·rw [decide_eq_false h]
  refine List.any_eq_false.mpr fun y hy=>?_
  show ¬ (eqF (.str y) (.str n)=true)
  rw [mh]
  intro z
  have:=of_decide_eq_true z
  subst this
  exact h hy
def mlB (taken:List Str):List Str->Bool
 | w::n::r=>decide (w=iQ) && (decide (1 <= r.length) && decide (r.length <= 6)) && isNm n && !decide (n∈taken) && nmsB r
 | _=>false
def gMl:DSp:=fun ds Q=>∃ (ws taken:List Str),ds=[.lst (ws.map .str),.lst (taken.map .str)] /\ ws≠[] /\ ws.length <= 999 /\ (∀ x∈ws,TxOk x) /\ Q (.bl (mlB taken ws))
theorem kD:bR gMl:=fun ds P P' f ⟨x,r,a,b,c,d,h⟩=>⟨x,r,a,b,c,d,f _ h⟩
theorem kE (T:Tx K mg):FnOk P w K mg base CX0 3 T.de T.cL ["words","taken"] (spD K 2 gMl):=by
 refine fnD (k:=2) T.bE.F jS (fun cdv A outer s H E hr=>(af (cE (PWD.pt (dI (bf (lM hr) (ay (ab 0 (pv 0)) ae (fun _ _=>rfl)) aJ (aH _)) (cz (aV (qk nD nD ae (cQ wQ (al cG rfl T.cM PySem.boot_len (aa (ab 0 (pv 0)) ac)) ae) (fj rfl T.gI)))))) (ag (az gQ)) aL)
   (ag (az (kJ (ao (oj T) oi (rm hr) rfl T.cc.m T.cc.F.kp T.cc.b (aa (ay (ab 0 (pv 0)) ae (fun _ _=>rfl)) ac)) (kJ (dZ iX (ay (ab 0 (pv 0)) ae (fun _ _=>rfl)) (ab 1 (pv 1)) rfl) (nu (ao (kf T) kd (rm hr) rfl T.bp.m T.bp.F.kp T.bp.b (aa (aq (kR (ab 0 (pv 0)) (eh ae) gU)) ac))))))))) (fun ds Q hl h=>?_)
 obtain ⟨ws,tk,rfl,hne,hr,ho,h⟩:=h
 cases ws with
 | nil=>exact absurd rfl hne
 | cons x r =>
 refine bS (d:=.str x) (Int.le_refl 0) rfl ⟨⟨cK (ho x (by simp)).ok,cK dk⟩,?_⟩
 show Br (!eqD (.str x) (.str iQ)) _ _
 rw [jY]
 by_cases e1:x=iQ
 ·rw [decide_eq_true e1]
  refine Br.f ?_
  have el:((((x::r).map D.str).length:Nat):Int)=(r.length:Int) + 1:=by rw [List.length_map,List.length_cons]; omega
  refine ⟨fun e2=>?_,fun e2=>Br.t ?_⟩
  ·have e2:=of_decide_eq_true e2
   cases r with
   | nil=>exact absurd e2 (by simp)
   | cons n r =>
    change Q (.bl (decide (x=iQ) && (decide (1 <= r.length) && decide (r.length <= 6)) && isNm n && !decide (n∈tk) && nmsB r)) at h
    rw [decide_eq_true e1,Bool.true_and] at h
    have el:((((x::n::r).map D.str).length:Nat):Int) - 2=(r.length:Int):=by rw [List.length_map,List.length_cons,List.length_cons]; omega
    rw [decide_eq_true (p:=1 <= r.length) (by omega),Bool.true_and] at h
    by_cases e3:r.length <= 6
    ·rw [decide_eq_true e3,Bool.true_and] at h
     show Br (!decide (((((x::n::r).map D.str).length:Nat):Int) - 2 <= 6)) _ _
     rw [decide_eq_true (p:=((((x::n::r).map D.str).length:Nat):Int) - 2 <= 6) (by omega)]
     have on:=ho n (by simp)
     refine Br.f (bS (d:=.str n) (r:=1) (by decide) rfl ⟨rfl,n,rfl,on.le,?_⟩)
     refine ⟨fun e4=>?_,fun e4=>?_⟩
     ·rw [e4,Bool.true_and] at h
      refine bS (d:=.str n) (r:=1) (by decide) rfl ⟨⟨rfl,du tk⟩,?_⟩
      rw [mi]
      refine ⟨fun e5=>?_,fun e5=>?_⟩
      ·rw [show (!decide (n∈tk))=true from e5,Bool.true_and] at h
       refine ⟨rfl,r,?_,by simp at hr; omega,fun y hy=>(ho y (by simp [hy])).le,h⟩
       have:=gE D.str 2 (x::n::r) (by simp)
       exact congrArg (fun z=>[D.lst z]) this
      ·rw [show (!decide (n∈tk))=false from e5,Bool.false_and] at h
       exact h
     ·rw [e4,Bool.false_and,Bool.false_and] at h
      exact h
    ·rw [decide_eq_false e3] at h
     show Br (!decide (((((x::n::r).map D.str).length:Nat):Int) - 2 <= 6)) _ _
     rw [decide_eq_false (p:=((((x::n::r).map D.str).length:Nat):Int) - 2 <= 6) (by omega)]
     exact Br.t h
  ·have e2:=of_decide_eq_false e2
   cases r with
   | nil=>exact h
   | cons n r =>
    change Q (.bl (decide (x=iQ) && (decide (1 <= r.length) && decide (r.length <= 6)) && isNm n && !decide (n∈tk) && nmsB r)) at h
    have el:((((x::n::r).map D.str).length:Nat):Int) - 2=(r.length:Int):=by rw [List.length_map,List.length_cons,List.length_cons]; omega
    rw [decide_eq_false (p:=1 <= r.length) (by omega)] at h
    simpa using h
 ·rw [decide_eq_false e1]
  refine Br.t (Br.t ?_)
  cases r with
  | nil=>exact h
  | cons n r =>
   change Q (.bl (decide (x=iQ) && (decide (1 <= r.length) && decide (r.length <= 6)) && isNm n && !decide (n∈tk) && nmsB r)) at h
   rw [decide_eq_false e1] at h
   simpa using h
structure Rt where
 h:Int
 ks:List Int
 t:Int
 w:Int
def rtD (r:Rt):D:=.tup [.int r.h,.tup (r.ks.map .int),.int r.t,.int r.w]
def uU:DSp:=fun ds Q=>∃ r o:Rt,ds=[rtD r,rtD o] /\ Q (.bl (gtP r.ks r.h o.ks o.h))
theorem pN:bR uU:=fun ds P P' f ⟨x,r,a,h⟩=>⟨x,r,a,f _ h⟩
theorem pO (T:Tx K mg):FnOk P w K mg base CX0 1 T.fZ T.eO ["row","other"] (spD K 2 uU):=by
 refine fnD (k:=0) T.cO.F nV (fun cdv A outer s H E hr=>(ag (az (dZ (AV hr) (aX (aa (ay (ab 0 (pv 0)) ae (fun _ _=>rfl)) (aa (ay (ab 0 (pv 0)) ae (fun _ _=>rfl)) ac))) (aX (aa (ay (ab 1 (pv 1)) ae (fun _ _=>rfl)) (aa (ay (ab 1 (pv 1)) ae (fun _ _=>rfl)) ac))) (aH _))))) (fun ds Q hl h=>?_)
 obtain ⟨r,o,rfl,h⟩:=h
 exact ⟨sz,sz,r.ks,r.h,o.ks,o.h,⟨rfl,rfl⟩,h⟩
abbrev Mk:=Str×List Str
abbrev mkD (m:Mk):D:=.tup [.str m.1,.lst (m.2.map .str)]
abbrev nmD (hs:List Str) (ms:List Mk):D:=.tup [.lst (hs.map .str),.lst (ms.map mkD)]
def plc (x:Str) (ws:List Str):Nat:=ws.findIdx fun y=>decide (y=x)
structure CsOk (hs:List Str) (ms:List Mk) (hn:Str) (kw:List Str) (a b:Str) (t w:Nat):Prop where
 hh:hn∈hs
 kl:kw.length=ms.length
 kk:∀ (i:Nat) (x:Str) (m:Mk),kw[i]? = some x->ms[i]? = some m->x∈m.2
 na:ol a=true
 nb:ol b=true
 ta:intText? a=some (t:Int)
 tb:intText? b=some (w:Int)
 t0:0 < t
 tw:w <= t
 oa:TxOk a
 ob:TxOk b
def kpl (kw:List Str) (ms:List Mk):List Int:=(kw.zip ms).map fun p=>(plc p.1 p.2.2:Int)
theorem uV {α:Type} {xs:List α} {k:Nat} (hk:0 < k) {d:α} (hl:k <= xs.length) (e:xs[xs.length - k]? = some d):atI xs (-(k:Int))=some d:=by
 unfold atI ixN
 rw [if_neg (by omega),if_pos (by omega),show (-(k:Int) + xs.length).toNat=xs.length - k by omega]
 exact e
theorem om {x:Str} (h:ol x=true):x.length <= 30:=by
 unfold ol at h
 simp only [Bool.and_eq_true,decide_eq_true_eq] at h
 exact h.1.1.2
theorem qT {x:Str} {ws:List Str} (h:x∈ws):(∃ z,(ws.map D.str)[plc x ws]? = some z /\ eqF z (.str x)=true) /\ ∀ m z,m < plc x ws->(ws.map D.str)[m]? = some z->eqF z (.str x)=false:=by
 have hl:plc x ws < ws.length:=List.findIdx_lt_length_of_exists ⟨x,h,by simp⟩
 refine ⟨⟨.str ws[plc x ws],by rw [List.getElem?_map,List.getElem?_eq_getElem hl]; rfl,?_⟩,fun m z hm hz=>?_⟩
 ·rw [mh]
  exact List.findIdx_getElem (p:=fun y=>decide (y=x)) (w:=hl)
 ·rw [List.getElem?_map] at hz
  obtain ⟨y,hy,rfl⟩:=Option.map_eq_some_iff.mp hz
  rw [mh]
  have hml:m < ws.length:=by omega
  rw [List.getElem?_eq_getElem hml] at hy
  cases hy
  have:=List.not_of_lt_findIdx (p:=fun y=>decide (y=x)) hm
  simpa using this
def xq:DSp:=fun ds Q=>∃ (hs:List Str) (ms:List Mk) (hn:Str) (kw:List Str) (a b:Str) (t w:Nat),ds=[.lst ((dL::hn::kw++[a,b]).map .str),nmD hs ms] /\ CsOk hs ms hn kw a b t w /\ (ms.length <= 5 /\ hs.length <= 6 /\ ∀ m∈ms,m.2.length <= 6) /\ Q (rtD ⟨plc hn hs,kpl kw ms,t,w⟩)
theorem wn:bR xq:=fun ds P P' f ⟨hs,ms,hn,kw,a,b,t,w,e,c,z,h⟩=>⟨hs,ms,hn,kw,a,b,t,w,e,c,z,f _ h⟩
theorem wq (T:Tx K mg):FnOk P w K mg base CX0 2 T.my T.kq ["words","names"] (spD K 2 xq):=by
 refine fnD (k:=1) T.gK.F sc_row_of (fun cdv A outer s H E hr=>(af (cE (PWD.pt (dI (bf (lM hr) (ay (ab 0 (pv 0)) ae (fun _ _=>rfl)) aJ (aH _)) (cz (bf (lM hr) (al cG rfl T.cM PySem.boot_len (aa (ab 0 (pv 0)) ac)) (cQ fv ae (al cG rfl T.cM PySem.boot_len (aa (ay (ab 1 (pv 1)) ae (fun _ _=>rfl)) ac))) (aH _))))) (ag (az nr)) aL)
   (af (cE (PWD.pt (dI (bf iX (ay (ab 0 (pv 0)) ae (fun _ _=>rfl)) (ay (ab 1 (pv 1)) ae (fun _ _=>rfl)) rfl) (dI (aV (aU (ao (kc T) jZ (rm hr) rfl T.bq.m T.bq.F.kp T.bq.b (aa (ay (ab 0 (pv 0)) (rH kN ae) (fun _ _=>rfl)) ac)))) (cz (aV (aU (ao (kc T) jZ (rm hr) rfl T.bq.m T.bq.F.kp T.bq.b (aa (ay (ab 0 (pv 0)) (rH kN ae) (fun _ _=>rfl)) ac)))))))) (ag (az nr)) aL)
   (af (iG (i:=2) sc_row_of.nd rfl oo (bh ac))
   (bF (cm PassesOwn.never rfl (uu rfl T.zk (aa (aq (kR (ab 0 (pv 0)) (eh ae) (eh (rH kN ae)))) (aa (ay (ab 1 (pv 1)) ae (fun _ _=>rfl)) ac))) (bX (n:=2) rfl (ar (aj (i:=3) sc_row_of.nd rfl oo) (ar (aj (i:=4) sc_row_of.nd rfl oo) bi))) (af (cE (bf iX (ab 3 (pv 3)) (ay (ab 4 (pv 4)) ae (fun _ _=>rfl)) rfl) (ag (az nr)) aL)
   (ag (gv (pv 2) (Av qu (ay (ab 4 (pv 4)) ae (fun _ _=>rfl)) (ab 3 (pv 3)))))))
   (af (aO (i:=5) sc_row_of.nd rfl oo (aK uH rfl T.wF rfl (aa (ay (ab 0 (pv 0)) (rH kN ae) (fun _ _=>rfl)) ac)))
   (af (aO (i:=6) sc_row_of.nd rfl oo (aK uH rfl T.wF rfl (aa (ay (ab 0 (pv 0)) (rH kN ae) (fun _ _=>rfl)) ac)))
   (af (cE (PWD.pt (dI (bf (jD hr) (ab 5 (pv 5)) ae (aH _)) (cz (bf pA (ab 6 (pv 6)) (ab 5 (pv 5)) (aH _))))) (ag (az nr)) aL)
   (ag (az (aX (aa (Av qu (ay (ab 1 (pv 1)) ae (fun _ _=>rfl)) (ay (ab 0 (pv 0)) ae (fun _ _=>rfl))) (aa (aK cu rfl T.aW rfl (aa (ab 2 (pv 2)) ac)) (aa (ab 5 (pv 5)) (aa (ab 6 (pv 6)) ac))))))))))))))) (fun ds Q hl h=>?_)
 obtain ⟨hs,ms,hn,kw,a,b,t,w,rfl,c,⟨z1,z2,z3⟩,h⟩:=h
 have ew:(((dL::hn::kw++[a,b]).map D.str).length:Int)=4 + (((ms.map mkD).length:Nat):Int):=by
  have:=c.kl
  simp only [List.length_map,List.length_append,List.length_cons,List.length_nil]
  omega
 have hw2:∀ {Q:D->Prop},Q (.str a)->opt (atI ((dL::hn::kw++[a,b]).map D.str) (-2)) Q:=fun q=>by
  show opt (atI _ (-((2:Nat):Int))) _
  rw [uV (k:=2) (by decide) (d:=.str a) (by simp) (by simp)]
  exact q
 have hw1:∀ {Q:D->Prop},Q (.str b)->opt (atI ((dL::hn::kw++[a,b]).map D.str) (-1)) Q:=fun q=>by
  show opt (atI _ (-((1:Nat):Int))) _
  rw [uV (k:=1) (by decide) (d:=.str b) (by simp) (by simp)]
  exact q
 refine bS (d:=.str dL) (Int.le_refl 0) rfl ⟨⟨cK dk,cK dk⟩,?_⟩
 show Br (!eqD (.str dL) (.str dL)) _ _
 rw [jY,decide_eq_true rfl]
 refine Br.f ⟨⟨rfl,rfl⟩,?_⟩
 show Br (!eqD (.int _) (.int _)) _ _
 rw [lN,decide_eq_true ew]
 refine Br.f ?_
 refine bS (d:=.str hn) (r:=1) (by decide) rfl ⟨⟨rfl,du hs⟩,?_⟩
 rw [mi,decide_eq_true c.hh]
 refine Br.f (hw2 ⟨rfl,a,rfl,c.oa,?_⟩)
 rw [c.na]
 refine Br.f (hw1 ⟨rfl,b,rfl,c.ob,?_⟩)
 rw [c.nb]
 refine Br.f ⟨sz,?_⟩
 refine ⟨fun ρ=>∃ s3 s4 s5 s6:Sl,ρ=[.val (.lst ((dL::hn::kw++[a,b]).map .str)),.val (nmD hs ms),.own ((kpl kw ms).map D.int),s3,s4,s5,s6],?_,?_⟩
 ·refine ⟨_,_,rfl,rfl,?_⟩
  have e1:cutD ((dL::hn::kw++[a,b]).map D.str) (some 2) (some (-2))=kw.map D.str:=by
   unfold cutD
   have l1:((dL::hn::kw++[a,b]).map D.str).length=kw.length + 4:=by simp
   have l2:HT.sIx (kw.length + 4) 0 (some 2)=2:=by
    show (if (2:Int) < 0 then ((2:Int) + ((kw.length + 4:Nat):Int)).toNat else min (2:Int).toNat (kw.length + 4))=2
    rw [if_neg (by decide)]
    omega
   have l3:HT.sIx (kw.length + 4) (kw.length + 4) (some (-2))=kw.length + 2:=by
    show (if (-2:Int) < 0 then ((-2:Int) + ((kw.length + 4:Nat):Int)).toNat else min (-2:Int).toNat (kw.length + 4))=kw.length + 2
    rw [if_pos (by decide)]
    omega
   rw [l1,l2,l3]
   show ((kw++[a,b]).map D.str).take (kw.length + 2 - 2)=_
   rw [List.map_append,Nat.add_sub_cancel,List.take_left' (by rw [List.length_map])]
  have e2:∀ (ws:List Str) (ms:List Mk),zipD (ws.map D.str) (ms.map mkD)=(ws.zip ms).map fun p=>D.tup [.str p.1,mkD p.2]:=fun ws=>by
   induction ws with
   | nil=>intro ms; cases ms <;> rfl
   | cons x ws ih =>
    intro ms
    cases ms with
    | nil=>rfl
    | cons m ms=>rw [List.map_cons,List.map_cons,zipD,ih,List.zip_cons_cons,List.map_cons]
  rw [e1,e2]
  have mem:∀ p∈kw.zip ms,p.1∈p.2.2:=fun p hp=>by
   obtain ⟨i,hi⟩:=List.mem_iff_getElem?.mp hp
   rw [List.getElem?_zip_eq_some] at hi
   exact c.kk i p.1 p.2 hi.1 hi.2
  refine bb (fun pre ρ=>∃ (p0 p1:List (Str×Mk)) (s3 s4 s5 s6:Sl),kw.zip ms=p0++p1 /\ pre=p0.map (fun p=>D.tup [.str p.1,mkD p.2]) /\ ρ=[.val (.lst ((dL::hn::kw++[a,b]).map .str)),.val (nmD hs ms),.own ((p0.map fun p=>(plc p.1 p.2.2:Int)).map D.int),s3,s4,s5,s6]) (fun ρ hN=>?_) (fun pre d post ρ X e hN hX=>?_) _ ⟨[],_,_,_,_,_,rfl,rfl,rfl⟩
  ·obtain ⟨p0,p1,s3,s4,s5,s6,e3,e4,rfl⟩:=hN
   have:p1=[]:=by
    have:=congrArg List.length e4
    rw [e3] at this
    simp at this
    exact this
   subst this
   rw [List.append_nil] at e3
   unfold kpl
   rw [e3]
   exact ⟨_,_,_,_,rfl⟩
  ·obtain ⟨p0,p1,s3,s4,s5,s6,e3,rfl,rfl⟩:=hN
   rw [e3,List.map_append] at e
   have e:=List.append_cancel_left e
   cases p1 with
   | nil=>simp at e
   | cons p p1 =>
    rw [List.map_cons] at e
    injection e with e4 e5
    subst e4
    have hp:=mem p (by rw [e3]; simp)
    refine ⟨rfl,⟨rfl,du p.2.2⟩,?_⟩
    rw [mi,decide_eq_true hp]
    refine Br.f ⟨trivial,trivial,⟨rfl,du p.2.2⟩,plc p.1 p.2.2,qT hp,?_,hX _ ⟨p0++[p],p1,_,_,_,_,by rw [e3,List.append_assoc]; rfl,by rw [List.map_append]; rfl,by rw [show ((p0++[p]).map fun p=>(plc p.1 p.2.2:Int)).map D.int=(p0.map fun p=>(plc p.1 p.2.2:Int)).map D.int++[.int (plc p.1 p.2.2)] by rw [List.map_append,List.map_append]; rfl]; rfl⟩⟩
    have:p0.length <= 5:=by
     have:=congrArg List.length e3
     rw [List.length_zip,List.length_append] at this
     omega
    rw [List.length_map,List.length_map]
    exact Nat.lt_of_le_of_lt this (by decide)
 ·rintro _ ⟨s3,s4,s5,s6,rfl⟩
  refine hw2 ⟨Nat.le_trans (om c.na) (by decide),t,c.ta,hw1 ⟨Nat.le_trans (om c.nb) (by decide),w,c.tb,⟨⟨rfl,rfl⟩,?_⟩⟩⟩
  have t0:=c.t0
  have tw:=c.tw
  show Br (eqD (.int t) (.int 0)) _ _
  rw [lN,decide_eq_false (by omega)]
  refine Br.f ?_
  show Br (decide ((t:Int) < (w:Int))) _ _
  rw [decide_eq_false (by omega)]
  refine Br.f ?_
  refine ⟨trivial,bS (d:=.str hn) (r:=1) (by decide) rfl ⟨⟨rfl,du hs⟩,plc hn hs,qT c.hh,?_⟩⟩
  exact ⟨sz,h⟩
abbrev lnD (ws:List Str):D:=.lst (ws.map .str)
def mkLn (m:Mk):List Str:=iQ::m.1::m.2
structure MsT (ms:List Mk):Prop where
 l5:ms.length <= 5
 nd:(ms.map (·.1)).Nodup
 nm:∀ m∈ms,isNm m.1=true /\ 1 <= m.2.length /\ m.2.length <= 6 /\ nmsB m.2=true /\ TxOk m.1 /\ ∀ x∈m.2,TxOk x
def xr:DSp:=fun ds Q=>∃ (l0:List Str) (ms:List Mk) (cs:List (List Str)),ds=[.lst ((l0::ms.map mkLn++cs).map lnD)] /\ MsT ms /\ (∀ l∈cs,∃ r,l=dL::r /\ r.length <= 100 /\ ∀ x∈r,TxOk x) /\ Q (.lst (ms.map mkD))
theorem sg:bR xr:=fun ds P P' f ⟨l0,ms,cs,a,b,c,h⟩=>⟨l0,ms,cs,a,b,c,f _ h⟩
theorem si (T:Tx K mg):FnOk P w K mg base CX0 4 T.iz T.gc ["lines"] (spD K 1 xr):=by
 refine fnD (k:=3) T.dD.F sc_marks_of (fun cdv A outer s H E hr=>(af (iG (i:=1) sc_marks_of.nd rfl oo (bh ac))
   (bF (cm PassesOwn.never rfl (aS (aq (kR (ab 0 (pv 0)) (eh ae) gU))) (aj (i:=2) sc_marks_of.nd rfl oo) (af (cE (PWD.pt (dI (gZ 1 (bf (jD hr) (al cG rfl T.cM PySem.boot_len (aa (ab 1 (pv 1)) ac)) (fj rfl T.gJ) (aH _))) (cz (aV (gZ 1 (aU (ao (kE T) kD (rm hr) rfl T.bE.m T.bE.F.kp T.bE.b (aa (ab 2 (pv 2)) (aa (aq (PCD.pld (aF (N':=["name","kinds"]) rfl rfl dk rfl (.own (.own .nil)) dk (aS (ab 1 (pv 1))) (fun B=>(bX (n:=2) rfl (ar (aj (i:=0) ndB rfl oo) (ar (aj (i:=1) ndB rfl oo) bi)))) (fun B=>aM) (fun B=>(ab 0 (pv 0)))))) ac))))))))) (ag (az (ab 1 (pv 1)))) aL)
   (ag (gv (pv 1) (aX (aa (ay (ab 2 (pv 2)) ae (fun _ _=>rfl)) (aa (aq (kR (ab 2 (pv 2)) (eh ae) gU)) ac)))))))
   (ag (az (ab 1 (pv 1))))))) (fun ds Q hl h=>?_)
 obtain ⟨l0,ms,cs,rfl,mo,co,h⟩:=h
 have hw:∀ m∈ms,∀ x∈mkLn m,TxOk x:=fun m hm x hx=>by
  obtain ⟨_,_,_,_,o1,o2⟩:=mo.nm m hm
  rcases List.mem_cons.mp hx with rfl | hx
  ·exact ⟨by decide +kernel,by decide +kernel⟩
  ·rcases List.mem_cons.mp hx with rfl | hx
   ·exact o1
   ·exact o2 x hx
 have l5:=mo.l5
 refine ⟨sz,fun ρ=>∃ s:Sl,ρ=[.val (.lst ((l0::ms.map mkLn++cs).map lnD)),.own (ms.map mkD),s],?_,?_⟩
 ·have e0:cutD ((l0::ms.map mkLn++cs).map lnD) (some 1) none=(ms.map mkLn++cs).map lnD:=gE lnD 1 (l0::(ms.map mkLn++cs)) (by simp)
  show lK _ _ (cutD ((l0::ms.map mkLn++cs).map lnD) (some 1) none) _ _
  rw [e0]
  have names:∀ {m0:List Mk} {ρ:DS} {a b:Sl} {Q:List D->Prop},m0.length <= 5->Q ((m0.map (·.1)).map D.str)->cH (tD 2 (gu (cF 0) (gu (cF 1) tu))) bU (dVar 0) (m0.map mkD) [] [a,b] Q:=fun {m0 ρ a b Q} hm hq=>by
   refine aQ (fun d=>match d with | .tup (x::_)=>x | _=>.non) (fun ρ=>∃ a b,ρ=[a,b]) (by rw [List.length_map]; exact Nat.le_trans hm (by decide)) (fun d hd ρ Y Z hN hY=>?_) _ ⟨_,_,rfl⟩ ?_
   ·obtain ⟨a,b,rfl⟩:=hN
    obtain ⟨m,_,rfl⟩:=List.mem_map.mp hd
    exact ⟨rfl,Br.t (hY _ ⟨_,_,rfl⟩)⟩
   ·rw [List.map_map] at hq ⊢
    exact hq
  refine bb (fun pre ρ=>∃ (m0 m1:List Mk) (s:Sl),ms=m0++m1 /\ pre=m0.map (fun m=>lnD (mkLn m)) /\ ρ=[.val (.lst ((l0::ms.map mkLn++cs).map lnD)),.own (m0.map mkD),s]) (fun ρ hN=>?_) (fun pre d post ρ X e hN hX=>?_) _ ⟨[],ms,_,rfl,rfl,rfl⟩
  ·obtain ⟨m0,m1,s,e3,e4,rfl⟩:=hN
   have:=congrArg List.length e4
   rw [e3] at this
   simp only [List.length_map,List.length_append] at this
   have:m1=[]:=List.length_eq_zero_iff.mp (by omega)
   subst this
   rw [List.append_nil] at e3
   subst e3
   exact ⟨_,rfl⟩
  ·obtain ⟨m0,m1,s,e3,rfl,rfl⟩:=hN
   have hm0:m0.length <= 5:=by
    have:=congrArg List.length e3
    rw [List.length_append] at this
    omega
   have elen:(((m0.map mkD).length:Nat):Int)=(m0.length:Int):=by rw [List.length_map]
   refine ⟨_,rfl,rfl,⟨rfl,rfl⟩,rfl,?_⟩
   show Br (eqD (.int _) (.int 5)) _ _
   rw [lN]
   cases m1 with
   | nil =>
    rw [List.append_nil] at e3
    subst e3
    refine ⟨fun _=>Br.t h,fun _=>?_⟩
    rw [List.map_append,List.map_map] at e
    have e:=List.append_cancel_left e
    cases cs with
    | nil=>simp at e
    | cons l cs =>
     rw [List.map_cons] at e
     injection e with e4 e5
     subst e4
     obtain ⟨r,rfl,r1,r2⟩:=co l (by simp)
     refine ⟨_,rfl,rfl,names (ρ:=[]) hm0 ⟨rfl,dL::r,_,rfl,by simp,by simp; omega,fun x hx=>?_,?_⟩⟩
     ·rcases List.mem_cons.mp hx with rfl | hx
      ·exact ⟨by decide +kernel,by decide +kernel⟩
      ·exact r2 x hx
     ·have:mlB (ms.map (·.1)) (dL::r)=false:=by
       cases r with
       | nil=>rfl
       | cons n r =>
        show (decide (dL=iQ) && (decide (1 <= r.length) && decide (r.length <= 6)) && isNm n && !decide (n∈ms.map (·.1)) && nmsB r)=false
        rw [show decide (dL=iQ)=false by decide +kernel]
        simp
      rw [this]
      exact ⟨rfl,Br.t h⟩
   | cons m m1 =>
    have hne:¬ ((((m0.map mkD).length:Nat):Int)=5):=by
     have:=congrArg List.length e3
     rw [List.length_append,List.length_cons] at this
     omega
    rw [decide_eq_false hne]
    refine Br.f ?_
    have hm:m∈ms:=by rw [e3]; simp
    rw [List.map_append,e3,List.map_append,List.map_append,List.map_map,List.append_assoc] at e
    have e:=List.append_cancel_left e
    rw [List.map_cons,List.map_cons,List.cons_append] at e
    injection e with e4 e5
    subst e4
    obtain ⟨a1,a2,a3,a4,a5,a6⟩:=mo.nm m hm
    refine ⟨_,rfl,rfl,names (ρ:=[]) hm0 ⟨rfl,mkLn m,_,rfl,by simp [mkLn],by simp [mkLn]; omega,hw m hm,?_⟩⟩
    have:mlB (m0.map (·.1)) (mkLn m)=true:=by
     show (decide (iQ=iQ) && (decide (1 <= m.2.length) && decide (m.2.length <= 6)) && isNm m.1 && !decide (m.1∈m0.map (·.1)) && nmsB m.2)=true
     have nd:=mo.nd
     rw [e3,List.map_append,List.map_cons] at nd
     have hno:m.1∉m0.map (·.1):=fun z=>(List.nodup_append.mp nd).2.2 m.1 z m.1 (by simp) rfl
     rw [decide_eq_true rfl,decide_eq_true a2,decide_eq_true a3,a1,decide_eq_false hno,a4]
     rfl
    rw [this]
    refine ⟨rfl,Br.f ⟨trivial,?_⟩⟩
    have e6:cutD ((mkLn m).map D.str) (some 2) none=m.2.map D.str:=gE D.str 2 (mkLn m) (by simp [mkLn])
    refine bS (d:=.str m.1) (r:=1) (by decide) rfl ?_
    refine ⟨sz,?_,hX _ ⟨m0++[m],m1,_,by rw [e3,List.append_assoc]; rfl,by rw [List.map_append]; rfl,by rw [show (m0++[m]).map mkD=m0.map mkD++[.tup [.str m.1,.lst (cutD ((mkLn m).map D.str) (some 2) none)]] by rw [List.map_append,e6]; rfl]; rfl⟩⟩
    rw [List.length_map]
    exact Nat.lt_of_le_of_lt hm0 (by decide)
 ·rintro _ ⟨s,rfl⟩
  exact h
structure Cs where
 hn:Str
 kw:List Str
 a:Str
 b:Str
 t:Nat
 w:Nat
def Cs.ln (c:Cs):List Str:=dL::c.hn::c.kw++[c.a,c.b]
def Cs.rt (hs:List Str) (ms:List Mk) (c:Cs):Rt:=⟨plc c.hn hs,kpl c.kw ms,c.t,c.w⟩
def Be:DSp:=fun ds Q=>∃ (hs:List Str) (ms:List Mk) (cs:List Cs) (l0:List Str),ds=[.lst ((l0::ms.map mkLn++cs.map Cs.ln).map lnD),nmD hs ms] /\ (ms.length <= 5 /\ hs.length <= 6 /\ ∀ m∈ms,m.2.length <= 6) /\ cs.length <= 200 /\
 (∀ c∈cs,CsOk hs ms c.hn c.kw c.a c.b c.t c.w) /\ (∀ (i:Nat) (x y:Cs),cs[i]? = some x->cs[i + 1]? = some y->gtP (kpl y.kw ms) (plc y.hn hs) (kpl x.kw ms) (plc x.hn hs)=true) /\ Q (.lst ((cs.map (Cs.rt hs ms)).map rtD))
theorem uW:bR Be:=fun ds P P' f ⟨hs,ms,cs,l0,a,b,c,d,e,h⟩=>⟨hs,ms,cs,l0,a,b,c,d,e,f _ h⟩
theorem uX (T:Tx K mg):FnOk P w K mg base CX0 4 T.kt T.iw ["lines","names"] (spD K 2 Be):=by
 refine fnD (k:=3) T.fe.F sc_rows_of (fun cdv A outer s H E hr=>(af (iG (i:=2) sc_rows_of.nd rfl oo (bh ac))
   (bF (cm PassesOwn.never rfl (tE rfl T.eZ (aa (cQ fv ae (al cG rfl T.cM PySem.boot_len (aa (ay (ab 1 (pv 1)) ae (fun _ _=>rfl)) ac))) (aa (al cG rfl T.cM PySem.boot_len (aa (ab 0 (pv 0)) ac)) ac))) (aj (i:=3) sc_rows_of.nd rfl oo) (af (aO (i:=4) sc_rows_of.nd rfl oo (ao (wq T) wn (rm hr) rfl T.gK.m T.gK.F.kp T.gK.b (aa (ay (ab 0 (pv 0)) (ab 3 (pv 3)) (fun _ _=>rfl)) (aa (ab 1 (pv 1)) ac))))
   (af (cE (PWD.pt (dI (bf Af (ab 4 (pv 4)) nr (aH _)) (cz (PWD.pt (tt (gZ 2 (bf pA (al cG rfl T.cM PySem.boot_len (aa (ab 2 (pv 2)) ac)) ae (aH _))) (tq (aV (gZ 2 (aU (ao (pO T) pN (rm hr) rfl T.cO.m T.cO.F.kp T.cO.b (aa (ab 4 (pv 4)) (aa (ay (ab 2 (pv 2)) (rH kN ae) (fun _ _=>rfl)) ac)))))))))))) (ag lJ) aL)
   (ag (gv (pv 2) (ab 4 (pv 4)))))))
   (ag (az (ab 2 (pv 2))))))) (fun ds Q hl h=>?_)
 obtain ⟨hs,ms,cs,l0,rfl,z,cl,co,cb,h⟩:=h
 have e1:(((l0::ms.map mkLn++cs.map Cs.ln).map lnD).length:Int)=1 + ms.length + cs.length:=by
  simp only [List.length_map,List.length_append,List.length_cons]
  omega
 have e2:(((ms.map mkD).length:Nat):Int)=ms.length:=by rw [List.length_map]
 have z1:=z.1
 refine ⟨sz,fun ρ=>∃ s3 s4:Sl,ρ=[.val (.lst ((l0::ms.map mkLn++cs.map Cs.ln).map lnD)),.val (nmD hs ms),.own ((cs.map (Cs.rt hs ms)).map rtD),s3,s4],?_,?_⟩
 ·refine ⟨⟨by omega,by omega,by omega,by omega⟩,?_⟩
  refine gy (fun k ρ=>∃ (c0 c1:List Cs) (s3 s4:Sl),cs=c0++c1 /\ k=1 + ms.length + c0.length /\ ρ=[.val (.lst ((l0::ms.map mkLn++cs.map Cs.ln).map lnD)),.val (nmD hs ms),.own ((c0.map (Cs.rt hs ms)).map rtD),s3,s4]) _ _ (fun ρ hN=>?_) (fun k ρ X k0 k1 hN hX=>?_) _ ⟨[],cs,_,_,rfl,by rw [e2]; simp,rfl⟩
  ·obtain ⟨c0,c1,s3,s4,e3,e4,rfl⟩:=hN
   have:=congrArg List.length e3
   rw [List.length_append] at this
   have:c1=[]:=List.length_eq_zero_iff.mp (by omega)
   subst this
   rw [List.append_nil] at e3
   subst e3
   exact ⟨_,_,rfl⟩
  ·obtain ⟨c0,c1,s3,s4,e3,rfl,rfl⟩:=hN
   have hlen:=congrArg List.length e3
   rw [List.length_append] at hlen
   cases c1 with
   | nil =>
    rw [List.length_nil] at hlen
    omega
   | cons c c1 =>
    have hc:c∈cs:=by rw [e3]; simp
    have eat:((l0::ms.map mkLn++cs.map Cs.ln).map lnD)[(1 + (ms.length:Int) + (c0.length:Int)).toNat]? = some (lnD c.ln):=by
     rw [show (1 + (ms.length:Int) + (c0.length:Int)).toNat=(ms.length + c0.length) + 1 by omega]
     show ((ms.map mkLn++cs.map Cs.ln).map lnD)[ms.length + c0.length]? = _
     rw [List.map_append,List.getElem?_append_right (by simp),e3]
     simp
    refine bS (d:=lnD c.ln) (by omega) eat ⟨rfl,hs,ms,c.hn,c.kw,c.a,c.b,c.t,c.w,rfl,co c hc,z,?_⟩
    refine Br.f ⟨_,rfl,rfl,rfl,?_⟩
    have hfin:c0.length < sizeLine:=Nat.lt_of_le_of_lt (show c0.length <= 200 by omega) (by decide)
    have em:((c0++[c]).map (Cs.rt hs ms)).map rtD=(c0.map (Cs.rt hs ms)).map rtD++[rtD (c.rt hs ms)]:=by rw [List.map_append,List.map_append]; rfl
    have fin:∀ s3 s4:Sl,X [.val (.lst ((l0::ms.map mkLn++cs.map Cs.ln).map lnD)),.val (nmD hs ms),.own ((c0.map (Cs.rt hs ms)).map rtD++[rtD (c.rt hs ms)]),s3,s4]:=fun s3 s4=>hX _ ⟨c0++[c],c1,s3,s4,by rw [e3,List.append_assoc]; rfl,by rw [List.length_append]; simp; omega,by rw [em]⟩
    have el:(((c0.map (Cs.rt hs ms)).map rtD).length:Int)=c0.length:=by rw [List.length_map,List.length_map]
    have hf2:((c0.map (Cs.rt hs ms)).map rtD).length < sizeLine:=by rw [List.length_map,List.length_map]; exact hfin
    refine ⟨fun e5=>?_,fun e5=>Br.f ⟨trivial,hf2,fin _ _⟩⟩
    have e5:=of_decide_eq_true e5
    rcases List.eq_nil_or_concat c0 with rfl | ⟨p0,p,rfl⟩
    ·exact absurd e5 (by simp)
    ·have hat:((p0.concat p).map (Cs.rt hs ms)).map rtD=(p0.map (Cs.rt hs ms)).map rtD++[rtD (p.rt hs ms)]:=by rw [List.concat_eq_append,List.map_append,List.map_append]; rfl
     have hpc:=cb p0.length p c (by rw [e3,List.concat_eq_append,List.append_assoc,List.getElem?_append_right (Nat.le_refl _)]; simp) (by rw [e3,List.concat_eq_append,List.append_assoc,List.getElem?_append_right (Nat.le_succ _)]; simp)
     refine ⟨_,rfl,rfl,?_⟩
     show opt (atI (((p0.concat p).map (Cs.rt hs ms)).map rtD) (-((1:Nat):Int))) _
     rw [uV (k:=1) (by decide) (d:=rtD (p.rt hs ms)) (by rw [hat]; simp) (by rw [hat]; simp)]
     refine ⟨rfl,c.rt hs ms,p.rt hs ms,rfl,?_⟩
     rw [show gtP (c.rt hs ms).ks (c.rt hs ms).h (p.rt hs ms).ks (p.rt hs ms).h=true from hpc]
     exact ⟨rfl,Br.f ⟨trivial,hf2,fin _ _⟩⟩
 ·rintro _ ⟨s3,s4,rfl⟩
  exact h
def fW (n:Nat) (r:Rt):Row:=(List.replicate n (0,0)).set r.h.toNat (r.t,r.w)
structure RtOk (n:Nat) (r:Rt):Prop where
 h0:0 <= r.h
 h1:r.h < n
 w0:0 <= r.w
 wt:r.w <= r.t
 t1:r.t < 10 ^ 30
def gCoR:DSp:=fun ds Q=>∃ (r:Rt) (n:Nat),ds=[rtD r,.int n] /\ RtOk n r /\ n <= 6 /\ Q (rowD (fW n r))
theorem kg:bR gCoR:=fun ds P P' f ⟨r,n,a,b,c,h⟩=>⟨r,n,a,b,c,f _ h⟩
theorem kh (T:Tx K mg):FnOk P w K mg base CX0 1 T.cN T.ck ["row","many"] (spD K 2 gCoR):=by
 refine fnD (k:=0) T.bu.F sc_counts_of_row (fun cdv A outer s H E hr=>(af (iG (i:=2) sc_counts_of_row.nd rfl oo (Aw (aq (bh (aa (aX (aa ae (aa ae ac))) ac))) (ab 1 (pv 1))))
   (af (jF (aX (aa (ay (ab 0 (pv 0)) ae (fun _ _=>rfl)) (aa (ay (ab 0 (pv 0)) ae (fun _ _=>rfl)) ac))) (wU (pv 2) (ay (ab 0 (pv 0)) ae (fun _ _=>rfl))))
   (ag (az (aK cu rfl T.aW rfl (aa (ab 2 (pv 2)) ac))))))) (fun ds Q hl h=>?_)
 obtain ⟨r,n,rfl,o,n6,h⟩:=h
 have h0:=o.h0
 have h1:=o.h1
 have e:∀ k:Nat,(List.replicate k [D.tup [.int 0,.int 0]]).flatten=(List.replicate k ((0,0):Int×Int)).map bx:=fun k=>by
  induction k with
  | zero=>rfl
  | succ k ih=>rw [List.replicate_succ,List.replicate_succ,List.flatten_cons,List.map_cons,ih]; rfl
 refine ⟨sz,sz,⟨⟨by omega,by omega⟩,?_⟩,?_⟩
 ·rw [Int.toNat_natCast]
  exact Nat.le_trans (show 1 * n <= 6 by omega) (by decide)
 rw [Int.toNat_natCast,e]
 refine ⟨sz,trivial,r.h.toNat,wV h0 (by rw [List.length_map,List.length_replicate]; exact h1),?_⟩
 show Q (.tup (((List.replicate n ((0,0):Int×Int)).map bx).set r.h.toNat (bx (r.t,r.w))))
 rw [← List.map_set]
 exact h
theorem yY {n:Nat} {r:Rt} (o:RtOk n r):RowN 110 n (fW n r):=by
 refine ⟨by unfold fW; simp,fun c hc=>?_⟩
 unfold fW at hc
 rcases List.mem_or_eq_of_mem_set hc with hc | rfl
 ·rw [List.eq_of_mem_replicate hc]
  exact uM (Int.le_refl 0) (Int.le_refl 0) (by unfold Bd; exact Nat.two_pow_pos _)
 ·refine uM o.w0 o.wt ?_
  have:=o.t1
  have:=o.w0
  have:=o.wt
  unfold Bd
  have e:(2:Nat) ^ 110=1298074214633706907132624082305024:=by decide
  rw [e]
  show r.t.natAbs < _
  omega
def nlS:Str:=Str.ofString "\n"
def spS:Str:=Str.ofString " "
structure TextOk (z:Str) (hs:List Str) (ms:List Mk) (cs:List Cs):Prop where
 zl:z.length <= 100000
 sp:(Txt.split z nlS).map (fun l=>Txt.split l spS)=(aC::hs)::ms.map mkLn++cs.map Cs.ln
 ll:∀ l∈Txt.split z nlS,l.length <= 100000
 h2:2 <= hs.length
 h6:hs.length <= 6
 hn:nmsB hs=true
 ho:∀ x∈hs,TxOk x
 mo:MsT ms
 cl:cs.length <= 60
 co:∀ c∈cs,CsOk hs ms c.hn c.kw c.a c.b c.t c.w /\ c.t < 10 ^ 30 /\ ∀ x∈c.hn::c.kw,TxOk x
 cb:∀ (i:Nat) (x y:Cs),cs[i]? = some x->cs[i + 1]? = some y->gtP (kpl y.kw ms) (plc y.hn hs) (kpl x.kw ms) (plc x.hn hs)=true
def yZ (hs:List Str) (ms:List Mk) (cs:List Cs):D:=.tup [nmD hs ms,.tup [.int hs.length,.tup (ms.map fun m=>.int m.2.length),.tup ((gath hs.length (cs.map fun c=>(kpl c.kw ms,fW hs.length (c.rt hs ms)))).map bd)]]
def Bf:DSp:=fun ds Q=>∃ (z:Str) (hs:List Str) (ms:List Mk) (cs:List Cs),ds=[.str z] /\ TextOk z hs ms cs /\ Q (yZ hs ms cs)
theorem uY:bR Bf:=fun ds P P' f ⟨z,hs,ms,cs,a,b,h⟩=>⟨z,hs,ms,cs,a,b,f _ h⟩
theorem uZ (T:Tx K mg):FnOk P w K mg base CX0 5 T.vt T.pX ["text"] (spD K 1 Bf):=by
 refine fnD (k:=4) T.eM.F sc_read (fun cdv A outer s H E hr=>(af (cE (aV (aU (al nE rfl T.au rfl (aa (ab 0 (pv 0)) (aa (dY (n:="str") rfl T.pY rfl) ac))))) (ag lJ) aL)
   (af (gX (i:=1) sc_read.nd rfl rfl (aF (N':=["line"]) rfl rfl dk rfl (.own .nil) dk (aS (aq (qM (ab 0 (pv 0)) aJ))) (fun B=>(aj (i:=0) ndB rfl oo)) (fun B=>aM) (fun B=>(aq (qM (ab 0 (pv 0)) aJ)))))
   (af (cE (aV (aU (ao (iS T) iR (rm hr) rfl T.bc.m T.bc.F.kp T.bc.b (aa (ay (ab 1 (pv 1)) ae (fun _ _=>rfl)) ac)))) (ag lJ) aL)
   (af (aO (i:=2) sc_read.nd rfl oo (ao (si T) sg (rm hr) rfl T.dD.m T.dD.F.kp T.dD.b (aa (ab 1 (pv 1)) ac)))
   (af (aO (i:=3) sc_read.nd rfl oo (aX (aa (aq (kR (ay (ab 1 (pv 1)) ae (fun _ _=>rfl)) (eh ae) gU)) (aa (ab 2 (pv 2)) ac))))
   (af (aO (i:=4) sc_read.nd rfl oo (al cG rfl T.cM PySem.boot_len (aa (ay (ab 3 (pv 3)) ae (fun _ _=>rfl)) ac)))
   (af (gX (i:=5) sc_read.nd rfl rfl (aF (N':=["row","many"]) rfl rfl dk rfl (.own (.cap (j:=4) rfl oo rfl .nil)) dk (aS (ao (uX T) uW (rm hr) rfl T.fe.m T.fe.F.kp T.fe.b (aa (ab 1 (pv 1)) (aa (ab 3 (pv 3)) ac)))) (fun B=>(aj (i:=0) ndB rfl oo)) (fun B=>aM) (fun B=>(aX (aa (ay (ab 0 (pv 0)) ae (fun _ _=>rfl)) (aa (ao (kh T) kg (rm hr) rfl T.bu.m T.bu.F.kp T.bu.b (aa (ab 0 (pv 0)) (aa (ab 1 (pv 1)) ac))) ac))))))
   (af (aO (i:=6) sc_read.nd rfl oo (aX (aa (ab 4 (pv 4)) (aa (aK cu rfl T.aW rfl (aa (aq (PCD.pld (aF (N':=["name","kinds"]) rfl rfl dk rfl (.own (.own .nil)) dk (aS (ab 2 (pv 2))) (fun B=>(bX (n:=2) rfl (ar (aj (i:=0) ndB rfl oo) (ar (aj (i:=1) ndB rfl oo) bi)))) (fun B=>aM) (fun B=>(al cG rfl T.cM PySem.boot_len (aa (ab 1 (pv 1)) ac)))))) ac)) (aa (aK cu rfl T.aW rfl (aa (ao (sf T) se (rm hr) rfl T.dw.m T.dw.F.kp T.dw.b (aa (ab 4 (pv 4)) (aa (ab 5 (pv 5)) ac))) ac)) ac)))))
   (ag (az (aX (aa (ab 3 (pv 3)) (aa (ab 6 (pv 6)) ac)))))))))))))) (fun ds Q hl h=>?_)
 obtain ⟨z,hs,ms,cs,rfl,o,h⟩:=h
 have hz:∀ {n:Nat},n <= 100000->n + 2 <= sizeLine:=fun h=>Nat.le_trans (Nat.add_le_add_right h 2) (by decide)
 have e0:((Txt.split z nlS).map D.str).map (fun d=>match d with | .str l=>D.lst ((Txt.split l spS).map .str) | _=>.non)=((aC::hs)::ms.map mkLn++cs.map Cs.ln).map lnD:=by
  rw [← o.sp,List.map_map,List.map_map]
  rfl
 have lsz:(Txt.split z nlS).length <= 1000:=by
  have:=congrArg List.length o.sp
  have:=o.mo.l5
  have:=o.cl
  simp only [List.length_map,List.length_append,List.length_cons] at *
  omega
 refine ⟨rfl,rfl,Br.f ⟨z,rfl,nlS,⟨rfl,by decide +kernel,hz o.zl⟩,?_⟩⟩
 refine aQ (fun d=>match d with | .str l=>.lst ((Txt.split l spS).map .str) | _=>.non) (fun ρ=>∃ s,ρ=[s]) (by rw [List.length_map]; exact Nat.le_trans lsz (by decide)) (fun d hd ρ Y Z hN hY=>?_) _ ⟨_,rfl⟩ ?_
 ·obtain ⟨s,rfl⟩:=hN
  obtain ⟨l,hm,rfl⟩:=List.mem_map.mp hd
  exact Br.t ⟨l,rfl,spS,⟨rfl,by decide +kernel,hz (o.ll l hm)⟩,hY _ ⟨_,rfl⟩⟩
 rw [e0]
 refine bS (d:=lnD (aC::hs)) (Int.le_refl 0) rfl ⟨rfl,aC,hs,rfl,by have:=o.h6; omega,⟨by decide +kernel,by decide +kernel⟩,o.ho,?_⟩
 have hh:hlB aC hs=true:=by
  unfold hlB
  rw [decide_eq_true rfl,decide_eq_true o.h2,decide_eq_true o.h6,o.hn]
  rfl
 rw [hh]
 refine Br.f ⟨rfl,aC::hs,ms,cs.map Cs.ln,rfl,o.mo,fun l hl=>?_,?_⟩
 ·obtain ⟨c,hc,rfl⟩:=List.mem_map.mp hl
  obtain ⟨c1,c2,c3⟩:=o.co c hc
  have:=o.mo.l5
  have:=c1.kl
  refine ⟨c.hn::c.kw++[c.a,c.b],rfl,by simp; omega,fun x hx=>?_⟩
  rcases List.mem_append.mp hx with hx | hx
  ·exact c3 x hx
  ·simp only [List.mem_cons,List.not_mem_nil,or_false] at hx
   rcases hx with rfl | rfl
   ·exact c1.oa
   ·exact c1.ob
 have e1:cutD ((aC::hs).map D.str) (some 1) none=hs.map D.str:=gE D.str 1 (aC::hs) (by simp)
 refine bS (d:=lnD (aC::hs)) (Int.le_refl 0) rfl ?_
 refine ⟨sz,?_⟩
 rw [e1]
 have h6:=o.h6
 have hb:∀ c∈cs,RtOk hs.length (c.rt hs ms):=fun c hc=>by
  obtain ⟨c1,c2,_⟩:=o.co c hc
  have hp:plc c.hn hs < hs.length:=List.findIdx_lt_length_of_exists ⟨c.hn,c1.hh,by simp⟩
  have:=c1.tw
  exact ⟨by show (0:Int) <= (plc c.hn hs:Nat); omega,by show ((plc c.hn hs:Nat):Int) < _; omega,by show (0:Int) <= (c.w:Nat); omega,by show ((c.w:Nat):Int) <= (c.t:Nat); omega,by show ((c.t:Nat):Int) < _; omega⟩
 refine ⟨rfl,hs,ms,cs,aC::hs,rfl,⟨o.mo.l5,h6,fun m hm=>(o.mo.nm m hm).2.2.1⟩,by have:=o.cl; omega,fun c hc=>(o.co c hc).1,o.cb,?_⟩
 refine aQ (fun d=>match d with | .tup [.int h,.tup ks,.int t,.int w]=>.tup [.tup ks,rowD ((List.replicate hs.length (0,0)).set h.toNat (t,w))] | _=>.non) (fun ρ=>∃ s,ρ=[s,.val (.int hs.length)]) (by rw [List.length_map,List.length_map]; exact Nat.le_trans o.cl (by decide)) (fun d hd ρ Y Z hN hY=>?_) _ ⟨_,by rw [List.length_map]; rfl⟩ ?_
 ·obtain ⟨s,rfl⟩:=hN
  obtain ⟨r,hr,rfl⟩:=List.mem_map.mp hd
  obtain ⟨c,hc,rfl⟩:=List.mem_map.mp hr
  exact Br.t ⟨rfl,c.rt hs ms,hs.length,rfl,hb c hc,h6,sz,hY _ ⟨_,rfl⟩⟩
 have e2:(((cs.map (Cs.rt hs ms)).map rtD).map fun d=>match d with | .tup [.int h,.tup ks,.int t,.int w]=>D.tup [.tup ks,rowD ((List.replicate hs.length (0,0)).set h.toNat (t,w))] | _=>.non)=(cs.map fun c=>(kpl c.kw ms,fW hs.length (c.rt hs ms))).map bd:=by
  rw [List.map_map,List.map_map,List.map_map]
  rfl
 rw [e2]
 refine aQ (fun d=>match d with | .tup [_,.lst ks]=>.int ks.length | _=>.non) (fun ρ=>∃ s s',ρ=[s,s']) (by rw [List.length_map]; exact Nat.le_trans o.mo.l5 (by decide)) (fun d hd ρ Y Z hN hY=>?_) _ ⟨_,_,rfl⟩ ?_
 ·obtain ⟨s,s',rfl⟩:=hN
  obtain ⟨m,hm,rfl⟩:=List.mem_map.mp hd
  exact ⟨rfl,Br.t (hY _ ⟨_,_,rfl⟩)⟩
 have e3:((ms.map mkD).map fun d=>match d with | .tup [_,.lst ks]=>D.int ks.length | _=>.non)=ms.map fun m=>.int m.2.length:=by
  rw [List.map_map]
  refine List.map_congr_left fun m _=>?_
  show D.int ((m.2.map D.str).length:Nat)=_
  rw [List.length_map]
 rw [e3,show (hs.map D.str).length=hs.length from List.length_map ..]
 refine ⟨rfl,hs.length,_,ms.length,rfl,rfl,⟨h6,by rw [List.length_map]; exact o.cl,fun p hp=>?_⟩,sz,sz,h⟩
 obtain ⟨c,hc,rfl⟩:=List.mem_map.mp hp
 refine ⟨?_,yY (hb c hc)⟩
 have:=(o.co c hc).1.kl
 show (kpl c.kw ms).length=_
 unfold kpl
 rw [List.length_map,List.length_zip]
 omega
def numS (n:Int):Str:=Str.ofString (toString n)
def wds (ms:List Mk) (ks:List Int):List Str:=(ms.zip ks).map fun p=>p.1.2.getD p.2.toNat Str.empty
def csOf (hs:List Str) (ms:List Mk) (c:List Int×Row):List Cs:=((hs.zip c.2).filter fun p=>decide (0 < p.2.1)).map fun p=>⟨p.1,wds ms c.1,numS p.2.1,numS p.2.2,p.2.1.toNat,p.2.2.toNat⟩
def aG (hs:List Str) (ms:List Mk) (cells:List (List Int×Row)):List (List Str):=(aC::hs)::ms.map mkLn++(cells.flatMap (csOf hs ms)).map Cs.ln
def ca (hs:List Str) (ms:List Mk) (cells:List (List Int×Row)):Str:=Txt.join nlS ((aG hs ms cells).map (Txt.join spS))
structure ShOk (hs:List Str) (ms:List Mk) (cells:List (List Int×Row)):Prop where
 h6:hs.length <= 6
 m5:ms.length <= 5
 c7:cells.length <= 7
 hl:∀ x∈hs,x.length <= 8
 ml:∀ m∈ms,m.1.length <= 8 /\ m.2.length <= 6 /\ ∀ x∈m.2,x.length <= 8
 kl:∀ c∈cells,c.1.length=ms.length /\ RowN 100 hs.length c.2
 kk:∀ c∈cells,∀ (i:Nat) (k:Int) (m:Mk),c.1[i]? = some k->ms[i]? = some m->0 <= k /\ k < m.2.length
theorem mj (ms:List Mk) (ks:List Int):(wds ms ks).length <= ms.length:=by
 unfold wds
 rw [List.length_map,List.length_zip]
 omega
theorem mq {n:Int} (h0:0 <= n) (b:Bd 100 n):(numS n).length <= 31:=by
 refine PyProof.Rows.toString_length_le h0 (by decide) ?_
 unfold Bd at b
 have e:(2:Nat) ^ 100=1267650600228229401496703205376:=by decide
 rw [e] at b
 omega
theorem Cp {hs:List Str} {ms:List Mk} {cells:List (List Int×Row)} (o:ShOk hs ms cells) (ks:List Int):∀ x∈wds ms ks,x.length <= 8:=fun x hx=>by
 unfold wds at hx
 obtain ⟨p,hp,rfl⟩:=List.mem_map.mp hx
 have hm:=(o.ml p.1 (List.of_mem_zip hp).1).2.2
 rw [List.getD_eq_getElem?_getD]
 cases q:p.1.2[p.2.toNat]? with
 | none=>exact Nat.zero_le _
 | some y=>exact hm y (List.mem_of_getElem? q)
theorem pP {hs:List Str} {ms:List Mk} {cells:List (List Int×Row)} (o:ShOk hs ms cells):∀ l∈aG hs ms cells,l.length <= 12 /\ ∀ x∈l,x.length <= 40:=fun l hl=>by
 have h6:=o.h6
 have m5:=o.m5
 unfold aG at hl
 rcases List.mem_append.mp hl with hl | hl
 ·rcases List.mem_cons.mp hl with rfl | hl
  ·refine ⟨by simp; omega,fun x hx=>?_⟩
   rcases List.mem_cons.mp hx with rfl | hx
   ·decide +kernel
   ·exact Nat.le_trans (o.hl x hx) (by decide)
  ·obtain ⟨m,hm,rfl⟩:=List.mem_map.mp hl
   obtain ⟨a1,a2,a3⟩:=o.ml m hm
   refine ⟨by simp [mkLn]; omega,fun x hx=>?_⟩
   rcases List.mem_cons.mp hx with rfl | hx
   ·decide +kernel
   ·rcases List.mem_cons.mp hx with rfl | hx
    ·omega
    ·exact Nat.le_trans (a3 x hx) (by decide)
 ·obtain ⟨c,hc,rfl⟩:=List.mem_map.mp hl
  obtain ⟨cl,hcl,hc⟩:=List.mem_flatMap.mp hc
  unfold csOf at hc
  obtain ⟨p,hp,rfl⟩:=List.mem_map.mp hc
  have hp:=List.of_mem_zip (List.mem_filter.mp hp).1
  have cn:=(o.kl cl hcl).2.2 p.2 hp.2
  have wl:=mj ms cl.1
  have lo:=cn.lo
  have hi:=cn.hi
  refine ⟨by simp [Cs.ln]; omega,fun x hx=>?_⟩
  unfold Cs.ln at hx
  simp only [List.mem_append,List.mem_cons,List.not_mem_nil,or_false] at hx
  rcases hx with (rfl | rfl | hx) | rfl | rfl
  ·decide +kernel
  ·exact Nat.le_trans (o.hl _ hp.1) (by decide)
  ·exact Nat.le_trans (Cp o cl.1 x hx) (by decide)
  ·exact Nat.le_trans (mq (by omega) cn.bt) (by decide)
  ·exact Nat.le_trans (mq (by omega) cn.bw) (by decide)
theorem eF {hs:List Str} {ms:List Mk} {cells:List (List Int×Row)} (o:ShOk hs ms cells):(aG hs ms cells).length <= 50:=by
 have h6:=o.h6
 have m5:=o.m5
 have c7:=o.c7
 have key:∀ cs:List (List Int×Row),(cs.flatMap (csOf hs ms)).length <= 6 * cs.length:=fun cs=>by
  induction cs with
  | nil=>simp
  | cons c cs ih =>
   rw [List.flatMap_cons,List.length_append,List.length_cons]
   have:(csOf hs ms c).length <= 6:=by
    unfold csOf
    rw [List.length_map]
    refine Nat.le_trans (List.length_filter_le _ _) ?_
    rw [List.length_zip]
    omega
   omega
 have:=key cells
 unfold aG
 simp only [List.length_append,List.length_cons,List.length_map]
 omega
theorem ki {sep:Str} {ws:List Str} {B:Nat} (hB:∀ y∈ws,y.length <= B) (h:ws.length * B + ws.length * sep.length <= 16777216):JoinOk sep ws=true:=by
 unfold JoinOk
 rw [StrLaws.joinFits hB h]
 rfl
theorem mt {ws:List Str} {B:Nat} (hB:∀ y∈ws,y.length <= B) (hl:ws.length <= 12):(Txt.join spS ws).length <= 12 * B + 12:=by
 have h1:=StrLaws.join_length_le spS ws
 have h2:=StrLaws.sumLen_le ws hB
 have e:spS.length=1:=by decide +kernel
 have h3:ws.length * B <= 12 * B:=Nat.mul_le_mul_right B hl
 have e2:Txt.join spS ws=Str.join spS ws:=StrLaws.glued_eq_join ..
 rw [e2]
 rw [e] at h1
 omega
def Bg:DSp:=fun ds Q=>∃ (hs:List Str) (ms:List Mk) (cells:List (List Int×Row)) (a b:D),ds=[nmD hs ms,.tup [a,b,.tup (cells.map bd)]] /\ ShOk hs ms cells /\ Q (.str (ca hs ms cells))
theorem wu {α β:Type} {xs:List α} {ys:List β} (h:ys.length < xs.length) (y:β):xs.zip (ys++[y])=xs.zip ys++[(xs[ys.length],y)]:=by
 have eT:xs=xs.take ys.length++xs[ys.length]::xs.drop (ys.length + 1):=by
  rw [← List.drop_eq_getElem_cons h,List.take_append_drop]
 have l1:(xs.take ys.length).length=ys.length:=by rw [List.length_take]; omega
 have z1:(xs.take ys.length++xs[ys.length]::xs.drop (ys.length + 1)).zip (ys++[y])=_:=List.zip_append l1
 have z2:(xs.take ys.length++xs[ys.length]::xs.drop (ys.length + 1)).zip (ys++[])=_:=List.zip_append l1
 rw [← eT,List.zip_cons_cons,List.zip_nil_right] at z1
 rw [← eT,List.append_nil,List.zip_nil_right,List.append_nil] at z2
 rw [z1,z2]
theorem qU {n:Int} {m:Nat} (b:Bd m n) (h:m < 1920):n.natAbs.log2 < 1920:=by
 unfold Bd at b
 by_cases z:n.natAbs=0
 ·rw [z]; decide
 ·have:=(Nat.log2_lt z).mpr b
  omega
theorem dv:∀ (xs ys:List D) (k:Nat),cY k (xs++ys)=cY k xs++cY (k + xs.length) ys
 | [],ys,k=>by simp [cY]
 | x::xs,ys,k=>by
  rw [List.cons_append,cY,cY,dv xs ys (k + 1),List.cons_append,List.length_cons,show k + 1 + xs.length=k + (xs.length + 1) by omega]
theorem wv {hs:List Str} {ms:List Mk} {cells:List (List Int×Row)} (o:ShOk hs ms cells) {c:List Int×Row} (hc:c∈cells) {s s':Sl} {Q:List D->Prop} (q:Q ((wds ms c.1).map D.str)) :
  cH (tD 2 (gu (cF 0) (gu (cF 1) tu))) bU (dOp gIx (dOp gIx (dOp gIx (dOp gIx (dVar 2) (dC (.int 1))) (dVar 0)) (dC (.int 1))) (dVar 1)) (cY 0 (c.1.map D.int)) [] [s,s',.val (nmD hs ms)] Q:=by
 have m5:=o.m5
 have kl:=(o.kl c hc).1
 refine bj (fun pre acc ρ=>∃ (k0 k1:List Int) (s s':Sl),c.1=k0++k1 /\ pre=cY 0 (k0.map D.int) /\ acc=(wds ms k0).map D.str /\ ρ=[s,s',.val (nmD hs ms)]) (fun acc ρ hN=>?_) (fun pre d post acc ρ Y e hN hY=>?_) _ ⟨[],c.1,_,_,rfl,rfl,by unfold wds; rw [List.zip_nil_right]; rfl,rfl⟩
 ·obtain ⟨k0,k1,s,s',e1,e2,rfl,rfl⟩:=hN
  have:=congrArg List.length e2
  rw [bm,bm,e1,List.length_map,List.length_map,List.length_append] at this
  have:k1=[]:=List.length_eq_zero_iff.mp (by omega)
  subst this
  rw [List.append_nil] at e1
  rw [← e1]
  exact q
 ·obtain ⟨k0,k1,s,s',e1,rfl,rfl,rfl⟩:=hN
  rw [e1,List.map_append,dv] at e
  have e:=List.append_cancel_left e
  cases k1 with
  | nil=>simp [cY] at e
  | cons k k1 =>
   rw [List.map_cons,cY] at e
   injection e with e4 e5
   subst e4
   have hl:=congrArg List.length e1
   rw [List.length_append,List.length_cons] at hl
   have hlt:k0.length < ms.length:=by omega
   have em:ms[k0.length]? = some ms[k0.length]:=List.getElem?_eq_getElem hlt
   obtain ⟨b0,b1⟩:=o.kk c hc k0.length k ms[k0.length] (by rw [e1,List.getElem?_append_right (Nat.le_refl _)]; simp) em
   have ek:(ms[k0.length]).2[k.toNat]? = some ((ms[k0.length]).2.getD k.toNat Str.empty):=by
    rw [List.getD_eq_getElem?_getD,List.getElem?_eq_getElem (by omega)]
    rfl
   have ew:wds ms (k0++[k])=wds ms k0++[(ms[k0.length]).2.getD k.toNat Str.empty]:=by
    unfold wds
    have:ms=ms.take k0.length++ms[k0.length]::ms.drop (k0.length + 1):=by
     rw [← List.drop_eq_getElem_cons hlt,List.take_append_drop]
    have l1:(ms.take k0.length).length=k0.length:=by rw [List.length_take]; omega
    have z1:ms.zip (k0++[k])=(ms.take k0.length).zip k0++[(ms[k0.length],k)]:=by
     conv=>lhs; rw [this]
     rw [List.zip_append l1,List.zip_cons_cons,List.zip_nil_right]
    have z2:ms.zip k0=(ms.take k0.length).zip k0:=by
     have h:(ms.take k0.length++ms[k0.length]::ms.drop (k0.length + 1)).zip (k0++[])=_:=List.zip_append l1
     rw [← this,List.append_nil,List.zip_nil_right,List.append_nil] at h
     exact h
    rw [z1,z2,List.map_append]
    rfl
   refine ⟨rfl,Br.t ?_⟩
   refine bS (d:=mkD ms[k0.length]) (by simp) (by rw [List.length_map,Nat.zero_add,Int.toNat_natCast,List.getElem?_map,em]; rfl) ?_
   refine bS (d:=.str ((ms[k0.length]).2.getD k.toNat Str.empty)) b0 (by rw [List.getElem?_map,ek]; rfl) ⟨?_,hY _ _ ⟨k0++[k],k1,_,_,by rw [e1]; simp,by rw [List.map_append,dv]; rfl,by rw [ew,List.map_append]; rfl,rfl⟩⟩
   rw [List.length_map]
   have:=mj ms k0
   exact Nat.lt_of_le_of_lt (show _ <= 5 by omega) (by decide)
theorem xt:bR Bg:=fun ds P P' f ⟨hs,ms,cs,a,b,c,d,h⟩=>⟨hs,ms,cs,a,b,c,d,f _ h⟩
theorem xu (T:Tx K mg):FnOk P w K mg base CX0 1 T.vp T.pZ ["names","book"] (spD K 2 Bg):=by
 refine fnD (k:=0) T.iL.F sc_show (fun cdv A outer s H E hr=>(af (iG (i:=2) sc_show.nd rfl oo (bh (aa (aq (ei (aq (bh (aa aJ ac))) (aq (fJ rfl T.eR rfl (ay (ab 0 (pv 0)) ae (fun _ _=>rfl)))))) ac)))
   (bF (cm PassesOwn.never rfl (aS (ay (ab 0 (pv 0)) ae (fun _ _=>rfl))) (bX (n:=2) rfl (ar (aj (i:=3) sc_show.nd rfl oo) (ar (aj (i:=4) sc_show.nd rfl oo) bi))) (ag (gv (pv 2) (aq (ei (aq (bh (aa aJ (aa (ab 3 (pv 3)) ac)))) (aq (fJ rfl T.eR rfl (ab 4 (pv 4)))))))))
   (bF (cm PassesOwn.never rfl (nv (ay (ab 1 (pv 1)) ae (fun _ _=>rfl))) (bX (n:=2) rfl (ar (aj (i:=4) sc_show.nd rfl oo) (ar (aj (i:=5) sc_show.nd rfl oo) bi))) (af (gX (i:=6) sc_show.nd rfl rfl (aF (N':=["mark","kind","names"]) rfl rfl dk rfl (.own (.own (.cap (j:=0) rfl oo rfl .nil))) dk (qG rfl T.gf (aa (ab 4 (pv 4)) ac)) (fun B=>(bX (n:=2) rfl (ar (aj (i:=0) ndB rfl oo) (ar (aj (i:=1) ndB rfl oo) bi)))) (fun B=>aM) (fun B=>(ay (ay (ay (ay (ab 2 (pv 2)) ae (fun _ _=>rfl)) (ab 0 (pv 0)) (fun _ _=>rfl)) ae (fun _ _=>rfl)) (ab 1 (pv 1)) (fun _ _=>rfl)))))
   (ag (cm PassesOwn.never rfl (qG rfl T.gf (aa (ab 5 (pv 5)) ac)) (bX (n:=2) rfl (ar (aj (i:=7) sc_show.nd rfl oo) (ar (aj (i:=8) sc_show.nd rfl oo) bi))) (ag (cE (bf pA (ay (ab 8 (pv 8)) ae (fun _ _=>rfl)) ae (aH _)) (ag (gv (pv 2) (aq (ei (aq (ei (aq (bh (aa aJ (aa (ay (ay (ab 0 (pv 0)) ae (fun _ _=>rfl)) (ab 7 (pv 7)) (fun _ _=>rfl)) ac)))) (ab 6 (pv 6)))) (aq (bh (aa (aK lZ rfl T.pY rfl (aa (ay (ab 8 (pv 8)) ae (fun _ _=>rfl)) ac)) (aa (aK lZ rfl T.pY rfl (aa (ay (ab 8 (pv 8)) ae (fun _ _=>rfl)) ac)) ac)))))))) aL))))))
   (ag (az (fO aJ (aq (PCD.pld (aF (N':=["line"]) rfl rfl dk rfl (.own .nil) dk (aS (ab 2 (pv 2))) (fun B=>(aj (i:=0) ndB rfl oo)) (fun B=>aM) (fun B=>(fO aJ (ab 0 (pv 0)))))))))))))) (fun ds Q hl h=>?_)
 obtain ⟨hs,ms,cells,a,b,rfl,o,h⟩:=h
 have szc:∀ {n:Nat},n <= 1000->n <= sizeLine:=fun h=>Nat.le_trans h (by decide)
 have h6:=o.h6
 have m5:=o.m5
 refine ⟨sz,⟨szc (by simp; omega),sz,?_⟩⟩
 refine ⟨fun ρ=>∃ s3 s4 s5 s6 s7 s8:Sl,ρ=[.val (nmD hs ms),.val (.tup [a,b,.tup (cells.map bd)]),.own (((aC::hs)::ms.map mkLn).map lnD),s3,s4,s5,s6,s7,s8],?_,?_⟩
 ·refine bb (fun pre ρ=>∃ (m0 m1:List Mk) (s3 s4 s5 s6 s7 s8:Sl),ms=m0++m1 /\ pre=m0.map mkD /\ ρ=[.val (nmD hs ms),.val (.tup [a,b,.tup (cells.map bd)]),.own (((aC::hs)::m0.map mkLn).map lnD),s3,s4,s5,s6,s7,s8]) (fun ρ hN=>?_) (fun pre d post ρ X e hN hX=>?_) _ ⟨[],ms,_,_,_,_,_,_,rfl,rfl,rfl⟩
  ·obtain ⟨m0,m1,s3,s4,s5,s6,s7,s8,e3,e4,rfl⟩:=hN
   have:=congrArg List.length e4
   rw [e3] at this
   simp only [List.length_map,List.length_append] at this
   have:m1=[]:=List.length_eq_zero_iff.mp (by omega)
   subst this
   rw [List.append_nil] at e3
   subst e3
   exact ⟨_,_,_,_,_,_,rfl⟩
  ·obtain ⟨m0,m1,s3,s4,s5,s6,s7,s8,e3,rfl,rfl⟩:=hN
   rw [e3,List.map_append] at e
   have e:=List.append_cancel_left e
   cases m1 with
   | nil=>simp at e
   | cons m m1 =>
    rw [List.map_cons] at e
    injection e with e4 e5
    subst e4
    have hm:=(o.ml m (by rw [e3]; simp)).2.1
    have hl:=congrArg List.length e3
    rw [List.length_append] at hl
    refine ⟨rfl,trivial,sz,szc (by simp; omega),?_,hX _ ⟨m0++[m],m1,_,_,_,_,_,_,by rw [e3,List.append_assoc]; rfl,by rw [List.map_append]; rfl,by rw [show ((aC::hs)::(m0++[m]).map mkLn).map lnD=((aC::hs)::m0.map mkLn).map lnD++[lnD (mkLn m)] by simp]; rfl⟩⟩
    exact Nat.lt_of_le_of_lt (show (((aC::hs)::m0.map mkLn).map lnD).length <= 100 by simp; omega) (by decide)
 ·rintro _ ⟨s3,s4,s5,s6,s7,s8,rfl⟩
  refine ⟨fun ρ=>∃ s3 s4 s5 s6 s7 s8:Sl,ρ=[.val (nmD hs ms),.val (.tup [a,b,.tup (cells.map bd)]),.own ((aG hs ms cells).map lnD),s3,s4,s5,s6,s7,s8],?_,?_⟩
  ·have base:∀ c0 c1,cells=c0++c1->((aC::hs)::ms.map mkLn++(c0.flatMap (csOf hs ms)).map Cs.ln).length <= 50:=fun c0 c1 e=>by
    have:=eF o
    unfold aG at this
    rw [e,List.flatMap_append,List.map_append,← List.append_assoc,List.length_append] at this
    omega
   refine bb (fun pre ρ=>∃ (c0 c1:List (List Int×Row)) (s3 s4 s5 s6 s7 s8:Sl),cells=c0++c1 /\ pre=c0.map bd /\ ρ=[.val (nmD hs ms),.val (.tup [a,b,.tup (cells.map bd)]),.own (((aC::hs)::ms.map mkLn++(c0.flatMap (csOf hs ms)).map Cs.ln).map lnD),s3,s4,s5,s6,s7,s8]) (fun ρ hN=>?_) (fun pre d post ρ X e hN hX=>?_) _ ⟨[],cells,s3,s4,s5,s6,s7,s8,rfl,rfl,by simp⟩
   ·obtain ⟨c0,c1,s3,s4,s5,s6,s7,s8,e3,e4,rfl⟩:=hN
    have:=congrArg List.length e4
    rw [e3] at this
    simp only [List.length_map,List.length_append] at this
    have:c1=[]:=List.length_eq_zero_iff.mp (by omega)
    subst this
    rw [List.append_nil] at e3
    subst e3
    exact ⟨_,_,_,_,_,_,rfl⟩
   ·obtain ⟨c0,c1,s3,s4,s5,s6,s7,s8,e3,rfl,rfl⟩:=hN
    have e':=e
    rw [e3,List.map_append] at e
    have e:=List.append_cancel_left e
    cases c1 with
    | nil=>simp at e
    | cons c c1 =>
     rw [List.map_cons] at e
     injection e with e4 e5
     subst e4
     have hc:c∈cells:=by rw [e3]; simp
     refine ⟨rfl,wv o hc ?_⟩
     have hr:=(o.kl c hc).2
     have hbase:=base c0 _ e3
     have lf:=eF o
     refine bb (fun pre ρ=>∃ (r0 r1:Row) (s3 s7 s8:Sl),c.2=r0++r1 /\ pre=cY 0 (r0.map bx) /\ ρ=[.val (nmD hs ms),.val (.tup [a,b,.tup (cells.map bd)]),.own (((aC::hs)::ms.map mkLn++(c0.flatMap (csOf hs ms)).map Cs.ln).map lnD++((csOf hs ms (c.1,r0)).map Cs.ln).map lnD),s3,.val (gD c.1),.val (rowD c.2),.val (.lst ((wds ms c.1).map .str)),s7,s8]) (fun ρ hN=>?_) (fun pre d post ρ X' e hN hX'=>?_) _ ⟨[],c.2,s3,s7,s8,rfl,rfl,by unfold csOf; simp⟩
     ·obtain ⟨r0,r1,s3,s7,s8,e6,e7,rfl⟩:=hN
      have:=congrArg List.length e7
      rw [bm,bm,e6,List.length_map,List.length_map,List.length_append] at this
      have:r1=[]:=List.length_eq_zero_iff.mp (by omega)
      subst this
      rw [List.append_nil] at e6
      refine hX _ ⟨c0++[c],c1,s3,.val (gD c.1),.val (rowD c.2),.val (.lst ((wds ms c.1).map .str)),s7,s8,by rw [e3]; simp,by rw [List.map_append]; rfl,?_⟩
      rw [← e6,← List.map_append,List.append_assoc,← List.map_append,List.flatMap_append,List.flatMap_cons,List.flatMap_nil,List.append_nil]
     ·obtain ⟨r0,r1,s3,s7,s8,e6,rfl,rfl⟩:=hN
      rw [e6,List.map_append,dv] at e
      have e:=List.append_cancel_left e
      cases r1 with
      | nil=>simp [cY] at e
      | cons x r1 =>
       rw [List.map_cons,cY] at e
       injection e with e7 e8
       subst e7
       have hl:=congrArg List.length e6
       rw [List.length_append,List.length_cons,hr.1] at hl
       have hlt:r0.length < hs.length:=by omega
       have cn:=hr.2 x (by rw [e6]; simp)
       have ez:csOf hs ms (c.1,r0++[x])=csOf hs ms (c.1,r0)++(if 0 < x.1 then [⟨hs[r0.length],wds ms c.1,numS x.1,numS x.2,x.1.toNat,x.2.toNat⟩] else []):=by
        unfold csOf
        show ((hs.zip (r0++[x])).filter _).map _=_
        rw [wu hlt,List.filter_append,List.map_append]
        by_cases q:0 < x.1
        ·rw [if_pos q]; simp [q]
        ·rw [if_neg q]; simp [q]
       refine ⟨rfl,fun e9=>?_,fun e9=>?_⟩
       ·have e9:=of_decide_eq_true e9
        rw [if_pos e9] at ez
        have wl:=mj ms c.1
        have hcs:(csOf hs ms (c.1,r0)).length <= 6:=by
         unfold csOf
         rw [List.length_map]
         refine Nat.le_trans (List.length_filter_le _ _) ?_
         rw [List.length_zip]
         omega
        refine ⟨trivial,bS (d:=.str hs[r0.length]) (by omega) (by rw [List.length_map,Nat.zero_add,Int.toNat_natCast,List.getElem?_map,List.getElem?_eq_getElem hlt]; rfl) ⟨sz,szc (by simp; omega),qU cn.bt (by decide),qU cn.bw (by decide),sz,szc (by simp; omega),?_,hX' _ ⟨r0++[x],r1,s3,.val (.int ((0 + (r0.map bx).length:Nat):Int)),.val (bx x),by rw [e6]; simp,by rw [List.map_append,dv]; rfl,?_⟩⟩⟩
        ·rw [List.length_append,List.length_map,List.length_map,List.length_map]
         exact Nat.lt_of_le_of_lt (show _ <= 100 by omega) (by decide)
        ·have el:((csOf hs ms (c.1,r0++[x])).map Cs.ln).map lnD=((csOf hs ms (c.1,r0)).map Cs.ln).map lnD++[.lst (([.str dL,.str hs[r0.length]]++(wds ms c.1).map D.str)++[.str (numS x.1),.str (numS x.2)])]:=by
          rw [ez,List.map_append,List.map_append]
          simp [Cs.ln]
         rw [el,← List.append_assoc]
         rfl
       ·have e9:=of_decide_eq_false e9
        rw [if_neg e9,List.append_nil] at ez
        refine hX' _ ⟨r0++[x],r1,s3,_,_,by rw [e6]; simp,by rw [List.map_append,dv]; rfl,by rw [ez]; rfl⟩
  ·rintro _ ⟨s3,s4,s5,s6,s7,s8,rfl⟩
   have lb:=pP o
   have ll:=eF o
   have esp:spS.length=1:=by decide +kernel
   have enl:nlS.length=1:=by decide +kernel
   refine ⟨nlS,rfl,?_⟩
   refine aQ (fun d=>match d with | .lst ds=>.str (Txt.join spS (ds.map fun d=>match d with | .str x=>x | _=>Str.empty)) | _=>.non) (fun ρ=>∃ s,ρ=[s]) (by rw [List.length_map]; exact szc (by omega)) (fun d hd ρ Y Z hN hY=>?_) _ ⟨_,rfl⟩ ?_
   ·obtain ⟨s,rfl⟩:=hN
    obtain ⟨l,hl,rfl⟩:=List.mem_map.mp hd
    have el:((l.map D.str).map fun d=>match d with | .str x=>x | _=>Str.empty)=l:=by rw [List.map_map]; exact List.map_id l
    have hY:=hY [.val (lnD l)] ⟨_,rfl⟩
    simp only [el] at hY
    refine Br.t ⟨spS,rfl,l,⟨rfl,ki (lb l hl).2 ?_⟩,hY⟩
    have:=(lb l hl).1
    rw [esp]
    omega
   ·have em:((aG hs ms cells).map lnD).map (fun d=>match d with | .lst ds=>D.str (Txt.join spS (ds.map fun d=>match d with | .str x=>x | _=>Str.empty)) | _=>.non)=((aG hs ms cells).map (Txt.join spS)).map D.str:=by
     rw [List.map_map,List.map_map]
     refine List.map_congr_left fun l _=>?_
     show D.str (Txt.join spS ((l.map D.str).map fun d=>match d with | .str x=>x | _=>Str.empty))=_
     rw [List.map_map]
     exact congrArg (fun z=>D.str (Txt.join spS z)) (List.map_id l)
    rw [em]
    refine ⟨_,⟨rfl,ki (B:=492) (fun y hy=>?_) ?_⟩,h⟩
    ·obtain ⟨l,hl,rfl⟩:=List.mem_map.mp hy
     exact mt (B:=40) (lb l hl).2 (lb l hl).1
    ·rw [List.length_map,enl]
     omega
def jn (c:Nat):List (List Nat)->List Nat
 | []=>[]
 | [x]=>x
 | x::y::r=>x++c::jn c (y::r)
theorem vc {c:Nat}:∀ {a a' b b':List Nat},c∉a->c∉a'->a++c::b=a'++c::b'->a=a' /\ b=b'
 | [],[],b,b',_,_,h=>by simpa using h
 | [],x::a',b,b',_,h2,h=>by
  simp only [List.nil_append,List.cons_append,List.cons.injEq] at h
  exact absurd (by simp [h.1]) h2
 | x::a,[],b,b',h1,_,h=>by
  simp only [List.nil_append,List.cons_append,List.cons.injEq] at h
  exact absurd (by simp [h.1]) h1
 | x::a,y::a',b,b',h1,h2,h=>by
  simp only [List.cons_append,List.cons.injEq] at h
  obtain ⟨e1,e2⟩:=vc (fun z=>h1 (List.mem_cons_of_mem _ z)) (fun z=>h2 (List.mem_cons_of_mem _ z)) h.2
  exact ⟨by rw [h.1,e1],e2⟩
theorem xv {c:Nat}:∀ {xs ys:List (List Nat)},xs≠[]->ys≠[]->(∀ x∈xs,c∉x)->(∀ y∈ys,c∉y)->jn c xs=jn c ys->xs=ys
 | [],_,h,_,_,_,_=>absurd rfl h
 | _,[],_,h,_,_,_=>absurd rfl h
 | [x],[y],_,_,_,_,h=>by rw [show x=y from h]
 | [x],y::y'::r,_,_,hx,_,h=>by
  have h:x=y++c::jn c (y'::r):=h
  exact absurd (by rw [h]; simp) (hx x (by simp))
 | x::x'::r,[y],_,_,_,hy,h=>by
  have h:x++c::jn c (x'::r)=y:=h
  exact absurd (by rw [← h]; simp) (hy y (by simp))
 | x::x'::r,y::y'::r',_,_,hx,hy,h=>by
  obtain ⟨e1,e2⟩:=vc (hx x (by simp)) (hy y (by simp)) (show x++c::jn c (x'::r)=y++c::jn c (y'::r') from h)
  have e3:=xv (xs:=x'::r) (ys:=y'::r') (by simp) (by simp) (fun z hz=>hx z (List.mem_cons_of_mem _ hz)) (fun z hz=>hy z (List.mem_cons_of_mem _ hz)) e2
  rw [e1,e3]
theorem pQ (c:Nat):∀ ls:List Str,(Str.join ⟨#[c]⟩ ls).cps.toList=jn c (ls.map fun l=>l.cps.toList)
 | []=>rfl
 | [x]=>rfl
 | x::y::r=>by
  have ih:=pQ c (y::r)
  show (x++⟨#[c]⟩++Str.join ⟨#[c]⟩ (y::r)).cps.toList=x.cps.toList++c::jn c ((y::r).map fun l=>l.cps.toList)
  rw [Str.cps_append,Str.cps_append,Array.toList_append,Array.toList_append,ih]
  simp
theorem za {a b:Str} (h:a.cps.toList=b.cps.toList):a=b:=by
 cases a
 cases b
 simp only at h
 rw [Array.toList_inj.mp h]
theorem kZ {c:Nat} {ls:List Str} (hne:ls≠[]) (h:∀ l∈ls,c∉l.cps.toList):Txt.split (Txt.join ⟨#[c]⟩ ls) ⟨#[c]⟩=ls:=by
 have e0:Txt.join ⟨#[c]⟩ ls=Str.join ⟨#[c]⟩ ls:=StrLaws.glued_eq_join ..
 have e1:=StrLaws.join_split (Txt.join ⟨#[c]⟩ ls) ⟨#[c]⟩
 have fr:=StrLaws.split_free (Txt.join ⟨#[c]⟩ ls) c
 have sn:Txt.split (Txt.join ⟨#[c]⟩ ls) ⟨#[c]⟩≠[]:=fun z=>by
  have:=PyProof.Rows.split_pos (Txt.join ⟨#[c]⟩ ls) ⟨#[c]⟩
  rw [z] at this
  exact absurd this (by decide)
 generalize Txt.split (Txt.join ⟨#[c]⟩ ls) ⟨#[c]⟩=ps at e1 fr sn
 rw [e0] at e1
 have e2:=congrArg (fun z:Str=>z.cps.toList) e1
 simp only [pQ] at e2
 have e3:=xv (by simpa using sn) (by simpa using hne) (fun x hx=>by obtain ⟨l,hl,rfl⟩:=List.mem_map.mp hx; exact fr l hl) (fun x hx=>by obtain ⟨l,hl,rfl⟩:=List.mem_map.mp hx; exact h l hl) e2
 exact List.map_inj_right (fun _ _=>za) |>.mp e3
theorem fk (m:Nat):NumText.AllDigits (numS ((m:Nat):Int)).cps.toList:=fun c hc=>by
 unfold numS at hc
 rw [PySem.W.KIN.signs_num] at hc
 obtain ⟨ch,hch,e⟩:=List.mem_map.mp hc
 have r:=PyProof.Rows.digit_range (Nat.isDigit_of_mem_toDigits (by decide) (by decide) hch)
 rw [← e]
 exact r
theorem xw (m:Nat):(numS ((m:Nat):Int)).cps.toList≠[]:=by
 unfold numS
 rw [PySem.W.KIN.signs_num]
 intro e
 have h:=PySem.toDigits_len_ge 10 m
 rw [List.map_eq_nil_iff.mp e] at h
 exact absurd h (by decide)
theorem oq {n:Int} (h0:0 <= n) (b:Bd 100 n):intText? (numS n)=some n:=by
 have hl:=mq h0 b
 obtain ⟨m,rfl⟩:=Int.eq_ofNat_of_zero_le h0
 have e:=PySem.intText_digits (fk m) (xw m) (Nat.le_trans hl (by decide))
 unfold numS at e ⊢
 rw [PySem.W.KIN.signs_num,PySem.W.KIN.val_back] at e
 exact e
theorem ww (m:Nat) (hm:0 < m):((Nat.toDigits 10 m).map Char.toNat).head? ≠ some 48:=by
 induction m using Nat.strongRecOn with
 | _ m ih =>
  by_cases h:m < 10
  ·rw [Nat.toDigits_of_lt_base h]
   have key:∀ d:Nat,d < 10->0 < d->(Nat.digitChar d).toNat≠48:=by decide
   intro z
   have z:some (Nat.digitChar m).toNat=some 48:=z
   exact key m h hm (Option.some.inj z)
  ·have hr:m % 10 < 10:=Nat.mod_lt m (by decide)
   have t:Nat.toDigits 10 (m / 10)++Nat.toDigits 10 (m % 10)=Nat.toDigits 10 (10 * (m / 10) + m % 10):=Nat.toDigits_append_toDigits (by decide) (by omega) hr
   rw [Nat.div_add_mod] at t
   have i1:=ih (m / 10) (by omega) (by omega)
   have hne:(Nat.toDigits 10 (m / 10)).map Char.toNat≠[]:=fun e=>by
    have h:=PySem.toDigits_len_ge 10 (m / 10)
    rw [List.map_eq_nil_iff.mp e] at h
    exact absurd h (by decide)
   rw [← t,List.map_append]
   cases q:(Nat.toDigits 10 (m / 10)).map Char.toNat with
   | nil=>exact absurd q hne
   | cons c r =>
    rw [q] at i1
    exact i1
theorem qV {a b:Nat} {x:Str} (h:∀ c∈x.cps.toList,a <= c /\ c <= b):og a b x=true:=by
 unfold og
 rw [List.all_eq_true]
 intro c hc
 rw [decide_eq_true (h c hc).1,decide_eq_true (h c hc).2]
 rfl
theorem ou {n:Int} (h0:0 <= n) (h:n < 10 ^ 30):ol (numS n)=true:=by
 have hl:(numS n).length <= 30:=PyProof.Rows.toString_length_le h0 (by decide) h
 obtain ⟨m,rfl⟩:=Int.eq_ofNat_of_zero_le h0
 have h1:1 <= (numS (m:Int)).length:=by
  have:=xw m
  cases q:(numS (m:Int)).cps.toList with
  | nil=>exact absurd q this
  | cons c r =>
   have e:(numS (m:Int)).cps.toList.length=(numS (m:Int)).length:=Array.length_toList
   rw [q,List.length_cons] at e
   omega
 unfold ol
 rw [decide_eq_true h1,decide_eq_true hl,qV (fk m)]
 by_cases z:m=0
 ·subst z
  rw [show decide (numS ((0:Nat):Int)=yX)=true by decide +kernel]
  rfl
 ·have:=ww m (by omega)
  have e:(numS (m:Int)).cps.toList.head? ≠ some 48:=by
   unfold numS
   rw [PySem.W.KIN.signs_num]
   exact this
  rw [decide_eq_false e]
  simp
theorem vd {n:Int} (h0:0 <= n) (b:Bd 100 n):TxOk (numS n):=by
 refine ⟨Nat.le_trans (mq h0 b) (by decide),?_⟩
 obtain ⟨m,rfl⟩:=Int.eq_ofNat_of_zero_le h0
 refine Array.all_eq_true_iff_forall_mem.mpr fun c hc=>?_
 have:=(fk m c (Array.mem_toList_iff.mpr hc)).2
 exact decide_eq_true (by omega)
def Wd (x:Str):Prop:=∀ c∈x.cps.toList,33 <= c /\ c < 128
theorem Bh:nlS=⟨#[10]⟩:=by decide +kernel
theorem Bi:spS=⟨#[32]⟩:=by decide +kernel
theorem xx {c d:Nat}:∀ {xs:List (List Nat)},d∈jn c xs->d=c∨∃ x∈xs,d∈x
 | [],h=>by simp [jn] at h
 | [x],h=>.inr ⟨x,by simp,h⟩
 | x::y::r,h=>by
  have h:d∈x++c::jn c (y::r):=h
  rcases List.mem_append.mp h with h | h
  ·exact .inr ⟨x,by simp,h⟩
  ·rcases List.mem_cons.mp h with h | h
   ·exact .inl h
   ·rcases xx h with h | ⟨z,hz,h⟩
    ·exact .inl h
    ·exact .inr ⟨z,List.mem_cons_of_mem _ hz,h⟩
theorem qW {c d:Nat} {ls:List Str} (h:d∈(Txt.join ⟨#[c]⟩ ls).cps.toList):d=c∨∃ x∈ls,d∈x.cps.toList:=by
 have e0:Txt.join ⟨#[c]⟩ ls=Str.join ⟨#[c]⟩ ls:=StrLaws.glued_eq_join ..
 rw [e0,pQ] at h
 rcases xx h with h | ⟨x,hx,h⟩
 ·exact .inl h
 ·obtain ⟨l,hl,rfl⟩:=List.mem_map.mp hx
  exact .inr ⟨l,hl,h⟩
theorem sr {L:List (List Str)} (h:L≠[]) (hl:∀ l∈L,l≠[]) (hw:∀ l∈L,∀ x∈l,Wd x):Txt.split (Txt.join nlS (L.map (Txt.join spS))) nlS=L.map (Txt.join spS) /\ (L.map (Txt.join spS)).map (fun l=>Txt.split l spS)=L:=by
 rw [Bh,Bi]
 refine ⟨kZ (by simpa using h) fun l hl'=>?_,?_⟩
 ·obtain ⟨ws,hws,rfl⟩:=List.mem_map.mp hl'
  intro z
  rcases qW z with z | ⟨x,hx,z⟩
  ·exact absurd z (by decide)
  ·have:=hw ws hws x hx 10 z
   omega
 ·rw [List.map_map]
  conv=>rhs; rw [← List.map_id L]
  refine List.map_congr_left fun ws hws=>?_
  show Txt.split (Txt.join ⟨#[32]⟩ ws) ⟨#[32]⟩=ws
  refine kZ (hl ws hws) fun x hx z=>?_
  have:=hw ws hws x hx 32 z
  omega
theorem Wd.num {n:Int} (h0:0 <= n):Wd (numS n):=fun c hc=>by
 obtain ⟨m,rfl⟩:=Int.eq_ofNat_of_zero_le h0
 have:=fk m c hc
 omega
theorem oz {x:Str} (h:isNm x=true):∀ c∈x.cps.toList,97 <= c /\ c <= 122:=fun c hc=>by
 unfold isNm og at h
 rw [Bool.and_eq_true,List.all_eq_true] at h
 have:=h.2 c hc
 simpa using this
theorem jc {x:Str} (h:isNm x=true):1 <= x.length /\ x.length <= 8:=by
 unfold isNm at h
 simp only [Bool.and_eq_true,decide_eq_true_eq] at h
 exact h.1
theorem Wd.nm {x:Str} (h:isNm x=true):Wd x:=fun c hc=>by
 have:=oz h c hc
 omega
theorem iI {x:Str} (h:isNm x=true):TxOk x:=by
 refine ⟨Nat.le_trans (jc h).2 (by decide),Array.all_eq_true_iff_forall_mem.mpr fun c hc=>?_⟩
 have:=oz h c (Array.mem_toList_iff.mpr hc)
 exact decide_eq_true (by omega)
structure BkT (hs:List Str) (ms:List Mk) (cells:List (List Int×Row)):Prop where
 h2:2 <= hs.length
 h6:hs.length <= 6
 hn:∀ x∈hs,isNm x=true
 hd:hs.Nodup
 m5:ms.length <= 5
 mn:∀ m∈ms,isNm m.1=true /\ 1 <= m.2.length /\ m.2.length <= 6 /\ (∀ x∈m.2,isNm x=true) /\ m.2.Nodup
 md:(ms.map (·.1)).Nodup
 c7:cells.length <= 7
 kl:∀ c∈cells,c.1.length=ms.length /\ RowN 95 hs.length c.2 /\ kW c.2
 kk:∀ c∈cells,∀ (i:Nat) (k:Int) (m:Mk),c.1[i]? = some k->ms[i]? = some m->0 <= k /\ k < m.2.length
 up:∀ (i j:Nat) (x y:List Int×Row),i < j->cells[i]? = some x->cells[j]? = some y->HT.lexLt x.1 y.1=true
theorem BkT.sh {hs:List Str} {ms:List Mk} {cells:List (List Int×Row)} (o:BkT hs ms cells):ShOk hs ms cells where
 h6:=o.h6
 m5:=o.m5
 c7:=o.c7
 hl:=fun x hx=>(jc (o.hn x hx)).2
 ml:=fun m hm=>⟨(jc (o.mn m hm).1).2,(o.mn m hm).2.2.1,fun x hx=>(jc ((o.mn m hm).2.2.2.1 x hx)).2⟩
 kl:=fun c hc=>⟨(o.kl c hc).1,(o.kl c hc).2.1.1,fun x hx=>((o.kl c hc).2.1.2 x hx).mono (by decide)⟩
 kk:=o.kk
theorem qX {ws:List Str} (nd:ws.Nodup) {k:Nat} (hk:k < ws.length):plc ws[k] ws=k:=by
 have hl:plc ws[k] ws < ws.length:=List.findIdx_lt_length_of_exists ⟨ws[k],List.getElem_mem hk,by simp⟩
 have e:ws[plc ws[k] ws]=ws[k]:=by
  have:=List.findIdx_getElem (p:=fun y=>decide (y=ws[k])) (xs:=ws) (w:=hl)
  exact of_decide_eq_true this
 exact (List.getElem_inj nd).mp e
theorem pR:∀ (ms:List Mk) (ks:List Int),ks.length=ms.length->(∀ m∈ms,m.2.Nodup)->(∀ (i:Nat) (k:Int) (m:Mk),ks[i]? = some k->ms[i]? = some m->0 <= k /\ k < m.2.length)->kpl (wds ms ks) ms=ks
 | [],[],_,_,_=>rfl
 | [],_::_,h,_,_=>by simp at h
 | _::_,[],h,_,_=>by simp at h
 | m::ms,k::ks,h,nd,hk=>by
  have ih:=pR ms ks (by simpa using h) (fun x hx=>nd x (List.mem_cons_of_mem _ hx)) (fun i a b h1 h2=>hk (i + 1) a b (by simpa using h1) (by simpa using h2))
  obtain ⟨k0,k1⟩:=hk 0 k m rfl rfl
  have hlt:k.toNat < m.2.length:=by omega
  show (plc (m.2.getD k.toNat Str.empty) m.2:Int)::kpl (wds ms ks) ms=_
  rw [ih,List.getD_eq_getElem?_getD,List.getElem?_eq_getElem hlt,Option.getD_some,qX (nd m (by simp)) hlt]
  congr 1
  omega
theorem xy:∀ (ms:List Mk) (ks:List Int),ks.length=ms.length->(∀ (i:Nat) (k:Int) (m:Mk),ks[i]? = some k->ms[i]? = some m->0 <= k /\ k < m.2.length)->(wds ms ks).length=ms.length /\ ∀ (i:Nat) (x:Str) (m:Mk),(wds ms ks)[i]? = some x->ms[i]? = some m->x∈m.2
 | [],[],_,_=>⟨rfl,fun i x m h=>by simp [wds] at h⟩
 | [],_::_,h,_=>by simp at h
 | _::_,[],h,_=>by simp at h
 | m::ms,k::ks,h,hk=>by
  obtain ⟨i1,i2⟩:=xy ms ks (by simpa using h) (fun i a b h1 h2=>hk (i + 1) a b (by simpa using h1) (by simpa using h2))
  obtain ⟨k0,k1⟩:=hk 0 k m rfl rfl
  have hlt:k.toNat < m.2.length:=by omega
  have e:wds (m::ms) (k::ks)=m.2[k.toNat]::wds ms ks:=by
   unfold wds
   rw [List.zip_cons_cons,List.map_cons,List.getD_eq_getElem?_getD,List.getElem?_eq_getElem hlt]
   rfl
  rw [e]
  refine ⟨by rw [List.length_cons,List.length_cons,i1],fun i x a h1 h2=>?_⟩
  cases i with
  | zero =>
   simp at h1 h2
   subst h1 h2
   exact List.getElem_mem hlt
  | succ i=>exact i2 i x a (by simpa using h1) (by simpa using h2)
theorem xz {n:Int} (h:Bd 95 n):n < 10 ^ 29:=by
 unfold Bd at h
 have e:(2:Nat) ^ 95=39614081257132168796771975168:=by decide
 rw [e] at h
 omega
theorem ss {hs:List Str} {ms:List Mk} {cells:List (List Int×Row)} (o:BkT hs ms cells) {c:List Int×Row} (hc:c∈cells) {d:Cs} (hd:d∈csOf hs ms c) :
  CsOk hs ms d.hn d.kw d.a d.b d.t d.w /\ d.t < 10 ^ 30 /\ (∀ x∈d.hn::d.kw,isNm x=true) /\ kpl d.kw ms=c.1:=by
 unfold csOf at hd
 obtain ⟨p,hp,rfl⟩:=List.mem_map.mp hd
 obtain ⟨hp,hpos⟩:=List.mem_filter.mp hp
 have hpos:0 < p.2.1:=of_decide_eq_true hpos
 obtain ⟨p1,p2⟩:=List.of_mem_zip hp
 obtain ⟨a1,a2,a3⟩:=o.kl c hc
 have cn:=a2.2 p.2 p2
 obtain ⟨w1,w2⟩:=xy ms c.1 a1 (o.kk c hc)
 have lo:=cn.lo
 have hi:=cn.hi
 have b1:=xz cn.bt
 have b2:=xz cn.bw
 have hw:∀ x∈wds ms c.1,isNm x=true:=fun x hx=>by
  obtain ⟨i,hi⟩:=List.mem_iff_getElem?.mp hx
  have hlt:i < ms.length:=by rw [← w1]; exact (List.getElem?_eq_some_iff.mp hi).1
  have:=w2 i x ms[i] hi (List.getElem?_eq_getElem hlt)
  exact (o.mn _ (List.getElem_mem hlt)).2.2.2.1 x this
 refine ⟨⟨p1,w1,w2,ou (by omega) (by omega),ou (by omega) (by omega),?_,?_,by show 0 < p.2.1.toNat; omega,by show p.2.2.toNat <= p.2.1.toNat; omega,vd (by omega) (cn.bt.mono (by decide)),vd (by omega) (cn.bw.mono (by decide))⟩,by show p.2.1.toNat < _; omega,fun x hx=>?_,pR ms c.1 a1 (fun m hm=>(o.mn m hm).2.2.2.2) (o.kk c hc)⟩
 ·rw [oq (by omega) (cn.bt.mono (by decide))]
  exact congrArg some (by show p.2.1=((p.2.1.toNat:Nat):Int); omega)
 ·rw [oq (by omega) (cn.bw.mono (by decide))]
  exact congrArg some (by show p.2.2=((p.2.2.toNat:Nat):Int); omega)
 ·rcases List.mem_cons.mp hx with rfl | hx
  ·exact o.hn _ p1
  ·exact hw x hx
theorem oA:∀ ks:List Int,HT.lexLt ks ks=false
 | []=>rfl
 | k::ks=>by rw [HT.lexLt_cons,if_pos rfl,oA ks]
theorem Bj {hs:List Str} (nd:hs.Nodup) (r:Row):(hs.zip r).Pairwise fun p q=>plc p.1 hs < plc q.1 hs:=by
 rw [List.pairwise_iff_getElem]
 intro i j hi hj hij
 have hi':i < hs.length:=by rw [List.length_zip] at hi; omega
 have hj':j < hs.length:=by rw [List.length_zip] at hj; omega
 rw [List.getElem_zip,List.getElem_zip]
 show plc hs[i] hs < plc hs[j] hs
 rw [qX nd hi',qX nd hj']
 exact hij
theorem zb {hs:List Str} {ms:List Mk} {cells:List (List Int×Row)} (o:BkT hs ms cells):(cells.flatMap (csOf hs ms)).Pairwise fun x y=>gtP (kpl y.kw ms) (plc y.hn hs) (kpl x.kw ms) (plc x.hn hs)=true:=by
 rw [List.pairwise_flatMap]
 refine ⟨fun c hc=>?_,?_⟩
 ·have hk:kpl (wds ms c.1) ms=c.1:=pR ms c.1 (o.kl c hc).1 (fun m hm=>(o.mn m hm).2.2.2.2) (o.kk c hc)
  unfold csOf
  rw [List.pairwise_map]
  refine List.Pairwise.imp ?_ ((Bj o.hd c.2).filter _)
  intro p q hpq
  show gtP (kpl (wds ms c.1) ms) _ (kpl (wds ms c.1) ms) _=true
  unfold gtP
  rw [if_pos rfl]
  exact decide_eq_true (show ((plc p.1 hs:Nat):Int) < ((plc q.1 hs:Nat):Int) by omega)
 ·rw [List.pairwise_iff_getElem]
  intro i j hi hj hij x hx y hy
  have e1:=(ss o (List.getElem_mem hi) hx).2.2.2
  have e2:=(ss o (List.getElem_mem hj) hy).2.2.2
  have lt:=o.up i j cells[i] cells[j] hij (List.getElem?_eq_getElem hi) (List.getElem?_eq_getElem hj)
  rw [e1,e2]
  unfold gtP
  rw [if_neg (fun z=>by rw [z,oA] at lt; exact Bool.false_ne_true lt)]
  exact lt
theorem xA {ws:List Str} (h:∀ x∈ws,isNm x=true) (nd:ws.Nodup):nmsB ws=true:=by
 unfold nmsB
 rw [List.all_eq_true.mpr h,rQ nd,decide_eq_true rfl]
 rfl
theorem qY {hs:List Str} {ms:List Mk} {cells:List (List Int×Row)} (o:BkT hs ms cells):∀ l∈aG hs ms cells,l≠[] /\ ∀ x∈l,Wd x:=fun l hl=>by
  unfold aG at hl
  rcases List.mem_append.mp hl with hl | hl
  ·rcases List.mem_cons.mp hl with rfl | hl
   ·refine ⟨by simp,fun x hx=>?_⟩
    rcases List.mem_cons.mp hx with rfl | hx
    ·unfold Wd; decide +kernel
    ·exact Wd.nm (o.hn x hx)
   ·obtain ⟨m,hm,rfl⟩:=List.mem_map.mp hl
    obtain ⟨a1,a2,a3,a4,a5⟩:=o.mn m hm
    refine ⟨by simp [mkLn],fun x hx=>?_⟩
    rcases List.mem_cons.mp hx with rfl | hx
    ·unfold Wd; decide +kernel
    ·rcases List.mem_cons.mp hx with rfl | hx
     ·exact Wd.nm a1
     ·exact Wd.nm (a4 x hx)
  ·obtain ⟨d,hd,rfl⟩:=List.mem_map.mp hl
   obtain ⟨c,hc,hd⟩:=List.mem_flatMap.mp hd
   obtain ⟨b1,b2,b3,b4⟩:=ss o hc hd
   refine ⟨by simp [Cs.ln],fun x hx=>?_⟩
   unfold Cs.ln at hx
   have hnum:Wd d.a /\ Wd d.b:=by
    unfold csOf at hd
    obtain ⟨p,hp,rfl⟩:=List.mem_map.mp hd
    have cn:=(o.kl c hc).2.1.2 p.2 (List.of_mem_zip (List.mem_filter.mp hp).1).2
    have lo:=cn.lo
    have hi:=cn.hi
    exact ⟨Wd.num (by omega),Wd.num (by omega)⟩
   rcases List.mem_append.mp hx with hx | hx
   ·rcases List.mem_cons.mp hx with rfl | hx
    ·unfold Wd; decide +kernel
    ·exact Wd.nm (b3 x hx)
   ·simp only [List.mem_cons,List.not_mem_nil,or_false] at hx
    rcases hx with rfl | rfl
    ·exact hnum.1
    ·exact hnum.2
theorem pS {hs:List Str} {ms:List Mk} {cells:List (List Int×Row)} (o:BkT hs ms cells):TextOk (ca hs ms cells) hs ms (cells.flatMap (csOf hs ms)):=by
 have lb:=pP o.sh
 have ll:=eF o.sh
 have ln:aG hs ms cells≠[]:=by unfold aG; simp
 have lw:=qY o
 obtain ⟨t1,t2⟩:=sr ln (fun l hl=>(lw l hl).1) (fun l hl=>(lw l hl).2)
 have lj:∀ l∈(aG hs ms cells).map (Txt.join spS),l.length <= 492:=fun l hl=>by
  obtain ⟨ws,hws,rfl⟩:=List.mem_map.mp hl
  exact mt (B:=40) (lb ws hws).2 (lb ws hws).1
 refine ⟨?_,?_,?_,o.h2,o.h6,xA o.hn o.hd,fun x hx=>iI (o.hn x hx),⟨o.m5,o.md,fun m hm=>?_⟩,?_,?_,?_⟩
 ·have h1:=StrLaws.join_length_le nlS ((aG hs ms cells).map (Txt.join spS))
  have h2:=StrLaws.sumLen_le _ lj
  have e:nlS.length=1:=by decide +kernel
  have e2:ca hs ms cells=Str.join nlS ((aG hs ms cells).map (Txt.join spS)):=StrLaws.glued_eq_join ..
  rw [e2]
  rw [e] at h1
  rw [List.length_map] at h1 h2
  omega
 ·unfold ca
  rw [t1,t2]
  rfl
 ·unfold ca
  rw [t1]
  exact fun l hl=>Nat.le_trans (lj l hl) (by decide)
 ·obtain ⟨a1,a2,a3,a4,a5⟩:=o.mn m hm
  exact ⟨a1,a2,a3,xA a4 a5,iI a1,fun x hx=>iI (a4 x hx)⟩
 ·have:(aG hs ms cells).length <= 50:=ll
  unfold aG at this
  simp only [List.length_append,List.length_map,List.length_cons] at this
  omega
 ·intro d hd
  obtain ⟨c,hc,hd⟩:=List.mem_flatMap.mp hd
  obtain ⟨b1,b2,b3,b4⟩:=ss o hc hd
  exact ⟨b1,b2,fun x hx=>iI (b3 x hx)⟩
 ·intro i x y hx hy
  obtain ⟨h1,rfl⟩:=List.getElem?_eq_some_iff.mp hx
  obtain ⟨h2,rfl⟩:=List.getElem?_eq_some_iff.mp hy
  exact List.pairwise_iff_getElem.mp (zb o) i (i + 1) h1 h2 (by omega)
theorem zc {n h:Nat} (hh:h < n) (x:Int×Int) (j:Nat) (hj:j < n) (ks:List Int):at_ (fW n ⟨h,ks,x.1,x.2⟩) j=if j=h then x else (0,0):=by
 unfold at_ fW
 rw [List.getD_eq_getElem?_getD,show ((h:Nat):Int).toNat=h by omega,List.getElem?_set]
 by_cases e:h=j
 ·subst e
  simp [hh]
 ·rw [if_neg e,if_neg (Ne.symm e)]
  simp [hj]
theorem qZ:sumP []=(0,0):=rfl
theorem gF (c:Int×Int) (cs:List (Int×Int)):sumP (c::cs)=(c.1 + (sumP cs).1,c.2 + (sumP cs).2):=by
 unfold sumP
 rw [List.map_cons,List.map_cons,List.sum_cons,List.sum_cons]
theorem wx (a b:List (Int×Int)):sumP (a++b)=((sumP a).1 + (sumP b).1,(sumP a).2 + (sumP b).2):=by
 induction a with
 | nil=>simp [qZ]
 | cons c a ih =>
  rw [List.cons_append,gF,ih,gF]
  simp only [Prod.mk.injEq]
  constructor <;> omega
theorem wy {α:Type} (d:α) (l:List α):(List.range l.length).map (fun i=>l.getD i d)=l:=by
 apply List.ext_getElem
 ·simp
 ·intro i h1 h2
  simp [h2]
theorem lc (m:Nat) (ps:List (List Int×Row)):(bz m ps).map (·.1)=dJ ((grp ps).map (·.1)):=by
 unfold bz
 rw [List.map_map]
 exact List.map_id _
theorem wz (m:Nat) (ps:List (List Int×Row)):((bz m ps).map (·.1)).Pairwise fun a b=>ltI a b=true:=by
 rw [lc]
 exact jb (uS _)
theorem ve {m:Nat} {ps:List (List Int×Row)} {k:List Int}:k∈(bz m ps).map (·.1)↔k∈ps.map (·.1):=by
 rw [lc,(bJ _).mem_iff,mf]
theorem vf {m:Nat} {ps:List (List Int×Row)} {c:List Int×Row} (h:c∈bz m ps):c.2=sums ((ps.filter fun p=>decide (p.1=c.1)).map (·.2)) m:=by
 unfold bz at h
 obtain ⟨k,_,rfl⟩:=List.mem_map.mp h
 show sums (cJ (grp ps) k) m=_
 rw [ir]
theorem wA (m:Nat) (ps:List (List Int×Row)):bz m ps=((bz m ps).map (·.1)).map fun k=>(k,sums ((ps.filter fun p=>decide (p.1=k)).map (·.2)) m):=by
 rw [List.map_map]
 conv=>lhs; rw [← List.map_id (bz m ps)]
 apply List.map_congr_left
 intro c hc
 show c=(c.1,_)
 rw [← vf hc]
theorem sum1 {r:Row} {m:Nat} (h:r.length=m):sums [r] m=r:=by
 subst h
 unfold sums
 have:(List.range r.length).map (fun h=>sumP (col [r] h))=(List.range r.length).map fun h=>r.getD h (0,0):=by
  apply List.map_congr_left
  intro h _
  unfold sumP col at_
  simp
 rw [this]
 exact wy (0,0) r
theorem sv {ps:List (List Int×Row)} (nd:(ps.map (·.1)).Nodup) {p:List Int×Row} (hp:p∈ps):ps.filter (fun q=>decide (q.1=p.1))=[p]:=by
 induction ps with
 | nil=>simp at hp
 | cons q ps ih =>
  obtain ⟨n1,n2⟩:=List.nodup_cons.mp (by simpa using nd:(q.1::ps.map (·.1)).Nodup)
  rcases List.mem_cons.mp hp with rfl | hp
  ·rw [List.filter_cons_of_pos (by simp),List.filter_eq_nil_iff.mpr]
   intro q' hq' z
   exact n1 (List.mem_map.mpr ⟨q',hq',by simpa using z⟩)
  ·rw [List.filter_cons_of_neg,ih n2 hp]
   intro z
   have z:q.1=p.1:=by simpa using z
   exact n1 (List.mem_map.mpr ⟨p,hp,z.symm⟩)
theorem Cq {l:List (List Int)} (h:l.Pairwise fun a b=>ltI a b=true):l.Nodup:=h.imp fun {a b} hab z=>by
 rw [z,me] at hab
 cases hab
theorem sw {m:Nat} {ps:List (List Int×Row)} (up:(ps.map (·.1)).Pairwise fun a b=>ltI a b=true) (hl:∀ p∈ps,p.2.length=m):bz m ps=ps:=by
 rw [wA]
 have ek:(bz m ps).map (·.1)=ps.map (·.1):=yW (wz m ps) up fun k=>ve
 rw [ek,List.map_map]
 conv=>rhs; rw [← List.map_id ps]
 apply List.map_congr_left
 intro p hp
 show (p.1,sums ((ps.filter fun q=>decide (q.1=p.1)).map (·.2)) m)=p
 rw [sv (Cq up) hp,List.map_singleton,sum1 (hl p hp)]
theorem pU:∀ a b:List Int,a.length=b.length->HT.lexLt a b=ltI a b
 | [],[],_=>rfl
 | [],_::_,h=>by simp at h
 | _::_,[],h=>by simp at h
 | a::r,b::s,h=>by
  rw [HT.lexLt_cons,pU r s (by simpa using h)]
  rfl
theorem rf {hs:List Str} {n h:Nat} (hn:h < n) (ks:List Int):∀ (hs':List Str) (r:Row) (s:Nat),hs'.length=r.length->s + hs'.length <= n->(∀ (i:Nat) (hi:i < hs'.length),plc hs'[i] hs=s + i)->(∀ c∈r,0 <= c.2 /\ c.2 <= c.1) ->
  sumP (((hs'.zip r).filter fun p=>decide (0 < p.2.1)).map fun p=>at_ (fW n ⟨(plc p.1 hs:Nat),ks,(p.2.1.toNat:Nat),(p.2.2.toNat:Nat)⟩) h)=if s <= h then at_ r (h - s) else (0,0)
 | [],[],s,_,_,_,_=>by
  unfold at_
  simp [qZ]
 | [],_::_,_,h,_,_,_=>by simp at h
 | _::_,[],_,h,_,_,_=>by simp at h
 | x::hs',c::r,s,hl,hsn,hp,hc=>by
  have ih:=rf (hs:=hs) hn ks hs' r (s + 1) (by simpa using hl) (by simp at hsn; omega) (fun i hi=>by have:=hp (i + 1) (by simpa using hi); simp only [List.getElem_cons_succ] at this; omega) (fun d hd=>hc d (List.mem_cons_of_mem _ hd))
  have p0:plc x hs=s:=by have:=hp 0 (by simp); simpa using this
  obtain ⟨c0,c1⟩:=hc c List.mem_cons_self
  have sn:s < n:=by simp at hsn; omega
  have u:=zc (n:=n) (h:=s) sn (((c.1.toNat:Nat):Int),((c.2.toNat:Nat):Int)) h hn ks
  rw [List.zip_cons_cons]
  have ec:(((c.1.toNat:Nat):Int),((c.2.toNat:Nat):Int))=c:=Prod.ext (by show ((c.1.toNat:Nat):Int)=c.1; omega) (by show ((c.2.toNat:Nat):Int)=c.2; omega)
  have er:(if s <= h then at_ (c::r) (h - s) else (0,0))=if h=s then c else if s + 1 <= h then at_ r (h - (s + 1)) else (0,0):=by
   unfold at_
   by_cases e:h=s
   ·subst e
    rw [if_pos (Nat.le_refl _),if_pos rfl,Nat.sub_self]
    rfl
   ·rw [if_neg e]
    by_cases q:s <= h
    ·rw [if_pos q,if_pos (by omega),show h - s=(h - (s + 1)) + 1 by omega]
     rfl
    ·rw [if_neg q,if_neg (by omega)]
  rw [er]
  by_cases z:0 < c.1
  ·rw [List.filter_cons_of_pos (by simpa using z),List.map_cons,gF,ih]
   show ((at_ (fW n ⟨(plc x hs:Nat),ks,(c.1.toNat:Nat),(c.2.toNat:Nat)⟩) h).1 + _,_)=_
   rw [p0,u,ec]
   by_cases e:h=s
   ·rw [if_pos e,if_pos e,if_neg (by omega)]
    simp
   ·rw [if_neg e,if_neg e]
    simp
  ·rw [List.filter_cons_of_neg (by simpa using z),ih]
   by_cases e:h=s
   ·rw [if_pos e,if_neg (by omega)]
    exact Prod.ext (by show (0:Int)=c.1; omega) (by show (0:Int)=c.2; omega)
   ·rw [if_neg e]
theorem zd (a b:List Row) (h:Nat):col (a++b) h=col a h++col b h:=by
 unfold col
 rw [List.map_append]
theorem rn {h:Nat} {k:List Int} (f:List Int×Row->List (List Int×Row)):∀ L:List (List Int×Row),(∀ x∈L,(∀ p∈f x,p.1=x.1) /\ sumP (col ((f x).map (·.2)) h)=at_ x.2 h) ->
  sumP (col (((L.flatMap f).filter fun p=>decide (p.1=k)).map (·.2)) h)=sumP (col ((L.filter fun p=>decide (p.1=k)).map (·.2)) h)
 | [],_=>rfl
 | x::L,H=>by
  obtain ⟨k1,k2⟩:=H x List.mem_cons_self
  have ih:=rn (k:=k) f L fun y hy=>H y (List.mem_cons_of_mem _ hy)
  rw [List.flatMap_cons,List.filter_append,List.map_append,zd,wx,ih]
  by_cases e:x.1=k
  ·rw [List.filter_cons_of_pos (by simpa using e),List.map_cons]
   have:(f x).filter (fun p=>decide (p.1=k))=f x:=List.filter_eq_self.mpr fun p hp=>by rw [k1 p hp]; simpa using e
   rw [this,k2]
   exact (gF _ _).symm
  ·rw [List.filter_cons_of_neg (by simpa using e)]
   have:(f x).filter (fun p=>decide (p.1=k))=[]:=List.filter_eq_nil_iff.mpr fun p hp=>by rw [k1 p hp]; simpa using e
   rw [this]
   show (0 + _,0 + _)=_
   simp
theorem vg {hs:List Str} {ms:List Mk} {cells:List (List Int×Row)} (o:BkT hs ms cells):gath hs.length ((cells.flatMap (csOf hs ms)).map fun c=>(kpl c.kw ms,fW hs.length (c.rt hs ms)))=cells:=by
 have ef:(cells.flatMap (csOf hs ms)).map (fun c=>(kpl c.kw ms,fW hs.length (c.rt hs ms)))=cells.flatMap fun x=>(csOf hs ms x).map fun c=>(kpl c.kw ms,fW hs.length (c.rt hs ms)):=by
  rw [List.map_flatMap]
 have hr:∀ x∈cells,∀ c∈x.2,0 <= c.2 /\ c.2 <= c.1:=fun x hx c hc=>by
  have:=(o.kl x hx).2.1.2 c hc
  exact ⟨this.lo,this.hi⟩
 have key:∀ x∈cells,∀ p∈(csOf hs ms x).map (fun c=>(kpl c.kw ms,fW hs.length (c.rt hs ms))),p.1=x.1:=fun x hx p hp=>by
  obtain ⟨c,hc,rfl⟩:=List.mem_map.mp hp
  exact (ss o hx hc).2.2.2
 have up:(cells.map (·.1)).Pairwise fun a b=>ltI a b=true:=by
  rw [List.pairwise_map,List.pairwise_iff_getElem]
  intro i j hi hj hij
  have:=o.up i j cells[i] cells[j] hij (List.getElem?_eq_getElem hi) (List.getElem?_eq_getElem hj)
  rw [pU _ _ (by rw [(o.kl _ (List.getElem_mem hi)).1,(o.kl _ (List.getElem_mem hj)).1])] at this
  exact this
 have e1:bz hs.length ((cells.flatMap (csOf hs ms)).map fun c=>(kpl c.kw ms,fW hs.length (c.rt hs ms)))=bz hs.length cells:=by
  rw [ef]
  refine rX (fun k=>⟨fun hk=>?_,fun hk=>?_⟩) fun k _=>?_
  ·obtain ⟨p,hp,rfl⟩:=List.mem_map.mp hk
   obtain ⟨x,hx,hp⟩:=List.mem_flatMap.mp hp
   rw [key x hx p hp]
   exact List.mem_map.mpr ⟨x,hx,rfl⟩
  ·obtain ⟨x,hx,rfl⟩:=List.mem_map.mp hk
   obtain ⟨c,hc,hpos⟩:=(o.kl x hx).2.2
   obtain ⟨i,hi⟩:=List.mem_iff_getElem?.mp hc
   obtain ⟨hi1,hi2⟩:=List.getElem?_eq_some_iff.mp hi
   have hil:i < hs.length:=by rw [← (o.kl x hx).2.1.1]; exact hi1
   have hz:(hs[i],c)∈hs.zip x.2:=List.mem_iff_getElem?.mpr ⟨i,by rw [List.getElem?_zip_eq_some]; exact ⟨List.getElem?_eq_getElem hil,hi⟩⟩
   have hm:(⟨hs[i],wds ms x.1,numS c.1,numS c.2,c.1.toNat,c.2.toNat⟩:Cs)∈csOf hs ms x:=List.mem_map.mpr ⟨(hs[i],c),List.mem_filter.mpr ⟨hz,by simpa using hpos⟩,rfl⟩
   refine List.mem_map.mpr ⟨_,List.mem_flatMap.mpr ⟨x,hx,List.mem_map.mpr ⟨_,hm,rfl⟩⟩,?_⟩
   exact (ss o hx hm).2.2.2
  ·unfold sums
   apply List.map_congr_left
   intro h hh
   have hh:=List.mem_range.mp hh
   refine rn _ cells fun x hx=>⟨key x hx,?_⟩
   have hl:=(o.kl x hx).2.1.1
   have us:=rf (hs:=hs) hh (kpl (wds ms x.1) ms) hs x.2 0 hl.symm (by omega) (fun i hi=>by rw [qX o.hd hi]; omega) (hr x hx)
   rw [if_pos (Nat.zero_le _),Nat.sub_zero] at us
   rw [← us]
   unfold col csOf
   rw [List.map_map,List.map_map,List.map_map]
   rfl
 unfold gath
 rw [e1,sw up fun p hp=>(o.kl p hp).2.1.1]
 exact List.filter_eq_self.mpr fun c hc=>triedB_iff.mpr (o.kl c hc).2.2
theorem kj {hs:List Str} {ms:List Mk} {cells:List (List Int×Row)} (o:BkT hs ms cells):yZ hs ms (cells.flatMap (csOf hs ms)) = .tup [nmD hs ms,.tup [.int hs.length,.tup (ms.map fun m=>.int m.2.length),.tup (cells.map bd)]]:=by
 unfold yZ
 rw [vg o]
def xB:DSp:=fun ds Q=>ds=[.pen] /\ ∀ t w:Int,Cnt 95 t w->Q (.tup [.int t,.int w])
theorem oB:bR xB:=fun ds P P' f ⟨a,h⟩=>⟨a,fun x y l=>f _ (h x y l)⟩
theorem ze {t r:Int} (ht:0 <= t) (h0:0 <= r) (h1:r <= 1000000):0 <= t * r / 1000000 /\ t * r / 1000000 <= t:=by
 have h2:0 <= t * r:=Int.mul_nonneg ht h0
 have h3:t * r <= t * 1000000:=Int.mul_le_mul_of_nonneg_left (by omega) ht
 exact ⟨Int.ediv_nonneg h2 (by decide),Int.ediv_le_of_le_mul (by decide) h3⟩
theorem oC (T:Tx K mg):FnOk P w K mg base CX0 2 T.eK T.dO ["_law_pen_here"] (spD K 1 xB):=by
 refine fnD (k:=1) T.cg.F sc__law_count (fun cdv A outer s H E hr=>(af (aO (i:=1) sc__law_count.nd rfl oo (ao (aw T) ax (rm hr) rfl T.ad.m T.ad.F.kp T.ad.b (aa (ab 0 (pv 0)) (aa ae ac))))
   (af (cE (bf (jD hr) (ab 1 (pv 1)) ae (aH _)) (ag (az (aX (aa ae (aa ae ac))))) aL)
   (af (aO (i:=2) sc__law_count.nd rfl oo (cQ fv ae (ao (aw T) ax (rm hr) rfl T.ad.m T.ad.F.kp T.ad.b (aa (ab 0 (pv 0)) (aa ae ac)))))
   (bF (cE (bf (jD hr) (ab 1 (pv 1)) ae (aH _)) (ag (aO (i:=2) sc__law_count.nd rfl oo (cQ fv (cQ wR (cQ fv ae (ao (aw T) ax (rm hr) rfl T.ad.m T.ad.F.kp T.ad.b (aa (ab 0 (pv 0)) (aa (cQ nC ae ae) ac)))) (cQ nC ae ae)) (ao (aw T) ax (rm hr) rfl T.ad.m T.ad.F.kp T.ad.b (aa (ab 0 (pv 0)) (aa (cQ nC ae ae) ac)))))) aL)
   (af (aO (i:=3) sc__law_count.nd rfl oo (cQ yp (cQ wR (ab 2 (pv 2)) (ao (aw T) ax (rm hr) rfl T.ad.m T.ad.F.kp T.ad.b (aa (ab 0 (pv 0)) (aa (cQ fv (cQ nC ae ae) ae) ac)))) (cQ nC ae ae)))
   (bF (cE (bf pA (ab 1 (pv 1)) ae (aH _)) (ag (aO (i:=3) sc__law_count.nd rfl oo (ay (aq (bh (aa ae (aa (ab 2 (pv 2)) ac)))) (ao (aw T) ax (rm hr) rfl T.ad.m T.ad.F.kp T.ad.b (aa (ab 0 (pv 0)) (aa ae ac))) (fun _ _=>rfl)))) aL)
   (ag (az (aX (aa (ab 2 (pv 2)) (aa (ab 3 (pv 3)) ac)))))))))))) (fun ds Q hl h=>?_)
 obtain ⟨rfl,h⟩:=h
 have c0:Cnt 95 0 0:=⟨by decide,by decide,wS,wS⟩
 refine ⟨rfl,⟨by decide,by decide⟩,fun way w0 w1=>⟨⟨rfl,rfl⟩,fun _=>⟨sz,h 0 0 c0⟩,fun _=>⟨rfl,⟨by decide,by decide⟩,fun r r0 r1=>?_⟩⟩⟩
 refine ⟨fun ρ=>∃ t:Int,0 <= t /\ t <= 3 * 10 ^ 28 /\ ρ=[.val .pen,.val (.int way),.val (.int t),.nil],⟨⟨rfl,rfl⟩,fun _=>?_,fun _=>⟨1 + r,by omega,by omega,rfl⟩⟩,?_⟩
 ·refine ⟨cpow,rfl,⟨by decide,by decide⟩,fun p p0 p1=>⟨cpow,?_,cpow,rfl,⟨by decide,by decide⟩,fun q q0 q1=>⟨_,?_,?_,rfl⟩⟩⟩
  all_goals simp only [Int.reduceToNat,Int.reducePow] at *
  ·exact .inl ⟨by omega,by omega⟩
  ·omega
  ·omega
 rintro _ ⟨t,t0,t1,rfl⟩
 have bt:Bd 95 t:=by
  show t.natAbs < 2 ^ 95
  have e:(2:Nat) ^ 95=39614081257132168796771975168:=by decide
  rw [e]
  omega
 refine ⟨cpow,rfl,⟨by decide,by decide⟩,fun r r0 r1=>?_⟩
 simp only [Int.reduceToNat,Int.reducePow,Int.reduceAdd] at r1
 refine ⟨.inr (.inl ⟨by omega,by omega⟩),cpow,⟨by decide,jw (by decide) (by decide)⟩,?_⟩
 have pl:=ze t0 r0 (by omega)
 refine ⟨fun ρ=>∃ w:Int,0 <= w /\ w <= t /\ ρ=[.val .pen,.val (.int way),.val (.int t),.val (.int w)],Br.di (fun _=>?_) (fun _=>⟨t * r / 1000000,pl.1,pl.2,rfl⟩),?_⟩
 ·refine ⟨sz,rfl,⟨by decide,by decide⟩,fun k k0 k1=>tN k0 k1 fun d hd=>?_⟩
  simp only [List.mem_cons,List.not_mem_nil,or_false] at hd
  rcases hd with rfl | rfl
  ·exact ⟨0,by decide,t0,rfl⟩
  ·exact ⟨t,t0,Int.le_refl _,rfl⟩
 rintro _ ⟨w,w0,w1,rfl⟩
 exact ⟨sz,h t w (uM w0 w1 bt)⟩
def abcS:Str:=Str.ofString "abcdefghijklmnopqrstuvwxyz"
theorem xC {i:Int} (h0:0 <= i) (h1:i < 26):∃ c,atI abcS.cps.toList i=some c /\ c=97 + i.toNat:=by
 have l:abcS.cps.toList.length=26:=by decide +kernel
 obtain ⟨d,e1,e2⟩:=tM (xs:=abcS.cps.toList) h0 (by rw [l]; exact h1)
 refine ⟨d,e1,?_⟩
 have key:∀ i:Fin 26,abcS.cps.toList[i.val]? = some (97 + i.val):=by decide +kernel
 have:=key ⟨i.toNat,by omega⟩
 rw [e2] at this
 exact Option.some.inj this
def Sm (x:Str):Prop:=∀ c∈x.cps.toList,97 <= c /\ c <= 122
theorem Sm.one {c:Nat} (h:97 <= c /\ c <= 122):Sm ⟨#[c]⟩:=fun d hd=>by
 have:d=c:=by simpa using hd
 omega
theorem Sm.nm {x:Str} (h:Sm x) (h1:1 <= x.length) (h8:x.length <= 8):isNm x=true:=by
 unfold isNm
 rw [decide_eq_true h1,decide_eq_true h8,qV h]
 rfl
theorem sx {ws:List Str} (h:∀ x∈ws,Sm x /\ x.length=1):Sm (Txt.join Str.empty ws) /\ (Txt.join Str.empty ws).length=ws.length:=by
 have e0:Txt.join Str.empty ws=Str.join Str.empty ws:=StrLaws.glued_eq_join ..
 rw [e0]
 induction ws with
 | nil=>exact ⟨fun c hc=>(by cases hc),rfl⟩
 | cons x r ih =>
  cases r with
  | nil=>exact ⟨(h x (by simp)).1,(h x (by simp)).2⟩
  | cons y r =>
   obtain ⟨i1,i2⟩:=ih (fun z hz=>h z (List.mem_cons_of_mem _ hz)) (StrLaws.glued_eq_join ..)
   obtain ⟨x1,x2⟩:=h x (by simp)
   have e:Str.join Str.empty (x::y::r)=x++Str.empty++Str.join Str.empty (y::r):=rfl
   have ec:(Str.join Str.empty (x::y::r)).cps.toList=x.cps.toList++(Str.join Str.empty (y::r)).cps.toList:=by
    rw [e,Str.cps_append,Str.cps_append,Array.toList_append,Array.toList_append]
    show (x.cps.toList++[])++_=_
    rw [List.append_nil]
   refine ⟨fun c hc=>?_,?_⟩
   ·rw [ec] at hc
    rcases List.mem_append.mp hc with hc | hc
    ·exact x1 c hc
    ·exact i1 c hc
   ·have l1:∀ z:Str,z.length=z.cps.toList.length:=fun z=>Array.length_toList.symm
    rw [l1,ec,List.length_append,← l1,← l1,i2,x2,List.length_cons,List.length_cons,List.length_cons]
    omega
theorem cU:∀ (n:Nat) (lo:Int),(ee lo n).length=n
 | 0,_=>rfl
 | n + 1,lo=>by rw [ee,List.length_cons,cU n]
theorem zf {stem:Str} (hs:Sm stem) (hl:stem.length <= 7) {n:Int} (n0:0 <= n) (n1:n <= stem.length) {c:Nat} (hc:97 <= c /\ c <= 122) :
  isNm (Txt.slice stem none (some n)++⟨#[c]⟩)=true /\ (Txt.slice stem none (some n)++(⟨#[c]⟩:Str)).cps.toList.getLast? = some c /\ (Txt.slice stem none (some n)).length <= 7:=by
 have el:stem.cps.toList.length=stem.length:=Array.length_toList
 have e:Txt.slice stem none (some n)=⟨((stem.cps.toList.drop 0).take (n - 0).toNat).toArray⟩:=StrLaws.sliceText_to ⟨n0,by rw [el]; exact n1⟩
 have ec:(Txt.slice stem none (some n)++(⟨#[c]⟩:Str)).cps.toList=stem.cps.toList.take n.toNat++[c]:=by
  rw [e,Str.cps_append,Array.toList_append]
  simp
 have ll:(Txt.slice stem none (some n)++(⟨#[c]⟩:Str)).length=(stem.cps.toList.take n.toNat++[c]).length:=by
  rw [← ec]
  exact Array.length_toList.symm
 refine ⟨Sm.nm (fun d hd=>?_) ?_ ?_,?_,Nat.le_trans (Txt.slice_le _ _ _) hl⟩
 ·rw [ec] at hd
  rcases List.mem_append.mp hd with hd | hd
  ·exact hs d (List.mem_of_mem_take hd)
  ·rw [List.mem_singleton.mp hd]
   exact hc
 ·rw [ll,List.length_append]
  simp
 ·rw [ll,List.length_append,List.length_take]
  simp
  omega
 ·rw [ec]
  simp
structure Wds (n:Int) (ws:List Str):Prop where
 l:(ws.length:Int)=n
 m:∀ x∈ws,isNm x=true
 d:ws.Nodup
theorem Bk {x:Str} (h:PyData.strOk x=true):Shp 0 (.str x):=⟨rfl,h,Nat.zero_le _⟩
theorem km {ws:List Str} (h:∀ x∈ws,PyData.strOk x=true):Shp 1 (.lst (ws.map .str)):=.lst fun d hd=>by
 obtain ⟨x,hx,rfl⟩:=List.mem_map.mp hd
 exact Bk (h x hx)
theorem wB {ws:List Str} (h:∀ x∈ws,PyData.strOk x=true):shp (.lst (ws.map .str))=true:=(km h).shp
theorem zg (ys:List D):eqD (.lst ys) (.lst [])=ys.isEmpty:=by cases ys <;> rfl
theorem xD {x:Str}:∀ {ws:List Str} {i:Nat},ws.Nodup->x∉ws->(ws.set i x).Nodup
 | [],_,h,_=>h
 | w::ws,0,h,hx=>by
  rw [List.set_cons_zero]
  exact List.nodup_cons.mpr ⟨fun z=>hx (List.mem_cons_of_mem _ z),(List.nodup_cons.mp h).2⟩
 | w::ws,i + 1,h,hx=>by
  rw [List.set_cons_succ]
  obtain ⟨h1,h2⟩:=List.nodup_cons.mp h
  refine List.nodup_cons.mpr ⟨fun z=>?_,xD h2 fun z=>hx (List.mem_cons_of_mem _ z)⟩
  rcases List.mem_or_eq_of_mem_set z with z | z
  ·exact h1 z
  ·exact hx (by rw [← z]; exact List.mem_cons_self)
def xE:DSp:=fun ds Q=>∃ n:Int,ds=[.pen,.int n] /\ (0 <= n /\ n <= 7) /\ ∀ ws,Wds n ws->Q (.lst (ws.map .str))
theorem eG:bR xE:=fun ds P P' f ⟨n,a,b,h⟩=>⟨n,a,b,fun ws o=>f _ (h ws o)⟩
theorem eI (T:Tx K mg):FnOk P w K mg base CX0 2 T.eS T.dN ["_law_pen_here","_law_many"] (spD K 2 xE):=by
 refine fnD (k:=1) T.aE.F sc__law_words (fun cdv A outer s H E hr=>(af (aO (i:=2) sc__law_words.nd rfl oo aJ)
   (af (aO (i:=3) sc__law_words.nd rfl oo (ao (aw T) ax (rm hr) rfl T.ad.m T.ad.F.kp T.ad.b (aa (ab 0 (pv 0)) (aa ae ac))))
   (af (aO (i:=4) sc__law_words.nd rfl oo (fO aJ (aq (PCD.pld (aF (N':=["_law_j","_law_letters","_law_pen_here"]) rfl rfl dk rfl (.own (.cap (j:=2) rfl oo rfl (.cap (j:=0) rfl oo rfl .nil))) dk (dn rfl T.eZ (aa (ao (aw T) ax (rm hr) rfl T.ad.m T.ad.F.kp T.ad.b (aa (ab 0 (pv 0)) (aa ae ac))) ac)) (fun B=>(aj (i:=0) ndB rfl oo)) (fun B=>aM) (fun B=>(uG (ab 1 (pv 1)) (ao (aw T) ax (rm hr) rfl T.ad.m T.ad.F.kp T.ad.b (aa (ab 2 (pv 2)) (aa ae ac))) (fun _ _=>rfl))))))))
   (af (iG (i:=5) sc__law_words.nd rfl oo (bh ac))
   (bF (cm PassesOwn.never rfl (dn rfl T.eZ (aa (ab 1 (pv 1)) ac)) (aj (i:=6) sc__law_words.nd rfl oo) (af (aO (i:=7) sc__law_words.nd rfl oo (ao (aw T) ax (rm hr) rfl T.ad.m T.ad.F.kp T.ad.b (aa (ab 0 (pv 0)) (aa (cQ fv (al pH rfl T.cM PySem.boot_len (aa (ab 4 (pv 4)) ac)) ae) ac))))
   (ag (gv (pv 5) (cQ yO (AT (ab 4 (pv 4)) gU (eh (ab 7 (pv 7)))) (uG (ab 2 (pv 2)) (cQ Ae (cQ fv (ab 3 (pv 3)) (ab 6 (pv 6))) ae) (fun _ _=>rfl)))))))
   (af (aO (i:=8) sc__law_words.nd rfl oo (ay (aq (bh (aa aJ (aa aJ (aa aJ ac))))) (ao (aw T) ax (rm hr) rfl T.ad.m T.ad.F.kp T.ad.b (aa (ab 0 (pv 0)) (aa ae ac))) (fun _ _=>rfl)))
   (bF (cE (PWD.pt (tt (gZ 5 (bf (lM hr) (ab 5 (pv 5)) (aq (bh ac)) (aH _))) (tt (gZ 5 (bf iX (ab 8 (pv 8)) (ab 5 (pv 5)) rfl)) (tq (bf (jD hr) (ao (aw T) ax (rm hr) rfl T.ad.m T.ad.F.kp T.ad.b (aa (ab 0 (pv 0)) (aa ae ac))) ae (aH _)))))) (ag (jF (ab 8 (pv 8)) (wU (pv 5) (ao (aw T) ax (rm hr) rfl T.ad.m T.ad.F.kp T.ad.b (aa (ab 0 (pv 0)) (aa (ab 1 (pv 1)) ac)))))) aL)
   (ag (az (ab 5 (pv 5)))))))))))) (fun ds Q hl h=>?_)
 obtain ⟨n,rfl,⟨n0,n7⟩,h⟩:=h
 refine ⟨rfl,⟨by decide,by decide⟩,fun turn t0 t1=>⟨Str.empty,rfl,rfl,⟨by decide,by decide⟩,fun m m0 m1=>⟨⟨by omega,by omega⟩,?_⟩⟩⟩
 refine bj (fun pre acc ρ=>∃ ws:List Str,acc=ws.map .str /\ ws.length=pre.length /\ (∀ x∈ws,Sm x /\ x.length=1) /\ ∃ s,ρ=[s,.val (.str abcS),.val .pen]) (fun acc ρ hN=>?_) (fun pre d post acc ρ Y e hN hY=>?_) _ ⟨[],rfl,rfl,fun x hx=>by simp at hx,_,rfl⟩
 rotate_left
 ·obtain ⟨ws,rfl,wl,wo,s,rfl⟩:=hN
  have pl:pre.length < 8:=by
   have:=congrArg List.length e
   rw [cU,List.length_append,List.length_cons] at this
   omega
  refine Br.t ⟨rfl,⟨by decide,by decide⟩,fun i i0 i1=>?_⟩
  obtain ⟨c,c1,c2⟩:=xC i0 i1
  refine ⟨by decide +kernel,c,c1,?_,hY _ _ ⟨ws++[⟨#[c]⟩],by rw [List.map_append]; rfl,by simp [wl],fun x hx=>?_,_,rfl⟩⟩
  ·rw [List.length_map,wl]
   exact Nat.lt_of_lt_of_le pl (by decide)
  ·rcases List.mem_append.mp hx with hx | hx
   ·exact wo x hx
   ·rw [List.mem_singleton.mp hx]
    exact ⟨Sm.one (by omega),rfl⟩
 ·obtain ⟨ws,rfl,wl,wo,s,rfl⟩:=hN
  rw [cU] at wl
  obtain ⟨so,sl⟩:=sx wo
  refine ⟨ws,⟨rfl,ki (B:=1) (fun y hy=>by rw [(wo y hy).2]; exact Nat.le_refl _) ?_⟩,?_⟩
  ·have:Str.empty.length=0:=rfl
   rw [this]
   omega
  generalize Txt.join Str.empty ws=stem at so sl
  have s7:stem.length <= 7:=by omega
  refine ⟨sz,fun ρ=>∃ (us:List Str) (s6 s7:Sl),Wds n us /\ ((s6 = .nil /\ s7 = .nil)∨∃ a b,s6 = .val a /\ s7 = .val b) /\ ρ=[.val .pen,.val (.int n),.val (.str abcS),.val (.int turn),.val (.str stem),.own (us.map .str),s6,s7,.nil],⟨⟨by omega,by omega⟩,?_⟩,?_⟩
  ·refine gy (fun k ρ=>∃ (us:List Str) (s6 s7:Sl),(us.length:Int)=k /\ ((s6 = .nil /\ s7 = .nil)∨∃ a b,s6 = .val a /\ s7 = .val b) /\ (∀ x∈us,isNm x=true) /\ (∀ (j:Nat) (x:Str),us[j]? = some x->x.cps.toList.getLast? = some (97 + ((turn + j) % 26).toNat)) /\ ρ=[.val .pen,.val (.int n),.val (.str abcS),.val (.int turn),.val (.str stem),.own (us.map .str),s6,s7,.nil]) _ _ ?_ ?_ _ ⟨[],_,_,rfl,.inl ⟨rfl,rfl⟩,fun x hx=>by simp at hx,fun j x hx=>by simp at hx,rfl⟩
   ·rintro ρ ⟨us,s6,s7',ul,hsl,um,ue,rfl⟩
    refine ⟨us,s6,s7',⟨by omega,um,?_⟩,hsl,rfl⟩
    refine List.pairwise_iff_getElem.mpr fun i j hi hj hij z=>?_
    have e1:=ue j us[j] (List.getElem?_eq_getElem hj)
    have e2:=ue i us[j] (by rw [← z]; exact List.getElem?_eq_getElem hi)
    rw [e1] at e2
    have:=Option.some.inj e2
    omega
   ·rintro k ρ X k0 k1 ⟨us,s6,s7',ul,_,um,ue,rfl⟩ hX
    refine ⟨Nat.le_trans s7 (by decide),rfl,⟨by omega,by omega⟩,fun z z0 z1=>?_⟩
    obtain ⟨c,c1,c2⟩:=xC (i:=(turn + k) % 26) (Int.emod_nonneg _ (by decide)) (Int.emod_lt_of_pos _ (by decide))
    have hc:97 <= c /\ c <= 122:=by omega
    obtain ⟨o1,o2,o3⟩:=zf so s7 z0 (by omega) hc
    refine ⟨trivial,stem,rfl,Nat.le_trans s7 (by decide),show (0:Int) < 26 by decide,by decide +kernel,c,c1,?_,?_,hX _ ⟨us++[Txt.slice stem none (some z)++⟨#[c]⟩],_,_,by simp; omega,.inr ⟨_,_,rfl,rfl⟩,fun x hx=>?_,fun j x hx=>?_,by rw [List.map_append]; rfl⟩⟩
    ·exact Nat.le_trans (show _ <= 8 by show _ + 1 <= 8; omega) (by decide)
    ·rw [List.length_map]
     exact Nat.lt_of_le_of_lt (show us.length <= 10 by omega) (by decide)
    ·rcases List.mem_append.mp hx with hx | hx
     ·exact um x hx
     ·rw [List.mem_singleton.mp hx]
      exact o1
    ·by_cases q:j < us.length
     ·rw [List.getElem?_append_left q] at hx
      exact ue j x hx
     ·rw [List.getElem?_append_right (by omega)] at hx
      have q2:j - us.length=0:=by
       cases q3:j - us.length with
       | zero=>rfl
       | succ r=>rw [q3] at hx; simp at hx
      rw [q2] at hx
      have hx:Txt.slice stem none (some z)++(⟨#[c]⟩:Str)=x:=by simpa using hx
      subst hx
      rw [o2,c2,show (j:Int)=k by omega]
  ·rintro _ ⟨us,s6,s7',wd,hsl,rfl⟩
   refine ⟨sz,rfl,⟨by decide,by decide⟩,fun k k0 k1=>tN k0 k1 fun d hd=>?_⟩
   obtain ⟨od,rfl,on⟩:∃ od:Str,d = .str od /\ isNm od=true:=by
    simp only [List.mem_cons,List.not_mem_nil,or_false] at hd
    rcases hd with rfl | rfl | rfl
    ·exact ⟨dL,rfl,by decide +kernel⟩
    ·exact ⟨iQ,rfl,by decide +kernel⟩
    ·exact ⟨aC,rfl,by decide +kernel⟩
   have oo1:bM 5 [.val .pen,.val (.int n),.val (.str abcS),.val (.int turn),.val (.str stem),.own (us.map .str),s6,s7',.val (.str od)]=true:=by
    rcases hsl with ⟨rfl,rfl⟩ | ⟨a,b,rfl,rfl⟩ <;> rfl
   refine ⟨fun ρ=>∃ us,Wds n us /\ ρ=[.val .pen,.val (.int n),.val (.str abcS),.val (.int turn),.val (.str stem),.own (us.map .str),s6,s7',.val (.str od)],?_,?_⟩
   ·refine ⟨_,rfl,oo1,sz,⟨wB fun x hx=>(iI (wd.m x hx)).ok,rfl⟩,rfl,?_⟩
    show Br (!eqD (.lst (us.map .str)) (.lst [])) _ _
    rw [zg]
    refine ⟨fun e1=>⟨_,rfl,oo1,⟨rfl,du us⟩,rfl,?_⟩,fun e1=>Br.f ⟨us,wd,rfl⟩⟩
    have n1:1 <= n:=by
     have:=wd.l
     cases us with
     | nil=>simp at e1
     | cons x us=>simp at this; omega
    rw [mi]
    refine ⟨fun e2=>⟨rfl,⟨by decide,by decide⟩,fun q q0 q1=>⟨⟨rfl,rfl⟩,fun e3=>?_,fun e3=>⟨us,wd,rfl⟩⟩⟩,fun e2=>Br.f ⟨us,wd,rfl⟩⟩
    have e2:od∉us:=by simpa using e2
    refine ⟨trivial,rfl,⟨by omega,by omega⟩,fun j j0 j1=>⟨j.toNat,wV j0 (by rw [List.length_map]; have:=wd.l; omega),us.set j.toNat od,⟨by rw [List.length_set]; exact wd.l,fun x hx=>?_,xD wd.d e2⟩,by rw [List.map_set]; rfl⟩⟩
    rcases List.mem_or_eq_of_mem_set hx with hx | rfl
    ·exact wd.m x hx
    ·exact on
   ·rintro _ ⟨us,wd,rfl⟩
    exact h us wd
structure NmT (hs:List Str) (ms:List Mk):Prop where
 h2:2 <= hs.length
 h6:hs.length <= 6
 hn:∀ x∈hs,isNm x=true
 hd:hs.Nodup
 m5:ms.length <= 5
 mn:∀ m∈ms,isNm m.1=true /\ 1 <= m.2.length /\ m.2.length <= 6 /\ (∀ x∈m.2,isNm x=true) /\ m.2.Nodup
 md:(ms.map (·.1)).Nodup
def xF:DSp:=fun ds Q=>ds=[.pen] /\ ∀ hs ms,NmT hs ms->Q (nmD hs ms)
theorem oD:bR xF:=fun ds P P' f ⟨a,h⟩=>⟨a,fun hs ms o=>f _ (h hs ms o)⟩
theorem oE (T:Tx K mg):FnOk P w K mg base CX0 3 T.eL T.dP ["_law_pen_here"] (spD K 1 xF):=by
 refine fnD (k:=2) T.ce.F sc__law_named (fun cdv A outer s H E hr=>(af (aO (i:=1) sc__law_named.nd rfl oo (ao (eI T) eG (rm hr) rfl T.aE.m T.aE.F.kp T.aE.b (aa (ab 0 (pv 0)) (aa (cQ fv ae (ao (aw T) ax (rm hr) rfl T.ad.m T.ad.F.kp T.ad.b (aa (ab 0 (pv 0)) (aa ae ac)))) ac))))
   (af (iG (i:=2) sc__law_named.nd rfl oo (bh ac))
   (bF (cm PassesOwn.never rfl (aS (ao (eI T) eG (rm hr) rfl T.aE.m T.aE.F.kp T.aE.b (aa (ab 0 (pv 0)) (aa (ao (aw T) ax (rm hr) rfl T.ad.m T.ad.F.kp T.ad.b (aa (ab 0 (pv 0)) (aa ae ac))) ac)))) (aj (i:=3) sc__law_named.nd rfl oo) (ag (gv (pv 2) (aX (aa (ab 3 (pv 3)) (aa (ao (eI T) eG (rm hr) rfl T.aE.m T.aE.F.kp T.aE.b (aa (ab 0 (pv 0)) (aa (cQ fv ae (ao (aw T) ax (rm hr) rfl T.ad.m T.ad.F.kp T.ad.b (aa (ab 0 (pv 0)) (aa ae ac)))) ac))) ac))))))
   (ag (az (aX (aa (ab 1 (pv 1)) (aa (ab 2 (pv 2)) ac))))))))) (fun ds Q hl h=>?_)
 obtain ⟨rfl,h⟩:=h
 refine ⟨rfl,⟨by decide,by decide⟩,fun r r0 r1=>⟨rfl,2 + r,rfl,⟨by omega,by omega⟩,fun hs ho=>⟨sz,?_⟩⟩⟩
 have hl1:=ho.l
 refine ⟨fun ρ=>∃ (ms:List Mk) (s3:Sl),NmT hs ms /\ ρ=[.val .pen,.val (.lst (hs.map .str)),.own (ms.map mkD),s3],⟨rfl,⟨by decide,by decide⟩,fun n n0 n1=>⟨rfl,n,rfl,⟨by omega,by omega⟩,fun us uo=>?_⟩⟩,?_⟩
 ·have hl2:=uo.l
  refine bb (fun pre ρ=>∃ (ms:List Mk) (u1:List Str) (s3:Sl),us=ms.map (·.1)++u1 /\ pre=(ms.map (·.1)).map D.str /\ (∀ m∈ms,1 <= m.2.length /\ m.2.length <= 6 /\ (∀ x∈m.2,isNm x=true) /\ m.2.Nodup) /\ ρ=[.val .pen,.val (.lst (hs.map .str)),.own (ms.map mkD),s3]) (fun ρ hN=>?_) (fun pre d post ρ X e hN hX=>?_) _ ⟨[],us,_,rfl,rfl,fun m hm=>by simp at hm,rfl⟩
  ·obtain ⟨ms,u1,s3,e1,e2,mo,rfl⟩:=hN
   have:u1=[]:=by
    have:=congrArg List.length e2
    rw [e1] at this
    simp at this
    exact this
   subst this
   rw [List.append_nil] at e1
   have ml:ms.length=us.length:=by rw [e1,List.length_map]
   exact ⟨ms,s3,⟨by omega,by omega,ho.m,ho.d,by omega,fun m hm=>⟨uo.m m.1 (by rw [e1]; exact List.mem_map.mpr ⟨m,hm,rfl⟩),mo m hm⟩,by rw [← e1]; exact uo.d⟩,rfl⟩
  ·obtain ⟨ms,u1,s3,e1,rfl,mo,rfl⟩:=hN
   rw [e1,List.map_append] at e
   have e:=List.append_cancel_left e
   cases u1 with
   | nil=>simp at e
   | cons u u1 =>
    rw [List.map_cons] at e
    injection e with e2 e3
    subst e2
    have ml:=congrArg List.length e1
    rw [List.length_append,List.length_map] at ml
    refine ⟨trivial,rfl,⟨by decide,by decide⟩,fun q q0 q1=>⟨rfl,1 + q,rfl,⟨by omega,by omega⟩,fun ks ko=>?_⟩⟩
    have kl:=ko.l
    refine ⟨sz,?_,hX _ ⟨ms++[(u,ks)],u1,_,by rw [e1]; simp,by rw [List.map_append,List.map_append]; rfl,fun m hm=>?_,by rw [List.map_append]; rfl⟩⟩
    ·rw [List.length_map]
     exact Nat.lt_of_le_of_lt (show ms.length <= 10 by omega) (by decide)
    ·rcases List.mem_append.mp hm with hm | hm
     ·exact mo m hm
     ·rw [List.mem_singleton.mp hm]
      exact ⟨by show 1 <= ks.length; omega,by show ks.length <= 6; omega,ko.m,ko.d⟩
 ·rintro _ ⟨ms,s3,no,rfl⟩
  exact ⟨sz,h hs ms no⟩
def embB (f:List (List Int×Row)):List (List Key×D):=f.map fun p=>(kI p.1,rowD p.2)
def KsOk (ms ks:List Int):Prop:=ks.length=ms.length /\ ∀ i,i < ks.length->0 <= ks.getD i 0 /\ ks.getD i 0 < ms.getD i 0
theorem KsOk.snoc {ms ks:List Int} (h:KsOk ms ks) {x r:Int} (r0:0 <= r) (r1:r < x):KsOk (ms++[x]) (ks++[r]):=by
 obtain ⟨h1,h2⟩:=h
 refine ⟨by simp [h1],fun i hi=>?_⟩
 rw [List.length_append,List.length_singleton] at hi
 rw [List.getD_eq_getElem?_getD,List.getD_eq_getElem?_getD]
 by_cases z:i < ks.length
 ·have:=h2 i z
  rw [List.getD_eq_getElem?_getD,List.getD_eq_getElem?_getD] at this
  rw [List.getElem?_append_left z,List.getElem?_append_left (by omega)]
  exact this
 ·have e:i=ks.length:=by omega
  subst e
  rw [List.getElem?_append_right (Nat.le_refl _),List.getElem?_append_right (by omega),Nat.sub_self,← h1,Nat.sub_self]
  exact ⟨r0,r1⟩
structure FOk (m:Nat) (ms:List Int) (f:List (List Int×Row)):Prop where
 nd:(f.map (·.1)).Nodup
 it:∀ p∈f,KsOk ms p.1 /\ RowN 95 m p.2 /\ kW p.2
theorem FOk.put {m:Nat} {ms:List Int} {f:List (List Int×Row)} (h:FOk m ms f) {k:List Int} {r:Row} (hk:KsOk ms k) (hr:RowN 95 m r /\ kW r):∃ f',putA (embB f) (kI k) (rowD r)=embB f' /\ FOk m ms f' /\ f'.length <= f.length + 1:=by
 have ea:((embB f).any fun q=>decide (q.1=kI k))=f.any fun q=>decide (q.1=k):=by
  unfold embB
  rw [List.any_map]
  congr 1
  funext q
  simp [rW]
 unfold putA
 rw [ea]
 by_cases a:(f.any fun q=>decide (q.1=k))=true
 ·rw [if_pos a]
  refine ⟨f.map fun p=>if p.1=k then (p.1,r) else p,?_,⟨?_,fun p hp=>?_⟩,by rw [List.length_map]; omega⟩
  ·unfold embB
   rw [List.map_map,List.map_map]
   apply List.map_congr_left
   intro p _
   simp only [Function.comp,rW]
   split <;> rfl
  ·rw [List.map_map]
   have:f.map ((fun x=>x.1) ∘ fun p=>if p.1=k then (p.1,r) else p)=f.map (·.1):=by
    apply List.map_congr_left
    intro p _
    simp only [Function.comp]
    split <;> rfl
   rw [this]
   exact h.nd
  ·obtain ⟨q,hq,rfl⟩:=List.mem_map.mp hp
   split
   ·rename_i e
    exact ⟨by rw [e]; exact hk,hr⟩
   ·exact h.it q hq
 ·rw [if_neg a]
  refine ⟨f++[(k,r)],by unfold embB; rw [List.map_append]; rfl,⟨?_,fun p hp=>?_⟩,by simp⟩
  ·rw [List.map_append]
   refine List.nodup_append.mpr ⟨h.nd,by simp,fun x hx y hy e=>?_⟩
   have hy:y=k:=by simpa using hy
   subst hy
   subst e
   obtain ⟨q,hq,e⟩:=List.mem_map.mp hx
   exact a (List.any_eq_true.mpr ⟨q,hq,by simpa using e⟩)
  ·rcases List.mem_append.mp hp with hp | hp
   ·exact h.it p hp
   ·rw [List.mem_singleton.mp hp]
    exact ⟨hk,hr⟩
theorem Bl {f:List (List Int×Row)} {k:List Int} (h:k∈f.map (·.1)):∃ p∈f,p.1=k /\ ic (embB f) (kI k)=some (rowD p.2):=by
 induction f with
 | nil=>simp at h
 | cons q t ih =>
  by_cases e:q.1=k
  ·refine ⟨q,List.mem_cons_self,e,?_⟩
   unfold ic embB
   rw [List.map_cons,List.find?_cons_of_pos (by simpa [rW] using e)]
   rfl
  ·have h':k∈t.map (·.1):=by
    rw [List.map_cons] at h
    rcases List.mem_cons.mp h with h | h
    ·exact absurd h.symm e
    ·exact h
   obtain ⟨p,h1,h2,h4⟩:=ih h'
   refine ⟨p,List.mem_cons_of_mem _ h1,h2,?_⟩
   unfold ic embB at h4 ⊢
   rw [List.map_cons,List.find?_cons_of_neg (by simpa [rW] using e)]
   exact h4
theorem oF {r:Row} (h:0 < (r.map (·.1)).sum):kW r:=by
 induction r with
 | nil=>simp at h
 | cons c t ih =>
  rw [List.map_cons,List.sum_cons] at h
  by_cases e:0 < c.1
  ·exact ⟨c,List.mem_cons_self,e⟩
  ·obtain ⟨d,hd,hp⟩:=ih (by omega)
   exact ⟨d,List.mem_cons_of_mem _ hd,hp⟩
theorem zh {cs:List (Int×Int)} (hl:cs.length <= 1000) {x:Sl} {Q:List D->Prop} (q:Q ((cs.map (·.1)).map D.int)):cH (cF 0) bU (dOp gIx (dVar 0) (dC (.int 0))) (cs.map bx) [] [x] Q:=by
 refine aQ (fun d=>match d with | .tup (x::_)=>x | _=>.non) (fun ρ=>∃ s,ρ=[s]) (by rw [List.length_map]; exact Nat.le_trans hl (by decide)) (fun d hd ρ Y Z hN hY=>?_) _ ⟨_,rfl⟩ ?_
 ·obtain ⟨s,rfl⟩:=hN
  obtain ⟨c,_,rfl⟩:=List.mem_map.mp hd
  exact Br.t (hY _ ⟨_,rfl⟩)
 ·rw [List.map_map] at q ⊢
  exact q
theorem Cr (kds:List (List Key×D)):fzO (dvO kds) = .dT (kds.map (·.1)) (kds.map (·.2)):=by
 unfold dvO
 simp only [fzO]
 congr 1
 rw [lI,List.map_map]
 apply List.map_congr_left
 intro p _
 simp only [Function.comp,fzO]
abbrev mkN (ms:List Mk):List Int:=ms.map fun m=>(m.2.length:Int)
def xG:DSp:=fun ds Q=>∃ hs ms,ds=[.pen,nmD hs ms] /\ NmT hs ms /\ ∀ cells,BkT hs ms cells->Q (.tup (cells.map bd))
theorem oG:bR xG:=fun ds P P' f ⟨hs,ms,a,b,h⟩=>⟨hs,ms,a,b,fun c o=>f _ (h c o)⟩
theorem oH (T:Tx K mg):FnOk P w K mg base CX0 3 T.eP T.dQ ["_law_pen_here","_law_names"] (spD K 2 xG):=by
 refine fnD (k:=2) T.cf.F sc__law_cells (fun cdv A outer s H E hr=>(af (jF (ab 1 (pv 1)) (bX (n:=2) rfl (ar (aj (i:=2) sc__law_cells.nd rfl oo) (ar (aj (i:=3) sc__law_cells.nd rfl oo) bi))))
   (af (uf (i:=4) sc__law_cells.nd rfl oo)
   (bF (cm PassesOwn.never rfl (dn rfl T.eZ (aa (ao (aw T) ax (rm hr) rfl T.ad.m T.ad.F.kp T.ad.b (aa (ab 0 (pv 0)) (aa ae ac))) ac)) (aj (i:=5) sc__law_cells.nd rfl oo) (af (aO (i:=6) sc__law_cells.nd rfl oo (aK cu rfl T.aW rfl (aa (aq (PCD.pld (aF (N':=["_law_word","_law_some","_law_pen_here"]) rfl rfl dk rfl (.own (.own (.cap (j:=0) rfl oo rfl .nil))) dk (aS (ab 3 (pv 3))) (fun B=>(bX (n:=2) rfl (ar (aj (i:=0) ndB rfl oo) (ar (aj (i:=1) ndB rfl oo) bi)))) (fun B=>aM) (fun B=>(ao (aw T) ax (rm hr) rfl T.ad.m T.ad.F.kp T.ad.b (aa (ab 2 (pv 2)) (aa (al cG rfl T.cM PySem.boot_len (aa (ab 1 (pv 1)) ac)) ac))))))) ac)))
   (af (gX (i:=7) sc__law_cells.nd rfl rfl (aF (N':=["_law_house","_law_pen_here"]) rfl rfl dk rfl (.own (.cap (j:=0) rfl oo rfl .nil)) dk (aS (ab 2 (pv 2))) (fun B=>(aj (i:=0) ndB rfl oo)) (fun B=>aM) (fun B=>(ao (oC T) oB (rm hr) rfl T.cg.m T.cg.F.kp T.cg.b (aa (ab 1 (pv 1)) ac)))))
   (ag (cE (bf pA (al tQ rfl T.wD PyProof.Rows.boot_sum (aa (aq (PCD.pld (aF (N':=["_law_count_here"]) rfl rfl dk rfl (.own .nil) dk (aS (ab 7 (pv 7))) (fun B=>(aj (i:=0) ndB rfl oo)) (fun B=>aM) (fun B=>(ay (ab 0 (pv 0)) ae (fun _ _=>rfl)))))) ac)) ae (aH _)) (ag (yI hr (pv 4) (ab 6 (pv 6)) (aK cu rfl T.aW rfl (aa (ab 7 (pv 7)) ac)))) aL)))))
   (ag (az (aK cu rfl T.aW rfl (aa (aq (PCD.pld (aF (N':=["_law_kinds","_law_cells_here"]) rfl rfl dk rfl (.own (.cap (j:=4) rfl oo rfl .nil)) dk (aS (al qC rfl T.mz dk (aa (ab 4 (pv 4)) ac))) (fun B=>(aj (i:=0) ndB rfl oo)) (fun B=>aM) (fun B=>(aX (aa (ab 0 (pv 0)) (aa (wX hr (ab 1 (pv 1)) (ab 0 (pv 0)) (fun _ _=>rfl)) ac))))))) ac)))))))) (fun ds Q hl h=>?_)
 obtain ⟨hs,ms,rfl,no,h⟩:=h
 have m5:=no.m5
 have h6:=no.h6
 refine ⟨rfl,fun ρ=>∃ f:List (List Int×Row),FOk hs.length (mkN ms) f /\ f.length <= 7 /\ ∃ a b c:Sl,ρ=[.val .pen,.val (nmD hs ms),.val (.lst (hs.map .str)),.val (.lst (ms.map mkD)),.obj (dvO (embB f)),a,b,c],⟨rfl,⟨by decide,by decide⟩,fun n n0 n1=>⟨⟨by omega,by omega⟩,?_⟩⟩,?_⟩
 ·refine gy (fun k ρ=>∃ f:List (List Int×Row),FOk hs.length (mkN ms) f /\ (f.length:Int) <= k /\ ∃ a b c:Sl,ρ=[.val .pen,.val (nmD hs ms),.val (.lst (hs.map .str)),.val (.lst (ms.map mkD)),.obj (dvO (embB f)),a,b,c]) _ _ ?_ ?_ _ ⟨[],⟨List.nodup_nil,fun p hp=>by simp at hp⟩,by simp,_,_,_,rfl⟩
  ·rintro ρ ⟨f,fo,fl,a,b,c,rfl⟩
   exact ⟨f,fo,by omega,a,b,c,rfl⟩
  ·rintro k ρ X k0 k1 ⟨f,fo,fl,a,b,c,rfl⟩ hX
   refine bj (fun pre acc ρ=>∃ (m0 m1:List Mk) (ks:List Int),ms=m0++m1 /\ pre=m0.map mkD /\ acc=ks.map D.int /\ KsOk (mkN m0) ks /\ ∃ s s',ρ=[s,s',.val .pen]) (fun acc ρ hN=>?_) (fun pre d post acc ρ Y e hN hY=>?_) _ ⟨[],ms,[],rfl,rfl,rfl,⟨rfl,fun i hi=>absurd hi (Nat.not_lt_zero i)⟩,_,_,rfl⟩
   ·obtain ⟨m0,m1,ks,e1,e2,rfl,kl,s,s',rfl⟩:=hN
    have:m1=[]:=by
     have:=congrArg List.length e2
     rw [e1] at this
     simp at this
     exact this
    subst this
    rw [List.append_nil] at e1
    rw [← e1] at kl
    refine bj (fun pre acc ρ=>∃ r:Row,acc=r.map bx /\ r.length=pre.length /\ (∀ c∈r,Cnt 95 c.1 c.2) /\ ∃ s,ρ=[s,.val .pen]) (fun acc ρ hN=>?_) (fun pre d post acc ρ Y e hN hY=>?_) _ ⟨[],rfl,rfl,fun c hc=>by simp at hc,_,rfl⟩
    ·obtain ⟨r,rfl,hl,hc,_⟩:=hN
     rw [List.length_map] at hl
     refine zh (by omega) (lO (Br.di (fun z=>?_) (fun z=>hX _ ⟨f,fo,by omega,_,_,_,rfl⟩)))
     obtain ⟨f',e,fo',fl'⟩:=fo.put (k:=ks) (r:=r) kl ⟨⟨hl,hc⟩,oF z⟩
     refine ⟨trivial,embB f,kI ks,rfl,iq ks,?_,?_⟩
     ·unfold embB
      rw [List.length_map]
      exact Nat.lt_of_le_of_lt (show f.length <= 100 by omega) (by decide)
     ·have e':putA (embB f) (kI ks) (.tup (r.map bx))=embB f':=e
      rw [e']
      exact hX _ ⟨f',fo',by omega,_,_,_,rfl⟩
    ·obtain ⟨r,rfl,hl,hc,s,rfl⟩:=hN
     refine Br.t ⟨rfl,rfl,fun t w cw=>⟨?_,hY _ _ ⟨r++[(t,w)],by simp [bx],by simp [hl],fun c hc'=>?_,_,rfl⟩⟩⟩
     ·have hlen:(hs.map D.str).length=pre.length + (post.length + 1):=by rw [e]; simp
      rw [List.length_map] at hlen
      rw [List.length_map]
      exact Nat.lt_of_le_of_lt (show r.length <= 100 by omega) (by decide)
     ·rcases List.mem_append.mp hc' with hc' | hc'
      ·exact hc c hc'
      ·rw [List.mem_singleton.mp hc']; exact cw
   ·obtain ⟨m0,m1,ks,e1,rfl,rfl,kl,s,s',rfl⟩:=hN
    rw [e1,List.map_append] at e
    have e:=List.append_cancel_left e
    cases m1 with
    | nil=>simp at e
    | cons x m1 =>
     rw [List.map_cons] at e
     injection e with e3 e4
     subst e3
     have hx:=no.mn x (by rw [e1]; simp)
     rw [e1,List.length_append] at m5
     have xl:((x.2.map D.str).length:Int)=x.2.length:=by rw [List.length_map]
     refine ⟨rfl,Br.t ⟨rfl,⟨by omega,by omega⟩,fun r r0 r1=>⟨?_,hY _ _ ⟨m0++[x],m1,ks++[r],by rw [e1]; simp,by simp,by simp,?_,_,_,rfl⟩⟩⟩⟩
     ·rw [List.length_map,kl.1,List.length_map]
      exact Nat.lt_of_le_of_lt (show m0.length <= 10 by omega) (by decide)
     ·rw [mkN,List.map_append]
      exact kl.snoc r0 (by show r < (x.2.length:Int); omega)
 rintro _ ⟨f,fo,fl,a,b,c,rfl⟩
 have hk:(embB f).map (·.1)=(f.map (·.1)).map kI:=by unfold embB; rw [List.map_map,List.map_map]; rfl
 have kl:(f.map (·.1)).length <= 7:=by rw [List.length_map]; exact fl
 have kln:∀ k∈f.map (·.1),k.length=(mkN ms).length:=fun k hk=>by
  obtain ⟨p,hp,rfl⟩:=List.mem_map.mp hk
  exact (fo.it p hp).1.1
 have sl:(dJ (f.map (·.1))).length <= 7:=by rw [(bJ _).length_eq]; exact kl
 have cA:∀ k∈(embB f).map (·.1),rM k:=fun k hk'=>by
  rw [hk] at hk'
  obtain ⟨k',_,rfl⟩:=List.mem_map.mp hk'
  exact qP k'
 have cB:2 <= ((embB f).map (·.1)).length->∀ k∈(embB f).map (·.1),k≠[]:=fun h2 k hk'=>by
  rw [hk] at h2 hk'
  rw [List.length_map] at h2
  obtain ⟨k',hk2,rfl⟩:=List.mem_map.mp hk'
  intro z
  exact uP fo.nd kln h2 k' hk2 (qO (b:=[]) z)
 have cC:((embB f).map (·.1)).length < 64:=by rw [hk,List.length_map]; omega
 have e1:(srtK ((embB f).map (·.1))).map keyD=(dJ (f.map (·.1))).map gD:=by
  rw [hk,uO,List.map_map]
  apply List.map_congr_left
  intro k _
  exact (iq k).symm
 refine ⟨⟨cA,cB,cC⟩,?_⟩
 show cH _ _ _ ((srtK ((embB f).map (·.1))).map keyD) _ _ _
 rw [e1]
 refine bj (fun pre acc ρ=>∃ k0 k1:List (List Int),∃ cs:List (List Int×Row),dJ (f.map (·.1))=k0++k1 /\ pre=k0.map gD /\ acc=cs.map bd /\ cs.map (·.1)=k0 /\ (∀ p∈cs,p∈f) /\ ∃ s:Sl,ρ=[s,.val (fzO (dvO (embB f)))]) (fun acc ρ hN=>?_) (fun pre d post acc ρ Y e hN hY=>?_) _ ⟨[],_,[],rfl,rfl,rfl,rfl,fun p hp=>by simp at hp,_,rfl⟩
 ·obtain ⟨k0,k1,cs,e3,e4,rfl,cl,hc,s,rfl⟩:=hN
  have:k1=[]:=by
   have:=congrArg List.length e4
   rw [e3] at this
   simp at this
   exact this
  subst this
  rw [List.append_nil] at e3
  have up:=jb fo.nd
  rw [e3] at sl up
  have cl9:cs.length <= 7:=by rw [← List.length_map (·.1) (as:=cs),cl]; exact sl
  refine h cs ⟨no.h2,no.h6,no.hn,no.hd,no.m5,no.mn,no.md,cl9,fun c hc'=>⟨?_,(fo.it c (hc c hc')).2⟩,fun c hc' i k m hk' hm=>?_,fun i j x y hij hi hj=>?_⟩
  ·rw [(fo.it c (hc c hc')).1.1,List.length_map]
  ·have kk:=(fo.it c (hc c hc')).1
   obtain ⟨i1,i2⟩:=List.getElem?_eq_some_iff.mp hk'
   obtain ⟨i3,i4⟩:=List.getElem?_eq_some_iff.mp hm
   have:=kk.2 i i1
   rw [List.getD_eq_getElem?_getD,List.getD_eq_getElem?_getD,hk',List.getElem?_map,hm] at this
   exact this
  ·obtain ⟨i1,i2⟩:=List.getElem?_eq_some_iff.mp hi
   obtain ⟨j1,j2⟩:=List.getElem?_eq_some_iff.mp hj
   rw [← cl] at up
   have:=List.pairwise_iff_getElem.mp up i j (by simpa using i1) (by simpa using j1) hij
   rw [List.getElem_map,List.getElem_map,i2,j2] at this
   rw [pU _ _ (by rw [(fo.it x (hc x (List.mem_of_getElem? hi))).1.1,(fo.it y (hc y (List.mem_of_getElem? hj))).1.1])]
   exact this
 ·obtain ⟨k0,k1,cs,e3,rfl,rfl,cl,hc,s,rfl⟩:=hN
  rw [e3,List.map_append] at e
  have e:=List.append_cancel_left e
  cases k1 with
  | nil=>simp at e
  | cons k k1 =>
   rw [List.map_cons] at e
   injection e with e4 e5
   subst e4
   have hk':k∈dJ (f.map (·.1)):=by rw [e3]; simp
   obtain ⟨p,hp,hpk,h4⟩:=Bl ((bJ _).mem_iff.mp hk')
   rw [e3,List.length_append] at sl
   refine Br.t ⟨embB f,kI k,rowD p.2,Cr _,iq k,h4,sz,?_,hY _ _ ⟨k0++[k],k1,cs++[p],by rw [e3]; simp,by simp,by rw [List.map_append,← hpk]; rfl,by rw [List.map_append,cl]; show k0++[p.1]=_; rw [hpk],fun q hq=>?_,_,rfl⟩⟩
   ·have cl9:cs.length <= 7:=by rw [← List.length_map (·.1) (as:=cs),cl]; omega
    rw [List.length_map]
    exact Nat.lt_of_le_of_lt cl9 (by decide)
   ·rcases List.mem_append.mp hq with hq | hq
    ·exact hc q hq
    ·rw [List.mem_singleton.mp hq]; exact hp
abbrev jL (L:List (List Str)):List D:=(L.map (Txt.join spS)).map D.str
theorem vh (L:List (List Str)) (l:List Str):jL (L++[l])=jL L++[.str (Txt.join spS l)]:=by simp
theorem vi {hs:List Str} {ms:List Mk} {cells:List (List Int×Row)} (o:ShOk hs ms cells) {c:List Int×Row} (hc:c∈cells) {s:Sl} {Q:List D->Prop} (q:Q ((wds ms c.1).map D.str)) :
  cH (cF 0) bU (dOp gIx (dOp gIx (dOp gIx (dVar 1) (dVar 0)) (dC (.int 1))) (dOp gIx (dVar 2) (dVar 0))) (ee 0 ((c.1.map D.int).length:Int).toNat) [] [s,.val (.lst (ms.map mkD)),.val (gD c.1)] Q:=by
 have m5:=o.m5
 have kl:=(o.kl c hc).1
 have wl:(wds ms c.1).length=c.1.length:=by
  unfold wds
  rw [List.length_map,List.length_zip]
  omega
 have il:(ee 0 ((c.1.map D.int).length:Int).toNat).length=c.1.length:=by
  rw [cU,List.length_map]
  omega
 refine bj (fun pre acc ρ=>acc=((wds ms c.1).map D.str).take pre.length /\ ∃ s,ρ=[s,.val (.lst (ms.map mkD)),.val (gD c.1)]) (fun acc ρ hN=>?_) (fun pre d post acc ρ Y e hN hY=>?_) _ ⟨by simp,_,rfl⟩
 ·obtain ⟨rfl,_⟩:=hN
  rw [il,← wl,← List.length_map (f:=D.str),List.take_length]
  exact q
 ·obtain ⟨rfl,s,rfl⟩:=hN
  have pl:pre.length < c.1.length:=by
   have:=congrArg List.length e
   rw [il,List.length_append,List.length_cons] at this
   omega
  have ed:d = .int pre.length:=by
   have e1:(ee 0 ((c.1.map D.int).length:Int).toNat)[pre.length]? = some d:=by
    rw [e,List.getElem?_append_right (Nat.le_refl _)]
    simp
   rw [eE,List.getElem?_map,List.getElem?_range (by rw [List.length_map]; omega)] at e1
   have:=Option.some.inj e1
   rw [← this]
   simp
  subst ed
  have hlt:pre.length < ms.length:=by omega
  have em:ms[pre.length]? = some ms[pre.length]:=List.getElem?_eq_getElem hlt
  have ec:c.1[pre.length]? = some c.1[pre.length]:=List.getElem?_eq_getElem pl
  obtain ⟨b0,b1⟩:=o.kk c hc pre.length c.1[pre.length] ms[pre.length] ec em
  have ek:(ms[pre.length]).2[(c.1[pre.length]).toNat]? = some ((ms[pre.length]).2.getD (c.1[pre.length]).toNat Str.empty):=by
   rw [List.getD_eq_getElem?_getD,List.getElem?_eq_getElem (by omega)]
   rfl
  have ew:(wds ms c.1)[pre.length]? = some ((ms[pre.length]).2.getD (c.1[pre.length]).toNat Str.empty):=by
   unfold wds
   rw [List.getElem?_map,(List.getElem?_zip_eq_some (z:=(ms[pre.length],c.1[pre.length]))).mpr ⟨em,ec⟩]
   rfl
  refine Br.t (bS (d:=mkD ms[pre.length]) (by omega) (by rw [Int.toNat_natCast,List.getElem?_map,em]; rfl) ?_)
  refine bS (d:=.int c.1[pre.length]) (by omega) (by rw [Int.toNat_natCast,List.getElem?_map,ec]; rfl) ?_
  refine bS (d:=.str ((ms[pre.length]).2.getD (c.1[pre.length]).toNat Str.empty)) b0 (by rw [List.getElem?_map,ek]; rfl) ⟨?_,hY _ _ ⟨?_,_,rfl⟩⟩
  ·rw [List.length_take]
   exact Nat.lt_of_le_of_lt (show _ <= 5 by omega) (by decide)
  ·rw [List.length_append,List.length_singleton,List.take_succ,List.getElem?_map,ew]
   rfl
def Bm:DSp:=fun ds Q=>∃ (hs:List Str) (ms:List Mk) (cells:List (List Int×Row)),ds=[nmD hs ms,.tup (cells.map bd)] /\ ShOk hs ms cells /\ Q (.str (ca hs ms cells))
theorem pV:bR Bm:=fun ds P P' f ⟨hs,ms,cs,c,d,h⟩=>⟨hs,ms,cs,c,d,f _ h⟩
theorem pW (T:Tx K mg):FnOk P w K mg base CX0 1 T.fY T.eX ["_law_names","_law_cells_here"] (spD K 2 Bm):=by
 refine fnD (k:=0) T.cP.F sc__law_text (fun cdv A outer s H E hr=>(af (jF (ab 0 (pv 0)) (bX (n:=2) rfl (ar (aj (i:=2) sc__law_text.nd rfl oo) (ar (aj (i:=3) sc__law_text.nd rfl oo) bi))))
   (af (iG (i:=4) sc__law_text.nd rfl oo (bh (aa (fO aJ (aq (ei (aq (bh (aa aJ ac))) (ab 2 (pv 2))))) ac)))
   (bF (cm PassesOwn.never rfl (aS (ab 3 (pv 3))) (bX (n:=2) rfl (ar (aj (i:=5) sc__law_text.nd rfl oo) (ar (aj (i:=6) sc__law_text.nd rfl oo) bi))) (ag (gv (pv 4) (fO aJ (aq (ei (aq (bh (aa aJ (aa (ab 5 (pv 5)) ac)))) (ab 6 (pv 6))))))))
   (bF (cm PassesOwn.never rfl (nv (ab 1 (pv 1))) (bX (n:=2) rfl (ar (aj (i:=7) sc__law_text.nd rfl oo) (ar (aj (i:=8) sc__law_text.nd rfl oo) bi))) (af (gX (i:=9) sc__law_text.nd rfl rfl (aF (N':=["_law_k","_law_marks","_law_kinds"]) rfl rfl dk rfl (.own (.cap (j:=3) rfl oo rfl (.cap (j:=7) rfl oo rfl .nil))) dk (dn rfl T.eZ (aa (al cG rfl T.cM PySem.boot_len (aa (ab 7 (pv 7)) ac)) ac)) (fun B=>(aj (i:=0) ndB rfl oo)) (fun B=>aM) (fun B=>(ay (ay (ay (ab 1 (pv 1)) (ab 0 (pv 0)) (fun _ _=>rfl)) ae (fun _ _=>rfl)) (ay (ab 2 (pv 2)) (ab 0 (pv 0)) (fun _ _=>rfl)) (fun _ _=>rfl)))))
   (ag (cm PassesOwn.never rfl (uu rfl T.zk (aa (ab 2 (pv 2)) (aa (ab 8 (pv 8)) ac))) (bX (n:=2) rfl (ar (aj (i:=10) sc__law_text.nd rfl oo) (ar (aj (i:=11) sc__law_text.nd rfl oo) bi))) (ag (cE (bf pA (ay (ab 11 (pv 11)) ae (fun _ _=>rfl)) ae (aH _)) (af (aO (i:=12) sc__law_text.nd rfl oo (aq (bh (aa (aK lZ rfl T.pY rfl (aa (ay (ab 11 (pv 11)) ae (fun _ _=>rfl)) ac)) (aa (aK lZ rfl T.pY rfl (aa (ay (ab 11 (pv 11)) ae (fun _ _=>rfl)) ac)) ac)))))
   (ag (gv (pv 4) (fO aJ (aq (ei (aq (ei (aq (bh (aa aJ (aa (ab 10 (pv 10)) ac)))) (ab 9 (pv 9)))) (ab 12 (pv 12)))))))) aL))))))
   (ag (az (fO aJ (ab 4 (pv 4)))))))))) (fun ds Q hl h=>?_)
 obtain ⟨hs,ms,cells,rfl,o,h⟩:=h
 have szc:∀ {n:Nat},n <= 1000->n <= sizeLine:=fun h=>Nat.le_trans h (by decide)
 have h6:=o.h6
 have m5:=o.m5
 have lb:=pP o
 have lf:=eF o
 have esp:spS.length=1:=by decide +kernel
 have enl:nlS.length=1:=by decide +kernel
 have jok:∀ l,l∈aG hs ms cells->JoinOk spS l=true:=fun l hl=>ki (lb l hl).2 (by have:=(lb l hl).1; rw [esp]; omega)
 refine ⟨rfl,spS,rfl,sz,szc (by simp; omega),aC::hs,⟨rfl,jok _ (by unfold aG; simp)⟩,sz,?_⟩
 refine ⟨fun ρ=>∃ s5 s6 s7 s8 s9 s10 s11 s12:Sl,ρ=[.val (nmD hs ms),.val (.tup (cells.map bd)),.val (.lst (hs.map .str)),.val (.lst (ms.map mkD)),.own (jL ((aC::hs)::ms.map mkLn)),s5,s6,s7,s8,s9,s10,s11,s12],?_,?_⟩
 ·refine bb (fun pre ρ=>∃ (m0 m1:List Mk) (s5 s6 s7 s8 s9 s10 s11 s12:Sl),ms=m0++m1 /\ pre=m0.map mkD /\ ρ=[.val (nmD hs ms),.val (.tup (cells.map bd)),.val (.lst (hs.map .str)),.val (.lst (ms.map mkD)),.own (jL ((aC::hs)::m0.map mkLn)),s5,s6,s7,s8,s9,s10,s11,s12]) (fun ρ hN=>?_) (fun pre d post ρ X e hN hX=>?_) _ ⟨[],ms,_,_,_,_,_,_,_,_,rfl,rfl,rfl⟩
  ·obtain ⟨m0,m1,s5,s6,s7,s8,s9,s10,s11,s12,e3,e4,rfl⟩:=hN
   have:=congrArg List.length e4
   rw [e3] at this
   simp only [List.length_map,List.length_append] at this
   have:m1=[]:=List.length_eq_zero_iff.mp (by omega)
   subst this
   rw [List.append_nil] at e3
   subst e3
   exact ⟨_,_,_,_,_,_,_,_,rfl⟩
  ·obtain ⟨m0,m1,s5,s6,s7,s8,s9,s10,s11,s12,e3,rfl,rfl⟩:=hN
   rw [e3,List.map_append] at e
   have e:=List.append_cancel_left e
   cases m1 with
   | nil=>simp at e
   | cons m m1 =>
    rw [List.map_cons] at e
    injection e with e4 e5
    subst e4
    have hm:m∈ms:=by rw [e3]; simp
    have hlen:=(o.ml m hm).2.1
    have hl:=congrArg List.length e3
    rw [List.length_append] at hl
    refine ⟨rfl,trivial,spS,rfl,sz,szc (by simp; omega),mkLn m,⟨rfl,jok _ (by unfold aG; simp; exact .inr (.inl ⟨m.1,m.2,hm,rfl⟩))⟩,?_,hX _ ⟨m0++[m],m1,_,_,_,_,_,_,_,_,by rw [e3,List.append_assoc]; rfl,by rw [List.map_append]; rfl,by rw [List.map_append,List.map_singleton,← List.cons_append,vh]; rfl⟩⟩
    exact Nat.lt_of_le_of_lt (show (jL ((aC::hs)::m0.map mkLn)).length <= 100 by simp; omega) (by decide)
 ·rintro _ ⟨s5,s6,s7,s8,s9,s10,s11,s12,rfl⟩
  refine ⟨fun ρ=>∃ s5 s6 s7 s8 s9 s10 s11 s12:Sl,ρ=[.val (nmD hs ms),.val (.tup (cells.map bd)),.val (.lst (hs.map .str)),.val (.lst (ms.map mkD)),.own (jL (aG hs ms cells)),s5,s6,s7,s8,s9,s10,s11,s12],?_,?_⟩
  ·refine bb (fun pre ρ=>∃ (c0 c1:List (List Int×Row)) (s5 s6 s7 s8 s9 s10 s11 s12:Sl),cells=c0++c1 /\ pre=c0.map bd /\ ρ=[.val (nmD hs ms),.val (.tup (cells.map bd)),.val (.lst (hs.map .str)),.val (.lst (ms.map mkD)),.own (jL ((aC::hs)::ms.map mkLn++(c0.flatMap (csOf hs ms)).map Cs.ln)),s5,s6,s7,s8,s9,s10,s11,s12]) (fun ρ hN=>?_) (fun pre d post ρ X e hN hX=>?_) _ ⟨[],cells,s5,s6,s7,s8,s9,s10,s11,s12,rfl,rfl,by simp⟩
   ·obtain ⟨c0,c1,s5,s6,s7,s8,s9,s10,s11,s12,e3,e4,rfl⟩:=hN
    have:=congrArg List.length e4
    rw [e3] at this
    simp only [List.length_map,List.length_append] at this
    have:c1=[]:=List.length_eq_zero_iff.mp (by omega)
    subst this
    rw [List.append_nil] at e3
    subst e3
    exact ⟨_,_,_,_,_,_,_,_,rfl⟩
   ·obtain ⟨c0,c1,s5,s6,s7,s8,s9,s10,s11,s12,e3,rfl,rfl⟩:=hN
    rw [e3,List.map_append] at e
    have e:=List.append_cancel_left e
    cases c1 with
    | nil=>simp at e
    | cons c c1 =>
     rw [List.map_cons] at e
     injection e with e4 e5
     subst e4
     have hc:c∈cells:=by rw [e3]; simp
     have kl:=(o.kl c hc).1
     have hr:=(o.kl c hc).2
     have e6:((c.1.map D.int).length:Int)=c.1.length:=by rw [List.length_map]
     refine ⟨rfl,⟨by omega,by omega⟩,vi o hc ⟨_,_,rfl,rfl,?_⟩⟩
     have ez:∀ (ws:List Str) (r:Row),zipD (ws.map D.str) (r.map bx)=(ws.zip r).map fun p=>D.tup [.str p.1,bx p.2]:=fun ws=>by
      induction ws with
      | nil=>intro r; cases r <;> rfl
      | cons x ws ih =>
       intro r
       cases r with
       | nil=>rfl
       | cons m r=>rw [List.map_cons,List.map_cons,zipD,ih,List.zip_cons_cons,List.map_cons]
     rw [ez]
     have ecs:∀ z1:List (Str×(Int×Int)),hs.zip c.2=z1->csOf hs ms c=(z1.filter fun p=>decide (0 < p.2.1)).map fun p=>⟨p.1,wds ms c.1,numS p.2.1,numS p.2.2,p.2.1.toNat,p.2.2.toNat⟩:=fun z1 h=>by rw [← h]; rfl
     have ell:∀ z0 z1:List (Str×(Int×Int)),hs.zip c.2=z0++z1->((aC::hs)::ms.map mkLn++(c0.flatMap (csOf hs ms)).map Cs.ln++((z0.filter fun p=>decide (0 < p.2.1)).map fun p=>(⟨p.1,wds ms c.1,numS p.2.1,numS p.2.2,p.2.1.toNat,p.2.2.toNat⟩:Cs)).map Cs.ln).length <= 50:=fun z0 z1 h=>by
      have:=lf
      unfold aG at this
      rw [e3,List.flatMap_append,List.flatMap_cons,ecs _ h,List.filter_append,List.map_append] at this
      simp only [List.length_append,List.length_map,List.length_cons] at this ⊢
      omega
     refine bb (fun pre ρ=>∃ (z0 z1:List (Str×(Int×Int))) (s5 s6 s10 s11 s12:Sl),hs.zip c.2=z0++z1 /\ pre=z0.map (fun p=>D.tup [.str p.1,bx p.2]) /\ ρ=[.val (nmD hs ms),.val (.tup (cells.map bd)),.val (.lst (hs.map .str)),.val (.lst (ms.map mkD)),.own (jL ((aC::hs)::ms.map mkLn++(c0.flatMap (csOf hs ms)).map Cs.ln++((z0.filter fun p=>decide (0 < p.2.1)).map fun p=>(⟨p.1,wds ms c.1,numS p.2.1,numS p.2.2,p.2.1.toNat,p.2.2.toNat⟩:Cs)).map Cs.ln)),s5,s6,.val (gD c.1),.val (rowD c.2),.val (.lst ((wds ms c.1).map .str)),s10,s11,s12]) (fun ρ hN=>?_) (fun pre d post ρ X' e hN hX'=>?_) _ ⟨[],_,s5,s6,s10,s11,s12,rfl,rfl,by simp⟩
     ·obtain ⟨z0,z1,s5,s6,s10,s11,s12,e7,e8,rfl⟩:=hN
      have:=congrArg List.length e8
      rw [e7] at this
      simp only [List.length_map,List.length_append] at this
      have:z1=[]:=List.length_eq_zero_iff.mp (by omega)
      subst this
      rw [List.append_nil] at e7
      refine hX _ ⟨c0++[c],c1,s5,s6,.val (gD c.1),.val (rowD c.2),.val (.lst ((wds ms c.1).map .str)),s10,s11,s12,by rw [e3]; simp,by rw [List.map_append]; rfl,?_⟩
      rw [List.flatMap_append,List.flatMap_cons,List.flatMap_nil,List.append_nil,ecs _ e7,List.map_append,← List.append_assoc]
     ·obtain ⟨z0,z1,s5,s6,s10,s11,s12,e7,rfl,rfl⟩:=hN
      rw [e7,List.map_append] at e
      have e:=List.append_cancel_left e
      cases z1 with
      | nil=>simp at e
      | cons p z1 =>
       rw [List.map_cons] at e
       injection e with e8 e9
       subst e8
       have hp:p∈hs.zip c.2:=by rw [e7]; simp
       obtain ⟨hp1,hp2⟩:=List.of_mem_zip hp
       have cn:=hr.2 p.2 hp2
       refine ⟨rfl,fun e10=>?_,fun e10=>?_⟩
       ·have e10:=of_decide_eq_true e10
        have wl:=mj ms c.1
        have hmem:(⟨p.1,wds ms c.1,numS p.2.1,numS p.2.2,p.2.1.toNat,p.2.2.toNat⟩:Cs).ln∈aG hs ms cells:=by
         unfold aG
         refine List.mem_append_right _ (List.mem_map.mpr ⟨_,List.mem_flatMap.mpr ⟨c,hc,List.mem_map.mpr ⟨p,List.mem_filter.mpr ⟨hp,by simpa using e10⟩,rfl⟩⟩,rfl⟩)
        refine ⟨qU cn.bt (by decide),qU cn.bw (by decide),sz,trivial,spS,rfl,sz,szc (by simp; omega),szc (by simp; omega),(⟨p.1,wds ms c.1,numS p.2.1,numS p.2.2,p.2.1.toNat,p.2.2.toNat⟩:Cs).ln,⟨?_,jok _ hmem⟩,?_,hX' _ ⟨z0++[p],z1,s5,s6,.val (.str p.1),.val (bx p.2),.val (.lst [.str (numS p.2.1),.str (numS p.2.2)]),by rw [e7]; simp,by rw [List.map_append]; rfl,?_⟩⟩
        ·unfold Cs.ln
         rw [List.map_append]
         rfl
        ·rw [List.length_map,List.length_map]
         exact Nat.lt_of_le_of_lt (Nat.le_trans (ell z0 _ e7) (by decide)) (show 100 < sizeLine by decide)
        ·rw [List.filter_append,List.filter_cons_of_pos (by simpa using e10),List.filter_nil,List.map_append,List.map_append,List.map_singleton,List.map_singleton,← List.append_assoc,vh]
         rfl
       ·have e10:=of_decide_eq_false e10
        refine hX' _ ⟨z0++[p],z1,s5,s6,.val (.str p.1),.val (bx p.2),s12,by rw [e7]; simp,by rw [List.map_append]; rfl,?_⟩
        rw [List.filter_append,List.filter_cons_of_neg (by simpa using e10),List.filter_nil,List.append_nil]
        rfl
  ·rintro _ ⟨s5,s6,s7,s8,s9,s10,s11,s12,rfl⟩
   refine ⟨nlS,rfl,_,⟨rfl,ki (B:=492) (fun y hy=>?_) ?_⟩,h⟩
   ·obtain ⟨l,hl,rfl⟩:=List.mem_map.mp hy
    exact mt (B:=40) (lb l hl).2 (lb l hl).1
   ·rw [List.length_map,enl]
    omega
def gKr:DSp:=fun ds Q=>∃ (n:Int) (ks:List Int) (cells:List (List Int×Row)),ds=[.tup [.int n,.tup (ks.map .int),.tup (cells.map bd)]] /\ (ks.length <= 5 /\ cells.length <= 7 /\ ∀ c∈cells,c.1.length <= 5 /\ c.2.length <= 6) /\ Q (.bl true)
theorem gG:bR gKr:=fun ds P P' f ⟨n,ks,cs,c,d,h⟩=>⟨n,ks,cs,c,d,f _ h⟩
theorem gH (T:Tx K mg):FnOk P w K mg base CX0 1 T.bP T.bH ["_law_book"] (spD K 1 gKr):=by
 refine fnD (k:=0) T.aR.F sc__law_kinds_right (fun cdv A outer s H E hr=>(af (jF (ab 0 (pv 0)) (bX (n:=3) rfl (ar (aj (i:=1) sc__law_kinds_right.nd rfl oo) (ar (aj (i:=2) sc__law_kinds_right.nd rfl oo) (ar (aj (i:=3) sc__law_kinds_right.nd rfl oo) bi)))))
   (af (aO (i:=4) sc__law_kinds_right.nd rfl oo (aq (ei (aq (bh (aa (ab 1 (pv 1)) ac))) (aq (fJ rfl T.eR rfl (ab 2 (pv 2)))))))
   (af (cE (PWD.pt (dI (aV (aU (al aT rfl T.au rfl (aa (ab 0 (pv 0)) (aa (dY (n:="tuple") rfl T.aW rfl) ac))))) (dI (aV (aU (al aT rfl T.au rfl (aa (ab 2 (pv 2)) (aa (dY (n:="tuple") rfl T.aW rfl) ac))))) (cz (aV (aU (al aT rfl T.au rfl (aa (ab 3 (pv 3)) (aa (dY (n:="tuple") rfl T.aW rfl) ac))))))))) (ag (az gQ)) aL)
   (bF (cm PassesOwn.never rfl (nv (ab 3 (pv 3))) (aj (i:=5) sc__law_kinds_right.nd rfl oo) (af (cE (PWD.pt (dI (aV (aU (al aT rfl T.au rfl (aa (ab 5 (pv 5)) (aa (dY (n:="tuple") rfl T.aW rfl) ac))))) (cz (aV (aU (al aT rfl T.au rfl (aa (ay (ab 5 (pv 5)) ae (fun _ _=>rfl)) (aa (dY (n:="tuple") rfl T.aW rfl) ac)))))))) (ag (az gQ)) aL)
   (af (cE (aV (aU (al aT rfl T.au rfl (aa (ay (ab 5 (pv 5)) ae (fun _ _=>rfl)) (aa (dY (n:="tuple") rfl T.aW rfl) ac))))) (ag (az gQ)) aL)
   (af (aO (i:=4) sc__law_kinds_right.nd rfl oo (aq (ei (ab 4 (pv 4)) (aq (fJ rfl T.eR rfl (ay (ab 5 (pv 5)) ae (fun _ _=>rfl)))))))
   (ag (cm PassesOwn.never rfl (nv (ay (ab 5 (pv 5)) ae (fun _ _=>rfl))) (aj (i:=6) sc__law_kinds_right.nd rfl oo) (af (cE (aV (aU (al aT rfl T.au rfl (aa (ab 6 (pv 6)) (aa (dY (n:="tuple") rfl T.aW rfl) ac))))) (ag (az gQ)) aL)
   (ag (aO (i:=4) sc__law_kinds_right.nd rfl oo (aq (ei (ab 4 (pv 4)) (aq (fJ rfl T.eR rfl (ab 6 (pv 6)))))))))))))))
   (ag (az (dZ (jD hr) (aq (PCD.pld (aF (N':=["_law_one"]) rfl rfl dk rfl (.own .nil) dk (aS (ab 4 (pv 4))) (fun B=>(aj (i:=0) ndB rfl oo)) (fun B=>(tP (PWD.pt (dI (aV (aU (al tG rfl T.au rfl (aa (ab 0 (pv 0)) (aa (dY (n:="int") rfl T.wF rfl) ac))))) (cz (aU (al rJ rfl T.au rfl (aa (ab 0 (pv 0)) (aa (dY (n:="bool") rfl T.xJ rfl) ac))))))))) (fun B=>(ab 0 (pv 0)))))) (aq (bh ac)) (aH _))))))))) (fun ds Q hl h=>?_)
 obtain ⟨n,ks,cells,rfl,⟨k5,c7,co⟩,h⟩:=h
 have szc:∀ {n:Nat},n <= 1000->n <= sizeLine:=fun h=>Nat.le_trans h (by decide)
 refine ⟨rfl,sz,szc (by simp; omega),rfl,rfl,Br.f ⟨rfl,rfl,Br.f ⟨rfl,rfl,Br.f ?_⟩⟩⟩
 refine ⟨fun ρ=>∃ (ns:List Int) (s5 s6:Sl),ns.length <= 500 /\ ρ=[.val (.tup [.int n,.tup (ks.map .int),.tup (cells.map bd)]),.val (.int n),.val (.tup (ks.map .int)),.val (.tup (cells.map bd)),.val (.lst (ns.map .int)),s5,s6],?_,?_⟩
 ·refine bb (fun pre ρ=>∃ (ns:List Int) (s5 s6:Sl),ns.length <= 6 + 20 * pre.length /\ ρ=[.val (.tup [.int n,.tup (ks.map .int),.tup (cells.map bd)]),.val (.int n),.val (.tup (ks.map .int)),.val (.tup (cells.map bd)),.val (.lst (ns.map .int)),s5,s6]) (fun ρ hN=>?_) (fun pre d post ρ X e hN hX=>?_) _ ⟨n::ks,_,_,by simp; omega,rfl⟩
  ·obtain ⟨ns,s5,s6,nl,rfl⟩:=hN
   rw [List.length_map] at nl
   exact ⟨ns,s5,s6,by omega,rfl⟩
  ·obtain ⟨ns,s5,s6,nl,rfl⟩:=hN
   have hd:d∈cells.map bd:=by rw [e]; simp
   obtain ⟨c,hc,rfl⟩:=List.mem_map.mp hd
   have pl:pre.length <= 6:=by
    have:=congrArg List.length e
    rw [List.length_map,List.length_append,List.length_cons] at this
    omega
   obtain ⟨c5,r6⟩:=co c hc
   refine ⟨rfl,rfl,Br.f ⟨rfl,rfl,Br.f ⟨rfl,rfl,Br.f ?_⟩⟩⟩
   refine ⟨szc (by simp; omega),?_⟩
   refine bb (fun pre' ρ=>∃ (ms:List Int) (s6:Sl),ms.length <= ns.length + 5 + 2 * pre'.length /\ ρ=[.val (.tup [.int n,.tup (ks.map .int),.tup (cells.map bd)]),.val (.int n),.val (.tup (ks.map .int)),.val (.tup (cells.map bd)),.val (.lst (ms.map .int)),.val (bd c),s6]) (fun ρ hN=>?_) (fun pre' d post' ρ X' e' hN hX'=>?_) _ ⟨ns++c.1,_,by simp; omega,by rw [List.map_append]; rfl⟩
   ·obtain ⟨ms,s6,ml,rfl⟩:=hN
    rw [List.length_map] at ml
    exact hX _ ⟨ms,_,_,by simp; omega,rfl⟩
   ·obtain ⟨ms,s6,ml,rfl⟩:=hN
    have hd:d∈c.2.map bx:=by rw [e']; simp
    obtain ⟨x,hx,rfl⟩:=List.mem_map.mp hd
    have pl':pre'.length <= 5:=by
     have:=congrArg List.length e'
     rw [List.length_map,List.length_append,List.length_cons] at this
     omega
    refine ⟨rfl,rfl,Br.f ⟨szc (by simp; omega),hX' _ ⟨ms++[x.1,x.2],_,by simp; omega,by rw [List.map_append]; rfl⟩⟩⟩
 ·rintro _ ⟨ns,s5,s6,nl,rfl⟩
  refine bj (fun pre acc ρ=>acc=[] /\ ∃ s,ρ=[s]) (fun acc ρ hN=>?_) (fun pre d post acc ρ Y e hN hY=>?_) _ ⟨rfl,_,rfl⟩
  ·obtain ⟨rfl,_⟩:=hN
   exact ⟨sz,⟨rfl,rfl⟩,h⟩
  ·obtain ⟨rfl,s,rfl⟩:=hN
   have hd:d∈ns.map D.int:=by rw [e]; simp
   obtain ⟨x,hx,rfl⟩:=List.mem_map.mp hd
   exact ⟨rfl,rfl,Br.f ⟨rfl,rfl,Br.f (hY _ _ ⟨rfl,_,rfl⟩)⟩⟩
abbrev bkD (hs:List Str) (ms:List Mk) (cells:List (List Int×Row)):D:=.tup [.int hs.length,.tup (ms.map fun m=>.int m.2.length),.tup (cells.map bd)]
theorem xH {hs:List Str} {ms:List Mk} {cells:List (List Int×Row)} (o:BkT hs ms cells):Shp 4 (nmD hs ms):=.tup fun d hd=>by
 simp only [List.mem_cons,List.not_mem_nil,or_false] at hd
 rcases hd with rfl | rfl
 ·exact (km fun x hx=>(iI (o.hn x hx)).ok).mono (by decide)
 ·refine .lst fun d hd=>?_
  obtain ⟨m,hm,rfl⟩:=List.mem_map.mp hd
  refine .tup fun d hd=>?_
  obtain ⟨a1,a2,a3,a4,a5⟩:=o.mn m hm
  simp only [List.mem_cons,List.not_mem_nil,or_false] at hd
  rcases hd with rfl | rfl
  ·exact (Bk (iI a1).ok).mono (by decide)
  ·exact km fun x hx=>(iI (a4 x hx)).ok
theorem zi (r:Row):Shp 2 (rowD r):=.tup fun d hd=>by
 obtain ⟨c,_,rfl⟩:=List.mem_map.mp hd
 exact .pair
theorem Bn (hs:List Str) (ms:List Mk) (cells:List (List Int×Row)):Shp 5 (bkD hs ms cells):=.tup fun d hd=>by
 simp only [List.mem_cons,List.not_mem_nil,or_false] at hd
 rcases hd with rfl | rfl | rfl
 ·exact .int
 ·refine .tup fun d hd=>?_
  obtain ⟨k,_,rfl⟩:=List.mem_map.mp hd
  exact .int
 ·refine .tup fun d hd=>?_
  obtain ⟨c,_,rfl⟩:=List.mem_map.mp hd
  refine .tup fun d hd=>?_
  simp only [List.mem_cons,List.not_mem_nil,or_false] at hd
  rcases hd with rfl | rfl
  ·refine .tup fun d hd=>?_
   obtain ⟨k,_,rfl⟩:=List.mem_map.mp hd
   exact .int
  ·exact zi _
theorem mx {hs:List Str} {ms:List Mk} {cells:List (List Int×Row)} (o:BkT hs ms cells):shp (.tup [nmD hs ms,bkD hs ms cells])=true:=Shp.shp (n:=6) (.tup fun d hd=>by
 simp only [List.mem_cons,List.not_mem_nil,or_false] at hd
 rcases hd with rfl | rfl
 ·exact (xH o).mono (by decide)
 ·exact Bn _ _ _)
def xI:DSp:=fun ds Q=>∃ hs ms cells,ds=[nmD hs ms,bkD hs ms cells,.str (ca hs ms cells)] /\ BkT hs ms cells /\ shp (.str (ca hs ms cells))=true /\ Q (.bl true)
theorem iJ:bR xI:=fun ds P P' f ⟨hs,ms,cs,c,d,e,h⟩=>⟨hs,ms,cs,c,d,e,f _ h⟩
theorem iK (T:Tx K mg):FnOk P w K mg base CX0 6 T.eN T.dS ["_law_names","_law_book","_law_text_here"] (spD K 3 xI):=by
 refine fnD (k:=5) T.aY.F sc__law_right (fun cdv A outer s H E hr=>(uJ (jt:=2) (i:=3) (jh:=4) (jm:=5) (jk:=6) (uZ T) uY (rm hr) rfl T.eM.m T.eM.F.kp T.eM.b (pv 2) sc__law_right.nd rfl oo
   (PWD.pt (dI (aV (aU (al aT rfl T.au rfl (aa (ab 3 (pv 3)) (aa (dY (n:="tuple") rfl T.aW rfl) ac))))) (cz (bf (lM hr) (ab 3 (pv 3)) (aX (aa (ab 0 (pv 0)) (aa (ab 1 (pv 1)) ac))) (aH _))))) (ag (az gQ))
   (aV (aU (ao (gH T) gG (rm hr) rfl T.aR.m T.aR.F.kp T.aR.b (aa (ay (ab 3 (pv 3)) ae (fun _ _=>rfl)) ac)))) (ag (az gQ))
   (kF (mK lF (pv 3) ba (fun _ _=>rfl)) (sY rfl (ff (fB (i:=4) sc__law_right.nd rfl oo) (ff (fB (i:=5) sc__law_right.nd rfl oo) oK))))
   (PWD.pt (dI (aV (aU (al gT rfl T.au rfl (aa (ab 4 (pv 4)) (aa (dY (n:="list") rfl T.eR rfl) ac))))) (dI (aV (aU (al gT rfl T.au rfl (aa (ab 5 (pv 5)) (aa (dY (n:="list") rfl T.eR rfl) ac))))) (cz (aV (aU (al aT rfl T.au rfl (aa (ay (ab 3 (pv 3)) ae (fun _ _=>rfl)) (aa (dY (n:="tuple") rfl T.aW rfl) ac))))))))) (ag (az gQ))
   (bf (lM hr) (ao (xu T) xt (rm hr) rfl T.iL.m T.iL.F.kp T.iL.b (aa (ay (ab 3 (pv 3)) ae (fun _ _=>rfl)) (aa (ay (ab 3 (pv 3)) ae (fun _ _=>rfl)) ac))) (ab 2 (pv 2)) (aH _)) (ag (az gQ))
   PassesOwn.never rfl (pv 5) (fB (i:=6) sc__law_right.nd rfl oo) (PWD.pt (dI (aV (aU (al aT rfl T.au rfl (aa (ab 6 (pv 6)) (aa (dY (n:="tuple") rfl T.aW rfl) ac))))) (cz (aV (aU (al gT rfl T.au rfl (aa (ay (ab 6 (pv 6)) ae (fun _ _=>rfl)) (aa (dY (n:="list") rfl T.eR rfl) ac)))))))) (ag (az gQ)) (gL (sR PySem.F.plainAttrs_list PySem.F.slot_list_clear PySem.F.type_list_clear lx (mK lF (pv 6) ba (fun _ _=>rfl))))
   (gL (oR PySem.F.plainAttrs_list PySem.F.slot_list_append PySem.F.type_list_append gi (pv 4) (aP wG bL))) (gL (sR PySem.F.plainAttrs_list PySem.F.slot_list_clear PySem.F.type_list_clear lx (pv 5)))
   (ag (az (dZ (jD hr) (ao (uZ T) uY (rm hr) rfl T.eM.m T.eM.F.kp T.eM.b (aa (ab 2 (pv 2)) ac)) (aX (aa (ab 0 (pv 0)) (aa (ab 1 (pv 1)) ac))) (aH _)))))) (fun ds Q hl h=>?_)
 obtain ⟨hs,ms,cells,rfl,o,st,h⟩:=h
 have h6:=o.h6
 have s2:=mx o
 have e2:eqD (.tup [nmD hs ms,bkD hs ms cells]) (.tup [nmD hs ms,bkD hs ms cells])=true:=gx s2
 have e3:eqD (.str (ca hs ms cells)) (.str (ca hs ms cells))=true:=gx st
 refine ⟨ca hs ms cells,hs,ms,bkD hs ms cells,⟨rfl,rfl,rfl,by omega⟩,⟨⟨show 3 < 7 by decide,show 4 < 7 by decide,show 5 < 7 by decide,show 6 < 7 by decide⟩,by decide,by decide,by decide,by decide,by decide⟩,⟨_,hs,ms,_,rfl,pS o,kj o⟩,?_,?_,?_,?_,?_,?_⟩
 ·refine ⟨rfl,rfl,Br.f ⟨sz,⟨s2,s2⟩,?_,rfl⟩⟩
  show (!eqD _ _)=false
  rw [e2]
  rfl
 ·exact ⟨rfl,hs.length,mkN ms,cells,by unfold mkN; rw [List.map_map]; rfl,⟨by rw [List.length_map]; exact o.m5,o.c7,fun c hc=>⟨by rw [(o.kl c hc).1]; exact o.m5,by rw [(o.kl c hc).2.1.1]; exact h6⟩⟩,rfl,rfl⟩
 ·exact ⟨rfl,rfl,Br.f ⟨rfl,rfl,Br.f ⟨rfl,rfl,rfl,rfl⟩⟩⟩
 ·refine ⟨rfl,hs,ms,cells,_,_,rfl,o.sh,⟨st,st⟩,?_,rfl⟩
  show (!eqD _ _)=false
  rw [e3]
  rfl
 ·exact fun m ds=>⟨rfl,rfl,Br.f ⟨rfl,rfl,rfl,rfl⟩⟩
 ·refine ⟨rfl,_,hs,ms,_,rfl,pS o,?_⟩
  rw [kj o]
  refine ⟨sz,⟨s2,s2⟩,?_⟩
  show Q (.bl (eqD _ _))
  rw [e2]
  exact h
theorem vj {c:Nat} {ls:List Str} (hc:c < 1114112) (h:∀ x∈ls,PyData.strOk x=true):PyData.strOk (Txt.join ⟨#[c]⟩ ls)=true:=by
 refine Array.all_eq_true_iff_forall_mem.mpr fun d hd=>?_
 rcases qW (Array.mem_toList_iff.mpr hd) with rfl | ⟨x,hx,hd⟩
 ·exact decide_eq_true hc
 ·exact decide_eq_true (xo (h x hx) hd)
theorem Ct {x:Str} (h:Wd x):PyData.strOk x=true:=Array.all_eq_true_iff_forall_mem.mpr fun d hd=>by
 have:=h d (Array.mem_toList_iff.mpr hd)
 exact decide_eq_true (by omega)
theorem wC {hs:List Str} {ms:List Mk} {cells:List (List Int×Row)} (o:BkT hs ms cells):shp (.str (ca hs ms cells))=true:=by
 refine cK ?_
 unfold ca
 rw [Bh,Bi]
 refine vj (by decide) fun l hl=>?_
 obtain ⟨ws,hws,rfl⟩:=List.mem_map.mp hl
 exact vj (by decide) fun x hx=>Ct ((qY o ws hws).2 x hx)
theorem vm {ms:List Mk} (hm:ms.length <= 5) {a b:Sl} {Q:List D->Prop} (q:Q (ms.map fun m=>.int m.2.length)):cH (tD 2 (gu (cF 0) (gu (cF 1) tu))) bU (dCB gLen (qm (dVar 1) yo)) (ms.map mkD) [] [a,b] Q:=by
 refine aQ (fun d=>match d with | .tup [_,.lst ws]=>.int ws.length | _=>.non) (fun ρ=>∃ a b,ρ=[a,b]) (by rw [List.length_map]; exact Nat.le_trans hm (by decide)) (fun d hd ρ Y Z hN hY=>?_) _ ⟨_,_,rfl⟩ ?_
 ·obtain ⟨a,b,rfl⟩:=hN
  obtain ⟨m,_,rfl⟩:=List.mem_map.mp hd
  exact ⟨rfl,Br.t (hY _ ⟨_,_,rfl⟩)⟩
 ·rw [List.map_map]
  have:((fun d:D=>match d with | .tup [_,.lst ws]=>D.int ws.length | _=>.non) ∘ mkD)=fun m=>D.int m.2.length:=by
   funext m
   show D.int ((m.2.map D.str).length:Nat)=_
   rw [List.length_map]
  rw [this]
  exact q
theorem vn {ms:List Mk} (hm:ms.length <= 5) {a b:Sl} {Q:List D->Prop} (q:Q (ms.map mkD)):cH (tD 2 (gu (cF 0) (gu (cF 1) tu))) bU (dTup (qm (dVar 0) (qm (dFrz (tI (dVar 1))) yo))) (ms.map mkD) [] [a,b] Q:=by
 refine aQ (fun d=>d) (fun ρ=>∃ a b,ρ=[a,b]) (by rw [List.length_map]; exact Nat.le_trans hm (by decide)) (fun d hd ρ Y Z hN hY=>?_) _ ⟨_,_,rfl⟩ ?_
 ·obtain ⟨a,b,rfl⟩:=hN
  obtain ⟨m,_,rfl⟩:=List.mem_map.mp hd
  exact ⟨rfl,Br.t ⟨sz,hY _ ⟨_,_,rfl⟩⟩⟩
 ·rw [List.map_id']
  exact q
theorem vo:BkT [Str.ofString "a",Str.ofString "b"] [] [] where
 h2:=by decide
 h6:=by decide
 hn:=by decide +kernel
 hd:=by decide +kernel
 m5:=by decide
 mn:=fun m hm=>by simp at hm
 md:=by simp
 c7:=by decide
 kl:=fun c hc=>by simp at hc
 kk:=fun c hc=>by simp at hc
 up:=fun i j x y _ h=>by simp at h
theorem Cu (T:Tx K mg):FnOk P w K mg base CX0 12 T.zj T.vq ["_law_script"] (DL.spLaw K):=by
 refine lawD (k:=11) T.Bp.F sc_law rfl (by decide) (fun cdv A outer s H E hr=>dX (i:=1) sc_law.nd rfl oo (oM (pL T) (rm hr) rfl T.dA.m T.dA.F.kp T.dA.b .nil yf (aP (pv 0) bL))) (fun cdv A outer s H E hr=>(bF (cm PassesOwn.never rfl (dn rfl T.eZ (aa ae ac)) (aj (i:=2) sc_law.nd rfl oo) (af (aO (i:=3) sc_law.nd rfl oo (ao (oE T) oD (rm hr) rfl T.ce.m T.ce.F.kp T.ce.b (aa (ab 1 (pv 1)) ac)))
   (af (aO (i:=4) sc_law.nd rfl oo (ao (oH T) oG (rm hr) rfl T.cf.m T.cf.F.kp T.cf.b (aa (ab 1 (pv 1)) (aa (ab 3 (pv 3)) ac))))
   (af (aO (i:=5) sc_law.nd rfl oo (aX (aa (al cG rfl T.cM PySem.boot_len (aa (ay (ab 3 (pv 3)) ae (fun _ _=>rfl)) ac)) (aa (aK cu rfl T.aW rfl (aa (aq (PCD.pld (aF (N':=["_law_word","_law_some"]) rfl rfl dk rfl (.own (.own .nil)) dk (aS (ay (ab 3 (pv 3)) ae (fun _ _=>rfl))) (fun B=>(bX (n:=2) rfl (ar (aj (i:=0) ndB rfl oo) (ar (aj (i:=1) ndB rfl oo) bi)))) (fun B=>aM) (fun B=>(al cG rfl T.cM PySem.boot_len (aa (ab 1 (pv 1)) ac)))))) ac)) (aa (ab 4 (pv 4)) ac)))))
   (af (aO (i:=6) sc_law.nd rfl oo (ao (pW T) pV (rm hr) rfl T.cP.m T.cP.F.kp T.cP.b (aa (ab 3 (pv 3)) (aa (ab 4 (pv 4)) ac))))
   (af (wk (i:=7) sc_law.nd rfl oo (fJ rfl T.eR rfl (ay (ab 3 (pv 3)) ae (fun _ _=>rfl))) (aq (PCD.pld (aF (N':=["_law_word","_law_some"]) rfl rfl dk rfl (.own (.own .nil)) dk (aS (ay (ab 3 (pv 3)) ae (fun _ _=>rfl))) (fun B=>(bX (n:=2) rfl (ar (aj (i:=0) ndB rfl oo) (ar (aj (i:=1) ndB rfl oo) bi)))) (fun B=>aM) (fun B=>(aX (aa (ab 0 (pv 0)) (aa (aq (fJ rfl T.eR rfl (ab 1 (pv 1)))) ac))))))))
   (af (yA (aO (i:=8) sc_law.nd rfl oo (ao (xu T) xt (rm hr) rfl T.iL.m T.iL.F.kp T.iL.b (aa (ab 7 (pv 7)) (aa (ab 5 (pv 5)) ac)))))
   (af (cE (PWD.pt (dI (aV (aU (al nE rfl T.au rfl (aa (ab 8 (pv 8)) (aa (dY (n:="str") rfl T.pY rfl) ac))))) (dI (bf (lM hr) (ab 8 (pv 8)) (ab 6 (pv 6)) (aH _)) (cz (yz (bf (lM hr) (ab 7 (pv 7)) (ab 3 (pv 3)) (aH _))))))) (ag (az gQ)) aL)
   (af (tY (n:=0) rfl (pv 7))
   (ag (cE (PWD.pt (dI (aV (aU (ao (iK T) iJ (rm hr) rfl T.aY.m T.aY.F.kp T.aY.b (aa (ab 3 (pv 3)) (aa (ab 5 (pv 5)) (aa (ab 6 (pv 6)) ac)))))) (cz (aV (aU (ao (iK T) iJ (rm hr) rfl T.aY.m T.aY.F.kp T.aY.b (aa (ab 3 (pv 3)) (aa (ab 5 (pv 5)) (aa (ab 6 (pv 6)) ac))))))))) (ag (az gQ)) aL)))))))))))
   (ag (az (dZ (jD hr) (ao (uZ T) uY (rm hr) rfl T.eM.m T.eM.F.kp T.eM.b (aa aJ ac)) (aX (aa (aX (aa (aq (bh (aa aJ (aa aJ ac)))) (aa (aq (bh ac)) ac))) (aa (aX (aa ae (aa (aX ac) (aa (aX ac) ac)))) ac))) (aH _)))))) ?_
 refine ⟨fun ρ=>∃ s2 s3 s4 s5 s6 s7 s8:Sl,ρ=[.nil,.val .pen,s2,s3,s4,s5,s6,s7,s8],⟨⟨by decide,by decide⟩,?_⟩,?_⟩
 ·refine gy (fun k ρ=>∃ s2 s3 s4 s5 s6 s7 s8:Sl,valB s8=true /\ ρ=[.nil,.val .pen,s2,s3,s4,s5,s6,s7,s8]) _ _ ?_ ?_ _ ⟨_,_,_,_,_,_,_,rfl,rfl⟩
  ·rintro ρ ⟨s2,s3,s4,s5,s6,s7,s8,_,rfl⟩
   exact ⟨s2,s3,s4,s5,s6,s7,s8,rfl⟩
  rintro k ρ X k0 k1 ⟨s2,s3,s4,s5,s6,s7,s8,v8,rfl⟩ hX
  refine ⟨rfl,rfl,fun hs ms no=>⟨rfl,hs,ms,rfl,no,fun cells o=>?_⟩⟩
  have m5:=no.m5
  have h6:=no.h6
  have st:=wC o
  have fzh:fzO (.tup [.lst ((hs.map D.str).map .val),.val (.lst (ms.map mkD))])=nmD hs ms:=by simp only [fzO,fzOs,xj]
  have hl:(((hs.map D.str).length:Nat):Int)=(hs.length:Int):=by rw [List.length_map]
  refine vm m5 ?_
  rw [hl]
  refine ⟨sz,rfl,hs,ms,cells,rfl,o.sh,?_⟩
  have v8':valB s8=true:=v8
  refine ⟨?_,vn m5 ?_⟩
  ·show (true && (true && (true && (true && (true && (true && (true && (true && (valB s8 && true)))))))))=true
   rw [v8]
   rfl
  refine fun vs=>⟨rfl,hs,ms,cells,_,_,congrArg (fun z=>[z,bkD hs ms cells]) fzh,o.sh,_,.keep (.keep (.keep (.keep (.keep (.keep (.keep (.keep (.flat (by simp only [flD]) .nil)))))))),?_⟩
  refine ⟨rfl,rfl,Br.f ⟨⟨st,st⟩,?_⟩⟩
  have e1:eqD (.str (ca hs ms cells)) (.str (ca hs ms cells))=true:=gx st
  have sn:shp (nmD hs ms)=true:=(xH o).shp
  have e2:eqD (nmD hs ms) (nmD hs ms)=true:=gx sn
  show Br (!eqD (.str (ca hs ms cells)) (.str (ca hs ms cells))) _ _
  rw [e1]
  refine Br.f fun vs'=>⟨⟨?_,sn⟩,rfl,?_⟩
  ·show shp (fzO (.tup [.lst ((hs.map D.str).map .val),.val (.lst (ms.map mkD))]))=true
   rw [fzh]
   exact sn
  show Br (!eqD (fzO (.tup [.lst ((hs.map D.str).map .val),.val (.lst (ms.map mkD))])) (nmD hs ms)) _ _
  rw [fzh,e2]
  refine Br.f ⟨_,rfl,⟨rfl,hs,ms,cells,rfl,o,st,Br.f ⟨rfl,hs,ms,cells,rfl,o,st,Br.f (hX _ ⟨_,_,_,_,_,_,_,rfl,rfl⟩)⟩⟩⟩
 ·rintro _ ⟨s2,s3,s4,s5,s6,s7,s8,rfl⟩
  refine ⟨rfl,_,_,_,_,rfl,pS vo,?_⟩
  rw [kj vo]
  exact ⟨sz,sz,sz,sz,sz,sz,sz,⟨mx vo,mx vo⟩,congrArg D.bl (gx (mx vo))⟩
end
set_option maxHeartbeats 0 in
theorem all_mk {l:PySem.W.OpenLaw} {w:World} {K:PySem.W.Frag} {h:Heap} {mg:Str->Option Value} {fa f0 f1 f2 f3 f4 f5 f6 f7 f8 f9 f10 f11 f12 f13 f14 f15 f16 f17 f18 f19 f20 f21 f22 f23 f24 f25:Addr} (X:K.In h) (G:h.Ns mainGlobals mg) (hfa:mg "law" = some (.ref fa))
  {e0 e1 e2 e3 e4 e5 e6 e7 e8 e9 e10 e11 e12 e13 e14 e15 e16 e17 e18 e19 e20 e21 e22 e23 e24 e25:FuncData}
  (a0:FA K "together" ii f0 e0)
  (a1:FA K "together_by_house" bG f1 e1)
  (a2:FA K "gathered" ij f2 e2)
  (a3:FA K "is_tried" ik f3 e3)
  (a4:FA K "counts_of_row" cI f4 e4)
  (a5:FA K "show" uK f5 e5)
  (a6:FA K "read" uL f6 e6)
  (a7:FA K "is_houses_line" ci f7 e7)
  (a8:FA K "marks_of" io f8 e8)
  (a9:FA K "is_mark_line" db f9 e9)
  (a10:FA K "rows_of" jT f10 e10)
  (a11:FA K "is_behind" fP f11 e11)
  (a12:FA K "row_of" ma f12 e12)
  (a13:FA K "are_names" fQ f13 e13)
  (a14:FA K "is_name" jU f14 e14)
  (a15:FA K "is_number" fR f15 e15)
  (a16:FA K "_law_pen" ip f16 e16)
  (a17:FA K "_law_next" fS f17 e17)
  (a18:FA K "_law_count" eu f18 e18)
  (a19:FA K "_law_words" eA f19 e19)
  (a20:FA K "_law_named" eB f20 e20)
  (a21:FA K "_law_cells" eC f21 e21)
  (a22:FA K "_law_text" fT f22 e22)
  (a23:FA K "_law_kinds_right" bN f23 e23)
  (a24:FA K "_law_right" eD f24 e24)
  (a25:FA K "law" yS f25 e25)
  (z0:PySem.W.nsIn K mainGlobals "ValueError" = some none) (z1:PySem.W.nsIn K mainGlobals "sum" = some none) (z2:PySem.W.nsIn K mainGlobals "tuple" = some none) (z3:PySem.W.nsIn K mainGlobals "any" = some none) (z4:PySem.W.nsIn K mainGlobals "len" = some none) (z5:PySem.W.nsIn K mainGlobals "range" = some none) (z6:PySem.W.nsIn K mainGlobals "zip" = some none) (z7:PySem.W.nsIn K mainGlobals "int" = some none) (z8:PySem.W.nsIn K mainGlobals "enumerate" = some none) (z9:PySem.W.nsIn K mainGlobals "isinstance" = some none) (z10:PySem.W.nsIn K mainGlobals "str" = some none) (z11:PySem.W.nsIn K mainGlobals "all" = some none) (z12:PySem.W.nsIn K mainGlobals "list" = some none) (z13:PySem.W.nsIn K mainGlobals "sorted" = some none) (z14:PySem.W.nsIn K mainGlobals "set" = some none) (z15:PySem.W.nsIn K mainGlobals "bool" = some none)
  {br bD bO bQ bo bn:Tok}
  (dc:PySem.W.nsIn K mainGlobals "LEAST_HOUSES" = some (some (.int 2 br)))
  (dU:PySem.W.nsIn K mainGlobals "MOST_HOUSES" = some (some (.int 6 bD)))
  (eW:PySem.W.nsIn K mainGlobals "MOST_MARKS" = some (some (.int 5 bO)))
  (eJ:PySem.W.nsIn K mainGlobals "MOST_KINDS" = some (some (.int 6 bQ)))
  (dg:PySem.W.nsIn K mainGlobals "LONGEST_NAME" = some (some (.int 8 bo)))
  (dh:PySem.W.nsIn K mainGlobals "MOST_FIGURES" = some (some (.int 30 bn)))
  :
  ∃ fd:FuncData,(∀ (s:Shared) (v:Value),BindsTo s fd ⟨[v],[]⟩ [("_law_script",v)]) /\ ∀ base:Heap,K.In base->base.Ns mainGlobals mg->FnOk l.prog w K mg base CX0 12 fa fd ["_law_script"] (DL.spLaw K):=by
 have e:=hfa.symm.trans (PySem.W.mg_of X G a25.a)
 cases e
 let T:Tx K mg:={ iu:=f0,gg:=e0,dE:=a0.d1 X G fun _ _ _ _ _ _ _=>rfl,bI:=f1,bC:=e1,aN:=a1.d2 X G fun _ _ _ _ _ _ _ _=>rfl,fm:=f2,dM:=e2,dw:=a2.d2 X G fun _ _ _ _ _ _ _ _=>rfl,ix:=f3,ge:=e3,dF:=a3.d1 X G fun _ _ _ _ _ _ _=>rfl,cN:=f4,ck:=e4,bu:=a4.d2 X G fun _ _ _ _ _ _ _ _=>rfl,vp:=f5,pZ:=e5,iL:=a5.d2 X G fun _ _ _ _ _ _ _ _=>rfl,vt:=f6,pX:=e6,eM:=a6.d1 X G fun _ _ _ _ _ _ _=>rfl,cj:=f7,bV:=e7,bc:=a7.d1 X G fun _ _ _ _ _ _ _=>rfl,iz:=f8,gc:=e8,dD:=a8.d1 X G fun _ _ _ _ _ _ _=>rfl,de:=f9,cL:=e9,bE:=a9.d2 X G fun _ _ _ _ _ _ _ _=>rfl,kt:=f10,iw:=e10,fe:=a10.d2 X G fun _ _ _ _ _ _ _ _=>rfl,fZ:=f11,eO:=e11,cO:=a11.d2 X G fun _ _ _ _ _ _ _ _=>rfl,my:=f12,kq:=e12,gK:=a12.d2 X G fun _ _ _ _ _ _ _ _=>rfl,gb:=f13,eU:=e13,bp:=a13.d1 X G fun _ _ _ _ _ _ _=>rfl,kr:=f14,iy:=e14,cc:=a14.d1 X G fun _ _ _ _ _ _ _=>rfl,ga:=f15,eY:=e15,bq:=a15.d1 X G fun _ _ _ _ _ _ _=>rfl,iA:=f16,fX:=e16,dA:=a16.d1 X G fun _ _ _ _ _ _ _=>rfl,dR:=f17,cV:=e17,ad:=a17.d2 X G fun _ _ _ _ _ _ _ _=>rfl,eK:=f18,dO:=e18,cg:=a18.d1 X G fun _ _ _ _ _ _ _=>rfl,eS:=f19,dN:=e19,aE:=a19.d2 X G fun _ _ _ _ _ _ _ _=>rfl,eL:=f20,dP:=e20,ce:=a20.d1 X G fun _ _ _ _ _ _ _=>rfl,eP:=f21,dQ:=e21,cf:=a21.d2 X G fun _ _ _ _ _ _ _ _=>rfl,fY:=f22,eX:=e22,cP:=a22.d2 X G fun _ _ _ _ _ _ _ _=>rfl,bP:=f23,bH:=e23,aR:=a23.d1 X G fun _ _ _ _ _ _ _=>rfl,eN:=f24,dS:=e24,aY:=a24.d3 X G fun _ _ _ _ _ _ _ _ _=>rfl,zj:=fa,vq:=e25,Bp:=a25.d1 X G fun _ _ _ _ _ _ _=>rfl,oI:=PySem.W.mg_none_of X G z0,wD:=PySem.W.mg_none_of X G z1,aW:=PySem.W.mg_none_of X G z2,Bo:=PySem.W.mg_none_of X G z3,cM:=PySem.W.mg_none_of X G z4,eZ:=PySem.W.mg_none_of X G z5,zk:=PySem.W.mg_none_of X G z6,wF:=PySem.W.mg_none_of X G z7,gf:=PySem.W.mg_none_of X G z8,au:=PySem.W.mg_none_of X G z9,pY:=PySem.W.mg_none_of X G z10,wE:=PySem.W.mg_none_of X G z11,eR:=PySem.W.mg_none_of X G z12,mz:=PySem.W.mg_none_of X G z13,Bq:=PySem.W.mg_none_of X G z14,xJ:=PySem.W.mg_none_of X G z15,br:=br,fc:=PySem.W.mg_of X G dc,bD:=bD,fA:=PySem.W.mg_of X G dU,bO:=bO,gJ:=PySem.W.mg_of X G eW,bQ:=bQ,gI:=PySem.W.mg_of X G eJ,bo:=bo,eV:=PySem.W.mg_of X G dg,bn:=bn,eQ:=PySem.W.mg_of X G dh }
 exact ⟨e25,fun s v=>by obtain ⟨_,_,_,_,_,_,_,_,_,q,_⟩:=a25.F.ex; subst q; exact .of_eq rfl,fun base _ _=>Cu T⟩
end My
theorem PySem.W.Fast.tw73994419218945749 : True := trivial
theorem PySem.W.Fast.tw14315187510541151280 : True := trivial
theorem PySem.W.Fast.tw12076598835049196679 : True := trivial
theorem PySem.W.Fast.tw85688953713455969 : True := trivial
theorem PySem.W.Fast.tw5649351828400155876 : True := trivial
theorem PySem.W.Fast.tw4411539780125844026 : True := trivial
theorem PySem.W.Fast.tw5888483549242631896 : True := trivial
theorem PySem.W.Fast.tw5429776325332735112 : True := trivial
theorem PySem.W.Fast.tw11034264302457116737 : True := trivial
theorem PySem.W.Fast.tw7669942583565042336 : True := trivial
theorem PySem.W.Fast.tw9796028145218742533 : True := trivial
theorem PySem.W.Fast.tw1670564089244274135 : True := trivial
theorem PySem.W.Fast.tw10472242008702019337 : True := trivial
theorem PySem.W.Fast.tw6614659684985950408 : True := trivial
theorem PySem.W.Fast.tw7474276578030636600 : True := trivial
theorem PySem.W.Fast.tw15744588010187070488 : True := trivial
theorem PySem.W.Fast.tw11757474313041366408 : True := trivial
theorem PySem.W.Fast.tw5613045037629760115 : True := trivial
theorem PySem.W.Fast.tw5744703907818807771 : True := trivial
theorem PySem.W.Fast.tw14463407750223767614 : True := trivial
theorem PySem.W.Fast.tw1653493910026363059 : True := trivial
theorem PySem.W.Fast.tw16511024767664956774 : True := trivial
theorem PySem.W.Fast.tw5236299479245500859 : True := trivial
theorem PySem.W.Fast.tw8223095869336207589 : True := trivial
theorem PySem.W.Fast.tw12351879008156070483 : True := trivial
theorem PySem.W.Fast.tw7401587073500218874 : True := trivial
theorem PySem.W.Fast.tw4527997388292234587 : True := trivial
theorem PySem.W.Fast.tw6097749105457675132 : True := trivial
theorem PySem.W.Fast.tw7490485676491850846 : True := trivial
theorem PySem.W.Fast.tw8196244478427118607 : True := trivial
theorem PySem.W.Fast.tw16844950873436949466 : True := trivial
theorem PySem.W.Fast.tw12619787090562977396 : True := trivial
theorem PySem.W.Fast.tw2915178009585036681 : True := trivial
theorem PySem.W.Fast.tw12091726968520961062 : True := trivial
theorem PySem.W.Fast.tw7760639159143049376 : True := trivial
theorem PySem.W.Fast.tw14496982190562304416 : True := trivial
theorem PySem.W.Fast.tw13531021460747447585 : True := trivial
theorem PySem.W.Fast.tw8298262071287736680 : True := trivial
theorem PySem.W.Fast.tw823592712593744462 : True := trivial
theorem PySem.W.Fast.tw2022418613685426548 : True := trivial
theorem PySem.W.Fast.tw9660374796655182366 : True := trivial
theorem PySem.W.Fast.tw3731380369264949044 : True := trivial
theorem PySem.W.Fast.tw3103466071952656500 : True := trivial
theorem PySem.W.Fast.tw5503763207587155982 : True := trivial
theorem PySem.W.Fast.tw13711580920975765317 : True := trivial
theorem PySem.W.Fast.tw931396152813989900 : True := trivial
theorem PySem.W.Fast.tw583785297323059610 : True := trivial
theorem PySem.W.Fast.tw13432993441550221306 : True := trivial
theorem PySem.W.Fast.tw18095858033153461385 : True := trivial
theorem PySem.W.Fast.tw15076088610546863842 : True := trivial
theorem PySem.W.Fast.tw2151804814843818577 : True := trivial
theorem PySem.W.Fast.tw1383326810020003323 : True := trivial
theorem PySem.W.Fast.tw12790595152673684666 : True := trivial
theorem PySem.W.Fast.tw12918168719646854438 : True := trivial
theorem PySem.W.Fast.tw17414946415388792576 : True := trivial
theorem PySem.W.Fast.tw831547998533181810 : True := trivial
theorem PySem.W.Fast.tw15362770130145712633 : True := trivial
theorem PySem.W.Fast.tw11155165257093864851 : True := trivial
theorem PySem.W.Fast.tw2433689421274410777 : True := trivial
theorem PySem.W.Fast.tw7877277615341034049 : True := trivial
theorem PySem.W.Fast.tw2314485985019121574 : True := trivial
theorem PySem.W.Fast.tw9677928144197092750 : True := trivial
theorem PySem.W.Fast.tw14727923844079230268 : True := trivial
theorem PySem.W.Fast.tw5585303417757803946 : True := trivial
theorem PySem.W.Fast.tw6770457216491974161 : True := trivial
theorem PySem.W.Fast.tw7521451428781468171 : True := trivial
theorem PySem.W.Fast.tw16461166511972461096 : True := trivial
theorem PySem.W.Fast.tw5266431176322015913 : True := trivial
theorem PySem.W.Fast.tw858846136482881630 : True := trivial
theorem PySem.W.Fast.tw11776620262636313619 : True := trivial
theorem PySem.W.Fast.tw15701437427571759097 : True := trivial
theorem PySem.W.Fast.tw8686627833372669907 : True := trivial
theorem PySem.W.Fast.tw5600674686478529137 : True := trivial
theorem PySem.W.Fast.tw17065029547832766109 : True := trivial
theorem PySem.W.Fast.tw8526513219411991381 : True := trivial
theorem PySem.W.Fast.tw9149357080900964483 : True := trivial
theorem PySem.W.Fast.tw10836618581108364944 : True := trivial
theorem PySem.W.Fast.tw15685536494142149758 : True := trivial
open PySem PySem.W PyProof.Rows
set_option maxRecDepth 100000 in
set_option maxHeartbeats 0 in
theorem PySem.Challenge.cw_othersum_k51_books_written_and_read_holds : PySem.Challenge.rw_othersum_k51_books_written_and_read.Holds := by
  w_on; o_law; k_head; (case hw => w_witness2)
  k_fill
  refine L2.walk_ofK (l := PySem.Challenge.rw_othersum_k51_books_written_and_read) (n := 63) (k := 12) (x := "_law_script") (CX := L2.CX0) (sp := DL.spLaw) rfl (by decide) rfl ⟨rfl, by decide, by decide⟩ (fun w h Y => PySem.W.kIn_of Y) ?F DL.law_sp (fun _ _ _ _ z => z)
  case F =>
    intro w mg fa h KX G hmg
    refine' My.all_mk KX G hmg (L2.fa_mk ?a0 ?l0 ?c0 ?k0) (L2.fa_mk ?a1 ?l1 ?c1 ?k1) (L2.fa_mk ?a2 ?l2 ?c2 ?k2) (L2.fa_mk ?a3 ?l3 ?c3 ?k3) (L2.fa_mk ?a4 ?l4 ?c4 ?k4) (L2.fa_mk ?a5 ?l5 ?c5 ?k5) (L2.fa_mk ?a6 ?l6 ?c6 ?k6) (L2.fa_mk ?a7 ?l7 ?c7 ?k7) (L2.fa_mk ?a8 ?l8 ?c8 ?k8) (L2.fa_mk ?a9 ?l9 ?c9 ?k9) (L2.fa_mk ?a10 ?l10 ?c10 ?k10) (L2.fa_mk ?a11 ?l11 ?c11 ?k11) (L2.fa_mk ?a12 ?l12 ?c12 ?k12) (L2.fa_mk ?a13 ?l13 ?c13 ?k13) (L2.fa_mk ?a14 ?l14 ?c14 ?k14) (L2.fa_mk ?a15 ?l15 ?c15 ?k15) (L2.fa_mk ?a16 ?l16 ?c16 ?k16) (L2.fa_mk ?a17 ?l17 ?c17 ?k17) (L2.fa_mk ?a18 ?l18 ?c18 ?k18) (L2.fa_mk ?a19 ?l19 ?c19 ?k19) (L2.fa_mk ?a20 ?l20 ?c20 ?k20) (L2.fa_mk ?a21 ?l21 ?c21 ?k21) (L2.fa_mk ?a22 ?l22 ?c22 ?k22) (L2.fa_mk ?a23 ?l23 ?c23 ?k23) (L2.fa_mk ?a24 ?l24 ?c24 ?k24) (L2.fa_mk ?a25 ?l25 ?c25 ?k25) ?z0 ?z1 ?z2 ?z3 ?z4 ?z5 ?z6 ?z7 ?z8 ?z9 ?z10 ?z11 ?z12 ?z13 ?z14 ?z15 ?dc ?dU ?eW ?eJ ?dg ?dh
    case a0 | l0 | c0 | k0 | a1 | l1 | c1 | k1 | a2 | l2 | c2 | k2 | a3 | l3 | c3 | k3 | a4 | l4 | c4 | k4 | a5 | l5 | c5 | k5 | a6 | l6 | c6 | k6 | a7 | l7 | c7 | k7 | a8 | l8 | c8 | k8 | a9 | l9 | c9 | k9 | a10 | l10 | c10 | k10 | a11 | l11 | c11 | k11 | a12 | l12 | c12 | k12 | a13 | l13 | c13 | k13 | a14 | l14 | c14 | k14 | a15 | l15 | c15 | k15 | a16 | l16 | c16 | k16 | a17 | l17 | c17 | k17 | a18 | l18 | c18 | k18 | a19 | l19 | c19 | k19 | a20 | l20 | c20 | k20 | a21 | l21 | c21 | k21 | a22 | l22 | c22 | k22 | a23 | l23 | c23 | k23 | a24 | l24 | c24 | k24 | a25 | l25 | c25 | k25 | z0 | z1 | z2 | z3 | z4 | z5 | z6 | z7 | z8 | z9 | z10 | z11 | z12 | z13 | z14 | z15 | dc | dU | eW | eJ | dg | dh => k_is
#print axioms PySem.Challenge.cw_othersum_k51_books_written_and_read_holds
