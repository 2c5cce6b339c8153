import PyProof.Rows.All
import Wide.All
import OpenK.AllK
import Wide.FinOn
import Lean
import PyProof.EqAt
import PyProof.EqKinds
import PyProof.TupleCall
import PySem.Challenge.RW_othersum_k62_how_little_uneven_it_comes
noncomputable section
set_option Elab.async false
set_option linter.all false
set_option maxRecDepth 100000
namespace L2
open PySem PySem.Spec PyProof.Rows
abbrev Key:=Sum Int Str
def tO:Key->Value->Bool
 | .inl k,v=>Value.isInt k v
 | .inr x,v=>Value.isStrOf x v
def keyH (w:World):Key->Int
 | .inl k=>hashInt k
 | .inr x=>hashStr w x
theorem bS:∀ {k:Key} {v:Value},tO k v=true->(∃ i t,k=Sum.inl i /\ v=Value.int i t)∨(∃ x t,k=Sum.inr x /\ v=Value.str x t)
 | .inl i,v,h=>by
  obtain ⟨t,e⟩:=Value.isInt_shape (k:=i) (v:=v) h
  exact .inl ⟨i,t,rfl,e⟩
 | .inr x,v,h=>by
  obtain ⟨t,e⟩:=Value.isStrOf_shape (x:=x) (v:=v) h
  exact .inr ⟨x,t,rfl,e⟩
theorem uB (i:Int) (t:Tok):tO (.inl i) (.int i t)=true:=by simp [tO,Value.isInt]
theorem uC (x:Str) (t:Tok):tO (.inr x) (.str x t)=true:=by simp [tO,Value.isStrOf]
theorem Aj (a b:Int):decide ((Sum.inl a:Key)=Sum.inl b)=(a == b):=by
 by_cases e:a=b
 ·subst e; simp
 ·have h:¬ (Sum.inl a:Key)=Sum.inl b:=fun q=>e (Sum.inl.inj q)
  rw [decide_eq_false h]
  exact (beq_eq_false_iff_ne.mpr e).symm
theorem Ak (a b:Str):decide ((Sum.inr a:Key)=Sum.inr b)=decide (a=b):=by
 by_cases e:a=b
 ·subst e; simp
 ·have h:¬ (Sum.inr a:Key)=Sum.inr b:=fun q=>e (Sum.inr.inj q)
  rw [decide_eq_false h,decide_eq_false e]
theorem Al (a:Int) (b:Str):decide ((Sum.inl a:Key)=Sum.inr b)=false:=decide_eq_false (fun q=>nomatch q)
theorem Am (a:Str) (b:Int):decide ((Sum.inr a:Key)=Sum.inl b)=false:=decide_eq_false (fun q=>nomatch q)
def cH (prog:Program) (w:World):PySem.KeyKind prog w Key where
 is:=tO
 hash:=keyH w
 inj:=fun v a b ha hb=>by
  rcases bS ha with ⟨i,t,rfl,rfl⟩ | ⟨x,t,rfl,rfl⟩
  ·rcases bS hb with ⟨j,u,rfl,e⟩ | ⟨y,u,rfl,e⟩
   ·injection e with e1 _; rw [e1]
   ·exact nomatch e
  ·rcases bS hb with ⟨j,u,rfl,e⟩ | ⟨y,u,rfl,e⟩
   ·exact nomatch e
   ·injection e with e1 _; rw [e1]
 byValue:=fun k v h=>by
  rcases bS h with ⟨i,t,rfl,rfl⟩ | ⟨x,t,rfl,rfl⟩ <;> rfl
 pyHash:=fun hv h=>by
  rcases bS hv with ⟨i,t,rfl,rfl⟩ | ⟨x,t,rfl,rfl⟩
  ·exact wpAny_pyHash_int h
  ·exact wpAny_pyHash_str h
 eqBool:=fun hu hv h=>by
  rcases bS hu with ⟨i,t,rfl,rfl⟩ | ⟨x,t,rfl,rfl⟩
  ·rcases bS hv with ⟨j,u,rfl,rfl⟩ | ⟨y,u,rfl,rfl⟩
   ·rw [Aj] at h; exact wpAny_eqBool_int h
   ·rw [Al] at h; exact SeqAt.EqAt.int_str i t y u _ _ _ _ h
  ·rcases bS hv with ⟨j,u,rfl,rfl⟩ | ⟨y,u,rfl,rfl⟩
   ·rw [Am] at h; exact SeqAt.EqAt.str_int x t j u _ _ _ _ h
   ·rw [Ak] at h; exact wpAny_eqBool_str h
 «strs»:=fun k x t v h=>by
  rcases bS h with ⟨i,u,rfl,e⟩ | ⟨y,u,rfl,e⟩
  ·exact nomatch e
  ·injection e with e1 _
   subst e1
   cases v <;> rfl
theorem qQ (prog:Program) (w:World) (i:Int) (t:Tok):(cH prog w).is (.inl i) (.int i t)=true:=uB i t
theorem qR (prog:Program) (w:World) (x:Str) (t:Tok):(cH prog w).is (.inr x) (.str x t)=true:=uC x t
end L2
namespace L2
open PySem PySem.Spec PyProof.Rows
inductive V where
 | non | bl (b:Bool) | int (i:Int) | str (x:Str) | byt (b:Array UInt8) | flt (b:UInt64) | ref (a:Addr) | ty (n:String)
 deriving DecidableEq
def RelV:V->Value->Prop
 | .non,u=>u=Value.none
 | .bl b,u=>u=Value.bool b
 | .int i,u=>∃ t,u=Value.int i t
 | .str x,u=>∃ t,u=Value.str x t
 | .byt b,u=>∃ t,u=Value.bytes b t
 | .flt b,u=>∃ t,u=Value.float b t
 | .ref a,u=>u=Value.ref a
 | .ty n,u=>u=Value.type n
abbrev Vals:List V->List Value->Prop:=Paired RelV
theorem Vals.length {xs:List V} {us:List Value} (r:Vals xs us):xs.length=us.length:=Paired.length r
theorem Vals.get:∀ {xs:List V} {us:List Value} {i:Nat} {x:V},Vals xs us->xs[i]? = some x->∃ u,us[i]? = some u /\ RelV x u
 | _,_,_,_,.nil,e=>by simp at e
 | _,_,0,_,.cons r _,e=>by simp at e; subst e; exact ⟨_,rfl,r⟩
 | _,_,i + 1,x,.cons _ t,e=>by
  obtain ⟨u,h1,h2⟩:=Vals.get (i:=i) (x:=x) t (by simpa using e)
  exact ⟨u,by simpa using h1,h2⟩
theorem Vals.set {x:V} {u:Value} (r:RelV x u):∀ {xs:List V} {us:List Value} (i:Nat),Vals xs us->Vals (xs.set i x) (us.set i u)
 | _,_,_,.nil=>.nil
 | _,_,0,.cons _ t=>.cons r t
 | _,_,i + 1,.cons q t=>.cons q (Vals.set r i t)
theorem Vals.append:∀ {xs ys:List V} {us ws:List Value},Vals xs us->Vals ys ws->Vals (xs++ys) (us++ws)
 | _,_,_,_,.nil,s=>s
 | _,_,_,_,.cons r t,s=>.cons r (Vals.append t s)
theorem Vals.take:∀ {xs:List V} {us:List Value} (n:Nat),Vals xs us->Vals (xs.take n) (us.take n)
 | _,_,0,_=>.nil
 | _,_,_ + 1,.nil=>.nil
 | _,_,n + 1,.cons r t=>.cons r (Vals.take n t)
theorem Vals.drop:∀ {xs:List V} {us:List Value} (n:Nat),Vals xs us->Vals (xs.drop n) (us.drop n)
 | _,_,0,r=>r
 | _,_,_ + 1,.nil=>.nil
 | _,_,n + 1,.cons _ t=>Vals.drop n t
def RelO:Option V->Option Value->Prop
 | some v,some u=>RelV v u
 | none,none=>True
 | _,_=>False
def KV {κ:Type}:List (κ×V)->List (κ×Value)->Prop:=Paired fun (p:κ×V) (q:κ×Value)=>p.1=q.1 /\ RelV p.2 q.2
def kV:Key->V
 | .inl i=>.int i
 | .inr x=>.str x
inductive HO where
  | lst (xs:List V)
  | tup (xs:List V)
  | dK (kvs:List (Key×V)) | dT (kvs:List (List Key×V))
  | set (S:Int->Bool) (n:Nat)
  | ins (C dx:Addr) (fs:List (Str×V))
  | own (x:Addr)
  | xd (fs:List (Str×V))
  | met (f x:Addr)
  | rng (lo hi:Int)
  | frz (o:Obj) (u:HO)
  | tbl (ps:Array Value)
  | ext (φ:Heap->Prop)
abbrev Hp:=Addr->Option HO
def upd (H:Hp) (a:Addr) (o:HO):Hp:=fun b=>if b=a then some o else H b
theorem au {H:Hp} {a:Addr} {o:HO}:upd H a o a=some o:=by unfold upd; rw [if_pos rfl]
theorem ar {H:Hp} {a b:Addr} {o:HO} (h:b≠a):upd H a o b=H b:=by unfold upd; rw [if_neg h]
theorem kK {H:Hp} {a b:Addr} {o u:HO} (h:H a=some o) (h':H b=some u) (d:o≠u):a≠b:=by
 intro e; subst e; rw [h] at h'; exact d (Option.some.inj h')
theorem cN {H:Hp} {a b:Addr} {o:HO} (h:H a=some o) (h':H b=none):a≠b:=by
 intro e; subst e; rw [h] at h'; cases h'
section
variable (P:Program) (w:World)
def ObjOk (H:Hp) (h:Heap) (a:Addr):HO->Prop
 | .lst xs=>xs.length <= sizeLine /\ ∃ (its:List Value) (n:Nat),Vals xs its /\ h.get? a=some { cls:=.type "list",data:=.seq its.toArray n }
 | .tup xs=>xs.length <= sizeLine /\ ∃ its:List Value,Vals xs its /\ IsTup h a its.toArray
 | .dK kvs=>kvs.length <= sizeLine /\ (a == sysModules)=false /\ ∃ vs,KV kvs vs /\ h.DictOf (cH P w) a vs
 | .dT kvs=>kvs.length <= sizeLine /\ (a == sysModules)=false /\ ∃ xs:List (List Key×Addr×Value),
   Paired (fun (p:List Key×V) (q:List Key×Addr×Value)=>p.1=q.1 /\ H q.2.1=some (.tup (p.1.map kV)) /\ RelV p.2 q.2.2) kvs xs /\
   ∃ o es ep,h.get? a=some o /\ o.ExactDict /\ o.data = .dict es ep /\ es.toList=xs.map (entryOfKey (tupleKind (cH P w))) /\ (xs.map (·.1)).Nodup
 | .set S n=>h.SetOf (intKind P w) a S n
 | .ins C dx fs=>H dx=some (.own a) /\ fs.length <= 1000 /\ dx≠a /\ h.get? a=some (PySem.W.instObj C dx) /\
   ∃ mA,h.Ns1 dx mA /\ (∀ f,RelO (fs.lookup f) (mA f)) /\ PySem.Within mA (fs.map (·.1))
 | .own _=>∃ o,h.get? a=some o
 | .xd fs=>∃ mA,h.Ns1 a mA /\ ∀ f,RelO (fs.lookup f) (mA f)
 | .rng lo hi=>∃ t u v,h.get? a=some { cls:=.type "range",data:=.fields #[.int lo t,.int hi u,.int 1 v] }
 | .frz o u=>h.get? a=some o /\ ObjOk H h a u
 | .tbl ps=>h.get? a=some { cls:=.none,data:=.fields ps }
 | .met f x=>h.get? a=some (PySem.W.methodObj (.ref f) (.ref x))
 | .ext φ=>φ h /\ (∃ o,h.get? a=some o) /\ ∀ h1 h2:Heap,φ h1->(∀ o,h1.get? a=some o->h2.get? a=some o)->φ h2
def HOk (H:Hp) (h:Heap):Prop:=∀ a o,H a=some o->ObjOk P w H h a o
end
section
variable {P:Program} {w:World} {H H':Hp} {h h':Heap} {a:Addr} {o:HO}
theorem ObjOk.lt (x:ObjOk P w H h a o):a < h.objs.size:=by
 cases o with
 | lst xs=>obtain ⟨_,_,_,_,e⟩:=x; exact Heap.lt_size e
 | tup xs=>obtain ⟨_,_,_,p⟩:=x; exact p.lt
 | dK kvs=>obtain ⟨_,_,_,_,o,_,_,e,_⟩:=x; exact Heap.lt_size e
 | dT kvs=>obtain ⟨_,_,_,_,o,_,_,e,_⟩:=x; exact Heap.lt_size e
 | set S n=>obtain ⟨o,_,_,_,e,_⟩:=x; exact Heap.lt_size e
 | ins C dx fs=>obtain ⟨_,_,_,e,_⟩:=x; exact Heap.lt_size e
 | own y=>obtain ⟨_,e⟩:=x; exact Heap.lt_size e
 | xd fs=>obtain ⟨_,⟨_,_,_,e,_⟩,_⟩:=x; exact Heap.lt_size e
 | rng lo hi=>obtain ⟨_,_,_,e⟩:=x; exact Heap.lt_size e
 | frz ob u=>obtain ⟨e,_⟩:=x; exact Heap.lt_size e
 | tbl ps=>exact Heap.lt_size (show h.get? a=some _ from x)
 | met f y=>exact Heap.lt_size (show h.get? a=some _ from x)
 | ext φ=>obtain ⟨_,⟨_,e⟩,_⟩:=x; exact Heap.lt_size e
theorem Paired.mapP {α β:Type} {F G:α->β->Prop}:∀ {l₁:List α} {l₂:List β},Paired F l₁ l₂->(∀ a b,F a b->G a b)->Paired G l₁ l₂
 | _,_,.nil,_=>.nil
 | _,_,.cons r t,f=>.cons (f _ _ r) (Paired.mapP t f)
theorem ObjOk.stay (x:ObjOk P w H h a o) (k:∀ b u,(b=a∨H b=some (.own a))->h.get? b=some u->h'.get? b=some u)
  (ho:∀ b,H b=some (.own a)->H' b=some (.own a)) (ht:∀ b xs,H b=some (.tup xs)->H' b=some (.tup xs)):ObjOk P w H' h' a o:=by
 induction o with
 | lst xs=>obtain ⟨z,its,n,r,e⟩:=x; exact ⟨z,its,n,r,k _ _ (.inl rfl) e⟩
 | tup xs=>obtain ⟨z,its,r,ob,e,c⟩:=x; exact ⟨z,its,r,ob,k _ _ (.inl rfl) e,c⟩
 | dK kvs=>obtain ⟨z,y,vs,r,ob,es,ep,e,c⟩:=x; exact ⟨z,y,vs,r,ob,es,ep,k _ _ (.inl rfl) e,c⟩
 | dT kvs =>
  obtain ⟨z,y,xs,r,ob,es,ep,e,c⟩:=x
  exact ⟨z,y,xs,Paired.mapP r fun p q z=>⟨z.1,ht _ _ z.2.1,z.2.2⟩,ob,es,ep,k _ _ (.inl rfl) e,c⟩
 | set S n=>obtain ⟨ob,es,ep,t,e,c⟩:=x; exact ⟨ob,es,ep,t,k _ _ (.inl rfl) e,c⟩
 | ins C dx fs =>
  obtain ⟨d,z,ne,e,mA,⟨od,es,ep,e2,c⟩,r⟩:=x
  exact ⟨ho _ d,z,ne,k _ _ (.inl rfl) e,mA,⟨od,es,ep,k _ _ (.inr d) e2,c⟩,r⟩
 | own y=>obtain ⟨ob,e⟩:=x; exact ⟨ob,k _ _ (.inl rfl) e⟩
 | xd fs=>obtain ⟨mA,⟨od,es,ep,e,c⟩,r⟩:=x; exact ⟨mA,⟨od,es,ep,k _ _ (.inl rfl) e,c⟩,r⟩
 | rng lo hi=>obtain ⟨t,u,v,e⟩:=x; exact ⟨t,u,v,k _ _ (.inl rfl) e⟩
 | frz ob u ih=>obtain ⟨e,q⟩:=x; exact ⟨k _ _ (.inl rfl) e,ih q⟩
 | tbl ps =>
  have e:h.get? a=some { cls:=.none,data:=.fields ps }:=x
  show h'.get? a=some { cls:=.none,data:=.fields ps }
  exact k a _ (.inl rfl) e
 | met f y =>
  have e:h.get? a=some (PySem.W.methodObj (.ref f) (.ref y)):=x
  show h'.get? a=some (PySem.W.methodObj (.ref f) (.ref y))
  exact k a _ (.inl rfl) e
 | ext φ=>obtain ⟨p,⟨o,e⟩,st⟩:=x; exact ⟨st _ _ p fun o q=>k _ _ (.inl rfl) q,⟨o,k _ _ (.inl rfl) e⟩,st⟩
theorem HOk.lt (x:HOk P w H h) (e:H a=some o):a < h.objs.size:=(x a o e).lt
theorem HOk.fresh (x:HOk P w H h) (e:h.objs.size <= a):H a=none:=by
 cases q:H a with
 | none=>rfl
 | some u=>exact absurd (Nat.lt_of_lt_of_le (x.lt q) e) (Nat.lt_irrefl _)
theorem HOk.kept (x:HOk P w H h) (k:∀ b u,h.get? b=some u->h'.get? b=some u):HOk P w H h':=fun a o e =>
 (x a o e).stay (fun b u _ q=>k b u q) (fun _ q=>q) fun _ _ q=>q
theorem HOk.laid (x:HOk P w H h) (k:∀ b u,h.get? b=some u->h'.get? b=some u) (hp:h.objs.size <= a) (new:ObjOk P w (upd H a o) h' a o):HOk P w (upd H a o) h':=fun b u e=>by
 have hn:=x.fresh hp
 by_cases hb:b=a
 ·subst hb; rw [au] at e; cases e; exact new
 ·rw [ar hb] at e
  exact (x b u e).stay (fun c v _ q=>k c v q) (fun c q=>by rw [ar (cN q hn)]; exact q) fun c xs q=>by rw [ar (cN q hn)]; exact q
end
def Rd (H:Hp) (a:Addr) (u:HO):Prop:=H a=some u∨∃ o,H a=some (.frz o u)
theorem Rd.of {H:Hp} {a:Addr} {u:HO} (h:H a=some u):Rd H a u:=.inl h
theorem Rd.ok {P:Program} {w:World} {H:Hp} {h:Heap} {a:Addr} {u:HO} (r:Rd H a u) (x:HOk P w H h):ObjOk P w H h a u:=by
 rcases r with r | ⟨o,r⟩
 ·exact x a u r
 ·obtain ⟨_,q⟩:=x a _ r
  exact q
def Mut:Option HO->Prop
 | some (.lst _)=>True
 | some (.dK _)=>True
 | some (.dT _)=>True
 | some (.set _ _)=>True
 | some (.ins _ _ _)=>True
 | some (.ext _)=>True
 | _=>False
section
variable {P:Program} {w:World} {H:Hp} {h h':Heap} {x e:Addr} {o':HO}
theorem HOk.write (ok:HOk P w H h) (mu:Mut (H x)) (he:e=x∨H e=some (.own x)) (k:∀ b u,b≠e->h.get? b=some u->h'.get? b=some u) (heo:∃ u,h'.get? e=some u)
  (new:ObjOk P w (upd H x o') h' x o'):HOk P w (upd H x o') h':=fun b u q=>by
 have nown:∀ c y,H c=some (.own y)->c≠x:=fun c y r z=>by subst z; rw [r] at mu; exact mu
 have ntup:∀ c xs,H c=some (.tup xs)->c≠x:=fun c xs r z=>by subst z; rw [r] at mu; exact mu
 by_cases hb:b=x
 ·subst hb; rw [au] at q; cases q; exact new
 ·rw [ar hb] at q
  by_cases hbe:b=e
  ·have q':H b=some (.own x):=by
    rcases he with z | z
    ·exact absurd (hbe.trans z) hb
    ·rw [hbe]; exact z
   rw [q] at q'; cases q'
   obtain ⟨v,hv⟩:=heo
   exact ⟨v,by rw [hbe]; exact hv⟩
  ·refine (ok b u q).stay (fun c v hc r=>k c v ?_ r) (fun c r=>by rw [ar (nown c b r)]; exact r) fun c xs r=>by rw [ar (ntup c xs r)]; exact r
   rcases hc with rfl | hc
   ·exact hbe
   ·rintro rfl
    rcases he with z | z
    ·exact nown c b hc z
    ·rw [hc] at z; cases z; exact hb rfl
end
structure Un (fs ex:List Addr) (H H':Hp) (h h':Heap):Prop where
 keep:∀ b o,h.get? b=some o->H b=none->b∉fs->b∉ex->h'.get? b=some o
 slot:∀ b o,h.get? b=some o->H b=none->b∈fs->b∉ex->∃ sl,h'.get? b=some { o with slots:=sl }
 free:∀ b o,h.get? b=some o->H b=none->b∉ex->H' b=none
 there:∀ b o,h.get? b=some o->b∉ex->∃ o',h'.get? b=some o'
 tups:∀ b xs,H b=some (.tup xs)->H' b=some (.tup xs)
 frzs:∀ b o u,H b=some (.frz o u)->H' b=some (.frz o u)
 tbls:∀ b ps,H b=some (.tbl ps)->∃ more,H' b=some (.tbl (ps++more))
section
variable {fs fs' ex ex':List Addr} {H H1 H2:Hp} {h h1 h2 h':Heap} {a x e:Addr} {o:HO}
theorem Un.any (u:Un fs ex H H1 h h1) {b:Addr} {ob:Obj} (q:h.get? b=some ob) (n:H b=none) (hx:b∉ex):∃ sl,h1.get? b=some { ob with slots:=sl }:=by
 by_cases hb:b∈fs
 ·exact u.slot b ob q n hb hx
 ·exact ⟨ob.slots,u.keep b ob q n hb hx⟩
theorem Un.trans (a:Un fs ex H H1 h h1) (b:Un fs ex H1 H2 h1 h2):Un fs ex H H2 h h2 where
 keep:=fun c ob q n hc hx=>b.keep c ob (a.keep c ob q n hc hx) (a.free c ob q n hx) hc hx
 slot:=fun c ob q n hc hx=>by
  obtain ⟨sl,e1⟩:=a.slot c ob q n hc hx
  obtain ⟨sl',e2⟩:=b.slot c _ e1 (a.free c ob q n hx) hc hx
  exact ⟨sl',e2⟩
 free:=fun c ob q n hx=>by
  obtain ⟨o',e1⟩:=a.there c ob q hx
  exact b.free c o' e1 (a.free c ob q n hx) hx
 there:=fun c ob q hx=>by
  obtain ⟨o',e1⟩:=a.there c ob q hx
  exact b.there c o' e1 hx
 tups:=fun c xs q=>b.tups c xs (a.tups c xs q)
 frzs:=fun c ob xs q=>b.frzs c ob xs (a.frzs c ob xs q)
 tbls:=fun c ps q=>by
  obtain ⟨m1,e1⟩:=a.tbls c ps q
  obtain ⟨m2,e2⟩:=b.tbls c _ e1
  exact ⟨m1++m2,by rw [e2,Array.append_assoc]⟩
theorem Un.kept (k:∀ b u,h.get? b=some u->h'.get? b=some u):Un fs ex H H h h' :=
 ⟨fun b ob q _ _ _=>k b ob q,fun b ob q _ _ _=>⟨ob.slots,k b ob q⟩,fun _ _ _ n _=>n,fun b ob q _=>⟨ob,k b ob q⟩,fun _ _ q=>q,fun _ _ _ q=>q,fun _ ps q=>⟨#[],by rw [q]; simp⟩⟩
theorem Un.refl:Un fs ex H H h h:=Un.kept fun _ _ q=>q
theorem Un.laid (k:∀ b u,h.get? b=some u->h'.get? b=some u) (hp:h.objs.size <= a) (hn:H a=none):Un fs ex H (upd H a o) h h' where
 keep:=fun b u q _ _ _=>k b u q
 slot:=fun b u q _ _ _=>⟨u.slots,k b u q⟩
 free:=fun b u q n _=>by rw [ar (Nat.ne_of_lt (Nat.lt_of_lt_of_le (Heap.lt_size q) hp))]; exact n
 there:=fun b u q _=>⟨u,k b u q⟩
 tups:=fun b xs q=>by rw [ar (cN q hn)]; exact q
 frzs:=fun b u xs q=>by rw [ar (cN q hn)]; exact q
 tbls:=fun b ps q=>⟨#[],by rw [ar (cN q hn),q]; simp⟩
theorem Un.write (mu:Mut (H x)) (he:e=x∨H e=some (.own x)) (k:∀ b u,b≠e->h.get? b=some u->h'.get? b=some u) (heo:∃ u,h'.get? e=some u):Un fs ex H (upd H x o) h h':=by
 have hx:∀ b,H b=none->b≠x:=fun b n z=>by subst z; rw [n] at mu; exact mu
 have hb:∀ b,H b=none->b≠e:=fun b n z=>by
  subst z
  rcases he with r | r
  ·exact hx b n r
  ·rw [n] at r; cases r
 have hm:∀ b u,H b=some u->¬ Mut (some u)->b≠x:=fun b u q nm z=>by subst z; rw [q] at mu; exact nm mu
 refine ⟨fun b u q n _ _=>k b u (hb b n) q,fun b u q n _ _=>⟨u.slots,k b u (hb b n) q⟩,fun b u q n _=>by rw [ar (hx b n)]; exact n,fun b u q _=>?_,
  fun b xs q=>by rw [ar (hm b _ q fun z=>z)]; exact q,fun b u xs q=>by rw [ar (hm b _ q fun z=>z)]; exact q,fun b ps q=>⟨#[],by rw [ar (hm b _ q fun z=>z),q]; simp⟩⟩
 by_cases hbe:b=e
 ·subst hbe; exact heo
 ·exact ⟨u,k b u hbe q⟩
theorem Un.mono (u:Un fs ex H H1 h h1) (hs:∀ b∈fs,b∈fs') (hx:∀ b∈ex,b∈ex'):Un fs' ex' H H1 h h1 :=
 ⟨fun b ob q n hb he=>u.keep b ob q n (fun z=>hb (hs b z)) fun z=>he (hx b z),fun _ _ q n _ he=>u.any q n fun z=>he (hx _ z),fun b ob q n he=>u.free b ob q n fun z=>he (hx b z),fun b ob q he=>u.there b ob q fun z=>he (hx b z),u.tups,u.frzs,u.tbls⟩
end
def trk (h:Heap) (H:Hp):List Addr:=(List.range h.objs.size).filter fun a=>(H a).isSome
def hidT (h:Heap) (H:Hp):Heap:=PySem.W.hideAll h (trk h H)
theorem oU (h:Heap) (H:Hp):(hidT h H).objs.size=h.objs.size:=PySem.W.hideAll_size _ _
theorem sj {h:Heap} {H:Hp} {b:Addr} {o:Obj} (e:h.get? b=some o) (n:H b=none):(hidT h H).get? b=some o :=
 PySem.W.hideAll_get _ e fun hm=>by
  have q:(H b).isSome=true:=(List.mem_filter.mp hm).2
  rw [n] at q; simp at q
theorem uD {h:Heap} {H:Hp} {b:Addr} {o:Obj} (e:(hidT h H).get? b=some o):h.get? b=some o /\ H b=none:=by
 have e':h.get? b=some o:=PySem.W.of_hideAll (trk h H) e
 refine ⟨e',?_⟩
 cases q:H b with
 | none=>rfl
 | some x =>
  have hm:b∈trk h H:=List.mem_filter.mpr ⟨List.mem_range.mpr (Heap.lt_size e'),by simp [q]⟩
  have z:(hidT h H).get? b=none:=PySem.W.hideAll_none (trk h H) hm
  rw [z] at e; cases e
def yp (g h:Heap) (L:Addr):List (Addr×Obj):=(List.range h.objs.size).filterMap fun a=>if a=L∨(g.get? a).isSome=true then none else (h.get? a).map fun o=>(a,o)
def rest (g h:Heap) (L d:Addr):List (Addr×Obj):=(yp g h L).filter fun p=>decide (p.1≠d)
end L2
namespace L2
open PySem PySem.Spec PyProof.Rows
structure Mod (K:PySem.W.Frag) (mg:Str->Option Value) (base:Heap):Prop where
 kin:K.In base
 glob:base.Ns mainGlobals mg
 blt:∃ mb,base.Ns builtinsNs mb /\ ∀ x:Str,x ≠ "__name__" -> mb x=bootBuiltins x
 nolimit:base.NoLimit
structure Cx where
 prog:Program
 w:World
 K:PySem.W.Frag
 mg:Str->Option Value
 base:Heap
 A:Around
 N:List Str
 s₀:Shared
 H₀:Hp
 env:Env
 outer:List Env
 stack:List Env
 ex:List Addr
 fn:Str->Bool
 calm:Bool
 pn:List (Addr×Obj)
 xe:Value->Shared->Prop
def frs (l:List Env):List Addr:=l.filterMap (·.frame)
abbrev Cx.fs (X:Cx):List Addr:=frs X.outer
def Vis (sc:Scope) (x:Str):Prop:=sc.names.lookup x=some .local∨sc.names.lookup x=some .cell∨sc.names.lookup x=some .free
def Loc (sc:Scope) (x:Str):Prop:=sc.names.lookup x=some .local∨sc.names.lookup x=some .cell
def Look (env:Env) (h:Heap) (m:Str->Option Value) (x:Str) (u:Value):Prop :=
 (env.kindOf x=some .local /\ m x=some u)∨((env.kindOf x=some .cell∨env.kindOf x=some .free) /\ ∃ c,env.cells.lookup x=some c /\ h.IsCell c (some u))
structure Cx.Ok (X:Cx):Prop where
 mod:Mod X.K X.mg X.base
 kind:X.env.scope.kind = .function
 glob:X.env.globals=mainGlobals
 blt:X.env.builtins=builtinsNs
 above:X.s₀.heap.objs.size <= X.env.locals
 inj:∀ x y c,X.env.cells.lookup x=some c->X.env.cells.lookup y=some c->x=y
 has:∀ x,(X.env.kindOf x=some .cell∨X.env.kindOf x=some .free)->∃ c,X.env.cells.lookup x=some c
 cab:∀ x c,X.fn x=true->X.env.cells.lookup x=some c->X.s₀.heap.objs.size <= c
 hd:X.calm=true->X.A.handled=none
 frames:X.A.frames=some X.stack
 stk:X.stack=X.outer∨(X.stack=X.env::X.outer /\ X.env.frame=some X.env.locals)
 exf:∀ b∈X.ex,b≠X.env.locals /\ ∀ x c,X.env.cells.lookup x=some c->c≠b
 bs:∀ b o,X.base.get? b=some o->X.s₀.heap.get? b=some o /\ X.H₀ b=none
 bsz:X.base.objs.size <= X.s₀.heap.objs.size
 noex:∀ b o,X.base.get? b=some o->b∉X.ex
 exfs:∀ b∈X.ex,b∉X.fs
 funs:X.s₀.heap.FunFrames X.base X.outer
 frf:∀ b∈X.fs,X.H₀ b=none
structure Inv (X:Cx) (pins:List (Addr×Obj)) (σ:List (Option V)) (H:Hp) (s:Shared):Prop where
 ok:X.Ok
 os:s.os=X.s₀.os
 bare:AllBare s.gens
 base:Un X.fs X.ex X.H₀ H X.s₀.heap s.heap
 loc:∃ m,s.heap.Ns X.env.locals m /\ ∀ (i:Nat) (x:Str) (v:V),X.N[i]? = some x->σ[i]? = some (some v)->Vis X.env.scope x->∃ u,RelV v u /\ Look X.env s.heap m x u
 cell:∀ x c,X.env.cells.lookup x=some c->∃ v,s.heap.IsCell c v
 free:H X.env.locals=none
 freeC:∀ x c,X.env.cells.lookup x=some c->H c=none
 pin:∀ p∈X.pn++pins,s.heap.get? p.1=some p.2 /\ H p.1=none /\ p.1≠X.env.locals /\ p.1∉X.fs /\ ∀ v,p.2.data ≠ .cell v
 hok:HOk X.prog X.w H s.heap
 len:σ.length=X.N.length
section
variable {X:Cx} {pins:List (Addr×Obj)} {σ:List (Option V)} {H H':Hp} {s:Shared} {h':Heap}
theorem Cx.Ok.nofr (ok:X.Ok) {b:Addr} {o:Obj} (e:X.base.get? b=some o):b∉X.fs:=fun hb=>by
 have:=(ok.funs.mem hb).1
 rw [e] at this; cases this
theorem Inv.bs (I:Inv X pins σ H s):∀ b o,X.base.get? b=some o->s.heap.get? b=some o /\ H b=none:=fun b o e =>
 ⟨I.base.keep b o (I.ok.bs b o e).1 (I.ok.bs b o e).2 (I.ok.nofr e) (I.ok.noex b o e),I.base.free b o (I.ok.bs b o e).1 (I.ok.bs b o e).2 (I.ok.noex b o e)⟩
theorem Inv.bk (I:Inv X pins σ H s):∀ b o,X.base.get? b=some o->s.heap.get? b=some o:=fun b o e=>(I.bs b o e).1
theorem Inv.mod (I:Inv X pins σ H s):Mod X.K X.mg X.base:=I.ok.mod
theorem Inv.kIn (I:Inv X pins σ H s):X.K.In s.heap:=I.ok.mod.kin.keeps I.bk
theorem Inv.nolimit (I:Inv X pins σ H s):s.heap.NoLimit:=I.ok.mod.nolimit.keeps I.bk
theorem Inv.fr (I:Inv X pins σ H s):∃ m,Fr X.base X.env.locals s.heap m :=
 let ⟨m,hn,_⟩:=I.loc
 ⟨m,hn,I.bk,Nat.le_trans I.ok.bsz I.ok.above⟩
theorem Inv.lt (I:Inv X pins σ H s):X.env.locals < s.heap.objs.size:=let ⟨_,hn,_⟩:=I.loc; hn.lt
theorem Inv.sz (I:Inv X pins σ H s):X.s₀.heap.objs.size <= s.heap.objs.size:=Nat.le_trans I.ok.above (Nat.le_of_lt I.lt)
theorem Inv.nofs (I:Inv X pins σ H s) {a:Addr} (h:s.heap.objs.size <= a):a∉X.fs:=fun hb=>by
 obtain ⟨_,o,ho,_⟩:=I.ok.funs.mem hb
 exact absurd (Nat.lt_of_lt_of_le (Heap.lt_size ho) (Nat.le_trans I.sz h)) (Nat.lt_irrefl _)
theorem Inv.cne (I:Inv X pins σ H s):∀ x c,X.env.cells.lookup x=some c->c≠X.env.locals:=fun x c e z=>by
 obtain ⟨v,o,ho,hd⟩:=I.cell x c e
 obtain ⟨m,⟨o',es,ep,ho',hd',_⟩,_⟩:=I.loc
 rw [z,ho'] at ho; cases ho; rw [hd'] at hd; cases hd
theorem Inv.funs (I:Inv X pins σ H s):s.heap.FunFrames X.base X.outer:=by
 have all:∀ (l:List Env),(∀ b∈frs l,b∈X.fs)->X.s₀.heap.FunFrames X.base l->s.heap.FunFrames X.base l:=by
  intro l
  induction l with
  | nil=>intro _ _; trivial
  | cons env r ih =>
   intro hs hl
   obtain ⟨hk,⟨L,o,hf,hn,ho,hd⟩,hr⟩:=hl
   have hL:L∈X.fs:=hs L (by unfold frs; rw [List.filterMap_cons,hf]; exact List.mem_cons_self)
   obtain ⟨sl,e⟩:=I.base.slot L o ho (I.ok.frf L hL) hL fun z=>I.ok.exfs L z hL
   exact ⟨hk,⟨L,_,hf,hn,e,hd⟩,ih (fun b hb=>hs b (by unfold frs; rw [List.filterMap_cons,hf]; exact List.mem_cons_of_mem _ hb)) hr⟩
 exact all X.outer (fun _ hb=>hb) I.ok.funs
theorem Inv.stack (I:Inv X pins σ H s):s.heap.FunFrames X.base X.stack:=by
 rcases I.ok.stk with e | ⟨e,hf⟩
 ·rw [e]; exact I.funs
 ·rw [e]
  obtain ⟨m,hn,_⟩:=I.loc
  refine .cons (by rw [I.ok.kind]; decide) hf hn ?_ I.funs
  exact Heap.get?_none_of_le (Nat.le_trans I.ok.bsz I.ok.above)
theorem Inv.stkSub (I:Inv X pins σ H s):∀ b∈frs X.stack,b∈X.env.locals::X.fs:=fun b hb=>by
 rcases I.ok.stk with e | ⟨e,hf⟩
 ·rw [e] at hb; exact List.mem_cons_of_mem _ hb
 ·rw [e] at hb
  unfold frs at hb
  rw [List.filterMap_cons,hf] at hb
  exact hb
theorem Inv.stkFree (I:Inv X pins σ H s):∀ b∈frs X.stack,H b=none:=fun b hb=>by
 rcases List.mem_cons.mp (I.stkSub b hb) with e | hb
 ·rw [e]; exact I.free
 ·obtain ⟨_,o,ho,_⟩:=I.ok.funs.mem hb
  exact I.base.free b o ho (I.ok.frf b hb) fun z=>I.ok.exfs b z hb
theorem Inv.step {g':Array GenState} {t':Nat} {d':Drawn} {ch:List Addr} (I:Inv X pins σ H s)
  (hch:∀ b∈ch,(b∈X.ex∨X.s₀.heap.objs.size <= b) /\ b≠X.env.locals /\ (∀ x c,X.env.cells.lookup x=some c->c≠b) /\ ∀ p∈X.pn++pins,p.1≠b)
  (keep:∀ b o,b≠X.env.locals->b∉X.fs->b∉ch->s.heap.get? b=some o->H b=none->h'.get? b=some o)
  (slot:∀ b o,b≠X.env.locals->b∈X.fs->b∉ch->s.heap.get? b=some o->H b=none->∃ sl,h'.get? b=some { o with slots:=sl }) (free:∀ b o,b∉ch->s.heap.get? b=some o->H b=none->H' b=none)
  (there:∀ b o,b∉ch->s.heap.get? b=some o->∃ o',h'.get? b=some o')
  (tups:∀ b xs,H b=some (.tup xs)->H' b=some (.tup xs)) (frzs:∀ b o u,H b=some (.frz o u)->H' b=some (.frz o u)) (tbls:∀ b ps,H b=some (.tbl ps)->∃ more,H' b=some (.tbl (ps++more)))
  (ns:∀ m,s.heap.Ns X.env.locals m->h'.Ns X.env.locals m) (hok:HOk X.prog X.w H' h') (hg:AllBare g') :
  Inv X pins σ H' { s with heap:=h',gens:=g',drawn:=d',toks:=t' }:=by
 have neL:∀ b o,X.s₀.heap.get? b=some o->b≠X.env.locals:=fun b o e=>Nat.ne_of_lt (Nat.lt_of_lt_of_le (Heap.lt_size e) I.ok.above)
 have neC:∀ b o,X.s₀.heap.get? b=some o->b∉X.ex->b∉ch:=fun b o e hx hb=>by
  rcases (hch b hb).1 with z | z
  ·exact hx z
  ·exact absurd (Nat.lt_of_lt_of_le (Heap.lt_size e) z) (Nat.lt_irrefl _)
 have cellK:∀ x c,X.env.cells.lookup x=some c->∀ v,s.heap.IsCell c v->h'.IsCell c v:=fun x c e v ⟨o,ho,hd⟩=>by
  have nch:c∉ch:=fun z=>(hch c z).2.2.1 x c e rfl
  by_cases hc:c∈X.fs
  ·obtain ⟨sl,q⟩:=slot c o (I.cne x c e) hc nch ho (I.freeC x c e)
   exact ⟨_,q,hd⟩
  ·exact ⟨o,keep c o (I.cne x c e) hc nch ho (I.freeC x c e),hd⟩
 refine ⟨I.ok,I.os,hg,⟨fun b o e n hb hx=>?_,fun b o e n hb hx=>?_,fun b o e n hx=>?_,fun b o e hx=>?_,fun b xs e=>tups b xs (I.base.tups b xs e),fun b o xs e=>frzs b o xs (I.base.frzs b o xs e),fun b ps e=>?_⟩,?_,fun x c e=>?_,?_,fun x c e=>?_,fun p hp=>?_,hok,I.len⟩
 ·exact keep b o (neL b o e) hb (neC b o e hx) (I.base.keep b o e n hb hx) (I.base.free b o e n hx)
 ·obtain ⟨sl,e1⟩:=I.base.slot b o e n hb hx
  obtain ⟨sl',e2⟩:=slot b _ (neL b o e) hb (neC b o e hx) e1 (I.base.free b o e n hx)
  exact ⟨sl',e2⟩
 ·obtain ⟨o',e1⟩:=I.base.there b o e hx
  exact free b o' (neC b o e hx) e1 (I.base.free b o e n hx)
 ·obtain ⟨o',e1⟩:=I.base.there b o e hx
  exact there b o' (neC b o e hx) e1
 ·obtain ⟨m1,e1⟩:=I.base.tbls b ps e
  obtain ⟨m2,e2⟩:=tbls b _ e1
  exact ⟨m1++m2,by rw [e2,Array.append_assoc]⟩
 ·obtain ⟨m,hn,hl⟩:=I.loc
  refine ⟨m,ns m hn,fun i x v e1 e2 e3=>?_⟩
  obtain ⟨u,r,l⟩:=hl i x v e1 e2 e3
  refine ⟨u,r,?_⟩
  rcases l with l | ⟨k,c,e,z⟩
  ·exact .inl l
  ·exact .inr ⟨k,c,e,cellK x c e _ z⟩
 ·obtain ⟨v,z⟩:=I.cell x c e
  exact ⟨v,cellK x c e v z⟩
 ·obtain ⟨m,⟨o,_,_,ho,_⟩,_⟩:=I.loc
  exact free _ o (fun z=>(hch _ z).2.1 rfl) ho I.free
 ·obtain ⟨v,o,ho,hd⟩:=I.cell x c e
  exact free c o (fun z=>(hch c z).2.2.1 x c e rfl) ho (I.freeC x c e)
 ·obtain ⟨e,n,ne,nf,d⟩:=I.pin p hp
  have nch:p.1∉ch:=fun z=>(hch p.1 z).2.2.2 p hp rfl
  exact ⟨keep p.1 p.2 ne nf nch e n,free p.1 p.2 nch e n,ne,nf,d⟩
theorem Inv.un {t':Nat} (I:Inv X pins σ H s) (u:Un X.fs [] H H' s.heap h') (hok:HOk X.prog X.w H' h'):Inv X pins σ H' { s with heap:=h',toks:=t' }:=by
 obtain ⟨m,⟨o,es,ep,ho,r⟩,_⟩:=id I.loc
 obtain ⟨sl,hL⟩:=u.any ho I.free (by simp)
 exact I.step (g':=s.gens) (d':=s.drawn) (ch:=[]) (fun _ z=>nomatch z) (fun b o _ hb _ e n=>u.keep b o e n hb (by simp)) (fun b o _ hb _ e n=>u.slot b o e n hb (by simp)) (fun b o _ e n=>u.free b o e n (by simp)) (fun b o _ e=>u.there b o e (by simp)) u.tups u.frzs u.tbls (fun m' hm=>by
  obtain ⟨o',es',ep',ho',r'⟩:=hm
  rw [ho] at ho'; cases ho'
  exact ⟨_,es',ep',hL,r'⟩) hok I.bare
theorem Inv.call {g':Array GenState} {t':Nat} {d':Drawn} {ch:List Addr} (I:Inv X pins σ H s) (u:Un (frs X.stack) ch H H' s.heap h') (hok:HOk X.prog X.w H' h') (hg:AllBare g')
  (hch:∀ b∈ch,(b∈X.ex∨X.s₀.heap.objs.size <= b) /\ b≠X.env.locals /\ (∀ x c,X.env.cells.lookup x=some c->c≠b) /\ ∀ p∈X.pn++pins,p.1≠b) :
  Inv X pins σ H' { s with heap:=h',gens:=g',drawn:=d',toks:=t' }:=by
 obtain ⟨m,⟨o,es,ep,ho,r⟩,_⟩:=id I.loc
 obtain ⟨sl,hL⟩:=u.any ho I.free fun z=>(hch _ z).2.1 rfl
 exact I.step (ch:=ch) hch (fun b o hL hb hc e n=>u.keep b o e n (fun z=>(List.mem_cons.mp (I.stkSub b z)).elim hL hb) hc) (fun b o _ _ hc e n=>u.any e n hc) (fun b o hc e n=>u.free b o e n hc) (fun b o hc e=>u.there b o e hc) u.tups u.frzs u.tbls (fun m' hm=>by
  obtain ⟨o',es',ep',ho',r'⟩:=hm
  rw [ho] at ho'; cases ho'
  exact ⟨_,es',ep',hL,r'⟩) hok hg
theorem Inv.turned {t':Nat} {it:Addr} (I:Inv X pins σ H s) (k:∀ b o,b≠it->s.heap.get? b=some o->h'.get? b=some o) (hn:H it=none) (hL:it≠X.env.locals)
  (h1:it∈X.ex∨X.s₀.heap.objs.size <= it) (h2:∀ x c,X.env.cells.lookup x=some c->c≠it) (h3:∀ p∈X.pn++pins,p.1≠it):Inv X pins σ H { s with heap:=h',toks:=t' }:=by
 have nit:∀ b u,H b=some u->b≠it:=fun b u e z=>by rw [z,hn] at e; cases e
 refine I.step (g':=s.gens) (d':=s.drawn) (ch:=[it]) (fun b hb=>?_) (fun b o _ _ hc e _=>k b o (fun z=>hc (by simp [z])) e) (fun b o _ _ hc e _=>⟨o.slots,k b o (fun z=>hc (by simp [z])) e⟩) (fun _ _ _ _ n=>n)
  (fun b o hc e=>⟨o,k b o (fun z=>hc (by simp [z])) e⟩) (fun _ _ e=>e) (fun _ _ _ e=>e) (fun b ps e=>⟨#[],by rw [e]; simp⟩) (fun m hm=>?_) (fun b u e=>?_) I.bare
 ·have e:b=it:=by simpa using hb
  subst e
  exact ⟨h1,hL,h2,h3⟩
 ·obtain ⟨o,es,ep,ho,r⟩:=hm
  exact ⟨o,es,ep,k _ o (Ne.symm hL) ho,r⟩
 ·refine (I.hok b u e).stay (fun c v hc q=>k c v ?_ q) (fun _ q=>q) fun _ _ q=>q
  rcases hc with z | z
  ·rw [z]; exact nit b u e
  ·exact nit c _ z
theorem Inv.tok (I:Inv X pins σ H s) (t:Nat):Inv X pins σ H { s with toks:=t }:=I.un (h':=s.heap) (t':=t) Un.refl I.hok
theorem Inv.kept {t':Nat} (I:Inv X pins σ H s) (k:∀ b u,s.heap.get? b=some u->h'.get? b=some u):Inv X pins σ H { s with heap:=h',toks:=t' }:=I.un (Un.kept k) (I.hok.kept k)
theorem Inv.laid {a:Addr} {o:HO} {t':Nat} (I:Inv X pins σ H s) (k:∀ b u,s.heap.get? b=some u->h'.get? b=some u) (hp:s.heap.objs.size <= a) (new:ObjOk X.prog X.w (upd H a o) h' a o) :
  Inv X pins σ (upd H a o) { s with heap:=h',toks:=t' }:=I.un (Un.laid k hp (I.hok.fresh hp)) (I.hok.laid k hp new)
theorem Inv.write {x e:Addr} {o:HO} {t':Nat} (I:Inv X pins σ H s) (mu:Mut (H x)) (he:e=x∨H e=some (.own x)) (k:∀ b u,b≠e->s.heap.get? b=some u->h'.get? b=some u) (heo:∃ u,h'.get? e=some u)
  (new:ObjOk X.prog X.w (upd H x o) h' x o):Inv X pins σ (upd H x o) { s with heap:=h',toks:=t' }:=I.un (Un.write mu he k heo) (I.hok.write mu he k heo new)
theorem Inv.pins_of {pins':List (Addr×Obj)} (I:Inv X pins σ H s) (h:∀ p∈pins',s.heap.get? p.1=some p.2 /\ H p.1=none /\ p.1≠X.env.locals /\ p.1∉X.fs /\ ∀ v,p.2.data ≠ .cell v):Inv X pins' σ H s :=
 ⟨I.ok,I.os,I.bare,I.base,I.loc,I.cell,I.free,I.freeC,fun p hp=>(List.mem_append.mp hp).elim (fun z=>I.pin p (List.mem_append_left _ z)) (h p),I.hok,I.len⟩
theorem sk {N:List Str} (hN:N.Nodup) {i j:Nat} {x:Str} (a:N[i]? = some x) (b:N[j]? = some x):i=j:=by
 obtain ⟨h1,e1⟩:=List.getElem?_eq_some_iff.mp a
 obtain ⟨h2,e2⟩:=List.getElem?_eq_some_iff.mp b
 exact (List.getElem_inj hN).mp (e1.trans e2.symm)
theorem oV {M:Model} {A:Around} {E:Value->Shared->Prop} {i:Nat} {x:Str} {v:V} {u:Value} {Q:Unit->Shared->Prop} (I:Inv X pins σ H s) (hN:X.N.Nodup) (hi:X.N[i]? = some x) (hx:Loc X.env.scope x) (r:RelV v u)
  (h:∀ s',Inv X pins (σ.set i (some v)) H s'->(∃ a,Heap.SameBut a s.heap s'.heap /\ (a=X.env.locals∨X.env.cells.lookup x=some a))->Q () s') (hf:X.fn x=true∨X.env.scope.names.lookup x=some .local:=by first | exact .inl rfl | exact .inr rfl | assumption):wpAny M A (storeName X.env x u) Q E s:=by
 obtain ⟨m,hn,hl⟩:=id I.loc
 have hcls:(X.env.scope.kind == .class || (X.env.scope.kind == .module && X.env.locals != X.env.globals))=false:=by rw [I.ok.kind]; rfl
 have hiσ:i < σ.length:=by rw [I.len]; exact (List.getElem?_eq_some_iff.mp hi).1
 have cne:=I.cne
 have tracked:∀ {a:Addr} {h':Heap},(∃ o,s.heap.get? a=some o /\ H a=none)->Heap.SameBut a s.heap h'->HOk X.prog X.w H h':=fun {a h'} ha hs b ob e=>by
  obtain ⟨_,_,hfree⟩:=ha
  refine (I.hok b ob e).stay (fun c w' hc q=>(hs.2 c ?_).trans q) (fun _ q=>q) fun _ _ q=>q
  rintro rfl
  rcases hc with rfl | hc
  ·rw [hfree] at e; cases e
  ·rw [hfree] at hc; cases hc
 rcases hx with hk | hk
 ·refine wpAny_storeName_local hk hn (fun h' hn' hs=>?_) hcls
  obtain ⟨oL,_,_,hoL,_⟩:=id hn
  refine h _ ⟨I.ok,I.os,I.bare,⟨fun b o e n hb hx=>?_,fun b o e n hb hx=>?_,I.base.free,fun b o e hx=>?_,I.base.tups,I.base.frzs,I.base.tbls⟩,⟨_,hn',fun j y v' e1 e2 e3=>?_⟩,fun y c e=>?_,I.free,I.freeC,fun p hp=>?_,tracked ⟨oL,hoL,I.free⟩ hs,by simpa using I.len⟩ ⟨_,hs,.inl rfl⟩
  ·exact (hs.2 b (Nat.ne_of_lt (Nat.lt_of_lt_of_le (Heap.lt_size e) I.ok.above))).trans (I.base.keep b o e n hb hx)
  ·obtain ⟨sl,e1⟩:=I.base.slot b o e n hb hx
   exact ⟨sl,(hs.2 b (Nat.ne_of_lt (Nat.lt_of_lt_of_le (Heap.lt_size e) I.ok.above))).trans e1⟩
  ·obtain ⟨o',e1⟩:=I.base.there b o e hx
   exact ⟨o',(hs.2 b (Nat.ne_of_lt (Nat.lt_of_lt_of_le (Heap.lt_size e) I.ok.above))).trans e1⟩
  ·by_cases hj:j=i
   ·subst hj
    rw [hi] at e1; cases e1
    rw [List.getElem?_set_self hiσ] at e2
    cases e2
    exact ⟨u,r,.inl ⟨hk,by simp⟩⟩
   ·rw [List.getElem?_set_ne (Ne.symm hj)] at e2
    obtain ⟨u',r',q⟩:=hl j y v' e1 e2 e3
    refine ⟨u',r',?_⟩
    rcases q with ⟨k,e⟩ | ⟨k,c,e,z⟩
    ·refine .inl ⟨k,?_⟩
     have:y≠x:=fun e=>hj (sk hN e1 (e ▸ hi))
     simp [this,e]
    ·exact .inr ⟨k,c,e,z.sameBut hs (cne y c e)⟩
  ·obtain ⟨w',z⟩:=I.cell y c e
   exact ⟨w',z.sameBut hs (cne y c e)⟩
  ·obtain ⟨e,n,ne,nf,d⟩:=I.pin p hp
   exact ⟨(hs.2 p.1 ne).trans e,n,ne,nf,d⟩
 ·have hfn:X.fn x=true:=by
   rcases hf with z | z
   ·exact z
   ·rw [z] at hk; cases hk
  obtain ⟨c,hc⟩:=I.ok.has x (.inl hk)
  obtain ⟨w',z⟩:=I.cell x c hc
  refine wpAny_storeName_cell I.ok.kind hk hc z (fun h' hc' hs=>?_)
  obtain ⟨oc,hoc,hocd⟩:=id z
  refine h { s with heap:=h' } ⟨I.ok,I.os,I.bare,⟨fun b o e n hb hx=>?_,fun b o e n hb hx=>?_,I.base.free,fun b o e hx=>?_,I.base.tups,I.base.frzs,I.base.tbls⟩,⟨m,hn.sameBut hs (Ne.symm (cne x c hc)),fun j y v' e1 e2 e3=>?_⟩,fun y c' e=>?_,I.free,I.freeC,fun p hp=>?_,tracked ⟨oc,hoc,I.freeC x c hc⟩ hs,by simpa using I.len⟩ ⟨c,hs,.inr hc⟩
  ·exact (hs.2 b (Nat.ne_of_lt (Nat.lt_of_lt_of_le (Heap.lt_size e) (I.ok.cab x c hfn hc)))).trans (I.base.keep b o e n hb hx)
  ·obtain ⟨sl,e1⟩:=I.base.slot b o e n hb hx
   exact ⟨sl,(hs.2 b (Nat.ne_of_lt (Nat.lt_of_lt_of_le (Heap.lt_size e) (I.ok.cab x c hfn hc)))).trans e1⟩
  ·obtain ⟨o',e1⟩:=I.base.there b o e hx
   exact ⟨o',(hs.2 b (Nat.ne_of_lt (Nat.lt_of_lt_of_le (Heap.lt_size e) (I.ok.cab x c hfn hc)))).trans e1⟩
  ·by_cases hj:j=i
   ·subst hj
    rw [hi] at e1; cases e1
    rw [List.getElem?_set_self hiσ] at e2
    cases e2
    exact ⟨u,r,.inr ⟨.inl hk,c,hc,hc'⟩⟩
   ·rw [List.getElem?_set_ne (Ne.symm hj)] at e2
    obtain ⟨u',r',q⟩:=hl j y v' e1 e2 e3
    refine ⟨u',r',?_⟩
    rcases q with q | ⟨k,c',e,z'⟩
    ·exact .inl q
    ·refine .inr ⟨k,c',e,z'.sameBut hs ?_⟩
     rintro rfl
     exact hj (sk hN e1 (I.ok.inj _ _ _ e hc ▸ hi))
  ·by_cases hcc:c'=c
   ·subst hcc; exact ⟨_,hc'⟩
   ·obtain ⟨w2,z2⟩:=I.cell y c' e
    exact ⟨w2,z2.sameBut hs hcc⟩
  ·obtain ⟨e,n,ne,nf,d⟩:=I.pin p hp
   refine ⟨(hs.2 p.1 ?_).trans e,n,ne,nf,d⟩
   intro q
   rw [q,hoc] at e
   have q':oc=p.2:=Option.some.inj e
   exact d w' (by rw [← q']; exact hocd)
theorem kX {M:Model} {A:Around} {E:Value->Shared->Prop} {i:Nat} {x:Str} {v:V} {u:Value} {Q:Unit->Shared->Prop} (I:Inv X pins σ H s) (hN:X.N.Nodup) (hi:X.N[i]? = some x) (hx:Loc X.env.scope x) (r:RelV v u)
  (h:∀ s',Inv X pins (σ.set i (some v)) H s'->Q () s') (hf:X.fn x=true∨X.env.scope.names.lookup x=some .local:=by first | exact .inl rfl | exact .inr rfl | assumption):wpAny M A (storeName X.env x u) Q E s :=
 oV I hN hi hx r (fun s' I' _=>h s' I') hf
theorem Inv.call' {s':Shared} {ch:List Addr} (I:Inv X pins σ H s) (ho:s'.os=s.os) (u:Un (frs X.stack) ch H H' s.heap s'.heap) (hok:HOk X.prog X.w H' s'.heap) (hg:AllBare s'.gens)
  (hch:∀ b∈ch,(b∈X.ex∨X.s₀.heap.objs.size <= b) /\ b≠X.env.locals /\ (∀ x c,X.env.cells.lookup x=some c->c≠b) /\ ∀ p∈X.pn++pins,p.1≠b):Inv X pins σ H' s':=by
 obtain ⟨h',g',d',t',o'⟩:=s'
 have e:o'=s.os:=ho
 subst e
 exact I.call (g':=g') (t':=t') (d':=d') u hok hg hch
end
abbrev XK:=Value->Option Addr->Hp->Prop
abbrev St:=List (Option V)
abbrev VK:=V->Hp->Prop
abbrev TE:=St->Hp->VK->Prop
abbrev TT:=St->Hp->(Bool->Hp->Prop)->Prop
abbrev TA:=St->Hp->(List V->Hp->Prop)->Prop
structure Ends where
 nx:St->Hp->Prop
 rt:VK
 bk:St->Hp->Prop:=fun _ _=>False
 ct:St->Hp->Prop:=fun _ _=>False
abbrev TS:=Ends->St->Hp->Prop
def EP (X:Cx) (pins:List (Addr×Obj)) (σ:St) (Q:VK) (u:Value) (s':Shared):Prop:=∃ v H',Inv X pins σ H' s' /\ RelV v u /\ Q v H'
def TP (X:Cx) (pins:List (Addr×Obj)) (σ:St) (Q:Bool->Hp->Prop) (b:Bool) (s':Shared):Prop:=∃ H',Inv X pins σ H' s' /\ Q b H'
def AP (X:Cx) (pins:List (Addr×Obj)) (σ:St) (Q:List V->Hp->Prop) (us:List Value) (s':Shared):Prop:=∃ vs H',Inv X pins σ H' s' /\ Vals vs us /\ Q vs H'
def SP (X:Cx) (pins:List (Addr×Obj)) (D:Ends) (f:Flow) (s':Shared):Prop :=
 match f with
 | .next=>∃ σ' H',Inv X pins σ' H' s' /\ D.nx σ' H'
 | .brk=>∃ σ' H',Inv X pins σ' H' s' /\ D.bk σ' H'
 | .cont=>∃ σ' H',Inv X pins σ' H' s' /\ D.ct σ' H'
 | .ret u=>∃ v σ' H',Inv X pins σ' H' s' /\ RelV v u /\ D.rt v H'
def PE (X:Cx) (e:Expr) (t:TE):Prop :=
 ∀ (pins:List (Addr×Obj)) (s:Shared) (σ:St) (H:Hp) (Q:VK),Inv X pins σ H s->t σ H Q->wpAny (model X.prog X.w) X.A (eval e X.env) (EP X pins σ Q) X.xe s
def PT (X:Cx) (e:Expr) (t:TT):Prop :=
 ∀ (pins:List (Addr×Obj)) (s:Shared) (σ:St) (H:Hp) (Q:Bool->Hp->Prop),Inv X pins σ H s->t σ H Q->wpAny (model X.prog X.w) X.A (isTrue e X.env (eval e X.env)) (TP X pins σ Q) X.xe s
def PW (X:Cx) (e:Expr) (t:TT):Prop :=
 ∀ (whole:Sem Value) (pins:List (Addr×Obj)) (s:Shared) (σ:St) (H:Hp) (Q:Bool->Hp->Prop),Inv X pins σ H s->t σ H Q->wpAny (model X.prog X.w) X.A (isTrue e X.env whole) (TP X pins σ Q) X.xe s
theorem PW.pt {X:Cx} {e:Expr} {t:TT} (h:PW X e t):PT X e t:=h _
def PA (X:Cx) (es:List Expr) (t:TA):Prop :=
 ∀ (pos:Pos) (pins:List (Addr×Obj)) (s:Shared) (σ:St) (H:Hp) (Q:List V->Hp->Prop),Inv X pins σ H s->t σ H Q->wpAny (model X.prog X.w) X.A (spliced (backTo pos (starEach es X.env))) (AP X pins σ Q) X.xe s
def PS (X:Cx) (st:Stmt) (t:TS):Prop :=
 ∀ (pins:List (Addr×Obj)) (s:Shared) (σ:St) (H:Hp) (D:Ends),Inv X pins σ H s->t D σ H->wpAny (model X.prog X.w) X.A (exec st X.env) (SP X pins D) X.xe s
def PSs (X:Cx) (st:List Stmt) (t:TS):Prop :=
 ∀ (pins:List (Addr×Obj)) (s:Shared) (σ:St) (H:Hp) (D:Ends),Inv X pins σ H s->t D σ H->wpAny (model X.prog X.w) X.A (execs st X.env) (SP X pins D) X.xe s
theorem thn {α:Type} {t:Sem α} {Q Q':α->Shared->Prop} {M:Model} {A:Around} {E:Value->Shared->Prop} {s:Shared} (h:wpAny M A t Q E s) (hQ:∀ a s,Q a s->Q' a s):wpAny M A t Q' E s:=wpAny_mono h hQ fun _ _ x=>x
end L2
namespace L2
open PySem PySem.Spec PyProof.Rows
section
variable {X:Cx}
def tVar (i:Nat):TE:=fun σ H Q=>∃ v,σ[i]? = some (some v) /\ Q v H
def tC (v:V):TE:=fun _ H Q=>Q v H
theorem An {i:Nat} {x:Str} {pos:Pos} (hN:X.N[i]? = some x) (hv:Vis X.env.scope x) (hd:(x == ("__debug__" : Str))=false:=by decide) (hcd:(x == ("__classdict__" : Str))=false:=by decide):PE X (.Name x pos) (tVar i):=by
 intro pins s σ H Q I h
 obtain ⟨v,e,h⟩:=h
 obtain ⟨m,hn,hl⟩:=I.loc
 obtain ⟨u,r,l⟩:=hl i x v hN e hv
 have fin:EP X pins σ Q u s:=⟨v,H,I,r,h⟩
 rcases l with ⟨hk,hm⟩ | ⟨hk,c,hc,hcell⟩
 ·exact wpAny_Name (wpAny_loadName_local I.ok.kind hk hn hm fin) hd
 ·rcases hk with hk | hk
  ·exact wpAny_Name (wpAny_loadName_cell I.ok.kind hk hc hcell fin) hd
  ·exact wpAny_Name (wpAny_loadName_free I.ok.kind hk hc hcell fin hcd) hd
theorem cz {i j pos}:PE X (.Constant (.int i) j pos) (tC (.int i)):=fun _ _ _ H _ I h=>wpAny_Constant_int ⟨.int i,H,I.tok _,⟨_,rfl⟩,h⟩
theorem Ct {b j pos}:PE X (.Constant (.bool b) j pos) (tC (.bl b)):=fun _ _ _ H _ I h=>Constant_bool ⟨.bl b,H,I,rfl,h⟩
theorem Ao {j pos}:PE X (.Constant .none j pos) (tC .non):=fun _ _ _ H _ I h=>Constant_none ⟨.non,H,I,rfl,h⟩
theorem Ap {x j pos}:PE X (.Constant (.str x) j pos) (tC (.str x)):=fun _ _ _ H _ I h=>Calls.Constant_str ⟨.str x,H,I.tok _,⟨_,rfl⟩,h⟩
def Gl (X:Cx) (x:Str):Prop:=X.env.kindOf x=some .globalImplicit
theorem yq {E:Value->Shared->Prop} {pins:List (Addr×Obj)} {s:Shared} {σ:St} {H:Hp} {x:Str} {u:Value} {pos:Pos} {Q:Value->Shared->Prop} (I:Inv X pins σ H s) (hg:Gl X x) (hm:X.mg x=some u) (h:Q u s)
  (hd:(x == ("__debug__" : Str))=false:=by decide):wpAny (model X.prog X.w) X.A (eval (.Name x pos) X.env) Q E s :=
 Calls.Name_function_global I.ok.kind hg (Calls.loadGlobal_global (by rw [I.ok.glob]; exact I.mod.glob.keeps I.bk) hm h) hd
theorem lA {E:Value->Shared->Prop} {pins:List (Addr×Obj)} {s:Shared} {σ:St} {H:Hp} {x:Str} {u:Value} {pos:Pos} {Q:Value->Shared->Prop} (I:Inv X pins σ H s) (hg:Gl X x) (hm:X.mg x=none) (hv:bootBuiltins x=some u) (h:Q u s)
  (hn:x ≠ "__name__":=by decide) (hd:(x == ("__debug__" : Str))=false:=by decide):wpAny (model X.prog X.w) X.A (eval (.Name x pos) X.env) Q E s:=by
 obtain ⟨mb,h1,h2⟩:=I.mod.blt
 exact Calls.Name_function_global I.ok.kind hg (Calls.loadGlobal_builtin (by rw [I.ok.glob]; exact I.mod.glob.keeps I.bk) hm (by rw [I.ok.blt]; exact h1.keeps I.bk) ((h2 x hn).trans hv) h) hd
theorem yr {x:Str} {v:V} {u:Value} {pos:Pos} (hg:Gl X x) (hm:X.mg x=none) (hv:bootBuiltins x=some u) (r:RelV v u) (hn:x ≠ "__name__":=by decide) (hd:(x == ("__debug__" : Str))=false:=by decide):PE X (.Name x pos) (tC v) :=
 fun _ _ _ H _ I h=>lA I hg hm hv ⟨v,H,I,r,h⟩ hn hd
variable {a b:Expr} {ta tb:TE} {pos:Pos}
def tB (t:TE):TT:=fun σ H Q=>t σ H fun x H1=>∃ c,x = .bl c /\ Q c H1
theorem Ar {e:Expr} {t:TE} (h:PE X e t) (he:∀ whole,isTrue e X.env whole=(do let v ← whole; standAt e.pos; holding [v] (truthy v)):=by intro _; rfl):PT X e (tB t):=by
 intro pins s σ H Q I hw
 refine isTrue_plain (thn (h pins s σ H _ I hw) fun v s1 ⟨x,H1,I1,r1,q1⟩=>?_) (he _)
 obtain ⟨d,rfl,q⟩:=q1
 cases r1
 exact wpAny_truthy_bool ⟨H1,I1,q⟩
variable {tA tB':TT} {rest:List Expr}
def tAnd (t u:TT):TT:=fun σ H Q=>t σ H fun c H1=>if c=true then u σ H1 Q else Q false H1
def tOr (t u:TT):TT:=fun σ H Q=>t σ H fun c H1=>if c=true then Q true H1 else u σ H1 Q
def tNot (t:TT):TT:=fun σ H Q=>t σ H fun c H1=>Q (!c) H1
theorem yt (ha:PT X a tA):PW X (.BoolOp .And [a] pos) tA:=by
 intro wh pins s σ H Q I h
 refine isTrue_and (thn (ha pins s σ H Q I h) fun c s1 e=>?_)
 cases c with
 | true=>exact isTrue_and_nil e
 | false=>exact e
theorem xQ (ha:PT X a tA):PW X (.BoolOp .Or [a] pos) tA:=by
 intro wh pins s σ H Q I h
 refine isTrue_or (thn (ha pins s σ H Q I h) fun c s1 e=>?_)
 cases c with
 | false=>exact isTrue_or_nil e
 | true=>exact e
theorem At (ha:PT X a tA) (hb:PW X (.BoolOp .And (b::rest) pos) tB'):PW X (.BoolOp .And (a::b::rest) pos) (tAnd tA tB'):=by
 intro wh pins s σ H Q I h
 refine isTrue_and (thn (ha pins s σ H _ I h) fun c s1 ⟨H1,I1,q1⟩=>?_)
 cases c with
 | true=>exact hb wh pins s1 σ H1 Q I1 q1
 | false=>exact ⟨H1,I1,q1⟩
theorem Au (ha:PT X a tA) (hb:PW X (.BoolOp .Or (b::rest) pos) tB'):PW X (.BoolOp .Or (a::b::rest) pos) (tOr tA tB'):=by
 intro wh pins s σ H Q I h
 refine isTrue_or (thn (ha pins s σ H _ I h) fun c s1 ⟨H1,I1,q1⟩=>?_)
 cases c with
 | true=>exact ⟨H1,I1,q1⟩
 | false=>exact hb wh pins s1 σ H1 Q I1 q1
theorem Av (ha:PT X a tA):PT X (.UnaryOp .Not a pos) (tNot tA):=by
 intro pins s σ H Q I h
 exact isTrue_not (ha pins s σ H (fun c H1=>Q (!c) H1) I h)
def Cu (ta tb:TE):TE:=fun σ H Q=>ta σ H fun x H1=>∃ c,x = .bl c /\ if c=true then tb σ H1 Q else Q (.bl false) H1
def Cv (ta:TE):TE:=fun σ H Q=>ta σ H fun x H1=>∃ c,x = .bl c /\ Q (.bl (!c)) H1
theorem Aw {op} {t:TE} (h:PE X a t):PE X (.BoolOp op [a] pos) t:=fun pins s σ H Q I hw=>BoolOp_one (h pins s σ H Q I hw)
theorem Ax (ha:PE X a ta) (hb:PE X (.BoolOp .And (b::rest) pos) tb):PE X (.BoolOp .And (a::b::rest) pos) (Cu ta tb):=by
 intro pins s σ H Q I h
 refine BoolOp_and (thn (ha pins s σ H _ I h) fun v s1 ⟨x,H1,I1,r1,q1⟩=>?_)
 obtain ⟨c,rfl,q1⟩:=q1
 cases r1
 refine wpAny_truthy_bool ?_
 cases c with
 | true=>exact hb pins s1 σ H1 Q I1 q1
 | false=>exact ⟨.bl false,H1,I1,rfl,q1⟩
theorem Ay (ha:PE X a ta):PE X (.UnaryOp .Not a pos) (Cv ta):=by
 intro pins s σ H Q I h
 refine UnaryOp_ (thn (ha pins s σ H _ I h) fun v s1 ⟨x,H1,I1,r1,q1⟩=>?_)
 obtain ⟨c,rfl,q1⟩:=q1
 cases r1
 exact not_of (wpAny_truthy_bool ⟨.bl (!c),H1,I1,rfl,q1⟩)
def tIf (t:TT) (ta tb:TE):TE:=fun σ H Q=>t σ H fun c H1=>if c=true then ta σ H1 Q else tb σ H1 Q
theorem wC {c:Expr} (hc:PT X c tA) (ha:PE X a ta) (hb:PE X b tb):PE X (.IfExp c a b pos) (tIf tA ta tb):=by
 intro pins s σ H Q I h
 refine wpAny_IfExp (thn (hc pins s σ H _ I h) fun d s1 ⟨H1,I1,q1⟩=>?_)
 cases d with
 | true=>exact ha pins s1 σ H1 Q I1 q1
 | false=>exact hb pins s1 σ H1 Q I1 q1
end
end L2
namespace L2
open PySem PySem.Spec PyProof.Rows
def SqL (K:PySem.W.Frag) (H:Hp) (a:Addr) (xs:List V):Prop :=
 Rd H a (.lst xs) ∨
  ∃ (o:Obj) (its:Array Value) (n:Nat),K.lookup a=some o /\ o.cls = .type "list" /\ o.dict=none /\ o.data = .seq its n /\ its.size <= sizeLine /\ Vals xs its.toList
def SqT (K:PySem.W.Frag) (H:Hp) (a:Addr) (xs:List V):Prop :=
 Rd H a (.tup xs) ∨
  ∃ (o:Obj) (its:Array Value) (n:Nat),K.lookup a=some o /\ o.cls = .type "tuple" /\ o.data = .seq its n /\ its.size <= sizeLine /\ Vals xs its.toList
def absV:Value->Option V
 | .none=>some .non
 | .bool b=>some (.bl b)
 | .int i _=>some (.int i)
 | .str x _=>some (.str x)
 | .bytes b _=>some (.byt b)
 | .float b _=>some (.flt b)
 | .ref a=>some (.ref a)
 | .type n=>some (.ty n)
 | _=>none
theorem RelV.abs {x:V} {u:Value} (r:RelV x u):absV u=some x:=by
 cases x with
 | non=>cases r; rfl
 | bl _=>cases r; rfl
 | int _=>obtain ⟨t,rfl⟩:=r; rfl
 | str _=>obtain ⟨t,rfl⟩:=r; rfl
 | byt _=>obtain ⟨t,rfl⟩:=r; rfl
 | flt _=>obtain ⟨t,rfl⟩:=r; rfl
 | ref _=>cases r; rfl
 | ty _=>cases r; rfl
theorem RelV.inj {x y:V} {u:Value} (r:RelV x u) (q:RelV y u):x=y:=Option.some.inj (r.abs.symm.trans q.abs)
theorem Vals.inj:∀ {xs ys:List V} {us:List Value},Vals xs us->Vals ys us->xs=ys
 | _,_,_,.nil,.nil=>rfl
 | _,_,_,.cons r t,.cons r' t'=>by rw [r.inj r',Vals.inj t t']
section
variable {X:Cx} {pins:List (Addr×Obj)} {σ:St} {H:Hp} {s:Shared} {a:Addr} {xs ys:List V}
theorem SqL.of {K:PySem.W.Frag} (h:H a=some (.lst xs)):SqL K H a xs:=.inl (.inl h)
theorem SqT.of {K:PySem.W.Frag} (h:H a=some (.tup xs)):SqT K H a xs:=.inl (.inl h)
theorem Inv.list (I:Inv X pins σ H s) (h:SqL X.K H a xs):∃ its:List Value,Vals xs its /\ PlainL s.heap a its.toArray /\ xs.length <= sizeLine:=by
 rcases h with h | ⟨o,its,n,hk,hc,hd,hs,hz,r⟩
 ·obtain ⟨z,its,n,r,e⟩:=h.ok I.hok
  exact ⟨its,r,⟨_,n,e,rfl,rfl,rfl⟩,z⟩
 ·refine ⟨its.toList,r,⟨o,n,I.kIn a o hk,hc,hd,by simpa using hs⟩,?_⟩
  have e:=r.length
  simp only [Array.length_toList] at e
  omega
theorem Inv.tuple (I:Inv X pins σ H s) (h:SqT X.K H a xs):∃ its:List Value,Vals xs its /\ IsTup s.heap a its.toArray /\ xs.length <= sizeLine:=by
 rcases h with h | ⟨o,its,n,hk,hc,hs,hz,r⟩
 ·obtain ⟨z,its,r,p⟩:=h.ok I.hok
  exact ⟨its,r,p,z⟩
 ·refine ⟨its.toList,r,⟨o,I.kIn a o hk,hc,n,by simpa using hs⟩,?_⟩
  have e:=r.length
  simp only [Array.length_toList] at e
  omega
theorem Inv.list_inj (I:Inv X pins σ H s) (h:SqL X.K H a xs) (h':SqL X.K H a ys):xs=ys:=by
 obtain ⟨its,r,⟨o,n,e,_,_,d⟩,_⟩:=I.list h
 obtain ⟨its',r',⟨o',n',e',_,_,d'⟩,_⟩:=I.list h'
 rw [e] at e'; cases e'
 rw [d] at d'
 injection d' with d1 _
 have:its=its':=by simpa using congrArg Array.toList d1
 subst this
 exact r.inj r'
theorem Inv.tuple_inj (I:Inv X pins σ H s) (h:SqT X.K H a xs) (h':SqT X.K H a ys):xs=ys:=by
 obtain ⟨its,r,⟨o,e,_,n,d⟩,_⟩:=I.tuple h
 obtain ⟨its',r',⟨o',e',_,n',d'⟩,_⟩:=I.tuple h'
 rw [e] at e'; cases e'
 rw [d] at d'
 injection d' with d1 _
 have:its=its':=by simpa using congrArg Array.toList d1
 subst this
 exact r.inj r'
end
abbrev Cx.wish (X:Cx) (E:Value->Shared->Prop):Cx:={ X with xe:=E }
abbrev Cx.nox (X:Cx):Cx:=X.wish fun _ _=>False
theorem Cx.Ok.wish {X:Cx} (ok:X.Ok) (E:Value->Shared->Prop):(X.wish E).Ok :=
 ⟨ok.mod,ok.kind,ok.glob,ok.blt,ok.above,ok.inj,ok.has,ok.cab,ok.hd,ok.frames,ok.stk,ok.exf,ok.bs,ok.bsz,ok.noex,ok.exfs,ok.funs,ok.frf⟩
theorem Cx.Ok.unwish {X:Cx} {E:Value->Shared->Prop} (ok:(X.wish E).Ok):X.Ok :=
 ⟨ok.mod,ok.kind,ok.glob,ok.blt,ok.above,ok.inj,ok.has,ok.cab,ok.hd,ok.frames,ok.stk,ok.exf,ok.bs,ok.bsz,ok.noex,ok.exfs,ok.funs,ok.frf⟩
section
variable {X:Cx} {pins:List (Addr×Obj)} {σ:St} {H:Hp} {s:Shared} {E:Value->Shared->Prop}
theorem Inv.wish (I:Inv X pins σ H s) (E:Value->Shared->Prop):Inv (X.wish E) pins σ H s:=⟨I.ok.wish E,I.os,I.bare,I.base,I.loc,I.cell,I.free,I.freeC,I.pin,I.hok,I.len⟩
theorem Inv.unwish (I:Inv (X.wish E) pins σ H s):Inv X pins σ H s:=⟨I.ok.unwish,I.os,I.bare,I.base,I.loc,I.cell,I.free,I.freeC,I.pin,I.hok,I.len⟩
theorem SP.unwish {D:Ends} {f:Flow} {s':Shared} (h:SP (X.wish E) pins D f s'):SP X pins D f s':=by
 cases f with
 | next=>obtain ⟨σ',H',I,q⟩:=h; exact ⟨σ',H',I.unwish,q⟩
 | brk=>obtain ⟨σ',H',I,q⟩:=h; exact ⟨σ',H',I.unwish,q⟩
 | cont=>obtain ⟨σ',H',I,q⟩:=h; exact ⟨σ',H',I.unwish,q⟩
 | ret u=>obtain ⟨v,σ',H',I,r,q⟩:=h; exact ⟨v,σ',H',I.unwish,r,q⟩
theorem PE.nox {e:Expr} {t:TE} (h:PE X.nox e t):PE X e t:=fun pins s σ H Q I hw =>
 wpAny_mono (h pins s σ H Q (I.wish _) hw) (fun _ _ ⟨v,H',I',r,q⟩=>⟨v,H',I'.unwish,r,q⟩) fun _ _ z=>False.elim z
theorem PT.nox {e:Expr} {t:TT} (h:PT X.nox e t):PT X e t:=fun pins s σ H Q I hw =>
 wpAny_mono (h pins s σ H Q (I.wish _) hw) (fun _ _ ⟨H',I',q⟩=>⟨H',I'.unwish,q⟩) fun _ _ z=>False.elim z
theorem PSs.nox {st:List Stmt} {t:TS} (h:PSs X.nox st t):PSs X st t:=fun pins s σ H D I hw =>
 wpAny_mono (h pins s σ H D (I.wish _) hw) (fun _ _ q=>q.unwish) fun _ _ z=>False.elim z
end
section
variable {X:Cx} {st:Stmt} {rest:List Stmt} {t u:TS} {e:Expr} {te:TE} {pos:Pos}
def Cw:TS:=fun D σ H=>D.nx σ H
def tSeq (t u:TS):TS:=fun D σ H=>t { D with nx:=u D } σ H
theorem nG:PSs X [] Cw:=fun _ _ σ H _ I h=>wpAny_execs_nil ⟨σ,H,I,h⟩
theorem bY (h1:PS X st t) (h2:PSs X rest u):PSs X (st::rest) (tSeq t u):=by
 intro pins s σ H D I h
 refine wpAny_execs_cons (thn (h1 pins s σ H { D with nx:=u D } I h) fun f s1 q=>?_)
 cases f with
 | next =>
  obtain ⟨σ',H',I',q⟩:=q
  exact h2 pins s1 σ' H' D I' q
 | ret v=>exact q
 | brk=>exact q
 | cont=>exact q
theorem iD (h1:PS X st t):PSs X [st] t:=by
 intro pins s σ H D I h
 refine wpAny_execs_cons (thn (h1 pins s σ H D I h) fun f s1 q=>?_)
 cases f with
 | next=>exact wpAny_execs_nil q
 | ret v=>exact q
 | brk=>exact q
 | cont=>exact q
theorem Inv.quiet {pins:List (Addr×Obj)} {σ:St} {H:Hp} {s:Shared} (I:Inv X pins σ H s):interactive X.env=false:=by simp [interactive,I.ok.kind]
def Cy (te:TE):TS:=fun D σ H=>te σ H fun _ H1=>D.nx σ H1
theorem uE (he:PE X e te) (hs:swapsWith e none pos.line X.env=pure false:=by rfl):PS X (.Expr e pos) (Cy te):=by
 intro pins s σ H D I h
 exact wpAny_Expr_any (thn (he pins s σ H _ I h) fun v s1 ⟨x,H1,I1,r1,q1⟩=>⟨σ,H1,I1,q1⟩) I.quiet hs
def tRet (te:TE):TS:=fun D σ H=>te σ H D.rt
theorem oW (he:PE X e te):PS X (.Return (some e) pos) (tRet te):=by
 intro pins s σ H D I h
 exact wpAny_Return_some (thn (he pins s σ H _ I h) fun v s1 ⟨x,H1,I1,r1,q1⟩=>⟨x,σ,H1,I1,r1,q1⟩)
def tIfS (c:TT) (t u:TS):TS:=fun D σ H=>c σ H fun b H1=>if b=true then t D σ H1 else u D σ H1
theorem wD {c:Expr} {a b:List Stmt} {tc:TT} (hc:PT X c tc) (ha:PSs X a t) (hb:PSs X b u):PS X (.If c a b pos) (tIfS tc t u):=by
 intro pins s σ H D I h
 refine wpAny_If (thn (hc pins s σ H _ I h) fun d s1 ⟨H1,I1,q1⟩=>?_)
 cases d with
 | true=>exact ha pins s1 σ H1 D I1 q1
 | false=>exact hb pins s1 σ H1 D I1 q1
def Az:TS:=fun _ _ _=>False
theorem wE:PS X st Az:=fun _ _ _ _ _ _ h=>h.elim
end
abbrev TG:=V->St->Hp->(St->Hp->Prop)->Prop
abbrev TGs:=List V->St->Hp->(St->Hp->Prop)->Prop
def PG (X:Cx) (target:Expr) (t:TG):Prop :=
 ∀ (pins:List (Addr×Obj)) (s:Shared) (σ:St) (H:Hp) (v:V) (u:Value) (Q:St->Hp->Prop),Inv X pins σ H s->RelV v u->t v σ H Q ->
  wpAny (model X.prog X.w) X.A (assign target X.env u) (fun _ s'=>∃ σ' H',Inv X pins σ' H' s' /\ Q σ' H') X.xe s
def PGs (X:Cx) (ts:List Expr) (t:TGs):Prop :=
 ∀ (pins:List (Addr×Obj)) (s:Shared) (σ:St) (H:Hp) (vs:List V) (us:List Value) (Q:St->Hp->Prop),Inv X pins σ H s->Vals vs us->t vs σ H Q ->
  wpAny (model X.prog X.w) X.A (assignInOrder ((assignEach ts X.env).map (·.2)) us) (fun _ s'=>∃ σ' H',Inv X pins σ' H' s' /\ Q σ' H') X.xe s
abbrev TSet:=V->V->V->Hp->(Hp->Prop)->Prop
def PSet (X:Cx) (t:TSet):Prop :=
 ∀ (pins:List (Addr×Obj)) (s:Shared) (σ:St) (H:Hp) (o i v:V) (ov iv u:Value) (Q:Hp->Prop),Inv X pins σ H s->RelV o ov->RelV i iv->RelV v u->t o i v H Q ->
  wpAny (model X.prog X.w) X.A (setItem ov iv u) (fun _ s'=>∃ H',Inv X pins σ H' s' /\ Q H') X.xe s
section
variable {X:Cx} {pos:Pos}
def uF (i:Nat):TG:=fun v σ H Q=>Q (σ.set i (some v)) H
theorem nH {i:Nat} {x:Str} (hN:X.N.Nodup) (hi:X.N[i]? = some x) (hx:Loc X.env.scope x) (hf:X.fn x=true∨X.env.scope.names.lookup x=some .local:=by first | exact .inl rfl | exact .inr rfl | assumption):PG X (.Name x pos) (uF i):=by
 intro pins s σ H v u Q I r h
 exact wpAny_assign_Name (kX I hN hi hx r (fun s' I'=>⟨_,H,I',h⟩) hf)
def gNil:TGs:=fun vs σ H Q=>vs=[] /\ Q σ H
def Cz (t:TG) (u:TGs):TGs:=fun vs σ H Q=>∃ v r,vs=v::r /\ t v σ H fun σ' H'=>u r σ' H' Q
theorem uG:PGs X [] gNil:=by
 intro pins s σ H vs us Q I r h
 obtain ⟨e,h⟩:=h
 subst e
 cases r
 exact assignInOrder_nil ⟨σ,H,I,h⟩
theorem kY {e:Expr} {es:List Expr} {t:TG} {u:TGs} (h1:PG X e t) (h2:PGs X es u)
  (hs:(assignEach (e::es) X.env).map (·.2)=assign e X.env::(assignEach es X.env).map (·.2):=by rfl):PGs X (e::es) (Cz t u):=by
 intro pins s σ H vs us Q I r h
 obtain ⟨v,vr,e1,h⟩:=h
 subst e1
 cases r with
 | cons r rr =>
  rw [hs]
  refine assignInOrder_cons (thn (h1 pins s σ H _ _ _ I r h) fun _ s1 ⟨σ1,H1,I1,q1⟩=>?_)
  exact h2 pins s1 σ1 H1 _ _ Q I1 rr q1
def gTup (K:PySem.W.Frag) (n:Nat) (t:TGs):TG:=fun v σ H Q=>∃ a xs,v = .ref a /\ SqT K H a xs /\ xs.length=n /\ t xs σ H Q
theorem AA {es:List Expr} {k:Nat} {t:TGs} {n:Nat} (hc:X.calm=true) (h:PGs X es t)
  (hn:(assignEach es X.env).length=n:=by rfl) (hst:(assignEach es X.env).findIdx? (·.1)=none:=by rfl):PG X (.Tuple es k pos) (gTup X.K n t):=by
 intro pins s σ H v u Q I r hw
 obtain ⟨a,xs,e1,hq,hl,hw⟩:=hw
 subst e1
 cases r
 obtain ⟨its,rv,ht,hz⟩:=I.tuple hq
 refine assign_Tuple_tuple (I.ok.hd hc) ht (by simp [hn,← hl,rv.length]) hst fun h' hx=>?_
 have I1:Inv X pins σ H { s with heap:=h' }:=I.kept (t':=s.toks) fun b o e=>hx b o (Nat.ne_of_lt (Heap.lt_size e)) e
 exact h pins _ σ H xs _ Q I1 (by simpa using rv) hw
def gSub (to ti:TE) (t:TSet):TG:=fun v σ H Q=>to σ H fun o H1=>ti σ H1 fun i H2=>t o i v H2 fun H3=>Q σ H3
theorem uH {o i:Expr} {to ti:TE} {t:TSet} (ho:PE X o to) (hi:PE X i ti) (hs:PSet X t)
  (ha:∀ v,assign (.Subscript o i pos) X.env v=(do
   let ov ← holding [v] (eval o X.env)
   let iv ← holding [v,ov] (eval i X.env)
   standAt pos
   holding [v,ov,iv] (setItem ov iv v)
   release [v,ov,iv] []):=by intro _; rfl):PG X (.Subscript o i pos) (gSub to ti t):=by
 intro pins s σ H v u Q I r h
 rw [ha]
 refine wpAny_bind (wpAny_holding (thn (ho pins s σ H _ I h) fun ov s1 ⟨x,H1,I1,r1,q1⟩=>?_))
 refine wpAny_bind (wpAny_holding (thn (hi pins s1 σ H1 _ I1 q1) fun iv s2 ⟨y,H2,I2,r2,q2⟩=>?_))
 refine wpAny_bind (wpAny_standAt (wpAny_bind (wpAny_holding (thn (hs pins s2 σ H2 x y v ov iv u _ I2 r1 r2 r q2) fun _ s3 ⟨H3,I3,q3⟩=>?_))))
 exact wpAny_release ⟨σ,H3,I3,q3⟩
def tAsg (te:TE) (g:TG):TS:=fun D σ H=>te σ H fun x H1=>g x σ H1 D.nx
theorem oX {tg e:Expr} {te:TE} {g:TG} (he:PE X e te) (hg:PG X tg g) (hs:swapsWithSole [tg] e pos.line X.env=pure false:=by rfl) (hw:swappedStores [tg] e X.env=pure none:=by rfl)
  (h1:(assignEach [tg] X.env).map (·.2)=[assign tg X.env]:=by rfl):PS X (.Assign [tg] e pos) (tAsg te g):=by
 intro pins s σ H D I h
 refine wpAny_Assign_stores (thn (he pins s σ H _ I h) fun v s1 ⟨x,H1,I1,r1,q1⟩=>?_) hs hw
 rw [h1]
 exact thn (hg pins s1 σ H1 x v _ I1 r1 q1) fun _ s2 q=>q
theorem iy {i:Nat} {x:Str} {e:Expr} {te:TE} {pos':Pos} (hN:X.N.Nodup) (hi:X.N[i]? = some x) (hx:Loc X.env.scope x) (he:PE X e te) (hs:swapsWith e (some (.Name x pos')) pos.line X.env=pure false:=by rfl) (hf:X.fn x=true∨X.env.scope.names.lookup x=some .local:=by first | exact .inl rfl | exact .inr rfl | assumption) :
  PS X (.Assign [.Name x pos'] e pos) (tAsg te (uF i)):=by
 intro pins s σ H D I h
 refine wpAny_Assign_Name (thn (he pins s σ H _ I h) fun v s1 ⟨y,H1,I1,r1,q1⟩=>?_) hs
 exact kX I1 hN hi hx r1 (fun s2 I2=>⟨_,H1,I2,q1⟩) hf
def tPar (i j:Nat) (ta:TA):TS:=fun D σ H=>ta σ H fun vs H1=>∃ v w,vs=[v,w] /\ D.nx ((σ.set i (some v)).set j (some w)) H1
theorem AC {i j:Nat} {x y:Str} {a b:Expr} {ta:TA} {px py pt:Pos} {kt k2 pt2} (hc:X.calm=true) (hN:X.N.Nodup) (hi:X.N[i]? = some x) (hj:X.N[j]? = some y) (hij:i≠j)
  (hx:X.env.scope.names.lookup x=some .local) (hy:X.env.scope.names.lookup y=some .local) (ha:PA X [a,b] ta)
  (hw:swappedStores [.Tuple [.Name x px,.Name y py] kt pt] (.Tuple [a,b] k2 pt2) X.env=pure (some [x,y]))
  (hs:swapsWithSole [.Tuple [.Name x px,.Name y py] kt pt] (.Tuple [a,b] k2 pt2) pos.line X.env=pure false:=by rfl) :
  PS X (.Assign [.Tuple [.Name x px,.Name y py] kt pt] (.Tuple [a,b] k2 pt2) pos) (tPar i j ta):=by
 intro pins s σ H D I h
 rw [exec_Assign_arm]
 refine wpAny_bind (wpAny_standAt ?_)
 rw [hs]
 refine wpAny_bind (wpAny_pure ?_)
 rw [if_neg (by decide)]
 refine wpAny_bind (Tuple_ (thn (ha _ pins s σ H _ I h) fun us s1 ⟨vs,H1,I1,r1,q1⟩=>?_))
 obtain ⟨v,w,e1,q1⟩:=q1
 subst e1
 obtain ⟨u1,u2,rfl,rv,rw'⟩:∃ u1 u2,us=[u1,u2] /\ RelV v u1 /\ RelV w u2:=by
  cases r1 with
  | cons p q =>
   cases q with
   | cons p' q' =>
    cases q'
    exact ⟨_,_,rfl,p,p'⟩
 refine wpAny_newObj_type ?_ (by show 2 <= sizeLine; decide)
 have I2:Inv X pins σ H1 { s1 with heap:=s1.heap.push { cls:=.type "tuple",data:=.seq [u1,u2].toArray } }:=I1.kept (t':=s1.toks) fun b o e=>Heap.get?_push_of_some _ e
 rw [hw]
 refine wpAny_bind (wpAny_pure ?_)
 show wpAny (model X.prog X.w) X.A (do rule "assign.swapped-stores"; let items ← unpackItems (.ref s1.heap.objs.size) 2 none; assignInOrder [fun v=>bindName X.env y v,fun v=>bindName X.env x v] items.reverse; pure Flow.next) _ _ _
 refine wpAny_bind (wpAny_rule (wpAny_bind (unpackItems_tuple (items:=#[u1,u2]) (I.ok.hd hc) (IsTup.new s1.heap _) fun h' hx'=>?_)))
 have I3:=I2.kept (h':=h') (t':=s1.toks) fun b o e=>hx' b o (Nat.ne_of_lt (Heap.lt_size e)) e
 show wpAny _ _ (assignInOrder [fun v=>bindName X.env y v,fun v=>bindName X.env x v] [u2,u1] >>= fun _=>pure Flow.next) _ _ _
 refine wpAny_bind (assignInOrder_cons (wpAny_bindName (kX I3 hN hj (.inl hy) rw' (fun s2 I4=>?_) (.inr hy))))
 refine assignInOrder_cons (wpAny_bindName (kX I4 hN hi (.inl hx) rv (fun s3 I5=>assignInOrder_nil (wpAny_pure ?_)) (.inr hx)))
 rw [List.set_comm _ _ (Ne.symm hij)] at I5
 exact ⟨_,H1,I5,q1⟩
end
section
variable {X:Cx} {pos:Pos}
def AD (c:TT) (tb:TS):TS:=fun D σ H=>∃ W:Nat->St->Hp->Prop,(∃ m,W m σ H) /\ ∀ m σ H,W m σ H ->
 c σ H fun b H1=>if b=true then ∃ N:St->Hp->Prop,(∀ σ' H',N σ' H'->∃ m',m' < m /\ W m' σ' H') /\ tb { D with nx:=N,ct:=N,bk:=D.nx } σ H1 else D.nx σ H1
theorem wF {c:Expr} {body:List Stmt} {tc:TT} {tb:TS} (hp:PassesOwn (model X.prog X.w) X.A X.env X.xe) (hc:PT X c tc) (hb:PSs X body tb):PS X (.While c body [] pos) (AD tc tb):=by
 intro pins s σ H D I h
 obtain ⟨W,⟨m0,w0⟩,turn⟩:=h
 refine wpAny_While (codeAny_whileLoop (fun n s'=>∃ σ' H',Inv X pins σ' H' s' /\ W n σ' H') ?_ m0 ⟨σ,H,I,w0⟩)
 rintro n s1 ⟨σ1,H1,I1,w1⟩
 refine wpAny_passesOwn hp (thn (hc pins s1 σ1 H1 _ I1 (turn n σ1 H1 w1)) fun b s2 ⟨H2,I2,q2⟩=>?_)
 cases b with
 | true =>
  obtain ⟨N,hN,q2⟩:=q2
  rw [if_pos rfl]
  refine wpAny_passesOwn hp (thn (hb pins s2 σ1 H2 _ I2 q2) fun f s3 q3=>?_)
  cases f with
  | next =>
   obtain ⟨σ3,H3,I3,n3⟩:=q3
   obtain ⟨m',hm,w3⟩:=hN σ3 H3 n3
   exact ⟨m',hm,σ3,H3,I3,w3⟩
  | cont =>
   obtain ⟨σ3,H3,I3,n3⟩:=q3
   obtain ⟨m',hm,w3⟩:=hN σ3 H3 n3
   exact ⟨m',hm,σ3,H3,I3,w3⟩
  | brk=>exact q3
  | ret v=>exact q3
 | false =>
  rw [if_neg Bool.false_ne_true]
  exact wpAny_execs_nil ⟨σ1,H2,I2,q2⟩
end
structure It where
 go:Nat->Hp->Prop
 yld:Nat->Hp->V->Hp->Prop
 stop:Nat->Hp->Prop
def FpOk (X:Cx) (pins:List (Addr×Obj)) (H:Hp) (b:Addr):Prop :=
 H b=none /\ b≠X.env.locals /\ b∉X.fs /\ (b∈X.ex∨X.s₀.heap.objs.size <= b) /\ (∀ x c,X.env.cells.lookup x=some c->c≠b) /\ ∀ p∈X.pn++pins,p.1≠b
theorem Inv.fpOk {X:Cx} {pins:List (Addr×Obj)} {σ:St} {H H':Hp} {s:Shared} {b:Addr} (I:Inv X pins σ H s) (hb:s.heap.objs.size <= b) (hn:H' b=none):FpOk X pins H' b:=by
 refine ⟨hn,Nat.ne_of_gt (Nat.lt_of_lt_of_le I.lt hb),I.nofs hb,.inr (Nat.le_trans I.sz hb),fun x c e z=>?_,fun p hp z=>?_⟩
 ·obtain ⟨v,q⟩:=I.cell x c e
  exact absurd (Nat.lt_of_lt_of_le q.lt (by rw [z]; exact hb)) (Nat.lt_irrefl _)
 ·exact absurd (Nat.lt_of_lt_of_le (Heap.lt_size (I.pin p hp).1) (by rw [z]; exact hb)) (Nat.lt_irrefl _)
structure Turn (P:Program) (w:World) (K:PySem.W.Frag) (tg:Expr) (J:It) (fp:List Addr) (it:Addr) (tn:Nat->Heap->Prop):Prop where
 mem:it∈fp
 obj:∀ i h,tn i h->∀ b∈fp,∃ o,h.get? b=some o /\ ∀ v,o.data ≠ .cell v
 keep:∀ i h h',tn i h->(∀ b∈fp,∀ o,h.get? b=some o->h'.get? b=some o)->tn i h'
 item:∀ (X:Cx),X.prog=P->X.w=w->X.K=K->X.calm=true->∀ (i:Nat) (pins:List (Addr×Obj)) (s:Shared) (σ:St) (H:Hp) (E:Value->Shared->Prop),Inv X pins σ H s->(∀ b∈fp,FpOk X pins H b)->tn i s.heap->J.go i H ->
  wpAny (model P w) X.A (pyNext (.ref it)) (fun r s1=>∃ u,r=some u /\
   wpAny (model P w) X.A (letOwnedTupleGo tg (.ref it) u) (fun _ s2=>∃ x H',Inv X pins σ H' s2 /\ RelV x u /\ J.yld i H x H' /\ tn (i + 1) s2.heap /\ ∀ b∈fp,H' b=none) E s1) E s
 done:∀ (X:Cx),X.prog=P->X.w=w->X.K=K->X.calm=true->∀ (i:Nat) (pins:List (Addr×Obj)) (s:Shared) (σ:St) (H:Hp) (E:Value->Shared->Prop),Inv X pins σ H s->(∀ b∈fp,FpOk X pins H b)->tn i s.heap->J.stop i H ->
  wpAny (model P w) X.A (pyNext (.ref it)) (fun r s1=>r=none /\ Inv X pins σ H s1) E s
 self:∀ (A:Around) (i:Nat) (s:Shared) (Q:Value->Shared->Prop) (E:Value->Shared->Prop),tn i s.heap->Q (.ref it) s->wpAny (model P w) A (pyIter (.ref it)) Q E s
abbrev TI:=St->Hp->(It->Hp->Prop)->Prop
def PIE (X:Cx) (pins:List (Addr×Obj)) (σ:St) (tg:Expr) (R:It->Hp->Prop) (itv:Value) (s2:Shared):Prop :=
 ∃ (it:Addr) (fp:List Addr) (tn:Nat->Heap->Prop) (J:It) (H':Hp),itv = .ref it /\ Inv X pins σ H' s2 /\ Turn X.prog X.w X.K tg J fp it tn /\ tn 0 s2.heap /\ (∀ b∈fp,FpOk X pins H' b) /\ R J H'
def PI (X:Cx) (tg iter:Expr) (wi:TI):Prop :=
 ∀ (pins:List (Addr×Obj)) (s:Shared) (σ:St) (H:Hp) (R:It->Hp->Prop),Inv X pins σ H s->wi σ H R ->
  wpAny (model X.prog X.w) X.A (eval iter X.env) (fun v s1=>wpAny (model X.prog X.w) X.A (pyIter v) (PIE X pins σ tg R) X.xe s1) X.xe s
theorem yu {M:Model} {A:Around} {E:Value->Shared->Prop} {s:Shared} {tg:Expr} {it:Addr} {u:Value} {o:Obj} {n:String} {vs:Array Value} {Q:Unit->Shared->Prop} (ho:s.heap.get? it=some o) (hc:o.cls = .type n) (hd:o.data = .fields vs)
  (hn:["enumerate","zip","dict_itemiterator","dict_reverseitemiterator","odict_iterator","itertools.zip_longest","itertools.pairwise"].contains n=false) (hQ:Q () s):wpAny M A (letOwnedTupleGo tg (.ref it) u) Q E s:=by
 unfold letOwnedTupleGo
 cases tg <;> first
  | exact wpAny_pure hQ
  | (cases u <;> first
    | exact wpAny_pure hQ
    | (refine wpAny_bind (wpAny_load ho ?_)
       rw [hc,hd]
       show wpAny M A (if (["enumerate","zip","dict_itemiterator","dict_reverseitemiterator","odict_iterator","itertools.zip_longest","itertools.pairwise"].contains n && vs[0]? == some (rawInt _))=true then _ else _) Q E s
       rw [if_neg (by intro h; rw [hn,Bool.false_and] at h; cases h)]
       exact wpAny_pure hQ))
def Itl (K:PySem.W.Frag) (a:Addr):It :=
 ⟨fun i H=>∃ xs x,SqL K H a xs /\ xs[i]? = some x,fun i H x H'=>H'=H /\ ∀ xs,SqL K H a xs->xs[i]? = some x,fun i H=>∃ xs,SqL K H a xs /\ xs.length <= i⟩
def Itt (K:PySem.W.Frag) (a:Addr):It :=
 ⟨fun i H=>∃ xs x,SqT K H a xs /\ xs[i]? = some x,fun i H x H'=>H'=H /\ ∀ xs,SqT K H a xs->xs[i]? = some x,fun i H=>∃ xs,SqT K H a xs /\ xs.length <= i⟩
def Itr (lo:Int) (n:Nat):It:=⟨fun i _=>i < n,fun i H x H'=>H'=H /\ x = .int (lo + i),fun i _=>n <= i⟩
theorem oY {P:Program} {w:World} {K:PySem.W.Frag} {tg:Expr} (a it:Addr):Turn P w K tg (Itl K a) [it] it (fun i h=>h.IsListIter it a i) where
 mem:=by simp
 obj:=fun i h st b hb=>by
  have e:b=it:=by simpa using hb
  subst e
  obtain ⟨o,e,c,d⟩:=st
  exact ⟨o,e,fun v z=>by rw [d] at z; cases z⟩
 keep:=fun i h h' st k=>st.at fun o e=>k it (by simp) o e
 item:=by
  intro X hP hw hK hc i pins s σ H E I hf st hg
  subst hP hw hK
  obtain ⟨xs,x,hq,hx⟩:=hg
  obtain ⟨its,rv,p,hz⟩:=I.list hq
  obtain ⟨u,hu,ru⟩:=rv.get hx
  obtain ⟨f0,f1,f2,f3,f4,f5⟩:=hf it (by simp)
  refine wpAny_pyNext_list_item st p.isList (x:=u) (by simpa using hu) fun h' st' sb=>?_
  have I1:Inv X pins σ H { s with heap:=h' }:=I.turned (t':=s.toks) (fun b o hb e=>(sb.2 b hb).trans e) f0 f1 f3 f4 f5
  obtain ⟨o,e,c,d⟩:=id st'
  exact ⟨u,rfl,yu (s:={ s with heap:=h' }) e c d (by decide) ⟨x,H,I1,ru,⟨rfl,fun ys hy=>by rw [I.list_inj hy hq]; exact hx⟩,st',fun b hb=>(hf b hb).1⟩⟩
 done:=by
  intro X hP hw hK hc i pins s σ H E I hf st hg
  subst hP hw hK
  obtain ⟨xs,hq,hx⟩:=hg
  obtain ⟨its,rv,p,hz⟩:=I.list hq
  obtain ⟨f0,f1,f2,f3,f4,f5⟩:=hf it (by simp)
  have hl:=rv.length
  exact wpAny_pyNext_list_end (I.ok.hd hc) st p.isList (by simp; omega) fun h' eb=>⟨rfl,I.turned (t':=s.toks) (fun b o hb e=>eb b o hb e) f0 f1 f3 f4 f5⟩
 self:=fun _ _ _ _ _ st h=>wpAny_pyIter_listiter st h
theorem mY {P:Program} {w:World} {K:PySem.W.Frag} {tg:Expr} (a it:Addr):Turn P w K tg (Itt K a) [it] it (fun i h=>h.IsTupleIter it a i) where
 mem:=by simp
 obj:=fun i h st b hb=>by
  have e:b=it:=by simpa using hb
  subst e
  obtain ⟨o,e,c,d⟩:=st
  exact ⟨o,e,fun v z=>by rw [d] at z; cases z⟩
 keep:=fun i h h' st k=>st.at fun o e=>k it (by simp) o e
 item:=by
  intro X hP hw hK hc i pins s σ H E I hf st hg
  subst hP hw hK
  obtain ⟨xs,x,hq,hx⟩:=hg
  obtain ⟨its,rv,p,hz⟩:=I.tuple hq
  obtain ⟨u,hu,ru⟩:=rv.get hx
  obtain ⟨f0,f1,f2,f3,f4,f5⟩:=hf it (by simp)
  refine wpAny_pyNext_tuple_item st (show s.heap.IsTuple a its.toArray from p) (x:=u) (by simpa using hu) fun h' st' sb=>?_
  have I1:Inv X pins σ H { s with heap:=h' }:=I.turned (t':=s.toks) (fun b o hb e=>(sb.2 b hb).trans e) f0 f1 f3 f4 f5
  obtain ⟨o,e,c,d⟩:=id st'
  exact ⟨u,rfl,yu (s:={ s with heap:=h' }) e c d (by decide) ⟨x,H,I1,ru,⟨rfl,fun ys hy=>by rw [I.tuple_inj hy hq]; exact hx⟩,st',fun b hb=>(hf b hb).1⟩⟩
 done:=by
  intro X hP hw hK hc i pins s σ H E I hf st hg
  subst hP hw hK
  obtain ⟨xs,hq,hx⟩:=hg
  obtain ⟨its,rv,p,hz⟩:=I.tuple hq
  obtain ⟨f0,f1,f2,f3,f4,f5⟩:=hf it (by simp)
  have hl:=rv.length
  exact wpAny_pyNext_tuple_end (I.ok.hd hc) st (show s.heap.IsTuple a its.toArray from p) (by simp; omega) fun h' eb=>⟨rfl,I.turned (t':=s.toks) (fun b o hb e=>eb b o hb e) f0 f1 f3 f4 f5⟩
 self:=fun _ _ _ _ _ st h=>wpAny_pyIter_tupleiter st h
theorem tP {P:Program} {w:World} {K:PySem.W.Frag} {tg:Expr} (it:Addr) (lo:Int) (n:Nat):Turn P w K tg (Itr lo n) [it] it (fun i h=>IsRangeIter h it (lo + (i:Nat) * 1) ((n:Int) - (i:Nat)) 1) where
 mem:=by simp
 obj:=fun i h st b hb=>by
  have e:b=it:=by simpa using hb
  subst e
  exact ⟨_,st,fun v z=>by
   have z':Data.fields _=Data.cell v:=z
   cases z'⟩
 keep:=fun i h h' st k=>k it (by simp) _ st
 item:=by
  intro X hP hw hK hc i pins s σ H E I hf st hg
  subst hP hw hK
  obtain ⟨f0,f1,f2,f3,f4,f5⟩:=hf it (by simp)
  have W:=Walks.range (prog:=X.prog) (w:=X.w) (I.ok.hd hc) it lo 1 n
  refine W.item i s _ _ hg st fun v h' tk hv st' kk=>?_
  obtain ⟨t,rfl⟩:=hv
  have I1:Inv X pins σ H { s with heap:=h',toks:=tk }:=I.turned (fun b o hb e=>kk b o (by simpa using hb) e) f0 f1 f3 f4 f5
  refine ⟨_,rfl,yu (s:={ s with heap:=h',toks:=tk }) (n:="range_iterator") st' rfl rfl (by decide) ⟨.int (lo + i),H,I1,⟨t,?_⟩,⟨rfl,rfl⟩,st',fun b hb=>(hf b hb).1⟩⟩
  rw [Int.mul_one]
 done:=by
  intro X hP hw hK hc i pins s σ H E I hf st hg
  subst hP hw hK
  obtain ⟨f0,f1,f2,f3,f4,f5⟩:=hf it (by simp)
  exact wpAny_pyNext_range_end (I.ok.hd hc) st (by have:n <= i:=hg; omega) fun h' eb=>⟨rfl,I.turned (t':=s.toks) (fun b o hb e=>eb b o hb e) f0 f1 f3 f4 f5⟩
 self:=fun _ _ _ _ _ st h=>wpAny_pyIter_rangeiter st h
end L2
namespace L2
open PySem PySem.Spec PyProof.Rows
section
variable {X:Cx} {tg:Expr}
def CA (K:PySem.W.Frag) (tl:TE):TI:=fun σ H R=>tl σ H fun x H1=>∃ a,x = .ref a /\ (∃ xs,SqL K H1 a xs) /\ R (Itl K a) H1
def iTup (K:PySem.W.Frag) (tl:TE):TI:=fun σ H R=>tl σ H fun x H1=>∃ a,x = .ref a /\ (∃ xs,SqT K H1 a xs) /\ R (Itt K a) H1
theorem yw {l:Expr} {tl:TE} (hl:PE X l tl):PI X tg l (CA X.K tl):=by
 intro pins s σ H R I h
 refine thn (hl pins s σ H _ I h) fun v s1 ⟨x,H1,I1,r1,q1⟩=>?_
 obtain ⟨a,e,⟨xs,hq⟩,q⟩:=q1
 subst e
 cases r1
 obtain ⟨its,rv,p,hz⟩:=I1.list hq
 refine wpAny_pyIter_list p.isList ?_
 refine ⟨s1.heap.objs.size,[s1.heap.objs.size],_,_,H1,rfl,I1.kept (t':=s1.toks) fun b o e=>Heap.get?_push_of_some _ e,oY a _,⟨_,Heap.get?_push_size _ rfl,rfl,rfl⟩,fun b hb=>?_,q⟩
 have e:b=s1.heap.objs.size:=by simpa using hb
 subst e
 exact I1.fpOk (Nat.le_refl _) (I1.hok.fresh (Nat.le_refl _))
theorem AE {l:Expr} {tl:TE} (hl:PE X l tl):PI X tg l (iTup X.K tl):=by
 intro pins s σ H R I h
 refine thn (hl pins s σ H _ I h) fun v s1 ⟨x,H1,I1,r1,q1⟩=>?_
 obtain ⟨a,e,⟨xs,hq⟩,q⟩:=q1
 subst e
 cases r1
 obtain ⟨its,rv,p,hz⟩:=I1.tuple hq
 refine wpAny_pyIter_tuple (show s1.heap.IsTuple a its.toArray from p) ?_
 refine ⟨s1.heap.objs.size,[s1.heap.objs.size],_,_,H1,rfl,I1.kept (t':=s1.toks) fun b o e=>Heap.get?_push_of_some _ e,mY a _,⟨_,Heap.get?_push_size _ rfl,rfl,rfl⟩,fun b hb=>?_,q⟩
 have e:b=s1.heap.objs.size:=by simpa using hb
 subst e
 exact I1.fpOk (Nat.le_refl _) (I1.hok.fresh (Nat.le_refl _))
theorem wG {pins:List (Addr×Obj)} {σ:St} {H:Hp} {s:Shared} {R:It->Hp->Prop} {E:Value->Shared->Prop} {lo hi:Int} {t u v:Tok} {tk:Nat} (I:Inv X pins σ H s) (h1 : -(2 ^ 62) <= lo) (h2:lo < 2 ^ 62) (h3 : -(2 ^ 62) <= hi) (h4:hi < 2 ^ 62)
  (q:R (Itr lo (hi - lo).toNat) H):wpAny (model X.prog X.w) X.A (pyIter (.ref s.heap.objs.size)) (PIE X pins σ tg R) E { s with heap:=s.heap.push { cls:=.type "range",data:=.fields #[.int lo t,.int hi u,.int 1 v] },toks:=tk }:=by
 refine wpAny_pyIter_range (IsRange.new ..) (small_one h1 h2 h3 h4) ?_
 have I1:Inv X pins σ H { s with heap:=s.heap.push { cls:=.type "range",data:=.fields #[.int lo t,.int hi u,.int 1 v] },toks:=tk }:=I.kept fun b o e=>Heap.get?_push_of_some _ e
 refine ⟨(s.heap.push { cls:=.type "range",data:=.fields #[.int lo t,.int hi u,.int 1 v] }).objs.size,[(s.heap.push { cls:=.type "range",data:=.fields #[.int lo t,.int hi u,.int 1 v] }).objs.size],_,_,H,rfl,
  I1.kept (t':=tk) fun b o e=>Heap.get?_push_of_some _ e,tP _ lo (hi - lo).toNat,?_,fun b hb=>?_,q⟩
 ·have e1:lo + ((0:Nat):Int) * 1=lo:=by simp
  have e2:(((hi - lo).toNat:Nat):Int) - ((0:Nat):Int)=Builtin.Range.rangeSize lo hi 1:=by rw [rangeSize_one]; split <;> omega
  show IsRangeIter _ _ (lo + ((0:Nat):Int) * 1) ((((hi - lo).toNat:Nat):Int) - ((0:Nat):Int)) 1
  rw [e1,e2]
  exact Heap.get?_push_size _ rfl
 ·have e:b=(s.heap.push { cls:=.type "range",data:=.fields #[.int lo t,.int hi u,.int 1 v] }).objs.size:=by simpa using hb
  subst e
  exact I1.fpOk (Nat.le_refl _) (I1.hok.fresh (Nat.le_refl _))
def CB (ta:TA):TI:=fun σ H R=>ta σ H fun vs H1=>∃ j:Int,vs=[.int j] /\ -(2 ^ 62) <= j /\ j < 2 ^ 62 /\ R (Itr 0 j.toNat) H1
theorem uI {a:Expr} {ta:TA} {p pos:Pos} (hg:Gl X "range") (hm:X.mg "range" = none) (ha:PA X [a] ta) (hs:starEach [a] X.env=[(false,eval a X.env)]:=by rfl):PI X tg (.Call (.Name "range" p) [a] [] pos) (CB ta):=by
 intro pins s σ H R I h
 refine Call_ (lA I hg hm boot_range (PyProof.Rows.callWith_type1 (thn (ha pos pins s σ H _ I h) fun us s1 ⟨vs,H1,I1,r1,q1⟩=>?_) hs rfl))
 obtain ⟨j,e,q1,q2,q⟩:=q1
 subst e
 cases r1 with
 | cons r rr =>
  cases rr
  obtain ⟨t,rfl⟩:=r
  exact call_range_1 (wG I1 (by omega) (by omega) q1 q2 (by simpa using q))
def tFor (wi:TI) (g:TG) (tb:TS):TS:=fun D σ H=>wi σ H fun J H1=>∃ W:Nat->Nat->St->Hp->Prop,(∃ m,W 0 m σ H1) /\ ∀ i m σ H,W i m σ H ->
 (J.stop i H /\ D.nx σ H)∨(J.go i H /\ ∃ N:St->Hp->Prop,(∀ σ' H',N σ' H'->∃ m',m' < m /\ W (i + 1) m' σ' H') /\ ∀ x H',J.yld i H x H'->g x σ H' fun σ2 H2=>tb { D with nx:=N,ct:=N,bk:=D.nx } σ2 H2)
def oZ (fp:List Addr) (h:Heap):List (Addr×Obj):=fp.filterMap fun b=>(h.get? b).map fun o=>(b,o)
theorem ie {fp:List Addr} {h:Heap} {b:Addr} {o:Obj} (hb:b∈fp) (e:h.get? b=some o):(b,o)∈oZ fp h:=List.mem_filterMap.mpr ⟨b,hb,by rw [e]; rfl⟩
theorem uJ {fp:List Addr} {h:Heap} {p:Addr×Obj} (hp:p∈oZ fp h):p.1∈fp /\ h.get? p.1=some p.2:=by
 obtain ⟨b,hb,e⟩:=List.mem_filterMap.mp hp
 cases q:h.get? b with
 | none=>rw [q] at e; cases e
 | some o =>
  rw [q] at e
  have e':(b,o)=p:=Option.some.inj e
  subst e'
  exact ⟨hb,q⟩
theorem Inv.pinned {pins:List (Addr×Obj)} {σ:St} {H:Hp} {s:Shared} {fp:List Addr} (I:Inv X pins σ H s) (hf:∀ b∈fp,FpOk X pins H b) (ho:∀ b∈fp,∃ o,s.heap.get? b=some o /\ ∀ v,o.data ≠ .cell v):Inv X (pins++oZ fp s.heap) σ H s :=
 I.pins_of fun p hp=>(List.mem_append.mp hp).elim (fun z=>I.pin p (List.mem_append_right _ z)) fun z=>by
  obtain ⟨hb,e⟩:=uJ z
  obtain ⟨f0,f1,f2,_⟩:=hf p.1 hb
  obtain ⟨o,e',d⟩:=ho p.1 hb
  rw [e] at e'; cases e'
  exact ⟨e,f0,f1,f2,d⟩
theorem Inv.unpinned {pins pl:List (Addr×Obj)} {σ:St} {H:Hp} {s:Shared} (I:Inv X (pins++pl) σ H s):Inv X pins σ H s:=I.pins_of fun p hp=>I.pin p (List.mem_append_right _ (List.mem_append_left _ hp))
theorem AG {iter:Expr} {body:List Stmt} {wi:TI} {g:TG} {tb:TS} {pos:Pos} (hp:PassesOwn (model X.prog X.w) X.A X.env X.xe) (hc:X.calm=true) (hi:PI X tg iter wi) (hg:PG X tg g) (hb:PSs X body tb)
  (hs:∀ x,foldedSetIterable iter X.env x=pure x:=by intro _; rfl):PS X (.For tg iter body [] pos) (tFor wi g tb):=by
 intro pins s σ H D I h
 refine wpAny_For (thn (hi pins s σ H _ I h) fun v s1 h1=>thn h1 fun itv s2 h2=>?_) hs
 obtain ⟨it,fp,tn,J,H2,e,I2,T,st2,f2,W,⟨m0,w0⟩,turn⟩:=h2
 subst e
 -- what stays true of the iterator's objects through the loop
 have stat:∀ {H':Hp},(∀ b∈fp,H' b=none)->∀ b∈fp,FpOk X pins H' b:=fun hn b hb=>⟨hn b hb,(f2 b hb).2⟩
 refine codeAny_forLoop_any (fun n s'=>∃ i σ' H',Inv X pins σ' H' s' /\ tn i s'.heap /\ (∀ b∈fp,H' b=none) /\ W i n σ' H') ?_ m0 ⟨0,σ,H2,I2,st2,fun b hb=>(f2 b hb).1,w0⟩
 rintro n s3 ⟨i,σ3,H3,I3,st3,fr3,w3⟩
 rcases turn i n σ3 H3 w3 with ⟨stop,qn⟩ | ⟨go,N,hN,step⟩
 ·refine wpAny_passesOwn hp (thn (T.done X rfl rfl rfl hc i pins s3 σ3 H3 X.xe I3 (stat fr3) st3 stop) fun r s4 ⟨hr,I4⟩=>?_)
  subst hr
  exact wpAny_execs_nil ⟨σ3,H3,I4,qn⟩
 ·refine wpAny_passesOwn hp (thn (T.item X rfl rfl rfl hc i pins s3 σ3 H3 X.xe I3 (stat fr3) st3 go) fun r s4 ⟨u,hr,h4⟩=>?_)
  subst hr
  refine wpAny_passesOwn hp (thn h4 fun _ s5 ⟨x,H5,I5,r5,y5,st5,fr5⟩=>?_)
  have I5':=I5.pinned (stat fr5) (T.obj _ _ st5)
  refine wpAny_passesOwn hp (thn (hg _ s5 σ3 H5 x u _ I5' r5 (step x H5 y5)) fun _ s6 ⟨σ6,H6,I6,q6⟩=>?_)
  refine wpAny_passesOwn hp (thn (hb _ s6 σ6 H6 _ I6 q6) fun f s7 q7=>?_)
  have again:∀ {σ7:St} {H7:Hp},Inv X (pins++oZ fp s5.heap) σ7 H7 s7->N σ7 H7->∃ m,m < n /\ ∃ i σ' H',Inv X pins σ' H' s7 /\ tn i s7.heap /\ (∀ b∈fp,H' b=none) /\ W i m σ' H':=fun {σ7 H7} I7 n7=>by
   obtain ⟨m',hm,w7⟩:=hN σ7 H7 n7
   refine ⟨m',hm,i + 1,σ7,H7,I7.unpinned,T.keep _ _ _ st5 fun b hb o e=>(I7.pin (b,o) (List.mem_append_right _ (List.mem_append_right _ (ie hb e)))).1,fun b hb=>?_,w7⟩
   obtain ⟨o,e,d⟩:=T.obj _ _ st5 b hb
   exact (I7.pin (b,o) (List.mem_append_right _ (List.mem_append_right _ (ie hb e)))).2.1
  cases f with
  | next=>obtain ⟨σ7,H7,I7,n7⟩:=q7; exact again I7 n7
  | cont=>obtain ⟨σ7,H7,I7,n7⟩:=q7; exact again I7 n7
  | brk=>obtain ⟨σ7,H7,I7,q7⟩:=q7; exact ⟨σ7,H7,I7.unpinned,q7⟩
  | ret v=>obtain ⟨x7,σ7,H7,I7,r7,q7⟩:=q7; exact ⟨x7,σ7,H7,I7.unpinned,r7,q7⟩
end
end L2
namespace L2
open PySem PySem.Spec PyProof.Rows
abbrev R2:=V->V->Hp->VK->Prop
def OpR (X:Cx) (f:Value->Value->Sem Value) (r:R2):Prop :=
 ∀ (pins:List (Addr×Obj)) (s:Shared) (σ:St) (H:Hp) (x y:V) (v u:Value) (Q:VK),Inv X pins σ H s->RelV x v->RelV y u->r x y H Q ->
  wpAny (model X.prog X.w) X.A (f v u) (EP X pins σ Q) X.xe s
def UnR (X:Cx) (f:Value->Sem Value) (r:V->Hp->VK->Prop):Prop :=
 ∀ (pins:List (Addr×Obj)) (s:Shared) (σ:St) (H:Hp) (x:V) (v:Value) (Q:VK),Inv X pins σ H s->RelV x v->r x H Q ->
  wpAny (model X.prog X.w) X.A (f v) (EP X pins σ Q) X.xe s
def CallR (X:Cx) (f:Value) (r:List V->Hp->VK->Prop):Prop :=
 ∀ (pins:List (Addr×Obj)) (s:Shared) (σ:St) (H:Hp) (xs:List V) (us:List Value) (Q:VK),Inv X pins σ H s->Vals xs us->r xs H Q ->
  wpAny (model X.prog X.w) X.A (call f us) (EP X pins σ Q) X.xe s
def tOp (r:R2) (ta tb:TE):TE:=fun σ H Q=>ta σ H fun x H1=>tb σ H1 fun y H2=>r x y H2 Q
def tUn (r:V->Hp->VK->Prop) (ta:TE):TE:=fun σ H Q=>ta σ H fun x H1=>r x H1 Q
def rI (C:Int->Int->Prop) (g:Int->Int->V):R2:=fun x y H Q=>∃ i j,x = .int i /\ y = .int j /\ C i j /\ Q (g i j) H
def rI0 (g:Int->Int->V):R2:=fun x y H Q=>∃ i j,x = .int i /\ y = .int j /\ Q (g i j) H
def rU (g:Int->V):V->Hp->VK->Prop:=fun x H Q=>∃ i,x = .int i /\ Q (g i) H
section
variable {X:Cx} {a b c:Expr} {ta tb tc:TE} {pos:Pos}
theorem binT (ha:PE X a ta) (hb:PE X b tb) {pins:List (Addr×Obj)} {s:Shared} {σ:St} {H:Hp} {R:V->V->Hp->Prop} (I:Inv X pins σ H s)
  (h:ta σ H fun x H1=>tb σ H1 fun y H2=>R x y H2) {Q:Value->Shared->Prop} {f:Value->Value->Sem Value}
  (hf:∀ v u s2 x y H2,Inv X pins σ H2 s2->RelV x v->RelV y u->R x y H2->wpAny (model X.prog X.w) X.A (f v u) Q X.xe s2) :
  wpAny (model X.prog X.w) X.A (eval a X.env) (fun v s₁=>wpAny (model X.prog X.w) X.A (eval b X.env) (fun u s₂=>wpAny (model X.prog X.w) X.A (f v u) Q X.xe s₂) X.xe s₁) X.xe s:=by
 refine thn (ha pins s σ H _ I h) fun v s1 ⟨x,H1,I1,r1,q1⟩=>?_
 refine thn (hb pins s1 σ H1 _ I1 q1) fun u s2 ⟨y,H2,I2,r2,q2⟩=>?_
 exact hf v u s2 x y H2 I2 r1 r2 q2
theorem fh {op:Operator} {r:R2} (ho:OpR X (binaryOp op) r) (ha:PE X a ta) (hb:PE X b tb):PE X (.BinOp a op b pos) (tOp r ta tb):=by
 intro pins s σ H Q I h
 exact wpAny_BinOp (binT ha hb I h fun v u s2 x y H2 I2 rx ry q=>ho pins s2 σ H2 x y v u Q I2 rx ry q)
theorem CC {op:UnaryOp} {r:V->Hp->VK->Prop} (ho:UnR X (unaryOp op) r) (ha:PE X a ta):PE X (.UnaryOp op a pos) (tUn r ta):=by
 intro pins s σ H Q I h
 exact UnaryOp_ (thn (ha pins s σ H _ I h) fun v s1 ⟨x,H1,I1,r1,q1⟩=>ho pins s1 σ H1 x v Q I1 r1 q1)
theorem opI {f:Value->Value->Sem Value} {C:Int->Int->Prop} {g:Int->Int->Int}
  (rule:∀ (i j:Int) (t u:Tok) (s:Shared) (Q:Value->Shared->Prop) (E:Value->Shared->Prop),C i j->Q (.int (g i j) s.toks) { s with toks:=s.toks + 1 }->wpAny (model X.prog X.w) X.A (f (.int i t) (.int j u)) Q E s) :
  OpR X f (rI C fun i j=>.int (g i j)):=by
 intro pins s σ H x y v u Q I rx ry h
 obtain ⟨i,j,rfl,rfl,hc,q⟩:=h
 obtain ⟨t,rfl⟩:=rx
 obtain ⟨t',rfl⟩:=ry
 exact rule i j t t' s _ _ hc ⟨.int (g i j),H,I.tok _,⟨_,rfl⟩,q⟩
theorem opI0 {f:Value->Value->Sem Value} {g:Int->Int->Int}
  (rule:∀ (i j:Int) (t u:Tok) (s:Shared) (Q:Value->Shared->Prop) (E:Value->Shared->Prop),Q (.int (g i j) s.toks) { s with toks:=s.toks + 1 }->wpAny (model X.prog X.w) X.A (f (.int i t) (.int j u)) Q E s) :
  OpR X f (rI0 fun i j=>.int (g i j)):=by
 intro pins s σ H x y v u Q I rx ry h
 obtain ⟨i,j,rfl,rfl,q⟩:=h
 obtain ⟨t,rfl⟩:=rx
 obtain ⟨t',rfl⟩:=ry
 exact rule i j t t' s _ _ ⟨.int (g i j),H,I.tok _,⟨_,rfl⟩,q⟩
theorem opB0 {f:Value->Value->Sem Value} {g:Int->Int->Bool}
  (rule:∀ (i j:Int) (t u:Tok) (s:Shared) (Q:Value->Shared->Prop) (E:Value->Shared->Prop),Q (.bool (g i j)) s->wpAny (model X.prog X.w) X.A (f (.int i t) (.int j u)) Q E s) :
  OpR X f (rI0 fun i j=>.bl (g i j)):=by
 intro pins s σ H x y v u Q I rx ry h
 obtain ⟨i,j,rfl,rfl,q⟩:=h
 obtain ⟨t,rfl⟩:=rx
 obtain ⟨t',rfl⟩:=ry
 exact rule i j t t' s _ _ ⟨.bl (g i j),H,I,rfl,q⟩
def CPow (i j:Int):Prop:=0 <= j /\ j <= 1000000 /\ i.natAbs < 2 ^ 64
def CMul (i j:Int):Prop:=(-(2 ^ 64) < i /\ i < 2 ^ 64)∨(-(2 ^ 64) < j /\ j < 2 ^ 64)
theorem CMul.ok {i j:Int} (h:CMul i j):IntMulOk i j:=by
 rcases h with ⟨h1,h2⟩ | ⟨h1,h2⟩
 ·exact .of_left (intBits_le_64 h1 h2)
 ·exact .of_right (intBits_le_64 h1 h2)
theorem lC:OpR X (binaryOp .Add) (rI0 fun i j=>.int (i + j)):=opI0 fun _ _ _ _ _ _ _ q=>add_int q
theorem AH:OpR X (binaryOp .Sub) (rI0 fun i j=>.int (i - j)):=opI0 fun _ _ _ _ _ _ _ q=>sub_int q
theorem kr:OpR X (binaryOp .Mod) (rI (fun _ j=>0 < j) fun i j=>.int (i % j)):=opI fun i j _ _ _ _ _ hc q=>by
 have h1:(0:Int) < j:=hc
 exact mod_int' (by omega) (by rw [Int.fmod_eq_emod_of_nonneg i (by omega)]; exact q)
theorem yx:OpR X (binaryOp .Mod) (rI (fun _ j=>j≠0) fun i j=>.int (i.fmod j)):=opI fun _ _ _ _ _ _ _ hc q=>mod_int' hc q
theorem xR:OpR X (binaryOp .Pow) (rI CPow fun i j=>.int (i ^ j.toNat)):=opI fun _ _ _ _ _ _ _ hc q=>pow_int_small hc.1 hc.2.1 hc.2.2 q
theorem unI {f:Value->Sem Value} {g:Int->Int}
  (rule:∀ (i:Int) (t:Tok) (s:Shared) (Q:Value->Shared->Prop) (E:Value->Shared->Prop),Q (.int (g i) s.toks) { s with toks:=s.toks + 1 }->wpAny (model X.prog X.w) X.A (f (.int i t)) Q E s) :
  UnR X f (rU fun i=>.int (g i)):=by
 intro pins s σ H x v Q I rx h
 obtain ⟨i,rfl,q⟩:=h
 obtain ⟨t,rfl⟩:=rx
 exact rule i t s _ _ ⟨.int (g i),H,I.tok _,⟨_,rfl⟩,q⟩
theorem AI:UnR X (unaryOp .USub) (rU fun i=>.int (-i)):=unI fun _ _ _ _ _ q=>neg_int q
end
def scal:V->V->Bool
 | .non,.non=>true | .non,.int _=>true | .int _,.non=>true | .non,.bl _=>true | .bl _,.non=>true | .non,.str _=>true | .str _,.non=>true
 | .int _,.int _=>true | .bl _,.bl _=>true | .str _,.str _=>true | .byt _,.byt _=>true
 | .int _,.str _=>true | .str _,.int _=>true | .bl _,.str _=>true | .str _,.bl _=>true
 | _,_=>false
def rEq:R2:=fun x y H Q=>scal x y=true /\ Q (.bl (decide (x=y))) H
theorem yy {i j:Int}:decide (V.int i=V.int j)=(i == j):=by
 rw [Bool.eq_iff_iff]
 simp
theorem AJ {i j:Bool}:decide (V.bl i=V.bl j)=(i == j):=by
 rw [Bool.eq_iff_iff]
 simp
theorem yz {i j:Str}:decide (V.str i=V.str j)=(i == j):=by
 rw [Bool.eq_iff_iff]
 simp
theorem yA {i j:Array UInt8}:decide (V.byt i=V.byt j)=(i.toList == j.toList):=by
 rw [Bool.eq_iff_iff]
 cases i
 cases j
 simp
section
variable {X:Cx} {a b c:Expr} {ta tb tc:TE} {pos:Pos}
theorem cZ {pins:List (Addr×Obj)} {σ:St} {H:Hp} {s:Shared} {Q:VK} {k k':Bool} (I:Inv X pins σ H s) (q:Q (.bl k) H) (e:k=k'):EP X pins σ Q (.bool k') s:=by
 subst e
 exact ⟨.bl k,H,I,rfl,q⟩
theorem CD:OpR X (compareOp .Eq) rEq:=by
 intro pins s σ H x y v u Q I rx ry h
 obtain ⟨hs,q⟩:=h
 cases x with
 | non =>
  cases rx
  cases y with
  | non=>cases ry; exact PySem.EqNone.eq_none_none (cZ I q (by simp))
  | bl j=>cases ry; exact PySem.EqNone.eq_none_bool (cZ I q (by simp))
  | int j=>obtain ⟨t',rfl⟩:=ry; exact PySem.EqNone.eq_none_int (cZ I q (by simp))
  | str j=>obtain ⟨t',rfl⟩:=ry; exact PySem.EqNone.eq_none_str (cZ I q (by simp))
  | _=>exact absurd (show false=true from hs) Bool.false_ne_true
 | bl i =>
  cases rx
  cases y with
  | non=>cases ry; exact PySem.EqNone.eq_bool_none (cZ I q (by simp))
  | bl j=>cases ry; exact eq_bool (cZ I q AJ)
  | str j=>obtain ⟨t',rfl⟩:=ry; exact PySem.EqMixed.eq_bool_str (cZ I q (by simp))
  | _=>exact absurd (show false=true from hs) Bool.false_ne_true
 | int i =>
  obtain ⟨t,rfl⟩:=rx
  cases y with
  | non=>cases ry; exact PySem.EqNone.eq_int_none (cZ I q (by simp))
  | int j=>obtain ⟨t',rfl⟩:=ry; exact eq_int (cZ I q yy)
  | str j=>obtain ⟨t',rfl⟩:=ry; exact PySem.EqMixed.eq_int_str (cZ I q (by simp))
  | _=>exact absurd (show false=true from hs) Bool.false_ne_true
 | str i =>
  obtain ⟨t,rfl⟩:=rx
  cases y with
  | non=>cases ry; exact PySem.EqNone.eq_str_none (cZ I q (by simp))
  | bl j=>cases ry; exact PySem.EqMixed.eq_str_bool (cZ I q (by simp))
  | int j=>obtain ⟨t',rfl⟩:=ry; exact PySem.EqMixed.eq_str_int (cZ I q (by simp))
  | str j=>obtain ⟨t',rfl⟩:=ry; exact eq_str (cZ I q yz)
  | _=>exact absurd (show false=true from hs) Bool.false_ne_true
 | byt i =>
  obtain ⟨t,rfl⟩:=rx
  cases y with
  | byt j=>obtain ⟨t',rfl⟩:=ry; exact PySem.W.eq_bytes (cZ I q yA)
  | _=>exact absurd (show false=true from hs) Bool.false_ne_true
 | _=>cases y <;> exact absurd (show false=true from hs) Bool.false_ne_true
theorem AK:OpR X (compareOp .Lt) (rI0 fun i j=>.bl (decide (i < j))):=opB0 fun _ _ _ _ _ _ _ q=>lt_int q
theorem CF:OpR X (compareOp .LtE) (rI0 fun i j=>.bl (decide (i <= j))):=opB0 fun _ _ _ _ _ _ _ q=>le_int q
theorem AL:OpR X (compareOp .Gt) (rI0 fun i j=>.bl (decide (j < i))):=opB0 fun _ _ _ _ _ _ _ q=>gt_int q
theorem CG:OpR X (compareOp .GtE) (rI0 fun i j=>.bl (decide (j <= i))):=opB0 fun _ _ _ _ _ _ _ q=>ge_int q
theorem AM:OpR X (compareOp .Is) (fun x y H Q=>y = .non /\ Q (.bl (decide (x = .non))) H):=by
 intro pins s σ H x y v u Q I rx ry h
 obtain ⟨rfl,q⟩:=h
 cases ry
 refine is_none_gen (cZ I q ?_)
 cases x <;> first
  | (cases rx; rfl)
  | (obtain ⟨t,rfl⟩:=rx; rfl)
theorem yC:OpR X (compareOp .IsNot) (fun x y H Q=>y = .non /\ Q (.bl (!decide (x = .non))) H):=by
 intro pins s σ H x y v u Q I rx ry h
 obtain ⟨rfl,q⟩:=h
 cases ry
 refine isnot_none_gen (cZ I q ?_)
 cases x <;> first
  | (cases rx; rfl)
  | (obtain ⟨t,rfl⟩:=rx; rfl)
def isObj:HO->Bool
 | .lst _=>true
 | .ins _ _ _=>true
 | _=>false
theorem OpR.or {f:Value->Value->Sem Value} {r r':R2} (h:OpR X f r) (h':OpR X f r'):OpR X f (fun x y H Q=>r x y H Q∨r' x y H Q):=by
 intro pins s σ H x y v u Q I rx ry q
 rcases q with q | q
 ·exact h pins s σ H x y v u Q I rx ry q
 ·exact h' pins s σ H x y v u Q I rx ry q
theorem aA (b:Expr) {op:CmpOp} (h:op ≠ .In:=by decide) (h2:op ≠ .NotIn:=by decide):behindInMarks op b=false:=by
 have e1:(op == CmpOp.In)=false:=by cases op <;> first | rfl | exact absurd rfl h
 have e2:(op == CmpOp.NotIn)=false:=by cases op <;> first | rfl | exact absurd rfl h2
 cases b <;> simp [behindInMarks,e1,e2]
theorem yD {op:CmpOp} {r:R2} (ho:OpR X (compareOp op) r) (ha:PE X a ta) (hb:PE X b tb) (hm:behindInMarks op b=false):PE X (.Compare a [op] [b] pos) (tOp r ta tb):=by
 intro pins s σ H Q I h
 exact wpAny_Compare1 (binT ha hb I h fun v u s2 x y H2 I2 rx ry q=>ho pins s2 σ H2 x y v u Q I2 rx ry q) hm
def CH (t:TE):TT:=fun σ H Q=>t σ H fun x H'=>∃ k,x = .bl k /\ Q k H'
theorem lD {op:CmpOp} {r:R2} (ho:OpR X (compareOp op) r) (ha:PE X a ta) (hb:PE X b tb) (hm:behindInMarks op b=false):PT X (.Compare a [op] [b] pos) (CH (tOp r ta tb)):=by
 intro pins s σ H Q I h
 refine wpAny_isTrue_Compare1 (thn (ha pins s σ H _ I h) fun v s1 ⟨x,H1,I1,r1,q1⟩=>thn (hb pins s1 σ H1 _ I1 q1) fun u s2 ⟨y,H2,I2,r2,q2⟩ =>
  thn (ho pins s2 σ H2 x y v u _ I2 r1 r2 q2) fun c s3 ⟨z,H3,I3,r3,k,e,q3⟩=>?_) hm
 subst e
 cases r3
 exact wpAny_truthy_bool ⟨H3,I3,q3⟩
def xS (r r':R2) (ta tb tc:TE):TE:=fun σ H Q=>ta σ H fun x H1=>tb σ H1 fun y H2=>r x y H2 fun z H3=>∃ k,z = .bl k /\
 (if k=true then tc σ H3 fun w' H4=>r' y w' H4 Q else Q (.bl false) H3)
theorem wH {op op':CmpOp} {r r':R2} (ho:OpR X (compareOp op) r) (ho':OpR X (compareOp op') r') (ha:PE X a ta) (hb:PE X b tb) (hc:PE X c tc)
  (hm:lastMarks [op,op'] [b,c]=false:=by with_unfolding_all rfl):PE X (.Compare a [op,op'] [b,c] pos) (xS r r' ta tb tc):=by
 intro pins s σ H Q I h
 refine Compare_chain (thn (ha pins s σ H _ I h) fun v s1 ⟨x,H1,I1,r1,q1⟩=>chain_link (thn (hb pins s1 σ H1 _ I1 q1) fun u s2 ⟨y,H2,I2,r2,q2⟩ =>
  thn (ho pins s2 σ H2 x y v u _ I2 r1 r2 q2) fun d s3 ⟨z,H3,I3,r3,k,e,q3⟩=>?_)) hm
 subst e
 cases r3
 refine wpAny_truthy_bool ?_
 cases k with
 | false=>exact ite_ff ⟨.bl false,H3,I3,rfl,q3⟩
 | true=>exact ite_tt (chain_last (thn (hc pins s3 σ H3 _ I3 q3) fun w' s4 ⟨z',H4,I4,r4,q4⟩=>ho' pins s4 σ H4 y z' u w' Q I4 r2 r4 q4))
theorem sn:(sizeLine:Nat) < 2 ^ 63:=by rw [sizeLine_eq]; decide
theorem pd {x:V} {us:List Value} (r:Vals [x] us):∃ u,us=[u] /\ RelV x u:=by
 cases r with
 | cons r1 r2=>cases r2; exact ⟨_,rfl,r1⟩
theorem CI {x y:V} {us:List Value} (r:Vals [x,y] us):∃ u w',us=[u,w'] /\ RelV x u /\ RelV y w':=by
 cases r with
 | cons r1 r2 =>
  cases r2 with
  | cons r3 r4=>cases r4; exact ⟨_,_,rfl,r1,r3⟩
theorem wI:CallR X (.builtin "abs") (fun xs H Q=>∃ i,xs=[.int i] /\ Q (.int (if i < 0 then -i else i)) H):=by
 intro pins s σ H xs us Q I r h
 obtain ⟨i,rfl,q⟩:=h
 obtain ⟨u,rfl,t,rfl⟩:=pd r
 exact call_abs_int fun u tk=>⟨.int (if i < 0 then -i else i),H,I.tok _,⟨_,rfl⟩,q⟩
theorem uK:CallR X (.type "int") (fun xs H Q=>(∃ i,xs=[.int i] /\ Q (.int i) H)∨∃ k,xs=[.bl k] /\ Q (.int (if k then 1 else 0)) H):=by
 intro pins s σ H xs us Q I r h
 rcases h with ⟨i,rfl,q⟩ | ⟨k,rfl,q⟩
 ·obtain ⟨u,rfl,t,rfl⟩:=pd r
  exact call_int_int ⟨.int i,H,I,⟨_,rfl⟩,q⟩
 ·obtain ⟨u,rfl,r1⟩:=pd r
  cases r1
  exact call_int_bool ⟨.int (if k then 1 else 0),H,I.tok _,⟨_,rfl⟩,q⟩
end
end L2
namespace L2
open PySem PySem.Spec PyProof.Rows
structure ObjM (h:Heap) (x dx C:Addr) (mA:Str->Option Value):Prop where
 obj:h.get? x=some (PySem.W.instObj C dx)
 ns:h.Ns1 dx mA
 ne:dx≠x
theorem uL {h:Heap} {dx:Addr} {mA:Str->Option Value} (n:h.Ns1 dx mA):∃ od,h.get? dx=some od /\ ∀ name,PySem.W.lookIn name od=some (mA name):=by
 obtain ⟨o,es,ep,ho,hd,hk,_,hm⟩:=n
 refine ⟨o,ho,fun name=>?_⟩
 have e:=hm name
 unfold nsFind findBy at e
 rw [← Array.find?_toList] at e
 unfold PySem.W.lookIn
 rw [hd]
 dsimp only
 split
 ·rename_i y q
  rw [q] at e
  exact congrArg some e
 ·rename_i q
  rw [q] at e
  have a:es.toList.any (·.refKey)=false:=by
   rw [List.any_eq_false]
   intro y hy
   obtain ⟨z,t,hkey⟩:=hk y (Array.mem_toList_iff.mp hy)
   simp [DictEntry.refKey,hkey]
  have a':¬ es.toList.any (·.refKey)=true:=by rw [a]; exact Bool.false_ne_true
  rw [if_neg a']
  exact congrArg some e
theorem ObjM.look {h:Heap} {x dx C:Addr} {mA:Str->Option Value} (I:ObjM h x dx C mA):∃ od,PySem.W.InstAt h x (PySem.W.instObj C dx) C (some od) /\ ∀ name,PySem.W.lookIn name od=some (mA name) :=
 let ⟨od,ho,hl⟩:=uL I.ns
 ⟨od,⟨I.obj,rfl,rfl,ho⟩,hl⟩
section
variable {prog:Program} {w:World} {A:Around} {E:Value->Shared->Prop} {s:Shared} {K:PySem.W.Frag} {x dx C f:Addr} {mA:Str->Option Value} {name:Str} {v:Value}
end
theorem RelO.some_of {v:V} {o:Option Value} (r:RelO (some v) o):∃ u,o=some u /\ RelV v u:=by
 cases o with
 | none=>exact (show False from r).elim
 | some u=>exact ⟨u,rfl,r⟩
section
variable {P:Program} {w:World} {H H':Hp} {h h':Heap} {a C dx:Addr} {fs fs':List (Str×V)}
theorem yE (hok:HOk P w H h) (e:H a=some (.ins C dx fs)):∃ mA,ObjM h a dx C mA /\ (∀ f,RelO (fs.lookup f) (mA f)) /\ PySem.Within mA (fs.map (·.1)) /\ fs.length <= 1000 /\ H dx=some (.own a):=by
 obtain ⟨d,z,ne,ob,mA,n,r,q⟩:=(show ObjOk P w H h a (.ins C dx fs) from hok a _ e)
 exact ⟨mA,⟨ob,n,ne⟩,r,q,z,d⟩
end
structure Cls (K:PySem.W.Frag) (C:Addr):Prop where
 pg:PySem.W.plainGet K C Str.empty=true
 hd:PySem.W.hasDictIn K C=true
 po:PySem.W.plainOver K C=true
 sa:PySem.W.findIn K (.ref C) "__setattr__" = some (some (.builtin "object.__setattr__"))
theorem Cls.get {K:PySem.W.Frag} {C:Addr} (c:Cls K C) (f:Str):PySem.W.plainGet K C f=true:=c.pg
structure Con (K:PySem.W.Frag) (C:Addr) (f:Str) (v:V) (u:Value):Prop where
 at_:PySem.W.findIn K (.ref C) f=some (some u)
 rel:RelV v u
 get:PySem.W.specialIn K u "__get__" = some none
 cp:PySem.W.copiedNames.contains f=false
structure Meth (K:PySem.W.Frag) (C:Addr) (m:Str) (f:Addr):Prop where
 at_:PySem.W.findIn K (.ref C) m=some (some (.ref f))
 fn:PySem.W.isFn K (.ref f)=true
 kp:PySem.W.keepIn K (.ref f)=true
section
variable {X:Cx} {pins:List (Addr×Obj)} {σ:St} {H:Hp} {s:Shared} {a C dx:Addr} {fs:List (Str×V)} {f:Str} {v:V} {A:Around} {E:Value->Shared->Prop}
end
section
variable {X:Cx} {o e value:Expr} {f:Str} {pos pos' tpos:Pos} {ta tv:TE}
end
section
variable {X:Cx} {pins:List (Addr×Obj)} {σ:St} {H:Hp} {s:Shared} {A:Around} {E:Value->Shared->Prop} {Q:Value->Shared->Prop} {c:Value} {b:Bool}
inductive TyOf (K:PySem.W.Frag) (H:Hp):V->Value->Prop where
 | non:TyOf K H .non (.type "NoneType")
 | bl (x:Bool):TyOf K H (.bl x) (.type "bool")
 | int (i:Int):TyOf K H (.int i) (.type "int")
 | str (x:Str):TyOf K H (.str x) (.type "str")
 | flt (x:UInt64):TyOf K H (.flt x) (.type "float")
 | lst {a:Addr} {xs:List V} (e:H a=some (.lst xs)):TyOf K H (.ref a) (.type "list")
 | frz {a:Addr} {o:Obj} {xs:List V} (e:H a=some (.frz o (.lst xs))):TyOf K H (.ref a) (.type "list")
 | tup {a:Addr} {xs:List V} (e:H a=some (.tup xs)):TyOf K H (.ref a) (.type "tuple")
 | dK {a:Addr} {kvs:List (Key×V)} (e:H a=some (.dK kvs)):TyOf K H (.ref a) (.type "dict")
 | dT {a:Addr} {kvs:List (List Key×V)} (e:H a=some (.dT kvs)):TyOf K H (.ref a) (.type "dict")
 | ins {a C dx:Addr} {fs:List (Str×V)} (e:H a=some (.ins C dx fs)) (cl:Cls K C) (ha:PySem.W.findIn K (.ref C) "__class__" = some (some (.builtin "object.__class__")))
   (hn:PySem.W.specialIn K (.builtin "object.__class__") "__get__" = some (some (.builtin "getset_descriptor.__get__"))) (htk:PySem.W.takesIn K (.builtin "object.__class__")=some true)
   (hm:PySem.W.mroIn K C (.type "object")=some true):TyOf K H (.ref a) (.ref C)
theorem uM {x:V} {u t:Value} (I:Inv X pins σ H s) (rx:RelV x u) (ty:TyOf X.K H x t) (e:PySem.W.kitOne X.K t c=some b) (h:∀ tk,Q (.bool b) { s with toks:=tk }) :
  wpAny (model X.prog X.w) A (call (.builtin "isinstance") [u,c]) Q E s:=by
 cases ty with
 | non=>cases (show u=Value.none from rx); exact PySem.W.kia_one PySem.W.kitx_none I.kIn True.intro e (fun z=>nomatch z) h
 | bl y=>cases (show u=Value.bool y from rx); exact PySem.W.kia_one PySem.W.kitx_bool I.kIn True.intro e (fun z=>nomatch z) h
 | int i=>obtain ⟨t,q⟩:=(show ∃ t,u=Value.int i t from rx); cases q; exact PySem.W.kia_one PySem.W.kitx_int I.kIn True.intro e (fun z=>nomatch z) h
 | str y=>obtain ⟨t,q⟩:=(show ∃ t,u=Value.str y t from rx); cases q; exact PySem.W.kia_one PySem.W.kitx_str I.kIn True.intro e (fun z=>nomatch z) h
 | flt y=>obtain ⟨t,q⟩:=(show ∃ t,u=Value.float y t from rx); cases q; exact PySem.W.kia_one PySem.W.kitx_float I.kIn True.intro e (fun z=>nomatch z) h
 | @lst a xs ea =>
  cases (show u=Value.ref a from rx)
  obtain ⟨_,_,n,_,h1⟩:=(show ObjOk X.prog X.w H s.heap a (.lst xs) from I.hok a _ ea)
  exact PySem.W.kia_one PySem.W.kitx_list I.kIn ⟨_,h1,rfl⟩ e (fun z=>nomatch z) h
 | @frz a ob xs ea =>
  cases (show u=Value.ref a from rx)
  obtain ⟨_,_,_,n,_,h1⟩:=(show ObjOk X.prog X.w H s.heap a (.frz ob (.lst xs)) from I.hok a _ ea)
  exact PySem.W.kia_one PySem.W.kitx_list I.kIn ⟨_,h1,rfl⟩ e (fun z=>nomatch z) h
 | @tup a xs ea =>
  cases (show u=Value.ref a from rx)
  obtain ⟨_,_,_,p⟩:=(show ObjOk X.prog X.w H s.heap a (.tup xs) from I.hok a _ ea)
  obtain ⟨o,h1,h2,_⟩:=p
  exact PySem.W.kia_one PySem.W.kitx_tuple I.kIn ⟨o,h1,h2⟩ e (fun z=>nomatch z) h
 | @dK a kvs ea =>
  cases (show u=Value.ref a from rx)
  obtain ⟨_,_,vs,_,p⟩:=(show ObjOk X.prog X.w H s.heap a (.dK kvs) from I.hok a _ ea)
  obtain ⟨o,es,ep,h1,h2,_⟩:=p
  exact PySem.W.kia_one PySem.W.kitx_dict I.kIn ⟨o,h1,h2.1⟩ e (fun z=>nomatch z) h
 | @dT a kvs ea =>
  cases (show u=Value.ref a from rx)
  obtain ⟨_,_,xs,_,o,es,ep,h1,h2,_⟩:=(show ObjOk X.prog X.w H s.heap a (.dT kvs) from I.hok a _ ea)
  exact PySem.W.kia_one PySem.W.kitx_dict I.kIn ⟨o,h1,h2.1⟩ e (fun z=>nomatch z) h
 | @ins a C dx fs ea cl ha hn htk hm =>
  cases (show u=Value.ref a from rx)
  obtain ⟨mA,O,_⟩:=yE I.hok ea
  obtain ⟨od,J,_⟩:=O.look
  exact PySem.W.kia_one (PySem.W.kitx_own (cl.get _) cl.hd ha hn htk hm) I.kIn J e (fun z=>nomatch z) h
end
end L2
namespace L2
open PySem PySem.Spec PyProof.Rows
structure Room (k:Nat) (A:Around):Prop where
 hd:A.handled=none
 dp:A.depth + 3 * k + 5 < recursionLimit
 un:A.units + 16 * k + 200 < cLine
theorem Room.mono {j k:Nat} {A:Around} (r:Room k A) (h:j <= k):Room j A:=⟨r.hd,by have:=r.dp; omega,by have:=r.un; omega⟩
theorem Room.deeper {k:Nat} {A:Around} (r:Room (k + 1) A) (env:Env):Room k (A.deeper env) :=
 ⟨r.hd,by have:=r.dp; show A.depth + 1 + 3 * k + 5 < _; omega,by have:=r.un; show A.units + 3 + 16 * k + 200 < _; omega⟩
theorem Room.in1 {k:Nat} {A:Around} (r:Room (k + 1) A):Room k A.in1 :=
 ⟨r.hd,by have:=r.dp; show A.depth + 3 * k + 5 < _; omega,by have:=r.un; show A.units + 1 + 16 * k + 200 < _; omega⟩
theorem Room.depth {k:Nat} {A:Around} (r:Room k A):A.depth < recursionLimit:=by have:=r.dp; omega
theorem Room.units {k:Nat} {A:Around} (r:Room k A):A.units + 64 < cLine:=by have:=r.un; omega
def tNil:TA:=fun _ H Q=>Q [] H
def wJ (ta:TE) (tr:TA):TA:=fun σ H Q=>ta σ H fun x H1=>tr σ H1 fun xs H2=>Q (x::xs) H2
section
variable {X:Cx} {e:Expr} {es:List Expr} {te:TE} {t:TA} {pos:Pos}
theorem jb:PA X [] tNil:=fun _ _ _ _ H Q I h=>Calls.spliced_nil ⟨[],H,I,.nil,h⟩
theorem eQ (ha:PE X e te) (hr:PA X es t) (hs:starEach (e::es) X.env=(false,eval e X.env)::starEach es X.env:=by rfl):PA X (e::es) (wJ te t):=by
 intro pos pins s σ H Q I h
 rw [hs]
 show wpAny _ _ (spliced ((false,eval e X.env)::backTo pos (starEach es X.env))) _ _ s
 refine Calls.spliced_cons (thn (ha pins s σ H _ I h) fun u s1 ⟨x,H1,I1,r1,q1⟩=>?_)
 exact thn (hr pos pins s1 σ H1 _ I1 q1) fun us s2 ⟨xs,H2,I2,r2,q2⟩=>⟨x::xs,H2,I2,.cons r1 r2,q2⟩
def tTup (t:TA):TE:=fun σ H Q=>t σ H fun xs H1=>xs.length <= sizeLine /\ ∀ p,H1 p=none->Q (.ref p) (upd H1 p (.tup xs))
def tLst (t:TA):TE:=fun σ H Q=>t σ H fun xs H1=>xs.length <= sizeLine /\ ∀ p,H1 p=none->Q (.ref p) (upd H1 p (.lst xs))
theorem AN {x1} (h:PA X es t):PE X (.Tuple es x1 pos) (tTup t):=by
 intro pins s σ H Q I hq
 refine wpAny_Tuple_spliced (thn (h pos pins s σ H _ I hq) fun us s1 ⟨xs,H1,I1,r,z,q⟩=>⟨by rw [← r.length]; exact z,?_⟩)
 have hf:H1 s1.heap.objs.size=none:=I1.hok.fresh (Nat.le_refl _)
 refine ⟨.ref s1.heap.objs.size,upd H1 s1.heap.objs.size (.tup xs),I1.laid (t':=s1.toks) (fun b u e=>Heap.get?_push_of_some _ e) (Nat.le_refl _) ?_,rfl,q _ hf⟩
 exact ⟨z,us,r,⟨_,Heap.get?_push_size _ rfl,rfl,_,rfl⟩⟩
theorem xT (h:PA X es t):PE X (.List es pos) (tLst t):=by
 intro pins s σ H Q I hq
 refine wpAny_List_spliced (thn (h pos pins s σ H _ I hq) fun us s1 ⟨xs,H1,I1,r,z,q⟩=>⟨by rw [← r.length]; exact z,?_⟩)
 have hf:H1 s1.heap.objs.size=none:=I1.hok.fresh (Nat.le_refl _)
 refine ⟨.ref s1.heap.objs.size,upd H1 s1.heap.objs.size (.lst xs),I1.laid (t':=s1.toks) (fun b u e=>Heap.get?_push_of_some _ e) (Nat.le_refl _) ?_,rfl,q _ hf⟩
 exact ⟨z,us,0,r,Heap.get?_push_size _ rfl⟩
end
abbrev Sp:=List V->Hp->VK->XK->Prop
abbrev CXT:=List Env->Hp->Shared->XK->Value->Shared->Prop
structure Env0 (P:Program) (w:World) (K:PySem.W.Frag) (mg:Str->Option Value) (base:Heap) (A:Around) (outer:List Env) (s:Shared) (H:Hp):Prop where
 frames:A.frames=some outer
 mod:Mod K mg base
 bs:∀ b o,base.get? b=some o->s.heap.get? b=some o /\ H b=none
 bsz:base.objs.size <= s.heap.objs.size
 funs:s.heap.FunFrames base outer
 frf:∀ b∈frs outer,H b=none
 hok:HOk P w H s.heap
 bare:AllBare s.gens
def CE (outer:List Env) (P:Program) (w:World) (H:Hp) (s:Shared) (Q:VK) (u:Value) (s':Shared):Prop :=
 ∃ v H',s'.os=s.os /\ AllBare s'.gens /\ Un (frs outer) [] H H' s.heap s'.heap /\ HOk P w H' s'.heap /\ RelV v u /\ Q v H'
def CR (CX:CXT) (outer:List Env) (P:Program) (w:World) (H:Hp) (s:Shared) (Q:VK) (E:XK) (r:Result) (s':Shared):Prop :=
 match r with
 | .ok (.ret u)=>CE outer P w H s Q u s'
 | .ok _=>False
 | .error e=>CX outer H s E e s'
structure FnOk (P:Program) (w:World) (K:PySem.W.Frag) (mg:Str->Option Value) (base:Heap) (CX:CXT) (k:Nat) (f:Addr) (fd:FuncData) (ps:List Str) (sp:Sp):Prop where
 len:∀ vs H Q E,sp vs H Q E->vs.length=ps.length
 run:∀ (A:Around) (outer:List Env) (s:Shared) (H:Hp) (args:Args) (us:List Value) (vs:List V) (Q:VK) (E:XK),Room k A->Env0 P w K mg base A outer s H->BindsTo s fd args (ps.zip us)->Vals vs us->sp vs H Q E ->
  codeAny (model P w) A (.call (.ref f) args) (CR CX outer P w H s Q E) s
theorem FnOk.mono {P:Program} {w:World} {K:PySem.W.Frag} {mg:Str->Option Value} {base:Heap} {CX:CXT} {j k:Nat} {f:Addr} {fd:FuncData} {ps:List Str} {sp:Sp} (F:FnOk P w K mg base CX j f fd ps sp) (h:j <= k) :
  FnOk P w K mg base CX k f fd ps sp:=⟨F.len,fun A outer s H args us vs Q E hr=>F.run A outer s H args us vs Q E (hr.mono h)⟩
theorem FnOk.imp {P:Program} {w:World} {K:PySem.W.Frag} {mg:Str->Option Value} {base:Heap} {CX:CXT} {k:Nat} {f:Addr} {fd:FuncData} {ps:List Str} {sp sp':Sp} (F:FnOk P w K mg base CX k f fd ps sp)
  (h:∀ vs H Q E,sp' vs H Q E->sp vs H Q E):FnOk P w K mg base CX k f fd ps sp' :=
 ⟨fun vs H Q E q=>F.len vs H Q E (h _ _ _ _ q),fun A outer s H args us vs Q E hr he hb hv hs=>F.run A outer s H args us vs Q E hr he hb hv (h _ _ _ _ hs)⟩
theorem Env0.in1 {P:Program} {w:World} {K:PySem.W.Frag} {mg:Str->Option Value} {base:Heap} {A:Around} {outer:List Env} {s:Shared} {H:Hp} (e:Env0 P w K mg base A outer s H) :
  Env0 P w K mg base A.in1 outer s H:=⟨e.frames,e.mod,e.bs,e.bsz,e.funs,e.frf,e.hok,e.bare⟩
section
variable {X:Cx} {pins:List (Addr×Obj)} {σ:St} {H:Hp} {s s':Shared}
theorem Inv.env0 (I:Inv X pins σ H s):Env0 X.prog X.w X.K X.mg X.base X.A X.stack s H :=
 ⟨I.ok.frames,I.ok.mod,I.bs,Nat.le_trans I.ok.bsz I.sz,I.stack,I.stkFree,I.hok,I.bare⟩
theorem Inv.after {Q:VK} {u:Value} (I:Inv X pins σ H s) (h:CE X.stack X.prog X.w H s Q u s'):EP X pins σ Q u s':=by
 obtain ⟨v,H',os,bare,un,hok,r,q⟩:=h
 obtain ⟨hh,g,d,t,os'⟩:=s'
 obtain rfl:os'=s.os:=os
 exact ⟨v,H',I.call (h':=hh) (g':=g) (d':=d) (t':=t) (ch:=[]) un hok bare (fun b z=>absurd z (by simp)),r,q⟩
end
def AO (sp:Sp) (dvs:List V) (E:XK) (t:TA):TE:=fun σ H Q=>t σ H fun vs H1=>sp (vs++dvs) H1 Q E
def Binds (K:PySem.W.Frag) (fd:FuncData) (ps:List Str) (ds:List Value):Prop :=
 ∀ (s:Shared) (us:List Value),K.In s.heap->(us++ds).length=ps.length->BindsTo s fd ⟨us,[]⟩ (ps.zip (us++ds))
theorem Binds.all {K:PySem.W.Frag} {fd:FuncData} {ps:List Str} (h:∀ us:List Value,us.length=ps.length->bindArgs fd ⟨us,[]⟩=pure (ps.zip us)):Binds K fd ps []:=fun s us _ hl=>by
 rw [List.append_nil] at hl ⊢
 exact .of_eq (h us hl)
def uN (CX:CXT) (X:Cx) (E:XK):Prop:=∀ (pins:List (Addr×Obj)) (σ:St) (H:Hp) (s:Shared) (e:Value) (s':Shared),Inv X pins σ H s->CX X.stack H s E e s'->X.xe e s'
section
variable {X:Cx} {CX:CXT} {k:Nat} {f C:Addr} {fd:FuncData} {ps:List Str} {sp:Sp} {dvs:List V} {ds:List Value} {E:XK} {x m:Str} {p pos apos:Pos} {e o:Expr} {es:List Expr} {ta:TE} {t:TA}
theorem AQ {pins:List (Addr×Obj)} {σ:St} {H:Hp} {s:Shared} {Q:VK} {us:List Value} {vs:List V} (F:FnOk X.prog X.w X.K X.mg X.base CX k f fd ps sp) (hr:Room k X.A) (hb:Binds X.K fd ps ds) (hd:Vals dvs ds) (hx:uN CX X E)
  (I:Inv X pins σ H s) (r:Vals vs us) (h:sp (vs++dvs) H Q E):wpAny (model X.prog X.w) X.A (call (.ref f) us) (EP X pins σ Q) X.xe s:=by
 have r2:Vals (vs++dvs) (us++ds):=r.append hd
 have hl:(us++ds).length=ps.length:=by rw [← r2.length]; exact F.len _ _ _ _ h
 refine wpAny_call (codeAny_mono (F.run X.A X.stack s H ⟨us,[]⟩ (us++ds) (vs++dvs) Q E hr I.env0 (hb s us I.kIn hl) r2 h) fun r s' hq=>?_)
 cases r with
 | error e=>exact hx pins σ H s e s' I hq
 | ok fl =>
  cases fl with
  | ret u=>exact I.after hq
  | next=>exact False.elim hq
  | brk=>exact False.elim hq
  | cont=>exact False.elim hq
theorem qS (F:FnOk X.prog X.w X.K X.mg X.base CX k f fd ps sp) (hr:Room k X.A) (hg:Gl X x) (hm:X.mg x=some (.ref f)) (hk:PySem.W.keepIn X.K (.ref f)=true) (hb:Binds X.K fd ps ds) (hd:Vals dvs ds) (hx:uN CX X E)
  (ha:PA X (e::es) t) (hdb:(x == ("__debug__" : Str))=false:=by decide) (he:starEach (e::es) X.env=(false,eval e X.env)::starEach es X.env:=by rfl) (hpl:(backTo pos (starEach es X.env)).any (·.1)=false:=by rfl) :
  PE X (.Call (.Name x p) (e::es) [] pos) (AO sp dvs E t):=by
 intro pins s σ H Q I h
 refine wpAny_Call_Name_kw (yq I hg hm ?_ hdb)
 refine PySem.W.callWith_K (h₀:=X.base) I.ok.mod.kin hk (thn (ha pos pins s σ H _ I h) fun us s1 ⟨vs,H1,I1,r,q⟩=>⟨I1.kIn,?_⟩) he hpl
 exact AQ F hr hb hd hx I1 r q
structure Mk (K:PySem.W.Frag) (C f:Addr):Prop where
 makes:PySem.W.makesIn K C=true
 init:PySem.W.findIn K (.ref C) "__init__" = some (some (.ref f))
 fn:PySem.W.isFn K (.ref f)=true
 kp:PySem.W.keepIn K (.ref C)=true
end
def PK (X:Cx) (kws:List Keyword) (t:TA):Prop :=
 ∀ (pos:Pos) (pins:List (Addr×Obj)) (s:Shared) (σ:St) (H:Hp) (Q:List V->Hp->Prop),Inv X pins σ H s->t σ H Q->wpAny (model X.prog X.w) X.A (evalAll ((backToKw pos (keywordEach kws X.env)).map (·.2))) (AP X pins σ Q) X.xe s
section
variable {X:Cx} {CX:CXT} {k:Nat} {f C:Addr} {fd:FuncData} {ps ks:List Str} {sp:Sp} {E:XK} {x m:Str} {p pos apos kpos:Pos} {e o:Expr} {es:List Expr} {kws:List Keyword} {te ta:TE} {t tk:TA} {nm:Option Str}
theorem AR:PK X [] tNil:=fun _ _ _ _ H Q I h=>wpAny_evalAll_nil ⟨[],H,I,.nil,h⟩
theorem yF (ha:PE X e te) (hr:PK X kws t):PK X (⟨nm,e,kpos⟩::kws) (wJ te t):=by
 intro pos pins s σ H Q I h
 show wpAny _ _ (evalAll ((do let v ← eval e X.env; standAt pos; pure v)::(backToKw pos (keywordEach kws X.env)).map (·.2))) _ _ s
 refine wpAny_evalAll_cons (wpAny_bind (thn (ha pins s σ H _ I h) fun u s1 ⟨x,H1,I1,r1,q1⟩=>wpAny_bind (wpAny_standAt (wpAny_pure ?_))))
 exact thn (hr pos pins s1 σ H1 _ I1 q1) fun us s2 ⟨xs,H2,I2,r2,q2⟩=>⟨x::xs,H2,I2,.cons r1 r2,q2⟩
structure KBinds (K:PySem.W.Frag) (fd:FuncData) (ps ks:List Str) (g:List Value->List Value->List Value) (gV:List V->List V->List V):Prop where
 to:∀ (s:Shared) (us ws:List Value),K.In s.heap->(g us ws).length=ps.length->BindsTo s fd ⟨us,ks.zip ws⟩ (ps.zip (g us ws))
 rel:∀ {vs:List V} {us:List Value} {zs:List V} {ws:List Value},Vals vs us->Vals zs ws->Vals (gV vs zs) (g us ws)
variable {g:List Value->List Value->List Value} {gV:List V->List V->List V}
end
structure FnScope (N P:List Str) (sc:Scope):Prop where
 kind:sc.kind = .function
 co:sc.isCoroutine=false
 gen:sc.isGenerator=false
 nd:N.Nodup
 pre:N.take P.length=P
 par:∀ x∈P,sc.names.lookup x=some .local∨sc.names.lookup x=some .cell
 nofree:∀ y∈sc.names,y.2 ≠ .free
theorem pf {kindOf:Str->Option NameKind} {x:Str}:∀ {binds:List (Str×Value)} {m:Str->Option Value},(∀ v,(x,v)∉binds)->bindL kindOf binds m x=m x
 | [],_,_=>rfl
 | (n,v)::r,m,h=>by
  unfold bindL
  rw [pf fun w hw=>h w (List.mem_cons_of_mem _ hw)]
  split
  ·have:x≠n:=by rintro rfl; exact h v List.mem_cons_self
   simp [this]
  ·rfl
theorem pj {kindOf:Str->Option NameKind} {x:Str}:∀ {binds:List (Str×Value)} {m:Str->Option Value},(∀ v,(x,v)∉binds)->bindC kindOf binds m x=m x
 | [],_,_=>rfl
 | (n,v)::r,m,h=>by
  unfold bindC
  rw [pj fun w hw=>h w (List.mem_cons_of_mem _ hw)]
  split
  ·rfl
  ·have:x≠n:=by rintro rfl; exact h v List.mem_cons_self
   simp [this]
theorem pq {kindOf:Str->Option NameKind} {x:Str} {v:Value}:∀ {P:List Str} {vs:List Value} {i:Nat} {m:Str->Option Value},P.Nodup->P[i]? = some x->vs[i]? = some v->kindOf x=some .local ->
  bindL kindOf (P.zip vs) m x=some v
 | [],_,_,_,_,h,_,_=>by simp at h
 | _::_,[],_,_,_,_,h,_=>by simp at h
 | p::P,w::vs,0,m,nd,h1,h2,hk=>by
  simp at h1 h2; subst h1; subst h2
  show bindL kindOf ((p,w)::P.zip vs) m p=_
  unfold bindL
  rw [pf fun v hv=>(List.nodup_cons.mp nd).1 (List.of_mem_zip hv).1,if_pos hk]
  simp
 | p::P,w::vs,i + 1,m,nd,h1,h2,hk=>by
  show bindL kindOf ((p,w)::P.zip vs) m x=_
  unfold bindL
  exact pq (i:=i) (List.nodup_cons.mp nd).2 (by simpa using h1) (by simpa using h2) hk
theorem pr {kindOf:Str->Option NameKind} {x:Str} {v:Value}:∀ {P:List Str} {vs:List Value} {i:Nat} {m:Str->Option Value},P.Nodup->P[i]? = some x->vs[i]? = some v->kindOf x≠some .local ->
  bindC kindOf (P.zip vs) m x=some v
 | [],_,_,_,_,h,_,_=>by simp at h
 | _::_,[],_,_,_,_,h,_=>by simp at h
 | p::P,w::vs,0,m,nd,h1,h2,hk=>by
  simp at h1 h2; subst h1; subst h2
  show bindC kindOf ((p,w)::P.zip vs) m p=_
  unfold bindC
  rw [pj fun v hv=>(List.nodup_cons.mp nd).1 (List.of_mem_zip hv).1,if_neg hk]
  simp
 | p::P,w::vs,i + 1,m,nd,h1,h2,hk=>by
  show bindC kindOf ((p,w)::P.zip vs) m x=_
  unfold bindC
  exact pr (i:=i) (List.nodup_cons.mp nd).2 (by simpa using h1) (by simpa using h2) hk
def start (N:List Str) (vs:List V):St:=vs.map some++List.replicate (N.length - vs.length) none
def cxOf (CX:CXT) (P:Program) (w:World) (K:PySem.W.Frag) (mg:Str->Option Value) (base:Heap) (N:List Str) (qual:Str) (scope:Scope) (f:Addr) (cd:Value) (A:Around) (outer:List Env) (s:Shared) (H:Hp) (E:XK):Cx where
 prog:=P
 w:=w
 K:=K
 mg:=mg
 base:=base
 A:=A.deeper (envOfC qual scope s.heap.objs.size f cd)
 N:=N
 s₀:=s
 H₀:=H
 env:=envOfC qual scope s.heap.objs.size f cd
 outer:=outer
 stack:=envOfC qual scope s.heap.objs.size f cd::outer
 ex:=[]
 calm:=true
 fn:=fun _=>true
 pn:=[]
 xe:=fun e s'=>wpAny (model P w) (A.deeper (envOfC qual scope s.heap.objs.size f cd)) (leaving (envOfC qual scope s.heap.objs.size f cd) e) (fun _ s''=>CX outer H s E e s'') (fun e' s''=>CX outer H s E e' s'') s'
theorem so {sc:Scope} {n:Nat} {x:Str} (h:sc.names.lookup x=some .cell):∃ c,(cellsFrom n sc.names []).lookup x=some c:=by
 have q:=PySem.W.cellsFrom_some sc.names n [] (.inl h)
 exact Option.isSome_iff_exists.mp q
theorem uO {CX:CXT} {P:Program} {w:World} {K:PySem.W.Frag} {mg:Str->Option Value} {base:Heap} {N ps:List Str} {qual:Str} {scope:Scope} {f:Addr} {cd:Value} {A:Around} {outer:List Env} {s s1:Shared} {H:Hp} {E:XK} {us:List Value} {vs:List V}
  (S:FnScope N ps scope) (hd:A.handled=none) (e0:Env0 P w K mg base A outer s H) (hl:vs.length=ps.length) (r:Vals vs us)
  (x:InCallC s s.heap.objs.size (bindL (envOfC qual scope s.heap.objs.size f cd).kindOf (ps.zip us) fun _=>none) (cellsFrom (s.heap.objs.size + 1) scope.names []) (bindC (envOfC qual scope s.heap.objs.size f cd).kindOf (ps.zip us) fun _=>none) s1) :
  Inv (cxOf CX P w K mg base N qual scope f cd A outer s H E) [] (start N vs) H s1:=by
 have hpl:ps.length <= N.length:=by have:=congrArg List.length S.pre; rw [List.length_take] at this; omega
 obtain ⟨h1,tk,rfl,hk⟩:=x.done
 have noA:∀ b:Addr,b∉(cxOf CX P w K mg base N qual scope f cd A outer s H E).ex:=fun b z=>absurd (show b∈([]:List Addr) from z) (by simp)
 refine ⟨⟨e0.mod,S.kind,rfl,rfl,Nat.le_refl _,fun y z c h1 h2=>?_,fun y hy=>?_,fun y c _ h=>?_,fun _=>hd,Around.frames_deeper e0.frames,.inr ⟨rfl,rfl⟩,fun b z=>absurd z (noA b),e0.bs,e0.bsz,fun b _ _=>noA b,fun b z=>absurd z (noA b),e0.funs,e0.frf⟩,
  rfl,e0.bare,Un.kept hk,⟨_,x.toInCall.ns,fun i y v h1 h2 h3=>?_⟩,fun y c h=>⟨_,x.cell y c h⟩,e0.hok.fresh (Nat.le_refl _),fun y c h=>?_,fun p hp=>absurd (show p∈([]:List (Addr×Obj)) from hp) (by simp),e0.hok.kept hk,?_⟩
 ·exact name_of_addr x.apart (PySem.mem_of_lookup h1) (PySem.mem_of_lookup h2)
 ·have hy:scope.names.lookup y=some .cell∨scope.names.lookup y=some .free:=hy
  rcases hy with hy | hy
  ·exact so hy
  ·exact absurd rfl (S.nofree _ (PySem.mem_of_lookup hy))
 ·exact Nat.le_of_lt (x.above y c (PySem.mem_of_lookup h))
 ·have hi:i < vs.length:=by
   unfold start at h2
   by_cases hi:i < vs.length
   ·exact hi
   ·rw [List.getElem?_append_right (by simpa using hi)] at h2
    rw [List.getElem?_replicate] at h2
    split at h2 <;> cases h2
  have ha:vs[i]? = some v:=by
   unfold start at h2
   rw [List.getElem?_append_left (by simpa using hi),List.getElem?_map] at h2
   cases e:vs[i]? with
   | none=>rw [e] at h2; cases h2
   | some a=>rw [e] at h2; cases h2; rfl
  obtain ⟨u,hu,rv⟩:=r.get ha
  have hp:ps[i]? = some y:=by
   rw [← S.pre,List.getElem?_take_of_lt (by omega)]; exact h1
  have ndP:ps.Nodup:=by rw [← S.pre]; exact S.nd.sublist (List.take_sublist _ _)
  refine ⟨u,rv,?_⟩
  rcases S.par y (List.mem_of_getElem? hp) with k | k
  ·exact .inl ⟨k,pq ndP hp hu k⟩
  ·obtain ⟨c,e⟩:=so (n:=s.heap.objs.size + 1) k
   refine .inr ⟨.inl k,c,e,?_⟩
   have q:=x.cell y c e
   rw [pr ndP hp hu (by show scope.names.lookup y≠_; rw [k]; decide)] at q
   exact q
 ·exact e0.hok.fresh (Nat.le_of_lt (x.above y c (PySem.mem_of_lookup h)))
 ·unfold start
  show _=N.length
  rw [List.length_append,List.length_map,List.length_replicate]
  omega
theorem yG {CX:CXT} {P:Program} {w:World} {K:PySem.W.Frag} {mg:Str->Option Value} {base:Heap} {k:Nat} {f:Addr} {name qual:Str} {params:Arguments} {body:List Stmt} {scope:Scope} {dV kV doc pm cdv ct oc:Value} {an od:Option Addr}
  {osl:Array (Option Value)} {N ps:List Str} {sp:Sp} (lk:K.lookup f=some ⟨oc,od,.func (PySem.W.fnOf name qual params body scope dV kV doc pm an cdv ct),osl⟩) (hcd:PySem.W.codeIn K cdv qual=true) (S:FnScope N ps scope)
  (len:∀ vs H Q E,sp vs H Q E->vs.length=ps.length)
  (hbody:∀ (A:Around) (outer:List Env) (s:Shared) (H:Hp) (vs:List V) (Q:VK) (E:XK),Room k (A.deeper (envOfC qual scope s.heap.objs.size f cdv))->sp vs H Q E ->
   ∃ t,PSs (cxOf CX P w K mg base N qual scope f cdv A outer s H E) body t /\ t { nx:=fun _ H'=>Q .non H',rt:=Q } (start N vs) H) :
  FnOk P w K mg base CX (k + 1) f (PySem.W.fnOf name qual params body scope dV kV doc pm an cdv ct) ps sp:=by
 refine ⟨len,fun A outer s H args us vs Q E hr e0 hb r hsp=>?_⟩
 have hl:=len _ _ _ _ hsp
 have KX:K.In s.heap:=e0.mod.kin.keeps fun b o e=>(e0.bs b o e).1
 have lim:s.heap.NoLimit:=e0.mod.nolimit.keeps fun b o e=>(e0.bs b o e).1
 have hkind:∀ y∈ps.zip us,scope.names.lookup y.1=some .local∨(scope.names.lookup y.1=some .cell /\ ((cellsFrom (s.heap.objs.size + 1) scope.names []).lookup y.1).isSome=true):=fun ⟨n,v⟩ hy=>by
  rcases S.par n (List.of_mem_zip hy).1 with q | q
  ·exact .inl q
  ·exact .inr ⟨q,PySem.W.cellsFrom_some _ _ _ (.inl q)⟩
 refine codeAny_call_function hr.depth (KX _ _ lk) rfl S.co S.gen rfl (PySem.W.codeRec_of KX hcd) (hb _ _ _ _ ?_)
 refine wpAny_newFunctionEnv_cells S.kind hkind fun env he s1 x=>?_
 subst he
 refine ⟨lim.keeps x.toInCall.keep,codeAny_func ?_⟩
 obtain ⟨t,ht,hq⟩:=hbody A outer s H vs Q E (hr.deeper _) hsp
 have I:Inv (cxOf CX P w K mg base N qual scope f cdv A outer s H E) [] (start N vs) H s1:=uO S hr.hd e0 hl r x
 refine wpAny_mono (ht [] s1 (start N vs) H _ I hq) (fun fl s' hs=>?_) fun e s' hs=>hs
 have fin:∀ {σ':St} {H':Hp} {v:V} {u:Value},Inv (cxOf CX P w K mg base N qual scope f cdv A outer s H E) [] σ' H' s'->RelV v u->Q v H'->CE outer P w H s Q u s' :=
  fun {σ' H' v u} J rv q=>⟨v,H',J.os,J.bare,J.base,J.hok,rv,q⟩
 cases fl with
 | ret u =>
  obtain ⟨v,σ',H',J,rv,q⟩:=hs
  exact fin J rv q
 | next =>
  obtain ⟨σ',H',J,q⟩:=hs
  exact fin (v:=V.non) (u:=Value.none) J rfl q
 | brk =>
  obtain ⟨_,_,_,q⟩:=hs
  exact False.elim q
 | cont =>
  obtain ⟨_,_,_,q⟩:=hs
  exact False.elim q
end L2
namespace L2
open PySem PySem.Spec PyProof.Rows
section
variable {X:Cx} {x:Str} {p pos:Pos} {e:Expr} {es:List Expr} {t:TA} {id T:String} {r:List V->Hp->VK->Prop}
def tCB (r:List V->Hp->VK->Prop) (t:TA):TE:=fun σ H Q=>t σ H fun vs H1=>r vs H1 Q
theorem kZ (hc:CallR X (.builtin id) r) (hg:Gl X x) (hm:X.mg x=none) (hv:bootBuiltins x=some (.builtin id)) (ha:PA X (e::es) t) (hn:x ≠ "__name__":=by decide) (hdb:(x == ("__debug__" : Str))=false:=by decide)
  (he:starEach (e::es) X.env=(false,eval e X.env)::starEach es X.env:=by rfl) (hpl:(backTo pos (starEach es X.env)).any (·.1)=false:=by rfl):PE X (.Call (.Name x p) (e::es) [] pos) (tCB r t):=by
 intro pins s σ H Q I h
 refine wpAny_Call_Name_kw (lA I hg hm hv ?_ hn hdb)
 exact PyProof.Rows.callWith_builtin1 (thn (ha pos pins s σ H _ I h) fun us s1 ⟨vs,H1,I1,r1,q1⟩=>hc pins s1 σ H1 vs us Q I1 r1 q1) he hpl
theorem pz (hc:CallR X (.type T) r) (hg:Gl X x) (hm:X.mg x=none) (hv:bootBuiltins x=some (.type T)) (ha:PA X (e::es) t) (hn:x ≠ "__name__":=by decide) (hdb:(x == ("__debug__" : Str))=false:=by decide)
  (he:starEach (e::es) X.env=(false,eval e X.env)::starEach es X.env:=by rfl) (hpl:(backTo pos (starEach es X.env)).any (·.1)=false:=by rfl):PE X (.Call (.Name x p) (e::es) [] pos) (tCB r t):=by
 intro pins s σ H Q I h
 refine wpAny_Call_Name_kw (lA I hg hm hv ?_ hn hdb)
 exact PyProof.Rows.callWith_type1 (thn (ha pos pins s σ H _ I h) fun us s1 ⟨vs,H1,I1,r1,q1⟩=>hc pins s1 σ H1 vs us Q I1 r1 q1) he hpl
end
end L2
namespace HT
open PySem PyProof.Rows
section
open PySem.SeqAt
open PySem.AutoSeq1 (wpAny_loadPart')
open PySem.MeetsSeq PySem.MeetsSeq2 PySem.MeetsSeq3
end
section
variable {prog:Program} {w:World} {A:Around} {E:Value->Shared->Prop} {s:Shared}
theorem cat_tup {t b:Addr} {vs ws:List Value} {Q:Value->Shared->Prop} (ht:IsTup s.heap t vs.toArray) (hb:IsTup s.heap b ws.toArray) (hv:vs≠[])
  (h1:ws=[]->Q (.ref t) s) (h2:ws≠[]->Q (.ref s.heap.objs.size) { s with heap:=s.heap.push { cls:=.type "tuple",data:=.seq (vs++ws).toArray } })
  (hsz:vs.length + ws.length <= sizeLine):wpAny (model prog w) A (binaryOp .Add (.ref t) (.ref b)) Q E s:=by
 obtain ⟨⟨cls,dd,data,sl⟩,ho,hc,n,hd⟩:=id ht
 obtain ⟨⟨cls2,dd2,data2,sl2⟩,ho2,hc2,n2,hd2⟩:=id hb
 simp only at hc hd hc2 hd2
 subst hc hd hc2 hd2
 have e:vs.toArray++ws.toArray=(vs++ws).toArray:=by simp
 by_cases hw:ws=[]
 ·exact concat_meets ⟨_,ho,rfl⟩ ⟨_,ho2,rfl⟩ noFill_tuple_add seq_tuple_add PySem.F.slot_tuple_add PySem.F.entry_tuple_add (PySem.F.args_tuple_add_2 _ _)
   (tuple_addW1 t b vs.toArray ws.toArray n n2 dd dd2 sl sl2 (by simpa using hv) (by simp [hw])) ⟨ho,ho2,h1 hw⟩
 ·refine concat_meets ⟨_,ho,rfl⟩ ⟨_,ho2,rfl⟩ noFill_tuple_add seq_tuple_add PySem.F.slot_tuple_add PySem.F.entry_tuple_add (PySem.F.args_tuple_add_2 _ _)
   (tuple_addW2 t b vs.toArray ws.toArray n n2 dd dd2 sl sl2 (by simpa using hv) (by simpa using hw) (by rw [List.size_toArray,List.size_toArray]; exact hsz)) ⟨ho,ho2,?_⟩
  rw [e]
  exact h2 hw
def sIx (n d:Nat):Option Int->Nat
 | none=>d
 | some v=>if v < 0 then (v + (n:Int)).toNat else min v.toNat n
theorem AS (n d:Nat) (hd:d <= n) (o:Option Int):sIx n d o <= n:=by
 cases o with
 | none=>exact hd
 | some v =>
  show (if v < 0 then (v + (n:Int)).toNat else min v.toNat n) <= n
  by_cases hv:v < 0
  ·rw [if_pos hv]; omega
  ·rw [if_neg hv]; exact Nat.min_le_right _ _
theorem uP (v:Int) (n d:Nat):(if v < 0 then max (v + (n:Int)) 0 else min v (n:Int))=((sIx n d (some v):Nat):Int):=by
 show (if v < 0 then max (v + (n:Int)) 0 else min v (n:Int))=(((if v < 0 then (v + (n:Int)).toNat else min v.toNat n):Nat):Int)
 by_cases hv:v < 0
 ·simp only [if_pos hv]; omega
 ·simp only [if_neg hv]; omega
theorem tQ (lo hi:Option Int) (n:Nat):Builtin.Slice.sliceAdjust lo hi 1 (n:Int)=(((sIx n 0 lo:Nat):Int),((sIx n n hi:Nat):Int)):=by
 have h1:¬ ((1:Int) < 0):=by omega
 unfold Builtin.Slice.sliceAdjust
 simp only [h1,if_false]
 refine Prod.ext ?_ ?_
 ·cases lo with
  | none=>rfl
  | some v=>exact uP v n 0
 ·cases hi with
  | none=>rfl
  | some v=>exact uP v n n
theorem tR (i j:Nat):Builtin.Slice.slicePlaces (i:Int) (j:Int) 1=j - i:=by
 unfold Builtin.Slice.slicePlaces
 have h1:(1:Int) > 0:=by omega
 simp only [h1,if_true,Int.ediv_one]
 split <;> omega
theorem mZ {v:Value} {o:Option Int} {Q:Option Int->Shared->Prop} (p:IsPart v o) (h:Q o s):wpAny (model prog w) A (Builtin.Slice.slicePartIndex v) Q E s:=by
 cases p with
 | none=>exact slicePart_none h
 | int i t=>exact slicePart_int h
theorem kL {sl:Addr} {vl vu:Value} {lo hi:Option Int} {n:Nat} {Q:Int×Int×Nat->Shared->Prop} (hs:s.heap.IsSliceOf sl vl vu .none) (pl:IsPart vl lo) (pu:IsPart vu hi)
  (h:Q (((sIx n 0 lo:Nat):Int),1,sIx n n hi - sIx n 0 lo) s):wpAny (model prog w) A (Builtin.Slice.sliceApplied (.ref sl) (pure (n:Int))) Q E s:=by
 obtain ⟨os,hos,hcs,hds⟩:=id hs
 unfold Builtin.Slice.sliceApplied Builtin.Slice.sliceFields
 refine wpAny_bind (wpAny_bind (wpAny_field hos hds (x:=vl) rfl (wpAny_bind (wpAny_field hos hds (x:=vu) rfl (wpAny_bind (wpAny_field hos hds (x:=.none) rfl (wpAny_pure ?_)))))))
 refine wpAny_bind (slicePart_none ?_)
 show wpAny _ _ (if ((1:Int) == 0)=true then _ else _) _ _ s
 rw [if_neg (by decide)]
 refine wpAny_bind (mZ pl (wpAny_bind (mZ pu (wpAny_bind (wpAny_pure ?_)))))
 show wpAny _ _ (match Builtin.Slice.sliceAdjust lo hi 1 (n:Int) with | (lo,hi)=>pure (lo,(1:Int),Builtin.Slice.slicePlaces lo hi 1)) _ _ s
 rw [tQ lo hi n]
 show wpAny _ _ (pure (((sIx n 0 lo:Nat):Int),(1:Int),Builtin.Slice.slicePlaces ((sIx n 0 lo:Nat):Int) ((sIx n n hi:Nat):Int) 1)) _ _ s
 rw [tR]
 exact wpAny_pure h
theorem wK (xs:Array Value) (i k:Nat):((List.range k).filterMap fun (m:Nat)=>xs[((i:Int) + (m:Int) * 1).toNat]?).toArray=((xs.toList.drop i).take k).toArray:=by
 have e:(fun (m:Nat)=>xs[((i:Int) + (m:Int) * 1).toNat]?)=fun m=>xs[i + m]?:=by
  funext m
  have:((i:Int) + (m:Int) * 1).toNat=i + m:=by omega
  rw [this]
 rw [e]
 have:=pick_run xs i k
 rw [List.filterMap_map] at this
 have e2:((fun x=>xs[x]?) ∘ fun x=>i + x)=fun m=>xs[i + m]?:=rfl
 rw [e2] at this
 rw [this]
theorem getItem_tuple_cut {t sl:Addr} {items:Array Value} {vl vu:Value} {lo hi:Option Int} {Q:Value->Shared->Prop} (ht:IsTup s.heap t items) (hs:s.heap.IsSliceOf sl vl vu .none) (pl:IsPart vl lo) (pu:IsPart vu hi)
  (hw:¬ (sIx items.size 0 lo=0 /\ sIx items.size items.size hi=items.size))
  (h:Q (.ref s.heap.objs.size) { s with heap:=s.heap.push { cls:=.type "tuple",data:=.seq ((items.toList.drop (sIx items.size 0 lo)).take (sIx items.size items.size hi - sIx items.size 0 lo)).toArray } })
  (hsz:items.size <= sizeLine):wpAny (model prog w) A (getItem (.ref t) (.ref sl)) Q E s:=by
 have htake:sizeOk (.seq ((items.toList.drop (sIx items.size 0 lo)).take (sIx items.size items.size hi - sIx items.size 0 lo)).toArray):=by
  show ((items.toList.drop (sIx items.size 0 lo)).take (sIx items.size items.size hi - sIx items.size 0 lo)).toArray.size <= sizeLine
  rw [List.size_toArray,List.length_take,List.length_drop,Array.length_toList]
  omega
 have hj:sIx items.size items.size hi <= items.size:=AS _ _ (Nat.le_refl _) hi
 obtain ⟨os,hos,hcs,hds⟩:=id hs
 have hTs:s.TypeIs (.ref sl) "slice":=⟨os,hos,hcs⟩
 unfold getItem
 try with_reducible refine wpAny_holding ?_
 first | refine wpAny_bind (wpAny_pure ?_) | skip
 refine wpAny_bind (wpAny_sequenceKey ht.typeIs (by decide) ?_)
 refine wpAny_bind (wpAny_callSpecial?_slot (name:=Str.ofString "__getitem__") ht.typeIs PyProof.Rows.slot_tuple_getitem
  (wpAny_call_entry PyProof.Rows.slot_tuple_getitem ht.typeIs entry_tuple_getitem ?_ (args_tuple_getitem _ _)))
 show wpAny _ _ (Builtin.Tuple.tupleItemsOf (.ref t) >>= _) _ _ s
 refine wpAny_bind (tupleItemsOf_ ht ?_)
 refine wpAny_bind (wpAny_typeOf hTs ?_)
 rw [if_pos (by decide)]
 refine wpAny_bind (kL hs pl pu ?_)
 have hno:¬ ((((sIx items.size 0 lo:Nat):Int) == 0 && (1:Int) == 1 && (sIx items.size items.size hi - sIx items.size 0 lo) == items.size)=true):=by
  intro q
  rw [Bool.and_eq_true,Bool.and_eq_true] at q
  have q1:((sIx items.size 0 lo:Nat):Int)=0:=eq_of_beq q.1.1
  have q2:sIx items.size items.size hi - sIx items.size 0 lo=items.size:=eq_of_beq q.2
  exact hw ⟨by omega,by omega⟩
 show wpAny _ _ (if (((sIx items.size 0 lo:Nat):Int) == 0 && (1:Int) == 1 && (sIx items.size items.size hi - sIx items.size 0 lo) == items.size)=true then _ else _) _ _ s
 rw [if_neg hno,wK]
 first
  | exact wpAny_bind (m:=Builtin.Tuple.tupleExact _) (wpAny_newObj_type (wpAny_pure ⟨_,rfl,wpAny_pure h⟩) htake)
  | exact wpAny_bind (m:=Builtin.Tuple.tupleExact _) (wpAny_newObj_type (wpAny_bind (wpAny_pure (wpAny_pure ⟨_,rfl,wpAny_pure h⟩))) htake)
  | exact wpAny_bind (wpAny_bind (m:=Builtin.Tuple.tupleExact _) (wpAny_newObj_type (wpAny_pure (wpAny_pure ⟨_,rfl,wpAny_pure h⟩)) htake))
  | exact wpAny_bind (wpAny_bind (m:=Builtin.Tuple.tupleExact _) (wpAny_newObj_type (wpAny_pure ⟨_,rfl,wpAny_pure h⟩) htake))
end
end HT
namespace L2
open PySem PySem.Spec PyProof.Rows
abbrev TO:=St->Hp->(Option Int->Hp->Prop)->Prop
def PO (X:Cx) (e:Option Expr) (t:TO):Prop :=
 ∀ (pins:List (Addr×Obj)) (s:Shared) (σ:St) (H:Hp) (Q:Option Int->Hp->Prop),Inv X pins σ H s->t σ H Q ->
  wpAny (model X.prog X.w) X.A (evalPart e X.env) (fun u s'=>∃ o H',Inv X pins σ H' s' /\ IsPart u o /\ Q o H') X.xe s
def yH:TO:=fun _ H Q=>Q none H
def CJ (t:TE):TO:=fun σ H Q=>t σ H fun x H1=>∃ i,x = .int i /\ Q (some i) H1
theorem tS {ns:List Int}:∀ {us:List Value},Vals (ns.map V.int) us->IntsAre us ns:=by
 induction ns with
 | nil=>intro us r; rw [List.map_nil] at r; cases r; exact .nil
 | cons n ns ih =>
  intro us r
  rw [List.map_cons] at r
  cases r with
  | cons r1 r2 =>
   obtain ⟨t,e⟩:=r1
   subst e
   exact .cons n t (ih r2)
section
variable {X:Cx} {e:Expr} {te:TE} {lo hi:Option Expr} {tl th:TO} {pos p2:Pos}
theorem yI:PO X none yH:=by
 intro pins s σ H Q I h
 rw [evalPart_none]
 exact wpAny_pure ⟨none,H,I,.none,h⟩
theorem yJ (h:PE X e te):PO X (some e) (CJ te):=by
 intro pins s σ H Q I hw
 rw [evalPart_some]
 refine thn (h pins s σ H _ I hw) fun u s1 ⟨x,H1,I1,r1,q1⟩=>?_
 obtain ⟨i,rfl,q⟩:=q1
 obtain ⟨t,rfl⟩:=r1
 exact ⟨some i,H1,I1,.int i t,q⟩
def SlR (X:Cx) (r:V->Option Int->Option Int->Hp->VK->Prop):Prop :=
 ∀ (pins:List (Addr×Obj)) (s:Shared) (σ:St) (H:Hp) (x:V) (v vl vu:Value) (lo hi:Option Int) (sl:Addr) (Q:VK),Inv X pins σ H s->RelV x v->s.heap.IsSliceOf sl vl vu .none->IsPart vl lo->IsPart vu hi->r x lo hi H Q ->
  ∃ T id,typeLookup (.type T) "__getitem__" = pure (some (.builtin id)) /\ s.TypeIs v T /\ wpAny (model X.prog X.w) X.A (getItem v (.ref sl)) (EP X pins σ Q) X.xe s
theorem SlR.or {r r':V->Option Int->Option Int->Hp->VK->Prop} (h:SlR X r) (h':SlR X r'):SlR X (fun x lo hi H Q=>r x lo hi H Q∨r' x lo hi H Q):=by
 intro pins s σ H x v vl vu lo hi sl Q I rx hs pl pu q
 rcases q with q | q
 ·exact h pins s σ H x v vl vu lo hi sl Q I rx hs pl pu q
 ·exact h' pins s σ H x v vl vu lo hi sl Q I rx hs pl pu q
def tSl (r:V->Option Int->Option Int->Hp->VK->Prop) (te:TE) (tl th:TO):TE:=fun σ H Q=>te σ H fun x H1=>tl σ H1 fun l H2=>th σ H2 fun u H3=>r x l u H3 Q
theorem ss {r:V->Option Int->Option Int->Hp->VK->Prop} (hr:SlR X r) (he:PE X e te) (hl:PO X lo tl) (hu:PO X hi th):PE X (.Subscript e (.Slice lo hi none p2) pos) (tSl r te tl th):=by
 intro pins s σ H Q I h
 refine Subscript_ (thn (he pins s σ H _ I h) fun v s1 ⟨x,H1,I1,r1,q1⟩=>?_)
 refine wpAny_Slice (thn (hl pins s1 σ H1 _ I1 q1) fun vl s2 ⟨l,H2,I2,pl,q2⟩=>thn (hu pins s2 σ H2 _ I2 q2) fun vu s3 ⟨u,H3,I3,pu,q3⟩=>?_)
 rw [evalPart_none]
 refine wpAny_pure ?_
 have I4:Inv X pins σ H3 { s3 with heap:=s3.heap.push { cls:=.type "slice",data:=.fields #[vl,vu,.none] } }:=I3.kept (t':=s3.toks) fun b ob q=>Heap.get?_push_of_some _ q
 obtain ⟨T,id,hT,ht,hg⟩:=hr pins { s3 with heap:=s3.heap.push { cls:=.type "slice",data:=.fields #[vl,vu,.none] } } σ H3 x v vl vu l u s3.heap.objs.size Q I4 r1 (Heap.IsSliceOf.new ..) pl pu q3
 show wpAny (model X.prog X.w) X.A (subscriptTail e (.Slice lo hi none p2) v (.ref s3.heap.objs.size)) (EP X pins σ Q) X.xe { s3 with heap:=s3.heap.push { cls:=.type "slice",data:=.fields #[vl,vu,.none] } }
 exact tail_any (ops:=[.ref s3.heap.objs.size,v]) ht hT hg (by with_unfolding_all rfl)
def cutV (xs:List V) (lo hi:Option Int):List V:=(xs.drop (HT.sIx xs.length 0 lo)).take (HT.sIx xs.length xs.length hi - HT.sIx xs.length 0 lo)
theorem lE (xs:List V) (lo hi:Option Int):(cutV xs lo hi).length <= xs.length:=by
 unfold cutV
 rw [List.length_take,List.length_drop]
 omega
def rSlT (K:PySem.W.Frag):V->Option Int->Option Int->Hp->VK->Prop:=fun x lo hi H Q=>∃ a xs,x = .ref a /\ SqT K H a xs /\
 ¬ (HT.sIx xs.length 0 lo=0 /\ HT.sIx xs.length xs.length hi=xs.length) /\ ∀ p,H p=none->Q (.ref p) (upd H p (.tup (cutV xs lo hi)))
theorem AT:SlR X (rSlT X.K):=by
 intro pins s σ H x v vl vu lo hi sl Q I rx hs pl pu h
 obtain ⟨a,xs,rfl,hx,hw,q⟩:=h
 cases rx
 obtain ⟨its,r,ht,hz⟩:=I.tuple hx
 have hlen:its.toArray.size=xs.length:=by rw [List.size_toArray]; exact r.length.symm
 refine ⟨"tuple",_,PyProof.Rows.slot_tuple_getitem.lookup,ht.typeIs,?_⟩
 refine HT.getItem_tuple_cut ht hs pl pu (by rw [hlen]; exact hw) ?_ (by rw [hlen]; exact hz)
 rw [hlen]
 refine ⟨.ref s.heap.objs.size,_,I.laid (t':=s.toks) (o:=.tup (cutV xs lo hi)) (fun b ob q=>Heap.get?_push_of_some _ q) (Nat.le_refl _) ?_,rfl,q _ (I.hok.fresh (Nat.le_refl _))⟩
 exact ⟨Nat.le_trans (lE xs lo hi) hz,_,(r.drop (HT.sIx xs.length 0 lo)).take (HT.sIx xs.length xs.length hi - HT.sIx xs.length 0 lo),IsTup.new _ _⟩
def CK (K:PySem.W.Frag):R2:=fun x y H Q=>∃ a b xs ys,x = .ref a /\ y = .ref b /\ SqT K H a xs /\ SqT K H b ys /\ xs≠[] /\ xs.length + ys.length <= sizeLine /\
 (ys=[]->Q (.ref a) H) /\ (ys≠[]->∀ p,H p=none->Q (.ref p) (upd H p (.tup (xs++ys))))
theorem Vals.nil_iff {xs:List V} {us:List Value} (r:Vals xs us):us=[]↔xs=[]:=by
 cases r with
 | nil=>simp
 | cons _ _=>simp
theorem yK:OpR X (binaryOp .Add) (CK X.K):=by
 intro pins s σ H x y v u Q I rx ry h
 obtain ⟨a,b,xs,ys,rfl,rfl,ha,hb,hx,hz,q1,q2⟩:=h
 cases rx
 cases ry
 obtain ⟨its,r1,p1,_⟩:=I.tuple ha
 obtain ⟨its2,r2,p2,_⟩:=I.tuple hb
 refine HT.cat_tup p1 p2 (fun z=>hx (r1.nil_iff.mp z)) (fun z=>⟨.ref a,H,I,rfl,q1 (r2.nil_iff.mp z)⟩) (fun z=>?_) (by rw [← r1.length,← r2.length]; exact hz)
 refine ⟨.ref s.heap.objs.size,_,I.laid (t':=s.toks) (o:=.tup (xs++ys)) (fun b ob q=>Heap.get?_push_of_some _ q) (Nat.le_refl _) ?_,rfl,q2 (fun w=>z (r2.nil_iff.mpr w)) _ (I.hok.fresh (Nat.le_refl _))⟩
 exact ⟨by rw [List.length_append]; exact hz,_,r1.append r2,IsTup.new _ _⟩
end
end L2
namespace L2
open PySem PySem.Spec PyProof.Rows
def ixN (n:Nat) (i:Int):Option Nat:=if 0 <= i then (if i < n then some i.toNat else none) else if -(n:Int) <= i then some (i + n).toNat else none
def atI {α:Type} (xs:List α) (i:Int):Option α:=(ixN xs.length i).bind fun j=>xs[j]?
theorem uQ {n:Nat} {i:Int} {j:Nat} (h:ixN n i=some j):seqIndex? i n=some j /\ j < n /\ -(n:Int) <= i /\ i < n:=by
 unfold ixN at h
 by_cases h0:0 <= i
 ·rw [if_pos h0] at h
  by_cases h1:i < n
  ·rw [if_pos h1] at h
   have e:i.toNat=j:=Option.some.inj h
   exact ⟨by rw [seqIndex_of h0 h1,e],by omega,by omega,h1⟩
  ·rw [if_neg h1] at h; cases h
 ·rw [if_neg h0] at h
  by_cases h1 : -(n:Int) <= i
  ·rw [if_pos h1] at h
   have e:(i + n).toNat=j:=Option.some.inj h
   exact ⟨by rw [seqIndex_neg (by omega) h1,e],by omega,h1,by omega⟩
  ·rw [if_neg h1] at h; cases h
theorem uR {α:Type} {xs:List α} {i:Int} {v:α} (h:atI xs i=some v):∃ j,seqIndex? i xs.length=some j /\ xs[j]? = some v /\ j < xs.length /\ -(xs.length:Int) <= i /\ i < xs.length:=by
 unfold atI at h
 cases e:ixN xs.length i with
 | none=>rw [e] at h; cases h
 | some j =>
  rw [e] at h
  obtain ⟨h1,h2,h3,h4⟩:=uQ e
  exact ⟨j,h1,h,h2,h3,h4⟩
theorem atI_nat {α:Type} {xs:List α} {j:Nat} {v:α} (h:xs[j]? = some v):atI xs (j:Int)=some v:=by
 have hj:j < xs.length:=(List.getElem?_eq_some_iff.mp h).1
 have e:ixN xs.length (j:Int)=some j:=by
  unfold ixN
  rw [if_pos (by omega),if_pos (by omega)]; simp
 unfold atI; rw [e]; exact h
def qT (b:Expr):Prop:=∀ o i,subscripted b false o i=operate [o,i] (getItem o i)
def IxR (X:Cx) (r:R2):Prop :=
 ∀ (value slice:Expr) (pins:List (Addr×Obj)) (s:Shared) (σ:St) (H:Hp) (x y:V) (v u:Value) (Q:VK),Inv X pins σ H s->RelV x v->RelV y u->r x y H Q ->
  subscripted slice false v u=operate [v,u] (getItem v u)->wpAny (model X.prog X.w) X.A (subscriptTail value slice v u) (EP X pins σ Q) X.xe s
def MtR (X:Cx) (id:String) (r:V->List V->Hp->VK->Prop):Prop :=
 ∀ (pins:List (Addr×Obj)) (s:Shared) (σ:St) (H:Hp) (x:V) (xs:List V) (v:Value) (us:List Value) (Q:VK),Inv X pins σ H s->RelV x v->Vals xs us->r x xs H Q ->
  wpAny (model X.prog X.w) X.A (call (.builtin id) (v::us)) (EP X pins σ Q) X.xe s
section
variable {X:Cx} {a b:Expr} {ta tb:TE} {pos:Pos}
theorem IxR.or {r r':R2} (h:IxR X r) (h':IxR X r'):IxR X (fun x y H Q=>r x y H Q∨r' x y H Q):=by
 intro value slice pins s σ H x y v u Q I rx ry q hs
 rcases q with q | q
 ·exact h value slice pins s σ H x y v u Q I rx ry q hs
 ·exact h' value slice pins s σ H x y v u Q I rx ry q hs
theorem MtR.or {id:String} {r r':V->List V->Hp->VK->Prop} (h:MtR X id r) (h':MtR X id r'):MtR X id (fun x xs H Q=>r x xs H Q∨r' x xs H Q):=by
 intro pins s σ H x xs v us Q I rx rs q
 rcases q with q | q
 ·exact h pins s σ H x xs v us Q I rx rs q
 ·exact h' pins s σ H x xs v us Q I rx rs q
theorem uS {r:R2} (hr:IxR X r) (ha:PE X a ta) (hb:PE X b tb) (hs:qT b):PE X (.Subscript a b pos) (tOp r ta tb):=by
 intro pins s σ H Q I h
 exact Subscript_ (binT ha hb I h fun v u s2 x y H2 I2 rx ry q=>hr a b pins s2 σ H2 x y v u Q I2 rx ry q (hs _ _))
def rIxL (K:PySem.W.Frag):R2:=fun x y H Q=>∃ p xs i v,x = .ref p /\ y = .int i /\ SqL K H p xs /\ atI xs i=some v /\ Q v H
def rIxT (K:PySem.W.Frag):R2:=fun x y H Q=>∃ p xs i v,x = .ref p /\ y = .int i /\ SqT K H p xs /\ atI xs i=some v /\ Q v H
theorem nI:IxR X (rIxL X.K):=by
 intro value slice pins s σ H x y v u Q I rx ry h hs
 obtain ⟨p,xs,i,z,rfl,rfl,hq,he,q⟩:=h
 cases rx
 obtain ⟨t,rfl⟩:=ry
 obtain ⟨its,r,pl,hz⟩:=I.list hq
 obtain ⟨j,h1,h2,h3,h4,h5⟩:=uR he
 obtain ⟨w,ew,rw'⟩:=r.get h2
 have hl:=r.length
 have hn:=sn
 have fin:EP X pins σ Q w s:=⟨z,H,I,rw',q⟩
 by_cases h0:0 <= i
 ·have hj:i.toNat=j:=by
   rw [seqIndex_of h0 h5] at h1
   exact Option.some.inj h1
  exact item_listR pl.isList h0 (by omega) (by rw [hj]; simpa using ew) fin hs
 ·have hj:(i + (its.toArray.size:Int)).toNat=j:=by
   rw [seqIndex_neg (by omega) h4] at h1
   rw [List.size_toArray,← hl]
   exact Option.some.inj h1
  exact subscriptTail_builtinR (x:=w) pl.isList.typeIs slot_list_getitem.lookup
   (wpAny_getItem_list_neg (Q:=fun r s'=>r=w /\ EP X pins σ Q r s') pl.isList (by omega) (by rw [List.size_toArray] <;> omega) (by omega) (by rw [hj]; simpa using ew) ⟨rfl,fin⟩) hs
theorem AU:IxR X (rIxT X.K):=by
 intro value slice pins s σ H x y v u Q I rx ry h hs
 obtain ⟨p,xs,i,z,rfl,rfl,hq,he,q⟩:=h
 cases rx
 obtain ⟨t,rfl⟩:=ry
 obtain ⟨its,r,pl,hz⟩:=I.tuple hq
 obtain ⟨j,h1,h2,h3,h4,h5⟩:=uR he
 obtain ⟨w,ew,rw'⟩:=r.get h2
 have hl:=r.length
 have hn:=sn
 have fin:EP X pins σ Q w s:=⟨z,H,I,rw',q⟩
 exact subscriptTail_builtinR (x:=w) pl.typeIs slot_tuple_getitem.lookup
  (getItem_tuple (j:=j) (Q:=fun r s'=>r=w /\ EP X pins σ Q r s') pl (by omega) (by omega) (by rw [List.size_toArray,← hl]; exact h1) (by simpa using ew) ⟨rfl,fin⟩) hs
theorem tT (its:List Value) (n j:Nat) (u:Value):Obj.mapSeq (·.setIfInBounds j u) { cls:=.type "list",data:=.seq its.toArray n }={ cls:=.type "list",data:=.seq (its.set j u).toArray n }:=by
 simp [Obj.mapSeq]
theorem Inv.lst {pins:List (Addr×Obj)} {σ:St} {H:Hp} {s:Shared} {p:Addr} {xs:List V} (I:Inv X pins σ H s) (h:H p=some (.lst xs)) :
  ∃ (its:List Value) (n:Nat),Vals xs its /\ s.heap.get? p=some { cls:=.type "list",data:=.seq its.toArray n } /\ xs.length <= sizeLine:=by
 obtain ⟨z,its,n,r,e⟩:=I.hok p _ h
 exact ⟨its,n,r,e,z⟩
theorem Inv.lstUpd {pins:List (Addr×Obj)} {σ:St} {H:Hp} {s:Shared} {p:Addr} {xs ys:List V} {its its':List Value} {n n':Nat} {f:Obj->Obj} (I:Inv X pins σ H s) (h:H p=some (.lst xs))
  (ho:s.heap.get? p=some { cls:=.type "list",data:=.seq its.toArray n }) (hf:f { cls:=.type "list",data:=.seq its.toArray n }={ cls:=.type "list",data:=.seq its'.toArray n' }) (r:Vals ys its') (hz:ys.length <= sizeLine) (t:Nat) :
  Inv X pins σ (upd H p (.lst ys)) { s with heap:=s.heap.update p f,toks:=t }:=by
 have e:(s.heap.update p f).get? p=some { cls:=.type "list",data:=.seq its'.toArray n' }:=by
  rw [Heap.get?_update_self f ho (by rw [hf] <;> rfl),hf]
 refine I.write (x:=p) (e:=p) (by rw [h]; trivial) (.inl rfl) (fun b u hb q=>(Heap.get?_update_other _ _ (Ne.symm hb)).trans q) ⟨_,e⟩ ?_
 exact ⟨hz,its',n',r,e⟩
def CL:V->V->V->Hp->(Hp->Prop)->Prop:=fun o i v H Q=>∃ p xs k j,o = .ref p /\ i = .int k /\ H p=some (.lst xs) /\ ixN xs.length k=some j /\ Q (upd H p (.lst (xs.set j v)))
theorem nJ:PSet X CL:=by
 intro pins s σ H o i v ov iv u Q I ro ri rv h
 obtain ⟨p,xs,k,j,rfl,rfl,hp,hj,q⟩:=h
 cases ro
 obtain ⟨t,rfl⟩:=ri
 obtain ⟨its,n,r,ho,hz⟩:=I.lst hp
 obtain ⟨h1,h2,h3,h4⟩:=uQ hj
 have hl:=r.length
 have hn:=sn
 have I':Inv X pins σ (upd H p (.lst (xs.set j v))) { s with heap:=s.heap.update p (Obj.mapSeq (·.setIfInBounds j u)) } :=
  I.lstUpd hp ho (tT its n j u) (r.set rv j) (by rw [List.length_set]; exact hz) s.toks
 by_cases h0:0 <= k
 ·have hk:k.toNat=j:=by
   rw [seqIndex_of h0 h4] at h1
   exact Option.some.inj h1
  exact PySem.W.ki_setAt ho h0 (by omega) (by rw [List.size_toArray,← hl]; exact h4) (by rw [hk]; exact ⟨_,I',q⟩)
 ·have hk:(k + (its.toArray.size:Int)).toNat=j:=by
   rw [seqIndex_neg (by omega) h3] at h1
   rw [List.size_toArray,← hl]
   exact Option.some.inj h1
  exact PySem.W.ki_setBack ho (by omega) (by rw [List.size_toArray,← hl]; exact h3) (by omega) (by rw [hk]; exact ⟨_,I',q⟩)
theorem pA (lo hi:Option Int) (n:Nat):(sliceBounds lo hi none n).1=((HT.sIx n 0 lo:Nat):Int) /\ (sliceBounds lo hi none n).2.1=((HT.sIx n n hi:Nat):Int) /\ (sliceBounds lo hi none n).2.2=1:=by
 refine ⟨?_,?_,rfl⟩
 ·cases lo with
  | none=>simp [sliceBounds,HT.sIx]
  | some i =>
   simp only [sliceBounds,HT.sIx,Option.getD_none,show (1:Int) > 0 by decide,if_true]
   by_cases h:i < 0
   ·simp only [h,if_true] <;> omega
   ·simp only [h,if_false] <;> omega
 ·cases hi with
  | none=>simp [sliceBounds,HT.sIx]
  | some i =>
   simp only [sliceBounds,HT.sIx,Option.getD_none,show (1:Int) > 0 by decide,if_true]
   by_cases h:i < 0
   ·simp only [h,if_true] <;> omega
   ·simp only [h,if_false] <;> omega
theorem nK (its:List Value) (lo hi:Option Int):slicePick its.toArray lo hi none=((its.drop (HT.sIx its.length 0 lo)).take (HT.sIx its.length its.length hi - HT.sIx its.length 0 lo)).toArray:=by
 obtain ⟨h1,h2,h3⟩:=pA lo hi its.toArray.size
 unfold slicePick
 rw [h1,h2,h3]
 simp only [sliceRange_one,pick_run,List.size_toArray] <;> rfl
def rSlL (K:PySem.W.Frag):V->Option Int->Option Int->Hp->VK->Prop:=fun x lo hi H Q=>∃ a xs,x = .ref a /\ SqL K H a xs /\ ∀ p,H p=none->Q (.ref p) (upd H p (.lst (cutV xs lo hi)))
theorem yL:SlR X (rSlL X.K):=by
 intro pins s σ H x v vl vu lo hi sl Q I rx hs pl pu h
 obtain ⟨a,xs,rfl,hx,q⟩:=h
 cases rx
 obtain ⟨its,r,ht,hz⟩:=I.list hx
 have hlen:=r.length
 refine ⟨"list",_,slot_list_getitem.lookup,ht.isList.typeIs,?_⟩
 refine wpAny_getItem_list_slice ht.isList hs pl pu .none (by simp) ?_ (by rw [List.size_toArray] <;> omega)
 rw [nK,← hlen]
 refine ⟨.ref s.heap.objs.size,_,I.laid (t':=s.toks) (o:=.lst (cutV xs lo hi)) (fun b ob q=>Heap.get?_push_of_some _ q) (Nat.le_refl _) ?_,rfl,q _ (I.hok.fresh (Nat.le_refl _))⟩
 exact ⟨Nat.le_trans (lE xs lo hi) hz,_,0,(r.drop (HT.sIx xs.length 0 lo)).take (HT.sIx xs.length xs.length hi - HT.sIx xs.length 0 lo),Heap.get?_push_size _ rfl⟩
theorem dO:CallR X (.builtin "len") (fun xs H Q=>∃ p ys,xs=[.ref p] /\ (SqL X.K H p ys∨SqT X.K H p ys) /\ Q (.int ys.length) H):=by
 intro pins s σ H xs us Q I r h
 obtain ⟨p,ys,rfl,hq,q⟩:=h
 obtain ⟨u,rfl,rx⟩:=pd r
 cases rx
 have hn:=sn
 rcases hq with hq | hq
 ·obtain ⟨its,r',pl,hz⟩:=I.list hq
  have hlen:=r'.length
  exact Calls.call_len_list pl.isList (by simp only [List.size_toArray] <;> omega) ⟨.int ys.length,H,I.tok _,⟨s.toks + 1,by rw [List.size_toArray,hlen]⟩,q⟩
 ·obtain ⟨its,r',pl,hz⟩:=I.tuple hq
  have hlen:=r'.length
  exact len_tuple pl (by simp only [List.size_toArray] <;> omega) ⟨.int ys.length,H,I.tok _,⟨s.toks + 1,by rw [List.size_toArray,hlen]⟩,q⟩
theorem CallR.or {f:Value} {r r':List V->Hp->VK->Prop} (h:CallR X f r) (h':CallR X f r'):CallR X f (fun xs H Q=>r xs H Q∨r' xs H Q):=by
 intro pins s σ H xs us Q I rs q
 rcases q with q | q
 ·exact h pins s σ H xs us Q I rs q
 ·exact h' pins s σ H xs us Q I rs q
theorem pB:CallR X (.type "list") (fun xs H Q=>∃ p ys,xs=[.ref p] /\ (SqL X.K H p ys∨SqT X.K H p ys) /\ ∀ l,H l=none->Q (.ref l) (upd H l (.lst ys))):=by
 intro pins s σ H xs us Q I r h
 obtain ⟨p,ys,rfl,hq,q⟩:=h
 obtain ⟨u,rfl,rx⟩:=pd r
 cases rx
 have fin:∀ (its:List Value),Vals ys its->ys.length <= sizeLine->∀ (h':Heap) (c':Nat),(∀ b o',s.heap.get? b=some o'->h'.get? b=some o') ->
   h'.get? s.heap.objs.size=some { cls:=.type "list",dict:=none,data:=.seq its.toArray c',slots:=#[] }->EP X pins σ Q (.ref s.heap.objs.size) { s with heap:=h' }:=fun its r' hz h' c' kp e =>
  ⟨.ref s.heap.objs.size,_,I.laid (t':=s.toks) kp (Nat.le_refl _) (show ObjOk X.prog X.w _ h' _ (.lst ys) from ⟨hz,its,c',r',e⟩),rfl,q _ (I.hok.fresh (Nat.le_refl _))⟩
 rcases hq with hq | hq
 ·obtain ⟨its,r',pl,hz⟩:=I.list hq
  have hlen:=r'.length
  obtain ⟨o,ho,hc,n,hd⟩:=pl.isList
  exact call_list_seq p (.inl rfl) ho hc hd (fun h' c' kp e=>fin its r' hz h' c' kp e) (by simp only [List.size_toArray] <;> omega)
 ·obtain ⟨its,r',pl,hz⟩:=I.tuple hq
  have hlen:=r'.length
  obtain ⟨o,ho,hc,n,hd⟩:=pl
  exact call_list_seq p (.inr rfl) ho hc hd (fun h' c' kp e=>fin its r' hz h' c' kp e) (by simp only [List.size_toArray] <;> omega)
theorem nL:CallR X (.type "tuple") (fun xs H Q=>∃ p ys,xs=[.ref p] /\ ((SqL X.K H p ys /\ ∀ l,H l=none->Q (.ref l) (upd H l (.tup ys)))∨(SqT X.K H p ys /\ Q (.ref p) H))):=by
 intro pins s σ H xs us Q I r h
 obtain ⟨p,ys,rfl,h⟩:=h
 obtain ⟨u,rfl,rx⟩:=pd r
 cases rx
 rcases h with ⟨hq,q⟩ | ⟨hq,q⟩
 ·obtain ⟨its,r',pl,hz⟩:=I.list hq
  have hlen:=r'.length
  refine call_tuple_list pl.isList (fun h' kp=>?_) (by simp only [List.size_toArray] <;> omega)
  have I1:Inv X pins σ H { s with heap:=h' }:=I.kept (t':=s.toks) kp
  have I2:Inv X pins σ (upd H h'.objs.size (.tup ys)) { s with heap:=h'.push { cls:=.type "tuple",data:=.seq its.toArray } } :=
   I1.laid (t':=s.toks) (fun b o e=>Heap.get?_push_of_some _ e) (Nat.le_refl _) (show ObjOk X.prog X.w _ _ _ (.tup ys) from ⟨hz,its,r',IsTup.new _ _⟩)
  exact ⟨.ref h'.objs.size,_,I2,rfl,q _ (I1.hok.fresh (Nat.le_refl _))⟩
 ·obtain ⟨its,r',pl,hz⟩:=I.tuple hq
  exact call_tuple_same pl ⟨.ref p,H,I,rfl,q⟩
def tyV (K:PySem.W.Frag) (T:String) (x:V) (H:Hp):Prop:=match x with
 | .str _=>T = "str"
 | .int _=>T = "int"
 | .ref p=>(T = "list" /\ ∃ xs,SqL K H p xs)∨(T = "tuple" /\ ∃ o,K.lookup p=some o /\ o.cls = .type "tuple" /\ o.dict=none) ∨
   (T = "dict" /\ ((∃ kvs,H p=some (.dK kvs))∨∃ kvs,H p=some (.dT kvs)))∨(T = "set" /\ ∃ S n,H p=some (.set S n))
 | _=>False
theorem AV {pins:List (Addr×Obj)} {σ:St} {H:Hp} {s:Shared} {T:String} {x:V} {v:Value} (I:Inv X pins σ H s) (r:RelV x v) (ty:tyV X.K T x H) :
  s.TypeIs v T /\ ∀ a,v = .ref a->∃ ob,s.heap.get? a=some ob /\ ob.dict=none:=by
 cases x with
 | str z =>
  obtain ⟨t,rfl⟩:=r
  cases (show T = "str" from ty)
  exact ⟨typeIs_str s z t,fun _ e=>nomatch e⟩
 | int i =>
  obtain ⟨t,rfl⟩:=r
  cases (show T = "int" from ty)
  exact ⟨typeIs_int s i t,fun _ e=>nomatch e⟩
 | ref p =>
  cases r
  rcases ty with ⟨rfl,xs,hq⟩ | ⟨rfl,o,hk,hc,hd⟩ | ⟨rfl,hk⟩ | ⟨rfl,S,n,hk⟩
  ·obtain ⟨its,_,pl,_⟩:=I.list hq
   refine ⟨pl.isList.typeIs,fun a e=>?_⟩
   cases e
   obtain ⟨o,n,e,c,hd,_⟩:=pl
   exact ⟨o,e,hd⟩
  ·refine ⟨⟨o,I.kIn p o hk,hc⟩,fun a e=>?_⟩
   cases e
   exact ⟨o,I.kIn _ o hk,hd⟩
  ·have z:∃ o,s.heap.get? p=some o /\ o.ExactDict:=by
    rcases hk with ⟨kvs,hk⟩ | ⟨kvs,hk⟩
    ·obtain ⟨_,_,_,_,o,_,_,e,ex,_⟩:=I.hok p _ hk
     exact ⟨o,e,ex⟩
    ·obtain ⟨_,_,_,_,o,_,_,e,ex,_⟩:=I.hok p _ hk
     exact ⟨o,e,ex⟩
   obtain ⟨o,e,ex⟩:=z
   refine ⟨⟨o,e,ex.1⟩,fun a e2=>?_⟩
   cases e2
   exact ⟨o,e,ex.2.1⟩
  ·obtain ⟨o,_,_,_,e,ex,_⟩:=I.hok p _ hk
   refine ⟨⟨o,e,ex.1⟩,fun a e2=>?_⟩
   cases e2
   exact ⟨o,e,ex.2.1⟩
 | _=>exact False.elim ty
def tBM (K:PySem.W.Frag) (T:String) (r:V->List V->Hp->VK->Prop) (to:TE) (t:TA):TE:=fun σ H Q=>to σ H fun x H1=>tyV K T x H1 /\ t σ H1 fun xs H2=>r x xs H2 Q
variable {o e:Expr} {es:List Expr} {to:TE} {t:TA} {name:Str} {apos cpos:Pos} {T id:String} {r:V->List V->Hp->VK->Prop}
theorem CM (pa:PlainAttrs T) (slot:Slot T name id) (hty:typeOf (.builtin id)=pure (.type "method_descriptor")) (hm:MtR X id r) (ho:PE X o to) (ha:PA X (e::es) t)
  (hbase:attributeBase o name X.env (eval o X.env)=eval o X.env:=by rfl)
  (hfew:((backTo cpos (starEach (e::es) X.env)).all (fun x=>!x.1) && (backToKw cpos (keywordEach [] X.env)).all (fun x=>x.1.isSome)
   && decide ((e::es).length + ([]:List Keyword).length + (if ([]:List Keyword).isEmpty then 0 else 1) < 30))=true:=by rfl)
  (hline:(apos.endLine == cpos.line)=true:=by rfl) (hs:starEach (e::es) X.env=(false,eval e X.env)::starEach es X.env:=by rfl) (hplain:(backTo cpos (starEach es X.env)).any (·.1)=false:=by rfl) :
  PE X (.Call (.Attribute o name apos) (e::es) [] cpos) (tBM X.K T r to t):=by
 intro pins s σ H Q I h
 refine wpAny_Call_method_late hbase hfew hline rfl (thn (ho pins s σ H _ I h) fun v s1 ⟨x,H1,I1,r1,ty,q1⟩=>?_)
 obtain ⟨h1,h2⟩:=AV I1 r1 ty
 refine ⟨T,id,pa,slot,hty,h1,h2,?_⟩
 have hA:=ha cpos pins s1 σ H1 _ I1 q1
 rw [hs] at hA ⊢
 refine Calls.callWith_builtin (by show (false || (backTo cpos (starEach es X.env)).any (·.1))=false; rw [hplain] <;> rfl) (Calls.evalArgs_plain ?_)
 exact thn hA fun us s2 ⟨vs,H2,I2,r2,q2⟩=>hm pins s2 σ H2 x vs v us Q I2 r1 r2 q2
end
end L2
namespace L2
open PySem PySem.Spec PyProof.Rows
def MtM (X:Cx) (id:String) (r:V->List V->Hp->VK->Prop):Prop :=
 ∀ (pins:List (Addr×Obj)) (s:Shared) (σ:St) (H:Hp) (x:V) (xs:List V) (v:Value) (us:List Value) (Q:VK),Inv X pins σ H s->RelV x v->Vals xs us->r x xs H Q ->
  wpAny (model X.prog X.w) X.A (call (.builtin id) (v::us)) (EP X pins σ Q) X.xe s
theorem Vals.one:∀ {x:V} {us:List Value},Vals [x] us->∃ u,us=[u] /\ RelV x u
 | _,_,.cons r .nil=>⟨_,rfl,r⟩
theorem Vals.two:∀ {x y:V} {us:List Value},Vals [x,y] us->∃ u v,us=[u,v] /\ RelV x u /\ RelV y v
 | _,_,_,.cons r (.cons q .nil)=>⟨_,_,rfl,r,q⟩
theorem Vals.zero:∀ {us:List Value},Vals [] us->us=[]
 | _,.nil=>rfl
theorem Vals.reverse {xs:List V} {us:List Value} (h:Vals xs us):Vals xs.reverse us.reverse:=by
 induction h with
 | nil=>exact .nil
 | cons r t ih=>rw [List.reverse_cons,List.reverse_cons]; exact Vals.append ih (.cons r .nil)
theorem Vals.rep {xs:List V} {us:List Value} (h:Vals xs us):∀ k:Nat,Vals (List.replicate k xs).flatten (List.replicate k us).flatten
 | 0=>.nil
 | k + 1=>by
  rw [List.replicate_succ,List.replicate_succ,List.flatten_cons,List.flatten_cons]
  exact Vals.append h (Vals.rep h k)
theorem pC (its:List Value):∀ (k:Nat) (acc:List Value),
  List.foldl (fun x1 x2=>x1++x2) acc.toArray (List.replicate k its.toArray)=(acc++(List.replicate k its).flatten).toArray
 | 0,acc=>by simp
 | k + 1,acc=>by
  have e:acc.toArray++its.toArray=(acc++its).toArray:=by simp
  have e2:(acc++its)++(List.replicate k its).flatten=acc++(List.replicate (k + 1) its).flatten:=by
   rw [List.replicate_succ,List.flatten_cons,List.append_assoc]
  rw [← e2,← pC its k (acc++its),← e,List.replicate_succ,List.foldl_cons]
section
variable {X:Cx} {pins:List (Addr×Obj)} {σ:St} {H:Hp} {s:Shared} {l b:Addr} {xs ys zs:List V}
theorem Inv.lset {its its':List Value} {n:Nat} {f:Array Value->Array Value} {t':Nat} (I:Inv X pins σ H s) (hH:H l=some (.lst xs))
  (e:s.heap.get? l=some { cls:=.type "list",data:=.seq its.toArray n }) (hf:f its.toArray=its'.toArray) (hv:Vals ys its') (hz:ys.length <= sizeLine) :
  Inv X pins σ (upd H l (.lst ys)) { s with heap:=s.heap.update l (Obj.mapSeq f),toks:=t' }:=by
 have q:=PySem.IsL.update e f
 rw [hf] at q
 refine I.write (x:=l) (e:=l) (by rw [hH]; exact trivial) (.inl rfl) (fun b' u hb hu=>(Heap.get?_update_other s.heap (Obj.mapSeq f) (Ne.symm hb)).trans hu) ⟨_,q⟩ ?_
 exact ⟨hz,its',_,hv,q⟩
theorem Inv.lnew {its:List Value} {t':Nat} (I:Inv X pins σ H s) (hv:Vals ys its) (hz:ys.length <= sizeLine) :
  Inv X pins σ (upd H s.heap.objs.size (.lst ys)) { s with heap:=s.heap.push { cls:=.type "list",data:=.seq its.toArray },toks:=t' } :=
 I.laid (fun _ _ q=>Heap.get?_push_of_some _ q) (Nat.le_refl _) ⟨hz,its,0,hv,Heap.get?_push_size _ rfl⟩
theorem Inv.fresh (I:Inv X pins σ H s):H s.heap.objs.size=none:=I.hok.fresh (Nat.le_refl _)
theorem Inv.lstM (I:Inv X pins σ H s) (hH:H l=some (.lst xs)):xs.length <= sizeLine /\ ∃ (its:List Value) (n:Nat),Vals xs its /\ xs.length=its.length /\ s.heap.get? l=some { cls:=.type "list",data:=.seq its.toArray n }:=by
 obtain ⟨z,its,n,r,e⟩:=I.hok l _ hH
 exact ⟨z,its,n,r,r.length,e⟩
end
section
variable {X:Cx}
def uT:V->List V->Hp->VK->Prop:=fun x vs H Q=>∃ l xs y,x = .ref l /\ vs=[y] /\ H l=some (.lst xs) /\ xs.length < sizeLine /\ Q .non (upd H l (.lst (xs++[y])))
theorem pD:MtM X "list.append" uT:=by
 intro pins s σ H x vs v us Q I rx rv h
 obtain ⟨l,xs,y,rfl,rfl,hH,hz,q⟩:=h
 cases rx
 obtain ⟨u,rfl,ru⟩:=rv.one
 obtain ⟨z,its,n,r,hl,e⟩:=I.lstM hH
 refine call_meets F.slot_list_append ⟨_,e,rfl⟩ F.entry_list_append (F.args_list_append_2 _ _) (PySem.list_append l its.toArray n u (by rw [List.size_toArray]; omega)) ⟨e,?_⟩
 refine ⟨.non,_,I.lset (its':=its++[u]) hH e (by simp) (r.append (.cons ru .nil)) ?_,rfl,q⟩
 rw [List.length_append,List.length_singleton]
 omega
theorem uU {α:Type} (xs:List α) (k:Nat):(List.replicate k xs).flatten.length=k * xs.length:=by
 induction k with
 | zero=>simp
 | succ k ih=>rw [List.replicate_succ,List.flatten_cons,List.length_append,ih,Nat.succ_mul,Nat.add_comm]
end
section
variable {prog:Program} {w:World} {A:Around} {E:Value->Shared->Prop} {s:Shared}
end
section
variable {X:Cx}
end
end L2
namespace L2
open PySem PySem.Spec PyProof.Rows
section
variable {κ:Type} [DecidableEq κ]
def valV (kvs:List (κ×V)) (k:κ):Option V:=(kvs.find? fun kv=>decide (kv.1=k)).map (·.2)
def putK (kvs:List (κ×V)) (k:κ) (v:V):List (κ×V) :=
 if (kvs.any fun kv=>decide (kv.1=k))=true then kvs.map (fun kv=>if kv.1=k then (kv.1,v) else kv) else kvs++[(k,v)]
def AW (kvs:List (κ×V)) (k:κ):List (κ×V):=kvs.filter fun kv=>decide (kv.1≠k)
theorem lb {p:κ×V} {r:List (κ×V)} {k:κ} (e:p.1=k):valV (p::r) k=some p.2:=by simp [valV,List.find?_cons,e]
theorem jc {p:κ×V} {r:List (κ×V)} {k:κ} (e:¬ p.1=k):valV (p::r) k=valV r k:=by simp [valV,List.find?_cons,e]
theorem sv (k:κ):∀ kvs:List (κ×V),(kvs.any fun kv=>decide (kv.1=k))=(valV kvs k).isSome
 | []=>rfl
 | p::r=>by
  rw [List.any_cons]
  by_cases e:p.1=k
  ·simp only [lb e,decide_eq_true e,Bool.true_or,Option.isSome_some]
  ·rw [jc e,decide_eq_false e,Bool.false_or]; exact sv k r
theorem lF (kvs:List (κ×V)) (k:κ) (v:V):(putK kvs k v).length <= kvs.length + 1:=by
 unfold putK
 split
 ·rw [List.length_map]; omega
 ·rw [List.length_append,List.length_cons,List.length_nil]; omega
theorem RelO.isSome_eq {o:Option V} {u:Option Value} (r:RelO o u):o.isSome=u.isSome:=by
 cases o with
 | none=>cases u with
  | none=>rfl
  | some _=>exact (show False from r).elim
 | some _=>cases u with
  | none=>exact (show False from r).elim
  | some _=>rfl
theorem RelO.getD {o:Option V} {u:Option Value} {d:V} {d':Value} (r:RelO o u) (rd:RelV d d'):RelV (o.getD d) (u.getD d'):=by
 cases o with
 | none=>cases u with
  | none=>exact rd
  | some _=>exact (show False from r).elim
 | some _=>cases u with
  | none=>exact (show False from r).elim
  | some _=>exact r
theorem KV.val {kvs:List (κ×V)} {vs:List (κ×Value)} (r:KV kvs vs) (k:κ):RelO (valV kvs k) (valueAt vs k):=by
 unfold KV at r
 induction r with
 | nil=>exact True.intro
 | @cons p q ps qs h t ih =>
  obtain ⟨h1,h2⟩:=h
  by_cases e:p.1=k
  ·have e':q.1=k:=h1.symm.trans e
   have b:valueAt (q::qs) k=some q.2:=by simp [valueAt,List.find?_cons,e']
   rw [lb e,b]; exact h2
  ·have e':¬ q.1=k:=fun z=>e (h1.trans z)
   have b:valueAt (q::qs) k=valueAt qs k:=by simp [valueAt,List.find?_cons,e']
   rw [jc e,b]; exact ih
theorem KV.any {kvs:List (κ×V)} {vs:List (κ×Value)} (r:KV kvs vs) (k:κ):(kvs.any fun kv=>decide (kv.1=k))=vs.any fun kv=>decide (kv.1=k):=by
 unfold KV at r
 induction r with
 | nil=>rfl
 | cons h t ih=>rw [List.any_cons,List.any_cons,ih,h.1]
theorem KV.repl {kvs:List (κ×V)} {vs:List (κ×Value)} (r:KV kvs vs) (k:κ) {y:V} {u:Value} (ry:RelV y u) :
  KV (kvs.map fun kv=>if kv.1=k then (kv.1,y) else kv) (vs.map fun kv=>if kv.1=k then (kv.1,u) else kv):=by
 unfold KV at r ⊢
 induction r with
 | nil=>exact .nil
 | @cons p q ps qs h t ih =>
  rw [List.map_cons,List.map_cons]
  refine .cons ?_ ih
  obtain ⟨h1,h2⟩:=h
  by_cases e:p.1=k
  ·rw [if_pos e,if_pos (h1.symm.trans e)]; exact ⟨h1,ry⟩
  ·rw [if_neg e,if_neg (fun z=>e (h1.trans z))]; exact ⟨h1,h2⟩
theorem KV.put {kvs:List (κ×V)} {vs:List (κ×Value)} (r:KV kvs vs) (k:κ) {y:V} {u:Value} (ry:RelV y u):KV (putK kvs k y) (stored vs k u):=by
 unfold putK stored
 rw [r.any k]
 by_cases e:(vs.any fun kv=>decide (kv.1=k))=true
 ·rw [if_pos e,if_pos e]; exact r.repl k ry
 ·rw [if_neg e,if_neg e]; exact Paired.snoc r ⟨rfl,ry⟩
theorem KV.drop {kvs:List (κ×V)} {vs:List (κ×Value)} (r:KV kvs vs) (k:κ):KV (AW kvs k) (without vs k):=by
 unfold KV at r ⊢
 unfold AW without
 induction r with
 | nil=>exact .nil
 | @cons p q ps qs h t ih =>
  obtain ⟨h1,h2⟩:=h
  rw [List.filter_cons,List.filter_cons]
  by_cases e:p.1=k
  ·have a:¬ decide (p.1≠k)=true:=by simp [e]
   have b:¬ decide (q.1≠k)=true:=by simp [h1.symm.trans e]
   rw [if_neg a,if_neg b]; exact ih
  ·have e':¬ q.1=k:=fun z=>e (h1.trans z)
   have a:decide (p.1≠k)=true:=by simp [e]
   have b:decide (q.1≠k)=true:=by simp [e']
   rw [if_pos a,if_pos b]; exact .cons ⟨h1,h2⟩ ih
theorem KV.keys {kvs:List (κ×V)} {vs:List (κ×Value)} (r:KV kvs vs):kvs.map (·.1)=vs.map (·.1):=by
 unfold KV at r
 induction r with
 | nil=>rfl
 | cons h t ih=>rw [List.map_cons,List.map_cons,ih,h.1]
theorem KV.length {kvs:List (κ×V)} {vs:List (κ×Value)} (r:KV kvs vs):kvs.length=vs.length:=Paired.length r
end
theorem wM {P:Program} {w:World} {k:Key} {u:Value} (r:RelV (kV k) u):(cH P w).is k u=true:=by
 cases k with
 | inl i=>obtain ⟨t,e⟩:=(show ∃ t,u=Value.int i t from r); subst e; exact qQ P w i t
 | inr x=>obtain ⟨t,e⟩:=(show ∃ t,u=Value.str x t from r); subst e; exact qR P w x t
theorem pE {P:Program} {w:World}:∀ {ks:List Key} {us:List Value},Vals (ks.map kV) us->ItemsAre (cH P w) ks us
 | [],_,r=>by rw [List.map_nil] at r; cases r; exact .nil
 | k::ks,_,r=>by
  rw [List.map_cons] at r
  cases r with
  | cons h t=>exact .cons (wM h) (pE t)
abbrev KT (H:Hp):List (List Key×V)->List (List Key×Addr×Value)->Prop:=Paired fun p q=>p.1=q.1 /\ H q.2.1=some (.tup (p.1.map kV)) /\ RelV p.2 q.2.2
theorem KT.val {H:Hp} {kvs:List (List Key×V)} {xs:List (List Key×Addr×Value)} (r:KT H kvs xs) (k:List Key):RelO (valV kvs k) ((atKey xs k).map (·.2)):=by
 induction r with
 | nil=>exact True.intro
 | @cons p q ps qs h t ih =>
  obtain ⟨h1,_,h2⟩:=h
  by_cases e:p.1=k
  ·have e':q.1=k:=h1.symm.trans e
   have b:atKey (q::qs) k=some q.2:=by simp [atKey,List.find?_cons,e']
   rw [lb e,b]; exact h2
  ·have e':¬ q.1=k:=fun z=>e (h1.trans z)
   have b:atKey (q::qs) k=atKey qs k:=by simp [atKey,List.find?_cons,e']
   rw [jc e,b]; exact ih
theorem KT.repl {H:Hp} {kvs:List (List Key×V)} {xs:List (List Key×Addr×Value)} (r:KT H kvs xs) (k:List Key) {y:V} {u:Value} (ry:RelV y u) :
  KT H (kvs.map fun kv=>if kv.1=k then (kv.1,y) else kv) (xs.map (putAt k u)):=by
 induction r with
 | nil=>exact .nil
 | @cons p q ps qs h t ih =>
  rw [List.map_cons,List.map_cons]
  refine .cons ?_ ih
  obtain ⟨h1,h2,h3⟩:=h
  unfold putAt
  by_cases e:p.1=k
  ·rw [if_pos e,if_pos (h1.symm.trans e)]; exact ⟨h1,h2,ry⟩
  ·rw [if_neg e,if_neg (fun z=>e (h1.trans z))]; exact ⟨h1,h2,h3⟩
theorem KT.put {H:Hp} {kvs:List (List Key×V)} {xs:List (List Key×Addr×Value)} (r:KT H kvs xs) (k:List Key) {b:Addr} {y:V} {u:Value} (hb:H b=some (.tup (k.map kV))) (ry:RelV y u) :
  KT H (putK kvs k y) (storedH xs k b u):=by
 have e:(kvs.any fun kv=>decide (kv.1=k))=(atKey xs k).isSome:=by
  rw [sv,(r.val k).isSome_eq,Option.isSome_map]
 unfold putK storedH
 rw [e]
 by_cases q:(atKey xs k).isSome=true
 ·rw [if_pos q,if_pos q]; exact r.repl k ry
 ·rw [if_neg q,if_neg q]; exact Paired.snoc r ⟨rfl,hb,ry⟩
theorem KT.keeps {H H':Hp} {kvs:List (List Key×V)} {xs:List (List Key×Addr×Value)} (r:KT H kvs xs) (ht:∀ b ys,H b=some (.tup ys)->H' b=some (.tup ys)):KT H' kvs xs :=
 Paired.mapP r fun _ _ z=>⟨z.1,ht _ _ z.2.1,z.2.2⟩
section
variable {P:Program} {w:World} {H:Hp} {h:Heap} {a:Addr}
theorem AX {u:HO} (ok:HOk P w H h) (e:Rd H a u):ObjOk P w H h a u:=e.ok ok
theorem uV {kvs:List (Key×V)} (ok:HOk P w H h) (e:Rd H a (.dK kvs)):kvs.length <= sizeLine /\ (a == sysModules)=false /\ ∃ vs,KV kvs vs /\ h.DictOf (cH P w) a vs :=
 show ObjOk P w H h a (.dK kvs) from AX ok e
theorem CN {kvs:List (Key×V)} (ok:HOk P w H h) (e:H a=some (.dK kvs)):kvs.length <= sizeLine /\ (a == sysModules)=false /\ ∃ vs,KV kvs vs /\ h.DictOf (cH P w) a vs:=uV ok (.inl e)
theorem sw {ks:List Key} (ok:HOk P w H h) (e:H a=some (.tup (ks.map kV))):(tupleKind (cH P w)).is h ks a:=by
 obtain ⟨_,its,r,o,h1,h2,n,h3⟩:=(show ObjOk P w H h a (.tup (ks.map kV)) from ok a _ e)
 exact ⟨o,its.toArray,n,h1,h2,h3,by simpa using pE r⟩
theorem uW {kvs:List (List Key×V)} (ok:HOk P w H h) (e:Rd H a (.dT kvs)):kvs.length <= sizeLine /\ (a == sysModules)=false /\
  ∃ xs,KT H kvs xs /\ h.DictOfH (tupleKind (cH P w)) a xs:=by
 obtain ⟨z,y,xs,r,o,es,ep,h1,h2,h3,h4,h5⟩:=(show ObjOk P w H h a (.dT kvs) from AX ok e)
 refine ⟨z,y,xs,r,o,es,ep,h1,h2,h3,h4,fun x hx=>?_,h5⟩
 have all:∀ {l:List (List Key×V)} {m:List (List Key×Addr×Value)},KT H l m->∀ x∈m,(tupleKind (cH P w)).is h x.1 x.2.1:=by
  intro l m q
  induction q with
  | nil=>intro x hx; exact nomatch hx
  | @cons p q ps qs hq t ih =>
   intro x hx
   rcases List.mem_cons.mp hx with e | hx
   ·subst e
    exact sw ok (by rw [← hq.1]; exact hq.2.1)
   ·exact ih x hx
 exact all r x hx
theorem AY {kvs:List (List Key×V)} (ok:HOk P w H h) (e:H a=some (.dT kvs)):kvs.length <= sizeLine /\ (a == sysModules)=false /\
  ∃ xs,KT H kvs xs /\ h.DictOfH (tupleKind (cH P w)) a xs:=uW ok (.inl e)
end
def DGet (H:Hp) (a:Addr) (y:V) (r:Option V):Prop :=
 (∃ kvs k,Rd H a (.dK kvs) /\ y=kV k /\ r=valV kvs k)∨∃ kvs k b,Rd H a (.dT kvs) /\ y = .ref b /\ H b=some (.tup (k.map kV)) /\ r=valV kvs k
def DPut (H:Hp) (a:Addr) (y v:V) (H':Hp):Prop :=
 (∃ kvs k,H a=some (.dK kvs) /\ y=kV k /\ kvs.length < sizeLine /\ H'=upd H a (.dK (putK kvs k v))) ∨
 ∃ kvs k b,H a=some (.dT kvs) /\ y = .ref b /\ H b=some (.tup (k.map kV)) /\ kvs.length < sizeLine /\ H'=upd H a (.dT (putK kvs k v))
theorem DGet.k {H:Hp} {a:Addr} {kvs:List (Key×V)} {k:Key} (e:H a=some (.dK kvs)):DGet H a (kV k) (valV kvs k):=.inl ⟨kvs,k,.inl e,rfl,rfl⟩
theorem DGet.t {H:Hp} {a b:Addr} {kvs:List (List Key×V)} {k:List Key} (e:H a=some (.dT kvs)) (eb:H b=some (.tup (k.map kV))):DGet H a (.ref b) (valV kvs k):=.inr ⟨kvs,k,b,.inl e,rfl,eb,rfl⟩
theorem DPut.k {H:Hp} {a:Addr} {kvs:List (Key×V)} {k:Key} {v:V} (e:H a=some (.dK kvs)) (hl:kvs.length < sizeLine):DPut H a (kV k) v (upd H a (.dK (putK kvs k v))):=.inl ⟨kvs,k,e,rfl,hl,rfl⟩
theorem DPut.t {H:Hp} {a b:Addr} {kvs:List (List Key×V)} {k:List Key} {v:V} (e:H a=some (.dT kvs)) (eb:H b=some (.tup (k.map kV))) (hl:kvs.length < sizeLine) :
  DPut H a (.ref b) v (upd H a (.dT (putK kvs k v))):=.inr ⟨kvs,k,b,e,rfl,eb,hl,rfl⟩
section
variable {X:Cx} {pins:List (Addr×Obj)} {σ:St} {H:Hp} {s:Shared} {a:Addr} {y v:V} {u r:Value} {o:Option V} {A:Around} {E:Value->Shared->Prop}
theorem Inv.big (I:Inv X pins σ H s):sysModules < s.heap.objs.size:=by
 have h:mainGlobals < s.heap.objs.size:=(I.mod.glob.keeps I.bk).lt
 exact Nat.lt_trans (by decide) h
theorem uX {Q:Value->Shared->Prop} (hu:A.units + 1 < cLine) (I:Inv X pins σ H s) (g:DGet H a y (some v)) (ry:RelV y u) (h:∀ w' s',Inv X pins σ H s'->RelV v w'->Q w' s') :
  wpAny (model X.prog X.w) A (getItem (.ref a) u) Q E s:=by
 rcases g with ⟨kvs,k,e,ey,l⟩ | ⟨kvs,k,b,e,ey,eb,l⟩
 ·subst ey
  obtain ⟨z,hd,vs,rel,dd⟩:=uV I.hok e
  obtain ⟨w',hw,rw'⟩:=RelO.some_of (v:=v) (o:=valueAt vs k) (by rw [l]; exact rel.val k)
  exact wpAny_getItem_of (wM ry) dd.mapOf hw (h w' _ (I.tok _) rw')
 ·subst ey
  cases (show u=Value.ref b from ry)
  obtain ⟨z,hd,xs,rel,dd⟩:=uW I.hok e
  obtain ⟨w',hw,rw'⟩:=RelO.some_of (v:=v) (o:=(atKey xs k).map (·.2)) (by rw [l]; exact rel.val k)
  obtain ⟨p,hp,hp2⟩:=Option.map_eq_some_iff.mp hw
  refine wpAny_getItem_heap (tupleKind_room_in1 hu) (sw I.hok eb) dd hp ?_
  rw [hp2]
  exact h w' _ (I.tok _) rw'
theorem uY {h':Heap} {t':Nat} {ob:HO} (I:Inv X pins σ H s) (mu:Mut (H a)) (hs:Heap.SameBut a s.heap h') (he:∃ q,h'.get? a=some q) (new:ObjOk X.prog X.w (upd H a ob) h' a ob) :
  Inv X pins σ (upd H a ob) { s with heap:=h',toks:=t' } :=
 I.write (x:=a) (e:=a) mu (.inl rfl) (fun b q hb z=>(hs.2 b hb).trans z) he new
theorem AZ {P:Program} {w:World} {H':Hp} {h':Heap} {kvs:List (Key×V)} {vs:List (Key×Value)} (z:kvs.length <= sizeLine) (hd:(a == sysModules)=false) (rel:KV kvs vs) (dd:h'.DictOf (cH P w) a vs) :
  ObjOk P w H' h' a (.dK kvs):=⟨z,hd,vs,rel,dd⟩
theorem uZ {H':Hp} {Q:Unit->Shared->Prop} (hu:A.units + 1 < cLine) (I:Inv X pins σ H s) (g:DPut H a y v H') (ry:RelV y u) (rv:RelV v r) (h:∀ s',Inv X pins σ H' s'->Q () s') :
  wpAny (model X.prog X.w) A (setItem (.ref a) u r) Q E s:=by
 rcases g with ⟨kvs,k,e,ey,l,eH⟩ | ⟨kvs,k,b,e,ey,eb,l,eH⟩
 ·subst ey eH
  obtain ⟨z,hd,vs,rel,dd⟩:=CN I.hok e
  have hz:vs.length <= sizeLine:=by rw [← rel.length]; exact z
  have hl:(putK kvs k v).length <= sizeLine:=by have:=lF kvs k v; omega
  refine wpAny_setItem_pairs (hsz:=hz) (wM ry) dd fun h' dd' hs=>h _ ?_
  have he:∃ q,h'.get? a=some q:=let ⟨q,_,_,hq,_⟩:=dd'; ⟨q,hq⟩
  exact uY I (by rw [e]; exact True.intro) hs he (AZ hl hd (rel.put k rv) dd')
 ·subst ey eH
  cases (show u=Value.ref b from ry)
  obtain ⟨z,hd,xs,rel,dd⟩:=AY I.hok e
  have hz:xs.length <= sizeLine:=by rw [← Paired.length rel]; exact z
  have hl:(putK kvs k v).length <= sizeLine:=by have:=lF kvs k v; omega
  refine wpAny_setItem_heap (hsz:=hz) (tupleKind_room_in1 hu) (sw I.hok eb) dd fun h' dd' hs=>h _ ?_
  obtain ⟨q,es,ep,hq,h2,h3,h4,_,h5⟩:=dd'
  refine uY I (by rw [e]; exact True.intro) hs ⟨q,hq⟩ ⟨hl,hd,_,(rel.put k eb rv).keeps fun c ys ec=>?_,q,es,ep,hq,h2,h3,h4,h5⟩
  rw [ar (kK ec e (fun z=>nomatch z))]
  exact ec
end
section
variable {X:Cx} {pins:List (Addr×Obj)} {σ:St} {H:Hp} {s:Shared} {a:Addr} {kvs:List (Key×V)} {k:Key} {u:Value} {A:Around} {E:Value->Shared->Prop}
end
def NoSl (i:Expr):Prop:=∀ ov iv,subscripted i false ov iv=operate [ov,iv] (getItem ov iv)
theorem yM {prog:Program} {w:World} {A:Around} {E:Value->Shared->Prop} {s:Shared} {env:Env} {value slice:Expr} {pos:Pos} {T id:String} {Q:Value->Shared->Prop}
  (hl:typeLookup (.type T) "__getitem__" = pure (some (.builtin id))) (hs:NoSl slice)
  (h:wpAny (model prog w) A (eval value env) (fun o s₁=>wpAny (model prog w) A (eval slice env) (fun i s₂=>s₂.TypeIs o T /\ wpAny (model prog w) A (getItem o i) Q E s₂) E s₁) E s) :
  wpAny (model prog w) A (eval (.Subscript value slice pos) env) Q E s:=by
 refine Subscript_ (wpAny_mono h (fun o s₁ h₁=>wpAny_mono h₁ (fun i s₂ h₂=>?_) fun _ _ x=>x) fun _ _ x=>x)
 obtain ⟨hT,h₂⟩:=h₂
 unfold subscriptTail
 refine wpAny_bind ?_
 rw [getitemInPython_of_ne hT.not_modules]
 refine wpAny_bind (wpAny_specialOf hT hl ?_)
 have fin:wpAny (model prog w) A (subscripted slice false o i) (fun r s₃=>wpAny (model prog w) A (letTemporaryGo value o r >>= fun _=>pure r) Q E s₃) E s₂:=by
  rw [hs o i]
  exact wpAny_operating (wpAny_mono h₂ (fun r s₃ h₃=>wpAny_bind (wpAny_letTemporaryGo (wpAny_pure h₃))) fun _ _ x=>x)
 first
  | exact wpAny_pure (wpAny_bind fin)
  | exact wpAny_bind (wpAny_pure (wpAny_bind fin))
  | exact wpAny_bind fin
theorem qU {X:Cx} {pins:List (Addr×Obj)} {σ:St} {H:Hp} {s:Shared} {a:Addr} {y:V} {o:Option V} (I:Inv X pins σ H s) (g:DGet H a y o):s.TypeIs (.ref a) "dict":=by
 rcases g with ⟨kvs,k,e,_,_⟩ | ⟨kvs,k,b,e,_,_,_⟩
 ·obtain ⟨_,_,vs,_,dd⟩:=uV I.hok e
  exact dd.typeIs
 ·obtain ⟨_,_,xs,_,dd⟩:=uW I.hok e
  exact dd.typeIs
def CO (td ty:TE):TE:=fun σ H Q=>td σ H fun x H1=>ty σ H1 fun y H2=>∃ a v,x = .ref a /\ DGet H2 a y (some v) /\ Q v H2
def CP (td ty tv:TE):TS:=fun D σ H=>tv σ H fun v H1=>td σ H1 fun x H2=>ty σ H2 fun y H3=>∃ a H4,x = .ref a /\ DPut H3 a y v H4 /\ D.nx σ H4
section
variable {X:Cx} {o i e value:Expr} {pos pos' tpos:Pos} {td ty tv:TE}
theorem yN (hu:X.A.units + 1 < cLine) (ho:PE X o td) (hi:PE X i ty) (hs:NoSl i):PE X (.Subscript o i pos) (CO td ty):=by
 intro pins s σ H Q I h
 refine yM PySem.F.slot_dict_getitem.lookup hs (thn (ho pins s σ H _ I h) fun u s1 ⟨x,H1,I1,rx,q1⟩=>thn (hi pins s1 σ H1 _ I1 q1) fun iv s2 ⟨y,H2,I2,ry,a,v,ex,g,q2⟩=>?_)
 subst ex
 obtain rfl:u=Value.ref a:=rx
 exact ⟨qU I2 g,uX hu I2 g ry fun w' s3 I3 rw'=>⟨v,H2,I3,rw',q2⟩⟩
theorem yO (hu:X.A.units + 1 < cLine) (ho:PE X o td) (hi:PE X i ty) (hv:PE X value tv) (hs:swapsWith value (some (.Subscript o i pos')) pos.line X.env=pure false) :
  PS X (.Assign [.Subscript o i pos'] value pos) (CP td ty tv):=by
 intro pins s σ H D I h
 refine wpAny_Assign_Subscript (thn (hv pins s σ H _ I h) fun r s1 ⟨v,H1,I1,rv,q1⟩=>thn (ho pins s1 σ H1 _ I1 q1) fun u s2 ⟨x,H2,I2,rx,q2⟩=>thn (hi pins s2 σ H2 _ I2 q2) fun iv s3 ⟨y,H3,I3,ry,a,H4,ex,g,q3⟩=>?_) hs
 subst ex
 obtain rfl:u=Value.ref a:=rx
 exact uZ hu I3 g ry rv fun s4 I4=>⟨σ,H4,I4,q3⟩
end
theorem wN {P:Program} {w:World} {H:Hp} (h:Heap) (hb:sysModules < h.objs.size):ObjOk P w H (h.push { cls:=.type "dict",data:=.dict #[] }) h.objs.size (.dT []) :=
 ⟨Nat.zero_le _,beq_eq_false_iff_ne.mpr (Ne.symm (Nat.ne_of_lt hb)),[],.nil,_,#[],0,Heap.get?_push_size _ rfl,⟨rfl,rfl,rfl⟩,rfl,rfl,List.nodup_nil⟩
def Ba:TE:=fun _ H Q=>∀ p,H p=none->Q (.ref p) (upd H p (.dT []))
section
variable {X:Cx} {pos:Pos}
theorem wO:PE X (.Dict [] [] pos) Ba:=fun pins s σ H Q I h =>
 wpAny_Dict_empty ⟨.ref s.heap.objs.size,_,I.laid (a:=s.heap.objs.size) (o:=.dT []) (t':=s.toks) (fun _ _ q=>Heap.get?_push_of_some _ q) (Nat.le_refl _) (wN s.heap I.big),rfl,h _ (I.hok.fresh (Nat.le_refl _))⟩
end
structure M1 (X:Cx) (o:Expr) (m:Str) (apos:Pos) (e:Expr) (cpos:Pos):Prop where
 base:attributeBase o m X.env (eval o X.env)=eval o X.env
 few:((backTo cpos (starEach [e] X.env)).all (fun x=>!x.1) && (backToKw cpos (keywordEach [] X.env)).all (fun x=>x.1.isSome)
  && decide (([e]:List Expr).length + ([]:List Keyword).length + (if ([]:List Keyword).isEmpty then 0 else 1) < 30))=true
 line:(apos.endLine == cpos.line)=true
 trees:backTo cpos (starEach [e] X.env)=[(false,eval e X.env)]
structure M2 (X:Cx) (o:Expr) (m:Str) (apos:Pos) (e f:Expr) (cpos:Pos):Prop where
 base:attributeBase o m X.env (eval o X.env)=eval o X.env
 few:((backTo cpos (starEach [e,f] X.env)).all (fun x=>!x.1) && (backToKw cpos (keywordEach [] X.env)).all (fun x=>x.1.isSome)
  && decide (([e,f]:List Expr).length + ([]:List Keyword).length + (if ([]:List Keyword).isEmpty then 0 else 1) < 30))=true
 line:(apos.endLine == cpos.line)=true
 trees:backTo cpos (starEach [e,f] X.env)=[(false,eval e X.env),(false,eval f X.env)]
def IsD (H:Hp) (a:Addr):Prop:=(∃ kvs,Rd H a (.dK kvs))∨∃ kvs,Rd H a (.dT kvs)
theorem Bb {X:Cx} {pins:List (Addr×Obj)} {σ:St} {H:Hp} {s:Shared} {a:Addr} (I:Inv X pins σ H s) (d:IsD H a) :
  s.TypeIs (.ref a) "dict" /\ (∀ b,Value.ref a = .ref b->∃ ob,s.heap.get? b=some ob /\ ob.dict=none) /\ (a == sysModules)=false:=by
 rcases d with ⟨kvs,e⟩ | ⟨kvs,e⟩
 ·obtain ⟨_,hd,vs,_,dd⟩:=uV I.hok e
  refine ⟨dd.typeIs,fun b q=>?_,hd⟩
  cases q
  obtain ⟨ob,_,_,h1,h2,_⟩:=dd
  exact ⟨ob,h1,h2.2.1⟩
 ·obtain ⟨_,hd,xs,_,dd⟩:=uW I.hok e
  refine ⟨dd.typeIs,fun b q=>?_,hd⟩
  cases q
  obtain ⟨ob,_,_,h1,h2,_⟩:=dd
  exact ⟨ob,h1,h2.2.1⟩
section
variable {X:Cx} {pins:List (Addr×Obj)} {σ:St} {H:Hp} {s:Shared} {a:Addr} {y d:V} {u r:Value} {o:Option V} {A:Around} {E:Value->Shared->Prop}
theorem Bc {Q:Value->Shared->Prop} (hu:A.units + 1 < cLine) (I:Inv X pins σ H s) (g:DGet H a y o) (ry:RelV y u) (rd:RelV d r) (h:∀ w' s',Inv X pins σ H s'->RelV (o.getD d) w'->Q w' s') :
  wpAny (model X.prog X.w) A (call (.builtin "dict.get") [.ref a,u,r]) Q E s:=by
 rcases g with ⟨kvs,k,e,ey,l⟩ | ⟨kvs,k,b,e,ey,eb,l⟩
 ·subst ey
  obtain ⟨z,hd,vs,rel,dd⟩:=uV I.hok e
  refine call_meetsIn PySem.F.slot_dict_get dd.typeIs PySem.F.entry_dict_get (PySem.F.args_dict_get_3 _ _ _) (meets_dict_get_default (cH X.prog X.w) a (wM ry) hd r) ⟨_,dd.mapOf,h _ _ (I.tok _) ?_⟩
  rw [l]
  exact (rel.val k).getD rd
 ·subst ey
  cases (show u=Value.ref b from ry)
  obtain ⟨z,hd,xs,rel,dd⟩:=uW I.hok e
  refine call_meetsIn PySem.F.slot_dict_get dd.typeIs PySem.F.entry_dict_get (PySem.F.args_dict_get_3 _ _ _) (meetsH_dict_get_default (tupleKind (cH X.prog X.w)) a b hd r) ⟨tupleKind_room_in1 hu,k,xs,sw I.hok eb,dd,h _ _ (I.tok _) ?_⟩
  rw [l]
  exact (rel.val k).getD rd
end
def Be (td ty tx:TE):TE:=fun σ H Q=>td σ H fun x H1=>∃ a,x = .ref a /\ IsD H1 a /\ ty σ H1 fun y H2=>tx σ H2 fun z H3=>∃ o,DGet H3 a y o /\ Q (o.getD z) H3
section
variable {X:Cx} {o e f:Expr} {apos cpos:Pos} {td ty tx:TE}
theorem wP (hu:X.A.units + 1 < cLine) (ho:PE X o td) (he:PE X e ty) (hf:PE X f tx) (m:M2 X o "get" apos e f cpos):PE X (.Call (.Attribute o "get" apos) [e,f] [] cpos) (Be td ty tx):=by
 intro pins s σ H Q I h
 refine wpAny_Call_method m.base m.few m.line PySem.F.plainAttrs_dict PySem.F.slot_dict_get PySem.F.type_dict_get (thn (ho pins s σ H _ I h) fun u s1 ⟨x,H1,I1,rx,a,ex,d,q1⟩=>?_)
 subst ex
 obtain rfl:u=Value.ref a:=rx
 obtain ⟨t1,t2,_⟩:=Bb I1 d
 refine ⟨t1,t2,?_⟩
 rw [m.trees]
 refine Calls.callWith_builtin rfl (Calls.evalArgs_plain (Calls.spliced_cons (thn (he pins s1 σ H1 _ I1 q1) fun iv s2 ⟨y,H2,I2,ry,q2⟩ =>
  Calls.spliced_cons (thn (hf pins s2 σ H2 _ I2 q2) fun fv s3 ⟨z,H3,I3,rz,ov,g,q3⟩=>Calls.spliced_nil ?_))))
 exact Bc hu I3 g ry rz fun w' s4 I4 rw'=>⟨_,H3,I4,rw',q3⟩
end
section
variable {X:Cx} {pins:List (Addr×Obj)} {σ:St} {H:Hp} {s:Shared} {a:Addr} {kvs:List (Key×V)} {A:Around} {E:Value->Shared->Prop}
end
section
variable {X:Cx} {pins:List (Addr×Obj)} {σ:St} {H:Hp} {s:Shared} {a:Addr} {y:V} {u:Value} {A:Around} {E:Value->Shared->Prop}
end
end L2
namespace Att
open PySem PySem.W PySem.Calls PyProof.Rows
theorem lG {P:Params} {h:Heap}:∀ (ns:List Int) (vs:List Value),WellAll P h vs (ns.map WData.int)->IntsAre vs ns:=by
 intro ns
 induction ns with
 | nil =>
  intro vs w
  rw [List.map_nil] at w
  cases w
  exact .nil
 | cons n ns ih =>
  intro vs w
  rw [List.map_cons] at w
  cases w with
  | cons a b =>
   cases a
   exact .cons _ _ (ih _ b)
theorem va {l:OpenLaw} {n:Nat} (hn:l.most=some n) {P:Params} {h:Heap} {args:List WData} {vals:List Value}
  (hpre:l.row.toRowW.claim.pre args=true) (hwl:WellAll P h vals args) :
  ∃ a vs ns,vals=[Value.ref a] /\ args=[WData.list (ns.map WData.int)] /\ h.get? a=some { cls:=.type "list",data:=.seq vs.toArray } /\ IntsAre vs ns /\ ns.length <= n:=by
 have hsh:WShape.hasAll [] args [.list .int]=true:=(pre_splitW hpre).1
 have hc:l.pre.holds [] { args:=args }=true:=(pre_splitW hpre).2
 obtain ⟨d,r,rfl,h1,h2⟩:=hasAllW_cons hsh
 obtain rfl:=hasAllW_nil h2
 obtain ⟨xs,rfl,h3⟩:=hasW_list h1
 obtain ⟨ns,rfl⟩:=items_int h3
 have hlen:ns.length <= n:=by
  unfold OpenLaw.pre at hc
  have h4:(WTm.not (.lt (.lit (.int (n:Int))) (.len (.arg 0)))).holds [] { args:=[.list (ns.map .int)] }=true:=by
   have h4:=(holds_andW hc).1
   rw [hn] at h4
   exact h4
  have h5:=condW_of h4 (w_not (w_lt w_lit (w_len_list (w_arg rfl))))
  rw [List.length_map] at h5
  refine Nat.le_of_not_lt fun q=>?_
  have q':(n:Int) < ((ns.length:Nat):Int):=by omega
  first
   | (rw [decide_eq_true q'] at h5; exact absurd h5 (by decide))
   | (simp at h5; omega)
 cases hwl with
 | cons w1 w2 =>
  cases w2
  cases w1 with
  | list ho hall=>exact ⟨_,_,ns,rfl,rfl,ho,lG ns _ hall,hlen⟩
theorem vb (l:OpenLaw) (args:List WData):l.row.toRowW.claim.post args (.bool true) args=true :=
 postW_of (r:=l.row.toRowW) (X:=(true == true))
  (show WShape.has [] (.bool true) .bool=true by first | rfl | decide | simp [WShape.has,WShape.arms,WShape.armsAll])
  (show (WTm.eq .res (.lit (.bool true))).value [] { args:=args,res:=some (.bool true),after:=args }=some (.bool (true == true)) from w_eq_bool (w_res rfl) w_lit) rfl
theorem attach_call {l:OpenLaw} {n:Nat} {q:Program} {loose:List Str} {XP:(Str->Option Value)->Heap->Prop} {YP:World->Heap->Prop} {d:DefRec}
  (hn:l.most=some n) (hdf:d.params.defaults=[])
  (call:∀ (w:World) (s₀ s₁:Shared) (mg mb:Str->Option Value) (fa:Addr) (o:Obj) (pm cd doc:Value) (a:Addr) (vs:List Value) (ns:List Int),
   Ground q loose [] XP w s₀ mg mb s₁.heap->YP w s₁.heap ->
   s₁.heap.get? fa=some o->o.data = .func (docDef d.name d.params d.body d.scope pm cd doc)->s₁.heap.CodeRec cd d.name->mg d.name=some (.ref fa) ->
   s₁.heap.get? a=some { cls:=.type "list",data:=.seq vs.toArray }->IntsAre vs ns->ns.length <= n->s₁.gens = #[] ->
   codeAny (model l.prog w) callerA (.call (.ref fa) ⟨[.ref a],[]⟩) (fun r s'=>r = .ok (.ret (.bool true)) /\ OldK s₁.heap s'.heap /\ s'.os=s₁.os /\ AllBare s'.gens) s₁) :
  WalkO q loose XP YP l.row.toRowW d [] (fun f vs=>PySem.call f vs):=by
 intro w s₀ s₁ mg mb G Y fa o pm cd doc dV kV ho hd hcd hD hmg hg args vals as hpre hlay hrd hwl hlo
 obtain rfl:dV = .none:=Dflts.none hD hdf
 obtain rfl:kV = .none:=Dflts.noKw hD
 obtain ⟨a,vs,ns,rfl,rfl,hobj,hints,hlen⟩:=va hn hpre hwl
 refine enter_call (codeAny_mono (call w s₀ s₁ mg mb fa o pm cd doc a vs ns G Y ho (fd_plain hd) hcd hmg hobj hints hlen hg) fun r s' hq=>?_)
 obtain ⟨rfl,h2,h3,h4⟩:=hq
 exact ⟨.inl ⟨.bool true,.bool true,[],rfl,fun _=>rfl,.bool true,vb l _,fun _=>⟨List.Pairwise.nil,fun _ hm=>(nomatch hm)⟩⟩,h2,h3,h4⟩
section
variable {prog:Program} {w:World} {A:Around} {E:Value->Shared->Prop} {s:Shared} {K:Frag}
end
end Att
namespace L2
open PySem PySem.Spec PyProof.Rows
theorem lH:∀ {vs:List Value} {ns:List Int},IntsAre vs ns->Vals (ns.map V.int) vs
 | _,_,.nil=>.nil
 | _,_,.cons n t h=>.cons ⟨t,rfl⟩ (lH h)
def Only (H:Hp):Prop:=∀ b,H b=none∨∃ o xs,H b=some (.frz o (.lst xs))
theorem wR {P:Program} {w:World} {K:PySem.W.Frag} {mg mb:Str->Option Value} {CX:CXT} {k:Nat} {fa a:Addr} {fd:FuncData} {x:Str} {sp:Sp} {s₁:Shared} {vs:List Value} {ns:List Int}
  (KX:K.In s₁.heap) (hns:s₁.heap.Ns mainGlobals mg) (hb:s₁.heap.Ns builtinsNs mb) (hbb:∀ x:Str,x ≠ "__name__" -> mb x=bootBuiltins x) (hlim:s₁.heap.NoLimit) (hg:s₁.gens = #[])
  (ha:s₁.heap.get? a=some { cls:=.type "list",data:=.seq vs.toArray }) (hi:IntsAre vs ns) (hl:ns.length <= sizeLine) (hr:Room k callerA)
  (F:∀ base:Heap,K.In base->base.Ns mainGlobals mg->FnOk P w K mg base CX k fa fd [x] sp) (hbind:∀ (s:Shared) (u:Value),BindsTo s fd ⟨[u],[]⟩ [(x,u)])
  (hsp:∀ H:Hp,Only H->SqL K H a (ns.map V.int)->sp [.ref a] H (fun v _=>v = .bl true) fun _ _ _=>False)
  (hCX:∀ H e s',CX [] H s₁ (fun _ _ _=>False) e s'->False) :
  codeAny (model P w) callerA (.call (.ref fa) ⟨[.ref a],[]⟩) (fun r s'=>r = .ok (.ret (.bool true)) /\ OldK s₁.heap s'.heap /\ s'.os=s₁.os /\ AllBare s'.gens) s₁:=by
 have rv:=lH hi
 have lenV:=hi.length
 -- from an abstract heap in which nothing but the script may be tracked
 have core:∀ H:Hp,Only H->SqL K H a (ns.map V.int)->HOk P w H s₁.heap->(∀ b,H b≠none->b=a)->(H a≠none->K.lookup a=none) ->
   codeAny (model P w) callerA (.call (.ref fa) ⟨[.ref a],[]⟩) (fun r s'=>r = .ok (.ret (.bool true)) /\ OldK s₁.heap s'.heap /\ s'.os=s₁.os /\ AllBare s'.gens) s₁:=by
  intro H hO hS hok hA hK
  have base_of:∀ {b:Addr} {o:Obj},s₁.heap.get? b=some o->H b=none->(hidT s₁.heap H).get? b=some o:=fun e n=>sj e n
  have noA:∀ {b:Addr} {o:Obj} {es:Array DictEntry} {ep:Nat},s₁.heap.get? b=some o->o.data = .dict es ep->H b=none:=fun {b o es ep} e d=>by
   cases q:H b with
   | none=>rfl
   | some u =>
    have e':b=a:=hA b (by rw [q]; simp)
    subst e'
    rw [ha] at e; cases e
    have d':Data.seq vs.toArray _=Data.dict es ep:=d
    cases d'
  have nsK:∀ {b:Addr} {m:Str->Option Value},s₁.heap.Ns b m->(hidT s₁.heap H).Ns b m:=fun {b m} ⟨o,es,ep,e,d,r⟩=>⟨o,es,ep,base_of e (noA e d),d,r⟩
  have hKb:K.In (hidT s₁.heap H):=fun b o e=>base_of (KX b o e) (by
   cases q:H b with
   | none=>rfl
   | some u =>
    have e':b=a:=hA b (by rw [q]; simp)
    subst e'
    rw [hK (by rw [q]; simp)] at e; cases e)
  have hM:Mod K mg (hidT s₁.heap H):=⟨hKb,nsK hns,⟨mb,nsK hb,hbb⟩,let ⟨mc,h1,h2⟩:=hlim; ⟨mc,nsK h1,h2⟩⟩
  have e0:Env0 P w K mg (hidT s₁.heap H) callerA [] s₁ H:=⟨rfl,hM,fun b o e=>uD e,Nat.le_of_eq (oU _ _),trivial,fun b hb=>absurd (show b∈([]:List Addr) from hb) (by simp),hok,.of_eq hg⟩
  refine codeAny_mono ((F _ hKb (nsK hns)).run callerA [] s₁ H ⟨[.ref a],[]⟩ [.ref a] [.ref a] _ _ hr e0 (hbind s₁ (.ref a)) (.cons rfl .nil) (hsp H hO hS)) fun r s' h=>?_
  cases r with
  | error e=>exact (hCX H e s' h).elim
  | ok fl =>
   cases fl with
   | next=>exact False.elim h
   | brk=>exact False.elim h
   | cont=>exact False.elim h
   | ret u =>
    obtain ⟨v,H',os,bare,un,hok',r',q⟩:=h
    have q':v = .bl true:=q
    subst q'
    obtain rfl:u=Value.bool true:=r'
    refine ⟨rfl,OldK.of_keep fun b o e=>?_,os,bare⟩
    cases q:H b with
    | none=>exact un.keep b o e q (by intro z; exact absurd (show b∈([]:List Addr) from z) (by simp)) (by simp)
    | some u =>
     rcases hO b with z | ⟨ob,xs,z⟩
     ·rw [q] at z; cases z
     ·have z2:=un.frzs b ob _ z
      obtain ⟨e1,_⟩:=hok b _ z
      obtain ⟨e2,_⟩:=hok' b _ z2
      rw [e] at e1; cases e1
      exact e2
 cases hk:K.lookup a with
 | some o =>
  -- the script is one of the module's own objects
  have e:=KX a o hk
  rw [ha] at e
  cases e
  refine core (fun _=>none) (fun _=>.inl rfl) (.inr ⟨_,vs.toArray,_,hk,rfl,rfl,rfl,by rw [List.size_toArray,lenV]; exact hl,by simpa using rv⟩) (fun b u z=>by have z':(none:Option HO)=some u:=z; cases z') (fun b z=>absurd rfl z) fun z=>absurd rfl z
 | none =>
  refine core (fun b=>if b=a then some (.frz { cls:=.type "list",data:=.seq vs.toArray } (.lst (ns.map V.int))) else none) (fun b=>?_) (.inl (.inr ⟨{ cls:=.type "list",data:=.seq vs.toArray },if_pos rfl⟩)) (fun b u z=>?_) (fun b z=>?_) fun _=>hk
  ·by_cases hb:b=a
   ·exact .inr ⟨_,_,if_pos hb⟩
   ·exact .inl (if_neg hb)
  ·by_cases hb:b=a
   ·have z':=(if_pos hb).symm.trans z
    cases z'
    subst hb
    exact ⟨ha,by rw [List.length_map]; exact hl,vs,_,rv,ha⟩
   ·have z':=(if_neg hb).symm.trans z
    cases z'
  ·by_cases hb:b=a
   ·exact hb
   ·exact absurd (if_neg hb) z
end L2
namespace L2
open PySem PySem.Spec PyProof.Rows
abbrev KOf {K:PySem.W.Frag} {h:Heap} (_:K.In h):PySem.W.Frag:=K
theorem walk_of {l:PySem.W.OpenLaw} {n k:Nat} {q:Program} {loose:List Str} {XP:(Str->Option Value)->Heap->Prop} {YP:World->Heap->Prop} {d:DefRec} {K:Params->PySem.W.Frag} {CX:World->CXT} {sp:World->Sp} {x:Str}
  (hn:l.most=some n) (hn2:n <= sizeLine) (hdf:d.params.defaults=[]) (hr:Room k callerA)
  (hY:∀ (w:World) (h:Heap),YP w h->(K w.params).In h)
  (F:∀ (w:World) (mg:Str->Option Value) (fa:Addr) (h:Heap),(K w.params).In h->h.Ns mainGlobals mg->mg d.name=some (.ref fa) ->
   ∃ fd:FuncData,(∀ (s:Shared) (u:Value),BindsTo s fd ⟨[u],[]⟩ [(x,u)]) /\
    ∀ base:Heap,(K w.params).In base->base.Ns mainGlobals mg->FnOk l.prog w (K w.params) mg base (CX w) k fa fd [x] (sp w))
  (hsp:∀ (w:World) (H:Hp) (a:Addr) (ns:List Int),ns.length <= n->Only H->SqL (K w.params) H a (ns.map V.int)->sp w [.ref a] H (fun v _=>v = .bl true) fun _ _ _=>False)
  (hCX:∀ (w:World) (H:Hp) (s:Shared) (e:Value) (s':Shared),CX w [] H s (fun _ _ _=>False) e s'->False) :
  PySem.W.WalkO q loose XP YP l.row.toRowW d [] (fun f vs=>PySem.call f vs):=by
 refine Att.attach_call hn hdf fun w s₀ s₁ mg mb fa o pm cd doc a vs ns G Y ho hd hcd hmg hobj hints hlen hg=>?_
 have KX:=hY w _ Y
 obtain ⟨fd,hb,hF⟩:=F w mg fa _ KX G.T.g hmg
 exact wR KX G.T.g G.T.b G.T.builtins G.T.nolimit hg hobj hints (Nat.le_trans hlen hn2) hr hF hb (fun H hO hS=>hsp w H a ns hlen hO hS) fun H e s'=>hCX w H s₁ e s'
end L2
/- THE LAST THEOREM (shape; LID,My.* are yours):
  My.Adr: a structure of the addresses that your layer names (classes,functions); My.Txt K t: a structure (Prop) of the equations over K;
  My.txt_mk:{K} {implicit addresses ..} (e1:nsIn K mainGlobals "law" = some (some (.ref f))) (e2:K.lookup f = some ⟨oc,od,.func (fnOf "law" "law" params body scope dV kV doc pm an cdv ct),sl⟩) (e3:codeIn K cdv "law" = true) .. : ∃ t,My.Txt K t
set_option maxRecDepth 100000 in
set_option maxHeartbeats 0 in
theorem PySem.Challenge.cw_LID_holds:PySem.Challenge.rw_LID.Holds:=by
 w_on; o_law; k_head; (case hw=>w_witness2)
 k_fill
 refine L2.walk_of (l:=PySem.Challenge.rw_LID) (n:=63) (k:=40) (x:="script") (CX:=fun w=>..) (sp:=fun _=>My.sp_law) rfl (by decide) rfl ⟨rfl,by decide,by decide⟩ (fun w h Y=>PySem.W.kIn_of Y) ?F ?S ?C
 case F =>
  intro w mg fa h KX G hmg
  have T:∃ t,My.Txt (L2.KOf KX) t:=by
   dsimp only [L2.KOf]                          -- K must stand as «<heap const> w.params» for k_is
   refine' My.txt_mk ?e1 ?e2 ?e3 ..
   (case e1=>PySem.W.k_is)                    -- in the order: a name -> its address -> its object -> its parts
   (case e2=>PySem.W.k_is)
   ..
  obtain ⟨t,T⟩:=T
  have e0:=hmg.symm.trans (PySem.W.mg_of KX G T.law)
  cases e0                                       -- fa is the law's own address
  exact ⟨_,fun s u=>.of_eq rfl,fun base kb nb=>My.law_fn T kb nb⟩     -- if «.of_eq rfl» comes too early: refine' ⟨_,?b,fun base kb nb=>My.law_fn T kb nb⟩; exact fun s u=>.of_eq rfl
 case S=>exact fun w H a ns hl hO hS=>..
 case C=>exact ..
(the tactic k_is has no namespace: write k_is) -/
namespace L2
open PySem PySem.Spec PyProof.Rows
def ax (s:Stmt):Arguments:=match s with
 | .FunctionDef _ a _ _ _ _ _ _ _ _=>a
 | _=>{ posonlyargs:=[],args:=[],vararg:=none,kwonlyargs:=[],kw_defaults:=[],kwarg:=none,defaults:=[] }
def ao (s:Stmt):List Stmt:=match s with
 | .FunctionDef _ _ b _ _ _ _ _ _ _=>b
 | _=>[]
def ad (s:Stmt):Scope:=match s with
 | .FunctionDef _ _ _ _ _ _ sc _ _ _=>sc
 | _=>{ kind:=.function,names:=[],isGenerator:=false,isCoroutine:=false }
abbrev CX0:CXT:=fun _ _ _ _ _ _=>False
abbrev E0:XK:=fun _ _ _=>False
theorem yP {X:Cx}:uN CX0 X E0:=fun _ _ _ _ _ _ _ h=>h.elim
structure Fun (K:PySem.W.Frag) (x qual:Str) (st:Stmt) (f:Addr) (fd:FuncData):Prop where
 ex:∃ (oc:Value) (od:Option Addr) (kV doc pm:Value) (an:Option Addr) (cdv ct:Value) (osl:Array (Option Value)),
  fd=PySem.W.fnOf x qual (ax st) (ao st) (ad st) .none kV doc pm an cdv ct /\ K.lookup f=some ⟨oc,od,.func fd,osl⟩ /\ PySem.W.codeIn K cdv qual=true
 kp:PySem.W.keepIn K (.ref f)=true
section
variable {P:Program} {w:World} {K:PySem.W.Frag} {mg:Str->Option Value} {base:Heap}
theorem Fun.ok {x qual:Str} {st:Stmt} {f:Addr} {fd:FuncData} {N ps:List Str} {k:Nat} {sp:Sp} (F:Fun K x qual st f fd) (S:FnScope N ps (ad st)) (len:∀ vs H Q E,sp vs H Q E->vs.length=ps.length)
  (hbody:∀ (cdv:Value) (A:Around) (outer:List Env) (s:Shared) (H:Hp) (vs:List V) (Q:VK) (E:XK),Room k (A.deeper (envOfC qual (ad st) s.heap.objs.size f cdv))->sp vs H Q E ->
   ∃ t,PSs (cxOf CX0 P w K mg base N qual (ad st) f cdv A outer s H E).nox (ao st) t /\ t { nx:=fun _ H'=>Q .non H',rt:=Q } (start N vs) H):FnOk P w K mg base CX0 (k + 1) f fd ps sp:=by
 obtain ⟨oc,od,kV,doc,pm,an,cdv,ct,osl,rfl,lk,hcd⟩:=F.ex
 refine yG lk hcd S len fun A outer s H vs Q E hr hsp=>?_
 obtain ⟨t,h,q⟩:=hbody cdv A outer s H vs Q E hr hsp
 exact ⟨t,h.nox,q⟩
theorem Fun.binds {x qual:Str} {st:Stmt} {f:Addr} {fd:FuncData} {ps:List Str} (F:Fun K x qual st f fd)
  (h:∀ (kV doc pm:Value) (an:Option Addr) (cdv ct:Value) (us:List Value),us.length=ps.length->bindArgs (PySem.W.fnOf x qual (ax st) (ao st) (ad st) .none kV doc pm an cdv ct) ⟨us,[]⟩=pure (ps.zip us)):Binds K fd ps []:=by
 obtain ⟨oc,od,kV,doc,pm,an,cdv,ct,osl,rfl,lk,hcd⟩:=F.ex
 exact .all (h kV doc pm an cdv ct)
theorem aG {x qual:Str} {st:Stmt} {f:Addr} {oc:Value} {od an:Option Addr} {osl:Array (Option Value)} {kV doc pm cdv ct:Value} (l:K.lookup f=some ⟨oc,od,.func (PySem.W.fnOf x qual (ax st) (ao st) (ad st) .none kV doc pm an cdv ct),osl⟩)
  (c:PySem.W.codeIn K cdv qual=true) (k:PySem.W.keepIn K (.ref f)=true):Fun K x qual st f (PySem.W.fnOf x qual (ax st) (ao st) (ad st) .none kV doc pm an cdv ct):=⟨⟨oc,od,kV,doc,pm,an,cdv,ct,osl,rfl,l,c⟩,k⟩
end
section
variable {X:Cx}
theorem pv (i:Nat) {x:Str} {pos:Pos} (hN:X.N[i]? = some x:=by rfl) (hv:Vis X.env.scope x:=by first | exact Or.inl rfl | exact Or.inr (Or.inl rfl) | exact Or.inr (Or.inr rfl)) (hd:(x == ("__debug__" : Str))=false:=by decide)
  (hcd:(x == ("__classdict__" : Str))=false:=by decide):PE X (.Name x pos) (tVar i):=An hN hv hd hcd
end
theorem iteF {A B:Prop} (h:B):if false=true then A else B:=by
 rw [if_neg Bool.false_ne_true]
 exact h
theorem iteT {A B:Prop} (h:A):if true=true then A else B:=by
 rw [if_pos rfl]
 exact h
theorem ite2 {c A B:Prop} [Decidable c] (h1:c->A) (h2:¬ c->B):if c then A else B:=by
 by_cases h:c
 ·rw [if_pos h]
  exact h1 h
 ·rw [if_neg h]
  exact h2 h
def Same (H H':Hp):Prop:=∀ b o,H b=some o->H' b=some o
theorem Same.refl (H:Hp):Same H H:=fun _ _ h=>h
theorem Same.trans {H H1 H2:Hp} (a:Same H H1) (b:Same H1 H2):Same H H2:=fun c o h=>b c o (a c o h)
theorem Same.free {H H':Hp} (e:Same H H') {l:Addr} (h:H' l=Option.none):H l=Option.none:=by
 cases q:H l with
 | none=>rfl
 | some o =>
  rw [e l o q] at h
  cases h
theorem Same.seq {K:PySem.W.Frag} {H H':Hp} {a:Addr} {xs:List V} (e:Same H H') (h:SqL K H a xs):SqL K H' a xs:=by
 rcases h with (h | ⟨o,h⟩) | h
 ·exact .inl (.inl (e _ _ h))
 ·exact .inl (.inr ⟨o,e _ _ h⟩)
 ·exact .inr h
end L2
namespace L2
open PySem PySem.Spec PyProof.Rows
section
variable {X:Cx}
end
section
variable {κ:Type} [DecidableEq κ]
end
end L2
namespace L2
open PySem PySem.Spec PyProof.Rows
section
variable {X:Cx} {pos:Pos}
def gLs (K:PySem.W.Frag) (n:Nat) (t:TGs):TG:=fun v σ H Q=>∃ a xs,v = .ref a /\ SqL K H a xs /\ xs.length=n /\ t xs σ H Q
theorem CQ {es:List Expr} {k:Nat} {t:TGs} {n:Nat} (hc:X.calm=true) (h:PGs X es t)
  (hn:(assignEach es X.env).length=n:=by rfl) (hst:(assignEach es X.env).findIdx? (·.1)=none:=by rfl):PG X (.Tuple es k pos) (gLs X.K n t):=by
 intro pins s σ H v u Q I r hw
 obtain ⟨a,xs,e1,hq,hl,hw⟩:=hw
 subst e1
 cases r
 obtain ⟨its,rv,pl,hz⟩:=I.list hq
 rw [assign_Tuple]
 refine wpAny_bind (wpAny_standAt ?_)
 unfold unpack
 rw [show (assignEach es X.env).length=its.toArray.size by simp [hn,← hl,rv.length],hst]
 refine wpAny_bind (wpAny_holding (PySem.W.kun_itemsOf (I.ok.hd hc) pl.isList fun h' hx=>?_))
 have I1:Inv X pins σ H { s with heap:=h' }:=I.kept (t':=s.toks) fun b o e=>hx b o (Nat.ne_of_lt (Heap.lt_size e)) e
 exact h pins _ σ H xs _ Q I1 (by simpa using rv) hw
def knV (H:Hp):V->Prop
 | .non=>True | .bl _=>True | .int _=>True | .str _=>True
 | .ref a=>(∃ xs,H a=some (.lst xs))∨(∃ o xs,H a=some (.frz o (.lst xs)))∨(∃ xs,H a=some (.tup xs))∨(∃ kvs,H a=some (.dK kvs))∨(∃ kvs,H a=some (.dT kvs))
 | _=>False
def xU:V->Bool
 | .int _=>true | .bl _=>true | _=>false
def Bf:V->Bool
 | .bl _=>true | _=>false
def isTupO:Option HO->Bool
 | some (.tup _)=>true | _=>false
def iz:Option HO->Bool
 | some (.lst _)=>true | some (.frz _ (.lst _))=>true | _=>false
def gy (H:Hp):V->Bool
 | .ref a=>isTupO (H a) | _=>false
def gz (H:Hp):V->Bool
 | .ref a=>iz (H a) | _=>false
theorem bD {K:PySem.W.Frag} {t T:String} {b:Bool}
  (h:(if (Value.type t == Value.type T)=true then some true else if PySem.W.kitMeta T=true then (PySem.fastBuiltinMro t).map (·.contains (.type T)) else none)=some b):PySem.W.kitOne K (.type t) (.type T)=some b:=h
theorem ig {T:String} {f:Hp->V->Bool}
  (hn:∀ (H:Hp),PySem.W.kitOne X.K (.type "NoneType") (.type T)=some (f H .non)) (hb:∀ (H:Hp) c,PySem.W.kitOne X.K (.type "bool") (.type T)=some (f H (.bl c)))
  (hi:∀ (H:Hp) i,PySem.W.kitOne X.K (.type "int") (.type T)=some (f H (.int i))) (hs:∀ (H:Hp) x,PySem.W.kitOne X.K (.type "str") (.type T)=some (f H (.str x)))
  (hl:∀ (H:Hp) a xs,H a=some (.lst xs)->PySem.W.kitOne X.K (.type "list") (.type T)=some (f H (.ref a)))
  (hf:∀ (H:Hp) a o xs,H a=some (.frz o (.lst xs))->PySem.W.kitOne X.K (.type "list") (.type T)=some (f H (.ref a)))
  (ht:∀ (H:Hp) a xs,H a=some (.tup xs)->PySem.W.kitOne X.K (.type "tuple") (.type T)=some (f H (.ref a)))
  (hd:∀ (H:Hp) a kvs,H a=some (.dK kvs)->PySem.W.kitOne X.K (.type "dict") (.type T)=some (f H (.ref a)))
  (hd':∀ (H:Hp) a kvs,H a=some (.dT kvs)->PySem.W.kitOne X.K (.type "dict") (.type T)=some (f H (.ref a))) :
  CallR X (.builtin "isinstance") (fun xs H Q=>∃ x,xs=[x,.ty T] /\ knV H x /\ Q (.bl (f H x)) H):=by
 intro pins s σ H xs us Q I r h
 obtain ⟨x,rfl,kn,q⟩:=h
 obtain ⟨u1,u2,rfl,r1,r2⟩:=CI r
 cases r2
 have fin:∀ t,TyOf X.K H x t->PySem.W.kitOne X.K t (.type T)=some (f H x)->wpAny (model X.prog X.w) X.A (call (.builtin "isinstance") [u1,.type T]) (EP X pins σ Q) X.xe s :=
  fun t ty e=>uM I r1 ty e fun tk=>⟨.bl (f H x),H,I.tok tk,rfl,q⟩
 cases x with
 | non=>exact fin _ .non (hn H)
 | bl c=>exact fin _ (.bl c) (hb H c)
 | int i=>exact fin _ (.int i) (hi H i)
 | str y=>exact fin _ (.str y) (hs H y)
 | ref a =>
  rcases kn with ⟨ys,e⟩ | ⟨o,ys,e⟩ | ⟨ys,e⟩ | ⟨ys,e⟩ | ⟨ys,e⟩
  ·exact fin _ (.lst e) (hl H a ys e)
  ·exact fin _ (.frz e) (hf H a o ys e)
  ·exact fin _ (.tup e) (ht H a ys e)
  ·exact fin _ (.dK e) (hd H a ys e)
  ·exact fin _ (.dT e) (hd' H a ys e)
 | _=>exact kn.elim
theorem lI {K:PySem.W.Frag}:PySem.W.kitOne K (.type "NoneType") (.type "int")=some false:=bD (by decide +kernel)
theorem qV {K:PySem.W.Frag}:PySem.W.kitOne K (.type "bool") (.type "int")=some true:=bD (by decide +kernel)
theorem tU {K:PySem.W.Frag}:PySem.W.kitOne K (.type "int") (.type "int")=some true:=bD (by decide +kernel)
theorem tV {K:PySem.W.Frag}:PySem.W.kitOne K (.type "str") (.type "int")=some false:=bD (by decide +kernel)
theorem lJ {K:PySem.W.Frag}:PySem.W.kitOne K (.type "list") (.type "int")=some false:=bD (by decide +kernel)
theorem pF {K:PySem.W.Frag}:PySem.W.kitOne K (.type "tuple") (.type "int")=some false:=bD (by decide +kernel)
theorem lK {K:PySem.W.Frag}:PySem.W.kitOne K (.type "dict") (.type "int")=some false:=bD (by decide +kernel)
theorem kM {K:PySem.W.Frag}:PySem.W.kitOne K (.type "NoneType") (.type "bool")=some false:=bD (by decide +kernel)
theorem pG {K:PySem.W.Frag}:PySem.W.kitOne K (.type "bool") (.type "bool")=some true:=bD (by decide +kernel)
theorem qW {K:PySem.W.Frag}:PySem.W.kitOne K (.type "int") (.type "bool")=some false:=bD (by decide +kernel)
theorem qX {K:PySem.W.Frag}:PySem.W.kitOne K (.type "str") (.type "bool")=some false:=bD (by decide +kernel)
theorem ku {K:PySem.W.Frag}:PySem.W.kitOne K (.type "list") (.type "bool")=some false:=bD (by decide +kernel)
theorem nM {K:PySem.W.Frag}:PySem.W.kitOne K (.type "tuple") (.type "bool")=some false:=bD (by decide +kernel)
theorem kw {K:PySem.W.Frag}:PySem.W.kitOne K (.type "dict") (.type "bool")=some false:=bD (by decide +kernel)
theorem jF {K:PySem.W.Frag}:PySem.W.kitOne K (.type "NoneType") (.type "tuple")=some false:=bD (by decide +kernel)
theorem nN {K:PySem.W.Frag}:PySem.W.kitOne K (.type "bool") (.type "tuple")=some false:=bD (by decide +kernel)
theorem pH {K:PySem.W.Frag}:PySem.W.kitOne K (.type "int") (.type "tuple")=some false:=bD (by decide +kernel)
theorem pI {K:PySem.W.Frag}:PySem.W.kitOne K (.type "str") (.type "tuple")=some false:=bD (by decide +kernel)
theorem jd {K:PySem.W.Frag}:PySem.W.kitOne K (.type "list") (.type "tuple")=some false:=bD (by decide +kernel)
theorem mV {K:PySem.W.Frag}:PySem.W.kitOne K (.type "tuple") (.type "tuple")=some true:=bD (by decide +kernel)
theorem je {K:PySem.W.Frag}:PySem.W.kitOne K (.type "dict") (.type "tuple")=some false:=bD (by decide +kernel)
theorem kN {K:PySem.W.Frag}:PySem.W.kitOne K (.type "NoneType") (.type "list")=some false:=bD (by decide +kernel)
theorem pJ {K:PySem.W.Frag}:PySem.W.kitOne K (.type "bool") (.type "list")=some false:=bD (by decide +kernel)
theorem qY {K:PySem.W.Frag}:PySem.W.kitOne K (.type "int") (.type "list")=some false:=bD (by decide +kernel)
theorem qZ {K:PySem.W.Frag}:PySem.W.kitOne K (.type "str") (.type "list")=some false:=bD (by decide +kernel)
theorem kx {K:PySem.W.Frag}:PySem.W.kitOne K (.type "list") (.type "list")=some true:=bD (by decide +kernel)
theorem nO {K:PySem.W.Frag}:PySem.W.kitOne K (.type "tuple") (.type "list")=some false:=bD (by decide +kernel)
theorem ky {K:PySem.W.Frag}:PySem.W.kitOne K (.type "dict") (.type "list")=some false:=bD (by decide +kernel)
theorem rf:CallR X (.builtin "isinstance") (fun xs H Q=>∃ x,xs=[x,.ty "int"] /\ knV H x /\ Q (.bl (xU x)) H) :=
 ig (f:=fun _ x=>xU x) (fun _=>lI) (fun _ _=>qV) (fun _ _=>tU) (fun _ _=>tV) (fun _ _ _ _=>lJ) (fun _ _ _ _ _=>lJ) (fun _ _ _ _=>pF) (fun _ _ _ _=>lK) (fun _ _ _ _=>lK)
theorem pK:CallR X (.builtin "isinstance") (fun xs H Q=>∃ x,xs=[x,.ty "bool"] /\ knV H x /\ Q (.bl (Bf x)) H) :=
 ig (f:=fun _ x=>Bf x) (fun _=>kM) (fun _ _=>pG) (fun _ _=>qW) (fun _ _=>qX) (fun _ _ _ _=>ku) (fun _ _ _ _ _=>ku) (fun _ _ _ _=>nM) (fun _ _ _ _=>kw) (fun _ _ _ _=>kw)
theorem nP:CallR X (.builtin "isinstance") (fun xs H Q=>∃ x,xs=[x,.ty "tuple"] /\ knV H x /\ Q (.bl (gy H x)) H) :=
 ig (f:=gy) (fun _=>jF) (fun _ _=>nN) (fun _ _=>pH) (fun _ _=>pI) (fun H a xs e=>by simp only [gy,e,isTupO]; exact jd) (fun H a o xs e=>by simp only [gy,e,isTupO]; exact jd) (fun H a xs e=>by simp only [gy,e,isTupO]; exact mV) (fun H a xs e=>by simp only [gy,e,isTupO]; exact je) (fun H a xs e=>by simp only [gy,e,isTupO]; exact je)
theorem pL:CallR X (.builtin "isinstance") (fun xs H Q=>∃ x,xs=[x,.ty "list"] /\ knV H x /\ Q (.bl (gz H x)) H) :=
 ig (f:=gz) (fun _=>kN) (fun _ _=>pJ) (fun _ _=>qY) (fun _ _=>qZ) (fun H a xs e=>by simp only [gz,e,iz]; exact kx) (fun H a o xs e=>by simp only [gz,e,iz]; exact kx) (fun H a xs e=>by simp only [gz,e,iz]; exact nO) (fun H a xs e=>by simp only [gz,e,iz]; exact ky) (fun H a xs e=>by simp only [gz,e,iz]; exact ky)
def Big (i:Int):Prop:=i.natAbs.log2 < 8000
theorem vc {i:Int} (h:i.natAbs < 2 ^ 8000):Big i:=by
 unfold Big
 rcases Nat.eq_zero_or_pos i.natAbs with h0 | hp
 ·rw [h0]; decide
 ·exact (Nat.log2_lt (Nat.ne_of_gt hp)).mpr h
theorem Big.bits {i:Int} (h:Big i):Builtin.Int.intBits i <= 8000:=by
 unfold Builtin.Int.intBits
 unfold Big at h
 split
 ·exact Nat.zero_le _
 ·omega
def CMulB (i j:Int):Prop:=(-(2 ^ 64) < i /\ i < 2 ^ 64)∨(-(2 ^ 64) < j /\ j < 2 ^ 64)∨(Big i /\ Big j)
theorem CMulB.ok {i j:Int} (h:CMulB i j):IntMulOk i j:=by
 rcases h with ⟨h1,h2⟩ | ⟨h1,h2⟩ | ⟨h1,h2⟩
 ·exact .of_left (intBits_le_64 h1 h2)
 ·exact .of_right (intBits_le_64 h1 h2)
 ·have b1:=h1.bits
  have b2:=h2.bits
  unfold IntMulOk
  have:Builtin.Int.intTooBig (Builtin.Int.intBits i + Builtin.Int.intBits j)=false:=by
   unfold Builtin.Int.intTooBig
   refine decide_eq_false ?_
   have e:bitsLine=134217728:=by decide
   rw [e]
   omega
  rw [this]
  simp
theorem jG:OpR X (binaryOp .Mult) (rI CMulB fun i j=>.int (i * j)):=opI fun _ _ _ _ _ _ _ hc q=>mul_int q hc.ok
def Bg (_ j:Int):Prop:=0 < j /\ Big j
theorem nQ:OpR X (binaryOp .FloorDiv) (rI Bg fun i j=>.int (i / j)):=opI fun i j _ _ _ _ _ hc q=>by
 have h1:(0:Int) < j:=hc.1
 exact floordiv_int (by omega) (by rw [Int.fdiv_eq_ediv_of_nonneg i (by omega)]; exact q) (.inl (PyProof.noPylong_of_log2 (Nat.lt_trans hc.2 (by decide))))
def Bh (_ j:Int):Prop:=j≠0 /\ Big j
theorem wS:OpR X (binaryOp .FloorDiv) (rI Bh fun i j=>.int (i.fdiv j)):=opI fun i j _ _ _ _ _ hc q =>
 floordiv_int hc.1 q (.inl (PyProof.noPylong_of_log2 (Nat.lt_trans hc.2 (by decide))))
end
structure Df (K:PySem.W.Frag) (mg:Str->Option Value) (x:Str) (st:Stmt) (ps:List Str) (f:Addr) (fd:FuncData):Prop where
 F:Fun K x x st f fd
 m:mg x=some (.ref f)
 b:Binds K fd ps []
def SBut (p:Addr) (H H':Hp):Prop:=∀ b o,b≠p->H b=some o->H' b=some o
theorem SBut.refl {p:Addr} {H:Hp}:SBut p H H:=fun _ _ _ e=>e
theorem SBut.trans {p:Addr} {H H1 H2:Hp} (x:SBut p H H1) (y:SBut p H1 H2):SBut p H H2:=fun b o n e=>y b o n (x b o n e)
theorem SBut.upd {p:Addr} {H:Hp} {o:HO}:SBut p H (upd H p o):=fun b u n e=>by rw [ar n]; exact e
theorem SBut.new {p q:Addr} {H:Hp} {o:HO} (h:H q=none):SBut p H (L2.upd H q o):=fun b u n e=>by rw [ar (cN e h)]; exact e
theorem Same.but {p:Addr} {H H':Hp} (h:Same H H'):SBut p H H':=fun b o _ e=>h b o e
theorem sx {q:Addr} {H:Hp} {o:HO} (h:H q=none):Same H (upd H q o):=fun b u e=>by rw [ar (cN e h)]; exact e
theorem dY {H:Hp} {p q:Addr} {o u:HO} (h:H p=none) (e:H q=some u):upd H p o q=some u:=by rw [ar (cN e h)]; exact e
def Scr (K:PySem.W.Frag) (H:Hp) (a:Addr) (ns:List Int):Prop:=(∃ o,H a=some (.frz o (.lst (ns.map V.int))))∨∀ H',SqL K H' a (ns.map V.int)
theorem Scr.sq {K:PySem.W.Frag} {H:Hp} {a:Addr} {ns:List Int} (h:Scr K H a ns):SqL K H a (ns.map V.int):=by
 rcases h with ⟨o,h⟩ | h
 ·exact .inl (.inr ⟨o,h⟩)
 ·exact h H
structure Pen (K:PySem.W.Frag) (H:Hp) (p a:Addr) (ns:List Int) (t l:Int):Prop where
 lst:H p=some (.lst [.ref a,.int t,.int l])
 scr:Scr K H a ns
 t0:0 <= t
theorem Pen.put {K:PySem.W.Frag} {H:Hp} {p a:Addr} {ns:List Int} {t l t' l':Int} (h:Pen K H p a ns t l) (h0:0 <= t'):Pen K (upd H p (.lst [.ref a,.int t',.int l'])) p a ns t' l':=by
 refine ⟨au,?_,h0⟩
 rcases h.scr with ⟨o,e⟩ | e
 ·refine .inl ⟨o,?_⟩
  rw [ar (kK e h.lst (by intro z; cases z))]
  exact e
 ·exact .inr e
theorem Pen.same {K:PySem.W.Frag} {H H':Hp} {p a:Addr} {ns:List Int} {t l:Int} (h:Pen K H p a ns t l) (s:Same H H'):Pen K H' p a ns t l:=by
 refine ⟨s _ _ h.lst,?_,h.t0⟩
 rcases h.scr with ⟨o,e⟩ | e
 ·exact .inl ⟨o,s _ _ e⟩
 ·exact .inr e
theorem vd {ns:List Int} {i:Int} (h0:0 <= i) (h:i < (ns.length:Int)):atI (ns.map V.int) i=some (.int (ns.getD i.toNat 0)):=by
 obtain ⟨j,rfl⟩:=Int.eq_ofNat_of_zero_le h0
 have hj:j < ns.length:=by omega
 refine atI_nat ?_
 simp [List.getElem?_map,hj]
end L2
namespace L2
open PySem PySem.Spec PyProof.Rows
section
variable {X:Cx} {pos:Pos}
def CS:R2:=fun x y H Q=>∃ p xs i v,x = .ref p /\ y = .int i /\ H p=some (.tup xs) /\ atI xs i=some v /\ Q v H
def CT:R2:=fun x y H Q=>∃ p xs i v,x = .ref p /\ y = .int i /\ H p=some (.lst xs) /\ atI xs i=some v /\ Q v H
theorem yQ:IxR X CS:=fun value slice pins s σ H x y v u Q I rx ry ⟨p,xs,i,z,e1,e2,h,e3,q⟩ hs=>AU value slice pins s σ H x y v u Q I rx ry ⟨p,xs,i,z,e1,e2,SqT.of h,e3,q⟩ hs
theorem sy:IxR X CT:=fun value slice pins s σ H x y v u Q I rx ry ⟨p,xs,i,z,e1,e2,h,e3,q⟩ hs=>nI value slice pins s σ H x y v u Q I rx ry ⟨p,xs,i,z,e1,e2,SqL.of h,e3,q⟩ hs
def lenO:Option HO->Option Nat
 | some (.lst xs)=>some xs.length | some (.tup xs)=>some xs.length | _=>none
def CU:List V->Hp->VK->Prop:=fun xs H Q=>∃ p n,xs=[.ref p] /\ lenO (H p)=some n /\ Q (.int n) H
theorem ve:CallR X (.builtin "len") CU:=by
 intro pins s σ H xs us Q I r h
 obtain ⟨p,n,rfl,e,q⟩:=h
 cases o:H p with
 | none=>rw [o] at e; cases e
 | some ob =>
  rw [o] at e
  cases ob with
  | lst ys=>cases e; exact dO pins s σ H _ us Q I r ⟨p,ys,rfl,.inl (SqL.of o),q⟩
  | tup ys=>cases e; exact dO pins s σ H _ us Q I r ⟨p,ys,rfl,.inr (SqT.of o),q⟩
  | _=>cases e
def gLsH (n:Nat) (t:TGs):TG:=fun v σ H Q=>∃ a xs,v = .ref a /\ H a=some (.lst xs) /\ xs.length=n /\ t xs σ H Q
theorem Bi {es:List Expr} {k:Nat} {t:TGs} {n:Nat} (hc:X.calm=true) (h:PGs X es t)
  (hn:(assignEach es X.env).length=n:=by rfl) (hst:(assignEach es X.env).findIdx? (·.1)=none:=by rfl):PG X (.Tuple es k pos) (gLsH n t) :=
 fun pins s σ H v u Q I r ⟨a,xs,e1,e2,e3,q⟩=>CQ hc h hn hst pins s σ H v u Q I r ⟨a,xs,e1,SqL.of e2,e3,q⟩
def CV (n:Nat) (t:TGs):TG:=fun v σ H Q=>∃ a xs,v = .ref a /\ H a=some (.tup xs) /\ xs.length=n /\ t xs σ H Q
theorem yR {es:List Expr} {k:Nat} {t:TGs} {n:Nat} (hc:X.calm=true) (h:PGs X es t)
  (hn:(assignEach es X.env).length=n:=by rfl) (hst:(assignEach es X.env).findIdx? (·.1)=none:=by rfl):PG X (.Tuple es k pos) (CV n t) :=
 fun pins s σ H v u Q I r ⟨a,xs,e1,e2,e3,q⟩=>AA hc h hn hst pins s σ H v u Q I r ⟨a,xs,e1,SqT.of e2,e3,q⟩
end
end L2
namespace L2
open PySem PySem.Spec PyProof.Rows
def vf (K:PySem.W.Frag):Sp:=fun vs H Q _=>∃ (p a:Addr) (ns:List Int) (t l m:Int),vs=[.ref p,.int m] /\ Pen K H p a ns t l /\ 1 <= m /\ m <= 10 ^ 60 /\
 ∀ (r t' l':Int) (H':Hp),0 <= r->r < m->Pen K H' p a ns t' l'->SBut p H H'->Q (.int r) H'
def xV (K:PySem.W.Frag):Sp:=fun vs H Q _=>∃ (a:Addr) (ns:List Int),vs=[.ref a] /\ Scr K H a ns /\ ∀ (p:Addr) (H':Hp),H p=none->Pen K H' p a ns 0 0->Same H H'->Q (.ref p) H'
theorem nR {x d y:Int} (h0:0 < d) (h:d <= 18446744073709551616):CMulB (x % d) y:=by
 have h1:=Int.emod_nonneg x (show d≠0 by omega)
 have h2:=Int.emod_lt_of_pos x h0
 exact .inl ⟨by omega,by omega⟩
theorem wT {c y:Int} (h : -18446744073709551616 < c /\ c < 18446744073709551616:=by decide):CMulB c y:=.inl h
theorem Bj {c y:Int} (h : -18446744073709551616 < c /\ c < 18446744073709551616:=by decide):CMulB y c:=.inr (.inl h)
theorem mpos {c:Int} (h:0 < c:=by decide):0 < c:=h
theorem vg {c:Int} (h0:0 <= c) (h:c <= 10 ^ 60):Big c:=vc (Nat.lt_of_lt_of_le (Nat.lt_of_le_of_lt (show c.natAbs <= 10 ^ 60 by omega) (show 10 ^ 60 < 2 ^ 200 by decide)) (Nat.pow_le_pow_right (by decide) (by decide)))
theorem fH {c:Int} (h0:0 <= c) (h:c <= 18446744073709551616):Big c:=vc (Nat.lt_of_lt_of_le (Nat.lt_of_le_of_lt (show c.natAbs <= 18446744073709551616 by omega) (show 18446744073709551616 < 2 ^ 65 by decide)) (Nat.pow_le_pow_right (by decide) (by decide)))
end L2
namespace Ra
structure Low (a b x y:Int):Prop where
 pos:0 < y
 cop:Int.gcd x y=1
 eq:x * b=a * y
theorem ii {x y z:Int} (h:Int.gcd x y=1) (hd:y ∣ x * z):y ∣ z:=by
 have h1:Nat.Coprime y.natAbs x.natAbs:=by
  show Nat.gcd y.natAbs x.natAbs=1
  rw [Nat.gcd_comm]; exact h
 have h2:y.natAbs ∣ x.natAbs * z.natAbs:=by
  rw [← Int.natAbs_mul]; exact Int.natAbs_dvd_natAbs.mpr hd
 exact Int.natAbs_dvd_natAbs.mp (h1.dvd_of_dvd_mul_left h2)
theorem Low.uniq {a b x y x' y':Int} (hb:b≠0) (h:Low a b x y) (h':Low a b x' y'):x=x' /\ y=y':=by
 have e:x * y'=x' * y:=by
  have e1:b * (x * y')=b * (x' * y):=by
   have:=h.eq; have:=h'.eq; grind
  exact Int.eq_of_mul_eq_mul_left hb e1
 have d1:y ∣ y':=ii h.cop ⟨x',by grind⟩
 have d2:y' ∣ y:=ii h'.cop ⟨x,by grind⟩
 have ey:y=y':=Int.dvd_antisymm (Int.le_of_lt h.pos) (Int.le_of_lt h'.pos) d1 d2
 subst ey
 exact ⟨Int.eq_of_mul_eq_mul_right (Int.ne_of_gt h.pos) e,rfl⟩
theorem low_of {a b d:Int} (hb:b≠0) (hd:d=if b < 0 then -((Int.gcd a b:Nat):Int) else ((Int.gcd a b:Nat):Int)):Low a b (a.fdiv d) (b.fdiv d):=by
 have hg:0 < Int.gcd a b:=Int.gcd_pos_of_ne_zero_right a hb
 obtain ⟨a',ha⟩:((Int.gcd a b:Nat):Int) ∣ a:=Int.gcd_dvd_left ..
 obtain ⟨b',hb'⟩:((Int.gcd a b:Nat):Int) ∣ b:=Int.gcd_dvd_right ..
 have hc:Int.gcd a' b'=1:=by
  have e:Int.gcd a b=Int.gcd a b * Int.gcd a' b':=by
   have e0:=Int.gcd_mul_left ((Int.gcd a b:Nat):Int) a' b'
   rw [← ha,← hb'] at e0
   simpa using e0
  have:Int.gcd a b * 1=Int.gcd a b * Int.gcd a' b':=by omega
  exact (Nat.eq_of_mul_eq_mul_left hg this).symm
 generalize hG:((Int.gcd a b:Nat):Int)=G at *
 have hG0:0 < G:=by omega
 by_cases hn:b < 0
 ·rw [if_pos hn] at hd
  have ea:a=d * (-a'):=by rw [hd,ha]; grind
  have eb:b=d * (-b'):=by rw [hd,hb']; grind
  have hd0:d≠0:=by omega
  have e1:a.fdiv d = -a':=by rw [ea,Int.mul_fdiv_cancel_left _ hd0]
  have e2:b.fdiv d = -b':=by rw [eb,Int.mul_fdiv_cancel_left _ hd0]
  rw [e1,e2]
  refine ⟨?_,by rw [Int.gcd_neg,Int.neg_gcd]; exact hc,?_⟩
  ·have:G * b' < 0:=by rw [← hb']; exact hn
   have:=Int.neg_of_mul_neg_right this (by omega)
   omega
  ·rw [ha,hb']; grind
 ·rw [if_neg hn] at hd
  have hd0:d≠0:=by omega
  have e1:a.fdiv d=a':=by rw [hd,ha,Int.mul_fdiv_cancel_left _ (by omega)]
  have e2:b.fdiv d=b':=by rw [hd,hb',Int.mul_fdiv_cancel_left _ (by omega)]
  rw [e1,e2]
  refine ⟨?_,hc,?_⟩
  ·have:0 < G * b':=by rw [← hb']; omega
   exact Int.pos_of_mul_pos_right this (by omega)
  ·rw [ha,hb']; grind
theorem gcd_step {a b:Int} (hb:b≠0):Int.gcd b (a.fmod b)=Int.gcd a b:=by
 have e:a=b * a.fdiv b + a.fmod b:=(Int.mul_fdiv_add_fmod a b).symm
 conv=>rhs; rw [e]
 rw [Int.gcd_mul_left_add_left,Int.gcd_comm]
theorem fmod_less {a b:Int} (hb:b≠0):(a.fmod b).natAbs < b.natAbs:=by
 rcases Int.lt_or_gt_of_ne hb with h | h
 ·have h2:=Int.fmod_nonneg_of_pos (-a) (b:=-b) (by omega)
  have h3:=Int.fmod_lt_of_pos (-a) (b:=-b) (by omega)
  have h4:(-a).fmod (-b) = -(a.fmod b):=by
   rw [Int.neg_fmod_neg]
  omega
 ·have h2:=Int.fmod_nonneg_of_pos a h
  have h3:=Int.fmod_lt_of_pos a h
  omega
theorem gcd_zero {a:Int}:(if a < 0 then -a else a)=((Int.gcd a 0:Nat):Int):=by
 rw [Int.gcd_zero_right]
 split <;> omega
theorem Low.le {a b x y:Int} (hb:b≠0) (h:Low a b x y):x.natAbs <= a.natAbs /\ y.natAbs <= b.natAbs:=by
 have d1:y ∣ b:=ii h.cop ⟨a,by have:=h.eq; grind⟩
 have hy:y.natAbs <= b.natAbs:=Nat.le_of_dvd (Int.natAbs_pos.mpr hb) (Int.natAbs_dvd_natAbs.mpr d1)
 refine ⟨?_,hy⟩
 by_cases ha:a=0
 ·have e:=h.eq
  rw [ha,Int.zero_mul] at e
  rcases Int.mul_eq_zero.mp e with z | z
  ·rw [z]; exact Nat.zero_le _
  ·exact absurd z hb
 ·have d2:x ∣ a:=ii (x:=y) (by rw [Int.gcd_comm]; exact h.cop) ⟨b,by have:=h.eq; grind⟩
  exact Nat.le_of_dvd (Int.natAbs_pos.mpr ha) (Int.natAbs_dvd_natAbs.mpr d2)
end Ra
namespace L2
open PySem PySem.Spec PyProof.Rows
def fj (cells:List (Str×Addr)):List (Str×NameKind)->List (Str×Addr)->Option (List (Str×Addr))
 | [],cs=>some cs
 | (n,k)::r,cs=>if k == .free then (match cells.lookup n with
  | some c=>fj cells r ((n,c)::cs)
  | none=>none) else fj cells r cs
theorem jf {scope:Scope} {env:Env} {cl:List (Str×Addr)} (h:fj env.cells scope.names []=some cl):closureFor scope env=pure cl:=by
 simp only [closureFor]
 generalize ([]:List (Str×Addr))=cs at h ⊢
 generalize scope.names=l at h ⊢
 induction l generalizing cs with
 | nil=>cases h; rfl
 | cons a r ih =>
  obtain ⟨n,k⟩:=a
  unfold fj at h
  rw [List.forIn_cons]
  by_cases hk:(k == NameKind.free)=true
  ·rw [if_pos hk] at h
   cases e:env.cells.lookup n with
   | none=>rw [e] at h; cases h
   | some c =>
    rw [e] at h
    have:=ih _ h
    simp only [hk,if_true,cellOf,e,pure_bind]
    exact this
  ·rw [if_neg hk] at h
   have:=ih _ h
   simp only [hk,Bool.false_eq_true,if_false,pure_bind]
   exact this
theorem jH {cells cl:List (Str×Addr)}:∀ {l:List (Str×NameKind)} {cs:List (Str×Addr)},fj cells l cs=some cl->(∀ y c,cs.lookup y=some c->cells.lookup y=some c)->∀ y c,cl.lookup y=some c->cells.lookup y=some c
 | [],cs,h,hs,y,c,e=>by cases h; exact hs y c e
 | (n,k)::r,cs,h,hs,y,c,e=>by
  unfold fj at h
  by_cases hk:(k == NameKind.free)=true
  ·rw [if_pos hk] at h
   cases q:cells.lookup n with
   | none=>rw [q] at h; cases h
   | some c' =>
    rw [q] at h
    refine jH h (fun z d hz=>?_) y c e
    by_cases hzn:(z == n)=true
    ·rw [List.lookup_cons,hzn] at hz
     cases hz
     rw [eq_of_beq hzn]; exact q
    ·rw [List.lookup_cons,(Bool.not_eq_true _).mp hzn] at hz
     exact hs z d hz
  ·rw [if_neg hk] at h
   exact jH h hs y c e
theorem ij {cells cl:List (Str×Addr)}:∀ {l:List (Str×NameKind)} {cs:List (Str×Addr)},fj cells l cs=some cl->∀ y,((y,NameKind.free)∈l∨∃ c,cs.lookup y=some c)->∃ c,cl.lookup y=some c
 | [],cs,h,y,e=>by
  cases h
  rcases e with e | e
  ·simp at e
  ·exact e
 | (n,k)::r,cs,h,y,e=>by
  unfold fj at h
  by_cases hk:(k == NameKind.free)=true
  ·rw [if_pos hk] at h
   cases q:cells.lookup n with
   | none=>rw [q] at h; cases h
   | some c' =>
    rw [q] at h
    refine ij h y ?_
    rcases e with e | ⟨c,e⟩
    ·rcases List.mem_cons.mp e with e | e
     ·cases e
      exact .inr ⟨c',by rw [List.lookup_cons,beq_self_eq_true]⟩
     ·exact .inl e
    ·by_cases hyn:(y == n)=true
     ·exact .inr ⟨c',by rw [List.lookup_cons,hyn]⟩
     ·exact .inr ⟨c,by rw [List.lookup_cons,(Bool.not_eq_true _).mp hyn]; exact e⟩
  ·rw [if_neg hk] at h
   refine ij h y ?_
   rcases e with e | e
   ·rcases List.mem_cons.mp e with e | e
    ·cases e
     exact absurd rfl hk
    ·exact .inl e
   ·exact .inr e
inductive Cap (X:Cx) (scope:Scope):List Str->List (Option Nat)->Prop where
 | nil:Cap X scope [] []
 | own {x:Str} {N:List Str} {js:List (Option Nat)} (h:Cap X scope N js):Cap X scope (x::N) (none::js)
 | cap {x:Str} {j:Nat} {N:List Str} {js:List (Option Nat)} (h1:X.N[j]? = some x) (h2:X.env.kindOf x=some .cell∨X.env.kindOf x=some .free)
   (h3:scope.names.lookup x=some .free) (h:Cap X scope N js):Cap X scope (x::N) (some j::js)
def sub1 (σ:St):Option Nat->Option V
 | none=>none
 | some j=>(σ[j]?).join
def sub (js:List (Option Nat)) (σ:St):St:=js.map (sub1 σ)
theorem Cap.len {X:Cx} {scope:Scope} {N:List Str} {js:List (Option Nat)} (h:Cap X scope N js):js.length=N.length:=by induction h <;> simp [*]
theorem Cap.at {X:Cx} {scope:Scope} {N:List Str} {js:List (Option Nat)} (h:Cap X scope N js):∀ {i:Nat} {x:Str} {σ:St} {v:V},N[i]? = some x->(sub js σ)[i]? = some (some v) ->
  ∃ j:Nat,X.N[j]? = some x /\ σ[j]? = some (some v) /\ (X.env.kindOf x=some .cell∨X.env.kindOf x=some .free) /\ scope.names.lookup x=some .free:=by
 induction h with
 | nil=>intro i x σ v h; simp at h
 | own h ih =>
  intro i x σ v h1 h2
  cases i with
  | zero=>simp [sub,sub1] at h2
  | succ i=>exact ih (by simpa using h1) (by simpa [sub] using h2)
 | @cap x j N js k1 k2 k3 h ih =>
  intro i y σ v h1 h2
  cases i with
  | zero =>
   simp at h1
   subst h1
   simp [sub,sub1] at h2
   refine ⟨j,k1,?_,k2,k3⟩
   cases q:σ[j]? with
   | none=>rw [q] at h2; simp at h2
   | some o=>rw [q] at h2; simp at h2; rw [h2]
  | succ i=>exact ih (by simpa using h1) (by simpa [sub] using h2)
def fk (X:Cx) (scope:Scope) (cl:List (Str×Addr)) (C:Addr) (N':List Str) (s₃:Shared) (H₃:Hp) (fp:List Addr) (pins:List (Addr×Obj)):Cx :=
 { X with N:=N',s₀:=s₃,H₀:=H₃,env:=compEnvC scope cl C X.env,outer:=X.stack,ex:=fp,fn:=fun y=>scope.names.lookup y == some .cell,pn:=X.pn++pins,xe:=fun _ _=>False }
structure Blk where
 C:Addr
 s3:Shared
 H3:Hp
 fp:List Addr
 pins:List (Addr×Obj)
abbrev cxB (X:Cx) (scope:Scope) (cl:List (Str×Addr)) (N':List Str) (B:Blk):Cx:=fk X scope (cellsFrom (B.C + 1) scope.names cl) B.C N' B.s3 B.H3 B.fp B.pins
def PTs (X:Cx) (ifs:List Expr) (t:TT):Prop :=
 ∀ (pins:List (Addr×Obj)) (s:Shared) (σ:St) (H:Hp) (Q:Bool->Hp->Prop),Inv X pins σ H s->t σ H Q ->
  wpAny (model X.prog X.w) X.A (forIn ifs true fun c r=>if r=true then do let ok ← isTrue c X.env (eval c X.env); pure (ForInStep.yield ok) else pure (ForInStep.yield r)) (TP X pins σ Q) X.xe s
def yS:TT:=fun _ H Q=>Q true H
theorem yT {X:Cx}:PTs X [] yS:=fun _ _ _ H _ I h=>wpAny_tests_nil ⟨H,I,h⟩
theorem yU {X:Cx} {c:Expr} {t:TT} (h:PT X c t):PTs X [c] t:=fun pins s σ H Q I q=>wpAny_tests_one (h pins s σ H Q I q)
def yV (wi:TI) (js:List (Option Nat)) (g:Blk->TG) (tc:Blk->TT) (te:Blk->TE):TE:=fun σ H Q=>wi σ H fun J H1=>∀ (B:Blk) D,H1 D=none->∃ W:Nat->Nat->St->Hp->Prop,(∃ m,W 0 m (sub js σ) (upd H1 D (.lst []))) /\ ∀ i m σ' H',W i m σ' H' ->
 (J.stop i H' /\ Q (.ref D) H')∨(J.go i H' /\ ∃ N:St->Hp->Prop,(∀ σ2 H2,N σ2 H2->∃ m',m' < m /\ W (i + 1) m' σ2 H2) /\ ∀ y H2,J.yld i H' y H2->g B y σ' H2 fun σ3 H3=>tc B σ3 H3 fun b H4 =>
  if b=true then te B σ3 H4 fun v H5=>∃ ys,H5 D=some (.lst ys) /\ ys.length < sizeLine /\ N σ3 (upd H5 D (.lst (ys++[v]))) else N σ3 H4)
theorem pM {scope:Scope} {env:Env} {y:Str} (h:(relabel scope env).names.lookup y=some .cell∨(relabel scope env).names.lookup y=some .free):(y,NameKind.free)∈scope.names∨(y,NameKind.cell)∈scope.names:=by
 have key:∀ k,(y,k)∈(relabel scope env).names->(k = .cell∨k = .free)->(y,NameKind.free)∈scope.names∨(y,NameKind.cell)∈scope.names:=by
  intro k hm hk
  obtain ⟨⟨n,q⟩,hn,e⟩:=List.mem_map.mp hm
  dsimp only at e
  split at e
  ·rename_i c
   simp only [Bool.and_eq_true] at c
   have:q = .free:=eq_of_beq c.1.1
   subst this
   cases e
   exact .inl hn
  ·cases e
   rcases hk with rfl | rfl
   ·exact .inr hn
   ·exact .inl hn
 rcases h with h | h
 ·exact key _ (PySem.mem_of_lookup h) (.inl rfl)
 ·exact key _ (PySem.mem_of_lookup h) (.inr rfl)
theorem lN {scope:Scope} {env:Env} {y:Str} (h:scope.names.lookup y=some .free):(relabel scope env).names.lookup y=some .cell∨(relabel scope env).names.lookup y=some .free:=by
 show (List.lookup y (scope.names.map _))=_∨(List.lookup y (scope.names.map _))=_
 generalize scope.names=l at h
 induction l with
 | nil=>simp at h
 | cons a r ih =>
  obtain ⟨n,k⟩:=a
  rw [List.lookup_cons] at h
  rw [List.map_cons]
  cases e:y == n with
  | true =>
   rw [e] at h
   cases h
   dsimp only
   split
   ·left; rw [List.lookup_cons,e]
   ·right; rw [List.lookup_cons,e]
  | false =>
   rw [e] at h
   dsimp only
   split <;> (rw [List.lookup_cons,e]; exact ih h)
theorem cq:∀ (names:List (Str×NameKind)) (n:Nat) (acc:List (Str×Addr)),cellsFrom n names acc=cellsFrom n names []++acc
 | [],_,_=>rfl
 | (x,k)::r,n,acc=>by
  unfold cellsFrom
  split
  ·rw [cq r (n + 1) ((x,n)::acc),cq r (n + 1) [(x,n)],List.append_assoc]; rfl
  ·exact cq r n acc
theorem fA:∀ (names:List (Str×NameKind)) (n:Nat) (y:Str) (c:Addr),(y,c)∈cellsFrom n names []->(y,NameKind.cell)∈names
 | [],_,_,_,h=>(nomatch h)
 | (x,k)::r,n,y,c,h=>by
  unfold cellsFrom at h
  split at h
  ·rename_i hk
   rw [cq] at h
   rcases List.mem_append.mp h with h | h
   ·exact List.mem_cons_of_mem _ (fA r _ y c h)
   ·have e:=List.mem_singleton.mp h
    cases e
    rw [show k = .cell from eq_of_beq hk]
    exact List.mem_cons_self
  ·exact List.mem_cons_of_mem _ (fA r _ y c h)
theorem jg:∀ {l:List (Str×Addr)} {y:Str} {c:Addr},(y,c)∈l->∃ d,l.lookup y=some d
 | (x,k)::r,y,c,h=>by
  rw [List.lookup_cons]
  cases e:y == x with
  | true=>exact ⟨_,rfl⟩
  | false =>
   rcases List.mem_cons.mp h with h | h
   ·cases h; simp at e
   ·exact jg h
theorem fS:∀ (names:List (Str×NameKind)) (n:Nat) (y:Str),(y,NameKind.cell)∈names->∃ c,(y,c)∈cellsFrom n names []
 | (x,k)::r,n,y,h=>by
  unfold cellsFrom
  split
  ·rw [cq]
   rcases List.mem_cons.mp h with h | h
   ·cases h
    exact ⟨n,List.mem_append_right _ (List.mem_singleton.mpr rfl)⟩
   ·obtain ⟨c,q⟩:=fS r (n + 1) y h
    exact ⟨c,List.mem_append_left _ q⟩
  ·rename_i hk
   rcases List.mem_cons.mp h with h | h
   ·cases h; exact absurd rfl hk
   ·exact fS r n y h
theorem fJ {l r:List (Str×Addr)} {y:Str} {c:Addr} (h:(l++r).lookup y=some c):l.lookup y=some c∨(l.lookup y=none /\ r.lookup y=some c):=by
 rw [List.lookup_append] at h
 cases e:l.lookup y with
 | none=>rw [e] at h; exact .inr ⟨rfl,h⟩
 | some d=>rw [e] at h; exact .inl h
theorem lO {l r:List (Str×Addr)} {y:Str} {c:Addr} (h:l.lookup y=some c):(l++r).lookup y=some c:=by rw [List.lookup_append,h]; rfl
theorem lP {l r:List (Str×Addr)} {y:Str} (h:l.lookup y=none):(l++r).lookup y=r.lookup y:=by rw [List.lookup_append,h]; rfl
theorem kO {M:Model} {A:Around} {E:Value->Shared->Prop} {s:Shared} {scope:Scope} {globals:Addr} {cl:List (Str×Addr)} {qual:Str} {outer:Env} {Q:Env->Shared->Prop}
  (h:∀ h₁:Heap,h₁.Ns s.heap.objs.size (fun _=>none)->(∀ b o,s.heap.get? b=some o->h₁.get? b=some o)->CellsOk h₁ (s.heap.objs.size + 1) (cellsFrom (s.heap.objs.size + 1) scope.names []) ->
   Q (newEnv scope s.heap.objs.size globals (cellsFrom (s.heap.objs.size + 1) scope.names cl) qual none .none (some outer) builtinsNs) { s with heap:=h₁ }) :
  wpAny M A (newFunctionEnv scope globals cl [] qual none .none (some outer)) Q E s:=by
 simp only [newFunctionEnv,Option.isSome_some,if_true]
 refine wpAny_bind (wpAny_alloc ?_)
 refine wpAny_bind (wpAny_layCells _ (fun name kind cells=>by cases hkc:kind == NameKind.cell <;> simp [hkc]) _ _ _ _ ?_)
 have ok:=cellsFrom_ok scope.names (s.heap.push { cls:=.type "dict",data:=.dict #[] }) (s.heap.objs.size + 1) [] ⟨fun _ _ hm=>(nomatch hm),List.Pairwise.nil⟩ (by rw [Heap.size_push]; exact Nat.le_refl _)
 rw [Heap.size_push] at ok
 rw [show ({ s with heap:=s.heap.push { cls:=.type "dict",data:=.dict #[] } }:Shared).heap.objs.size=s.heap.objs.size + 1 from Heap.size_push ..]
 rw [List.forIn_nil]
 exact wpAny_bind (wpAny_pure (wpAny_pure (h _ ((Heap.Ns.new s.heap (.type "dict")).keeps (pushCells_keeps _ _)) (fun b o e=>pushCells_keeps _ _ b o (Heap.get?_push_of_some _ e)) ok)))
section
variable {X:Cx} {pins:List (Addr×Obj)} {σ:St} {H:Hp} {s:Shared} {scope:Scope} {cl:List (Str×Addr)} {N':List Str} {js:List (Option Nat)}
theorem wU {fp:List Addr} {h₁:Heap} (I:Inv X pins σ H s) (hclo:fj X.env.cells scope.names []=some cl) (hdis:∀ y∈scope.names,y.2 = .free->(y.1,NameKind.cell)∉scope.names) (hkind:scope.kind = .function) (cap:Cap X scope N' js)
  (hf:∀ b∈fp,FpOk X pins H b) (ho:∀ b∈fp,∃ o,s.heap.get? b=some o)
  (hns:h₁.Ns s.heap.objs.size (fun _=>none)) (hk:∀ b o,s.heap.get? b=some o->h₁.get? b=some o) (cok:CellsOk h₁ (s.heap.objs.size + 1) (cellsFrom (s.heap.objs.size + 1) scope.names [])) {t':Nat} :
  Inv (fk X scope (cellsFrom (s.heap.objs.size + 1) scope.names cl) s.heap.objs.size N' s H fp pins) [] (sub js σ) H { s with heap:=h₁,toks:=t' }:=by
 have sb:=jH hclo (fun y c e=>by simp at e)
 rw [cq]
 generalize hnw:cellsFrom (s.heap.objs.size + 1) scope.names []=nw at cok ⊢
 have nk:∀ y c,(y,c)∈nw->(y,NameKind.cell)∈scope.names:=fun y c h=>by rw [← hnw] at h; exact fA _ _ y c h
 have nh:∀ y,(y,NameKind.cell)∈scope.names->∃ c,nw.lookup y=some c:=fun y h=>by
  obtain ⟨c,q⟩:=fS scope.names (s.heap.objs.size + 1) y h
  rw [hnw] at q
  exact jg q
 have ng:∀ y c,nw.lookup y=some c->h₁.IsCell c none /\ s.heap.objs.size + 1 <= c:=fun y c h=>cok.empty y c (PySem.mem_of_lookup h)
 have old:∀ y c,cl.lookup y=some c->c < s.heap.objs.size:=fun y c h=>by
  obtain ⟨v,o,q1,q2⟩:=I.cell y c (sb y c h)
  exact Heap.lt_size q1
 have nf:∀ y,(y,NameKind.free)∈scope.names->nw.lookup y=none:=fun y h=>by
  cases e:nw.lookup y with
  | none=>rfl
  | some c=>exact absurd (nk y c (PySem.mem_of_lookup e)) (hdis _ h rfl)
 refine ⟨⟨I.ok.mod,hkind,I.ok.glob,I.ok.blt,Nat.le_refl _,fun y z c h1 h2=>?_,fun y hy=>?_,fun y c z h=>?_,I.ok.hd,I.ok.frames,.inl rfl,fun b hb=>⟨?_,fun y c h=>?_⟩,I.bs,Nat.le_trans I.ok.bsz I.sz,fun b o e hb=>?_,fun b hb=>?_,I.stack,I.stkFree⟩,
  rfl,I.bare,Un.kept hk,⟨_,hns,fun i y v h1 h2 h3=>?_⟩,fun y c h=>?_,I.hok.fresh (Nat.le_refl _),fun y c h=>?_,fun p hp=>?_,I.hok.kept hk,?_⟩
 ·rcases fJ h1 with a | ⟨_,a⟩ <;> rcases fJ h2 with b | ⟨_,b⟩
  ·exact name_of_addr cok.apart (PySem.mem_of_lookup a) (PySem.mem_of_lookup b)
  ·exact absurd (Nat.lt_of_lt_of_le (old z c b) (Nat.le_of_succ_le (ng y c a).2)) (Nat.lt_irrefl _)
  ·exact absurd (Nat.lt_of_lt_of_le (old y c a) (Nat.le_of_succ_le (ng z c b).2)) (Nat.lt_irrefl _)
  ·exact I.ok.inj y z c (sb y c a) (sb z c b)
 ·show ∃ c,(nw++cl).lookup y=some c
  rcases pM hy with q | q
  ·obtain ⟨c,e⟩:=ij hclo y (.inl q)
   exact ⟨c,by rw [lP (nf y q)]; exact e⟩
  ·obtain ⟨c,e⟩:=nh y q
   exact ⟨c,lO e⟩
 ·have z:(y,NameKind.cell)∈scope.names:=PySem.mem_of_lookup (eq_of_beq z)
  obtain ⟨d,e⟩:=nh y z
  have h:(nw++cl).lookup y=some c:=h
  rw [lO e] at h
  have h:d=c:=Option.some.inj h
  rw [← h]
  exact Nat.le_of_succ_le (ng y d e).2
 ·obtain ⟨o,e⟩:=ho b hb
  exact Nat.ne_of_lt (Heap.lt_size e)
 ·rcases fJ h with a | ⟨_,a⟩
  ·obtain ⟨o,e⟩:=ho b hb
   rintro rfl
   exact absurd (Nat.lt_of_lt_of_le (Heap.lt_size e) (Nat.le_of_succ_le (ng y c a).2)) (Nat.lt_irrefl _)
  ·exact (hf b hb).2.2.2.2.1 y c (sb y c a)
 ·have fb:=hf b hb
  rcases fb.2.2.2.1 with z | z
  ·exact I.ok.noex b o e z
  ·have h1:b < X.base.objs.size:=Heap.lt_size e
   exact absurd (Nat.lt_of_lt_of_le h1 (Nat.le_trans I.ok.bsz z)) (Nat.lt_irrefl _)
 ·intro z
  have:=I.stkSub b z
  rcases List.mem_cons.mp this with z | z
  ·exact (hf b hb).2.1 z
  ·exact (hf b hb).2.2.1 z
 ·obtain ⟨j,k1,k2,k3,k4⟩:=cap.at h1 h2
  obtain ⟨m,hm,hl⟩:=I.loc
  have vis:Vis X.env.scope y:=by
   rcases k3 with k | k
   ·exact .inr (.inl k)
   ·exact .inr (.inr k)
  obtain ⟨u,r,lk⟩:=hl j y v k1 k2 vis
  refine ⟨u,r,.inr ⟨lN k4,?_⟩⟩
  have q4:(y,NameKind.free)∈scope.names:=PySem.mem_of_lookup k4
  rcases lk with ⟨k5,_⟩ | ⟨_,c,e1,e2⟩
  ·rcases k3 with k | k <;> (rw [k] at k5; cases k5)
  ·obtain ⟨c',e3⟩:=ij hclo y (.inl q4)
   have:=sb y c' e3
   rw [e1] at this
   cases this
   refine ⟨c,by show (nw++cl).lookup y=some c; rw [lP (nf y q4)]; exact e3,?_⟩
   obtain ⟨o,q1,q2⟩:=e2
   exact ⟨o,hk _ _ q1,q2⟩
 ·rcases fJ h with a | ⟨_,a⟩
  ·exact ⟨_,(ng y c a).1⟩
  ·obtain ⟨v,o,q1,q2⟩:=I.cell y c (sb y c a)
   exact ⟨v,o,hk _ _ q1,q2⟩
 ·rcases fJ h with a | ⟨_,a⟩
  ·exact I.hok.fresh (Nat.le_of_succ_le (ng y c a).2)
  ·exact I.freeC y c (sb y c a)
 ·have hp:p∈X.pn++pins:=by simpa [fk] using hp
  obtain ⟨q1,q2,q3,q4,q5⟩:=I.pin p hp
  refine ⟨hk _ _ q1,q2,Nat.ne_of_lt (Heap.lt_size q1),fun z=>?_,q5⟩
  have:=I.stkSub p.1 z
  rcases List.mem_cons.mp this with z | z
  ·exact q3 z
  ·exact q4 z
 ·simp [sub,cap.len]; rfl
theorem Bk {fs ex:List Addr} {H:Hp} {h h':Heap} {C:Addr} (hC:C∈ex) (hs:Heap.SameBut C h h'):Un fs ex H H h h' where
 keep:=fun b o e _ _ nx=>by rw [hs.2 b (by rintro rfl; exact nx hC)]; exact e
 slot:=fun b o e _ _ nx=>⟨o.slots,by rw [hs.2 b (by rintro rfl; exact nx hC)]; exact e⟩
 free:=fun b o _ n _=>n
 there:=fun b o e nx=>⟨o,by rw [hs.2 b (by rintro rfl; exact nx hC)]; exact e⟩
 tups:=fun _ _ h=>h
 frzs:=fun _ _ _ h=>h
 tbls:=fun b ps h=>⟨#[],by simpa using h⟩
theorem Inv.but {C:Addr} {h':Heap} (I:Inv X pins σ H s) (f:FpOk X pins H C) (hs:Heap.SameBut C s.heap h'):Inv X pins σ H { s with heap:=h' }:=by
 refine I.call' (s':={ s with heap:=h' }) (ch:=[C]) rfl (Bk List.mem_cons_self hs) ?_ I.bare (fun b hb=>?_)
 ·intro a o e
  refine ObjOk.stay (I.hok a o e) (fun b u hb q=>?_) (fun _ h=>h) (fun _ _ h=>h)
  show h'.get? b=some u
  rw [hs.2 b]
  ·exact q
  ·rintro rfl
   rcases hb with rfl | hb
   ·rw [f.1] at e; cases e
   ·rw [f.1] at hb; cases hb
 ·have:b=C:=by simpa using hb
  subst this
  exact ⟨f.2.2.2.1,f.2.1,f.2.2.2.2.1,f.2.2.2.2.2⟩
variable {elt iter:Expr} {x:Str} {px pos:Pos} {ifs:List Expr} {wi:TI} {g:TG} {tc:TT} {te:TE} {Q:VK} {gB:Blk->TG} {tcB:Blk->TT} {teB:Blk->TE}
theorem vh {prog:Program} {w:World} {A:Around} {R:Result->Shared->Prop} {e tg it0:Expr} {cs:List Expr} {sc:Scope} {ps:Pos} {itv av:Value} {cenv:Env} {z:Shared} (J:Nat->Shared->Prop)
  (turn:∀ k z,J k z->wpAny (model prog w) A (pyNext itv) (fun r z1=>match r with
   | none=>R (.ok .next) z1
   | some u=>wpAny (model prog w) A (letOwnedTupleGo tg itv u) (fun _ z2=>wpAny (model prog w) A (assign tg cenv u) (fun _ z3 =>
     wpAny (model prog w) A (forIn cs true fun c r=>if r=true then do let ok ← isTrue c cenv (eval c cenv); pure (ForInStep.yield ok) else pure (ForInStep.yield r)) (fun b z4 =>
      if b=true then wpAny (model prog w) A (eval e cenv) (fun y z5 =>
       wpAny (model prog w) A (call (.builtin "list.append") [av,y]) (fun _ z6=>∃ m,m < k /\ J m z6) (fun _ _=>False) z5) (fun _ _=>False) z4
      else ∃ m,m < k /\ J m z4) (fun _ _=>False) z3) (fun _ _=>False) z2) (fun _ _=>False) z1) (fun _ _=>False) z)
  (k:Nat) (h:J k z):codeAny (model prog w) A (.compLoop (.ListComp e [⟨tg,it0,cs,0⟩] sc ps) 0 itv av cenv) R z:=by
 have no:∀ {α:Type} {m:Sem α} {P:α->Shared->Prop} {E:Value->Shared->Prop} {z:Shared},wpAny (model prog w) A m P (fun _ _=>False) z->wpAny (model prog w) A m P E z:=fun h=>wpAny_mono h (fun _ _ q=>q) fun _ _ q=>q.elim
 refine codeAny_loop rfl J (fun k z hJ=>?_) k h
 show wpAny _ A ((compTurn (.ListComp e [⟨tg,it0,cs,0⟩] sc ps) 0 itv av cenv).onRaise (fun x=>do noteFrame x cenv; theTreesLotGoes x)) _ _ z
 refine wpAny_noted ?_
 rw [compTurn_list]
 refine wpAny_bind (wpAny_standAt (wpAny_bind (no (thn (turn k z hJ) fun r z1 q1=>?_))))
 cases r with
 | none=>exact wpAny_pure q1
 | some u =>
  refine wpAny_bind (no (thn q1 fun _ z2 q2=>wpAny_bind (no (thn q2 fun _ z3 q3=>wpAny_bind (no (thn q3 fun b z4 q4=>?_))))))
  cases b with
  | false=>exact wpAny_pure ⟨rfl,q4⟩
  | true=>exact wpAny_bind (wpAny_bind (no (thn q4 fun y z5 q5=>wpAny_bind (no (thn q5 fun _ z6 q6=>wpAny_pure (wpAny_pure ⟨rfl,q6⟩))))))
theorem tW {RR:Value->Addr->Result->Shared->Prop} {s3:Shared} {H3:Hp} {D it:Addr} {fp:List Addr} {tn:Nat->Heap->Prop} {J:It} {W:Nat->Nat->St->Hp->Prop} {m0 t':Nat} {h₁:Heap} {tg:Expr}
  (hc:X.calm=true) (hclo:fj X.env.cells scope.names []=some cl) (hdis:∀ y∈scope.names,y.2 = .free->(y.1,NameKind.cell)∉scope.names) (hkind:scope.kind = .function) (cap:Cap X scope N' js)
  (hb:PG (fk X scope (cellsFrom (s3.heap.objs.size + 1) scope.names cl) s3.heap.objs.size N' s3 H3 fp pins) tg g /\ PTs (fk X scope (cellsFrom (s3.heap.objs.size + 1) scope.names cl) s3.heap.objs.size N' s3 H3 fp pins) ifs tc /\ PE (fk X scope (cellsFrom (s3.heap.objs.size + 1) scope.names cl) s3.heap.objs.size N' s3 H3 fp pins) elt te)
  (I3:Inv X pins σ H3 s3) (T:Turn X.prog X.w X.K tg J fp it tn) (st3:tn 0 s3.heap) (f3:∀ b∈fp,FpOk X pins H3 b) (w0:W 0 m0 (sub js σ) H3)
  (turn:∀ i m σ' H',W i m σ' H'->(J.stop i H' /\ Q (.ref D) H')∨(J.go i H' /\ ∃ N:St->Hp->Prop,(∀ σ2 H2,N σ2 H2->∃ m',m' < m /\ W (i + 1) m' σ2 H2) /\ ∀ y H2,J.yld i H' y H2->g y σ' H2 fun σ3 H3=>tc σ3 H3 fun b H4 =>
   if b=true then te σ3 H4 fun v H5=>∃ ys,H5 D=some (.lst ys) /\ ys.length < sizeLine /\ N σ3 (upd H5 D (.lst (ys++[v]))) else N σ3 H4))
  (hns:h₁.Ns s3.heap.objs.size (fun _=>none)) (hk:∀ b o,s3.heap.get? b=some o->h₁.get? b=some o) (cok:CellsOk h₁ (s3.heap.objs.size + 1) (cellsFrom (s3.heap.objs.size + 1) scope.names []))
  (hR:∀ s' H' m,Inv X pins σ H' s'->FpOk X pins H' s3.heap.objs.size->s'.heap.Ns s3.heap.objs.size m->Q (.ref D) H'->RR (.ref D) s3.heap.objs.size (.ok .next) s') :
  codeAny (model X.prog X.w) X.A (.compStart (.ListComp elt [⟨tg,iter,ifs,0⟩] scope pos) 0 (.ref it) (.ref D) (compEnvC scope (cellsFrom (s3.heap.objs.size + 1) scope.names cl) s3.heap.objs.size X.env)) (RR (.ref D) s3.heap.objs.size) { s3 with heap:=h₁,toks:=t' }:=by
 have ob3:∀ b∈fp,∃ o,s3.heap.get? b=some o:=fun b hb=>let ⟨o,e,_⟩:=T.obj _ _ st3 b hb; ⟨o,e⟩
 have I0:Inv (fk X scope (cellsFrom (s3.heap.objs.size + 1) scope.names cl) s3.heap.objs.size N' s3 H3 fp pins) [] (sub js σ) H3 { s3 with heap:=h₁,toks:=t' }:=wU I3 hclo hdis hkind cap f3 ob3 hns hk cok
 have tn0:tn 0 h₁:=T.keep _ _ _ st3 fun b _ o e=>hk b o e
 have hC:FpOk X pins H3 s3.heap.objs.size:=I3.fpOk (Nat.le_refl _) (I3.hok.fresh (Nat.le_refl _))
 obtain ⟨bg,bt,be⟩:=hb
 have stat:∀ {H':Hp},(∀ b∈fp,H' b=none)->∀ b∈fp,FpOk (fk X scope (cellsFrom (s3.heap.objs.size + 1) scope.names cl) s3.heap.objs.size N' s3 H3 fp pins) [] H' b:=fun {H'} hn b hb=>by
  obtain ⟨o,e⟩:=ob3 b hb
  refine ⟨hn b hb,Nat.ne_of_lt (Heap.lt_size e),I0.ok.exfs b hb,.inl hb,fun y c h=>(I0.ok.exf b hb).2 y c h,fun p hp=>?_⟩
  exact (f3 b hb).2.2.2.2.2 p (by simpa [fk] using hp)
 have loop:codeAny (model X.prog X.w) X.A (.compLoop (.ListComp elt [⟨tg,iter,ifs,0⟩] scope pos) 0 (.ref it) (.ref D) (compEnvC scope (cellsFrom (s3.heap.objs.size + 1) scope.names cl) s3.heap.objs.size X.env)) (RR (.ref D) s3.heap.objs.size) { s3 with heap:=h₁,toks:=t' }:=by
  refine vh (fun n s'=>∃ i σ' H',Inv (fk X scope (cellsFrom (s3.heap.objs.size + 1) scope.names cl) s3.heap.objs.size N' s3 H3 fp pins) [] σ' H' s' /\ tn i s'.heap /\ (∀ b∈fp,H' b=none) /\ W i n σ' H') (fun n s4 hJ=>?_) m0 ⟨0,sub js σ,H3,I0,tn0,fun b hb=>(f3 b hb).1,w0⟩
  obtain ⟨i,σ4,H4,I4,st4,fr4,w4⟩:=hJ
  rcases turn i n σ4 H4 w4 with ⟨stop,q⟩ | ⟨go,N,hN,step⟩
  ·refine thn (T.done (fk X scope (cellsFrom (s3.heap.objs.size + 1) scope.names cl) s3.heap.objs.size N' s3 H3 fp pins) rfl rfl rfl hc i [] s4 σ4 H4 _ I4 (stat fr4) st4 stop) fun r s5 ⟨hr,I5⟩=>?_
   subst hr
   have u:Un (frs X.stack) fp H3 H4 s3.heap s5.heap:=I5.base
   have free:H4 s3.heap.objs.size=none:=I5.free
   have back:Inv X pins σ H4 s5:=by
    refine I3.call' (s':=s5) (ch:=s3.heap.objs.size::fp) I5.os (u.mono (fun _ h=>h) fun b h=>List.mem_cons_of_mem _ h) I5.hok I5.bare (fun b hb=>?_)
    rcases List.mem_cons.mp hb with rfl | hb
    ·exact ⟨hC.2.2.2.1,hC.2.1,hC.2.2.2.2.1,hC.2.2.2.2.2⟩
    ·have:=f3 b hb
     exact ⟨this.2.2.2.1,this.2.1,this.2.2.2.2.1,this.2.2.2.2.2⟩
   obtain ⟨m,hm,_⟩:=I5.loc
   exact hR s5 H4 m back ⟨free,hC.2⟩ hm q
  ·refine thn (T.item (fk X scope (cellsFrom (s3.heap.objs.size + 1) scope.names cl) s3.heap.objs.size N' s3 H3 fp pins) rfl rfl rfl hc i [] s4 σ4 H4 _ I4 (stat fr4) st4 go) fun r s5 ⟨u,hr,h5⟩=>?_
   subst hr
   refine thn h5 fun _ s6 ⟨y,H6,I6,r6,y6,st6,fr6⟩=>?_
   have I6':=I6.pinned (stat fr6) (T.obj _ _ st6)
   refine thn (bg _ s6 σ4 H6 y u _ I6' r6 (step y H6 y6)) fun _ s7 ⟨σ7,H7,I7,q7⟩=>?_
   refine thn (bt _ s7 σ7 H7 _ I7 q7) fun b s8 ⟨H8,I8,q8⟩=>?_
   have again:∀ {H':Hp} {s':Shared},Inv (fk X scope (cellsFrom (s3.heap.objs.size + 1) scope.names cl) s3.heap.objs.size N' s3 H3 fp pins) ([]++oZ fp s6.heap) σ7 H' s'->N σ7 H'->∃ m,m < n /\ ∃ i σ' H',Inv (fk X scope (cellsFrom (s3.heap.objs.size + 1) scope.names cl) s3.heap.objs.size N' s3 H3 fp pins) [] σ' H' s' /\ tn i s'.heap /\ (∀ b∈fp,H' b=none) /\ W i m σ' H':=fun {H' s'} I9 n9=>by
    obtain ⟨m',hm,w9⟩:=hN σ7 H' n9
    refine ⟨m',hm,i + 1,σ7,H',I9.unpinned,T.keep _ _ _ st6 fun b hb o e=>(I9.pin (b,o) (List.mem_append_right _ (List.mem_append_right _ (ie hb e)))).1,fun b hb=>?_,w9⟩
    obtain ⟨o,e,d⟩:=T.obj _ _ st6 b hb
    exact (I9.pin (b,o) (List.mem_append_right _ (List.mem_append_right _ (ie hb e)))).2.1
   cases b with
   | false=>exact iteF (again I8 q8)
   | true =>
    refine iteT (thn (be _ s8 σ7 H8 _ I8 q8) fun yv s9 ⟨v9,H9,I9,r9,ys,hD,hl,n9⟩=>?_)
    exact thn (pD _ s9 σ7 H9 (.ref D) [v9] (.ref D) [yv] (fun _ H'=>H'=upd H9 D (.lst (ys++[v9]))) I9 rfl (.cons r9 .nil) ⟨D,ys,v9,rfl,rfl,hD,hl,rfl⟩) fun _ s10 ⟨_,H10,I10,_,e10⟩=>by
     subst e10
     exact again I10 n9
 exact codeAny_compStart_list loop (T.self _ 0 _ _ _ tn0 loop)
theorem sA {RR:Value->Addr->Result->Shared->Prop} {tg:Expr} (hc:X.calm=true) (hclo:fj X.env.cells scope.names []=some cl) (hdis:∀ y∈scope.names,y.2 = .free->(y.1,NameKind.cell)∉scope.names) (hkind:scope.kind = .function) (cap:Cap X scope N' js)
  (hi:PI X tg iter wi)
  (hb:∀ B:Blk,PG (cxB X scope cl N' B) tg (gB B) /\ PTs (cxB X scope cl N' B) ifs (tcB B) /\ PE (cxB X scope cl N' B) elt (teB B))
  (I:Inv X pins σ H s) (h:yV wi js gB tcB teB σ H Q)
  (hR:∀ D C s' H' m,Inv X pins σ H' s'->FpOk X pins H' C->s'.heap.Ns C m->Q (.ref D) H'->RR (.ref D) C (.ok .next) s') :
  wpAny (model X.prog X.w) X.A (eval iter X.env) (fun v s1=>wpAny (model X.prog X.w) X.A (pyIter v) (fun it s2=>wpAny (model X.prog X.w) X.A (newList []) (fun acc s3 =>
   wpAny (model X.prog X.w) X.A (newFunctionEnv scope X.env.globals cl [] X.env.qual none .none (some X.env)) (fun cenv s4 =>
    codeAny (model X.prog X.w) X.A (.compStart (.ListComp elt [⟨tg,iter,ifs,0⟩] scope pos) 0 it acc { cenv with scope:=relabel scope X.env }) (RR acc cenv.locals) s4) X.xe s3) X.xe s2) X.xe s1) X.xe s:=by
 refine thn (hi pins s σ H _ I h) fun v s1 h1=>thn h1 fun itv s2 h2=>?_
 obtain ⟨it,fp,tn,J,H2,e,I2,T,st2,f2,h2⟩:=h2
 subst e
 have hD0:H2 s2.heap.objs.size=none:=I2.hok.fresh (Nat.le_refl _)
 obtain ⟨W,⟨m0,w0⟩,turn⟩:=h2 ⟨(s2.heap.push { cls:=.type "list",data:=.seq ([]:List Value).toArray }).objs.size,{ s2 with heap:=s2.heap.push { cls:=.type "list",data:=.seq ([]:List Value).toArray } },upd H2 s2.heap.objs.size (.lst []),fp,pins⟩ s2.heap.objs.size hD0
 refine wpAny_newObj_type (kO (fun h₁ hns₁ hk₁ cok₁=>?_))
 have I3:Inv X pins σ (upd H2 s2.heap.objs.size (.lst [])) { s2 with heap:=s2.heap.push { cls:=.type "list",data:=.seq ([]:List Value).toArray } }:=I2.lnew .nil (Nat.zero_le _)
 refine tW (s3:={ s2 with heap:=s2.heap.push { cls:=.type "list",data:=.seq ([]:List Value).toArray } }) (cl:=cl) (fp:=fp) hc hclo hdis hkind cap (hb ⟨(s2.heap.push { cls:=.type "list",data:=.seq ([]:List Value).toArray }).objs.size,{ s2 with heap:=s2.heap.push { cls:=.type "list",data:=.seq ([]:List Value).toArray } },upd H2 s2.heap.objs.size (.lst []),fp,pins⟩) I3 T ?_ (fun b hb=>?_) w0 turn hns₁ hk₁ cok₁ (fun s' H' m=>hR _ _ s' H' m)
 ·exact T.keep _ _ _ st2 fun b _ o e=>Heap.get?_push_of_some _ e
 ·have:=f2 b hb
  obtain ⟨o,e,_⟩:=T.obj _ _ st2 b hb
  exact ⟨by show upd H2 s2.heap.objs.size (.lst []) b=none; rw [ar (Nat.ne_of_lt (Heap.lt_size e))]; exact this.1,this.2⟩
theorem yW {tg:Expr} (hc:X.calm=true) (hclo:fj X.env.cells scope.names []=some cl) (hdis:∀ y∈scope.names,y.2 = .free->(y.1,NameKind.cell)∉scope.names) (hkind:scope.kind = .function) (cap:Cap X scope N' js)
  (hnames:∀ y∈scope.names,y.2 = .local->scope.names.lookup y.1=some .local) (hi:PI X tg iter wi)
  (hb:∀ B:Blk,PG (cxB X scope cl N' B) tg (gB B) /\ PTs (cxB X scope cl N' B) ifs (tcB B) /\ PE (cxB X scope cl N' B) elt (teB B))
  (hs:∀ v,foldedSetIterable iter X.env v=pure v:=by intro _; rfl):PE X (.ListComp elt [⟨tg,iter,ifs,0⟩] scope pos) (yV wi js gB tcB teB):=by
 intro pins s σ H Q I h
 rw [eval_ListComp]
 refine wpAny_comprehension_free (use:=none) rfl hs (jf hclo) hkind hnames (sA (RR:=fun acc C=>compPost (model X.prog X.w) X.A X.xe none (EP X pins σ Q) acc C) hc hclo hdis hkind cap hi hb I h ?_)
 intro D C s' H' m I' f hm q
 exact ⟨m,hm,fun h' hs'=>⟨.ref D,H',I'.but f hs',rfl,q⟩⟩
theorem yX {tg:Expr} {i:Nat} {y:Str} {py spos:Pos} (hN:X.N.Nodup) (hy:X.N[i]? = some y) (hl:X.env.scope.names.lookup y=some .local) (hc:X.calm=true) (hclo:fj X.env.cells scope.names []=some cl) (hdis:∀ y∈scope.names,y.2 = .free->(y.1,NameKind.cell)∉scope.names) (hkind:scope.kind = .function) (cap:Cap X scope N' js)
  (hnames:∀ y∈scope.names,y.2 = .local->scope.names.lookup y.1=some .local) (hi:PI X tg iter wi)
  (hb:∀ B:Blk,PG (cxB X scope cl N' B) tg (gB B) /\ PTs (cxB X scope cl N' B) ifs (tcB B) /\ PE (cxB X scope cl N' B) elt (teB B))
  (hsw:swapsWith (.ListComp elt [⟨tg,iter,ifs,0⟩] scope pos) (some (.Name y py)) spos.line X.env=pure true:=by rfl)
  (hs:∀ v,foldedSetIterable iter X.env v=pure v:=by intro _; rfl):PS X (.Assign [.Name y py] (.ListComp elt [⟨tg,iter,ifs,0⟩] scope pos) spos) (tAsg (yV wi js gB tcB teB) (uF i)):=by
 intro pins s σ H D I h
 rw [exec_Assign_Name_used _ _ _ _ hsw]
 refine wpAny_bind (wpAny_standAt (wpAny_bind ?_))
 show wpAny _ X.A (do let _ ← comprehension (.ListComp elt [⟨tg,iter,ifs,0⟩] scope pos) scope X.env _ (newList []) false (eval iter X.env) (some (assign (.Name y py) X.env))) _ _ s
 refine wpAny_bind (thn (wpAny_comprehension_free (use:=some (assign (.Name y py) X.env)) (Q:=fun _ s'=>SP X pins D .next s') rfl hs (jf hclo) hkind hnames
  (sA (RR:=fun acc C=>compPost (model X.prog X.w) X.A X.xe (some (assign (.Name y py) X.env)) (fun _ s'=>SP X pins D .next s') acc C) hc hclo hdis hkind cap hi hb I h ?_)) fun _ s' q=>wpAny_pure (wpAny_pure q))
 intro Dl C s' H' m I' f hm q
 show wpAny _ X.A (assign (.Name y py) X.env (.ref Dl)) _ _ _
 refine wpAny_assign_Name (oV I' hN hy (.inl hl) (v:=.ref Dl) rfl (fun s2 I2 hch=>?_) (.inr hl))
 obtain ⟨a,hsb,ha⟩:=hch
 have hCa:C≠a:=by
  rcases ha with rfl | ha
  ·exact f.2.1
  ·exact fun z=>f.2.2.2.2.1 y a ha z.symm
 refine ⟨m,hm.sameBut hsb hCa,fun h' hs'=>⟨_,H',I2.but f hs',q⟩⟩
end
end L2
namespace L2
open PySem PySem.Spec PyProof.Rows
def DictAt (e:Addr) (dd:Option Addr) (h:Heap):Prop:=∃ o,h.get? e=some o /\ o.dict=dd
theorem DictAt.push {e:Addr} {dd:Option Addr} {h:Heap} {o:Obj} (x:DictAt e dd h):DictAt e dd (h.push o):=let ⟨u,a,b⟩:=x; ⟨u,Heap.get?_push_of_some _ a,b⟩
theorem DictAt.upd {e a:Addr} {dd:Option Addr} {h:Heap} {f:Obj->Obj} (x:DictAt e dd h) (hf:∀ o,(f o).dict=o.dict /\ (f o).isFreed=o.isFreed):DictAt e dd (h.update a f):=by
 obtain ⟨u,q,b⟩:=x
 by_cases z:a=e
 ·subst z
  exact ⟨f u,Heap.get?_update_self f q (by rw [(hf u).2]; exact (Heap.get?_some_iff.mp q).2),by rw [(hf u).1]; exact b⟩
 ·exact ⟨u,by rw [Heap.get?_update_other _ _ z]; exact q,b⟩
section
end
end L2
namespace L2
open PySem PySem.Spec PyProof.Rows
section
variable {P:Program} {w:World} {H:Hp} {h:Heap} {a:Addr} {o:HO}
theorem ObjOk.there (x:ObjOk P w H h a o):∃ u,h.get? a=some u:=by
 cases o with
 | lst xs=>obtain ⟨_,_,_,_,e⟩:=x; exact ⟨_,e⟩
 | tup xs=>obtain ⟨_,_,_,_,e,_⟩:=x; exact ⟨_,e⟩
 | dK kvs=>obtain ⟨_,_,_,_,o,_,_,e,_⟩:=x; exact ⟨_,e⟩
 | dT kvs=>obtain ⟨_,_,_,_,o,_,_,e,_⟩:=x; exact ⟨_,e⟩
 | set S n=>obtain ⟨o,_,_,_,e,_⟩:=x; exact ⟨_,e⟩
 | ins C dx fs=>obtain ⟨_,_,_,e,_⟩:=x; exact ⟨_,e⟩
 | own y=>exact x
 | xd fs=>obtain ⟨_,⟨_,_,_,e,_⟩,_⟩:=x; exact ⟨_,e⟩
 | rng lo hi=>obtain ⟨_,_,_,e⟩:=x; exact ⟨_,e⟩
 | frz ob u=>obtain ⟨e,_⟩:=x; exact ⟨_,e⟩
 | tbl ps=>exact ⟨_,show h.get? a=some _ from x⟩
 | met f y=>exact ⟨_,show h.get? a=some _ from x⟩
 | ext φ=>exact x.2.1
end
structure Cry (X:Cx) (H:Hp) (B:Heap):Prop where
 old:∀ b o,X.s₀.heap.get? b=some o->b∉X.fs->b∉X.ex->∃ o',B.get? b=some o'
 trk:∀ b o,H b=some o->∃ o',B.get? b=some o'
 pin:∀ p∈X.pn,∃ o',B.get? p.1=some o'
section
variable {X:Cx} {pins:List (Addr×Obj)} {σ:St} {H H':Hp} {s s':Shared} {B h':Heap}
end
def Ph (B:Heap) (l:List Env) (L ea C:Addr) (h:Heap):Prop :=
 (∃ a0,Heap.FlyingW B l ea (.ref C) a0 h)∨(∃ a0,Heap.HeldW B l ea (.ref C) a0 L h) ∨
 (B.StaysIn h /\ B.get? ea=none /\ h.FunFrames B l /\ ∃ oe vs a0,h.get? ea=some oe /\ oe.cls = .ref C /\ oe.data = .fields vs /\ vs[1]? = some .none /\ vs[0]? = some a0)
theorem Ph.stays {B h:Heap} {l:List Env} {L ea C:Addr} (x:Ph B l L ea C h):B.StaysIn h:=by
 rcases x with ⟨_,x⟩ | ⟨_,x⟩ | x
 ·exact x.1
 ·exact x.1
 ·exact x.1
theorem Ph.new {B h:Heap} {l:List Env} {L ea C:Addr} (x:Ph B l L ea C h):B.get? ea=none:=by
 rcases x with ⟨_,x⟩ | ⟨_,x⟩ | x
 ·exact x.2.1
 ·exact x.2.1
 ·exact x.2.1
theorem Ph.frames {B h:Heap} {l:List Env} {L ea C:Addr} (x:Ph B l L ea C h):h.FunFrames B l:=by
 rcases x with ⟨_,x⟩ | ⟨_,x⟩ | x
 ·exact x.2.2.1
 ·exact x.2.2.1
 ·exact x.2.2.1
def XF (X:Cx) (W:St->XK) (e:Value) (s':Shared):Prop :=
 ∃ ea C dd B σ H,e = .ref ea /\ (Ph B X.stack X.env.locals ea C s'.heap /\ DictAt ea dd s'.heap) /\ Cry X H B /\ Inv X [] σ H s' /\ W σ (.ref C) dd H
def CXE (P:Program) (w:World):CXT:=fun outer H s E e s' =>
 ∃ ea C dd B H' a0,e = .ref ea /\ (Heap.FlyingW B outer ea (.ref C) a0 s'.heap /\ DictAt ea dd s'.heap) /\ Un (frs outer) [] H H' s.heap s'.heap /\ HOk P w H' s'.heap /\
  (∀ b o,s.heap.get? b=some o->b∉frs outer->∃ o',B.get? b=some o') /\ (∀ b o,H' b=some o->∃ o',B.get? b=some o') /\ s'.os=s.os /\ AllBare s'.gens /\ E (.ref C) dd H'
section
variable {X:Cx} {pins:List (Addr×Obj)} {σ:St} {H H':Hp} {s s':Shared} {B h':Heap} {W:St->XK} {e:Value}
theorem XF.mono {W':St->XK} (x:XF X W e s') (k:∀ σ C dd H,W σ C dd H->W' σ C dd H):XF X W' e s' :=
 let ⟨ea,C,dd,B,σ,H,a,b,c,d,f⟩:=x; ⟨ea,C,dd,B,σ,H,a,b,c,d,k _ _ _ _ f⟩
end
end L2
namespace L2
open PySem PySem.Spec PyProof.Rows
section
variable {X:Cx} {pins:List (Addr×Obj)} {σ:St} {H H':Hp} {s s':Shared} {B h':Heap} {W:St->XK} {e:Value}
end
section
variable {X:Cx} {k:Nat} {f C:Addr} {fd:FuncData} {ps:List Str} {sp:Sp} {dvs:List V} {ds:List Value} {W:St->XK} {x m:Str} {p pos apos:Pos} {e o:Expr} {es:List Expr} {ta:TE} {t:TA}
end
structure Exc (K:PySem.W.Frag) (C:Addr):Prop where
 q:PySem.W.excIn K C [.type "ValueError",.type "Exception",.type "BaseException",.type "object"] "ValueError.__new__" = true
section
variable {X:Cx} {W:St->XK} {C:Addr} {x:Str} {np cpos pos:Pos} {e:Expr} {es:List Expr} {t:TA}
end
end L2
namespace L2
open PySem PySem.Spec PyProof.Rows
abbrev Cx.pinned (X:Cx) (l:List (Addr×Obj)):Cx:={ X with pn:=l }
def excA (C:Addr) (dd:Option Addr) (ea:Addr):HO:=.ext fun h=>∃ o,h.get? ea=some o /\ o.cls = .ref C /\ o.dict=dd /\ ∃ vs,o.data = .fields vs
abbrev excO (C ea:Addr):HO:=excA C none ea
section
variable {X:Cx} {pins:List (Addr×Obj)} {σ:St} {H H':Hp} {s s':Shared} {B h':Heap} {W:St->XK} {e:Value}
theorem Cx.Ok.pinned {l:List (Addr×Obj)} (ok:X.Ok):(X.pinned l).Ok :=
 ⟨ok.mod,ok.kind,ok.glob,ok.blt,ok.above,ok.inj,ok.has,ok.cab,ok.hd,ok.frames,ok.stk,ok.exf,ok.bs,ok.bsz,ok.noex,ok.exfs,ok.funs,ok.frf⟩
theorem Cx.Ok.unpinned {l:List (Addr×Obj)} (ok:(X.pinned l).Ok):X.Ok :=
 ⟨ok.mod,ok.kind,ok.glob,ok.blt,ok.above,ok.inj,ok.has,ok.cab,ok.hd,ok.frames,ok.stk,ok.exf,ok.bs,ok.bsz,ok.noex,ok.exfs,ok.funs,ok.frf⟩
end
section
variable {X:Cx} {body suite:List Stmt} {b0:Stmt} {n x:Str} {np hpos pos:Pos} {C0:Addr} {i:Nat} {Wo:St->XK}
end
end L2
namespace L2
open PySem PySem.Spec PyProof.Rows
open PySem.W (Looks)
structure ExK (K:PySem.W.Frag) (D:Addr):Prop where
 ga:PySem.W.findIn K (.ref D) "__getattribute__" = some (some (.builtin "BaseException.__getattribute__"))
 gt:PySem.W.findIn K (.ref D) "__getattr__" = some none
 sub:PySem.W.subIn K (.ref D) (.type "BaseException")=some true
 ha:PySem.W.findIn K (.ref D) "__class__" = some (some (.builtin "object.__class__"))
 hn:PySem.W.specialIn K (.builtin "object.__class__") "__get__" = some (some (.builtin "getset_descriptor.__get__"))
 htk:PySem.W.takesIn K (.builtin "object.__class__")=some true
 mro:PySem.W.mroIn K D (.type "object")=some true
 cls:(PySem.W.clsIn K D).isSome=true
def IsOf (x D:Addr) (h:Heap):Prop:=∃ o,h.get? x=some o /\ o.cls = .ref D
theorem IsOf.type {x D:Addr} {h:Heap} {M:Model} (I:IsOf x D h):Looks M h (typeOf (.ref x)) (.ref D):=by
 obtain ⟨o,e,c⟩:=I
 exact c ▸ (PySem.W.Looks.ld e).andThen .now
section
variable {prog:Program} {w:World} {A:Around} {E:Value->Shared->Prop} {s:Shared} {K:PySem.W.Frag} {x D:Addr}
open PySem.W PySem.Calls Builtin Builtin.ObjectAttr Builtin.Getset_descriptor in
end
end L2
namespace L2
open PySem PySem.Spec PyProof.Rows
open PySem.W (Looks)
def vj:List Value->Bool
 | .ref _::r=>vj r
 | l=>l == [.type "ValueError",.type "Exception",.type "BaseException",.type "object"]
def yY (K:PySem.W.Frag) (C:Addr):Bool:=(PySem.W.clsIn K C).any fun cd=>vj cd.mro
section
variable {prog:Program} {w:World} {A:Around} {E:Value->Shared->Prop} {s:Shared} {K:PySem.W.Frag} {x dx C:Addr} {mA:Str->Option Value} {name:Str} {v:Value}
open PySem.W in
end
structure ExA (K:PySem.W.Frag) (C:Addr):Prop extends ExK K C where
 sa:PySem.W.findIn K (.ref C) "__setattr__" = some (some (.builtin "object.__setattr__"))
 ov:yY K C=true
 hd:PySem.W.hasDictIn K C=true
def exD (fs:List (Str×V)) (dx:Addr):HO:=.ext fun h=>∃ mA,h.Ns1 dx mA /\ (∀ f,RelO (fs.lookup f) (mA f)) /\ PySem.Within mA (fs.map (·.1)) /\ fs.length <= 1000
section
variable {X:Cx} {pins:List (Addr×Obj)} {σ:St} {H:Hp} {s:Shared} {a C dx:Addr} {fs:List (Str×V)} {f:Str} {v:V} {A:Around} {E:Value->Shared->Prop}
end
section
variable {X:Cx} {o e value:Expr} {f:Str} {pos pos' tpos:Pos} {ta tv:TE}
end
def Bl (K:PySem.W.Frag) (C fI:Addr) (bmB:List Value) (newId:String):Bool:=match K.lookup C with
 | some ⟨.type "type",_,.cls cd,sl⟩=>(match cd.mro,sl.toList with
  | .ref C'::bm,[_,_,_,_,some (.builtin n),_]=>C' == C && n == newId && !cd.hasDel && PySem.W.tailIn K bmB bm && PySem.W.nsOkIn K cd.ns && PySem.W.nsIn K cd.ns "__init__" == some (some (.ref fI))
  | _,_=>false)
 | _=>false
structure ExcI (K:PySem.W.Frag) (C fI:Addr):Prop extends ExA K C where
 q:Bl K C fI [.type "ValueError",.type "Exception",.type "BaseException",.type "object"] "ValueError.__new__" = true
 fi:PySem.W.findIn K (.ref C) "__init__" = some (some (.ref fI))
 fn:PySem.W.typeIn K (.ref fI)=some (.type "function")
 kp:PySem.W.keepIn K (.ref C)=true
section
variable {K:PySem.W.Frag} {C fI:Addr}
section
variable {prog:Program} {w:World} {A:Around} {E:Value->Shared->Prop} {s:Shared}
end
end
end L2
namespace L2
open PySem PySem.Spec PyProof.Rows
section
variable {X:Cx} {pins:List (Addr×Obj)} {σ:St} {H G:Hp} {s s':Shared} {a:Addr} {W:St->XK}
end
section
variable {X:Cx} {W:St->XK} {k:Nat} {C f:Addr} {fd:FuncData} {ps:List Str} {a1 a2 x:Str} {np cpos pos:Pos} {e:Expr} {es:List Expr} {t:TA}
end
end L2
namespace DL
open PySem PySem.Spec L2
open PyProof.Rows hiding St
inductive D where
 | non | bl (b:Bool) | int (i:Int) | str (x:Str) | ty (n:String) | tup (ds:List D) | lst (ds:List D)
 | dK (ks:List Key) (ds:List D) | dT (ks:List (List Key)) (ds:List D) | pen | exc (C:Addr) | cls (C:Addr) | exa (C:Addr) (fs:List (Str×V))
inductive O where
 | val (d:D) | lst (os:List O) | dct (ks:List (List Key)) (os:List O) | tup (os:List O) | dck (ks:List Key) (os:List O)
inductive Sl where
 | nil | val (d:D) | own (ds:List D) | obj (o:O) | pin (v:V) (d:D)
section
variable (K:PySem.W.Frag) (pp:Option Addr) (M:List Addr) (H:Hp)
mutual
def Rep:D->V->Prop
 | .non,v=>v = .non
 | .bl b,v=>v = .bl b
 | .int i,v=>v = .int i
 | .str x,v=>v = .str x
 | .ty n,v=>v = .ty n
 | .tup ds,v=>∃ a xs,v = .ref a /\ H a=some (.tup xs) /\ Reps ds xs
 | .lst ds,v=>∃ a xs,v = .ref a /\ a∉M /\ pp≠some a /\ H a=some (.lst xs) /\ Reps ds xs
 | .dK ks ds,v=>∃ a kvs,v = .ref a /\ a∉M /\ pp≠some a /\ H a=some (.dK kvs) /\ kvs.map (·.1)=ks /\ Reps ds (kvs.map (·.2))
 | .dT ks ds,v=>∃ a kvs,v = .ref a /\ a∉M /\ pp≠some a /\ H a=some (.dT kvs) /\ kvs.map (·.1)=ks /\ Reps ds (kvs.map (·.2))
 | .pen,v=>∃ p,v = .ref p /\ pp=some p /\ ∃ a ns t l,Pen K H p a ns t l
 | .exc C,v=>∃ a,v = .ref a /\ a∉M /\ pp≠some a /\ H a=some (excO C a)
 | .cls C,v=>v = .ref C
 | .exa C fs,v=>∃ a dx,v = .ref a /\ a∉M /\ pp≠some a /\ H a=some (excA C (some dx) a) /\ dx∉M /\ pp≠some dx /\ H dx=some (exD fs dx)
def Reps:List D->List V->Prop
 | [],xs=>xs=[]
 | d::ds,xs=>∃ x r,xs=x::r /\ Rep d x /\ Reps ds r
end
end
section
variable {K:PySem.W.Frag} {pp:Option Addr} {M M' M'':List Addr} {H H' H'':Hp}
class TB where
 tb:List (Addr×Str)
instance (priority:=low) TB.none:TB:=⟨[]⟩
def Tabs [TB] (H:Hp):Prop:=∀ P ql,TB.tb.lookup P=some ql->∃ ps,H P=some (.tbl ps) /\ TriplesOk ps.toList /\
 ∀ pos cv,codeAmong pos ps.toList=some cv->∃ c oc u vs t,cv = .ref c /\ H c=some (.frz oc u) /\ oc.data = .fields vs /\ vs[1]? = some (.str ql t)
def TF (o:HO):Prop:=(∃ ps,o = .tbl ps)∨∃ ob u,o = .frz ob u
theorem Tabs.of [TB] {H H':Hp} (h:Tabs H) (k:∀ b o,H b=some o->TF o->H' b=some o):Tabs H':=fun P ql hq =>
 let ⟨ps,e1,e2,e3⟩:=h P ql hq
 ⟨ps,k _ _ e1 (.inl ⟨_,rfl⟩),e2,fun pos cv e=>let ⟨c,oc,u,vs,t,f1,f2,f3⟩:=e3 pos cv e; ⟨c,oc,u,vs,t,f1,k _ _ f2 (.inr ⟨_,_,rfl⟩),f3⟩⟩
theorem Tabs.upd [TB] {H:Hp} {l:Addr} {o o':HO} (h:Tabs H) (hl:H l=some o) (ht:¬ TF o):Tabs (upd H l o') :=
 h.of fun b x e tf=>by
  rw [ar]
  ·exact e
  ·rintro rfl
   rw [hl] at e; cases e
   exact ht tf
theorem Tabs.new [TB] {H:Hp} {l:Addr} {o':HO} (h:Tabs H) (hl:H l=none):Tabs (L2.upd H l o') :=
 h.of fun b x e _=>dY hl e
theorem jI {xs:List V}:¬ TF (.lst xs):=by rintro (⟨_,e⟩ | ⟨_,_,e⟩) <;> cases e
def NT (o:HO):Prop:=∀ ps,o ≠ .tbl ps
def NP (pp:Option Addr) (a:Addr) (o:HO):Prop:=pp≠some a /\ NT o
theorem np {pp:Option Addr} {a:Addr} {o:HO} (h:pp≠some a) (t:NT o:=by intro _ z; cases z):NP pp a o:=⟨h,t⟩
structure Mv [TB] (K:PySem.W.Frag) (pp:Option Addr) (M:List Addr) (H:Hp) (M':List Addr) (H':Hp):Prop where
 tup:∀ a xs,H a=some (.tup xs)->H' a=some (.tup xs)
 oth:∀ a o,H a=some o->a∉M->NP pp a o->H' a=some o /\ a∉M'
 pen:∀ p,pp=some p->(∃ a ns t l,Pen K H p a ns t l)->∃ a ns t l,Pen K H' p a ns t l
 tb:Tabs H->Tabs H'
variable [TB]
theorem Mv.lst (m:Mv K pp M H M' H') (a:Addr) (xs:List V) (h:H a=some (.lst xs)) (n:a∉M) (q:pp≠some a):H' a=some (.lst xs) /\ a∉M':=m.oth a _ h n (np q)
theorem Mv.refl:Mv K pp M H M H:=⟨fun _ _ h=>h,fun _ _ h n _=>⟨h,n⟩,fun _ _ h=>h,fun h=>h⟩
theorem Mv.trans (x:Mv K pp M H M' H') (y:Mv K pp M' H' M'' H''):Mv K pp M H M'' H'' :=
 ⟨fun a xs h=>y.tup a xs (x.tup a xs h),fun a xs h n q=>y.oth a xs (x.oth a xs h n q).1 (x.oth a xs h n q).2 q,fun p e h=>y.pen p e (x.pen p e h),fun h=>y.tb (x.tb h)⟩
mutual
theorem Rep.mv (m:Mv K pp M H M' H'):∀ (d:D) (v:V),Rep K pp M H d v->Rep K pp M' H' d v
 | .non,_,h=>by simp only [Rep] at h ⊢; exact h
 | .bl _,_,h=>by simp only [Rep] at h ⊢; exact h
 | .int _,_,h=>by simp only [Rep] at h ⊢; exact h
 | .str _,_,h=>by simp only [Rep] at h ⊢; exact h
 | .ty _,_,h=>by simp only [Rep] at h ⊢; exact h
 | .tup ds,_,h=>by
  simp only [Rep] at h ⊢
  obtain ⟨a,xs,e,h1,h2⟩:=h
  exact ⟨a,xs,e,m.tup a xs h1,Reps.mv m ds xs h2⟩
 | .lst ds,_,h=>by
  simp only [Rep] at h ⊢
  obtain ⟨a,xs,e,h0,hp,h1,h2⟩:=h
  exact ⟨a,xs,e,(m.lst a xs h1 h0 hp).2,hp,(m.lst a xs h1 h0 hp).1,Reps.mv m ds xs h2⟩
 | .dK ks ds,_,h=>by
  simp only [Rep] at h ⊢
  obtain ⟨a,xs,e,h0,hp,h1,h2,h3⟩:=h
  exact ⟨a,xs,e,(m.oth a _ h1 h0 (np hp)).2,hp,(m.oth a _ h1 h0 (np hp)).1,h2,Reps.mv m ds _ h3⟩
 | .dT ks ds,_,h=>by
  simp only [Rep] at h ⊢
  obtain ⟨a,xs,e,h0,hp,h1,h2,h3⟩:=h
  exact ⟨a,xs,e,(m.oth a _ h1 h0 (np hp)).2,hp,(m.oth a _ h1 h0 (np hp)).1,h2,Reps.mv m ds _ h3⟩
 | .pen,_,h=>by
  simp only [Rep] at h ⊢
  obtain ⟨p,e,e2,h⟩:=h
  exact ⟨p,e,e2,m.pen p e2 h⟩
 | .exc C,_,h=>by
  simp only [Rep] at h ⊢
  obtain ⟨a,e,h0,hp,h1⟩:=h
  exact ⟨a,e,(m.oth a _ h1 h0 (np hp)).2,hp,(m.oth a _ h1 h0 (np hp)).1⟩
 | .cls _,_,h=>by simp only [Rep] at h ⊢; exact h
 | .exa C fs,_,h=>by
  simp only [Rep] at h ⊢
  obtain ⟨a,dx,e,h0,hp,h1,h2,h3,h4⟩:=h
  exact ⟨a,dx,e,(m.oth a _ h1 h0 (np hp)).2,hp,(m.oth a _ h1 h0 (np hp)).1,(m.oth dx _ h4 h2 (np h3)).2,h3,(m.oth dx _ h4 h2 (np h3)).1⟩
theorem Reps.mv (m:Mv K pp M H M' H'):∀ (ds:List D) (xs:List V),Reps K pp M H ds xs->Reps K pp M' H' ds xs
 | [],_,h=>by simp only [Reps] at h ⊢; exact h
 | d::ds,_,h=>by
  simp only [Reps] at h ⊢
  obtain ⟨x,r,e,h1,h2⟩:=h
  exact ⟨x,r,e,Rep.mv m d x h1,Reps.mv m ds r h2⟩
end
theorem Reps.length:∀ {ds:List D} {xs:List V},Reps K pp M H ds xs->ds.length=xs.length
 | [],_,h=>by simp only [Reps] at h; subst h; rfl
 | _::_,_,h=>by
  simp only [Reps] at h
  obtain ⟨x,r,rfl,_,h2⟩:=h
  simp [Reps.length h2]
theorem Reps.get:∀ {ds:List D} {xs:List V} {i:Nat} {x:V},Reps K pp M H ds xs->xs[i]? = some x->∃ d,ds[i]? = some d /\ Rep K pp M H d x
 | [],_,_,_,h,e=>by simp only [Reps] at h; subst h; simp at e
 | d::ds,_,0,x,h,e=>by
  simp only [Reps] at h
  obtain ⟨y,r,rfl,h1,h2⟩:=h
  simp at e; subst e
  exact ⟨d,rfl,h1⟩
 | d::ds,_,i + 1,x,h,e=>by
  simp only [Reps] at h
  obtain ⟨y,r,rfl,h1,h2⟩:=h
  obtain ⟨d',e1,e2⟩:=Reps.get (i:=i) h2 (by simpa using e)
  exact ⟨d',by simpa using e1,e2⟩
theorem Reps.get':∀ {ds:List D} {xs:List V} {i:Nat} {d:D},Reps K pp M H ds xs->ds[i]? = some d->∃ x,xs[i]? = some x /\ Rep K pp M H d x
 | [],_,_,_,h,e=>by simp at e
 | d::ds,_,0,x,h,e=>by
  simp only [Reps] at h
  obtain ⟨y,r,rfl,h1,h2⟩:=h
  simp at e; subst e
  exact ⟨y,rfl,h1⟩
 | d::ds,_,i + 1,x,h,e=>by
  simp only [Reps] at h
  obtain ⟨y,r,rfl,h1,h2⟩:=h
  obtain ⟨d',e1,e2⟩:=Reps.get' (i:=i) h2 (by simpa using e)
  exact ⟨d',by simpa using e1,e2⟩
theorem Reps.append:∀ {ds es:List D} {xs ys:List V},Reps K pp M H ds xs->Reps K pp M H es ys->Reps K pp M H (ds++es) (xs++ys)
 | [],_,_,_,h,q=>by simp only [Reps] at h; subst h; exact q
 | d::ds,_,_,_,h,q=>by
  simp only [Reps] at h
  obtain ⟨y,r,rfl,h1,h2⟩:=h
  simp only [List.cons_append,Reps]
  exact ⟨y,_,rfl,h1,Reps.append h2 q⟩
theorem Reps.drop:∀ {ds:List D} {xs:List V} (n:Nat),Reps K pp M H ds xs->Reps K pp M H (ds.drop n) (xs.drop n)
 | _,_,0,h=>h
 | [],_,n + 1,h=>by simp only [Reps] at h; subst h; simp [Reps]
 | d::ds,_,n + 1,h=>by
  simp only [Reps] at h
  obtain ⟨y,r,rfl,h1,h2⟩:=h
  exact Reps.drop n h2
theorem Reps.take:∀ {ds:List D} {xs:List V} (n:Nat),Reps K pp M H ds xs->Reps K pp M H (ds.take n) (xs.take n)
 | _,_,0,h=>by simp [Reps]
 | [],_,n + 1,h=>by simp only [Reps] at h; subst h; simp [Reps]
 | d::ds,_,n + 1,h=>by
  simp only [Reps] at h
  obtain ⟨y,r,rfl,h1,h2⟩:=h
  simp only [List.take_succ_cons,Reps]
  exact ⟨y,_,rfl,h1,Reps.take n h2⟩
theorem Reps.set {d:D} {x:V} (hd:Rep K pp M H d x):∀ {ds:List D} {xs:List V} (n:Nat),Reps K pp M H ds xs->Reps K pp M H (ds.set n d) (xs.set n x)
 | [],_,n,h=>by simp only [Reps] at h; subst h; simp [Reps]
 | e::ds,_,0,h=>by
  simp only [Reps] at h
  obtain ⟨y,r,rfl,h1,h2⟩:=h
  simp only [List.set_cons_zero,Reps]
  exact ⟨x,r,rfl,hd,h2⟩
 | e::ds,_,n + 1,h=>by
  simp only [Reps] at h
  obtain ⟨y,r,rfl,h1,h2⟩:=h
  simp only [List.set_cons_succ,Reps]
  exact ⟨y,_,rfl,h1,Reps.set hd n h2⟩
theorem Reps.one {d:D} {x:V} (h:Rep K pp M H d x):Reps K pp M H [d] [x]:=by simp only [Reps]; exact ⟨x,[],rfl,h,rfl⟩
theorem Reps.nil:Reps K pp M H [] []:=by simp only [Reps]
theorem Reps.cons {d:D} {x:V} {ds:List D} {xs:List V} (h:Rep K pp M H d x) (q:Reps K pp M H ds xs):Reps K pp M H (d::ds) (x::xs):=by simp only [Reps]; exact ⟨x,xs,rfl,h,q⟩
def NW (pp:Option Addr) (b:Addr) (o:HO):Prop:=(pp=some b->∀ xs,o ≠ .lst xs) /\ NT o
theorem nw {pp:Option Addr} {b:Addr} {o:HO} (h:pp≠some b) (t:NT o:=by intro _ z; cases z):NW pp b o:=⟨fun z=>absurd z h,t⟩
structure SameQ (K:PySem.W.Frag) (pp:Option Addr) (H H':Hp):Prop where
 keep:∀ b o,H b=some o->NW pp b o->H' b=some o
 pen:∀ p,pp=some p->(∃ a ns t l,Pen K H p a ns t l)->∃ a ns t l,Pen K H' p a ns t l
 live:∀ b,H b≠none->H' b≠none
structure SameP (K:PySem.W.Frag) (pp:Option Addr) (H H':Hp):Prop extends SameQ K pp H H' where
 tb:Tabs H->Tabs H'
theorem SameQ.refl:SameQ K pp H H:=⟨fun _ _ h _=>h,fun _ _ h=>h,fun _ h=>h⟩
theorem SameP.refl:SameP K pp H H:=⟨.refl,fun h=>h⟩
theorem SameQ.trans (x:SameQ K pp H H') (y:SameQ K pp H' H''):SameQ K pp H H'' :=
 ⟨fun b o h n=>y.keep b o (x.keep b o h n) n,fun p e h=>y.pen p e (x.pen p e h),fun b h=>y.live b (x.live b h)⟩
theorem SameP.trans (x:SameP K pp H H') (y:SameP K pp H' H''):SameP K pp H H'':=⟨x.toSameQ.trans y.toSameQ,fun h=>y.tb (x.tb h)⟩
theorem SameP.of (s:Same H H'):SameP K pp H H':=⟨⟨fun b o h _=>s b o h,fun _ _ ⟨a,ns,t,l,h⟩=>⟨a,ns,t,l,h.same s⟩,fun b h e=>by
 cases q:H b with
 | none=>exact h q
 | some o=>rw [s b o q] at e; cases e⟩,fun h=>h.of fun b o e _=>s b o e⟩
theorem SameP.new {l:Addr} {o:HO} (h:H l=none):SameP K pp H (upd H l o):=.of (sx h)
theorem SameP.mv (s:SameP K pp H H'):Mv K pp M H M H' :=
 ⟨fun a xs h=>s.keep a _ h ⟨fun _ _ z=>(by cases z),fun _ z=>(by cases z)⟩,fun a xs h n q=>⟨s.keep a _ h ⟨fun z=>absurd z q.1,q.2⟩,n⟩,s.pen,s.tb⟩
theorem Mv.new {l:Addr} {o:HO} (h:H l=none):Mv K pp M H M (upd H l o):=(SameP.new h).mv
theorem Mv.newOwn {l:Addr} {o:HO} (h:H l=none):Mv K pp M H (l::M) (upd H l o) :=
 ⟨fun a xs e=>dY h e,fun a xs e n q=>⟨dY h e,by
  intro z
  rcases List.mem_cons.mp z with rfl | z
  ·rw [h] at e; cases e
  ·exact n z⟩,(SameP.new h).pen,fun t=>t.new h⟩
theorem Mv.less {l:List Addr} (h:∀ a∈l,a∈M):Mv K pp M H l H:=⟨fun _ _ h=>h,fun a xs e n _=>⟨e,fun z=>n (h a z)⟩,fun _ _ h=>h,fun h=>h⟩
theorem yZ {p l:Addr} {xs ys:List V} (hl:H l=some (.lst xs)) (hp:p≠l):(∃ a ns t k,Pen K H p a ns t k)->∃ a ns t k,Pen K (upd H l (.lst ys)) p a ns t k:=by
 rintro ⟨a,ns,t,k,h⟩
 refine ⟨a,ns,t,k,?_,?_,h.t0⟩
 ·rw [ar hp]; exact h.lst
 ·rcases h.scr with ⟨o,e⟩ | e
  ·refine .inl ⟨o,?_⟩
   rw [ar (kK e hl (by intro z; cases z))]; exact e
  ·exact .inr e
theorem Mv.write {l:Addr} {xs ys:List V} (hl:H l=some (.lst xs)) (hm:l∈M) (hp:pp≠some l):Mv K pp M H M (upd H l (.lst ys)) :=
 ⟨fun a zs e=>by rw [ar (kK e hl (by intro z; cases z))]; exact e,
  fun a zs e n q=>⟨by rw [ar (by rintro rfl; exact n hm)]; exact e,n⟩,
  fun p e h=>yZ hl (by rintro rfl; exact hp e) h,fun t=>t.upd hl jI⟩
end
section
variable (K:PySem.W.Frag) (pp:Option Addr) (M:List Addr) (H:Hp)
mutual
def RO:O->V->List Addr->Prop
 | .val d,v,A=>A=[] /\ Rep K pp M H d v
 | .lst os,v,A=>∃ a xs B,v = .ref a /\ H a=some (.lst xs) /\ A=a::B /\ ROs os xs B
 | .dct ks os,v,A=>∃ a kvs B,v = .ref a /\ H a=some (.dT kvs) /\ kvs.map (·.1)=ks /\ A=a::B /\ ROs os (kvs.map (·.2)) B
 | .tup os,v,A=>∃ a xs,v = .ref a /\ H a=some (.tup xs) /\ ROs os xs A
 | .dck ks os,v,A=>∃ a kvs B,v = .ref a /\ H a=some (.dK kvs) /\ kvs.map (·.1)=ks /\ A=a::B /\ ROs os (kvs.map (·.2)) B
def ROs:List O->List V->List Addr->Prop
 | [],xs,A=>xs=[] /\ A=[]
 | o::os,xs,A=>∃ x r B C,xs=x::r /\ A=B++C /\ RO o x B /\ ROs os r C
end
end
section
variable {K:PySem.W.Frag} {pp:Option Addr} {M M':List Addr} {H H':Hp} [TB]
mutual
theorem RO.mv (m:Mv K pp M H M' H'):∀ (q:O) (v:V) (A:List Addr),(∀ a∈A,∀ o,H a=some o->NT o->H' a=some o)->RO K pp M H q v A->RO K pp M' H' q v A
 | .val d,v,A,_,h=>by
  simp only [RO] at h ⊢
  exact ⟨h.1,Rep.mv m d v h.2⟩
 | .lst os,v,A,k,h=>by
  simp only [RO] at h ⊢
  obtain ⟨a,xs,B,e,ha,rfl,r⟩:=h
  exact ⟨a,xs,B,e,k a List.mem_cons_self _ ha (by intro _ z; cases z),rfl,ROs.mv m os xs B (fun b hb=>k b (List.mem_cons_of_mem _ hb)) r⟩
 | .dct ks os,v,A,k,h=>by
  simp only [RO] at h ⊢
  obtain ⟨a,kvs,B,e,ha,e2,rfl,r⟩:=h
  exact ⟨a,kvs,B,e,k a List.mem_cons_self _ ha (by intro _ z; cases z),e2,rfl,ROs.mv m os _ B (fun b hb=>k b (List.mem_cons_of_mem _ hb)) r⟩
 | .tup os,v,A,k,h=>by
  simp only [RO] at h ⊢
  obtain ⟨a,xs,e,ha,r⟩:=h
  exact ⟨a,xs,e,m.tup a xs ha,ROs.mv m os xs A k r⟩
 | .dck ks os,v,A,k,h=>by
  simp only [RO] at h ⊢
  obtain ⟨a,kvs,B,e,ha,e2,rfl,r⟩:=h
  exact ⟨a,kvs,B,e,k a List.mem_cons_self _ ha (by intro _ z; cases z),e2,rfl,ROs.mv m os _ B (fun b hb=>k b (List.mem_cons_of_mem _ hb)) r⟩
theorem ROs.mv (m:Mv K pp M H M' H'):∀ (os:List O) (xs:List V) (A:List Addr),(∀ a∈A,∀ o,H a=some o->NT o->H' a=some o)->ROs K pp M H os xs A->ROs K pp M' H' os xs A
 | [],xs,A,_,h=>by simp only [ROs] at h ⊢; exact h
 | o::os,xs,A,k,h=>by
  simp only [ROs] at h ⊢
  obtain ⟨x,r,B,C,e,rfl,h1,h2⟩:=h
  exact ⟨x,r,B,C,e,rfl,RO.mv m o x B (fun b hb=>k b (List.mem_append.mpr (.inl hb))) h1,ROs.mv m os r C (fun b hb=>k b (List.mem_append.mpr (.inr hb))) h2⟩
end
mutual
def fzO:O->D
 | .val d=>d
 | .lst os=>.lst (fzOs os)
 | .dct ks os=>.dT ks (fzOs os)
 | .tup os=>.tup (fzOs os)
 | .dck ks os=>.dK ks (fzOs os)
def fzOs:List O->List D
 | []=>[]
 | o::os=>fzO o::fzOs os
end
mutual
theorem RO.fz (m:Mv K pp M H M' H):∀ (q:O) (v:V) (A:List Addr),(∀ a∈A,a∉M' /\ pp≠some a)->RO K pp M H q v A->Rep K pp M' H (fzO q) v
 | .val d,v,A,_,h=>by
  simp only [RO] at h
  simp only [fzO]
  exact Rep.mv m d v h.2
 | .lst os,v,A,k,h=>by
  simp only [RO] at h
  simp only [fzO,Rep]
  obtain ⟨a,xs,B,e,ha,rfl,r⟩:=h
  exact ⟨a,xs,e,(k a List.mem_cons_self).1,(k a List.mem_cons_self).2,ha,ROs.fz m os xs B (fun b hb=>k b (List.mem_cons_of_mem _ hb)) r⟩
 | .dct ks os,v,A,k,h=>by
  simp only [RO] at h
  simp only [fzO,Rep]
  obtain ⟨a,kvs,B,e,ha,e2,rfl,r⟩:=h
  exact ⟨a,kvs,e,(k a List.mem_cons_self).1,(k a List.mem_cons_self).2,ha,e2,ROs.fz m os _ B (fun b hb=>k b (List.mem_cons_of_mem _ hb)) r⟩
 | .tup os,v,A,k,h=>by
  simp only [RO] at h
  simp only [fzO,Rep]
  obtain ⟨a,xs,e,ha,r⟩:=h
  exact ⟨a,xs,e,ha,ROs.fz m os xs A k r⟩
 | .dck ks os,v,A,k,h=>by
  simp only [RO] at h
  simp only [fzO,Rep]
  obtain ⟨a,kvs,B,e,ha,e2,rfl,r⟩:=h
  exact ⟨a,kvs,e,(k a List.mem_cons_self).1,(k a List.mem_cons_self).2,ha,e2,ROs.fz m os _ B (fun b hb=>k b (List.mem_cons_of_mem _ hb)) r⟩
theorem ROs.fz (m:Mv K pp M H M' H):∀ (os:List O) (xs:List V) (A:List Addr),(∀ a∈A,a∉M' /\ pp≠some a)->ROs K pp M H os xs A->Reps K pp M' H (fzOs os) xs
 | [],xs,A,_,h=>by simp only [ROs] at h; simp only [fzOs,Reps]; exact h.1
 | o::os,xs,A,k,h=>by
  simp only [ROs] at h
  simp only [fzOs,Reps]
  obtain ⟨x,r,B,C,e,rfl,h1,h2⟩:=h
  exact ⟨x,r,e,RO.fz m o x B (fun b hb=>k b (List.mem_append.mpr (.inl hb))) h1,ROs.fz m os r C (fun b hb=>k b (List.mem_append.mpr (.inr hb))) h2⟩
end
theorem sC:∀ os:List O,fzOs os=os.map fzO
 | []=>rfl
 | o::os=>by simp only [fzOs,List.map_cons,sC os]
end
structure Fx where
 pp:Option Addr
 M0:List Addr
 H0:Hp
abbrev DS:=List Sl
variable [TB]
class Frm where
 L:PySem.W.Frag->Fx->List Addr->Hp->Prop
 W:DS->Addr->Prop
 cl:∀ K (F:Fx) M H M' H',L K F M H->Mv K F.pp M H M' H'->L K F M' H'
instance (priority:=low) Frm.free:Frm:=⟨fun _ _ _ _=>True,fun _ _=>False,fun _ _ _ _ _ _ h _=>h⟩
variable [Frm]
structure Lv0 (pp:Option Addr) (M:List Addr) (H:Hp):Prop where
 m:∀ a∈M,H a≠none
 p:∀ p,pp=some p->H p≠none
structure Lv (pp:Option Addr) (M:List Addr) (H:Hp):Prop extends Lv0 pp M H where
 t:Tabs H
theorem Lv0.sameQ {K:PySem.W.Frag} {pp:Option Addr} {M:List Addr} {H H':Hp} (l:Lv0 pp M H) (s:SameQ K pp H H'):Lv0 pp M H' :=
 ⟨fun a ha=>s.live a (l.m a ha),fun p e=>s.live p (l.p p e)⟩
theorem Lv.sameP {K:PySem.W.Frag} {pp:Option Addr} {M:List Addr} {H H':Hp} (l:Lv pp M H) (s:SameP K pp H H'):Lv pp M H':=⟨l.toLv0.sameQ s.toSameQ,s.tb l.t⟩
theorem Lv0.fresh {pp:Option Addr} {M:List Addr} {H:Hp} {a:Addr} (l:Lv0 pp M H) (h:H a=none):a∉M /\ pp≠some a:=⟨fun z=>l.m a z h,fun z=>l.p a z h⟩
structure Lk (K:PySem.W.Frag) (F:Fx) (M:List Addr) (H:Hp):Prop where
 l:Frm.L K F M H
 t:Tabs H
theorem Lk.cl {K:PySem.W.Frag} {F:Fx} {M M':List Addr} {H H':Hp} (h:Lk K F M H) (m:Mv K F.pp M H M' H'):Lk K F M' H':=⟨Frm.cl _ _ _ _ _ _ h.l m,m.tb h.t⟩
section
variable (K:PySem.W.Frag) (F:Fx) (M:List Addr) (H:Hp)
def RSl:Sl->Option V->Prop
 | .nil,_=>True
 | .val d,o=>∃ v,o=some v /\ Rep K F.pp M H d v
 | .own ds,o=>∃ l xs,o=some (.ref l) /\ l∈M /\ F.H0 l=none /\ F.pp≠some l /\ H l=some (.lst xs) /\ Reps K F.pp M H ds xs
 | .obj _,o=>∃ v,o=some v
 | .pin w d,o=>∃ v,o=some v /\ v=w /\ Rep K F.pp M H d v
def Ow:Sl->Option V->List Addr->Prop
 | .own _,o,A=>∃ l,o=some (.ref l) /\ A=[l]
 | .obj q,o,A=>A.Nodup /\ ∃ v,o=some v /\ RO K F.pp M H q v A
 | _,_,_=>True
def OwF (σ:St) (ρ:DS):Prop:=∃ As:Nat->List Addr,(∀ (i:Nat) s o,ρ[i]? = some s->σ[i]? = some o->Ow K F M H s o (As i)) /\ (∀ i,∀ a∈As i,a∈M /\ F.H0 a=none /\ F.pp≠some a) /\ ∀ i j,i≠j->∀ a∈As i,a∉As j
structure RSt (σ:St) (ρ:DS):Prop where
 len:σ.length=ρ.length
 sl:∀ (i:Nat) s o,ρ[i]? = some s->σ[i]? = some o->RSl K F M H s o
 ow:OwF K F M H σ ρ
 sub:∀ a∈F.M0,a∈M
 same:SameQ K F.pp F.H0 H
 old:∀ a∈F.M0,F.H0 a≠none
 liv0:Lv0 F.pp M H
 lk:Lk K F M H
end
section
variable {K:PySem.W.Frag} {F:Fx} {M M':List Addr} {H H':Hp} {σ:St} {ρ:DS}
theorem RSt.liv (r:RSt K F M H σ ρ):Lv F.pp M H:=⟨r.liv0,r.lk.t⟩
theorem RSt.sameT (r:RSt K F M H σ ρ):SameP K F.pp F.H0 H:=⟨r.same,fun _=>r.lk.t⟩
omit [Frm] in
theorem Ow.mv {s:Sl} {o:Option V} {A:List Addr} (m:Mv K F.pp M H M' H') (k:∀ a∈A,∀ x,H a=some x->NT x->H' a=some x) (h:Ow K F M H s o A):Ow K F M' H' s o A:=by
 cases s with
 | nil=>trivial
 | val d=>trivial
 | pin w d=>trivial
 | own ds=>exact h
 | obj q =>
  obtain ⟨nd,v,e,h⟩:=h
  exact ⟨nd,v,e,RO.mv m q v A k h⟩
omit [Frm] in
theorem OwF.keep (h:OwF K F M H σ ρ) (m:Mv K F.pp M H M' H') (k:∀ a,a∈M->F.pp≠some a->F.H0 a=none->a∈M' /\ ∀ x,H a=some x->NT x->H' a=some x):OwF K F M' H' σ ρ:=by
 obtain ⟨As,h1,h2,h3⟩:=h
 refine ⟨As,fun i s o e1 e2=>(h1 i s o e1 e2).mv m fun a ha=>(k a (h2 i a ha).1 (h2 i a ha).2.2 (h2 i a ha).2.1).2,fun i a ha=>⟨(k a (h2 i a ha).1 (h2 i a ha).2.2 (h2 i a ha).2.1).1,(h2 i a ha).2⟩,h3⟩
omit [Frm] in
theorem OwF.step {σ':St} {ρ':DS} (h:OwF K F M H σ ρ) (m:Mv K F.pp M H M' H') (i:Nat) (hσ:∀ j,j≠i->σ'[j]? = σ[j]?) (hρ:∀ j,j≠i->ρ'[j]? = ρ[j]?)
  (k:∀ A,(∀ s o,ρ[i]? = some s->σ[i]? = some o->Ow K F M H s o A)->(∀ a∈A,a∈M /\ F.H0 a=none /\ F.pp≠some a)->∃ B,(∀ s o,ρ'[i]? = some s->σ'[i]? = some o->Ow K F M' H' s o B) /\
   (∀ b∈B,b∈M' /\ F.H0 b=none /\ F.pp≠some b /\ (b∈A∨b∉M)) /\ ∀ a,a∈M->F.pp≠some a->F.H0 a=none->a∉A->a∈M' /\ ∀ x,H a=some x->NT x->H' a=some x):OwF K F M' H' σ' ρ':=by
 obtain ⟨As,h1,h2,h3⟩:=h
 obtain ⟨B,k1,k2,k3⟩:=k (As i) (h1 i) (h2 i)
 have old:∀ j,j≠i->∀ a∈As j,a∈M' /\ ∀ x,H a=some x->NT x->H' a=some x:=fun j e a ha=>k3 a (h2 j a ha).1 (h2 j a ha).2.2 (h2 j a ha).2.1 (h3 j i e a ha)
 refine ⟨fun j=>if j=i then B else As j,fun j s o e1 e2=>?_,fun j a ha=>?_,fun j l e a ha hb=>?_⟩
 ·show Ow K F M' H' s o (if j=i then B else As j)
  by_cases e:j=i
  ·subst e
   rw [if_pos rfl]
   exact k1 s o e1 e2
  ·rw [if_neg e]
   rw [hρ j e] at e1
   rw [hσ j e] at e2
   exact (h1 j s o e1 e2).mv m fun a ha=>(old j e a ha).2
 ·replace ha:a∈(if j=i then B else As j):=ha
  by_cases e:j=i
  ·subst e
   rw [if_pos rfl] at ha
   exact ⟨(k2 a ha).1,(k2 a ha).2.1,(k2 a ha).2.2.1⟩
  ·rw [if_neg e] at ha
   exact ⟨(old j e a ha).1,(h2 j a ha).2⟩
 ·replace ha:a∈(if j=i then B else As j):=ha
  replace hb:a∈(if l=i then B else As l):=hb
  by_cases e1:j=i
  ·subst e1
   rw [if_pos rfl] at ha
   rw [if_neg (Ne.symm e)] at hb
   rcases (k2 a ha).2.2.2 with z | z
   ·exact h3 j l e a z hb
   ·exact z (h2 l a hb).1
  ·rw [if_neg e1] at ha
   by_cases e2:l=i
   ·subst e2
    rw [if_pos rfl] at hb
    rcases (k2 a hb).2.2.2 with z | z
    ·exact h3 j l e a ha z
    ·exact z (h2 j a ha).1
   ·rw [if_neg e2] at hb
    exact h3 j l e a ha hb
omit [Frm] in
theorem OwF.none (h:∀ (i:Nat) s,ρ[i]? = some s->(∀ ds,s ≠ .own ds) /\ ∀ q,s ≠ .obj q):OwF K F M H σ ρ:=by
 refine ⟨fun _=>[],fun i s o e1 _=>?_,fun _ _ h=>(by simp at h),fun _ _ _ _ h=>(by simp at h)⟩
 cases s with
 | nil=>trivial
 | val d=>trivial
 | pin w d=>trivial
 | own ds=>exact absurd rfl ((h i _ e1).1 ds)
 | obj q=>exact absurd rfl ((h i _ e1).2 q)
theorem RSt.own (r:RSt K F M H σ ρ) (i j:Nat) (ds es:List D) (a:Addr) (h1:ρ[i]? = some (.own ds)) (h2:ρ[j]? = some (.own es)) (h3:σ[i]? = some (some (.ref a))) (h4:σ[j]? = some (some (.ref a))):i=j:=by
 obtain ⟨As,k1,k2,k3⟩:=r.ow
 obtain ⟨l,e,e2⟩:=k1 i _ _ h1 h3
 cases e
 obtain ⟨l,e,e3⟩:=k1 j _ _ h2 h4
 cases e
 by_cases z:i=j
 ·exact z
 ·exact absurd (by rw [e3]; simp) (k3 i j z a (by rw [e2]; simp))
omit [Frm] in
theorem SameP.ow (s:SameP K F.pp H H') (a:Addr) (_:a∈M) (p:F.pp≠some a) (_:F.H0 a=none):a∈M /\ ∀ x,H a=some x->NT x->H' a=some x:=⟨‹_›,fun x e n=>s.keep a x e (nw p n)⟩
theorem RSt.sameP (r:RSt K F M H σ ρ) (s:SameP K F.pp H H'):RSt K F M H' σ ρ:=by
 refine ⟨r.len,fun i q o h1 h2=>?_,r.ow.keep s.mv fun a h1 h2 h3=>s.ow a h1 h2 h3,r.sub,r.same.trans s.toSameQ,r.old,r.liv0.sameQ s.toSameQ,r.lk.cl s.mv⟩
 have:=r.sl i q o h1 h2
 cases q with
 | nil=>trivial
 | val d=>obtain ⟨v,e,h⟩:=this; exact ⟨v,e,h.mv s.mv⟩
 | pin w d=>obtain ⟨v,e,ew,h⟩:=this; exact ⟨v,e,ew,h.mv s.mv⟩
 | own ds =>
  obtain ⟨l,xs,e,hm,h0,hp,hl,hr⟩:=this
  exact ⟨l,xs,e,hm,h0,hp,s.keep l _ hl (nw hp),hr.mv s.mv⟩
 | obj q=>exact this
theorem RSt.at (r:RSt K F M H σ ρ) {i:Nat} {s:Sl} (h:ρ[i]? = some s):∃ o,σ[i]? = some o /\ RSl K F M H s o:=by
 have hi:i < σ.length:=by rw [r.len]; exact (List.getElem?_eq_some_iff.mp h).1
 exact ⟨σ[i],by simp [hi],r.sl i s _ h (by simp [hi])⟩
omit [Frm] in
theorem OwF.drop {σ':St} {ρ':DS} (h:OwF K F M H σ ρ) (i:Nat) (hσ:∀ j,j≠i->σ'[j]? = σ[j]?) (hρ:∀ j,j≠i->ρ'[j]? = ρ[j]?) (hn:∀ s,ρ'[i]? = some s->(∀ ds,s ≠ .own ds) /\ ∀ q,s ≠ .obj q):OwF K F M H σ' ρ' :=
 h.step .refl i hσ hρ fun A _ _=>⟨[],fun s o e _=>(by
  cases s with
  | nil=>trivial
  | val d=>trivial
  | pin w d=>trivial
  | own ds=>exact absurd rfl ((hn _ e).1 ds)
  | obj q=>exact absurd rfl ((hn _ e).2 q)),fun _ h=>(by simp at h),fun a ha _ _ _=>⟨ha,fun _ e _=>e⟩⟩
omit [Frm] in
theorem bj {α:Type} {l:List α} {i:Nat} {x y:α} (h:(l.set i x)[i]? = some y):y=x:=by
 have hi:i < l.length:=by have:=(List.getElem?_eq_some_iff.mp h).1; simpa using this
 simp [hi] at h
 exact h.symm
theorem RSt.set (r:RSt K F M H σ ρ) {d:D} {v:V} (h:Rep K F.pp M H d v) (i:Nat):RSt K F M H (σ.set i (some v)) (ρ.set i (.val d)):=by
 refine ⟨by simp [r.len],fun j s o h1 h2=>?_,r.ow.drop i (fun j e=>List.getElem?_set_ne (Ne.symm e)) (fun j e=>List.getElem?_set_ne (Ne.symm e)) (fun s e=>?_),r.sub,r.same,r.old,r.liv0,r.lk⟩
 ·by_cases e:i=j
  ·subst e
   rw [bj h1,bj h2]
   exact ⟨v,rfl,h⟩
  ·rw [List.getElem?_set_ne e] at h1 h2
   exact r.sl j s o h1 h2
 ·rw [bj e]
  exact ⟨fun ds z=>(by cases z),fun q z=>(by cases z)⟩
end
end DL
namespace DL
open PySem PySem.Spec L2
open PyProof.Rows hiding St
variable [TB]
variable [Frm]
abbrev DE:=DS->(D->DS->Prop)->Prop
abbrev DT:=DS->(Bool->DS->Prop)->Prop
abbrev DA:=DS->(List D->DS->Prop)->Prop
structure DEnds where
 nx:DS->Prop
 rt:D->Prop
 bk:DS->Prop:=fun _=>False
 ct:DS->Prop:=fun _=>False
abbrev DTS:=DEnds->DS->Prop
def slot:DS->Nat->Sl
 | [],_=>.nil
 | s::_,0=>s
 | _::r,n + 1=>slot r n
theorem aZ:∀ {ρ:DS} {i:Nat} {s:Sl},slot ρ i=s->s ≠ .nil->ρ[i]? = some s
 | [],_,_,h,n=>absurd h.symm n
 | _::_,0,_,h,_=>by subst h; rfl
 | _::r,i + 1,s,h,n=>by simpa using aZ (ρ:=r) (i:=i) h n
section
variable {X:Cx} {F:Fx}
structure PED (X:Cx) (e:Expr) (t:DE):Prop where
 mono:∀ ρ P P',(∀ d ρ',P d ρ'->P' d ρ')->t ρ P->t ρ P'
 run:∃ T:TE,PE X e T /\ ∀ {F:Fx} M H σ ρ (Q:VK),RSt X.K F M H σ ρ ->
  (t ρ fun d ρ'=>∀ M' H' v,Mv X.K F.pp M H M' H'->RSt X.K F M' H' σ ρ'->Rep X.K F.pp M' H' d v->Q v H')->T σ H Q
structure PTD (X:Cx) (e:Expr) (t:DT):Prop where
 mono:∀ ρ P P',(∀ b ρ',P b ρ'->P' b ρ')->t ρ P->t ρ P'
 run:∃ T:TT,PT X e T /\ ∀ {F:Fx} M H σ ρ (Q:Bool->Hp->Prop),RSt X.K F M H σ ρ ->
  (t ρ fun b ρ'=>∀ M' H',Mv X.K F.pp M H M' H'->RSt X.K F M' H' σ ρ'->Q b H')->T σ H Q
structure PWD (X:Cx) (e:Expr) (t:DT):Prop where
 mono:∀ ρ P P',(∀ b ρ',P b ρ'->P' b ρ')->t ρ P->t ρ P'
 run:∃ T:TT,PW X e T /\ ∀ {F:Fx} M H σ ρ (Q:Bool->Hp->Prop),RSt X.K F M H σ ρ ->
  (t ρ fun b ρ'=>∀ M' H',Mv X.K F.pp M H M' H'->RSt X.K F M' H' σ ρ'->Q b H')->T σ H Q
structure PAD (X:Cx) (es:List Expr) (t:DA):Prop where
 mono:∀ ρ P P',(∀ d ρ',P d ρ'->P' d ρ')->t ρ P->t ρ P'
 run:∃ T:TA,PA X es T /\ ∀ {F:Fx} M H σ ρ (Q:List V->Hp->Prop),RSt X.K F M H σ ρ ->
  (t ρ fun ds ρ'=>∀ M' H' vs,Mv X.K F.pp M H M' H'->RSt X.K F M' H' σ ρ'->Reps X.K F.pp M' H' ds vs->Q vs H')->T σ H Q
abbrev dC (d:D):DE:=fun ρ Q=>Q d ρ
theorem PED.con {e:Expr} {d:D} {v:V} (h:PE X e (tC v)) (r:∀ pp M H,Rep X.K pp M H d v):PED X e (dC d) :=
 ⟨fun _ _ _ f h=>f _ _ h,_,h,fun {F} M H _ _ _ rs q=>q M H v .refl rs (r _ M H)⟩
theorem ae {i j pos}:PED X (.Constant (.int i) j pos) (dC (.int i)):=.con cz fun _ _ _=>by simp only [Rep]
theorem nS {i j pos}:PED X (.Constant (.bool i) j pos) (dC (.bl i)):=.con Ct fun _ _ _=>by simp only [Rep]
theorem fm {j pos}:PED X (.Constant .none j pos) (dC .non):=.con Ao fun _ _ _=>by simp only [Rep]
theorem pN {i j pos}:PED X (.Constant (.str i) j pos) (dC (.str i)):=.con Ap fun _ _ _=>by simp only [Rep]
theorem pO {x:Str} {n:String} {pos:Pos} (hg:Gl X x) (hm:X.mg x=none) (hv:bootBuiltins x=some (.type n)) (hn:x ≠ "__name__":=by decide) (hd:(x == ("__debug__" : Str))=false:=by decide):PED X (.Name x pos) (dC (.ty n)) :=
 .con (yr (v:=.ty n) hg hm hv rfl hn hd) fun _ _ _=>by simp only [Rep]
def CW (i:Nat) (ρ:DS) (Q:D->DS->Prop):Sl->Prop
 | .val d=>Q d ρ
 | .own ds=>Q (.lst ds) (ρ.set i (.val (.lst ds)))
 | .obj q=>Q (fzO q) (ρ.set i (.val (fzO q)))
 | .pin _ d=>Q d ρ
 | .nil=>False
abbrev dVar (i:Nat):DE:=fun ρ Q=>CW i ρ Q (slot ρ i)
theorem RSt.freeze {K:PySem.W.Frag} {M:List Addr} {H:Hp} {σ:St} {ρ:DS} {i:Nat} {ds:List D} (r:RSt K F M H σ ρ) (h:ρ[i]? = some (.own ds)) :
  ∃ M' v,σ[i]? = some (some v) /\ Mv K F.pp M H M' H /\ RSt K F M' H σ (ρ.set i (.val (.lst ds))) /\ Rep K F.pp M' H (.lst ds) v:=by
 obtain ⟨o,ho,l,xs,rfl,hm,h0,hp,hl,hr⟩:=r.at h
 have m:Mv K F.pp M H (M.filter fun a=>decide (a≠l)) H:=.less fun a ha=>(List.mem_filter.mp ha).1
 have rl:Rep K F.pp (M.filter fun a=>decide (a≠l)) H (.lst ds) (.ref l):=by
  simp only [Rep]
  exact ⟨l,xs,rfl,by simp,hp,hl,hr.mv m⟩
 refine ⟨_,_,ho,m,⟨by simp [r.len],fun j s o h1 h2=>?_,r.ow.step m i (fun _ _=>rfl) (fun j e=>List.getElem?_set_ne (Ne.symm e)) (fun A hA _=>⟨[],fun s o e _=>?_,fun _ h=>(by simp at h),fun a ha _ _ hn=>⟨?_,fun _ e _=>e⟩⟩),fun a ha=>?_,r.same,r.old,?_,r.lk.cl m⟩,rl⟩
 ·by_cases e:i=j
  ·subst e
   rw [ho] at h2
   rw [bj h1]
   cases h2
   exact ⟨_,rfl,rl⟩
  ·rw [List.getElem?_set_ne e] at h1
   have q:=r.sl j s o h1 h2
   cases s with
   | nil=>trivial
   | val d=>obtain ⟨v,e,q⟩:=q; exact ⟨v,e,q.mv m⟩
   | pin w d=>obtain ⟨v,e,ew,q⟩:=q; exact ⟨v,e,ew,q.mv m⟩
   | own es =>
    obtain ⟨l',ys,rfl,hm',h0',hp',hl',hr'⟩:=q
    refine ⟨l',ys,rfl,List.mem_filter.mpr ⟨hm',?_⟩,h0',hp',hl',hr'.mv m⟩
    by_cases z:l'=l
    ·subst z
     exact absurd (r.own i j _ _ _ h h1 ho h2) e
    ·simpa using z
   | obj q=>exact ‹_›
 ·rw [bj e]
  trivial
 ·obtain ⟨l2,e2,e3⟩:=hA _ _ h ho
  cases e2
  refine List.mem_filter.mpr ⟨ha,?_⟩
  by_cases z:a=l
  ·subst z
   exact absurd (by rw [e3]; simp) hn
  ·simpa using z
 ·refine List.mem_filter.mpr ⟨r.sub a ha,?_⟩
  by_cases z:a=l
  ·subst z
   exact absurd h0 (r.old a ha)
  ·simpa using z
 ·exact ⟨fun a ha=>r.liv.m a (List.mem_filter.mp ha).1,r.liv.p⟩
theorem RSt.objAt {K:PySem.W.Frag} {M:List Addr} {H:Hp} {σ:St} {ρ:DS} {i:Nat} {q:O} (r:RSt K F M H σ ρ) (h:ρ[i]? = some (.obj q)) :
  ∃ v A,σ[i]? = some (some v) /\ A.Nodup /\ RO K F.pp M H q v A /\ (∀ a∈A,a∈M /\ F.H0 a=none /\ F.pp≠some a) /\ ∀ (j:Nat) s o,j≠i->ρ[j]? = some s->σ[j]? = some o->∀ l,(∃ ds,s = .own ds)->o=some (.ref l)->l∉A:=by
 obtain ⟨o,ho,_⟩:=r.at h
 obtain ⟨As,k1,k2,k3⟩:=r.ow
 obtain ⟨nd,v,rfl,hq⟩:=k1 i _ _ h ho
 refine ⟨v,As i,ho,nd,hq,k2 i,fun j s o e h1 h2 l hs ho' hl=>?_⟩
 obtain ⟨ds,rfl⟩:=hs
 subst ho'
 obtain ⟨l2,e2,e3⟩:=k1 j _ _ h1 h2
 cases e2
 exact k3 j i e l (by rw [e3]; simp) hl
theorem RSt.freezeO {K:PySem.W.Frag} {M:List Addr} {H:Hp} {σ:St} {ρ:DS} {i:Nat} {q:O} (r:RSt K F M H σ ρ) (h:ρ[i]? = some (.obj q)) :
  ∃ M' v,σ[i]? = some (some v) /\ Mv K F.pp M H M' H /\ RSt K F M' H σ (ρ.set i (.val (fzO q))) /\ Rep K F.pp M' H (fzO q) v:=by
 obtain ⟨As,k1,k2,k3⟩:=r.ow
 obtain ⟨o,ho,_⟩:=r.at h
 obtain ⟨nd,v,rfl,hq⟩:=k1 i _ _ h ho
 have m:Mv K F.pp M H (M.filter fun a=>decide (a∉As i)) H:=.less fun a ha=>(List.mem_filter.mp ha).1
 have rl:Rep K F.pp (M.filter fun a=>decide (a∉As i)) H (fzO q) v:=RO.fz m q v (As i) (fun a ha=>⟨fun z=>absurd ha (by simpa using (List.mem_filter.mp z).2),(k2 i a ha).2.2⟩) hq
 refine ⟨_,_,ho,m,⟨by simp [r.len],fun j s o h1 h2=>?_,⟨fun j=>if j=i then [] else As j,fun j s o e1 e2=>?_,fun j a ha=>?_,fun j l e a ha hb=>?_⟩,fun a ha=>?_,r.same,r.old,?_,r.lk.cl m⟩,rl⟩
 ·by_cases e:i=j
  ·subst e
   rw [ho] at h2
   rw [bj h1]
   cases h2
   exact ⟨_,rfl,rl⟩
  ·rw [List.getElem?_set_ne e] at h1
   have q':=r.sl j s o h1 h2
   cases s with
   | nil=>trivial
   | val d=>obtain ⟨v,e,q⟩:=q'; exact ⟨v,e,q.mv m⟩
   | pin w d=>obtain ⟨v,e,ew,q⟩:=q'; exact ⟨v,e,ew,q.mv m⟩
   | own es =>
    obtain ⟨l',ys,rfl,hm',h0',hp',hl',hr'⟩:=q'
    refine ⟨l',ys,rfl,List.mem_filter.mpr ⟨hm',?_⟩,h0',hp',hl',hr'.mv m⟩
    obtain ⟨l2,e2,e3⟩:=k1 j _ _ h1 h2
    cases e2
    simpa using k3 j i (Ne.symm e) l' (by rw [e3]; simp)
   | obj q=>exact ‹_›
 ·show Ow K F _ H s o (if j=i then [] else As j)
  by_cases e:j=i
  ·subst e
   rw [bj e1]
   trivial
  ·rw [if_neg e]
   rw [List.getElem?_set_ne (Ne.symm e)] at e1
   exact (k1 j s o e1 e2).mv m fun a _ x z _=>z
 ·replace ha:a∈(if j=i then [] else As j):=ha
  by_cases e:j=i
  ·rw [if_pos e] at ha; simp at ha
  ·rw [if_neg e] at ha
   exact ⟨List.mem_filter.mpr ⟨(k2 j a ha).1,by simpa using k3 j i e a ha⟩,(k2 j a ha).2⟩
 ·replace ha:a∈(if j=i then [] else As j):=ha
  replace hb:a∈(if l=i then [] else As l):=hb
  by_cases e1:j=i
  ·rw [if_pos e1] at ha; simp at ha
  ·by_cases e2:l=i
   ·rw [if_pos e2] at hb; simp at hb
   ·rw [if_neg e1] at ha
    rw [if_neg e2] at hb
    exact k3 j l e a ha hb
 ·refine List.mem_filter.mpr ⟨r.sub a ha,?_⟩
  have:a∉As i:=fun z=>r.old a ha (k2 i a z).2.1
  simpa using this
 ·exact ⟨fun a ha=>r.liv.m a (List.mem_filter.mp ha).1,r.liv.p⟩
theorem ac (i:Nat) {e:Expr} (h:PE X e (tVar i)):PED X e (dVar i):=by
 refine ⟨fun ρ P P' f h=>?_,_,h,fun {F} M H σ ρ Q rs h=>?_⟩
 ·unfold dVar at h ⊢
  cases e:slot ρ i with
  | nil=>rw [e] at h; exact h
  | val d=>rw [e] at h; exact f _ _ h
  | own ds=>rw [e] at h; exact f _ _ h
  | obj q=>rw [e] at h; exact f _ _ h
  | pin w d=>rw [e] at h; exact f _ _ h
 ·unfold dVar at h
  cases e:slot ρ i with
  | nil=>rw [e] at h; exact h.elim
  | val d =>
   rw [e] at h
   obtain ⟨o,ho,v,rfl,r⟩:=rs.at (aZ e (by intro z; cases z))
   exact ⟨v,ho,h M H v .refl rs r⟩
  | pin w d =>
   rw [e] at h
   obtain ⟨o,ho,v,rfl,_,r⟩:=rs.at (aZ e (by intro z; cases z))
   exact ⟨v,ho,h M H v .refl rs r⟩
  | own ds =>
   rw [e] at h
   obtain ⟨M',v,ho,m,rs',r⟩:=rs.freeze (aZ e (by intro z; cases z))
   exact ⟨v,ho,h M' H v m rs' r⟩
  | obj q =>
   rw [e] at h
   obtain ⟨M',v,ho,m,rs',r⟩:=rs.freezeO (aZ e (by intro z; cases z))
   exact ⟨v,ho,h M' H v m rs' r⟩
structure OpD (X:Cx) (f:Value->Value->Sem Value) (g:D->D->(D->Prop)->Prop):Prop where
 mono:∀ x y P P',(∀ d,P d->P' d)->g x y P->g x y P'
 run:∃ r:R2,OpR X f r /\ ∀ {pp:Option Addr} M H x y v u (Q:VK),Lv pp M H->Rep X.K pp M H x v->Rep X.K pp M H y u ->
  g x y (fun d=>∀ H' w,SameP X.K pp H H'->Rep X.K pp M H' d w->Q w H')->r v u H Q
abbrev dOp (g:D->D->(D->Prop)->Prop) (ta tb:DE):DE:=fun ρ Q=>ta ρ fun x ρ1=>tb ρ1 fun y ρ2=>g x y fun d=>Q d ρ2
variable {a b c:Expr} {ta tb tc:DE} {pos:Pos} {g g':D->D->(D->Prop)->Prop}
theorem jh {g:D->D->(D->Prop)->Prop} (hg:∀ x y P P',(∀ d,P d->P' d)->g x y P->g x y P') (ha:PED X a ta) (hb:PED X b tb):∀ ρ P P',(∀ d ρ',P d ρ'->P' d ρ')->dOp g ta tb ρ P->dOp g ta tb ρ P' :=
 fun ρ _ _ f h=>ha.mono _ _ _ (fun _ _ h=>hb.mono _ _ _ (fun _ _ h=>hg _ _ _ _ (fun _ h=>f _ _ h) h) h) h
theorem nT {g:D->D->(D->Prop)->Prop} {r:R2} {Ta Tb:TE} (hg:∀ M H x y v u (Q:VK),Lv F.pp M H->Rep X.K F.pp M H x v->Rep X.K F.pp M H y u ->
   g x y (fun d=>∀ H' w,SameP X.K F.pp H H'->Rep X.K F.pp M H' d w->Q w H')->r v u H Q)
  (hgm:∀ x y P P',(∀ d,P d->P' d)->g x y P->g x y P') (ha:PED X a ta) (hb:PED X b tb)
  (ra:∀ M H σ ρ (Q:VK),RSt X.K F M H σ ρ->(ta ρ fun d ρ'=>∀ M' H' v,Mv X.K F.pp M H M' H'->RSt X.K F M' H' σ ρ'->Rep X.K F.pp M' H' d v->Q v H')->Ta σ H Q)
  (rb:∀ M H σ ρ (Q:VK),RSt X.K F M H σ ρ->(tb ρ fun d ρ'=>∀ M' H' v,Mv X.K F.pp M H M' H'->RSt X.K F M' H' σ ρ'->Rep X.K F.pp M' H' d v->Q v H')->Tb σ H Q)
  {M:List Addr} {H:Hp} {σ:St} {ρ:DS} {Q:VK} (rs:RSt X.K F M H σ ρ)
  (h:dOp g ta tb ρ fun d ρ'=>∀ M' H' v,Mv X.K F.pp M H M' H'->RSt X.K F M' H' σ ρ'->Rep X.K F.pp M' H' d v->Q v H'):tOp r Ta Tb σ H Q:=by
 refine ra M H σ ρ _ rs (ha.mono _ _ _ (fun x ρ1 h M1 H1 v m1 rs1 r1=>?_) h)
 refine rb M1 H1 σ ρ1 _ rs1 (hb.mono _ _ _ (fun y ρ2 h M2 H2 u m2 rs2 r2=>?_) h)
 refine hg M2 H2 x y v u _ rs2.liv (r1.mv m2) r2 (hgm _ _ _ _ (fun d h H' w s r=>?_) h)
 exact h M2 H' w ((m1.trans m2).trans s.mv) (rs2.sameP s) r
theorem aL {op:Operator} (ho:OpD X (binaryOp op) g) (ha:PED X a ta) (hb:PED X b tb):PED X (.BinOp a op b pos) (dOp g ta tb):=by
 obtain ⟨r,hr,hg⟩:=ho.run
 obtain ⟨Ta,pa,ra⟩:=ha.run
 obtain ⟨Tb,pb,rb⟩:=hb.run
 exact ⟨jh ho.mono ha hb,_,fh hr pa pb,fun {F} M H σ ρ Q rs h=>nT hg ho.mono ha hb ra rb rs h⟩
theorem eD {op:CmpOp} (ho:OpD X (compareOp op) g) (ha:PED X a ta) (hb:PED X b tb) (hm:behindInMarks op b=false):PED X (.Compare a [op] [b] pos) (dOp g ta tb):=by
 obtain ⟨r,hr,hg⟩:=ho.run
 obtain ⟨Ta,pa,ra⟩:=ha.run
 obtain ⟨Tb,pb,rb⟩:=hb.run
 exact ⟨jh ho.mono ha hb,_,yD hr pa pb hm,fun {F} M H σ ρ Q rs h=>nT hg ho.mono ha hb ra rb rs h⟩
def blD:D->(Bool->Prop)->Prop
 | .bl b,P=>P b
 | _,_=>False
theorem lg {d:D} {P P':Bool->Prop} (f:∀ b,P b->P' b) (h:blD d P):blD d P':=by cases d <;> first | exact h | exact f _ h
abbrev dB (t:DE):DT:=fun ρ Q=>t ρ fun d ρ'=>blD d fun b=>Q b ρ'
theorem lQ {K:PySem.W.Frag} {pp:Option Addr} {M:List Addr} {H:Hp} {d:D} {v:V} {P:Bool->Prop} (r:Rep K pp M H d v) (h:blD d P):∃ k,v = .bl k /\ P k:=by
 cases d <;> first | exact h.elim | (simp only [Rep] at r; exact ⟨_,r,h⟩)
theorem vk (ha:PED X a ta):∀ ρ P P',(∀ b ρ',P b ρ'->P' b ρ')->dB ta ρ P->dB ta ρ P':=fun _ _ _ f h=>ha.mono _ _ _ (fun _ _ h=>lg (fun _ h=>f _ _ h) h) h
theorem aH {op:CmpOp} (ho:OpD X (compareOp op) g) (ha:PED X a ta) (hb:PED X b tb) (hm:behindInMarks op b=false):PTD X (.Compare a [op] [b] pos) (dB (dOp g ta tb)):=by
 obtain ⟨r,hr,hg⟩:=ho.run
 obtain ⟨Ta,pa,ra⟩:=ha.run
 obtain ⟨Tb,pb,rb⟩:=hb.run
 refine ⟨vk (X:=X) (a:=.Compare a [op] [b] pos) (eD ho ha hb hm),_,lD hr pa pb hm,fun {F} M H σ ρ Q rs h=>?_⟩
 refine nT hg ho.mono ha hb ra rb rs (jh ho.mono ha hb _ _ _ (fun d ρ' h M' H' v m rs' r=>?_) h)
 obtain ⟨k,e,h⟩:=lQ r h
 exact ⟨k,e,h M' H' m rs'⟩
theorem cO {e:Expr} {t:DE} (h:PED X e t) (he:∀ whole,isTrue e X.env whole=(do let v ← whole; standAt e.pos; holding [v] (truthy v)):=by intro _; rfl):PTD X e (dB t):=by
 obtain ⟨T,p,r⟩:=h.run
 refine ⟨vk h,_,Ar p he,fun {F} M H σ ρ Q rs q=>?_⟩
 refine r M H σ ρ _ rs (h.mono _ _ _ (fun d ρ' h M' H' v m rs' r=>?_) q)
 obtain ⟨k,e,h⟩:=lQ r h
 exact ⟨k,e,h M' H' m rs'⟩
structure Br (b:Bool) (A B:Prop):Prop where
 yes:b=true->A
 no:b=false->B
theorem Br.t {A B:Prop} (h:A):Br true A B:=⟨fun _=>h,fun e=>nomatch e⟩
theorem Br.f {A B:Prop} (h:B):Br false A B:=⟨(fun e=>nomatch e),fun _=>h⟩
abbrev dNot (t:DT):DT:=fun ρ Q=>t ρ fun b ρ'=>Q (!b) ρ'
abbrev dAnd (t u:DT):DT:=fun ρ Q=>t ρ fun b ρ'=>Br b (u ρ' Q) (Q false ρ')
abbrev dOr (t u:DT):DT:=fun ρ Q=>t ρ fun b ρ'=>Br b (Q true ρ') (u ρ' Q)
variable {tA tB:DT} {rest:List Expr}
theorem gA (h:PTD X a tA):PTD X (.UnaryOp .Not a pos) (dNot tA):=by
 obtain ⟨T,p,r⟩:=h.run
 exact ⟨fun _ _ _ f q=>h.mono _ _ _ (fun _ _ q=>f _ _ q) q,_,Av p,fun {F} M H σ ρ Q rs q=>r M H σ ρ _ rs q⟩
theorem PWD.pt {e:Expr} {t:DT} (h:PWD X e t):PTD X e t:=by
 obtain ⟨T,p,r⟩:=h.run
 exact ⟨h.mono,T,p.pt,r⟩
theorem iE (h:PTD X a tA):PWD X (.BoolOp .And [a] pos) tA:=by
 obtain ⟨T,p,r⟩:=h.run
 exact ⟨h.mono,T,yt p,r⟩
theorem ji (h:PTD X a tA):PWD X (.BoolOp .Or [a] pos) tA:=by
 obtain ⟨T,p,r⟩:=h.run
 exact ⟨h.mono,T,xQ p,r⟩
theorem lR (ha:PTD X a tA) (hb:PWD X (.BoolOp .And (b::rest) pos) tB):PWD X (.BoolOp .And (a::b::rest) pos) (dAnd tA tB):=by
 obtain ⟨T,p,r⟩:=ha.run
 obtain ⟨U,q,s⟩:=hb.run
 refine ⟨fun _ _ _ f h=>ha.mono _ _ _ (fun _ _ h=>⟨fun e=>hb.mono _ _ _ f (h.yes e),fun e=>f _ _ (h.no e)⟩) h,_,At p q,fun {F} M H σ ρ Q rs h=>?_⟩
 refine r M H σ ρ _ rs (ha.mono _ _ _ (fun c ρ1 h M1 H1 m1 rs1=>?_) h)
 cases c with
 | true=>exact iteT (s M1 H1 σ ρ1 _ rs1 (hb.mono _ _ _ (fun c ρ2 h M2 H2 m2 rs2=>h M2 H2 (m1.trans m2) rs2) (h.yes rfl)))
 | false=>exact iteF (h.no rfl M1 H1 m1 rs1)
theorem lS (ha:PTD X a tA) (hb:PWD X (.BoolOp .Or (b::rest) pos) tB):PWD X (.BoolOp .Or (a::b::rest) pos) (dOr tA tB):=by
 obtain ⟨T,p,r⟩:=ha.run
 obtain ⟨U,q,s⟩:=hb.run
 refine ⟨fun _ _ _ f h=>ha.mono _ _ _ (fun _ _ h=>⟨fun e=>f _ _ (h.yes e),fun e=>hb.mono _ _ _ f (h.no e)⟩) h,_,Au p q,fun {F} M H σ ρ Q rs h=>?_⟩
 refine r M H σ ρ _ rs (ha.mono _ _ _ (fun c ρ1 h M1 H1 m1 rs1=>?_) h)
 cases c with
 | true=>exact iteT (h.yes rfl M1 H1 m1 rs1)
 | false=>exact iteF (s M1 H1 σ ρ1 _ rs1 (hb.mono _ _ _ (fun c ρ2 h M2 H2 m2 rs2=>h M2 H2 (m1.trans m2) rs2) (h.no rfl)))
abbrev CY (t:DE):DE:=fun ρ Q=>t ρ fun d ρ'=>blD d fun b=>Q (.bl (!b)) ρ'
abbrev CZ (t u:DE):DE:=fun ρ Q=>t ρ fun d ρ'=>blD d fun b=>Br b (u ρ' Q) (Q (.bl false) ρ')
theorem gC {K:PySem.W.Frag} {pp:Option Addr} {M:List Addr} {H:Hp} {b:Bool}:Rep K pp M H (.bl b) (.bl b):=by simp only [Rep]
theorem bZ {K:PySem.W.Frag} {pp:Option Addr} {M:List Addr} {H:Hp} {b:Int}:Rep K pp M H (.int b) (.int b):=by simp only [Rep]
theorem kC {op} {t:DE} (h:PED X a t):PED X (.BoolOp op [a] pos) t:=by
 obtain ⟨T,p,r⟩:=h.run
 exact ⟨h.mono,T,Aw p,r⟩
theorem Bn (h:PED X a ta):PED X (.UnaryOp .Not a pos) (CY ta):=by
 obtain ⟨T,p,r⟩:=h.run
 refine ⟨fun _ _ _ f q=>h.mono _ _ _ (fun _ _ q=>lg (fun _ q=>f _ _ q) q) q,_,Ay p,fun {F} M H σ ρ Q rs q=>r M H σ ρ _ rs (h.mono _ _ _ (fun d ρ' q M' H' v m rs' r=>?_) q)⟩
 obtain ⟨k,e,q⟩:=lQ r q
 exact ⟨k,e,q M' H' _ m rs' gC⟩
theorem jk (ha:PED X a ta) (hb:PED X (.BoolOp .And (b::rest) pos) tb):PED X (.BoolOp .And (a::b::rest) pos) (CZ ta tb):=by
 obtain ⟨T,p,r⟩:=ha.run
 obtain ⟨U,q,s⟩:=hb.run
 refine ⟨fun _ _ _ f h=>ha.mono _ _ _ (fun _ _ h=>lg (fun _ h=>⟨fun e=>hb.mono _ _ _ f (h.yes e),fun e=>f _ _ (h.no e)⟩) h) h,_,Ax p q,fun {F} M H σ ρ Q rs h=>?_⟩
 refine r M H σ ρ _ rs (ha.mono _ _ _ (fun d ρ1 h M1 H1 v m1 rs1 r1=>?_) h)
 obtain ⟨c,e,h⟩:=lQ r1 h
 refine ⟨c,e,?_⟩
 cases c with
 | true=>exact iteT (s M1 H1 σ ρ1 _ rs1 (hb.mono _ _ _ (fun c ρ2 h M2 H2 v m2 rs2=>h M2 H2 v (m1.trans m2) rs2) (h.yes rfl)))
 | false=>exact iteF (h.no rfl M1 H1 _ m1 rs1 gC)
abbrev dIf (t:DT) (ta tb:DE):DE:=fun ρ Q=>t ρ fun b ρ'=>Br b (ta ρ' Q) (tb ρ' Q)
theorem sD {c:Expr} (hc:PTD X c tA) (ha:PED X a ta) (hb:PED X b tb):PED X (.IfExp c a b pos) (dIf tA ta tb):=by
 obtain ⟨T,p,r⟩:=hc.run
 obtain ⟨U,q,s⟩:=ha.run
 obtain ⟨U',q',s'⟩:=hb.run
 refine ⟨fun _ _ _ f h=>hc.mono _ _ _ (fun _ _ h=>⟨fun e=>ha.mono _ _ _ f (h.yes e),fun e=>hb.mono _ _ _ f (h.no e)⟩) h,_,wC p q q',fun {F} M H σ ρ Q rs h=>?_⟩
 refine r M H σ ρ _ rs (hc.mono _ _ _ (fun c ρ1 h M1 H1 m1 rs1=>?_) h)
 cases c with
 | true=>exact iteT (s M1 H1 σ ρ1 _ rs1 (ha.mono _ _ _ (fun c ρ2 h M2 H2 v m2 rs2=>h M2 H2 v (m1.trans m2) rs2) (h.yes rfl)))
 | false=>exact iteF (s' M1 H1 σ ρ1 _ rs1 (hb.mono _ _ _ (fun c ρ2 h M2 H2 v m2 rs2=>h M2 H2 v (m1.trans m2) rs2) (h.no rfl)))
abbrev sE (g g':D->D->(D->Prop)->Prop) (ta tb tc:DE):DE:=fun ρ Q=>ta ρ fun x ρ1=>tb ρ1 fun y ρ2=>g x y fun d=>blD d fun k=>Br k (tc ρ2 fun z ρ3=>g' y z fun d=>Q d ρ3) (Q (.bl false) ρ2)
theorem rm (ho:∀ x y P P',(∀ d,P d->P' d)->g x y P->g x y P') (ho':∀ x y P P',(∀ d,P d->P' d)->g' x y P->g' x y P') (ha:PED X a ta) (hb:PED X b tb) (hc:PED X c tc) :
  ∀ ρ P P',(∀ d ρ',P d ρ'->P' d ρ')->sE g g' ta tb tc ρ P->sE g g' ta tb tc ρ P' :=
 fun _ _ _ f h=>ha.mono _ _ _ (fun _ _ h=>hb.mono _ _ _ (fun _ _ h=>ho _ _ _ _ (fun _ h=>lg (fun _ h=>⟨fun e=>hc.mono _ _ _ (fun _ _ h=>ho' _ _ _ _ (fun _ h=>f _ _ h) h) (h.yes e),fun e=>f _ _ (h.no e)⟩) h) h) h) h
theorem tX {op op':CmpOp} (ho:OpD X (compareOp op) g) (ho':OpD X (compareOp op') g') (ha:PED X a ta) (hb:PED X b tb) (hc:PED X c tc)  :
  ∃ (r r':R2) (Ta Tb Tc:TE),OpR X (compareOp op) r /\ OpR X (compareOp op') r' /\ PE X a Ta /\ PE X b Tb /\ PE X c Tc /\ ∀ {F:Fx} M H σ ρ (Q:VK),RSt X.K F M H σ ρ ->
  (sE g g' ta tb tc ρ fun d ρ'=>∀ M' H' v,Mv X.K F.pp M H M' H'->RSt X.K F M' H' σ ρ'->Rep X.K F.pp M' H' d v->Q v H')->xS r r' Ta Tb Tc σ H Q:=by
 obtain ⟨r,hr,hg⟩:=ho.run
 obtain ⟨r',hr',hg'⟩:=ho'.run
 obtain ⟨Ta,pa,ra⟩:=ha.run
 obtain ⟨Tb,pb,rb⟩:=hb.run
 obtain ⟨Tc,pc,rc⟩:=hc.run
 refine ⟨r,r',Ta,Tb,Tc,hr,hr',pa,pb,pc,fun {F} M H σ ρ Q rs h=>?_⟩
 refine ra M H σ ρ _ rs (ha.mono _ _ _ (fun x ρ1 h M1 H1 v m1 rs1 r1=>?_) h)
 refine rb M1 H1 σ ρ1 _ rs1 (hb.mono _ _ _ (fun y ρ2 h M2 H2 u m2 rs2 r2=>?_) h)
 refine hg M2 H2 x y v u _ rs2.liv (r1.mv m2) r2 (ho.mono _ _ _ _ (fun d h H' w s r=>?_) h)
 obtain ⟨k,e,h⟩:=lQ r h
 refine ⟨k,e,?_⟩
 have rs3:=rs2.sameP s
 have m3:Mv X.K F.pp M H M2 H':=(m1.trans m2).trans s.mv
 cases k with
 | false=>exact iteF (h.no rfl M2 H' _ m3 rs3 gC)
 | true =>
  refine iteT (rc M2 H' σ ρ2 _ rs3 (hc.mono _ _ _ (fun z ρ3 h M4 H4 w' m4 rs4 r4=>?_) (h.yes rfl)))
  refine hg' M4 H4 y z u w' _ rs4.liv ((r2.mv s.mv).mv m4) r4 (ho'.mono _ _ _ _ (fun d h H5 w s r=>?_) h)
  exact h M4 H5 w ((m3.trans m4).trans s.mv) (rs4.sameP s) r
theorem wV {op op':CmpOp} (ho:OpD X (compareOp op) g) (ho':OpD X (compareOp op') g') (ha:PED X a ta) (hb:PED X b tb) (hc:PED X c tc)
  (hm:lastMarks [op,op'] [b,c]=false:=by with_unfolding_all rfl):PED X (.Compare a [op,op'] [b,c] pos) (sE g g' ta tb tc):=by
 obtain ⟨r,r',Ta,Tb,Tc,hr,hr',pa,pb,pc,h⟩:=tX ho ho' ha hb hc
 exact ⟨rm ho.mono ho'.mono ha hb hc,_,wH hr hr' pa pb pc hm,h⟩
variable {tL:DA} {es:List Expr} {e:Expr}
abbrev za:DA:=fun ρ Q=>Q [] ρ
abbrev sF (t:DE) (u:DA):DA:=fun ρ Q=>t ρ fun x ρ1=>u ρ1 fun xs ρ2=>Q (x::xs) ρ2
theorem af:PAD X [] za:=⟨fun _ _ _ f h=>f _ _ h,_,jb,fun {F} M H _ _ _ rs h=>h M H [] .refl rs .nil⟩
theorem aa (ha:PED X e ta) (hr:PAD X es tL) (hs:starEach (e::es) X.env=(false,eval e X.env)::starEach es X.env:=by rfl):PAD X (e::es) (sF ta tL):=by
 obtain ⟨T,p,r⟩:=ha.run
 obtain ⟨U,q,s⟩:=hr.run
 refine ⟨fun _ _ _ f h=>ha.mono _ _ _ (fun _ _ h=>hr.mono _ _ _ (fun _ _ h=>f _ _ h) h) h,_,eQ p q hs,fun {F} M H σ ρ Q rs h=>?_⟩
 refine r M H σ ρ _ rs (ha.mono _ _ _ (fun x ρ1 h M1 H1 v m1 rs1 r1=>?_) h)
 exact s M1 H1 σ ρ1 _ rs1 (hr.mono _ _ _ (fun ds ρ2 h M2 H2 vs m2 rs2 r2=>h M2 H2 (v::vs) (m1.trans m2) rs2 (.cons (r1.mv m2) r2)) h)
abbrev dTup (t:DA):DE:=fun ρ Q=>t ρ fun xs ρ1=>xs.length <= sizeLine /\ Q (.tup xs) ρ1
theorem bO {x1} (h:PAD X es tL):PED X (.Tuple es x1 pos) (dTup tL):=by
 obtain ⟨T,p,r⟩:=h.run
 refine ⟨fun _ _ _ f q=>h.mono _ _ _ (fun _ _ q=>⟨q.1,f _ _ q.2⟩) q,_,AN p,fun {F} M H σ ρ Q rs q=>?_⟩
 refine r M H σ ρ _ rs (h.mono _ _ _ (fun ds ρ1 q M1 H1 vs m1 rs1 r1=>?_) q)
 refine ⟨by rw [← r1.length]; exact q.1,fun l hl=>?_⟩
 refine q.2 M1 _ _ (m1.trans (.new hl)) (rs1.sameP (.new hl)) ?_
 simp only [Rep]
 exact ⟨l,vs,rfl,au,r1.mv (.new hl)⟩
structure PLD (X:Cx) (e:Expr) (t:DA):Prop where
 mono:∀ ρ P P',(∀ d ρ',P d ρ'->P' d ρ')->t ρ P->t ρ P'
 run:∃ T:TE,PE X e T /\ ∀ {F:Fx} M H σ ρ (Q:VK),RSt X.K F M H σ ρ ->
  (t ρ fun ds ρ'=>∀ M' H1 H' l xs,Mv X.K F.pp M H M' H1->RSt X.K F M' H1 σ ρ'->H1 l=none->H'=upd H1 l (.lst xs)->Reps X.K F.pp M' H1 ds xs->Q (.ref l) H')->T σ H Q
abbrev dLst (t:DA):DA:=fun ρ Q=>t ρ fun xs ρ1=>xs.length <= sizeLine /\ Q xs ρ1
theorem kD (h:PAD X es tL):PLD X (.List es pos) (dLst tL):=by
 obtain ⟨T,p,r⟩:=h.run
 refine ⟨fun _ _ _ f q=>h.mono _ _ _ (fun _ _ q=>⟨q.1,f _ _ q.2⟩) q,_,xT p,fun {F} M H σ ρ Q rs q=>?_⟩
 refine r M H σ ρ _ rs (h.mono _ _ _ (fun ds ρ1 q M1 H1 vs m1 rs1 r1=>?_) q)
 exact ⟨by rw [← r1.length]; exact q.1,fun l hl=>q.2 M1 H1 _ l vs m1 rs1 hl rfl r1⟩
abbrev dFrz (t:DA):DE:=fun ρ Q=>t ρ fun xs ρ1=>Q (.lst xs) ρ1
theorem dP (h:PLD X e tL):PED X e (dFrz tL):=by
 obtain ⟨T,p,r⟩:=h.run
 refine ⟨fun _ _ _ f q=>h.mono _ _ _ (fun _ _ q=>f _ _ q) q,T,p,fun {F} M H σ ρ Q rs q=>?_⟩
 refine r M H σ ρ _ rs (h.mono _ _ _ (fun ds ρ1 q M1 H1 H' l xs m1 rs1 hl e r1=>?_) q)
 subst e
 refine q M1 _ _ (m1.trans (.new hl)) (rs1.sameP (.new hl)) ?_
 simp only [Rep]
 exact ⟨l,xs,rfl,(rs1.liv.fresh hl).1,(rs1.liv.fresh hl).2,au,r1.mv (.new hl)⟩
end
end DL
namespace DL
open PySem PySem.Spec L2
open PyProof.Rows hiding St
variable [TB]
variable [Frm]
abbrev DSp:=List D->(D->Prop)->Prop
def spD (K:PySem.W.Frag) (n:Nat) (g:DSp):Sp:=fun vs H Q _=>∃ pp M ds,Lv pp M H /\ Reps K pp M H ds vs /\ ds.length=n /\ g ds (fun d=>∀ H' v,SameP K pp H H'->Rep K pp M H' d v->Q v H')
def aV (g:DSp):Prop:=∀ ds P P',(∀ d,P d->P' d)->g ds P->g ds P'
structure CallD (X:Cx) (f:Value) (g:DSp):Prop where
 mono:aV g
 run:∃ r:List V->Hp->VK->Prop,CallR X f r /\ ∀ {pp:Option Addr} M H ds vs (Q:VK),Lv pp M H->Reps X.K pp M H ds vs->g ds (fun d=>∀ H' w,SameP X.K pp H H'->Rep X.K pp M H' d w->Q w H')->r vs H Q
abbrev dCB (g:DSp) (t:DA):DE:=fun ρ Q=>t ρ fun ds ρ1=>g ds fun d=>Q d ρ1
abbrev zb (n:Nat) (g:DSp) (t:DA):DE:=fun ρ Q=>t ρ fun ds ρ1=>ds.length=n /\ g ds fun d=>Q d ρ1
section
variable {X:Cx} {F:Fx} {x:Str} {p pos:Pos} {e:Expr} {es:List Expr} {t:DA} {id T:String} {g:DSp}
theorem aN (hc:CallD X (.builtin id) g) (hg:Gl X x) (hm:X.mg x=none) (hv:bootBuiltins x=some (.builtin id)) (ha:PAD X (e::es) t) (hn:x ≠ "__name__":=by decide) (hdb:(x == ("__debug__" : Str))=false:=by decide)
  (he:starEach (e::es) X.env=(false,eval e X.env)::starEach es X.env:=by rfl) (hpl:(backTo pos (starEach es X.env)).any (·.1)=false:=by rfl):PED X (.Call (.Name x p) (e::es) [] pos) (dCB g t):=by
 obtain ⟨r,hr,h⟩:=hc.run
 obtain ⟨T,pa,ra⟩:=ha.run
 refine ⟨fun _ _ _ f q=>ha.mono _ _ _ (fun _ _ q=>hc.mono _ _ _ (fun _ q=>f _ _ q) q) q,_,kZ hr hg hm hv pa hn hdb he hpl,fun {F} M H σ ρ Q rs q=>?_⟩
 refine ra M H σ ρ _ rs (ha.mono _ _ _ (fun ds ρ1 q M1 H1 vs m1 rs1 r1=>?_) q)
 exact h M1 H1 ds vs _ rs1.liv r1 (hc.mono _ _ _ (fun d q H' w s r=>q M1 H' w (m1.trans s.mv) (rs1.sameP s) r) q)
theorem jl (hc:CallD X (.type T) g) (hg:Gl X x) (hm:X.mg x=none) (hv:bootBuiltins x=some (.type T)) (ha:PAD X (e::es) t) (hn:x ≠ "__name__":=by decide) (hdb:(x == ("__debug__" : Str))=false:=by decide)
  (he:starEach (e::es) X.env=(false,eval e X.env)::starEach es X.env:=by rfl) (hpl:(backTo pos (starEach es X.env)).any (·.1)=false:=by rfl):PED X (.Call (.Name x p) (e::es) [] pos) (dCB g t):=by
 obtain ⟨r,hr,h⟩:=hc.run
 obtain ⟨T,pa,ra⟩:=ha.run
 refine ⟨fun _ _ _ f q=>ha.mono _ _ _ (fun _ _ q=>hc.mono _ _ _ (fun _ q=>f _ _ q) q) q,_,pz hr hg hm hv pa hn hdb he hpl,fun {F} M H σ ρ Q rs q=>?_⟩
 refine ra M H σ ρ _ rs (ha.mono _ _ _ (fun ds ρ1 q M1 H1 vs m1 rs1 r1=>?_) q)
 exact h M1 H1 ds vs _ rs1.liv r1 (hc.mono _ _ _ (fun d q H' w s r=>q M1 H' w (m1.trans s.mv) (rs1.sameP s) r) q)
theorem ag {k n:Nat} {f:Addr} {fd:FuncData} {ps:List Str} (Fn:FnOk X.prog X.w X.K X.mg X.base CX0 k f fd ps (spD X.K n g)) (gm:aV g) (hr:Room k X.A) (hg:Gl X x) (hm:X.mg x=some (.ref f)) (hk:PySem.W.keepIn X.K (.ref f)=true) (hb:Binds X.K fd ps [])
  (ha:PAD X (e::es) t) (hdb:(x == ("__debug__" : Str))=false:=by decide) (he:starEach (e::es) X.env=(false,eval e X.env)::starEach es X.env:=by rfl) (hpl:(backTo pos (starEach es X.env)).any (·.1)=false:=by rfl) :
  PED X (.Call (.Name x p) (e::es) [] pos) (zb n g t):=by
 obtain ⟨T,pa,ra⟩:=ha.run
 refine ⟨fun _ _ _ f q=>ha.mono _ _ _ (fun _ _ q=>⟨q.1,gm _ _ _ (fun _ q=>f _ _ q) q.2⟩) q,_,qS Fn hr hg hm hk hb .nil yP pa hdb he hpl,fun {F} M H σ ρ Q rs q=>?_⟩
 refine ra M H σ ρ _ rs (ha.mono _ _ _ (fun ds ρ1 q M1 H1 vs m1 rs1 r1=>?_) q)
 rw [List.append_nil]
 exact ⟨F.pp,M1,ds,rs1.liv,r1,q.1,gm _ _ _ (fun d q H' w s r=>q M1 H' w (m1.trans s.mv) (rs1.sameP s) r) q.2⟩
end
structure EO (K:PySem.W.Frag) (F:Fx) (M:List Addr) (H:Hp) (E:DEnds) (D:Ends):Prop where
 nx:∀ M' H' σ' ρ',Mv K F.pp M H M' H'->RSt K F M' H' σ' ρ'->E.nx ρ'->D.nx σ' H'
 bk:∀ M' H' σ' ρ',Mv K F.pp M H M' H'->RSt K F M' H' σ' ρ'->E.bk ρ'->D.bk σ' H'
 ct:∀ M' H' σ' ρ',Mv K F.pp M H M' H'->RSt K F M' H' σ' ρ'->E.ct ρ'->D.ct σ' H'
 rt:∀ M' H' σ' ρ' d v,Mv K F.pp M H M' H'->RSt K F M' H' σ' ρ'->Rep K F.pp M' H' d v->E.rt d->D.rt v H'
theorem EO.mv {K:PySem.W.Frag} {F:Fx} {M M1:List Addr} {H H1:Hp} {E:DEnds} {D:Ends} (o:EO K F M H E D) (m:Mv K F.pp M H M1 H1):EO K F M1 H1 E D :=
 ⟨fun _ _ _ _ m'=>o.nx _ _ _ _ (m.trans m'),fun _ _ _ _ m'=>o.bk _ _ _ _ (m.trans m'),fun _ _ _ _ m'=>o.ct _ _ _ _ (m.trans m'),fun _ _ _ _ _ _ m'=>o.rt _ _ _ _ _ _ (m.trans m')⟩
def PSD (X:Cx) (st:Stmt) (t:DTS):Prop:=∃ T:TS,PS X st T /\ ∀ {F:Fx} M H σ ρ (E:DEnds) (D:Ends),RSt X.K F M H σ ρ->EO X.K F M H E D->t E ρ->T D σ H
def PSsD (X:Cx) (st:List Stmt) (t:DTS):Prop:=∃ T:TS,PSs X st T /\ ∀ {F:Fx} M H σ ρ (E:DEnds) (D:Ends),RSt X.K F M H σ ρ->EO X.K F M H E D->t E ρ->T D σ H
section
variable {X:Cx} {F:Fx} {st:Stmt} {rest a b:List Stmt} {t u:DTS} {e c:Expr} {te:DE} {tc:DT} {tl:DA} {pos:Pos}
abbrev Da:DTS:=fun E ρ=>E.nx ρ
abbrev dSeq (t u:DTS):DTS:=fun E ρ=>t { E with nx:=u E } ρ
abbrev dMid (t u:DTS):DTS:=fun E ρ=>∃ N:DS->Prop,t { E with nx:=N } ρ /\ ∀ ρ',N ρ'->u E ρ'
theorem aF:PSsD X [] Da:=⟨_,nG,fun {F} M H σ ρ E D rs o h=>o.nx M H σ ρ .refl rs h⟩
theorem ah (h:PSD X st t):PSsD X [st] t:=by
 obtain ⟨T,p,r⟩:=h
 exact ⟨T,iD p,r⟩
theorem ai (h1:PSD X st t) (h2:PSsD X rest u):PSsD X (st::rest) (dSeq t u):=by
 obtain ⟨T,p,r⟩:=h1
 obtain ⟨U,q,s⟩:=h2
 refine ⟨_,bY p q,fun {F} M H σ ρ E D rs o h=>r M H σ ρ { E with nx:=u E } { D with nx:=U D } rs ⟨fun M' H' σ' ρ' m rs' h=>?_,o.bk,o.ct,o.rt⟩ h⟩
 exact s M' H' σ' ρ' E D rs' (o.mv m) h
theorem aW (h1:PSD X st t) (h2:PSsD X rest u):PSsD X (st::rest) (dMid t u):=by
 obtain ⟨T,p,r⟩:=h1
 obtain ⟨U,q,s⟩:=h2
 refine ⟨_,bY p q,fun {F} M H σ ρ E D rs o h=>?_⟩
 obtain ⟨N,h,hn⟩:=h
 refine r M H σ ρ { E with nx:=N } { D with nx:=U D } rs ⟨fun M' H' σ' ρ' m rs' h=>?_,o.bk,o.ct,o.rt⟩ h
 exact s M' H' σ' ρ' E D rs' (o.mv m) (hn _ h)
abbrev Bo:DTS:=fun _ _=>False
theorem ik:PSD X st Bo:=⟨_,wE,fun _ _ _ _ _ _ _ _ h=>h⟩
abbrev dRet (te:DE):DTS:=fun E ρ=>te ρ fun d _=>E.rt d
theorem aC (h:PED X e te):PSD X (.Return (some e) pos) (dRet te):=by
 obtain ⟨T,p,r⟩:=h.run
 refine ⟨_,oW p,fun {F} M H σ ρ E D rs o q=>r M H σ ρ _ rs (h.mono _ _ _ (fun d ρ' q M' H' v m rs' r'=>?_) q)⟩
 exact o.rt M' H' σ ρ' d v m rs' r' q
abbrev Db (te:DE):DTS:=fun E ρ=>te ρ fun _ ρ'=>E.nx ρ'
theorem gE (h:PED X e te) (hs:swapsWith e none pos.line X.env=pure false:=by rfl):PSD X (.Expr e pos) (Db te):=by
 obtain ⟨T,p,r⟩:=h.run
 refine ⟨_,uE p hs,fun {F} M H σ ρ E D rs o q=>r M H σ ρ _ rs (h.mono _ _ _ (fun d ρ' q M' H' v m rs' r'=>?_) q)⟩
 exact o.nx M' H' σ ρ' m rs' q
abbrev dIfS (c:DT) (t u:DTS):DTS:=fun E ρ=>c ρ fun b ρ'=>Br b (t E ρ') (u E ρ')
theorem bE (hc:PTD X c tc) (ha:PSsD X a t) (hb:PSsD X b u):PSD X (.If c a b pos) (dIfS tc t u):=by
 obtain ⟨T,p,r⟩:=hc.run
 obtain ⟨U,q,s⟩:=ha
 obtain ⟨U',q',s'⟩:=hb
 refine ⟨_,wD p q q',fun {F} M H σ ρ E D rs o h=>r M H σ ρ _ rs (hc.mono _ _ _ (fun k ρ1 h M1 H1 m1 rs1=>?_) h)⟩
 cases k with
 | true=>exact iteT (s M1 H1 σ ρ1 E D rs1 (o.mv m1) (h.yes rfl))
 | false=>exact iteF (s' M1 H1 σ ρ1 E D rs1 (o.mv m1) (h.no rfl))
abbrev dSet (i:Nat) (te:DE):DTS:=fun E ρ=>te ρ fun d ρ'=>E.nx (ρ'.set i (.val d))
theorem az {i:Nat} {x:Str} {pos':Pos} (hN:X.N.Nodup) (hi:X.N[i]? = some x) (hx:Loc X.env.scope x) (h:PED X e te) (hs:swapsWith e (some (.Name x pos')) pos.line X.env=pure false:=by rfl) (hf:X.fn x=true∨X.env.scope.names.lookup x=some .local:=by first | exact .inl rfl | exact .inr rfl | assumption) :
  PSD X (.Assign [.Name x pos'] e pos) (dSet i te):=by
 obtain ⟨T,p,r⟩:=h.run
 refine ⟨_,iy hN hi hx p hs hf,fun {F} M H σ ρ E D rs o q=>r M H σ ρ _ rs (h.mono _ _ _ (fun d ρ' q M' H' v m rs' r'=>?_) q)⟩
 exact o.nx M' H' _ _ m (rs'.set r' i) q
abbrev dOwn (i:Nat) (t:DA):DTS:=fun E ρ=>t ρ fun ds ρ'=>E.nx (ρ'.set i (.own ds))
theorem RSt.newOwn {K:PySem.W.Frag} {M:List Addr} {H:Hp} {σ:St} {ρ:DS} {l:Addr} {xs:List V} {ds:List D} (r:RSt K F M H σ ρ) (hl:H l=none) (hd:Reps K F.pp M H ds xs) (i:Nat) :
  RSt K F (l::M) (upd H l (.lst xs)) (σ.set i (some (.ref l))) (ρ.set i (.own ds)):=by
 have m:Mv K F.pp M H (l::M) (upd H l (.lst xs)):=.newOwn hl
 have s:SameP K F.pp H (upd H l (.lst xs)):=.new hl
 have h0:F.H0 l=none:=by
  cases e:F.H0 l with
  | none=>rfl
  | some o=>exact absurd hl (r.same.live l (by rw [e]; intro z; cases z))
 refine ⟨by simp [r.len],fun j q o h1 h2=>?_,r.ow.step m i (fun j e=>List.getElem?_set_ne (Ne.symm e)) (fun j e=>List.getElem?_set_ne (Ne.symm e)) (fun A _ _=>⟨[l],fun s o e1 e2=>?_,fun b hb=>?_,fun a ha hp h0' _=>⟨List.mem_cons_of_mem _ ha,fun x e _=>dY hl e⟩⟩),fun a ha=>List.mem_cons_of_mem _ (r.sub a ha),r.same.trans s.toSameQ,r.old,?_,r.lk.cl m⟩
 ·by_cases e:i=j
  ·subst e
   rw [bj h1,bj h2]
   exact ⟨l,xs,rfl,List.mem_cons_self,h0,(r.liv.fresh hl).2,au,hd.mv m⟩
  ·rw [List.getElem?_set_ne e] at h1 h2
   have q':=r.sl j q o h1 h2
   cases q with
   | nil=>trivial
   | val d=>obtain ⟨v,e,q⟩:=q'; exact ⟨v,e,q.mv m⟩
   | pin w d=>obtain ⟨v,e,ew,q⟩:=q'; exact ⟨v,e,ew,q.mv m⟩
   | own es =>
    obtain ⟨l',ys,rfl,hm',h0',hp',hl',hr'⟩:=q'
    exact ⟨l',ys,rfl,List.mem_cons_of_mem _ hm',h0',hp',dY hl hl',hr'.mv m⟩
   | obj q=>exact q'
 ·rw [bj e1,bj e2]
  exact ⟨l,rfl,rfl⟩
 ·rw [List.mem_singleton.mp hb]
  exact ⟨List.mem_cons_self,h0,(r.liv.fresh hl).2,.inr (r.liv.fresh hl).1⟩
 ·refine ⟨fun a ha=>?_,fun p e=>s.live p (r.liv.p p e)⟩
  rcases List.mem_cons.mp ha with rfl | ha
  ·rw [au]; intro z; cases z
  ·exact s.live a (r.liv.m a ha)
theorem pP {i:Nat} {x:Str} {pos':Pos} (hN:X.N.Nodup) (hi:X.N[i]? = some x) (hx:Loc X.env.scope x) (h:PLD X e tl) (hs:swapsWith e (some (.Name x pos')) pos.line X.env=pure false:=by rfl) (hf:X.fn x=true∨X.env.scope.names.lookup x=some .local:=by first | exact .inl rfl | exact .inr rfl | assumption) :
  PSD X (.Assign [.Name x pos'] e pos) (dOwn i tl):=by
 obtain ⟨T,p,r⟩:=h.run
 refine ⟨_,iy hN hi hx p hs hf,fun {F} M H σ ρ E D rs o q=>r M H σ ρ _ rs (h.mono _ _ _ (fun ds ρ' q M' H1 H' l xs m rs' hl e r'=>?_) q)⟩
 subst e
 exact o.nx _ _ _ _ (m.trans (.newOwn hl)) (rs'.newOwn hl r' i) q
abbrev DG:=D->DS->(DS->Prop)->Prop
structure PGD (X:Cx) (tg:Expr) (g:DG):Prop where
 mono:∀ d ρ P P',(∀ ρ',P ρ'->P' ρ')->g d ρ P->g d ρ P'
 run:∃ G:TG,PG X tg G /\ ∀ {F:Fx} M H σ ρ d v (Q:St->Hp->Prop),RSt X.K F M H σ ρ->Rep X.K F.pp M H d v->(g d ρ fun ρ'=>∀ M' H' σ',Mv X.K F.pp M H M' H'->RSt X.K F M' H' σ' ρ'->Q σ' H')->G v σ H Q
abbrev iA (i:Nat):DG:=fun d ρ Q=>Q (ρ.set i (.val d))
theorem aB {i:Nat} {x:Str} (hN:X.N.Nodup) (hi:X.N[i]? = some x) (hx:Loc X.env.scope x) (hf:X.fn x=true∨X.env.scope.names.lookup x=some .local:=by first | exact .inl rfl | exact .inr rfl | assumption):PGD X (.Name x pos) (iA i) :=
 ⟨fun _ _ _ _ f h=>f _ h,_,nH hN hi hx hf,fun {F} M H σ ρ d v Q rs r h=>h M H _ .refl (rs.set r i)⟩
abbrev DGs:=List D->DS->(DS->Prop)->Prop
structure PGsD (X:Cx) (tg:List Expr) (g:DGs):Prop where
 mono:∀ d ρ P P',(∀ ρ',P ρ'->P' ρ')->g d ρ P->g d ρ P'
 run:∃ G:TGs,PGs X tg G /\ ∀ {F:Fx} M H σ ρ ds vs (Q:St->Hp->Prop),RSt X.K F M H σ ρ->Reps X.K F.pp M H ds vs->(g ds ρ fun ρ'=>∀ M' H' σ',Mv X.K F.pp M H M' H'->RSt X.K F M' H' σ' ρ'->Q σ' H')->G vs σ H Q
def Bp:DGs:=fun ds ρ Q=>match ds with
 | []=>Q ρ
 | _=>False
def vm (g:DG) (u:DGs):DGs:=fun ds ρ Q=>match ds with
 | d::r=>g d ρ fun ρ'=>u r ρ' Q
 | []=>False
theorem dZ:PGsD X [] Bp:=by
 refine ⟨fun ds _ _ _ f h=>?_,_,uG,fun {F} M H σ ρ ds vs Q rs r h=>?_⟩
 ·cases ds with
  | nil=>exact f _ h
  | cons=>exact h
 ·cases ds with
  | nil=>simp only [Reps] at r; exact ⟨r,h M H σ .refl rs⟩
  | cons=>exact h.elim
theorem aJ {e:Expr} {es:List Expr} {g:DG} {u:DGs} (h1:PGD X e g) (h2:PGsD X es u)
  (hs:(assignEach (e::es) X.env).map (·.2)=assign e X.env::(assignEach es X.env).map (·.2):=by rfl):PGsD X (e::es) (vm g u):=by
 obtain ⟨G,p,r⟩:=h1.run
 obtain ⟨G',p',r'⟩:=h2.run
 refine ⟨fun ds _ _ _ f h=>?_,_,kY p p' hs,fun {F} M H σ ρ ds vs Q rs rd h=>?_⟩
 ·cases ds with
  | nil=>exact h
  | cons=>exact h1.mono _ _ _ _ (fun _ h=>h2.mono _ _ _ _ f h) h
 ·cases ds with
  | nil=>exact h.elim
  | cons d ds =>
   simp only [Reps] at rd
   obtain ⟨v,vr,rfl,rd,rr⟩:=rd
   refine ⟨v,vr,rfl,r M H σ ρ d v _ rs rd (h1.mono _ _ _ _ (fun ρ' h M1 H1 σ1 m1 rs1=>?_) h)⟩
   exact r' M1 H1 σ1 ρ' ds vr _ rs1 (rr.mv m1) (h2.mono _ _ _ _ (fun ρ2 h M2 H2 σ2 m2 rs2=>h M2 H2 σ2 (m1.trans m2) rs2) h)
def Bt (n:Nat) (g:DGs):DG:=fun d ρ Q=>match d with
 | .tup ds=>ds.length=n /\ g ds ρ Q
 | _=>False
theorem gw {es:List Expr} {k:Nat} {g:DGs} {n:Nat} (hc:X.calm=true) (h:PGsD X es g)
  (hn:(assignEach es X.env).length=n:=by rfl) (hst:(assignEach es X.env).findIdx? (·.1)=none:=by rfl):PGD X (.Tuple es k pos) (Bt n g):=by
 obtain ⟨G,p,r⟩:=h.run
 refine ⟨fun d _ _ _ f q=>?_,_,yR hc p hn hst,fun {F} M H σ ρ d v Q rs rd q=>?_⟩
 ·cases d <;> first | exact q.elim | exact ⟨q.1,h.mono _ _ _ _ f q.2⟩
 ·cases d with
  | tup ds =>
   simp only [Rep] at rd
   obtain ⟨a,xs,rfl,ha,rd⟩:=rd
   exact ⟨a,xs,rfl,ha,by rw [← rd.length]; exact q.1,r M H σ ρ ds xs _ rs rd q.2⟩
  | _=>exact q.elim
abbrev dAsg (te:DE) (g:DG):DTS:=fun E ρ=>te ρ fun d ρ'=>g d ρ' E.nx
theorem Bu {tg:Expr} {g:DG} (he:PED X e te) (hg:PGD X tg g) (hs:swapsWithSole [tg] e pos.line X.env=pure false:=by rfl) (hw:swappedStores [tg] e X.env=pure none:=by rfl) (hh:PS X (.Assign [tg] e pos) (tAsg (Classical.choose he.run) (Classical.choose hg.run)):=by exact oX (Classical.choose_spec he.run).1 (Classical.choose_spec hg.run).1):PSD X (.Assign [tg] e pos) (dAsg te g):=by
 obtain ⟨_,r⟩:=Classical.choose_spec he.run
 obtain ⟨_,r'⟩:=Classical.choose_spec hg.run
 refine ⟨_,hh,fun {F} M H σ ρ E D rs o q=>r M H σ ρ _ rs (he.mono _ _ _ (fun d ρ' q M' H' v m rs' rd=>?_) q)⟩
 exact r' M' H' σ ρ' d v _ rs' rd (hg.mono _ _ _ _ (fun ρ2 q M2 H2 σ2 m2 rs2=>o.nx M2 H2 σ2 ρ2 (m.trans m2) rs2 q) q)
def fT (g:DG) (b:DTS):List D->DEnds->DS->Prop
 | [],E,ρ=>E.nx ρ
 | d::r,E,ρ=>g d ρ fun ρ1=>b { E with nx:=fun ρ'=>fT g b r E ρ',ct:=fun ρ'=>fT g b r E ρ',bk:=E.nx } ρ1
structure ItOkV (K:PySem.W.Frag) (pp:Option Addr) (J:It) (M:List Addr) (H:Hp) (vs:List V):Prop where
 yld:∀ M2 H2,Mv K pp M H M2 H2->∀ i x H3,i < vs.length->J.yld i H2 x H3->H3=H2 /\ vs[i]? = some x
 go:∀ M2 H2,Mv K pp M H M2 H2->∀ i,i < vs.length->J.go i H2
 stop:∀ M2 H2,Mv K pp M H M2 H2->∀ i,vs.length <= i->J.stop i H2
structure ItOk (K:PySem.W.Frag) (pp:Option Addr) (J:It) (M:List Addr) (H:Hp) (ds:List D):Prop where
 yld:∀ M2 H2,Mv K pp M H M2 H2->∀ i d x H3,ds[i]? = some d->J.yld i H2 x H3->SameP K pp H2 H3 /\ Rep K pp M2 H3 d x
 go:∀ M2 H2,Mv K pp M H M2 H2->∀ i,i < ds.length->J.go i H2
 stop:∀ M2 H2,Mv K pp M H M2 H2->∀ i,ds.length <= i->J.stop i H2
theorem ItOkV.of {K:PySem.W.Frag} {pp:Option Addr} {J:It} {M:List Addr} {H:Hp} {vs:List V} {ds:List D} (o:ItOkV K pp J M H vs) (rd:Reps K pp M H ds vs):ItOk K pp J M H ds where
 yld:=fun M2 H2 m i d x H3 e y=>by
  obtain ⟨v,e1,r⟩:=rd.get' e
  obtain ⟨rfl,e2⟩:=o.yld M2 H2 m i x H3 (List.getElem?_eq_some_iff.mp e1).1 y
  rw [e1] at e2
  cases e2
  exact ⟨.refl,r.mv m⟩
 go:=fun M2 H2 m i h=>o.go M2 H2 m i (by rw [← rd.length]; exact h)
 stop:=fun M2 H2 m i h=>o.stop M2 H2 m i (by rw [← rd.length]; exact h)
structure PID (X:Cx) (tg iter:Expr) (t:DA):Prop where
 mono:∀ ρ P P',(∀ d ρ',P d ρ'->P' d ρ')->t ρ P->t ρ P'
 run:∃ wi:TI,PI X tg iter wi /\ ∀ {F:Fx} M H σ ρ (R:It->Hp->Prop),RSt X.K F M H σ ρ ->
  (t ρ fun ds ρ'=>∀ M' H' J,Mv X.K F.pp M H M' H'->RSt X.K F M' H' σ ρ'->ItOk X.K F.pp J M' H' ds->R J H')->wi σ H R
abbrev dFor (t:DA) (g:DG) (b:DTS):DTS:=fun E ρ=>t ρ fun ds ρ'=>fT g b ds E ρ'
theorem dQ {tg iter:Expr} {body:List Stmt} {t:DA} {g:DG} {tb:DTS} {pos:Pos} (hp:PassesOwn (model X.prog X.w) X.A X.env X.xe) (hc:X.calm=true) (hi:PID X tg iter t) (hg:PGD X tg g) (hb:PSsD X body tb)
  (hs:∀ x,foldedSetIterable iter X.env x=pure x:=by intro _; rfl):PSD X (.For tg iter body [] pos) (dFor t g tb):=by
 obtain ⟨wi,pi,ri⟩:=hi.run
 obtain ⟨G,pg,rg⟩:=hg.run
 obtain ⟨T,p,r⟩:=hb
 refine ⟨_,AG hp hc pi pg p hs,fun {F} M H σ ρ E D rs o h=>ri M H σ ρ _ rs (hi.mono _ _ _ (fun ds ρ1 h M1 H1 J m1 rs1 ok=>?_) h)⟩
 refine ⟨fun i m σ2 H2=>∃ M2 ρ2,m=ds.length - i /\ i <= ds.length /\ Mv X.K F.pp M1 H1 M2 H2 /\ RSt X.K F M2 H2 σ2 ρ2 /\ fT g tb (ds.drop i) E ρ2,⟨ds.length,M1,ρ1,rfl,Nat.zero_le _,.refl,rs1,h⟩,?_⟩
 rintro i m σ2 H2 ⟨M2,ρ2,rfl,hi2,m2,rs2,h2⟩
 by_cases hlt:i < ds.length
 ·have e1:ds[i]? = some ds[i]:=by simp [hlt]
  rw [List.drop_eq_getElem_cons hlt] at h2
  refine .inr ⟨ok.go M2 H2 m2 i hlt,fun σ' H'=>∃ M' ρ',Mv X.K F.pp M1 H1 M' H' /\ RSt X.K F M' H' σ' ρ' /\ fT g tb (ds.drop (i + 1)) E ρ',fun σ' H' ⟨M',ρ',mm,rs',h'⟩=>⟨ds.length - (i + 1),by omega,M',ρ',rfl,hlt,mm,rs',h'⟩,fun x H3 y=>?_⟩
  obtain ⟨sp,rx⟩:=ok.yld M2 H2 m2 i _ x H3 e1 y
  have m23:=m2.trans (sp.mv (M:=M2))
  refine rg M2 H3 σ2 ρ2 _ _ _ (rs2.sameP sp) rx (hg.mono _ _ _ _ (fun ρ3 h3 M3 H3 σ3 m3 rs3=>?_) h2)
  refine r M3 H3 σ3 ρ3 _ _ rs3 ⟨fun M4 H4 σ4 ρ4 m4 rs4 h4=>⟨M4,ρ4,(m23.trans m3).trans m4,rs4,h4⟩,fun M4 H4 σ4 ρ4 m4 rs4 h4=>?_,fun M4 H4 σ4 ρ4 m4 rs4 h4=>⟨M4,ρ4,(m23.trans m3).trans m4,rs4,h4⟩,fun M4 H4 σ4 ρ4 d' v m4 rs4 r4 h4=>?_⟩ h3
  ·exact o.nx M4 H4 σ4 ρ4 (((m1.trans m23).trans m3).trans m4) rs4 h4
  ·exact o.rt M4 H4 σ4 ρ4 d' v (((m1.trans m23).trans m3).trans m4) rs4 r4 h4
 ·have e:i=ds.length:=by omega
  refine .inl ⟨ok.stop M2 H2 m2 i (by omega),?_⟩
  have hd:ds.drop i=[]:=by rw [List.drop_eq_nil_iff]; omega
  rw [hd] at h2
  exact o.nx M2 H2 σ2 ρ2 (m1.trans m2) rs2 h2
abbrev Dc (te:DE):DA:=fun ρ Q=>te ρ fun d ρ'=>match d with
 | .lst ds=>Q ds ρ'
 | _=>False
abbrev Dd (te:DE):DA:=fun ρ Q=>te ρ fun d ρ'=>match d with
 | .tup ds=>Q ds ρ'
 | _=>False
theorem cI {tg l:Expr} (hl:PED X l te):PID X tg l (Dc te):=by
 obtain ⟨T,p,r⟩:=hl.run
 refine ⟨fun _ _ _ f h=>hl.mono _ _ _ (fun d _ h=>?_) h,_,yw p,fun {F} M H σ ρ R rs h=>r M H σ ρ _ rs (hl.mono _ _ _ (fun d ρ' h M' H' v m rs' rd=>?_) h)⟩
 ·cases d <;> first | exact h.elim | exact f _ _ h
 ·cases d with
  | lst ds =>
   simp only [Rep] at rd
   obtain ⟨a,xs,rfl,hm,hp,ha,rd⟩:=rd
   refine ⟨a,rfl,⟨xs,SqL.of ha⟩,h M' H' _ m rs' (ItOkV.of (vs:=xs) ⟨fun M2 H2 m2 i x H3 _ y=>?_,fun M2 H2 m2 i hi=>?_,fun M2 H2 m2 i hi=>?_⟩ rd)⟩
   ·exact ⟨y.1,y.2 xs (SqL.of (m2.lst a xs ha hm hp).1)⟩
   ·exact ⟨xs,xs[i],SqL.of (m2.lst a xs ha hm hp).1,by simp [hi]⟩
   ·exact ⟨xs,SqL.of (m2.lst a xs ha hm hp).1,hi⟩
  | _=>exact h.elim
theorem Bv {tg l:Expr} (hl:PED X l te):PID X tg l (Dd te):=by
 obtain ⟨T,p,r⟩:=hl.run
 refine ⟨fun _ _ _ f h=>hl.mono _ _ _ (fun d _ h=>?_) h,_,AE p,fun {F} M H σ ρ R rs h=>r M H σ ρ _ rs (hl.mono _ _ _ (fun d ρ' h M' H' v m rs' rd=>?_) h)⟩
 ·cases d <;> first | exact h.elim | exact f _ _ h
 ·cases d with
  | tup ds =>
   simp only [Rep] at rd
   obtain ⟨a,xs,rfl,ha,rd⟩:=rd
   refine ⟨a,rfl,⟨xs,SqT.of ha⟩,h M' H' _ m rs' (ItOkV.of (vs:=xs) ⟨fun M2 H2 m2 i x H3 _ y=>?_,fun M2 H2 m2 i hi=>?_,fun M2 H2 m2 i hi=>?_⟩ rd)⟩
   ·exact ⟨y.1,y.2 xs (SqT.of (m2.tup a xs ha))⟩
   ·exact ⟨xs,xs[i],SqT.of (m2.tup a xs ha),by simp [hi]⟩
   ·exact ⟨xs,SqT.of (m2.tup a xs ha),hi⟩
  | _=>exact h.elim
def kP (lo:Int):Nat->List D
 | 0=>[]
 | n + 1=>.int lo::kP (lo + 1) n
theorem nc {K:PySem.W.Frag} {pp:Option Addr} {M:List Addr} {H:Hp}:∀ (n:Nat) (lo:Int),Reps K pp M H (kP lo n) ((List.range n).map fun (i:Nat)=>V.int (lo + i))
 | 0,_=>by simp [kP,Reps]
 | n + 1,lo=>by
  rw [List.range_succ_eq_map,List.map_cons,kP]
  refine .cons (by simp [Rep]) ?_
  have:=nc (K:=K) (pp:=pp) (M:=M) (H:=H) n (lo + 1)
  rw [List.map_map]
  refine (congrArg (Reps K pp M H (kP (lo + 1) n)) (List.map_congr_left fun i _=>?_)).mp this
  simp only [Function.comp]
  congr 1
  omega
abbrev diR1 (t:DA):DA:=fun ρ Q=>t ρ fun ds ρ'=>match ds with
 | [.int j]=>(-(2 ^ 62) <= j /\ j < 2 ^ 62) /\ Q (kP 0 j.toNat) ρ'
 | _=>False
theorem itOk_range {K:PySem.W.Frag} {pp:Option Addr} {M:List Addr} {H:Hp} {lo:Int} {n:Nat}:ItOkV K pp (Itr lo n) M H ((List.range n).map fun (i:Nat)=>V.int (lo + i)) where
 yld:=fun M2 H2 _ i x H3 hi y=>by
  obtain ⟨e1,e2⟩:=y
  refine ⟨e1,?_⟩
  have hi':i < n:=by simpa using hi
  simp [hi',e2]
 go:=fun _ _ _ i hi=>by show i < n; simpa using hi
 stop:=fun _ _ _ i hi=>by show n <= i; simpa using hi
variable {es:List Expr} {ea eb:Expr}
theorem jm {tg:Expr} {p:Pos} (hg:Gl X "range") (hm:X.mg "range" = none) (ha:PAD X [ea] tl) (hs:starEach [ea] X.env=[(false,eval ea X.env)]:=by rfl):PID X tg (.Call (.Name "range" p) [ea] [] pos) (diR1 tl):=by
 obtain ⟨T,pa,r⟩:=ha.run
 refine ⟨fun _ _ _ f h=>ha.mono _ _ _ (fun d _ h=>?_) h,_,uI hg hm pa hs,fun {F} M H σ ρ R rs h=>r M H σ ρ _ rs (ha.mono _ _ _ (fun d ρ' h M' H' v m rs' rd=>?_) h)⟩
 ·split at h
  ·exact ⟨h.1,f _ _ h.2⟩
  ·exact h.elim
 ·split at h
  ·rename_i j
   simp only [Reps,Rep] at rd
   obtain ⟨x,r,rfl,rfl,rfl⟩:=rd
   exact ⟨j,rfl,h.1.1,h.1.2,h.2 M' H' _ m rs' (itOk_range.of (nc _ _))⟩
  ·exact h.elim
def gF (c:DT) (b:DTS):Nat->DEnds->DS->Prop
 | 0,_,_=>False
 | n + 1,E,ρ=>c ρ fun k ρ'=>Br k (b { E with nx:=fun ρ2=>gF c b n E ρ2,ct:=fun ρ2=>gF c b n E ρ2,bk:=E.nx } ρ') (E.nx ρ')
abbrev xW (c:DT) (b:DTS):DTS:=fun E ρ=>∃ n,gF c b n E ρ
theorem nU {body:List Stmt} {tb:DTS} (hp:PassesOwn (model X.prog X.w) X.A X.env X.xe) (hc:PTD X c tc) (hb:PSsD X body tb):PSD X (.While c body [] pos) (xW tc tb):=by
 obtain ⟨C,pc,rc⟩:=hc.run
 obtain ⟨T,p,r⟩:=hb
 refine ⟨_,wF hp pc p,fun {F} M H σ ρ E D rs o h=>?_⟩
 obtain ⟨n,h⟩:=h
 refine ⟨fun m σ2 H2=>∃ M2 ρ2,Mv X.K F.pp M H M2 H2 /\ RSt X.K F M2 H2 σ2 ρ2 /\ gF tc tb m E ρ2,⟨n,M,ρ,.refl,rs,h⟩,?_⟩
 rintro m σ2 H2 ⟨M2,ρ2,m2,rs2,h2⟩
 cases m with
 | zero=>exact h2.elim
 | succ m =>
  refine rc M2 H2 σ2 ρ2 _ rs2 (hc.mono _ _ _ (fun k ρ3 h3 M3 H3 m3 rs3=>?_) h2)
  cases k with
  | false=>exact iteF (o.nx M3 H3 σ2 ρ3 (m2.trans m3) rs3 (h3.no rfl))
  | true =>
   refine iteT ⟨fun σ' H'=>∃ M' ρ',Mv X.K F.pp M H M' H' /\ RSt X.K F M' H' σ' ρ' /\ gF tc tb m E ρ',fun σ' H' h'=>⟨m,Nat.lt_succ_self _,h'⟩,?_⟩
   refine r M3 H3 σ2 ρ3 { E with nx:=fun ρ2=>gF tc tb m E ρ2,ct:=fun ρ2=>gF tc tb m E ρ2,bk:=E.nx } _ rs3 ⟨fun M4 H4 σ4 ρ4 m4 rs4 h4=>⟨M4,ρ4,(m2.trans m3).trans m4,rs4,h4⟩,fun M4 H4 σ4 ρ4 m4 rs4 h4=>o.nx M4 H4 σ4 ρ4 ((m2.trans m3).trans m4) rs4 h4,fun M4 H4 σ4 ρ4 m4 rs4 h4=>⟨M4,ρ4,(m2.trans m3).trans m4,rs4,h4⟩,fun M4 H4 σ4 ρ4 d' v m4 rs4 r4 h4=>o.rt M4 H4 σ4 ρ4 d' v ((m2.trans m3).trans m4) rs4 r4 h4⟩ (h3.yes rfl)
end
end DL
namespace DL
open PySem PySem.Spec L2
open PyProof.Rows hiding St
variable [TB]
variable [Frm]
def kE (n:Nat) (ds:List D):DS:=ds.map .val++List.replicate (n - ds.length) .nil
theorem ni {K:PySem.W.Frag} {F:Fx} {M:List Addr} {H:Hp}:∀ {ds:List D} {vs:List V},Reps K F.pp M H ds vs->∀ (i:Nat) s o,(ds.map Sl.val)[i]? = some s->(vs.map some)[i]? = some o->RSl K F M H s o
 | [],_,_,_,_,_,h1,_=>by simp at h1
 | d::ds,_,h,0,s,o,h1,h2=>by
  simp only [Reps] at h
  obtain ⟨x,r,rfl,h,_⟩:=h
  simp at h1 h2
  subst h1 h2
  exact ⟨x,rfl,h⟩
 | d::ds,_,h,i + 1,s,o,h1,h2=>by
  simp only [Reps] at h
  obtain ⟨x,r,rfl,_,h⟩:=h
  exact ni h i s o (by simpa using h1) (by simpa using h2)
theorem rp {ds:List D} {n i:Nat} {es:List D} (h:(ds.map Sl.val++List.replicate n Sl.nil)[i]? = some (.own es)):False:=by
 have:=List.mem_of_getElem? h
 rcases List.mem_append.mp this with h | h
 ·obtain ⟨d,_,e⟩:=List.mem_map.mp h; cases e
 ·have:=List.eq_of_mem_replicate h; cases this
theorem rq {ds:List D} {n i:Nat} {q:O} (h:(ds.map Sl.val++List.replicate n Sl.nil)[i]? = some (.obj q)):False:=by
 have:=List.mem_of_getElem? h
 rcases List.mem_append.mp this with h | h
 ·obtain ⟨d,_,e⟩:=List.mem_map.mp h; cases e
 ·have:=List.eq_of_mem_replicate h; cases this
theorem jn {K:PySem.W.Frag} {pp:Option Addr} {M:List Addr} {H:Hp} {ds:List D} {vs:List V} {N:List Str} (lv:Lv pp M H) (r:Reps K pp M H ds vs) (lk:Frm.L K ⟨pp,M,H⟩ M H):RSt K ⟨pp,M,H⟩ M H (L2.start N vs) (kE N.length ds):=by
 have hl:=r.length
 refine ⟨by simp [L2.start,kE,hl],fun i s o h1 h2=>?_,OwF.none (fun i s e=>⟨fun ds z=>(rp (z ▸ e)).elim,fun q z=>(rq (z ▸ e)).elim⟩),fun a h=>h,.refl,lv.m,lv.toLv0,⟨lk,lv.t⟩⟩
 unfold kE at h1
 unfold L2.start at h2
 by_cases hi:i < ds.length
 ·rw [List.getElem?_append_left (by simpa using hi)] at h1
  rw [List.getElem?_append_left (by simpa [← hl] using hi)] at h2
  exact ni (F:=⟨pp,M,H⟩) r i s o h1 h2
 ·rw [List.getElem?_append_right (by simp; omega)] at h1
  have:=List.eq_of_mem_replicate (List.mem_of_getElem? h1)
  subst this
  trivial
omit [Frm] in
theorem fnD {P:Program} {w:World} {K:PySem.W.Frag} {mg:Str->Option Value} {base:Heap} {x qual:Str} {st:Stmt} {f:Addr} {fd:FuncData} {N ps:List Str} {k:Nat} {g:DSp} {t:DTS} (Fn:Fun K x qual st f fd) (S:FnScope N ps (ad st))
  (hb:∀ (cdv:Value) (A:Around) (outer:List Env) (s:Shared) (H:Hp) (E:XK),Room k (A.deeper (envOfC qual (ad st) s.heap.objs.size f cdv)) -> @PSsD _ Frm.free (cxOf CX0 P w K mg base N qual (ad st) f cdv A outer s H E).nox (ao st) t)
  (hg:∀ ds Q,ds.length=ps.length->g ds Q->t { nx:=fun _=>Q .non,rt:=Q } (kE N.length ds)):FnOk P w K mg base CX0 (k + 1) f fd ps (spD K ps.length g):=by
 refine Fn.ok S (fun vs H Q E h=>?_) (fun cdv A outer s H vs Q E hr h=>?_)
 ·obtain ⟨pp,M,ds,_,r,e,_⟩:=h
  rw [← r.length,e]
 ·obtain ⟨pp,M,ds,lv,r,e,h⟩:=h
  obtain ⟨T,p,run⟩:=hb cdv A outer s H E hr
  refine ⟨T,p,run M H _ _ _ _ (jn lv r trivial) ⟨fun M' H' σ' ρ' m rs q=>?_,fun _ _ _ _ _ _ q=>q,fun _ _ _ _ _ _ q=>q,fun M' H' σ' ρ' d v m rs rd q=>?_⟩ (hg ds _ e h)⟩
  ·exact q H' .non rs.sameT (by simp only [Rep])
  ·exact q H' v rs.sameT (rd.mv (.less rs.sub))
section
variable {X:Cx} {pp:Option Addr}
def g2I (C:Int->Int->Prop) (f:Int->Int->D):D->D->(D->Prop)->Prop
 | .int i,.int j,P=>C i j /\ P (f i j)
 | _,_,_=>False
def g2I0 (f:Int->Int->D):D->D->(D->Prop)->Prop
 | .int i,.int j,P=>P (f i j)
 | _,_,_=>False
theorem OpD.ofI {f:Value->Value->Sem Value} {C:Int->Int->Prop} {h:Int->Int->V} {h':Int->Int->D} (o:OpR X f (rI C h)) (e:∀ pp M H i j,Rep X.K pp M H (h' i j) (h i j)):OpD X f (g2I C h'):=by
 refine ⟨fun x y P P' f h=>?_,_,o,fun {pp} M H x y v u Q _ rx ry h=>?_⟩
 ·cases x <;> cases y <;> first | exact h.elim | exact ⟨h.1,f _ h.2⟩
 ·cases x <;> first | exact h.elim | skip
  cases y <;> first | exact h.elim | skip
  simp only [Rep] at rx ry
  exact ⟨_,_,rx,ry,h.1,h.2 H _ .refl (e _ M H _ _)⟩
theorem OpD.ofI0 {f:Value->Value->Sem Value} {h:Int->Int->V} {h':Int->Int->D} (o:OpR X f (rI0 h)) (e:∀ pp M H i j,Rep X.K pp M H (h' i j) (h i j)):OpD X f (g2I0 h'):=by
 refine ⟨fun x y P P' f h=>?_,_,o,fun {pp} M H x y v u Q _ rx ry h=>?_⟩
 ·cases x <;> cases y <;> first | exact h.elim | exact f _ h
 ·cases x <;> first | exact h.elim | skip
  cases y <;> first | exact h.elim | skip
  simp only [Rep] at rx ry
  exact ⟨_,_,rx,ry,h H _ .refl (e _ M H _ _)⟩
theorem gx:OpD X (binaryOp .Add) (g2I0 fun i j=>.int (i + j)):=.ofI0 lC fun _ _ _ _ _=>bZ
theorem vn:OpD X (binaryOp .Sub) (g2I0 fun i j=>.int (i - j)):=.ofI0 AH fun _ _ _ _ _=>bZ
theorem bF:OpD X (binaryOp .Mult) (g2I CMulB fun i j=>.int (i * j)):=.ofI jG fun _ _ _ _ _=>bZ
theorem Bw:OpD X (binaryOp .Mod) (g2I (fun _ j=>0 < j) fun i j=>.int (i % j)):=.ofI kr fun _ _ _ _ _=>bZ
theorem zc:OpD X (binaryOp .Mod) (g2I (fun _ j=>j≠0) fun i j=>.int (i.fmod j)):=.ofI yx fun _ _ _ _ _=>bZ
theorem gG:OpD X (binaryOp .FloorDiv) (g2I Bg fun i j=>.int (i / j)):=.ofI nQ fun _ _ _ _ _=>bZ
theorem sG:OpD X (binaryOp .FloorDiv) (g2I Bh fun i j=>.int (i.fdiv j)):=.ofI wS fun _ _ _ _ _=>bZ
theorem xX:OpD X (binaryOp .Pow) (g2I CPow fun i j=>.int (i ^ j.toNat)):=.ofI xR fun _ _ _ _ _=>bZ
theorem wW:OpD X (compareOp .Lt) (g2I0 fun i j=>.bl (decide (i < j))):=.ofI0 AK fun _ _ _ _ _=>gC
theorem wX:OpD X (compareOp .LtE) (g2I0 fun i j=>.bl (decide (i <= j))):=.ofI0 CF fun _ _ _ _ _=>gC
theorem jJ:OpD X (compareOp .Gt) (g2I0 fun i j=>.bl (decide (j < i))):=.ofI0 AL fun _ _ _ _ _=>gC
def zd:D->Bool
 | .non=>true
 | _=>false
theorem pQ {K:PySem.W.Frag} {M:List Addr} {H:Hp} {d:D} {v:V} (r:Rep K pp M H d v):decide (v = .non)=zd d:=by
 cases d <;> simp only [Rep] at r
 case non=>subst r; rfl
 case bl=>subst r; rfl
 case int=>subst r; rfl
 case str=>subst r; rfl
 case ty=>subst r; rfl
 case tup=>obtain ⟨a,xs,rfl,_⟩:=r; rfl
 case lst=>obtain ⟨a,xs,rfl,_⟩:=r; rfl
 case dK=>obtain ⟨a,xs,rfl,_⟩:=r; rfl
 case dT=>obtain ⟨a,xs,rfl,_⟩:=r; rfl
 case pen=>obtain ⟨a,rfl,_⟩:=r; rfl
 case exc=>obtain ⟨a,rfl,_⟩:=r; rfl
 case exa=>obtain ⟨a,dx,rfl,_⟩:=r; rfl
 case cls=>subst r; rfl
def gIsN (n:Bool):D->D->(D->Prop)->Prop
 | x,.non,P=>P (.bl (if n then !zd x else zd x))
 | _,_,_=>False
theorem sH:OpD X (compareOp .Is) (gIsN false):=by
 refine ⟨fun x y P P' f h=>?_,_,AM,fun {pp} M H x y v u Q _ rx ry h=>?_⟩
 ·cases y <;> first | exact h.elim | exact f _ h
 ·cases y <;> first | exact h.elim | skip
  simp only [Rep] at ry
  exact ⟨ry,h H _ .refl (by rw [pQ rx]; exact gC)⟩
theorem lT:OpD X (compareOp .IsNot) (gIsN true):=by
 refine ⟨fun x y P P' f h=>?_,_,yC,fun {pp} M H x y v u Q _ rx ry h=>?_⟩
 ·cases y <;> first | exact h.elim | exact f _ h
 ·cases y <;> first | exact h.elim | skip
  simp only [Rep] at ry
  exact ⟨ry,h H _ .refl (by rw [pQ rx]; exact gC)⟩
structure UnD (X:Cx) (f:Value->Sem Value) (g:D->(D->Prop)->Prop):Prop where
 mono:∀ x P P',(∀ d,P d->P' d)->g x P->g x P'
 run:∃ r,UnR X f r /\ ∀ {pp:Option Addr} M H x v (Q:VK),Lv pp M H->Rep X.K pp M H x v->g x (fun d=>∀ H' w,SameP X.K pp H H'->Rep X.K pp M H' d w->Q w H')->r v H Q
abbrev dUn (g:D->(D->Prop)->Prop) (ta:DE):DE:=fun ρ Q=>ta ρ fun x ρ1=>g x fun d=>Q d ρ1
theorem De {op:UnaryOp} {g:D->(D->Prop)->Prop} {a:Expr} {ta:DE} {pos:Pos} (ho:UnD X (unaryOp op) g) (ha:PED X a ta):PED X (.UnaryOp op a pos) (dUn g ta):=by
 obtain ⟨r,hr,hg⟩:=ho.run
 obtain ⟨Ta,pa,ra⟩:=ha.run
 refine ⟨fun _ _ _ f h=>ha.mono _ _ _ (fun _ _ h=>ho.mono _ _ _ (fun _ h=>f _ _ h) h) h,_,CC hr pa,fun {F} M H σ ρ Q rs h=>ra M H σ ρ _ rs (ha.mono _ _ _ (fun x ρ1 h M1 H1 v m1 rs1 r1=>?_) h)⟩
 exact hg M1 H1 x v _ rs1.liv r1 (ho.mono _ _ _ (fun d h H' w s r=>h M1 H' w (m1.trans s.mv) (rs1.sameP s) r) h)
def gNeg:D->(D->Prop)->Prop
 | .int i,P=>P (.int (-i))
 | _,_=>False
theorem Bx:UnD X (unaryOp .USub) gNeg:=by
 refine ⟨fun x P P' f h=>?_,_,AI,fun {pp} M H x v Q _ rx h=>?_⟩
 ·cases x <;> first | exact h.elim | exact f _ h
 ·cases x <;> first | exact h.elim | skip
  simp only [Rep] at rx
  exact ⟨_,rx,h H _ .refl bZ⟩
def By:D->Bool
 | .int _=>true
 | .bl _=>true
 | _=>false
def ze:D->Bool
 | .bl _=>true
 | _=>false
def pR:D->Bool
 | .tup _=>true
 | _=>false
def pS:D->Bool
 | .lst _=>true
 | _=>false
def wY:D->Bool
 | .pen=>false
 | .exc _=>false
 | .exa _ _=>false
 | .cls _=>false
 | .ty _=>false
 | _=>true
theorem Bz {K:PySem.W.Frag} {M:List Addr} {H:Hp} {d:D} {v:V} (r:Rep K pp M H d v) (f:wY d=true):knV H v:=by
 cases d <;> first | cases f | skip
 all_goals simp only [Rep] at r
 case non=>subst r; trivial
 case bl=>subst r; trivial
 case int=>subst r; trivial
 case str=>subst r; trivial
 case tup=>obtain ⟨a,xs,rfl,h,_⟩:=r; exact .inr (.inr (.inl ⟨xs,h⟩))
 case lst=>obtain ⟨a,xs,rfl,_,_,h,_⟩:=r; exact .inl ⟨xs,h⟩
 case dK=>obtain ⟨a,xs,rfl,_,_,h,_⟩:=r; exact .inr (.inr (.inr (.inl ⟨xs,h⟩)))
 case dT=>obtain ⟨a,xs,rfl,_,_,h,_⟩:=r; exact .inr (.inr (.inr (.inr ⟨xs,h⟩)))
def gIs (T:String) (f:D->Bool):DSp:=fun ds P=>match ds with
 | [d,.ty T']=>T'=T /\ wY d=true /\ P (.bl (f d))
 | _=>False
theorem CallD.isOf {T:String} {f:Hp->V->Bool} {fD:D->Bool} (hc:CallR X (.builtin "isinstance") (fun xs H Q=>∃ x,xs=[x,.ty T] /\ knV H x /\ Q (.bl (f H x)) H))
  (e:∀ pp M H d v,Rep X.K pp M H d v->wY d=true->f H v=fD d):CallD X (.builtin "isinstance") (gIs T fD):=by
 refine ⟨fun ds P P' f h=>?_,_,hc,fun {pp} M H ds vs Q _ r h=>?_⟩
 ·unfold gIs at h ⊢; split at h
  ·exact ⟨h.1,h.2.1,f _ h.2.2⟩
  ·exact h.elim
 ·unfold gIs at h; split at h
  case h_2=>exact h.elim
  ·rename_i d T'
   obtain ⟨e1,e2,h⟩:=h
   simp only [Reps] at r
   obtain ⟨x,r,rfl,rx,y,r',rfl,ry,rfl⟩:=r
   simp only [Rep] at ry
   subst ry e1
   exact ⟨x,rfl,Bz rx e2,h H _ .refl (by rw [e _ M H d x rx e2]; exact gC)⟩
theorem pU:CallD X (.builtin "isinstance") (gIs "int" By):=.isOf rf fun pp M H d v r _=>by
 cases d <;> simp only [Rep] at r
 case non=>subst r; rfl
 case bl=>subst r; rfl
 case int=>subst r; rfl
 case str=>subst r; rfl
 case ty=>subst r; rfl
 case tup=>obtain ⟨a,xs,rfl,_⟩:=r; rfl
 case lst=>obtain ⟨a,xs,rfl,_⟩:=r; rfl
 case dK=>obtain ⟨a,xs,rfl,_⟩:=r; rfl
 case dT=>obtain ⟨a,xs,rfl,_⟩:=r; rfl
 case pen=>obtain ⟨a,rfl,_⟩:=r; rfl
 case exc=>obtain ⟨a,rfl,_⟩:=r; rfl
 case exa=>obtain ⟨a,dx,rfl,_⟩:=r; rfl
 case cls=>subst r; rfl
theorem nj:CallD X (.builtin "isinstance") (gIs "bool" ze):=.isOf pK fun pp M H d v r _=>by
 cases d <;> simp only [Rep] at r
 case non=>subst r; rfl
 case bl=>subst r; rfl
 case int=>subst r; rfl
 case str=>subst r; rfl
 case ty=>subst r; rfl
 case tup=>obtain ⟨a,xs,rfl,_⟩:=r; rfl
 case lst=>obtain ⟨a,xs,rfl,_⟩:=r; rfl
 case dK=>obtain ⟨a,xs,rfl,_⟩:=r; rfl
 case dT=>obtain ⟨a,xs,rfl,_⟩:=r; rfl
 case pen=>obtain ⟨a,rfl,_⟩:=r; rfl
 case exc=>obtain ⟨a,rfl,_⟩:=r; rfl
 case exa=>obtain ⟨a,dx,rfl,_⟩:=r; rfl
 case cls=>subst r; rfl
theorem iF:CallD X (.builtin "isinstance") (gIs "tuple" pR):=.isOf nP fun pp M H d v r f=>by
 cases d <;> first | cases f | skip
 all_goals simp only [Rep] at r
 case non=>subst r; rfl
 case bl=>subst r; rfl
 case int=>subst r; rfl
 case str=>subst r; rfl
 case tup=>obtain ⟨a,xs,rfl,h,_⟩:=r; simp [gy,h,isTupO,pR]
 case lst=>obtain ⟨a,xs,rfl,_,_,h,_⟩:=r; simp [gy,h,isTupO,pR]
 case dK=>obtain ⟨a,xs,rfl,_,_,h,_⟩:=r; simp [gy,h,isTupO,pR]
 case dT=>obtain ⟨a,xs,rfl,_,_,h,_⟩:=r; simp [gy,h,isTupO,pR]
theorem tY:CallD X (.builtin "isinstance") (gIs "list" pS):=.isOf pL fun pp M H d v r f=>by
 cases d <;> first | cases f | skip
 all_goals simp only [Rep] at r
 case non=>subst r; rfl
 case bl=>subst r; rfl
 case int=>subst r; rfl
 case str=>subst r; rfl
 case tup=>obtain ⟨a,xs,rfl,h,_⟩:=r; simp [gz,h,iz,pS]
 case lst=>obtain ⟨a,xs,rfl,_,_,h,_⟩:=r; simp [gz,h,iz,pS]
 case dK=>obtain ⟨a,xs,rfl,_,_,h,_⟩:=r; simp [gz,h,iz,pS]
 case dT=>obtain ⟨a,xs,rfl,_,_,h,_⟩:=r; simp [gz,h,iz,pS]
def gLen:DSp:=fun ds P=>match ds with
 | [.tup xs]=>P (.int xs.length)
 | [.lst xs]=>P (.int xs.length)
 | _=>False
theorem jp:CallD X (.builtin "len") gLen:=by
 refine ⟨fun ds P P' f h=>?_,_,ve,fun {pp} M H ds vs Q _ r h=>?_⟩
 ·unfold gLen at h ⊢; split at h
  ·exact f _ h
  ·exact f _ h
  ·exact h.elim
 ·unfold gLen at h; split at h
  case h_3=>exact h.elim
  ·simp only [Reps,Rep] at r
   obtain ⟨x,r,rfl,⟨a,ys,rfl,ha,ry⟩,rfl⟩:=r
   exact ⟨a,ys.length,rfl,by rw [ha]; rfl,h H _ .refl (by rw [← ry.length]; exact bZ)⟩
  ·simp only [Reps,Rep] at r
   obtain ⟨x,r,rfl,⟨a,ys,rfl,_,_,ha,ry⟩,rfl⟩:=r
   exact ⟨a,ys.length,rfl,by rw [ha]; rfl,h H _ .refl (by rw [← ry.length]; exact bZ)⟩
def gAbs:DSp:=fun ds P=>match ds with
 | [.int i]=>P (.int (if i < 0 then -i else i))
 | _=>False
theorem xY:CallD X (.builtin "abs") gAbs:=by
 refine ⟨fun ds P P' f h=>?_,_,wI,fun {pp} M H ds vs Q _ r h=>?_⟩
 ·unfold gAbs at h ⊢; split at h
  ·exact f _ h
  ·exact h.elim
 ·unfold gAbs at h; split at h
  case h_2=>exact h.elim
  ·rename_i i
   simp only [Reps,Rep] at r
   obtain ⟨x,r,rfl,rfl,rfl⟩:=r
   exact ⟨i,rfl,h H _ .refl bZ⟩
def zf:DSp:=fun ds P=>match ds with
 | [.int i]=>P (.int i)
 | [.bl b]=>P (.int (if b then 1 else 0))
 | _=>False
theorem BA:CallD X (.type "int") zf:=by
 refine ⟨fun ds P P' f h=>?_,_,uK,fun {pp} M H ds vs Q _ r h=>?_⟩
 ·unfold zf at h ⊢; split at h
  ·exact f _ h
  ·exact f _ h
  ·exact h.elim
 ·unfold zf at h; split at h
  case h_3=>exact h.elim
  ·rename_i i
   simp only [Reps,Rep] at r
   obtain ⟨x,r,rfl,rfl,rfl⟩:=r
   exact .inl ⟨i,rfl,h H _ .refl bZ⟩
  ·rename_i i
   simp only [Reps,Rep] at r
   obtain ⟨x,r,rfl,rfl,rfl⟩:=r
   exact .inr ⟨i,rfl,h H _ .refl bZ⟩
def vo:DSp:=fun ds P=>match ds with
 | [.tup xs]=>P (.tup xs)
 | [.lst xs]=>P (.tup xs)
 | _=>False
theorem sI:CallD X (.type "tuple") vo:=by
 refine ⟨fun ds P P' f h=>?_,_,nL,fun {pp} M H ds vs Q _ r h=>?_⟩
 ·unfold vo at h ⊢; split at h
  ·exact f _ h
  ·exact f _ h
  ·exact h.elim
 ·unfold vo at h; split at h
  case h_3=>exact h.elim
  ·simp only [Reps] at r
   obtain ⟨x,r,rfl,rx,rfl⟩:=r
   have rx':=rx
   simp only [Rep] at rx
   obtain ⟨a,ys,rfl,ha,ry⟩:=rx
   exact ⟨a,ys,rfl,.inr ⟨SqT.of ha,h H _ .refl rx'⟩⟩
  ·simp only [Reps,Rep] at r
   obtain ⟨x,r,rfl,⟨a,ys,rfl,_,_,ha,ry⟩,rfl⟩:=r
   refine ⟨a,ys,rfl,.inl ⟨SqL.of ha,fun l hl=>h _ _ (.new hl) ?_⟩⟩
   simp only [Rep]
   exact ⟨l,ys,rfl,au,ry.mv (.new hl)⟩
abbrev zg (te:DE):DA:=fun ρ Q=>te ρ fun d ρ'=>match d with
 | .tup xs=>Q xs ρ'
 | .lst xs=>Q xs ρ'
 | _=>False
theorem zh {x:Str} {e:Expr} {p pos:Pos} {te:DE} (hg:Gl X x) (hm:X.mg x=none) (hv:bootBuiltins x=some (.type "list")) (he:PED X e te) (hn:x ≠ "__name__":=by decide) (hdb:(x == ("__debug__" : Str))=false:=by decide)
  (hs:starEach [e] X.env=(false,eval e X.env)::starEach [] X.env:=by rfl) (hpl:(backTo pos (starEach [] X.env)).any (·.1)=false:=by rfl):PLD X (.Call (.Name x p) [e] [] pos) (zg te):=by
 obtain ⟨T,pa,ra⟩:=he.run
 refine ⟨fun _ _ _ f h=>he.mono _ _ _ (fun d _ h=>?_) h,_,pz pB hg hm hv (eQ pa jb hs) hn hdb hs hpl,fun {F} M H σ ρ Q rs h=>ra M H σ ρ _ rs (he.mono _ _ _ (fun d ρ1 h M1 H1 v m1 rs1 r1=>?_) h)⟩
 ·cases d <;> first | exact h.elim | exact f _ _ h
 ·cases d <;> first | exact h.elim | skip
  all_goals simp only [Rep] at r1
  case tup xs =>
   obtain ⟨a,ys,rfl,ha,ry⟩:=r1
   exact ⟨a,ys,rfl,.inr (SqT.of ha),fun l hl=>h M1 H1 _ l ys m1 rs1 hl rfl ry⟩
  case lst xs =>
   obtain ⟨a,ys,rfl,_,_,ha,ry⟩:=r1
   exact ⟨a,ys,rfl,.inl (SqL.of ha),fun l hl=>h M1 H1 _ l ys m1 rs1 hl rfl ry⟩
def opt (o:Option D) (P:D->Prop):Prop:=match o with
 | some d=>P d
 | none=>False
theorem sJ {o:Option D} {P P':D->Prop} (f:∀ d,P d->P' d) (h:opt o P):opt o P':=by cases o <;> first | exact h.elim | exact f _ h
theorem sK {o:Option D} {P:D->Prop} (h:opt o P):∃ d,o=some d /\ P d:=by cases o <;> first | exact h.elim | exact ⟨_,rfl,h⟩
def gIx:D->D->(D->Prop)->Prop
 | .tup xs,.int i,P=>opt (atI xs i) P
 | .lst xs,.int i,P=>opt (atI xs i) P
 | _,_,_=>False
theorem rA {K:PySem.W.Frag} {M:List Addr} {H:Hp} {ds:List D} {xs:List V} {i:Int} {d:D} (r:Reps K pp M H ds xs) (h:atI ds i=some d):∃ v,atI xs i=some v /\ Rep K pp M H d v:=by
 unfold atI at h ⊢
 rw [r.length] at h
 cases q:ixN xs.length i with
 | none=>rw [q] at h; cases h
 | some j =>
  rw [q] at h
  obtain ⟨v,e1,e2⟩:=r.get' (i:=j) h
  exact ⟨v,e1,e2⟩
theorem ak {a b:Expr} {ta tb:DE} {pos:Pos} (ha:PED X a ta) (hb:PED X b tb) (hs:qT b):PED X (.Subscript a b pos) (dOp gIx ta tb):=by
 have gm:∀ x y P P',(∀ d,P d->P' d)->gIx x y P->gIx x y P':=fun x y P P' f h=>by
  cases x <;> first | exact h.elim | skip
  all_goals cases y <;> first | exact h.elim | exact sJ f h
 obtain ⟨Ta,pa,ra⟩:=ha.run
 obtain ⟨Tb,pb,rb⟩:=hb.run
 refine ⟨jh gm ha hb,_,uS (IxR.or yQ sy) pa pb hs,fun {F} M H σ ρ Q rs h=>nT (fun M H x y v u Q _ rx ry h=>?_) gm ha hb ra rb rs h⟩
 cases x <;> first | exact h.elim | skip
 all_goals cases y <;> first | exact h.elim | skip
 all_goals
  obtain ⟨d,e,h⟩:=sK h
  simp only [Rep] at rx ry
 ·obtain ⟨p,xs,rfl,hp,r⟩:=rx
  obtain ⟨z,e2,rz⟩:=rA r e
  exact .inl ⟨p,xs,_,z,rfl,ry,hp,e2,h H z .refl rz⟩
 ·obtain ⟨p,xs,rfl,_,_,hp,r⟩:=rx
  obtain ⟨z,e2,rz⟩:=rA r e
  exact .inr ⟨p,xs,_,z,rfl,ry,hp,e2,h H z .refl rz⟩
end
end DL
namespace DL
open PySem PySem.Spec L2
open PyProof.Rows hiding St
variable [TB]
variable [Frm]
section
variable {X:Cx} {F:Fx}
abbrev dPar (i j:Nat) (t:DA):DTS:=fun E ρ=>t ρ fun ds ρ'=>match ds with
 | [x,y]=>E.nx ((ρ'.set i (.val x)).set j (.val y))
 | _=>False
theorem BB {i j:Nat} {x y:Str} {a b:Expr} {t:DA} {px py pt pos:Pos} {kt k2 pt2} (hc:X.calm=true) (hN:X.N.Nodup) (hi:X.N[i]? = some x) (hj:X.N[j]? = some y) (hij:i≠j)
  (hx:X.env.scope.names.lookup x=some .local) (hy:X.env.scope.names.lookup y=some .local) (ha:PAD X [a,b] t)
  (hw:swappedStores [.Tuple [.Name x px,.Name y py] kt pt] (.Tuple [a,b] k2 pt2) X.env=pure (some [x,y]))
  (hs:swapsWithSole [.Tuple [.Name x px,.Name y py] kt pt] (.Tuple [a,b] k2 pt2) pos.line X.env=pure false:=by rfl) :
  PSD X (.Assign [.Tuple [.Name x px,.Name y py] kt pt] (.Tuple [a,b] k2 pt2) pos) (dPar i j t):=by
 obtain ⟨T,p,r⟩:=ha.run
 refine ⟨_,AC hc hN hi hj hij hx hy p hw hs,fun {F} M H σ ρ E D rs o h=>r M H σ ρ _ rs (ha.mono _ _ _ (fun ds ρ' h M' H' vs m rs' rd=>?_) h)⟩
 split at h
 case h_2=>exact h.elim
 ·simp only [Reps] at rd
  obtain ⟨v,_,rfl,r1,w,_,rfl,r2,rfl⟩:=rd
  exact ⟨v,w,rfl,o.nx M' H' _ _ m ((rs'.set r1 i).set r2 j) h⟩
def Dg (i:Nat) (E:DEnds) (ρ:DS) (d:D):Sl->Prop
 | .own ds=>ds.length < sizeLine /\ E.nx (ρ.set i (.own (ds++[d])))
 | _=>False
def zi:Sl->Prop
 | .own _=>True
 | _=>False
abbrev dApp (i:Nat) (te:DE):DTS:=fun E ρ=>zi (slot ρ i) /\ te ρ fun d ρ'=>Dg i E ρ' d (slot ρ' i)
theorem RSt.write {K:PySem.W.Frag} {M:List Addr} {H:Hp} {σ:St} {ρ:DS} {l:Addr} {ys:List V} {ds es:List D} {i:Nat} (r:RSt K F M H σ ρ) (h:ρ[i]? = some (.own ds)) (hl:σ[i]? = some (some (.ref l))) (hd:Reps K F.pp M H es ys) :
  Mv K F.pp M H M (upd H l (.lst ys)) /\ RSt K F M (upd H l (.lst ys)) σ (ρ.set i (.own es)):=by
 obtain ⟨l',xs,e,hm,h0,hp,hl',hr⟩:=r.sl i _ _ h hl
 cases e
 have m:Mv K F.pp M H M (upd H l (.lst ys)):=.write hl' hm hp
 refine ⟨m,⟨by simp [r.len],fun j q o h1 h2=>?_,r.ow.step m i (fun _ _=>rfl) (fun j e=>List.getElem?_set_ne (Ne.symm e)) (fun A hA hB=>⟨A,fun s o e1 e2=>?_,fun b hb=>⟨(hB b hb).1,(hB b hb).2.1,(hB b hb).2.2,.inl hb⟩,fun a ha _ _ hn=>⟨ha,fun x e _=>?_⟩⟩),r.sub,?_,r.old,?_,r.lk.cl m⟩⟩
 ·by_cases e:i=j
  ·subst e
   rw [hl] at h2
   rw [bj h1]
   cases h2
   exact ⟨l,ys,rfl,hm,h0,hp,au,hd.mv m⟩
  ·rw [List.getElem?_set_ne e] at h1
   have q':=r.sl j q o h1 h2
   cases q with
   | nil=>trivial
   | val d=>obtain ⟨v,e,q⟩:=q'; exact ⟨v,e,q.mv m⟩
   | pin w d=>obtain ⟨v,e,ew,q⟩:=q'; exact ⟨v,e,ew,q.mv m⟩
   | own es =>
    obtain ⟨l',zs,rfl,hm',h0',hp',hl'',hr'⟩:=q'
    refine ⟨l',zs,rfl,hm',h0',hp',?_,hr'.mv m⟩
    rw [ar]
    ·exact hl''
    ·rintro rfl
     exact e (r.own i j _ _ _ h h1 hl h2)
   | obj q=>exact q'
 ·rw [bj e1]
  exact hA _ _ h e2
 ·obtain ⟨l2,e2,e3⟩:=hA _ _ h hl
  cases e2
  rw [ar (by rintro rfl; exact hn (by rw [e3]; simp))]
  exact e
 ·refine ⟨fun b o e n=>?_,fun p e h=>m.pen p e (r.same.pen p e h),fun b e=>?_⟩
  ·rw [ar (by rintro rfl; rw [h0] at e; cases e)]
   exact r.same.keep b o e n
  ·by_cases z:b=l
   ·subst z; rw [au]; intro z; cases z
   ·rw [ar z]; exact r.same.live b e
 ·refine ⟨fun a ha=>?_,fun p e=>?_⟩
  ·by_cases z:a=l
   ·subst z; rw [au]; intro z; cases z
   ·rw [ar z]; exact r.liv.m a ha
  ·by_cases z:p=l
   ·subst z; rw [au]; intro z; cases z
   ·rw [ar z]; exact r.liv.p p e
theorem pV {i:Nat} {o e:Expr} {apos cpos pos:Pos} {te:DE} (ho:PE X o (tVar i)) (he:PED X e te)
  (hbase:attributeBase o "append" X.env (eval o X.env)=eval o X.env:=by rfl)
  (hfew:((backTo cpos (starEach [e] X.env)).all (fun x=>!x.1) && (backToKw cpos (keywordEach [] X.env)).all (fun x=>x.1.isSome)
   && decide ([e].length + ([]:List Keyword).length + (if ([]:List Keyword).isEmpty then 0 else 1) < 30))=true:=by rfl)
  (hline:(apos.endLine == cpos.line)=true:=by rfl) (hst:starEach [e] X.env=(false,eval e X.env)::starEach [] X.env:=by rfl) (hpl:(backTo cpos (starEach [] X.env)).any (·.1)=false:=by rfl)
  (hs:swapsWith (.Call (.Attribute o "append" apos) [e] [] cpos) none pos.line X.env=pure false:=by rfl):PSD X (.Expr (.Call (.Attribute o "append" apos) [e] [] cpos) pos) (dApp i te):=by
 have hm:PE X (.Call (.Attribute o "append" apos) [e] [] cpos) (tBM X.K "list" uT (tVar i) (wJ (Classical.choose he.run) tNil)):=CM PySem.F.plainAttrs_list PySem.F.slot_list_append PySem.F.type_list_append pD ho (eQ (Classical.choose_spec he.run).1 jb hst) hbase hfew hline hst hpl
 obtain ⟨_,r⟩:=Classical.choose_spec he.run
 refine ⟨_,uE hm hs,fun {F} M H σ ρ E D rs oo h=>?_⟩
 obtain ⟨h0,h⟩:=h
 cases q:slot ρ i with
 | nil=>rw [q] at h0; exact h0.elim
 | val d=>rw [q] at h0; exact h0.elim
 | pin w d=>rw [q] at h0; exact h0.elim
 | obj z=>rw [q] at h0; exact h0.elim
 | own ds =>
  obtain ⟨oo1,ho1,l,xs,rfl,hm1,h01,hp1,hl1,hr1⟩:=rs.at (aZ q (by intro z; cases z))
  refine ⟨.ref l,ho1,.inl ⟨rfl,xs,SqL.of hl1⟩,?_⟩
  refine r M H σ ρ _ rs (he.mono _ _ _ (fun d ρ' h M' H' v m rs' rd=>?_) h)
  cases q':slot ρ' i with
  | nil=>rw [q'] at h; exact h.elim
  | val d=>rw [q'] at h; exact h.elim
  | pin w d=>rw [q'] at h; exact h.elim
  | obj z=>rw [q'] at h; exact h.elim
  | own ds' =>
   rw [q'] at h
   have g1:=aZ q' (by intro z; cases z)
   obtain ⟨l',xs',e',hm',h0',hp',hl',hr'⟩:=rs'.sl i _ _ g1 ho1
   cases e'
   obtain ⟨m2,rs2⟩:=rs'.write g1 ho1 (hr'.append (.one rd))
   exact ⟨l,xs',v,rfl,rfl,hl',by rw [← hr'.length]; exact h.1,oo.nx M' _ _ _ (m.trans m2) rs2 h.2⟩
end
def tZ:DSp:=fun ds P=>match ds with
 | [.pen,.int m]=>(1 <= m /\ m <= 10 ^ 60) /\ ∀ r,0 <= r->r < m->P (.int r)
 | _=>False
theorem vp:aV tZ:=fun ds P P' f h=>by
 unfold tZ at h ⊢
 split at h
 ·exact ⟨h.1,fun r h0 h1=>f _ (h.2 r h0 h1)⟩
 ·exact h.elim
theorem zj {P:Program} {w:World} {K:PySem.W.Frag} {mg:Str->Option Value} {base:Heap} {k:Nat} {f:Addr} {fd:FuncData} {ps:List Str} (h:FnOk P w K mg base CX0 k f fd ps (vf K)):FnOk P w K mg base CX0 k f fd ps (spD K 2 tZ) :=
 h.imp fun vs H Q E h=>by
  obtain ⟨pp,M,ds,lv,r,e,h⟩:=h
  unfold tZ at h
  split at h
  case h_2=>exact h.elim
  ·rename_i m
   obtain ⟨⟨m1,m2⟩,h⟩:=h
   simp only [Reps,Rep] at r
   obtain ⟨x,_,rfl,⟨p,rfl,ep,a,ns,t,l,pen⟩,y,_,rfl,rfl,rfl⟩:=r
   refine ⟨p,a,ns,t,l,m,rfl,pen,m1,m2,fun r t' l' H' h0 h1 pen' sb=>h r h0 h1 H' _ ⟨⟨fun b o hb n=>?_,fun q e _=>?_,fun b hb=>?_⟩,fun tb=>tb.of fun b o e tf=>sb b o (by rintro rfl; rw [pen.lst] at e; cases e; exact jI tf) e⟩ bZ⟩
   ·by_cases z:b=p
    ·subst z
     rw [pen.lst] at hb
     cases hb
     exact absurd rfl (n.1 ep _)
    ·exact sb b o z hb
   ·rw [ep] at e; cases e
    exact ⟨a,ns,t',l',pen'⟩
   ·by_cases z:b=p
    ·subst z; rw [pen'.lst]; intro z; cases z
    ·cases q:H b with
     | none=>exact absurd q hb
     | some o=>rw [sb b o z q]; intro z; cases z
def spLaw (K:PySem.W.Frag):Sp:=fun vs H Q _=>∃ a ns,vs=[.ref a] /\ Scr K H a ns /\ Tabs H /\ ∀ H',Q (.bl true) H'
end DL
namespace DL
open PySem PySem.Spec L2
open PyProof.Rows hiding St
variable [TB]
variable [Frm]
mutual
def toPy:D->PyData
 | .non=>.none
 | .bl b=>.bool b
 | .int i=>.int i
 | .str x=>.str x
 | .tup ds=>.tuple (nV ds)
 | .lst ds=>.list (nV ds)
 | .ty _=>.none
 | .dK _ _=>.none
 | .dT _ _=>.none
 | .pen=>.none
 | .exc _=>.none
 | .exa _ _=>.none
 | .cls _=>.none
def nV:List D->List PyData
 | []=>[]
 | d::ds=>toPy d::nV ds
def pln:D->Bool
 | .pen=>false
 | .exc _=>false
 | .exa _ _=>false
 | .cls _=>false
 | .ty _=>false
 | .dK _ _=>false
 | .dT _ _=>false
 | .tup ds=>plns ds
 | .lst ds=>plns ds
 | _=>true
def plns:List D->Bool
 | []=>true
 | d::ds=>pln d && plns ds
end
def eqD (x y:D):Bool:=PyData.eqv (toPy x) (toPy y)
def shp (d:D):Bool:=pln d && SeqAt.shaped (toPy d)
mutual
theorem jq {P:Program} {w:World} {K:PySem.W.Frag} {pp:Option Addr} {M:List Addr} {H:Hp} {h:Heap} (ok:HOk P w H h):∀ (d:D) (v:V) (u:Value),pln d=true->Rep K pp M H d v->RelV v u->∃ as,Reads h u (toPy d) as
 | .non,_,_,_,r,q=>by simp only [Rep] at r; subst r; cases q; exact ⟨_,.none⟩
 | .bl b,_,_,_,r,q=>by simp only [Rep] at r; subst r; cases q; exact ⟨_,.bool b⟩
 | .int i,_,_,_,r,q=>by simp only [Rep] at r; subst r; obtain ⟨t,rfl⟩:=q; exact ⟨_,.int i t⟩
 | .str x,_,_,_,r,q=>by simp only [Rep] at r; subst r; obtain ⟨t,rfl⟩:=q; exact ⟨_,.str x t⟩
 | .tup ds,_,_,p,r,q=>by
  simp only [Rep] at r
  obtain ⟨a,xs,rfl,ha,r⟩:=r
  cases q
  obtain ⟨_,its,vs,o,ho,hc,n,hd⟩:=ok a _ ha
  obtain ⟨as,z⟩:=lU ok ds xs its (by simpa only [pln] using p) r vs
  exact ⟨_,by rw [toPy]; exact .tuple ho hc hd (by simpa using z)⟩
 | .lst ds,_,_,p,r,q=>by
  simp only [Rep] at r
  obtain ⟨a,xs,rfl,_,_,ha,r⟩:=r
  cases q
  obtain ⟨_,its,n,vs,ho⟩:=ok a _ ha
  obtain ⟨as,z⟩:=lU ok ds xs its (by simpa only [pln] using p) r vs
  exact ⟨_,by rw [toPy]; exact .list ho rfl rfl (by simpa using z)⟩
 | .ty _,_,_,p,_,_=>by simp [pln] at p
 | .dK _ _,_,_,p,_,_=>by simp [pln] at p
 | .dT _ _,_,_,p,_,_=>by simp [pln] at p
 | .pen,_,_,p,_,_=>by simp [pln] at p
 | .exc _,_,_,p,_,_=>by simp [pln] at p
 | .exa _ _,_,_,p,_,_=>by simp [pln] at p
 | .cls _,_,_,p,_,_=>by simp [pln] at p
theorem lU {P:Program} {w:World} {K:PySem.W.Frag} {pp:Option Addr} {M:List Addr} {H:Hp} {h:Heap} (ok:HOk P w H h):∀ (ds:List D) (vs:List V) (us:List Value),plns ds=true->Reps K pp M H ds vs->Vals vs us->∃ as,ReadsAll h us (nV ds) as
 | [],_,_,_,r,q=>by simp only [Reps] at r; subst r; cases q; exact ⟨_,.nil⟩
 | d::ds,_,_,p,r,q=>by
  simp only [Reps] at r
  obtain ⟨x,r',rfl,r1,r2⟩:=r
  simp only [plns,Bool.and_eq_true] at p
  cases q with
  | cons q1 q2 =>
   obtain ⟨as,z1⟩:=jq ok d _ _ p.1 r1 q1
   obtain ⟨bs,z2⟩:=lU ok ds _ _ p.2 r2 q2
   exact ⟨_,by rw [nV]; exact .cons z1 z2⟩
end
section
variable {X:Cx} {pp:Option Addr} {k:Nat}
def rEqD (K:PySem.W.Frag) (n:Bool):R2:=fun x y H Q=>∃ pp M dx dy,Rep K pp M H dx x /\ Rep K pp M H dy y /\ shp dx=true /\ shp dy=true /\ Q (.bl (if n then !eqD dx dy else eqD dx dy)) H
theorem BC (hr:Room k X.A):OpR X (compareOp .Eq) (rEqD X.K false):=by
 intro pins s σ H x y v u Q I rx ry h
 obtain ⟨pp,M,dx,dy,r1,r2,s1,s2,q⟩:=h
 unfold shp at s1 s2
 rw [Bool.and_eq_true] at s1 s2
 obtain ⟨as,z1⟩:=jq I.hok dx x v s1.1 r1 rx
 obtain ⟨bs,z2⟩:=jq I.hok dy y u s2.1 r2 ry
 exact SeqAt.compareEq_shaped z1 z2 s1.2 s2.2 (by have:=hr.un; omega) (cZ I q rfl)
theorem BD (hr:Room k X.A):OpR X (compareOp .NotEq) (rEqD X.K true):=by
 intro pins s σ H x y v u Q I rx ry h
 obtain ⟨pp,M,dx,dy,r1,r2,s1,s2,q⟩:=h
 unfold shp at s1 s2
 rw [Bool.and_eq_true] at s1 s2
 obtain ⟨as,z1⟩:=jq I.hok dx x v s1.1 r1 rx
 obtain ⟨bs,z2⟩:=jq I.hok dy y u s2.1 r2 ry
 exact SeqAt.compareNe_shaped z1 z2 s1.2 s2.2 (by have:=hr.un; omega) (cZ I q rfl)
def gEq (n:Bool):D->D->(D->Prop)->Prop:=fun x y P=>(shp x=true /\ shp y=true) /\ P (.bl (if n then !eqD x y else eqD x y))
theorem ej (hr:Room k X.A):OpD X (compareOp .Eq) (gEq false) :=
 ⟨fun _ _ _ _ f h=>⟨h.1,f _ h.2⟩,_,BC hr,fun {pp} M H x y v u Q _ rx ry h=>⟨pp,M,x,y,rx,ry,h.1.1,h.1.2,h.2 H _ .refl gC⟩⟩
theorem nW (hr:Room k X.A):OpD X (compareOp .NotEq) (gEq true) :=
 ⟨fun _ _ _ _ f h=>⟨h.1,f _ h.2⟩,_,BD hr,fun {pp} M H x y v u Q _ rx ry h=>⟨pp,M,x,y,rx,ry,h.1.1,h.1.2,h.2 H _ .refl gC⟩⟩
end
end DL
namespace DL
open PySem PySem.Spec L2
open PyProof.Rows hiding St
variable [TB]
variable [Frm]
section
variable {X:Cx} {F:Fx} {pp:Option Addr}
def Dh:D->D->(D->Prop)->Prop
 | .tup xs,.tup ys,P=>(xs≠[] /\ xs.length + ys.length <= sizeLine) /\ P (.tup (xs++ys))
 | _,_,_=>False
theorem vt:OpD X (binaryOp .Add) Dh:=by
 refine ⟨fun x y P P' f h=>?_,_,yK,fun {pp} M H x y v u Q _ rx ry h=>?_⟩
 ·cases x <;> first | exact h.elim | skip
  cases y <;> first | exact h.elim | exact ⟨h.1,f _ h.2⟩
 ·cases x <;> first | exact h.elim | skip
  cases y <;> first | exact h.elim | skip
  rename_i xs ys
  have rx':=rx
  simp only [Rep] at rx ry
  obtain ⟨a,us,rfl,ha,ra⟩:=rx
  obtain ⟨b,ws,rfl,hb,rb⟩:=ry
  obtain ⟨⟨h1,h2⟩,h⟩:=h
  refine ⟨a,b,us,ws,rfl,rfl,SqT.of ha,SqT.of hb,?_,by rw [← ra.length,← rb.length]; exact h2,fun e=>?_,fun e l hl=>?_⟩
  ·rintro rfl
   have:=ra.length
   exact h1 (List.length_eq_zero_iff.mp this)
  ·subst e
   have:=rb.length
   have e2:ys=[]:=List.length_eq_zero_iff.mp this
   subst e2
   rw [List.append_nil] at h
   exact h H _ .refl rx'
  ·refine h _ _ (.new hl) ?_
   simp only [Rep]
   exact ⟨l,_,rfl,au,(ra.append rb).mv (.new hl)⟩
abbrev DO:=DS->(Option Int->DS->Prop)->Prop
structure POD (X:Cx) (e:Option Expr) (t:DO):Prop where
 mono:∀ ρ P P',(∀ b ρ',P b ρ'->P' b ρ')->t ρ P->t ρ P'
 run:∃ T:TO,PO X e T /\ ∀ {F:Fx} M H σ ρ (Q:Option Int->Hp->Prop),RSt X.K F M H σ ρ ->
  (t ρ fun o ρ'=>∀ M' H',Mv X.K F.pp M H M' H'->RSt X.K F M' H' σ ρ'->Q o H')->T σ H Q
abbrev BE:DO:=fun ρ Q=>Q none ρ
abbrev BF (te:DE):DO:=fun ρ Q=>te ρ fun d ρ'=>match d with
 | .int i=>Q (some i) ρ'
 | _=>False
theorem nX:POD X none BE:=⟨fun _ _ _ f h=>f _ _ h,_,yI,fun {F} M H σ ρ Q rs h=>h M H .refl rs⟩
theorem nY {e:Expr} {te:DE} (he:PED X e te):POD X (some e) (BF te):=by
 obtain ⟨T,p,r⟩:=he.run
 refine ⟨fun _ _ _ f h=>he.mono _ _ _ (fun d _ h=>?_) h,_,yJ p,fun {F} M H σ ρ Q rs h=>r M H σ ρ _ rs (he.mono _ _ _ (fun d ρ' h M' H' v m rs' rd=>?_) h)⟩
 ·cases d <;> first | exact h.elim | exact f _ _ h
 ·cases d <;> first | exact h.elim | skip
  simp only [Rep] at rd
  exact ⟨_,rd,h M' H' m rs'⟩
def cutD (xs:List D) (lo hi:Option Int):List D:=(xs.drop (HT.sIx xs.length 0 lo)).take (HT.sIx xs.length xs.length hi - HT.sIx xs.length 0 lo)
theorem Reps.cut {K:PySem.W.Frag} {M:List Addr} {H:Hp} {ds:List D} {xs:List V} (lo hi:Option Int) (r:Reps K pp M H ds xs):Reps K pp M H (cutD ds lo hi) (cutV xs lo hi):=by
 unfold cutD cutV
 rw [r.length]
 exact (r.drop _).take _
def gSlT:D->Option Int->Option Int->(D->Prop)->Prop
 | .tup xs,lo,hi,P=>¬ (HT.sIx xs.length 0 lo=0 /\ HT.sIx xs.length xs.length hi=xs.length) /\ P (.tup (cutD xs lo hi))
 | _,_,_,_=>False
abbrev dSlT (te:DE) (tl th:DO):DE:=fun ρ Q=>te ρ fun x ρ1=>tl ρ1 fun lo ρ2=>th ρ2 fun hi ρ3=>gSlT x lo hi fun d=>Q d ρ3
theorem xZ {e:Expr} {lo hi:Option Expr} {te:DE} {tl th:DO} {pos p2:Pos} (he:PED X e te) (hl:POD X lo tl) (hh:POD X hi th):PED X (.Subscript e (.Slice lo hi none p2) pos) (dSlT te tl th):=by
 obtain ⟨T,p,r⟩:=he.run
 obtain ⟨Tl,pl,rl⟩:=hl.run
 obtain ⟨Th,ph,rh⟩:=hh.run
 have gm:∀ x lo hi P P',(∀ d,P d->P' d)->gSlT x lo hi P->gSlT x lo hi P':=fun x lo hi P P' f h=>by
  cases x <;> first | exact h.elim | exact ⟨h.1,f _ h.2⟩
 refine ⟨fun _ _ _ f h=>he.mono _ _ _ (fun _ _ h=>hl.mono _ _ _ (fun _ _ h=>hh.mono _ _ _ (fun _ _ h=>gm _ _ _ _ _ (fun _ h=>f _ _ h) h) h) h) h,_,ss AT p pl ph,fun {F} M H σ ρ Q rs h=>?_⟩
 refine r M H σ ρ _ rs (he.mono _ _ _ (fun x ρ1 h M1 H1 v m1 rs1 r1=>?_) h)
 refine rl M1 H1 σ ρ1 _ rs1 (hl.mono _ _ _ (fun lo ρ2 h M2 H2 m2 rs2=>?_) h)
 refine rh M2 H2 σ ρ2 _ rs2 (hh.mono _ _ _ (fun hi ρ3 h M3 H3 m3 rs3=>?_) h)
 have r3:=(r1.mv m2).mv m3
 cases x <;> first | exact h.elim | skip
 simp only [Rep] at r3
 obtain ⟨a,xs,rfl,ha,rx⟩:=r3
 refine ⟨a,xs,rfl,SqT.of ha,by rw [← rx.length]; exact h.1,fun l hl=>h.2 M3 _ _ (((m1.trans m2).trans m3).trans (.new hl)) (rs3.sameP (.new hl)) ?_⟩
 simp only [Rep]
 exact ⟨l,_,rfl,au,(rx.cut lo hi).mv (.new hl)⟩
end
end DL
namespace DL
open PySem PySem.Spec L2
open PyProof.Rows hiding St
variable [TB]
variable [Frm]
theorem lV {g:DG} {b:DTS} {E:DEnds} {ds:List D} (N:DS->Prop) (hn:∀ ρ,N ρ->E.nx ρ)
  (hs:∀ d∈ds,∀ (ρ:DS) (X:DS->Prop),N ρ->(∀ ρ',N ρ'->X ρ')->g d ρ fun ρ1=>b { E with nx:=X,ct:=X,bk:=E.nx } ρ1):∀ ρ,N ρ->fT g b ds E ρ:=by
 induction ds with
 | nil=>exact hn
 | cons d r ih=>exact fun ρ h=>hs d List.mem_cons_self ρ _ h (ih fun d hd=>hs d (List.mem_cons_of_mem _ hd))
theorem jr {g:DG} {b:DTS} {E:DEnds} {ds:List D} (N:List D->DS->Prop) (hn:∀ ρ,N ds ρ->E.nx ρ)
  (hs:∀ (pre:List D) (d:D) (post:List D) (ρ:DS) (X:DS->Prop),ds=pre++d::post->N pre ρ->(∀ ρ',N (pre++[d]) ρ'->X ρ')->g d ρ fun ρ1=>b { E with nx:=X,ct:=X,bk:=E.nx } ρ1) (ρ:DS) (h:N [] ρ):fT g b ds E ρ:=by
 have key:∀ (post pre:List D),ds=pre++post->∀ ρ,N pre ρ->fT g b post E ρ:=by
  intro post
  induction post with
  | nil=>intro pre e ρ h; rw [List.append_nil] at e; subst e; exact hn ρ h
  | cons d r ih=>intro pre e ρ h; exact hs pre d r ρ _ e h (ih (pre++[d]) (by rw [e,List.append_assoc]; rfl))
 exact key ds [] rfl ρ h
theorem jK {c:DT} {b:DTS} {E:DEnds} (N:DS->Prop) (μ:DS->Nat)
  (hs:∀ (ρ:DS) (X:DS->Prop),N ρ->(∀ ρ',N ρ'->μ ρ' < μ ρ->X ρ')->c ρ fun k ρ'=>Br k (b { E with nx:=X,ct:=X,bk:=E.nx } ρ') (E.nx ρ')) (ρ:DS) (h:N ρ):xW c b E ρ:=by
 have key:∀ n ρ,N ρ->μ ρ < n->gF c b n E ρ:=by
  intro n
  induction n with
  | zero=>intro ρ _ h; exact absurd h (Nat.not_lt_zero _)
  | succ n ih=>intro ρ h hl; exact hs ρ _ h fun ρ' h' hl'=>ih ρ' h' (by omega)
 exact ⟨_,key _ ρ h (Nat.lt_succ_self _)⟩
theorem ya {α:Type} {xs:List α} {r:Int} (h0:0 <= r) (h1:r < xs.length):∃ d,atI xs r=some d /\ xs[r.toNat]? = some d:=by
 obtain ⟨j,rfl⟩:=Int.eq_ofNat_of_zero_le h0
 have hj:j < xs.length:=by omega
 exact ⟨xs[j],atI_nat (by simp [hj]),by simp [hj]⟩
theorem zk {xs:List D} {r:Int} {Q:D->Prop} (h0:0 <= r) (h1:r < xs.length) (h:∀ d∈xs,Q d):opt (atI xs r) Q:=by
 obtain ⟨d,e,e2⟩:=ya h0 h1
 rw [e]
 exact h d (List.mem_of_getElem? e2)
theorem fo {xs:List D} {r:Int} {d:D} {Q:D->Prop} (h0:0 <= r) (e:xs[r.toNat]? = some d) (h:Q d):opt (atI xs r) Q:=by
 obtain ⟨j,rfl⟩:=Int.eq_ofNat_of_zero_le h0
 rw [atI_nat (show xs[j]? = some d from e)]
 exact h
theorem cpow {i j:Int} (h:0 <= j /\ j <= 1000000 /\ i.natAbs < 2 ^ 64:=by decide):CPow i j:=h
theorem sz {n:Nat} (h:Nat.ble n 1000=true:=by rfl):n <= sizeLine:=Nat.le_trans (Nat.le_of_ble_eq_true h) (by decide)
theorem bG {i j:Int}:eqD (.int i) (.int j)=decide (i=j):=by
 show (i == j)=_
 by_cases h:i=j <;> simp [h]
end DL
namespace DL
open PySem PySem.Spec L2
open PyProof.Rows hiding St
variable [TB]
variable [Frm]
def Bd (n:Nat) (i:Int):Prop:=i.natAbs < 2 ^ n
theorem Bd.mono {m n:Nat} {i:Int} (h:Bd m i) (l:m <= n):Bd n i:=Nat.lt_of_lt_of_le h (Nat.pow_le_pow_right (by decide) l)
theorem Bd.mul {m n:Nat} {i j:Int} (h:Bd m i) (q:Bd n j):Bd (m + n) (i * j):=by
 unfold Bd at *
 rw [Int.natAbs_mul,Nat.pow_add]
 exact Nat.mul_lt_mul'' h q
theorem Bd.add {m n:Nat} {i j:Int} (h:Bd m i) (q:Bd n j):Bd (max m n + 1) (i + j):=by
 have h1:=h.mono (Nat.le_max_left m n)
 have h2:=q.mono (Nat.le_max_right m n)
 unfold Bd at *
 rw [Nat.pow_succ]
 omega
theorem Bd.sub {m n:Nat} {i j:Int} (h:Bd m i) (q:Bd n j):Bd (max m n + 1) (i - j):=by
 have h1:=h.mono (Nat.le_max_left m n)
 have h2:=q.mono (Nat.le_max_right m n)
 unfold Bd at *
 rw [Nat.pow_succ]
 omega
theorem Bd.le {m:Nat} {i j:Int} (h:Bd m j) (l:i.natAbs <= j.natAbs):Bd m i:=Nat.lt_of_le_of_lt l h
theorem Bd.big {m:Nat} {i:Int} (h:Bd m i) (l:m <= 8000):Big i:=vc (h.mono l)
theorem Bd.cmul {m n:Nat} {i j:Int} (h:Bd m i) (q:Bd n j) (l:m <= 8000:=by decide) (l':n <= 8000:=by decide):CMulB i j:=.inr (.inr ⟨h.big l,q.big l'⟩)
theorem lW {i:Int} {n:Nat} (h:i.natAbs < 2 ^ n:=by decide):Bd n i:=h
theorem wZ {a b c d:Int}:eqD (.tup [.int a,.int b]) (.tup [.int c,.int d])=(decide (a=c) && decide (b=d)):=by
 show ((a == c) && ((b == d) && true))=_
 rw [Bool.and_true]
 by_cases h:a=c <;> by_cases h':b=d <;> simp [h,h']
end DL
namespace DL
open PySem PySem.Spec L2
open PyProof.Rows hiding St
variable [TB]
variable [Frm]
def gGcd:DSp:=fun ds Q=>match ds with
 | [.int a,.int b]=>Q (.int (Int.gcd a b:Nat))
 | _=>False
theorem xa:aV gGcd:=fun ds P P' f h=>by
 unfold gGcd at h ⊢
 split at h
 ·exact f _ h
 ·exact h.elim
def pW:DSp:=fun ds Q=>match ds with
 | [.int a,.int b]=>(b≠0 /\ Bd 7000 a /\ Bd 7000 b) /\ ∀ x y,Ra.Low a b x y->Q (.tup [.int x,.int y])
 | _=>False
theorem ua:aV pW:=fun ds P P' f h=>by
 unfold pW at h ⊢
 split at h
 ·exact ⟨h.1,fun x y l=>f _ (h.2 x y l)⟩
 ·exact h.elim
def gRR (t b:Int->Int->Int->Int->Int):DSp:=fun ds Q=>match ds with
 | [.tup [.int a,.int b'],.tup [.int c,.int d]]=>(b a b' c d≠0 /\ Bd 3000 a /\ Bd 3000 b' /\ Bd 3000 c /\ Bd 3000 d) /\ ∀ x y,Ra.Low (t a b' c d) (b a b' c d) x y->Q (.tup [.int x,.int y])
 | _=>False
theorem rC {t b:Int->Int->Int->Int->Int}:aV (gRR t b):=fun ds P P' f h=>by
 unfold gRR at h ⊢
 split at h
 ·exact ⟨h.1,fun x y l=>f _ (h.2 x y l)⟩
 ·exact h.elim
def sM:DSp:=gRR (fun a b c d=>a * d - c * b) (fun _ b _ d=>b * d)
def sN:DSp:=gRR (fun a _ c _=>a * c) (fun _ b _ d=>b * d)
def xb:DSp:=gRR (fun a _ _ d=>a * d) (fun _ b c _=>b * c)
def ub:DSp:=fun ds Q=>match ds with
 | [.tup [.int a,.int b],.tup [.int c,.int d]]=>(Bd 7000 a /\ Bd 7000 b /\ Bd 7000 c /\ Bd 7000 d) /\ Q (.bl (decide (a * d < c * b)))
 | _=>False
theorem vv:aV ub:=fun ds P P' f h=>by
 unfold ub at h ⊢
 split at h
 ·exact ⟨h.1,f _ h.2⟩
 ·exact h.elim
end DL
namespace DL
open PySem PySem.Spec L2
open PyProof.Rows hiding St
variable [TB]
def pX:Sl->Sl
 | .own _=>.nil
 | .obj _=>.nil
 | s=>s
theorem iG (s:Sl):(∀ ds,pX s ≠ .own ds) /\ ∀ q,pX s ≠ .obj q:=by
 cases s <;> exact ⟨fun ds z=>(by cases z),fun q z=>(by cases z)⟩
def cY (ρ:DS):DS:=ρ.map pX
def BG (ρ:DS):Option Nat->Sl
 | none=>.nil
 | some j=>pX (slot ρ j)
def subD (js:List (Option Nat)) (ρ:DS):DS:=js.map (BG ρ)
def fB (g:DG) (tc:DT) (te:DE):List D->List D->DS->(List D->Prop)->Prop
 | [],acc,_,Q=>Q acc
 | d::r,acc,ρ,Q=>g d ρ fun ρ1=>tc ρ1 fun b ρ2=>Br b (te ρ2 fun y ρ3=>acc.length < sizeLine /\ fB g tc te r (acc++[y]) (cY ρ3) Q) (fB g tc te r acc (cY ρ2) Q)
abbrev Di (t:DA) (js:List (Option Nat)) (g:DG) (tc:DT) (te:DE):DA:=fun ρ Q=>t ρ fun ds ρ1=>fB g tc te ds [] (subD js ρ1) fun ys=>Q ys ρ1
def delH (H:Hp) (a:Addr):Hp:=fun b=>if b=a then none else H b
theorem lX {H:Hp} {a:Addr}:delH H a a=none:=by simp [delH]
theorem bX {H:Hp} {a b:Addr} (h:b≠a):delH H a b=H b:=by simp [delH,h]
theorem Tabs.del {H:Hp} {l:Addr} {o:HO} (h:Tabs H) (hl:H l=some o) (ht:¬ TF o):Tabs (delH H l) :=
 h.of fun b x e tf=>by
  rw [bX]
  ·exact e
  ·rintro rfl
   rw [hl] at e; cases e
   exact ht tf
theorem nZ {H:Hp} {a:Addr} {o:HO} (h:H a=some o):upd (delH H a) a o=H:=by
 funext b
 by_cases e:b=a
 ·subst e; rw [au,h]
 ·rw [ar e,bX e]
section
variable {X:Cx} {F:Fx} {K:PySem.W.Frag} {pp:Option Addr}
theorem RSt.rebase {M:List Addr} {H:Hp} {σ:St} {ρ:DS} (r:RSt K F M H σ ρ):RSt K ⟨F.pp,M,H⟩ M H σ (cY ρ):=by
 refine ⟨by simp [cY,r.len],fun i s o h1 h2=>?_,OwF.none (fun i s h1=>?_),fun a h=>h,.refl,r.liv.m,r.liv0,⟨trivial,r.lk.t⟩⟩
 ·simp only [cY,List.getElem?_map] at h1
  cases q:ρ[i]? with
  | none=>rw [q] at h1; cases h1
  | some s' =>
   rw [q] at h1
   cases h1
   have:=r.sl i s' o q h2
   cases s' with
   | nil=>trivial
   | val d=>exact this
   | pin w d=>exact this
   | own ds=>trivial
   | obj q=>trivial
 ·simp only [cY,List.getElem?_map] at h1
  cases q:ρ[i]? with
  | none=>rw [q] at h1; cases h1
  | some s' =>
   rw [q] at h1
   cases h1
   exact iG s'
theorem RSt.writeFree {M:List Addr} {H:Hp} {σ:St} {ρ:DS} {D:Addr} {xs ys:List V} (r:RSt K ⟨F.pp,M,H⟩ M H σ (cY ρ)) (hD:D∈M) (hp:F.pp≠some D) (h:H D=some (.lst xs)) :
  RSt K ⟨F.pp,M,upd H D (.lst ys)⟩ M (upd H D (.lst ys)) σ (cY ρ):=by
 have m:Mv K F.pp M H M (upd H D (.lst ys)):=.write h hD hp
 have lv:Lv0 F.pp M (upd H D (.lst ys)):=by
  refine ⟨fun a ha=>?_,fun p e=>?_⟩
  ·by_cases z:a=D
   ·subst z; rw [au]; intro z; cases z
   ·rw [ar z]; exact r.liv.m a ha
  ·by_cases z:p=D
   ·subst z; rw [au]; intro z; cases z
   ·rw [ar z]; exact r.liv.p p e
 refine ⟨r.len,fun i s o h1 h2=>?_,OwF.none (fun i s h1=>?_),fun a h=>h,.refl,lv.m,lv,⟨trivial,m.tb r.lk.t⟩⟩
 rotate_left
 ·simp only [cY,List.getElem?_map] at h1
  cases q:ρ[i]? with
  | none=>rw [q] at h1; cases h1
  | some s' =>
   rw [q] at h1
   cases h1
   exact iG s'
 have q:=r.sl i s o h1 h2
 cases s with
 | nil=>trivial
 | val d=>obtain ⟨v,e,q⟩:=q; exact ⟨v,e,q.mv m⟩
 | pin w d=>obtain ⟨v,e,ew,q⟩:=q; exact ⟨v,e,ew,q.mv m⟩
 | obj z=>exact q
 | own ds =>
  exfalso
  simp only [cY,List.getElem?_map] at h1
  cases q:ρ[i]? with
  | none=>rw [q] at h1; cases h1
  | some s'=>rw [q] at h1; cases s' <;> cases h1
theorem rD (ρ:DS):cY (cY ρ)=cY ρ:=by
 simp only [cY,List.map_map]
 refine List.map_congr_left fun s _=>?_
 cases s <;> rfl
theorem nv (js:List (Option Nat)) (ρ:DS):cY (subD js ρ)=subD js ρ:=by
 simp only [cY,subD,List.map_map]
 refine List.map_congr_left fun o _=>?_
 cases o with
 | none=>rfl
 | some j=>simp only [Function.comp,BG]; cases slot ρ j <;> rfl
theorem RSt.block {M:List Addr} {H:Hp} {σ:St} {ρ:DS} {D:Addr} (r:RSt K F M H σ ρ) (js:List (Option Nat)) (hD:H D=none) :
  RSt K ⟨F.pp,D::M,upd H D (.lst [])⟩ (D::M) (upd H D (.lst [])) (L2.sub js σ) (subD js ρ):=by
 have m:Mv K F.pp M H (D::M) (upd H D (.lst [])):=.newOwn hD
 have lv:Lv0 F.pp (D::M) (upd H D (.lst [])):=by
  refine ⟨fun a ha=>?_,fun p e=>(SameP.new (K:=K) (pp:=F.pp) hD).live p (r.liv.p p e)⟩
  rcases List.mem_cons.mp ha with rfl | ha
  ·rw [au]; intro z; cases z
  ·exact (SameP.new (K:=K) (pp:=F.pp) hD).live a (r.liv.m a ha)
 refine ⟨by simp [L2.sub,subD],fun i s o h1 h2=>?_,OwF.none (fun i s h1=>?_),fun a h=>h,.refl,lv.m,lv,⟨trivial,m.tb r.lk.t⟩⟩
 ·simp only [subD,List.getElem?_map] at h1
  simp only [L2.sub,List.getElem?_map] at h2
  cases q:js[i]? with
  | none=>rw [q] at h1; cases h1
  | some jo =>
   rw [q] at h1 h2
   cases h1
   cases h2
   cases jo with
   | none=>trivial
   | some j =>
    show RSl K _ _ _ (pX (slot ρ j)) _
    cases e:slot ρ j with
    | nil=>trivial
    | own ds=>trivial
    | obj q=>trivial
    | val d =>
     obtain ⟨o,ho,v,rfl,hr⟩:=r.at (aZ e (by intro z; cases z))
     exact ⟨v,by simp [sub1,ho],hr.mv m⟩
    | pin w d =>
     obtain ⟨o,ho,v,rfl,ew,hr⟩:=r.at (aZ e (by intro z; cases z))
     exact ⟨v,by simp [sub1,ho],ew,hr.mv m⟩
 ·simp only [subD,List.getElem?_map] at h1
  cases q:js[i]? with
  | none=>rw [q] at h1; cases h1
  | some jo =>
   rw [q] at h1
   cases jo with
   | none=>cases h1; exact ⟨fun ds z=>(by cases z),fun q z=>(by cases z)⟩
   | some j =>
    cases h1
    exact iG (slot ρ j)
structure PTsD (X:Cx) (ifs:List Expr) (t:DT):Prop where
 mono:∀ ρ P P',(∀ b ρ',P b ρ'->P' b ρ')->t ρ P->t ρ P'
 run:∃ T:TT,PTs X ifs T /\ ∀ {F:Fx} M H σ ρ (Q:Bool->Hp->Prop),RSt X.K F M H σ ρ ->
  (t ρ fun b ρ'=>∀ M' H',Mv X.K F.pp M H M' H'->RSt X.K F M' H' σ ρ'->Q b H')->T σ H Q
abbrev da:DT:=fun ρ Q=>Q true ρ
theorem eu:PTsD X [] da:=⟨fun _ _ _ f h=>f _ _ h,_,yT,fun {F} M H σ ρ Q rs h=>h M H .refl rs⟩
theorem rE {c:Expr} {t:DT} (h:PTD X c t):PTsD X [c] t:=by
 obtain ⟨T,p,r⟩:=h.run
 exact ⟨h.mono,T,yU p,r⟩
structure PCD (X:Cx) (e:Expr) (t:DA):Prop where
 mono:∀ ρ P P',(∀ d ρ',P d ρ'->P' d ρ')->t ρ P->t ρ P'
 run:∃ T:TE,PE X e T /\ (∀ (i:Nat) (y:Str) (py spos:Pos),X.N.Nodup->X.N[i]? = some y->X.env.scope.names.lookup y=some .local->swapsWith e (some (.Name y py)) spos.line X.env=pure true->PS X (.Assign [.Name y py] e spos) (tAsg T (uF i))) /\
  ∀ {F:Fx} M H σ ρ (Q:VK),RSt X.K F M H σ ρ ->
  (t ρ fun ds ρ'=>∀ M' H1 H' l xs,Mv X.K F.pp M H M' H1->RSt X.K F M' H1 σ ρ'->H1 l=none->H'=upd H1 l (.lst xs)->Reps X.K F.pp M' H1 ds xs->Q (.ref l) H')->T σ H Q
theorem PCD.pld {e:Expr} {t:DA} (h:PCD X e t):PLD X e t:=by
 obtain ⟨T,p,_,r⟩:=h.run
 exact ⟨h.mono,T,p,r⟩
theorem jL {g:DG} {tc:DT} {te:DE} (hg:∀ d ρ P P',(∀ ρ',P ρ'->P' ρ')->g d ρ P->g d ρ P') (hc:∀ ρ P P',(∀ b ρ',P b ρ'->P' b ρ')->tc ρ P->tc ρ P') (he:∀ ρ P P',(∀ d ρ',P d ρ'->P' d ρ')->te ρ P->te ρ P') {Q Q':List D->Prop} (f:∀ ys,Q ys->Q' ys) :
  ∀ (ds acc:List D) (ρ:DS),fB g tc te ds acc ρ Q->fB g tc te ds acc ρ Q'
 | [],acc,ρ,h=>f _ h
 | d::r,acc,ρ,h=>hg _ _ _ _ (fun ρ1 h=>hc _ _ _ (fun b ρ2 h=>⟨fun e=>he _ _ _ (fun y ρ3 h=>⟨h.1,jL hg hc he f r _ _ h.2⟩) (h.yes e),fun e=>jL hg hc he f r _ _ (h.no e)⟩) h) h
theorem cJ {tg elt iter:Expr} {ifs:List Expr} {scope:Scope} {cl:List (Str×Addr)} {N':List Str} {js:List (Option Nat)} {pos:Pos} {t:DA} {g:DG} {tc:DT} {te:DE}
  (hc:X.calm=true) (hclo:fj X.env.cells scope.names []=some cl) (hdis:∀ y∈scope.names,y.2 = .free->(y.1,NameKind.cell)∉scope.names) (hkind:scope.kind = .function) (cap:Cap X scope N' js)
  (hnames:∀ y∈scope.names,y.2 = .local->scope.names.lookup y.1=some .local) (hi:PID X tg iter t)
  (hg:∀ B:Blk,PGD (cxB X scope cl N' B) tg g) (ht:∀ B:Blk,PTsD (cxB X scope cl N' B) ifs tc) (he:∀ B:Blk,PED (cxB X scope cl N' B) elt te)
  (hs:∀ v,foldedSetIterable iter X.env v=pure v:=by intro _; rfl):PCD X (.ListComp elt [⟨tg,iter,ifs,0⟩] scope pos) (Di t js g tc te):=by
 obtain ⟨wi,pi,ri⟩:=hi.run
 have hb:∀ B:Blk,PG (cxB X scope cl N' B) tg (Classical.choose (hg B).run) /\ PTs (cxB X scope cl N' B) ifs (Classical.choose (ht B).run) /\ PE (cxB X scope cl N' B) elt (Classical.choose (he B).run):=fun B =>
  ⟨(Classical.choose_spec (hg B).run).1,(Classical.choose_spec (ht B).run).1,(Classical.choose_spec (he B).run).1⟩
 let B0:Blk:=⟨0,X.s₀,X.H₀,[],[]⟩
 refine ⟨fun _ _ _ f h=>hi.mono _ _ _ (fun ds ρ1 h=>jL (hg B0).mono (ht B0).mono (he B0).mono (fun ys h=>f _ _ h) _ _ _ h) h,_,yW hc hclo hdis hkind cap hnames pi hb hs,fun i y py spos hN hy hl hsw=>yX hN hy hl hc hclo hdis hkind cap hnames pi hb hsw hs,fun {F} M H σ ρ Q rs h=>?_⟩
 refine ri M H σ ρ _ rs (hi.mono _ _ _ (fun ds ρ1 h M1 H1 J m1 rs1 ok=>?_) h)
 intro B Dl hD
 obtain ⟨_,rg⟩:=Classical.choose_spec (hg B).run
 obtain ⟨_,rt⟩:=Classical.choose_spec (ht B).run
 obtain ⟨_,re⟩:=Classical.choose_spec (he B).run
 have fr:=rs1.liv.fresh hD
 have m3:Mv X.K F.pp M1 H1 (Dl::M1) (upd H1 Dl (.lst [])):=.newOwn hD
 refine ⟨fun i m σ' H'=>∃ M' ρ' acc ys,m=ds.length - i /\ i <= ds.length /\ Mv X.K F.pp M1 H1 M' H' /\ SameP X.K F.pp H1 H' /\ RSt X.K ⟨F.pp,M',H'⟩ M' H' σ' (cY ρ') /\ Dl∈M' /\ (∀ a∈M1,a∈M') /\ H' Dl=some (.lst ys) /\ Reps X.K F.pp M' H' acc ys /\
  fB g tc te (ds.drop i) acc (cY ρ') fun ys=>∀ M' H1 H' l xs,Mv X.K F.pp M H M' H1->RSt X.K F M' H1 σ ρ1->H1 l=none->H'=upd H1 l (.lst xs)->Reps X.K F.pp M' H1 ys xs->Q (.ref l) H',
  ⟨ds.length,Dl::M1,subD js ρ1,[],[],rfl,Nat.zero_le _,m3,.new hD,by rw [nv]; exact rs1.block js hD,List.mem_cons_self,fun a ha=>List.mem_cons_of_mem _ ha,au,.nil,by rw [nv]; exact h⟩,?_⟩
 rintro i m σ' H' ⟨M',ρ',acc,ys,rfl,hil,mv,sm,rs',hDm,hsub,hDl,ra,hcoll⟩
 by_cases hlt:i < ds.length
 ·have e1:ds[i]? = some ds[i]:=by simp [hlt]
  rw [List.drop_eq_getElem_cons hlt] at hcoll
  refine .inr ⟨ok.go M' H' mv i hlt,fun σ2 H2=>∃ M2 ρ2 acc ys,Mv X.K F.pp M1 H1 M2 H2 /\ SameP X.K F.pp H1 H2 /\ RSt X.K ⟨F.pp,M2,H2⟩ M2 H2 σ2 (cY ρ2) /\ Dl∈M2 /\ (∀ a∈M1,a∈M2) /\ H2 Dl=some (.lst ys) /\ Reps X.K F.pp M2 H2 acc ys /\
   fB g tc te (ds.drop (i + 1)) acc (cY ρ2) fun ys=>∀ M' H1 H' l xs,Mv X.K F.pp M H M' H1->RSt X.K F M' H1 σ ρ1->H1 l=none->H'=upd H1 l (.lst xs)->Reps X.K F.pp M' H1 ys xs->Q (.ref l) H',
   fun σ2 H2 ⟨M2,ρ2,acc,ys,a1,a2,a3,a4,a5,a6,a7,a8⟩=>⟨ds.length - (i + 1),by omega,M2,ρ2,acc,ys,rfl,hlt,a1,a2,a3,a4,a5,a6,a7,a8⟩,fun y H2 yl=>?_⟩
  obtain ⟨sp,rx⟩:=ok.yld M' H' mv i _ y H2 e1 yl
  have rs'':RSt X.K ⟨F.pp,M',H2⟩ M' H2 σ' (cY ρ'):=by
   have:=(rs'.sameP sp).rebase
   rw [rD] at this
   exact this
  have mv2:=mv.trans (sp.mv (M:=M'))
  have sm2:=sm.trans sp
  have ra2:=ra.mv (sp.mv (M:=M'))
  have hDl2:H2 Dl=some (.lst ys):=sp.keep Dl _ hDl (nw fr.2)
  refine rg M' H2 σ' (cY ρ') _ _ _ rs'' rx ((hg B).mono _ _ _ _ (fun ρ3 h3 M3 H3 σ3 m3 rs3=>?_) hcoll)
  refine rt M3 H3 σ3 ρ3 _ rs3 ((ht B).mono _ _ _ (fun b ρ4 h4 M4 H4 m4 rs4=>?_) h3)
  -- what stands behind a step within this turn
  have keep:∀ {M5:List Addr} {H5:Hp} {σ5:St} {ρ5:DS},Mv X.K F.pp M' H2 M5 H5->RSt X.K ⟨F.pp,M',H2⟩ M5 H5 σ5 ρ5->Mv X.K F.pp M1 H1 M5 H5 /\ SameP X.K F.pp H1 H5 /\ RSt X.K ⟨F.pp,M5,H5⟩ M5 H5 σ5 (cY ρ5) /\ Dl∈M5 /\ (∀ a∈M1,a∈M5) /\ H5 Dl=some (.lst ys) /\ Reps X.K F.pp M5 H5 acc ys:=fun mm rr =>
   ⟨mv2.trans mm,sm2.trans rr.sameT,rr.rebase,rr.sub _ hDm,fun a ha=>rr.sub _ (hsub a ha),rr.same.keep Dl _ hDl2 (nw fr.2),ra2.mv mm⟩
  cases b with
  | false =>
   refine iteF ?_
   obtain ⟨a1,a2,a3,a4,a5,a6,a7⟩:=keep (m3.trans m4) rs4
   exact ⟨M4,ρ4,acc,ys,a1,a2,a3,a4,a5,a6,a7,h4.no rfl⟩
  | true =>
   refine iteT (re M4 H4 σ3 ρ4 _ rs4 ((he B).mono _ _ _ (fun y ρ5 h5 M5 H5 v m5 rs5 r5=>?_) (h4.yes rfl)))
   obtain ⟨a1,a2,a3,a4,a5,a6,a7⟩:=keep ((m3.trans m4).trans m5) rs5
   have mw:Mv X.K F.pp M5 H5 M5 (upd H5 Dl (.lst (ys++[v]))):=.write a6 a4 fr.2
   refine ⟨ys,a6,by rw [← a7.length]; exact h5.1,M5,ρ5,acc++[y],ys++[v],a1.trans mw,?_,a3.writeFree a4 fr.2 a6,a4,a5,au,(a7.append (.one r5)).mv mw,h5.2⟩
   refine ⟨⟨fun b o e n=>?_,fun p e hp=>mw.pen p e (a2.pen p e hp),fun b hb=>?_⟩,fun tb=>mw.tb (a2.tb tb)⟩
   ·rw [ar (by rintro rfl; rw [hD] at e; cases e)]
    exact a2.keep b o e n
   ·by_cases z:b=Dl
    ·subst z; rw [au]; intro z; cases z
    ·rw [ar z]; exact a2.live b hb
 ·have e:i=ds.length:=by omega
  refine .inl ⟨ok.stop M' H' mv i (by omega),?_⟩
  have hd:ds.drop i=[]:=by rw [List.drop_eq_nil_iff]; omega
  rw [hd] at hcoll
  have sd:SameP X.K F.pp H1 (delH H' Dl):=by
   refine ⟨⟨fun b o e n=>?_,fun p e hp=>?_,fun b hb=>?_⟩,fun tb=>(sm.tb tb).del hDl jI⟩
   ·rw [bX (by rintro rfl; rw [hD] at e; cases e)]
    exact sm.keep b o e n
   ·obtain ⟨a,ns,t,l,pn⟩:=sm.pen p e hp
    have np:p≠Dl:=by rintro rfl; exact fr.2 e
    refine ⟨a,ns,t,l,by rw [bX np]; exact pn.lst,?_,pn.t0⟩
    rcases pn.scr with ⟨o,q⟩ | q
    ·exact .inl ⟨o,by rw [bX (kK q hDl (by intro z; cases z))]; exact q⟩
    ·exact .inr q
   ·rw [bX (by rintro rfl; exact hb hD)]
    exact sm.live b hb
  have md:Mv X.K F.pp M' H' M1 (delH H' Dl):=by
   refine ⟨fun a xs q=>by rw [bX (kK q hDl (by intro z; cases z))]; exact q,fun a o q n p=>⟨by rw [bX (by rintro rfl; exact n hDm)]; exact q,fun z=>n (hsub a z)⟩,fun p e hp=>?_,fun tb=>tb.del hDl jI⟩
   obtain ⟨a,ns,t,l,pn⟩:=hp
   have np:p≠Dl:=by rintro rfl; exact fr.2 e
   refine ⟨a,ns,t,l,by rw [bX np]; exact pn.lst,?_,pn.t0⟩
   rcases pn.scr with ⟨o,q⟩ | q
   ·exact .inl ⟨o,by rw [bX (kK q hDl (by intro z; cases z))]; exact q⟩
   ·exact .inr q
  exact hcoll M1 (delH H' Dl) H' Dl ys (m1.trans sd.mv) (rs1.sameP sd) lX (nZ hDl).symm (ra.mv md)
theorem oa {e:Expr} {t:DA} {i:Nat} {y:Str} {py pos:Pos} (hN:X.N.Nodup) (hy:X.N[i]? = some y) (hl:X.env.scope.names.lookup y=some .local) (h:PCD X e t) (hsw:swapsWith e (some (.Name y py)) pos.line X.env=pure true:=by rfl):PSD X (.Assign [.Name y py] e pos) (dSet i (dFrz t)):=by
 obtain ⟨T,_,p,r⟩:=h.run
 refine ⟨_,p i y py pos hN hy hl hsw,fun {F} M H σ ρ E D rs o q=>r M H σ ρ _ rs (h.mono _ _ _ (fun ds ρ1 q M1 H1 H' l xs m1 rs1 hl e r1=>?_) q)⟩
 subst e
 refine o.nx M1 _ _ _ (m1.trans (.new hl)) ((rs1.sameP (.new hl)).set ?_ i) q
 simp only [Rep]
 exact ⟨l,xs,rfl,(rs1.liv.fresh hl).1,(rs1.liv.fresh hl).2,au,r1.mv (.new hl)⟩
end
end DL
namespace L2
open PySem PySem.Spec PyProof.Rows
section
variable {X:Cx} {tg:Expr}
theorem xc (hc:X.calm=true):CallR X (.builtin "sum") (fun xs H Q=>∃ (p:Addr) (ns:List Int),xs=[.ref p] /\ SqL X.K H p (ns.map V.int) /\ Q (.int ns.sum) H):=by
 intro pins s σ H xs us Q I r h
 obtain ⟨p,ns,rfl,hl,q⟩:=h
 obtain ⟨u,rfl,e⟩:=pd r
 cases e
 obtain ⟨its,rv,pl,_⟩:=I.list hl
 have hi:IntsAre its ns:=tS rv
 obtain ⟨ps,e⟩:=hi.allInts.items
 have il:=pl.isList
 rw [e] at il
 refine sum_intListG (I.ok.hd hc) il fun h' tk t' hk=>⟨.int ns.sum,H,I.kept hk,⟨t',?_⟩,q⟩
 have e2:numsOf its=ns:=hi.numsOf
 have e3:=nums_intItems ps
 rw [← e] at e3
 have e4:ps.toList.map (·.1)=ns:=by rw [← e3,← e2]
 rw [preSum_eq,List.take_of_length_le (by simp),e4]
def iSeq (K:PySem.W.Frag) (tl:TE):TI:=fun σ H R=>tl σ H fun x H1=>(∃ a,x = .ref a /\ (∃ xs,SqL K H1 a xs) /\ R (Itl K a) H1)∨(∃ a,x = .ref a /\ (∃ xs,SqT K H1 a xs) /\ R (Itt K a) H1)
theorem BH {l:Expr} {tl:TE} (hl:PE X l tl):PI X tg l (iSeq X.K tl):=by
 intro pins s σ H R I h
 refine thn (hl pins s σ H _ I h) fun v s1 ⟨x,H1,I1,r1,q1⟩=>?_
 rcases q1 with ⟨a,rfl,⟨xs,hq⟩,q⟩ | ⟨a,rfl,⟨xs,hq⟩,q⟩
 ·cases r1
  obtain ⟨its,rv,p,hz⟩:=I1.list hq
  refine wpAny_pyIter_list p.isList ⟨s1.heap.objs.size,[s1.heap.objs.size],_,_,H1,rfl,I1.kept (t':=s1.toks) (fun b o e=>Heap.get?_push_of_some _ e),oY a _,⟨_,Heap.get?_push_size _ rfl,rfl,rfl⟩,fun b hb=>?_,q⟩
  rw [show b=s1.heap.objs.size by simpa using hb]
  exact I1.fpOk (Nat.le_refl _) (I1.hok.fresh (Nat.le_refl _))
 ·cases r1
  obtain ⟨its,rv,p,hz⟩:=I1.tuple hq
  refine wpAny_pyIter_tuple (show s1.heap.IsTuple a its.toArray from p) ⟨s1.heap.objs.size,[s1.heap.objs.size],_,_,H1,rfl,I1.kept (t':=s1.toks) (fun b o e=>Heap.get?_push_of_some _ e),mY a _,⟨_,Heap.get?_push_size _ rfl,rfl,rfl⟩,fun b hb=>?_,q⟩
  rw [show b=s1.heap.objs.size by simpa using hb]
  exact I1.fpOk (Nat.le_refl _) (I1.hok.fresh (Nat.le_refl _))
end
end L2
namespace DL
open PySem PySem.Spec L2
open PyProof.Rows hiding St
variable [TB]
variable [Frm]
section
variable {X:Cx}
def lY:List D->Option (List Int)
 | []=>some []
 | .int i::r=>(lY r).map (i :: ·)
 | _=>none
theorem ny:∀ ns:List Int,lY (ns.map D.int)=some ns
 | []=>rfl
 | n::r=>by simp [lY,ny r]
theorem pY:∀ {ds:List D} {ns:List Int},lY ds=some ns->ds=ns.map D.int
 | [],ns,h=>by cases h; rfl
 | .int i::r,ns,h=>by
  simp only [lY,Option.map_eq_some_iff] at h
  obtain ⟨ms,h,rfl⟩:=h
  rw [pY h]; rfl
theorem pZ {K:PySem.W.Frag} {pp:Option Addr} {M:List Addr} {H:Hp}:∀ {ns:List Int} {xs:List V},Reps K pp M H (ns.map D.int) xs->xs=ns.map V.int
 | [],xs,h=>by simpa only [List.map_nil,Reps] using h
 | n::r,xs,h=>by
  simp only [List.map_cons,Reps,Rep] at h
  obtain ⟨x,t,rfl,rfl,h⟩:=h
  rw [pZ h]; rfl
def gSum:DSp:=fun ds P=>match ds with
 | [.lst xs]=>match lY xs with
  | some ns=>P (.int ns.sum)
  | none=>False
 | _=>False
theorem lZ {ns:List Int} {P:D->Prop} (h:P (.int ns.sum)):gSum [.lst (ns.map D.int)] P:=by
 unfold gSum
 simp only [ny]
 exact h
theorem sO {ds:List D} {P:D->Prop} (h:gSum ds P):∃ ns:List Int,ds=[.lst (ns.map D.int)] /\ P (.int ns.sum):=by
 unfold gSum at h
 split at h
 ·rename_i xs
  cases e:lY xs with
  | none=>rw [e] at h; exact h.elim
  | some ns =>
   rw [e] at h
   exact ⟨ns,by rw [pY e],h⟩
 ·exact h.elim
theorem sQ (hc:X.calm=true:=by rfl):CallD X (.builtin "sum") gSum:=by
 refine ⟨fun ds P P' f h=>?_,_,xc hc,fun {pp} M H ds vs Q _ r h=>?_⟩
 ·obtain ⟨ns,rfl,h2⟩:=sO h
  exact lZ (f _ h2)
 ·obtain ⟨ns,rfl,h2⟩:=sO h
  simp only [Reps,Rep] at r
  obtain ⟨x,_,rfl,⟨a,ys,rfl,_,_,ha,ry⟩,rfl⟩:=r
  refine ⟨a,ns,rfl,SqL.of (by rw [ha,pZ ry]),h2 H _ .refl bZ⟩
abbrev Dj (te:DE):DA:=fun ρ Q=>te ρ fun d ρ'=>match d with
 | .lst ds=>Q ds ρ'
 | .tup ds=>Q ds ρ'
 | _=>False
theorem vw {tg l:Expr} {te:DE} (hl:PED X l te):PID X tg l (Dj te):=by
 obtain ⟨T,p,r⟩:=hl.run
 refine ⟨fun _ _ _ f h=>hl.mono _ _ _ (fun d _ h=>?_) h,_,BH p,fun {F} M H σ ρ R rs h=>r M H σ ρ _ rs (hl.mono _ _ _ (fun d ρ' h M' H' v m rs' rd=>?_) h)⟩
 ·cases d <;> first | exact h.elim | exact f _ _ h
 ·cases d <;> first | exact h.elim | skip
  all_goals simp only [Rep] at rd
  case tup ds =>
   obtain ⟨a,xs,rfl,ha,rd⟩:=rd
   refine .inr ⟨a,rfl,⟨xs,SqT.of ha⟩,h M' H' _ m rs' (ItOkV.of (vs:=xs) ⟨fun M2 H2 m2 i x H3 _ y=>?_,fun M2 H2 m2 i hi=>?_,fun M2 H2 m2 i hi=>?_⟩ rd)⟩
   ·exact ⟨y.1,y.2 xs (SqT.of (m2.tup a xs ha))⟩
   ·exact ⟨xs,xs[i],SqT.of (m2.tup a xs ha),by simp [hi]⟩
   ·exact ⟨xs,SqT.of (m2.tup a xs ha),hi⟩
  case lst ds =>
   obtain ⟨a,xs,rfl,hm,hp,ha,rd⟩:=rd
   refine .inl ⟨a,rfl,⟨xs,SqL.of ha⟩,h M' H' _ m rs' (ItOkV.of (vs:=xs) ⟨fun M2 H2 m2 i x H3 _ y=>?_,fun M2 H2 m2 i hi=>?_,fun M2 H2 m2 i hi=>?_⟩ rd)⟩
   ·exact ⟨y.1,y.2 xs (SqL.of (m2.lst a xs ha hm hp).1)⟩
   ·exact ⟨xs,xs[i],SqL.of (m2.lst a xs ha hm hp).1,by simp [hi]⟩
   ·exact ⟨xs,SqL.of (m2.lst a xs ha hm hp).1,hi⟩
end
theorem cC {g:DG} {tc:DT} {te:DE} {ds:List D} {Q:List D->Prop} (N:List D->List D->DS->Prop) (hn:∀ acc ρ,N ds acc ρ->Q acc)
  (hs:∀ (pre:List D) (d:D) (post acc:List D) (ρ:DS) (Y:List D->DS->Prop),ds=pre++d::post->N pre acc ρ->(∀ acc' ρ',N (pre++[d]) acc' (cY ρ')->Y acc' ρ') ->
   g d ρ fun ρ1=>tc ρ1 fun b ρ2=>Br b (te ρ2 fun y ρ3=>acc.length < sizeLine /\ Y (acc++[y]) ρ3) (Y acc ρ2)) (ρ:DS) (h:N [] [] ρ):fB g tc te ds [] ρ Q:=by
 have key:∀ (post pre acc:List D),ds=pre++post->∀ ρ,N pre acc ρ->fB g tc te post acc ρ Q:=by
  intro post
  induction post with
  | nil=>intro pre acc e ρ h; rw [List.append_nil] at e; subst e; exact hn acc ρ h
  | cons d r ih=>intro pre acc e ρ h; exact hs pre d r acc ρ (fun acc' ρ'=>fB g tc te r acc' (cY ρ') Q) e h (fun acc' ρ' h'=>ih (pre++[d]) acc' (by rw [e,List.append_assoc]; rfl) _ h')
 exact key ds [] [] rfl ρ h
theorem jt {g:DG} {te:DE} {ds:List D} {Q:List D->Prop} (f:D->D) (N:DS->Prop) (hl:ds.length <= sizeLine)
  (hs:∀ d∈ds,∀ (ρ:DS) (Y:D->DS->Prop) (Z:DS->Prop),N ρ->(∀ ρ',N (cY ρ')->Y (f d) ρ')->g d ρ fun ρ1=>da ρ1 fun b ρ2=>Br b (te ρ2 Y) (Z ρ2)) (ρ:DS) (h:N ρ) (hq:Q (ds.map f)):fB g da te ds [] ρ Q:=by
 refine cC (fun pre acc ρ=>acc=pre.map f /\ N ρ) (fun acc ρ h=>by rw [h.1]; exact hq) (fun pre d post acc ρ Y e hN hY=>?_) ρ ⟨rfl,h⟩
 obtain ⟨rfl,hN⟩:=hN
 have hlt:(pre.map f).length < sizeLine:=by
  rw [List.length_map]
  have:ds.length=pre.length + (post.length + 1):=by rw [e]; simp
  omega
 refine hs d (by rw [e]; simp) ρ (fun y ρ3=>(pre.map f).length < sizeLine /\ Y (pre.map f++[y]) ρ3) (fun ρ2=>Y (pre.map f) ρ2) hN fun ρ' h'=>⟨hlt,hY _ ρ' ⟨by simp,h'⟩⟩
end DL
namespace DL
open PySem PySem.Spec L2
open PyProof.Rows hiding St
variable [TB]
variable [Frm]
structure Shp (n:Nat) (d:D):Prop where
 p:pln d=true
 c:(toPy d).canLay0=true
 d:(toPy d).depth <= n
theorem Shp.mono {m n:Nat} {d:D} (h:Shp m d) (l:m <= n):Shp n d:=⟨h.p,h.c,Nat.le_trans h.d l⟩
theorem Shp.shp {n:Nat} {d:D} (h:Shp n d) (l:n <= 64:=by decide):shp d=true:=by
 unfold DL.shp SeqAt.shaped
 rw [h.p,h.c,decide_eq_true (Nat.le_trans h.d l)]; rfl
theorem Shp.int {i:Int} {n:Nat}:Shp n (.int i):=⟨rfl,rfl,Nat.zero_le _⟩
theorem Shp.bl {i:Bool} {n:Nat}:Shp n (.bl i):=⟨rfl,rfl,Nat.zero_le _⟩
theorem Shp.non {n:Nat}:Shp n .non:=⟨rfl,rfl,Nat.zero_le _⟩
theorem rF {n:Nat}:∀ {ds:List D},(∀ d∈ds,Shp n d)->plns ds=true /\ PyData.canLayAll0 (nV ds)=true /\ PyData.depthAll (nV ds) <= n
 | [],_=>⟨rfl,rfl,Nat.zero_le _⟩
 | d::ds,h=>by
  obtain ⟨a,b,c⟩:=rF (ds:=ds) fun x hx=>h x (List.mem_cons_of_mem _ hx)
  have q:=h d List.mem_cons_self
  refine ⟨by simp only [plns,q.p,a,Bool.and_self],by simp only [nV,PyData.canLayAll0,q.c,b,Bool.and_self],?_⟩
  simp only [nV,PyData.depthAll]
  exact Nat.max_le.mpr ⟨q.d,c⟩
theorem Shp.tup {n:Nat} {ds:List D} (h:∀ d∈ds,Shp n d):Shp (n + 1) (.tup ds):=by
 obtain ⟨a,b,c⟩:=rF h
 exact ⟨by simp only [pln,a],by simp only [toPy,PyData.canLay0,b],by simp only [toPy,PyData.depth]; omega⟩
theorem Shp.lst {n:Nat} {ds:List D} (h:∀ d∈ds,Shp n d):Shp (n + 1) (.lst ds):=by
 obtain ⟨a,b,c⟩:=rF h
 exact ⟨by simp only [pln,a],by simp only [toPy,PyData.canLay0,b],by simp only [toPy,PyData.depth]; omega⟩
theorem eE {d:D} (h:shp d=true):eqD d d=true:=by
 unfold shp at h
 rw [Bool.and_eq_true] at h
 exact SeqAt.eqv_refl _ (SeqAt.canLay_of_shaped h.2)
theorem Shp.pair {n:Nat} {i j:Int}:Shp (n + 1) (.tup [.int i,.int j]):=.tup fun d hd=>by
 simp only [List.mem_cons,List.not_mem_nil,or_false] at hd
 rcases hd with rfl | rfl <;> exact .int
end DL
namespace DL
open PySem PySem.Spec L2
open PyProof.Rows hiding St
variable [TB]
abbrev DSpE:=List D->(D->Prop)->(Addr->Prop)->Prop
def MonoE (g:DSpE):Prop:=∀ ds P P' W W',(∀ d,P d->P' d)->(∀ C,W C->W' C)->g ds P W->g ds P' W'
section
variable [Frm] {X:Cx} {x:Str} {p pos np cpos:Pos} {e:Expr} {es:List Expr} {t:DA} {g:DSpE} {W:DS->Addr->Prop}
end
section
variable [fr0:Frm] {X:Cx} {body suite:List Stmt} {b0:Stmt} {n x:Str} {np hpos pos:Pos} {C0:Addr} {i:Nat} {tb:(DS->Addr->Prop)->DTS} {th:DTS} {K:PySem.W.Frag}
end
section
variable [Frm] {X:Cx} {x:Str} {pos:Pos}
theorem rG {e tg:Expr} {te:DE} {g:DG} (he:PED X e te) (hg:PGD X tg g) (hs:swapsWithSole [tg] e pos.line X.env=pure false:=by rfl) (hw:swappedStores [tg] e X.env=pure none:=by rfl)
  (h1:(assignEach [tg] X.env).map (·.2)=[assign tg X.env]:=by rfl):PSD X (.Assign [tg] e pos) (dAsg te g) :=
 Bu he hg hs hw (oX (Classical.choose_spec he.run).1 (Classical.choose_spec hg.run).1 hs hw h1)
end
end DL
namespace L2
open PySem PySem.Spec PyProof.Rows
section
variable {X:Cx} {tg:Expr}
end
end L2
namespace DL
open PySem PySem.Spec L2
open PyProof.Rows hiding St
variable [TB]
variable [Frm]
section
variable {X:Cx}
end
omit [Frm] in
theorem Br.dn {p:Prop} [Decidable p] {A B:Prop} (h:¬p) (b:B):Br (decide p) A B:=⟨fun z=>absurd (of_decide_eq_true z) h,fun _=>b⟩
omit [Frm] in
theorem Br.dt {p:Prop} [Decidable p] {A B:Prop} (h:p) (a:A):Br (decide p) A B:=⟨fun _=>a,fun z=>absurd h (of_decide_eq_false z)⟩
omit [Frm] in
theorem Br.di {p:Prop} [Decidable p] {A B:Prop} (a:p->A) (b:¬p->B):Br (decide p) A B:=⟨fun z=>a (of_decide_eq_true z),fun z=>b (of_decide_eq_false z)⟩
theorem og {g:DG} {b:DTS} {E:DEnds} (N:Int->DS->Prop):∀ (n:Nat) (lo:Int),(∀ ρ,N (lo + n) ρ->E.nx ρ) ->
  (∀ (k:Int) (ρ:DS) (X:DS->Prop),lo <= k->k < lo + n->N k ρ->(∀ ρ',N (k + 1) ρ'->X ρ')->g (.int k) ρ fun ρ1=>b { E with nx:=X,ct:=X,bk:=E.nx } ρ1)->∀ ρ,N lo ρ->fT g b (kP lo n) E ρ
 | 0,lo,hn,_,ρ,h=>hn ρ (by simpa using h)
 | n + 1,lo,hn,hs,ρ,h=>hs lo ρ _ (Int.le_refl _) (by omega) h fun ρ' h'=>og N n (lo + 1) (fun ρ h=>hn ρ (by rw [show lo + ((n + 1:Nat):Int)=lo + 1 + (n:Int) by omega]; exact h)) (fun k ρ X h1 h2=>hs k ρ X (by omega) (by omega)) ρ' h'
end DL
namespace L2
open PySem PySem.Spec PyProof.Rows
section
variable {X:Cx} {pins:List (Addr×Obj)} {σ:St} {H:Hp} {s:Shared} {h':Heap}
theorem Inv.turnedN {ch:List Addr} {T:Addr} {o:HO} {t':Nat} (I:Inv X pins σ H s) (hf:∀ b∈ch,FpOk X pins H b) (k:∀ b u,b∉ch->s.heap.get? b=some u->h'.get? b=some u) (hT:s.heap.objs.size <= T)
  (new:ObjOk X.prog X.w (upd H T o) h' T o):Inv X pins σ (upd H T o) { s with heap:=h',toks:=t' }:=by
 have hn:=I.hok.fresh hT
 refine I.call' (s':={ s with heap:=h',toks:=t' }) (ch:=ch) rfl ⟨fun b u q _ _ hx=>k b u hx q,fun b u q _ _ hx=>⟨u.slots,k b u hx q⟩,fun b u q n _=>?_,fun b u q hx=>⟨u,k b u hx q⟩,fun b xs e=>?_,fun b p u e=>?_,fun b ps e=>⟨#[],?_⟩⟩ (fun a q e=>?_) I.bare
  (fun b hb=>⟨(hf b hb).2.2.2.1,(hf b hb).2.1,(hf b hb).2.2.2.2.1,(hf b hb).2.2.2.2.2⟩)
 ·rw [ar (Nat.ne_of_lt (Nat.lt_of_lt_of_le (Heap.lt_size q) hT))]; exact n
 ·rw [ar (by rintro rfl; rw [hn] at e; cases e)]; exact e
 ·rw [ar (by rintro rfl; rw [hn] at e; cases e)]; exact e
 ·rw [ar (by rintro rfl; rw [hn] at e; cases e)]; simpa using e
 ·by_cases z:a=T
  ·subst z
   rw [au] at e
   cases e
   exact new
  ·rw [ar z] at e
   refine ObjOk.stay (I.hok a q e) (fun b u hb q'=>k b u (fun hc=>?_) q') (fun b hb=>?_) (fun b xs hb=>?_)
   ·have:=(hf b hc).1
    rcases hb with rfl | hb
    ·rw [this] at e; cases e
    ·rw [this] at hb; cases hb
   ·rw [ar (by rintro rfl; rw [hn] at hb; cases hb)]; exact hb
   ·rw [ar (by rintro rfl; rw [hn] at hb; cases hb)]; exact hb
theorem Inv.turnedL {ch:List Addr} {t':Nat} (I:Inv X pins σ H s) (hf:∀ b∈ch,FpOk X pins H b) (k:∀ b u,b∉ch->s.heap.get? b=some u->h'.get? b=some u):Inv X pins σ H { s with heap:=h',toks:=t' }:=by
 refine I.call' (s':={ s with heap:=h',toks:=t' }) (ch:=ch) rfl ⟨fun b u q _ _ hx=>k b u hx q,fun b u q _ _ hx=>⟨u.slots,k b u hx q⟩,fun b u q n _=>n,fun b u q hx=>⟨u,k b u hx q⟩,fun b xs e=>e,fun b p u e=>e,fun b ps e=>⟨#[],by simpa using e⟩⟩ (fun a q e=>?_) I.bare
  (fun b hb=>⟨(hf b hb).2.2.2.1,(hf b hb).2.1,(hf b hb).2.2.2.2.1,(hf b hb).2.2.2.2.2⟩)
 refine ObjOk.stay (I.hok a q e) (fun b u hb q'=>k b u (fun hc=>?_) q') (fun b hb=>hb) (fun b xs hb=>hb)
 have:=(hf b hc).1
 rcases hb with rfl | hb
 ·rw [this] at e; cases e
 ·rw [this] at hb; cases hb
end
def Ite (K:PySem.W.Frag) (a:Addr):It :=
 ⟨fun i H=>∃ xs x,SqL K H a xs /\ xs[i]? = some x,fun i H x H'=>∃ T y,H T=none /\ x = .ref T /\ (∀ xs,SqL K H a xs->xs[i]? = some y) /\ H'=upd H T (.tup [.int i,y]),fun i H=>∃ xs,SqL K H a xs /\ xs.length <= i⟩
theorem dN {h:Heap} {a b:Addr} {its:Array Value} {o:Obj} {n:String} (hl:h.IsList a its) (ho:h.get? b=some o) (hc:o.cls = .type n) (hn:n ≠ "list"):a≠b:=by
 rintro rfl
 obtain ⟨o',e,c,_⟩:=hl
 rw [ho] at e
 cases e
 rw [hc] at c
 cases c
 exact hn rfl
theorem vx {P:Program} {w:World} {K:PySem.W.Frag} {elts:List Expr} {k:Nat} {tp:Pos} (a e it:Addr) (hei:e≠it):Turn P w K (.Tuple elts k tp) (Ite K a) [e,it] e (fun i h=>(∃ old,IsEnum h e it i old) /\ h.IsListIter it a i) where
 mem:=by simp
 obj:=fun i h st b hb=>by
  obtain ⟨⟨old,he⟩,ho⟩:=st
  rcases List.mem_cons.mp hb with rfl | hb
  ·exact ⟨_,he,fun v z=>by
    have z':Data.fields _=Data.cell v:=z
    cases z'⟩
  ·have:b=it:=by simpa using hb
   subst this
   obtain ⟨o,eo,c,d⟩:=ho
   exact ⟨o,eo,fun v z=>by rw [d] at z; cases z⟩
 keep:=fun i h h' st k=>⟨let ⟨old,he⟩:=st.1; ⟨old,k e (by simp) _ he⟩,st.2.at fun o x=>k it (by simp) o x⟩
 item:=by
  intro X hP hw hK hc i pins s σ H E I hf st hg
  subst hP hw hK
  obtain ⟨xs,x,hq,hx⟩:=hg
  obtain ⟨its,rv,p,hz⟩:=I.list hq
  obtain ⟨u,hu,ru⟩:=rv.get hx
  obtain ⟨⟨old,he⟩,hit⟩:=st
  have hae:a≠e:=dN p.isList he rfl (by decide)
  have hai:a≠it:=by
   obtain ⟨o,eo,c,d⟩:=id hit
   exact dN p.isList eo c (by decide)
  have W:=WalksT.enumerate (prog:=X.prog) (w:=X.w) (I.ok.hd hc) e it a hei hae hai its.toArray
  have hi:i < its.toArray.size:=by
   have:=(List.getElem?_eq_some_iff.mp hu).1
   simpa using this
  refine W.item i s _ _ hi ⟨⟨old,he⟩,hit,p.isList⟩ fun T vals h1 tk hP hT hIs hMid hk=>?_
  obtain ⟨t,z,hz',rfl⟩:=hP
  have ezu:z=u:=by
   have:its.toArray[i]? = some u:=by simpa using hu
   rw [this] at hz'
   cases hz'
   rfl
  subst ezu
  have ap:=W.apart i T h1 hMid
  refine ⟨_,rfl,W.go elts k tp i T { s with heap:=h1,toks:=tk } _ _ hMid fun h2 st2 hk2=>?_⟩
  obtain ⟨st21,st22,_⟩:=st2
  have I2:Inv X pins σ (upd H T (.tup [.int i,x])) { s with heap:=h2,toks:=tk }:=by
   refine I.turnedN (ch:=[e,it]) hf (fun b o hb q=>hk2 b o hb (hk b o hb q)) hT ⟨?_,[.int i t,z],.cons ⟨t,rfl⟩ (.cons ru .nil),?_⟩
   ·show 2 <= sizeLine
    decide
   ·obtain ⟨o,eo,r⟩:=hIs
    exact ⟨o,hk2 T o ap eo,r⟩
  refine ⟨.ref T,_,I2,rfl,⟨T,x,I.hok.fresh hT,rfl,fun ys hy=>by rw [I.list_inj hy hq]; exact hx,rfl⟩,⟨by simpa using st21,st22⟩,fun b hb=>?_⟩
  have fb:=hf b hb
  rw [ar]
  ·exact fb.1
  ·rintro rfl
   exact ap hb
 done:=by
  intro X hP hw hK hc i pins s σ H E I hf st hg
  subst hP hw hK
  obtain ⟨xs,hq,hx⟩:=hg
  obtain ⟨its,rv,p,hz⟩:=I.list hq
  obtain ⟨⟨old,he⟩,hit⟩:=st
  have hl:=rv.length
  refine wpAny_pyNext_enum_end (I.ok.hd hc) he hit p.isList (by simp; omega) fun h1 hx1=>⟨rfl,?_⟩
  exact I.turnedL (t':=s.toks) (ch:=[e,it]) hf fun b o hb q=>hx1 b o (fun z=>hb (by simp [z])) q
 self:=fun _ _ _ _ _ st h=>let ⟨_,he⟩:=st.1; wpAny_pyIter_enum he h
theorem vy:bootBuiltins "enumerate" = some (.type "enumerate"):=by decide +kernel
theorem xf:bootBuiltins "zip" = some (.type "zip"):=by decide +kernel
section
variable {X:Cx}
def Dk (K:PySem.W.Frag) (ta:TA):TI:=fun σ H R=>ta σ H fun vs H1=>∃ a,vs=[.ref a] /\ (∃ xs,SqL K H1 a xs) /\ R (Ite K a) H1
theorem zl {l:Expr} {ta:TA} {p pos tp:Pos} {elts:List Expr} {k:Nat} (hg:Gl X "enumerate") (hm:X.mg "enumerate" = none) (ha:PA X [l] ta) (he:starEach [l] X.env=(false,eval l X.env)::starEach [] X.env:=by rfl) (hpl:(backTo pos (starEach [] X.env)).any (·.1)=false:=by rfl) :
  PI X (.Tuple elts k tp) (.Call (.Name "enumerate" p) [l] [] pos) (Dk X.K ta):=by
 intro pins s σ H R I h
 refine Call_ (lA I hg hm vy (PyProof.Rows.callWith_type1 (thn (ha pos pins s σ H _ I h) fun us s1 ⟨vs,H1,I1,r1,q1⟩=>?_) he hpl))
 obtain ⟨a,e,⟨xs,hq⟩,q⟩:=q1
 subst e
 obtain ⟨u,rfl,ru⟩:=r1.one
 cases ru
 obtain ⟨its,rv,pl,hz⟩:=I1.list hq
 refine call_enumerate_list pl.isList fun h1 hE hit hsz hk=>?_
 refine wpAny_pyIter_enum hE ?_
 have ne:s1.heap.objs.size + 1≠s1.heap.objs.size:=by omega
 refine ⟨_,[s1.heap.objs.size + 1,s1.heap.objs.size],_,Ite X.K a,H1,rfl,I1.kept (t':=s1.toks) hk,vx a _ _ ne,⟨⟨_,hE⟩,hit⟩,fun b hb=>?_,q⟩
 rcases List.mem_cons.mp hb with rfl | hb
 ·exact I1.fpOk (Nat.le_succ _) (I1.hok.fresh (Nat.le_succ _))
 ·have:b=s1.heap.objs.size:=by simpa using hb
  subst this
  exact I1.fpOk (Nat.le_refl _) (I1.hok.fresh (Nat.le_refl _))
end
def Itz (K:PySem.W.Frag) (a b:Addr):It :=
 ⟨fun i H=>∃ xs ys x y,SqL K H a xs /\ SqL K H b ys /\ xs[i]? = some x /\ ys[i]? = some y,fun i H v H'=>∃ T x y,H T=none /\ v = .ref T /\ (∀ xs,SqL K H a xs->xs[i]? = some x) /\ (∀ ys,SqL K H b ys->ys[i]? = some y) /\ H'=upd H T (.tup [x,y]),
  fun i H=>∃ xs ys,SqL K H a xs /\ SqL K H b ys /\ (xs.length <= i∨ys.length <= i)⟩
structure ZipOwn (z TI TO i1 i2:Addr):Prop where
 TIz:TI≠z
 TOz:TO≠z
 i1z:i1≠z
 i2z:i2≠z
 TITO:TI≠TO
 TIi1:TI≠i1
 TIi2:TI≠i2
 TOi1:TO≠i1
 TOi2:TO≠i2
 i12:i1≠i2
theorem BI (n:Nat):ZipOwn (n + 4) (n + 2) (n + 3) n (n + 1):=by
 constructor <;> (intro h; have h:(_:Nat)=(_:Nat):=h; omega)
theorem qc {h:Heap} {z TI TO i1 i2 l1 l2:Addr} {f0 u v:Value} {k1 k2:Nat} {xs ys:Array Value} (D:ZipOwn z TI TO i1 i2) (hz:IsZip h z TI TO f0) (hO:IsPair h TO u v) (h1:h.IsListIter i1 l1 k1) (h2:h.IsListIter i2 l2 k2) (hl1:h.IsList l1 xs) (hl2:h.IsList l2 ys):ZipApart z TI TO i1 i2 l1 l2:=by
 obtain ⟨o1,e1,c1,_⟩:=h1
 obtain ⟨o2,e2,c2,_⟩:=h2
 exact ⟨D.TIz,D.TOz,D.i1z,D.i2z,D.TITO,D.TIi1,D.TIi2,D.TOi1,D.TOi2,D.i12,dN hl1 hz rfl (by decide),dN hl1 hO rfl (by decide),dN hl1 e1 c1 (by decide),dN hl1 e2 c2 (by decide),
  dN hl2 hz rfl (by decide),dN hl2 hO rfl (by decide),dN hl2 e1 c1 (by decide),dN hl2 e2 c2 (by decide)⟩
theorem xg {P:Program} {w:World} {K:PySem.W.Frag} {elts:List Expr} {k:Nat} {tp:Pos} (a b z TI TO i1 i2:Addr) (D:ZipOwn z TI TO i1 i2):Turn P w K (.Tuple elts k tp) (Itz K a b) [z,TI,TO,i1,i2] z
  (fun i h=>IsZip h z TI TO .none /\ IsPair h TI (.ref i1) (.ref i2) /\ (∃ u v,IsPair h TO u v) /\ h.IsListIter i1 a i /\ h.IsListIter i2 b i) where
 mem:=by simp
 obj:=fun i h st c hc=>by
  obtain ⟨hz,hI,⟨u,v,hO⟩,⟨o1,e1,c1,d1⟩,⟨o2,e2,c2,d2⟩⟩:=st
  simp only [List.mem_cons,List.not_mem_nil,or_false] at hc
  rcases hc with rfl | rfl | rfl | rfl | rfl
  ·exact ⟨_,hz,fun v z=>by have z':Data.fields _=Data.cell v:=z; cases z'⟩
  ·exact ⟨_,hI,fun v z=>by have z':Data.seq _ _=Data.cell v:=z; cases z'⟩
  ·exact ⟨_,hO,fun v z=>by have z':Data.seq _ _=Data.cell v:=z; cases z'⟩
  ·exact ⟨o1,e1,fun v z=>by rw [d1] at z; cases z⟩
  ·exact ⟨o2,e2,fun v z=>by rw [d2] at z; cases z⟩
 keep:=fun i h h' st kk=>by
  obtain ⟨hz,hI,⟨u,v,hO⟩,h1,h2⟩:=st
  exact ⟨kk z (by simp) _ hz,kk TI (by simp) _ hI,⟨u,v,kk TO (by simp) _ hO⟩,h1.at fun o e=>kk i1 (by simp) o e,h2.at fun o e=>kk i2 (by simp) o e⟩
 item:=by
  intro X hP hw hK hc i pins s σ H E I hf st hg
  subst hP hw hK
  obtain ⟨xs,ys,x,y,hq,hq',hx,hy⟩:=hg
  obtain ⟨its,rv,p,hzz⟩:=I.list hq
  obtain ⟨its',rv',p',hzz'⟩:=I.list hq'
  obtain ⟨u,hu,ru⟩:=rv.get hx
  obtain ⟨u',hu',ru'⟩:=rv'.get hy
  obtain ⟨hz,hI,⟨p1,p2,hO⟩,h1,h2⟩:=st
  have W:=WalksT.zip2 (prog:=X.prog) (w:=X.w) (I.ok.hd hc) z TI TO i1 i2 a b (qc D hz hO h1 h2 p.isList p'.isList) its.toArray its'.toArray
  have hi:i < min its.toArray.size its'.toArray.size:=by
   have a1:=(List.getElem?_eq_some_iff.mp hu).1
   have a2:=(List.getElem?_eq_some_iff.mp hu').1
   simp only [List.size_toArray]
   omega
  refine W.item i s _ _ hi ⟨hz,hI,⟨p1,p2,hO⟩,h1,h2,p.isList,p'.isList⟩ fun T vals h3 tk hP hT hIs hMid hk=>?_
  obtain ⟨v,v',hv,hv',rfl⟩:=hP
  have e1:v=u:=by
   have:its.toArray[i]? = some u:=by simpa using hu
   rw [this] at hv; cases hv; rfl
  have e2:v'=u':=by
   have:its'.toArray[i]? = some u':=by simpa using hu'
   rw [this] at hv'; cases hv'; rfl
  subst e1 e2
  have ap:=W.apart i T h3 hMid
  have hTI:T≠TI:=fun e=>by
   subst e
   exact absurd (Nat.lt_of_lt_of_le (Heap.lt_size hI) hT) (Nat.lt_irrefl _)
  refine ⟨_,rfl,W.go elts k tp i T { s with heap:=h3,toks:=tk } _ _ hMid fun h4 st4 hk4=>?_⟩
  obtain ⟨a1,a2,a3,a4,a5,_,_⟩:=st4
  have wr:∀ c,c∉[z,TI,TO,i1,i2]->c∉[z,TO,i1,i2]:=fun c hc hc'=>hc (by
   simp only [List.mem_cons,List.not_mem_nil,or_false] at hc' ⊢
   rcases hc' with h | h | h | h <;> simp [h])
  have I2:Inv X pins σ (upd H T (.tup [x,y])) { s with heap:=h4,toks:=tk }:=by
   refine I.turnedN (ch:=[z,TI,TO,i1,i2]) hf (fun c o hb q=>hk4 c o (wr c hb) (hk c o (wr c hb) q)) hT ⟨?_,[v,v'],.cons ru (.cons ru' .nil),?_⟩
   ·show 2 <= sizeLine
    decide
   ·obtain ⟨o,eo,r⟩:=hIs
    exact ⟨o,hk4 T o ap eo,r⟩
  refine ⟨.ref T,_,I2,rfl,⟨T,x,y,I.hok.fresh hT,rfl,fun zs hz=>by rw [I.list_inj hz hq]; exact hx,fun zs hz=>by rw [I.list_inj hz hq']; exact hy,rfl⟩,⟨a1,a2,a3,a4,a5⟩,fun c hb=>?_⟩
  have fb:=hf c hb
  rw [ar]
  ·exact fb.1
  ·rintro rfl
   refine ap ?_
   simp only [List.mem_cons,List.not_mem_nil,or_false] at hb ⊢
   rcases hb with h | h | h | h | h
   ·exact .inl h
   ·exact absurd h hTI
   ·exact .inr (.inl h)
   ·exact .inr (.inr (.inl h))
   ·exact .inr (.inr (.inr h))
 done:=by
  intro X hP hw hK hc i pins s σ H E I hf st hg
  subst hP hw hK
  obtain ⟨xs,ys,hq,hq',hl⟩:=hg
  obtain ⟨its,rv,p,hzz⟩:=I.list hq
  obtain ⟨its',rv',p',hzz'⟩:=I.list hq'
  obtain ⟨hz,hI,⟨p1,p2,hO⟩,h1,h2⟩:=st
  have l1:=rv.length
  have l2:=rv'.length
  refine wpAny_pyNext_zip_end (I.ok.hd hc) (qc D hz hO h1 h2 p.isList p'.isList) hz hI hO h1 h2 p.isList p'.isList ?_ fun h3 hk=>⟨rfl,?_⟩
  ·rcases hl with h | h
   ·exact .inl (by simp; omega)
   ·exact .inr (by simp; omega)
  ·exact I.turnedL (t':=s.toks) (ch:=[z,TI,TO,i1,i2]) hf fun c o hb q=>hk c o (fun e=>hb (by simp [e])) (fun e=>hb (by simp [e])) (fun e=>hb (by simp [e])) (fun e=>hb (by simp [e])) q
 self:=fun _ _ _ _ _ st h=>wpAny_pyIter_zip st.1 h
section
variable {X:Cx}
def iZip (K:PySem.W.Frag) (ta:TA):TI:=fun σ H R=>ta σ H fun vs H1=>∃ a b,vs=[.ref a,.ref b] /\ (∃ xs,SqL K H1 a xs) /\ (∃ xs,SqL K H1 b xs) /\ R (Itz K a b) H1
theorem BJ {l l':Expr} {ta:TA} {p pos tp:Pos} {elts:List Expr} {k:Nat} (hg:Gl X "zip") (hm:X.mg "zip" = none) (ha:PA X [l,l'] ta) (he:starEach [l,l'] X.env=(false,eval l X.env)::starEach [l'] X.env:=by rfl) (hpl:(backTo pos (starEach [l'] X.env)).any (·.1)=false:=by rfl) :
  PI X (.Tuple elts k tp) (.Call (.Name "zip" p) [l,l'] [] pos) (iZip X.K ta):=by
 intro pins s σ H R I h
 refine Call_ (lA I hg hm xf (PyProof.Rows.callWith_type1 (thn (ha pos pins s σ H _ I h) fun us s1 ⟨vs,H1,I1,r1,q1⟩=>?_) he hpl))
 obtain ⟨a,b,e,⟨xs,hq⟩,⟨ys,hq'⟩,q⟩:=q1
 subst e
 obtain ⟨u,u',rfl,ru,ru'⟩:=r1.two
 cases ru
 cases ru'
 obtain ⟨its,rv,pl,hz⟩:=I1.list hq
 obtain ⟨its',rv',pl',hz'⟩:=I1.list hq'
 refine call_zip_2 pl.isList pl'.isList fun h1 a1 a2 a3 a4 a5 a6 hk=>?_
 refine wpAny_pyIter_zip a1 ?_
 refine ⟨_,[s1.heap.objs.size + 4,s1.heap.objs.size + 2,s1.heap.objs.size + 3,s1.heap.objs.size,s1.heap.objs.size + 1],_,Itz X.K a b,H1,rfl,I1.kept (t':=s1.toks) hk,xg a b _ _ _ _ _ (BI _),⟨a1,a2,⟨_,_,a3⟩,a4,a5⟩,fun c hb=>?_,q⟩
 have this:s1.heap.objs.size <= c:=by
  simp only [List.mem_cons,List.not_mem_nil,or_false] at hb
  rcases hb with rfl | rfl | rfl | rfl | rfl
  ·exact Nat.le_add_right _ _
  ·exact Nat.le_add_right _ _
  ·exact Nat.le_add_right _ _
  ·exact Nat.le_refl _
  ·exact Nat.le_add_right _ _
 exact I1.fpOk this (I1.hok.fresh this)
end
end L2
namespace DL
open PySem PySem.Spec L2
open PyProof.Rows hiding St
variable [TB]
variable [Frm]
section
variable {X:Cx} {F:Fx}
def gH (k:Nat):List D->List D
 | []=>[]
 | d::r=>.tup [.int k,d]::gH (k + 1) r
omit [Frm] in
theorem ce:∀ (ds:List D) (k:Nat),(gH k ds).length=ds.length
 | [],_=>rfl
 | _::r,k=>by simp [gH,ce r]
omit [Frm] in
theorem jv:∀ (ds:List D) (k i:Nat) (d:D),(gH k ds)[i]? = some d->∃ e,ds[i]? = some e /\ d = .tup [.int ((k + i:Nat):Int),e]
 | [],_,i,d,h=>by simp [gH] at h
 | e::r,k,0,d,h=>by
  simp [gH] at h
  exact ⟨e,rfl,h.symm⟩
 | e::r,k,i + 1,d,h=>by
  simp only [gH,List.getElem?_cons_succ] at h ⊢
  obtain ⟨e',h1,h2⟩:=jv r (k + 1) i d h
  exact ⟨e',h1,by rw [h2]; congr 3; congr 1; omega⟩
def zipD:List D->List D->List D
 | x::xs,y::ys=>.tup [x,y]::zipD xs ys
 | _,_=>[]
omit [Frm] in
theorem ma:∀ (xs ys:List D),(zipD xs ys).length=min xs.length ys.length
 | [],_=>by simp [zipD]
 | _::_,[]=>by simp [zipD]
 | _::xs,_::ys=>by simp [zipD,ma xs ys]
omit [Frm] in
theorem sR:∀ (xs ys:List D) (i:Nat) (d:D),(zipD xs ys)[i]? = some d->∃ x y,xs[i]? = some x /\ ys[i]? = some y /\ d = .tup [x,y]
 | [],_,i,d,h=>by simp [zipD] at h
 | _::_,[],i,d,h=>by simp [zipD] at h
 | x::xs,y::ys,0,d,h=>by
  simp [zipD] at h
  exact ⟨x,y,rfl,rfl,h.symm⟩
 | x::xs,y::ys,i + 1,d,h=>by
  simp only [zipD,List.getElem?_cons_succ] at h ⊢
  exact sR xs ys i d h
abbrev BK (t:DA):DA:=fun ρ Q=>t ρ fun ds ρ'=>match ds with
 | [.lst xs]=>Q (gH 0 xs) ρ'
 | _=>False
theorem oh {l:Expr} {tl:DA} {p pos tp:Pos} {elts:List Expr} {k:Nat} (hg:Gl X "enumerate") (hm:X.mg "enumerate" = none) (ha:PAD X [l] tl) (he:starEach [l] X.env=(false,eval l X.env)::starEach [] X.env:=by rfl) (hpl:(backTo pos (starEach [] X.env)).any (·.1)=false:=by rfl) :
  PID X (.Tuple elts k tp) (.Call (.Name "enumerate" p) [l] [] pos) (BK tl):=by
 obtain ⟨T,pa,r⟩:=ha.run
 refine ⟨fun _ _ _ f h=>ha.mono _ _ _ (fun d _ h=>?_) h,_,zl hg hm pa he hpl,fun {F} M H σ ρ R rs h=>r M H σ ρ _ rs (ha.mono _ _ _ (fun d ρ' h M' H' v m rs' rd=>?_) h)⟩
 ·split at h
  ·exact f _ _ h
  ·exact h.elim
 ·split at h
  case h_2=>exact h.elim
  rename_i ds
  simp only [Reps,Rep] at rd
  obtain ⟨x,r0,rfl,⟨a,xs,rfl,hm,hp,ha,rd⟩,rfl⟩:=rd
  refine ⟨a,rfl,⟨xs,SqL.of ha⟩,h M' H' _ m rs' ⟨fun M2 H2 m2 i d y H3 e yl=>?_,fun M2 H2 m2 i hi=>?_,fun M2 H2 m2 i hi=>?_⟩⟩
  ·obtain ⟨T,z,hT,rfl,hz,rfl⟩:=yl
   obtain ⟨d',hd',rfl⟩:=jv ds 0 i d e
   obtain ⟨v',hv',rv'⟩:=rd.get' hd'
   have:=hz xs (SqL.of (m2.lst a xs ha hm hp).1)
   rw [hv'] at this
   cases this
   refine ⟨.new hT,?_⟩
   simp only [Rep]
   exact ⟨T,_,rfl,au,.cons (by rw [Nat.zero_add]; exact bZ) (.one ((rv'.mv m2).mv (.new hT)))⟩
  ·have hi':i < xs.length:=by rw [← rd.length,← ce ds 0]; exact hi
   exact ⟨xs,xs[i],SqL.of (m2.lst a xs ha hm hp).1,by simp [hi']⟩
  ·exact ⟨xs,SqL.of (m2.lst a xs ha hm hp).1,by rw [← rd.length,← ce ds 0]; exact hi⟩
abbrev Dm (t:DA):DA:=fun ρ Q=>t ρ fun ds ρ'=>match ds with
 | [.lst xs,.lst ys]=>Q (zipD xs ys) ρ'
 | _=>False
theorem qd {l l':Expr} {tl:DA} {p pos tp:Pos} {elts:List Expr} {k:Nat} (hg:Gl X "zip") (hm:X.mg "zip" = none) (ha:PAD X [l,l'] tl) (he:starEach [l,l'] X.env=(false,eval l X.env)::starEach [l'] X.env:=by rfl) (hpl:(backTo pos (starEach [l'] X.env)).any (·.1)=false:=by rfl) :
  PID X (.Tuple elts k tp) (.Call (.Name "zip" p) [l,l'] [] pos) (Dm tl):=by
 obtain ⟨T,pa,r⟩:=ha.run
 refine ⟨fun _ _ _ f h=>ha.mono _ _ _ (fun d _ h=>?_) h,_,BJ hg hm pa he hpl,fun {F} M H σ ρ R rs h=>r M H σ ρ _ rs (ha.mono _ _ _ (fun d ρ' h M' H' v m rs' rd=>?_) h)⟩
 ·split at h
  ·exact f _ _ h
  ·exact h.elim
 ·split at h
  case h_2=>exact h.elim
  rename_i ds ds'
  simp only [Reps,Rep] at rd
  obtain ⟨x,r0,rfl,⟨a,xs,rfl,hm,hp,ha,rd⟩,x',r0',rfl,⟨b,ys,rfl,hm',hp',hb,rd'⟩,rfl⟩:=rd
  have L:=ma ds ds'
  refine ⟨a,b,rfl,⟨xs,SqL.of ha⟩,⟨ys,SqL.of hb⟩,h M' H' _ m rs' ⟨fun M2 H2 m2 i d y H3 e yl=>?_,fun M2 H2 m2 i hi=>?_,fun M2 H2 m2 i hi=>?_⟩⟩
  ·obtain ⟨T,z,z',hT,rfl,hz,hz',rfl⟩:=yl
   obtain ⟨d1,d2,hd1,hd2,rfl⟩:=sR ds ds' i d e
   obtain ⟨v1,hv1,rv1⟩:=rd.get' hd1
   obtain ⟨v2,hv2,rv2⟩:=rd'.get' hd2
   have:=hz xs (SqL.of (m2.lst a xs ha hm hp).1)
   rw [hv1] at this
   cases this
   have:=hz' ys (SqL.of (m2.lst b ys hb hm' hp').1)
   rw [hv2] at this
   cases this
   refine ⟨.new hT,?_⟩
   simp only [Rep]
   exact ⟨T,_,rfl,au,.cons ((rv1.mv m2).mv (.new hT)) (.one ((rv2.mv m2).mv (.new hT)))⟩
  ·rw [L,rd.length,rd'.length] at hi
   have h1:i < xs.length:=by omega
   have h2:i < ys.length:=by omega
   exact ⟨xs,ys,xs[i],ys[i],SqL.of (m2.lst a xs ha hm hp).1,SqL.of (m2.lst b ys hb hm' hp').1,by simp [h1],by simp [h2]⟩
  ·rw [L,rd.length,rd'.length] at hi
   exact ⟨xs,ys,SqL.of (m2.lst a xs ha hm hp).1,SqL.of (m2.lst b ys hb hm' hp').1,by omega⟩
def BL (k:Nat) (d:D) (ρ:DS) (Q:DS->Prop) (j:D):Sl->Prop
 | .own ds=>match j with
  | .int i=>∃ n,ixN ds.length i=some n /\ Q (ρ.set k (.own (ds.set n d)))
  | _=>False
 | _=>False
abbrev Dn (k:Nat) (ti:DE):DG:=fun d ρ Q=>zi (slot ρ k) /\ ti ρ fun j ρ'=>BL k d ρ' Q j (slot ρ' k)
theorem BM {k:Nat} {o i:Expr} {ti:DE} {pos:Pos} (ho:PE X o (tVar k)) (hi:PED X i ti)
  (ha:∀ v,assign (.Subscript o i pos) X.env v=(do
   let ov ← holding [v] (eval o X.env)
   let iv ← holding [v,ov] (eval i X.env)
   standAt pos
   holding [v,ov,iv] (setItem ov iv v)
   release [v,ov,iv] []):=by intro _; rfl):PGD X (.Subscript o i pos) (Dn k ti):=by
 obtain ⟨T,p,r⟩:=hi.run
 refine ⟨fun d ρ P P' f h=>⟨h.1,hi.mono _ _ _ (fun j ρ' h=>?_) h.2⟩,_,uH ho p nJ ha,fun {F} M H σ ρ d v Q rs rd h=>?_⟩
 ·cases q:slot ρ' k with
  | nil=>rw [q] at h; exact h.elim
  | val d=>rw [q] at h; exact h.elim
  | pin w d=>rw [q] at h; exact h.elim
  | obj z=>rw [q] at h; exact h.elim
  | own ds =>
   rw [q] at h
   cases j <;> first | exact h.elim | (obtain ⟨n,e,h⟩:=h; exact ⟨n,e,f _ h⟩)
 ·obtain ⟨h0,h⟩:=h
  cases q:slot ρ k with
  | nil=>rw [q] at h0; exact h0.elim
  | val d=>rw [q] at h0; exact h0.elim
  | pin w d=>rw [q] at h0; exact h0.elim
  | obj z=>rw [q] at h0; exact h0.elim
  | own ds =>
   obtain ⟨oo1,ho1,l,xs,rfl,hm1,h01,hp1,hl1,hr1⟩:=rs.at (aZ q (by intro z; cases z))
   refine ⟨.ref l,ho1,?_⟩
   refine r M H σ ρ _ rs (hi.mono _ _ _ (fun j ρ' h M' H' w m rs' rj=>?_) h)
   cases q':slot ρ' k with
   | nil=>rw [q'] at h; exact h.elim
   | val d=>rw [q'] at h; exact h.elim
   | pin w d=>rw [q'] at h; exact h.elim
   | obj z=>rw [q'] at h; exact h.elim
   | own ds' =>
    rw [q'] at h
    cases j <;> first | exact h.elim | skip
    rename_i j
    obtain ⟨n,e,h⟩:=h
    have g1:=aZ q' (by intro z; cases z)
    obtain ⟨l',xs',e',hm',h0',hp',hl',hr'⟩:=rs'.sl k _ _ g1 ho1
    cases e'
    simp only [Rep] at rj
    subst rj
    obtain ⟨m2,rs2⟩:=rs'.write g1 ho1 (hr'.set (rd.mv m) n)
    exact ⟨l,xs',j,n,rfl,rfl,hl',by rw [← hr'.length]; exact e,h M' _ _ (m.trans m2) rs2⟩
omit [Frm] in
theorem BN {n:Nat} {i:Int} (h0:0 <= i) (h:i < n):ixN n i=some i.toNat:=by
 unfold ixN
 rw [if_pos h0,if_pos h]
def dIxS (ρ:DS) (Q:D->DS->Prop) (j:D):Sl->Prop
 | .own ds=>gIx (.lst ds) j fun d=>Q d ρ
 | _=>False
abbrev dIxO (k:Nat) (ti:DE):DE:=fun ρ Q=>zi (slot ρ k) /\ ti ρ fun j ρ'=>dIxS ρ' Q j (slot ρ' k)
theorem yb {k:Nat} {a b:Expr} {tb:DE} {pos:Pos} (ha:PE X a (tVar k)) (hb:PED X b tb) (hs:qT b):PED X (.Subscript a b pos) (dIxO k tb):=by
 obtain ⟨T,p,r⟩:=hb.run
 refine ⟨fun ρ P P' f h=>⟨h.1,hb.mono _ _ _ (fun j ρ' h=>?_) h.2⟩,_,uS sy ha p hs,fun {F} M H σ ρ Q rs h=>?_⟩
 ·cases q:slot ρ' k with
  | nil=>rw [q] at h; exact h.elim
  | val d=>rw [q] at h; exact h.elim
  | pin w d=>rw [q] at h; exact h.elim
  | obj z=>rw [q] at h; exact h.elim
  | own ds =>
   rw [q] at h
   cases j <;> first | exact h.elim | exact sJ (fun _ h=>f _ _ h) h
 ·obtain ⟨h0,h⟩:=h
  cases q:slot ρ k with
  | nil=>rw [q] at h0; exact h0.elim
  | val d=>rw [q] at h0; exact h0.elim
  | pin w d=>rw [q] at h0; exact h0.elim
  | obj z=>rw [q] at h0; exact h0.elim
  | own ds =>
   obtain ⟨oo1,ho1,l,xs,rfl,hm1,h01,hp1,hl1,hr1⟩:=rs.at (aZ q (by intro z; cases z))
   refine ⟨.ref l,ho1,?_⟩
   refine r M H σ ρ _ rs (hb.mono _ _ _ (fun j ρ' h M' H' w m rs' rj=>?_) h)
   cases q':slot ρ' k with
   | nil=>rw [q'] at h; exact h.elim
   | val d=>rw [q'] at h; exact h.elim
   | pin w d=>rw [q'] at h; exact h.elim
   | obj z=>rw [q'] at h; exact h.elim
   | own ds' =>
    rw [q'] at h
    cases j <;> first | exact h.elim | skip
    rename_i j
    obtain ⟨d,e,h⟩:=sK h
    have g1:=aZ q' (by intro z; cases z)
    obtain ⟨l',xs',e',hm',h0',hp',hl',hr'⟩:=rs'.sl k _ _ g1 ho1
    cases e'
    simp only [Rep] at rj
    subst rj
    obtain ⟨v,e2,rv⟩:=rA hr' e
    exact ⟨l,xs',j,v,rfl,rfl,hl',e2,h M' H' v m rs' rv⟩
end
end DL
namespace DL
open PySem PySem.Spec L2
open PyProof.Rows hiding St
variable [TB]
abbrev DTN:=(D->Prop)->(List D->Prop)->DS->Prop
section
variable [Frm]
structure EN (K:PySem.W.Frag) (F:Fx) (M:List Addr) (H:Hp) (Q:D->Prop) (L:List D->Prop) (D:Ends):Prop where
 rt:∀ M' H' σ' ρ' d v,Mv K F.pp M H M' H'->RSt K F M' H' σ' ρ'->Rep K F.pp M' H' d v->Q d->D.rt v H'
 nx:∀ M' H' σ' ρ',Mv K F.pp M H M' H'->RSt K F M' H' σ' ρ'->Q .non->D.nx σ' H'
 nw:∀ M' H' ds l xs,SameP K F.pp F.H0 H'->(∀ a∈F.M0,a∈M')->F.H0 l=none->F.pp≠some l->l∈M'->H' l=some (.lst xs)->Reps K F.pp M' H' ds xs->L ds->D.rt (.ref l) H'
theorem EN.mv {K:PySem.W.Frag} {F:Fx} {M M1:List Addr} {H H1:Hp} {Q:DL.D->Prop} {L:List DL.D->Prop} {D:Ends} (o:EN K F M H Q L D) (m:Mv K F.pp M H M1 H1):EN K F M1 H1 Q L D :=
 ⟨fun _ _ _ _ _ _ m'=>o.rt _ _ _ _ _ _ (m.trans m'),fun _ _ _ _ m'=>o.nx _ _ _ _ (m.trans m'),o.nw⟩
def PSsN (X:Cx) (st:List Stmt) (t:DTN):Prop:=∃ T:TS,PSs X st T /\ ∀ {F:Fx} M H σ ρ (Q:D->Prop) (L:List D->Prop) (D:Ends),RSt X.K F M H σ ρ->EN X.K F M H Q L D->t Q L ρ->T D σ H
variable {X:Cx} {st:Stmt} {rest:List Stmt} {t:DTS} {u:DTN} {e:Expr} {tl:DA} {pos:Pos}
def slN (L:List D->Prop):Sl->Prop
 | .own ds=>L ds
 | _=>False
theorem vz {i:Nat} (h:PE X e (tVar i)):PSsN X [.Return (some e) pos] (fun _ L ρ=>slN L (slot ρ i)):=by
 refine ⟨_,iD (oW h),fun {F} M H σ ρ Q L D rs en q=>?_⟩
 have q:slN L (slot ρ i):=q
 cases z:slot ρ i with
 | nil=>rw [z] at q; exact q.elim
 | val d=>rw [z] at q; exact q.elim
 | pin w d=>rw [z] at q; exact q.elim
 | obj y=>rw [z] at q; exact q.elim
 | own ds =>
  rw [z] at q
  obtain ⟨oo1,ho1,l,xs,rfl,hm1,h01,hp1,hl1,hr1⟩:=rs.at (aZ z (by intro z; cases z))
  exact ⟨.ref l,ho1,en.nw M H ds l xs rs.sameT rs.sub h01 hp1 hm1 hl1 hr1 q⟩
theorem im (h1:PSD X st t) (h2:PSsN X rest u):PSsN X (st::rest) (fun Q L ρ=>t { nx:=u Q L,rt:=Q } ρ):=by
 obtain ⟨T,p,r⟩:=h1
 obtain ⟨U,q,s⟩:=h2
 refine ⟨_,bY p q,fun {F} M H σ ρ Q L D rs en h=>r M H σ ρ { nx:=u Q L,rt:=Q } { D with nx:=U D } rs ⟨fun M' H' σ' ρ' m rs' h=>?_,fun _ _ _ _ _ _ q=>q.elim,fun _ _ _ _ _ _ q=>q.elim,en.rt⟩ h⟩
 exact s M' H' σ' ρ' Q L D rs' (en.mv m) h
theorem vA (h1:PSD X st t) (h2:PSsN X rest u):PSsN X (st::rest) (fun Q L ρ=>∃ N:DS->Prop,t { nx:=N,rt:=Q } ρ /\ ∀ ρ',N ρ'->u Q L ρ'):=by
 obtain ⟨T,p,r⟩:=h1
 obtain ⟨U,q,s⟩:=h2
 refine ⟨_,bY p q,fun {F} M H σ ρ Q L D rs en h=>?_⟩
 obtain ⟨N,h,hn⟩:=h
 refine r M H σ ρ { nx:=N,rt:=Q } { D with nx:=U D } rs ⟨fun M' H' σ' ρ' m rs' h=>?_,fun _ _ _ _ _ _ q=>q.elim,fun _ _ _ _ _ _ q=>q.elim,en.rt⟩ h
 exact s M' H' σ' ρ' Q L D rs' (en.mv m) (hn ρ' h)
end
abbrev DSpN:=List D->(D->Prop)->(List D->Prop)->Prop
def spDN (K:PySem.W.Frag) (n:Nat) (g:DSpN):Sp:=fun vs H Q _=>∃ pp M ds,Lv pp M H /\ Reps K pp M H ds vs /\ ds.length=n /\ g ds (fun d=>∀ H' v,SameP K pp H H'->Rep K pp M H' d v->Q v H')
 (fun es=>∀ M' H' l xs,SameP K pp H H'->(∀ a∈M,a∈M')->H l=none->pp≠some l->l∈M'->H' l=some (.lst xs)->Reps K pp M' H' es xs->Q (.ref l) H')
def xh (g:DSpN):Prop:=∀ ds P P' L L',(∀ d,P d->P' d)->(∀ es,L es->L' es)->g ds P L->g ds P' L'
theorem fnDN {P:Program} {w:World} {K:PySem.W.Frag} {mg:Str->Option Value} {base:Heap} {x qual:Str} {st:Stmt} {f:Addr} {fd:FuncData} {N ps:List Str} {k:Nat} {g:DSpN} {t:DTN} (Fn:Fun K x qual st f fd) (S:FnScope N ps (ad st))
  (hb:∀ (cdv:Value) (A:Around) (outer:List Env) (s:Shared) (H:Hp) (E:XK),Room k (A.deeper (envOfC qual (ad st) s.heap.objs.size f cdv)) -> @PSsN _ Frm.free (cxOf CX0 P w K mg base N qual (ad st) f cdv A outer s H E).nox (ao st) t)
  (hg:∀ ds Q L,ds.length=ps.length->g ds Q L->t Q L (kE N.length ds)):FnOk P w K mg base CX0 (k + 1) f fd ps (spDN K ps.length g):=by
 refine Fn.ok S (fun vs H Q E h=>?_) (fun cdv A outer s H vs Q E hr h=>?_)
 ·obtain ⟨pp,M,ds,_,r,e,_⟩:=h
  rw [← r.length,e]
 ·obtain ⟨pp,M,ds,lv,r,e,h⟩:=h
  obtain ⟨T,p,run⟩:=hb cdv A outer s H E hr
  refine ⟨T,p,run M H _ _ _ _ _ (jn lv r trivial) ⟨fun M' H' σ' ρ' d v m rs rd q=>?_,fun M' H' σ' ρ' m rs q=>?_,fun M' H' es l xs s sub h0 hp hm hl rr q=>?_⟩ (hg ds _ _ e h)⟩
  ·exact q H' v rs.sameT (rd.mv (.less rs.sub))
  ·exact q H' .non rs.sameT (by simp only [Rep])
  ·exact q M' H' l xs s sub h0 hp hm hl rr
theorem FnOk.asD {P:Program} {w:World} {K:PySem.W.Frag} {mg:Str->Option Value} {base:Heap} {k n:Nat} {f:Addr} {fd:FuncData} {ps:List Str} {g:DSpN} {g':DSp} (h:FnOk P w K mg base CX0 k f fd ps (spDN K n g)) (hg:∀ ds Q,g' ds Q->g ds Q (fun es=>Q (.lst es))) (gm:xh g):FnOk P w K mg base CX0 k f fd ps (spD K n g') :=
 h.imp fun vs H Q E h=>by
  obtain ⟨pp,M,ds,lv,r,e,h⟩:=h
  refine ⟨pp,M,ds,lv,r,e,gm _ _ _ _ _ (fun d q=>q) (fun es q M' H' l xs s sub hl hp hm hH rr=>q H' _ s ?_) (hg _ _ h)⟩
  simp only [Rep]
  exact ⟨l,xs,rfl,(lv.fresh hl).1,hp,hH,rr.mv (.less sub)⟩
section
variable [Frm] {X:Cx}
abbrev Do (i n:Nat) (g:DSpN) (t:DA):DTS:=fun E ρ=>t ρ fun ds ρ1=>ds.length=n /\ g ds (fun d=>E.nx (ρ1.set i (.val d))) (fun es=>E.nx (ρ1.set i (.own es)))
theorem zm {k n i:Nat} {f:Addr} {fd:FuncData} {ps:List Str} {g:DSpN} {x y:Str} {p py cpos pos:Pos} {e:Expr} {es:List Expr} {t:DA} (Fn:FnOk X.prog X.w X.K X.mg X.base CX0 k f fd ps (spDN X.K n g)) (gm:xh g) (hr:Room k X.A) (hg:Gl X x) (hm:X.mg x=some (.ref f)) (hk:PySem.W.keepIn X.K (.ref f)=true) (hb:Binds X.K fd ps [])
  (ha:PAD X (e::es) t) (hN:X.N.Nodup) (hi:X.N[i]? = some y) (hx:Loc X.env.scope y) (hdb:(x == ("__debug__" : Str))=false:=by decide) (he:starEach (e::es) X.env=(false,eval e X.env)::starEach es X.env:=by rfl) (hpl:(backTo cpos (starEach es X.env)).any (·.1)=false:=by rfl)
  (hs:swapsWith (.Call (.Name x p) (e::es) [] cpos) (some (.Name y py)) pos.line X.env=pure false:=by rfl) (hf:X.fn y=true∨X.env.scope.names.lookup y=some .local:=by first | exact .inl rfl | exact .inr rfl | assumption) :
  PSD X (.Assign [.Name y py] (.Call (.Name x p) (e::es) [] cpos) pos) (Do i n g t):=by
 obtain ⟨T,pa,ra⟩:=ha.run
 refine ⟨_,iy hN hi hx (qS Fn hr hg hm hk hb .nil yP pa hdb he hpl) hs hf,fun {F} M H σ ρ E D rs o q=>ra M H σ ρ _ rs (ha.mono _ _ _ (fun ds ρ1 q M1 H1 vs m1 rs1 r1=>?_) q)⟩
 rw [List.append_nil]
 refine ⟨F.pp,M1,ds,rs1.liv,r1,q.1,gm _ _ _ _ _ (fun d q H' w s r=>o.nx M1 H' _ _ (m1.trans s.mv) ((rs1.sameP s).set r i) q) (fun es q M' H' l xs s sub hl hp hM hH rr=>?_) q.2⟩
 have sd:SameP X.K F.pp H1 (delH H' l):=by
  refine ⟨⟨fun b o e n=>?_,fun p e hp'=>?_,fun b hb=>?_⟩,fun tb=>(s.tb tb).del hH jI⟩
  ·rw [bX (by rintro rfl; rw [hl] at e; cases e)]
   exact s.keep b o e n
  ·obtain ⟨a,ns,t,l',pn⟩:=s.pen p e hp'
   have np:p≠l:=by rintro rfl; exact hp e
   refine ⟨a,ns,t,l',by rw [bX np]; exact pn.lst,?_,pn.t0⟩
   rcases pn.scr with ⟨o,q⟩ | q
   ·exact .inl ⟨o,by rw [bX (kK q hH (by intro z; cases z))]; exact q⟩
   ·exact .inr q
  ·rw [bX (by rintro rfl; exact hb hl)]
   exact s.live b hb
 have md:Mv X.K F.pp M' H' M1 (delH H' l):=by
  refine ⟨fun a xs q=>by rw [bX (kK q hH (by intro z; cases z))]; exact q,fun a o q n p=>⟨by rw [bX (by rintro rfl; exact n hM)]; exact q,fun z=>n (sub a z)⟩,fun p e hp'=>?_,fun tb=>tb.del hH jI⟩
  obtain ⟨a,ns,t,l',pn⟩:=hp'
  have np:p≠l:=by rintro rfl; exact hp e
  refine ⟨a,ns,t,l',by rw [bX np]; exact pn.lst,?_,pn.t0⟩
  rcases pn.scr with ⟨o,q⟩ | q
  ·exact .inl ⟨o,by rw [bX (kK q hH (by intro z; cases z))]; exact q⟩
  ·exact .inr q
 have n1:=(rs1.sameP sd).newOwn (lX (H:=H') (a:=l)) (rr.mv md) i
 rw [nZ hH] at n1
 have mo:Mv X.K F.pp M1 (delH H' l) (l::M1) (upd (delH H' l) l (.lst xs)):=.newOwn lX
 rw [nZ hH] at mo
 exact o.nx _ _ _ _ ((m1.trans sd.mv).trans mo) n1 q
end
end DL
namespace DL
open PySem PySem.Spec L2
open PyProof.Rows hiding St
variable [TB]
variable [Frm]
def me:DS->Bool
 | []=>true
 | .own _::_=>false
 | .obj _::_=>false
 | _::r=>me r
def dm:Nat->DS->Bool
 | _,[]=>true
 | 0,_::r=>me r
 | _ + 1,.own _::_=>false
 | _ + 1,.obj _::_=>false
 | k + 1,_::r=>dm k r
omit [Frm] in
theorem mf:∀ {ρ:DS} {j:Nat} {ds:List D},me ρ=true->ρ[j]? = some (.own ds)->False
 | [],j,ds,_,h=>by simp at h
 | s::r,0,ds,h,e=>by
  simp at e
  subst e
  simp [me] at h
 | s::r,j + 1,ds,h,e=>by
  cases s <;> first | (simp [me] at h; done) | exact mf (ρ:=r) (by simpa [me] using h) (by simpa using e)
omit [Frm] in
theorem jM:∀ {ρ:DS} {k j:Nat} {ds:List D},dm k ρ=true->ρ[j]? = some (.own ds)->j=k
 | [],k,j,ds,_,h=>by simp at h
 | s::r,0,0,ds,h,e=>rfl
 | s::r,0,j + 1,ds,h,e=>(mf (ρ:=r) (by simpa [dm] using h) (by simpa using e)).elim
 | s::r,k + 1,0,ds,h,e=>by
  simp at e
  subst e
  simp [dm] at h
 | s::r,k + 1,j + 1,ds,h,e=>by
  cases s <;> first | (simp [dm] at h; done) | exact congrArg Nat.succ (jM (ρ:=r) (k:=k) (by simpa [dm] using h) (by simpa using e))
omit [Frm] in
theorem mh:∀ {ρ:DS} {j:Nat} {q:O},me ρ=true->ρ[j]? = some (.obj q)->False
 | [],j,ds,_,h=>by simp at h
 | s::r,0,ds,h,e=>by
  simp at e
  subst e
  simp [me] at h
 | s::r,j + 1,ds,h,e=>by
  cases s <;> first | (simp [me] at h; done) | exact mh (ρ:=r) (by simpa [me] using h) (by simpa using e)
omit [Frm] in
theorem nz:∀ {ρ:DS} {k j:Nat} {q:O},dm k ρ=true->ρ[j]? = some (.obj q)->j=k
 | [],k,j,ds,_,h=>by simp at h
 | s::r,0,0,ds,h,e=>rfl
 | s::r,0,j + 1,ds,h,e=>(mh (ρ:=r) (by simpa [dm] using h) (by simpa using e)).elim
 | s::r,k + 1,0,ds,h,e=>by
  simp at e
  subst e
  simp [dm] at h
 | s::r,k + 1,j + 1,ds,h,e=>by
  cases s <;> first | (simp [dm] at h; done) | exact congrArg Nat.succ (nz (ρ:=r) (k:=k) (by simpa [dm] using h) (by simpa using e))
section
variable {K:PySem.W.Frag} {F:Fx} {M M0 M':List Addr} {H H':Hp} {σ:St} {ρ:DS} {i:Nat} {ds:List D} {v:V}
theorem RSt.thaw (r:RSt K F M H σ ρ) (h:ρ[i]? = some (.own ds)) (oo:dm i ρ=true) (ho:σ[i]? = some (some v)) (m0:Mv K F.pp M H M0 H) (rl:Rep K F.pp M0 H (.lst ds) v) (m:Mv K F.pp M0 H M' H') (r':RSt K F M' H' σ (ρ.set i (.val (.lst ds)))) :
  ∃ M'',Mv K F.pp M H M'' H' /\ RSt K F M'' H' σ ρ:=by
 obtain ⟨o,ho1,l,xs,rfl,hm,h0,hp,hl,hr⟩:=r.at h
 rw [ho1] at ho
 cases ho
 simp only [Rep] at rl
 obtain ⟨l2,xs2,e,n2,p2,h2,r2⟩:=rl
 cases e
 rw [hl] at h2
 cases h2
 obtain ⟨hl',hn'⟩:=m.lst l xs hl n2 p2
 have mm:=m0.trans m
 have m2:Mv K F.pp M H (l::M') H':=by
  refine ⟨mm.tup,fun a o e n p=>?_,mm.pen,mm.tb⟩
  obtain ⟨q1,q2⟩:=mm.oth a o e n p
  refine ⟨q1,fun z=>?_⟩
  rcases List.mem_cons.mp z with rfl | z
  ·exact n hm
  ·exact q2 z
 refine ⟨l::M',m2,⟨r.len,fun j s o h1 h2=>?_,⟨fun j=>if j=i then [l] else [],fun j s o h1 h2=>?_,fun j a ha=>?_,fun j k e a ha hb=>?_⟩,fun a ha=>List.mem_cons_of_mem _ (r'.sub a ha),r'.same,r.old,⟨fun a ha=>?_,r'.liv.p⟩,r.lk.cl m2⟩⟩
 ·have q:=r.sl j s o h1 h2
  cases s with
  | nil=>trivial
  | val d=>obtain ⟨v,e,q⟩:=q; exact ⟨v,e,q.mv m2⟩
  | pin w d=>obtain ⟨v,e,ew,q⟩:=q; exact ⟨v,e,ew,q.mv m2⟩
  | own es =>
   have e:=jM oo h1
   subst e
   rw [h] at h1
   cases h1
   rw [ho1] at h2
   cases h2
   exact ⟨l,xs,rfl,List.mem_cons_self,h0,hp,hl',hr.mv m2⟩
  | obj z=>exact q
 ·show Ow K F _ H' s o (if j=i then [l] else [])
  cases s with
  | nil=>trivial
  | val d=>trivial
  | pin w d=>trivial
  | own es =>
   have e:=jM oo h1
   subst e
   rw [ho1] at h2
   cases h2
   rw [if_pos rfl]
   exact ⟨l,rfl,rfl⟩
  | obj z =>
   have e:=nz oo h1
   subst e
   rw [h] at h1
   cases h1
 ·replace ha:a∈(if j=i then [l] else []):=ha
  by_cases e:j=i
  ·rw [if_pos e] at ha
   rw [List.mem_singleton.mp ha]
   exact ⟨List.mem_cons_self,h0,hp⟩
  ·rw [if_neg e] at ha; simp at ha
 ·replace ha:a∈(if j=i then [l] else []):=ha
  replace hb:a∈(if k=i then [l] else []):=hb
  by_cases e1:j=i
  ·subst e1
   rw [if_neg (Ne.symm e)] at hb; simp at hb
  ·rw [if_neg e1] at ha; simp at ha
 ·rcases List.mem_cons.mp ha with rfl | ha
  ·rw [hl']; intro z; cases z
  ·exact r'.liv.m a ha
end
section
variable {X:Cx} {e:Expr}
def scD:D->Prop
 | .int _=>True
 | .bl _=>True
 | .non=>True
 | _=>False
abbrev Dp (k:Nat) (t:DE):DE:=fun ρ Q=>∃ ds,slot ρ k = .own ds /\ dm k ρ=true /\ t (ρ.set k (.val (.lst ds))) fun d ρ'=>(scD d /\ ρ'=ρ.set k (.val (.lst ds))) /\ Q d ρ
theorem zn {t:DE} (k:Nat) (h:PED X e t):PED X e (Dp k t):=by
 obtain ⟨T,p,r⟩:=h.run
 refine ⟨fun ρ P P' f ⟨ds,e,o,q⟩=>⟨ds,e,o,h.mono _ _ _ (fun b ρ' q=>⟨q.1,f _ _ q.2⟩) q⟩,T,p,fun {F} M H σ ρ Q rs ⟨ds,e,o,q⟩=>?_⟩
 have g:=aZ e (by intro z; cases z)
 obtain ⟨M0,v,ho,m0,rs0,rl⟩:=rs.freeze g
 refine r M0 H σ _ Q rs0 (h.mono _ _ _ (fun d ρ' q M' H' u m rs' rd=>?_) q)
 obtain ⟨⟨sc,rfl⟩,q⟩:=q
 obtain ⟨M2,m2,rs2⟩:=rs.thaw g o ho m0 rl m rs'
 refine q M2 H' u m2 rs2 ?_
 cases d <;> first | exact sc.elim | (simp only [Rep] at rd ⊢; exact rd)
end
end DL
namespace DL
open PySem PySem.Spec L2
open PyProof.Rows hiding St
variable [TB]
variable [Frm]
end DL
namespace L2
open PySem PySem.Spec PyProof.Rows
section
variable {prog:Program} {w:World} {A:Around} {E:Value->Shared->Prop} {s:Shared}
end
section
variable {X:Cx} {e st:Expr} {te:TE} {tk:TO} {pos p2:Pos}
end
end L2
namespace PySem
theorem kQ:fillsNumberSlot (.type "tuple") "mul" = pure false :=
 fillsNumberSlot_seq (id:="tuple.__mul__") (r:=some (.builtin "tuple.__rmul__")) F.slot_tuple_mul.lookup (by decide +kernel) F.slot_tuple_rmul.lookup (by decide +kernel)
theorem qe:seqRepeat? (.type "tuple")=pure (some (.builtin "tuple.__mul__")):=by
 unfold seqRepeat?
 rw [seqSlot_of (T:="tuple") (name:="__mul__") (id:="tuple.__mul__") F.slot_tuple_mul.lookup (by decide +kernel),seqSlot_of (T:="tuple") (name:="__rmul__") (id:="tuple.__rmul__") F.slot_tuple_rmul.lookup (by decide +kernel)]
 rfl
theorem mW (a:Int) (t:Tok) (l:Addr) (items:Array Value) (n:Nat) (dct) (sl) :
  Meets (Builtin.«int.__rmul__» ⟨[.int a t,.ref l],[]⟩) (fun _ R s=>s.heap.get? l=some { cls:=.type "tuple",dict:=dct,data:=.seq items n,slots:=sl } /\ R (.ok (.ret Value.notImplemented)) s) :=
 .of_wp fun prog w A R s h=>by obtain ⟨hp,g,d,tk,os⟩:=s; obtain ⟨hl,h⟩:=h; wp_walk; exact ⟨_,rfl,h⟩
theorem vC (l:Addr) (items:Array Value) (n:Nat) (dct) (sl) (x:Int) (u:Tok) (h1:2 <= x) (h2:x < 2 ^ 63) (h0:items.isEmpty=false) (hc1:¬ items.size * x > (2 ^ 63 - 1) / 8) (hc2:Builtin.Tuple.tupleTooMany (items.size * x)=false)
  (hsz:sizeOk (.seq ((List.replicate x.toNat items).foldl (· ++ ·) #[]))) :
  Meets (Builtin.«tuple.__mul__» ⟨[.ref l,.int x u],[]⟩) (fun _ R s=>s.heap.get? l=some { cls:=.type "tuple",dict:=dct,data:=.seq items n,slots:=sl } /\ R (.ok (.ret (Value.ref s.heap.objs.size))) { s with heap:=s.heap.push { cls:=Value.type "tuple",data:=Data.seq ((List.replicate x.toNat items).foldl (· ++ ·) #[]) },toks:=s.toks }) :=
 .of_wp fun prog w A R s h=>by
  obtain ⟨hp,g,d,tk,os⟩:=s; obtain ⟨hl,h⟩:=h
  wp_walk
  have b1:(decide (x < -2 ^ 63) || decide (x ≥ 2 ^ 63))=false:=by
   rw [decide_eq_false (by omega),decide_eq_false (by omega)]; rfl
  have b2:(items.isEmpty || x == 1)=false:=by
   rw [h0,Bool.false_or]; exact beq_eq_false_iff_ne.mpr (by omega)
  have b3:(decide (x <= 0) || items.isEmpty)=false:=by
   rw [h0,decide_eq_false (by omega)]; rfl
  refine wpAny_ite_false (decide_eq_false (by rw [b1]; exact Bool.false_ne_true)) ?_
  refine wpAny_bind (PyProof.Rows.tupleItemsOf_ (show PyProof.Rows.IsTup _ l items from ⟨_,hl,rfl,n,rfl⟩) ?_)
  dsimp only
  refine wpAny_ite_false (decide_eq_false (by rw [b2]; exact Bool.false_ne_true)) ?_
  refine wpAny_ite_false (decide_eq_false (by rw [b3]; exact Bool.false_ne_true)) ?_
  rw [if_neg hc1]
  refine wpAny_ite_false (decide_eq_false (by rw [hc2]; exact Bool.false_ne_true)) ?_
  exact wpAny_bind (m:=Builtin.Tuple.tupleExact _) (wpAny_newObj_type (wpAny_pure ⟨_,rfl,h⟩) hsz)
end PySem
namespace L2
open PySem PySem.Spec PyProof.Rows
section
variable {X:Cx}
def Dq (K:PySem.W.Frag):R2:=fun x y H Q=>∃ a k xs,x = .ref a /\ y = .int k /\ SqT K H a xs /\ xs≠[] /\ 2 <= k /\ k <= 1000000 /\ xs.length * k.toNat <= 1000000 /\
 ∀ p,H p=none->Q (.ref p) (upd H p (.tup (List.replicate k.toNat xs).flatten))
theorem zo:OpR X (binaryOp .Mult) (Dq X.K):=by
 intro pins s σ H x y v u Q I rx ry h
 obtain ⟨a,k,xs,rfl,rfl,hH,hne,h1,h2,hz,q⟩:=h
 cases rx
 obtain ⟨t,rfl⟩:=ry
 obtain ⟨its,r,ht,hzz⟩:=I.tuple hH
 have hl:=r.length
 obtain ⟨⟨c,dct,dt,sl⟩,hg,hc,n,hd⟩:=id ht
 replace hc:c = .type "tuple":=hc
 replace hd:dt = .seq its.toArray n:=hd
 subst hc hd
 have hT:s.TypeIs (.ref a) "tuple":=⟨_,hg,rfl⟩
 have hnew:List.foldl (fun x1 x2=>x1++x2) #[] (List.replicate k.toNat its.toArray)=(List.replicate k.toNat its).flatten.toArray:=by
  have:=pC its k.toNat []
  rw [List.nil_append] at this
  exact this
 have hlen:(List.replicate k.toNat its).flatten.length=k.toNat * its.length:=uU its k.toNat
 have sl1:(1000000:Nat) <= sizeLine:=by decide
 have hm:(its.toArray.size:Int) * k=((its.length * k.toNat:Nat):Int):=by
  rw [List.size_toArray]
  push_cast
  rw [Int.toNat_of_nonneg (by omega)]
 have hme:its.length * k.toNat <= 1000000:=by rw [← hl]; exact hz
 refine wpAny_binaryOp_repeat_ref (T:="tuple") (U:="int") (by decide) hT (fun s'=>typeIs_int s' k t) kQ F.fills_int_mul F.slot_int_rmul qe F.slot_int_index.lookup
  (call_meets F.slot_int_rmul (typeIs_int s k t) F.entry_int_rmul (F.args_int_rmul_2 _ _) (mW k t a its.toArray n dct sl)
   ⟨hg,rfl,hT,call_meets F.slot_tuple_mul hT F.entry_tuple_mul (F.args_tuple_mul_2 _ _) (vC a its.toArray n dct sl k t h1 (by omega) ?_ ?_ ?_ ?_) ⟨hg,?_⟩⟩)
 ·cases its with
  | nil=>exact absurd (List.length_eq_zero_iff.mp hl) hne
  | cons a r'=>rfl
 ·rw [hm]; omega
 ·rw [hm]
  unfold Builtin.Tuple.tupleTooMany
  exact decide_eq_false (by omega)
 ·rw [hnew]
  show (List.replicate k.toNat its).flatten.toArray.size <= sizeLine
  rw [List.size_toArray,hlen,Nat.mul_comm]
  omega
 ·rw [hnew]
  refine ⟨.ref _,_,I.laid (t':=s.toks) (o:=.tup (List.replicate k.toNat xs).flatten) (fun b ob q=>Heap.get?_push_of_some _ q) (Nat.le_refl _) ?_,rfl,q _ I.fresh⟩
  exact ⟨by rw [uU,Nat.mul_comm]; omega,_,r.rep k.toNat,IsTup.new _ _⟩
end
end L2
namespace DL
open PySem PySem.Spec L2
open PyProof.Rows hiding St
variable [TB]
variable [Frm]
section
variable {X:Cx} {pp:Option Addr}
omit [Frm] in
theorem Reps.reverse {K:PySem.W.Frag} {M:List Addr} {H:Hp}:∀ {ds:List D} {xs:List V},Reps K pp M H ds xs->Reps K pp M H ds.reverse xs.reverse
 | [],xs,r=>by
  simp only [Reps] at r
  subst r
  exact .nil
 | d::ds,xs,r=>by
  simp only [Reps] at r
  obtain ⟨x,r',rfl,hd,hr⟩:=r
  rw [List.reverse_cons,List.reverse_cons]
  exact (Reps.reverse hr).append (.one hd)
end
end DL
namespace DL
open PySem PySem.Spec L2
open PyProof.Rows hiding St
variable [TB]
variable [Frm]
section
variable {X:Cx} {pp:Option Addr}
omit [Frm] in
theorem Reps.rep {K:PySem.W.Frag} {M:List Addr} {H:Hp} {ds:List D} {xs:List V} (r:Reps K pp M H ds xs):∀ n:Nat,Reps K pp M H (List.replicate n ds).flatten (List.replicate n xs).flatten
 | 0=>by simpa using Reps.nil
 | n + 1=>by
  rw [List.replicate_succ,List.replicate_succ,List.flatten_cons,List.flatten_cons]
  exact r.append (Reps.rep r n)
def Dr:D->D->(D->Prop)->Prop
 | .tup xs,.int k,P=>(xs≠[] /\ 2 <= k /\ k <= 1000000 /\ xs.length * k.toNat <= 1000000) /\ P (.tup (List.replicate k.toNat xs).flatten)
 | _,_,_=>False
theorem zp:OpD X (binaryOp .Mult) Dr:=by
 refine ⟨fun x y P P' f h=>?_,_,zo,fun {pp} M H x y v u Q _ rx ry h=>?_⟩
 ·cases x <;> first | exact h.elim | skip
  cases y <;> first | exact h.elim | exact ⟨h.1,f _ h.2⟩
 ·cases x <;> first | exact h.elim | skip
  cases y <;> first | exact h.elim | skip
  rename_i xs k
  simp only [Rep] at rx ry
  obtain ⟨a,us,rfl,ha,ra⟩:=rx
  subst ry
  obtain ⟨⟨h1,h2,h3,h4⟩,h⟩:=h
  refine ⟨a,k,us,rfl,rfl,SqT.of ha,?_,h2,h3,by rw [← ra.length]; exact h4,fun l hl=>h _ _ (.new hl) ?_⟩
  ·rintro rfl
   exact h1 (List.length_eq_zero_iff.mp ra.length)
  ·simp only [Rep]
   exact ⟨l,_,rfl,au,(ra.rep k.toNat).mv (.new hl)⟩
end
end DL
namespace L2
open PySem PySem.Spec PyProof.Rows
section
variable {X:Cx}
end
end L2
namespace DL
open PySem PySem.Spec L2
open PyProof.Rows hiding St
variable [TB]
section
variable {K:PySem.W.Frag} {pp:Option Addr} {M:List Addr} {H:Hp}
end
variable [Frm]
section
variable {X:Cx}
structure M1D (X:Cx) (name:Str) (id:String) (g:D->D->(D->Prop)->Prop):Prop where
 mono:∀ x y P P',(∀ d,P d->P' d)->g x y P->g x y P'
 slot:Slot "list" name id
 ty:typeOf (.builtin id)=pure (.type "method_descriptor")
 run:∃ r,MtR X id r /\ ∀ {pp:Option Addr} M H x y v u (Q:VK),Rep X.K pp M H x v->Rep X.K pp M H y u->g x y (fun d=>∀ w,Rep X.K pp M H d w->Q w H)->r v [u] H Q
end
end DL
namespace DL
open PySem PySem.Spec L2
open PyProof.Rows hiding St
variable [TB]
variable [Frm]
theorem uc {g:DG} {b:DTS} {E:DEnds} {ds:List D} (N:Nat->DS->Prop) (hn:∀ ρ,N ds.length ρ->E.nx ρ)
  (hs:∀ (i:Nat) (d:D) (ρ:DS) (X:DS->Prop),ds[i]? = some d->N i ρ->(∀ ρ',N (i + 1) ρ'->X ρ')->g (.tup [.int i,d]) ρ fun ρ1=>b { E with nx:=X,ct:=X,bk:=E.nx } ρ1) (ρ:DS) (h:N 0 ρ):fT g b (gH 0 ds) E ρ:=by
 have key:∀ (post:List D) (k:Nat),k <= ds.length->ds.drop k=post->∀ ρ,N k ρ->fT g b (gH k post) E ρ:=by
  intro post
  induction post with
  | nil =>
   intro k hk e ρ h
   have h1:ds.length <= k:=List.drop_eq_nil_iff.mp e
   have z:k=ds.length:=Nat.le_antisymm hk h1
   subst z
   exact hn ρ h
  | cons d r ih =>
   intro k hk e ρ h
   have hd:ds[k]? = some d:=by
    have:=congrArg (fun l=>l[0]?) e
    simpa using this
   refine hs k d ρ _ hd h (ih (k + 1) (List.getElem?_eq_some_iff.mp hd).1 ?_)
   rw [← List.drop_drop,e]
   rfl
 exact key ds 0 (Nat.zero_le _) rfl ρ h
end DL
namespace L2
open PySem PySem.Spec PyProof.Rows
section
variable {prog:Program} {w:World} {A:Around} {E:Value->Shared->Prop} {s:Shared}
end
end L2
namespace DL
open PySem PySem.Spec L2
open PyProof.Rows hiding St
variable [TB]
section
variable [Frm]
variable {X:Cx} {F:Fx} {pp:Option Addr}
abbrev dSlL (te:DE) (tl th:DO):DA:=fun ρ Q=>te ρ fun x ρ1=>tl ρ1 fun lo ρ2=>th ρ2 fun hi ρ3=>match x with
 | .lst xs=>Q (cutD xs lo hi) ρ3
 | _=>False
theorem yc {e:Expr} {lo hi:Option Expr} {te:DE} {tl th:DO} {pos p2:Pos} (he:PED X e te) (hl:POD X lo tl) (hh:POD X hi th):PLD X (.Subscript e (.Slice lo hi none p2) pos) (dSlL te tl th):=by
 obtain ⟨T,p,r⟩:=he.run
 obtain ⟨Tl,pl,rl⟩:=hl.run
 obtain ⟨Th,ph,rh⟩:=hh.run
 refine ⟨fun _ _ _ f h=>he.mono _ _ _ (fun x _ h=>hl.mono _ _ _ (fun _ _ h=>hh.mono _ _ _ (fun _ _ h=>?_) h) h) h,_,ss yL p pl ph,fun {F} M H σ ρ Q rs h=>?_⟩
 ·cases x <;> first | exact h.elim | exact f _ _ h
 refine r M H σ ρ _ rs (he.mono _ _ _ (fun x ρ1 h M1 H1 v m1 rs1 r1=>?_) h)
 refine rl M1 H1 σ ρ1 _ rs1 (hl.mono _ _ _ (fun lo ρ2 h M2 H2 m2 rs2=>?_) h)
 refine rh M2 H2 σ ρ2 _ rs2 (hh.mono _ _ _ (fun hi ρ3 h M3 H3 m3 rs3=>?_) h)
 have r3:=(r1.mv m2).mv m3
 cases x <;> first | exact h.elim | skip
 simp only [Rep] at r3
 obtain ⟨a,xs,rfl,_,_,ha,rx⟩:=r3
 exact ⟨a,xs,rfl,SqL.of ha,fun l hl=>h M3 H3 _ l _ ((m1.trans m2).trans m3) rs3 hl rfl (rx.cut lo hi)⟩
end
end DL
namespace L2
open PySem PySem.Spec PyProof.Rows
abbrev sS (h:Heap) (z TI TO:Addr) (f0 f1:Value):Prop :=
 h.get? z=some { cls:=.type "zip",dict:=none,data:=.fields #[f0,f1,.bool false,.ref TI,.ref TO],slots:=#[] }
abbrev iB (h:Heap) (T:Addr) (xs:Array Value):Prop:=h.get? T=some { cls:=.type "tuple",data:=.seq xs }
def OwnF (f:Value):Prop:=f = .none∨∃ a:Int,f = .int a 0
abbrev itsL (n m:Nat):List Value:=(List.range m).map fun j=>Value.ref (n + j)
def BO (h:Heap) (n:Nat) (src:List (Addr×Array Value)) (k c:Nat):Prop:=∀ (j:Nat) (p:Addr×Array Value),src[j]? = some p->h.IsListIter (n + j) p.1 (if j < c then k + 1 else k)
def BP (h:Heap) (n:Nat) (src:List (Addr×Array Value)):Prop:=∀ (j:Nat) (p:Addr×Array Value),src[j]? = some p->p.1 < n /\ h.IsList p.1 p.2
structure ZipSt (h:Heap) (n:Nat) (src:List (Addr×Array Value)) (k:Nat):Prop where
 zip:∃ f0 f1,OwnF f0 /\ sS h (n + src.length + 2) (n + src.length) (n + src.length + 1) f0 f1
 ti:iB h (n + src.length) (itsL n src.length).toArray
 to:∃ ws:Array Value,ws.size=src.length /\ iB h (n + src.length + 1) ws
 its:BO h n src k 0
 ls:BP h n src
 ne:src≠[]
def KeptZ (n m:Nat) (h h':Heap):Prop:=∀ (b:Nat) o,b < n∨b=n + m∨n + m + 2 < b->h.get? b=some o->h'.get? b=some o
section
variable {prog:Program} {w:World} {A:Around} {E:Value->Shared->Prop} {s:Shared}
end
end L2
namespace L2
open PySem PySem.Spec PyProof.Rows
structure ZipLp (h0:Heap) (n:Nat) (src:List (Addr×Array Value)) (k c:Nat) (h:Heap):Prop where
 ti:iB h (n + src.length) (itsL n src.length).toArray
 its:BO h n src k c
 ls:BP h n src
 kept:KeptZ n src.length h0 h
 sz:h.objs.size=h0.objs.size
theorem rH {α:Type} {l:List α} {j:Nat} {p:α} (h:l[j]? = some p):j < l.length:=(List.getElem?_eq_some_iff.mp h).1
section
variable {h0 h h':Heap} {n k c:Nat} {src:List (Addr×Array Value)}
theorem ZipLp.same {a:Nat} (L:ZipLp h0 n src k c h) (hs:Heap.SameBut a h h') (ha:a=n + src.length + 1∨a=n + src.length + 2):ZipLp h0 n src k c h' where
 ti:=hs.extBut _ _ (by intro e; have e:(_:Nat)=(_:Nat):=e; omega) L.ti
 its:=fun j p hj=>(L.its j p hj).extBut hs.extBut (by have:=rH hj; intro e; have e:(_:Nat)=(_:Nat):=e; omega)
 ls:=fun j p hj=>⟨(L.ls j p hj).1,(L.ls j p hj).2.extBut hs.extBut (Nat.ne_of_lt (Nat.lt_of_lt_of_le (L.ls j p hj).1 (show n <= a by omega)))⟩
 kept:=fun b o hb e=>hs.extBut _ _ (by intro e; have e:(_:Nat)=(_:Nat):=e; omega) (L.kept b o hb e)
 sz:=hs.1.trans L.sz
theorem ZipLp.next {p:Addr×Array Value} (L:ZipLp h0 n src k c h) (hc:src[c]? = some p) (hit:h'.IsListIter (n + c) p.1 (k + 1)) (hs:Heap.SameBut (n + c) h h'):ZipLp h0 n src k (c + 1) h':=by
 have lt:=rH hc
 refine ⟨hs.extBut _ _ (by intro e; have e:(_:Nat)=(_:Nat):=e; omega) L.ti,fun j q hj=>?_,fun j q hj=>⟨(L.ls j q hj).1,(L.ls j q hj).2.extBut hs.extBut (Nat.ne_of_lt (Nat.lt_of_lt_of_le (L.ls j q hj).1 (Nat.le_add_right n c)))⟩,fun b o hb e=>hs.extBut _ _ (by intro e; have e:(_:Nat)=(_:Nat):=e; omega) (L.kept b o hb e),hs.1.trans L.sz⟩
 by_cases z:j=c
 ·subst z
  rw [hc] at hj
  cases hj
  rw [if_pos (by omega)]
  exact hit
 ·have:=(L.its j q hj).extBut hs.extBut (by intro e; have e:(_:Nat)=(_:Nat):=e; omega)
  by_cases y:j < c
  ·rw [if_pos y] at this
   rw [if_pos (by omega)]
   exact this
  ·rw [if_neg y] at this
   rw [if_neg (by omega)]
   exact this
theorem KeptZ.step {a:Nat} (L:ZipLp h0 n src k c h) (hs:Heap.ExtBut a h h') (ha:(n <= a /\ a < n + src.length)∨a=n + src.length + 1∨a=n + src.length + 2):KeptZ n src.length h0 h' :=
 fun b o hb e=>hs _ _ (by intro e; have e:(_:Nat)=(_:Nat):=e; omega) (L.kept b o hb e)
end
section
variable {prog:Program} {w:World} {A:Around} {E:Value->Shared->Prop} {s:Shared}
def Told (src:List (Addr×Array Value)) (k c:Nat) (vs:List Value):Prop:=vs.length=c /\ ∀ (j:Nat) (p:Addr×Array Value),j < c->src[j]? = some p->p.2[k]? = vs[j]?
theorem Told.push {src:List (Addr×Array Value)} {k c:Nat} {vs:List Value} {p:Addr×Array Value} {v:Value} (t:Told src k c vs) (hc:src[c]? = some p) (hv:p.2[k]? = some v):Told src k (c + 1) (vs++[v]):=by
 refine ⟨by simp [t.1],fun j q hj hq=>?_⟩
 by_cases z:j=c
 ·subst z
  rw [hc] at hq
  cases hq
  rw [hv,List.getElem?_append_right (by rw [t.1]; exact Nat.le_refl _),t.1]
  simp
 ·rw [t.2 j q (by omega) hq,List.getElem?_append_left (by rw [t.1]; omega)]
end
end L2
namespace PySem
namespace F
end F
end PySem
namespace L2
open PySem PySem.Spec PyProof.Rows
section
variable {prog:Program} {w:World} {A:Around} {E:Value->Shared->Prop} {s:Shared}
end
end L2
namespace L2
open PySem PySem.Spec PyProof.Rows
section
variable {X:Cx} {pins:List (Addr×Obj)} {σ:St} {H:Hp} {s:Shared} {h':Heap}
theorem FpOk.upd {a b:Addr} {o:HO} (f:FpOk X pins H b) (hne:b≠a):FpOk X pins (upd H a o) b:=⟨by rw [ar hne]; exact f.1,f.2⟩
end
inductive Laid:Hp->List (List V)->List Addr->Hp->Prop
 | nil {H:Hp}:Laid H [] [] H
 | snoc {H H1:Hp} {rows:List (List V)} {Ts:List Addr} {r:List V} {T:Addr}:Laid H rows Ts H1->H1 T=none->Laid H (rows++[r]) (Ts++[T]) (upd H1 T (.tup r))
section
variable {X:Cx}
theorem ZipSt.keep {h h':Heap} {n k:Nat} {src:List (Addr×Array Value)} (z:ZipSt h n src k) (kk:∀ (b:Nat) o,b < n + src.length + 3->h.get? b=some o->h'.get? b=some o):ZipSt h' n src k:=by
 obtain ⟨⟨f0,f1,hf,hz⟩,hTI,⟨ws,hws,hTO⟩,hit,hls,hne⟩:=z
 exact ⟨⟨f0,f1,hf,kk _ _ (by omega) hz⟩,kk _ _ (by omega) hTI,⟨ws,hws,kk _ _ (by omega) hTO⟩,fun j p hj=>(hit j p hj).at fun o e=>kk _ o (by have:=rH hj; omega) e,fun j p hj=>⟨(hls j p hj).1,(hls j p hj).2.at fun o e=>kk _ o (Nat.lt_of_lt_of_le (hls j p hj).1 (by omega)) e⟩,hne⟩
theorem Laid.len {H H':Hp} {rows:List (List V)} {Ts:List Addr} (l:Laid H rows Ts H'):Ts.length=rows.length:=by
 induction l with
 | nil=>rfl
 | snoc _ _ ih=>simp [ih]
end
end L2
namespace PySem
namespace F
end F
end PySem
namespace L2
open PySem PySem.Spec PyProof.Rows
section
variable {X:Cx}
end
end L2
namespace L2
open PySem PySem.Spec PyProof.Rows
section
variable {X:Cx}
end
end L2
namespace DL
open PySem PySem.Spec PyProof.Rows L2
variable [TB]
variable [Frm]
omit [Frm] in
theorem Reps.of {K:PySem.W.Frag} {pp:Option Addr} {M:List Addr} {H:Hp}:∀ {ds:List D} {xs:List V},ds.length=xs.length->(∀ (i:Nat) d v,ds[i]? = some d->xs[i]? = some v->Rep K pp M H d v)->Reps K pp M H ds xs
 | [],[],_,_=>.nil
 | [],_::_,h,_=>absurd h (by simp)
 | _::_,[],h,_=>absurd h (by simp)
 | d::ds,x::xs,hl,h=>.cons (h 0 d x rfl rfl) (Reps.of (by simpa using hl) fun i d v hd hv=>h (i + 1) d v (by simpa using hd) (by simpa using hv))
section
variable {X:Cx}
end
end DL
namespace L2
open PySem PySem.Spec PyProof.Rows
section
variable {X:Cx}
end
end L2
namespace DL
open PySem PySem.Spec L2
open PyProof.Rows hiding St
variable [TB]
variable [Frm]
section
variable {X:Cx}
end
end DL
namespace L2
open PySem PySem.Spec PyProof.Rows
section
variable {prog:Program} {w:World} {A:Around} {E:Value->Shared->Prop} {s:Shared}
end
structure ZipTn (n:Nat) (as:List Addr) (k:Nat) (h:Heap):Prop where
 zip:∃ f0 f1,OwnF f0 /\ sS h (n + as.length + 2) (n + as.length) (n + as.length + 1) f0 f1
 ti:iB h (n + as.length) (itsL n as.length).toArray
 to:∃ ws:Array Value,ws.size=as.length /\ iB h (n + as.length + 1) ws
 its:∀ (j:Nat) (a:Addr),as[j]? = some a->h.IsListIter (n + j) a k
theorem ZipTn.st {n k:Nat} {as:List Addr} {h:Heap} {src:List (Addr×Array Value)} (t:ZipTn n as k h) (hs:src.map (·.1)=as) (hl:∀ p∈src,h.IsList p.1 p.2) (hlt:∀ a∈as,a < n) (hne:as≠[]):ZipSt h n src k:=by
 have hlen:src.length=as.length:=by rw [← hs,List.length_map]
 obtain ⟨z,ti,to,its⟩:=t
 have at_:∀ (j:Nat) (p:Addr×Array Value),src[j]? = some p->as[j]? = some p.1:=fun j p hp=>by rw [← hs,List.getElem?_map,hp]; rfl
 refine ⟨by rw [hlen]; exact z,by rw [hlen]; exact ti,by rw [hlen]; exact to,fun j p hp=>?_,fun j p hp=>⟨hlt p.1 (List.mem_of_getElem? (at_ j p hp)),hl p (List.mem_of_getElem? hp)⟩,fun e=>hne (by rw [← hs,e]; rfl)⟩
 rw [if_neg (Nat.not_lt_zero _)]
 exact its j p.1 (at_ j p hp)
theorem ZipSt.tn {n k:Nat} {as:List Addr} {h:Heap} {src:List (Addr×Array Value)} (z:ZipSt h n src k) (hs:src.map (·.1)=as):ZipTn n as k h:=by
 have hlen:src.length=as.length:=by rw [← hs,List.length_map]
 refine ⟨by rw [← hlen]; exact z.zip,by rw [← hlen]; exact z.ti,by rw [← hlen]; exact z.to,fun j a ha=>?_⟩
 have hj:j < src.length:=by rw [hlen]; exact rH ha
 have hp:src[j]? = some src[j]:=by simp [hj]
 have:=z.its j _ hp
 rw [if_neg (Nat.not_lt_zero _)] at this
 have e:(src[j]).1=a:=by
  have:as[j]? = some (src[j]).1:=by rw [← hs,List.getElem?_map,hp]; rfl
  rw [ha] at this
  exact (Option.some.inj this).symm
 rw [← e]
 exact this
section
variable {X:Cx}
end
end L2
namespace DL
open PySem PySem.Spec PyProof.Rows L2
variable [TB]
variable [Frm]
section
variable {X:Cx}
end
end DL
namespace DL
open PySem PySem.Spec L2
open PyProof.Rows hiding St
variable [TB]
variable [Frm]
mutual
def flD:D->Prop
 | .non=>True
 | .bl _=>True
 | .int _=>True
 | .str _=>True
 | .ty _=>True
 | .cls _=>True
 | .tup ds=>flDs ds
 | _=>False
def flDs:List D->Prop
 | []=>True
 | d::r=>flD d /\ flDs r
end
omit [Frm] in
mutual
theorem Rep.flat {K:PySem.W.Frag} {pp:Option Addr} {M M':List Addr} {H:Hp}:∀ (d:D) (v:V),flD d->Rep K pp M H d v->Rep K pp M' H d v
 | .non,_,_,h=>by simp only [Rep] at h ⊢; exact h
 | .bl _,_,_,h=>by simp only [Rep] at h ⊢; exact h
 | .int _,_,_,h=>by simp only [Rep] at h ⊢; exact h
 | .str _,_,_,h=>by simp only [Rep] at h ⊢; exact h
 | .ty _,_,_,h=>by simp only [Rep] at h ⊢; exact h
 | .cls _,_,_,h=>by simp only [Rep] at h ⊢; exact h
 | .tup ds,_,f,h=>by
  simp only [Rep] at h ⊢
  simp only [flD] at f
  obtain ⟨a,xs,e,ha,r⟩:=h
  exact ⟨a,xs,e,ha,Reps.flat ds xs f r⟩
 | .lst _,_,f,_=>by simp only [flD] at f
 | .dK _ _,_,f,_=>by simp only [flD] at f
 | .dT _ _,_,f,_=>by simp only [flD] at f
 | .pen,_,f,_=>by simp only [flD] at f
 | .exc _,_,f,_=>by simp only [flD] at f
 | .exa _ _,_,f,_=>by simp only [flD] at f
theorem Reps.flat {K:PySem.W.Frag} {pp:Option Addr} {M M':List Addr} {H:Hp}:∀ (ds:List D) (xs:List V),flDs ds->Reps K pp M H ds xs->Reps K pp M' H ds xs
 | [],xs,_,h=>by simp only [Reps] at h ⊢; exact h
 | d::ds,xs,f,h=>by
  simp only [Reps] at h ⊢
  simp only [flDs] at f
  obtain ⟨x,r,e,h1,h2⟩:=h
  exact ⟨x,r,e,Rep.flat d x f.1 h1,Reps.flat ds r f.2 h2⟩
end
def pinS (v:V):Sl->Sl
 | .nil=>.nil
 | .val d=>.pin v d
 | .own ds=>.pin v (.lst ds)
 | .obj q=>.pin v (fzO q)
 | .pin w d=>.pin w d
def pinL (vs:Nat->V):Nat->DS->DS
 | _,[]=>[]
 | n,s::r=>pinS (vs n) s::pinL vs (n + 1) r
inductive Unp (vs:Nat->V):Nat->DS->DS->DS->Prop
 | nil {n}:Unp vs n [] [] []
 | keep {n s r r' r2}:Unp vs (n + 1) r r' r2->Unp vs n (s::r) (pinS (vs n) s::r') (s::r2)
 | drop {n s s' r r' r2}:Unp vs (n + 1) r r' r2->Unp vs n (s::r) (s'::r') (.nil::r2)
 | flat {n s d r r' r2}:flD d->Unp vs (n + 1) r r' r2->Unp vs n (s::r) (.val d::r') (.val d::r2)
 | ownF {n s ds r r' r2}:flDs ds->Unp vs (n + 1) r r' r2->Unp vs n (s::r) (.own ds::r') (.own ds::r2)
omit [Frm] in
theorem oi (vs:Nat->V):∀ (ρ:DS) (n i:Nat),(pinL vs n ρ)[i]? = (ρ[i]?).map (pinS (vs (n + i)))
 | [],_,_=>by simp [pinL]
 | s::r,n,0=>by simp [pinL]
 | s::r,n,i + 1=>by
  simp only [pinL,List.getElem?_cons_succ]
  rw [oi vs r (n + 1) i,show n + 1 + i=n + (i + 1) by omega]
omit [Frm] in
theorem sT (vs:Nat->V):∀ (ρ:DS) (n:Nat),(pinL vs n ρ).length=ρ.length
 | [],_=>rfl
 | s::r,n=>by simp [pinL,sT vs r (n + 1)]
omit [Frm] in
theorem Unp.self (vs:Nat->V):∀ (ρ:DS) (n:Nat),Unp vs n ρ (pinL vs n ρ) ρ
 | [],_=>.nil
 | _::r,n=>.keep (Unp.self vs r (n + 1))
omit [Frm] in
theorem Unp.len {vs:Nat->V} {n:Nat} {a b c:DS} (h:Unp vs n a b c):b.length=c.length /\ c.length=a.length:=by
 induction h with
 | nil=>exact ⟨rfl,rfl⟩
 | keep _ ih=>simp [ih.1,ih.2]
 | drop _ ih=>simp [ih.1,ih.2]
 | flat _ _ ih=>simp [ih.1,ih.2]
 | ownF _ _ ih=>simp [ih.1,ih.2]
omit [Frm] in
theorem Unp.get {vs:Nat->V} {n:Nat} {a b c:DS} (h:Unp vs n a b c):∀ (i:Nat) (s:Sl),c[i]? = some s->s = .nil∨(a[i]? = some s /\ b[i]? = some (pinS (vs (n + i)) s))∨(∃ d,s = .val d /\ flD d /\ b[i]? = some (.val d))∨∃ ds,s = .own ds /\ flDs ds /\ b[i]? = some (.own ds):=by
 induction h with
 | nil=>intro i s e; simp at e
 | @keep n s0 r r' r2 _ ih =>
  intro i s e
  cases i with
  | zero=>simp at e; subst e; exact .inr (.inl ⟨by simp,by simp⟩)
  | succ i =>
   have:=ih i s (by simpa using e)
   rw [show n + 1 + i=n + (i + 1) by omega] at this
   simpa using this
 | @drop n s0 s' r r' r2 _ ih =>
  intro i s e
  cases i with
  | zero=>simp at e; exact .inl e.symm
  | succ i =>
   have:=ih i s (by simpa using e)
   rw [show n + 1 + i=n + (i + 1) by omega] at this
   simpa using this
 | @flat n s0 d r r' r2 f _ ih =>
  intro i s e
  cases i with
  | zero=>simp at e; exact .inr (.inr (.inl ⟨d,e.symm,f,by simp⟩))
  | succ i =>
   have:=ih i s (by simpa using e)
   rw [show n + 1 + i=n + (i + 1) by omega] at this
   simpa using this
 | @ownF n s0 ds r r' r2 f _ ih =>
  intro i s e
  cases i with
  | zero=>simp at e; exact .inr (.inr (.inr ⟨ds,e.symm,f,by simp⟩))
  | succ i =>
   have:=ih i s (by simpa using e)
   rw [show n + 1 + i=n + (i + 1) by omega] at this
   simpa using this
section
variable {K:PySem.W.Frag} {F:Fx} {M:List Addr} {H:Hp} {σ:St} {ρ:DS}
omit [TB] [Frm] in
mutual
theorem RO.nt {pp:Option Addr}:∀ (q:O) (v:V) (A:List Addr),RO K pp M H q v A->∀ a∈A,∀ ps,H a≠some (.tbl ps)
 | .val d,v,A,h,a,ha=>by simp only [RO] at h; rw [h.1] at ha; simp at ha
 | .lst os,v,A,h,a,ha=>by
  simp only [RO] at h
  obtain ⟨b,xs,B,e,hb,rfl,r⟩:=h
  rcases List.mem_cons.mp ha with rfl | ha
  ·rw [hb]; intro _ z; cases z
  ·exact ROs.nt os xs B r a ha
 | .dct ks os,v,A,h,a,ha=>by
  simp only [RO] at h
  obtain ⟨b,kvs,B,e,hb,e2,rfl,r⟩:=h
  rcases List.mem_cons.mp ha with rfl | ha
  ·rw [hb]; intro _ z; cases z
  ·exact ROs.nt os _ B r a ha
 | .tup os,v,A,h,a,ha=>by
  simp only [RO] at h
  obtain ⟨b,xs,e,hb,r⟩:=h
  exact ROs.nt os xs A r a ha
 | .dck ks os,v,A,h,a,ha=>by
  simp only [RO] at h
  obtain ⟨b,kvs,B,e,hb,e2,rfl,r⟩:=h
  rcases List.mem_cons.mp ha with rfl | ha
  ·rw [hb]; intro _ z; cases z
  ·exact ROs.nt os _ B r a ha
theorem ROs.nt {pp:Option Addr}:∀ (os:List O) (xs:List V) (A:List Addr),ROs K pp M H os xs A->∀ a∈A,∀ ps,H a≠some (.tbl ps)
 | [],xs,A,h,a,ha=>by simp only [ROs] at h; rw [h.2] at ha; simp at ha
 | o::os,xs,A,h,a,ha=>by
  simp only [ROs] at h
  obtain ⟨x,r,B,C,e,rfl,h1,h2⟩:=h
  rcases List.mem_append.mp ha with ha | ha
  ·exact RO.nt o x B h1 a ha
  ·exact ROs.nt os r C h2 a ha
end
open Classical in
theorem RSt.owN (r:RSt K F M H σ ρ):∃ As:Nat->List Addr,(∀ (i:Nat) s o,ρ[i]? = some s->σ[i]? = some o->Ow K F M H s o (As i)) /\ (∀ i,∀ a∈As i,a∈M /\ F.H0 a=none /\ F.pp≠some a) /\ (∀ i j,i≠j->∀ a∈As i,a∉As j) /\ ∀ i,∀ a∈As i,∀ ps,H a≠some (.tbl ps):=by
 obtain ⟨As,k1,k2,k3⟩:=r.ow
 refine ⟨fun i=>(As i).filter fun a=>decide (∀ ps,H a≠some (.tbl ps)),fun i s o e1 e2=>?_,fun i a ha=>k2 i a (List.mem_filter.mp ha).1,fun i j e a ha hb=>k3 i j e a (List.mem_filter.mp ha).1 (List.mem_filter.mp hb).1,fun i a ha=>by simpa using (List.mem_filter.mp ha).2⟩
 have q:=k1 i s o e1 e2
 cases s with
 | nil=>trivial
 | val d=>trivial
 | pin w d=>trivial
 | own ds =>
  obtain ⟨l,rfl,e⟩:=q
  obtain ⟨l',xs,e',_,_,_,hl,_⟩:=r.sl i _ _ e1 e2
  cases e'
  refine ⟨l,rfl,?_⟩
  show (As i).filter _=[l]
  rw [e,List.filter_eq_self]
  intro a ha
  simp at ha; subst ha
  simp [hl]
 | obj b =>
  obtain ⟨nd,v,rfl,hq⟩:=q
  have e:(As i).filter (fun a=>decide (∀ ps,H a≠some (.tbl ps)))=As i:=by
   rw [List.filter_eq_self]
   intro a ha
   simpa using RO.nt b v (As i) hq a ha
  show Ow K F M H _ _ ((As i).filter _)
  rw [e]
  exact ⟨nd,v,rfl,hq⟩
open Classical in
theorem RSt.look (r:RSt K F M H σ ρ) (vs:Nat->V) (hv:∀ (i:Nat) v,σ[i]? = some (some v)->vs i=v) :
  ∃ M0,Mv K F.pp M H M0 H /\ RSt K F M0 H σ (pinL vs 0 ρ) /\ (∀ M' H' σ' ρ' ρ2,Mv K F.pp M0 H M' H'->RSt K F M' H' σ' ρ'->Unp vs 0 ρ ρ' ρ2->∃ M2,Mv K F.pp M H M2 H' /\ RSt K F M2 H' σ' ρ2) /\
   ∃ As:Nat->List Addr,(∀ (i:Nat) s o,ρ[i]? = some s->σ[i]? = some o->Ow K F M H s o (As i)) /\ ∀ M' H',Mv K F.pp M0 H M' H'->∀ i,i < ρ.length->∀ a∈As i,∀ x,H a=some x->NT x->H' a=some x:=by
 obtain ⟨As,k1,k2,k3,k4⟩:=r.owN
 obtain ⟨A,hA⟩:∃ A:List Addr,∀ a,a∈A↔∃ i,i < ρ.length /\ a∈As i:=⟨(List.range ρ.length).flatMap As,fun a=>by simp⟩
 have inA:∀ (i:Nat) s,ρ[i]? = some s->∀ a∈As i,a∈A:=fun i s e a ha=>(hA a).mpr ⟨i,(List.getElem?_eq_some_iff.mp e).1,ha⟩
 have ofA:∀ a∈A,a∈M /\ F.H0 a=none /\ F.pp≠some a:=fun a ha=>by
  obtain ⟨i,_,h⟩:=(hA a).mp ha
  exact k2 i a h
 have ntA:∀ a∈A,∀ ps,H a≠some (.tbl ps):=fun a ha=>by
  obtain ⟨i,_,h⟩:=(hA a).mp ha
  exact k4 i a h
 have m0:Mv K F.pp M H (M.filter fun a=>decide (a∉A)) H:=.less fun a ha=>(List.mem_filter.mp ha).1
 have n0:∀ a∈A,a∉M.filter fun a=>decide (a∉A):=fun a ha z=>absurd ha (by simpa using (List.mem_filter.mp z).2)
 have z0:∀ i:Nat,vs (0 + i)=vs i:=fun i=>by rw [Nat.zero_add]
 refine ⟨_,m0,⟨by rw [sT,r.len],fun i s o h1 h2=>?_,OwF.none (fun i s h1=>?_),fun a ha=>?_,r.same,r.old,⟨fun a ha=>r.liv.m a (List.mem_filter.mp ha).1,r.liv.p⟩,r.lk.cl m0⟩,?_,As,k1,fun M' H' m i hi a ha x e nt=>(m.oth a x e (n0 a ((hA a).mpr ⟨i,hi,ha⟩)) ⟨(k2 i a ha).2.2,nt⟩).1⟩
 ·rw [oi] at h1
  obtain ⟨s0,e0,rfl⟩:=Option.map_eq_some_iff.mp h1
  rw [z0]
  have q:=r.sl i s0 o e0 h2
  cases s0 with
  | nil=>trivial
  | val d=>obtain ⟨v,rfl,q⟩:=q; exact ⟨v,rfl,(hv i v h2).symm,q.mv m0⟩
  | pin w d=>obtain ⟨v,e,ew,q⟩:=q; exact ⟨v,e,ew,q.mv m0⟩
  | own ds =>
   obtain ⟨l,xs,rfl,hm,h0,hp,hl,hr⟩:=q
   have hlA:l∈A:=by
    obtain ⟨l2,e2,e3⟩:=k1 i _ _ e0 h2
    cases e2
    exact inA i _ e0 l (by rw [e3]; simp)
   refine ⟨.ref l,rfl,(hv i _ h2).symm,?_⟩
   simp only [Rep]
   exact ⟨l,xs,rfl,n0 l hlA,hp,hl,hr.mv m0⟩
  | obj b =>
   obtain ⟨nd,v,rfl,hq⟩:=k1 i _ _ e0 h2
   exact ⟨v,rfl,(hv i v h2).symm,RO.fz m0 b v (As i) (fun a ha=>⟨n0 a (inA i _ e0 a ha),(k2 i a ha).2.2⟩) hq⟩
 ·rw [oi] at h1
  obtain ⟨s0,e0,rfl⟩:=Option.map_eq_some_iff.mp h1
  cases s0 <;> exact ⟨fun ds z=>(by cases z),fun q z=>(by cases z)⟩
 ·refine List.mem_filter.mpr ⟨r.sub a ha,?_⟩
  have:a∉A:=fun z=>r.old a ha (ofA a z).2.1
  simpa using this
 ·intro M' H' σ' ρ' ρ2 m r' u
  have mm:=m0.trans m
  have m2:Mv K F.pp M H (A++M') H':=by
   refine ⟨mm.tup,fun a o e n p=>?_,mm.pen,mm.tb⟩
   obtain ⟨q1,q2⟩:=mm.oth a o e n p
   refine ⟨q1,fun z=>?_⟩
   rcases List.mem_append.mp z with z | z
   ·exact n (ofA a z).1
   ·exact q2 z
  have kp:∀ a∈A,∀ x,H a=some x->NT x->H' a=some x:=fun a ha x e nt=>(m.oth a x e (n0 a ha) ⟨(ofA a ha).2.2,nt⟩).1
  obtain ⟨ul,ul2⟩:=u.len
  have key:∀ (i:Nat) s o,ρ[i]? = some s->ρ'[i]? = some (pinS (vs (0 + i)) s)->s ≠ .nil->σ'[i]? = some o->σ[i]? = some o:=fun i s o e1 e2 hn h2=>by
   obtain ⟨o0,ho0,q0⟩:=r.at e1
   have q1:=r'.sl i _ _ e2 h2
   rw [z0] at q1
   rw [ho0]
   cases s with
   | nil=>exact absurd rfl hn
   | val d =>
    obtain ⟨v,rfl,q⟩:=q0
    obtain ⟨v',rfl,e,_⟩:=q1
    rw [e,hv i v ho0]
   | pin w d =>
    obtain ⟨v,rfl,e',q⟩:=q0
    obtain ⟨v',rfl,e,_⟩:=q1
    rw [e,e']
   | own ds =>
    obtain ⟨l,xs,rfl,hm,h0,hp,hl,hr⟩:=q0
    obtain ⟨v',rfl,e,_⟩:=q1
    rw [e,hv i _ ho0]
   | obj q =>
    obtain ⟨v,rfl⟩:=q0
    obtain ⟨v',rfl,e,_⟩:=q1
    rw [e,hv i v ho0]
  obtain ⟨Bs,b1,b2,b3⟩:=r'.ow
  have dj:∀ a∈A,a∉M':=fun a ha=>by
   cases e:H a with
   | none=>exact absurd e (r.liv.m a (ofA a ha).1)
   | some x=>exact (m.oth a x e (n0 a ha) ⟨(ofA a ha).2.2,fun ps q=>ntA a ha ps (by rw [e,q])⟩).2
  let nw:Nat->Prop:=fun i=>∃ ds,ρ2[i]? = some (.own ds) /\ ρ'[i]? = some (.own ds)
  have inC:∀ i a,a∈(if nw i then Bs i else if i < ρ.length then As i else [])->(nw i /\ a∈Bs i)∨(¬ nw i /\ i < ρ.length /\ a∈As i):=fun i a ha=>by
   by_cases h:nw i
   ·rw [if_pos h] at ha; exact .inl ⟨h,ha⟩
   ·rw [if_neg h] at ha
    by_cases e:i < ρ.length
    ·rw [if_pos e] at ha; exact .inr ⟨h,e,ha⟩
    ·rw [if_neg e] at ha; simp at ha
  refine ⟨A++M',m2,⟨by rw [r'.len,ul],fun i s o h1 h2=>?_,⟨fun i=>if nw i then Bs i else if i < ρ.length then As i else [],fun i s o h1 h2=>?_,fun i a ha=>?_,fun i j e a ha hb=>?_⟩,fun a ha=>List.mem_append.mpr (.inr (r'.sub a ha)),r'.same,r.old,⟨fun a ha=>?_,r'.liv.p⟩,r.lk.cl m2⟩⟩
  ·rcases u.get i s h1 with rfl | ⟨e1,e2⟩ | ⟨d,rfl,f,e2⟩ | ⟨ds,rfl,f,e2⟩
   ·trivial
   ·by_cases hn:s = .nil
    ·subst hn; trivial
    have h3:=key i s o e1 e2 hn h2
    have q0:=r.sl i s o e1 h3
    cases s with
    | nil=>trivial
    | val d=>obtain ⟨v,e,q⟩:=q0; exact ⟨v,e,q.mv m2⟩
    | pin w d=>obtain ⟨v,e,ew,q⟩:=q0; exact ⟨v,e,ew,q.mv m2⟩
    | own ds =>
     obtain ⟨l,xs,rfl,hm,h0,hp,hl,hr⟩:=q0
     have hlA:l∈A:=by
      obtain ⟨l2,e2,e3⟩:=k1 i _ _ e1 h3
      cases e2
      exact inA i _ e1 l (by rw [e3]; simp)
     exact ⟨l,xs,rfl,List.mem_append.mpr (.inl hlA),h0,hp,kp l hlA _ hl (by intro _ z; cases z),hr.mv m2⟩
    | obj q=>exact q0
   ·obtain ⟨v,e,q⟩:=r'.sl i _ _ e2 h2
    exact ⟨v,e,q.flat _ _ f⟩
   ·obtain ⟨l,xs,e,hm,h0,hp,hl,hr⟩:=r'.sl i _ _ e2 h2
    exact ⟨l,xs,e,List.mem_append.mpr (.inr hm),h0,hp,hl,Reps.flat ds xs f hr⟩
  ·show Ow K F _ H' s o (if nw i then Bs i else if i < ρ.length then As i else [])
   rcases u.get i s h1 with rfl | ⟨e1,e2⟩ | ⟨d,rfl,f,e2⟩ | ⟨ds,rfl,f,e2⟩
   ·trivial
   ·by_cases hn:s = .nil
    ·subst hn; trivial
    have h3:=key i s o e1 e2 hn h2
    have nn:¬ nw i:=fun ⟨ds,z1,z2⟩=>by
     rw [h1] at z1
     cases z1
     rw [e2] at z2
     cases z2
    rw [if_neg nn,if_pos (List.getElem?_eq_some_iff.mp e1).1]
    exact (k1 i s o e1 h3).mv m2 fun a ha=>kp a (inA i s e1 a ha)
   ·trivial
   ·have nn:nw i:=⟨ds,h1,e2⟩
    rw [if_pos nn]
    exact b1 i _ o e2 h2
  ·rcases inC i a ha with ⟨_,ha⟩ | ⟨_,e,ha⟩
   ·have:=b2 i a ha
    exact ⟨List.mem_append.mpr (.inr this.1),this.2⟩
   ·exact ⟨List.mem_append.mpr (.inl ((hA a).mpr ⟨i,e,ha⟩)),(k2 i a ha).2⟩
  ·rcases inC i a ha with ⟨_,ha⟩ | ⟨_,e1,ha⟩ <;> rcases inC j a hb with ⟨_,hb⟩ | ⟨_,e2,hb⟩
   ·exact b3 i j e a ha hb
   ·exact dj a ((hA a).mpr ⟨j,e2,hb⟩) (b2 i a ha).1
   ·exact dj a ((hA a).mpr ⟨i,e1,ha⟩) (b2 j a hb).1
   ·exact k3 i j e a ha hb
  ·rcases List.mem_append.mp ha with ha | ha
   ·intro z
    have:=r.liv.m a (ofA a ha).1
    cases e:H a with
    | none=>exact this e
    | some x=>rw [kp a ha x e (fun ps q=>ntA a ha ps (by rw [e,q]))] at z; cases z
   ·exact r'.liv.m a ha
end
section
variable {X:Cx} {e:Expr} {st:Stmt}
end
section
variable {K:PySem.W.Frag} {pp:Option Addr} {M:List Addr} {H:Hp}
omit [Frm] in
mutual
theorem RO.live:∀ (q:O) (v:V) (A:List Addr),RO K pp M H q v A->∀ a∈A,H a≠none
 | .val d,v,A,h,a,ha=>by simp only [RO] at h; rw [h.1] at ha; simp at ha
 | .lst os,v,A,h,a,ha=>by
  simp only [RO] at h
  obtain ⟨b,xs,B,e,hb,rfl,r⟩:=h
  rcases List.mem_cons.mp ha with rfl | ha
  ·rw [hb]; intro z; cases z
  ·exact ROs.live os xs B r a ha
 | .dct ks os,v,A,h,a,ha=>by
  simp only [RO] at h
  obtain ⟨b,kvs,B,e,hb,e2,rfl,r⟩:=h
  rcases List.mem_cons.mp ha with rfl | ha
  ·rw [hb]; intro z; cases z
  ·exact ROs.live os _ B r a ha
 | .tup os,v,A,h,a,ha=>by
  simp only [RO] at h
  obtain ⟨b,xs,e,hb,r⟩:=h
  exact ROs.live os xs A r a ha
 | .dck ks os,v,A,h,a,ha=>by
  simp only [RO] at h
  obtain ⟨b,kvs,B,e,hb,e2,rfl,r⟩:=h
  rcases List.mem_cons.mp ha with rfl | ha
  ·rw [hb]; intro z; cases z
  ·exact ROs.live os _ B r a ha
theorem ROs.live:∀ (os:List O) (xs:List V) (A:List Addr),ROs K pp M H os xs A->∀ a∈A,H a≠none
 | [],xs,A,h,a,ha=>by simp only [ROs] at h; rw [h.2] at ha; simp at ha
 | o::os,xs,A,h,a,ha=>by
  simp only [ROs] at h
  obtain ⟨x,r,B,C,e,rfl,h1,h2⟩:=h
  rcases List.mem_append.mp ha with ha | ha
  ·exact RO.live o x B h1 a ha
  ·exact ROs.live os r C h2 a ha
end
omit [Frm] in
theorem ROs.vals:∀ {ds:List D} {xs:List V},Reps K pp M H ds xs->ROs K pp M H (ds.map O.val) xs []
 | [],xs,h=>by simp only [Reps] at h; simp only [List.map_nil,ROs]; exact ⟨h,trivial⟩
 | d::ds,xs,h=>by
  simp only [Reps] at h
  obtain ⟨x,r,rfl,h1,h2⟩:=h
  simp only [List.map_cons,ROs,RO]
  exact ⟨x,r,[],[],rfl,rfl,⟨rfl,h1⟩,ROs.vals h2⟩
omit [Frm] in
theorem ROs.put {o:O}:∀ {os:List O} {xs:List V} {A:List Addr} (n:Nat),ROs K pp M H os xs A->A.Nodup->os[n]? = some o ->
  ∃ x B,xs[n]? = some x /\ RO K pp M H o x B /\ B.Nodup /\ (∀ a∈B,a∈A) /\ ∀ {M':List Addr} {H':Hp} o' x' B',Mv K pp M H M' H'->(∀ a∈A,a∉B->∀ z,H a=some z->H' a=some z) ->
   RO K pp M' H' o' x' B'->B'.Nodup->(∀ b∈B',b∈B∨b∉A)->∃ A',A'.Nodup /\ (∀ a∈A',a∈A∨a∈B') /\ ROs K pp M' H' (os.set n o') (xs.set n x') A'
 | [],xs,A,n,h,nd,e=>by simp at e
 | o0::os,xs,A,0,h,nd,e=>by
  simp only [ROs] at h
  obtain ⟨x,r,B,C,rfl,rfl,h1,h2⟩:=h
  simp at e
  subst e
  obtain ⟨n1,n2,n3⟩:=List.nodup_append.mp nd
  refine ⟨x,B,rfl,h1,n1,fun a ha=>List.mem_append.mpr (.inl ha),fun {M' H'} o' x' B' m k r' nb hb=>⟨B'++C,?_,fun a ha=>?_,?_⟩⟩
  ·refine List.nodup_append.mpr ⟨nb,n2,fun a ha b hc z=>?_⟩
   subst z
   rcases hb a ha with z | z
   ·exact n3 a z a hc rfl
   ·exact z (List.mem_append.mpr (.inr hc))
  ·rcases List.mem_append.mp ha with ha | ha
   ·exact .inr ha
   ·exact .inl (List.mem_append.mpr (.inr ha))
  ·simp only [List.set_cons_zero,ROs]
   exact ⟨x',r,B',C,rfl,rfl,r',ROs.mv m os r C (fun a ha z e _=>k a (List.mem_append.mpr (.inr ha)) (fun y=>n3 a y a ha rfl) z e) h2⟩
 | o0::os,xs,A,n + 1,h,nd,e=>by
  simp only [ROs] at h
  obtain ⟨x0,r,B0,C,rfl,rfl,h1,h2⟩:=h
  obtain ⟨n1,n2,n3⟩:=List.nodup_append.mp nd
  obtain ⟨x,B,ex,hB,nB,sB,f⟩:=ROs.put n h2 n2 (by simpa using e)
  refine ⟨x,B,by simpa using ex,hB,nB,fun a ha=>List.mem_append.mpr (.inr (sB a ha)),fun {M' H'} o' x' B' m k r' nb hb=>?_⟩
  obtain ⟨C',c1,c2,c3⟩:=f o' x' B' m (fun a ha hn z e=>k a (List.mem_append.mpr (.inr ha)) hn z e) r' nb (fun b hb'=>(hb b hb').imp id fun z y=>z (List.mem_append.mpr (.inr y)))
  refine ⟨B0++C',?_,fun a ha=>?_,?_⟩
  ·refine List.nodup_append.mpr ⟨n1,c1,fun a ha b hc z=>?_⟩
   subst z
   rcases c2 a hc with z | z
   ·exact n3 a ha a z rfl
   ·rcases hb a z with y | y
    ·exact n3 a ha a (sB a y) rfl
    ·exact y (List.mem_append.mpr (.inl ha))
  ·rcases List.mem_append.mp ha with ha | ha
   ·exact .inl (List.mem_append.mpr (.inl ha))
   ·exact (c2 a ha).imp (fun z=>List.mem_append.mpr (.inr z)) id
  ·simp only [List.set_cons_succ,ROs]
   exact ⟨x0,_,B0,C',rfl,rfl,RO.mv m o0 x0 B0 (fun a ha z e _=>k a (List.mem_append.mpr (.inl ha)) (fun y=>n3 a ha a (sB a y) rfl) z e) h1,c3⟩
end
section
variable {K:PySem.W.Frag} {F:Fx} {M:List Addr} {H:Hp} {σ:St} {ρ:DS} {i:Nat} {q q':O} {l:Addr} {xs ys:List V}
theorem RSt.newObj {M1:List Addr} {H1 H':Hp} {A:List Addr} {v:V} (r:RSt K F M1 H1 σ ρ) (s:SameP K F.pp H1 H') (hn:A.Nodup) (hA:∀ a∈A,H1 a=none /\ F.pp≠some a) (ro:RO K F.pp (A++M1) H' q v A) (i:Nat) :
  Mv K F.pp M1 H1 (A++M1) H' /\ RSt K F (A++M1) H' (σ.set i (some v)) (ρ.set i (.obj q)):=by
 have m1:Mv K F.pp M1 H1 M1 H':=s.mv
 have m:Mv K F.pp M1 H1 (A++M1) H':=by
  refine ⟨m1.tup,fun a o e n p=>⟨(m1.oth a o e n p).1,fun z=>?_⟩,m1.pen,m1.tb⟩
  rcases List.mem_append.mp z with z | z
  ·rw [(hA a z).1] at e; cases e
  ·exact n z
 have f0:∀ a∈A,F.H0 a=none:=fun a ha=>by
  cases e:F.H0 a with
  | none=>rfl
  | some o=>exact absurd (hA a ha).1 (r.same.live a (by rw [e]; intro z; cases z))
 refine ⟨m,⟨by simp [r.len],fun j t o h1 h2=>?_,r.ow.step m i (fun j e=>List.getElem?_set_ne (Ne.symm e)) (fun j e=>List.getElem?_set_ne (Ne.symm e)) (fun A0 _ _=>⟨A,fun t o e1 e2=>?_,fun b hb=>⟨List.mem_append.mpr (.inl hb),f0 b hb,(hA b hb).2,.inr fun z=>r.liv.m b z (hA b hb).1⟩,fun a ha p0 z0 _=>⟨List.mem_append.mpr (.inr ha),(s.ow (M:=M1) a ha p0 z0).2⟩⟩),fun a ha=>List.mem_append.mpr (.inr (r.sub a ha)),r.same.trans s.toSameQ,r.old,⟨fun a ha=>?_,fun p e=>s.live p (r.liv.p p e)⟩,r.lk.cl m⟩⟩
 ·by_cases e:i=j
  ·subst e
   rw [bj h1,bj h2]
   exact ⟨v,rfl⟩
  ·rw [List.getElem?_set_ne e] at h1 h2
   have q':=r.sl j t o h1 h2
   cases t with
   | nil=>trivial
   | val d=>obtain ⟨v,e,q⟩:=q'; exact ⟨v,e,q.mv m⟩
   | pin w d=>obtain ⟨v,e,ew,q⟩:=q'; exact ⟨v,e,ew,q.mv m⟩
   | own es =>
    obtain ⟨l',zs,rfl,hm',h0',hp',hl'',hr'⟩:=q'
    exact ⟨l',zs,rfl,List.mem_append.mpr (.inr hm'),h0',hp',(s.ow (M:=M1) l' hm' hp' h0').2 _ hl'' (by intro _ z; cases z),hr'.mv m⟩
   | obj q=>exact q'
 ·rw [bj e1,bj e2]
  exact ⟨hn,v,rfl,ro⟩
 ·rcases List.mem_append.mp ha with ha | ha
  ·exact RO.live q v A ro a ha
  ·exact s.live a (r.liv.m a ha)
end
abbrev DTB:=(D->Prop)->(O->Prop)->DS->Prop
section
structure EB (K:PySem.W.Frag) (F:Fx) (M:List Addr) (H:Hp) (Q:D->Prop) (L:O->Prop) (D:Ends):Prop where
 rt:∀ M' H' σ' ρ' d v,Mv K F.pp M H M' H'->RSt K F M' H' σ' ρ'->Rep K F.pp M' H' d v->Q d->D.rt v H'
 nx:∀ M' H' σ' ρ',Mv K F.pp M H M' H'->RSt K F M' H' σ' ρ'->Q .non->D.nx σ' H'
 nw:∀ M' H' q v A,SameP K F.pp F.H0 H'->(∀ a∈F.M0,a∈M')->A.Nodup->(∀ a∈A,a∈M' /\ F.H0 a=none /\ F.pp≠some a)->RO K F.pp M' H' q v A->L q->D.rt v H'
theorem EB.mv {K:PySem.W.Frag} {F:Fx} {M M1:List Addr} {H H1:Hp} {Q:DL.D->Prop} {L:O->Prop} {D:Ends} (o:EB K F M H Q L D) (m:Mv K F.pp M H M1 H1):EB K F M1 H1 Q L D :=
 ⟨fun _ _ _ _ _ _ m'=>o.rt _ _ _ _ _ _ (m.trans m'),fun _ _ _ _ m'=>o.nx _ _ _ _ (m.trans m'),o.nw⟩
variable {X:Cx} {st:Stmt} {rest:List Stmt} {t:DTS} {u:DTB} {e:Expr} {te:DE} {pos:Pos}
end
section
variable {X:Cx}
omit [Frm] in
theorem atI_nat {α:Type} {xs:List α} {n:Nat} {x:α} (h:xs[n]? = some x):atI xs (n:Int)=some x:=by
 have hn:n < xs.length:=(List.getElem?_eq_some_iff.mp h).1
 unfold atI ixN
 rw [if_pos (by omega),if_pos (by omega)]
 simpa using h
end
end DL
namespace L2
open PySem PySem.Spec PyProof.Rows
section
variable {X:Cx}
end
end L2
namespace DL
open PySem PySem.Spec L2
open PyProof.Rows hiding St
variable [TB]
variable [Frm]
section
variable {X:Cx}
end
section
variable {X:Cx}
def isTupO:Sl->Prop
 | .obj (.tup _)=>True
 | _=>False
omit [Frm] in
theorem ROs.snoc {K:PySem.W.Frag} {pp:Option Addr} {M:List Addr} {H:Hp} {d:D} {v:V} (h:Rep K pp M H d v):∀ {os:List O} {xs:List V} {A:List Addr},ROs K pp M H os xs A->ROs K pp M H (os++[.val d]) (xs++[v]) A
 | [],xs,A,q=>by
  simp only [ROs] at q
  obtain ⟨rfl,rfl⟩:=q
  simp only [List.nil_append,ROs,RO]
  exact ⟨v,[],[],[],rfl,rfl,⟨rfl,h⟩,rfl,rfl⟩
 | o::os,xs,A,q=>by
  simp only [ROs] at q
  obtain ⟨x,r,B,C,rfl,rfl,h1,h2⟩:=q
  simp only [List.cons_append,ROs]
  exact ⟨x,r++[v],B,C,rfl,rfl,h1,ROs.snoc h h2⟩
omit [Frm] in
theorem ROs.length {K:PySem.W.Frag} {pp:Option Addr} {M:List Addr} {H:Hp}:∀ {os:List O} {xs:List V} {A:List Addr},ROs K pp M H os xs A->os.length=xs.length
 | [],xs,A,q=>by simp only [ROs] at q; rw [q.1]; rfl
 | o::os,xs,A,q=>by
  simp only [ROs] at q
  obtain ⟨x,r,B,C,rfl,rfl,h1,h2⟩:=q
  simp [ROs.length h2]
end
end DL
namespace PySem
section
variable {prog:Program} {w:World} {K:Type} [DecidableEq K] {knd:HeapKind prog w K} {A:Around} {E:Value->Shared->Prop} {z:Shared}
end
end PySem
namespace L2
open PySem PySem.Spec PyProof.Rows
section
variable {X:Cx}
end
end L2
namespace L2
open PySem PySem.Spec PyProof.Rows PySem.W
def kRun {α:Type} (c:Nat->Nat->Bool):KasT α->α
 | .ret a=>a
 | .ask i j k=>kRun c (k (c i j))
def KGood {α:Type} (N:Nat) (P:α->Prop):KasT α->Prop
 | .ret a=>P a
 | .ask i j k=>(i < N /\ j < N) /\ ∀ b,KGood N P (k b)
theorem KGood.bind {α β:Type} {N:Nat} {P:α->Prop} {R:β->Prop} {f:α->KasT β} (hf:∀ a,P a->KGood N R (f a)):∀ (t:KasT α),KGood N P t->KGood N R (t.bind f)
 | .ret a,h=>hf a h
 | .ask i j k,h=>⟨h.1,fun b=>KGood.bind hf (k b) (h.2 b)⟩
theorem KGood.end {α:Type} {N:Nat} {P:α->Prop} (c:Nat->Nat->Bool):∀ (t:KasT α),KGood N P t->P (kRun c t)
 | .ret a,h=>h
 | .ask i j k,h=>KGood.end c (k (c i j)) (h.2 _)
theorem KGood.wp {α:Type} {N:Nat} {P:α->Prop} {c:Nat->Nat->Bool} {cmp:Nat->Nat->(Bool->Shared->Prop)->Shared->Prop} {s:Shared}
  (hc:∀ i j (C:Bool->Shared->Prop),i < N->j < N->C (c i j) s->cmp i j C s):∀ (t:KasT α) (Q:α->Shared->Prop),KGood N P t->Q (kRun c t) s->t.kasWp cmp Q s
 | .ret a,Q,_,q=>q
 | .ask i j k,Q,h,q=>hc i j _ h.1.1 h.1.2 (KGood.wp hc (k (c i j)) Q (h.2 _) q)
def PmN (N:Nat) (p:Array Nat):Prop:=p.toList.Perm (List.range N)
section
variable {N:Nat} {p:Array Nat}
theorem PmN.lt (h:PmN N p) (h0:0 < N) (i:Nat):p.getD i 0 < N:=by
 by_cases hi:i < p.size
 ·have e:p.getD i 0=p[i]:=by simp [Array.getD,hi]
  have hm:p[i]∈p.toList:=Array.mem_toList_iff.mpr (Array.getElem_mem hi)
  rw [e]
  exact List.mem_range.mp (h.mem_iff.mp hm)
 ·have e:p.getD i 0=0:=by simp [Array.getD,hi]
  rw [e]
  exact h0
end
def isI (k:Key) (u:Value):Prop:=∃ i t,k = .inl i /\ u=Value.int i t
def TupI (h:Heap) (k:List Key) (v:Value):Prop:=∃ a o xs n,v = .ref a /\ h.get? a=some o /\ o.cls = .type "tuple" /\ o.data = .seq xs n /\ Paired isI k xs.toList
theorem nA {α β:Type} {R:α->β->Prop} {xs:List α} {ys:List β} (h:Paired R xs ys):xs.length=ys.length:=by
 induction h with
 | nil=>rfl
 | cons _ _ ih=>simp [ih]
section
variable {prog:Program} {w:World} {A:Around} {E:Value->Shared->Prop} {s:Shared} {b fin:Bool} {Q:Bool->Shared->Prop}
end
def RawD (d:Addr) (es:Array DictEntry) (ep:Nat) (h:Heap):Prop:=∃ o,h.get? d=some o /\ o.ExactDict /\ o.data = .dict es ep
theorem RawD.type {d:Addr} {es:Array DictEntry} {ep:Nat} {s:Shared} (h:RawD d es ep s.heap):s.TypeIs (.ref d) "dict":=let ⟨o,e,x,_⟩:=h; ⟨o,e,x.1⟩
theorem RawD.keep {d:Addr} {es:Array DictEntry} {ep:Nat} {h h':Heap} (r:RawD d es ep h) (k:∀ o,h.get? d=some o->h'.get? d=some o):RawD d es ep h':=let ⟨o,e,x⟩:=r; ⟨o,k o e,x⟩
section
variable {prog:Program} {w:World} {A:Around} {E:Value->Shared->Prop} {s:Shared} {d it:Addr} {es:Array DictEntry} {ep i:Nat}
theorem xj {Q:Value->Shared->Prop} (lo:(d == sysModules)=false) (r:RawD d es ep s.heap)
  (q:Q (.ref s.heap.objs.size) { s with heap:=s.heap.push { cls:=.type "dict_keyiterator",data:=.fields #[.ref d,.int 0 0,.int es.size 0,.int ep 0] } }):wpAny (model prog w) A (pyIter (.ref d)) Q E s:=by
 have ty:=r.type
 obtain ⟨o,g1,_,g2⟩:=r
 refine wpAny_pyIter_slot ty F.slot_dict_iter (wpAny_call_entry F.slot_dict_iter ty F.entry_dict_iter ?_ (F.args_dict_iter_1 _))
 unfold Builtin.«dict.__iter__» Builtin.Dict.dictSlotNone
 refine wpAny_bind (wpAny_bind (wpAny_notOrdered_dict ty (wpAny_pure ?_)))
 unfold Builtin.Dict.showsAll
 show wpAny _ _ ((if (d == sysModules)=true then unsupported "sys.modules:all-start-up-values-wanted" else pure ()) >>= _) _ _ s
 rw [if_neg (by rw [lo]; exact Bool.false_ne_true)]
 refine wpAny_bind (wpAny_pure (wpAny_bind (wpAny_dictEntries g1 g2 (wpAny_bind (wpAny_dictEpoch g1 g2 ?_)))))
 exact wpAny_bind (wpAny_newObj_type (wpAny_pure ⟨_,rfl,"dict_keyiterator",_,⟨_,Heap.get?_push_size _ rfl,rfl⟩,F.slot_dict_keyiterator_next.lookup,q⟩))
theorem xk {n:Nat} {Q:Option Value->Shared->Prop} (hi:i < es.size) (en:es.size=n) (g:s.heap.IsKeyIter it d i n ep) (r:RawD d es ep s.heap)
  (q:∀ h',h'.IsKeyIter it d (i + 1) n ep->Heap.SameBut it s.heap h'->Q (some es[i].key) { s with heap:=h' }):wpAny (model prog w) A (pyNext (.ref it)) Q E s:=by
 subst en
 have ty:=g.typeIs
 obtain ⟨o,g1,g2,g3⟩:=g
 obtain ⟨od,r1,_,r2⟩:=r
 unfold pyNext
 refine wpAny_bind (wpAny_attempt (wpAny_callSpecial?_slot (name:=Str.ofString "__next__") ty F.slot_dict_keyiterator_next (wpAny_call_entry F.slot_dict_keyiterator_next ty F.entry_dict_keyiterator_next ?_ (F.args_dict_keyiterator_next_1 _))))
 refine wpAny_bind (wpAny_pure (wpAny_bind (wpAny_bind (wpAny_bind (wpAny_typeNameOfWhole_keyiter ty (wpAny_pure (wpAny_bind (wpAny_fieldsOf g1 g3 ?_))))))))
 simp only [show Builtin.Dict_items.ownsTuple "dict_keyiterator" = false by decide,Bool.false_eq_true,if_false]
 show wpAny _ _ (if (Value.ref d == Value.none)=true then _ else _) _ _ s
 rw [if_neg (show ¬ ((Value.ref d == Value.none)=true) from Bool.false_ne_true)]
 refine wpAny_bind (wpAny_pure (wpAny_bind (wpAny_dictEntries r1 r2 ?_)))
 rw [if_neg (by simp)]
 refine wpAny_bind (wpAny_pure (wpAny_bind (wpAny_dictEpoch r1 r2 ?_)))
 rw [if_neg (by simp)]
 refine wpAny_pure ?_
 simp only [show ¬ ((i:Int) < 0) from by omega,if_false,Int.toNat_natCast,Array.getElem?_eq_getElem hi]
 refine wpAny_bind (wpAny_bind (wpAny_typeNameOfWhole_keyiter ty (wpAny_pure (wpAny_bind (wpAny_isOneOf_keyiter ty ?_)))))
 show wpAny _ _ (setField (.ref it) 1 (rawInt ((i:Int) + 1)) >>= _) _ _ s
 refine wpAny_bind (wpAny_setField g1 g3 (by simp) ?_)
 have g':(s.heap.update it (Obj.mapFields (·.setIfInBounds 1 (rawInt ((i:Int) + 1))))).IsKeyIter it d (i + 1) es.size ep :=
  ⟨_,Heap.get?_update_self _ g1 (Obj.isFreed_of_fields (Obj.data_mapFields g3 _)),(Obj.cls_mapFields ..).trans g2,by rw [Obj.data_mapFields g3]; simp [rawInt]⟩
 refine wpAny_bind (wpAny_holding (wpAny_bind (wpAny_isOneOf_keyiter (s:={ s with heap:=s.heap.update it (Obj.mapFields (·.setIfInBounds 1 (rawInt ((i:Int) + 1)))) }) g'.typeIs ?_)))
 show wpAny _ _ (pure es[i].key) _ _ _
 exact wpAny_pure (wpAny_pure ⟨_,rfl,wpAny_pure (q _ g' (Heap.SameBut.update ..))⟩)
theorem zq {n:Nat} {Q:Option Value->Shared->Prop} (hh:A.handled=none) (hi:es.size <= i) (en:es.size=n) (g:s.heap.IsKeyIter it d i n ep) (r:RawD d es ep s.heap)
  (q:∀ h',Heap.ExtBut it s.heap h'->Q none { s with heap:=h' }):wpAny (model prog w) A (pyNext (.ref it)) Q E s:=by
 subst en
 have ty:=g.typeIs
 obtain ⟨o,g1,g2,g3⟩:=g
 obtain ⟨od,r1,_,r2⟩:=r
 unfold pyNext
 refine wpAny_bind (wpAny_attempt (wpAny_callSpecial?_slot (name:=Str.ofString "__next__") ty F.slot_dict_keyiterator_next (wpAny_call_entry F.slot_dict_keyiterator_next ty F.entry_dict_keyiterator_next ?_ (F.args_dict_keyiterator_next_1 _))))
 refine wpAny_bind (wpAny_pure (wpAny_bind (wpAny_bind (wpAny_bind (wpAny_typeNameOfWhole_keyiter ty (wpAny_pure (wpAny_bind (wpAny_fieldsOf g1 g3 ?_))))))))
 simp only [show Builtin.Dict_items.ownsTuple "dict_keyiterator" = false by decide,Bool.false_eq_true,if_false]
 show wpAny _ _ (if (Value.ref d == Value.none)=true then _ else _) _ _ s
 rw [if_neg (show ¬ ((Value.ref d == Value.none)=true) from Bool.false_ne_true)]
 refine wpAny_bind (wpAny_pure (wpAny_bind (wpAny_dictEntries r1 r2 ?_)))
 rw [if_neg (by simp)]
 refine wpAny_bind (wpAny_pure (wpAny_bind (wpAny_dictEpoch r1 r2 ?_)))
 rw [if_neg (by simp)]
 refine wpAny_pure ?_
 simp only [show ¬ ((i:Int) < 0) from by omega,if_false,Int.toNat_natCast,Array.getElem?_eq_none hi]
 refine wpAny_bind (wpAny_bind (wpAny_typeNameOfWhole_keyiter ty (wpAny_pure ?_)))
 show wpAny _ _ (setField (.ref it) 0 .none >>= _) _ _ s
 refine wpAny_bind (wpAny_setField g1 g3 (by simp) ?_)
 show wpAny _ _ (newExc (.type "StopIteration") [] >>= _) _ _ _
 refine wpAny_bind ?_
 simp only [newExc,newTuple]
 refine wpAny_bind (wpAny_newObj_type ?_ (by size_fits))
 refine wpAny_bind (m:=firstArgMember _ _) (wpAny_of_eq (a:=Value.none) (by first | rfl | (simp only [firstArgMember]; rfl)) ?_)
 refine wpAny_newObj_type ?_ (by size_fits)
 simp only [raiseNew]
 refine wpAny_bind (wpAny_handled ?_)
 rw [show A.in1.handled=none from hh]
 refine wpAny_bind (wpAny_pure (wpAny_throw ?_))
 refine wpAny_bind (wpAny_isInstance (T:="StopIteration") (b:=true) ⟨_,Heap.get?_push_size _ rfl,rfl⟩ isSubtype_stop ?_)
 exact wpAny_pure (q _ (((Heap.SameBut.update ..).extBut.push _).push _))
theorem zr (lo:(d == sysModules)=false) (es:Array DictEntry) (ep:Nat):KdlSrc prog w "dict" d d es.size (fun i v=>(es[i]?).map (·.key)=some v) (RawD d es ep) where
 type:=fun _ r=>r.type
 there:=fun _ ⟨_,e,_⟩=>⟨Heap.lt_size e,Heap.lt_size e⟩
 keep:=fun _ _ r k=>r.keep fun o e=>k d (.inl rfl) o e
 notList:=by decide
 notTuple:=by decide
 hint:=fun _ _ _ _ r q=>kdl_hint_dict r.type q
 iter:=fun A s hh r=>⟨_,fun i h=>h.IsKeyIter s.heap.objs.size d i es.size ep /\ RawD d es ep h,(fun _ _ q=>xj lo r q),{
  sub:=fun b hb=>by simp at hb; simp [hb]
  frame:=fun _ _ _ st k=>⟨st.1.at fun o e=>k _ (by simp) o e,st.2.keep fun o e=>k d (by simp) o e⟩
  item:=fun i s' Q E hi st q=>xk hi rfl st.1 st.2 fun h' g' sb=>by
   have ne:d≠s.heap.objs.size:=by
    obtain ⟨_,e,_⟩:=r
    exact Nat.ne_of_lt (Heap.lt_size e)
   refine q es[i].key h' s'.toks (by simp [hi]) ⟨g',st.2.keep fun o e=>(sb.2 d ne).trans e⟩ fun b o hb e=>?_
   have hb:b≠s.heap.objs.size:=by simpa using hb
   exact (sb.2 b hb).trans e
  done:=fun s' Q E st q=>zq hh (Nat.le_refl _) rfl st.1 st.2 fun h' eb=>q h' s'.toks fun b o hb e=>eb b o (by simpa using hb) e
  self:=fun _ _ _ _ st q=>wpAny_pyIter_keyiter st.1 q },⟨⟨_,Heap.get?_push_size _ rfl,rfl,rfl⟩,r.keep fun o e=>Heap.get?_push_of_some _ e⟩⟩
end
end L2
namespace L2
open PySem PySem.Spec PyProof.Rows PySem.W
section
variable {prog:Program} {w:World} {A:Around} {E:Value->Shared->Prop} {s:Shared}
theorem TupI.keep {h h':Heap} {k:List Key} {v:Value} {a:Addr} {xs:Array Value} {n:Nat} (t:TupI h k v) (ha:h.get? a=some (seqObj "list" xs n)) (kp:∀ b o,b≠a->h.get? b=some o->h'.get? b=some o):TupI h' k v:=by
 obtain ⟨b,o,ys,m,rfl,e,c,d,p⟩:=t
 refine ⟨b,o,ys,m,rfl,kp b o ?_ e,c,d,p⟩
 rintro rfl
 rw [ha] at e
 cases e
 simp [seqObj] at c
end
end L2
namespace L2
open PySem PySem.Spec PyProof.Rows PySem.W
section
variable {X:Cx}
def zu (H:Hp) (k:List Key) (v:V):Prop:=∃ b,v = .ref b /\ H b=some (.tup (k.map kV))
theorem vD {H:Hp}:∀ {ks:List (List Key)} {out:List Value},Paired (fun k v=>∃ b,v=Value.ref b /\ H b=some (.tup (k.map kV))) ks out->∃ bs,Paired (zu H) ks bs /\ Vals bs out
 | _,_,.nil=>⟨[],.nil,.nil⟩
 | _,_,.cons h r=>by
  obtain ⟨b,rfl,e⟩:=h
  obtain ⟨bs,h1,h2⟩:=vD r
  exact ⟨.ref b::bs,.cons ⟨b,rfl,e⟩ h1,.cons rfl h2⟩
theorem zv {H:Hp} {kvs:List (List Key×V)} {xs:List (List Key×Addr×Value)} (r:KT H kvs xs):Paired (fun k v=>∃ b,v=Value.ref b /\ H b=some (.tup (k.map kV))) (kvs.map (·.1)) (xs.map fun x=>Value.ref x.2.1):=by
 induction r with
 | nil=>exact .nil
 | @cons p q ps qs h t ih=>exact .cons ⟨q.2.1,rfl,h.2.1⟩ ih
end
end L2
namespace PySem
section
variable {prog:Program} {w:World} {A:Around} {E:Value->Shared->Prop} {s:Shared}
end
end PySem
namespace DL
open PySem PySem.Spec L2
open PyProof.Rows hiding St
variable [TB]
def BQ:HO->Prop
 | .lst _=>True
 | .dT _=>True
 | _=>False
section
variable {K:PySem.W.Frag} {pp:Option Addr} {M:List Addr} {H:Hp}
theorem Mv.writeX {l:Addr} {o u:HO} (hl:H l=some o) (ho:BQ o) (hm:l∈M) (hp:pp≠some l):Mv K pp M H M (upd H l u):=by
 refine ⟨fun a zs e=>by rw [ar (kK e hl (by rintro rfl; exact ho))]; exact e,fun a zs e n q=>⟨by rw [ar (by rintro rfl; exact n hm)]; exact e,n⟩,fun p e h=>?_,fun tb=>tb.upd hl (by rintro (⟨_,rfl⟩ | ⟨_,_,rfl⟩) <;> exact ho)⟩
 obtain ⟨a,ns,t,k,h⟩:=h
 refine ⟨a,ns,t,k,?_,?_,h.t0⟩
 ·rw [ar (by rintro rfl; exact hp e)]; exact h.lst
 ·rcases h.scr with ⟨o',e⟩ | e
  ·refine .inl ⟨o',?_⟩
   rw [ar (kK e hl (by rintro rfl; exact ho))]; exact e
  ·exact .inr e
end
def k1D:Key->D
 | .inl i=>.int i
 | .inr x=>.str x
def keyD (k:List Key):D:=.tup (k.map k1D)
theorem oj {K:PySem.W.Frag} {pp:Option Addr} {M:List Addr} {H:Hp}:∀ {k:List Key} {xs:List V},Reps K pp M H (k.map k1D) xs->xs=k.map kV
 | [],xs,h=>by simpa only [List.map_nil,Reps] using h
 | .inl i::r,xs,h=>by
  simp only [List.map_cons,k1D,Reps,Rep] at h
  obtain ⟨x,t,rfl,rfl,h⟩:=h
  rw [oj h]; rfl
 | .inr i::r,xs,h=>by
  simp only [List.map_cons,k1D,Reps,Rep] at h
  obtain ⟨x,t,rfl,rfl,h⟩:=h
  rw [oj h]; rfl
theorem om {K:PySem.W.Frag} {pp:Option Addr} {M:List Addr} {H:Hp}:∀ (k:List Key),Reps K pp M H (k.map k1D) (k.map kV)
 | []=>by simp only [List.map_nil,Reps]
 | .inl i::r=>by
  simp only [List.map_cons,k1D,kV,Reps,Rep]
  exact ⟨_,_,rfl,rfl,om r⟩
 | .inr i::r=>by
  simp only [List.map_cons,k1D,kV,Reps,Rep]
  exact ⟨_,_,rfl,rfl,om r⟩
theorem on {K:PySem.W.Frag} {pp:Option Addr} {M:List Addr} {H:Hp} {k:List Key} {v:V} (h:Rep K pp M H (keyD k) v):∃ b,v = .ref b /\ H b=some (.tup (k.map kV)):=by
 simp only [keyD,Rep] at h
 obtain ⟨b,xs,rfl,hb,h⟩:=h
 rw [oj h] at hb
 exact ⟨b,rfl,hb⟩
theorem xl {K:PySem.W.Frag} {pp:Option Addr} {M:List Addr} {H:Hp} {k:List Key} {b:Addr} (h:H b=some (.tup (k.map kV))):Rep K pp M H (keyD k) (.ref b):=by
 simp only [keyD,Rep]
 exact ⟨b,_,rfl,h,om k⟩
section
variable {α β:Type}
def kR (ps:List (List Key×α)) (k:List Key):Option α:=(ps.find? fun p=>decide (p.1=k)).map (·.2)
def putA (ps:List (List Key×α)) (k:List Key) (x:α):List (List Key×α) :=
 if (ps.any fun p=>decide (p.1=k))=true then ps.map (fun p=>if p.1=k then (p.1,x) else p) else ps++[(k,x)]
abbrev PK (R:α->β->Prop):List (List Key×α)->List (List Key×β)->Prop:=Paired fun p q=>p.1=q.1 /\ R p.2 q.2
theorem PK.find {R:α->β->Prop} {ps:List (List Key×α)} {qs:List (List Key×β)} (h:PK R ps qs) (k:List Key):(kR ps k=none /\ kR qs k=none)∨∃ x y,kR ps k=some x /\ kR qs k=some y /\ R x y:=by
 induction h with
 | nil=>exact .inl ⟨rfl,rfl⟩
 | @cons p q ps qs h _ ih =>
  unfold kR at ih ⊢
  by_cases e:p.1=k
  ·have e':q.1=k:=h.1.symm.trans e
   refine .inr ⟨p.2,q.2,?_,?_,h.2⟩
   ·rw [List.find?_cons_of_pos (by simpa using e)]; rfl
   ·rw [List.find?_cons_of_pos (by simpa using e')]; rfl
  ·have e':¬ q.1=k:=fun z=>e (h.1.trans z)
   rw [List.find?_cons_of_neg (by simpa using e),List.find?_cons_of_neg (by simpa using e')]
   exact ih
theorem PK.any {R:α->β->Prop} {ps:List (List Key×α)} {qs:List (List Key×β)} (h:PK R ps qs) (k:List Key):(ps.any fun p=>decide (p.1=k))=qs.any fun p=>decide (p.1=k):=by
 induction h with
 | nil=>rfl
 | @cons p q ps qs h _ ih=>simp only [List.any_cons,ih,h.1]
theorem PK.put {R:α->β->Prop} {ps:List (List Key×α)} {qs:List (List Key×β)} (h:PK R ps qs) (k:List Key) {x:α} {y:β} (r:R x y):PK R (putA ps k x) (putA qs k y):=by
 unfold putA
 rw [h.any k]
 by_cases e:(qs.any fun p=>decide (p.1=k))=true
 ·rw [if_pos e,if_pos e]
  clear e
  induction h with
  | nil=>exact .nil
  | @cons p q ps qs h _ ih =>
   rw [List.map_cons,List.map_cons]
   refine .cons ?_ ih
   by_cases e:p.1=k
   ·rw [if_pos e,if_pos (h.1.symm.trans e)]; exact ⟨h.1,r⟩
   ·rw [if_neg e,if_neg (fun z=>e (h.1.trans z))]; exact h
 ·rw [if_neg e,if_neg e]
  exact Paired.snoc h ⟨rfl,r⟩
theorem PK.keys {R:α->β->Prop} {ps:List (List Key×α)} {qs:List (List Key×β)} (h:PK R ps qs):ps.map (·.1)=qs.map (·.1):=by
 induction h with
 | nil=>rfl
 | cons h _ ih=>simp only [List.map_cons,ih,h.1]
end
theorem ot (kvs:List (List Key×V)) (k:List Key):kR kvs k=valV kvs k:=rfl
section
variable {K:PySem.W.Frag} {pp:Option Addr} {M M':List Addr} {H H':Hp}
theorem zw:∀ {kds:List (List Key×D)} {kvs:List (List Key×V)},kvs.map (·.1)=kds.map (·.1)->Reps K pp M H (kds.map (·.2)) (kvs.map (·.2))->PK (Rep K pp M H) kds kvs
 | [],[],_,_=>.nil
 | [],_::_,h,_=>by simp at h
 | _::_,[],h,_=>by simp at h
 | p::ps,q::qs,h,r=>by
  simp only [List.map_cons,List.cons.injEq] at h
  simp only [List.map_cons,Reps] at r
  obtain ⟨x,t,e,r1,r2⟩:=r
  injection e with e1 e2
  subst e1 e2
  exact .cons ⟨h.1.symm,r1⟩ (zw h.2 r2)
theorem zx {kds:List (List Key×D)} {kvs:List (List Key×V)} (h:PK (Rep K pp M H) kds kvs):Reps K pp M H (kds.map (·.2)) (kvs.map (·.2)):=by
 induction h with
 | nil=>simp only [List.map_nil,Reps]
 | cons h _ ih=>exact .cons h.2 ih
theorem PK.imp {α β:Type} {R S:α->β->Prop} {ps:List (List Key×α)} {qs:List (List Key×β)} (h:PK R ps qs) (f:∀ a b,R a b->S a b):PK S ps qs:=by
 induction h with
 | nil=>exact .nil
 | cons h _ ih=>exact .cons ⟨h.1,f _ _ h.2⟩ ih
def dvO (kds:List (List Key×D)):O:=.dct (kds.map (·.1)) (kds.map fun p=>.val p.2)
theorem ro_dv {kds:List (List Key×D)} {v:V} {A:List Addr}:RO K pp M H (dvO kds) v A↔∃ a kvs,v = .ref a /\ H a=some (.dT kvs) /\ A=[a] /\ PK (Rep K pp M H) kds kvs:=by
 have vals:∀ {kds:List (List Key×D)} {xs:List V} {B:List Addr},ROs K pp M H (kds.map fun p=>O.val p.2) xs B->B=[] /\ Reps K pp M H (kds.map (·.2)) xs:=by
  intro kds
  induction kds with
  | nil=>intro xs B h; simp only [List.map_nil,ROs] at h; exact ⟨h.2,by simp only [List.map_nil,Reps]; exact h.1⟩
  | cons p ps ih =>
   intro xs B h
   simp only [List.map_cons,ROs,RO] at h
   obtain ⟨x,r,B1,C,rfl,rfl,⟨rfl,h1⟩,h2⟩:=h
   obtain ⟨rfl,h3⟩:=ih h2
   exact ⟨rfl,.cons h1 h3⟩
 constructor
 ·intro h
  simp only [dvO,RO] at h
  obtain ⟨a,kvs,B,rfl,ha,ek,rfl,r⟩:=h
  obtain ⟨rfl,r2⟩:=vals r
  exact ⟨a,kvs,rfl,ha,rfl,zw ek r2⟩
 ·rintro ⟨a,kvs,rfl,ha,rfl,r⟩
  simp only [dvO,RO]
  refine ⟨a,kvs,[],rfl,ha,r.keys.symm,rfl,?_⟩
  have:=ROs.vals (zx r)
  rw [List.map_map] at this
  exact this
def PL (K:PySem.W.Frag) (pp:Option Addr) (M:List Addr) (H:Hp):List (List Key×List D)->List (List Key×V)->List Addr->Prop
 | [],kvs,ls=>kvs=[] /\ ls=[]
 | p::ps,kvs,ls=>∃ l xs r t,kvs=(p.1,.ref l)::r /\ ls=l::t /\ H l=some (.lst xs) /\ Reps K pp M H p.2 xs /\ PL K pp M H ps r t
end
end DL
namespace DL
open PySem PySem.Spec L2
open PyProof.Rows hiding St
variable [TB]
variable [Frm]
section
variable {K:PySem.W.Frag} {F:Fx} {M M':List Addr} {H H':Hp} {σ:St} {ρ:DS} {i:Nat} {q q':O}
theorem RSt.objStep (r:RSt K F M H σ ρ) (h:ρ[i]? = some (.obj q)) (m:Mv K F.pp M H M' H')
  (k:∀ v A,σ[i]? = some (some v)->A.Nodup->RO K F.pp M H q v A->(∀ a∈A,a∈M /\ F.H0 a=none /\ F.pp≠some a)->∃ A',A'.Nodup /\ RO K F.pp M' H' q' v A' /\ (∀ b∈A',b∈M' /\ F.H0 b=none /\ F.pp≠some b /\ (b∈A∨b∉M)) /\
   ∀ a,a∈M->F.pp≠some a->F.H0 a=none->a∉A->a∈M' /\ ∀ x,H a=some x->NT x->H' a=some x)
  (sub:∀ a∈F.M0,a∈M') (same:SameQ K F.pp F.H0 H') (liv:Lv0 F.pp M' H'):RSt K F M' H' σ (ρ.set i (.obj q')):=by
 obtain ⟨v,A,ho,nd,hq,hA,hoth⟩:=r.objAt h
 obtain ⟨_,_,_,_,ke⟩:=k v A ho nd hq hA
 refine ⟨by simp [r.len],fun j s o h1 h2=>?_,r.ow.step m i (fun _ _=>rfl) (fun j e=>List.getElem?_set_ne (Ne.symm e)) (fun A1 hA1 hB1=>?_),sub,same,r.old,liv,r.lk.cl m⟩
 ·by_cases e:i=j
  ·subst e
   rw [ho] at h2
   rw [bj h1]
   cases h2
   exact ⟨v,rfl⟩
  ·rw [List.getElem?_set_ne e] at h1
   have q':=r.sl j s o h1 h2
   cases s with
   | nil=>trivial
   | val d=>obtain ⟨v,e,q⟩:=q'; exact ⟨v,e,q.mv m⟩
   | pin w d=>obtain ⟨v,e,ew,q⟩:=q'; exact ⟨v,e,ew,q.mv m⟩
   | own es =>
    obtain ⟨l',zs,rfl,hm',h0',hp',hl'',hr'⟩:=q'
    have nl:l'∉A:=hoth j _ _ (Ne.symm e) h1 h2 _ ⟨es,rfl⟩ rfl
    obtain ⟨k1,k2⟩:=ke l' hm' hp' h0' nl
    exact ⟨l',zs,rfl,k1,h0',hp',k2 _ hl'' (by intro _ z; cases z),hr'.mv m⟩
   | obj q=>exact q'
 ·obtain ⟨nd1,v1,e1,hq1⟩:=hA1 _ _ h ho
  cases e1
  obtain ⟨A',nd',ro,hb,ha⟩:=k v A1 ho nd1 hq1 hB1
  refine ⟨A',fun s o e1 e2=>?_,hb,ha⟩
  rw [ho] at e2
  cases e2
  rw [bj e1]
  exact ⟨nd',v,rfl,ro⟩
theorem Lv0.upd {pp:Option Addr} {l:Addr} {o:HO} (h:Lv0 pp M H):Lv0 pp M (L2.upd H l o):=by
 refine ⟨fun a ha=>?_,fun p e=>?_⟩
 ·by_cases z:a=l
  ·subst z; rw [au]; intro z; cases z
  ·rw [ar z]; exact h.m a ha
 ·by_cases z:p=l
  ·subst z; rw [au]; intro z; cases z
  ·rw [ar z]; exact h.p p e
theorem RSt.sameW {l:Addr} {o:HO} (r:RSt K F M H σ ρ) (h0:F.H0 l=none) (m:Mv K F.pp M H M' (L2.upd H l o)):SameQ K F.pp F.H0 (L2.upd H l o):=by
 refine ⟨fun b o e n=>?_,fun p e h=>m.pen p e (r.same.pen p e h),fun b e=>?_⟩
 ·rw [ar (by rintro rfl; rw [h0] at e; cases e)]
  exact r.same.keep b o e n
 ·by_cases z:b=l
  ·subst z; rw [au]; intro z; cases z
  ·rw [ar z]; exact r.same.live b e
end
section
variable {X:Cx}
def isObj:Sl->Prop
 | .obj _=>True
 | _=>False
omit [Frm] in
theorem xm {s:Sl} (h:isObj s):∃ q,s = .obj q:=by
 cases s <;> first | exact ⟨_,rfl⟩ | exact h.elim
abbrev Ds (i:Nat):DTS:=fun E ρ=>E.nx (ρ.set i (.obj (.dct [] [])))
theorem zy {i:Nat} {y:Str} {py dpos pos:Pos} (hN:X.N.Nodup) (hi:X.N[i]? = some y) (hx:Loc X.env.scope y) (hs:swapsWith (.Dict [] [] dpos) (some (.Name y py)) pos.line X.env=pure false:=by rfl)
  (hf:X.fn y=true∨X.env.scope.names.lookup y=some .local:=by first | exact .inl rfl | exact .inr rfl | assumption):PSD X (.Assign [.Name y py] (.Dict [] [] dpos) pos) (Ds i):=by
 refine ⟨_,iy hN hi hx wO hs hf,fun {F} M H σ ρ E D rs o q p hp=>?_⟩
 have lf:=rs.liv.fresh hp
 obtain ⟨m,rs2⟩:=rs.newObj (q:=.dct [] []) (A:=[p]) (v:=.ref p) (.new hp) (by simp) (fun a ha=>by rw [List.mem_singleton.mp ha]; exact ⟨hp,lf.2⟩) (by simp only [RO,ROs]; exact ⟨p,[],[],rfl,au,rfl,rfl,rfl,rfl⟩) i
 exact o.nx _ _ _ _ m rs2 q
abbrev Dt (i:Nat) (tk te:DE):DTS:=fun E ρ=>te ρ fun d ρ1=>isObj (slot ρ1 i) /\ tk ρ1 fun dk ρ2=>∃ kds k,slot ρ2 i = .obj (dvO kds) /\ dk=keyD k /\ kds.length < sizeLine /\ E.nx (ρ2.set i (.obj (dvO (putA kds k d))))
omit [Frm] in
theorem BR {α β:Type} {R:α->β->Prop} {ps:List (List Key×α)} {qs:List (List Key×β)} (h:PK R ps qs):ps.length=qs.length:=nA h
theorem zz {i r:Nat} {o ek e:Expr} {pos' pos:Pos} {tk te:DE} (hr:Room r X.A) (ho:PE X o (tVar i)) (hk:PED X ek tk) (he:PED X e te) (hs:swapsWith e (some (.Subscript o ek pos')) pos.line X.env=pure false:=by rfl) :
  PSD X (.Assign [.Subscript o ek pos'] e pos) (Dt i tk te):=by
 obtain ⟨Tk,pk,rk⟩:=hk.run
 obtain ⟨Te,pe,re⟩:=he.run
 refine ⟨_,yO (by have:=hr.units; omega) ho pk pe hs,fun {F} M H σ ρ E D rs oo h=>re M H σ ρ _ rs (he.mono _ _ _ (fun d ρ1 h M1 H1 v m1 rs1 r1=>?_) h)⟩
 obtain ⟨q0,e0⟩:=xm h.1
 obtain ⟨v0,_,hv0,_⟩:=rs1.objAt (aZ e0 (by intro z; cases z))
 refine ⟨v0,hv0,rk M1 H1 σ ρ1 _ rs1 (hk.mono _ _ _ (fun dk ρ2 h M2 H2 y m2 rs2 r2=>?_) h.2)⟩
 obtain ⟨kds,k,es,rfl,hl,h⟩:=h
 obtain ⟨b,rfl,hb⟩:=on r2
 have g:=aZ es (by intro z; cases z)
 obtain ⟨v1,A,hv1,nd,hq,hA,_⟩:=rs2.objAt g
 rw [hv0] at hv1
 cases hv1
 obtain ⟨a,kvs,rfl,ha,rfl,pk⟩:=ro_dv.mp hq
 obtain ⟨am,a0,ap⟩:=hA a (by simp)
 have mw:Mv X.K F.pp M2 H2 M2 (upd H2 a (.dT (putK kvs k v))):=.writeX ha trivial am ap
 refine ⟨a,_,rfl,DPut.t ha hb (by rw [← BR pk]; exact hl),oo.nx M2 _ σ _ ((m1.trans m2).trans mw) ?_ h⟩
 refine rs2.objStep g mw (fun v' A' hv' _ hq' hA'=>?_) rs2.sub (rs2.sameW a0 mw) rs2.liv.upd
 rw [hv0] at hv'
 cases hv'
 obtain ⟨a',kvs',e,ha',rfl,pk'⟩:=ro_dv.mp hq'
 cases e
 rw [ha] at ha'
 cases ha'
 refine ⟨[a],by simp,ro_dv.mpr ⟨a,_,rfl,au,rfl,(pk'.imp fun x y z=>z.mv mw).put k ((r1.mv m2).mv mw)⟩,fun c hc=>?_,fun c hc _ _ hn=>⟨hc,fun x e _=>?_⟩⟩
 ·rw [List.mem_singleton.mp hc]
  exact ⟨am,a0,ap,.inl (by simp)⟩
 ·rw [ar (by rintro rfl; exact hn (by simp))]
  exact e
def BS:Sl->Prop
 | .obj (.dct _ _)=>True
 | _=>False
omit [Frm] in
theorem xo {s:Sl} (h:BS s):∃ ks os,s = .obj (.dct ks os):=by
 cases s with
 | obj q=>cases q with
  | dct ks os=>exact ⟨ks,os,rfl⟩
  | _=>exact h.elim
 | _=>exact h.elim
abbrev Du (i:Nat) (tk te:DE):DE:=fun ρ Q=>BS (slot ρ i) /\ tk ρ fun dk ρ1=>te ρ1 fun d ρ2=>∃ kds k,slot ρ2 i = .obj (dvO kds) /\ dk=keyD k /\ Q ((kR kds k).getD d) ρ2
theorem zA {i r:Nat} {o ek e:Expr} {apos cpos:Pos} {tk te:DE} (hr:Room r X.A) (ho:PE X o (tVar i)) (hk:PED X ek tk) (he:PED X e te) (m:M2 X o "get" apos ek e cpos:=by exact ⟨rfl,rfl,rfl,rfl⟩) :
  PED X (.Call (.Attribute o "get" apos) [ek,e] [] cpos) (Du i tk te):=by
 obtain ⟨Tk,pk,rk⟩:=hk.run
 obtain ⟨Te,pe,re⟩:=he.run
 refine ⟨fun ρ P P' f h=>⟨h.1,hk.mono _ _ _ (fun dk ρ1 h=>he.mono _ _ _ (fun d ρ2 ⟨kds,k,h1,h2,h3⟩=>⟨kds,k,h1,h2,f _ _ h3⟩) h) h.2⟩,_,wP (by have:=hr.units; omega) ho pk pe m,fun {F} M H σ ρ Q rs h=>?_⟩
 obtain ⟨ks,os,e0⟩:=xo h.1
 obtain ⟨v0,A0,hv0,_,hq0,_⟩:=rs.objAt (aZ e0 (by intro z; cases z))
 simp only [RO] at hq0
 obtain ⟨a,kvs0,B,rfl,ha0,_⟩:=hq0
 refine ⟨.ref a,hv0,a,rfl,.inr ⟨kvs0,.inl ha0⟩,?_⟩
 refine rk M H σ ρ _ rs (hk.mono _ _ _ (fun dk ρ1 h M1 H1 y m1 rs1 r1=>?_) h.2)
 refine re M1 H1 σ ρ1 _ rs1 (he.mono _ _ _ (fun d ρ2 h M2 H2 z m2 rs2 r2=>?_) h)
 obtain ⟨kds,k,es,ek,h9⟩:=h
 subst ek
 obtain ⟨b,rfl,hb⟩:=on (r1.mv m2)
 have g:=aZ es (by intro z; cases z)
 obtain ⟨v1,A,hv1,nd,hq,hA,_⟩:=rs2.objAt g
 rw [hv0] at hv1
 cases hv1
 obtain ⟨a',kvs,e,ha,rfl,pk⟩:=ro_dv.mp hq
 cases e
 refine ⟨_,DGet.t ha hb,h9 M2 H2 _ (m1.trans m2) rs2 ?_⟩
 rcases pk.find k with ⟨e1,e2⟩ | ⟨x,y,e1,e2,rr⟩
 ·rw [ot] at e2
  rw [e1,e2]
  exact r2
 ·rw [ot] at e2
  rw [e1,e2]
  exact rr
def gIxT:D->D->(D->Prop)->Prop:=fun x y P=>∃ (kds:List (List Key×D)) (k:List Key) (d:D),x = .dT (kds.map (·.1)) (kds.map (·.2)) /\ y=keyD k /\ kR kds k=some d /\ P d
theorem BT {r:Nat} {a b:Expr} {ta tb:DE} {pos:Pos} (hr:Room r X.A) (ha:PED X a ta) (hb:PED X b tb) (hs:NoSl b):PED X (.Subscript a b pos) (dOp gIxT ta tb):=by
 have gm:∀ x y P P',(∀ d,P d->P' d)->gIxT x y P->gIxT x y P':=fun x y P P' f ⟨kds,k,d,h1,h2,h3,h4⟩=>⟨kds,k,d,h1,h2,h3,f _ h4⟩
 obtain ⟨Ta,pa,ra⟩:=ha.run
 obtain ⟨Tb,pb,rb⟩:=hb.run
 refine ⟨jh gm ha hb,_,yN (by have:=hr.units; omega) pa pb hs,fun {F} M H σ ρ Q rs h=>?_⟩
 refine ra M H σ ρ _ rs (ha.mono _ _ _ (fun x ρ1 h M1 H1 v m1 rs1 r1=>?_) h)
 refine rb M1 H1 σ ρ1 _ rs1 (hb.mono _ _ _ (fun y ρ2 h M2 H2 u m2 rs2 r2=>?_) h)
 obtain ⟨kds,k,d,rfl,rfl,ef,h⟩:=h
 obtain ⟨b,rfl,hb⟩:=on r2
 have r1:=r1.mv m2
 simp only [Rep] at r1
 obtain ⟨c,kvs,rfl,_,_,hc,ek,rr⟩:=r1
 rcases (zw ek rr).find k with ⟨e1,e2⟩ | ⟨x,y,e1,e2,rxy⟩
 ·rw [ef] at e1; cases e1
 ·rw [ef] at e1
  cases e1
  rw [ot] at e2
  exact ⟨c,y,rfl,e2 ▸ DGet.t hc hb,h M2 H2 y (m1.trans m2) rs2 rxy⟩
omit [Frm] in
theorem vE {K:PySem.W.Frag} {pp:Option Addr} {M:List Addr} {H:Hp} {ks:List (List Key)} {bs:List V} (h:Paired (zu H) ks bs):Reps K pp M H (ks.map keyD) bs:=by
 induction h with
 | nil=>simp only [List.map_nil,Reps]
 | cons h _ ih =>
  obtain ⟨b,rfl,hb⟩:=h
  exact .cons (xl hb) ih
end
end DL
namespace L2
open PySem PySem.Spec PyProof.Rows
section
variable {X:Cx}
end
end L2
namespace DL
open PySem PySem.Spec L2
open PyProof.Rows hiding St
variable [TB]
variable [Frm]
section
variable {X:Cx}
end
section
variable {K:PySem.W.Frag} {pp:Option Addr} {M M':List Addr} {H H':Hp}
omit [Frm] in
theorem PL.mv (m:Mv K pp M H M' H'):∀ {kls:List (List Key×List D)} {kvs:List (List Key×V)} {ls:List Addr},(∀ b∈ls,∀ o,H b=some o->H' b=some o)->PL K pp M H kls kvs ls->PL K pp M' H' kls kvs ls
 | [],kvs,ls,_,h=>h
 | p::ps,kvs,ls,kp,h=>by
  obtain ⟨l,xs,r,t,rfl,rfl,hl,h1,h2⟩:=h
  exact ⟨l,xs,r,t,rfl,rfl,kp l List.mem_cons_self _ hl,h1.mv m,PL.mv m (fun b hb=>kp b (List.mem_cons_of_mem _ hb)) h2⟩
omit [Frm] in
theorem PL.snoc {k:List Key} {es:List D} {l:Addr} {xs:List V} (hl:H l=some (.lst xs)) (hr:Reps K pp M H es xs):∀ {kls:List (List Key×List D)} {kvs:List (List Key×V)} {ls:List Addr},PL K pp M H kls kvs ls->PL K pp M H (kls++[(k,es)]) (kvs++[(k,.ref l)]) (ls++[l])
 | [],kvs,ls,h=>by
  obtain ⟨rfl,rfl⟩:=h
  exact ⟨l,xs,[],[],rfl,rfl,hl,hr,rfl,rfl⟩
 | p::ps,kvs,ls,h=>by
  obtain ⟨l',xs',r,t,rfl,rfl,hl',h1,h2⟩:=h
  exact ⟨l',xs',r++[(k,.ref l)],t++[l],rfl,rfl,hl',h1,PL.snoc hl hr h2⟩
def ud (k:List Key) (d:D):List (List Key×List D)->List (List Key×List D)
 | []=>[(k,[d])]
 | p::r=>if p.1=k then (p.1,p.2++[d])::r else p::ud k d r
omit [Frm] in
theorem PL.add (k:List Key) (d:D):∀ {kls:List (List Key×List D)} {kvs:List (List Key×V)} {ls:List Addr},PL K pp M H kls kvs ls->ls.Nodup ->
  (valV kvs k=none /\ ud k d kls=kls++[(k,[d])])∨∃ l0 xs,valV kvs k=some (.ref l0) /\ l0∈ls /\ H l0=some (.lst xs) /\ (∃ p∈kls,p.1=k /\ p.2.length=xs.length) /\
   ∀ {M':List Addr} {H':Hp} {v:V},Mv K pp M H M' H'->Rep K pp M' H' d v->H' l0=some (.lst (xs++[v]))->(∀ b∈ls,b≠l0->∀ o,H b=some o->H' b=some o)->PL K pp M' H' (ud k d kls) kvs ls
 | [],kvs,ls,h,_=>by
  obtain ⟨rfl,rfl⟩:=h
  exact .inl ⟨rfl,rfl⟩
 | p::ps,kvs,ls,h,nd=>by
  obtain ⟨l,xs,r,t,rfl,rfl,hl,h1,h2⟩:=h
  obtain ⟨n1,n2⟩:=List.nodup_cons.mp nd
  by_cases e:p.1=k
  ·refine .inr ⟨l,xs,lb (p:=(p.1,V.ref l)) e,List.mem_cons_self,hl,⟨p,List.mem_cons_self,e,h1.length⟩,fun {M' H' v} m rd hv kp=>?_⟩
   unfold ud
   rw [if_pos e]
   exact ⟨l,_,r,t,rfl,rfl,hv,(h1.mv m).append (.one rd),PL.mv m (fun b hb=>kp b (List.mem_cons_of_mem _ hb) (by rintro rfl; exact n1 hb)) h2⟩
  ·rcases PL.add k d h2 n2 with ⟨a1,a2⟩ | ⟨l0,ys,a1,a2,a3,⟨p',a4,a5⟩,f⟩
   ·refine .inl ⟨by rw [jc (p:=(p.1,V.ref l)) e]; exact a1,?_⟩
    unfold ud
    rw [if_neg e,a2]
    rfl
   ·refine .inr ⟨l0,ys,by rw [jc (p:=(p.1,V.ref l)) e]; exact a1,List.mem_cons_of_mem _ a2,a3,⟨p',List.mem_cons_of_mem _ a4,a5⟩,fun {M' H' v} m rd hv kp=>?_⟩
    unfold ud
    rw [if_neg e]
    exact ⟨l,xs,r,t,rfl,rfl,kp l List.mem_cons_self (by rintro rfl; exact n1 a2) _ hl,h1.mv m,f m rd hv fun b hb=>kp b (List.mem_cons_of_mem _ hb)⟩
end
section
variable {X:Cx}
omit [Frm] in
theorem PL.len {K:PySem.W.Frag} {pp:Option Addr} {M:List Addr} {H:Hp}:∀ {kls:List (List Key×List D)} {kvs:List (List Key×V)} {ls:List Addr},PL K pp M H kls kvs ls->kls.length=kvs.length
 | [],kvs,ls,h=>by rw [h.1]; rfl
 | p::ps,kvs,ls,h=>by
  obtain ⟨l,xs,r,t,rfl,rfl,hl,h1,h2⟩:=h
  simp [PL.len h2]
end
end DL
namespace DL
open PySem PySem.Spec L2
open PyProof.Rows hiding St
variable [TB]
variable [Frm]
section
variable {K:PySem.W.Frag} {F:Fx} {M:List Addr} {H:Hp} {σ:St} {ρ:DS} {i:Nat}
end
section
variable {X:Cx}
end
end DL
namespace DL
open PySem PySem.Spec L2
open PyProof.Rows hiding St
variable [TB]
variable [Frm] {X:Cx} {st:Stmt}
abbrev zC (k:Nat) (t:DTS):DTS:=fun E ρ=>∃ ds,slot ρ k = .own ds /\ t E (ρ.set k (.val (.lst ds)))
theorem vF {k:Nat} {t:DTS} (h:PSD X st t):PSD X st (zC k t):=by
 obtain ⟨T,p,r⟩:=h
 refine ⟨T,p,fun {F} M H σ ρ E D rs o q=>?_⟩
 obtain ⟨ds,e,q⟩:=q
 obtain ⟨M',v,_,m,rs',_⟩:=rs.freeze (aZ e (fun z=>by cases z))
 exact r M' H σ _ E D rs' ⟨fun M1 H1 σ1 ρ1 m1 r1 q=>o.nx M1 H1 σ1 ρ1 (m.trans m1) r1 q,fun M1 H1 σ1 ρ1 m1 r1 q=>o.bk M1 H1 σ1 ρ1 (m.trans m1) r1 q,fun M1 H1 σ1 ρ1 m1 r1 q=>o.ct M1 H1 σ1 ρ1 (m.trans m1) r1 q,fun M1 H1 σ1 ρ1 d v m1 r1 rd q=>o.rt M1 H1 σ1 ρ1 d v (m.trans m1) r1 rd q⟩ q
end DL
namespace DL
open PySem PySem.Spec L2
open PyProof.Rows hiding St
variable [TB]
section
variable {P:Program} {w:World} {K:PySem.W.Frag} {mg:Str->Option Value} {base:Heap} {k:Nat} {f:Addr} {fd:FuncData} {ps:List Str} {n:Nat}
theorem MonoE.or {g1 g2:DSpE} (m1:MonoE g1) (m2:MonoE g2):MonoE fun ds Q W=>g1 ds Q W∨g2 ds Q W:=fun ds P P' W W' f fw h=>h.imp (m1 ds P P' W W' f fw) (m2 ds P P' W W' f fw)
end
end DL
namespace DL
open PySem PySem.Spec L2
open PyProof.Rows hiding St
variable [TB]
section
variable {X:Cx}
end
end DL
namespace L2
open PySem PySem.Spec PyProof.Rows PySem.W
structure StrO (N:Nat) (c:Nat->Nat->Bool):Prop where
 tr:∀ i j k,i < N->j < N->k < N->c i j=true->c j k=true->c i k=true
 as:∀ i j,i < N->j < N->c i j=true->c j i=false
 to:∀ i j,i < N->j < N->i≠j->c i j=false->c j i=true
section
variable {N:Nat} {c:Nat->Nat->Bool} {p:Array Nat}
theorem PmN.size (h:PmN N p):p.size=N:=by
 have:=h.length_eq
 simpa using this
theorem PmN.ne (h:PmN N p) {i j:Nat} (hi:i < N) (hj:j < N) (e:i≠j):p.getD i 0≠p.getD j 0:=by
 have nd:p.toList.Nodup:=h.nodup_iff.mpr List.nodup_range
 have s:=h.size
 have e1:p.getD i 0=p.toList[i]'(by simpa [s] using hi):=by simp [Array.getD,s,hi]
 have e2:p.getD j 0=p.toList[j]'(by simpa [s] using hj):=by simp [Array.getD,s,hj]
 rw [e1,e2]
 intro z
 exact e ((List.getElem_inj nd).mp z)
def Asc (c:Nat->Nat->Bool) (p:Array Nat) (n:Nat):Prop:=∀ i j,i < j->j < n->c (p.getD i 0) (p.getD j 0)=true
def Dsc (c:Nat->Nat->Bool) (p:Array Nat) (n:Nat):Prop:=∀ i j,i < j->j < n->c (p.getD j 0) (p.getD i 0)=true
theorem Asc.step (O:StrO N c) (h:PmN N p) {n:Nat} (hn:1 <= n) (hN:n < N) (a:Asc c p n) (e:c (p.getD n 0) (p.getD (n - 1) 0)=false):Asc c p (n + 1):=by
 have h0:0 < N:=by omega
 have last:c (p.getD (n - 1) 0) (p.getD n 0)=true:=O.to _ _ (h.lt h0 _) (h.lt h0 _) (h.ne hN (by omega) (by omega)) e
 intro i j hij hj
 by_cases z:j=n
 ·subst z
  by_cases y:i=j - 1
  ·subst y; exact last
  ·exact O.tr _ _ _ (h.lt h0 _) (h.lt h0 _) (h.lt h0 _) (a i (j - 1) (by omega) (by omega)) last
 ·exact a i j hij (by omega)
theorem Dsc.step (O:StrO N c) (h:PmN N p) {n:Nat} (hn:1 <= n) (hN:n < N) (a:Dsc c p n) (last:c (p.getD n 0) (p.getD (n - 1) 0)=true):Dsc c p (n + 1):=by
 have h0:0 < N:=by omega
 intro i j hij hj
 by_cases z:j=n
 ·subst z
  by_cases y:i=j - 1
  ·subst y; exact last
  ·exact O.tr _ _ _ (h.lt h0 _) (h.lt h0 _) (h.lt h0 _) last (a i (j - 1) (by omega) (by omega))
 ·exact a i j hij (by omega)
end
end L2
namespace L2
open PySem PySem.Spec PyProof.Rows
def IterX:Bool->Heap->Addr->Addr->Nat->Prop
 | true,h,i,a,k=>h.IsTupleIter i a k
 | false,h,i,a,k=>h.IsListIter i a k
def SeqX:Bool->Heap->Addr->Array Value->Prop
 | true,h,a,xs=>h.IsTuple a xs
 | false,h,a,xs=>h.IsList a xs
theorem IterX.extBut {t:Bool} {h h':Heap} {i a b:Addr} {k:Nat} (x:IterX t h i a k) (hs:Heap.ExtBut b h h') (e:i≠b):IterX t h' i a k:=by
 cases t with
 | true=>exact Heap.IsTupleIter.extBut x hs e
 | false=>exact Heap.IsListIter.extBut x hs e
theorem IterX.at {t:Bool} {h h':Heap} {i a:Addr} {k:Nat} (x:IterX t h i a k) (e:∀ o,h.get? i=some o->h'.get? i=some o):IterX t h' i a k:=by
 cases t with
 | true=>exact Heap.IsTupleIter.at x e
 | false=>exact Heap.IsListIter.at x e
theorem IterX.cell {t:Bool} {h:Heap} {i a:Addr} {k:Nat} (x:IterX t h i a k):∃ o,h.get? i=some o /\ ∀ v,o.data ≠ .cell v:=by
 cases t with
 | true=>obtain ⟨o,e,_,d⟩:=(show h.IsTupleIter i a k from x); exact ⟨o,e,fun v z=>by rw [d] at z; cases z⟩
 | false=>obtain ⟨o,e,_,d⟩:=(show h.IsListIter i a k from x); exact ⟨o,e,fun v z=>by rw [d] at z; cases z⟩
theorem SeqX.extBut {t:Bool} {h h':Heap} {a b:Addr} {xs:Array Value} (x:SeqX t h a xs) (hs:Heap.ExtBut b h h') (e:a≠b):SeqX t h' a xs:=by
 cases t with
 | true=>exact Heap.IsTuple.extBut x hs e
 | false=>exact Heap.IsList.extBut x hs e
theorem SeqX.at {t:Bool} {h h':Heap} {a:Addr} {xs:Array Value} (x:SeqX t h a xs) (e:∀ o,h.get? a=some o->h'.get? a=some o):SeqX t h' a xs:=by
 cases t with
 | true=>obtain ⟨o,ho,r⟩:=(show h.IsTuple a xs from x); exact ⟨o,e o ho,r⟩
 | false=>exact Heap.IsList.at x e
theorem SeqX.lt {t:Bool} {h:Heap} {a:Addr} {xs:Array Value} (x:SeqX t h a xs):a < h.objs.size:=by
 cases t with
 | true=>obtain ⟨o,ho,_⟩:=(show h.IsTuple a xs from x); exact Heap.lt_size ho
 | false=>obtain ⟨o,ho,_⟩:=(show h.IsList a xs from x); exact Heap.lt_size ho
section
variable {prog:Program} {w:World} {A:Around} {E:Value->Shared->Prop} {s:Shared}
end
end L2
namespace L2
open PySem PySem.Spec PyProof.Rows
section
variable {tk:Addr->Bool}
def yd (tk:Addr->Bool) (h:Heap) (n:Nat) (src:List (Addr×Array Value)) (k c:Nat):Prop:=∀ (j:Nat) (p:Addr×Array Value),src[j]? = some p->IterX (tk p.1) h (n + j) p.1 (if j < c then k + 1 else k)
def ye (tk:Addr->Bool) (h:Heap) (n:Nat) (src:List (Addr×Array Value)):Prop:=∀ (j:Nat) (p:Addr×Array Value),src[j]? = some p->p.1 < n /\ SeqX (tk p.1) h p.1 p.2
structure ZipStM (tk:Addr->Bool) (h:Heap) (n:Nat) (src:List (Addr×Array Value)) (k:Nat):Prop where
 zip:∃ f0 f1,OwnF f0 /\ sS h (n + src.length + 2) (n + src.length) (n + src.length + 1) f0 f1
 ti:iB h (n + src.length) (itsL n src.length).toArray
 to:∃ ws:Array Value,ws.size=src.length /\ iB h (n + src.length + 1) ws
 its:yd tk h n src k 0
 ls:ye tk h n src
 ne:src≠[]
structure ZipLpM (tk:Addr->Bool) (h0:Heap) (n:Nat) (src:List (Addr×Array Value)) (k c:Nat) (h:Heap):Prop where
 ti:iB h (n + src.length) (itsL n src.length).toArray
 its:yd tk h n src k c
 ls:ye tk h n src
 kept:KeptZ n src.length h0 h
 sz:h.objs.size=h0.objs.size
section
variable {h0 h h':Heap} {n k c:Nat} {src:List (Addr×Array Value)}
theorem ZipLpM.same {a:Nat} (L:ZipLpM tk h0 n src k c h) (hs:Heap.SameBut a h h') (ha:a=n + src.length + 1∨a=n + src.length + 2):ZipLpM tk h0 n src k c h' where
 ti:=hs.extBut _ _ (by intro e; have e:(_:Nat)=(_:Nat):=e; omega) L.ti
 its:=fun j p hj=>(L.its j p hj).extBut hs.extBut (by have:=rH hj; intro e; have e:(_:Nat)=(_:Nat):=e; omega)
 ls:=fun j p hj=>⟨(L.ls j p hj).1,(L.ls j p hj).2.extBut hs.extBut (Nat.ne_of_lt (Nat.lt_of_lt_of_le (L.ls j p hj).1 (show n <= a by omega)))⟩
 kept:=fun b o hb e=>hs.extBut _ _ (by intro e; have e:(_:Nat)=(_:Nat):=e; omega) (L.kept b o hb e)
 sz:=hs.1.trans L.sz
theorem ZipLpM.next {p:Addr×Array Value} (L:ZipLpM tk h0 n src k c h) (hc:src[c]? = some p) (hit:IterX (tk p.1) h' (n + c) p.1 (k + 1)) (hs:Heap.SameBut (n + c) h h'):ZipLpM tk h0 n src k (c + 1) h':=by
 have lt:=rH hc
 refine ⟨hs.extBut _ _ (by intro e; have e:(_:Nat)=(_:Nat):=e; omega) L.ti,fun j q hj=>?_,fun j q hj=>⟨(L.ls j q hj).1,(L.ls j q hj).2.extBut hs.extBut (Nat.ne_of_lt (Nat.lt_of_lt_of_le (L.ls j q hj).1 (Nat.le_add_right n c)))⟩,fun b o hb e=>hs.extBut _ _ (by intro e; have e:(_:Nat)=(_:Nat):=e; omega) (L.kept b o hb e),hs.1.trans L.sz⟩
 by_cases z:j=c
 ·subst z
  rw [hc] at hj
  cases hj
  rw [if_pos (by omega)]
  exact hit
 ·have:=(L.its j q hj).extBut hs.extBut (by intro e; have e:(_:Nat)=(_:Nat):=e; omega)
  by_cases y:j < c
  ·rw [if_pos y] at this
   rw [if_pos (by omega)]
   exact this
  ·rw [if_neg y] at this
   rw [if_neg (by omega)]
   exact this
end
section
variable {prog:Program} {w:World} {A:Around} {E:Value->Shared->Prop} {s:Shared}
end
def SqX (tk:Addr->Bool) (K:PySem.W.Frag) (H:Hp) (a:Addr) (xs:List V):Prop:=if tk a=true then SqT K H a xs else SqL K H a xs
theorem SqX.inj {X:Cx} {pins:List (Addr×Obj)} {σ:St} {H:Hp} {s:Shared} (I:Inv X pins σ H s) {a:Addr} {xs ys:List V} (h1:SqX tk X.K H a xs) (h2:SqX tk X.K H a ys):xs=ys:=by
 unfold SqX at h1 h2
 cases e:tk a with
 | true=>rw [if_pos e] at h1 h2; exact I.tuple_inj h1 h2
 | false=>rw [if_neg (by rw [e]; intro z; cases z)] at h1 h2; exact I.list_inj h1 h2
theorem SqX.at {X:Cx} {pins:List (Addr×Obj)} {σ:St} {H:Hp} {s:Shared} (I:Inv X pins σ H s) {a:Addr} {xs:List V} (h:SqX tk X.K H a xs):∃ its:List Value,Vals xs its /\ SeqX (tk a) s.heap a its.toArray /\ xs.length <= sizeLine:=by
 unfold SqX at h
 cases e:tk a with
 | true =>
  rw [if_pos e] at h
  obtain ⟨its,rv,p,hz⟩:=I.tuple h
  exact ⟨its,rv,p,hz⟩
 | false =>
  rw [if_neg (by rw [e]; intro z; cases z)] at h
  obtain ⟨its,rv,p,hz⟩:=I.list h
  exact ⟨its,rv,p.isList,hz⟩
abbrev itO (t:Bool) (l:Addr):Obj:={ cls:=.type (match t with | true=>"tuple_iterator" | false=>"list_iterator"),data:=.fields #[.ref l,.int 0 0] }
theorem SeqX.push {t:Bool} {h:Heap} {a:Addr} {xs:Array Value} (x:SeqX t h a xs) (o:Obj):SeqX t (h.push o) a xs:=x.at fun o e=>Heap.get?_push_of_some _ e
section
variable {prog:Program} {w:World} {A:Around} {E:Value->Shared->Prop} {s:Shared}
theorem IterX.new {t:Bool} {h:Heap} {i a:Addr} (e:h.get? i=some (itO t a)):IterX t h i a 0:=by
 cases t with
 | true=>exact ⟨_,e,rfl,rfl⟩
 | false=>exact ⟨_,e,rfl,rfl⟩
end
structure ZipTnM (tk:Addr->Bool) (n:Nat) (as:List Addr) (k:Nat) (h:Heap):Prop where
 zip:∃ f0 f1,OwnF f0 /\ sS h (n + as.length + 2) (n + as.length) (n + as.length + 1) f0 f1
 ti:iB h (n + as.length) (itsL n as.length).toArray
 to:∃ ws:Array Value,ws.size=as.length /\ iB h (n + as.length + 1) ws
 its:∀ (j:Nat) (a:Addr),as[j]? = some a->IterX (tk a) h (n + j) a k
theorem ZipTnM.st {n k:Nat} {as:List Addr} {h:Heap} {src:List (Addr×Array Value)} (t:ZipTnM tk n as k h) (hs:src.map (·.1)=as) (hl:∀ p∈src,SeqX (tk p.1) h p.1 p.2) (hlt:∀ a∈as,a < n) (hne:as≠[]):ZipStM tk h n src k:=by
 have hlen:src.length=as.length:=by rw [← hs,List.length_map]
 obtain ⟨z,ti,to,its⟩:=t
 have at_:∀ (j:Nat) (p:Addr×Array Value),src[j]? = some p->as[j]? = some p.1:=fun j p hp=>by rw [← hs,List.getElem?_map,hp]; rfl
 refine ⟨by rw [hlen]; exact z,by rw [hlen]; exact ti,by rw [hlen]; exact to,fun j p hp=>?_,fun j p hp=>⟨hlt p.1 (List.mem_of_getElem? (at_ j p hp)),hl p (List.mem_of_getElem? hp)⟩,fun e=>hne (by rw [← hs,e]; rfl)⟩
 rw [if_neg (Nat.not_lt_zero _)]
 exact its j p.1 (at_ j p hp)
theorem ZipStM.tn {n k:Nat} {as:List Addr} {h:Heap} {src:List (Addr×Array Value)} (z:ZipStM tk h n src k) (hs:src.map (·.1)=as):ZipTnM tk n as k h:=by
 have hlen:src.length=as.length:=by rw [← hs,List.length_map]
 refine ⟨by rw [← hlen]; exact z.zip,by rw [← hlen]; exact z.ti,by rw [← hlen]; exact z.to,fun j a ha=>?_⟩
 have hj:j < src.length:=by rw [hlen]; exact rH ha
 have hp:src[j]? = some src[j]:=by simp [hj]
 have:=z.its j _ hp
 rw [if_neg (Nat.not_lt_zero _)] at this
 have e:(src[j]).1=a:=by
  have:as[j]? = some (src[j]).1:=by rw [← hs,List.getElem?_map,hp]; rfl
  rw [ha] at this
  exact (Option.some.inj this).symm
 rw [← e]
 exact this
end
section
variable {X:Cx}
end
end L2
namespace DL
open PySem PySem.Spec PyProof.Rows L2
variable [TB]
variable [Frm]
section
variable {X:Cx}
end
end DL
namespace DL
open PySem PySem.Spec L2
open PyProof.Rows hiding St
variable [TB]
section
variable [Frm] {X:Cx}
end
end DL
namespace L2
open PySem PySem.Spec PyProof.Rows
open AutoSeq1 (wpAny_loadPart')
section
variable {prog:Program} {w:World} {A:Around} {E:Value->Shared->Prop} {s:Shared}
end
section
variable {prog:Program} {w:World} {A:Around} {E:Value->Shared->Prop} {s:Shared}
end
section
variable {X:Cx}
end
end L2
namespace DL
open PySem PySem.Spec L2
open PyProof.Rows hiding St
variable [TB]
section
variable [Frm] {X:Cx}
end
end DL
namespace DL
open PySem PySem.Spec L2
open PyProof.Rows hiding St
variable [TB]
section
variable [Frm] {X:Cx}
theorem RSt.putL {K:PySem.W.Frag} {F:Fx} {M:List Addr} {H:Hp} {σ:St} {ρ:DS} {i n:Nat} {os:List O} {d:D} {v:V} (rs:RSt K F M H σ ρ) (g:ρ[i]? = some (.obj (.lst os))) (hn:n < os.length) (rd:Rep K F.pp M H d v) :
  ∃ a xs,σ[i]? = some (some (.ref a)) /\ H a=some (.lst xs) /\ xs.length=os.length /\ Mv K F.pp M H M (upd H a (.lst (xs.set n v))) /\ RSt K F M (upd H a (.lst (xs.set n v))) σ (ρ.set i (.obj (.lst (os.set n (.val d))))):=by
 obtain ⟨v0,A,ho,nd,hq,hA,_⟩:=rs.objAt g
 have hq0:=hq
 simp only [RO] at hq
 obtain ⟨a,xs,B,rfl,ha,rfl,rx⟩:=hq
 obtain ⟨aM,a0,ap⟩:=hA a List.mem_cons_self
 have m:Mv K F.pp M H M (upd H a (.lst (xs.set n v))):=.write ha aM ap
 have len:∀ {os:List O} {xs:List V} {B:List Addr},ROs K F.pp M H os xs B->xs.length=os.length:=by
  intro os
  induction os with
  | nil=>intro xs B h; simp only [ROs] at h; rw [h.1]; rfl
  | cons o os ih=>intro xs B h; simp only [ROs] at h; obtain ⟨x,r,_,_,rfl,_,_,h⟩:=h; rw [List.length_cons,List.length_cons,ih h]
 refine ⟨a,xs,ho,ha,len rx,m,?_⟩
 have sm:SameQ K F.pp F.H0 (upd H a (.lst (xs.set n v))):=⟨fun b o e n=>by
   rw [ar (by rintro rfl; rw [a0] at e; cases e)]
   exact rs.same.keep b o e n,fun p e hp=>m.pen p e (rs.same.pen p e hp),fun b hb=>by
   by_cases z:b=a
   ·subst z; rw [au]; intro z; cases z
   ·rw [ar z]; exact rs.same.live b hb⟩
 have lv:Lv0 F.pp M (upd H a (.lst (xs.set n v))):=⟨fun b hb=>by
   by_cases z:b=a
   ·subst z; rw [au]; intro z; cases z
   ·rw [ar z]; exact rs.liv.m b hb,fun p e=>by
   by_cases z:p=a
   ·subst z; rw [au]; intro z; cases z
   ·rw [ar z]; exact rs.liv.p p e⟩
 refine rs.objStep g m (fun v1 A1 ho1 nd1 hq1 hA1=>?_) rs.sub sm lv
 rw [ho] at ho1
 cases ho1
 simp only [RO] at hq1
 obtain ⟨a',xs',B',e',ha',rfl,rx'⟩:=hq1
 cases e'
 rw [ha] at ha'
 cases ha'
 have ndB:=List.nodup_cons.mp nd1
 obtain ⟨x0,B0,e0,r0,n0,s0,f0⟩:=ROs.put n rx' ndB.2 (show os[n]? = some os[n] by simp [hn])
 obtain ⟨A2,n2,s2,r2⟩:=f0 (.val d) v [] m (fun b hb _ z e=>by rw [ar (by rintro rfl; exact ndB.1 hb)]; exact e) (by simp only [RO]; exact ⟨trivial,rd.mv m⟩) List.nodup_nil (fun b hb=>by simp at hb)
 have s2':∀ b∈A2,b∈B':=fun b hb=>(s2 b hb).elim id fun z=>by simp at z
 refine ⟨a::A2,List.nodup_cons.mpr ⟨fun z=>ndB.1 (s2' a z),n2⟩,by simp only [RO]; exact ⟨a,_,A2,rfl,au,rfl,r2⟩,fun b hb=>?_,fun b hb hp h0 hn=>⟨hb,fun x e _=>by rw [ar (by rintro rfl; exact hn List.mem_cons_self)]; exact e⟩⟩
 have hb':b∈a::B':=by
  rcases List.mem_cons.mp hb with rfl | hb
  ·exact List.mem_cons_self
  ·exact List.mem_cons_of_mem _ (s2' b hb)
 obtain ⟨b1,b2,b3⟩:=hA1 b hb'
 exact ⟨b1,b2,b3,.inl hb'⟩
end
end DL
namespace DL
open PySem PySem.Spec L2
open PyProof.Rows hiding St
variable [TB]
abbrev XI:=Addr->Addr×List (Str×V)
section
variable [Frm] {X:Cx} {xi:XI} {x:Str} {p pos np cpos:Pos} {e:Expr} {es:List Expr} {t:DA} {g:DSpE} {W:DS->Addr->Prop}
end
section
variable {xi:XI} {P:Program} {w:World} {K:PySem.W.Frag} {mg:Str->Option Value} {base:Heap} {k:Nat} {f:Addr} {fd:FuncData} {ps:List Str} {n:Nat}
end
section
variable [fr0:Frm] {xi:XI} {X:Cx} {body suite:List Stmt} {b0:Stmt} {n x:Str} {np hpos pos:Pos} {C0:Addr} {i:Nat} {tb:(DS->Addr->Prop)->DTS} {th:DTS} {K:PySem.W.Frag}
end
section
variable [Frm] {X:Cx}
end
end DL
namespace L2
open PySem PySem.Spec PyProof.Rows
section
variable {prog:Program} {w:World} {A:Around} {E:Value->Shared->Prop} {s:Shared}
end
section
variable {X:Cx}
end
end L2
namespace DL
open PySem PySem.Spec L2
open PyProof.Rows hiding St
variable [TB]
section
variable {X:Cx}
end
end DL
namespace DL
open PySem PySem.Spec L2
open PyProof.Rows hiding St
variable [TB]
section
variable [Frm] {X:Cx}
end
end DL
namespace L2
open PySem PySem.Spec PyProof.Rows
open AutoSeq1 (wpAny_loadPart')
section
variable {prog:Program} {w:World} {A:Around} {E:Value->Shared->Prop} {s:Shared}
end
section
variable {X:Cx}
end
end L2
namespace DL
open PySem PySem.Spec L2
open PyProof.Rows hiding St
variable [TB]
section
variable [Frm] {X:Cx}
end
end DL
namespace L2
open PySem PySem.Spec PyProof.Rows
section
variable {X:Cx}
end
end L2
namespace DL
open PySem PySem.Spec L2
open PyProof.Rows hiding St
variable [TB]
section
variable [Frm] {X:Cx}
end
end DL
namespace DL
open PySem PySem.Spec L2
open PyProof.Rows hiding St
variable [TB]
section
variable {X:Cx}
end
end DL
namespace L2
open PySem PySem.Spec PyProof.Rows
def cxL (P:Program) (w:World) (K:PySem.W.Frag) (mg:Str->Option Value) (base:Heap) (N:List Str) (qual:Str) (scope:Scope) (f:Addr) (cd:Value) (cl:List (Str×Addr)) (A:Around) (outer:List Env) (s:Shared) (H:Hp) (E:XK):Cx where
 prog:=P
 w:=w
 K:=K
 mg:=mg
 base:=base
 A:=A.deeper (PySem.W.envX qual scope s.heap.objs.size f cd cl)
 N:=N
 s₀:=s
 H₀:=H
 env:=PySem.W.envX qual scope s.heap.objs.size f cd cl
 outer:=outer
 stack:=PySem.W.envX qual scope s.heap.objs.size f cd cl::outer
 ex:=[]
 calm:=true
 fn:=fun _=>false
 pn:=[]
 xe:=fun e s'=>wpAny (model P w) (A.deeper (PySem.W.envX qual scope s.heap.objs.size f cd cl)) (leaving (PySem.W.envX qual scope s.heap.objs.size f cd cl) e) (fun _ s''=>CXE P w outer H s E e s'') (fun e' s''=>CXE P w outer H s E e' s'') s'
structure Cells (scope:Scope) (cl:List (Str×Addr)) (N:List Str) (vs:List V) (H:Hp) (h:Heap):Prop where
 inj:∀ x y c,cl.lookup x=some c->cl.lookup y=some c->x=y
 has:∀ x,(scope.names.lookup x=some .cell∨scope.names.lookup x=some .free)->∃ c,cl.lookup x=some c
 cell:∀ x c,cl.lookup x=some c->∃ v,h.IsCell c v
 free:∀ x c,cl.lookup x=some c->H c=none
 len:N.length=vs.length
 val:∀ (i:Nat) x v,N[i]? = some x->vs[i]? = some v->∃ u c,RelV v u /\ scope.names.lookup x=some .free /\ cl.lookup x=some c /\ h.IsCell c (some u)
section
variable {P:Program} {w:World} {K:PySem.W.Frag} {mg:Str->Option Value} {base:Heap} {N:List Str} {qual:Str} {scope:Scope} {f:Addr} {cd:Value} {cl:List (Str×Addr)} {A:Around} {outer:List Env} {s:Shared} {H:Hp} {E:XK} {vs:List V}
theorem kF {h h':Heap} {c:Addr} {v:Option Value} (k:∀ b o,h.get? b=some o->h'.get? b=some o) (x:h.IsCell c v):h'.IsCell c v:=let ⟨o,e,d⟩:=x; ⟨o,k _ _ e,d⟩
structure LamSc (params:Arguments) (scope:Scope):Prop where
 kind:scope.kind = .function
 co:scope.isCoroutine=false
 gen:scope.isGenerator=false
 noc:∀ x∈scope.names,x.2 ≠ .cell
 par:∀ name qual body cl pm cdv ct,bindArgs (PySem.W.kla_fn name qual params body scope cl pm cdv ct) ⟨[],[]⟩=pure []
end
theorem kT {pos:Pos} {a b:Int} {c cv:Value}:∀ (l:List Value),TriplesOk l->codeAmong pos (l++[rawInt a,rawInt b,c])=some cv->codeAmong pos l=some cv∨cv=c:=by
 intro l
 fun_induction TriplesOk l with
 | case1 =>
  intro _ h
  simp only [List.nil_append,codeAmong,rawInt] at h
  split at h
  ·cases h; exact .inr rfl
  ·cases h
 | case2 a' t b' u x rest ih =>
  intro h1 h
  simp only [List.cons_append,codeAmong] at h ⊢
  split at h
  ·rename_i hc; rw [if_pos hc]; exact .inl h
  ·rename_i hc; rw [if_neg hc]; exact ih h1 h
 | case3 l h1 h2=>intro h; exact h.elim
class Bm (mg:Str->Option Value) (base:Heap):Prop where
 out:∃ bm ob,mg "__builtins__" = some (.ref bm) /\ bm≠builtinsNs /\ base.get? bm=some ob /\ ob.cls = .type "module" /\ ob.dict=some builtinsNs /\ ob.data = .plain
structure LamMade (P:Addr) (qual:Str) (H H':Hp):Prop where
 keep:∀ b o,H b=some o->b≠P->H' b=some o
 tab:∃ ps more,H P=some (.tbl ps) /\ H' P=some (.tbl (ps++more)) /\ TriplesOk (ps++more).toList /\
  ∀ pos cv,codeAmong pos (ps++more).toList=some cv->codeAmong pos ps.toList=some cv∨∃ c oc u vs t,cv = .ref c /\ H' c=some (.frz oc u) /\ oc.data = .fields vs /\ vs[1]? = some (.str qual t)
abbrev frzO (o:Obj) (a:Addr):HO:=.frz o (.ext fun h=>h.get? a=some o)
theorem yf {P:Program} {w:World} {H:Hp} {h:Heap} {o:Obj} {a:Addr} (e:h.get? a=some o):ObjOk P w H h a (frzO o a):=⟨e,e,⟨_,e⟩,fun _ _ e1 e2=>e2 _ e1⟩
def vG (H:Hp) (c:Addr) (qual:Str):Prop:=∃ oc u vs t,H c=some (.frz oc u) /\ oc.data = .fields vs /\ vs[1]? = some (.str qual t)
def tLam (mg:Str->Option Value) (P:Addr) (qual:Str) (params:Arguments) (body:Expr) (scope:Scope) (clos:List (Str×Addr)) (pos:Pos):TE:=fun _ H Q =>
 ∃ ps,H P=some (.tbl ps) /\ TriplesOk ps.toList /\ (∀ cv,codeAmong pos ps.toList=some cv->∃ c,cv = .ref c /\ vG H c qual) /\
  ∀ f c' ctv H',LamMade P qual H H'->H' f=some (frzO (PySem.W.kla_obj "<lambda>" qual params body scope clos ((mg "__name__").getD .none) c' ctv) f)->vG H' c' qual->Q (.ref f) H'
section
variable {X:Cx}
theorem BU {c0 P:Addr} {params:Arguments} {body:Expr} {scope:Scope} {pos:Pos} {clos:List (Str×Addr)} {qual:Str} (bm:Bm X.mg X.base) (hc:X.env.code = .ref c0) (C:PySem.W.CodeHd X.base c0 P)
  (hq:X.env.qual ++ "<lambda>" = qual) (hcl:closureFor scope X.env=pure clos) (hdef:defaultsOf params X.env=([],[])):PE X (.Lambda params body scope pos) (tLam X.mg P qual params body scope clos pos):=by
 intro pins s σ H Q I ⟨ps,hP,ht,hg,h⟩
 have hPo:s.heap.get? P=some (PySem.W.tabObj ps):=I.hok P _ hP
 have hgs:s.heap.Ns mainGlobals X.mg:=I.mod.glob.keeps I.bk
 have hgP:mainGlobals≠P:=fun q=>by
  obtain ⟨o,es,ep,e,hd,_⟩:=hgs
  rw [q,hPo] at e; cases e; cases hd
 obtain ⟨bm,ob,b1,b2,b3,b4,b5,b6⟩:=bm.out
 have hbG:bm≠mainGlobals:=fun q=>by
  obtain ⟨o,es,ep,e,hd,_⟩:=hgs
  rw [q] at b3
  rw [I.bk _ _ b3] at e; cases e; rw [b6] at hd; cases hd
 have hbP:bm≠P:=fun q=>by
  have e:=I.bk _ _ b3
  rw [q,hPo] at e; cases e; cases b4
 have hB:s.heap.BuiltinsAt X.mg P:=⟨bm,ob,b1,b2,hbG,hbP,I.bk _ _ b3,b4,b5,b6⟩
 refine PySem.W.kla_eval hdef ?_
 rw [hq]
 -- the function object is laid
 have fin:∀ (c':Addr) (ctv:Value) (H1:Hp) (h':Heap) (tk:Nat),Inv X pins σ H1 { s with heap:=h',toks:=tk }->(∀ x,LamMade P qual H (upd H1 h'.objs.size x))->vG H1 c' qual ->
   EP X pins σ Q (.ref h'.objs.size) { s with heap:=h'.push (PySem.W.kla_obj "<lambda>" qual params body scope clos ((X.mg "__name__").getD .none) c' ctv),toks:=tk }:=fun c' ctv H1 h' tk I1 lm ch=>by
  have hn:H1 h'.objs.size=none:=I1.hok.fresh (Nat.le_refl _)
  have I2:Inv X pins σ (upd H1 h'.objs.size (frzO (PySem.W.kla_obj "<lambda>" qual params body scope clos ((X.mg "__name__").getD .none) c' ctv) h'.objs.size)) { s with heap:=h'.push (PySem.W.kla_obj "<lambda>" qual params body scope clos ((X.mg "__name__").getD .none) c' ctv),toks:=tk } :=
   I1.laid (t':=tk) (fun b u e=>Heap.get?_push_of_some _ e) (Nat.le_refl _) (yf (Heap.get?_push_size _ rfl))
  refine ⟨.ref h'.objs.size,_,I2,rfl,h _ c' ctv _ (lm _) au ?_⟩
  obtain ⟨oc,u,vs,t,e1,e2⟩:=ch
  exact ⟨oc,u,vs,t,dY hn e1,e2⟩
 cases hf:codeAmong pos ps.toList with
 | none =>
  refine PySem.W.kla_makeFunction (mg:=X.mg) hcl I.ok.glob hgs hc (C.keeps I.bk) hPo ht hf hgP hB fun c' ctv h' tk hx hge hlt hrec htb=>?_
  obtain ⟨c₂,oc,vs,t,e2,hoc,hd,hv⟩:=hrec
  cases e2
  have hcn:H c'=none:=I.hok.fresh hge
  have hcP:c'≠P:=fun q=>by rw [q,hP] at hcn; cases hcn
  generalize hps:ps ++ #[rawInt pos.line,rawInt pos.col,.ref c']=ps' at htb
  have kp:∀ b o,b≠P->s.heap.get? b=some o->h'.get? b=some o:=fun b o n e=>hx b o n e
  have hold:∀ b o,H b=some o->b≠P->upd (upd H P (.tbl ps')) c' (frzO oc c') b=some o:=fun b o e n=>by
   rw [ar (by rintro rfl; rw [hcn] at e; cases e),ar n]; exact e
  have hnew:upd (upd H P (.tbl ps')) c' (frzO oc c') P=some (.tbl ps'):=by rw [ar (Ne.symm hcP),au]
  have J:Inv X pins σ (upd (upd H P (.tbl ps')) c' (frzO oc c')) { s with heap:=h',toks:=tk }:=by
   refine I.un ⟨fun b o e n _ _=>kp b o (by rintro rfl; rw [hP] at n; cases n) e,fun b o e n _ _=>⟨o.slots,kp b o (by rintro rfl; rw [hP] at n; cases n) e⟩,fun b o e n _=>?_,fun b o e _=>?_,fun b xs e=>hold b _ e (by rintro rfl; rw [hP] at e; cases e),fun b o u e=>hold b _ e (by rintro rfl; rw [hP] at e; cases e),fun b qs e=>?_⟩ fun b o e=>?_
   ·have h1:b≠c':=Nat.ne_of_lt (Nat.lt_of_lt_of_le (Heap.lt_size e) hge)
    have h2:b≠P:=by rintro rfl; rw [hP] at n; cases n
    rw [ar h1,ar h2]; exact n
   ·by_cases z:b=P
    ·subst z; exact ⟨_,htb⟩
    ·exact ⟨o,kp b o z e⟩
   ·by_cases z:b=P
    ·subst z
     rw [hP] at e; cases e
     exact ⟨#[rawInt pos.line,rawInt pos.col,.ref c'],by rw [hnew,hps]⟩
    ·exact ⟨#[],by rw [hold b _ e z]; simp⟩
   ·by_cases z1:b=c'
    ·subst z1
     rw [au] at e; cases e
     exact yf hoc
    ·rw [ar z1] at e
     by_cases z2:b=P
     ·subst z2
      rw [au] at e; cases e
      exact htb
     ·rw [ar z2] at e
      refine (I.hok b o e).stay (fun d v hd q=>kp d v ?_ q) (fun d q=>hold d _ q (by rintro rfl; rw [hP] at q; cases q)) fun d xs q=>hold d _ q (by rintro rfl; rw [hP] at q; cases q)
      rcases hd with rfl | hd
      ·exact z2
      ·rintro rfl; rw [hP] at hd; cases hd
  have hn:upd (upd H P (.tbl ps')) c' (frzO oc c') h'.objs.size=none:=J.hok.fresh (Nat.le_refl _)
  refine fin c' ctv _ h' tk J (fun x=>⟨fun b o e n=>dY hn (hold b o e n),ps,#[rawInt pos.line,rawInt pos.col,.ref c'],hP,by rw [hps]; exact dY hn hnew,?_,fun pos' cv e=>?_⟩) ⟨oc,_,vs,t,au,hd,hv⟩
  ·rw [Array.toList_append]
   exact TriplesOk_snoc _ _ _ _ ht
  ·rw [Array.toList_append] at e
   rcases kT _ ht e with e | rfl
   ·exact .inl e
   ·exact .inr ⟨c',oc,_,vs,t,rfl,dY hn au,hd,hv⟩
 | some cv =>
  obtain ⟨c',rfl,ch⟩:=hg cv hf
  refine PySem.W.kla_makeFunctionHit (mg:=X.mg) hcl I.ok.glob hgs hc (C.keeps I.bk) hPo ht hf hB fun ctv h' tk hk hsz=>?_
  have J:Inv X pins σ H { s with heap:=h',toks:=tk }:=I.kept (t':=tk) hk
  have hn:H h'.objs.size=none:=J.hok.fresh (Nat.le_refl _)
  exact fin c' ctv H h' tk J (fun x=>⟨fun b o e _=>dY hn e,ps,#[],hP,by rw [dY hn hP]; simp,by simpa using ht,fun pos' cv e=>.inl (by simpa using e)⟩) ch
end
end L2
namespace DL
open PySem PySem.Spec L2
open PyProof.Rows hiding St
variable [TB]
section
variable {P:Program} {w:World} {K:PySem.W.Frag} {mg:Str->Option Value} {base:Heap} {N:List Str} {qual:Str} {scope:Scope} {f c':Addr} {cl:List (Str×Addr)} {A:Around} {outer:List Env} {s:Shared} {H:Hp} {E:XK} {vs:List V}
end
structure LamAt (X:Cx) (k:Nat) (fa c':Addr) (qual:Str) (params:Arguments) (body:Expr) (scope:Scope) (cl:List (Str×Addr)) (N2:List Str) (vs:List V):Prop where
 S:LamSc params scope
 room:Room (k + 1) X.A
 ob:∃ pm ctv,X.H₀ fa=some (frzO (PySem.W.kla_obj "<lambda>" qual params body scope cl pm c' ctv) fa)
 ex:X.ex=[]
 code:vG X.H₀ c' qual
 cells:Cells scope cl N2 vs X.H₀ X.s₀.heap
def zD:Sl->Option D
 | .val d=>some d
 | _=>none
end DL
namespace DL
open PySem PySem.Spec L2
open PyProof.Rows hiding St
variable [TB]
theorem vH {K:PySem.W.Frag} {pp:Option Addr} {P:Addr} {qual:Str} {H H':Hp} (h:LamMade P qual H H') (hq:TB.tb.lookup P=some qual):SameP K pp H H':=by
 obtain ⟨ps,more,hP,hP',ht,hc⟩:=h.tab
 have keep:∀ b o,H b=some o->NT o->H' b=some o:=fun b o e n=>h.keep b o e (by rintro rfl; rw [hP] at e; cases e; exact n _ rfl)
 refine ⟨⟨fun b o e n=>keep b o e n.2,fun p e ⟨a,ns,t,l,pen⟩=>⟨a,ns,t,l,keep _ _ pen.lst (by intro _ z; cases z),?_,pen.t0⟩,fun b e=>?_⟩,fun tb P' ql e=>?_⟩
 ·rcases pen.scr with ⟨o,e⟩ | e
  ·exact .inl ⟨o,keep _ _ e (by intro _ z; cases z)⟩
  ·exact .inr e
 ·by_cases z:b=P
  ·subst z; rw [hP']; intro z; cases z
  ·cases q:H b with
   | none=>exact absurd q e
   | some o=>rw [h.keep b o q z]; intro z; cases z
 ·obtain ⟨qs,e1,e2,e3⟩:=tb P' ql e
  have old:∀ pos cv,codeAmong pos qs.toList=some cv->∃ c oc u vs t,cv = .ref c /\ H' c=some (.frz oc u) /\ oc.data = .fields vs /\ vs[1]? = some (.str ql t):=fun pos cv q =>
   let ⟨c,oc,u,vs,t,f1,f2,f3⟩:=e3 pos cv q; ⟨c,oc,u,vs,t,f1,keep _ _ f2 (by intro _ z; cases z),f3⟩
  by_cases z:P'=P
  ·subst z
   rw [hq] at e; cases e
   rw [hP] at e1; cases e1
   refine ⟨_,hP',ht,fun pos cv q=>?_⟩
   rcases hc pos cv q with q | q
   ·exact old pos cv q
   ·exact q
  ·exact ⟨qs,h.keep _ _ e1 z,e2,old⟩
theorem qg [Frm] {K:PySem.W.Frag} {F:Fx} {M:List Addr} {H:Hp} {σ:St} {ρ:DS} (rs:RSt K F M H σ ρ):∀ (js:List Nat) (ds:List D),js.map (fun i=>(ρ[i]?).bind zD)=ds.map some->∃ vs,js.map (fun i=>σ[i]?)=vs.map (fun v=>some (some v)) /\ Reps K F.pp M H ds vs
 | [],[],_=>⟨[],rfl,.nil⟩
 | [],_::_,h=>by simp at h
 | _::_,[],h=>by simp at h
 | i::js,d::ds,h=>by
  simp only [List.map_cons,List.cons.injEq] at h
  obtain ⟨h1,h2⟩:=h
  obtain ⟨vs,e2,r2⟩:=qg rs js ds h2
  cases e:ρ[i]? with
  | none=>rw [e] at h1; cases h1
  | some sl =>
   rw [e] at h1
   cases sl with
   | val d =>
    cases h1
    obtain ⟨o,ho,v,e3,r⟩:=rs.at e
    subst e3
    exact ⟨v::vs,by simp only [List.map_cons,ho,e2],.cons r r2⟩
   | nil=>cases h1
   | pin v d=>cases h1
   | own d=>cases h1
   | obj d=>cases h1
structure Catcher (K:PySem.W.Frag) (mg:Str->Option Value) (cn a hn n xn:Str) (st:Stmt) (f C0:Addr) (fd:FuncData):Prop where
 F:Fun K cn cn st f fd
 m:mg cn=some (.ref f)
 b:Binds K fd [a] []
 body:∃ p1 j p2 p3 p4 p5 p6 np p7 p8 p9 hpos tpos p10 p11,ao st=[.Assign [.Name hn p1] (.Constant .none j p2) p3,.Try [.Expr (.Call (.Name a p4) [] [] p5) p6] [.ExceptHandler (some (.Name xn np)) (some n) [.Assign [.Name hn p7] (.Name n p8) p9] hpos] [] [] tpos,.Return (some (.Name hn p10)) p11]
 kind:(ad st).kind = .function
 co:(ad st).isCoroutine=false
 gen:(ad st).isGenerator=false
 nofree:∀ y∈(ad st).names,y.2 ≠ .free
 la:(ad st).names.lookup a=some .local
 lh:(ad st).names.lookup hn=some .local
 ln:(ad st).names.lookup n=some .local
 lx:(ad st).names.lookup xn=some .globalImplicit
 nd:[a,hn,n].Nodup
 mx:mg xn=some (.ref C0)
 db:(xn == ("__debug__" : Str))=false /\ (a == ("__debug__" : Str))=false /\ (a == ("__classdict__" : Str))=false /\ (hn == ("__debug__" : Str))=false /\ (hn == ("__classdict__" : Str))=false /\ (n == ("__debug__" : Str))=false /\ (n == ("__classdict__" : Str))=false
structure Ghosts (gn:List Str) (l:Nat) (scope:Scope) (l3:List Str):Prop where
 nd:(l3++gn).Nodup
 len:gn.length=l
 no:∀ x∈gn,scope.names.lookup x=none
section
variable {X:Cx} {k:Nat} {cn a hn n xn qual:Str} {st:Stmt} {f C0 fa c':Addr} {fd:FuncData} {gn N2:List Str} {params:Arguments} {body:Expr} {scope:Scope} {cl:List (Str×Addr)} {vs:List V} {ds:List D} {te:(DS->Addr->Prop)->DE}
structure LamIn (X:Cx) (scope:Scope) (cl:List (Str×Addr)) (N2:List Str) (js:List Nat):Prop where
 clo:closureFor scope X.env=pure cl
 sub:∀ x c,cl.lookup x=some c->X.env.cells.lookup x=some c
 all:∀ x,scope.names.lookup x=some .free->x∈N2
 len:N2.length=js.length
 nam:∀ (j:Nat) x,N2[j]? = some x->∃ i,js[j]? = some i /\ X.N[i]? = some x /\ X.env.kindOf x=some .cell /\ scope.names.lookup x=some .free /\ ∃ c,cl.lookup x=some c
theorem LamIn.cells {js:List Nat} (li:LamIn X scope cl N2 js) (SL:LamSc params scope) {pins:List (Addr×Obj)} {σ:St} {H:Hp} {s:Shared} (I:Inv X pins σ H s) (e:js.map (fun i=>σ[i]?)=vs.map fun v=>some (some v)):Cells scope cl N2 vs H s.heap:=by
 have hl:js.length=vs.length:=by have:=congrArg List.length e; simpa using this
 refine ⟨fun x y c h1 h2=>I.ok.inj x y c (li.sub x c h1) (li.sub y c h2),fun x h=>?_,fun x c h=>I.cell x c (li.sub x c h),fun x c h=>I.freeC x c (li.sub x c h),li.len.trans hl,fun j x v h1 h2=>?_⟩
 ·rcases h with h | h
  ·exact absurd rfl (SL.noc _ (PySem.mem_of_lookup h))
  ·obtain ⟨j,hj⟩:=List.getElem?_of_mem (li.all x h)
   obtain ⟨_,_,_,_,_,q⟩:=li.nam j x hj
   exact q
 ·obtain ⟨i,e1,e2,e3,e4,c,e5⟩:=li.nam j x h1
  have ei:σ[i]? = some (some v):=by
   have:=congrArg (fun l=>l[j]?) e
   simp only [List.getElem?_map,e1,h2,Option.map_some] at this
   exact Option.some.inj this
  obtain ⟨m,hn,hl⟩:=I.loc
  obtain ⟨u,rv,lo⟩:=hl i x v e2 ei (.inr (.inl e3))
  refine ⟨u,c,rv,e4,e5,?_⟩
  rcases lo with ⟨z,_⟩ | ⟨_,c2,e6,e7⟩
  ·rw [e3] at z; cases z
  ·have:=li.sub x c e5
   rw [e6] at this; cases this
   exact e7
end
end DL
namespace L2
open PySem PySem.Spec PyProof.Rows
theorem vI {P:Program} {w:World} {K:PySem.W.Frag} {mg mb:Str->Option Value} {CX:CXT} {k:Nat} {fa a:Addr} {fd:FuncData} {x:Str} {sp:Sp} {s₁:Shared} {vs:List Value} {ns:List Int} {tabs:List Addr}
  (KX:K.In s₁.heap) (hns:s₁.heap.Ns mainGlobals mg) (hb:s₁.heap.Ns builtinsNs mb) (hbb:∀ x:Str,x ≠ "__name__" -> mb x=bootBuiltins x) (hlim:s₁.heap.NoLimit) (hbm:Bm mg s₁.heap) (hg:s₁.gens = #[])
  (ha:s₁.heap.get? a=some { cls:=.type "list",data:=.seq vs.toArray }) (hi:IntsAre vs ns) (hl:ns.length <= sizeLine) (hr:Room k callerA)
  (hT:∀ P∈tabs,s₁.heap.get? P=some (PySem.W.tabObj #[])) (hC:∀ P∈tabs,∃ c,PySem.W.CodeHd s₁.heap c P) (hKt:∀ P∈tabs,K.lookup P=none)
  (F:∀ base:Heap,K.In base->base.Ns mainGlobals mg->Bm mg base->FnOk P w K mg base CX k fa fd [x] sp) (hbind:∀ (s:Shared) (u:Value),BindsTo s fd ⟨[u],[]⟩ [(x,u)])
  (hsp:∀ H:Hp,(∀ b,H b=none∨(∃ o xs,H b=some (.frz o (.lst xs)))∨H b=some (.tbl #[]))->(∀ P∈tabs,H P=some (.tbl #[]))->SqL K H a (ns.map V.int)->sp [.ref a] H (fun v _=>v = .bl true) fun _ _ _=>False)
  (hCX:∀ H e s',CX [] H s₁ (fun _ _ _=>False) e s'->False) :
  codeAny (model P w) callerA (.call (.ref fa) ⟨[.ref a],[]⟩) (fun r s'=>r = .ok (.ret (.bool true)) /\ OldK s₁.heap s'.heap /\ s'.os=s₁.os /\ AllBare s'.gens) s₁:=by
 have rv:=lH hi
 have lenV:=hi.length
 have aT:a∉tabs:=fun z=>by have e:=hT a z; rw [ha] at e; cases e
 have core:∀ H:Hp,(∀ b,H b=none∨(∃ o xs,H b=some (.frz o (.lst xs)))∨(H b=some (.tbl #[]) /\ b∈tabs))->(∀ P∈tabs,H P=some (.tbl #[]))->SqL K H a (ns.map V.int)->HOk P w H s₁.heap->(∀ b,H b≠none->b=a∨b∈tabs)->(H a≠none->K.lookup a=none) ->
   codeAny (model P w) callerA (.call (.ref fa) ⟨[.ref a],[]⟩) (fun r s'=>r = .ok (.ret (.bool true)) /\ OldK s₁.heap s'.heap /\ s'.os=s₁.os /\ AllBare s'.gens) s₁:=by
  intro H hO hTb hS hok hA hK
  have base_of:∀ {b:Addr} {o:Obj},s₁.heap.get? b=some o->H b=none->(hidT s₁.heap H).get? b=some o:=fun e n=>sj e n
  have noA:∀ {b:Addr} {o:Obj},s₁.heap.get? b=some o->(∀ it n,o.data ≠ .seq it n)->(∀ vs,o.data ≠ .fields vs)->H b=none:=fun {b o} e d d2=>by
   cases q:H b with
   | none=>rfl
   | some u =>
    rcases hA b (by rw [q]; simp) with e' | e'
    ·subst e'
     rw [ha] at e; cases e
     exact absurd rfl (d _ _)
    ·rw [hT b e'] at e; cases e
     exact absurd rfl (d2 _)
  have nsK:∀ {b:Addr} {m:Str->Option Value},s₁.heap.Ns b m->(hidT s₁.heap H).Ns b m:=fun {b m} ⟨o,es,ep,e,d,r⟩=>⟨o,es,ep,base_of e (noA e (fun _ _ z=>by rw [d] at z; cases z) fun _ z=>by rw [d] at z; cases z),d,r⟩
  have hKb:K.In (hidT s₁.heap H):=fun b o e=>base_of (KX b o e) (by
   cases q:H b with
   | none=>rfl
   | some u =>
    rcases hA b (by rw [q]; simp) with e' | e'
    ·subst e'
     rw [hK (by rw [q]; simp)] at e; cases e
    ·rw [hKt b e'] at e; cases e)
  have hBm:Bm mg (hidT s₁.heap H):=by
   obtain ⟨bm,ob,b1,b2,b3,b4,b5,b6⟩:=hbm.out
   exact ⟨bm,ob,b1,b2,base_of b3 (noA b3 (fun _ _ z=>by rw [b6] at z; cases z) fun _ z=>by rw [b6] at z; cases z),b4,b5,b6⟩
  have hM:Mod K mg (hidT s₁.heap H):=⟨hKb,nsK hns,⟨mb,nsK hb,hbb⟩,let ⟨mc,h1,h2⟩:=hlim; ⟨mc,nsK h1,h2⟩⟩
  have e0:Env0 P w K mg (hidT s₁.heap H) callerA [] s₁ H:=⟨rfl,hM,fun b o e=>uD e,Nat.le_of_eq (oU _ _),trivial,fun b hb=>absurd (show b∈([]:List Addr) from hb) (by simp),hok,.of_eq hg⟩
  refine codeAny_mono ((F _ hKb (nsK hns) hBm).run callerA [] s₁ H ⟨[.ref a],[]⟩ [.ref a] [.ref a] _ _ hr e0 (hbind s₁ (.ref a)) (.cons rfl .nil) (hsp H (fun b=>(hO b).imp id fun z=>z.imp id And.left) hTb hS)) fun r s' h=>?_
  cases r with
  | error e=>exact (hCX H e s' h).elim
  | ok fl =>
   cases fl with
   | next=>exact False.elim h
   | brk=>exact False.elim h
   | cont=>exact False.elim h
   | ret u =>
    obtain ⟨v,H',os,bare,un,hok',r',q⟩:=h
    have q':v = .bl true:=q
    subst q'
    obtain rfl:u=Value.bool true:=r'
    have key:∀ b o,s₁.heap.get? b=some o->s'.heap.get? b=some o∨(b∈tabs /\ ∃ more,s'.heap.get? b=some (PySem.W.tabObj more)):=fun b o e=>by
     cases q:H b with
     | none=>exact .inl (un.keep b o e q (by intro z; exact absurd (show b∈([]:List Addr) from z) (by simp)) (by simp))
     | some u =>
      rcases hO b with z | ⟨ob,xs,z⟩ | ⟨z,zt⟩
      ·rw [q] at z; cases z
      ·have z2:=un.frzs b ob _ z
       obtain ⟨e1,_⟩:=hok b _ z
       obtain ⟨e2,_⟩:=hok' b _ z2
       rw [e] at e1; cases e1
       exact .inl e2
      ·obtain ⟨more,z2⟩:=un.tbls b _ z
       exact .inr ⟨zt,_,hok' b _ z2⟩
    refine ⟨rfl,⟨fun b o e=>?_,fun b o e=>?_⟩,os,bare⟩
    ·rcases key b o e with z | ⟨zt,more,z⟩
     ·exact .inl z
     ·have e1:=hT b zt
      rw [e] at e1; cases e1
      obtain ⟨c,hc⟩:=hC b zt
      exact .inr (.inl ⟨(hc.tab e).isCodeTable,rfl,#[],more,rfl,by simpa using z⟩)
    ·rcases key b o e with z | ⟨_,more,z⟩
     ·exact ⟨_,z⟩
     ·exact ⟨_,z⟩
 have okT:∀ b,b∈tabs->∀ H:Hp,ObjOk P w H s₁.heap b (.tbl #[]):=fun b hb H=>hT b hb
 cases hk:K.lookup a with
 | some o =>
  have e:=KX a o hk
  rw [ha] at e
  cases e
  refine core (fun b=>if b∈tabs then some (.tbl #[]) else none) (fun b=>?_) (fun b hb=>if_pos hb) (.inr ⟨_,vs.toArray,_,hk,rfl,rfl,rfl,by rw [List.size_toArray,lenV]; exact hl,by simpa using rv⟩) (fun b u z=>?_) (fun b z=>?_) fun z=>?_
  ·by_cases hb:b∈tabs
   ·exact .inr (.inr ⟨if_pos hb,hb⟩)
   ·exact .inl (if_neg hb)
  ·by_cases hb:b∈tabs
   ·have z':=(if_pos hb).symm.trans z
    cases z'
    exact okT b hb _
   ·have z':=(if_neg hb).symm.trans z
    cases z'
  ·by_cases hb:b∈tabs
   ·exact .inr hb
   ·exact absurd (if_neg hb) z
  ·exact absurd (if_neg aT) z
 | none =>
  have ea:∀ b,b∈tabs->b≠a:=fun b hb e=>aT (e ▸ hb)
  refine core (fun b=>if b=a then some (.frz { cls:=.type "list",data:=.seq vs.toArray } (.lst (ns.map V.int))) else if b∈tabs then some (.tbl #[]) else none) (fun b=>?_) (fun b hb=>by show (if b=a then _ else _)=_; rw [if_neg (ea b hb),if_pos hb]) (.inl (.inr ⟨{ cls:=.type "list",data:=.seq vs.toArray },if_pos rfl⟩)) (fun b u z=>?_) (fun b z=>?_) fun _=>hk
  ·show (if b=a then _ else _)=_∨_
   by_cases hb:b=a
   ·exact .inr (.inl ⟨_,_,if_pos hb⟩)
   ·by_cases hb2:b∈tabs
    ·exact .inr (.inr ⟨by rw [if_neg hb,if_pos hb2],hb2⟩)
    ·exact .inl (by rw [if_neg hb,if_neg hb2])
  ·have z':(if b=a then some (HO.frz { cls:=.type "list",data:=.seq vs.toArray } (.lst (ns.map V.int))) else if b∈tabs then some (.tbl #[]) else none)=some u:=z
   by_cases hb:b=a
   ·rw [if_pos hb] at z'
    cases z'
    subst hb
    exact ⟨ha,by rw [List.length_map]; exact hl,vs,_,rv,ha⟩
   ·rw [if_neg hb] at z'
    by_cases hb2:b∈tabs
    ·rw [if_pos hb2] at z'
     cases z'
     exact okT b hb2 _
    ·rw [if_neg hb2] at z'; cases z'
  ·by_cases hb:b=a
   ·exact .inl hb
   ·by_cases hb2:b∈tabs
    ·exact .inr hb2
    ·exact absurd (show (if b=a then _ else if b∈tabs then _ else _)=_ by rw [if_neg hb,if_neg hb2]) z
end L2
namespace DL
open PySem PySem.Spec L2
open PyProof.Rows hiding St
theorem mi {β:Type}:∀ {l:List (Addr×β)} {a:Addr} {o:β},l.lookup a=some o->(a,o)∈l
 | [],_,_,e=>by cases e
 | (b,x)::r,a,o,e=>by
  rw [List.lookup_cons] at e
  cases hb:a == b with
  | true=>rw [hb] at e; cases e; rw [eq_of_beq hb]; exact .head _
  | false=>rw [hb] at e; exact .tail _ (mi e)
theorem zE {tb:List (Addr×Str)} (K:PySem.W.Frag) (H:Hp) (a:Addr) (ns:List Int) (h1:∀ b,H b=none∨(∃ o xs,H b=some (.frz o (.lst xs)))∨H b=some (.tbl #[])) (hT:∀ P∈tb.map (·.1),H P=some (.tbl #[])) (h:SqL K H a (ns.map V.int)) :
  @spLaw ⟨tb⟩ K [.ref a] H (fun v _=>v = .bl true) fun _ _ _=>False:=by
 refine ⟨a,ns,rfl,?_,fun P ql e=>⟨#[],hT P (List.mem_map.mpr ⟨(P,ql),mi e,rfl⟩),trivial,fun pos cv z=>by cases z⟩,fun _=>rfl⟩
 rcases h with (h | ⟨o,h⟩) | h
 ·rcases h1 a with z | ⟨o,xs,z⟩ | z
  ·rw [z] at h; cases h
  ·rw [z] at h; cases h
  ·rw [z] at h; cases h
 ·exact .inl ⟨o,h⟩
 ·exact .inr fun H'=>.inr h
theorem walk_ofT {l:PySem.W.OpenLaw} {n k:Nat} {q:Program} {loose:List Str} {XP:(Str->Option Value)->Heap->Prop} {YP:World->Heap->Prop} {d:DefRec} {K:Params->PySem.W.Frag} {x:Str} {ts:List Addr}
  (hn:l.most=some n) (hn2:n <= sizeLine) (hdf:d.params.defaults=[]) (hr:Room k callerA)
  (hY:∀ (w:World) (h:Heap),YP w h->(K w.params).In h) (hY2:∀ (w:World) (h:Heap),YP w h->∀ P∈ts,h.get? P=some (PySem.W.tabObj #[]))
  (F:∀ (w:World) (mg:Str->Option Value) (fa:Addr) (h:Heap),(K w.params).In h->h.Ns mainGlobals mg->mg d.name=some (.ref fa) ->
   ∃ (fd:FuncData) (tb:List (Addr×Str)),(∀ (s:Shared) (u:Value),BindsTo s fd ⟨[u],[]⟩ [(x,u)]) /\ (∀ q∈tb,(∃ c,PySem.W.codeHdIn (K w.params) c q.1=true) /\ q.1∈ts /\ (K w.params).lookup q.1=none) /\
    ∀ base:Heap,(K w.params).In base->base.Ns mainGlobals mg->Bm mg base->FnOk l.prog w (K w.params) mg base CX0 k fa fd [x] (@spLaw ⟨tb⟩ (K w.params))) :
  PySem.W.WalkO q loose XP YP l.row.toRowW d [] (fun f vs=>PySem.call f vs):=by
 refine Att.attach_call hn hdf fun w s₀ s₁ mg mb fa o pm cd doc a vs ns G Y ho hd hcd hmg hobj hints hlen hg=>?_
 have KX:=hY w _ Y
 obtain ⟨fd,tb,hb,ht,hF⟩:=F w mg fa _ KX G.T.g hmg
 have hm:∀ P∈tb.map (·.1),(∃ c,PySem.W.codeHdIn (K w.params) c P=true) /\ P∈ts /\ (K w.params).lookup P=none:=fun P hP=>by
  obtain ⟨q,hq,rfl⟩:=List.mem_map.mp hP
  exact ht q hq
 exact vI (tabs:=tb.map (·.1)) KX G.T.g G.T.b G.T.builtins G.T.nolimit ⟨G.T.bmain⟩ hg hobj hints (Nat.le_trans hlen hn2) hr (fun P hP=>hY2 w _ Y P (hm P hP).2.1) (fun P hP=>let ⟨c,e⟩:=(hm P hP).1; ⟨c,PySem.W.codeHd_of_K KX e⟩) (fun P hP=>(hm P hP).2.2) hF hb
  (fun H hO hT hS=>zE (K w.params) H a ns hO hT hS) fun H e s' z=>z
section
variable [TB]
theorem fnDL {P:Program} {w:World} {K:PySem.W.Frag} {mg:Str->Option Value} {base:Heap} {x qual:Str} {st:Stmt} {f:Addr} {fd:FuncData} {N ps:List Str} {k:Nat} {g:DSp} {t:DTS} (Fn:Fun K x qual st f fd) (S:FnScope N ps (ad st))
  (hb:∀ (cdv:Value) (_:cdv=fd.code) (A:Around) (outer:List Env) (s:Shared) (H:Hp) (E:XK),Room k (A.deeper (envOfC qual (ad st) s.heap.objs.size f cdv)) -> @PSsD _ Frm.free (cxOf CX0 P w K mg base N qual (ad st) f cdv A outer s H E).nox (ao st) t)
  (hg:∀ ds Q,ds.length=ps.length->g ds Q->t { nx:=fun _=>Q .non,rt:=Q } (kE N.length ds)):FnOk P w K mg base CX0 (k + 1) f fd ps (spD K ps.length g):=by
 obtain ⟨oc,od,kV,doc,pm,an,cdv,ct,osl,e,lk,hcd⟩:=Fn.ex
 have hcv:cdv=fd.code:=by rw [e]
 subst e
 refine yG lk hcd S (fun vs H Q E h=>?_) fun A outer s H vs Q E hr h=>?_
 ·obtain ⟨pp,M,ds,_,r,e,_⟩:=h
  rw [← r.length,e]
 ·obtain ⟨pp,M,ds,lv,r,e,h⟩:=h
  obtain ⟨T,p,run⟩:=hb cdv hcv A outer s H E hr
  refine ⟨T,p.nox,run M H _ _ _ _ (jn lv r trivial) ⟨fun M' H' σ' ρ' m rs q=>?_,fun _ _ _ _ _ _ q=>q,fun _ _ _ _ _ _ q=>q,fun M' H' σ' ρ' d v m rs rd q=>?_⟩ (hg ds _ e h)⟩
  ·exact q H' .non rs.sameT (by simp only [Rep])
  ·exact q H' v rs.sameT (rd.mv (.less rs.sub))
end
end DL
namespace DL
open PySem PySem.Spec L2
open PyProof.Rows hiding St
variable [TB]
end DL
namespace DL
open PySem PySem.Spec L2
open PyProof.Rows hiding St
inductive Nams (X:Cx) (scope:Scope) (cl:List (Str×Addr)):List Str->List Nat->Prop
 | nil:Nams X scope cl [] []
 | cons {x:Str} {i:Nat} {c:Addr} {xs:List Str} {is:List Nat} (hN:X.N[i]? = some x) (hk:X.env.kindOf x=some .cell) (hs:scope.names.lookup x=some .free) (hc:cl.lookup x=some c) (r:Nams X scope cl xs is):Nams X scope cl (x::xs) (i::is)
theorem Nams.len {X:Cx} {scope:Scope} {cl:List (Str×Addr)} {N2:List Str} {js:List Nat} (h:Nams X scope cl N2 js):N2.length=js.length:=by
 induction h with
 | nil=>rfl
 | cons _ _ _ _ _ ih=>simp [ih]
theorem Nams.at {X:Cx} {scope:Scope} {cl:List (Str×Addr)} {N2:List Str} {js:List Nat} (h:Nams X scope cl N2 js):∀ (j:Nat) x,N2[j]? = some x->∃ i,js[j]? = some i /\ X.N[i]? = some x /\ X.env.kindOf x=some .cell /\ scope.names.lookup x=some .free /\ ∃ c,cl.lookup x=some c:=by
 induction h with
 | nil=>intro j x h; simp at h
 | cons hN hk hs hc _ ih =>
  intro j y h
  cases j with
  | zero=>simp at h; subst h; exact ⟨_,rfl,hN,hk,hs,_,hc⟩
  | succ j =>
   obtain ⟨i,e,r⟩:=ih j y (by simpa using h)
   exact ⟨i,by simpa using e,r⟩
theorem BV {X:Cx} {scope:Scope} {cl:List (Str×Addr)} {N2:List Str} {js:List Nat} (clo:closureFor scope X.env=pure cl) (sub:∀ p∈cl,X.env.cells.lookup p.1=some p.2) (all:∀ p∈scope.names,p.2 = .free->p.1∈N2) (nam:Nams X scope cl N2 js):LamIn X scope cl N2 js :=
 ⟨clo,fun x c h=>sub (x,c) (PySem.mem_of_lookup h),fun x h=>all (x,.free) (PySem.mem_of_lookup h) rfl,nam.len,nam.at⟩
section
variable [TB]
theorem Dv {P:Program} {w:World} {K:PySem.W.Frag} {mg:Str->Option Value} {base:Heap} {st:Stmt} {f:Addr} {fd:FuncData} {N:List Str} {x:Str} {k:Nat} {t:DTS} {s1:Stmt} {rest:List Stmt} (Fn:Fun K "law" "law" st f fd) (S:FnScope N [x] (ad st)) (hs:ao st=s1::rest) (hN:2 <= N.length)
  (h1:∀ (cdv:Value) (A:Around) (outer:List Env) (s:Shared) (H:Hp) (E:XK),Room k (A.deeper (envOfC "law" (ad st) s.heap.objs.size f cdv))->PS (cxOf CX0 P w K mg base N "law" (ad st) f cdv A outer s H E).nox s1 (tAsg (AO (xV K) [] E0 (wJ (tVar 0) tNil)) (uF 1)))
  (hb:∀ (cdv:Value) (_:cdv=fd.code) (A:Around) (outer:List Env) (s:Shared) (H:Hp) (E:XK),Room k (A.deeper (envOfC "law" (ad st) s.heap.objs.size f cdv)) -> @PSsD _ Frm.free (cxOf CX0 P w K mg base N "law" (ad st) f cdv A outer s H E).nox rest t)
  (hg:t { nx:=fun _=>False,rt:=fun d=>d = .bl true } (.nil :: .val .pen::List.replicate (N.length - 2) .nil)):FnOk P w K mg base CX0 (k + 1) f fd [x] (spLaw K):=by
 obtain ⟨oc,od,kV,doc,pm,an,cdv,ct,osl,e,lk,hcd⟩:=Fn.ex
 have hcv:cdv=fd.code:=by rw [e]
 subst e
 refine yG lk hcd S (fun vs H Q E h=>?_) (fun A outer s H vs Q E hr h=>?_)
 ·obtain ⟨a,ns,rfl,_⟩:=h
  rfl
 ·suffices hh:∃ t,PSs (cxOf CX0 P w K mg base N "law" (ad st) f cdv A outer s H E).nox (ao st) t /\ t { nx:=fun _ H'=>Q .non H',rt:=Q } (L2.start N vs) H by
   obtain ⟨t,a,b⟩:=hh
   exact ⟨t,a.nox,b⟩
  obtain ⟨a,ns,rfl,hs',hT,h⟩:=h
  rw [hs]
  refine ⟨_,bY (u:=fun D σ H'=>∃ p:Addr,@RSt _ Frm.free K ⟨some p,[],H'⟩ [] H' σ (.nil :: .val .pen::List.replicate (N.length - 2) .nil) /\ ∀ H'',D.rt (.bl true) H'') (h1 cdv A outer s H E hr) ?_,?_⟩
  ·intro pins s' σ H' D I ⟨p,rs,q⟩
   obtain ⟨T,pT,run⟩:=hb cdv hcv A outer s H E hr
   refine pT pins s' σ H' D I (run [] H' σ _ { nx:=fun _=>False,rt:=fun d=>d = .bl true } D rs ⟨fun _ _ _ _ _ _ q=>q.elim,fun _ _ _ _ _ _ q=>q.elim,fun _ _ _ _ _ _ q=>q.elim,fun M2 H2 σ2 ρ2 d v _ _ rd e=>?_⟩ hg)
   subst e
   simp only [Rep] at rd
   subst rd
   exact q H2
  ·refine ⟨.ref a,?_,a,ns,rfl,hs',fun p H' hp pen sm=>⟨p,⟨?_,fun i s o e1 e2=>?_,OwF.none (fun i s e1=>?_),fun a z=>by simp at z,.refl,fun a z=>by simp at z,⟨fun a z=>by simp at z,fun q e=>?_⟩,⟨trivial,hT.of fun b o e _=>sm b o e⟩⟩,h⟩⟩
   ·simp [L2.start]
   ·simp [L2.start]; omega
   ·match i,e1 with
    | 0,e1=>simp at e1; subst e1; trivial
    | 1,e1 =>
     simp at e1
     subst e1
     have hi:1 < (L2.start N [V.ref a]).length:=by simp [L2.start]; omega
     simp [hi] at e2
     subst e2
     refine ⟨_,rfl,?_⟩
     simp only [Rep]
     exact ⟨p,rfl,rfl,a,ns,0,0,pen⟩
    | i + 2,e1 =>
     have:=List.eq_of_mem_replicate (List.mem_of_getElem? (by simpa using e1))
     subst this
     trivial
   ·have:=List.mem_of_getElem? e1
    simp at this
    rcases this with rfl | rfl | ⟨_,rfl⟩ <;> exact ⟨fun ds z=>(by cases z),fun q z=>(by cases z)⟩
   ·cases e
    rw [pen.lst]; intro z; cases z
end
end DL
namespace DL
open PySem PySem.Spec L2
open PyProof.Rows hiding St
variable [TB]
section
variable {P:Program} {w:World} {K:PySem.W.Frag} {mg:Str->Option Value} {base:Heap} {N:List Str} {qual:Str} {scope:Scope} {f c':Addr} {cl:List (Str×Addr)} {A:Around} {outer:List Env} {s:Shared} {H:Hp} {E:XK} {vs:List V}
end
section
variable {X:Cx} {k:Nat} {cn a hn n xn qual:Str} {st:Stmt} {f C0 fa c':Addr} {fd:FuncData} {gn N2:List Str} {params:Arguments} {body:Expr} {scope:Scope} {cl:List (Str×Addr)} {vs:List V} {ds:List D} {te:(DS->Addr->Prop)->DE}
end
end DL
namespace DL
open PySem PySem.Spec L2
open PyProof.Rows hiding St
variable [TB]
section
variable [Frm] {X:Cx}
end
end DL
namespace L2
open PySem PySem.Spec PyProof.Rows
section
variable {X:Cx}
end
end L2
namespace DL
open PySem PySem.Spec L2
open PyProof.Rows hiding St
variable [TB]
section
variable [Frm] {X:Cx}
end
end DL
namespace DL
open PySem PySem.Spec L2
open PyProof.Rows hiding St
variable [TB]
section
variable [Frm] {X:Cx}
end
end DL
namespace DL
open PySem PySem.Spec L2
open PyProof.Rows hiding St
variable [TB]
section
variable {K:PySem.W.Frag} {pp:Option Addr} {M M':List Addr} {H H':Hp}
end
section
variable {X:Cx}
end
section
variable [Frm] {X:Cx}
end
end DL
namespace DL
open PySem PySem.Spec L2
open PyProof.Rows hiding St
variable [TB]
def Gs (H:Hp):List (List Int)->List Addr->Prop
 | [],ls=>ls=[]
 | g::gs,ls=>∃ l r,ls=l::r /\ H l=some (.lst (g.map V.int)) /\ Gs H gs r
section
variable {K:PySem.W.Frag} {pp:Option Addr} {M M':List Addr} {H H':Hp}
theorem Gs.keep:∀ {gs:List (List Int)} {ls:List Addr},Gs H gs ls->(∀ l∈ls,∀ x,H l=some x->H' l=some x)->Gs H' gs ls
 | [],ls,h,_=>h
 | g::gs,ls,h,k=>by
  obtain ⟨l,r,rfl,hl,h⟩:=h
  exact ⟨l,r,rfl,k l List.mem_cons_self _ hl,h.keep fun b hb=>k b (List.mem_cons_of_mem _ hb)⟩
theorem Gs.snoc:∀ {gs:List (List Int)} {ls:List Addr} {g:List Int} {l:Addr},Gs H gs ls->H l=some (.lst (g.map V.int))->Gs H (gs++[g]) (ls++[l])
 | [],ls,g,l,h,hl=>by
  have h:ls=[]:=h
  subst h
  exact ⟨l,[],rfl,hl,rfl⟩
 | g'::gs,ls,g,l,h,hl=>by
  obtain ⟨l',r,rfl,hl',h⟩:=h
  exact ⟨l',r++[l],rfl,hl',h.snoc hl⟩
theorem Gs.last:∀ {gs:List (List Int)} {ls:List Addr} {g:List Int},Gs H (gs++[g]) ls->∃ r l,ls=r++[l] /\ Gs H gs r /\ H l=some (.lst (g.map V.int))
 | [],ls,g,h=>by
  obtain ⟨l,r,rfl,hl,h⟩:=h
  have h:r=[]:=h
  subst h
  exact ⟨[],l,rfl,rfl,hl⟩
 | g'::gs,ls,g,h=>by
  obtain ⟨l',r,rfl,hl',h⟩:=h
  obtain ⟨r',l,rfl,h1,h2⟩:=Gs.last h
  exact ⟨l'::r',l,rfl,⟨l',r',rfl,hl',h1⟩,h2⟩
theorem Gs.length:∀ {gs:List (List Int)} {ls:List Addr},Gs H gs ls->ls.length=gs.length
 | [],ls,h=>by have h:ls=[]:=h; subst h; rfl
 | g::gs,ls,h=>by
  obtain ⟨l,r,rfl,_,h⟩:=h
  simp [h.length]
end
section
variable [Frm] {X:Cx}
end
section
variable {X:Cx} {k:Nat}
end
end DL
namespace DL
open PySem PySem.Spec L2
open PyProof.Rows hiding St
variable [TB]
section
variable {K:PySem.W.Frag} {pp:Option Addr} {M M':List Addr} {H H' H1 H5:Hp}
theorem Mv.more {A:List Addr} (m:Mv K pp M H M H') (hA:∀ a∈A,H a=none):Mv K pp M H (A++M) H' :=
 ⟨m.tup,fun a o e n q=>⟨(m.oth a o e n q).1,fun z=>(List.mem_append.mp z).elim (fun z=>by rw [hA a z] at e; cases e) (fun z=>n z)⟩,m.pen,m.tb⟩
theorem Gs.mem:∀ {gs:List (List Int)} {ls:List Addr},Gs H gs ls->∀ l∈ls,∃ g:List Int,H l=some (.lst (g.map V.int))
 | [],ls,h,l,hl=>by have h:ls=[]:=h; subst h; simp at hl
 | g::gs,ls,h,l,hl=>by
  obtain ⟨l',r,rfl,h1,h2⟩:=h
  rcases List.mem_cons.mp hl with rfl | hl
  ·exact ⟨g,h1⟩
  ·exact h2.mem l hl
end
section
variable [Frm] {X:Cx}
end
end DL
namespace DL
open PySem PySem.Spec L2
open PyProof.Rows hiding St
variable [TB]
variable [Frm]
section
variable {K:PySem.W.Frag} {F:Fx} {pp:Option Addr} {M:List Addr} {H H1:Hp} {σ:St} {ρ:DS} {i:Nat}
omit [Frm] in
theorem ROs.len:∀ {os:List O} {xs:List V} {B:List Addr},ROs K pp M H os xs B->xs.length=os.length
 | [],xs,B,h=>by simp only [ROs] at h; rw [h.1]; rfl
 | o::os,xs,B,h=>by
  simp only [ROs] at h
  obtain ⟨x,r,_,_,rfl,_,_,h⟩:=h
  rw [List.length_cons,List.length_cons,ROs.len h]
end
section
variable {X:Cx}
end
section
variable {K:PySem.W.Frag} {F:Fx} {M:List Addr} {H:Hp} {σ:St} {ρ:DS} {i n:Nat}
end
section
variable {X:Cx}
end
section
variable {K:PySem.W.Frag} {pp:Option Addr} {M M':List Addr} {H H' H'':Hp}
def Rws (K:PySem.W.Frag) (pp:Option Addr) (M:List Addr) (H H':Hp):List (D×D×List D)->List Addr->List Addr->Prop
 | [],ts,ls=>ts=[] /\ ls=[]
 | r::rs,ts,ls=>∃ t tr l lr v1 v2 zs,ts=t::tr /\ ls=l::lr /\ H' t=some (.tup [v1,v2,.ref l]) /\ H' l=some (.lst zs) /\ Rep K pp M H r.1 v1 /\ Rep K pp M H r.2.1 v2 /\ Reps K pp M H r.2.2 zs /\ Rws K pp M H H' rs tr lr
omit [Frm] in
theorem Rws.keep:∀ {rs:List (D×D×List D)} {ts ls:List Addr},Rws K pp M H H' rs ts ls->(∀ b x,H' b=some x->b∈ts∨b∈ls->H'' b=some x)->Rws K pp M H H'' rs ts ls
 | [],ts,ls,h,_=>h
 | r::rs,ts,ls,h,k=>by
  obtain ⟨t,tr,l,lr,v1,v2,zs,rfl,rfl,h1,h2,h3,h4,h5,h6⟩:=h
  exact ⟨t,tr,l,lr,v1,v2,zs,rfl,rfl,k t _ h1 (.inl List.mem_cons_self),k l _ h2 (.inr List.mem_cons_self),h3,h4,h5,h6.keep fun b x e z=>k b x e (z.imp (List.mem_cons_of_mem _) (List.mem_cons_of_mem _))⟩
omit [Frm] in
theorem Rws.snoc {r:D×D×List D} {t l:Addr} {v1 v2:V} {zs:List V} (h1:H' t=some (.tup [v1,v2,.ref l])) (h2:H' l=some (.lst zs)) (h3:Rep K pp M H r.1 v1) (h4:Rep K pp M H r.2.1 v2) (h5:Reps K pp M H r.2.2 zs):∀ {rs:List (D×D×List D)} {ts ls:List Addr},Rws K pp M H H' rs ts ls->Rws K pp M H H' (rs++[r]) (ts++[t]) (ls++[l])
 | [],ts,ls,h=>by
  obtain ⟨rfl,rfl⟩:=h
  exact ⟨t,[],l,[],v1,v2,zs,rfl,rfl,h1,h2,h3,h4,h5,rfl,rfl⟩
 | q::rs,ts,ls,h=>by
  obtain ⟨t',tr,l',lr,w1,w2,ws,rfl,rfl,k1,k2,k3,k4,k5,k6⟩:=h
  exact ⟨t',tr++[t],l',lr++[l],w1,w2,ws,rfl,rfl,k1,k2,k3,k4,k5,Rws.snoc h1 h2 h3 h4 h5 k6⟩
omit [Frm] in
theorem Rws.live:∀ {rs:List (D×D×List D)} {ts ls:List Addr},Rws K pp M H H' rs ts ls->(∀ b,b∈ts∨b∈ls->H' b≠none) /\ ts.length=rs.length
 | [],ts,ls,h=>by
  obtain ⟨rfl,rfl⟩:=h
  exact ⟨fun b hb=>by simp at hb,rfl⟩
 | r::rs,ts,ls,h=>by
  obtain ⟨t,tr,l,lr,v1,v2,zs,rfl,rfl,h1,h2,h3,h4,h5,h6⟩:=h
  obtain ⟨k1,k2⟩:=h6.live
  refine ⟨fun b hb=>?_,by simp [k2]⟩
  rcases hb with hb | hb
  ·rcases List.mem_cons.mp hb with rfl | hb
   ·rw [h1]; intro z; cases z
   ·exact k1 b (.inl hb)
  ·rcases List.mem_cons.mp hb with rfl | hb
   ·rw [h2]; intro z; cases z
   ·exact k1 b (.inr hb)
end
section
variable {X:Cx}
end
end DL
namespace L2
open PySem PySem.Spec PyProof.Rows
section
variable {P:Program} {w:World} {K:PySem.W.Frag} {mg:Str->Option Value} {base:Heap} {N:List Str} {qual:Str} {scope:Scope} {f:Addr} {cd:Value} {cl:List (Str×Addr)} {A:Around} {outer:List Env} {s:Shared} {H:Hp} {E:XK} {vs:List V}
theorem rJ {h1:Heap} {tk:Nat} {m:Str->Option Value} {x:Str} {v:V} {u:Value} (hd:A.handled=none) (e0:Env0 P w K mg base A outer s H) (hk:scope.kind = .function) (C:Cells scope cl N vs H s.heap) (hx:scope.names.lookup x=some .local) (hm:m x=some u) (ru:RelV v u) (hn:h1.Ns s.heap.objs.size m) (kp:∀ b o,s.heap.get? b=some o->h1.get? b=some o) :
  Inv (cxL P w K mg base (x::N) qual scope f cd cl A outer s H E) [] (some v::vs.map some) H { s with heap:=h1,toks:=tk }:=by
 have noA:∀ b:Addr,b∉(cxL P w K mg base (x::N) qual scope f cd cl A outer s H E).ex:=fun b z=>absurd (show b∈([]:List Addr) from z) (by simp)
 refine ⟨⟨e0.mod,hk,rfl,rfl,Nat.le_refl _,C.inj,C.has,fun y c z _=>absurd (show false=true from z) (by simp),fun _=>hd,Around.frames_deeper e0.frames,.inr ⟨rfl,rfl⟩,fun b z=>absurd z (noA b),e0.bs,e0.bsz,fun b _ _=>noA b,fun b z=>absurd z (noA b),e0.funs,e0.frf⟩,
  rfl,e0.bare,Un.kept kp,⟨_,hn,fun i y v' h1 h2 h3=>?_⟩,fun y c h=>?_,e0.hok.fresh (Nat.le_refl _),C.free,fun p hp=>absurd (show p∈([]:List (Addr×Obj)) from hp) (by simp),e0.hok.kept kp,?_⟩
 ·cases i with
  | zero =>
   have h1:(x::N)[0]? = some y:=h1
   have e1:x=y:=by simpa using h1
   have e2:v=v':=by simpa using h2
   subst e1 e2
   exact ⟨u,ru,.inl ⟨hx,hm⟩⟩
  | succ i =>
   have h1:(x::N)[i + 1]? = some y:=h1
   have h1:N[i]? = some y:=by simpa using h1
   have h2:(vs.map some)[i]? = some (some v'):=by simpa using h2
   rw [List.getElem?_map] at h2
   cases e:vs[i]? with
   | none=>rw [e] at h2; cases h2
   | some v' =>
    rw [e] at h2
    cases h2
    obtain ⟨u,c,r,k1,k2,k3⟩:=C.val i y _ h1 e
    exact ⟨u,r,.inr ⟨.inr k1,c,k2,kF kp k3⟩⟩
 ·obtain ⟨v,z⟩:=C.cell y c h
  exact ⟨v,kF kp z⟩
 ·show (some v::vs.map some).length=(x::N).length
  rw [List.length_cons,List.length_map,List.length_cons,C.len]
structure LamSc1 (x:Str) (params:Arguments) (scope:Scope):Prop where
 kind:scope.kind = .function
 co:scope.isCoroutine=false
 gen:scope.isGenerator=false
 noc:∀ x∈scope.names,x.2 ≠ .cell
 loc:scope.names.lookup x=some .local
 par:∀ name qual body cl pm cdv ct u,bindArgs (PySem.W.kla_fn name qual params body scope cl pm cdv ct) ⟨[u],[]⟩=pure [(x,u)]
theorem xp {k:Nat} {c':Addr} {x:Str} {v:V} {u:Value} {params:Arguments} {body:Expr} {name:Str} {pm ctv:Value} {Q:VK} {T:TE} (S:LamSc1 x params scope) (hr:Room (k + 1) A) (e0:Env0 P w K mg base A outer s H)
  (ho:s.heap.get? f=some (PySem.W.kla_obj name qual params body scope cl pm c' ctv)) (hcd:s.heap.CodeRec (.ref c') qual) (C:Cells scope cl N vs H s.heap) (ru:RelV v u)
  (hb:PE (cxL P w K mg base (x::N) qual scope f (.ref c') cl A outer s H E) body T) (ht:T (some v::vs.map some) H Q) :
  codeAny (model P w) A (.call (.ref f) ⟨[u],[]⟩) (CR (CXE P w) outer P w H s Q E) s:=by
 have lim:s.heap.NoLimit:=e0.mod.nolimit.keeps fun b o e=>(e0.bs b o e).1
 refine PySem.W.kla_callFunE hr.depth ho rfl S.co S.gen rfl hcd ?_
 rw [S.par]
 refine wpAny_pure (wpAny_newFunctionEnv S.noc (fun y hy=>by simp at hy; subst hy; exact S.loc) (fun h₁ hns hsb=>⟨lim.fresh _ hsb,?_⟩) S.kind)
 have hk₁:∀ b o,s.heap.get? b=some o->h₁.get? b=some o:=fun b o e=>hsb.extBut b o (Nat.ne_of_lt (Heap.lt_size e)) (Heap.get?_push_of_some _ e)
 show codeAny _ _ (.expr body (PySem.W.envX qual scope s.heap.objs.size f (.ref c') cl)) _ _
 refine PySem.W.kla_codeExpr ?_
 have I:Inv (cxL P w K mg base (x::N) qual scope f (.ref c') cl A outer s H E) [] (some v::vs.map some) H { s with heap:=h₁,toks:=s.toks + 1 }:=rJ hr.hd e0 S.kind C S.loc (by simp) ru hns hk₁
 refine wpAny_mono (hb [] _ _ H Q I ht) (fun u s' hs=>?_) fun e s' hs=>hs
 obtain ⟨v,H',J,rv,q⟩:=hs
 exact ⟨v,H',J.os,J.bare,J.base,J.hok,rv,q⟩
end
end L2
namespace L2
open PySem PySem.Spec PyProof.Rows PySem.W
section
variable {prog:Program} {w:World} {A:Around} {E:Value->Shared->Prop} {s:Shared} {a kS:Addr} {keys:Array Value} {vs:List Value} {kz:List Int} {e e1:Nat} {P:PySem.Fin->Shared->Prop}
set_option maxHeartbeats 4000000 in
theorem sU {st:SortSt} {b:Bool} (nk:s.heap.get? kS=some (seqObj "list" keys e)) (na:s.heap.get? a=some (seqObj "list" #[] e1)) (hka:kS≠a)
  (hk:IntsAre keys.toList kz) (hlen:kz.length=vs.length) (h64:vs.length < 64) (hp:(arrOf st).Perm (keys.zip vs.toArray)) (hs:SortedTo (arrOf st) (arrOf st).size) (hfl:failedOf st=none)
  (h:∀ h' tk out c,(∀ d o,d≠kS->d≠a->s.heap.get? d=some o->h'.get? d=some o)->h'.get? a=some (seqObj "list" out c)->KskOut b kz vs out.toList->P (.done (.ret .none)) { s with heap:=h',toks:=tk }) :
  wpAny (model prog w) A (ksk_tail a b e1 (.ref kS) st) P E s:=by
 have hsz:keys.size=vs.length:=by
  have h1:=hk.length
  rw [Array.length_toList] at h1
  omega
 have hsz2:(arrOf st).size=vs.length:=by rw [hp.size_eq,Array.size_zip,hsz,List.size_toArray,Nat.min_self]
 have hout:(if b then ((arrOf st).map (·.2)).reverse else (arrOf st).map (·.2)).size=vs.length:=by
  cases b with
  | false=>simp only [Bool.false_eq_true,if_false,Array.size_map]; exact hsz2
  | true=>simp only [if_true,Array.size_reverse,Array.size_map]; exact hsz2
 have s1:=Heap.SameBut.update s.heap kS (Obj.mapSeq fun _=>(#[]:Array Value))
 have na1:(s.heap.update kS (Obj.mapSeq fun _=>(#[]:Array Value))).get? a=some (seqObj "list" #[] e1):=(s1.2 a hka.symm).trans na
 have s2:=Heap.SameBut.update (s.heap.update kS (Obj.mapSeq fun _=>(#[]:Array Value))) a (Obj.mapSeq fun _=>if b then ((arrOf st).map (·.2)).reverse else (arrOf st).map (·.2))
 obtain ⟨c2,hc2⟩:∃ c2,((s.heap.update kS (Obj.mapSeq fun _=>(#[]:Array Value))).update a (Obj.mapSeq fun _=>if b then ((arrOf st).map (·.2)).reverse else (arrOf st).map (·.2))).get? a=some (seqObj "list" (if b then ((arrOf st).map (·.2)).reverse else (arrOf st).map (·.2)) c2) :=
  ⟨_,get?_update_seq na1 fun _=>if b then ((arrOf st).map (·.2)).reverse else (arrOf st).map (·.2)⟩
 unfold ksk_tail
 try dsimp only
 refine wpAny_bind (listUpdate_at nk rfl ?_ (by rw [hsz,sizeLine_eq]; omega) (Nat.zero_le _))
 refine wpAny_bind (wpAny_letGo ?_)
 refine wpAny_bind (seqEpoch_at na1 rfl ?_)
 refine wpAny_bind (listUpdate_at na1 rfl ?_ (Nat.zero_le _) (Nat.le_trans (Nat.le_of_eq hout) (by rw [sizeLine_eq]; omega)))
 rw [hfl]
 simp only [bne_self_eq_false,Bool.false_eq_true,if_false]
 exact wpAny_pure (h _ _ _ c2 (fun d o b1 b2 e=>(s2.2 d b2).trans ((s1.2 d b1).trans e)) hc2 (ksk_out hk hp hs))
set_option maxHeartbeats 4000000 in
theorem zF (nk:s.heap.get? kS=some (seqObj "list" keys e)) (na:s.heap.get? a=some (seqObj "list" #[] e1)) (hka:kS≠a)
  (hk:IntsAre keys.toList kz) (hlen:kz.length=vs.length) (h64:vs.length < 64)
  (h:∀ h' tk out c,(∀ b o,b≠kS->b≠a->s.heap.get? b=some o->h'.get? b=some o)->h'.get? a=some (seqObj "list" out c)->KskOut false kz vs out.toList->P (.done (.ret .none)) { s with heap:=h',toks:=tk }) :
  wpAny (model prog w) A (ksk_end a false vs.toArray e1 (.ref kS) keys) P E s:=by
 have hsz:keys.size=vs.length:=by
  have h1:=hk.length
  rw [Array.length_toList] at h1
  omega
 have hzs:(keys.zip vs.toArray).size=vs.length:=by rw [Array.size_zip,hsz,List.size_toArray,Nat.min_self]
 unfold ksk_end
 try dsimp only
 simp only [Bool.false_eq_true,if_false]
 by_cases h2:vs.toArray.size < 2
 ·rw [if_pos h2,if_pos h2]
  refine wpAny_bind (wpAny_pure ?_)
  rw [StateT.run_pure]
  refine wpAny_bind (wpAny_pure ?_)
  try dsimp only
  refine sU (st:=SortSt.mk' general' (keys.zip vs.toArray) #[] 7 none) nk na hka hk hlen h64 (Array.Perm.refl _) ?_ rfl h
  intro i j hij hj
  have hj2:j < (keys.zip vs.toArray).size:=hj
  rw [hzs] at hj2
  rw [List.size_toArray] at h2
  have:i=j:=by omega
  subst this
  exact Int.le_refl _
 ·rw [if_neg h2,if_neg h2]
  rw [List.size_toArray] at h2
  rw [ksk_kind hk (by rw [hsz]; omega)]
  refine wpAny_bind (wpAny_pure ?_)
  refine wpAny_bind (wpAny_mono (wpS_sortRuns (a₀:=keys.zip vs.toArray) (st:=SortSt.mk' oneType' (keys.zip vs.toArray) #[] 7 none)
   (Q:=fun _ st'=>(arrOf st').Perm (keys.zip vs.toArray) /\ failedOf st'=none /\ SortedTo (arrOf st') (keys.zip vs.toArray).size)
   (ksk_intKeys hk) ⟨Array.Perm.refl _,rfl,rfl,rfl⟩ (by rw [hzs]; omega) (by rw [hzs]; exact h64) fun st' a1 a2 a3=>⟨a1,a2,a3⟩) ?_ fun _ _ e=>e)
  rintro ⟨⟨⟩,st'⟩ s' ⟨rfl,hp,hf,hs⟩
  try dsimp only
  exact sU nk na hka hk hlen h64 hp (by rw [hp.size_eq]; exact hs) hf h
set_option maxHeartbeats 4000000 in
theorem xq {f:Value} (J:Shared->Prop) (hka:kS≠a) (hlen:kz.length=vs.length) (h64:vs.length < 64)
  (nk:s.heap.get? kS=some (seqObj "list" #[] 0)) (na:s.heap.get? a=some (seqObj "list" #[] e1)) (j0:J s)
  (ju:∀ s1 g,J s1->Heap.SameBut kS s1.heap g->J { s1 with heap:=g })
  (turn:∀ (i:Nat) (v:Value) (k:Int),vs[i]? = some v->kz[i]? = some k->∀ s1 kA e,J s1->s1.heap.get? kS=some (seqObj "list" kA e)->s1.heap.get? a=some (seqObj "list" #[] e1) ->
   wpAny (model prog w) A (call f [v]) (fun u s2=>(∃ t,u=Value.int k t) /\ J s2 /\ s2.heap.get? kS=some (seqObj "list" kA e) /\ s2.heap.get? a=some (seqObj "list" #[] e1)) (fun _ _=>False) s1)
  (h:∀ s1 h' tk out c,J s1->(∀ b o,b≠kS->b≠a->s1.heap.get? b=some o->h'.get? b=some o)->h'.get? a=some (seqObj "list" out c)->KskOut false kz vs out.toList->P (.done (.ret .none)) { s1 with heap:=h',toks:=tk }) :
  wpAny (model prog w) A (ksk_rest a f false vs.toArray e1 (.ref kS)) P E s:=by
 unfold ksk_rest
 refine wpAny_bind (wpAny_rule ?_)
 first
  | rw [List.forIn_toArray]
  | (rw [← Array.forIn_toList]; simp only [List.toList_toArray])
  | rw [← Array.forIn_toList]
 refine wpAny_bind (ksk_fold (fun i s'=>J s' /\ ∃ kA e,s'.heap.get? kS=some (seqObj "list" kA e) /\ s'.heap.get? a=some (seqObj "list" #[] e1) /\ IntsAre kA.toList (kz.take i)) vs 0 s
  ⟨j0,#[],0,nk,na,by simpa using IntsAre.nil⟩ ?step ?done)
 case step =>
  rintro j x s' hx ⟨jj,kA,e,nk,na,hk⟩
  simp only [Nat.zero_add] at hk ⊢
  have hj:j < vs.length:=(List.getElem?_eq_some_iff.mp hx).1
  obtain ⟨k,hkj⟩:∃ k,kz[j]? = some k:=⟨_,List.getElem?_eq_getElem (by omega)⟩
  have hz:kA.size <= vs.length:=by
   have h1:=hk.length
   rw [Array.length_toList,List.length_take] at h1
   omega
  refine wpAny_bind (wpAny_attempt (wpAny_mono (turn j x k hx hkj s' kA e jj nk na) (fun v s'' he=>?_) fun _ _ hF=>hF.elim))
  obtain ⟨⟨t2,rfl⟩,j2,nk2,na2⟩:=he
  try dsimp only
  have s1:=Heap.SameBut.update s''.heap kS (Obj.mapSeq (·.push (.int k t2)))
  obtain ⟨c2,hc2⟩:∃ c2,(s''.heap.update kS (Obj.mapSeq (·.push (.int k t2)))).get? kS=some (seqObj "list" (kA.push (.int k t2)) c2):=⟨_,get?_update_seq nk2 (·.push (.int k t2))⟩
  have ek:kz.take (j + 1)=kz.take j++[k]:=by rw [List.take_add_one,hkj]; simp
  have ea:(kA.push (Value.int k t2)).toList=kA.toList++[Value.int k t2]:=by simp
  refine wpAny_bind (listUpdate_at nk2 rfl ?_ (by rw [sizeLine_eq]; omega) (Nat.le_trans (Nat.le_of_eq (Array.size_push ..)) (by rw [sizeLine_eq]; omega)))
  refine wpAny_pure ⟨rfl,ju _ _ j2 s1,kA.push (.int k t2),c2,hc2,(s1.2 a hka.symm).trans na2,by rw [ea,ek]; exact ksk_snoc hk⟩
 case done =>
  rintro s' ⟨jj,kA,e,nk,na,hk⟩
  have hk':IntsAre kA.toList kz:=by
   have e3:kz.take (0 + vs.length)=kz:=List.take_of_length_le (by omega)
   rw [e3] at hk
   exact hk
  try dsimp only
  refine wpAny_bind (listItems_at nk rfl ?_)
  exact zF nk na hka hk' hlen h64 fun h3 tk3 out c k1 k2 k3=>h s' h3 tk3 out c jj k1 k2 k3
end
end L2
namespace L2
open PySem PySem.Spec PyProof.Rows PySem.W
theorem perm_lift {α β:Type} {R:α->β->Prop} {l l':List β} (p:l'.Perm l):∀ {m:List α},Paired R m l->∃ m',m'.Perm m /\ Paired R m' l':=by
 induction p with
 | nil=>intro m h; cases h; exact ⟨[],.nil,.nil⟩
 | cons x _ ih =>
  intro m h
  cases h with
  | cons h1 h2 =>
   obtain ⟨m',p,q⟩:=ih h2
   exact ⟨_::m',p.cons _,.cons h1 q⟩
 | swap x y l =>
  intro m h
  cases h with
  | cons h1 h2 =>
   cases h2 with
   | cons h3 h4=>exact ⟨_,.swap _ _ _,.cons h3 (.cons h1 h4)⟩
 | trans _ _ ih1 ih2 =>
  intro m h
  obtain ⟨m1,p1,q1⟩:=ih2 h
  obtain ⟨m2,p2,q2⟩:=ih1 q1
  exact ⟨m2,p2.trans p1,q2⟩
theorem sV:∀ (kz:List Int) {xs:List V} {its:List Value},Vals xs its->Paired (fun (p:Int×V) (q:Int×Value)=>p.1=q.1 /\ RelV p.2 q.2) (kz.zip xs) (kz.zip its)
 | [],_,_,_=>.nil
 | _::_,_,_,.nil=>.nil
 | k::kz,_,_,.cons h1 h2=>.cons ⟨rfl,h1⟩ (sV kz h2)
theorem xr {ps:List (Int×V)} {qs:List (Int×Value)} (h:Paired (fun (p:Int×V) (q:Int×Value)=>p.1=q.1 /\ RelV p.2 q.2) ps qs):Vals (ps.map (·.2)) (qs.map (·.2)):=by
 induction h with
 | nil=>exact .nil
 | cons h1 _ ih=>exact .cons h1.2 ih
theorem xt {ps:List (Int×V)} {qs:List (Int×Value)} (h:Paired (fun (p:Int×V) (q:Int×Value)=>p.1=q.1 /\ RelV p.2 q.2) ps qs):(∀ c:Int,(∀ q∈qs,c <= q.1)->∀ p∈ps,c <= p.1) /\ (qs.Pairwise (fun p q=>p.1 <= q.1)->ps.Pairwise fun p q=>p.1 <= q.1):=by
 induction h with
 | nil=>exact ⟨fun _ _ p hp=>by simp at hp,fun _=>.nil⟩
 | @cons p q ps qs h1 _ ih =>
  refine ⟨fun c hc p' hp=>?_,fun hq=>?_⟩
  ·rcases List.mem_cons.mp hp with rfl | hp
   ·rw [h1.1]; exact hc q List.mem_cons_self
   ·exact ih.1 c (fun q' hq'=>hc q' (List.mem_cons_of_mem _ hq')) p' hp
  ·rw [List.pairwise_cons] at hq ⊢
   refine ⟨fun p' hp'=>?_,ih.2 hq.2⟩
   rw [h1.1]
   exact ih.1 q.1 hq.1 p' hp'
theorem xu {P:Program} {w:World} {H:Hp} {h h':Heap} {a:Addr} (hok:HOk P w H h) (sb:Heap.SameBut a h h') (hn:H a=none):HOk P w H h':=fun b o e=>(hok b o e).stay (fun d u hd q=>by
 have:d≠a:=by
  rintro rfl
  rcases hd with rfl | hd
  ·rw [hn] at e; cases e
  ·rw [hn] at hd; cases hd
 rw [sb.2 d this]; exact q) (fun _ q=>q) fun _ _ q=>q
theorem zG {fs ex:List Addr} {H H':Hp} {h h1 h':Heap} {a:Addr} (u:Un fs ex H H' h h1) (ha:h.get? a=none) (sb:Heap.SameBut a h1 h'):Un fs ex H H' h h':=by
 have k:∀ b o,h.get? b=some o->b≠a:=fun b o e=>by rintro rfl; rw [ha] at e; cases e
 exact ⟨fun b o e n f x=>(sb.2 b (k b o e)).trans (u.keep b o e n f x),fun b o e n f x=>let ⟨sl,z⟩:=u.slot b o e n f x; ⟨sl,(sb.2 b (k b o e)).trans z⟩,u.free,fun b o e x=>let ⟨o',z⟩:=u.there b o e x; ⟨o',(sb.2 b (k b o e)).trans z⟩,u.tups,u.frzs,u.tbls⟩
section
variable {X:Cx} {pins:List (Addr×Obj)} {σ:St} {H:Hp} {s:Shared} {l fa:Addr} {xs:List V} {kz:List Int} {R:Hp->Prop} {Q:VK}
set_option maxHeartbeats 4000000 in
theorem vJ (I:Inv X pins σ H s) (hl:H l=some (.lst xs)) (hlen:kz.length=xs.length) (h64:xs.length < 64) (r0:R H)
  (turn:∀ (i:Nat) (v:V) (k:Int),xs[i]? = some v->kz[i]? = some k->∀ s1 H1 u,Inv X pins σ H1 s1->R H1->(∀ b o u,H b=some (.frz o u)->H1 b=some (.frz o u))->RelV v u->codeAny (model X.prog X.w) X.A.in1.in1 (.call (.ref fa) ⟨[u],[]⟩) (CR (CXE X.prog X.w) X.stack X.prog X.w H1 s1 (fun v H'=>v = .int k /\ R H') (fun _ _ _=>False)) s1)
  (q:∀ D H' (ps:List (Int×V)),H D=none->H' D=none->R H'->ps.Perm (kz.zip xs)->ps.Pairwise (fun p q=>p.1 <= q.1)->Q (.ref D) (upd H' D (.lst (ps.map (·.2))))) :
  wpAny (model X.prog X.w) X.A (call (.builtin "sorted") [.ref l] [(Str.ofString "key",.ref fa)]) (EP X pins σ Q) X.xe s:=by
 obtain ⟨z,its,n,rv,el⟩:=I.hok l _ hl
 have hlv:its.length=xs.length:=(Vals.length rv).symm
 have hil:s.heap.IsList l its.toArray:=⟨_,el,rfl,n,rfl⟩
 have nofr:∀ b:Addr,s.heap.objs.size <= b->b∉frs X.stack:=fun b hb hm=>by
  obtain ⟨_,o,ho,_⟩:=I.stack.mem hm
  exact absurd (Heap.lt_size ho) (Nat.not_lt.mpr hb)
 refine call_function_entry_kw kind_sorted plain_sorted entry_sorted (ksk_s1 _ _) ?_
 unfold Builtin.«sorted»
 refine wpAny_bind (m:=checkCount "sorted" 1 1 _) (wpAny_pure ?_)
 refine wpAny_bind (collect_list hil ?_ (by rw [sizeLine_eq]; omega))
 refine wpAny_bind (wpAny_newList ?_ (by rw [sizeLine_eq]; omega))
 have hsz:((s.heap.push (seqObj "list" #[] 0)).update s.heap.objs.size (Obj.mapSeq (· ++ its.toArray))).objs.size=s.heap.objs.size + 1:=by
  rw [Heap.size_update,size_push']
 have hoL:(((s.heap.push (seqObj "list" #[] 0)).update s.heap.objs.size (Obj.mapSeq (· ++ its.toArray))).push (seqObj "list" its.toArray 0)).get? (s.heap.objs.size + 1)=some (seqObj "list" its.toArray 0):=by
  rw [← hsz]; exact Heap.get?_push_size _ rfl
 have keep:∀ b o,s.heap.get? b=some o->(((s.heap.push (seqObj "list" #[] 0)).update s.heap.objs.size (Obj.mapSeq (· ++ its.toArray))).push (seqObj "list" its.toArray 0)).get? b=some o:=fun b o q=>by
  have hlt:b < s.heap.objs.size:=Heap.lt_size q
  rw [Heap.get?_push_ne _ _ _ (by rw [hsz]; exact Nat.ne_of_lt (Nat.lt_succ_of_lt hlt)),Heap.get?_update_ne _ _ _ _ (Nat.ne_of_lt hlt),Heap.get?_push_ne _ _ _ (Nat.ne_of_lt hlt)]
  exact q
 have szB:(((s.heap.push (seqObj "list" #[] 0)).update s.heap.objs.size (Obj.mapSeq (· ++ its.toArray))).push (seqObj "list" its.toArray 0)).objs.size=s.heap.objs.size + 2:=by rw [size_push',hsz]
 show wpAny _ _ _ _ _ { s with heap:=((s.heap.push (seqObj "list" #[] 0)).update s.heap.objs.size (Obj.mapSeq (· ++ its.toArray))).push (seqObj "list" its.toArray 0) }
 rw [hsz]
 generalize ((s.heap.push (seqObj "list" #[] 0)).update s.heap.objs.size (Obj.mapSeq (· ++ its.toArray))).push (seqObj "list" its.toArray 0)=hB at hoL keep szB ⊢
 obtain ⟨D,hD⟩:∃ D:Nat,D=s.heap.objs.size + 1:=⟨_,rfl⟩
 rw [← hD] at hoL ⊢
 refine wpAny_bind (wpAny_holding (wpAny_call_entry_kw slot_list_sort ⟨_,hoL,rfl⟩ entry_list_sort ?body (ksk_l1 _ _)))
 case body =>
  show wpAny (model X.prog X.w) X.A.in1.in1 (Builtin.«list.sort» ⟨[.ref D],[(Str.ofString "key",.ref fa)]⟩) _ _ _
  rw [ksk_t1]
  have s1:=Heap.SameBut.update hB D (Obj.mapSeq fun _=>(#[]:Array Value))
  obtain ⟨e1,ho1⟩:∃ e1,(hB.update D (Obj.mapSeq fun _=>(#[]:Array Value))).get? D=some (seqObj "list" #[] e1):=⟨_,get?_update_seq hoL fun _=>#[]⟩
  have szk:((hB.update D (Obj.mapSeq fun _=>(#[]:Array Value))).push (seqObj "tuple" its.toArray 0)).objs.size=s.heap.objs.size + 3:=by rw [size_push',Heap.size_update,szB]
  unfold ksk_tree
  refine wpAny_bind (listItems_at hoL rfl ?_)
  refine wpAny_bind (listUpdate_at hoL rfl ?_ (by rw [List.size_toArray,sizeLine_eq]; omega) (Nat.zero_le _))
  refine wpAny_bind (seqEpoch_at ho1 rfl ?_)
  refine wpAny_bind (wpAny_newTuple ?_ (by show its.length <= _; rw [sizeLine_eq]; omega))
  refine wpAny_bind (wpAny_newList ?_ (Nat.zero_le _))
  refine wpAny_holding ?_
  show wpAny _ _ (ksk_rest D (.ref fa) false its.toArray e1 (.ref ((hB.update D (Obj.mapSeq fun _=>(#[]:Array Value))).push (seqObj "tuple" its.toArray 0)).objs.size)) _ _ { s with heap:=((hB.update D (Obj.mapSeq fun _=>(#[]:Array Value))).push (seqObj "tuple" its.toArray 0)).push (seqObj "list" #[] 0) }
  have keep3:∀ b o,s.heap.get? b=some o->(((hB.update D (Obj.mapSeq fun _=>(#[]:Array Value))).push (seqObj "tuple" its.toArray 0)).push (seqObj "list" #[] 0)).get? b=some o:=fun b o q=>by
   have hlt:b < s.heap.objs.size:=Heap.lt_size q
   exact Heap.get?_push_of_some _ (Heap.get?_push_of_some _ ((s1.2 b (by rw [hD]; exact Nat.ne_of_lt (Nat.lt_succ_of_lt hlt))).trans (keep b o q)))
  have noD:(((hB.update D (Obj.mapSeq fun _=>(#[]:Array Value))).push (seqObj "tuple" its.toArray 0)).push (seqObj "list" #[] 0)).get? D=some (seqObj "list" #[] e1):=Heap.get?_push_of_some _ (Heap.get?_push_of_some _ ho1)
  have noK:(((hB.update D (Obj.mapSeq fun _=>(#[]:Array Value))).push (seqObj "tuple" its.toArray 0)).push (seqObj "list" #[] 0)).get? ((hB.update D (Obj.mapSeq fun _=>(#[]:Array Value))).push (seqObj "tuple" its.toArray 0)).objs.size=some (seqObj "list" #[] 0):=Heap.get?_push_size _ rfl
  generalize (((hB.update D (Obj.mapSeq fun _=>(#[]:Array Value))).push (seqObj "tuple" its.toArray 0)).push (seqObj "list" #[] 0))=h3 at keep3 noD noK ⊢
  generalize ((hB.update D (Obj.mapSeq fun _=>(#[]:Array Value))).push (seqObj "tuple" its.toArray 0)).objs.size=kS at szk noK ⊢
  have gD:s.heap.get? D=none:=Heap.get?_none_of_le (by omega)
  have gK:s.heap.get? kS=none:=Heap.get?_none_of_le (by omega)
  refine xq (kz:=kz) (fun s1=>s1.os=s.os /\ AllBare s1.gens /\ ∃ H1,Un (frs X.stack) [] H H1 s.heap s1.heap /\ HOk X.prog X.w H1 s1.heap /\ R H1 /\ H1 D=none /\ H1 kS=none) (by rw [szk,hD]; exact Nat.ne_of_gt (by omega)) (by omega) (by omega) noK noD
   ⟨rfl,I.bare,H,Un.kept keep3,I.hok.kept keep3,r0,I.hok.fresh (by omega),I.hok.fresh (by omega)⟩ ?ju ?turn ?fin
  case ju =>
   rintro s1 g ⟨j1,j2,H1,u,hok,r,n1,n2⟩ sb
   exact ⟨j1,j2,H1,zG u gK sb,xu hok sb n2,r,n1,n2⟩
  case turn =>
   rintro i v k hv hk s1 kA e ⟨j1,j2,H1,u,hok,r,n1,n2⟩ nk na
   have hi:i < xs.length:=by rw [← hlv]; exact (List.getElem?_eq_some_iff.mp hv).1
   obtain ⟨v',e2⟩:∃ v',xs[i]? = some v':=⟨_,List.getElem?_eq_getElem hi⟩
   have rv2:RelV v' v:=by
    obtain ⟨y,e3,r3⟩:=rv.get e2
    rw [hv] at e3
    cases e3
    exact r3
   have I1:Inv X pins σ H1 s1:=I.call' j1 u hok j2 fun b z=>absurd z (by simp)
   refine wpAny_call (codeAny_mono (turn i v' k e2 hk s1 H1 v I1 r u.frzs rv2) fun res s2 hq=>?_)
   cases res with
   | error e =>
    have hq:CXE X.prog X.w X.stack H1 s1 (fun _ _ _=>False) e s2:=hq
    obtain ⟨_,_,_,_,_,_,_,_,_,_,_,_,_,_,z⟩:=hq
    exact z.elim
   | ok fl =>
    cases fl with
    | ret u2 =>
     obtain ⟨v2,H2,os2,bare2,un2,hok2,rel2,ev,r2⟩:=hq
     subst ev
     refine ⟨rel2,⟨os2.trans j1,bare2,H2,u.trans un2,hok2,r2,?_,?_⟩,?_,?_⟩
     ·exact un2.free D _ na n1 (by simp)
     ·exact un2.free kS _ nk n2 (by simp)
     ·exact un2.keep kS _ nk n2 (nofr kS (by omega)) (by simp)
     ·exact un2.keep D _ na n1 (nofr D (by omega)) (by simp)
    | next=>exact False.elim hq
    | brk=>exact False.elim hq
    | cont=>exact False.elim hq
  case fin =>
   rintro s1 h' tk out c ⟨j1,j2,H1,u,hok,r,n1,n2⟩ kp hD' ⟨ps,p1,p2,p3⟩
   obtain ⟨qs,q1,q2⟩:=perm_lift p1 (sV kz rv)
   have hv:=xr q2
   have hp:=(xt q2).2 (by simpa using p3)
   have ol:(qs.map (·.2)).length <= sizeLine:=by
    rw [List.length_map,q1.length_eq,List.length_zip,sizeLine_eq]
    omega
   have hok':HOk X.prog X.w (upd H1 D (.lst (qs.map (·.2)))) h':=fun b o e=>by
    by_cases hb:b=D
    ·subst hb
     rw [au] at e
     cases e
     refine ⟨ol,ps.map (·.2),c,hv,?_⟩
     rw [hD',← p2]
    ·rw [ar hb] at e
     refine (hok b o e).stay (fun d x hd q=>kp d x ?_ ?_ q) (fun d q=>?_) fun d ys q=>?_
     ·rintro rfl
      rcases hd with rfl | hd
      ·rw [n2] at e; cases e
      ·rw [n2] at hd; cases hd
     ·rintro rfl
      rcases hd with rfl | hd
      ·exact hb rfl
      ·rw [n1] at hd; cases hd
     ·rw [ar (by rintro rfl; rw [n1] at q; cases q)]; exact q
     ·rw [ar (by rintro rfl; rw [n1] at q; cases q)]; exact q
   have kd:∀ b o,s.heap.get? b=some o->b≠D /\ b≠kS:=fun b o e=>⟨(by rintro rfl; rw [gD] at e; cases e),(by rintro rfl; rw [gK] at e; cases e)⟩
   have un':Un (frs X.stack) [] H (upd H1 D (.lst (qs.map (·.2)))) s.heap h':=⟨fun b o e n f x=>kp b o (kd b o e).2 (kd b o e).1 (u.keep b o e n f x),fun b o e n f x=>let ⟨sl,z⟩:=u.slot b o e n f x; ⟨sl,kp b _ (kd b o e).2 (kd b o e).1 z⟩,
    fun b o e n x=>by rw [ar (kd b o e).1]; exact u.free b o e n x,fun b o e x=>let ⟨o',z⟩:=u.there b o e x; ⟨o',kp b _ (kd b o e).2 (kd b o e).1 z⟩,
    fun b ys e=>by
     have z:=u.tups b ys e
     rw [ar (by rintro rfl; rw [n1] at z; cases z)]; exact z,
    fun b o y e=>by
     have z:=u.frzs b o y e
     rw [ar (by rintro rfl; rw [n1] at z; cases z)]; exact z,
    fun b ys e=>by
     obtain ⟨more,z⟩:=u.tbls b ys e
     exact ⟨more,by rw [ar (by rintro rfl; rw [n1] at z; cases z)]; exact z⟩⟩
   have I2:Inv X pins σ (upd H1 D (.lst (qs.map (·.2)))) { s1 with heap:=h',toks:=tk }:=I.call' (s':={ s1 with heap:=h',toks:=tk }) j1 un' hok' j2 fun b z=>absurd z (by simp)
   exact ⟨_,rfl,wpAny_pure ⟨_,rfl,.ref D,_,I2,rfl,q D H1 qs (I.hok.fresh (by omega)) n1 r q1 hp⟩⟩
end
end L2
namespace DL
open PySem PySem.Spec L2
open PyProof.Rows hiding St
variable [TB]
section
variable {P:Program} {w:World} {K:PySem.W.Frag} {mg:Str->Option Value} {base:Heap} {N:List Str} {qual:Str} {scope:Scope} {f c':Addr} {cl:List (Str×Addr)} {A:Around} {outer:List Env} {s:Shared} {H:Hp} {E:XK} {vs:List V}
theorem ue {k:Nat} {x:Str} {v:V} {u:Value} {params:Arguments} {body:Expr} {name:Str} {pm ctv:Value} {Q:VK} {te:DE} {pp:Option Addr} {M:List Addr} {d:D} {ds:List D} {R:D->Prop} (S:LamSc1 x params scope) (hr:Room (k + 1) A) (e0:Env0 P w K mg base A outer s H)
  (ho:s.heap.get? f=some (PySem.W.kla_obj name qual params body scope cl pm c' ctv)) (hcd:s.heap.CodeRec (.ref c') qual) (C:Cells scope cl N vs H s.heap) (ru:RelV v u)
  (hb : @PED _ Frm.free (cxL P w K mg base (x::N) qual scope f (.ref c') cl A outer s H E) body te)
  (lv:Lv pp M H) (r:Reps K pp M H (d::ds) (v::vs)) (ht:te (.val d::ds.map .val) (fun d' _=>R d'))
  (hQ:∀ d',R d'->∀ H' v',SameP K pp H H'->Rep K pp M H' d' v'->Q v' H') :
  codeAny (model P w) A (.call (.ref f) ⟨[u],[]⟩) (CR (CXE P w) outer P w H s Q E) s:=by
 obtain ⟨T,p,run⟩:=hb.run
 have hl:=r.length
 have rs : @RSt _ Frm.free K ⟨pp,M,H⟩ M H (some v::vs.map some) (.val d::ds.map .val):=by
  have:=@jn _ Frm.free K pp M H (d::ds) (v::vs) (x::N) lv r trivial
  have e1:L2.start (x::N) (v::vs)=some v::vs.map some:=by simp [L2.start,C.len]
  have e2:kE (x::N).length (d::ds) = .val d::ds.map .val:=by
   have:ds.length=vs.length:=by simpa using hl
   simp [kE,C.len,this]
  rw [e1,e2] at this
  exact this
 exact xp (T:=T) S hr e0 ho hcd C ru p (run M H _ _ _ rs (hb.mono _ _ _ (fun d' ρ' hd M' H' v' m rs' rv=>hQ d' hd H' v' rs'.sameT (rv.mv (.less rs'.sub))) ht))
end
section
variable {X:Cx} {k:Nat} {qual:Str} {fa c':Addr} {N2:List Str} {params:Arguments} {body:Expr} {scope:Scope} {cl:List (Str×Addr)} {vs:List V} {te:DE}
theorem LamIn.cells1 {js:List Nat} (li:LamIn X scope cl N2 js) (noc:∀ x∈scope.names,x.2 ≠ .cell) {pins:List (Addr×Obj)} {σ:St} {H:Hp} {s:Shared} (I:Inv X pins σ H s) (e:js.map (fun i=>σ[i]?)=vs.map fun v=>some (some v)):Cells scope cl N2 vs H s.heap:=by
 have hl:js.length=vs.length:=by have:=congrArg List.length e; simpa using this
 refine ⟨fun x y c h1 h2=>I.ok.inj x y c (li.sub x c h1) (li.sub y c h2),fun x h=>?_,fun x c h=>I.cell x c (li.sub x c h),fun x c h=>I.freeC x c (li.sub x c h),li.len.trans hl,fun j x v h1 h2=>?_⟩
 ·rcases h with h | h
  ·exact absurd rfl (noc _ (PySem.mem_of_lookup h))
  ·obtain ⟨j,hj⟩:=List.getElem?_of_mem (li.all x h)
   obtain ⟨_,_,_,_,_,q⟩:=li.nam j x hj
   exact q
 ·obtain ⟨i,e1,e2,e3,e4,c,e5⟩:=li.nam j x h1
  have ei:σ[i]? = some (some v):=by
   have:=congrArg (fun l=>l[j]?) e
   simp only [List.getElem?_map,e1,h2,Option.map_some] at this
   exact Option.some.inj this
  obtain ⟨m,hn,hl⟩:=I.loc
  obtain ⟨u,rv,lo⟩:=hl i x v e2 ei (.inr (.inl e3))
  refine ⟨u,c,rv,e4,e5,?_⟩
  rcases lo with ⟨z,_⟩ | ⟨_,c2,e6,e7⟩
  ·rw [e3] at z; cases z
  ·have:=li.sub x c e5
   rw [e6] at this; cases this
   exact e7
theorem sW {K:PySem.W.Frag} {pp:Option Addr} {M:List Addr} {H:Hp}:∀ (kz:List Int) {ds:List D} {xs:List V},Reps K pp M H ds xs->Paired (fun (p:Int×D) (q:Int×V)=>p.1=q.1 /\ Rep K pp M H p.2 q.2) (kz.zip ds) (kz.zip xs)
 | [],_,_,_=>.nil
 | _::_,[],xs,h=>by simp only [Reps] at h; subst h; exact .nil
 | k::kz,d::ds,xs,h=>by
  simp only [Reps] at h
  obtain ⟨x,r,rfl,h1,h2⟩:=h
  exact .cons ⟨rfl,h1⟩ (sW kz h2)
theorem xv {K:PySem.W.Frag} {pp:Option Addr} {M:List Addr} {H:Hp} {ps:List (Int×D)} {qs:List (Int×V)} (h:Paired (fun (p:Int×D) (q:Int×V)=>p.1=q.1 /\ Rep K pp M H p.2 q.2) ps qs):Reps K pp M H (ps.map (·.2)) (qs.map (·.2)):=by
 induction h with
 | nil=>exact .nil
 | cons h1 _ ih=>exact .cons h1.2 ih
theorem vK {α β:Type} {S:α->β->Prop} {ps:List (Int×α)} {qs:List (Int×β)} (h:Paired (fun (p:Int×α) (q:Int×β)=>p.1=q.1 /\ S p.2 q.2) ps qs):(∀ c:Int,(∀ q∈qs,c <= q.1)->∀ p∈ps,c <= p.1) /\ (qs.Pairwise (fun p q=>p.1 <= q.1)->ps.Pairwise fun p q=>p.1 <= q.1):=by
 induction h with
 | nil=>exact ⟨fun _ _ p hp=>by simp at hp,fun _=>.nil⟩
 | @cons p q ps qs h1 _ ih =>
  refine ⟨fun c hc p' hp=>?_,fun hq=>?_⟩
  ·rcases List.mem_cons.mp hp with rfl | hp
   ·rw [h1.1]; exact hc q List.mem_cons_self
   ·exact ih.1 c (fun q' hq'=>hc q' (List.mem_cons_of_mem _ hq')) p' hp
  ·rw [List.pairwise_cons] at hq ⊢
   refine ⟨fun p' hp'=>?_,ih.2 hq.2⟩
   rw [h1.1]
   exact ih.1 q.1 hq.1 p' hp'
abbrev BW (js:List Nat) (ta te:DE):DE:=fun ρ Q=>ta ρ fun d ρ1=>∃ (xs:List D) (kz:List Int) (ds:List D),d = .lst xs /\ xs.length < 64 /\ kz.length=xs.length /\ js.map (fun i=>(ρ1[i]?).bind zD)=ds.map some /\
 (∀ (i:Nat) (x:D) (z:Int),xs[i]? = some x->kz[i]? = some z->te (.val x::ds.map .val) fun d' _=>d' = .int z) /\
 ∀ ps:List (Int×D),ps.Perm (kz.zip xs)->ps.Pairwise (fun p q=>p.1 <= q.1)->Q (.lst (ps.map (·.2))) ρ1
def zH [Frm] (X:Cx) (js:List Nat) (te:DE) (σ:St) (Q:VK) (v:V) (H1:Hp):Prop:=∃ (F:Fx) (M:List Addr) (ρ1:DS) (xs:List D) (kz:List Int) (ds:List D),RSt X.K F M H1 σ ρ1 /\ Rep X.K F.pp M H1 (.lst xs) v /\ xs.length < 64 /\ kz.length=xs.length /\ js.map (fun i=>(ρ1[i]?).bind zD)=ds.map some /\
   (∀ (i:Nat) (x:D) (z:Int),xs[i]? = some x->kz[i]? = some z->te (.val x::ds.map .val) fun d' _=>d' = .int z) /\
   ∀ ps:List (Int×D),ps.Perm (kz.zip xs)->ps.Pairwise (fun p q=>p.1 <= q.1)->∀ M' H' v',Mv X.K F.pp M H1 M' H'->RSt X.K F M' H' σ ρ1->Rep X.K F.pp M' H' (.lst (ps.map (·.2))) v'->Q v' H'
def Dw [Frm] (X:Cx) (js:List Nat) (te:DE) (σ:St) (Q:VK):List V->Hp->Prop
 | [v],H1=>zH X js te σ Q v H1
 | _,_=>False
theorem xw [Frm] {js:List Nat} {c0 P:Addr} {x:Str} {p lpos kpos pos:Pos} {e1:Expr} {ta:DE} (S:LamSc1 x params scope) (hr:Room (k + 3) X.A) (hg:Gl X "sorted") (hm:X.mg "sorted" = none) (bm:Bm X.mg X.base) (hc:X.env.code = .ref c0) (hP:PySem.W.codeHdIn X.K c0 P=true)
  (hq:X.env.qual ++ "<lambda>" = qual) (htb:TB.tb.lookup P=some qual) (li:LamIn X scope cl N2 js) (hdef:defaultsOf params X.env=([],[])) (ha:PED X e1 ta)
  (hb:∀ (fa c':Addr) (A:Around) (outer:List Env) (s:Shared) (H:Hp) (E:XK),Room k (A.deeper (PySem.W.envX qual scope s.heap.objs.size fa (.ref c') cl)) -> @PED _ Frm.free (cxL X.prog X.w X.K X.mg X.base (x::N2) qual scope fa (.ref c') cl A outer s H E) body te)
  (hv:bootBuiltins "sorted" = some (.builtin "sorted"):=by rfl) (he:starEach [e1] X.env=(false,eval e1 X.env)::starEach [] X.env:=by rfl)
  (hb1:backTo pos (starEach [e1] X.env)=(false,eval e1 X.env)::backTo pos (starEach [] X.env):=by rfl)
  (hb2:(backTo pos (starEach [e1] X.env)).any (·.1)=false:=by rfl) :
  PED X (.Call (.Name "sorted" p) [e1] [⟨some "key",.Lambda params body scope lpos,kpos⟩] pos) (BW js ta te):=by
 obtain ⟨Ta,pa,ra⟩:=ha.run
 refine ⟨fun ρ Q Q' f h=>ha.mono _ _ _ (fun d ρ1 ⟨xs,kz,ds,h1,h2,h3,h4,h5,h6⟩=>⟨xs,kz,ds,h1,h2,h3,h4,h5,fun ps p1 p2=>f _ _ (h6 ps p1 p2)⟩) h,
  fun σ H Q=>Ta σ H fun v H1=>zH X js te σ Q v H1,
  fun pins s σ H Q I h=>?_,fun {F} M H σ ρ Q rs h=>ra M H σ ρ _ rs (ha.mono _ _ _ (fun d ρ1 ⟨xs,kz,ds,h1,h2,h3,h4,h5,h6⟩ M1 H1 v m1 rs1 r1=>⟨F,M1,ρ1,xs,kz,ds,rs1,by rw [← h1]; exact r1,h2,h3,h4,h5,fun ps p1 p2 M' H' v' m' rs' r'=>h6 ps p1 p2 M' H' v' (m1.trans m') rs' r'⟩) h)⟩
 have C:PySem.W.CodeHd X.base c0 P:=PySem.W.codeHd_of_K I.mod.kin hP
 refine wpAny_Call_Name_kw (lA I hg hm hv ?_ (by decide) (by decide))
 refine callWith_kw (id:="sorted") ?_ hb1 hb2
 refine thn (eQ pa jb he pos pins s σ H (Dw X js te σ Q) I h) fun us s1 ⟨vs,H1,I1,r,q⟩=>?_
 obtain ⟨v,rfl,q⟩:∃ v,vs=[v] /\ zH X js te σ Q v H1:=by
  match vs,q with
  | [v],q=>exact ⟨v,rfl,q⟩
  | [],q=>exact q.elim
  | _::_::_,q=>exact q.elim
 obtain ⟨u,rfl,ru⟩:∃ u,us=[u] /\ RelV v u:=by
  cases r with
  | cons a b=>cases b; exact ⟨_,rfl,a⟩
 obtain ⟨F,M,ρ1,xs,kz,ds,rs,rx,x64,hkz,e1,hte,hps⟩:=q
 obtain ⟨ps,tb1,tb2,tb3⟩:=rs.liv.t P qual htb
 refine thn (yF (BU (qual:=qual) (P:=P) (pos:=lpos) bm hc C hq li.clo hdef) AR pos pins s1 σ H1 (fun us H2=>∃ fa c' ctv,us=[.ref fa] /\ LamMade P qual H1 H2 /\ H2 fa=some (frzO (PySem.W.kla_obj "<lambda>" qual params body scope cl ((X.mg "__name__").getD .none) c' ctv) fa) /\ vG H2 c' qual) I1
  ⟨ps,tb1,tb2,fun cv e=>let ⟨c,oc,u,vs,t,f1,f2,f3⟩:=tb3 _ cv e; ⟨c,f1,oc,u,vs,t,f2,f3⟩,fun fa c' ctv H' lm ho ch=>⟨fa,c',ctv,rfl,lm,ho,ch⟩⟩) fun ws s2 ⟨zs,H2,I2,rz,fa,c',ctv,e2,lm,ho,ch⟩=>?_
 subst e2
 obtain ⟨u2,rfl,ru2⟩:∃ u,ws=[u] /\ RelV (.ref fa) u:=by
  cases rz with
  | cons a b=>cases b; exact ⟨_,rfl,a⟩
 cases ru2
 have sm:SameP X.K F.pp H1 H2:=vH lm htb
 have rs2:=rs.sameP sm
 obtain ⟨vs,e3,r3⟩:=qg rs2 js ds e1
 have rx2:Rep X.K F.pp M H2 (.lst xs) v:=rx.mv sm.mv
 simp only [Rep] at rx2
 obtain ⟨l,ys,rfl,lM,lp,hl,ry⟩:=rx2
 cases ru
 have yl:=ry.length
 show wpAny _ _ (call (.builtin "sorted") [.ref l] [(Str.ofString "key",.ref fa)]) _ _ _
 refine vJ (kz:=kz) (R:=fun H'=>SameP X.K F.pp H2 H') I2 hl (by omega) (by omega) .refl (fun i v z hv hz s3 H3 u I3 sm3 fz ru=>?_) (fun D H' qs hD hD' sm3 p1 p2=>?_)
 ·have hi:i < xs.length:=by rw [yl]; exact (List.getElem?_eq_some_iff.mp hv).1
  obtain ⟨d,ed⟩:∃ d,xs[i]? = some d:=⟨_,List.getElem?_eq_getElem hi⟩
  obtain ⟨v',e4,rd⟩:=ry.get' ed
  rw [hv] at e4
  cases e4
  obtain ⟨oc,uu,ws,t,c1,c2,c3⟩:=ch
  have hcd:s3.heap.CodeRec (.ref c') qual:=⟨c',oc,ws,t,rfl,(I3.hok c' _ (fz c' oc uu c1)).1,c2,c3⟩
  have ob:=(I3.hok fa _ (fz fa _ _ ho)).1
  have e0:Env0 X.prog X.w X.K X.mg X.base X.A.in1.in1 X.stack s3 H3:=let e:=I3.env0; ⟨e.frames,e.mod,e.bs,e.bsz,e.funs,e.frf,e.hok,e.bare⟩
  refine ue (N:=N2) (vs:=vs) (te:=te) (pp:=F.pp) (M:=M) (d:=d) (ds:=ds) (R:=fun d'=>d' = .int z) S (hr.in1.in1) e0 ob hcd (li.cells1 S.noc I3 e3) ru (hb fa c' _ _ s3 H3 _ (hr.in1.in1.deeper _)) (rs2.sameP sm3).liv (.cons (rd.mv sm3.mv) (r3.mv sm3.mv)) (hte i d z ed hz) fun d' hd H' v' sm4 rv=>?_
  subst hd
  simp only [Rep] at rv
  exact ⟨rv,sm3.trans sm4⟩
 ·have ry':Reps X.K F.pp M H' xs ys:=ry.mv sm3.mv
  obtain ⟨ps',q1,q2⟩:=perm_lift p1 (sW kz ry')
  have smD:SameP X.K F.pp H' (upd H' D (.lst (qs.map (·.2)))):=.new hD'
  have fr:=rs2.liv.fresh hD
  refine hps ps' q1 ((vK q2).2 p2) M _ (.ref D) (sm.trans (sm3.trans smD)).mv (rs.sameP (sm.trans (sm3.trans smD))) ?_
  simp only [Rep]
  exact ⟨D,_,rfl,fr.1,fr.2,au,(xv q2).mv smD.mv⟩
end
end DL
namespace L2
open PySem PySem.Spec PyProof.Rows PySem.W
section
variable {X:Cx}
theorem uf (hc:X.calm=true):CallR X (.type "list") (fun xs H Q=>∃ a kvs,xs=[.ref a] /\ H a=some (.dT kvs) /\ ∀ l bs,H l=none->Paired (zu H) (kvs.map (·.1)) bs->Q (.ref l) (upd H l (.lst bs))):=by
 intro pins s σ H xs us Q I r h
 obtain ⟨a,kvs,rfl,e,q⟩:=h
 obtain ⟨u,rfl,e2⟩:=pd r
 cases e2
 obtain ⟨z,lo,xs,rel,o,es,ep,g1,g2,g3,g4,g5,g6⟩:=AY I.hok e
 have hsz:es.size=xs.length:=size_of_entries g4
 have hxl:kvs.length=xs.length:=Paired.length rel
 refine kdl_call (zr lo es ep) (I.ok.hd hc) ⟨o,g1,g2,g3⟩ (by omega) fun h' tk acc c hk hS hI=>?_
 have hacc:acc.toList=xs.map fun x=>Value.ref x.2.1:=by
  apply List.ext_getElem?
  intro i
  rw [Array.getElem?_toList]
  cases hx:xs[i]? with
  | none =>
   have h1:xs.length <= i:=by simpa using hx
   rw [List.getElem?_map,hx,Array.getElem?_eq_none (by rw [hI.1]; omega)]
   rfl
  | some x =>
   have h1:i < xs.length:=(List.getElem?_eq_some_iff.mp hx).1
   obtain ⟨v,hv⟩:∃ v,acc[i]? = some v:=⟨acc[i]'(by rw [hI.1]; omega),by simp [hI.1,hsz,h1]⟩
   have h2:(es[i]?).map (·.key)=some v:=hI.2 i v hv
   rw [entry_at g4 i,hx] at h2
   rw [hv,List.getElem?_map,hx]
   simpa [entryOfKey] using h2.symm
 obtain ⟨bs,p1,p2⟩:=vD (zv rel)
 have hb:bs.length <= sizeLine:=by
  rw [← nA p1,List.length_map]
  exact z
 have ea:acc=(xs.map fun x=>Value.ref x.2.1).toArray:=by
  apply Array.toList_inj.mp
  rw [hacc]
 refine ⟨.ref s.heap.objs.size,upd H s.heap.objs.size (.lst bs),I.laid (t':=tk) (o:=.lst bs) hk (Nat.le_refl _) ⟨hb,_,c,p2,?_⟩,rfl,q _ bs (I.hok.fresh (Nat.le_refl _)) p1⟩
 rw [hS,ea]
end
end L2
namespace DL
open PySem PySem.Spec L2
open PyProof.Rows hiding St
variable [TB]
variable [Frm]
section
variable {X:Cx}
def vL:DSp:=fun ds P=>match ds with
 | [.dT ks _]=>P (.lst (ks.map keyD))
 | _=>False
theorem xx (hc:X.calm=true:=by rfl):CallD X (.type "list") vL:=by
 refine ⟨fun ds P P' f h=>?_,_,uf hc,fun {pp} M H ds vs Q lv r h=>?_⟩
 ·unfold vL at h ⊢
  split at h
  ·exact f _ h
  ·exact h.elim
 ·unfold vL at h
  split at h
  ·rename_i ks es
   simp only [Reps,Rep] at r
   obtain ⟨x,t,rfl,⟨a,kvs,rfl,_,_,ha,rfl,_⟩,rfl⟩:=r
   refine ⟨a,kvs,rfl,ha,fun l bs hl hp=>h _ _ (.new hl) ?_⟩
   simp only [Rep]
   exact ⟨l,bs,rfl,(lv.fresh hl).1,(lv.fresh hl).2,au,(vE hp).mv (.new hl)⟩
  ·exact h.elim
end
end DL
namespace My
open PySem L2
def top (i:Nat):Stmt:=PySem.Challenge.pw_othersum_k62_how_little_uneven_it_comes.main.body.getD i (.Pass ⟨0,0,0,0⟩)
abbrev bc:Stmt:=top 6
theorem sc_greatest_divisor:FnScope ["one","other","rest"] ["one","other"] (ad bc):=⟨rfl,rfl,rfl,by decide +kernel,rfl,by decide +kernel,by decide +kernel⟩
abbrev eF:Stmt:=top 7
theorem sc_ratio_of:FnScope ["top","bottom","divisor"] ["top","bottom"] (ad eF):=⟨rfl,rfl,rfl,by decide +kernel,rfl,by decide +kernel,by decide +kernel⟩
abbrev nC:Stmt:=top 8
theorem zI:FnScope ["one","other"] ["one","other"] (ad nC):=⟨rfl,rfl,rfl,by decide +kernel,rfl,by decide +kernel,by decide +kernel⟩
abbrev jN:Stmt:=top 9
theorem xy:FnScope ["one","other"] ["one","other"] (ad jN):=⟨rfl,rfl,rfl,by decide +kernel,rfl,by decide +kernel,by decide +kernel⟩
abbrev jO:Stmt:=top 10
theorem xz:FnScope ["one","other"] ["one","other"] (ad jO):=⟨rfl,rfl,rfl,by decide +kernel,rfl,by decide +kernel,by decide +kernel⟩
abbrev nD:Stmt:=top 11
theorem zJ:FnScope ["one","other"] ["one","other"] (ad nD):=⟨rfl,rfl,rfl,by decide +kernel,rfl,by decide +kernel,by decide +kernel⟩
abbrev nE:Stmt:=top 12
theorem zK:FnScope ["one","other"] ["one","other"] (ad nE):=⟨rfl,rfl,rfl,by decide +kernel,rfl,by decide +kernel,by decide +kernel⟩
abbrev jP:Stmt:=top 13
theorem sc_total:FnScope ["ratios","half"] ["ratios"] (ad jP):=⟨rfl,rfl,rfl,by decide +kernel,rfl,by decide +kernel,by decide +kernel⟩
abbrev io:Stmt:=top 14
theorem vM:FnScope ["one","other"] ["one","other"] (ad io):=⟨rfl,rfl,rfl,by decide +kernel,rfl,by decide +kernel,by decide +kernel⟩
abbrev bH:Stmt:=top 15
theorem sc_common_bottom:FnScope ["ratios","bottom","ratio"] ["ratios"] (ad bH):=⟨rfl,rfl,rfl,by decide +kernel,rfl,by decide +kernel,by decide +kernel⟩
abbrev eG:Stmt:=top 16
theorem rK:FnScope ["ratio","bottom"] ["ratio","bottom"] (ad eG):=⟨rfl,rfl,rfl,by decide +kernel,rfl,by decide +kernel,by decide +kernel⟩
abbrev eJ:Stmt:=top 18
theorem rL:FnScope ["thing"] ["thing"] (ad eJ):=⟨rfl,rfl,rfl,by decide +kernel,rfl,by decide +kernel,by decide +kernel⟩
abbrev dr:Stmt:=top 19
theorem qh:FnScope ["thing","least","most"] ["thing","least","most"] (ad dr):=⟨rfl,rfl,rfl,by decide +kernel,rfl,by decide +kernel,by decide +kernel⟩
abbrev eK:Stmt:=top 20
theorem sc_together:FnScope ["counts","tried","well"] ["counts"] (ad eK):=⟨rfl,rfl,rfl,by decide +kernel,rfl,by decide +kernel,by decide +kernel⟩
abbrev aU:Stmt:=top 21
theorem iu:FnScope ["many","rows"] ["many","rows"] (ad aU):=⟨rfl,rfl,rfl,by decide +kernel,rfl,by decide +kernel,by decide +kernel⟩
abbrev eL:Stmt:=top 22
theorem rM:FnScope ["count"] ["count"] (ad eL):=⟨rfl,rfl,rfl,by decide +kernel,rfl,by decide +kernel,by decide +kernel⟩
abbrev cr:Stmt:=top 24
theorem mX:FnScope ["many","house"] ["many","house"] (ad cr):=⟨rfl,rfl,rfl,by decide +kernel,rfl,by decide +kernel,by decide +kernel⟩
abbrev cQ:Stmt:=top 25
theorem ou:FnScope ["many","a","b"] ["many","a","b"] (ad cQ):=⟨rfl,rfl,rfl,by decide +kernel,rfl,by decide +kernel,by decide +kernel⟩
abbrev du:Stmt:=top 26
theorem qi:FnScope ["table"] ["table"] (ad du):=⟨rfl,rfl,rfl,by decide +kernel,rfl,by decide +kernel,by decide +kernel⟩
abbrev fK:Stmt:=top 28
theorem ug:FnScope ["table"] ["table"] (ad fK):=⟨rfl,rfl,rfl,by decide +kernel,rfl,by decide +kernel,by decide +kernel⟩
abbrev cR:Stmt:=top 30
theorem sc_weights_of:FnScope ["table","house","tried"] ["table","house"] (ad cR):=⟨rfl,rfl,rfl,by decide +kernel,rfl,by decide +kernel,by decide +kernel⟩
abbrev fL:Stmt:=top 31
theorem uh:FnScope ["table","house"] ["table","house"] (ad fL):=⟨rfl,rfl,rfl,by decide +kernel,rfl,by decide +kernel,by decide +kernel⟩
abbrev cu:Stmt:=top 32
theorem sc_whole_count:FnScope ["table","house","count"] ["table","house"] (ad cu):=⟨rfl,rfl,rfl,by decide +kernel,rfl,by decide +kernel,by decide +kernel⟩
abbrev dw:Stmt:=top 33
theorem qj:FnScope ["table","house"] ["table","house"] (ad dw):=⟨rfl,rfl,rfl,by decide +kernel,rfl,by decide +kernel,by decide +kernel⟩
abbrev cS:Stmt:=top 34
theorem sc_ends_among:FnScope ["ratios","places","least","greatest","place"] ["ratios"] (ad cS):=⟨rfl,rfl,rfl,by decide +kernel,rfl,by decide +kernel,by decide +kernel⟩
abbrev bf:Stmt:=top 36
theorem sc_check_same_parts:FnScope ["table","a","b","part","counts"] ["table","a","b"] (ad bf):=⟨rfl,rfl,rfl,by decide +kernel,rfl,by decide +kernel,by decide +kernel⟩
abbrev cw:Stmt:=top 38
theorem sc_mixed_share:FnScope ["table","house","weights","pieces","part","weight"] ["table","house","weights"] (ad cw):=⟨rfl,rfl,rfl,by decide +kernel,rfl,by decide +kernel,by decide +kernel⟩
abbrev jQ:Stmt:=top 40
theorem sc_reach:FnScope ["table","a","b","greatest","moved","share","corners","low","weight"] ["table","a","b"] (ad jQ):=⟨rfl,rfl,rfl,by decide +kernel,rfl,by decide +kernel,by decide +kernel⟩
abbrev jR:Stmt:=top 41
theorem sc_level:FnScope ["table","a","b","corners","ends","due","place","bar","rest","least","weights"] ["table","a","b"] (ad jR):=⟨rfl,rfl,rfl,by decide +kernel,rfl,by decide +kernel,by decide +kernel⟩
abbrev ip:Stmt:=top 42
theorem sc_levels:FnScope ["table","a","b","tried","part","share","whole"] ["table","a","b"] (ad ip):=⟨rfl,rfl,rfl,by decide +kernel,rfl,by decide +kernel,by decide +kernel⟩
abbrev iq:Stmt:=top 43
theorem sc_rising:FnScope ["shares","bottom"] ["shares"] (ad iq):=⟨rfl,rfl,rfl,by decide +kernel,rfl,by decide +kernel,by decide +kernel⟩
abbrev bW:Stmt:=top 44
theorem sc_weights_left:FnScope ["table","a","b","bar","rest","told","weight","share","taken"] ["table","a","b","bar","rest"] (ad bW):=⟨rfl,rfl,rfl,by decide +kernel,rfl,by decide +kernel,by decide +kernel⟩
abbrev eM:Stmt:=top 46
theorem rN:FnScope ["_law_script"] ["_law_script"] (ad eM):=⟨rfl,rfl,rfl,by decide +kernel,rfl,by decide +kernel,by decide +kernel⟩
abbrev dz:Stmt:=top 47
theorem sc__law_next:FnScope ["_law_pen_here","_law_many","_law_script","_law_turn","_law_left","_law_cell","_law_number"] ["_law_pen_here","_law_many"] (ad dz):=⟨rfl,rfl,rfl,by decide +kernel,rfl,by decide +kernel,by decide +kernel⟩
abbrev dA:Stmt:=top 48
theorem sc__law_part:FnScope ["_law_pen_here","_law_many","_law_far","_law_raised","_law_found","_law_house","_law_tried","_law_well"] ["_law_pen_here","_law_many","_law_far","_law_raised"] (ad dA):=⟨rfl,rfl,rfl,by decide +kernel,rfl,by decide +kernel,by decide +kernel⟩
abbrev cT:Stmt:=top 49
theorem sc__law_table:FnScope ["_law_pen_here","_law_many","_law_far","_law_raised","_law_table_here","_law_k","_law_part_here"] ["_law_pen_here","_law_many"] (ad cT):=⟨rfl,rfl,rfl,by decide +kernel,rfl,by decide +kernel,by decide +kernel⟩
abbrev bn:Stmt:=top 50
theorem sc__law_at_the_top:FnScope ["_law_table_here","_law_top_here","_law_part_here"] ["_law_table_here"] (ad bn):=⟨rfl,rfl,rfl,by decide +kernel,rfl,by decide +kernel,by decide +kernel⟩
abbrev eO:Stmt:=top 51
theorem sc__law_low:FnScope ["_law_top_here","_law_bottom","_law_one","_law_other"] ["_law_top_here","_law_bottom"] (ad eO):=⟨rfl,rfl,rfl,by decide +kernel,rfl,by decide +kernel,by decide +kernel⟩
abbrev dD:Stmt:=top 52
theorem qk:FnScope ["_law_one","_law_other"] ["_law_one","_law_other"] (ad dD):=⟨rfl,rfl,rfl,by decide +kernel,rfl,by decide +kernel,by decide +kernel⟩
abbrev dE:Stmt:=top 53
theorem qo:FnScope ["_law_one","_law_other"] ["_law_one","_law_other"] (ad dE):=⟨rfl,rfl,rfl,by decide +kernel,rfl,by decide +kernel,by decide +kernel⟩
abbrev cU:Stmt:=top 54
theorem ox:FnScope ["_law_one","_law_other"] ["_law_one","_law_other"] (ad cU):=⟨rfl,rfl,rfl,by decide +kernel,rfl,by decide +kernel,by decide +kernel⟩
abbrev bI:Stmt:=top 55
theorem sc__law_is_ratio:FnScope ["_law_thing","_law_number"] ["_law_thing"] (ad bI):=⟨rfl,rfl,rfl,by decide +kernel,rfl,by decide +kernel,by decide +kernel⟩
abbrev cV:Stmt:=top 56
theorem sc__law_mixed:FnScope ["_law_weights","_law_shares","_law_total","_law_weight","_law_share"] ["_law_weights","_law_shares"] (ad cV):=⟨rfl,rfl,rfl,by decide +kernel,rfl,by decide +kernel,by decide +kernel⟩
abbrev aS:Stmt:=top 57
theorem sc__law_weights_right:FnScope ["_law_weights","_law_mine","_law_m","_law_total","_law_above","_law_weight","_law_one","_law_more"] ["_law_weights","_law_mine","_law_m"] (ad aS):=⟨rfl,rfl,rfl,by decide +kernel,rfl,by decide +kernel,by decide +kernel⟩
abbrev bv:Stmt:=top 58
theorem sc__law_bar_right:FnScope ["_law_bar","_law_m","_law_top_here","_law_missing","_law_mine","_law_shares","_law_total","_law_one","_law_share"] ["_law_bar","_law_m","_law_top_here","_law_missing","_law_mine","_law_shares"] (ad bv):=⟨rfl,rfl,rfl,by decide +kernel,rfl,by decide +kernel,by decide +kernel⟩
abbrev eP:Stmt:=top 59
theorem sc__law_top:FnScope ["_law_shares","_law_top_here","_law_k","_law_share"] ["_law_shares"] (ad eP):=⟨rfl,rfl,rfl,by decide +kernel,rfl,by decide +kernel,by decide +kernel⟩
abbrev cX:Stmt:=top 60
theorem sc__law_right:FnScope ["_law_table_here","_law_a","_law_b","_law_total","_law_mine","_law_shares","_law_goal","_law_top_here","_law_j","_law_found","_law_word","_law_m","_law_weights","_law_bar","_law_missing","_law_come"] ["_law_table_here","_law_a","_law_b"] (ad cX):=⟨rfl,rfl,rfl,by decide +kernel,rfl,by decide +kernel,by decide +kernel⟩
abbrev oy:Stmt:=top 61
theorem sc_law:FnScope ["_law_script","_law_pen_here","_law_many","_law_table_here","_law_kept","_law_some","_law_a","_law_b"] ["_law_script"] (ad oy):=⟨rfl,rfl,rfl,by decide +kernel,rfl,by decide +kernel,by decide +kernel⟩
set_option genInjectivity false in
set_option genSizeOf false in
structure Tx [DL.TB] (K:PySem.W.Frag) (mg:Str->Option Value) where
 df:Addr
 cK:FuncData
 aK:Df K mg "greatest_divisor" bc ["one","other"] df cK
 jY:Addr
 iX:FuncData
 aE:Df K mg "ratio_of" eF ["top","bottom"] jY iX
 wv:Addr
 rY:FuncData
 dX:Df K mg "plus" nC ["one","other"] wv rY
 si:Addr
 oP:FuncData
 cg:Df K mg "minus" jN ["one","other"] si oP
 rZ:Addr
 oS:FuncData
 gQ:Df K mg "times" jO ["one","other"] rZ oS
 wx:Addr
 se:FuncData
 qN:Df K mg "over" nD ["one","other"] wx se
 ww:Addr
 sf:FuncData
 ci:Df K mg "less" nE ["one","other"] ww sf
 oO:Addr
 ly:FuncData
 eX:Df K mg "total" jP ["ratios"] oO ly
 oN:Addr
 mP:FuncData
 jD:Df K mg "lesser" io ["one","other"] oN mP
 eZ:Addr
 eA:FuncData
 cm:Df K mg "common_bottom" bH ["ratios"] eZ eA
 km:Addr
 iP:FuncData
 fP:Df K mg "top_over" eG ["ratio","bottom"] km iP
 kq:Addr
 iN:FuncData
 fO:Df K mg "is_whole" eJ ["thing"] kq iN
 ja:Addr
 gS:FuncData
 fc:Df K mg "is_within" dr ["thing","least","most"] ja gS
 kc:Addr
 iV:FuncData
 fN:Df K mg "together" eK ["counts"] kc iV
 cM:Addr
 cA:FuncData
 br:Df K mg "together_by_house" aU ["many","rows"] cM cA
 kj:Addr
 iR:FuncData
 bJ:Df K mg "share_of" eL ["count"] kj iR
 gi:Addr
 fC:FuncData
 aQ:Df K mg "check_house" cr ["many","house"] gi fC
 gX:Addr
 gl:FuncData
 dU:Df K mg "check_pair" cQ ["many","a","b"] gX gl
 iY:Addr
 gZ:FuncData
 bu:Df K mg "houses_of" du ["table"] iY gZ
 mM:Addr
 kg:FuncData
 gU:Df K mg "sums_of" fK ["table"] mM kg
 gR:Addr
 gk:FuncData
 aX:Df K mg "weights_of" cR ["table","house"] gR gk
 mQ:Addr
 jZ:FuncData
 dS:Df K mg "ends_of" fL ["table","house"] mQ jZ
 gf:Addr
 fG:FuncData
 ay:Df K mg "whole_count" cu ["table","house"] gf fG
 iU:Addr
 gP:FuncData
 bo:Df K mg "shares_in" dw ["table","house"] iU gP
 ib:Addr
 gd:FuncData
 dR:Df K mg "ends_among" cS ["ratios"] ib gd
 dh:Addr
 cL:FuncData
 bB:Df K mg "check_same_parts" bf ["table","a","b"] dh cL
 gv:Addr
 fE:FuncData
 dl:Df K mg "mixed_share" cw ["table","house","weights"] gv fE
 oM:Addr
 lz:FuncData
 mR:Df K mg "reach" jQ ["table","a","b"] oM lz
 sg:Addr
 oT:FuncData
 mK:Df K mg "level" jR ["table","a","b"] sg oT
 oR:Addr
 mU:FuncData
 fy:Df K mg "levels" ip ["table","a","b"] oR mU
 oQ:Addr
 jB:FuncData
 jC:Df K mg "rising" iq ["shares"] oQ jB
 fF:Addr
 eV:FuncData
 cG:Df K mg "weights_left" bW ["table","a","b","bar","rest"] fF eV
 ko:Addr
 iT:FuncData
 fQ:Df K mg "_law_pen" eM ["_law_script"] ko iT
 gh:Addr
 fx:FuncData
 aj:Df K mg "_law_next" dz ["_law_pen_here","_law_many"] gh fx
 iZ:Addr
 hU:FuncData
 ck:Df K mg "_law_part" dA ["_law_pen_here","_law_many","_law_far","_law_raised"] iZ hU
 hV:Addr
 gc:FuncData
 dW:Df K mg "_law_table" cT ["_law_pen_here","_law_many"] hV gc
 dM:Addr
 dg:FuncData
 bK:Df K mg "_law_at_the_top" bn ["_law_table_here"] dM dg
 kh:Addr
 iO:FuncData
 aD:Df K mg "_law_low" eO ["_law_top_here","_law_bottom"] kh iO
 iW:Addr
 ia:FuncData
 aR:Df K mg "_law_plus" dD ["_law_one","_law_other"] iW ia
 iQ:Addr
 hZ:FuncData
 aq:Df K mg "_law_less" dE ["_law_one","_law_other"] iQ hZ
 gT:Addr
 gj:FuncData
 aY:Df K mg "_law_times" cU ["_law_one","_law_other"] gT gj
 eY:Addr
 eB:FuncData
 aI:Df K mg "_law_is_ratio" bI ["_law_thing"] eY eB
 ic:Addr
 gg:FuncData
 bR:Df K mg "_law_mixed" cV ["_law_weights","_law_shares"] ic gg
 cB:Addr
 cj:FuncData
 bi:Df K mg "_law_weights_right" aS ["_law_weights","_law_mine","_law_m"] cB cj
 eC:Addr
 dL:FuncData
 bV:Df K mg "_law_bar_right" bv ["_law_bar","_law_m","_law_top_here","_law_missing","_law_mine","_law_shares"] eC dL
 kf:Addr
 iS:FuncData
 fR:Df K mg "_law_top" eP ["_law_shares"] kf iS
 gY:Addr
 gu:FuncData
 bQ:Df K mg "_law_right" cX ["_law_table_here","_law_a","_law_b"] gY gu
 Ai:Addr
 wy:FuncData
 Cs:Df K mg "law" oy ["_law_script"] Ai wy
 qM:mg "ValueError" = none
 Ah:mg "abs" = none
 wz:mg "sum" = none
 kl:mg "tuple" = none
 ki:mg "len" = none
 fg:mg "enumerate" = none
 uA:mg "zip" = none
 tM:mg "sorted" = none
 mN:mg "range" = none
 tN:mg "list" = none
 bA:mg "isinstance" = none
 xP:mg "int" = none
 wu:mg "bool" = none
 ff:∃ c P,jB.code = .ref c /\ PySem.W.codeHdIn K c P=true /\ DL.TB.tb.lookup P=some ("rising.<locals>.<lambda>" : Str)
open DL
section
variable {P:Program} {w:World} {K:PySem.W.Frag} {mg:Str->Option Value} {base:Heap} [DL.TB]
theorem rO (T:Tx K mg):FnOk P w K mg base CX0 1 T.ko T.iT ["_law_script"] (xV K):=by
 refine T.fQ.F.ok rN (fun vs H Q E h=>?_) (fun cdv A outer s H vs Q E hr h=>?_)
 ·obtain ⟨a,ns,rfl,_⟩:=h
  rfl
 ·obtain ⟨a,ns,rfl,hs,k⟩:=h
  refine ⟨_,(iD (oW (xT (eQ (pv 0) (eQ cz (eQ cz jb)))))),?_⟩
  refine ⟨_,rfl,(by show (3:Nat) <= sizeLine; decide),fun p hp=>?_⟩
  refine k p _ hp ⟨au,?_,Int.le_refl 0⟩ (sx hp)
  rcases hs with ⟨o,e⟩ | e
  ·exact .inl ⟨o,dY hp e⟩
  ·exact .inr e
theorem qq (T:Tx K mg):FnOk P w K mg base CX0 1 T.gh T.fx ["_law_pen_here","_law_many"] (vf K):=by
 refine T.aj.F.ok sc__law_next (fun vs H Q E h=>?_) (fun cdv A outer s H vs Q E hr h=>?_)
 ·obtain ⟨p,a,ns,t,l,m,rfl,_⟩:=h
  rfl
 ·obtain ⟨p,a,ns,t,l,m,rfl,pen,m1,m2,k⟩:=h
  refine ⟨_,(bY (oX (pv 0) (Bi rfl (kY (nH (i:=2) sc__law_next.nd rfl (Or.inl rfl)) (kY (nH (i:=3) sc__law_next.nd rfl (Or.inl rfl)) (kY (nH (i:=4) sc__law_next.nd rfl (Or.inl rfl)) uG)))))
   (bY (wD (lD CD (pv 4) cz (aA _)) (bY (oX (fh lC (pv 3) cz) (uH (pv 0) cz nJ))
   (bY (wD (PW.pt (Au (lD CG (pv 3) (kZ dO rfl T.ki PySem.boot_len (eQ (pv 2) jb)) (aA _)) (xQ (lD AK (uS nI (pv 2) (pv 3) (fun _ _=>rfl)) (fh xR cz cz) (aA _))))) (bY (iy (i:=5) sc__law_next.nd rfl (Or.inl rfl) cz)
   (bY (wD (lD AL (kZ dO rfl T.ki PySem.boot_len (eQ (pv 2) jb)) cz (aA _)) (iD (iy (i:=5) sc__law_next.nd rfl (Or.inl rfl) (fh kr (uS nI (pv 2) (fh kr (pv 3) (kZ dO rfl T.ki PySem.boot_len (eQ (pv 2) jb))) (fun _ _=>rfl)) cz))) nG)
   (bY (iy (i:=6) sc__law_next.nd rfl (Or.inl rfl) (fh kr (fh jG (fh lC (fh lC (pv 5) (fh jG cz (pv 3))) cz) cz) cz))
   (bY (iy (i:=6) sc__law_next.nd rfl (Or.inl rfl) (fh kr (fh lC (fh lC (fh jG (pv 6) (pv 6)) (fh jG cz (pv 3))) cz) cz))
   (iD (oW (fh kr (fh nQ (fh kr (fh jG (pv 6) (fh lC (pv 6) cz)) cz) cz) (pv 1)))))))) nG)
   (iD (iy (i:=4) sc__law_next.nd rfl (Or.inl rfl) (uS nI (pv 2) (pv 3) (fun _ _=>rfl)))))) nG)
   (bY (oX (fh nQ (pv 4) (pv 1)) (uH (pv 0) cz nJ))
   (iD (oW (fh kr (pv 4) (pv 1))))))),?_⟩
  have ht:=pen.t0
  have hm:(0:Int) < m:=by omega
  -- the pen's three parts
  refine ⟨_,rfl,p,_,rfl,pen.lst,rfl,_,_,rfl,_,_,rfl,_,_,rfl,rfl,?_⟩
  -- if left == 0
  refine ⟨_,rfl,rfl,_,rfl,?_⟩
  refine ite2 (fun hl=>?_) (fun hl=>?_)
  ·-- pen[1]=turn + 1
   refine ⟨_,rfl,_,_,rfl,rfl,_,rfl,p,_,1,1,rfl,rfl,pen.lst,rfl,?_⟩
   have pen1:Pen K (upd H p (.lst [.ref a,.int (t + 1),.int l])) p a ns (t + 1) l:=pen.put (by omega)
   have sq:=pen1.scr.sq
   -- if turn >= len(script) or script[turn] < 10 ** 18
   refine ⟨_,rfl,_,rfl,a,_,rfl,.inl sq,_,_,rfl,rfl,_,rfl,?_⟩
   refine ite2 (fun h1=>iteT ?_) (fun h1=>⟨_,rfl,_,rfl,a,_,t,_,rfl,rfl,sq,vd ht (by simp only [decide_eq_true_eq,List.length_map] at h1; omega),_,_,rfl,rfl,⟨by decide,by decide,by decide⟩,_,_,rfl,rfl,_,rfl,ite2 (fun h2=>?_) (fun h2=>?_)⟩)
   rotate_left 2
   ·-- left=script[turn]; pen[2]=left // many; return left % many
    simp only [decide_eq_true_eq,List.length_map] at h1
    refine ⟨_,rfl,_,rfl,a,_,t,_,rfl,rfl,sq,vd ht (by omega),?_⟩
    refine ⟨_,rfl,_,rfl,_,_,rfl,rfl,⟨hm,vg (by omega) (by omega)⟩,_,rfl,p,_,2,2,rfl,rfl,pen1.lst,rfl,?_⟩
    refine ⟨_,rfl,_,rfl,_,_,rfl,rfl,hm,?_⟩
    exact k _ (t + 1) _ _ (Int.emod_nonneg _ (by omega)) (Int.emod_lt_of_pos _ hm) (pen1.put (by omega)) (SBut.upd.trans SBut.upd)
   all_goals
    -- cell = ..; if len(script) > 0: cell=script[turn % len(script)] % ..
    refine ⟨_,rfl,a,_,rfl,.inl sq,_,_,rfl,rfl,_,rfl,?_⟩
    refine ite2 (fun h3=>?_) (fun h3=>?_)
    ·simp only [decide_eq_true_eq,List.length_map] at h3
     refine ⟨_,rfl,_,rfl,_,rfl,a,_,rfl,.inl sq,_,_,rfl,rfl,(by show (0:Int) < ((ns.map V.int).length:Int); rw [List.length_map]; omega),a,_,_,_,rfl,rfl,sq,vd (by rw [List.length_map]; exact Int.emod_nonneg _ (by omega)) (by rw [List.length_map]; exact Int.emod_lt_of_pos _ (by omega)),_,_,rfl,rfl,mpos,?_⟩
     refine ⟨_,rfl,_,rfl,_,_,rfl,rfl,wT,_,_,rfl,rfl,_,_,rfl,rfl,_,_,rfl,rfl,Bj,_,_,rfl,rfl,mpos,?_⟩
     refine ⟨_,rfl,_,rfl,_,_,rfl,rfl,nR (by decide) (by decide),_,rfl,_,_,rfl,rfl,wT,_,_,rfl,rfl,_,_,rfl,rfl,_,_,rfl,rfl,mpos,?_⟩
     refine ⟨_,rfl,_,rfl,_,_,rfl,rfl,_,_,rfl,rfl,nR (by decide) (by decide),_,_,rfl,rfl,mpos,_,_,rfl,rfl,⟨by decide,fH (by decide) (by decide)⟩,_,rfl,_,_,rfl,rfl,hm,?_⟩
     exact k _ (t + 1) _ _ (Int.emod_nonneg _ (by omega)) (Int.emod_lt_of_pos _ hm) pen1 SBut.upd
    ·refine ⟨_,rfl,_,rfl,_,_,rfl,rfl,wT,_,_,rfl,rfl,_,_,rfl,rfl,_,_,rfl,rfl,Bj,_,_,rfl,rfl,mpos,?_⟩
     refine ⟨_,rfl,_,rfl,_,_,rfl,rfl,nR (by decide) (by decide),_,rfl,_,_,rfl,rfl,wT,_,_,rfl,rfl,_,_,rfl,rfl,_,_,rfl,rfl,mpos,?_⟩
     refine ⟨_,rfl,_,rfl,_,_,rfl,rfl,_,_,rfl,rfl,nR (by decide) (by decide),_,_,rfl,rfl,mpos,_,_,rfl,rfl,⟨by decide,fH (by decide) (by decide)⟩,_,rfl,_,_,rfl,rfl,hm,?_⟩
     exact k _ (t + 1) _ _ (Int.emod_nonneg _ (by omega)) (Int.emod_lt_of_pos _ hm) pen1 SBut.upd
  ·-- pen[2]=left // many; return left % many
   refine ⟨_,rfl,_,rfl,_,_,rfl,rfl,⟨hm,vg (by omega) (by omega)⟩,_,rfl,p,_,2,2,rfl,rfl,pen.lst,rfl,?_⟩
   refine ⟨_,rfl,_,rfl,_,_,rfl,rfl,hm,?_⟩
   exact k _ t _ _ (Int.emod_nonneg _ (by omega)) (Int.emod_lt_of_pos _ hm) (pen.put ht) SBut.upd
theorem aO (T:Tx K mg):FnOk P w K mg base CX0 1 T.gh T.fx ["_law_pen_here","_law_many"] (spD K 2 tZ):=zj (qq T)
theorem aP:aV tZ:=vp
theorem fq:aV gGcd:=xa
def muG (ρ:DS):Nat:=match slot ρ 1 with
 | .val (.int y)=>y.natAbs
 | _=>0
theorem ft (T:Tx K mg):FnOk P w K mg base CX0 1 T.df T.cK ["one","other"] (spD K 2 gGcd):=by
 refine fnD (k:=0) T.aK.F sc_greatest_divisor (fun cdv A outer s H E hr=>(aW (nU PassesOwn.never (aH (nW hr) (ac 1 (pv 1)) ae (aA _)) (ai (az (i:=2) sc_greatest_divisor.nd rfl (by first | exact Or.inl rfl | exact Or.inr rfl) (aL zc (ac 0 (pv 0)) (ac 1 (pv 1))))
   (ai (az (i:=0) sc_greatest_divisor.nd rfl (by first | exact Or.inl rfl | exact Or.inr rfl) (ac 1 (pv 1)))
   (ah (az (i:=1) sc_greatest_divisor.nd rfl (by first | exact Or.inl rfl | exact Or.inr rfl) (ac 2 (pv 2)))))))
   (ah (aC (aN xY rfl T.Ah rfl (aa (ac 0 (pv 0)) af)))))) (fun ds Q hl h=>?_)
 unfold gGcd at h
 split at h
 case h_2=>exact h.elim
 rename_i a b
 refine ⟨fun ρ=>∃ (x:Int) (s:Sl),ρ=[.val (.int x),.val (.int 0),s] /\ Int.gcd x 0=Int.gcd a b,?_,?_⟩
 ·refine jK (fun ρ=>∃ (x y:Int) (s:Sl),ρ=[.val (.int x),.val (.int y),s] /\ Int.gcd x y=Int.gcd a b) muG (fun ρ X hN hX=>?_) _ ⟨a,b,_,rfl,rfl⟩
  obtain ⟨x,y,s,rfl,e⟩:=hN
  refine ⟨⟨rfl,rfl⟩,fun hy=>?_,fun hy=>?_⟩
  ·have hy:y≠0:=by simpa [bG] using hy
   exact ⟨hy,hX _ ⟨y,x.fmod y,_,rfl,by rw [Ra.gcd_step hy,e]⟩ (Ra.fmod_less hy)⟩
  ·have hy:y=0:=by simpa [bG] using hy
   subst hy
   exact ⟨x,s,rfl,e⟩
 ·rintro _ ⟨x,s,rfl,e⟩
  show Q (.int (if x < 0 then -x else x))
  rw [Ra.gcd_zero,e]
  exact h
theorem dG:aV pW:=ua
theorem dH (T:Tx K mg):FnOk P w K mg base CX0 2 T.jY T.iX ["top","bottom"] (spD K 2 pW):=by
 refine fnD (k:=1) T.aE.F sc_ratio_of (fun cdv A outer s H E hr=>(ai (bE (aH (ej hr) (ac 1 (pv 1)) ae (aA _)) (ah ik) aF)
   (ai (az (i:=2) sc_ratio_of.nd rfl (by first | exact Or.inl rfl | exact Or.inr rfl) (ag (ft T) fq (hr.mono (by decide)) rfl T.aK.m T.aK.F.kp T.aK.b (aa (ac 0 (pv 0)) (aa (ac 1 (pv 1)) af))))
   (aW (bE (aH wW (ac 1 (pv 1)) ae (aA _)) (ah (az (i:=2) sc_ratio_of.nd rfl (by first | exact Or.inl rfl | exact Or.inr rfl) (De Bx (ac 2 (pv 2))))) aF)
   (ah (aC (bO (aa (aL sG (ac 0 (pv 0)) (ac 2 (pv 2))) (aa (aL sG (ac 1 (pv 1)) (ac 2 (pv 2))) af))))))))) (fun ds Q hl h=>?_)
 unfold pW at h
 split at h
 case h_2=>exact h.elim
 rename_i a b
 obtain ⟨⟨hb,ba,bb⟩,h⟩:=h
 refine ⟨⟨rfl,rfl⟩,fun e=>?_,fun _=>?_⟩
 ·exact hb (by simpa [bG] using e)
 refine ⟨rfl,?_⟩
 refine ⟨fun ρ=>∃ d:Int,d=(if b < 0 then -((Int.gcd a b:Nat):Int) else ((Int.gcd a b:Nat):Int)) /\ ρ=[.val (.int a),.val (.int b),.val (.int d)],⟨fun e=>?_,fun e=>?_⟩,?_⟩
 ·have e:b < 0:=by simpa using e
  exact ⟨_,by rw [if_pos e],rfl⟩
 ·have e:¬ b < 0:=by simpa using e
  exact ⟨_,by rw [if_neg e],rfl⟩
 ·rintro _ ⟨d,hd,rfl⟩
  have hg:0 < Int.gcd a b:=Int.gcd_pos_of_ne_zero_right a hb
  have hgb:Int.gcd a b <= b.natAbs:=Nat.le_of_dvd (Int.natAbs_pos.mpr hb) (Int.gcd_dvd_natAbs_right a b)
  have hd0:d≠0:=by rw [hd]; split <;> omega
  have hdb:Big d:=(bb.le (i:=d) (by rw [hd]; split <;> omega)).big (by decide)
  exact ⟨⟨hd0,hdb⟩,⟨hd0,hdb⟩,sz,h _ _ (Ra.low_of hb hd)⟩
theorem mj:aV sM:=rC
theorem ml (T:Tx K mg):FnOk P w K mg base CX0 3 T.si T.oP ["one","other"] (spD K 2 sM):=by
 refine fnD (k:=2) T.cg.F xy (fun cdv A outer s H E hr=>(ah (aC (ag (dH T) dG (hr.mono (by decide)) rfl T.aE.m T.aE.F.kp T.aE.b (aa (aL vn (aL bF (ak (ac 0 (pv 0)) ae (fun _ _=>rfl)) (ak (ac 1 (pv 1)) ae (fun _ _=>rfl))) (aL bF (ak (ac 1 (pv 1)) ae (fun _ _=>rfl)) (ak (ac 0 (pv 0)) ae (fun _ _=>rfl)))) (aa (aL bF (ak (ac 0 (pv 0)) ae (fun _ _=>rfl)) (ak (ac 1 (pv 1)) ae (fun _ _=>rfl))) af)))))) (fun ds Q hl h=>?_)
 unfold sM gRR at h
 split at h
 case h_2=>exact h.elim
 rename_i a b c d
 obtain ⟨⟨hb,b1,b2,b3,b4⟩,h⟩:=h
 exact ⟨b1.cmul b4,b3.cmul b2,b2.cmul b4,rfl,⟨hb,((b1.mul b4).sub (b3.mul b2)).mono (by decide),(b2.mul b4).mono (by decide)⟩,h⟩
theorem vN:aV sN:=rC
theorem vO (T:Tx K mg):FnOk P w K mg base CX0 3 T.rZ T.oS ["one","other"] (spD K 2 sN):=by
 refine fnD (k:=2) T.gQ.F xz (fun cdv A outer s H E hr=>(ah (aC (ag (dH T) dG (hr.mono (by decide)) rfl T.aE.m T.aE.F.kp T.aE.b (aa (aL bF (ak (ac 0 (pv 0)) ae (fun _ _=>rfl)) (ak (ac 1 (pv 1)) ae (fun _ _=>rfl))) (aa (aL bF (ak (ac 0 (pv 0)) ae (fun _ _=>rfl)) (ak (ac 1 (pv 1)) ae (fun _ _=>rfl))) af)))))) (fun ds Q hl h=>?_)
 unfold sN gRR at h
 split at h
 case h_2=>exact h.elim
 rename_i a b c d
 obtain ⟨⟨hb,b1,b2,b3,b4⟩,h⟩:=h
 exact ⟨b1.cmul b3,b2.cmul b4,rfl,⟨hb,(b1.mul b3).mono (by decide),(b2.mul b4).mono (by decide)⟩,h⟩
theorem BX:aV xb:=rC
theorem BY (T:Tx K mg):FnOk P w K mg base CX0 3 T.wx T.se ["one","other"] (spD K 2 xb):=by
 refine fnD (k:=2) T.qN.F zJ (fun cdv A outer s H E hr=>(ah (aC (ag (dH T) dG (hr.mono (by decide)) rfl T.aE.m T.aE.F.kp T.aE.b (aa (aL bF (ak (ac 0 (pv 0)) ae (fun _ _=>rfl)) (ak (ac 1 (pv 1)) ae (fun _ _=>rfl))) (aa (aL bF (ak (ac 0 (pv 0)) ae (fun _ _=>rfl)) (ak (ac 1 (pv 1)) ae (fun _ _=>rfl))) af)))))) (fun ds Q hl h=>?_)
 unfold xb gRR at h
 split at h
 case h_2=>exact h.elim
 rename_i a b c d
 obtain ⟨⟨hb,b1,b2,b3,b4⟩,h⟩:=h
 exact ⟨b1.cmul b4,b2.cmul b3,rfl,⟨hb,(b1.mul b4).mono (by decide),(b2.mul b3).mono (by decide)⟩,h⟩
theorem mn:aV ub:=vv
theorem mq (T:Tx K mg):FnOk P w K mg base CX0 1 T.ww T.sf ["one","other"] (spD K 2 ub):=by
 refine fnD (k:=0) T.ci.F zK (fun cdv A outer s H E hr=>(ah (aC (eD wW (aL bF (ak (ac 0 (pv 0)) ae (fun _ _=>rfl)) (ak (ac 1 (pv 1)) ae (fun _ _=>rfl))) (aL bF (ak (ac 1 (pv 1)) ae (fun _ _=>rfl)) (ak (ac 0 (pv 0)) ae (fun _ _=>rfl))) (aA _))))) (fun ds Q hl h=>?_)
 unfold ub at h
 split at h
 case h_2=>exact h.elim
 rename_i a b c d
 obtain ⟨⟨b1,b2,b3,b4⟩,h⟩:=h
 exact ⟨b1.cmul b4,b3.cmul b2,h⟩
def BZ:D->Bool
 | .int _=>true
 | _=>false
def gW:DSp:=fun ds Q=>match ds with
 | [d]=>wY d=true /\ Q (.bl (BZ d))
 | _=>False
theorem ui:aV gW:=fun ds P P' f h=>by
 unfold gW at h ⊢
 split at h
 ·exact ⟨h.1,f _ h.2⟩
 ·exact h.elim
theorem uj (T:Tx K mg):FnOk P w K mg base CX0 1 T.kq T.iN ["thing"] (spD K 1 gW):=by
 refine fnD (k:=0) T.fO.F rL (fun cdv A outer s H E hr=>(ah (aC (jk (aN pU rfl T.bA rfl (aa (ac 0 (pv 0)) (aa (pO (n:="int") rfl T.xP rfl) af))) (kC (Bn (aN nj rfl T.bA rfl (aa (ac 0 (pv 0)) (aa (pO (n:="bool") rfl T.wu rfl) af))))))))) (fun ds Q hl h=>?_)
 unfold gW at h
 split at h
 case h_2=>exact h.elim
 rename_i d
 obtain ⟨h1,h⟩:=h
 refine ⟨rfl,h1,?_⟩
 cases d with
 | int i=>exact Br.t ⟨rfl,h1,h⟩
 | bl i=>exact Br.t ⟨rfl,h1,h⟩
 | _=>exact Br.f h
def bx (c:Int×Int):D:=.tup [.int c.1,.int c.2]
def gTog:DSp:=fun ds Q=>match ds with
 | [.lst xs]=>∃ cs:List (Int×Int),xs=cs.map bx /\ cs.length <= 1000 /\ Q (.tup [.int (cs.map (·.1)).sum,.int (cs.map (·.2)).sum])
 | [.tup xs]=>∃ cs:List (Int×Int),xs=cs.map bx /\ cs.length <= 1000 /\ Q (.tup [.int (cs.map (·.1)).sum,.int (cs.map (·.2)).sum])
 | _=>False
theorem uk:aV gTog:=fun ds P P' f h=>by
 unfold gTog at h ⊢
 split at h
 ·obtain ⟨cs,a,b,h⟩:=h
  exact ⟨cs,a,b,f _ h⟩
 ·obtain ⟨cs,a,b,h⟩:=h
  exact ⟨cs,a,b,f _ h⟩
 ·exact h.elim
theorem Ca (cs:List (Int×Int)):(cs.map bx).map (fun d=>match d with | .tup (x::_)=>x | _=>.non)=(cs.map (·.1)).map D.int:=by
 rw [List.map_map,List.map_map]; rfl
theorem zL (cs:List (Int×Int)):(cs.map bx).map (fun d=>match d with | .tup [_,x]=>x | _=>.non)=(cs.map (·.2)).map D.int:=by
 rw [List.map_map,List.map_map]; rfl
theorem Dx {cs:List (Int×Int)} {s:Sl} {Q:List D->Prop} (hc:cs.length <= 1000) (hq:Q ((cs.map (·.1)).map D.int)):fB (iA 0) da (dOp gIx (dVar 0) (dC (.int 0))) (cs.map bx) [] [s] Q:=by
 refine jt (fun d=>match d with | .tup (x::_)=>x | _=>.non) (fun ρ=>∃ s,ρ=[s]) ?_ (fun d hd ρ Y Z hN hY=>?_) _ ⟨_,rfl⟩ ?_
 ·rw [List.length_map]; exact Nat.le_trans hc (by decide)
 ·obtain ⟨s,rfl⟩:=hN
  obtain ⟨c,_,rfl⟩:=List.mem_map.mp hd
  exact Br.t (hY _ ⟨_,rfl⟩)
 ·rw [Ca]; exact hq
theorem Dy {cs:List (Int×Int)} {s:Sl} {Q:List D->Prop} (hc:cs.length <= 1000) (hq:Q ((cs.map (·.2)).map D.int)):fB (iA 0) da (dOp gIx (dVar 0) (dC (.int 1))) (cs.map bx) [] [s] Q:=by
 refine jt (fun d=>match d with | .tup [_,x]=>x | _=>.non) (fun ρ=>∃ s,ρ=[s]) ?_ (fun d hd ρ Y Z hN hY=>?_) _ ⟨_,rfl⟩ ?_
 ·rw [List.length_map]; exact Nat.le_trans hc (by decide)
 ·obtain ⟨s,rfl⟩:=hN
  obtain ⟨c,_,rfl⟩:=List.mem_map.mp hd
  exact Br.t (hY _ ⟨_,rfl⟩)
 ·rw [zL]; exact hq
theorem um (T:Tx K mg):FnOk P w K mg base CX0 1 T.kc T.iV ["counts"] (spD K 1 gTog):=by
 refine fnD (k:=0) T.fN.F sc_together (fun cdv A outer s H E hr=>(ai (az (i:=1) sc_together.nd rfl (by first | exact Or.inl rfl | exact Or.inr rfl) (aN sQ rfl T.wz PyProof.Rows.boot_sum (aa (dP (PCD.pld (cJ (N':=["count"]) rfl rfl (by decide +kernel) rfl (.own .nil) (by decide +kernel) (vw (ac 0 (pv 0))) (fun B=>(aB (i:=0) (show List.Nodup (α:=PySem.Str) ["count"] by decide +kernel) rfl (by first | exact Or.inl rfl | exact Or.inr rfl))) (fun B=>eu) (fun B=>(ak (ac 0 (pv 0)) ae (fun _ _=>rfl)))))) af)))
   (ai (az (i:=2) sc_together.nd rfl (by first | exact Or.inl rfl | exact Or.inr rfl) (aN sQ rfl T.wz PyProof.Rows.boot_sum (aa (dP (PCD.pld (cJ (N':=["count"]) rfl rfl (by decide +kernel) rfl (.own .nil) (by decide +kernel) (vw (ac 0 (pv 0))) (fun B=>(aB (i:=0) (show List.Nodup (α:=PySem.Str) ["count"] by decide +kernel) rfl (by first | exact Or.inl rfl | exact Or.inr rfl))) (fun B=>eu) (fun B=>(ak (ac 0 (pv 0)) ae (fun _ _=>rfl)))))) af)))
   (ah (aC (bO (aa (ac 1 (pv 1)) (aa (ac 2 (pv 2)) af)))))))) (fun ds Q hl h=>?_)
 unfold gTog at h
 split at h
 case h_3=>exact h.elim
 all_goals
  obtain ⟨cs,rfl,hc,h⟩:=h
  refine Dx hc (lZ ?_)
  refine Dy hc (lZ ?_)
  exact ⟨sz,h⟩
def mr:DSp:=fun ds Q=>match ds with
 | [.tup [.int t,.int w]]=>(Bd 7000 t /\ Bd 7000 w) /\ (t=0->Q .non) /\ (t≠0->∀ x y,Ra.Low w t x y->Q (.tup [.int x,.int y]))
 | _=>False
theorem jS:aV mr:=fun ds P P' f h=>by
 unfold mr at h ⊢
 split at h
 ·exact ⟨h.1,fun e=>f _ (h.2.1 e),fun e x y l=>f _ (h.2.2 e x y l)⟩
 ·exact h.elim
theorem jT (T:Tx K mg):FnOk P w K mg base CX0 3 T.kj T.iR ["count"] (spD K 1 mr):=by
 refine fnD (k:=2) T.bJ.F rM (fun cdv A outer s H E hr=>(ai (bE (aH (ej hr) (ak (ac 0 (pv 0)) ae (fun _ _=>rfl)) ae (aA _)) (ah (aC fm)) aF)
   (ah (aC (ag (dH T) dG (hr.mono (by decide)) rfl T.aE.m T.aE.F.kp T.aE.b (aa (ak (ac 0 (pv 0)) ae (fun _ _=>rfl)) (aa (ak (ac 0 (pv 0)) ae (fun _ _=>rfl)) af))))))) (fun ds Q hl h=>?_)
 unfold mr at h
 split at h
 case h_2=>exact h.elim
 rename_i t w
 obtain ⟨⟨b1,b2⟩,h0,h1⟩:=h
 refine ⟨⟨rfl,rfl⟩,fun e=>?_,fun e=>?_⟩
 ·exact h0 (by simpa [bG] using e)
 ·have e:t≠0:=by simpa [bG] using e
  exact ⟨rfl,⟨e,b2,b1⟩,h1 e⟩
structure Cnt (n:Nat) (t w:Int):Prop where
 lo:0 <= w
 hi:w <= t
 bt:Bd n t
 bw:Bd n w
theorem Cnt.mono {m n:Nat} {t w:Int} (h:Cnt m t w) (l:m <= n):Cnt n t w:=⟨h.lo,h.hi,h.bt.mono l,h.bw.mono l⟩
theorem yg {n:Nat} {t w:Int} (lo:0 <= w) (hi:w <= t) (b:Bd n t):Cnt n t w:=⟨lo,hi,b,b.le (by omega)⟩
abbrev Row:=List (Int×Int)
def rowD (r:Row):D:=.tup (r.map bx)
def RowN (n m:Nat) (r:Row):Prop:=r.length=m /\ ∀ c∈r,Cnt n c.1 c.2
abbrev rP (m:Nat) (r:Row):Prop:=RowN 200 m r
theorem RowN.up {n m:Nat} {r:Row} (o:RowN n m r) (h:n <= 200:=by decide):rP m r:=⟨o.1,fun c hc=>(o.2 c hc).mono h⟩
structure Tbl (m:Nat) (t:List Row):Prop where
 m2:2 <= m
 m6:m <= 6
 p1:1 <= t.length
 p60:t.length <= 100
 rows:∀ r∈t,rP m r
def at_ (r:Row) (h:Nat):Int×Int:=r.getD h (0,0)
def col (t:List Row) (h:Nat):List (Int×Int):=t.map fun r=>at_ r h
def sumP (cs:List (Int×Int)):Int×Int:=((cs.map (·.1)).sum,(cs.map (·.2)).sum)
def sums (t:List Row) (m:Nat):Row:=(List.range m).map fun h=>sumP (col t h)
theorem cD {n m:Nat} {r:Row} (o:RowN n m r) {h:Nat} (hh:h < m):r[h]? = some (at_ r h) /\ Cnt n (at_ r h).1 (at_ r h).2:=by
 have hl:h < r.length:=by rw [o.1]; exact hh
 have e:r[h]? = some (at_ r h):=by
  unfold at_
  rw [List.getD_eq_getElem?_getD]
  simp [hl]
 exact ⟨e,o.2 _ (List.mem_of_getElem? e)⟩
theorem cf {n m:Nat} {r:Row} (o:RowN n m r) {h:Int} {Q:D->Prop} (h0:0 <= h) (h1:h < m) (q:Q (bx (at_ r h.toNat))):opt (atI (r.map bx) h) Q:=by
 refine fo h0 ?_ q
 rw [List.getElem?_map,(cD o (h:=h.toNat) (by omega)).1]
 rfl
def xA:DSp:=fun ds Q=>match ds with
 | [.int x,.int lo,.int hi]=>(lo <= x /\ x <= hi) /\ Q (.bl true)
 | _=>False
theorem rQ:aV xA:=fun ds P P' f h=>by
 unfold xA at h ⊢
 split at h
 ·exact ⟨h.1,f _ h.2⟩
 ·exact h.elim
theorem rR (T:Tx K mg):FnOk P w K mg base CX0 2 T.ja T.gS ["thing","least","most"] (spD K 3 xA):=by
 refine fnD (k:=1) T.fc.F qh (fun cdv A outer s H E hr=>(ah (aC (jk (ag (uj T) ui (hr.mono (by decide)) rfl T.fO.m T.fO.F.kp T.fO.b (aa (ac 0 (pv 0)) af)) (kC (wV wX wX (ac 1 (pv 1)) (ac 0 (pv 0)) (ac 2 (pv 2)))))))) (fun ds Q hl h=>?_)
 unfold xA at h
 split at h
 case h_2=>exact h.elim
 rename_i x lo hi
 obtain ⟨⟨h1,h2⟩,h⟩:=h
 have h':Q (.bl (decide (x <= hi))):=by rw [decide_eq_true h2]; exact h
 exact ⟨rfl,rfl,Br.t (Br.dt h1 h')⟩
def gChH:DSp:=fun ds Q=>match ds with
 | [.int m,.int h]=>(0 <= h /\ h < m) /\ Q .non
 | _=>False
theorem fU:aV gChH:=fun ds P P' f h=>by
 unfold gChH at h ⊢
 split at h
 ·exact ⟨h.1,f _ h.2⟩
 ·exact h.elim
theorem fV (T:Tx K mg):FnOk P w K mg base CX0 3 T.gi T.fC ["many","house"] (spD K 2 gChH):=by
 refine fnD (k:=2) T.aQ.F mX (fun cdv A outer s H E hr=>(ah (bE (gA (cO (ag (rR T) rQ (hr.mono (by decide)) rfl T.fc.m T.fc.F.kp T.fc.b (aa (ac 1 (pv 1)) (aa ae (aa (aL vn (ac 0 (pv 0)) ae) af)))))) (ah ik) aF))) (fun ds Q hl h=>?_)
 unfold gChH at h
 split at h
 case h_2=>exact h.elim
 obtain ⟨⟨h1,h2⟩,h⟩:=h
 exact ⟨rfl,⟨h1,by omega⟩,Br.f h⟩
def gHs:DSp:=fun ds Q=>match ds with
 | [.lst (.tup xs::_)]=>Q (.int xs.length)
 | _=>False
theorem iH:aV gHs:=fun ds P P' f h=>by
 unfold gHs at h ⊢
 split at h
 ·exact f _ h
 ·exact h.elim
theorem iI (T:Tx K mg):FnOk P w K mg base CX0 1 T.iY T.gZ ["table"] (spD K 1 gHs):=by
 refine fnD (k:=0) T.bu.F qi (fun cdv A outer s H E hr=>(ah (aC (aN jp rfl T.ki PySem.boot_len (aa (ak (ac 0 (pv 0)) ae (fun _ _=>rfl)) af))))) (fun ds Q hl h=>?_)
 unfold gHs at h
 split at h
 case h_2=>exact h.elim
 rename_i xs r
 exact fo (Int.le_refl 0) rfl h
theorem jU {m:Nat} {t:List Row} (o:Tbl m t) {Q:D->Prop} (q:Q (.int m)):gHs [.lst (t.map rowD)] Q:=by
 cases t with
 | nil=>have:=o.p1; simp at this
 | cons r rest =>
  have:=(o.rows r List.mem_cons_self).1
  show Q (.int ((r.map bx).length:Nat))
  rw [List.length_map,this]
  exact q
theorem xC {m:Nat} {t:List Row} (ho:∀ r∈t,rP m r) (hl:t.length <= 1000) {h:Int} (h0:0 <= h) (h1:h < m) {s:Sl} {Q:List D->Prop} (q:Q ((col t h.toNat).map bx)) :
  fB (iA 0) da (dOp gIx (dVar 0) (dVar 1)) (t.map rowD) [] [s,.val (.int h)] Q:=by
 refine cC (fun pre acc ρ=>∃ t0 t1:List Row,t=t0++t1 /\ pre=t0.map rowD /\ acc=(col t0 h.toNat).map bx /\ ∃ s,ρ=[s,.val (.int h)]) (fun acc ρ hN=>?_) (fun pre d post acc ρ Y e hN hY=>?_) _ ⟨[],t,rfl,rfl,rfl,_,rfl⟩
 ·obtain ⟨t0,t1,rfl,e,rfl,_⟩:=hN
  have:t1=[]:=by
   have:=congrArg List.length e
   simp at this
   exact this
  subst this
  simpa using q
 ·obtain ⟨t0,t1,rfl,rfl,rfl,s,rfl⟩:=hN
  rw [List.map_append] at e
  have e:=List.append_cancel_left e
  cases t1 with
  | nil=>simp at e
  | cons r t1 =>
   rw [List.map_cons] at e
   injection e with e1 e2
   subst e1
   have o:=ho r (by simp)
   refine Br.t (cf o h0 h1 ⟨?_,hY _ _ ⟨t0++[r],t1,by simp,by simp,by simp [col],_,rfl⟩⟩)
   rw [List.length_map]
   unfold col
   rw [List.length_map]
   have:t0.length <= 1000:=by rw [List.length_append] at hl; omega
   exact Nat.lt_of_le_of_lt this (by decide)
def gTbh:DSp:=fun ds Q=>match ds with
 | [.int m,.lst xs]=>∃ (n:Nat) (t:List Row),m=n /\ xs=t.map rowD /\ (n <= 6 /\ t.length <= 1000 /\ ∀ r∈t,rP n r) /\ Q (rowD (sums t n))
 | _=>False
theorem iJ:aV gTbh:=fun ds P P' f h=>by
 unfold gTbh at h ⊢
 split at h
 ·obtain ⟨n,t,a,b,c,h⟩:=h
  exact ⟨n,t,a,b,c,f _ h⟩
 ·exact h.elim
theorem fM:∀ (n:Nat) (lo:Int),kP lo n=(List.range n).map fun (i:Nat)=>D.int (lo + i)
 | 0,_=>rfl
 | n + 1,lo=>by
  rw [List.range_succ_eq_map,List.map_cons,List.map_map,kP,fM n (lo + 1)]
  congr 1
  ·simp
  ·apply List.map_congr_left
   intro i _
   simp only [Function.comp]
   congr 1
   omega
theorem iK (T:Tx K mg):FnOk P w K mg base CX0 2 T.cM T.cA ["many","rows"] (spD K 2 gTbh):=by
 refine fnD (k:=1) T.br.F iu (fun cdv A outer s H E hr=>(ah (aC (jl sI rfl T.kl rfl (aa (dP (PCD.pld (cJ (N':=["house","rows"]) rfl rfl (by decide +kernel) rfl (.own (.cap (j:=1) rfl (by first | exact Or.inl rfl | exact Or.inr rfl) rfl .nil)) (by decide +kernel) (jm rfl T.mN (aa (ac 0 (pv 0)) af)) (fun B=>(aB (i:=0) (show List.Nodup (α:=PySem.Str) ["house","rows"] by decide +kernel) rfl (by first | exact Or.inl rfl | exact Or.inr rfl))) (fun B=>eu) (fun B=>(ag (um T) uk (hr.mono (by decide)) rfl T.fN.m T.fN.F.kp T.fN.b (aa (dP (PCD.pld (cJ (N':=["row","house"]) rfl rfl (by decide +kernel) rfl (.own (.cap (j:=0) rfl (by first | exact Or.inl rfl | exact Or.inr rfl) rfl .nil)) (by decide +kernel) (vw (ac 1 (pv 1))) (fun B=>(aB (i:=0) (show List.Nodup (α:=PySem.Str) ["row","house"] by decide +kernel) rfl (by first | exact Or.inl rfl | exact Or.inr rfl))) (fun B=>eu) (fun B=>(ak (ac 0 (pv 0)) (ac 1 (pv 1)) (fun _ _=>rfl)))))) af)))))) af))))) (fun ds Q hl h=>?_)
 unfold gTbh at h
 split at h
 case h_2=>exact h.elim
 obtain ⟨n,t,rfl,rfl,⟨h6,h1000,ho⟩,h⟩:=h
 refine ⟨⟨by omega,by omega⟩,?_⟩
 rw [Int.toNat_natCast]
 refine jt (fun d=>match d with | .int i=>bx (sumP (col t i.toNat)) | _=>.non) (fun ρ=>∃ s,ρ=[s,.val (.lst (t.map rowD))]) ?_ (fun d hd ρ Y Z hN hY=>?_) _ ⟨_,rfl⟩ ?_
 ·rw [fM,List.length_map,List.length_range]
  exact Nat.le_trans h6 (by decide)
 ·obtain ⟨s,rfl⟩:=hN
  rw [fM] at hd
  obtain ⟨i,hi,rfl⟩:=List.mem_map.mp hd
  have hi:=List.mem_range.mp hi
  refine Br.t (xC ho h1000 (by omega) (by omega) ⟨rfl,col t (0 + (i:Int)).toNat,rfl,?_,hY _ ⟨_,rfl⟩⟩)
  unfold col
  rw [List.length_map]
  exact h1000
 ·show Q (.tup (List.map _ (kP 0 n)))
  have e:(kP 0 n).map (fun d=>match d with | .int i=>bx (sumP (col t i.toNat)) | _=>.non)=(sums t n).map bx:=by
   rw [fM,List.map_map]
   unfold sums
   rw [List.map_map]
   apply List.map_congr_left
   intro i _
   show bx (sumP (col t (0 + (i:Int)).toNat))=bx (sumP (col t i))
   congr 3
   omega
  rw [e]
  exact h
def xD:DSp:=fun ds Q=>match ds with
 | [.lst xs]=>∃ (n:Nat) (t:List Row),xs=t.map rowD /\ Tbl n t /\ Q (rowD (sums t n))
 | _=>False
theorem vP:aV xD:=fun ds P P' f h=>by
 unfold xD at h ⊢
 split at h
 ·obtain ⟨n,t,a,b,h⟩:=h
  exact ⟨n,t,a,b,f _ h⟩
 ·exact h.elim
theorem vQ (T:Tx K mg):FnOk P w K mg base CX0 3 T.mM T.kg ["table"] (spD K 1 xD):=by
 refine fnD (k:=2) T.gU.F ug (fun cdv A outer s H E hr=>(ah (aC (ag (iK T) iJ (hr.mono (by decide)) rfl T.br.m T.br.F.kp T.br.b (aa (ag (iI T) iH (hr.mono (by decide)) rfl T.bu.m T.bu.F.kp T.bu.b (aa (ac 0 (pv 0)) af)) (aa (ac 0 (pv 0)) af)))))) (fun ds Q hl h=>?_)
 unfold xD at h
 split at h
 case h_2=>exact h.elim
 obtain ⟨n,t,rfl,o,h⟩:=h
 refine ⟨rfl,jU o ⟨rfl,n,t,rfl,rfl,⟨o.m6,Nat.le_trans o.p60 (by decide),o.rows⟩,h⟩⟩
def gChP:DSp:=fun ds Q=>match ds with
 | [.int m,.int a,.int b]=>(0 <= a /\ a < m /\ 0 <= b /\ b < m /\ a≠b) /\ Q .non
 | _=>False
theorem qr:aV gChP:=fun ds P P' f h=>by
 unfold gChP at h ⊢
 split at h
 ·exact ⟨h.1,f _ h.2⟩
 ·exact h.elim
theorem qt (T:Tx K mg):FnOk P w K mg base CX0 4 T.gX T.gl ["many","a","b"] (spD K 3 gChP):=by
 refine fnD (k:=3) T.dU.F ou (fun cdv A outer s H E hr=>(ai (gE (ag (fV T) fU (hr.mono (by decide)) rfl T.aQ.m T.aQ.F.kp T.aQ.b (aa (ac 0 (pv 0)) (aa (ac 1 (pv 1)) af))))
   (ai (gE (ag (fV T) fU (hr.mono (by decide)) rfl T.aQ.m T.aQ.F.kp T.aQ.b (aa (ac 0 (pv 0)) (aa (ac 2 (pv 2)) af))))
   (ah (bE (aH (ej hr) (ac 1 (pv 1)) (ac 2 (pv 2)) (aA _)) (ah ik) aF))))) (fun ds Q hl h=>?_)
 unfold gChP at h
 split at h
 case h_2=>exact h.elim
 obtain ⟨⟨h1,h2,h3,h4,h5⟩,h⟩:=h
 refine ⟨rfl,⟨h1,h2⟩,rfl,⟨h3,h4⟩,⟨rfl,rfl⟩,fun z=>?_,fun _=>h⟩
 exact absurd (by simpa [bG] using z) h5
theorem sX {n:Nat}:∀ {ns:List Int},(∀ i∈ns,Bd n i)->∀ {k:Nat},ns.length <= 2 ^ k->Bd (n + k) ns.sum:=by
 have key:∀ ns:List Int,(∀ i∈ns,Bd n i)->ns.sum.natAbs <= ns.length * (2 ^ n - 1):=by
  intro ns
  induction ns with
  | nil=>intro _; simp
  | cons a r ih =>
   intro h
   have h1:=ih fun i hi=>h i (List.mem_cons_of_mem _ hi)
   have h2:a.natAbs < 2 ^ n:=h a List.mem_cons_self
   rw [List.sum_cons,List.length_cons,Nat.succ_mul]
   have:=Int.natAbs_add_le a r.sum
   omega
 intro ns h k hk
 have h1:=key ns h
 unfold Bd
 have h2:ns.length * (2 ^ n - 1) <= 2 ^ k * (2 ^ n - 1):=Nat.mul_le_mul_right _ hk
 have h3:2 ^ k * (2 ^ n - 1) < 2 ^ k * 2 ^ n:=Nat.mul_lt_mul_of_pos_left (by have:=Nat.two_pow_pos n; omega) (Nat.two_pow_pos k)
 rw [← Nat.pow_add,Nat.add_comm k n] at h3
 omega
theorem gI {m:Nat} {t:List Row} (o:Tbl m t) {h:Nat} (hh:h < m):0 <= (sumP (col t h)).2 /\ (sumP (col t h)).2 <= (sumP (col t h)).1 /\ Bd 300 (sumP (col t h)).1 /\ Bd 300 (sumP (col t h)).2:=by
 have hc:∀ c∈col t h,Cnt 200 c.1 c.2:=fun c hc=>by
  obtain ⟨r,hr,rfl⟩:=List.mem_map.mp hc
  exact (cD (o.rows r hr) hh).2
 have hl:(col t h).length <= 2 ^ 10:=by
  unfold col
  rw [List.length_map]
  exact Nat.le_trans o.p60 (by decide)
 have s1:0 <= ((col t h).map (·.2)).sum /\ ((col t h).map (·.2)).sum <= ((col t h).map (·.1)).sum:=by
  generalize col t h=cs at hc
  induction cs with
  | nil=>simp
  | cons c r ih =>
   have:=ih fun d hd=>hc d (List.mem_cons_of_mem _ hd)
   have h1:=(hc c List.mem_cons_self).lo
   have h2:=(hc c List.mem_cons_self).hi
   simp only [List.map_cons,List.sum_cons]
   omega
 refine ⟨s1.1,s1.2,(sX (n:=200) (k:=10) (fun i hi=>?_) (by rw [List.length_map]; exact hl)).mono (by decide),(sX (n:=200) (k:=10) (fun i hi=>?_) (by rw [List.length_map]; exact hl)).mono (by decide)⟩
 ·obtain ⟨c,hc',rfl⟩:=List.mem_map.mp hi
  exact (hc c hc').bt
 ·obtain ⟨c,hc',rfl⟩:=List.mem_map.mp hi
  exact (hc c hc').bw
theorem zM {m:Nat} {t:List Row} {h:Int} {Q:D->Prop} (h0:0 <= h) (h1:h < m) (q:Q (bx (sumP (col t h.toNat)))):opt (atI ((sums t m).map bx) h) Q:=by
 refine fo h0 ?_ q
 unfold sums
 rw [List.getElem?_map,List.getElem?_map,List.getElem?_range (by omega)]
 rfl
def lowP (a b:Int):Int×Int:=(a.fdiv (if b < 0 then -((Int.gcd a b:Nat):Int) else ((Int.gcd a b:Nat):Int)),b.fdiv (if b < 0 then -((Int.gcd a b:Nat):Int) else ((Int.gcd a b:Nat):Int)))
theorem sY {a b:Int} (hb:b≠0):Ra.Low a b (lowP a b).1 (lowP a b).2:=Ra.low_of hb rfl
theorem Cb {a b x y:Int} (hb:b≠0) (l:Ra.Low a b x y):x=(lowP a b).1 /\ y=(lowP a b).2:=l.uniq hb (sY hb)
def ratD (a b:Int):D:=.tup [.int (lowP a b).1,.int (lowP a b).2]
theorem Cc {a b:Int} (hb:b≠0) {Q:D->Prop} (q:Q (ratD a b)):∀ x y,Ra.Low a b x y->Q (.tup [.int x,.int y]):=fun x y l=>by
 obtain ⟨e1,e2⟩:=Cb hb l
 rw [e1,e2]
 exact q
def cE (c:Int×Int):D:=if c.1=0 then .non else ratD c.2 c.1
theorem sZ {c:Int×Int} {Q:D->Prop} {n:Nat} (hn:n <= 7000) (bt:Bd n c.1) (bw:Bd n c.2) (q:Q (cE c)):mr [bx c] Q:=by
 refine ⟨⟨bt.mono hn,bw.mono hn⟩,fun e=>?_,fun e=>Cc e ?_⟩
 ·unfold cE at q; rw [if_pos e] at q; exact q
 ·unfold cE at q; rw [if_neg e] at q; exact q
def gWC:DSp:=fun ds Q=>match ds with
 | [.lst xs,.int h]=>∃ (n:Nat) (t:List Row),xs=t.map rowD /\ Tbl n t /\ (0 <= h /\ h < n) /\ (sumP (col t h.toNat)).1≠0 /\ Q (bx (sumP (col t h.toNat)))
 | _=>False
theorem cx:aV gWC:=fun ds P P' f h=>by
 unfold gWC at h ⊢
 split at h
 ·obtain ⟨n,t,a,b,c,d,h⟩:=h
  exact ⟨n,t,a,b,c,d,f _ h⟩
 ·exact h.elim
theorem cy (T:Tx K mg):FnOk P w K mg base CX0 4 T.gf T.fG ["table","house"] (spD K 2 gWC):=by
 refine fnD (k:=3) T.ay.F sc_whole_count (fun cdv A outer s H E hr=>(ai (gE (ag (fV T) fU (hr.mono (by decide)) rfl T.aQ.m T.aQ.F.kp T.aQ.b (aa (ag (iI T) iH (hr.mono (by decide)) rfl T.bu.m T.bu.F.kp T.bu.b (aa (ac 0 (pv 0)) af)) (aa (ac 1 (pv 1)) af))))
   (ai (az (i:=2) sc_whole_count.nd rfl (by first | exact Or.inl rfl | exact Or.inr rfl) (ak (ag (vQ T) vP (hr.mono (by decide)) rfl T.gU.m T.gU.F.kp T.gU.b (aa (ac 0 (pv 0)) af)) (ac 1 (pv 1)) (fun _ _=>rfl)))
   (ai (bE (aH (ej hr) (ak (ac 2 (pv 2)) ae (fun _ _=>rfl)) ae (aA _)) (ah ik) aF)
   (ah (aC (ac 2 (pv 2)))))))) (fun ds Q hl h=>?_)
 unfold gWC at h
 split at h
 case h_2=>exact h.elim
 obtain ⟨n,t,rfl,o,⟨h0,h1⟩,hs,h⟩:=h
 refine ⟨rfl,jU o ⟨rfl,⟨h0,h1⟩,rfl,n,t,rfl,o,zM h0 h1 ⟨⟨rfl,rfl⟩,fun z=>?_,fun _=>h⟩⟩⟩
 exact absurd (by simpa [bG] using z) hs
theorem uo {m:Nat} {t:List Row} (ho:∀ r∈t,rP m r) (hl:t.length <= 1000) {h:Int} (h0:0 <= h) (h1:h < m) {s:Sl} {Q:List D->Prop} (q:Q ((col t h.toNat).map cE)) :
  fB (iA 0) da (zb 1 mr (sF (dOp gIx (dVar 0) (dVar 1)) za)) (t.map rowD) [] [s,.val (.int h)] Q:=by
 refine cC (fun pre acc ρ=>∃ t0 t1:List Row,t=t0++t1 /\ pre=t0.map rowD /\ acc=(col t0 h.toNat).map cE /\ ∃ s,ρ=[s,.val (.int h)]) (fun acc ρ hN=>?_) (fun pre d post acc ρ Y e hN hY=>?_) _ ⟨[],t,rfl,rfl,rfl,_,rfl⟩
 ·obtain ⟨t0,t1,rfl,e,rfl,_⟩:=hN
  have:t1=[]:=by
   have:=congrArg List.length e
   simp at this
   exact this
  subst this
  simpa using q
 ·obtain ⟨t0,t1,rfl,rfl,rfl,s,rfl⟩:=hN
  rw [List.map_append] at e
  have e:=List.append_cancel_left e
  cases t1 with
  | nil=>simp at e
  | cons r t1 =>
   rw [List.map_cons] at e
   injection e with e1 e2
   subst e1
   have o:=ho r (by simp)
   have c:=(cD o (h:=h.toNat) (by omega)).2
   refine Br.t (cf o h0 h1 ⟨rfl,sZ (n:=200) (by decide) c.bt c.bw ⟨?_,hY _ _ ⟨t0++[r],t1,by simp,by simp,by simp [col],_,rfl⟩⟩⟩)
   rw [List.length_map]
   unfold col
   rw [List.length_map]
   have:t0.length <= 1000:=by rw [List.length_append] at hl; omega
   exact Nat.lt_of_le_of_lt this (by decide)
def xE:DSp:=fun ds Q=>match ds with
 | [.lst xs,.int h]=>∃ (n:Nat) (t:List Row),xs=t.map rowD /\ Tbl n t /\ (0 <= h /\ h < n) /\ Q (.lst ((col t h.toNat).map cE))
 | _=>False
theorem iL:aV xE:=fun ds P P' f h=>by
 unfold xE at h ⊢
 split at h
 ·obtain ⟨n,t,a,b,c,h⟩:=h
  exact ⟨n,t,a,b,c,f _ h⟩
 ·exact h.elim
theorem iM (T:Tx K mg):FnOk P w K mg base CX0 4 T.iU T.gP ["table","house"] (spD K 2 xE):=by
 refine fnD (k:=3) T.bo.F qj (fun cdv A outer s H E hr=>(ah (aC (dP (PCD.pld (cJ (N':=["part","house"]) rfl rfl (by decide +kernel) rfl (.own (.cap (j:=1) rfl (by first | exact Or.inl rfl | exact Or.inr rfl) rfl .nil)) (by decide +kernel) (cI (ac 0 (pv 0))) (fun B=>(aB (i:=0) (show List.Nodup (α:=PySem.Str) ["part","house"] by decide +kernel) rfl (by first | exact Or.inl rfl | exact Or.inr rfl))) (fun B=>eu) (fun B=>(ag (jT T) jS (hr.mono (by decide)) rfl T.bJ.m T.bJ.F.kp T.bJ.b (aa (ak (ac 0 (pv 0)) (ac 1 (pv 1)) (fun _ _=>rfl)) af))))))))) (fun ds Q hl h=>?_)
 unfold xE at h
 split at h
 case h_2=>exact h.elim
 obtain ⟨n,t,rfl,o,⟨h0,h1⟩,h⟩:=h
 exact uo o.rows (Nat.le_trans o.p60 (by decide)) h0 h1 h
namespace Rq
theorem cast_ne {b:Int} (hb:b≠0):(b:Rat)≠0:=fun h=>hb (Rat.intCast_inj.mp (by simpa using h))
theorem Dz {a b c d:Int} (hb:b≠0) (hd:d≠0):(a:Rat) / b=(c:Rat) / d↔a * d=c * b:=by
 have hb':=cast_ne hb
 have hd':=cast_ne hd
 constructor
 ·intro h
  have:(a:Rat) * d=c * b:=by grind
  have:((a * d:Int):Rat)=((c * b:Int):Rat):=by rw [Rat.intCast_mul,Rat.intCast_mul]; exact this
  exact Rat.intCast_inj.mp this
 ·intro h
  have:((a * d:Int):Rat)=((c * b:Int):Rat):=by rw [h]
  rw [Rat.intCast_mul,Rat.intCast_mul] at this
  grind
theorem self (q:Rat):(q.num:Rat) / ((q.den:Int):Rat)=q:=by
 rw [← Rat.divInt_eq_div]; exact Rat.num_divInt_den q
theorem den_pos (q:Rat):(0:Int) < (q.den:Int):=by have:=q.den_pos; omega
theorem eR (q:Rat):(q.den:Int)≠0:=by have:=den_pos q; omega
theorem lowQ {a b:Int} (hb:b≠0):Ra.Low a b ((a:Rat) / b).num (((a:Rat) / b).den:Int):=by
 refine ⟨den_pos _,?_,?_⟩
 ·exact ((a:Rat) / b).reduced
 ·exact (Dz (eR _) hb).mp (self ((a:Rat) / b))
theorem low {a b x y:Int} (hb:b≠0) (l:Ra.Low a b x y):x=((a:Rat) / b).num /\ y=(((a:Rat) / b).den:Int):=l.uniq hb (lowQ hb)
theorem vR (p q:Rat):((p.num * (q.den:Int) + q.num * (p.den:Int):Int):Rat) / (((p.den:Int) * (q.den:Int):Int):Rat)=p + q:=by
 have hp:=self p
 have hq:=self q
 have dp:=cast_ne (eR p)
 have dq:=cast_ne (eR q)
 rw [Rat.intCast_add,Rat.intCast_mul,Rat.intCast_mul,Rat.intCast_mul]
 grind
theorem vS (p q:Rat):((p.num * (q.den:Int) - q.num * (p.den:Int):Int):Rat) / (((p.den:Int) * (q.den:Int):Int):Rat)=p - q:=by
 have hp:=self p
 have hq:=self q
 have dp:=cast_ne (eR p)
 have dq:=cast_ne (eR q)
 rw [Rat.intCast_sub,Rat.intCast_mul,Rat.intCast_mul,Rat.intCast_mul]
 grind
theorem vT (p q:Rat):((p.num * q.num:Int):Rat) / (((p.den:Int) * (q.den:Int):Int):Rat)=p * q:=by
 have hp:=self p
 have hq:=self q
 have dp:=cast_ne (eR p)
 have dq:=cast_ne (eR q)
 rw [Rat.intCast_mul,Rat.intCast_mul]
 grind
theorem vU {q:Rat} (h:q≠0):q.num≠0:=fun z=>h (Rat.num_eq_zero.mp z)
theorem Cd (p q:Rat) (h:q≠0):((p.num * (q.den:Int):Int):Rat) / (((p.den:Int) * q.num:Int):Rat)=p / q:=by
 have hp:=self p
 have hq:=self q
 have dp:=cast_ne (eR p)
 have dq:=cast_ne (eR q)
 have nq:=cast_ne (vU h)
 rw [Rat.intCast_mul,Rat.intCast_mul]
 grind
structure QB (n:Nat) (q:Rat):Prop where
 nu:Bd n q.num
 de:Bd n (q.den:Int)
theorem QB.mono {m n:Nat} {q:Rat} (h:QB m q) (l:m <= n):QB n q:=⟨h.nu.mono l,h.de.mono l⟩
theorem QB.of {n:Nat} {a b:Int} (hb:b≠0) (ba:Bd n a) (bb:Bd n b):QB n ((a:Rat) / b):=⟨ba.le ((lowQ hb).le hb).1,bb.le ((lowQ hb).le hb).2⟩
theorem oz (p q:Rat):((p.den:Int) * (q.den:Int))≠0:=Int.mul_ne_zero (eR p) (eR q)
theorem QB.add {m n:Nat} {p q:Rat} (h:QB m p) (k:QB n q):QB (m + n + 1) (p + q):=by
 rw [← vR]
 exact QB.of (oz p q) (((h.nu.mul k.de).add (k.nu.mul h.de)).mono (by omega)) ((h.de.mul k.de).mono (by omega))
theorem QB.sub {m n:Nat} {p q:Rat} (h:QB m p) (k:QB n q):QB (m + n + 1) (p - q):=by
 rw [← vS]
 exact QB.of (oz p q) (((h.nu.mul k.de).sub (k.nu.mul h.de)).mono (by omega)) ((h.de.mul k.de).mono (by omega))
theorem QB.mul {m n:Nat} {p q:Rat} (h:QB m p) (k:QB n q):QB (m + n) (p * q):=by
 rw [← vT]
 exact QB.of (oz p q) (h.nu.mul k.nu) (h.de.mul k.de)
end Rq
open Rq
def ratQ (q:Rat):D:=.tup [.int q.num,.int (q.den:Int)]
theorem lj {p q:Rat}:eqD (ratQ p) (ratQ q)=decide (p=q):=by
 unfold ratQ
 rw [wZ]
 by_cases h:p=q
 ·subst h; simp
 ·rw [decide_eq_false h,Bool.and_eq_false_iff]
  by_cases e:p.num=q.num
  ·right
   refine decide_eq_false fun z=>h ?_
   rw [← self p,← self q,e,z]
  ·left
   exact decide_eq_false e
theorem bh (q:Rat):shp (ratQ q)=true:=Shp.shp (n:=1) .pair
theorem jw {a b:Int} (hb:b≠0) {Q:D->Prop} (q:Q (ratQ ((a:Rat) / b))):∀ x y,Ra.Low a b x y->Q (.tup [.int x,.int y]):=fun x y l=>by
 obtain ⟨e1,e2⟩:=Rq.low hb l
 rw [e1,e2]
 exact q
def gPl:DSp:=fun ds Q=>∃ (p q:Rat) (m n:Nat),ds=[ratQ p,ratQ q] /\ m + n <= 6900 /\ QB m p /\ QB n q /\ Q (ratQ (p + q))
theorem qu:aV gPl:=fun ds P P' f ⟨a,b,m,n,c,d,e,g,h⟩=>⟨a,b,m,n,c,d,e,g,f _ h⟩
theorem qv (T:Tx K mg):FnOk P w K mg base CX0 3 T.wv T.rY ["one","other"] (spD K 2 gPl):=by
 refine fnD (k:=2) T.dX.F zI (fun cdv A outer s H E hr=>(ah (aC (ag (dH T) dG (hr.mono (by decide)) rfl T.aE.m T.aE.F.kp T.aE.b (aa (aL gx (aL bF (ak (ac 0 (pv 0)) ae (fun _ _=>rfl)) (ak (ac 1 (pv 1)) ae (fun _ _=>rfl))) (aL bF (ak (ac 1 (pv 1)) ae (fun _ _=>rfl)) (ak (ac 0 (pv 0)) ae (fun _ _=>rfl)))) (aa (aL bF (ak (ac 0 (pv 0)) ae (fun _ _=>rfl)) (ak (ac 1 (pv 1)) ae (fun _ _=>rfl))) af)))))) (fun ds Q hl h=>?_)
 obtain ⟨p,q,m,n,rfl,l,h,k,r⟩:=h
 exact ⟨h.nu.cmul k.de (by omega) (by omega),k.nu.cmul h.de (by omega) (by omega),h.de.cmul k.de (by omega) (by omega),rfl,⟨oz p q,(((h.nu.mul k.de).mono (n:=6900) l).add ((k.nu.mul h.de).mono (n:=6900) (by omega))).mono (by decide),(h.de.mul k.de).mono (by omega)⟩,jw (oz p q) (by rw [vR]; exact r)⟩
theorem zN {p q:Rat} (h:QB 3000 p) (k:QB 3000 q) {Q:D->Prop} (r:Q (ratQ (p + q))):gPl [ratQ p,ratQ q] Q:=⟨p,q,3000,3000,rfl,by decide,h,k,r⟩
theorem qw {p q:Rat} (h:QB 3000 p) (k:QB 3000 q) {Q:D->Prop} (r:Q (ratQ (p - q))):sM [ratQ p,ratQ q] Q :=
 ⟨⟨oz p q,h.nu,h.de,k.nu,k.de⟩,jw (oz p q) (by rw [vS]; exact r)⟩
theorem yh {p q:Rat} (h:QB 3000 p) (k:QB 3000 q) {Q:D->Prop} (r:Q (ratQ (p * q))):sN [ratQ p,ratQ q] Q :=
 ⟨⟨oz p q,h.nu,h.de,k.nu,k.de⟩,jw (oz p q) (by rw [vT]; exact r)⟩
theorem rS {p q:Rat} (h:QB 7000 p) (k:QB 7000 q) {Q:D->Prop} (r:Q (.bl (decide (p < q)))):ub [ratQ p,ratQ q] Q:=by
 refine ⟨⟨h.nu,h.de,k.nu,k.de⟩,?_⟩
 have e:decide (p.num * (q.den:Int) < q.num * (p.den:Int))=decide (p < q):=decide_eq_decide.mpr (Rat.lt_iff p q).symm
 rw [e]
 exact r
theorem DB {p q:Rat} (h:QB 3000 p) (k:QB 3000 q) (hq:q≠0) {Q:D->Prop} (r:Q (ratQ (p / q))):xb [ratQ p,ratQ q] Q :=
 ⟨⟨Int.mul_ne_zero (eR p) (vU hq),h.nu,h.de,k.nu,k.de⟩,jw (Int.mul_ne_zero (eR p) (vU hq)) (by rw [Cd p q hq]; exact r)⟩
def gTot:Nat->DSp
 | 0=>fun _ _=>False
 | n + 1=>fun ds Q=>∃ qs:List Rat,ds=[.lst (qs.map ratQ)] /\ qs.length <= 2 ^ n /\ (∀ l,l <:+: qs->QB 3000 l.sum) /\ Q (ratQ qs.sum)
theorem Ce:∀ n,aV (gTot n)
 | 0=>fun ds P P' f h=>h
 | n + 1=>fun ds P P' f h=>by
  obtain ⟨qs,a,b,c,h⟩:=h
  exact ⟨qs,a,b,c,f _ h⟩
theorem Cf (qs:List Rat) (h:Nat) (hh:h <= qs.length):cutD (qs.map ratQ) none (some (h:Int))=(qs.take h).map ratQ:=by
 have e1:HT.sIx (qs.map ratQ).length 0 none=0:=rfl
 have e2:HT.sIx (qs.map ratQ).length (qs.map ratQ).length (some (h:Int))=h:=by
  rw [List.length_map]
  unfold HT.sIx
  simp
  rw [if_neg (by omega)]
  omega
 unfold cutD
 rw [e1,e2,List.drop_zero,Nat.sub_zero,List.map_take]
theorem Cg (qs:List Rat) (h:Nat) (hh:h <= qs.length):cutD (qs.map ratQ) (some (h:Int)) none=(qs.drop h).map ratQ:=by
 have e1:HT.sIx (qs.map ratQ).length 0 (some (h:Int))=h:=by
  rw [List.length_map]
  unfold HT.sIx
  simp
  rw [if_neg (by omega)]
  omega
 have e2:HT.sIx (qs.map ratQ).length (qs.map ratQ).length none=(qs.map ratQ).length:=rfl
 unfold cutD
 rw [e1,e2,List.map_drop]
 apply List.take_of_length_le
 rw [List.length_drop]
 exact Nat.le_refl _
theorem rT:∀ a b:List Rat,(a++b).sum=a.sum + b.sum
 | [],b=>by rw [List.nil_append,List.sum_nil,Rat.zero_add]
 | x::a,b=>by rw [List.cons_append,List.sum_cons,List.sum_cons,rT a b,Rat.add_assoc]
theorem Ch (T:Tx K mg):∀ n:Nat,FnOk P w K mg base CX0 (n + 3) T.oO T.ly ["ratios"] (spD K 1 (gTot n))
 | 0=>⟨fun vs H Q E h=>by obtain ⟨_,_,_,_,_,_,h⟩:=h; exact h.elim,fun A outer s H args us vs Q E _ _ _ _ h=>by obtain ⟨_,_,_,_,_,_,h⟩:=h; exact h.elim⟩
 | n + 1=>by
  have oC:=fun (_:Tx K mg)=>Ch T n
  have oD:=Ce n
  refine fnD (k:=n + 3) T.eX.F sc_total (fun cdv A outer s H E hr=>(ai (bE (aH (ej hr) (aN jp rfl T.ki PySem.boot_len (aa (ac 0 (pv 0)) af)) ae (aA _)) (ah (aC (bO (aa ae (aa ae af))))) aF)
   (ai (bE (aH (ej hr) (aN jp rfl T.ki PySem.boot_len (aa (ac 0 (pv 0)) af)) ae (aA _)) (ah (aC (ak (ac 0 (pv 0)) ae (fun _ _=>rfl)))) aF)
   (ai (az (i:=1) sc_total.nd rfl (by first | exact Or.inl rfl | exact Or.inr rfl) (aL gG (aN jp rfl T.ki PySem.boot_len (aa (ac 0 (pv 0)) af)) ae))
   (ah (aC (ag (qv T) qu (hr.mono (by omega)) rfl T.dX.m T.dX.F.kp T.dX.b (aa (ag (oC T) oD (hr.mono (by omega)) rfl T.eX.m T.eX.F.kp T.eX.b (aa (dP (yc (ac 0 (pv 0)) nX (nY (ac 1 (pv 1))))) af)) (aa (ag (oC T) oD (hr.mono (by omega)) rfl T.eX.m T.eX.F.kp T.eX.b (aa (dP (yc (ac 0 (pv 0)) (nY (ac 1 (pv 1))) nX)) af)) af))))))))) (fun ds Q hl h=>?_)
  obtain ⟨qs,rfl,hn,hb,h⟩:=h
  have hlm:(qs.map ratQ).length=qs.length:=List.length_map ..
  refine ⟨⟨rfl,rfl⟩,fun z=>?_,fun z=>⟨⟨rfl,rfl⟩,fun z1=>?_,fun z1=>?_⟩⟩
  ·have z:((qs.map ratQ).length:Int)=0:=by simpa [bG] using z
   have:qs=[]:=List.length_eq_zero_iff.mp (by omega)
   subst this
   exact ⟨sz,h⟩
  ·have z1:((qs.map ratQ).length:Int)=1:=by simpa [bG] using z1
   obtain ⟨q,rfl⟩:∃ q,qs=[q]:=List.length_eq_one_iff.mp (by omega)
   rw [List.sum_cons,List.sum_nil,Rat.add_zero] at h
   show opt (atI [ratQ q] 0) Q
   exact fo (d:=ratQ q) (Int.le_refl 0) rfl h
  ·have z:((qs.map ratQ).length:Int)≠0:=by simpa [bG] using z
   have z1:((qs.map ratQ).length:Int)≠1:=by simpa [bG] using z1
   have hl2:2 <= qs.length:=by omega
   refine ⟨⟨by decide,fH (by decide) (by decide)⟩,?_⟩
   have eh:((qs.map ratQ).length:Int) / 2=((qs.length / 2:Nat):Int):=by omega
   dsimp only
   rw [eh]
   generalize hq:qs.length / 2=hf
   have c1:=Cf qs hf (by omega)
   have c2:=Cg qs hf (by omega)
   cases n with
   | zero=>simp at hn; omega
   | succ n =>
    have pw:2 ^ (n + 1)=2 * 2 ^ n:=by rw [Nat.pow_succ]; omega
    have p1:qs.take hf <:+: qs:=(List.take_prefix hf qs).isInfix
    have p2:qs.drop hf <:+: qs:=(List.drop_suffix hf qs).isInfix
    refine ⟨rfl,qs.take hf,congrArg (fun x=>[D.lst x]) c1,by rw [List.length_take]; omega,fun l hl=>hb l (hl.trans p1),?_⟩
    refine ⟨rfl,qs.drop hf,congrArg (fun x=>[D.lst x]) c2,by rw [List.length_drop]; omega,fun l hl=>hb l (hl.trans p2),?_⟩
    refine ⟨rfl,zN (hb _ p1) (hb _ p2) ?_⟩
    rw [← rT,List.take_append_drop]
    exact h
def optQ:Option Rat->D
 | none=>.non
 | some q=>ratQ q
def oq (xs:List (Option Rat)) (k:Nat):Option Rat:=xs.getD k none
def vq (xs:List (Option Rat)) (k:Nat):Rat:=(oq xs k).getD 0
def plq (xs:List (Option Rat)) (n:Nat):List Nat:=(List.range n).filter fun k=>(oq xs k).isSome
def bM (xs:List (Option Rat)) (st:Nat×Nat) (k:Nat):Nat×Nat:=(if vq xs k < vq xs st.1 then k else st.1,if vq xs st.2 < vq xs k then k else st.2)
def bC (xs:List (Option Rat)):Nat×Nat:=match plq xs xs.length with
 | []=>(0,0)
 | p::ps=>(p::ps).foldl (bM xs) (p,p)
def tj (xs:List (Option Rat)):D:=.tup [ratQ (vq xs (bC xs).1),.int (bC xs).1,ratQ (vq xs (bC xs).2),.int (bC xs).2]
theorem tq (xs:List (Option Rat)) (n:Nat):plq xs (n + 1)=plq xs n++(if (oq xs n).isSome=true then [n] else []):=by
 unfold plq
 rw [List.range_succ,List.filter_append,List.filter_cons,List.filter_nil]
theorem tt {xs:List (Option Rat)} {k:Nat} (h:k < xs.length):xs[k]? = some (oq xs k):=by
 unfold oq
 rw [List.getD_eq_getElem?_getD]
 simp [h]
theorem oA {xs:List (Option Rat)} {n k:Nat} (h:k∈plq xs n):k < n /\ oq xs k=some (vq xs k):=by
 unfold plq at h
 rw [List.mem_filter,List.mem_range] at h
 refine ⟨h.1,?_⟩
 unfold vq
 cases e:oq xs k with
 | none=>rw [e] at h; exact absurd h.2 (by simp)
 | some q=>rfl
theorem vV {xs:List (Option Rat)} {n k:Nat} (h:k < n) (hs:(oq xs k).isSome=true):k∈plq xs n:=by
 unfold plq
 rw [List.mem_filter,List.mem_range]
 exact ⟨h,hs⟩
theorem mt (xs:List (Option Rat)) (hne:plq xs xs.length≠[]):((bC xs).1∈plq xs xs.length /\ (bC xs).2∈plq xs xs.length) /\ ∀ k∈plq xs xs.length,vq xs (bC xs).1 <= vq xs k /\ vq xs k <= vq xs (bC xs).2:=by
 have key:∀ (ks:List Nat) (st:Nat×Nat),((ks.foldl (bM xs) st).1∈ks∨(ks.foldl (bM xs) st).1=st.1) /\ ((ks.foldl (bM xs) st).2∈ks∨(ks.foldl (bM xs) st).2=st.2) /\ vq xs (ks.foldl (bM xs) st).1 <= vq xs st.1 /\ vq xs st.2 <= vq xs (ks.foldl (bM xs) st).2 /\ ∀ k∈ks,vq xs (ks.foldl (bM xs) st).1 <= vq xs k /\ vq xs k <= vq xs (ks.foldl (bM xs) st).2:=by
  intro ks
  induction ks with
  | nil=>intro st; exact ⟨.inr rfl,.inr rfl,Rat.le_refl,Rat.le_refl,fun k hk=>by simp at hk⟩
  | cons k r ih =>
   intro st
   rw [List.foldl_cons]
   obtain ⟨i1,i2,i3,i4,i5⟩:=ih (bM xs st k)
   have s1:vq xs (bM xs st k).1 <= vq xs st.1 /\ vq xs (bM xs st k).1 <= vq xs k /\ ((bM xs st k).1=k∨(bM xs st k).1=st.1):=by
    unfold bM
    dsimp only
    split
    ·exact ⟨by grind,Rat.le_refl,.inl rfl⟩
    ·exact ⟨Rat.le_refl,by grind,.inr rfl⟩
   have s2:vq xs st.2 <= vq xs (bM xs st k).2 /\ vq xs k <= vq xs (bM xs st k).2 /\ ((bM xs st k).2=k∨(bM xs st k).2=st.2):=by
    unfold bM
    dsimp only
    split
    ·exact ⟨by grind,Rat.le_refl,.inl rfl⟩
    ·exact ⟨Rat.le_refl,by grind,.inr rfl⟩
   refine ⟨?_,?_,Rat.le_trans i3 s1.1,Rat.le_trans s2.1 i4,fun x hx=>?_⟩
   ·rcases i1 with i1 | i1
    ·exact .inl (List.mem_cons_of_mem _ i1)
    ·rw [i1]
     rcases s1.2.2 with e | e
     ·exact .inl (by rw [e]; exact List.mem_cons_self)
     ·exact .inr e
   ·rcases i2 with i2 | i2
    ·exact .inl (List.mem_cons_of_mem _ i2)
    ·rw [i2]
     rcases s2.2.2 with e | e
     ·exact .inl (by rw [e]; exact List.mem_cons_self)
     ·exact .inr e
   ·rcases List.mem_cons.mp hx with rfl | hx
    ·exact ⟨Rat.le_trans i3 s1.2.1,Rat.le_trans s2.2.1 i4⟩
    ·exact i5 x hx
 unfold bC
 generalize hp:plq xs xs.length=ps at hne
 cases ps with
 | nil=>exact absurd rfl hne
 | cons p ps =>
  have k:=key (p::ps) (p,p)
  refine ⟨⟨?_,?_⟩,k.2.2.2.2⟩
  ·rcases k.1 with e | e
   ·exact e
   ·dsimp only at e ⊢; rw [e]; exact List.mem_cons_self
  ·rcases k.2.1 with e | e
   ·exact e
   ·dsimp only at e ⊢; rw [e]; exact List.mem_cons_self
def gEQ:DSp:=fun ds Q=>∃ xs:List (Option Rat),ds=[.lst (xs.map optQ)] /\ (∀ q,some q∈xs->QB 7000 q) /\ xs.length <= 1000 /\ plq xs xs.length≠[] /\ Q (tj xs)
theorem qx:aV gEQ:=fun ds P P' f h=>by
 obtain ⟨cs,a,b,c,d,h⟩:=h
 exact ⟨cs,a,b,c,d,f _ h⟩
theorem zO {xs:List (Option Rat)} (hb:∀ q,some q∈xs->QB 7000 q) {k:Nat} (hk:k∈plq xs xs.length):QB 7000 (vq xs k):=by
 obtain ⟨h1,h2⟩:=oA hk
 have:=tt h1
 rw [h2] at this
 exact hb _ (List.mem_of_getElem? this)
theorem uq {xs:List (Option Rat)} {k:Nat} (hk:k∈plq xs xs.length) {Q:D->Prop} (q:Q (ratQ (vq xs k))):opt (atI (xs.map optQ) (k:Int)) Q:=by
 obtain ⟨h1,h2⟩:=oA hk
 refine fo (d:=ratQ (vq xs k)) (by omega) ?_ q
 rw [Int.toNat_natCast,List.getElem?_map,tt h1,h2]
 rfl
theorem xF {xs:List (Option Rat)} (hl:xs.length <= 1000) {x y:Sl} {Q:List D->Prop} (q:Q ((plq xs xs.length).map fun (k:Nat)=>D.int k)) :
  fB (Bt 2 (vm (iA 0) (vm (iA 1) Bp))) (dB (dOp (gIsN true) (dVar 1) (dC .non))) (dVar 0) (gH 0 (xs.map optQ)) [] [x,y] Q:=by
 refine cC (fun pre acc ρ=>acc=(plq xs pre.length).map (fun (k:Nat)=>D.int k) /\ ∃ x y,ρ=[x,y]) (fun acc ρ hN=>?_) (fun pre d post acc ρ Y e hN hY=>?_) _ ⟨rfl,_,_,rfl⟩
 ·rw [hN.1,ce,List.length_map]
  exact q
 ·obtain ⟨rfl,x,y,rfl⟩:=hN
  have hlen:=congrArg List.length e
  rw [ce,List.length_map,List.length_append,List.length_cons] at hlen
  have hg:(gH 0 (xs.map optQ))[pre.length]? = some d:=by
   rw [e,List.getElem?_append_right (Nat.le_refl _),Nat.sub_self]
   rfl
  obtain ⟨d',hd',rfl⟩:=jv _ _ _ _ hg
  have hp:pre.length < xs.length:=by omega
  have ed:d'=optQ (oq xs pre.length):=by
   rw [List.getElem?_map,tt hp] at hd'
   cases hd'
   rfl
  subst ed
  have hl2:∀ m:Nat,(plq xs m).length <= m:=fun m=>by
   unfold plq
   have:=List.length_filter_le (fun k=>(oq xs k).isSome) (List.range m)
   simpa using this
  have lt:((plq xs pre.length).map (fun (k:Nat)=>D.int k)).length < sizeLine:=by
   rw [List.length_map]
   exact Nat.lt_of_le_of_lt (show (plq xs pre.length).length <= 1000 by have:=hl2 pre.length; omega) (by decide)
  have ez:((0 + pre.length:Nat):Int)=(pre.length:Int):=by omega
  have es:=tq xs pre.length
  cases eo:oq xs pre.length with
  | none =>
   rw [eo] at es
   refine ⟨rfl,Br.f (hY _ _ ⟨?_,_,_,rfl⟩)⟩
   rw [List.length_append,List.length_singleton,es]
   simp
  | some v =>
   rw [eo] at es
   refine ⟨rfl,Br.t ⟨lt,hY _ _ ⟨?_,_,_,rfl⟩⟩⟩
   rw [List.length_append,List.length_singleton,es,List.map_append,ez]
   rfl
theorem qy (T:Tx K mg):FnOk P w K mg base CX0 2 T.ib T.gd ["ratios"] (spD K 1 gEQ):=by
 refine fnD (k:=1) T.dR.F sc_ends_among (fun cdv A outer s H E hr=>(ai (oa (i:=1) sc_ends_among.nd rfl rfl (cJ (N':=["place","ratio"]) rfl rfl (by decide +kernel) rfl (.own (.own .nil)) (by decide +kernel) (oh rfl T.fg (aa (ac 0 (pv 0)) af)) (fun B=>(gw (n:=2) rfl (aJ (aB (i:=0) (show List.Nodup (α:=PySem.Str) ["place","ratio"] by decide +kernel) rfl (by first | exact Or.inl rfl | exact Or.inr rfl)) (aJ (aB (i:=1) (show List.Nodup (α:=PySem.Str) ["place","ratio"] by decide +kernel) rfl (by first | exact Or.inl rfl | exact Or.inr rfl)) dZ)))) (fun B=>(rE (aH lT (ac 1 (pv 1)) fm (aA _)))) (fun B=>(ac 0 (pv 0)))))
   (ai (az (i:=2) sc_ends_among.nd rfl (by first | exact Or.inl rfl | exact Or.inr rfl) (ak (ac 1 (pv 1)) ae (fun _ _=>rfl)))
   (ai (az (i:=3) sc_ends_among.nd rfl (by first | exact Or.inl rfl | exact Or.inr rfl) (ak (ac 1 (pv 1)) ae (fun _ _=>rfl)))
   (aW (dQ PassesOwn.never rfl (cI (ac 1 (pv 1))) (aB (i:=4) sc_ends_among.nd rfl (by first | exact Or.inl rfl | exact Or.inr rfl)) (aW (bE (cO (ag (mq T) mn (hr.mono (by decide)) rfl T.ci.m T.ci.F.kp T.ci.b (aa (ak (ac 0 (pv 0)) (ac 4 (pv 4)) (fun _ _=>rfl)) (aa (ak (ac 0 (pv 0)) (ac 2 (pv 2)) (fun _ _=>rfl)) af)))) (ah (az (i:=2) sc_ends_among.nd rfl (by first | exact Or.inl rfl | exact Or.inr rfl) (ac 4 (pv 4)))) aF)
   (ah (bE (cO (ag (mq T) mn (hr.mono (by decide)) rfl T.ci.m T.ci.F.kp T.ci.b (aa (ak (ac 0 (pv 0)) (ac 3 (pv 3)) (fun _ _=>rfl)) (aa (ak (ac 0 (pv 0)) (ac 4 (pv 4)) (fun _ _=>rfl)) af)))) (ah (az (i:=3) sc_ends_among.nd rfl (by first | exact Or.inl rfl | exact Or.inr rfl) (ac 4 (pv 4)))) aF))))
   (ah (aC (bO (aa (ak (ac 0 (pv 0)) (ac 2 (pv 2)) (fun _ _=>rfl)) (aa (ac 2 (pv 2)) (aa (ak (ac 0 (pv 0)) (ac 3 (pv 3)) (fun _ _=>rfl)) (aa (ac 3 (pv 3)) af)))))))))))) (fun ds Q hl h=>?_)
 obtain ⟨xs,rfl,ho,hlen,hne,h⟩:=h
 refine xF hlen ?_
 have mm:=(mt xs hne).1
 generalize hps:plq xs xs.length=ps at hne
 obtain ⟨p,rest,rfl⟩:∃ p rest,ps=p::rest:=by
  cases ps with
  | nil=>exact absurd rfl hne
  | cons p rest=>exact ⟨p,rest,rfl⟩
 have mem:∀ k∈p::rest,k∈plq xs xs.length:=fun k hk=>by rw [hps]; exact hk
 refine fo (d:=D.int (p:Int)) (Int.le_refl 0) rfl (fo (d:=D.int (p:Int)) (Int.le_refl 0) rfl ?_)
 have eI:bC xs=(p::rest).foldl (bM xs) (p,p):=by unfold bC; rw [hps]
 refine ⟨fun ρ=>∃ s:Sl,ρ=[.val (.lst (xs.map optQ)),.val (.lst ((p::rest).map fun (k:Nat)=>D.int k)),.val (.int (bC xs).1),.val (.int (bC xs).2),s],?_,?_⟩
 ·refine jr (fun pre ρ=>∃ ks ks':List Nat,p::rest=ks++ks' /\ pre=ks.map (fun (k:Nat)=>D.int k) /\ (ks.foldl (bM xs) (p,p)).1∈p::rest /\ (ks.foldl (bM xs) (p,p)).2∈p::rest /\ ∃ s:Sl,ρ=[.val (.lst (xs.map optQ)),.val (.lst ((p::rest).map fun (k:Nat)=>D.int k)),.val (.int (ks.foldl (bM xs) (p,p)).1),.val (.int (ks.foldl (bM xs) (p,p)).2),s]) (fun ρ hN=>?_) (fun pre d post ρ X e hN hX=>?_) _ ⟨[],p::rest,rfl,rfl,List.mem_cons_self,List.mem_cons_self,_,rfl⟩
  ·obtain ⟨ks,ks',e1,e2,_,_,s,rfl⟩:=hN
   have:ks'=[]:=by
    have:=congrArg List.length e2
    have h2:=congrArg List.length e1
    simp only [List.length_map,List.length_append] at this h2
    exact List.length_eq_zero_iff.mp (by omega)
   subst this
   rw [List.append_nil] at e1
   rw [eI,e1]
   exact ⟨s,rfl⟩
  ·obtain ⟨ks,ks',e1,rfl,m1,m2,s,rfl⟩:=hN
   rw [e1,List.map_append] at e
   have e:=List.append_cancel_left e
   cases ks' with
   | nil=>simp at e
   | cons k ks' =>
    rw [List.map_cons] at e
    injection e with e3 e4
    subst e3
    have mk:k∈p::rest:=by rw [e1]; simp
    have fs:(ks++[k]).foldl (bM xs) (p,p)=bM xs (ks.foldl (bM xs) (p,p)) k:=by rw [List.foldl_append]; rfl
    generalize ks.foldl (bM xs) (p,p)=st at m1 m2 fs
    have bk:=zO ho (mem k mk)
    have b1:=zO ho (mem _ m1)
    have b2:=zO ho (mem _ m2)
    have hm:∀ {x y:Nat} {c:Prop} [Decidable c],x∈p::rest->y∈p::rest->(if c then x else y)∈p::rest:=fun hx hy=>by split <;> assumption
    have hX':X [.val (.lst (xs.map optQ)),.val (.lst ((p::rest).map fun (k:Nat)=>D.int k)),.val (.int (bM xs st k).1),.val (.int (bM xs st k).2),.val (.int (k:Int))]:=by
     refine hX _ ⟨ks++[k],ks',by rw [e1]; simp,by simp,?_,?_,.val (.int (k:Int)),?_⟩
     ·rw [fs]; exact hm mk m1
     ·rw [fs]; exact hm mk m2
     ·rw [fs]
    refine ⟨fun ρ=>ρ=[.val (.lst (xs.map optQ)),.val (.lst ((p::rest).map fun (k:Nat)=>D.int k)),.val (.int (bM xs st k).1),.val (.int st.2),.val (.int (k:Int))],uq (mem k mk) (uq (mem _ m1) ⟨rfl,rS bk b1 (Br.di (fun z=>?_) (fun z=>?_))⟩),?_⟩
    ·show _=_
     unfold bM
     rw [if_pos z]
     rfl
    ·show _=_
     unfold bM
     rw [if_neg z]
     rfl
    ·rintro _ rfl
     refine uq (mem _ m2) (uq (mem k mk) ⟨rfl,rS b2 bk (Br.di (fun z=>?_) (fun z=>?_))⟩)
     ·have e4:(bM xs st k).2=k:=by unfold bM; rw [if_pos z]
      rw [e4] at hX'
      exact hX'
     ·have e4:(bM xs st k).2=st.2:=by unfold bM; rw [if_neg z]
      rw [e4] at hX'
      exact hX'
 ·rintro _ ⟨s,rfl⟩
  exact uq mm.1 (uq mm.2 ⟨sz,h⟩)
def shQ (c:Int×Int):Rat:=(c.2:Rat) / (c.1:Rat)
def shO (c:Int×Int):Option Rat:=if c.1=0 then none else some (shQ c)
theorem zP {a b:Int} (hb:b≠0):ratD a b=ratQ ((a:Rat) / b):=by
 obtain ⟨e1,e2⟩:=Rq.low hb (sY (a:=a) hb)
 unfold ratD ratQ
 rw [e1,e2]
theorem jx (c:Int×Int):cE c=optQ (shO c):=by
 unfold cE shO
 split
 ·rfl
 ·rename_i h; exact zP h
theorem ur (cs:Row):cs.map cE=(cs.map shO).map optQ:=by
 rw [List.map_map]
 exact List.map_congr_left fun c _=>jx c
theorem DC {n:Nat} {c:Int×Int} (h:Cnt n c.1 c.2) (h0:c.1≠0):QB n (shQ c):=QB.of h0 h.bw h.bt
theorem Ci {n:Nat} {cs:Row} (hc:∀ c∈cs,Cnt n c.1 c.2):∀ q,some q∈cs.map shO->QB n q:=fun q hq=>by
 obtain ⟨c,hm,e⟩:=List.mem_map.mp hq
 unfold shO at e
 split at e
 ·cases e
 ·rename_i h0
  cases e
  exact DC (hc c hm) h0
theorem zQ {n:Nat} {t:List Row} (o:Tbl n t) {h:Nat} (hh:h < n):∀ c∈col t h,Cnt 200 c.1 c.2:=fun c hc=>by
 obtain ⟨r,hr,rfl⟩:=List.mem_map.mp hc
 exact (cD (o.rows r hr) hh).2
theorem zR {n:Nat} {t:List Row} (o:Tbl n t) {h:Nat}:(col t h).length <= 1000:=by
 unfold col
 rw [List.length_map]
 exact Nat.le_trans o.p60 (by decide)
theorem tu {cs:Row} (hs:(sumP cs).1≠0):plq (cs.map shO) (cs.map shO).length≠[]:=fun z=>by
 apply hs
 have mem0:∀ c∈cs,c.1=0:=fun c hc=>Classical.byContradiction fun h=>by
  obtain ⟨k,hk,e⟩:=List.mem_iff_getElem.mp hc
  have:k∈plq (cs.map shO) (cs.map shO).length:=by
   refine vV (by rw [List.length_map]; exact hk) ?_
   unfold oq
   rw [List.getD_eq_getElem?_getD,List.getElem?_map,List.getElem?_eq_getElem hk,e]
   show (shO c).isSome=true
   unfold shO
   rw [if_neg h]
   rfl
  rw [z] at this
  simp at this
 show (cs.map (·.1)).sum=0
 clear z hs
 induction cs with
 | nil=>rfl
 | cons c r ih =>
  rw [List.map_cons,List.sum_cons,mem0 c List.mem_cons_self,ih fun d hd=>mem0 d (List.mem_cons_of_mem _ hd)]
  rfl
def colO (t:List Row) (h:Int):List (Option Rat):=(col t h.toNat).map shO
def gEO:DSp:=fun ds Q=>match ds with
 | [.lst xs,.int h]=>∃ (n:Nat) (t:List Row),xs=t.map rowD /\ Tbl n t /\ (0 <= h /\ h < n) /\ (sumP (col t h.toNat)).1≠0 /\ Q (tj (colO t h))
 | _=>False
theorem qA:aV gEO:=fun ds P P' f h=>by
 unfold gEO at h ⊢
 split at h
 ·obtain ⟨n,t,a,b,c,d,h⟩:=h
  exact ⟨n,t,a,b,c,d,f _ h⟩
 ·exact h.elim
theorem qC (T:Tx K mg):FnOk P w K mg base CX0 5 T.mQ T.jZ ["table","house"] (spD K 2 gEO):=by
 refine fnD (k:=4) T.dS.F uh (fun cdv A outer s H E hr=>(ai (gE (ag (cy T) cx (hr.mono (by decide)) rfl T.ay.m T.ay.F.kp T.ay.b (aa (ac 0 (pv 0)) (aa (ac 1 (pv 1)) af))))
   (ah (aC (ag (qy T) qx (hr.mono (by decide)) rfl T.dR.m T.dR.F.kp T.dR.b (aa (ag (iM T) iL (hr.mono (by decide)) rfl T.bo.m T.bo.F.kp T.bo.b (aa (ac 0 (pv 0)) (aa (ac 1 (pv 1)) af))) af)))))) (fun ds Q hl h=>?_)
 unfold gEO at h
 split at h
 case h_2=>exact h.elim
 obtain ⟨n,t,rfl,o,⟨h0,h1⟩,hs,h⟩:=h
 refine ⟨rfl,n,t,rfl,o,⟨h0,h1⟩,hs,rfl,n,t,rfl,o,⟨h0,h1⟩,rfl,_,by rw [ur],fun q hq=>(Ci (zQ o (by omega)) q hq).mono (by decide),?_,tu hs,h⟩
 rw [List.length_map]
 exact zR o
theorem zS {n:Nat} {xs:List (Option Rat)} (hb:∀ q,some q∈xs->QB n q) (hne:plq xs xs.length≠[]):QB n (vq xs (bC xs).1) /\ QB n (vq xs (bC xs).2):=by
 have key:∀ k∈plq xs xs.length,QB n (vq xs k):=fun k hk=>by
  obtain ⟨h1,h2⟩:=oA hk
  have:=tt h1
  rw [h2] at this
  exact hb _ (List.mem_of_getElem? this)
 have mm:=(mt xs hne).1
 exact ⟨key _ mm.1,key _ mm.2⟩
def wts (cs:Row):List Rat:=cs.map fun c=>(c.1:Rat) / ((sumP cs).1:Rat)
def gWts:DSp:=fun ds Q=>match ds with
 | [.lst xs,.int h]=>∃ (n:Nat) (t:List Row),xs=t.map rowD /\ Tbl n t /\ (0 <= h /\ h < n) /\ (sumP (col t h.toNat)).1≠0 /\ Q (.lst ((wts (col t h.toNat)).map ratQ))
 | _=>False
theorem gJ:aV gWts:=fun ds P P' f h=>by
 unfold gWts at h ⊢
 split at h
 ·obtain ⟨n,t,a,b,c,d,h⟩:=h
  exact ⟨n,t,a,b,c,d,f _ h⟩
 ·exact h.elim
theorem gL (T:Tx K mg):FnOk P w K mg base CX0 5 T.gR T.gk ["table","house"] (spD K 2 gWts):=by
 refine fnD (k:=4) T.aX.F sc_weights_of (fun cdv A outer s H E hr=>(ai (az (i:=2) sc_weights_of.nd rfl (by first | exact Or.inl rfl | exact Or.inr rfl) (ak (ag (cy T) cx (hr.mono (by decide)) rfl T.ay.m T.ay.F.kp T.ay.b (aa (ac 0 (pv 0)) (aa (ac 1 (pv 1)) af))) ae (fun _ _=>rfl)))
   (ah (aC (dP (PCD.pld (cJ (N':=["part","house","tried"]) rfl rfl (by decide +kernel) rfl (.own (.cap (j:=1) rfl (by first | exact Or.inl rfl | exact Or.inr rfl) rfl (.cap (j:=2) rfl (by first | exact Or.inl rfl | exact Or.inr rfl) rfl .nil))) (by decide +kernel) (cI (ac 0 (pv 0))) (fun B=>(aB (i:=0) (show List.Nodup (α:=PySem.Str) ["part","house","tried"] by decide +kernel) rfl (by first | exact Or.inl rfl | exact Or.inr rfl))) (fun B=>eu) (fun B=>(ag (dH T) dG (hr.mono (by decide)) rfl T.aE.m T.aE.F.kp T.aE.b (aa (ak (ak (ac 0 (pv 0)) (ac 1 (pv 1)) (fun _ _=>rfl)) ae (fun _ _=>rfl)) (aa (ac 2 (pv 2)) af))))))))))) (fun ds Q hl h=>?_)
 unfold gWts at h
 split at h
 case h_2=>exact h.elim
 rename_i hh
 obtain ⟨n,t,rfl,o,⟨h0,h1⟩,hs,h⟩:=h
 have wc:=gI o (h:=hh.toNat) (by omega)
 refine ⟨rfl,n,t,rfl,o,⟨h0,h1⟩,hs,?_⟩
 obtain ⟨W,hW⟩:∃ W,(sumP (col t hh.toNat)).1=W:=⟨_,rfl⟩
 rw [hW] at hs wc
 refine cC (fun pre acc ρ=>∃ t0 t1:List Row,t=t0++t1 /\ pre=t0.map rowD /\ acc=((col t0 hh.toNat).map fun c=>((c.1:Rat) / (W:Rat))).map ratQ /\ ∃ s,ρ=[s,.val (.int hh),.val (.int W)]) (fun acc ρ hN=>?_) (fun pre d post acc ρ Y e hN hY=>?_) _ ⟨[],t,rfl,rfl,rfl,.nil,by rw [← hW]; rfl⟩
 ·obtain ⟨t0,t1,rfl,e,rfl,_⟩:=hN
  have:t1=[]:=by
   have:=congrArg List.length e
   simp at this
   exact this
  subst this
  rw [List.append_nil] at h hW
  unfold wts at h
  rw [hW] at h
  exact h
 ·obtain ⟨t0,t1,rfl,rfl,rfl,s,rfl⟩:=hN
  rw [List.map_append] at e
  have e:=List.append_cancel_left e
  cases t1 with
  | nil=>simp at e
  | cons r t1 =>
   rw [List.map_cons] at e
   injection e with e1 e2
   subst e1
   have ro:=o.rows r (by simp)
   have c:=(cD ro (h:=hh.toNat) (by omega)).2
   refine Br.t (cf ro h0 h1 ⟨rfl,⟨hs,c.bt.mono (by decide),wc.2.2.1.mono (by decide)⟩,fun x y l=>?_⟩)
   obtain ⟨e1,e2⟩:=Rq.low hs l
   rw [e1,e2]
   refine ⟨?_,hY _ _ ⟨t0++[r],t1,by simp,by simp,by simp [col,ratQ],_,rfl⟩⟩
   rw [List.length_map,List.length_map]
   unfold col
   rw [List.length_map]
   have p60:=o.p60
   have:t0.length <= 1000:=by rw [List.length_append] at p60; omega
   exact Nat.lt_of_le_of_lt this (by decide)
def wQ (t:List Row) (h:Int):Rat:=shQ (sumP (col t h.toNat))
theorem yi {c:Int×Int} {Q:D->Prop} {n:Nat} (hn:n <= 7000) (bt:Bd n c.1) (bw:Bd n c.2) (h0:c.1≠0) (q:Q (ratQ (shQ c))):mr [bx c] Q :=
 sZ hn bt bw (by rw [jx]; unfold shO; rw [if_neg h0]; exact q)
structure Two (n:Nat) (t:List Row) (a b:Int):Prop where
 o:Tbl n t
 a0:0 <= a
 a1:a < n
 b0:0 <= b
 b1:b < n
 ab:a≠b
 ha:(sumP (col t a.toNat)).1≠0
 hb:(sumP (col t b.toNat)).1≠0
 like:∀ r∈t,(at_ r a.toNat).1=0↔(at_ r b.toNat).1=0
def gCSP:DSp:=fun ds Q=>match ds with
 | [.lst xs,.int a,.int b]=>∃ (n:Nat) (t:List Row),xs=t.map rowD /\ Two n t a b /\ Q .non
 | _=>False
theorem jy:aV gCSP:=fun ds P P' f h=>by
 unfold gCSP at h ⊢
 split at h
 ·obtain ⟨n,t,a,b,h⟩:=h
  exact ⟨n,t,a,b,f _ h⟩
 ·exact h.elim
theorem jz (T:Tx K mg):FnOk P w K mg base CX0 5 T.dh T.cL ["table","a","b"] (spD K 3 gCSP):=by
 refine fnD (k:=4) T.bB.F sc_check_same_parts (fun cdv A outer s H E hr=>(ai (gE (ag (qt T) qr (hr.mono (by decide)) rfl T.dU.m T.dU.F.kp T.dU.b (aa (ag (iI T) iH (hr.mono (by decide)) rfl T.bu.m T.bu.F.kp T.bu.b (aa (ac 0 (pv 0)) af)) (aa (ac 1 (pv 1)) (aa (ac 2 (pv 2)) af)))))
   (ai (gE (ag (cy T) cx (hr.mono (by decide)) rfl T.ay.m T.ay.F.kp T.ay.b (aa (ac 0 (pv 0)) (aa (ac 1 (pv 1)) af))))
   (ai (gE (ag (cy T) cx (hr.mono (by decide)) rfl T.ay.m T.ay.F.kp T.ay.b (aa (ac 0 (pv 0)) (aa (ac 2 (pv 2)) af))))
   (ah (dQ PassesOwn.never rfl (oh rfl T.fg (aa (ac 0 (pv 0)) af)) (gw (n:=2) rfl (aJ (aB (i:=3) sc_check_same_parts.nd rfl (by first | exact Or.inl rfl | exact Or.inr rfl)) (aJ (aB (i:=4) sc_check_same_parts.nd rfl (by first | exact Or.inl rfl | exact Or.inr rfl)) dZ))) (ai (bE (PWD.pt (lR (aH (ej hr) (ak (ak (ac 4 (pv 4)) (ac 1 (pv 1)) (fun _ _=>rfl)) ae (fun _ _=>rfl)) ae (aA _)) (iE (aH jJ (ak (ak (ac 4 (pv 4)) (ac 2 (pv 2)) (fun _ _=>rfl)) ae (fun _ _=>rfl)) ae (aA _))))) (ah ik) aF)
   (ah (bE (PWD.pt (lR (aH (ej hr) (ak (ak (ac 4 (pv 4)) (ac 2 (pv 2)) (fun _ _=>rfl)) ae (fun _ _=>rfl)) ae (aA _)) (iE (aH jJ (ak (ak (ac 4 (pv 4)) (ac 1 (pv 1)) (fun _ _=>rfl)) ae (fun _ _=>rfl)) ae (aA _))))) (ah ik) aF))))))))) (fun ds Q hl h=>?_)
 unfold gCSP at h
 split at h
 case h_2=>exact h.elim
 rename_i a b
 obtain ⟨n,t,rfl,w,h⟩:=h
 refine ⟨rfl,jU w.o ⟨rfl,⟨w.a0,w.a1,w.b0,w.b1,w.ab⟩,rfl,n,t,rfl,w.o,⟨w.a0,w.a1⟩,w.ha,rfl,n,t,rfl,w.o,⟨w.b0,w.b1⟩,w.hb,?_⟩⟩
 refine uc (fun _ ρ=>∃ x y:Sl,ρ=[.val (.lst (t.map rowD)),.val (.int a),.val (.int b),x,y]) (fun ρ _=>h) (fun i d ρ X hd hN hX=>?_) _ ⟨_,_,rfl⟩
 obtain ⟨x,y,rfl⟩:=hN
 rw [List.getElem?_map] at hd
 obtain ⟨r,hr,rfl⟩:=Option.map_eq_some_iff.mp hd
 have hm:=List.mem_of_getElem? hr
 have ro:=w.o.rows r hm
 have lk:=w.like r hm
 have ca:=(cD ro (h:=a.toNat) (by have:=w.a0; have:=w.a1; omega)).2
 have cb:=(cD ro (h:=b.toNat) (by have:=w.b0; have:=w.b1; omega)).2
 have pa:=ca.lo
 have pb:=cb.lo
 have qa:=ca.hi
 have qb:=cb.hi
 refine ⟨rfl,cf ro w.a0 w.a1 ⟨⟨rfl,rfl⟩,fun z=>?_,fun z=>?_⟩⟩
 ·have z:(at_ r a.toNat).1=0:=by simpa [bG] using z
  refine cf ro w.b0 w.b1 (Br.dn (by have:=lk.mp z; omega) (cf ro w.b0 w.b1 ⟨⟨rfl,rfl⟩,fun _=>cf ro w.a0 w.a1 (Br.dn (by omega) (hX _ ⟨_,_,rfl⟩)),fun _=>Br.f (hX _ ⟨_,_,rfl⟩)⟩))
 ·have z:(at_ r a.toNat).1≠0:=by simpa [bG] using z
  refine Br.f (cf ro w.b0 w.b1 ⟨⟨rfl,rfl⟩,fun y=>?_,fun _=>Br.f (hX _ ⟨_,_,rfl⟩)⟩)
  have y:(at_ r b.toNat).1=0:=by simpa [bG] using y
  exact absurd (lk.mpr y) z
structure IsL (ps:List Rat) (L:Int):Prop where
 pos:0 < L
 dv:∀ q∈ps,(q.den:Int) ∣ L
 least:∀ M:Int,(∀ q∈ps,(q.den:Int) ∣ M)->L ∣ M
theorem IsL.step {ps:List Rat} {L:Int} (h:IsL ps L) (q:Rat):IsL (ps++[q]) (L * ((q.den:Int) / ((Int.gcd L (q.den:Int):Nat):Int))):=by
 have hd:=den_pos q
 have hg:0 < Int.gcd L (q.den:Int):=Int.gcd_pos_of_ne_zero_right L (by omega)
 have g1:((Int.gcd L (q.den:Int):Nat):Int) ∣ L:=Int.gcd_dvd_left ..
 have g2:((Int.gcd L (q.den:Int):Nat):Int) ∣ (q.den:Int):=Int.gcd_dvd_right ..
 obtain ⟨c,hc⟩:=id g2
 have hgi:(0:Int) < ((Int.gcd L (q.den:Int):Nat):Int):=by omega
 have h1:(q.den:Int) / ((Int.gcd L (q.den:Int):Nat):Int)=c:=Int.ediv_eq_of_eq_mul_right (by omega) hc
 have hcp:0 < c:=by
  rcases Int.lt_or_le 0 c with z | z
  ·exact z
  ·have:((Int.gcd L (q.den:Int):Nat):Int) * c <= 0:=Int.mul_nonpos_of_nonneg_of_nonpos (by omega) z
   omega
 have e:L * c=((Int.lcm L (q.den:Int):Nat):Int):=by
  have h2:=Int.gcd_mul_lcm L (q.den:Int)
  have h3:((Int.gcd L (q.den:Int):Nat):Int) * ((Int.lcm L (q.den:Int):Nat):Int)=L * (q.den:Int):=by
   have:((Int.gcd L (q.den:Int) * Int.lcm L (q.den:Int):Nat):Int)=((L.natAbs * (q.den:Int).natAbs:Nat):Int):=by rw [h2]
   rw [Int.natCast_mul,Int.natCast_mul,Int.natAbs_of_nonneg (by have:=h.pos; omega),Int.natAbs_of_nonneg (by omega)] at this
   exact this
  apply Int.eq_of_mul_eq_mul_left (a:=((Int.gcd L (q.den:Int):Nat):Int)) (by omega)
  rw [h3,Int.mul_left_comm,← hc]
 rw [h1]
 refine ⟨Int.mul_pos h.pos hcp,fun p hp=>?_,fun M hM=>?_⟩
 ·rw [e]
  rcases List.mem_append.mp hp with hp | hp
  ·exact Int.dvd_trans (h.dv p hp) (Int.dvd_lcm_left ..)
  ·rw [List.mem_singleton.mp hp]; exact Int.dvd_lcm_right ..
 ·rw [e]
  exact Int.coe_lcm_dvd (h.least M fun p hp=>hM p (by simp [hp])) (hM q (by simp))
theorem oB {q:Rat} {L:Int} (h:(q.den:Int) ∣ L):((q.num * (L / (q.den:Int)):Int):Rat)=q * (L:Rat):=by
 obtain ⟨c,rfl⟩:=h
 rw [Int.mul_ediv_cancel_left c (eR q),Rat.intCast_mul,Rat.intCast_mul]
 have hq:=self q
 have dq:=cast_ne (eR q)
 grind
theorem zT {p q:Rat} (h:ratQ p=ratQ q):p=q:=by
 unfold ratQ at h
 simp at h
 rw [← self p,← self q,h.1,h.2]
theorem vW {xs ys:List Rat} (h:xs.map ratQ=ys.map ratQ):xs=ys:=(List.map_inj_right (f:=ratQ) fun _ _ h=>zT h).mp h
def gCB:DSp:=fun ds Q=>match ds with
 | [.lst xs]=>∃ qs:List Rat,xs=qs.map ratQ /\ qs.length <= 20 /\ (∀ q∈qs,QB 100 q) /\ ∀ L:Int,IsL qs L->Bd 2500 L->Q (.int L)
 | _=>False
theorem my:aV gCB:=fun ds P P' f h=>by
 unfold gCB at h ⊢
 split at h
 ·obtain ⟨a,b,c,d,h⟩:=h
  exact ⟨a,b,c,d,fun L o b=>f _ (h L o b)⟩
 ·exact h.elim
theorem mz (T:Tx K mg):FnOk P w K mg base CX0 2 T.eZ T.eA ["ratios"] (spD K 1 gCB):=by
 refine fnD (k:=1) T.cm.F sc_common_bottom (fun cdv A outer s H E hr=>(ai (az (i:=1) sc_common_bottom.nd rfl (by first | exact Or.inl rfl | exact Or.inr rfl) ae)
   (aW (dQ PassesOwn.never rfl (cI (ac 0 (pv 0))) (aB (i:=2) sc_common_bottom.nd rfl (by first | exact Or.inl rfl | exact Or.inr rfl)) (ah (az (i:=1) sc_common_bottom.nd rfl (by first | exact Or.inl rfl | exact Or.inr rfl) (aL bF (ac 1 (pv 1)) (aL gG (ak (ac 2 (pv 2)) ae (fun _ _=>rfl)) (ag (ft T) fq (hr.mono (by decide)) rfl T.aK.m T.aK.F.kp T.aK.b (aa (ac 1 (pv 1)) (aa (ak (ac 2 (pv 2)) ae (fun _ _=>rfl)) af))))))))
   (ah (aC (ac 1 (pv 1))))))) (fun ds Q hl h=>?_)
 unfold gCB at h
 split at h
 case h_2=>exact h.elim
 obtain ⟨qs,rfl,l8,hb,h⟩:=h
 refine ⟨fun ρ=>∃ (L:Int) (s:Sl),(IsL qs L /\ Bd 2500 L) /\ ρ=[.val (.lst (qs.map ratQ)),.val (.int L),s],?_,?_⟩
 ·refine jr (fun pre ρ=>∃ (ps:List Rat) (L:Int) (s:Sl),pre=ps.map ratQ /\ IsL ps L /\ Bd (100 * ps.length + 1) L /\ ρ=[.val (.lst (qs.map ratQ)),.val (.int L),s]) (fun ρ hN=>?_) (fun pre d post ρ X e hN hX=>?_) _ ⟨[],1,_,rfl,⟨by decide,fun q hq=>by simp at hq,fun M _=>Int.one_dvd M⟩,lW,rfl⟩
  ·obtain ⟨ps,L,s,e,o,bL,rfl⟩:=hN
   have e2:=vW e
   subst e2
   exact ⟨L,s,⟨o,bL.mono (by omega)⟩,rfl⟩
  ·obtain ⟨ps,L,s,rfl,o,bL,rfl⟩:=hN
   have hd:d∈qs.map ratQ:=by rw [e]; simp
   obtain ⟨q,hq,rfl⟩:=List.mem_map.mp hd
   have hl:(qs.map ratQ).length=(ps.map ratQ).length + (post.length + 1):=by rw [e]; simp
   rw [List.length_map,List.length_map] at hl
   have bq:=hb q hq
   have hd0:=den_pos q
   have hg:0 < Int.gcd L (q.den:Int):=Int.gcd_pos_of_ne_zero_right L (by omega)
   have hgl:Int.gcd L (q.den:Int) <= (q.den:Int).natAbs:=Nat.le_of_dvd (Int.natAbs_pos.mpr (by omega)) (Int.gcd_dvd_natAbs_right ..)
   have bg:Big ((Int.gcd L (q.den:Int):Nat):Int):=(bq.de.le (i:=((Int.gcd L (q.den:Int):Nat):Int)) (by rw [Int.natAbs_natCast]; exact hgl)).big (by decide)
   have bd:Bd 100 ((q.den:Int) / ((Int.gcd L (q.den:Int):Nat):Int)):=bq.de.le (Int.natAbs_ediv_le_natAbs ..)
   refine ⟨rfl,⟨by omega,bg⟩,(bL.mono (by omega):Bd 3000 L).cmul (bd.mono (by decide):Bd 3000 _),hX _ ⟨ps++[q],_,_,by simp,o.step q,((bL.mul bd).mono (by simp; omega)),rfl⟩⟩
 ·rintro _ ⟨L,s,⟨o,bL⟩,rfl⟩
  exact h L o bL
def gTop:DSp:=fun ds Q=>∃ (q:Rat) (L:Int),ds=[ratQ q,.int L] /\ QB 1000 q /\ Bd 2500 L /\ (q.den:Int) ∣ L /\ ∀ n:Int,(n:Rat)=q * (L:Rat)->Q (.int n)
theorem ut:aV gTop:=fun ds P P' f h=>by
 obtain ⟨a,b,c,d,e,g,h⟩:=h
 exact ⟨a,b,c,d,e,g,fun n o=>f _ (h n o)⟩
theorem uv (T:Tx K mg):FnOk P w K mg base CX0 1 T.km T.iP ["ratio","bottom"] (spD K 2 gTop):=by
 refine fnD (k:=0) T.fP.F rK (fun cdv A outer s H E hr=>(ah (aC (aL bF (ak (ac 0 (pv 0)) ae (fun _ _=>rfl)) (aL gG (ac 1 (pv 1)) (ak (ac 0 (pv 0)) ae (fun _ _=>rfl))))))) (fun ds Q hl h=>?_)
 obtain ⟨q,L,rfl,bq,bL,dv,h⟩:=h
 have hd:=den_pos q
 have bd:Bd 2500 (L / (q.den:Int)):=bL.le (Int.natAbs_ediv_le_natAbs ..)
 exact ⟨⟨by omega,bq.de.big (by decide)⟩,(bq.nu.mono (by decide):Bd 3000 _).cmul (bd.mono (by decide):Bd 3000 _),h _ (oB dv)⟩
theorem oC (T:Tx K mg):FnOk P w K mg base CX0 9 T.oO T.ly ["ratios"] (spD K 1 (gTot 6)):=Ch T 6
theorem oD:aV (gTot 6):=Ce 6
theorem zU {a b L:Rat} (hL:L≠0) (e:a * L=b * L):a=b:=by grind
theorem rV {α β:Type} {f:α->β} {l:List α} {ps:List β} (p:ps.Perm (l.map f)):∃ rs:List α,rs.Perm l /\ ps=rs.map f:=by
 have h0:∀ l:List α,PySem.Paired (fun a b=>b=f a) l (l.map f):=fun l=>by
  induction l with
  | nil=>exact .nil
  | cons a l ih=>exact .cons rfl ih
 have h9:∀ {rs:List α} {ps:List β},PySem.Paired (fun a b=>b=f a) rs ps->ps=rs.map f:=fun h=>by
  induction h with
  | nil=>rfl
  | cons h _ ih=>rw [List.map_cons,h,ih]
 obtain ⟨rs,h1,h2⟩:=L2.perm_lift p (h0 l)
 exact ⟨rs,h1,h9 h2⟩
theorem tz {α β γ:Type} (f:α->β) (g:α->γ):∀ l:List α,(l.map f).zip (l.map g)=l.map fun a=>(f a,g a)
 | []=>rfl
 | a::l=>by simp [tz f g l]
def Ris (qs rs:List Rat):Prop:=rs.Perm qs /\ rs.Pairwise (· < ·)
def gRis:DSp:=fun ds Q=>∃ qs:List Rat,ds=[.lst (qs.map ratQ)] /\ qs.length <= 20 /\ qs.Nodup /\ (∀ q∈qs,QB 100 q) /\ ∀ rs,Ris qs rs->Q (.lst (rs.map ratQ))
theorem xG:aV gRis:=fun ds P P' f ⟨qs,a,b,c,d,h⟩=>⟨qs,a,b,c,d,fun rs o=>f _ (h rs o)⟩
theorem xH (T:Tx K mg) (B:Bm mg base):FnOk P w K mg base CX0 5 T.oQ T.jB ["shares"] (spD K 1 gRis):=by
 refine fnDL (k:=4) T.jC.F sc_rising (fun cdv hcd A outer s H E hr=>by obtain ⟨c0,P0,lc1,lc2,lc3⟩:=T.ff; rw [lc1] at hcd; subst hcd; exact (ai (az (i:=1) sc_rising.nd rfl (by first | exact Or.inl rfl | exact Or.inr rfl) (ag (mz T) my (hr.mono (by decide)) rfl T.cm.m T.cm.F.kp T.cm.b (aa (ac 0 (pv 0)) af)))
   (ah (aC (xw (k:=1) (qual:="rising.<locals>.<lambda>") (N2:=["bottom"]) (js:=[1]) (x:="share") ⟨rfl,rfl,rfl,by decide +kernel,rfl,fun _ _ _ _ _ _ _ _=>rfl⟩ (hr.mono (by decide)) rfl T.tM B rfl lc2 rfl lc3 (BV rfl (List.forall_mem_cons.mpr ⟨rfl,fun _ h=>nomatch h⟩) (by decide +kernel) (.cons rfl rfl rfl rfl .nil)) rfl (ac 0 (pv 0)) (fun fa c' A outer s H E hr2=>(ag (uv T) ut (hr2.mono (by decide)) rfl T.fP.m T.fP.F.kp T.fP.b (aa (ac 0 (pv 0)) (aa (ac 1 (pv 1)) af))))))))) (fun ds Q hl h=>?_)
 obtain ⟨qs,rfl,l20,nd,hb,h⟩:=h
 refine ⟨rfl,qs,rfl,l20,hb,fun L o bL=>?_⟩
 refine ⟨qs.map ratQ,qs.map fun q=>q.num * (L / (q.den:Int)),[.int L],rfl,by rw [List.length_map]; omega,by rw [List.length_map,List.length_map],rfl,fun i x z hx hz=>?_,fun ps p1 p2=>?_⟩
 ·rw [List.getElem?_map] at hx hz
  obtain ⟨q,hq,rfl⟩:=Option.map_eq_some_iff.mp hx
  rw [hq] at hz
  have hz:q.num * (L / (q.den:Int))=z:=by simpa using hz
  have hm:=List.mem_of_getElem? hq
  refine ⟨rfl,q,L,rfl,(hb q hm).mono (by decide),bL,o.dv q hm,fun n hn=>?_⟩
  have e:=oB (o.dv q hm)
  rw [← hn,hz] at e
  rw [Rat.intCast_inj.mp e]
 ·rw [tz] at p1
  obtain ⟨rs,h1,rfl⟩:=rV p1
  rw [List.map_map]
  refine h rs ⟨h1,?_⟩
  rw [List.pairwise_map] at p2
  have nr:rs.Nodup:=h1.nodup_iff.mpr nd
  have hL:(0:Rat) < L:=by exact_mod_cast o.pos
  refine (p2.and nr).imp_of_mem fun {a b} ha hb' hab=>?_
  have e1:=oB (o.dv a (h1.mem_iff.mp ha))
  have e2:=oB (o.dv b (h1.mem_iff.mp hb'))
  have le:(a * (L:Rat)) <= b * L:=by
   rw [← e1,← e2]
   exact Rat.intCast_le_intCast.mpr hab.1
  rcases (Rat.le_total:a <= b∨b <= a) with c | c
  ·rcases Rat.le_iff_lt_or_eq.mp c with c | c
   ·exact c
   ·exact absurd c hab.2
  ·have:=Rat.mul_le_mul_of_nonneg_right c (Rat.le_of_lt hL)
   have e3:a * (L:Rat)=b * L:=by grind
   exact absurd (zU (by grind) e3) hab.2
theorem eS {g:DG} {b:DTS} {E:DEnds} {n:Nat} (F:Nat->D) (N:Nat->DS->Prop) (hn:∀ ρ,N n ρ->E.nx ρ)
  (hs:∀ (i:Nat) (ρ:DS) (X:DS->Prop),i < n->N i ρ->(∀ ρ',N (i + 1) ρ'->X ρ')->g (F i) ρ fun ρ1=>b { E with nx:=X,ct:=X,bk:=E.nx } ρ1) (ρ:DS) (h:N 0 ρ):fT g b ((List.range n).map F) E ρ:=by
 refine jr (fun pre ρ=>N pre.length ρ) (fun ρ hN=>hn ρ (by simpa using hN)) (fun pre d post ρ X e hN hX=>?_) _ h
 have hg:((List.range n).map F)[pre.length]? = some d:=by
  rw [e,List.getElem?_append_right (Nat.le_refl _),Nat.sub_self]
  rfl
 have lt:pre.length < n:=by
  have:=(List.getElem?_eq_some_iff.mp hg).1
  simpa using this
 rw [List.getElem?_map,List.getElem?_range lt] at hg
 have hg:F pre.length=d:=by simpa using hg
 rw [← hg]
 exact hs pre.length ρ X lt hN fun ρ' h'=>hX ρ' (by rw [List.length_append]; exact h')
theorem tD {α:Type} {l:List α} {d:α} (f:α->D):l.map f=(List.range l.length).map fun i=>f (l.getD i d):=by
 apply List.ext_getElem?
 intro i
 rw [List.getElem?_map,List.getElem?_map]
 by_cases h:i < l.length
 ·rw [List.getElem?_range h,List.getElem?_eq_getElem h]
  simp [List.getD_eq_getElem?_getD,h]
 ·rw [List.getElem?_eq_none (by omega),List.getElem?_eq_none (by simp; omega)]
  rfl
def cl (t:List Row) (h i:Nat):Int×Int:=(col t h).getD i (0,0)
def sh (t:List Row) (h i:Nat):Rat:=if (cl t h i).1=0 then 0 else ((cl t h i).2:Rat) / ((cl t h i).1:Rat)
def sumQ (f:Nat->Rat):Nat->Rat
 | 0=>0
 | n + 1=>sumQ f n + f n
theorem qD {g:DG} {te:DE} {n:Nat} {Q:List D->Prop} (F G:Nat->D) (N:DS->Prop) (hl:n <= sizeLine)
  (hs:∀ i,i < n->∀ (ρ:DS) (Y:D->DS->Prop) (Z:DS->Prop),N ρ->(∀ ρ',N (cY ρ')->Y (G i) ρ')->g (F i) ρ fun ρ1=>da ρ1 fun b ρ2=>Br b (te ρ2 Y) (Z ρ2)) (ρ:DS) (h:N ρ) (hq:Q ((List.range n).map G)):fB g da te ((List.range n).map F) [] ρ Q:=by
 refine cC (fun pre acc ρ=>acc=(List.range pre.length).map G /\ N ρ) (fun acc ρ hN=>by rw [hN.1,List.length_map,List.length_range]; exact hq) (fun pre d post acc ρ Y e hN hY=>?_) _ ⟨rfl,h⟩
 obtain ⟨rfl,hN⟩:=hN
 have hg:((List.range n).map F)[pre.length]? = some d:=by
  rw [e,List.getElem?_append_right (Nat.le_refl _),Nat.sub_self]
  rfl
 have lt:pre.length < n:=by
  have:=(List.getElem?_eq_some_iff.mp hg).1
  simpa using this
 rw [List.getElem?_map,List.getElem?_range lt] at hg
 have hg:F pre.length=d:=by simpa using hg
 rw [← hg]
 refine hs pre.length lt ρ _ _ hN fun ρ' h'=>⟨?_,hY _ _ ⟨?_,h'⟩⟩
 ·rw [List.length_map,List.length_range]
  omega
 ·rw [List.length_append,List.length_singleton,List.range_succ,List.map_append]
  rfl
theorem tE {α:Type} (f:α->D) (d:α) (l:List α):gH 0 (l.map f)=(List.range l.length).map fun i=>.tup [.int (i:Int),f (l.getD i d)]:=by
 apply List.ext_getElem?
 intro i
 rw [List.getElem?_map]
 by_cases h:i < l.length
 ·have hx:i < (gH 0 (l.map f)).length:=by rw [ce,List.length_map]; exact h
  obtain ⟨e,h1,h2⟩:=jv (l.map f) 0 i _ (List.getElem?_eq_getElem hx)
  rw [List.getElem?_eq_getElem hx,h2,List.getElem?_range h]
  rw [List.getElem?_map,List.getElem?_eq_getElem h] at h1
  have h1:f l[i]=e:=by simpa using h1
  rw [← h1,Nat.zero_add]
  simp [List.getD_eq_getElem?_getD,h]
 ·rw [List.getElem?_eq_none (by rw [ce,List.length_map]; omega),List.getElem?_eq_none (by simp; omega)]
  rfl
theorem ir {α:Type} (f g:α->D):∀ l:List α,zipD (l.map f) (l.map g)=l.map fun i=>.tup [f i,g i]
 | []=>rfl
 | a::l=>by simp [zipD,ir f g l]
def pcs (q s:Nat->Rat) (n:Nat):List Rat:=((List.range n).filter fun k=>decide (0 < q k)).map fun k=>q k * s k
theorem oE (q s:Nat->Rat) (n:Nat):pcs q s (n + 1)=pcs q s n++(if 0 < q n then [q n * s n] else []):=by
 unfold pcs
 rw [List.range_succ,List.filter_append,List.map_append,List.filter_cons]
 by_cases z:0 < q n
 ·rw [if_pos (decide_eq_true z),if_pos z]; rfl
 ·rw [if_neg (by rw [decide_eq_true_eq]; exact z),if_neg z]; rfl
theorem rW (q s:Nat->Rat) (n:Nat):(pcs q s n).length <= n:=by
 unfold pcs
 rw [List.length_map]
 exact Nat.le_trans (List.length_filter_le _ _) (by rw [List.length_range]; exact Nat.le_refl _)
theorem rX {q s:Nat->Rat}:∀ {n:Nat},(∀ i,i < n->0 <= q i)->(pcs q s n).sum=sumQ (fun i=>q i * s i) n
 | 0,_=>rfl
 | n + 1,h=>by
  rw [oE,rT,rX fun i hi=>h i (by omega)]
  simp only [sumQ]
  have:=h n (by omega)
  split
  ·rw [List.sum_cons,List.sum_nil]; grind
  ·have:q n=0:=by grind
   rw [List.sum_nil,this]; grind
theorem oF {α β:Type} {l:List α} (d:α) (f:α->β):l.map f=(List.range l.length).map fun i=>f (l.getD i d):=by
 apply List.ext_getElem?
 intro i
 rw [List.getElem?_map,List.getElem?_map]
 by_cases h:i < l.length
 ·rw [List.getElem?_range h,List.getElem?_eq_getElem h]
  simp [List.getD_eq_getElem?_getD,h]
 ·rw [List.getElem?_eq_none (by omega),List.getElem?_eq_none (by simp; omega)]
  rfl
theorem cF {f g:Nat->Rat}:∀ {n:Nat},(∀ i,i < n->f i=g i)->sumQ f n=sumQ g n
 | 0,_=>rfl
 | n + 1,h=>by
  simp only [sumQ]
  rw [cF fun i hi=>h i (by omega),h n (by omega)]
theorem dc (f g:Nat->Rat):∀ n,sumQ (fun i=>f i + g i) n=sumQ f n + sumQ g n
 | 0=>by simp only [sumQ]; grind
 | n + 1=>by
  simp only [sumQ]
  rw [dc f g n]
  grind
theorem fu (c:Rat) (f:Nat->Rat):∀ n,sumQ (fun i=>c * f i) n=c * sumQ f n
 | 0=>by simp only [sumQ]; grind
 | n + 1=>by
  simp only [sumQ]
  rw [fu c f n]
  grind
theorem num_pos' {q:Rat}:(0 < q.num)↔0 < q:=by
 rw [Rat.lt_iff]
 simp
structure T61 (n:Nat) (t:List Row) (a b:Int):Prop extends Two n t a b where
 l16:t.length <= 16
 r80:∀ r∈t,RowN 80 n r
def WA (t:List Row) (a:Int):Int:=(sumP (col t a.toNat)).1
def wA (t:List Row) (a:Int) (i:Nat):Rat:=((cl t a.toNat i).1:Rat) / (WA t a:Rat)
section
variable {n:Nat} {t:List Row} {a b:Int}
theorem T61.cl (o:T61 n t a b) {h i:Nat} (hh:h < n) (hi:i < t.length):∃ r,t[i]? = some r /\ r∈t /\ at_ r h=cl t h i /\ Cnt 80 (cl t h i).1 (cl t h i).2:=by
 have e:t[i]? = some t[i]:=by simp [hi]
 have hr:t[i]∈t:=List.getElem_mem hi
 have ec:My.cl t h i=at_ t[i] h:=by
  unfold My.cl col
  rw [List.getD_eq_getElem?_getD,List.getElem?_map,e]
  rfl
 refine ⟨t[i],e,hr,ec.symm,?_⟩
 rw [ec]
 exact (cD (o.r80 _ hr) hh).2
theorem T61.na (o:T61 n t a b):a.toNat < n:=by have:=o.a0; have:=o.a1; omega
theorem T61.nb (o:T61 n t a b):b.toNat < n:=by have:=o.b0; have:=o.b1; omega
theorem T61.lk (o:T61 n t a b) {i:Nat} (hi:i < t.length):(My.cl t a.toNat i).1=0↔(My.cl t b.toNat i).1=0:=by
 obtain ⟨r,e1,hr,e2,_⟩:=o.cl o.na hi
 obtain ⟨r',e1',_,e2',_⟩:=o.cl o.nb hi
 have:r'=r:=by rw [e1] at e1'; cases e1'; rfl
 subst this
 rw [← e2,← e2']
 exact o.like _ hr
theorem T61.W (o:T61 n t a b):0 < WA t a /\ Bd 84 (WA t a):=by
 have w:=gI o.o (h:=a.toNat) o.na
 have h0:WA t a≠0:=o.ha
 refine ⟨by unfold WA at h0 ⊢; omega,?_⟩
 unfold WA sumP
 refine sX (n:=80) (k:=4) (fun i hi=>?_) (by unfold col; rw [List.length_map,List.length_map]; exact o.l16)
 obtain ⟨c,hc,rfl⟩:=List.mem_map.mp hi
 obtain ⟨r,hr,rfl⟩:=List.mem_map.mp hc
 exact (cD (o.r80 r hr) o.na).2.bt
theorem T61.wB (o:T61 n t a b) {i:Nat} (hi:i < t.length):QB 84 (wA t a i):=by
 obtain ⟨_,_,_,_,c⟩:=o.cl o.na hi
 exact QB.of (by have:=o.W.1; omega) (c.bt.mono (by decide)) o.W.2
theorem T61.wn (o:T61 n t a b) {i:Nat} (hi:i < t.length):0 <= wA t a i /\ (0 < wA t a i↔(My.cl t a.toNat i).1≠0):=by
 obtain ⟨_,_,_,_,c⟩:=o.cl o.na hi
 have hc:0 <= (My.cl t a.toNat i).1:=by have:=c.lo; have:=c.hi; omega
 have hW:(0:Rat) < (WA t a:Rat):=by exact_mod_cast o.W.1
 unfold wA
 by_cases z:(My.cl t a.toNat i).1=0
 ·rw [z]
  have e:((0:Int):Rat) / (WA t a:Rat)=0:=by simp [Rat.div_def]
  rw [e]
  exact ⟨Rat.le_refl,by grind⟩
 ·have hp:(0:Rat) < ((My.cl t a.toNat i).1:Rat):=by exact_mod_cast (show 0 < (My.cl t a.toNat i).1 by omega)
  have:0 < ((My.cl t a.toNat i).1:Rat) / (WA t a:Rat):=by
   rw [Rat.div_def]
   exact Rat.mul_pos hp (Rat.inv_pos.mpr hW)
  exact ⟨Rat.le_of_lt this,fun _=>z,fun _=>this⟩
theorem T61.sB (o:T61 n t a b) {i:Nat} (hi:i < t.length):QB 80 (sh t b.toNat i):=by
 obtain ⟨_,_,_,_,c⟩:=o.cl o.nb hi
 unfold sh
 split
 ·exact ⟨by show Int.natAbs 0 < 2 ^ 80; decide,by show Int.natAbs 1 < 2 ^ 80; decide⟩
 ·rename_i z
  exact QB.of z c.bw c.bt
end
theorem vX (t:List Row) (a:Int):(wts (col t a.toNat)).map ratQ=(List.range t.length).map fun i=>ratQ (wA t a i):=by
 unfold wts
 rw [List.map_map,oF (0,0)]
 have:(col t a.toNat).length=t.length:=by unfold col; rw [List.length_map]
 rw [this]
 rfl
theorem gM {f g:Nat->Rat}:∀ {n:Nat},(∀ i,i < n->f i <= g i)->sumQ f n <= sumQ g n
 | 0,_=>Rat.le_refl
 | n + 1,h=>by
  simp only [sumQ]
  have h1:=gM fun i hi=>h i (Nat.lt_succ_of_lt hi)
  have h2:=h n (Nat.lt_succ_self n)
  grind
theorem lq (f:Nat->Rat) (k:Nat):∀ n,sumQ (fun i=>if i=k then f i else 0) n=if k < n then f k else 0
 | 0=>rfl
 | n + 1=>by
  simp only [sumQ]
  rw [lq f k n]
  by_cases z:n=k
  ·subst z
   rw [if_neg (by omega),if_pos rfl,if_pos (by omega)]
   grind
  ·rw [if_neg z]
   by_cases y:k < n
   ·rw [if_pos y,if_pos (by omega)]
    grind
   ·rw [if_neg y,if_neg (by omega)]
    grind
theorem zB {z N:Int} (hN:0 < N) (h0:(0:Rat) <= (z:Rat) / N) (h1:(z:Rat) / N <= 1):z.natAbs <= N.natAbs:=by
 have e:=(Rq.lowQ (a:=z) (b:=N) (by omega))
 have hn:=cast_ne (show N≠0 by omega)
 have p:(0:Rat) < (N:Rat):=by
  have:=Rat.intCast_lt_intCast.mpr hN
  simpa using this
 have a0:(0:Rat) <= (z:Rat):=by
  have:(z:Rat)=(z:Rat) / N * N:=by grind
  rw [this]
  exact Rat.mul_nonneg h0 (Rat.le_of_lt p)
 have a1:(z:Rat) <= (N:Rat):=by
  have h2:(z:Rat)=(z:Rat) / N * N:=by grind
  have h3:(z:Rat) / N * N <= 1 * N:=Rat.mul_le_mul_of_nonneg_right h1 (Rat.le_of_lt p)
  rw [← h2] at h3
  grind
 have b0:(0:Int) <= z:=Rat.intCast_le_intCast.mp (by simpa using a0)
 have b1:z <= N:=Rat.intCast_le_intCast.mp a1
 omega
theorem tF {n:Nat} {N:Int} (hN:N≠0):∀ {l:List Rat},(∀ q∈l,∃ z:Int,Bd n z /\ q=(z:Rat) / N)->∃ zs:List Int,zs.length=l.length /\ (∀ z∈zs,Bd n z) /\ l.sum=(zs.sum:Rat) / N
 | [],_=>⟨[],rfl,fun z hz=>by simp at hz,by simp [Rat.div_def]⟩
 | q::l,h=>by
  obtain ⟨z,bz,e⟩:=h q List.mem_cons_self
  obtain ⟨zs,e1,e2,e3⟩:=tF hN (l:=l) fun q hq=>h q (List.mem_cons_of_mem _ hq)
  refine ⟨z::zs,by simp [e1],fun y hy=>?_,?_⟩
  ·rcases List.mem_cons.mp hy with rfl | hy
   ·exact bz
   ·exact e2 y hy
  ·have hN':=cast_ne hN
   rw [List.sum_cons,List.sum_cons,e3,e,Rat.intCast_add]
   grind
theorem zV {n:Nat} {N:Int} (hN:0 < N) (bN:Bd n N) {qs:List Rat} (h:∀ q∈qs,(0 <= q /\ q <= 1) /\ ∃ z:Int,q=(z:Rat) / N) (hl:qs.length <= 16) (hn:n <= 2900):∀ l,l <:+: qs->QB 3000 l.sum:=fun l hi=>by
 obtain ⟨zs,e1,e2,e3⟩:=tF (n:=n) (N:=N) (by omega) (l:=l) fun q hq=>by
  obtain ⟨⟨q0,q1⟩,z,e⟩:=h q (hi.subset hq)
  exact ⟨z,bN.le (zB hN (by rw [← e]; exact q0) (by rw [← e]; exact q1)),e⟩
 rw [e3]
 refine QB.of (by omega) ((sX (k:=4) e2 ?_).mono (by omega)) (bN.mono (by omega))
 rw [e1]
 exact Nat.le_trans hi.length_le hl
theorem zW {d e:D} (h:d=e) (s:shp e=true) {A B:Prop} (q:B):Br (!eqD d e) A B:=by
 rw [h,eE s]
 exact Br.f q
theorem zX {a b:Rat} (ha:0 <= a /\ a <= 1) (hb:0 <= b /\ b <= 1):0 <= a * b /\ a * b <= 1:=by
 refine ⟨Rat.mul_nonneg ha.1 hb.1,?_⟩
 have h1:a * b <= 1 * b:=Rat.mul_le_mul_of_nonneg_right ha.2 hb.1
 have h2:=hb.2
 grind
structure Wk (n:Nat) (q:Nat->Rat):Prop where
 nn:∀ i,i < n->0 <= q i
 one:sumQ q n=1
 cd:∃ N:Int,0 < N /\ Bd 1400 N /\ ∀ i,i < n->∃ z:Int,q i=(z:Rat) / N
theorem Wk.le {n:Nat} {q:Nat->Rat} (o:Wk n q) {i:Nat} (hi:i < n):q i <= 1:=by
 have h1:sumQ (fun k=>if k=i then q k else 0) n <= sumQ q n:=gM fun k hk=>by
  have:=o.nn k hk
  show (if k=i then q k else 0) <= q k
  split
  ·exact Rat.le_refl
  ·exact this
 rw [lq q i n,if_pos hi,o.one] at h1
 exact h1
theorem fr_B {m:Nat} {N z:Int} {x:Rat} (n0:0 < N) (bN:Bd m N) (e:x=(z:Rat) / N) (h0:0 <= x) (h1:x <= 1):QB m x:=by
 rw [e] at h0 h1 ⊢
 exact QB.of (by omega) (bN.le (zB n0 h0 h1)) bN
theorem Wk.B {n:Nat} {q:Nat->Rat} (o:Wk n q) {i:Nat} (hi:i < n):QB 1400 (q i):=by
 obtain ⟨N,n0,bN,hz⟩:=o.cd
 obtain ⟨z,e⟩:=hz i hi
 exact fr_B n0 bN e (o.nn i hi) (o.le hi)
section
variable {n:Nat} {t:List Row} {a b:Int}
theorem T61.shc (o:T61 n t a b):∀ j,j <= t.length->∃ P:Int,0 < P /\ Bd (80 * j + 1) P /\ ∀ i,i < j->∃ z:Int,sh t b.toNat i=(z:Rat) / P
 | 0,_=>⟨1,by decide,by unfold Bd; decide,fun i hi=>absurd hi (Nat.not_lt_zero i)⟩
 | j + 1,hj=>by
  obtain ⟨P,p0,bp,hp⟩:=o.shc j (by omega)
  obtain ⟨_,_,_,_,c⟩:=o.cl (i:=j) o.nb (by omega)
  by_cases z:(My.cl t b.toNat j).1=0
  ·refine ⟨P,p0,bp.mono (by omega),fun i hi=>?_⟩
   by_cases y:i=j
   ·subst y
    exact ⟨0,by unfold sh; rw [if_pos z]; simp [Rat.div_def]⟩
   ·exact hp i (by omega)
  ·have c0:0 < (My.cl t b.toNat j).1:=by have:=c.lo; have:=c.hi; omega
   have n1:=Rq.cast_ne (show P≠0 by omega)
   have n2:=Rq.cast_ne z
   refine ⟨P * (My.cl t b.toNat j).1,Int.mul_pos p0 c0,(bp.mul c.bt).mono (by omega),fun i hi=>?_⟩
   by_cases y:i=j
   ·subst y
    refine ⟨P * (My.cl t b.toNat i).2,?_⟩
    unfold sh
    rw [if_neg z,Rat.intCast_mul,Rat.intCast_mul]
    grind
   ·obtain ⟨u,hu⟩:=hp i (by omega)
    refine ⟨u * (My.cl t b.toNat j).1,?_⟩
    rw [hu,Rat.intCast_mul,Rat.intCast_mul]
    grind
theorem T61.sP (o:T61 n t a b):∃ P:Int,0 < P /\ Bd 1281 P /\ ∀ i,i < t.length->∃ z:Int,sh t b.toNat i=(z:Rat) / P:=by
 obtain ⟨P,p0,bp,h⟩:=o.shc t.length (Nat.le_refl _)
 exact ⟨P,p0,bp.mono (by have:=o.l16; omega),h⟩
theorem T61.s01 (o:T61 n t a b) {i:Nat} (hi:i < t.length):0 <= sh t b.toNat i /\ sh t b.toNat i <= 1:=by
 obtain ⟨_,_,_,_,c⟩:=o.cl o.nb hi
 unfold sh
 split
 ·exact ⟨Rat.le_refl,by decide⟩
 ·rename_i z
  have h0:0 <= (My.cl t b.toNat i).2:=by have:=c.lo; omega
  have h1:(My.cl t b.toNat i).2 <= (My.cl t b.toNat i).1:=by have:=c.hi; omega
  have hp:(0:Rat) < ((My.cl t b.toNat i).1:Rat):=by exact_mod_cast (show 0 < (My.cl t b.toNat i).1 by omega)
  have c0:(0:Rat) <= ((My.cl t b.toNat i).2:Rat):=by exact_mod_cast h0
  have c1:((My.cl t b.toNat i).2:Rat) <= ((My.cl t b.toNat i).1:Rat):=by exact_mod_cast h1
  have hi':=Rat.inv_pos.mpr hp
  refine ⟨?_,?_⟩
  ·rw [Rat.div_def]
   exact Rat.mul_nonneg c0 (Rat.le_of_lt hi')
  ·rw [Rat.div_def]
   have:=Rat.mul_le_mul_of_nonneg_right c1 (Rat.le_of_lt hi')
   have e:((My.cl t b.toNat i).1:Rat) * ((My.cl t b.toNat i).1:Rat)⁻¹ = 1:=Rat.mul_inv_cancel _ (by grind)
   rw [e] at this
   exact this
theorem T61.wk (o:T61 n t a b):Wk t.length (wA t a):=by
 refine ⟨fun i hi=>(o.wn hi).1,?_,WA t a,o.W.1,o.W.2.mono (by decide),fun i hi=>⟨_,rfl⟩⟩
 have key:∀ k,k <= t.length->sumQ (wA t a) k=(((List.range k).map fun i=>(My.cl t a.toNat i).1).sum:Int) / (WA t a:Rat):=fun k=>by
  induction k with
  | zero=>intro _; simp [sumQ,Rat.div_def]
  | succ k ih =>
   intro hk
   simp only [sumQ]
   rw [ih (by omega),List.range_succ,List.map_append,List.sum_append]
   simp only [List.map_cons,List.map_nil,List.sum_cons,List.sum_nil,Int.add_zero,Rat.intCast_add]
   unfold wA
   have:=Rq.cast_ne (show WA t a≠0 by have:=o.W.1; omega)
   grind
 rw [key _ (Nat.le_refl _)]
 have e:((List.range t.length).map fun i=>(My.cl t a.toNat i).1).sum=WA t a:=by
  unfold WA sumP
  rw [oF (0,0) (fun c:Int×Int=>c.1)]
  have:(col t a.toNat).length=t.length:=by unfold col; rw [List.length_map]
  rw [this]
  rfl
 rw [e]
 have:=Rq.cast_ne (show WA t a≠0 by have:=o.W.1; omega)
 grind
end
def mixW (t:List Row) (b:Int) (q:Nat->Rat):Rat:=sumQ (fun i=>q i * sh t b.toNat i) t.length
def mixQ (t:List Row) (a b:Int):Rat:=mixW t b (wA t a)
structure Mx (n:Nat) (t:List Row) (a b:Int) (q:Nat->Rat):Prop extends T61 n t a b where
 k:Wk t.length q
 tr:∀ i,i < t.length->0 < q i->(My.cl t b.toNat i).1≠0
theorem T61.mx {n:Nat} {t:List Row} {a b:Int} (o:T61 n t a b):Mx n t a b (wA t a):=⟨o,o.wk,fun i hi z e=>(o.wn hi).2.mp z ((o.lk hi).mpr e)⟩
def wL (q:Nat->Rat) (n:Nat):D:=.lst ((List.range n).map fun i=>ratQ (q i))
theorem Cj (t:List Row) (a:Int):D.lst ((wts (col t a.toNat)).map ratQ)=wL (wA t a) t.length:=by rw [vX]; rfl
def gMS:DSp:=fun ds Q=>∃ (n:Nat) (t:List Row) (a b:Int) (q:Nat->Rat),ds=[.lst (t.map rowD),.int b,wL q t.length] /\ Mx n t a b q /\ Q (ratQ (mixW t b q))
theorem oG:aV gMS:=fun ds P P' f ⟨n,t,a,b,q,e,o,c⟩=>⟨n,t,a,b,q,e,o,f _ c⟩
theorem Mx.pcs {n:Nat} {t:List Row} {a b:Int} {q:Nat->Rat} (o:Mx n t a b q):∀ l,l <:+: pcs q (sh t b.toNat) t.length->QB 3000 l.sum:=by
 obtain ⟨N,n0,bN,hz⟩:=o.k.cd
 obtain ⟨P,p0,bP,hp⟩:=o.sP
 refine zV (N:=N * P) (n:=2681) (Int.mul_pos n0 p0) (bN.mul bP) (fun x hx=>?_) (Nat.le_trans (rW _ _ _) o.l16) (by decide)
 unfold My.pcs at hx
 obtain ⟨k,hk,rfl⟩:=List.mem_map.mp hx
 have hk:=List.mem_range.mp (List.mem_filter.mp hk).1
 refine ⟨zX ⟨o.k.nn k hk,o.k.le hk⟩ (o.s01 hk),?_⟩
 obtain ⟨z,e⟩:=hz k hk
 obtain ⟨y,e'⟩:=hp k hk
 refine ⟨z * y,?_⟩
 rw [e,e',Rat.intCast_mul,Rat.intCast_mul]
 have:=Rq.cast_ne (show N≠0 by omega)
 have:=Rq.cast_ne (show P≠0 by omega)
 grind
theorem Mx.B {n:Nat} {t:List Row} {a b:Int} {q:Nat->Rat} (o:Mx n t a b q):QB 3000 (mixW t b q):=by
 have:=o.pcs _ (List.infix_refl _)
 rw [rX fun i hi=>o.k.nn i hi] at this
 exact this
theorem oH (T:Tx K mg):FnOk P w K mg base CX0 10 T.gv T.fE ["table","house","weights"] (spD K 3 gMS):=by
 refine fnD (k:=9) T.dl.F sc_mixed_share (fun cdv A outer s H E hr=>(ai (pP (i:=3) sc_mixed_share.nd rfl (by first | exact Or.inl rfl | exact Or.inr rfl) (kD af))
   (aW (dQ PassesOwn.never rfl (qd rfl T.uA (aa (ac 0 (pv 0)) (aa (ac 2 (pv 2)) af))) (gw (n:=2) rfl (aJ (aB (i:=4) sc_mixed_share.nd rfl (by first | exact Or.inl rfl | exact Or.inr rfl)) (aJ (aB (i:=5) sc_mixed_share.nd rfl (by first | exact Or.inl rfl | exact Or.inr rfl)) dZ))) (ah (bE (aH jJ (ak (ac 5 (pv 5)) ae (fun _ _=>rfl)) ae (aA _)) (ah (pV (pv 3) (ag (vO T) vN (hr.mono (by decide)) rfl T.gQ.m T.gQ.F.kp T.gQ.b (aa (ac 5 (pv 5)) (aa (ag (jT T) jS (hr.mono (by decide)) rfl T.bJ.m T.bJ.F.kp T.bJ.b (aa (ak (ac 4 (pv 4)) (ac 1 (pv 1)) (fun _ _=>rfl)) af)) af))))) aF)))
   (ah (aC (ag (oC T) oD (hr.mono (by decide)) rfl T.eX.m T.eX.F.kp T.eX.b (aa (ac 3 (pv 3)) af))))))) (fun ds Q hl h=>?_)
 obtain ⟨n,t,a,hh,q,rfl,o,h⟩:=h
 have l16:=o.l16
 have h0:=o.b0
 have h1:=o.b1
 refine ⟨sz,fun ρ=>∃ x y:Sl,ρ=[.val (.lst (t.map rowD)),.val (.int hh),.val (wL q t.length),.own ((pcs q (sh t hh.toNat) t.length).map ratQ),x,y],?_,?_⟩
 ·show fT _ _ (zipD (t.map rowD) ((List.range t.length).map fun i=>ratQ (q i))) _ _
  have ez:zipD (t.map rowD) ((List.range t.length).map fun i=>ratQ (q i))=(List.range t.length).map fun i=>.tup [rowD (t.getD i []),ratQ (q i)]:=by rw [tD (d:=[]) rowD,ir]
  rw [ez]
  refine eS _ (fun i ρ=>∃ x y:Sl,ρ=[.val (.lst (t.map rowD)),.val (.int hh),.val (wL q t.length),.own ((pcs q (sh t hh.toNat) i).map ratQ),x,y]) (fun ρ hN=>hN) (fun i ρ X hi hN hX=>?_) _ ⟨.nil,.nil,rfl⟩
  obtain ⟨x,y,rfl⟩:=hN
  obtain ⟨r,e1,e2,e3,c⟩:=o.cl (h:=hh.toNat) o.nb hi
  have e4:t.getD i []=r:=by rw [List.getD_eq_getElem?_getD,e1]; rfl
  rw [e4]
  refine ⟨rfl,Br.di (fun z=>?_) (fun z=>?_)⟩
  ·have wp:=num_pos'.mp z
   have c0:(My.cl t hh.toNat i).1≠0:=o.tr i hi wp
   have es:sh t hh.toNat i=((My.cl t hh.toNat i).2:Rat) / ((My.cl t hh.toNat i).1:Rat):=by unfold sh; rw [if_neg c0]
   refine ⟨trivial,cf (o.r80 r e2) h0 h1 ?_⟩
   rw [e3]
   refine ⟨rfl,yi (n:=80) (by decide) c.bt c.bw c0 ?_⟩
   have es2:shQ (My.cl t hh.toNat i)=sh t hh.toNat i:=by rw [es]; rfl
   rw [es2]
   refine ⟨rfl,yh ((o.k.B hi).mono (by decide)) ((o.sB hi).mono (by decide)) ⟨?_,hX _ ⟨.val (rowD r),.val (ratQ (q i)),?_⟩⟩⟩
   ·rw [List.length_map]
    exact Nat.lt_of_le_of_lt (Nat.le_trans (rW _ _ _) (show i <= 100 by omega)) (by decide)
   ·rw [oE,if_pos wp,List.map_append]
    rfl
  ·have z:¬ 0 < q i:=fun y=>z (num_pos'.mpr y)
   refine hX _ ⟨.val (rowD r),.val (ratQ (q i)),?_⟩
   rw [oE,if_neg z,List.append_nil]
   rfl
 ·rintro _ ⟨x,y,rfl⟩
  refine ⟨rfl,pcs q (sh t hh.toNat) t.length,rfl,Nat.le_trans (rW _ _ _) (show _ <= 32 by omega),fun l hl=>o.pcs l hl,?_⟩
  rw [rX fun i hi=>o.k.nn i hi]
  exact h
theorem qE {N:Int} (n0:0 < N) {x y:Rat} (hx:∃ z:Int,x=(z:Rat) / N) (hy:∃ z:Int,y=(z:Rat) / N):∃ z:Int,x + y=(z:Rat) / N:=by
 obtain ⟨u,rfl⟩:=hx
 obtain ⟨v,rfl⟩:=hy
 refine ⟨u + v,?_⟩
 have:=Rq.cast_ne (show N≠0 by omega)
 rw [Rat.intCast_add]
 grind
theorem mC {N:Int} (n0:0 < N) {x y:Rat} (hx:∃ z:Int,x=(z:Rat) / N) (hy:∃ z:Int,y=(z:Rat) / N):∃ z:Int,x - y=(z:Rat) / N:=by
 obtain ⟨u,rfl⟩:=hx
 obtain ⟨v,rfl⟩:=hy
 refine ⟨u - v,?_⟩
 have:=Rq.cast_ne (show N≠0 by omega)
 rw [Rat.intCast_sub]
 grind
theorem tG {N M:Int} (n0:0 < N) (m0:0 < M) {x y:Rat} (hx:∃ z:Int,x=(z:Rat) / N) (hy:∃ z:Int,y=(z:Rat) / M):∃ z:Int,x * y=(z:Rat) / ((N * M:Int):Rat):=by
 obtain ⟨u,rfl⟩:=hx
 obtain ⟨v,rfl⟩:=hy
 refine ⟨u * v,?_⟩
 have:=Rq.cast_ne (show N≠0 by omega)
 have:=Rq.cast_ne (show M≠0 by omega)
 rw [Rat.intCast_mul,Rat.intCast_mul]
 grind
theorem xI {N M:Int} (n0:0 < N) (m0:0 < M) {x:Rat} (hx:∃ z:Int,x=(z:Rat) / N):∃ z:Int,x=(z:Rat) / ((N * M:Int):Rat):=by
 obtain ⟨u,rfl⟩:=hx
 refine ⟨u * M,?_⟩
 have:=Rq.cast_ne (show N≠0 by omega)
 have:=Rq.cast_ne (show M≠0 by omega)
 rw [Rat.intCast_mul,Rat.intCast_mul]
 grind
theorem fr_0 (N:Int):∃ z:Int,(0:Rat)=(z:Rat) / N:=⟨0,by simp [Rat.div_def]⟩
theorem oI {N:Int} {c:Prop} [Decidable c] {x:Rat} (hx:∃ z:Int,x=(z:Rat) / N):∃ z:Int,(if c then x else 0)=(z:Rat) / N:=by
 split
 ·exact hx
 ·exact fr_0 N
theorem iC {N:Int} (n0:0 < N) {f:Nat->Rat}:∀ {n:Nat},(∀ i,i < n->∃ z:Int,f i=(z:Rat) / N)->∃ z:Int,sumQ f n=(z:Rat) / N
 | 0,_=>fr_0 N
 | n + 1,h=>qE n0 (iC n0 fun i hi=>h i (by omega)) (h n (by omega))
theorem fW {f:Nat->Rat}:∀ {n:Nat},(∀ i,i < n->0 <= f i)->0 <= sumQ f n
 | 0,_=>Rat.le_refl
 | n + 1,h=>by
  have h1:=fW fun i (hi:i < n)=>h i (by omega)
  have h2:=h n (by omega)
  show 0 <= sumQ f n + f n
  grind
theorem fX (f g:Nat->Rat):∀ n,sumQ (fun i=>f i - g i) n=sumQ f n - sumQ g n
 | 0=>by simp only [sumQ]; grind
 | n + 1=>by
  simp only [sumQ]
  rw [fX f g n]
  grind
section
variable {n:Nat} {t:List Row} {a b:Int}
theorem Mx.m01 {q:Nat->Rat} (o:Mx n t a b q):0 <= mixW t b q /\ mixW t b q <= 1:=by
 refine ⟨fW fun i hi=>(zX ⟨o.k.nn i hi,o.k.le hi⟩ (o.s01 hi)).1,?_⟩
 rw [← o.k.one]
 refine gM fun i hi=>?_
 have h1:=o.k.nn i hi
 have h2:=(o.s01 hi).2
 have:=Rat.mul_le_mul_of_nonneg_left h2 h1
 grind
theorem T61.mF (o:T61 n t a b) {P:Int} (p0:0 < P) (hp:∀ i,i < t.length->∃ z:Int,sh t b.toNat i=(z:Rat) / P):∃ z:Int,mixQ t a b=(z:Rat) / ((WA t a * P:Int):Rat) :=
 iC (Int.mul_pos o.W.1 p0) fun i hi=>tG o.W.1 p0 ⟨_,rfl⟩ (hp i hi)
theorem T61.mB (o:T61 n t a b):QB 1400 (mixQ t a b):=by
 obtain ⟨P,p0,bP,hp⟩:=o.sP
 obtain ⟨z,e⟩:=o.mF p0 hp
 have m:=o.mx.m01
 exact (fr_B (Int.mul_pos o.W.1 p0) (o.W.2.mul bP) e m.1 m.2).mono (by decide)
end
def ratK (q:Rat):List Key:=[.inl q.num,.inl (q.den:Int)]
theorem ratK_inj {p q:Rat}:ratK p=ratK q↔p=q:=by
 refine ⟨fun h=>?_,fun h=>by rw [h]⟩
 unfold ratK at h
 have h1:p.num=q.num:=by simpa using (List.cons.inj h).1
 have h2:(p.den:Int)=(q.den:Int):=by
  have:=(List.cons.inj (List.cons.inj h).2).1
  exact Sum.inl.inj this
 rw [← self p,← self q,h1,h2]
def encL (p:Rat×Int):List Key×D:=(ratK p.1,.int p.2)
def getL (L:List (Rat×Int)) (q:Rat):Int:=((L.find? fun p=>decide (p.1=q)).map (·.2)).getD 0
def putL (L:List (Rat×Int)) (q:Rat) (v:Int):List (Rat×Int):=if (L.any fun p=>decide (p.1=q))=true then L.map (fun p=>if p.1=q then (p.1,v) else p) else L++[(q,v)]
theorem oJ (q:Rat):∀ L:List (Rat×Int),kR (L.map encL) (ratK q)=(L.find? fun p=>decide (p.1=q)).map fun p=>.int p.2
 | []=>rfl
 | p::L=>by
  have ih:=oJ q L
  unfold kR at ih ⊢
  rw [List.map_cons,List.find?_cons,List.find?_cons]
  have e:decide ((encL p).1=ratK q)=decide (p.1=q):=decide_eq_decide.mpr ratK_inj
  rw [e]
  cases decide (p.1=q) with
  | true=>rfl
  | false=>exact ih
theorem zY (L:List (Rat×Int)) (q:Rat):(kR (L.map encL) (ratK q)).getD (.int 0) = .int (getL L q):=by
 rw [oJ]
 unfold getL
 cases L.find? fun p=>decide (p.1=q) <;> rfl
theorem zZ (L:List (Rat×Int)) (q:Rat) (v:Int):putA (L.map encL) (ratK q) (.int v)=(putL L q v).map encL:=by
 unfold putA putL
 have e:((L.map encL).any fun p=>decide (p.1=ratK q))=L.any fun p=>decide (p.1=q):=by
  rw [List.any_map]
  congr 1
  funext p
  exact decide_eq_decide.mpr ratK_inj
 rw [e]
 split
 ·rw [List.map_map,List.map_map]
  apply List.map_congr_left
  intro p _
  show (if ratK p.1=ratK q then (ratK p.1,D.int v) else encL p)=encL (if p.1=q then (p.1,v) else p)
  by_cases z:p.1=q
  ·rw [if_pos (ratK_inj.mpr z),if_pos z]; rfl
  ·rw [if_neg (fun y=>z (ratK_inj.mp y)),if_neg z]
 ·rw [List.map_append]
  rfl
def lvl (t:List Row) (a b:Int) (q:Rat):Nat->Int
 | 0=>0
 | k + 1=>lvl t a b q k + if (cl t b.toNat k).1≠0 /\ sh t b.toNat k=q then (cl t a.toNat k).1 else 0
structure Lev (t:List Row) (a b:Int) (i:Nat) (L:List (Rat×Int)):Prop where
 nd:(L.map (·.1)).Nodup
 mem:∀ q,q∈L.map (·.1)↔∃ k,k < i /\ (cl t b.toNat k).1≠0 /\ sh t b.toNat k=q
 val:∀ p∈L,p.2=lvl t a b p.1 i
 len:L.length <= i
theorem tH {t:List Row} {a b:Int} {q:Rat}:∀ {i:Nat},(∀ k,k < i->¬ ((cl t b.toNat k).1≠0 /\ sh t b.toNat k=q))->lvl t a b q i=0
 | 0,_=>rfl
 | i + 1,h=>by
  show lvl t a b q i + _=0
  rw [tH fun k hk=>h k (by omega),if_neg (h i (by omega))]
  rfl
theorem mD (L:List (Rat×Int)) (q:Rat) (v:Int):(putL L q v).map (·.1)=if q∈L.map (·.1) then L.map (·.1) else L.map (·.1)++[q]:=by
 have e:(L.any fun p=>decide (p.1=q))=true↔q∈L.map (·.1):=by
  rw [List.any_eq_true,List.mem_map]
  exact ⟨fun ⟨p,hp,e⟩=>⟨p,hp,of_decide_eq_true e⟩,fun ⟨p,hp,e⟩=>⟨p,hp,decide_eq_true e⟩⟩
 unfold putL
 by_cases z:q∈L.map (·.1)
 ·rw [if_pos (e.mpr z),if_pos z,List.map_map]
  apply List.map_congr_left
  intro p _
  show (if p.1=q then (p.1,v) else p).1=p.1
  split <;> rfl
 ·rw [if_neg (fun y=>z (e.mp y)),if_neg z,List.map_append]
  rfl
theorem xJ {L:List (Rat×Int)} {q:Rat} {v:Int}:∀ p∈putL L q v,(p.1=q /\ p.2=v)∨(p.1≠q /\ p∈L):=fun p hp=>by
 unfold putL at hp
 split at hp
 ·obtain ⟨r,hr,rfl⟩:=List.mem_map.mp hp
  by_cases z:r.1=q
  ·rw [if_pos z]; exact .inl ⟨z,rfl⟩
  ·rw [if_neg z]; exact .inr ⟨z,hr⟩
 ·rename_i no
  rcases List.mem_append.mp hp with hp | hp
  ·refine .inr ⟨fun z=>no ?_,hp⟩
   rw [List.any_eq_true]
   exact ⟨p,hp,decide_eq_true z⟩
  ·rw [List.mem_singleton.mp hp]
   exact .inl ⟨rfl,rfl⟩
theorem Lev.get {t:List Row} {a b:Int} {i:Nat} {L:List (Rat×Int)} (o:Lev t a b i L) (q:Rat):getL L q=lvl t a b q i:=by
 unfold getL
 cases e:L.find? fun p=>decide (p.1=q) with
 | none =>
  refine (tH fun k hk hq=>?_).symm
  obtain ⟨p,hp,hpq⟩:=List.mem_map.mp ((o.mem q).mpr ⟨k,hk,hq⟩)
  have:=List.find?_eq_none.mp e p hp
  exact this (decide_eq_true hpq)
 | some p =>
  have h1:=List.mem_of_find?_eq_some e
  have h2:p.1=q:=by simpa using List.find?_some e
  have:=o.val p h1
  rw [h2] at this
  exact this
theorem Lev.step {t:List Row} {a b:Int} {i:Nat} {L:List (Rat×Int)} (o:Lev t a b i L) (h:(cl t b.toNat i).1≠0):Lev t a b (i + 1) (putL L (sh t b.toNat i) (getL L (sh t b.toNat i) + (cl t a.toNat i).1)):=by
 rw [o.get]
 refine ⟨?_,fun q=>?_,fun p hp=>?_,?_⟩
 ·rw [mD]
  split
  ·exact o.nd
  ·rename_i z
   rw [List.nodup_append]
   exact ⟨o.nd,by simp,fun x hx y hy e=>by rw [List.mem_singleton.mp hy] at e; rw [e] at hx; exact z hx⟩
 ·have key:q∈(putL L (sh t b.toNat i) (lvl t a b (sh t b.toNat i) i + (cl t a.toNat i).1)).map (·.1)↔q∈L.map (·.1)∨q=sh t b.toNat i:=by
   rw [mD]
   split
   ·rename_i z
    exact ⟨.inl,fun y=>y.elim id fun e=>by rw [e]; exact z⟩
   ·rw [List.mem_append,List.mem_singleton]
  rw [key,o.mem]
  constructor
  ·rintro (⟨k,h1,h2⟩ | rfl)
   ·exact ⟨k,by omega,h2⟩
   ·exact ⟨i,by omega,h,rfl⟩
  ·rintro ⟨k,h1,h2,h3⟩
   by_cases z:k=i
   ·subst z; exact .inr h3.symm
   ·exact .inl ⟨k,by omega,h2,h3⟩
 ·show p.2=lvl t a b p.1 i + _
  rcases xJ p hp with ⟨h1,h2⟩ | ⟨h1,h2⟩
  ·rw [h1,h2,if_pos ⟨h,rfl⟩]
  ·rw [if_neg (fun y=>h1 y.2.symm),o.val p h2]
   omega
 ·have e:(putL L (sh t b.toNat i) (lvl t a b (sh t b.toNat i) i + (cl t a.toNat i).1)).length=((putL L (sh t b.toNat i) (lvl t a b (sh t b.toNat i) i + (cl t a.toNat i).1)).map (·.1)).length:=by rw [List.length_map]
  rw [e,mD]
  have:=o.len
  split
  ·rw [List.length_map]; omega
  ·rw [List.length_append,List.length_map,List.length_singleton]; omega
theorem Lev.skip {t:List Row} {a b:Int} {i:Nat} {L:List (Rat×Int)} (o:Lev t a b i L) (h:(cl t b.toNat i).1=0):Lev t a b (i + 1) L:=by
 refine ⟨o.nd,fun q=>?_,fun p hp=>?_,by have:=o.len; omega⟩
 ·rw [o.mem]
  constructor
  ·rintro ⟨k,h1,h2⟩
   exact ⟨k,by omega,h2⟩
  ·rintro ⟨k,h1,h2,h3⟩
   by_cases z:k=i
   ·subst z; exact absurd h h2
   ·exact ⟨k,by omega,h2,h3⟩
 ·show p.2=lvl t a b p.1 i + _
  rw [if_neg (fun y=>y.1 h),o.val p hp]
  omega
def sumA (t:List Row) (a:Int):Nat->Int
 | 0=>0
 | k + 1=>sumA t a k + (cl t a.toNat k).1
theorem Ck (t:List Row) (a:Int):sumA t a t.length=WA t a:=by
 unfold WA sumP
 have key:∀ n,sumA t a n=((List.range n).map fun i=>(cl t a.toNat i).1).sum:=fun n=>by
  induction n with
  | zero=>rfl
  | succ n ih =>
   rw [List.range_succ,List.map_append,List.sum_append]
   show sumA t a n + _=_
   rw [ih]
   simp
 rw [key,oF (0,0) (fun c:Int×Int=>c.1)]
 have:(col t a.toNat).length=t.length:=by unfold col; rw [List.length_map]
 rw [this]
 rfl
theorem T61.lv {n:Nat} {t:List Row} {a b:Int} (o:T61 n t a b) (q:Rat):∀ i,i <= t.length->0 <= lvl t a b q i /\ lvl t a b q i <= sumA t a i
 | 0,_=>⟨Int.le_refl 0,Int.le_refl 0⟩
 | i + 1,hi=>by
  have ih:=o.lv q i (by omega)
  obtain ⟨_,_,_,_,c⟩:=o.cl o.na (show i < t.length by omega)
  have hc:0 <= (My.cl t a.toNat i).1:=by have:=c.lo; have:=c.hi; omega
  show 0 <= lvl t a b q i + _ /\ lvl t a b q i + _ <= sumA t a i + _
  split <;> omega
theorem T61.lB {n:Nat} {t:List Row} {a b:Int} (o:T61 n t a b) (q:Rat):Bd 84 (lvl t a b q t.length):=by
 have h:=o.lv q t.length (Nat.le_refl _)
 rw [Ck] at h
 exact o.W.2.le (by omega)
def Ups (t:List Row) (b:Int) (rs:List Rat):Prop:=rs.Pairwise (· < ·) /\ ∀ q,q∈rs↔∃ k,k < t.length /\ (cl t b.toNat k).1≠0 /\ sh t b.toNat k=q
def wl (t:List Row) (a b:Int) (q:Rat):Rat:=(lvl t a b q t.length:Rat) / (WA t a:Rat)
def levD (t:List Row) (a b:Int) (q:Rat):D:=.tup [ratQ q,ratQ (wl t a b q)]
def gLev:DSp:=fun ds Q=>∃ (n:Nat) (t:List Row) (a b:Int),ds=[.lst (t.map rowD),.int a,.int b] /\ T61 n t a b /\ ∀ rs,Ups t b rs->rs.length <= 16->Q (.lst (rs.map (levD t a b)))
theorem tI:aV gLev:=fun ds P P' f ⟨n,t,a,b,e,o,h⟩=>⟨n,t,a,b,e,o,fun rs u l=>f _ (h rs u l)⟩
theorem tJ (T:Tx K mg) (B:Bm mg base):FnOk P w K mg base CX0 6 T.oR T.mU ["table","a","b"] (spD K 3 gLev):=by
 refine fnD (k:=5) T.fy.F sc_levels (fun cdv A outer s H E hr=>(ai (zy (i:=3) sc_levels.nd rfl (by first | exact Or.inl rfl | exact Or.inr rfl))
   (aW (dQ PassesOwn.never rfl (oh rfl T.fg (aa (ag (iM T) iL (hr.mono (by decide)) rfl T.bo.m T.bo.F.kp T.bo.b (aa (ac 0 (pv 0)) (aa (ac 2 (pv 2)) af))) af)) (gw (n:=2) rfl (aJ (aB (i:=4) sc_levels.nd rfl (by first | exact Or.inl rfl | exact Or.inr rfl)) (aJ (aB (i:=5) sc_levels.nd rfl (by first | exact Or.inl rfl | exact Or.inr rfl)) dZ))) (ah (bE (aH lT (ac 5 (pv 5)) fm (aA _)) (ah (zz hr (pv 3) (ac 5 (pv 5)) (aL gx (zA hr (pv 3) (ac 5 (pv 5)) ae) (ak (ak (ak (ac 0 (pv 0)) (ac 4 (pv 4)) (fun _ _=>rfl)) (ac 1 (pv 1)) (fun _ _=>rfl)) ae (fun _ _=>rfl))))) aF)))
   (ai (az (i:=6) sc_levels.nd rfl (by first | exact Or.inl rfl | exact Or.inr rfl) (ak (ag (cy T) cx (hr.mono (by decide)) rfl T.ay.m T.ay.F.kp T.ay.b (aa (ac 0 (pv 0)) (aa (ac 1 (pv 1)) af))) ae (fun _ _=>rfl)))
   (ah (aC (dP (PCD.pld (cJ (N':=["share","tried","whole"]) rfl rfl (by decide +kernel) rfl (.own (.cap (j:=3) rfl (by first | exact Or.inl rfl | exact Or.inr rfl) rfl (.cap (j:=6) rfl (by first | exact Or.inl rfl | exact Or.inr rfl) rfl .nil))) (by decide +kernel) (cI (ag (xH T B) xG (hr.mono (by decide)) rfl T.jC.m T.jC.F.kp T.jC.b (aa (jl xx rfl T.tN rfl (aa (ac 3 (pv 3)) af)) af))) (fun B=>(aB (i:=0) (show List.Nodup (α:=PySem.Str) ["share","tried","whole"] by decide +kernel) rfl (by first | exact Or.inl rfl | exact Or.inr rfl))) (fun B=>eu) (fun B=>(bO (aa (ac 0 (pv 0)) (aa (ag (dH T) dG (hr.mono (by decide)) rfl T.aE.m T.aE.F.kp T.aE.b (aa (BT hr (ac 1 (pv 1)) (ac 0 (pv 0)) (fun _ _=>rfl)) (aa (ac 2 (pv 2)) af))) af))))))))))))) (fun ds Q hl h=>?_)
 obtain ⟨n,t,a,b,rfl,o,h⟩:=h
 have l16:=o.l16
 refine ⟨fun ρ=>∃ L,Lev t a b t.length L /\ ∃ x y:Sl,ρ=[.val (.lst (t.map rowD)),.val (.int a),.val (.int b),.obj (dvO (L.map encL)),x,y,.nil],?_,?_⟩
 ·refine ⟨rfl,n,t,rfl,o.o,⟨o.b0,o.b1⟩,?_⟩
  show fT _ _ (gH 0 ((col t b.toNat).map cE)) _ _
  rw [tE cE (0,0)]
  have el:(col t b.toNat).length=t.length:=by unfold col; rw [List.length_map]
  rw [el]
  refine eS _ (fun i ρ=>∃ L,Lev t a b i L /\ ∃ x y:Sl,ρ=[.val (.lst (t.map rowD)),.val (.int a),.val (.int b),.obj (dvO (L.map encL)),x,y,.nil]) (fun ρ hN=>hN) (fun i ρ X hi hN hX=>?_) _ ⟨[],⟨by simp,fun q=>by simp,fun p hp=>by simp at hp,Nat.le_refl _⟩,_,_,rfl⟩
  obtain ⟨L,lv,x,y,rfl⟩:=hN
  obtain ⟨r,e1,e2,e3,c⟩:=o.cl (h:=a.toNat) o.na hi
  obtain ⟨_,_,_,_,cb⟩:=o.cl (h:=b.toNat) o.nb hi
  have lL:=lv.len
  by_cases z:(cl t b.toNat i).1=0
  ·have es:cE ((col t b.toNat).getD i (0,0)) = .non:=by
    have z:((col t b.toNat).getD i (0,0)).1=0:=z
    unfold cE
    rw [if_pos z]
   rw [es]
   exact ⟨rfl,Br.f (hX _ ⟨L,lv.skip z,_,_,rfl⟩)⟩
  ·have es:cE ((col t b.toNat).getD i (0,0))=ratQ (sh t b.toNat i):=by
    have z':¬ ((col t b.toNat).getD i (0,0)).1=0:=z
    rw [jx]
    unfold shO sh
    rw [if_neg z',if_neg z]
    rfl
   rw [es]
   refine ⟨rfl,Br.t ⟨trivial,L.map encL,ratK (sh t b.toNat i),rfl,rfl,?_⟩⟩
   rw [zY]
   refine fo (d:=rowD r) (by omega) (by rw [Int.toNat_natCast,List.getElem?_map,e1]; rfl) (cf (o.r80 r e2) o.a0 o.a1 ?_)
   refine ⟨trivial,L.map encL,ratK (sh t b.toNat i),rfl,rfl,by rw [List.length_map]; exact Nat.lt_of_le_of_lt (show L.length <= 100 by omega) (by decide),hX _ ⟨_,lv.step z,.val (.int i),.val (ratQ (sh t b.toNat i)),?_⟩⟩
   rw [← zZ,e3]
   rfl
 ·rintro _ ⟨L,lv,x,y,rfl⟩
  have lL:=lv.len
  have W:=o.W
  refine ⟨rfl,n,t,rfl,o.o,⟨o.a0,o.a1⟩,o.ha,?_⟩
  refine ⟨rfl,L.map (·.1),by rw [List.map_map,List.map_map,List.map_map]; rfl,by rw [List.length_map]; omega,lv.nd,fun q hq=>?_,fun rs ri=>?_⟩
  ·obtain ⟨k,hk,_,rfl⟩:=(lv.mem q).mp hq
   exact (o.sB hk).mono (by decide)
  have ups:Ups t b rs:=⟨ri.2,fun q=>by rw [ri.1.mem_iff]; exact lv.mem q⟩
  have rl:rs.length <= 16:=by rw [ri.1.length_eq,List.length_map]; omega
  refine jt (fun d=>match d with | .tup [.int x,.int y]=>levD t a b ((x:Rat) / (y:Rat)) | _=>.non) (fun ρ=>∃ s:Sl,ρ=[s,.val (fzO (dvO (L.map encL))),.val (.int (WA t a))]) (by rw [List.length_map]; exact Nat.le_trans rl (by decide)) (fun d hd ρ Y Z hN hY=>?_) _ ⟨_,rfl⟩ ?_
  ·obtain ⟨s,rfl⟩:=hN
   obtain ⟨q,hq,rfl⟩:=List.mem_map.mp hd
   have eq:(match ratQ q with | .tup [.int x,.int y]=>levD t a b ((x:Rat) / (y:Rat)) | _=>.non)=levD t a b q:=by
    show levD t a b ((q.num:Rat) / ((q.den:Int):Rat))=_
    rw [self q]
   rw [eq] at hY
   have hm:q∈L.map (·.1):=ri.1.mem_iff.mp hq
   have fe:kR (L.map encL) (ratK q)=some (.int (lvl t a b q t.length)):=by
    rw [oJ,← lv.get q]
    unfold getL
    obtain ⟨p,hp,hpq⟩:=List.mem_map.mp hm
    cases e:L.find? fun p=>decide (p.1=q) with
    | none=>exact absurd (decide_eq_true hpq) (List.find?_eq_none.mp e p hp)
    | some p=>rfl
   refine Br.t ⟨L.map encL,ratK q,.int (lvl t a b q t.length),?_,rfl,fe,?_⟩
   ·show fzO (dvO (L.map encL))=_
    unfold dvO
    simp only [fzO]
    rw [sC,List.map_map,List.map_map,List.map_map,List.map_map]
    rfl
   ·have W0:WA t a≠0:=by omega
    refine ⟨rfl,⟨W0,(o.lB q).mono (by decide),W.2.mono (by decide)⟩,fun x y l=>?_⟩
    obtain ⟨e1,e2⟩:=Rq.low W0 l
    rw [e1,e2]
    exact ⟨sz,hY _ ⟨_,rfl⟩⟩
  ·have:=h rs ups rl
   have e:(rs.map ratQ).map (fun d=>match d with | .tup [.int x,.int y]=>levD t a b ((x:Rat) / (y:Rat)) | _=>.non)=rs.map (levD t a b):=by
    rw [List.map_map]
    apply List.map_congr_left
    intro q _
    show levD t a b ((q.num:Rat) / ((q.den:Int):Rat))=_
    rw [self q]
   rw [e]
   exact this
def vY (p:Rat×Rat):D:=.tup [ratQ p.1,ratQ p.2]
def cor (G:Rat) (wt:Rat->Rat):Rat->Rat->List Rat->List (Rat×Rat)
 | _,_,[]=>[]
 | m,s,q::rs=>if q=G then cor G wt m s rs else (m + wt q,s + wt q * (G - q))::cor G wt (m + wt q) (s + wt q * (G - q)) rs
def aw (t:List Row) (b:Int):Rat:=vq (colO t b) (bC (colO t b)).2
theorem T61.tB {n:Nat} {t:List Row} {a b:Int} (o:T61 n t a b):QB 80 (aw t b):=by
 refine (zS (Ci fun c hc=>?_) (tu o.hb)).2
 obtain ⟨r,hr,rfl⟩:=List.mem_map.mp hc
 exact (cD (o.r80 r hr) o.nb).2
theorem T61.wlB {n:Nat} {t:List Row} {a b:Int} (o:T61 n t a b) (q:Rat):QB 84 (wl t a b q):=QB.of (by have:=o.W.1; omega) (o.lB q) o.W.2
def qF (t:List Row) (a b:Int) (rs:List Rat):List (Rat×Rat):=(0,mixQ t a b)::cor (aw t b) (wl t a b) 0 (mixQ t a b) rs
def gRch:DSpN:=fun ds _ L=>∃ (n:Nat) (t:List Row) (a b:Int),ds=[.lst (t.map rowD),.int a,.int b] /\ T61 n t a b /\ ∀ rs,Ups t b rs->rs.length <= 16->L ((qF t a b rs).map vY)
theorem tK:xh gRch:=fun ds P P' L L' f fl ⟨n,t,a,b,e,o,h⟩=>⟨n,t,a,b,e,o,fun rs u l=>fl _ (h rs u l)⟩
theorem xK (T:Tx K mg) (B:Bm mg base):FnOk P w K mg base CX0 11 T.oM T.lz ["table","a","b"] (spDN K 3 gRch):=by
 refine fnDN (k:=10) T.mR.F sc_reach (fun cdv A outer s H E hr=>(im (gE (ag (jz T) jy (hr.mono (by decide)) rfl T.bB.m T.bB.F.kp T.bB.b (aa (ac 0 (pv 0)) (aa (ac 1 (pv 1)) (aa (ac 2 (pv 2)) af)))))
   (im (az (i:=3) sc_reach.nd rfl (by first | exact Or.inl rfl | exact Or.inr rfl) (ak (ag (qC T) qA (hr.mono (by decide)) rfl T.dS.m T.dS.F.kp T.dS.b (aa (ac 0 (pv 0)) (aa (ac 2 (pv 2)) af))) ae (fun _ _=>rfl)))
   (im (az (i:=4) sc_reach.nd rfl (by first | exact Or.inl rfl | exact Or.inr rfl) (bO (aa ae (aa ae af))))
   (im (az (i:=5) sc_reach.nd rfl (by first | exact Or.inl rfl | exact Or.inr rfl) (ag (oH T) oG (hr.mono (by decide)) rfl T.dl.m T.dl.F.kp T.dl.b (aa (ac 0 (pv 0)) (aa (ac 2 (pv 2)) (aa (ag (gL T) gJ (hr.mono (by decide)) rfl T.aX.m T.aX.F.kp T.aX.b (aa (ac 0 (pv 0)) (aa (ac 1 (pv 1)) af))) af)))))
   (im (pP (i:=6) sc_reach.nd rfl (by first | exact Or.inl rfl | exact Or.inr rfl) (kD (aa (bO (aa (ac 4 (pv 4)) (aa (ac 5 (pv 5)) af))) af)))
   (vA (dQ PassesOwn.never rfl (cI (ag (tJ T B) tI (hr.mono (by decide)) rfl T.fy.m T.fy.F.kp T.fy.b (aa (ac 0 (pv 0)) (aa (ac 1 (pv 1)) (aa (ac 2 (pv 2)) af))))) (gw (n:=2) rfl (aJ (aB (i:=7) sc_reach.nd rfl (by first | exact Or.inl rfl | exact Or.inr rfl)) (aJ (aB (i:=8) sc_reach.nd rfl (by first | exact Or.inl rfl | exact Or.inr rfl)) dZ))) (ah (bE (aH (nW hr) (ac 7 (pv 7)) (ac 3 (pv 3)) (aA _)) (ai (az (i:=4) sc_reach.nd rfl (by first | exact Or.inl rfl | exact Or.inr rfl) (ag (qv T) qu (hr.mono (by decide)) rfl T.dX.m T.dX.F.kp T.dX.b (aa (ac 4 (pv 4)) (aa (ac 8 (pv 8)) af))))
   (ai (az (i:=5) sc_reach.nd rfl (by first | exact Or.inl rfl | exact Or.inr rfl) (ag (qv T) qu (hr.mono (by decide)) rfl T.dX.m T.dX.F.kp T.dX.b (aa (ac 5 (pv 5)) (aa (ag (vO T) vN (hr.mono (by decide)) rfl T.gQ.m T.gQ.F.kp T.gQ.b (aa (ac 8 (pv 8)) (aa (ag (ml T) mj (hr.mono (by decide)) rfl T.cg.m T.cg.F.kp T.cg.b (aa (ac 3 (pv 3)) (aa (ac 7 (pv 7)) af))) af))) af))))
   (ah (pV (pv 6) (bO (aa (ac 4 (pv 4)) (aa (ac 5 (pv 5)) af))))))) aF)))
   (vz (pv 6))))))))) (fun ds Q L hl h=>?_)
 obtain ⟨n,t,a,b,rfl,o,h⟩:=h
 refine ⟨rfl,n,t,rfl,o.toTwo,rfl,n,t,rfl,o.o,⟨o.b0,o.b1⟩,o.hb,?_⟩
 refine ⟨sz,rfl,n,t,rfl,o.o,⟨o.a0,o.a1⟩,o.ha,rfl,n,t,a,b,wA t a,by rw [← Cj],o.mx,?_⟩
 have gB:=o.tB
 have sB:=o.mB
 refine ⟨sz,sz,fun ρ=>∃ (rs:List Rat) (m s:Rat),Ups t b rs /\ rs.length <= 16 /\ ∃ x y:Sl,ρ=[.val (.lst (t.map rowD)),.val (.int a),.val (.int b),.val (ratQ (aw t b)),.val (ratQ m),.val (ratQ s),.own ((qF t a b rs).map vY),x,y],?_,?_⟩
 ·refine ⟨rfl,n,t,a,b,rfl,o,fun rs u rl=>?_⟩
  refine jr (fun pre ρ=>∃ (c0 c1:List Rat) (m s:Rat) (cs:List (Rat×Rat)),rs=c0++c1 /\ pre=c0.map (levD t a b) /\ cor (aw t b) (wl t a b) 0 (mixQ t a b) rs=cs++cor (aw t b) (wl t a b) m s c1 /\ QB (85 * c0.length + 1) m /\ QB (1400 + 246 * c0.length) s /\ cs.length <= c0.length /\
   ∃ x y:Sl,ρ=[.val (.lst (t.map rowD)),.val (.int a),.val (.int b),.val (ratQ (aw t b)),.val (ratQ m),.val (ratQ s),.own (((0,mixQ t a b)::cs).map vY),x,y]) (fun ρ hN=>?_) (fun pre d post ρ X e hN hX=>?_) _ ⟨[],rs,0,mixQ t a b,[],rfl,rfl,rfl,⟨lW,lW⟩,sB.mono (by omega),Nat.le_refl _,_,_,rfl⟩
  ·obtain ⟨c0,c1,m,s,cs,e1,e2,ec,_,_,_,x,y,rfl⟩:=hN
   have:c1=[]:=by
    have:=congrArg List.length e2
    rw [e1] at this
    simp at this
    exact this
   subst this
   refine ⟨rs,m,s,u,rl,x,y,?_⟩
   unfold qF
   rw [ec]
   simp [cor]
  ·obtain ⟨c0,c1,m,s,cs,e1,rfl,ec,bm,bs,lc,x,y,rfl⟩:=hN
   rw [e1,List.map_append] at e
   have e:=List.append_cancel_left e
   cases c1 with
   | nil=>simp at e
   | cons q c1 =>
    rw [List.map_cons] at e
    injection e with e3 e4
    subst e3
    have lr:c0.length + c1.length + 1 <= 16:=by rw [e1,List.length_append,List.length_cons] at rl; omega
    have qm:q∈rs:=by rw [e1]; simp
    have qB:QB 80 q:=by
     obtain ⟨k,hk,_,rfl⟩:=(u.2 q).mp qm
     exact o.sB hk
    have wB:=o.wlB q
    refine ⟨rfl,⟨bh _,bh _⟩,fun z=>?_,fun z=>?_⟩
    ·have z:(!eqD (ratQ q) (ratQ (aw t b)))=true:=z
     rw [lj] at z
     have z:¬ q=aw t b:=by simpa using z
     have gq:QB 161 (aw t b - q):=gB.sub qB
     have tw:QB 245 (wl t a b q * (aw t b - q)):=wB.mul gq
     refine ⟨rfl,m,wl t a b q,_,84,rfl,by omega,bm,wB,rfl,qw (gB.mono (by decide)) (qB.mono (by decide)) ⟨rfl,yh (wB.mono (by decide)) (gq.mono (by decide)) ⟨rfl,s,_,_,245,rfl,by omega,bs,tw,?_⟩⟩⟩
     refine ⟨trivial,sz,?_,hX _ ⟨c0++[q],c1,m + wl t a b q,s + wl t a b q * (aw t b - q),cs++[(m + wl t a b q,s + wl t a b q * (aw t b - q))],by rw [e1]; simp,by simp,?_,?_,?_,?_,.val (ratQ q),.val (ratQ (wl t a b q)),?_⟩⟩
     ·rw [List.length_map,List.length_cons]
      exact Nat.lt_of_le_of_lt (show cs.length + 1 <= 100 by omega) (by decide)
     ·rw [ec]
      simp only [cor]
      rw [if_neg z]
      simp
     ·refine (bm.add wB).mono ?_
      rw [List.length_append,List.length_singleton]
      omega
     ·refine (bs.add tw).mono ?_
      rw [List.length_append,List.length_singleton]
      omega
     ·rw [List.length_append,List.length_append,List.length_singleton,List.length_singleton]
      omega
     ·rw [← List.cons_append,List.map_append]
      rfl
    ·have z:(!eqD (ratQ q) (ratQ (aw t b)))=false:=z
     rw [lj] at z
     have z:q=aw t b:=by simpa using z
     refine hX _ ⟨c0++[q],c1,m,s,cs,by rw [e1]; simp,by simp,?_,bm.mono ?_,bs.mono ?_,?_,.val (ratQ q),.val (ratQ (wl t a b q)),rfl⟩
     ·rw [ec]
      simp only [cor]
      rw [if_pos z]
     ·rw [List.length_append,List.length_singleton]; omega
     ·rw [List.length_append,List.length_singleton]; omega
     ·rw [List.length_append,List.length_singleton]; omega
 ·rintro _ ⟨rs,m,s,u,rl,x,y,rfl⟩
  exact h rs u rl
def lsr (p q:Rat):Rat:=if q < p then q else p
def gLsr:DSp:=fun ds Q=>∃ p q:Rat,ds=[ratQ p,ratQ q] /\ QB 7000 p /\ QB 7000 q /\ Q (ratQ (lsr p q))
theorem xL:aV gLsr:=fun ds P P' f h=>by
 obtain ⟨a,b,c,d,e,h⟩:=h
 exact ⟨a,b,c,d,e,f _ h⟩
theorem xM (T:Tx K mg):FnOk P w K mg base CX0 2 T.oN T.mP ["one","other"] (spD K 2 gLsr):=by
 refine fnD (k:=1) T.jD.F vM (fun cdv A outer s H E hr=>(ah (aC (sD (cO (ag (mq T) mn (hr.mono (by decide)) rfl T.ci.m T.ci.F.kp T.ci.b (aa (ac 1 (pv 1)) (aa (ac 0 (pv 0)) af)))) (ac 1 (pv 1)) (ac 0 (pv 0)))))) (fun ds Q hl h=>?_)
 obtain ⟨p,q,rfl,bp,bq,h⟩:=h
 unfold lsr at h
 refine ⟨rfl,rS bq bp (Br.di (fun z=>?_) (fun z=>?_))⟩
 ·rw [if_pos z] at h
  exact h
 ·rw [if_neg z] at h
  exact h
def Aq (t:List Row) (a b:Int) (q:Rat):Rat:=sumQ (fun i=>if sh t b.toNat i < q then wA t a i else 0) t.length
def Sq (t:List Row) (a b:Int) (q:Rat):Rat:=mixQ t a b + sumQ (fun i=>if sh t b.toNat i < q then wA t a i * (aw t b - sh t b.toNat i) else 0) t.length
section
variable {n:Nat} {t:List Row} {a b:Int}
theorem T61.w0 (o:T61 n t a b) {i:Nat} (hi:i < t.length) (z:(My.cl t b.toNat i).1=0):wA t a i=0:=by
 unfold wA
 rw [(o.lk hi).mpr z]
 simp [Rat.div_def]
theorem T61.wl_sum (o:T61 n t a b) (q:Rat):wl t a b q=sumQ (fun i=>if sh t b.toNat i=q then wA t a i else 0) t.length:=by
 unfold wl
 have key:∀ k,k <= t.length->(lvl t a b q k:Rat) / (WA t a:Rat)=sumQ (fun i=>if sh t b.toNat i=q then wA t a i else 0) k:=fun k=>by
  induction k with
  | zero=>intro _; simp [lvl,sumQ,Rat.div_def]
  | succ k ih =>
   intro hk
   simp only [sumQ,lvl]
   rw [← ih (by omega),Rat.intCast_add]
   have hW:=Rq.cast_ne (show WA t a≠0 by have:=o.W.1; omega)
   by_cases z:(My.cl t b.toNat k).1=0
   ·rw [if_neg (fun y=>y.1 z)]
    have:=o.w0 (show k < t.length by omega) z
    rw [this]
    simp [Rat.add_zero]
   ·by_cases y:sh t b.toNat k=q
    ·rw [if_pos ⟨z,y⟩,if_pos y]
     unfold wA
     grind
    ·rw [if_neg (fun x=>y x.2),if_neg y]
     simp [Rat.add_zero]
 exact key _ (Nat.le_refl _)
theorem qG {l:List Rat} {r r':Rat} {c0 c1:List Rat} (h:l.Pairwise (· < ·)) (e:l=c0++r::r'::c1):r < r' /\ ∀ x∈l,(x < r'↔x < r∨x=r):=by
 subst e
 rw [List.pairwise_append] at h
 obtain ⟨h1,h2,h3⟩:=h
 rw [List.pairwise_cons] at h2
 obtain ⟨h4,h5⟩:=h2
 rw [List.pairwise_cons] at h5
 have hr:=h4 r' List.mem_cons_self
 refine ⟨hr,fun x hx=>?_⟩
 rcases List.mem_append.mp hx with hx | hx
 ·have:=h3 x hx r List.mem_cons_self
  constructor
  ·intro _; exact .inl this
  ·intro _; grind
 ·rcases List.mem_cons.mp hx with rfl | hx
  ·exact ⟨fun _=>.inr rfl,fun _=>hr⟩
  ·rcases List.mem_cons.mp hx with rfl | hx
   ·constructor
    ·intro h; exact absurd h (by grind)
    ·intro h; grind
   ·have:=h5.1 x hx
    constructor
    ·intro h; exact absurd h (by grind)
    ·intro h; grind
theorem T61.nextA (o:T61 n t a b) {rs:List Rat} (u:Ups t b rs) {c0 c1:List Rat} {r r':Rat} (e:rs=c0++r::r'::c1):Aq t a b r'=Aq t a b r + wl t a b r /\ Sq t a b r'=Sq t a b r + wl t a b r * (aw t b - r):=by
 have hp:=(qG u.1 e).2
 rw [o.wl_sum]
 have hi:∀ i,i < t.length->wA t a i=0∨sh t b.toNat i∈rs:=fun i hi=>by
  by_cases z:(My.cl t b.toNat i).1=0
  ·exact .inl (o.w0 hi z)
  ·exact .inr ((u.2 _).mpr ⟨i,hi,z,rfl⟩)
 constructor
 ·unfold Aq
  rw [← dc]
  refine cF fun i h=>?_
  rcases hi i h with z | z
  ·simp only [z]; grind
  ·have k:=hp _ z
   have:=(qG u.1 e).1
   grind
 ·unfold Sq
  rw [Rat.mul_comm,← fu,Rat.add_assoc,← dc]
  congr 1
  refine cF fun i h=>?_
  rcases hi i h with z | z
  ·simp only [z]; grind
  ·have k:=hp _ z
   have:=(qG u.1 e).1
   grind
end
theorem vZ:∀ {rs rs':List Rat},rs.Pairwise (· < ·)->rs'.Pairwise (· < ·)->(∀ q,q∈rs↔q∈rs')->rs=rs'
 | [],[],_,_,_=>rfl
 | [],b::r',_,_,h=>absurd ((h b).mpr List.mem_cons_self) (by simp)
 | a::r,[],_,_,h=>absurd ((h a).mp List.mem_cons_self) (by simp)
 | a::r,b::r',h1,h2,h=>by
  rw [List.pairwise_cons] at h1 h2
  have e:a=b:=by
   rcases List.mem_cons.mp ((h a).mp List.mem_cons_self) with e | y
   ·exact e
   ·rcases List.mem_cons.mp ((h b).mpr List.mem_cons_self) with e | z
    ·exact e.symm
    ·have h3:=h2.1 a y
     have h4:=h1.1 b z
     grind
  subst e
  have:r=r':=vZ h1.2 h2.2 fun q=>by
   constructor
   ·intro hq
    rcases List.mem_cons.mp ((h q).mp (List.mem_cons_of_mem _ hq)) with e | y
    ·have:=h1.1 q hq
     grind
    ·exact y
   ·intro hq
    rcases List.mem_cons.mp ((h q).mpr (List.mem_cons_of_mem _ hq)) with e | y
    ·have:=h2.1 q hq
     grind
    ·exact y
  rw [this]
theorem Ups.one {t:List Row} {b:Int} {rs rs':List Rat} (h:Ups t b rs) (h':Ups t b rs'):rs=rs':=vZ h.1 h'.1 fun q=>by rw [h.2,h'.2]
theorem Aa {t:List Row} {b:Int} {k:Nat} (hk:k < t.length):oq (colO t b) k=if (cl t b.toNat k).1=0 then none else some (sh t b.toNat k):=by
 unfold oq colO
 rw [List.getD_eq_getElem?_getD,List.getElem?_map]
 have hc:(col t b.toNat)[k]? = some (cl t b.toNat k):=by
  unfold cl
  have hl:k < (col t b.toNat).length:=by unfold col; rw [List.length_map]; exact hk
  rw [List.getD_eq_getElem?_getD,List.getElem?_eq_getElem hl]
  rfl
 rw [hc]
 show (some (shO (cl t b.toNat k))).getD none=_
 unfold shO sh
 by_cases z:(cl t b.toNat k).1=0
 ·rw [if_pos z,if_pos z]; rfl
 ·rw [if_neg z,if_neg z,if_neg z]; rfl
theorem T61.top {n:Nat} {t:List Row} {a b:Int} (o:T61 n t a b):((bC (colO t b)).2 < t.length /\ (My.cl t b.toNat (bC (colO t b)).2).1≠0 /\ sh t b.toNat (bC (colO t b)).2=aw t b) /\ ∀ k,k < t.length->(My.cl t b.toNat k).1≠0->sh t b.toNat k <= aw t b:=by
 have lc:(colO t b).length=t.length:=by unfold colO col; rw [List.length_map,List.length_map]
 have hn:=tu o.hb
 obtain ⟨⟨_,m2⟩,al⟩:=mt (colO t b) hn
 have val:∀ k,k∈plq (colO t b) (colO t b).length->k < t.length /\ (My.cl t b.toNat k).1≠0 /\ vq (colO t b) k=sh t b.toNat k:=fun k hk=>by
  obtain ⟨h1,h2⟩:=oA hk
  rw [lc] at h1
  rw [Aa h1] at h2
  by_cases z:(My.cl t b.toNat k).1=0
  ·rw [if_pos z] at h2; cases h2
  ·rw [if_neg z] at h2
   exact ⟨h1,z,(Option.some.inj h2).symm⟩
 refine ⟨?_,fun k hk hz=>?_⟩
 ·obtain ⟨h1,h2,h3⟩:=val _ m2
  exact ⟨h1,h2,h3.symm⟩
 ·have hm:k∈plq (colO t b) (colO t b).length:=vV (by rw [lc]; exact hk) (by rw [Aa hk,if_neg hz]; rfl)
  have:=(al k hm).2
  rw [(val k hm).2.2] at this
  exact this
theorem Ups.last {n:Nat} {t:List Row} {a b:Int} (o:T61 n t a b) {rs:List Rat} (u:Ups t b rs):∃ l,rs=l++[aw t b] /\ ∀ q∈l,q≠aw t b:=by
 obtain ⟨⟨hk,hz,e⟩,al⟩:=o.top
 have tm:aw t b∈rs:=(u.2 _).mpr ⟨_,hk,hz,e⟩
 rcases List.eq_nil_or_concat rs with z | ⟨l,g,z⟩
 ·rw [z] at tm; simp at tm
 ·rw [List.concat_eq_append] at z
  have sr:=u.1
  rw [z,List.pairwise_append] at sr
  have gm:g∈rs:=by rw [z]; simp
  obtain ⟨k',hk',hz',e'⟩:=(u.2 g).mp gm
  have h1:=al k' hk' hz'
  rw [e'] at h1
  have h2:aw t b <= g:=by
   rw [z] at tm
   rcases List.mem_append.mp tm with y | y
   ·exact Rat.le_of_lt (sr.2.2 _ y g (by simp))
   ·rw [List.mem_singleton.mp y]; exact Rat.le_refl
  have eg:g=aw t b:=by grind
  subst eg
  exact ⟨l,z,fun q hq e=>by have:=sr.2.2 q hq _ (by simp:aw t b∈[aw t b]); grind⟩
section
variable {n:Nat} {t:List Row} {a b:Int}
theorem T61.leG (o:T61 n t a b) {rs:List Rat} (u:Ups t b rs) {q:Rat} (hq:q∈rs):q <= aw t b:=by
 obtain ⟨k,hk,hz,rfl⟩:=(u.2 q).mp hq
 exact o.top.2 k hk hz
theorem T61.cor_is (o:T61 n t a b) {rs:List Rat} (u:Ups t b rs):∀ (c1 c0:List Rat) (r:Rat),rs=c0++r::c1->cor (aw t b) (wl t a b) (Aq t a b r) (Sq t a b r) (r::c1)=c1.map fun q=>(Aq t a b q,Sq t a b q)
 | [],c0,r,e=>by
  obtain ⟨l,el,_⟩:=u.last o
  have:r=aw t b:=by
   rw [el] at e
   have:=congrArg List.getLast? e
   simpa using this.symm
  simp [cor,this]
 | r'::c1,c0,r,e=>by
  have lt:=(qG u.1 e).1
  have hG:=o.leG u (q:=r') (by rw [e]; simp)
  obtain ⟨e1,e2⟩:=o.nextA u e
  have ih:=o.cor_is u c1 (c0++[r]) r' (by rw [e]; simp)
  rw [List.map_cons,← ih]
  rw [show cor (aw t b) (wl t a b) (Aq t a b r) (Sq t a b r) (r::r'::c1)=if r=aw t b then cor (aw t b) (wl t a b) (Aq t a b r) (Sq t a b r) (r'::c1) else (Aq t a b r + wl t a b r,Sq t a b r + wl t a b r * (aw t b - r))::cor (aw t b) (wl t a b) (Aq t a b r + wl t a b r) (Sq t a b r + wl t a b r * (aw t b - r)) (r'::c1) from rfl]
  rw [if_neg (by grind),← e1,← e2]
theorem T61.first (o:T61 n t a b) {rs c:List Rat} {r:Rat} (u:Ups t b rs) (e:rs=r::c):Aq t a b r=0 /\ Sq t a b r=mixQ t a b:=by
 have lo:∀ i,i < t.length->sh t b.toNat i < r->wA t a i=0:=fun i hi h=>by
  by_cases z:(My.cl t b.toNat i).1=0
  ·exact o.w0 hi z
  ·have hm:sh t b.toNat i∈rs:=(u.2 _).mpr ⟨i,hi,z,rfl⟩
   have p:=u.1
   rw [e] at hm p
   rw [List.pairwise_cons] at p
   rcases List.mem_cons.mp hm with y | y
   ·grind
   ·have:=p.1 _ y
    grind
 have z0:∀ k,sumQ (fun _=>(0:Rat)) k=0:=fun k=>by
  induction k with
  | zero=>rfl
  | succ k ih=>simp only [sumQ]; rw [ih]; grind
 constructor
 ·unfold Aq
  rw [cF (g:=fun _=>0) fun i hi=>?_,z0]
  have:=lo i hi
  grind
 ·unfold Sq
  rw [cF (g:=fun _=>0) fun i hi=>?_,z0]
  ·grind
  ·have:=lo i hi
   grind
theorem T61.reach_is (o:T61 n t a b) {rs:List Rat} (u:Ups t b rs):qF t a b rs=rs.map fun q=>(Aq t a b q,Sq t a b q):=by
 obtain ⟨l,el,_⟩:=u.last o
 cases e:rs with
 | nil=>rw [e] at el; simp at el
 | cons r c =>
  obtain ⟨h1,h2⟩:=o.first u e
  have h:=o.cor_is u c [] r (by rw [e]; rfl)
  rw [h1,h2] at h
  unfold qF
  rw [h,List.map_cons,h1,h2]
theorem T61.endS (o:T61 n t a b):Sq t a b (aw t b)=aw t b:=by
 unfold Sq mixQ mixW
 have e:sumQ (fun i=>if sh t b.toNat i < aw t b then wA t a i * (aw t b - sh t b.toNat i) else 0) t.length=sumQ (fun i=>aw t b * wA t a i - wA t a i * sh t b.toNat i) t.length:=by
  refine cF fun i hi=>?_
  by_cases z:(My.cl t b.toNat i).1=0
  ·have:=o.w0 hi z
   grind
  ·have:=o.top.2 i hi z
   grind
 rw [e,fX,fu,o.wk.one]
 grind
def Lq (t:List Row) (a b:Int) (q d:Rat):Rat:=Sq t a b q + (d - Aq t a b q) * (aw t b - q)
theorem Cl (q d:Rat):Lq t a b q d=mixQ t a b + d * (aw t b - q) + sumQ (fun i=>if sh t b.toNat i < q then wA t a i * (q - sh t b.toNat i) else 0) t.length:=by
 unfold Lq Sq Aq
 have e:sumQ (fun i=>if sh t b.toNat i < q then wA t a i * (q - sh t b.toNat i) else 0) t.length=sumQ (fun i=>(if sh t b.toNat i < q then wA t a i * (aw t b - sh t b.toNat i) else 0) - (aw t b - q) * (if sh t b.toNat i < q then wA t a i else 0)) t.length:=by
  refine cF fun i hi=>?_
  split <;> grind
 rw [e,fX,fu]
 grind
def un (w p:Nat->Rat) (n:Nat):Rat:=sumQ (fun i=>if p i < w i then w i - p i else 0) n
theorem Mx.line {p:Nat->Rat} (o:Mx n t a b p) {q:Rat} (hq:q <= aw t b):mixW t b p <= Lq t a b q (un (wA t a) p t.length):=by
 rw [Cl]
 have e1:sumQ (fun i=>aw t b * (p i - wA t a i)) t.length=0:=by
  rw [fu,fX,o.k.one,o.wk.one]
  grind
 have e2:un (wA t a) p t.length * (aw t b - q)=sumQ (fun i=>(aw t b - q) * (if p i < wA t a i then wA t a i - p i else 0)) t.length:=by
  rw [fu]
  unfold un
  grind
 have e3:mixQ t a b + un (wA t a) p t.length * (aw t b - q) + sumQ (fun i=>if sh t b.toNat i < q then wA t a i * (q - sh t b.toNat i) else 0) t.length=sumQ (fun i=>wA t a i * sh t b.toNat i + (aw t b - q) * (if p i < wA t a i then wA t a i - p i else 0) + (if sh t b.toNat i < q then wA t a i * (q - sh t b.toNat i) else 0) + aw t b * (p i - wA t a i)) t.length:=by
  rw [dc,dc,dc,e1,e2]
  unfold mixQ mixW
  grind
 rw [e3]
 unfold mixW
 refine gM fun i hi=>?_
 have hw:=o.wk.nn i hi
 have hp:=o.k.nn i hi
 have key:p i * sh t b.toNat i <= wA t a i * sh t b.toNat i + (aw t b - q) * (if p i < wA t a i then wA t a i - p i else 0) + (if sh t b.toNat i < q then wA t a i * (q - sh t b.toNat i) else 0) + aw t b * (p i - wA t a i):=by
  generalize hs:sh t b.toNat i=s
  by_cases z:p i < wA t a i
  ·rw [if_pos z]
   by_cases y:s < q
   ·rw [if_pos y]
    have:=Rat.mul_nonneg hp (show 0 <= q - s by grind)
    grind
   ·rw [if_neg y]
    have:=Rat.mul_nonneg (show 0 <= wA t a i - p i by grind) (show 0 <= s - q by grind)
    grind
  ·rw [if_neg z]
   have h1:0 <= if s < q then wA t a i * (q - s) else 0:=by
    split
    ·exact Rat.mul_nonneg hw (by grind)
    ·exact Rat.le_refl
   have h2:0 <= (p i - wA t a i) * (aw t b - s):=by
    by_cases y:p i=wA t a i
    ·rw [y]
     have:wA t a i - wA t a i=0:=by grind
     rw [this,Rat.zero_mul]
     exact Rat.le_refl
    ·have pp:0 < p i:=by grind
     have:=o.top.2 i hi (o.tr i hi pp)
     rw [hs] at this
     exact Rat.mul_nonneg (by grind) (by grind)
   grind
 exact key
end
def Bq (t:List Row) (a b:Int) (q:Rat) (j:Nat):Rat:=sumQ (fun i=>if sh t b.toNat i=q then wA t a i else 0) j
def rst (t:List Row) (a b:Int) (q rest:Rat) (j:Nat):Rat:=if rest <= Bq t a b q j then 0 else rest - Bq t a b q j
def wlf (t:List Row) (a b:Int) (q rest:Rat) (i:Nat):Rat:=if sh t b.toNat i < q then 0 else if sh t b.toNat i=q then wA t a i - lsr (rst t a b q rest i) (wA t a i) else wA t a i
section
variable {n:Nat} {t:List Row} {a b:Int} {q rest:Rat}
theorem wa (j:Nat):0 <= rst t a b q rest j:=by
 unfold rst
 split <;> grind
theorem jA (o:T61 n t a b) {j:Nat} (hj:j < t.length):rst t a b q rest (j + 1)=if sh t b.toNat j=q then rst t a b q rest j - lsr (rst t a b q rest j) (wA t a j) else rst t a b q rest j:=by
 have hw:=o.wk.nn j hj
 unfold rst lsr Bq
 simp only [sumQ]
 by_cases z:sh t b.toNat j=q
 ·simp only [if_pos z]
  grind
 ·simp only [if_neg z]
  grind
theorem Cm (h0:0 <= rest) (o:T61 n t a b) (j:Nat) (hj:j <= t.length):rst t a b q rest j <= rest:=by
 have:0 <= Bq t a b q j:=fW fun i hi=>by
  have:=o.wk.nn i (by omega)
  show 0 <= if sh t b.toNat i=q then wA t a i else 0
  split <;> grind
 unfold rst
 split <;> grind
structure Rs (t:List Row) (a b:Int) (q rest:Rat):Prop where
 r0:0 <= rest
 r1:rest <= 1
 bq:QB 80 q
 cd:∃ g:Int,0 < g /\ Bd 1281 g /\ ∃ z:Int,rest=(z:Rat) / ((WA t a * g:Int):Rat)
theorem Rs.fr (s:Rs t a b q rest) (o:T61 n t a b):∃ N:Int,0 < N /\ Bd 1365 N /\ (∀ i,i < t.length->∃ z:Int,wA t a i=(z:Rat) / N) /\ ∀ j,j <= t.length->∃ z:Int,rst t a b q rest j=(z:Rat) / N:=by
 obtain ⟨g,g0,bg,hz⟩:=s.cd
 have W:=o.W
 have N0:=Int.mul_pos W.1 g0
 have hw:∀ i,i < t.length->∃ z:Int,wA t a i=(z:Rat) / ((WA t a * g:Int):Rat):=fun i hi=>xI W.1 g0 ⟨_,rfl⟩
 refine ⟨WA t a * g,N0,W.2.mul bg,hw,fun j hj=>?_⟩
 unfold rst
 split
 ·exact fr_0 _
 ·exact mC N0 hz (iC N0 fun i hi=>oI (hw i (by omega)))
theorem Rs.rB (s:Rs t a b q rest) (o:T61 n t a b) {j:Nat} (hj:j <= t.length):QB 1365 (rst t a b q rest j):=by
 obtain ⟨N,n0,bN,_,h⟩:=s.fr o
 obtain ⟨z,e⟩:=h j hj
 have h1:=wa (t:=t) (a:=a) (b:=b) (q:=q) (rest:=rest) j
 have h2:=Cm (q:=q) s.r0 o j hj
 have:=s.r1
 exact fr_B n0 bN e h1 (by grind)
end
def gWl:DSpN:=fun ds _ L=>∃ (n:Nat) (t:List Row) (a b:Int) (q rest:Rat),ds=[.lst (t.map rowD),.int a,.int b,ratQ q,ratQ rest] /\ T61 n t a b /\ Rs t a b q rest /\ L ((List.range t.length).map fun i=>ratQ (wlf t a b q rest i))
theorem mE:xh gWl:=fun ds P P' L L' f fl ⟨n,t,a,b,q,r,e,o,s,h⟩=>⟨n,t,a,b,q,r,e,o,s,fl _ h⟩
theorem mG (T:Tx K mg):FnOk P w K mg base CX0 11 T.fF T.eV ["table","a","b","bar","rest"] (spDN K 5 gWl):=by
 refine fnDN (k:=10) T.cG.F sc_weights_left (fun cdv A outer s H E hr=>(im (pP (i:=5) sc_weights_left.nd rfl (by first | exact Or.inl rfl | exact Or.inr rfl) (kD af))
   (vA (dQ PassesOwn.never rfl (qd rfl T.uA (aa (ag (gL T) gJ (hr.mono (by decide)) rfl T.aX.m T.aX.F.kp T.aX.b (aa (ac 0 (pv 0)) (aa (ac 1 (pv 1)) af))) (aa (ag (iM T) iL (hr.mono (by decide)) rfl T.bo.m T.bo.F.kp T.bo.b (aa (ac 0 (pv 0)) (aa (ac 2 (pv 2)) af))) af))) (gw (n:=2) rfl (aJ (aB (i:=6) sc_weights_left.nd rfl (by first | exact Or.inl rfl | exact Or.inr rfl)) (aJ (aB (i:=7) sc_weights_left.nd rfl (by first | exact Or.inl rfl | exact Or.inr rfl)) dZ))) (aW (bE (PWD.pt (lR (aH lT (ac 7 (pv 7)) fm (aA _)) (iE (cO (ag (mq T) mn (hr.mono (by decide)) rfl T.ci.m T.ci.F.kp T.ci.b (aa (ac 7 (pv 7)) (aa (ac 3 (pv 3)) af))))))) (ah (az (i:=6) sc_weights_left.nd rfl (by first | exact Or.inl rfl | exact Or.inr rfl) (bO (aa ae (aa ae af))))) (ah (bE (aH (ej hr) (ac 7 (pv 7)) (ac 3 (pv 3)) (aA _)) (ai (az (i:=8) sc_weights_left.nd rfl (by first | exact Or.inl rfl | exact Or.inr rfl) (ag (xM T) xL (hr.mono (by decide)) rfl T.jD.m T.jD.F.kp T.jD.b (aa (ac 4 (pv 4)) (aa (ac 6 (pv 6)) af))))
   (ai (az (i:=4) sc_weights_left.nd rfl (by first | exact Or.inl rfl | exact Or.inr rfl) (ag (ml T) mj (hr.mono (by decide)) rfl T.cg.m T.cg.F.kp T.cg.b (aa (ac 4 (pv 4)) (aa (ac 8 (pv 8)) af))))
   (ah (az (i:=6) sc_weights_left.nd rfl (by first | exact Or.inl rfl | exact Or.inr rfl) (ag (ml T) mj (hr.mono (by decide)) rfl T.cg.m T.cg.F.kp T.cg.b (aa (ac 6 (pv 6)) (aa (ac 8 (pv 8)) af))))))) aF)))
   (ah (pV (pv 5) (ac 6 (pv 6))))))
   (vz (pv 5))))) (fun ds Q L hl h=>?_)
 obtain ⟨n,t,a,b,q,rest,rfl,o,s,h⟩:=h
 have l16:=o.l16
 refine ⟨sz,fun ρ=>∃ x1 x2 x3:Sl,ρ=[.val (.lst (t.map rowD)),.val (.int a),.val (.int b),.val (ratQ q),.val (ratQ (rst t a b q rest t.length)),.own ((List.range t.length).map fun i=>ratQ (wlf t a b q rest i)),x1,x2,x3],?_,?_⟩
 ·refine ⟨rfl,n,t,rfl,o.o,⟨o.a0,o.a1⟩,o.ha,rfl,n,t,rfl,o.o,⟨o.b0,o.b1⟩,?_⟩
  show fT _ _ (zipD ((wts (col t a.toNat)).map ratQ) ((col t b.toNat).map cE)) _ _
  have el:(col t b.toNat).length=t.length:=by unfold col; rw [List.length_map]
  have ez:zipD ((wts (col t a.toNat)).map ratQ) ((col t b.toNat).map cE)=(List.range t.length).map fun i=>.tup [ratQ (wA t a i),cE (My.cl t b.toNat i)]:=by
   rw [vX,tD (d:=(0,0)) cE,el,ir]
   rfl
  rw [ez]
  have h0:rst t a b q rest 0=rest:=by
   have:=s.r0
   unfold rst Bq
   simp only [sumQ]
   grind
  refine eS _ (fun i ρ=>∃ x1 x2 x3:Sl,ρ=[.val (.lst (t.map rowD)),.val (.int a),.val (.int b),.val (ratQ q),.val (ratQ (rst t a b q rest i)),.own ((List.range i).map fun i=>ratQ (wlf t a b q rest i)),x1,x2,x3]) (fun ρ hN=>hN) (fun i ρ X hi hN hX=>?_) _ ⟨.nil,.nil,.nil,by rw [h0]; rfl⟩
  obtain ⟨x1,x2,x3,rfl⟩:=hN
  have wB:=o.wB hi
  have rB:=s.rB o (Nat.le_of_lt hi)
  have sB:=o.sB hi
  have lr:((List.range i).map fun i=>ratQ (wlf t a b q rest i)).length < sizeLine:=by
   rw [List.length_map,List.length_range]
   exact Nat.lt_of_le_of_lt (show i <= 100 by omega) (by decide)
  have fin:∀ (v:Rat) (x2 x3:Sl) (v':Rat),v'=rst t a b q rest (i + 1)->v=wlf t a b q rest i->X [.val (.lst (t.map rowD)),.val (.int a),.val (.int b),.val (ratQ q),.val (ratQ v'),.own (((List.range i).map fun i=>ratQ (wlf t a b q rest i))++[ratQ v]),.val (ratQ v),x2,x3]:=fun v x2 x3 v' e1 e2=>by
   refine hX _ ⟨.val (ratQ v),x2,x3,?_⟩
   rw [e1,e2,List.range_succ,List.map_append]
   rfl
  by_cases z:(My.cl t b.toNat i).1=0
  ·have es:cE (My.cl t b.toNat i) = .non:=by unfold cE; rw [if_pos z]
   rw [es]
   have w0:=o.w0 hi z
   have rn:=wa (t:=t) (a:=a) (b:=b) (q:=q) (rest:=rest) i
   refine ⟨rfl,fun ρ=>ρ=[.val (.lst (t.map rowD)),.val (.int a),.val (.int b),.val (ratQ q),.val (ratQ (rst t a b q rest i)),.own ((List.range i).map fun i=>ratQ (wlf t a b q rest i)),.val (ratQ (wA t a i)),.val .non,x3],Br.f (Br.f ⟨⟨rfl,bh q⟩,Br.f rfl⟩),?_⟩
   rintro _ rfl
   refine ⟨trivial,lr,fin _ _ _ _ ?_ ?_⟩
   ·rw [jA o hi]
    unfold lsr
    grind
   ·unfold wlf lsr
    grind
  ·have es:cE (My.cl t b.toNat i)=ratQ (sh t b.toNat i):=by
    rw [jx]
    unfold shO sh
    rw [if_neg z,if_neg z]
    rfl
   rw [es]
   refine ⟨rfl,fun ρ=>∃ (v v':Rat) (x3:Sl),v'=rst t a b q rest (i + 1) /\ v=wlf t a b q rest i /\ ρ=[.val (.lst (t.map rowD)),.val (.int a),.val (.int b),.val (ratQ q),.val (ratQ v'),.own ((List.range i).map fun i=>ratQ (wlf t a b q rest i)),.val (ratQ v),.val (ratQ (sh t b.toNat i)),x3],Br.t ⟨rfl,rS (sB.mono (by decide)) (s.bq.mono (by decide)) (Br.di (fun y=>?_) (fun y=>?_))⟩,?_⟩
   ·refine ⟨sz,0,_,x3,rfl,?_,?_⟩
    ·unfold wlf
     rw [if_pos y]
    ·rw [jA o hi,if_neg (by grind)]
     rfl
   ·refine ⟨⟨bh _,bh _⟩,fun x=>?_,fun x=>?_⟩
    ·have x:eqD (ratQ (sh t b.toNat i)) (ratQ q)=true:=x
     rw [lj] at x
     have x:sh t b.toNat i=q:=by simpa using x
     have tB:QB 1365 (lsr (rst t a b q rest i) (wA t a i)):=by
      unfold lsr
      split
      ·exact wB.mono (by decide)
      ·exact rB
     refine ⟨rfl,_,_,rfl,rB.mono (by decide),wB.mono (by decide),?_⟩
     refine ⟨rfl,qw (rB.mono (by decide)) (tB.mono (by decide)) ⟨rfl,qw (wB.mono (by decide)) (tB.mono (by decide)) ⟨_,_,.val (ratQ (lsr (rst t a b q rest i) (wA t a i))),?_,?_,rfl⟩⟩⟩
     ·rw [jA o hi,if_pos x]
     ·unfold wlf
      rw [if_neg y,if_pos x]
    ·have x:eqD (ratQ (sh t b.toNat i)) (ratQ q)=false:=x
     rw [lj] at x
     have x:¬ sh t b.toNat i=q:=by simpa using x
     refine ⟨wA t a i,_,x3,?_,?_,rfl⟩
     ·rw [jA o hi,if_neg x]
     ·unfold wlf
      rw [if_neg y,if_neg x]
   ·rintro _ ⟨v,v',x3,e1,e2,rfl⟩
    exact ⟨trivial,lr,fin v _ _ v' e1 e2⟩
 ·rintro _ ⟨x1,x2,x3,rfl⟩
  exact h
section
variable {n:Nat} {t:List Row} {a b:Int} {q:Rat}
theorem T61.d01 (o:T61 n t a b):0 <= wQ t a /\ wQ t a <= 1:=by
 have w:=gI o.o (h:=a.toNat) o.na
 have W:=o.W.1
 have hp:(0:Rat) < ((WA t a:Int):Rat):=by exact_mod_cast W
 have hi':=Rat.inv_pos.mpr hp
 have c0:(0:Rat) <= ((sumP (col t a.toNat)).2:Rat):=by exact_mod_cast w.1
 have c1:((sumP (col t a.toNat)).2:Rat) <= ((WA t a:Int):Rat):=by exact_mod_cast w.2.1
 have ew:wQ t a=((sumP (col t a.toNat)).2:Rat) / ((WA t a:Int):Rat):=rfl
 rw [ew,Rat.div_def]
 refine ⟨Rat.mul_nonneg c0 (Rat.le_of_lt hi'),?_⟩
 have:=Rat.mul_le_mul_of_nonneg_right c1 (Rat.le_of_lt hi')
 have e:((WA t a:Int):Rat) * ((WA t a:Int):Rat)⁻¹ = 1:=Rat.mul_inv_cancel _ (by grind)
 rw [e] at this
 exact this
theorem T61.dF (_o:T61 n t a b):∃ z:Int,wQ t a=(z:Rat) / (WA t a:Rat):=⟨_,rfl⟩
theorem T61.dB (o:T61 n t a b):QB 84 (wQ t a):=by
 obtain ⟨z,e⟩:=o.dF
 exact fr_B o.W.1 o.W.2 e o.d01.1 o.d01.2
theorem T61.A01 (o:T61 n t a b) (q:Rat):0 <= Aq t a b q /\ Aq t a b q <= 1:=by
 refine ⟨fW fun i hi=>?_,?_⟩
 ·have:=o.wk.nn i hi
  show 0 <= if sh t b.toNat i < q then wA t a i else 0
  split <;> grind
 ·rw [← o.wk.one]
  refine gM fun i hi=>?_
  have:=o.wk.nn i hi
  show (if sh t b.toNat i < q then wA t a i else 0) <= wA t a i
  split <;> grind
theorem T61.AF (o:T61 n t a b) (q:Rat):∃ z:Int,Aq t a b q=(z:Rat) / (WA t a:Rat):=iC o.W.1 fun _ _=>oI ⟨_,rfl⟩
theorem T61.AB (o:T61 n t a b) (q:Rat):QB 84 (Aq t a b q):=by
 obtain ⟨z,e⟩:=o.AF q
 exact fr_B o.W.1 o.W.2 e (o.A01 q).1 (o.A01 q).2
theorem T61.G01 (o:T61 n t a b):0 <= aw t b /\ aw t b <= 1:=by
 have h:=o.top.1
 rw [← h.2.2]
 exact o.s01 h.1
theorem T61.S01 (o:T61 n t a b) (hq:q <= aw t b):mixQ t a b <= Sq t a b q /\ Sq t a b q <= aw t b:=by
 have t0:∀ i,i < t.length->0 <= if sh t b.toNat i < q then wA t a i * (aw t b - sh t b.toNat i) else 0:=fun i hi=>by
  have:=o.wk.nn i hi
  split
  ·exact Rat.mul_nonneg this (by grind)
  ·exact Rat.le_refl
 constructor
 ·unfold Sq
  have:=fW t0
  grind
 ·have e:=o.endS
  rw [← e]
  have h:sumQ (fun i=>if sh t b.toNat i < q then wA t a i * (aw t b - sh t b.toNat i) else 0) t.length <= sumQ (fun i=>if sh t b.toNat i < aw t b then wA t a i * (aw t b - sh t b.toNat i) else 0) t.length:=by
   refine gM fun i hi=>?_
   have hw:=o.wk.nn i hi
   show (if sh t b.toNat i < q then wA t a i * (aw t b - sh t b.toNat i) else 0) <= if sh t b.toNat i < aw t b then wA t a i * (aw t b - sh t b.toNat i) else 0
   by_cases z:sh t b.toNat i < q
   ·rw [if_pos z,if_pos (by grind)]
    exact Rat.le_refl
   ·rw [if_neg z]
    split
    ·exact Rat.mul_nonneg hw (by grind)
    ·exact Rat.le_refl
  rw [e]
  have e2:Sq t a b (aw t b)=aw t b:=e
  have:Sq t a b q <= Sq t a b (aw t b):=by
   unfold Sq
   grind
  rw [e2] at this
  exact this
theorem T61.SF (o:T61 n t a b) {P:Int} (p0:0 < P) (hp:∀ i,i < t.length->∃ z:Int,sh t b.toNat i=(z:Rat) / P) (q:Rat):∃ z:Int,Sq t a b q=(z:Rat) / ((WA t a * P:Int):Rat):=by
 have N0:=Int.mul_pos o.W.1 p0
 have hG:∃ z:Int,aw t b=(z:Rat) / P:=by
  have h:=o.top.1
  rw [← h.2.2]
  exact hp _ h.1
 exact qE N0 (o.mF p0 hp) (iC N0 fun i hi=>oI (tG o.W.1 p0 ⟨_,rfl⟩ (mC p0 hG (hp i hi))))
theorem T61.SB (o:T61 n t a b) (hq:q <= aw t b):QB 1365 (Sq t a b q):=by
 obtain ⟨P,p0,bP,hp⟩:=o.sP
 obtain ⟨z,e⟩:=o.SF p0 hp q
 have h1:=o.S01 hq
 have h2:=o.mx.m01
 have h3:=o.G01
 have e0:mixQ t a b=mixW t b (wA t a):=rfl
 exact fr_B (Int.mul_pos o.W.1 p0) (o.W.2.mul bP) e (by grind) (by grind)
structure Bar (t:List Row) (a b:Int) (q r':Rat):Prop where
 adj:∃ rs c0 c1,Ups t b rs /\ rs=c0++q::r'::c1
 lo:Sq t a b q < wQ t a
 hi:wQ t a <= Sq t a b r'
def rs63 (t:List Row) (a b:Int) (q:Rat):Rat:=(wQ t a - Sq t a b q) / (aw t b - q)
def m63 (t:List Row) (a b:Int) (q:Rat):Rat:=Aq t a b q + rs63 t a b q
variable {r':Rat}
theorem Bar.lt (k:Bar t a b q r') (o:T61 n t a b):q < r' /\ r' <= aw t b:=by
 obtain ⟨rs,c0,c1,u,e⟩:=k.adj
 exact ⟨(qG u.1 e).1,o.leG u (by rw [e]; simp)⟩
theorem Bar.next (k:Bar t a b q r') (o:T61 n t a b):Aq t a b r'=Aq t a b q + wl t a b q /\ Sq t a b r'=Sq t a b q + wl t a b q * (aw t b - q):=by
 obtain ⟨rs,c0,c1,u,e⟩:=k.adj
 exact o.nextA u e
theorem Bar.rest (k:Bar t a b q r') (o:T61 n t a b):rs63 t a b q * (aw t b - q)=wQ t a - Sq t a b q:=by
 have:=k.lt o
 unfold rs63
 have h:aw t b - q≠0:=by grind
 grind
theorem Bar.r0 (k:Bar t a b q r') (o:T61 n t a b):0 < rs63 t a b q:=by
 have h:=k.lt o
 have h2:=k.lo
 unfold rs63
 rw [Rat.div_def]
 exact Rat.mul_pos (by grind) (Rat.inv_pos.mpr (by grind))
theorem Bar.rw' (k:Bar t a b q r') (o:T61 n t a b):rs63 t a b q <= wl t a b q:=by
 have h:=k.lt o
 have h1:=k.rest o
 have h2:=(k.next o).2
 have h3:=k.hi
 rw [h2] at h3
 have h4:rs63 t a b q * (aw t b - q) <= wl t a b q * (aw t b - q):=by grind
 exact Rat.le_of_mul_le_mul_right h4 (by grind)
theorem Bar.m01 (k:Bar t a b q r') (o:T61 n t a b):0 < m63 t a b q /\ m63 t a b q <= Aq t a b r':=by
 have h1:=k.r0 o
 have h2:=k.rw' o
 have h3:=(k.next o).1
 have h4:=(o.A01 q).1
 unfold m63
 constructor <;> grind
theorem Bar.rs (k:Bar t a b q r') (o:T61 n t a b):Rs t a b q (rs63 t a b q):=by
 have hm:=k.m01 o
 have hA:=(o.A01 r').2
 have hA0:=(o.A01 q).1
 refine ⟨Rat.le_of_lt (k.r0 o),by unfold m63 at hm; grind,?_,?_⟩
 ·obtain ⟨rs,c0,c1,u,e⟩:=k.adj
  obtain ⟨i,hi,_,rfl⟩:=(u.2 q).mp (by rw [e]; simp)
  exact o.sB hi
 ·obtain ⟨P,p0,bP,hp⟩:=o.sP
  obtain ⟨g,eg⟩:∃ g:Int,aw t b - q=(g:Rat) / P:=by
   refine mC p0 ?_ ?_
   ·have h:=o.top.1
    rw [← h.2.2]
    exact hp _ h.1
   ·obtain ⟨rs,c0,c1,u,e⟩:=k.adj
    obtain ⟨i,hi,_,rfl⟩:=(u.2 q).mp (by rw [e]; simp)
    exact hp i hi
  have h:=k.lt o
  have q0:0 <= q:=by
   obtain ⟨rs,c0,c1,u,e⟩:=k.adj
   obtain ⟨i,hi,_,rfl⟩:=(u.2 q).mp (by rw [e]; simp)
   exact (o.s01 hi).1
  have hG:=o.G01.2
  have cP:(0:Rat) < (P:Rat):=by exact_mod_cast p0
  have ge:(g:Rat)=(aw t b - q) * P:=by rw [eg]; grind
  have gp:(0:Rat) < (g:Rat):=by rw [ge]; exact Rat.mul_pos (by grind) cP
  have g0:0 < g:=by exact_mod_cast gp
  refine ⟨g,g0,bP.le (zB p0 (by rw [← eg]; grind) (by rw [← eg]; grind)),?_⟩
  have N0:=Int.mul_pos o.W.1 p0
  obtain ⟨z,ez⟩:=mC N0 (xI o.W.1 p0 o.dF) (o.SF p0 hp q)
  refine ⟨z,?_⟩
  unfold rs63
  rw [ez,eg,Rat.intCast_mul,Rat.intCast_mul]
  have cW:=Rq.cast_ne (show WA t a≠0 by have:=o.W.1; omega)
  have:(g:Rat)≠0:=by grind
  have:(P:Rat)≠0:=by grind
  grind
end
def tw (t:List Row) (a b:Int) (q:Rat) (i:Nat):Rat:=wlf t a b q (rs63 t a b q) i + if i=(bC (colO t b)).2 then m63 t a b q else 0
section
variable {n:Nat} {t:List Row} {a b:Int} {q r':Rat}
theorem Cn {x y:Rat}:lsr x y <= x /\ lsr x y <= y:=by unfold lsr; split <;> constructor <;> grind
theorem Co {x y:Rat} (hx:0 <= x) (hy:0 <= y):0 <= lsr x y:=by unfold lsr; split <;> grind
theorem wb (o:T61 n t a b) {rest:Rat} (h0:0 <= rest):∀ j,j <= t.length->sumQ (fun i=>if sh t b.toNat i=q then lsr (rst t a b q rest i) (wA t a i) else 0) j=rest - rst t a b q rest j
 | 0,_=>by
  unfold rst Bq
  simp only [sumQ]
  grind
 | j + 1,hj=>by
  simp only [sumQ]
  rw [wb o h0 j (by omega),jA o (by omega)]
  split <;> grind
theorem qH (rest:Rat) (i:Nat):wlf t a b q rest i=wA t a i - ((if sh t b.toNat i < q then wA t a i else 0) + if sh t b.toNat i=q then lsr (rst t a b q rest i) (wA t a i) else 0):=by
 unfold wlf
 grind
theorem Bar.end0 (k:Bar t a b q r') (o:T61 n t a b):rst t a b q (rs63 t a b q) t.length=0:=by
 have h:=k.rw' o
 rw [o.wl_sum] at h
 unfold rst
 exact if_pos h
theorem Bar.took (k:Bar t a b q r') (o:T61 n t a b):sumQ (fun i=>if sh t b.toNat i=q then lsr (rst t a b q (rs63 t a b q) i) (wA t a i) else 0) t.length=rs63 t a b q:=by
 rw [wb o (Rat.le_of_lt (k.r0 o)) _ (Nat.le_refl _),k.end0 o]
 grind
theorem Bar.wlf_nn (_k:Bar t a b q r') (o:T61 n t a b) {i:Nat} (hi:i < t.length):0 <= wlf t a b q (rs63 t a b q) i /\ wlf t a b q (rs63 t a b q) i <= wA t a i:=by
 have h1:=o.wk.nn i hi
 have h2:=wa (t:=t) (a:=a) (b:=b) (q:=q) (rest:=rs63 t a b q) i
 have h3:=Cn (x:=rst t a b q (rs63 t a b q) i) (y:=wA t a i)
 have h4:=Co h2 h1
 unfold wlf
 constructor <;> grind
theorem Bar.wk (k:Bar t a b q r') (o:T61 n t a b):Mx n t a b (tw t a b q):=by
 have hk:=o.top.1
 have hm:=(k.m01 o).1
 refine ⟨o,⟨fun i hi=>?_,?_,?_⟩,fun i hi h z=>?_⟩
 ·have:=(k.wlf_nn o hi).1
  unfold tw
  split <;> grind
 ·have e:sumQ (tw t a b q) t.length=sumQ (fun i=>(wA t a i - ((if sh t b.toNat i < q then wA t a i else 0) + if sh t b.toNat i=q then lsr (rst t a b q (rs63 t a b q) i) (wA t a i) else 0)) + if i=(bC (colO t b)).2 then m63 t a b q else 0) t.length:=cF fun i hi=>by
   unfold tw
   rw [qH]
  rw [e,dc,fX,dc,k.took o,o.wk.one,lq (fun _=>m63 t a b q),if_pos hk.1]
  unfold m63 Aq
  grind
 ·obtain ⟨N,n0,bN,hw,hr⟩:=(k.rs o).fr o
  refine ⟨N,n0,bN.mono (by decide),fun i hi=>?_⟩
  have h0:rst t a b q (rs63 t a b q) 0=rs63 t a b q:=by
   have:=k.r0 o
   unfold rst Bq
   simp only [sumQ]
   grind
  have hm:∃ z:Int,m63 t a b q=(z:Rat) / N:=by
   unfold m63
   refine qE n0 (iC n0 fun j hj=>oI (hw j hj)) ?_
   have:=hr 0 (Nat.zero_le _)
   rw [h0] at this
   exact this
  unfold tw
  refine qE n0 ?_ (oI hm)
  rw [qH]
  refine mC n0 (hw i hi) (qE n0 (oI (hw i hi)) (oI ?_))
  unfold lsr
  split
  ·exact hw i hi
  ·exact hr i (Nat.le_of_lt hi)
 ·have h1:=k.wlf_nn o hi
  have h2:=o.w0 hi z
  unfold tw at h
  by_cases y:i=(bC (colO t b)).2
  ·exact hk.2.1 (by rw [← y]; exact z)
  ·rw [if_neg y] at h
   grind
theorem Bar.mix (k:Bar t a b q r') (o:T61 n t a b):mixW t b (tw t a b q)=wQ t a:=by
 have hk:=o.top.1
 unfold mixW
 have e:sumQ (fun i=>tw t a b q i * sh t b.toNat i) t.length=sumQ (fun i=>(wA t a i * sh t b.toNat i + (((if sh t b.toNat i < q then wA t a i * (aw t b - sh t b.toNat i) else 0) - aw t b * (if sh t b.toNat i < q then wA t a i else 0)) - q * (if sh t b.toNat i=q then lsr (rst t a b q (rs63 t a b q) i) (wA t a i) else 0))) + if i=(bC (colO t b)).2 then m63 t a b q * aw t b else 0) t.length:=cF fun i hi=>by
  unfold tw
  rw [qH]
  by_cases y:i=(bC (colO t b)).2
  ·subst y
   rw [if_pos rfl,if_pos rfl,hk.2.2]
   have:=k.lt o
   grind
  ·rw [if_neg y,if_neg y]
   grind
 rw [e,dc,dc,fX,fX,fu,fu,k.took o,lq (fun _=>m63 t a b q * aw t b),if_pos hk.1]
 have h:=k.rest o
 unfold m63
 unfold Sq mixQ mixW at h
 unfold Aq
 grind
theorem Bar.un (k:Bar t a b q r') (o:T61 n t a b):un (wA t a) (tw t a b q) t.length=m63 t a b q:=by
 have hk:=o.top.1
 have hm:=(k.m01 o).1
 have e:My.un (wA t a) (tw t a b q) t.length=sumQ (fun i=>(if sh t b.toNat i < q then wA t a i else 0) + if sh t b.toNat i=q then lsr (rst t a b q (rs63 t a b q) i) (wA t a i) else 0) t.length:=cF fun i hi=>by
  have h1:=k.wlf_nn o hi
  rw [qH] at h1
  unfold tw
  rw [qH]
  by_cases y:i=(bC (colO t b)).2
  ·subst y
   rw [if_pos rfl,hk.2.2]
   have:=k.lt o
   grind
  ·rw [if_neg y]
   grind
 rw [e,dc,k.took o]
 rfl
end
def Cp:DSp:=fun ds Q=>gRch ds Q fun es=>Q (.lst es)
theorem Ab:aV Cp:=fun ds P P' f h=>tK ds _ _ _ _ (fun d q=>f d q) (fun es q=>f _ q) h
theorem Ac (T:Tx K mg) (B:Bm mg base):FnOk P w K mg base CX0 11 T.oM T.lz ["table","a","b"] (spD K 3 Cp):=DL.FnOk.asD (xK T B) (fun ds Q h=>h) tK
theorem DD {p:Prop} [Decidable p] {A B:Prop} (a:¬p->A) (b:p->B):Br (!decide p) A B:=⟨fun z=>a (by simpa using z),fun z=>b (by simpa using z)⟩
theorem qI {l:List Rat} {F:Rat->D} {p:Nat} {i:Int} (e:i=(p:Int)) (hp:p < l.length) {Q:D->Prop} (q:Q (F (l.getD p 0))):opt (atI (l.map F) i) Q:=by
 subst e
 refine fo (d:=F (l.getD p 0)) (by omega) ?_ q
 rw [Int.toNat_natCast,List.getElem?_map,List.getElem?_eq_getElem hp]
 simp [List.getD_eq_getElem?_getD,hp]
theorem Cq {l:List Rat} {p:Nat} (hp:p + 1 < l.length):∃ c0 c1,l=c0++l.getD p 0::l.getD (p + 1) 0::c1:=by
 refine ⟨l.take p,l.drop (p + 2),?_⟩
 have h1:l.getD p 0=l[p]:=by simp [List.getD_eq_getElem?_getD,show p < l.length by omega]
 have h2:l.getD (p + 1) 0=l[p + 1]:=by simp [List.getD_eq_getElem?_getD,hp]
 rw [h1,h2,← List.drop_eq_getElem_cons hp,← List.drop_eq_getElem_cons (show p < l.length by omega),List.take_append_drop]
theorem Cr {n:Nat} {t:List Row} {a b:Int} (o:T61 n t a b) {rs:List Rat} (u:Ups t b rs) {p:Nat} (hp:p < rs.length) (h:Sq t a b (rs.getD p 0) < aw t b):p + 1 < rs.length:=by
 obtain ⟨l,el,_⟩:=u.last o
 apply Classical.byContradiction
 intro z
 have ll:rs.length=l.length + 1:=by rw [el]; simp
 have ep:p=l.length:=by omega
 have:rs.getD p 0=aw t b:=by rw [el,ep]; simp
 rw [this,o.endS] at h
 grind
def gLvl:DSp:=fun ds Q=>∃ (n:Nat) (t:List Row) (a b:Int),ds=[.lst (t.map rowD),.int a,.int b] /\ T61 n t a b /\
 (aw t b < wQ t a->Q (.tup [.str "never",.int ((bC (colO t b)).2:Int)])) /\
 (¬ aw t b < wQ t a->¬ mixQ t a b < wQ t a->Q (.tup [.str "can",ratQ 0,wL (wA t a) t.length,.non])) /\
 ∀ q r',Bar t a b q r'->Q (.tup [.str "can",ratQ (m63 t a b q),wL (tw t a b q) t.length,ratQ q])
theorem wd:aV gLvl:=fun ds P P' f ⟨n,t,a,b,e,o,h1,h2,h3⟩=>⟨n,t,a,b,e,o,fun z=>f _ (h1 z),fun z y=>f _ (h2 z y),fun q r k=>f _ (h3 q r k)⟩
theorem Ad (T:Tx K mg) (B:Bm mg base):FnOk P w K mg base CX0 12 T.sg T.oT ["table","a","b"] (spD K 3 gLvl):=by
 refine fnD (k:=11) T.mK.F sc_level (fun cdv A outer s H E hr=>(ai (az (i:=3) sc_level.nd rfl (by first | exact Or.inl rfl | exact Or.inr rfl) (ag (Ac T B) Ab (hr.mono (by decide)) rfl T.mR.m T.mR.F.kp T.mR.b (aa (ac 0 (pv 0)) (aa (ac 1 (pv 1)) (aa (ac 2 (pv 2)) af)))))
   (ai (az (i:=4) sc_level.nd rfl (by first | exact Or.inl rfl | exact Or.inr rfl) (ag (qC T) qA (hr.mono (by decide)) rfl T.dS.m T.dS.F.kp T.dS.b (aa (ac 0 (pv 0)) (aa (ac 2 (pv 2)) af))))
   (ai (az (i:=5) sc_level.nd rfl (by first | exact Or.inl rfl | exact Or.inr rfl) (ag (jT T) jS (hr.mono (by decide)) rfl T.bJ.m T.bJ.F.kp T.bJ.b (aa (ag (cy T) cx (hr.mono (by decide)) rfl T.ay.m T.ay.F.kp T.ay.b (aa (ac 0 (pv 0)) (aa (ac 1 (pv 1)) af))) af)))
   (ai (bE (cO (ag (mq T) mn (hr.mono (by decide)) rfl T.ci.m T.ci.F.kp T.ci.b (aa (ak (ac 4 (pv 4)) ae (fun _ _=>rfl)) (aa (ac 5 (pv 5)) af)))) (ah (aC (bO (aa pN (aa (ak (ac 4 (pv 4)) ae (fun _ _=>rfl)) af))))) aF)
   (ai (bE (gA (cO (ag (mq T) mn (hr.mono (by decide)) rfl T.ci.m T.ci.F.kp T.ci.b (aa (ak (ak (ac 3 (pv 3)) ae (fun _ _=>rfl)) ae (fun _ _=>rfl)) (aa (ac 5 (pv 5)) af))))) (ah (aC (bO (aa pN (aa (bO (aa ae (aa ae af))) (aa (ag (gL T) gJ (hr.mono (by decide)) rfl T.aX.m T.aX.F.kp T.aX.b (aa (ac 0 (pv 0)) (aa (ac 1 (pv 1)) af))) (aa fm af))))))) aF)
   (ai (az (i:=6) sc_level.nd rfl (by first | exact Or.inl rfl | exact Or.inr rfl) ae)
   (aW (nU PassesOwn.never (cO (ag (mq T) mn (hr.mono (by decide)) rfl T.ci.m T.ci.F.kp T.ci.b (aa (ak (ak (ac 3 (pv 3)) (aL gx (ac 6 (pv 6)) ae) (fun _ _=>rfl)) ae (fun _ _=>rfl)) (aa (ac 5 (pv 5)) af)))) (ah (az (i:=6) sc_level.nd rfl (by first | exact Or.inl rfl | exact Or.inr rfl) (aL gx (ac 6 (pv 6)) ae))))
   (ai (az (i:=7) sc_level.nd rfl (by first | exact Or.inl rfl | exact Or.inr rfl) (ak (ak (ag (tJ T B) tI (hr.mono (by decide)) rfl T.fy.m T.fy.F.kp T.fy.b (aa (ac 0 (pv 0)) (aa (ac 1 (pv 1)) (aa (ac 2 (pv 2)) af)))) (ac 6 (pv 6)) (fun _ _=>rfl)) ae (fun _ _=>rfl)))
   (ai (az (i:=8) sc_level.nd rfl (by first | exact Or.inl rfl | exact Or.inr rfl) (ag (BY T) BX (hr.mono (by decide)) rfl T.qN.m T.qN.F.kp T.qN.b (aa (ag (ml T) mj (hr.mono (by decide)) rfl T.cg.m T.cg.F.kp T.cg.b (aa (ac 5 (pv 5)) (aa (ak (ak (ac 3 (pv 3)) (ac 6 (pv 6)) (fun _ _=>rfl)) ae (fun _ _=>rfl)) af))) (aa (ag (ml T) mj (hr.mono (by decide)) rfl T.cg.m T.cg.F.kp T.cg.b (aa (ak (ac 4 (pv 4)) ae (fun _ _=>rfl)) (aa (ac 7 (pv 7)) af))) af))))
   (ai (az (i:=9) sc_level.nd rfl (by first | exact Or.inl rfl | exact Or.inr rfl) (ag (qv T) qu (hr.mono (by decide)) rfl T.dX.m T.dX.F.kp T.dX.b (aa (ak (ak (ac 3 (pv 3)) (ac 6 (pv 6)) (fun _ _=>rfl)) ae (fun _ _=>rfl)) (aa (ac 8 (pv 8)) af))))
   (ai (zm (i:=10) (mG T) mE (hr.mono (by decide)) rfl T.cG.m T.cG.F.kp T.cG.b (aa (ac 0 (pv 0)) (aa (ac 1 (pv 1)) (aa (ac 2 (pv 2)) (aa (ac 7 (pv 7)) (aa (ac 8 (pv 8)) af))))) sc_level.nd rfl (by first | exact Or.inl rfl | exact Or.inr rfl))
   (ai (rG (ag (qv T) qu (hr.mono (by decide)) rfl T.dX.m T.dX.F.kp T.dX.b (aa (yb (pv 10) (ak (ac 4 (pv 4)) ae (fun _ _=>rfl)) (fun _ _=>rfl)) (aa (ac 9 (pv 9)) af))) (BM (pv 10) (ak (ac 4 (pv 4)) ae (fun _ _=>rfl))))
   (ah (vF (k:=10) (aC (bO (aa pN (aa (ac 9 (pv 9)) (aa (ac 10 (pv 10)) (aa (ac 7 (pv 7)) af))))))))))))))))))))) (fun ds Q hl h=>?_)
 obtain ⟨n,t,a,b,rfl,o,h1,h2,h3⟩:=h
 have wc:=gI o.o (h:=a.toNat) o.na
 have W0:(sumP (col t a.toNat)).1≠0:=o.ha
 have dB:=o.dB
 have tB:=o.tB
 refine ⟨rfl,n,t,a,b,rfl,o,fun rs u rl=>?_⟩
 rw [o.reach_is u,List.map_map]
 refine ⟨rfl,n,t,rfl,o.o,⟨o.b0,o.b1⟩,o.hb,rfl,n,t,rfl,o.o,⟨o.a0,o.a1⟩,o.ha,rfl,yi (by decide) wc.2.2.1 wc.2.2.2 W0 ?_⟩
 refine ⟨rfl,rS (tB.mono (by decide)) (dB.mono (by decide)) (Br.di (fun z=>⟨sz,h1 z⟩) (fun z=>?_))⟩
 obtain ⟨l,el,_⟩:=u.last o
 have l0:0 < rs.length:=by rw [el]; simp
 obtain ⟨r0,c,er⟩:∃ r c,rs=r::c:=by
  cases e:rs with
  | nil=>rw [e] at l0; simp at l0
  | cons r c=>exact ⟨r,c,rfl⟩
 have e0:rs.getD 0 0=r0:=by rw [er]; rfl
 have f0:=o.first u er
 have mem:∀ p,p < rs.length->rs.getD p 0∈rs:=fun p hp=>by
  have:rs.getD p 0=rs[p]:=by simp [List.getD_eq_getElem?_getD,hp]
  rw [this]
  exact List.getElem_mem hp
 refine qI (p:=0) rfl l0 ⟨rfl,?_⟩
 rw [e0]
 refine rS (p:=Sq t a b r0) ((o.SB (o.leG u (by rw [er]; simp))).mono (by decide)) (dB.mono (by decide)) (DD (fun y=>?_) (fun y=>?_))
 ·refine ⟨sz,rfl,n,t,rfl,o.o,⟨o.a0,o.a1⟩,o.ha,sz,?_⟩
  rw [f0.2] at y
  have:=h2 z y
  rw [← Cj] at this
  exact this
 have S0:Sq t a b (rs.getD 0 0) < wQ t a:=by rw [e0]; exact y
 refine ⟨fun ρ=>∃ p:Nat,p + 1 < rs.length /\ Sq t a b (rs.getD p 0) < wQ t a /\ ¬ Sq t a b (rs.getD (p + 1) 0) < wQ t a /\ ρ=[.val (.lst (t.map rowD)),.val (.int a),.val (.int b),.val (.lst (rs.map (vY ∘ fun q=>(Aq t a b q,Sq t a b q)))),.val (tj (colO t b)),.val (ratQ (wQ t a)),.val (.int p),.nil,.nil,.nil,.nil],?_,?_⟩
 ·refine jK (fun ρ=>∃ p:Nat,p + 1 < rs.length /\ Sq t a b (rs.getD p 0) < wQ t a /\ ρ=[.val (.lst (t.map rowD)),.val (.int a),.val (.int b),.val (.lst (rs.map (vY ∘ fun q=>(Aq t a b q,Sq t a b q)))),.val (tj (colO t b)),.val (ratQ (wQ t a)),.val (.int p),.nil,.nil,.nil,.nil]) (fun ρ=>match slot ρ 6 with | .val (.int p)=>rs.length - p.toNat | _=>0) (fun ρ X hN hX=>?_) _ ⟨0,Cr o u l0 (by grind),S0,rfl⟩
  obtain ⟨p,hp,hs,rfl⟩:=hN
  refine qI (p:=p + 1) rfl hp ⟨rfl,rS (p:=Sq t a b (rs.getD (p + 1) 0)) ((o.SB (o.leG u (mem _ hp))).mono (by decide)) (dB.mono (by decide)) (Br.di (fun x=>?_) (fun x=>?_))⟩
  ·refine hX _ ⟨p + 1,Cr o u hp (by grind),x,rfl⟩ ?_
   show rs.length - ((p:Int) + 1).toNat < rs.length - (p:Int).toNat
   omega
  ·exact ⟨p,hp,hs,x,rfl⟩
 rintro _ ⟨p,hp,hs,hs',rfl⟩
 have qm:=mem p (by omega)
 have k:Bar t a b (rs.getD p 0) (rs.getD (p + 1) 0):=by
  obtain ⟨c0,c1,e⟩:=Cq hp
  exact ⟨⟨rs,c0,c1,u,e⟩,hs,by grind⟩
 obtain ⟨q,eq⟩:∃ q,q=rs.getD p 0:=⟨_,rfl⟩
 obtain ⟨r',er'⟩:∃ r',r'=rs.getD (p + 1) 0:=⟨_,rfl⟩
 rw [← eq,← er'] at k
 rw [← eq] at qm
 have lt:=k.lt o
 have sB:=o.SB (o.leG u qm)
 have qB:=(k.rs o).bq
 have rB:QB 1365 (rs63 t a b q):=by
  have:=(k.rs o).rB o (Nat.zero_le _)
  have h0:rst t a b q (rs63 t a b q) 0=rs63 t a b q:=by
   have:=k.r0 o
   unfold rst Bq
   simp only [sumQ]
   grind
  rw [h0] at this
  exact this
 have hk:=o.top.1
 refine ⟨rfl,n,t,a,b,rfl,o,fun rs' u' _=>?_⟩
 have ee:rs'=rs:=u'.one u
 rw [ee]
 refine qI (p:=p) rfl (by omega) ?_
 rw [← eq]
 refine qI (p:=p) rfl (by omega) ?_
 rw [← eq]
 have g1:QB 1450 (wQ t a - Sq t a b q):=(dB.sub sB).mono (by decide)
 have g2:QB 161 (aw t b - q):=tB.sub qB
 refine ⟨rfl,qw (dB.mono (by decide)) (sB.mono (by decide)) ⟨rfl,qw (p:=aw t b) (tB.mono (by decide)) (qB.mono (by decide)) ⟨rfl,DB (g1.mono (by decide)) (g2.mono (by decide)) (by grind) ?_⟩⟩⟩
 refine qI (p:=p) rfl (by omega) ?_
 rw [← eq]
 refine ⟨rfl,zN ((o.AB q).mono (by decide)) (rB.mono (by decide)) ⟨rfl,n,t,a,b,q,rs63 t a b q,rfl,o,k.rs o,?_⟩⟩
 have hg:((List.range t.length).map fun i=>ratQ (wlf t a b q (rs63 t a b q) i))[(bC (colO t b)).2]? = some (ratQ (wlf t a b q (rs63 t a b q) (bC (colO t b)).2)):=by
  rw [List.getElem?_map,List.getElem?_range hk.1]
  rfl
 have ew:wlf t a b q (rs63 t a b q) (bC (colO t b)).2=wA t a (bC (colO t b)).2:=by
  unfold wlf
  rw [hk.2.2,if_neg (by grind),if_neg (by grind)]
 have mB:QB 1450 (m63 t a b q):=((o.AB q).add rB).mono (by decide)
 refine ⟨trivial,fo (d:=ratQ (wlf t a b q (rs63 t a b q) (bC (colO t b)).2)) (by omega) (by rw [Int.toNat_natCast]; exact hg) ⟨rfl,zN (by rw [ew]; exact (o.wB hk.1).mono (by decide)) (mB.mono (by decide)) ⟨trivial,(bC (colO t b)).2,?_,?_⟩⟩⟩
 ·rw [List.length_map,List.length_range]
  exact BN (by omega) (by omega)
 refine ⟨_,rfl,sz,?_⟩
 have e:((List.range t.length).map fun i=>ratQ (wlf t a b q (rs63 t a b q) i)).set (bC (colO t b)).2 (ratQ (wlf t a b q (rs63 t a b q) (bC (colO t b)).2 + m63 t a b q))=(List.range t.length).map fun i=>ratQ (tw t a b q i):=by
  apply List.ext_getElem?
  intro i
  rw [List.getElem?_set,List.length_map,List.length_range,List.getElem?_map,List.getElem?_map]
  by_cases z:(bC (colO t b)).2=i
  ·subst z
   rw [if_pos rfl,if_pos hk.1,List.getElem?_range hk.1]
   show _=some (ratQ (tw t a b q (bC (colO t b)).2))
   unfold tw
   rw [if_pos rfl]
  ·rw [if_neg z]
   by_cases y:i < t.length
   ·rw [List.getElem?_range y]
    show some (ratQ (wlf t a b q (rs63 t a b q) i))=some (ratQ (tw t a b q i))
    unfold tw
    rw [if_neg fun e=>z e.symm,Rat.add_zero]
   ·rw [List.getElem?_eq_none (by simp; omega)]
    rfl
 have:=h3 q r' k
 unfold wL at this
 rw [← e] at this
 exact this
def gLow:DSp:=fun ds Q=>match ds with
 | [.int a,.int b]=>(0 < b /\ Bd 7000 a /\ Bd 7000 b) /\ Q (ratQ ((a:Rat) / (b:Rat)))
 | _=>False
theorem dI:aV gLow:=fun ds P P' f h=>by
 unfold gLow at h ⊢
 split at h
 ·exact ⟨h.1,f _ h.2⟩
 ·exact h.elim
def muR (ρ:DS):Nat:=match slot ρ 3 with
 | .val (.int y)=>y.natAbs
 | _=>0
theorem xN {a b:Int}:Int.gcd (if a < 0 then -a else a) b=Int.gcd a b:=by
 split
 ·rw [Int.neg_gcd]
 ·rfl
theorem dJ (T:Tx K mg):FnOk P w K mg base CX0 1 T.kh T.iO ["_law_top_here","_law_bottom"] (spD K 2 gLow):=by
 refine fnD (k:=0) T.aD.F sc__law_low (fun cdv A outer s H E hr=>(ai (az (i:=2) sc__law_low.nd rfl (by first | exact Or.inl rfl | exact Or.inr rfl) (aN xY rfl T.Ah rfl (aa (ac 0 (pv 0)) af)))
   (ai (az (i:=3) sc__law_low.nd rfl (by first | exact Or.inl rfl | exact Or.inr rfl) (ac 1 (pv 1)))
   (aW (nU PassesOwn.never (aH jJ (ac 3 (pv 3)) ae (aA _)) (ah (BB rfl sc__law_low.nd (i:=2) (j:=3) rfl rfl (by decide) rfl rfl (aa (ac 3 (pv 3)) (aa (aL Bw (ac 2 (pv 2)) (ac 3 (pv 3))) af)) rfl)))
   (ah (aC (bO (aa (aL gG (ac 0 (pv 0)) (ac 2 (pv 2))) (aa (aL gG (ac 1 (pv 1)) (ac 2 (pv 2))) af))))))))) (fun ds Q hl h=>?_)
 unfold gLow at h
 split at h
 case h_2=>exact h.elim
 rename_i a b
 obtain ⟨⟨hb,ba,bb⟩,h⟩:=h
 refine ⟨fun ρ=>ρ=[.val (.int a),.val (.int b),.val (.int (Int.gcd a b:Nat)),.val (.int 0)],?_,?_⟩
 ·refine jK (fun ρ=>∃ (x y:Int),ρ=[.val (.int a),.val (.int b),.val (.int x),.val (.int y)] /\ 0 <= x /\ 0 <= y /\ Int.gcd x y=Int.gcd a b) muR (fun ρ X hN hX=>?_) _ ⟨_,_,rfl,by split <;> omega,by omega,xN⟩
  obtain ⟨x,y,rfl,hx,hy,e⟩:=hN
  refine ⟨fun c=>?_,fun c=>?_⟩
  ·have c:0 < y:=by simpa using c
   have c':y≠0:=by omega
   have em:x % y=x.fmod y:=(Int.fmod_eq_emod_of_nonneg x hy).symm
   refine ⟨c,hX _ ⟨y,x % y,rfl,hy,Int.emod_nonneg _ c',?_⟩ ?_⟩
   ·rw [em,Ra.gcd_step c',e]
   ·show (x % y).natAbs < y.natAbs
    rw [em]; exact Ra.fmod_less c'
  ·have c:¬ 0 < y:=by simpa using c
   have:y=0:=by omega
   subst this
   rw [Int.gcd_zero_right] at e
   have:x=((Int.gcd a b:Nat):Int):=by omega
   rw [this]
 ·rintro _ rfl
  have hg:0 < Int.gcd a b:=Int.gcd_pos_of_ne_zero_right a (by omega)
  have hgb:Big ((Int.gcd a b:Nat):Int):=(bb.le (i:=((Int.gcd a b:Nat):Int)) (by rw [Int.natAbs_natCast]; exact Nat.le_of_dvd (Int.natAbs_pos.mpr (by omega)) (Int.gcd_dvd_natAbs_right a b))).big (by decide)
  have g0:(0:Int) < ((Int.gcd a b:Nat):Int):=by omega
  have lw:=Ra.low_of (a:=a) (b:=b) (d:=((Int.gcd a b:Nat):Int)) (by omega) (by rw [if_neg (by omega)])
  rw [Int.fdiv_eq_ediv_of_nonneg _ (by omega),Int.fdiv_eq_ediv_of_nonneg _ (by omega)] at lw
  exact ⟨⟨g0,hgb⟩,⟨g0,hgb⟩,sz,jw (by omega) h _ _ lw⟩
theorem jV {a b:Int} {n:Nat} (hn:n <= 7000) (hb:0 < b) (ba:Bd n a) (bb:Bd n b) {Q:D->Prop} (q:Q (ratQ ((a:Rat) / b))):gLow [.int a,.int b] Q:=⟨⟨hb,ba.mono hn,bb.mono hn⟩,q⟩
theorem we (p q:Rat):0 < ((p.den:Int) * (q.den:Int)):=Int.mul_pos (den_pos p) (den_pos q)
def yj:DSp:=fun ds Q=>∃ (p q:Rat) (m n:Nat),ds=[ratQ p,ratQ q] /\ m + n <= 6900 /\ QB m p /\ QB n q /\ Q (ratQ (p + q))
theorem fY:aV yj:=fun ds P P' f ⟨a,b,m,n,c,d,e,g,h⟩=>⟨a,b,m,n,c,d,e,g,f _ h⟩
theorem fZ (T:Tx K mg):FnOk P w K mg base CX0 2 T.iW T.ia ["_law_one","_law_other"] (spD K 2 yj):=by
 refine fnD (k:=1) T.aR.F qk (fun cdv A outer s H E hr=>(ah (aC (ag (dJ T) dI (hr.mono (by decide)) rfl T.aD.m T.aD.F.kp T.aD.b (aa (aL gx (aL bF (ak (ac 0 (pv 0)) ae (fun _ _=>rfl)) (ak (ac 1 (pv 1)) ae (fun _ _=>rfl))) (aL bF (ak (ac 1 (pv 1)) ae (fun _ _=>rfl)) (ak (ac 0 (pv 0)) ae (fun _ _=>rfl)))) (aa (aL bF (ak (ac 0 (pv 0)) ae (fun _ _=>rfl)) (ak (ac 1 (pv 1)) ae (fun _ _=>rfl))) af)))))) (fun ds Q hl h=>?_)
 obtain ⟨p,q,m,n,rfl,l,h,k,r⟩:=h
 refine ⟨h.nu.cmul k.de (by omega) (by omega),k.nu.cmul h.de (by omega) (by omega),h.de.cmul k.de (by omega) (by omega),rfl,jV (n:=6901) (by decide) (we p q) (((((h.nu.mul k.de).mono (n:=6900) l).add ((k.nu.mul h.de).mono (n:=6900) (by omega))).mono (by decide))) ((h.de.mul k.de).mono (by omega)) (by rw [vR]; exact r)⟩
def wf:DSp:=fun ds Q=>∃ (p q:Rat) (m n:Nat),ds=[ratQ p,ratQ q] /\ m + n <= 6900 /\ QB m p /\ QB n q /\ Q (ratQ (p * q))
theorem gN:aV wf:=fun ds P P' f ⟨a,b,m,n,c,d,e,g,h⟩=>⟨a,b,m,n,c,d,e,g,f _ h⟩
theorem gO (T:Tx K mg):FnOk P w K mg base CX0 2 T.gT T.gj ["_law_one","_law_other"] (spD K 2 wf):=by
 refine fnD (k:=1) T.aY.F ox (fun cdv A outer s H E hr=>(ah (aC (ag (dJ T) dI (hr.mono (by decide)) rfl T.aD.m T.aD.F.kp T.aD.b (aa (aL bF (ak (ac 0 (pv 0)) ae (fun _ _=>rfl)) (ak (ac 1 (pv 1)) ae (fun _ _=>rfl))) (aa (aL bF (ak (ac 0 (pv 0)) ae (fun _ _=>rfl)) (ak (ac 1 (pv 1)) ae (fun _ _=>rfl))) af)))))) (fun ds Q hl h=>?_)
 obtain ⟨p,q,m,n,rfl,l,h,k,r⟩:=h
 refine ⟨h.nu.cmul k.nu (by omega) (by omega),h.de.cmul k.de (by omega) (by omega),rfl,jV (n:=6901) (by decide) (we p q) ((h.nu.mul k.nu).mono (by omega)) ((h.de.mul k.de).mono (by omega)) (by rw [vT]; exact r)⟩
def yk:DSp:=fun ds Q=>∃ (p q:Rat) (m n:Nat),ds=[ratQ p,ratQ q] /\ m + n <= 6900 /\ QB m p /\ QB n q /\ Q (ratQ (p - q))
theorem bT:aV yk:=fun ds P P' f ⟨a,b,m,n,c,d,e,g,h⟩=>⟨a,b,m,n,c,d,e,g,f _ h⟩
theorem bU (T:Tx K mg):FnOk P w K mg base CX0 2 T.iQ T.hZ ["_law_one","_law_other"] (spD K 2 yk):=by
 refine fnD (k:=1) T.aq.F qo (fun cdv A outer s H E hr=>(ah (aC (ag (dJ T) dI (hr.mono (by decide)) rfl T.aD.m T.aD.F.kp T.aD.b (aa (aL vn (aL bF (ak (ac 0 (pv 0)) ae (fun _ _=>rfl)) (ak (ac 1 (pv 1)) ae (fun _ _=>rfl))) (aL bF (ak (ac 1 (pv 1)) ae (fun _ _=>rfl)) (ak (ac 0 (pv 0)) ae (fun _ _=>rfl)))) (aa (aL bF (ak (ac 0 (pv 0)) ae (fun _ _=>rfl)) (ak (ac 1 (pv 1)) ae (fun _ _=>rfl))) af)))))) (fun ds Q hl h=>?_)
 obtain ⟨p,q,m,n,rfl,l,h,k,r⟩:=h
 refine ⟨h.nu.cmul k.de (by omega) (by omega),k.nu.cmul h.de (by omega) (by omega),h.de.cmul k.de (by omega) (by omega),rfl,jV (n:=6901) (by decide) (we p q) (((((h.nu.mul k.de).mono (n:=6900) l).sub ((k.nu.mul h.de).mono (n:=6900) (by omega))).mono (by decide))) ((h.de.mul k.de).mono (by omega)) (by rw [vS]; exact r)⟩
def gIsR:DSp:=fun ds Q=>∃ q:Rat,ds=[ratQ q] /\ QB 3000 q /\ Q (.bl true)
theorem eT:aV gIsR:=fun ds P P' f ⟨q,a,b,h⟩=>⟨q,a,b,f _ h⟩
theorem eU (T:Tx K mg):FnOk P w K mg base CX0 2 T.eY T.eB ["_law_thing"] (spD K 1 gIsR):=by
 refine fnD (k:=1) T.aI.F sc__law_is_ratio (fun cdv A outer s H E hr=>(ai (bE (PWD.pt (lS (gA (cO (aN iF rfl T.bA rfl (aa (ac 0 (pv 0)) (aa (pO (n:="tuple") rfl T.kl rfl) af))))) (ji (aH (nW hr) (aN jp rfl T.ki PySem.boot_len (aa (ac 0 (pv 0)) af)) ae (aA _))))) (ah (aC nS)) aF)
   (aW (dQ PassesOwn.never rfl (Bv (ac 0 (pv 0))) (aB (i:=1) sc__law_is_ratio.nd rfl (by first | exact Or.inl rfl | exact Or.inr rfl)) (ah (bE (PWD.pt (lS (gA (cO (aN pU rfl T.bA rfl (aa (ac 1 (pv 1)) (aa (pO (n:="int") rfl T.xP rfl) af))))) (ji (cO (aN nj rfl T.bA rfl (aa (ac 1 (pv 1)) (aa (pO (n:="bool") rfl T.wu rfl) af))))))) (ah (aC nS)) aF)))
   (ah (aC (jk (eD jJ (ak (ac 0 (pv 0)) ae (fun _ _=>rfl)) ae (aA _)) (kC (eD (ej hr) (ag (dJ T) dI (hr.mono (by decide)) rfl T.aD.m T.aD.F.kp T.aD.b (aa (ak (ac 0 (pv 0)) ae (fun _ _=>rfl)) (aa (ak (ac 0 (pv 0)) ae (fun _ _=>rfl)) af))) (ac 0 (pv 0)) (aA _))))))))) (fun ds Q hl h=>?_)
 obtain ⟨q,rfl,bq,h⟩:=h
 have hy:0 < (q.den:Int):=den_pos q
 refine ⟨rfl,rfl,Br.f ⟨⟨rfl,rfl⟩,Br.f ?_⟩⟩
 refine ⟨fun ρ=>∃ s:Sl,ρ=[.val (ratQ q),s],⟨rfl,rfl,Br.f ⟨rfl,rfl,Br.f ⟨rfl,rfl,Br.f ⟨rfl,rfl,Br.f ⟨_,rfl⟩⟩⟩⟩⟩,?_⟩
 rintro _ ⟨s,rfl⟩
 refine Br.dt hy ⟨rfl,⟨hy,bq.nu.mono (by decide),bq.de.mono (by decide)⟩,?_⟩
 rw [self q]
 refine ⟨⟨bh q,bh q⟩,?_⟩
 show Q (.bl (eqD (ratQ q) (ratQ q)))
 rw [eE (bh q)]
 exact h
def shE (t:List Row) (b:Int) (i:Nat):D:=if (cl t b.toNat i).1=0 then .non else ratQ (sh t b.toNat i)
def sL (t:List Row) (b:Int):D:=.lst ((List.range t.length).map (shE t b))
theorem mH {f:Nat->Rat} {j n:Nat} (h:∀ i,i < n->0 <= f i) (hj:j <= n):sumQ f j <= sumQ f n:=by
 have h2:∀ m,j + m <= n->sumQ f j <= sumQ f (j + m):=fun m=>by
  induction m with
  | zero=>intro _; exact Rat.le_refl
  | succ m ih =>
   intro hm
   have:=ih (by omega)
   have:=h (j + m) (by omega)
   show _ <= sumQ f (j + m) + f (j + m)
   grind
 have:=h2 (n - j) (by omega)
 rw [show j + (n - j)=n by omega] at this
 exact this
theorem Mx.mp {n:Nat} {t:List Row} {a b:Int} {q:Nat->Rat} (o:Mx n t a b q) {j:Nat} (hj:j <= t.length):QB 2681 (sumQ (fun i=>q i * sh t b.toNat i) j):=by
 obtain ⟨N,n0,bN,hz⟩:=o.k.cd
 obtain ⟨P,p0,bP,hp⟩:=o.sP
 have nn:∀ i,i < t.length->0 <= q i * sh t b.toNat i:=fun i hi=>(zX ⟨o.k.nn i hi,o.k.le hi⟩ (o.s01 hi)).1
 obtain ⟨z,e⟩:=iC (Int.mul_pos n0 p0) (f:=fun i=>q i * sh t b.toNat i) (n:=j) fun i hi=>tG n0 p0 (hz i (by omega)) (hp i (by omega))
 have h1:=mH nn hj
 have h2:=o.m01.2
 unfold mixW at h2
 exact fr_B (Int.mul_pos n0 p0) (bN.mul bP) e (fW fun i hi=>nn i (by omega)) (by grind)
def gLMx:DSp:=fun ds Q=>∃ (n:Nat) (t:List Row) (a b:Int) (q:Nat->Rat),ds=[wL q t.length,sL t b] /\ Mx n t a b q /\ Q (ratQ (mixW t b q))
theorem kG:aV gLMx:=fun ds P P' f ⟨n,t,a,b,q,e,o,h⟩=>⟨n,t,a,b,q,e,o,f _ h⟩
theorem num0 {q:Rat}:(q.num=0)↔q=0:=Rat.num_eq_zero
theorem kH (T:Tx K mg):FnOk P w K mg base CX0 3 T.ic T.gg ["_law_weights","_law_shares"] (spD K 2 gLMx):=by
 refine fnD (k:=2) T.bR.F sc__law_mixed (fun cdv A outer s H E hr=>(ai (az (i:=2) sc__law_mixed.nd rfl (by first | exact Or.inl rfl | exact Or.inr rfl) (bO (aa ae (aa ae af))))
   (aW (dQ PassesOwn.never rfl (qd rfl T.uA (aa (ac 0 (pv 0)) (aa (ac 1 (pv 1)) af))) (gw (n:=2) rfl (aJ (aB (i:=3) sc__law_mixed.nd rfl (by first | exact Or.inl rfl | exact Or.inr rfl)) (aJ (aB (i:=4) sc__law_mixed.nd rfl (by first | exact Or.inl rfl | exact Or.inr rfl)) dZ))) (ai (bE (PWD.pt (lR (aH (nW hr) (ak (ac 3 (pv 3)) ae (fun _ _=>rfl)) ae (aA _)) (iE (aH sH (ac 4 (pv 4)) fm (aA _))))) (ah (aC fm)) aF)
   (ah (bE (aH (nW hr) (ak (ac 3 (pv 3)) ae (fun _ _=>rfl)) ae (aA _)) (ah (az (i:=2) sc__law_mixed.nd rfl (by first | exact Or.inl rfl | exact Or.inr rfl) (ag (fZ T) fY (hr.mono (by decide)) rfl T.aR.m T.aR.F.kp T.aR.b (aa (ac 2 (pv 2)) (aa (ag (gO T) gN (hr.mono (by decide)) rfl T.aY.m T.aY.F.kp T.aY.b (aa (ac 3 (pv 3)) (aa (ac 4 (pv 4)) af))) af))))) aF))))
   (ah (aC (ac 2 (pv 2))))))) (fun ds Q hl h=>?_)
 obtain ⟨n,t,a,b,q,rfl,o,h⟩:=h
 refine ⟨sz,fun ρ=>∃ x3 x4:Sl,ρ=[.val (wL q t.length),.val (sL t b),.val (ratQ (mixW t b q)),x3,x4],?_,?_⟩
 ·show fT _ _ (zipD ((List.range t.length).map fun i=>ratQ (q i)) ((List.range t.length).map (shE t b))) _ _
  rw [ir]
  refine eS _ (fun i ρ=>∃ x3 x4:Sl,ρ=[.val (wL q t.length),.val (sL t b),.val (ratQ (sumQ (fun i=>q i * sh t b.toNat i) i)),x3,x4]) (fun ρ hN=>hN) (fun i ρ X hi hN hX=>?_) _ ⟨.nil,.nil,rfl⟩
  obtain ⟨x3,x4,rfl⟩:=hN
  have su:sumQ (fun i=>q i * sh t b.toNat i) (i + 1)=sumQ (fun i=>q i * sh t b.toNat i) i + q i * sh t b.toNat i:=rfl
  have q0:=o.k.nn i hi
  refine ⟨rfl,⟨rfl,rfl⟩,fun z=>?_,fun z=>Br.f ⟨⟨rfl,rfl⟩,fun y=>absurd y (by rw [z]; exact Bool.false_ne_true),fun _=>?_⟩⟩
  ·have z0:¬ (q i).num=0:=by simpa [bG] using z
   have qp:0 < q i:=by
    have:¬ q i=0:=fun e=>z0 (num0.mpr e)
    grind
   have c0:=o.tr i hi qp
   have es:shE t b i=ratQ (sh t b.toNat i):=by unfold shE; rw [if_neg c0]
   rw [es]
   refine Br.f ⟨⟨rfl,rfl⟩,fun _=>?_,fun y=>absurd z (by rw [y]; exact Bool.false_ne_true)⟩
   refine ⟨rfl,q i,_,1400,80,rfl,by decide,o.k.B hi,o.sB hi,rfl,_,_,2681,1480,rfl,by decide,o.mp (Nat.le_of_lt hi),(o.k.B hi).mul (o.sB hi),hX _ ⟨.val (ratQ (q i)),.val (ratQ (sh t b.toNat i)),?_⟩⟩
   rw [su]
   rfl
  ·have z0:(q i).num=0:=by simpa [bG] using z
   have qz:q i=0:=num0.mp z0
   refine hX _ ⟨.val (ratQ (q i)),.val (shE t b i),?_⟩
   rw [su,qz,Rat.zero_mul,Rat.add_zero]
   rfl
 ·rintro _ ⟨x3,x4,rfl⟩
  exact h
def eN (xs:List (Option Rat)) (i:Nat):Option Nat:=match plq xs i with
 | []=>none
 | p::ps=>some ((p::ps).foldl (bM xs) (p,p)).2
theorem wg (xs:List (Option Rat)) (i:Nat):eN xs (i + 1)=if (oq xs i).isSome=true then (match eN xs i with | none=>some i | some k=>some (if vq xs k < vq xs i then i else k)) else eN xs i:=by
 unfold eN
 rw [tq]
 by_cases z:(oq xs i).isSome=true
 ·rw [if_pos z,if_pos z]
  cases e:plq xs i with
  | nil =>
   show some ((if vq xs i < vq xs i then i else i))=some i
   split <;> rfl
  | cons p ps =>
   show some ((p::ps++[i]).foldl (bM xs) (p,p)).2=_
   rw [List.foldl_append]
   rfl
 ·rw [if_neg z,if_neg z,List.append_nil]
theorem wj {xs:List (Option Rat)}:∀ {i k:Nat},eN xs i=some k->k < i /\ (oq xs k).isSome=true
 | 0,k,h=>by cases h
 | i + 1,k,h=>by
  rw [wg] at h
  split at h
  ·rename_i z
   cases e:eN xs i with
   | none =>
    rw [e] at h
    cases h
    exact ⟨by omega,z⟩
   | some j =>
    rw [e] at h
    have ih:=wj e
    have h:(if vq xs j < vq xs i then i else j)=k:=Option.some.inj h
    split at h
    ·subst h; exact ⟨by omega,z⟩
    ·subst h; exact ⟨by omega,ih.2⟩
  ·have ih:=wj h
   exact ⟨by omega,ih.2⟩
def topD (xs:List (Option Rat)) (i:Nat):D:=match eN xs i with
 | none=>.non
 | some k=>.tup [ratQ (vq xs k),.int (k:Int)]
def gTp:DSp:=fun ds Q=>∃ (n:Nat) (t:List Row) (a b:Int),ds=[sL t b] /\ T61 n t a b /\ Q (.tup [ratQ (aw t b),.int ((bC (colO t b)).2:Int)])
theorem uw:aV gTp:=fun ds P P' f ⟨n,t,a,b,e,o,h⟩=>⟨n,t,a,b,e,o,f _ h⟩
theorem T61.vB {n:Nat} {t:List Row} {a b:Int} (o:T61 n t a b) {k:Nat} (hk:k < t.length):oq (colO t b) k=(if (My.cl t b.toNat k).1=0 then none else some (sh t b.toNat k)) /\ QB 80 (vq (colO t b) k):=by
 have e:=Aa (b:=b) hk
 refine ⟨e,?_⟩
 unfold vq
 rw [e]
 split
 ·exact ⟨by show Int.natAbs 0 < 2 ^ 80; decide,by show Int.natAbs 1 < 2 ^ 80; decide⟩
 ·exact o.sB hk
theorem ux (T:Tx K mg):FnOk P w K mg base CX0 3 T.kf T.iS ["_law_shares"] (spD K 1 gTp):=by
 refine fnD (k:=2) T.fR.F sc__law_top (fun cdv A outer s H E hr=>(ai (az (i:=1) sc__law_top.nd rfl (by first | exact Or.inl rfl | exact Or.inr rfl) fm)
   (aW (dQ PassesOwn.never rfl (oh rfl T.fg (aa (ac 0 (pv 0)) af)) (gw (n:=2) rfl (aJ (aB (i:=2) sc__law_top.nd rfl (by first | exact Or.inl rfl | exact Or.inr rfl)) (aJ (aB (i:=3) sc__law_top.nd rfl (by first | exact Or.inl rfl | exact Or.inr rfl)) dZ))) (ah (bE (PWD.pt (lR (aH lT (ac 3 (pv 3)) fm (aA _)) (iE (PWD.pt (lS (aH sH (ac 1 (pv 1)) fm (aA _)) (ji (aH jJ (ak (ag (bU T) bT (hr.mono (by decide)) rfl T.aq.m T.aq.F.kp T.aq.b (aa (ac 3 (pv 3)) (aa (ak (ac 1 (pv 1)) ae (fun _ _=>rfl)) af))) ae (fun _ _=>rfl)) ae (aA _)))))))) (ah (az (i:=1) sc__law_top.nd rfl (by first | exact Or.inl rfl | exact Or.inr rfl) (bO (aa (ac 3 (pv 3)) (aa (ac 2 (pv 2)) af))))) aF)))
   (ah (aC (ac 1 (pv 1))))))) (fun ds Q hl h=>?_)
 obtain ⟨n,t,a,b,rfl,o,h⟩:=h
 have lc:(colO t b).length=t.length:=by unfold colO col; rw [List.length_map,List.length_map]
 refine ⟨fun ρ=>∃ x2 x3:Sl,ρ=[.val (sL t b),.val (topD (colO t b) t.length),x2,x3],?_,?_⟩
 ·show fT _ _ (gH 0 ((List.range t.length).map (shE t b))) _ _
  have ee:gH 0 ((List.range t.length).map (shE t b))=(List.range t.length).map fun (i:Nat)=>.tup [.int (i:Int),shE t b i]:=by
   rw [tE (shE t b) 0 (List.range t.length),List.length_range]
   refine List.map_congr_left fun i hi=>?_
   have hi:=List.mem_range.mp hi
   simp [List.getD_eq_getElem?_getD,hi]
  rw [ee]
  refine eS _ (fun i ρ=>∃ x2 x3:Sl,ρ=[.val (sL t b),.val (topD (colO t b) i),x2,x3]) (fun ρ hN=>hN) (fun i ρ X hi hN hX=>?_) _ ⟨.nil,.nil,rfl⟩
  obtain ⟨x2,x3,rfl⟩:=hN
  have v:=o.vB hi
  have es:=wg (colO t b) i
  by_cases z:(My.cl t b.toNat i).1=0
  ·have e0:shE t b i = .non:=by unfold shE; rw [if_pos z]
   rw [e0]
   rw [v.1,if_pos z] at es
   have et:topD (colO t b) (i + 1)=topD (colO t b) i:=by
    unfold topD
    rw [es]
    rfl
   refine ⟨rfl,Br.f (Br.f (hX _ ⟨.val (.int i),.val .non,?_⟩))⟩
   rw [et]
   rfl
  ·have e0:shE t b i=ratQ (sh t b.toNat i):=by unfold shE; rw [if_neg z]
   rw [e0]
   have vi:vq (colO t b) i=sh t b.toNat i:=by unfold vq; rw [v.1,if_neg z]; rfl
   rw [v.1,if_neg z] at es
   have es:eN (colO t b) (i + 1)=(match eN (colO t b) i with | none=>some i | some k=>some (if vq (colO t b) k < vq (colO t b) i then i else k)):=es
   cases e:eN (colO t b) i with
   | none =>
    rw [e] at es
    have t0:topD (colO t b) i = .non:=by unfold topD; rw [e]
    have t1:topD (colO t b) (i + 1) = .tup [ratQ (sh t b.toNat i),.int (i:Int)]:=by unfold topD; rw [es,← vi]
    rw [t0]
    refine ⟨rfl,Br.t (Br.t (Br.t ⟨sz,hX _ ⟨.val (.int i),.val (ratQ (sh t b.toNat i)),?_⟩⟩))⟩
    rw [t1]
    rfl
   | some k =>
    rw [e] at es
    have hk:=wj e
    have kB:=(o.vB (show k < t.length by omega)).2
    have t0:topD (colO t b) i = .tup [ratQ (vq (colO t b) k),.int (k:Int)]:=by unfold topD; rw [e]
    rw [t0]
    have sB:=o.sB hi
    refine ⟨rfl,Br.t (Br.f ⟨rfl,sh t b.toNat i,vq (colO t b) k,80,80,rfl,by decide,sB,kB,?_⟩)⟩
    have np:0 < (sh t b.toNat i - vq (colO t b) k).num↔vq (colO t b) k < sh t b.toNat i:=by
     rw [num_pos']
     constructor <;> intro h <;> grind
    refine Br.di (fun y=>?_) (fun y=>?_)
    ·rw [np] at y
     have t1:topD (colO t b) (i + 1) = .tup [ratQ (sh t b.toNat i),.int (i:Int)]:=by
      unfold topD
      rw [es]
      show (match some (if vq (colO t b) k < vq (colO t b) i then i else k) with | none=>D.non | some k=>.tup [ratQ (vq (colO t b) k),.int (k:Int)])=_
      rw [if_pos (by rw [vi]; exact y)]
      show D.tup [ratQ (vq (colO t b) i),.int (i:Int)]=_
      rw [vi]
     refine ⟨sz,hX _ ⟨.val (.int i),.val (ratQ (sh t b.toNat i)),?_⟩⟩
     rw [t1]
     rfl
    ·rw [np] at y
     have t1:topD (colO t b) (i + 1) = .tup [ratQ (vq (colO t b) k),.int (k:Int)]:=by
      unfold topD
      rw [es]
      show (match some (if vq (colO t b) k < vq (colO t b) i then i else k) with | none=>D.non | some k=>.tup [ratQ (vq (colO t b) k),.int (k:Int)])=_
      rw [if_neg (by rw [vi]; exact y)]
     refine hX _ ⟨.val (.int i),.val (ratQ (sh t b.toNat i)),?_⟩
     rw [t1]
     rfl
 ·rintro _ ⟨x2,x3,rfl⟩
  have e:topD (colO t b) t.length = .tup [ratQ (aw t b),.int ((bC (colO t b)).2:Int)]:=by
   unfold topD eN aw bC
   have hn:=tu (cs:=col t b.toNat) o.hb
   have hn:plq (colO t b) (colO t b).length≠[]:=hn
   rw [lc] at hn ⊢
   cases e:plq (colO t b) t.length with
   | nil=>exact absurd e hn
   | cons p ps=>rfl
  show Q (topD (colO t b) t.length)
  rw [e]
  exact h
section
variable {n:Nat} {t:List Row} {a b:Int} {p:Nat->Rat}
theorem Mx.un01 (o:Mx n t a b p) {j:Nat} (hj:j <= t.length):QB 1484 (un (wA t a) p j) /\ 0 <= un (wA t a) p j:=by
 obtain ⟨N,n0,bN,hz⟩:=o.k.cd
 have N0:=Int.mul_pos o.W.1 n0
 have nn:∀ i,i < t.length->0 <= if p i < wA t a i then wA t a i - p i else 0:=fun i hi=>by split <;> grind
 have h0:0 <= un (wA t a) p j:=fW fun i hi=>nn i (by omega)
 obtain ⟨z,e⟩:∃ z:Int,un (wA t a) p j=(z:Rat) / ((WA t a * N:Int):Rat):=iC N0 fun i hi=>oI (mC N0 (xI o.W.1 n0 ⟨_,rfl⟩) (by rw [Int.mul_comm]; exact xI n0 o.W.1 (hz i (by omega))))
 refine ⟨fr_B N0 (o.W.2.mul bN) e h0 ?_,h0⟩
 have h1:un (wA t a) p j <= sumQ (wA t a) j:=gM fun i hi=>by
  have:=o.k.nn i (by omega)
  have:=o.wk.nn i (by omega)
  show (if p i < wA t a i then wA t a i - p i else 0) <= wA t a i
  split <;> grind
 have h2:∀ m,j + m <= t.length->sumQ (wA t a) j <= sumQ (wA t a) (j + m):=fun m=>by
  induction m with
  | zero=>intro _; exact Rat.le_refl
  | succ m ih =>
   intro hm
   have:=ih (by omega)
   have:=o.wk.nn (j + m) (by omega)
   show _ <= sumQ (wA t a) (j + m) + wA t a (j + m)
   grind
 have h3:=h2 (t.length - j) (by omega)
 rw [show j + (t.length - j)=t.length by omega,o.wk.one] at h3
 grind
end
theorem Wk.part {n:Nat} {q:Nat->Rat} (o:Wk n q) {j:Nat} (hj:j <= n):QB 1400 (sumQ q j):=by
 obtain ⟨N,n0,bN,hz⟩:=o.cd
 obtain ⟨z,e⟩:=iC n0 (f:=q) (n:=j) fun i hi=>hz i (by omega)
 have h1:=mH o.nn hj
 rw [o.one] at h1
 exact fr_B n0 bN e (fW fun i hi=>o.nn i (by omega)) h1
theorem q0B {n:Nat}:QB (n + 1) 0:=⟨Bd.mono (m:=1) (by unfold Bd; decide) (by omega),Bd.mono (m:=1) (by unfold Bd; decide) (by omega)⟩
theorem br_t {c:Bool} (e:c=true) {A B:Prop} (h:A):Br c A B:=by subst e; exact Br.t h
theorem Bar.mB {n:Nat} {t:List Row} {a b:Int} {q r':Rat} (k:Bar t a b q r') (o:T61 n t a b):QB 1450 (m63 t a b q):=by
 have h1:=(k.rs o).rB o (Nat.zero_le _)
 have h0:rst t a b q (rs63 t a b q) 0=rs63 t a b q:=by
  have:=k.r0 o
  unfold rst Bq
  simp only [sumQ]
  grind
 rw [h0] at h1
 exact ((o.AB q).add h1).mono (by decide)
def gWR:DSp:=fun ds Q=>∃ (n:Nat) (t:List Row) (a b:Int) (q:Nat->Rat),ds=[wL q t.length,wL (wA t a) t.length,ratQ (un (wA t a) q t.length)] /\ Mx n t a b q /\ Q (.bl true)
theorem iw:aV gWR:=fun ds P P' f ⟨n,t,a,b,q,e,o,h⟩=>⟨n,t,a,b,q,e,o,f _ h⟩
theorem ix (T:Tx K mg):FnOk P w K mg base CX0 3 T.cB T.cj ["_law_weights","_law_mine","_law_m"] (spD K 3 gWR):=by
 refine fnD (k:=2) T.bi.F sc__law_weights_right (fun cdv A outer s H E hr=>(ai (az (i:=3) sc__law_weights_right.nd rfl (by first | exact Or.inl rfl | exact Or.inr rfl) (bO (aa ae (aa ae af))))
   (ai (az (i:=4) sc__law_weights_right.nd rfl (by first | exact Or.inl rfl | exact Or.inr rfl) (bO (aa ae (aa ae af))))
   (ai (bE (PWD.pt (lS (gA (cO (aN tY rfl T.bA rfl (aa (ac 0 (pv 0)) (aa (pO (n:="list") rfl T.tN rfl) af))))) (ji (aH (nW hr) (aN jp rfl T.ki PySem.boot_len (aa (ac 0 (pv 0)) af)) (aN jp rfl T.ki PySem.boot_len (aa (ac 1 (pv 1)) af)) (aA _))))) (ah (aC nS)) aF)
   (aW (dQ PassesOwn.never rfl (qd rfl T.uA (aa (ac 0 (pv 0)) (aa (ac 1 (pv 1)) af))) (gw (n:=2) rfl (aJ (aB (i:=5) sc__law_weights_right.nd rfl (by first | exact Or.inl rfl | exact Or.inr rfl)) (aJ (aB (i:=6) sc__law_weights_right.nd rfl (by first | exact Or.inl rfl | exact Or.inr rfl)) dZ))) (ai (bE (PWD.pt (lS (gA (cO (ag (eU T) eT (hr.mono (by decide)) rfl T.aI.m T.aI.F.kp T.aI.b (aa (ac 5 (pv 5)) af)))) (ji (aH wW (ak (ac 5 (pv 5)) ae (fun _ _=>rfl)) ae (aA _))))) (ah (aC nS)) aF)
   (ai (az (i:=3) sc__law_weights_right.nd rfl (by first | exact Or.inl rfl | exact Or.inr rfl) (ag (fZ T) fY (hr.mono (by decide)) rfl T.aR.m T.aR.F.kp T.aR.b (aa (ac 3 (pv 3)) (aa (ac 5 (pv 5)) af))))
   (ai (az (i:=7) sc__law_weights_right.nd rfl (by first | exact Or.inl rfl | exact Or.inr rfl) (ag (bU T) bT (hr.mono (by decide)) rfl T.aq.m T.aq.F.kp T.aq.b (aa (ac 6 (pv 6)) (aa (ac 5 (pv 5)) af))))
   (ah (bE (aH jJ (ak (ac 7 (pv 7)) ae (fun _ _=>rfl)) ae (aA _)) (ah (az (i:=4) sc__law_weights_right.nd rfl (by first | exact Or.inl rfl | exact Or.inr rfl) (ag (fZ T) fY (hr.mono (by decide)) rfl T.aR.m T.aR.F.kp T.aR.b (aa (ac 4 (pv 4)) (aa (ac 7 (pv 7)) af))))) aF))))))
   (ah (aC (jk (eD (ej hr) (ac 3 (pv 3)) (bO (aa ae (aa ae af))) (aA _)) (kC (eD (ej hr) (ac 4 (pv 4)) (ac 2 (pv 2)) (aA _))))))))))) (fun ds Q hl h=>?_)
 obtain ⟨n,t,a,b,q,rfl,o,h⟩:=h
 refine ⟨sz,sz,rfl,rfl,Br.f ⟨⟨rfl,rfl⟩,zW (by simp only [List.length_map]) rfl ?_⟩⟩
 refine ⟨fun ρ=>∃ x5 x6 x7:Sl,ρ=[.val (wL q t.length),.val (wL (wA t a) t.length),.val (ratQ (un (wA t a) q t.length)),.val (ratQ (sumQ q t.length)),.val (ratQ (un (wA t a) q t.length)),x5,x6,x7],?_,?_⟩
 ·show fT _ _ (zipD ((List.range t.length).map fun i=>ratQ (q i)) ((List.range t.length).map fun i=>ratQ (wA t a i))) _ _
  rw [ir]
  refine eS _ (fun i ρ=>∃ x5 x6 x7:Sl,ρ=[.val (wL q t.length),.val (wL (wA t a) t.length),.val (ratQ (un (wA t a) q t.length)),.val (ratQ (sumQ q i)),.val (ratQ (un (wA t a) q i)),x5,x6,x7]) (fun ρ hN=>hN) (fun i ρ X hi hN hX=>?_) _ ⟨.nil,.nil,.nil,rfl⟩
  obtain ⟨x5,x6,x7,rfl⟩:=hN
  have qB:=o.k.B hi
  have wB:=o.wB hi
  have su:un (wA t a) q (i + 1)=un (wA t a) q i + if q i < wA t a i then wA t a i - q i else 0:=rfl
  have q0:¬ (q i).num < 0:=by
   have:=Rat.num_nonneg.mpr (o.k.nn i hi)
   omega
  refine ⟨rfl,rfl,q i,rfl,qB.mono (by decide),Br.f (Br.dn q0 ?_)⟩
  refine ⟨rfl,_,_,1400,1400,rfl,by decide,o.k.part (Nat.le_of_lt hi),qB,rfl,_,_,84,1400,rfl,by decide,wB,qB,?_⟩
  have np:0 < (wA t a i - q i).num↔q i < wA t a i:=by
   rw [num_pos']
   constructor <;> intro h <;> grind
  refine Br.di (fun y=>?_) (fun y=>?_)
  ·rw [np] at y
   refine ⟨rfl,_,_,1484,1485,rfl,by decide,(o.un01 (Nat.le_of_lt hi)).1,(wB.sub qB),hX _ ⟨.val (ratQ (q i)),.val (ratQ (wA t a i)),.val (ratQ (wA t a i - q i)),?_⟩⟩
   rw [su,if_pos y]
   rfl
  ·rw [np] at y
   refine hX _ ⟨.val (ratQ (q i)),.val (ratQ (wA t a i)),.val (ratQ (wA t a i - q i)),?_⟩
   rw [su,if_neg y,Rat.add_zero]
   rfl
 ·rintro _ ⟨x5,x6,x7,rfl⟩
  rw [o.k.one]
  refine ⟨sz,⟨bh 1,bh 1⟩,br_t (eE (bh 1)) ⟨⟨bh _,bh _⟩,?_⟩⟩
  show Q (.bl (eqD (ratQ (un (wA t a) q t.length)) (ratQ (un (wA t a) q t.length))))
  rw [eE (bh _)]
  exact h
def Yq (t:List Row) (a b:Int) (q:Rat) (j:Nat):Rat:=sumQ (fun i=>if sh t b.toNat i < q then wA t a i * (q - sh t b.toNat i) else 0) j
theorem Bar.YB {n:Nat} {t:List Row} {a b:Int} {q r':Rat} (k:Bar t a b q r') (o:T61 n t a b) {j:Nat} (hj:j <= t.length):QB 1365 (Yq t a b q j):=by
 obtain ⟨P,p0,bP,hp⟩:=o.sP
 obtain ⟨rs,c0,c1,u,e⟩:=k.adj
 obtain ⟨i0,hi0,_,eq⟩:=(u.2 q).mp (by rw [e]; simp)
 have qf:∃ z:Int,q=(z:Rat) / P:=by rw [← eq]; exact hp i0 hi0
 have q1:q <= 1:=by rw [← eq]; exact (o.s01 hi0).2
 have N0:=Int.mul_pos o.W.1 p0
 have nn:∀ i,i < t.length->0 <= if sh t b.toNat i < q then wA t a i * (q - sh t b.toNat i) else 0:=fun i hi=>by
  split
  ·exact Rat.mul_nonneg (o.wk.nn i hi) (by grind)
  ·exact Rat.le_refl
 obtain ⟨z,ez⟩:∃ z:Int,Yq t a b q j=(z:Rat) / ((WA t a * P:Int):Rat):=iC N0 fun i hi=>oI (tG o.W.1 p0 ⟨_,rfl⟩ (mC p0 qf (hp i (by omega))))
 have h1:Yq t a b q j <= sumQ (wA t a) j:=gM fun i hi=>by
  have w0:=o.wk.nn i (by omega)
  have s0:=(o.s01 (show i < t.length by omega)).1
  show (if sh t b.toNat i < q then wA t a i * (q - sh t b.toNat i) else 0) <= wA t a i
  split
  ·have:=Rat.mul_nonneg w0 (show 0 <= 1 - (q - sh t b.toNat i) by grind)
   grind
  ·exact w0
 have h2:=mH o.wk.nn hj
 rw [o.wk.one] at h2
 exact fr_B N0 (o.W.2.mul bP) ez (fW fun i hi=>nn i (by omega)) (by grind)
def gBR:DSp:=fun ds Q=>∃ (n:Nat) (t:List Row) (a b:Int) (q r':Rat),ds=[ratQ q,ratQ (m63 t a b q),ratQ (aw t b),ratQ (wQ t a - mixQ t a b),wL (wA t a) t.length,sL t b] /\ T61 n t a b /\ Bar t a b q r' /\ Q (.bl true)
theorem kU:aV gBR:=fun ds P P' f ⟨n,t,a,b,q,r,e,o,k,h⟩=>⟨n,t,a,b,q,r,e,o,k,f _ h⟩
theorem kW (T:Tx K mg):FnOk P w K mg base CX0 3 T.eC T.dL ["_law_bar","_law_m","_law_top_here","_law_missing","_law_mine","_law_shares"] (spD K 6 gBR):=by
 refine fnD (k:=2) T.bV.F sc__law_bar_right (fun cdv A outer s H E hr=>(ai (bE (PWD.pt (lS (gA (cO (ag (eU T) eT (hr.mono (by decide)) rfl T.aI.m T.aI.F.kp T.aI.b (aa (ac 0 (pv 0)) af)))) (ji (aH wX (ak (ag (bU T) bT (hr.mono (by decide)) rfl T.aq.m T.aq.F.kp T.aq.b (aa (ac 2 (pv 2)) (aa (ac 0 (pv 0)) af))) ae (fun _ _=>rfl)) ae (aA _))))) (ah (aC nS)) aF)
   (ai (az (i:=6) sc__law_bar_right.nd rfl (by first | exact Or.inl rfl | exact Or.inr rfl) (ag (gO T) gN (hr.mono (by decide)) rfl T.aY.m T.aY.F.kp T.aY.b (aa (ac 1 (pv 1)) (aa (ag (bU T) bT (hr.mono (by decide)) rfl T.aq.m T.aq.F.kp T.aq.b (aa (ac 2 (pv 2)) (aa (ac 0 (pv 0)) af))) af))))
   (aW (dQ PassesOwn.never rfl (qd rfl T.uA (aa (ac 4 (pv 4)) (aa (ac 5 (pv 5)) af))) (gw (n:=2) rfl (aJ (aB (i:=7) sc__law_bar_right.nd rfl (by first | exact Or.inl rfl | exact Or.inr rfl)) (aJ (aB (i:=8) sc__law_bar_right.nd rfl (by first | exact Or.inl rfl | exact Or.inr rfl)) dZ))) (ah (bE (PWD.pt (lR (aH lT (ac 8 (pv 8)) fm (aA _)) (iE (aH jJ (ak (ag (bU T) bT (hr.mono (by decide)) rfl T.aq.m T.aq.F.kp T.aq.b (aa (ac 0 (pv 0)) (aa (ac 8 (pv 8)) af))) ae (fun _ _=>rfl)) ae (aA _))))) (ah (az (i:=6) sc__law_bar_right.nd rfl (by first | exact Or.inl rfl | exact Or.inr rfl) (ag (fZ T) fY (hr.mono (by decide)) rfl T.aR.m T.aR.F.kp T.aR.b (aa (ac 6 (pv 6)) (aa (ag (gO T) gN (hr.mono (by decide)) rfl T.aY.m T.aY.F.kp T.aY.b (aa (ac 7 (pv 7)) (aa (ag (bU T) bT (hr.mono (by decide)) rfl T.aq.m T.aq.F.kp T.aq.b (aa (ac 0 (pv 0)) (aa (ac 8 (pv 8)) af))) af))) af))))) aF)))
   (ah (aC (eD (ej hr) (ac 6 (pv 6)) (ac 3 (pv 3)) (aA _)))))))) (fun ds Q hl h=>?_)
 obtain ⟨n,t,a,b,q,r',rfl,o,k,h⟩:=h
 have qB:=(k.rs o).bq
 have tB:=o.tB
 have lt:=k.lt o
 have mB:=k.mB o
 have gq:QB 161 (aw t b - q):=tB.sub qB
 have np:¬ (aw t b - q).num <= 0:=by
  have:0 < (aw t b - q).num:=num_pos'.mpr (by grind)
  omega
 have xB:QB 1611 (m63 t a b q * (aw t b - q)):=mB.mul gq
 refine ⟨rfl,q,rfl,qB.mono (by decide),Br.f ⟨rfl,_,_,80,80,rfl,by decide,tB,qB,Br.dn np ?_⟩⟩
 refine ⟨rfl,_,_,80,80,rfl,by decide,tB,qB,rfl,_,_,1450,161,rfl,by decide,mB,gq,?_⟩
 refine ⟨fun ρ=>∃ x7 x8:Sl,ρ=[.val (ratQ q),.val (ratQ (m63 t a b q)),.val (ratQ (aw t b)),.val (ratQ (wQ t a - mixQ t a b)),.val (wL (wA t a) t.length),.val (sL t b),.val (ratQ (m63 t a b q * (aw t b - q) + Yq t a b q t.length)),x7,x8],?_,?_⟩
 ·show fT _ _ (zipD ((List.range t.length).map fun i=>ratQ (wA t a i)) ((List.range t.length).map (shE t b))) _ _
  rw [ir]
  refine eS _ (fun i ρ=>∃ x7 x8:Sl,ρ=[.val (ratQ q),.val (ratQ (m63 t a b q)),.val (ratQ (aw t b)),.val (ratQ (wQ t a - mixQ t a b)),.val (wL (wA t a) t.length),.val (sL t b),.val (ratQ (m63 t a b q * (aw t b - q) + Yq t a b q i)),x7,x8]) (fun ρ hN=>hN) (fun i ρ X hi hN hX=>?_) _ ⟨.nil,.nil,by rw [show Yq t a b q 0=0 from rfl,Rat.add_zero]; rfl⟩
  obtain ⟨x7,x8,rfl⟩:=hN
  have wB:=o.wB hi
  have sB:=o.sB hi
  have yB:=k.YB o (Nat.le_of_lt hi)
  have su:Yq t a b q (i + 1)=Yq t a b q i + if sh t b.toNat i < q then wA t a i * (q - sh t b.toNat i) else 0:=rfl
  by_cases z:(My.cl t b.toNat i).1=0
  ·have e0:shE t b i = .non:=by unfold shE; rw [if_pos z]
   rw [e0]
   have w0:=o.w0 hi z
   refine ⟨rfl,Br.f (Br.f (hX _ ⟨.val (ratQ (wA t a i)),.val .non,?_⟩))⟩
   rw [su,w0]
   have:(if sh t b.toNat i < q then 0 * (q - sh t b.toNat i) else 0)=0:=by split <;> grind
   rw [this,Rat.add_zero]
   rfl
  ·have e0:shE t b i=ratQ (sh t b.toNat i):=by unfold shE; rw [if_neg z]
   rw [e0]
   have np:0 < (q - sh t b.toNat i).num↔sh t b.toNat i < q:=by
    rw [num_pos']
    constructor <;> intro h <;> grind
   refine ⟨rfl,Br.t ⟨rfl,_,_,80,80,rfl,by decide,qB,sB,Br.di (fun y=>?_) (fun y=>?_)⟩⟩
   ·rw [np] at y
    refine ⟨rfl,_,_,80,80,rfl,by decide,qB,sB,rfl,_,_,84,161,rfl,by decide,wB,qB.sub sB,rfl,_,_,2977,245,rfl,by decide,xB.add yB,wB.mul (qB.sub sB),hX _ ⟨.val (ratQ (wA t a i)),.val (ratQ (sh t b.toNat i)),?_⟩⟩
    rw [su,if_pos y,Rat.add_assoc]
    rfl
   ·rw [np] at y
    refine hX _ ⟨.val (ratQ (wA t a i)),.val (ratQ (sh t b.toNat i)),?_⟩
    rw [su,if_neg y,Rat.add_zero]
    rfl
 ·rintro _ ⟨x7,x8,rfl⟩
  have e:m63 t a b q * (aw t b - q) + Yq t a b q t.length=wQ t a - mixQ t a b:=by
   have h1:=Cl (t:=t) (a:=a) (b:=b) q (m63 t a b q)
   have h2:Lq t a b q (m63 t a b q)=wQ t a:=by
    have:=k.rest o
    unfold Lq m63
    grind
   unfold Yq
   grind
  rw [e]
  refine ⟨⟨bh _,bh _⟩,?_⟩
  show Q (.bl (eqD (ratQ (wQ t a - mixQ t a b)) (ratQ (wQ t a - mixQ t a b))))
  rw [eE (bh _)]
  exact h
theorem uy {m:Nat} {t:List Row} (ho:∀ r∈t,rP m r) (hl:t.length <= 1000) {h:Int} (h0:0 <= h) (h1:h < m) {s:Sl} {Q:List D->Prop} (q:Q (((col t h.toNat).map (·.1)).map D.int)) :
  fB (iA 0) da (dOp gIx (dOp gIx (dVar 0) (dVar 1)) (dC (.int 0))) (t.map rowD) [] [s,.val (.int h)] Q:=by
 refine cC (fun pre acc ρ=>∃ t0 t1:List Row,t=t0++t1 /\ pre=t0.map rowD /\ acc=((col t0 h.toNat).map (·.1)).map D.int /\ ∃ s,ρ=[s,.val (.int h)]) (fun acc ρ hN=>?_) (fun pre d post acc ρ Y e hN hY=>?_) _ ⟨[],t,rfl,rfl,rfl,_,rfl⟩
 ·obtain ⟨t0,t1,rfl,e,rfl,_⟩:=hN
  have:t1=[]:=by
   have:=congrArg List.length e
   simp at this
   exact this
  subst this
  simpa using q
 ·obtain ⟨t0,t1,rfl,rfl,rfl,s,rfl⟩:=hN
  rw [List.map_append] at e
  have e:=List.append_cancel_left e
  cases t1 with
  | nil=>simp at e
  | cons r t1 =>
   rw [List.map_cons] at e
   injection e with e1 e2
   subst e1
   have o:=ho r (by simp)
   refine Br.t (cf o h0 h1 ⟨?_,hY _ _ ⟨t0++[r],t1,by simp,by simp,by simp [col],_,rfl⟩⟩)
   rw [List.length_map,List.length_map]
   unfold col
   rw [List.length_map]
   have:t0.length <= 1000:=by rw [List.length_append] at hl; omega
   exact Nat.lt_of_le_of_lt this (by decide)
theorem uz {m:Nat} {t:List Row} (ho:∀ r∈t,rP m r) (hl:t.length <= 1000) {h:Int} (h0:0 <= h) (h1:h < m) {s:Sl} {Q:List D->Prop} (q:Q (((col t h.toNat).map (·.2)).map D.int)) :
  fB (iA 0) da (dOp gIx (dOp gIx (dVar 0) (dVar 1)) (dC (.int 1))) (t.map rowD) [] [s,.val (.int h)] Q:=by
 refine cC (fun pre acc ρ=>∃ t0 t1:List Row,t=t0++t1 /\ pre=t0.map rowD /\ acc=((col t0 h.toNat).map (·.2)).map D.int /\ ∃ s,ρ=[s,.val (.int h)]) (fun acc ρ hN=>?_) (fun pre d post acc ρ Y e hN hY=>?_) _ ⟨[],t,rfl,rfl,rfl,_,rfl⟩
 ·obtain ⟨t0,t1,rfl,e,rfl,_⟩:=hN
  have:t1=[]:=by
   have:=congrArg List.length e
   simp at this
   exact this
  subst this
  simpa using q
 ·obtain ⟨t0,t1,rfl,rfl,rfl,s,rfl⟩:=hN
  rw [List.map_append] at e
  have e:=List.append_cancel_left e
  cases t1 with
  | nil=>simp at e
  | cons r t1 =>
   rw [List.map_cons] at e
   injection e with e1 e2
   subst e1
   have o:=ho r (by simp)
   refine Br.t (cf o h0 h1 ⟨?_,hY _ _ ⟨t0++[r],t1,by simp,by simp,by simp [col],_,rfl⟩⟩)
   rw [List.length_map,List.length_map]
   unfold col
   rw [List.length_map]
   have:t0.length <= 1000:=by rw [List.length_append] at hl; omega
   exact Nat.lt_of_le_of_lt this (by decide)
inductive Tl (t:List Row) (a b:Int):D->Prop
 | never:aw t b < wQ t a->Tl t a b (.tup [.str "never",.int ((bC (colO t b)).2:Int)])
 | zero:¬ aw t b < wQ t a->¬ mixQ t a b < wQ t a->Tl t a b (.tup [.str "can",ratQ 0,wL (wA t a) t.length,.non])
 | bar {q r':Rat}:Bar t a b q r'->Tl t a b (.tup [.str "can",ratQ (m63 t a b q),wL (tw t a b q) t.length,ratQ q])
theorem nF:shp (.str (PySem.Str.ofString "can"))=true:=by decide +kernel
theorem Ae (w:Nat->Rat) (n:Nat):un w w n=0:=by
 unfold un
 induction n with
 | zero=>rfl
 | succ n ih =>
  simp only [sumQ]
  rw [ih]
  grind
theorem qJ {g:DG} {te:DE} {t:List Row} {Q:List D->Prop} (G:Nat->D) (N:DS->Prop) (hl:t.length <= sizeLine)
  (hs:∀ i,i < t.length->∀ (ρ:DS) (Y:D->DS->Prop) (Z:DS->Prop),N ρ->(∀ ρ',N (cY ρ')->Y (G i) ρ')->g (rowD (t.getD i [])) ρ fun ρ1=>da ρ1 fun b ρ2=>Br b (te ρ2 Y) (Z ρ2)) (ρ:DS) (h:N ρ) (hq:Q ((List.range t.length).map G)):fB g da te (t.map rowD) [] ρ Q:=by
 rw [tD (d:=[]) rowD]
 exact qD _ G N hl hs ρ h hq
theorem wm (q:Nat->Rat) (n:Nat):shp (wL q n)=true:=Shp.shp (n:=2) (.lst fun d hd=>by
 obtain ⟨i,_,rfl⟩:=List.mem_map.mp hd
 exact .pair)
theorem wo (k:Int):shp (.tup [.str (PySem.Str.ofString "never"),.int k])=true:=Shp.shp (n:=1) (.tup fun d hd=>by
 simp only [List.mem_cons,List.not_mem_nil,or_false] at hd
 rcases hd with rfl | rfl
 ·exact ⟨rfl,by decide +kernel,Nat.zero_le _⟩
 ·exact .int)
def gRt:DSp:=fun ds Q=>∃ (n:Nat) (t:List Row) (a b:Int),ds=[.lst (t.map rowD),.int a,.int b] /\ T61 n t a b /\ Q (.bl true)
theorem kI:aV gRt:=fun ds P P' f ⟨n,t,a,b,e,o,h⟩=>⟨n,t,a,b,e,o,f _ h⟩
theorem kJ (T:Tx K mg) (B:Bm mg base):FnOk P w K mg base CX0 13 T.gY T.gu ["_law_table_here","_law_a","_law_b"] (spD K 3 gRt):=by
 refine fnD (k:=12) T.bQ.F sc__law_right (fun cdv A outer s H E hr=>(ai (az (i:=3) sc__law_right.nd rfl (by first | exact Or.inl rfl | exact Or.inr rfl) (aN sQ rfl T.wz PyProof.Rows.boot_sum (aa (dP (PCD.pld (cJ (N':=["_law_part_here","_law_a"]) rfl rfl (by decide +kernel) rfl (.own (.cap (j:=1) rfl (by first | exact Or.inl rfl | exact Or.inr rfl) rfl .nil)) (by decide +kernel) (cI (ac 0 (pv 0))) (fun B=>(aB (i:=0) (show List.Nodup (α:=PySem.Str) ["_law_part_here","_law_a"] by decide +kernel) rfl (by first | exact Or.inl rfl | exact Or.inr rfl))) (fun B=>eu) (fun B=>(ak (ak (ac 0 (pv 0)) (ac 1 (pv 1)) (fun _ _=>rfl)) ae (fun _ _=>rfl)))))) af)))
   (ai (oa (i:=4) sc__law_right.nd rfl rfl (cJ (N':=["_law_part_here","_law_a","_law_total"]) rfl rfl (by decide +kernel) rfl (.own (.cap (j:=1) rfl (by first | exact Or.inl rfl | exact Or.inr rfl) rfl (.cap (j:=3) rfl (by first | exact Or.inl rfl | exact Or.inr rfl) rfl .nil))) (by decide +kernel) (cI (ac 0 (pv 0))) (fun B=>(aB (i:=0) (show List.Nodup (α:=PySem.Str) ["_law_part_here","_law_a","_law_total"] by decide +kernel) rfl (by first | exact Or.inl rfl | exact Or.inr rfl))) (fun B=>eu) (fun B=>(ag (dJ T) dI (hr.mono (by decide)) rfl T.aD.m T.aD.F.kp T.aD.b (aa (ak (ak (ac 0 (pv 0)) (ac 1 (pv 1)) (fun _ _=>rfl)) ae (fun _ _=>rfl)) (aa (ac 2 (pv 2)) af))))))
   (ai (oa (i:=5) sc__law_right.nd rfl rfl (cJ (N':=["_law_part_here","_law_b"]) rfl rfl (by decide +kernel) rfl (.own (.cap (j:=2) rfl (by first | exact Or.inl rfl | exact Or.inr rfl) rfl .nil)) (by decide +kernel) (cI (ac 0 (pv 0))) (fun B=>(aB (i:=0) (show List.Nodup (α:=PySem.Str) ["_law_part_here","_law_b"] by decide +kernel) rfl (by first | exact Or.inl rfl | exact Or.inr rfl))) (fun B=>eu) (fun B=>(sD (aH (ej hr) (ak (ak (ac 0 (pv 0)) (ac 1 (pv 1)) (fun _ _=>rfl)) ae (fun _ _=>rfl)) ae (aA _)) fm (ag (dJ T) dI (hr.mono (by decide)) rfl T.aD.m T.aD.F.kp T.aD.b (aa (ak (ak (ac 0 (pv 0)) (ac 1 (pv 1)) (fun _ _=>rfl)) ae (fun _ _=>rfl)) (aa (ak (ak (ac 0 (pv 0)) (ac 1 (pv 1)) (fun _ _=>rfl)) ae (fun _ _=>rfl)) af)))))))
   (ai (az (i:=6) sc__law_right.nd rfl (by first | exact Or.inl rfl | exact Or.inr rfl) (ag (dJ T) dI (hr.mono (by decide)) rfl T.aD.m T.aD.F.kp T.aD.b (aa (aN sQ rfl T.wz PyProof.Rows.boot_sum (aa (dP (PCD.pld (cJ (N':=["_law_part_here","_law_a"]) rfl rfl (by decide +kernel) rfl (.own (.cap (j:=1) rfl (by first | exact Or.inl rfl | exact Or.inr rfl) rfl .nil)) (by decide +kernel) (cI (ac 0 (pv 0))) (fun B=>(aB (i:=0) (show List.Nodup (α:=PySem.Str) ["_law_part_here","_law_a"] by decide +kernel) rfl (by first | exact Or.inl rfl | exact Or.inr rfl))) (fun B=>eu) (fun B=>(ak (ak (ac 0 (pv 0)) (ac 1 (pv 1)) (fun _ _=>rfl)) ae (fun _ _=>rfl)))))) af)) (aa (ac 3 (pv 3)) af))))
   (ai (rG (ag (ux T) uw (hr.mono (by decide)) rfl T.fR.m T.fR.F.kp T.fR.b (aa (ac 5 (pv 5)) af)) (gw (n:=2) rfl (aJ (aB (i:=7) sc__law_right.nd rfl (by first | exact Or.inl rfl | exact Or.inr rfl)) (aJ (aB (i:=8) sc__law_right.nd rfl (by first | exact Or.inl rfl | exact Or.inr rfl)) dZ))))
   (aW (az (i:=9) sc__law_right.nd rfl (by first | exact Or.inl rfl | exact Or.inr rfl) (ag (Ad T B) wd (hr.mono (by decide)) rfl T.mK.m T.mK.F.kp T.mK.b (aa (ac 0 (pv 0)) (aa (ac 1 (pv 1)) (aa (ac 2 (pv 2)) af)))))
   (ai (bE (aH jJ (ak (ag (bU T) bT (hr.mono (by decide)) rfl T.aq.m T.aq.F.kp T.aq.b (aa (ac 6 (pv 6)) (aa (ac 7 (pv 7)) af))) ae (fun _ _=>rfl)) ae (aA _)) (ah (aC (jk (eD (ej hr) (ac 9 (pv 9)) (bO (aa pN (aa (ac 8 (pv 8)) af))) (aA _)) (kC (aN iF rfl T.bA rfl (aa (ac 9 (pv 9)) (aa (pO (n:="tuple") rfl T.kl rfl) af))))))) aF)
   (ai (bE (PWD.pt (lS (gA (cO (aN iF rfl T.bA rfl (aa (ac 9 (pv 9)) (aa (pO (n:="tuple") rfl T.kl rfl) af))))) (lS (aH (nW hr) (aN jp rfl T.ki PySem.boot_len (aa (ac 9 (pv 9)) af)) ae (aA _)) (lS (aH (nW hr) (ak (ac 9 (pv 9)) ae (fun _ _=>rfl)) pN (aA _)) (ji (gA (cO (ag (eU T) eT (hr.mono (by decide)) rfl T.aI.m T.aI.F.kp T.aI.b (aa (ak (ac 9 (pv 9)) ae (fun _ _=>rfl)) af))))))))) (ah (aC nS)) aF)
   (ai (rG (ac 9 (pv 9)) (gw (n:=4) rfl (aJ (aB (i:=10) sc__law_right.nd rfl (by first | exact Or.inl rfl | exact Or.inr rfl)) (aJ (aB (i:=11) sc__law_right.nd rfl (by first | exact Or.inl rfl | exact Or.inr rfl)) (aJ (aB (i:=12) sc__law_right.nd rfl (by first | exact Or.inl rfl | exact Or.inr rfl)) (aJ (aB (i:=13) sc__law_right.nd rfl (by first | exact Or.inl rfl | exact Or.inr rfl)) dZ))))))
   (aW (az (i:=14) sc__law_right.nd rfl (by first | exact Or.inl rfl | exact Or.inr rfl) (ag (bU T) bT (hr.mono (by decide)) rfl T.aq.m T.aq.F.kp T.aq.b (aa (ac 6 (pv 6)) (aa (ag (kH T) kG (hr.mono (by decide)) rfl T.bR.m T.bR.F.kp T.bR.b (aa (ac 4 (pv 4)) (aa (ac 5 (pv 5)) af))) af))))
   (ai (bE (gA (cO (ag (ix T) iw (hr.mono (by decide)) rfl T.bi.m T.bi.F.kp T.bi.b (aa (ac 12 (pv 12)) (aa (ac 4 (pv 4)) (aa (ac 11 (pv 11)) af)))))) (ah (aC nS)) aF)
   (ai (az (i:=15) sc__law_right.nd rfl (by first | exact Or.inl rfl | exact Or.inr rfl) (ag (kH T) kG (hr.mono (by decide)) rfl T.bR.m T.bR.F.kp T.bR.b (aa (ac 12 (pv 12)) (aa (ac 5 (pv 5)) af))))
   (ai (bE (PWD.pt (lS (aH sH (ac 15 (pv 15)) fm (aA _)) (ji (aH jJ (ak (ag (bU T) bT (hr.mono (by decide)) rfl T.aq.m T.aq.F.kp T.aq.b (aa (ac 6 (pv 6)) (aa (ac 15 (pv 15)) af))) ae (fun _ _=>rfl)) ae (aA _))))) (ah (aC nS)) aF)
   (ai (bE (aH wX (ak (ac 14 (pv 14)) ae (fun _ _=>rfl)) ae (aA _)) (ah (aC (jk (eD (ej hr) (ac 11 (pv 11)) (bO (aa ae (aa ae af))) (aA _)) (jk (eD (ej hr) (ac 12 (pv 12)) (ac 4 (pv 4)) (aA _)) (kC (eD sH (ac 13 (pv 13)) fm (aA _))))))) aF)
   (ah (aC (jk (eD jJ (ak (ac 11 (pv 11)) ae (fun _ _=>rfl)) ae (aA _)) (kC (ag (kW T) kU (hr.mono (by decide)) rfl T.bV.m T.bV.F.kp T.bV.b (aa (ac 13 (pv 13)) (aa (ac 11 (pv 11)) (aa (ac 7 (pv 7)) (aa (ac 14 (pv 14)) (aa (ac 4 (pv 4)) (aa (ac 5 (pv 5)) af)))))))))))))))))))))))))) (fun ds Q hl h=>?_)
 obtain ⟨n,t,a,b,rfl,o,h⟩:=h
 have l16:=o.l16
 have W:=o.W
 have wc:=gI o.o (h:=a.toNat) o.na
 have er:t.map rowD=(List.range t.length).map fun i=>rowD (t.getD i []):=tD (d:=[]) rowD
 have at0:∀ i,i < t.length->∃ r,t.getD i []=r /\ RowN 80 n r /\ at_ r a.toNat=My.cl t a.toNat i /\ at_ r b.toNat=My.cl t b.toNat i:=fun i hi=>by
  obtain ⟨r,e1,e2,e3,_⟩:=o.cl o.na hi
  obtain ⟨r',e1',_,e3',_⟩:=o.cl o.nb hi
  have:r'=r:=by rw [e1] at e1'; cases e1'; rfl
  subst this
  exact ⟨r',by rw [List.getD_eq_getElem?_getD,e1]; rfl,o.r80 r' e2,e3,e3'⟩
 refine uy o.o.rows (by omega) o.a0 o.a1 (lZ ?_)
 have co1:∀ {Q:List D->Prop},Q ((List.range t.length).map fun i=>ratQ (wA t a i))->∀ s,fB (iA 0) da (zb 2 gLow (sF (dOp gIx (dOp gIx (dVar 0) (dVar 1)) (dC (.int 0))) (sF (dVar 2) za))) (t.map rowD) [] [s,.val (.int a),.val (.int (WA t a))] Q:=fun {Q} q s=>by
  rw [er]
  refine qD _ (fun i=>ratQ (wA t a i)) (fun ρ=>∃ s:Sl,ρ=[s,.val (.int a),.val (.int (WA t a))]) (Nat.le_trans l16 (by decide)) (fun i hi ρ Y Z hN hY=>?_) _ ⟨_,rfl⟩ q
  obtain ⟨s,rfl⟩:=hN
  obtain ⟨r,e0,rk,ea,eb⟩:=at0 i hi
  obtain ⟨_,_,_,_,c⟩:=o.cl o.na hi
  rw [e0]
  refine Br.t (cf rk o.a0 o.a1 ?_)
  rw [ea]
  exact ⟨rfl,jV (n:=84) (by decide) W.1 (c.bt.mono (by decide)) W.2 (hY _ ⟨_,rfl⟩)⟩
 refine co1 ?_ _
 refine qJ (shE t b) (fun ρ=>∃ s:Sl,ρ=[s,.val (.int b)]) (Nat.le_trans l16 (by decide)) (fun i hi ρ Y Z hN hY=>?_) _ ⟨_,rfl⟩ ?_
 ·obtain ⟨s,rfl⟩:=hN
  obtain ⟨r,e0,rk,ea,eb⟩:=at0 i hi
  obtain ⟨_,_,_,_,c⟩:=o.cl o.nb hi
  rw [e0]
  refine Br.t (cf rk o.b0 o.b1 ?_)
  rw [eb]
  refine ⟨⟨rfl,rfl⟩,fun z=>?_,fun z=>?_⟩
  ·have z:(My.cl t b.toNat i).1=0:=by simpa [bG] using z
   have e:shE t b i = .non:=by unfold shE; rw [if_pos z]
   rw [e] at hY
   exact hY _ ⟨_,rfl⟩
  ·have z:¬ (My.cl t b.toNat i).1=0:=by simpa [bG] using z
   have e:shE t b i=ratQ (((My.cl t b.toNat i).2:Rat) / ((My.cl t b.toNat i).1:Rat)):=by unfold shE sh; rw [if_neg z,if_neg z]
   rw [e] at hY
   refine cf rk o.b0 o.b1 (cf rk o.b0 o.b1 ?_)
   rw [eb]
   exact ⟨rfl,jV (n:=80) (by decide) (by have:=c.lo; have:=c.hi; omega) c.bw c.bt (hY _ ⟨_,rfl⟩)⟩
 refine uz o.o.rows (by omega) o.a0 o.a1 (lZ ⟨rfl,jV (n:=300) (by decide) W.1 wc.2.2.2 (W.2.mono (by decide)) ?_⟩)
 have ew:((sumP (col t a.toNat)).2:Rat) / (WA t a:Rat)=wQ t a:=rfl
 rw [ew]
 have dB:=o.dB
 have tB:=o.tB
 have np:0 < (wQ t a - aw t b).num↔aw t b < wQ t a:=by
  rw [num_pos']
  constructor <;> intro h <;> grind
 obtain ⟨W1,eW⟩:∃ W1:D,W1 = .int (WA t a):=⟨_,rfl⟩
 refine ⟨rfl,n,t,a,b,rfl,o,rfl,fun ρ=>∃ d,Tl t a b d /\ ρ=[.val (.lst (t.map rowD)),.val (.int a),.val (.int b),.val W1,.val (wL (wA t a) t.length),.val (sL t b),.val (ratQ (wQ t a)),.val (ratQ (aw t b)),.val (.int ((bC (colO t b)).2:Int)),.val d,.nil,.nil,.nil,.nil,.nil,.nil],⟨rfl,wd _ (Tl t a b) _ (fun d tl=>⟨d,tl,by rw [eW]; rfl⟩) ⟨n,t,a,b,rfl,o,.never,.zero,fun q r' k=>.bar k⟩⟩,?_⟩
 rintro _ ⟨d,tl,rfl⟩
 refine ⟨rfl,_,_,84,80,rfl,by decide,dB,tB,?_⟩
 have mB:=o.mB
 cases tl with
 | never z =>
  refine Br.dt (np.mpr z) ⟨sz,⟨wo _,wo _⟩,br_t (eE (wo _)) ⟨rfl,rfl,?_⟩⟩
  exact h
 | zero z y =>
  have mx:=o.mx
  have un0:un (wA t a) (wA t a) t.length=0:=Ae _ _
  have em:mixW t b (wA t a)=mixQ t a b:=rfl
  have nq:¬ 0 < (wQ t a - mixQ t a b).num:=fun x=>y (by
   have:=num_pos'.mp x
   grind)
  refine Br.dn (fun x=>z (np.mp x)) ⟨rfl,rfl,Br.f ⟨⟨rfl,rfl⟩,Br.f ⟨⟨nF,nF⟩,zW rfl nF ⟨rfl,0,rfl,q0B (n:=2999),Br.f ?_⟩⟩⟩⟩
  refine ⟨rfl,fun ρ=>ρ=[.val (.lst (t.map rowD)),.val (.int a),.val (.int b),.val W1,.val (wL (wA t a) t.length),.val (sL t b),.val (ratQ (wQ t a)),.val (ratQ (aw t b)),.val (.int ((bC (colO t b)).2:Int)),.val (.tup [.str "can",ratQ 0,wL (wA t a) t.length,.non]),.val (.str "can"),.val (ratQ 0),.val (wL (wA t a) t.length),.val .non,.val (ratQ (wQ t a - mixQ t a b)),.nil],⟨rfl,n,t,a,b,wA t a,rfl,mx,rfl,_,_,84,1400,rfl,by decide,dB,mB,rfl⟩,?_⟩
  rintro _ rfl
  refine ⟨rfl,n,t,a,b,wA t a,by rw [un0],mx,Br.f ⟨rfl,n,t,a,b,wA t a,rfl,mx,Br.f ?_⟩⟩
  rw [em]
  refine ⟨rfl,_,_,84,1400,rfl,by decide,dB,mB,Br.dn nq ?_⟩
  refine Br.dt (show (wQ t a - mixQ t a b).num <= 0 by omega) ⟨sz,⟨bh 0,bh 0⟩,br_t (eE (bh 0)) ⟨⟨wm _ _,wm _ _⟩,br_t (eE (wm _ _)) ?_⟩⟩
  exact h
 | bar k =>
  rename_i q r'
  have mx:=k.wk o
  have m3:=k.mB o
  have lt:=k.lt o
  have z:¬ aw t b < wQ t a:=by
   have h1:=k.hi
   have h2:=(o.S01 lt.2).2
   grind
  have em:=k.mix o
  have nq:¬ (wQ t a - mixQ t a b).num <= 0:=fun x=>by
   have h1:=(o.S01 (q:=q) (by grind)).1
   have h2:=k.lo
   have:0 < (wQ t a - mixQ t a b).num:=num_pos'.mpr (by grind)
   omega
  have n0:¬ 0 < (wQ t a - wQ t a).num:=fun x=>by
   have:=num_pos'.mp x
   grind
  have mp:0 < (m63 t a b q).num:=num_pos'.mpr (k.m01 o).1
  refine Br.dn (fun x=>z (np.mp x)) ⟨rfl,rfl,Br.f ⟨⟨rfl,rfl⟩,Br.f ⟨⟨nF,nF⟩,zW rfl nF ⟨rfl,_,rfl,m3.mono (by decide),Br.f ?_⟩⟩⟩⟩
  refine ⟨rfl,fun ρ=>ρ=[.val (.lst (t.map rowD)),.val (.int a),.val (.int b),.val W1,.val (wL (wA t a) t.length),.val (sL t b),.val (ratQ (wQ t a)),.val (ratQ (aw t b)),.val (.int ((bC (colO t b)).2:Int)),.val (.tup [.str "can",ratQ (m63 t a b q),wL (tw t a b q) t.length,ratQ q]),.val (.str "can"),.val (ratQ (m63 t a b q)),.val (wL (tw t a b q) t.length),.val (ratQ q),.val (ratQ (wQ t a - mixQ t a b)),.nil],⟨rfl,n,t,a,b,wA t a,rfl,o.mx,rfl,_,_,84,1400,rfl,by decide,dB,mB,rfl⟩,?_⟩
  rintro _ rfl
  refine ⟨rfl,n,t,a,b,tw t a b q,by rw [k.un o],mx,Br.f ⟨rfl,n,t,a,b,tw t a b q,rfl,mx,Br.f ?_⟩⟩
  rw [em]
  refine ⟨rfl,_,_,84,84,rfl,by decide,dB,dB,Br.dn n0 ?_⟩
  exact Br.dn nq (Br.dt mp ⟨rfl,n,t,a,b,q,r',rfl,o,k,h⟩)
def RowL (k m:Nat) (r:Row):Prop:=RowN k m r /\ ((∀ c∈r,c.1≠0)∨(at_ r 0).1=0 /\ (at_ r 1).1=0)
def TblL (k m:Nat) (t:List Row):Prop:=(1 <= t.length /\ t.length <= 16) /\ (∀ r∈t,RowL k m r) /\ ∃ r∈t,∀ c∈r,c.1≠0
def gPt:DSp:=fun ds Q=>∃ (m:Int) (far up:Bool),ds=[.pen,.int m,.bl far,.bl up] /\ (2 <= m /\ m <= 4) /\ ∀ r:Row,RowN 40 m.toNat r->(∀ c∈r,c.1≠0)->Q (rowD r)
theorem mI:aV gPt:=fun ds P P' f ⟨m,x,y,a,b,h⟩=>⟨m,x,y,a,b,fun r u v=>f _ (h r u v)⟩
theorem mJ (T:Tx K mg):FnOk P w K mg base CX0 3 T.iZ T.hU ["_law_pen_here","_law_many","_law_far","_law_raised"] (spD K 4 gPt):=by
 refine fnD (k:=2) T.ck.F sc__law_part (fun cdv A outer s H E hr=>(ai (pP (i:=4) sc__law_part.nd rfl (by first | exact Or.inl rfl | exact Or.inr rfl) (kD af))
   (aW (dQ PassesOwn.never rfl (jm rfl T.mN (aa (ac 1 (pv 1)) af)) (aB (i:=5) sc__law_part.nd rfl (by first | exact Or.inl rfl | exact Or.inr rfl)) (ai (az (i:=6) sc__law_part.nd rfl (by first | exact Or.inl rfl | exact Or.inr rfl) (aL gx ae (ag (aO T) aP (hr.mono (by decide)) rfl T.aj.m T.aj.F.kp T.aj.b (aa (ac 0 (pv 0)) (aa ae af)))))
   (aW (bE (cO (ac 2 (pv 2))) (ah (az (i:=6) sc__law_part.nd rfl (by first | exact Or.inl rfl | exact Or.inr rfl) (aL gx ae (aL bF (ag (aO T) aP (hr.mono (by decide)) rfl T.aj.m T.aj.F.kp T.aj.b (aa (ac 0 (pv 0)) (aa (aL xX ae ae) af))) (aL xX ae ae))))) aF)
   (ai (az (i:=7) sc__law_part.nd rfl (by first | exact Or.inl rfl | exact Or.inr rfl) (ag (aO T) aP (hr.mono (by decide)) rfl T.aj.m T.aj.F.kp T.aj.b (aa (ac 0 (pv 0)) (aa (aL gx (ac 6 (pv 6)) ae) af))))
   (aW (bE (cO (ac 3 (pv 3))) (ah (az (i:=7) sc__law_part.nd rfl (by first | exact Or.inl rfl | exact Or.inr rfl) (ak (dP (kD (aa (aL gx (aL gG (ac 6 (pv 6)) ae) (ag (aO T) aP (hr.mono (by decide)) rfl T.aj.m T.aj.F.kp T.aj.b (aa (ac 0 (pv 0)) (aa (aL gx (aL gG (ac 6 (pv 6)) ae) ae) af)))) (aa (ag (aO T) aP (hr.mono (by decide)) rfl T.aj.m T.aj.F.kp T.aj.b (aa (ac 0 (pv 0)) (aa (aL gx (aL gG (ac 6 (pv 6)) ae) ae) af))) af)))) (jl BA rfl T.xP rfl (aa (eD jJ (ac 5 (pv 5)) ae (aA _)) af)) (fun _ _=>rfl)))) aF)
   (ah (pV (pv 4) (bO (aa (ac 6 (pv 6)) (aa (ac 7 (pv 7)) af))))))))))
   (ah (aC (jl sI rfl T.kl rfl (aa (ac 4 (pv 4)) af))))))) (fun ds Q hl h=>?_)
 obtain ⟨m,far,up,rfl,⟨m2,m4⟩,h⟩:=h
 refine ⟨sz,fun ρ=>∃ r:Row,RowN 40 m.toNat r /\ (∀ c∈r,c.1≠0) /\ ∃ x5 x6 x7:Sl,ρ=[.val .pen,.val (.int m),.val (.bl far),.val (.bl up),.own (r.map bx),x5,x6,x7],?_,?_⟩
 ·refine ⟨⟨by omega,by omega⟩,?_⟩
  refine og (fun i ρ=>∃ r:Row,(r.length:Int)=i /\ (∀ c∈r,Cnt 40 c.1 c.2) /\ (∀ c∈r,c.1≠0) /\ ∃ x5 x6 x7:Sl,ρ=[.val .pen,.val (.int m),.val (.bl far),.val (.bl up),.own (r.map bx),x5,x6,x7]) _ _ ?_ ?_ _ ⟨[],rfl,fun c hc=>by simp at hc,fun c hc=>by simp at hc,_,_,_,rfl⟩
  ·rintro ρ ⟨r,r1,r2,r3,x5,x6,x7,rfl⟩
   exact ⟨r,⟨by omega,r2⟩,r3,x5,x6,x7,rfl⟩
  ·rintro i ρ X' i0 i1 ⟨r,r1,r2,r3,x5,x6,x7,rfl⟩ hX'
   refine ⟨rfl,⟨by decide,by decide⟩,fun tr t0 t1=>?_⟩
   refine ⟨fun ρ=>∃ tr:Int,2 <= tr /\ tr <= 1000000000002 /\ ρ=[.val .pen,.val (.int m),.val (.bl far),.val (.bl up),.own (r.map bx),.val (.int i),.val (.int tr),x7],?_,?_⟩
   ·cases far
    ·exact Br.f ⟨2 + tr,by omega,by omega,rfl⟩
    ·refine Br.t ⟨cpow,rfl,⟨by decide,by decide⟩,fun p p0 p1=>⟨cpow,?_,⟨_,?_,?_,rfl⟩⟩⟩
     all_goals simp only [Int.reduceToNat,Int.reducePow] at *
     ·exact .inl ⟨by omega,by omega⟩
     ·omega
     ·omega
   rintro _ ⟨tr,t0,t1,rfl⟩
   refine ⟨rfl,⟨by omega,by omega⟩,fun wl w0 w1=>?_⟩
   refine ⟨fun ρ=>∃ wl:Int,0 <= wl /\ wl <= tr /\ ρ=[.val .pen,.val (.int m),.val (.bl far),.val (.bl up),.own (r.map bx),.val (.int i),.val (.int tr),.val (.int wl)],?_,?_⟩
   ·cases up
    ·exact Br.f ⟨wl,w0,by omega,rfl⟩
    ·refine Br.t ⟨⟨by decide,fH (by decide) (by decide)⟩,⟨by decide,fH (by decide) (by decide)⟩,rfl,⟨by omega,by omega⟩,fun x x0 x1=>⟨⟨by decide,fH (by decide) (by decide)⟩,rfl,⟨by omega,by omega⟩,fun y y0 y1=>⟨sz,?_⟩⟩⟩
     by_cases hi:0 < i
     ·show opt (atI _ (if decide (0 < i)=true then 1 else 0)) _
      rw [if_pos (decide_eq_true hi)]
      exact fo (d:=.int y) (by decide) rfl ⟨_,by omega,by omega,rfl⟩
     ·show opt (atI _ (if decide (0 < i)=true then 1 else 0)) _
      rw [if_neg (by rw [decide_eq_true_eq]; exact hi)]
      exact fo (d:=.int (tr / 2 + x)) (by decide) rfl ⟨_,by omega,by omega,rfl⟩
   ·rintro _ ⟨wl,w0,w1,rfl⟩
    refine ⟨trivial,sz,?_,hX' _ ⟨r++[(tr,wl)],by simp; omega,fun c hc=>?_,fun c hc=>?_,_,_,_,by rw [List.map_append]; rfl⟩⟩
    ·rw [List.length_map]
     exact Nat.lt_of_le_of_lt (show r.length <= 100 by omega) (by decide)
    ·rcases List.mem_append.mp hc with hc | hc
     ·exact r2 c hc
     ·rw [List.mem_singleton.mp hc]
      exact yg w0 (by omega) (show tr.natAbs < 2 ^ 40 by omega)
    ·rcases List.mem_append.mp hc with hc | hc
     ·exact r3 c hc
     ·rw [List.mem_singleton.mp hc]
      show tr≠0
      omega
 ·rintro _ ⟨r,r2,r3,x5,x6,x7,rfl⟩
  exact h r r2 r3
theorem Af {ns:List Int} {k:Int} {Q:D->Prop} {lo hi:Int} (k0:0 <= k) (k1:k < ns.length) (hb:∀ n∈ns,lo <= n /\ n <= hi) (q:∀ n,lo <= n->n <= hi->Q (.int n)):opt (atI (ns.map D.int) k) Q:=by
 refine zk k0 (by rw [List.length_map]; exact k1) fun d hd=>?_
 obtain ⟨n,hn,rfl⟩:=List.mem_map.mp hd
 exact q n (hb n hn).1 (hb n hn).2
def lu:DSp:=fun ds Q=>match ds with
 | [.pen,.int m]=>(2 <= m /\ m <= 4) /\ ∀ t:List Row,TblL 40 m.toNat t->(∀ r,t[0]? = some r->∀ c∈r,c.1≠0)->Q (.lst (t.map rowD))
 | _=>False
theorem qK:aV lu:=fun ds P P' f h=>by
 unfold lu at h ⊢
 split at h
 ·exact ⟨h.1,fun t o u=>f _ (h.2 t o u)⟩
 ·exact h.elim
theorem qL (T:Tx K mg):FnOk P w K mg base CX0 4 T.hV T.gc ["_law_pen_here","_law_many"] (spD K 2 lu):=by
 refine fnD (k:=3) T.dW.F sc__law_table (fun cdv A outer s H E hr=>(ai (az (i:=2) sc__law_table.nd rfl (by first | exact Or.inl rfl | exact Or.inr rfl) (eD (ej hr) (ag (aO T) aP (hr.mono (by decide)) rfl T.aj.m T.aj.F.kp T.aj.b (aa (ac 0 (pv 0)) (aa ae af))) ae (aA _)))
   (ai (az (i:=3) sc__law_table.nd rfl (by first | exact Or.inl rfl | exact Or.inr rfl) (eD (ej hr) (ag (aO T) aP (hr.mono (by decide)) rfl T.aj.m T.aj.F.kp T.aj.b (aa (ac 0 (pv 0)) (aa ae af))) ae (aA _)))
   (ai (pP (i:=4) sc__law_table.nd rfl (by first | exact Or.inl rfl | exact Or.inr rfl) (kD (aa (ag (mJ T) mI (hr.mono (by decide)) rfl T.ck.m T.ck.F.kp T.ck.b (aa (ac 0 (pv 0)) (aa (ac 1 (pv 1)) (aa (ac 2 (pv 2)) (aa (ac 3 (pv 3)) af))))) af)))
   (aW (dQ PassesOwn.never rfl (jm rfl T.mN (aa (ag (aO T) aP (hr.mono (by decide)) rfl T.aj.m T.aj.F.kp T.aj.b (aa (ac 0 (pv 0)) (aa (ak (dP (kD (aa ae (aa ae af)))) (ag (aO T) aP (hr.mono (by decide)) rfl T.aj.m T.aj.F.kp T.aj.b (aa (ac 0 (pv 0)) (aa ae af))) (fun _ _=>rfl)) af))) af)) (aB (i:=5) sc__law_table.nd rfl (by first | exact Or.inl rfl | exact Or.inr rfl)) (ai (az (i:=6) sc__law_table.nd rfl (by first | exact Or.inl rfl | exact Or.inr rfl) (ag (mJ T) mI (hr.mono (by decide)) rfl T.ck.m T.ck.F.kp T.ck.b (aa (ac 0 (pv 0)) (aa (ac 1 (pv 1)) (aa (ac 2 (pv 2)) (aa (ac 3 (pv 3)) af))))))
   (aW (bE (aH (ej hr) (ag (aO T) aP (hr.mono (by decide)) rfl T.aj.m T.aj.F.kp T.aj.b (aa (ac 0 (pv 0)) (aa ae af))) ae (aA _)) (ah (az (i:=6) sc__law_table.nd rfl (by first | exact Or.inl rfl | exact Or.inr rfl) (aL vt (aL zp (bO (aa (bO (aa ae (aa ae af))) af)) ae) (xZ (ac 6 (pv 6)) (nY ae) nX)))) aF)
   (aW (bE (aH (ej hr) (ag (aO T) aP (hr.mono (by decide)) rfl T.aj.m T.aj.F.kp T.aj.b (aa (ac 0 (pv 0)) (aa ae af))) ae (aA _)) (ah (az (i:=6) sc__law_table.nd rfl (by first | exact Or.inl rfl | exact Or.inr rfl) (yb (pv 4) (ag (aO T) aP (hr.mono (by decide)) rfl T.aj.m T.aj.F.kp T.aj.b (aa (ac 0 (pv 0)) (aa (zn 4 (aN jp rfl T.ki PySem.boot_len (aa (ac 4 (pv 4)) af))) af))) (fun _ _=>rfl)))) aF)
   (ah (pV (pv 4) (ac 6 (pv 6))))))))
   (ah (aC (ac 4 (pv 4))))))))) (fun ds Q hl h=>?_)
 unfold lu at h
 split at h
 case h_2=>exact h.elim
 rename_i m
 obtain ⟨⟨m2,m4⟩,h⟩:=h
 refine ⟨rfl,⟨by decide,by decide⟩,fun q _ _=>⟨⟨rfl,rfl⟩,rfl,⟨by decide,by decide⟩,fun q' _ _=>⟨⟨rfl,rfl⟩,?_⟩⟩⟩
 have f2:∀ n∈([8,16]:List Int),1 <= n /\ n <= 16:=by decide
 generalize (if false=true then !eqD (D.int q') (D.int 0) else eqD (D.int q') (D.int 0))=up
 refine ⟨rfl,m,_,up,rfl,⟨m2,m4⟩,fun r hrl hrc=>⟨sz,?_⟩⟩
 have full:RowL 40 m.toNat r:=⟨hrl,.inl hrc⟩
 generalize (if false=true then !eqD (D.int q) (D.int 0) else eqD (D.int q) (D.int 0))=far
 refine ⟨fun ρ=>∃ t:List Row,(1 <= t.length /\ t.length <= 16) /\ (∀ r∈t,RowL 40 m.toNat r) /\ t[0]? = some r /\ ∃ a b:Sl,ρ=[.val .pen,.val (.int m),.val (.bl far),.val (.bl up),.own (t.map rowD),a,b],?_,?_⟩
 ·refine ⟨sz,rfl,⟨by decide,by decide⟩,fun k k0 k1=>Af (ns:=[8,16]) k0 k1 f2 fun n n1 n2=>⟨rfl,⟨n1,by omega⟩,fun pp p0 p1=>⟨⟨by omega,by omega⟩,?_⟩⟩⟩
  refine og (fun k ρ=>∃ t:List Row,(t.length:Int)=1 + k /\ (∀ r∈t,RowL 40 m.toNat r) /\ t[0]? = some r /\ ∃ a b:Sl,me [a,b]=true /\ ρ=[.val .pen,.val (.int m),.val (.bl far),.val (.bl up),.own (t.map rowD),a,b]) _ _ ?_ ?_ _ ⟨[r],by simp,fun r' hr'=>by rw [List.mem_singleton.mp hr']; exact full,by simp,_,_,rfl,rfl⟩
  ·rintro ρ ⟨t,h1,h2,h3,a,b,_,rfl⟩
   exact ⟨t,by omega,h2,h3,a,b,rfl⟩
  ·rintro k ρ X k0 k1 ⟨t,h1,h2,h3,a,b,no,rfl⟩ hX
   refine ⟨rfl,m,far,up,rfl,⟨m2,m4⟩,fun r' hrl' hrc'=>?_⟩
   have full':RowL 40 m.toNat r':=⟨hrl',.inl hrc'⟩
   have hl1:=hrl'.1
   refine ⟨fun ρ=>∃ r':Row,RowL 40 m.toNat r' /\ ρ=[.val .pen,.val (.int m),.val (.bl far),.val (.bl up),.own (t.map rowD),.val (.int k),.val (rowD r')],⟨rfl,⟨by decide,by decide⟩,fun q _ _=>⟨⟨rfl,rfl⟩,fun _=>?_,fun _=>⟨r',full',rfl⟩⟩⟩,?_⟩
   ·have hlen:(r'.map bx).length=m.toNat:=by rw [List.length_map]; exact hrl'.1
    have s1:HT.sIx (r'.map bx).length 0 (some 2)=2:=by
     rw [hlen]
     unfold HT.sIx
     simp
     omega
    have s2:HT.sIx (r'.map bx).length (r'.map bx).length none=(r'.map bx).length:=rfl
    have hcut:cutD (r'.map bx) (some 2) none=(r'.drop 2).map bx:=by
     unfold cutD
     rw [s1,s2,List.map_drop]
     apply List.take_of_length_le
     rw [List.length_drop]
     exact Nat.le_refl _
    refine ⟨sz,sz,⟨by simp,by decide,by decide,by decide⟩,?_,⟨by simp,?_⟩,⟨(0,0)::(0,0)::r'.drop 2,⟨⟨?_,fun c hc=>?_⟩,.inr ⟨rfl,rfl⟩⟩,?_⟩⟩
    ·rw [s1]
     intro z
     exact absurd z.1 (by decide)
    ·rw [hcut,List.length_map,List.length_drop]
     exact Nat.le_trans (show 2 + (r'.length - 2) <= 100 by omega) (by decide)
    ·rw [List.length_cons,List.length_cons,List.length_drop]
     omega
    ·rcases List.mem_cons.mp hc with rfl | hc
     ·exact ⟨by decide,by decide,lW,lW⟩
     ·rcases List.mem_cons.mp hc with rfl | hc
      ·exact ⟨by decide,by decide,lW,lW⟩
      ·exact hrl'.2 c (List.mem_of_mem_drop hc)
    ·rw [hcut]
     rfl
   rintro _ ⟨r',full',rfl⟩
   refine ⟨fun ρ=>∃ r':Row,RowL 40 m.toNat r' /\ ρ=[.val .pen,.val (.int m),.val (.bl far),.val (.bl up),.own (t.map rowD),.val (.int k),.val (rowD r')],⟨rfl,⟨by decide,by decide⟩,fun q _ _=>⟨⟨rfl,rfl⟩,fun _=>?_,fun _=>⟨r',full',rfl⟩⟩⟩,?_⟩
   ·have hlt:((t.map rowD).length:Int)=t.length:=by rw [List.length_map]
    refine ⟨trivial,_,rfl,rfl,⟨⟨trivial,rfl⟩,rfl,⟨by omega,by omega⟩,fun z z0 z1=>?_⟩⟩
    obtain ⟨d0,_,ed2⟩:=ya (xs:=t) z0 (by omega)
    exact fo (d:=rowD d0) z0 (by rw [List.getElem?_map,ed2]; rfl) ⟨d0,h2 d0 (List.mem_of_getElem? ed2),rfl⟩
   rintro _ ⟨r',full',rfl⟩
   refine ⟨trivial,?_,hX _ ⟨t++[r'],by simp; omega,fun r'' hr''=>?_,by rw [List.getElem?_append_left (List.getElem?_eq_some_iff.mp h3).1]; exact h3,_,_,rfl,by rw [List.map_append]; rfl⟩⟩
   ·rw [List.length_map]
    exact Nat.lt_of_le_of_lt (show t.length <= 100 by omega) (by decide)
   ·rcases List.mem_append.mp hr'' with hr'' | hr''
    ·exact h2 r'' hr''
    ·rw [List.mem_singleton.mp hr'']; exact full'
 ·rintro _ ⟨t,h1,h2,h3,a,b,rfl⟩
  exact h t ⟨h1,h2,r,List.mem_of_getElem? h3,hrc⟩ fun r' e=>by rw [h3] at e; cases e; exact hrc
theorem TblL.up {m:Nat} {t:List Row} (o:TblL 40 m t):TblL 80 m t:=⟨o.1,fun r hr=>⟨⟨(o.2.1 r hr).1.1,fun c hc=>((o.2.1 r hr).1.2 c hc).mono (by decide)⟩,(o.2.1 r hr).2⟩,o.2.2⟩
theorem cut1 {α:Type} (F:α->D) (l:List α) (h:1 <= l.length):cutD (l.map F) (some 1) none=(l.drop 1).map F:=by
 have e1:HT.sIx (l.map F).length 0 (some 1)=1:=by
  rw [List.length_map]
  unfold HT.sIx
  simp
  omega
 have e2:HT.sIx (l.map F).length (l.map F).length none=(l.map F).length:=rfl
 unfold cutD
 rw [e1,e2,List.map_drop]
 apply List.take_of_length_le
 rw [List.length_drop]
 exact Nat.le_refl _
def topR (c:Int×Int) (r:Row):Row:=((at_ r 0).1 * c.1,(at_ r 0).1 * c.2)::r.drop 1
theorem wq {m:Nat} {r:Row} (o:RowL 40 m r) (m2:2 <= m) {c:Int×Int} (hc:Cnt 40 c.1 c.2) (c0:0 < c.1):RowL 80 m (topR c r):=by
 have l:=o.1.1
 have g0:=(cD o.1 (h:=0) (by omega)).2
 have a0:0 <= (at_ r 0).1:=by have:=g0.lo; have:=g0.hi; omega
 have at0:at_ (topR c r) 0=((at_ r 0).1 * c.1,(at_ r 0).1 * c.2):=rfl
 have at1:at_ (topR c r) 1=at_ r 1:=by
  unfold at_ topR
  rw [List.getD_eq_getElem?_getD,List.getElem?_cons_succ,List.getElem?_drop,List.getD_eq_getElem?_getD]
 have cc:Cnt 80 ((at_ r 0).1 * c.1) ((at_ r 0).1 * c.2):=by
  have h1:=hc.lo
  have h2:=hc.hi
  exact yg (Int.mul_nonneg a0 h1) (Int.mul_le_mul_of_nonneg_left h2 a0) (g0.bt.mul hc.bt)
 refine ⟨⟨?_,fun d hd=>?_⟩,?_⟩
 ·unfold topR
  rw [List.length_cons,List.length_drop]
  omega
 ·rcases List.mem_cons.mp hd with rfl | hd
  ·exact cc
  ·exact (o.1.2 d (List.mem_of_mem_drop hd)).mono (by decide)
 ·rcases o.2 with f | ⟨z0,z1⟩
  ·left
   intro d hd
   rcases List.mem_cons.mp hd with rfl | hd
   ·have:=f _ (List.mem_of_getElem? (cD o.1 (h:=0) (by omega)).1)
    exact Int.mul_ne_zero this (by omega)
   ·exact f d (List.mem_of_mem_drop hd)
  ·right
   rw [at0,at1]
   exact ⟨by show (at_ r 0).1 * c.1=0; rw [z0,Int.zero_mul],z1⟩
def ym:DSp:=fun ds Q=>∃ (m:Nat) (t:List Row),ds=[.lst (t.map rowD)] /\ 2 <= m /\ m <= 4 /\ TblL 40 m t /\ (∀ r,t[0]? = some r->∀ c∈r,c.1≠0) /\ ∀ t',TblL 80 m t'->Q (.lst (t'.map rowD))
theorem jW:aV ym:=fun ds P P' f ⟨m,t,a,b,c,d,e,h⟩=>⟨m,t,a,b,c,d,e,fun t' o=>f _ (h t' o)⟩
theorem jX (T:Tx K mg):FnOk P w K mg base CX0 2 T.dM T.dg ["_law_table_here"] (spD K 1 ym):=by
 refine fnD (k:=1) T.bK.F sc__law_at_the_top (fun cdv A outer s H E hr=>(ai (az (i:=1) sc__law_at_the_top.nd rfl (by first | exact Or.inl rfl | exact Or.inr rfl) (ak (ak (ac 0 (pv 0)) ae (fun _ _=>rfl)) ae (fun _ _=>rfl)))
   (aW (dQ PassesOwn.never rfl (cI (ac 0 (pv 0))) (aB (i:=2) sc__law_at_the_top.nd rfl (by first | exact Or.inl rfl | exact Or.inr rfl)) (ah (bE (aH jJ (aL bF (ak (ak (ac 2 (pv 2)) ae (fun _ _=>rfl)) ae (fun _ _=>rfl)) (ak (ac 1 (pv 1)) ae (fun _ _=>rfl))) (aL bF (ak (ac 1 (pv 1)) ae (fun _ _=>rfl)) (ak (ak (ac 2 (pv 2)) ae (fun _ _=>rfl)) ae (fun _ _=>rfl))) (aA _)) (ah (az (i:=1) sc__law_at_the_top.nd rfl (by first | exact Or.inl rfl | exact Or.inr rfl) (ak (ac 2 (pv 2)) ae (fun _ _=>rfl)))) aF)))
   (ah (aC (dP (PCD.pld (cJ (N':=["_law_part_here","_law_top_here"]) rfl rfl (by decide +kernel) rfl (.own (.cap (j:=1) rfl (by first | exact Or.inl rfl | exact Or.inr rfl) rfl .nil)) (by decide +kernel) (cI (ac 0 (pv 0))) (fun B=>(aB (i:=0) (show List.Nodup (α:=PySem.Str) ["_law_part_here","_law_top_here"] by decide +kernel) rfl (by first | exact Or.inl rfl | exact Or.inr rfl))) (fun B=>eu) (fun B=>(aL vt (bO (aa (bO (aa (aL bF (ak (ak (ac 0 (pv 0)) ae (fun _ _=>rfl)) ae (fun _ _=>rfl)) (ak (ac 1 (pv 1)) ae (fun _ _=>rfl))) (aa (aL bF (ak (ak (ac 0 (pv 0)) ae (fun _ _=>rfl)) ae (fun _ _=>rfl)) (ak (ac 1 (pv 1)) ae (fun _ _=>rfl))) af))) af)) (xZ (ac 0 (pv 0)) (nY ae) nX))))))))))) (fun ds Q hl h=>?_)
 obtain ⟨m,t,rfl,m2,m4,o,f0,h⟩:=h
 have l1:=o.1.1
 have l16:=o.1.2
 have h0:t[0]? = some t[0]:=List.getElem?_eq_getElem (by omega)
 have r0:=o.2.1 t[0] (List.getElem_mem _)
 have g1:=cD r0.1 (h:=1) (by omega)
 have p1:0 < (at_ t[0] 1).1:=by
  have:=f0 _ h0 _ (List.mem_of_getElem? g1.1)
  have:=g1.2.lo
  have:=g1.2.hi
  omega
 refine fo (d:=rowD t[0]) (by decide) (by rw [List.getElem?_map]; show Option.map rowD t[0]? = _; rw [h0]; rfl) (cf r0.1 (h:=1) (by decide) (by omega) ?_)
 refine ⟨fun ρ=>∃ c:Int×Int,Cnt 40 c.1 c.2 /\ 0 < c.1 /\ ∃ x:Sl,ρ=[.val (.lst (t.map rowD)),.val (bx c),x],?_,?_⟩
 ·refine lV _ (fun ρ h=>h) (fun d hd ρ X hN hX=>?_) _ ⟨at_ t[0] 1,g1.2,p1,_,rfl⟩
  obtain ⟨c,hc,c0,x,rfl⟩:=hN
  obtain ⟨r,hr,rfl⟩:=List.mem_map.mp hd
  have rr:=o.2.1 r hr
  have gr:=(cD rr.1 (h:=1) (by omega)).2
  refine cf rr.1 (h:=1) (by decide) (by omega) ⟨gr.bw.cmul hc.bt,cf rr.1 (h:=1) (by decide) (by omega) ⟨hc.bw.cmul gr.bt,Br.di (fun z=>?_) (fun z=>hX _ ⟨c,hc,c0,_,rfl⟩)⟩⟩
  refine cf rr.1 (h:=1) (by decide) (by omega) (hX _ ⟨at_ r 1,gr,?_,_,rfl⟩)
  have lo:=gr.lo
  have hi:=gr.hi
  have:(at_ r 1).1≠0:=fun e=>by
   have e2:(at_ r 1).2=0:=by omega
   have z:c.2 * (at_ r 1).1 < (at_ r 1).2 * c.1:=z
   rw [e,e2,Int.mul_zero,Int.zero_mul] at z
   omega
  omega
 ·rintro _ ⟨c,hc,c0,x,rfl⟩
  refine qJ (fun i=>rowD (topR c (t.getD i []))) (fun ρ=>∃ s:Sl,ρ=[s,.val (bx c)]) (Nat.le_trans l16 (by decide)) (fun i hi ρ Y Z hN hY=>?_) _ ⟨_,rfl⟩ ?_
  ·obtain ⟨s,rfl⟩:=hN
   have er:t.getD i []=t[i]:=by simp [List.getD_eq_getElem?_getD,hi]
   rw [er] at hY ⊢
   have rr:=o.2.1 t[i] (List.getElem_mem hi)
   have gr:=(cD rr.1 (h:=0) (by omega)).2
   refine Br.t (cf rr.1 (h:=0) (by decide) (by omega) ⟨gr.bt.cmul hc.bt,cf rr.1 (h:=0) (by decide) (by omega) ⟨gr.bt.cmul hc.bw,sz,sz,?_⟩⟩)
   have hlen:(t[i].map bx).length=m:=by rw [List.length_map]; exact rr.1.1
   have s1:HT.sIx (t[i].map bx).length 0 (some 1)=1:=by
    rw [hlen]
    unfold HT.sIx
    simp
    omega
   have hcut:cutD (t[i].map bx) (some 1) none=(t[i].drop 1).map bx:=cut1 bx t[i] (by have:=rr.1.1; omega)
   refine ⟨?_,⟨by simp,?_⟩,?_⟩
   ·rw [s1]
    intro z
    exact absurd z.1 (by decide)
   ·rw [hcut,List.length_map,List.length_drop]
    exact Nat.le_trans (show 1 + (t[i].length - 1) <= 100 by have:=rr.1.1; omega) (by decide)
   ·rw [hcut]
    exact hY _ ⟨_,rfl⟩
  ·have e:(List.range t.length).map (fun i=>rowD (topR c (t.getD i [])))=(t.map (topR c)).map rowD:=by
    rw [List.map_map,oF (l:=t) []]
    rfl
   rw [e]
   refine h _ ⟨⟨by rw [List.length_map]; exact l1,by rw [List.length_map]; exact l16⟩,fun r hr=>?_,?_⟩
   ·obtain ⟨r1,hr1,rfl⟩:=List.mem_map.mp hr
    exact wq (o.2.1 r1 hr1) m2 hc c0
   ·refine ⟨topR c t[0],List.mem_map.mpr ⟨_,List.getElem_mem _,rfl⟩,?_⟩
    have tr:=wq r0 m2 hc c0
    rcases tr.2 with f | ⟨z0,_⟩
    ·exact f
    ·have:=f0 _ h0 _ (List.mem_of_getElem? (cD r0.1 (h:=0) (by omega)).1)
     have z0:(at_ t[0] 0).1 * c.1=0:=z0
     exact absurd z0 (Int.mul_ne_zero this (by omega))
theorem oK (t:List Row):shp (.lst (t.map rowD))=true:=Shp.shp (n:=3) (.lst fun d hd=>by
 obtain ⟨r,_,rfl⟩:=List.mem_map.mp hd
 exact .tup fun d hd=>by
  obtain ⟨c,_,rfl⟩:=List.mem_map.mp hd
  exact .pair)
theorem Ag (ys:List D):(eqD (.lst ys) (.lst [])=true)↔ys=[]:=by
 cases ys with
 | nil=>exact ⟨fun _=>rfl,fun _=>rfl⟩
 | cons y r=>exact ⟨fun h=>absurd h (by
   intro z
   have:eqD (.lst (y::r)) (.lst [])=false:=rfl
   rw [this] at z
   cases z),fun h=>absurd h (by simp)⟩
def Full (t:List Row):Prop:=∀ r∈t,∀ c∈r,c.1≠0
theorem TblL.tbl {m:Nat} {t:List Row} (o:TblL 80 m t) (m2:2 <= m) (m4:m <= 4):Tbl m t:=⟨m2,by omega,o.1.1,by have:=o.1.2; omega,fun r hr=>(o.2.1 r hr).1.up⟩
theorem yn {m:Nat} {t:List Row} (o:TblL 80 m t) {h:Nat} (hh:h < m):(sumP (col t h)).1≠0:=by
 obtain ⟨_,rows,r0,hr0,f0⟩:=o
 have key:∀ l:List Row,(∀ r∈l,0 <= (at_ r h).1)->r0∈l->(at_ r0 h).1 <= ((col l h).map (·.1)).sum /\ 0 <= ((col l h).map (·.1)).sum:=by
  intro l
  induction l with
  | nil=>intro _ z; simp at z
  | cons r l ih =>
   intro hp hr
   have h0:=hp r List.mem_cons_self
   have pos:∀ l:List Row,(∀ r∈l,0 <= (at_ r h).1)->0 <= ((col l h).map (·.1)).sum:=by
    intro l
    induction l with
    | nil=>intro _; simp [col]
    | cons r l ih =>
     intro hp
     have:=ih fun r hr=>hp r (List.mem_cons_of_mem _ hr)
     have:=hp r List.mem_cons_self
     simp only [col,List.map_cons,List.sum_cons] at *
     omega
   have hl:=pos l fun r hr=>hp r (List.mem_cons_of_mem _ hr)
   rcases List.mem_cons.mp hr with rfl | hr
   ·simp only [col,List.map_cons,List.sum_cons] at *
    omega
   ·have:=ih (fun r hr=>hp r (List.mem_cons_of_mem _ hr)) hr
    simp only [col,List.map_cons,List.sum_cons] at *
    omega
 have cn:∀ r∈t,0 <= (at_ r h).1:=fun r hr=>by
  have:=(cD (rows r hr).1 hh).2
  have:=this.lo
  have:=(cD (rows r hr).1 hh).2.hi
  omega
 have h1:=key t cn hr0
 have h2:=f0 (at_ r0 h) (List.mem_of_getElem? (cD (rows r0 hr0).1 hh).1)
 have h3:=cn r0 hr0
 show ((col t h).map (·.1)).sum≠0
 omega
theorem yo {m:Nat} {t:List Row} (o:TblL 80 m t) (m2:2 <= m) (m4:m <= 4) {a b:Int} (a0:0 <= a) (a1:a < m) (b0:0 <= b) (b1:b < m) (ab:a≠b) (ka:a < 2∨Full t) (kb:b < 2∨Full t):Two m t a b:=by
 refine ⟨o.tbl m2 m4,a0,a1,b0,b1,ab,yn o (by omega),yn o (by omega),fun r hr=>?_⟩
 have ga:=cD (o.2.1 r hr).1 (h:=a.toNat) (by omega)
 have gb:=cD (o.2.1 r hr).1 (h:=b.toNat) (by omega)
 rcases (o.2.1 r hr).2 with f | ⟨z0,z1⟩
 ·have h1:=f _ (List.mem_of_getElem? ga.1)
  have h2:=f _ (List.mem_of_getElem? gb.1)
  exact ⟨fun h=>absurd h h1,fun h=>absurd h h2⟩
 ·by_cases hf:Full t
  ·have h1:=hf r hr _ (List.mem_of_getElem? ga.1)
   have h2:=hf r hr _ (List.mem_of_getElem? gb.1)
   exact ⟨fun h=>absurd h h1,fun h=>absurd h h2⟩
  ·have ka:a < 2:=ka.resolve_right hf
   have kb:b < 2:=kb.resolve_right hf
   have:∀ k:Int,0 <= k->k < 2->(at_ r k.toNat).1=0:=fun k k0 k1=>by
    have:k=0∨k=1:=by omega
    rcases this with rfl | rfl
    ·exact z0
    ·exact z1
   exact ⟨fun _=>this b b0 kb,fun _=>this a a0 ka⟩
theorem xO {r s:Row} (h:rowD r=rowD s):r=s:=by
 have h:r.map bx=s.map bx:=D.tup.inj h
 refine (List.map_inj_right (f:=bx) fun x y h=>?_).mp h
 unfold bx at h
 simp at h
 exact Prod.ext h.1 h.2
theorem DF (T:Tx K mg) (B:Bm mg base):FnOk P w K mg base CX0 14 T.Ai T.wy ["_law_script"] (DL.spLaw K):=by
 refine Dv (k:=13) T.Cs.F sc_law rfl (by decide) (fun cdv A outer s H E hr=>iy (i:=1) sc_law.nd rfl (Or.inl rfl) (qS (rO T) (hr.mono (by decide)) rfl T.fQ.m T.fQ.F.kp T.fQ.b .nil yP (eQ (pv 0) jb))) (fun cdv hcd A outer s H E hr=>(ai (az (i:=2) sc_law.nd rfl (by first | exact Or.inl rfl | exact Or.inr rfl) (aL gx ae (ag (aO T) aP (hr.mono (by decide)) rfl T.aj.m T.aj.F.kp T.aj.b (aa (ac 1 (pv 1)) (aa ae af)))))
   (ai (az (i:=3) sc_law.nd rfl (by first | exact Or.inl rfl | exact Or.inr rfl) (ag (qL T) qK (hr.mono (by decide)) rfl T.dW.m T.dW.F.kp T.dW.b (aa (ac 1 (pv 1)) (aa (ac 2 (pv 2)) af))))
   (aW (bE (aH (ej hr) (ag (aO T) aP (hr.mono (by decide)) rfl T.aj.m T.aj.F.kp T.aj.b (aa (ac 1 (pv 1)) (aa ae af))) ae (aA _)) (ah (az (i:=3) sc_law.nd rfl (by first | exact Or.inl rfl | exact Or.inr rfl) (ag (jX T) jW (hr.mono (by decide)) rfl T.bK.m T.bK.F.kp T.bK.b (aa (ac 3 (pv 3)) af)))) aF)
   (ai (az (i:=4) sc_law.nd rfl (by first | exact Or.inl rfl | exact Or.inr rfl) (dP (zh rfl T.tN rfl (ac 3 (pv 3)))))
   (ai (oa (i:=5) sc_law.nd rfl rfl (cJ (N':=["_law_house","_law_table_here"]) rfl rfl (by decide +kernel) rfl (.own (.cap (j:=3) rfl (by first | exact Or.inl rfl | exact Or.inr rfl) rfl .nil)) (by decide +kernel) (jm rfl T.mN (aa (ac 2 (pv 2)) af)) (fun B=>(aB (i:=0) (show List.Nodup (α:=PySem.Str) ["_law_house","_law_table_here"] by decide +kernel) rfl (by first | exact Or.inl rfl | exact Or.inr rfl))) (fun B=>(rE (PWD.pt (lS (aH wW (ac 0 (pv 0)) ae (aA _)) (ji (aH (ej hr) (dP (PCD.pld (cJ (N':=["_law_part_here"]) rfl rfl (by decide +kernel) rfl (.own .nil) (by decide +kernel) (cI (ac 1 (pv 1))) (fun B=>(aB (i:=0) (show List.Nodup (α:=PySem.Str) ["_law_part_here"] by decide +kernel) rfl (by first | exact Or.inl rfl | exact Or.inr rfl))) (fun B=>(rE (aH (ej hr) (ak (ak (ac 0 (pv 0)) ae (fun _ _=>rfl)) ae (fun _ _=>rfl)) ae (aA _)))) (fun B=>(ac 0 (pv 0)))))) (dP (kD af)) (aA _))))))) (fun B=>(ac 0 (pv 0)))))
   (aW (dQ PassesOwn.never rfl (cI (ac 5 (pv 5))) (aB (i:=6) sc_law.nd rfl (by first | exact Or.inl rfl | exact Or.inr rfl)) (ah (dQ PassesOwn.never rfl (cI (ac 5 (pv 5))) (aB (i:=7) sc_law.nd rfl (by first | exact Or.inl rfl | exact Or.inr rfl)) (ah (bE (PWD.pt (lR (aH (nW hr) (ac 6 (pv 6)) (ac 7 (pv 7)) (aA _)) (iE (gA (cO (ag (kJ T B) kI (hr.mono (by decide)) rfl T.bQ.m T.bQ.F.kp T.bQ.b (aa (ac 3 (pv 3)) (aa (ac 6 (pv 6)) (aa (ac 7 (pv 7)) af))))))))) (ah (aC nS)) aF)))))
   (ah (aC (jk (eD (ej hr) (ac 3 (pv 3)) (ac 4 (pv 4)) (aA _)) (kC (ag (kJ T B) kI (hr.mono (by decide)) rfl T.bQ.m T.bQ.F.kp T.bQ.b (aa (ac 3 (pv 3)) (aa ae (aa ae af))))))))))))))) ?_
 refine ⟨rfl,⟨by decide,by decide⟩,fun k k0 k1=>⟨rfl,⟨by omega,by omega⟩,fun t0 o0 f0=>?_⟩⟩
 refine ⟨fun ρ=>∃ t:List Row,TblL 80 (2 + k).toNat t /\ ρ=[.nil,.val .pen,.val (.int (2 + k)),.val (.lst (t.map rowD)),.nil,.nil,.nil,.nil],?_,?_⟩
 ·refine ⟨rfl,⟨by decide,by decide⟩,fun q _ _=>⟨⟨rfl,rfl⟩,fun _=>?_,fun _=>⟨t0,o0.up,rfl⟩⟩⟩
  exact ⟨rfl,_,t0,rfl,by omega,by omega,o0,f0,fun t o=>⟨t,o,rfl⟩⟩
 rintro _ ⟨t,o,rfl⟩
 have lt:(t.map rowD).length <= sizeLine:=by rw [List.length_map]; exact Nat.le_trans o.1.2 (by decide)
 refine ⟨⟨by omega,by omega⟩,cC (fun pre acc ρ=>∃ ks:List Int,acc=ks.map D.int /\ ks.length <= pre.length /\ (∀ i∈ks,0 <= i /\ i < 2 + k /\ (i < 2∨Full t)) /\ ∃ s:Sl,ρ=[s,.val (.lst (t.map rowD))]) (fun acc ρ hN=>?_) (fun pre d post acc ρ Y e hN hY=>?_) _ ⟨[],rfl,Nat.le_refl _,fun i hi=>by simp at hi,_,rfl⟩⟩
 ·obtain ⟨ks,rfl,hl,hk,_⟩:=hN
  refine ⟨fun ρ=>∃ s s':Sl,ρ=[.nil,.val .pen,.val (.int (2 + k)),.val (.lst (t.map rowD)),.val (.lst (t.map rowD)),.val (.lst (ks.map D.int)),s,s'],?_,?_⟩
  ·refine lV _ (fun ρ h=>h) (fun d hd ρ X hN hX=>?_) _ ⟨_,_,rfl⟩
   obtain ⟨s,s',rfl⟩:=hN
   obtain ⟨a,ha,rfl⟩:=List.mem_map.mp hd
   refine lV (fun ρ=>∃ s':Sl,ρ=[.nil,.val .pen,.val (.int (2 + k)),.val (.lst (t.map rowD)),.val (.lst (t.map rowD)),.val (.lst (ks.map D.int)),.val (.int a),s']) (fun ρ h=>?_) (fun d hd ρ X' hN hX'=>?_) _ ⟨_,rfl⟩
   ·obtain ⟨s',rfl⟩:=h
    exact hX _ ⟨_,_,rfl⟩
   ·obtain ⟨s',rfl⟩:=hN
    obtain ⟨b,hb,rfl⟩:=List.mem_map.mp hd
    refine ⟨⟨rfl,rfl⟩,fun c=>?_,fun c=>Br.f (hX' _ ⟨_,rfl⟩)⟩
    have c:a≠b:=by simpa [bG] using c
    have h1:=hk a ha
    have h2:=hk b hb
    refine ⟨rfl,(2 + k).toNat,t,a,b,rfl,⟨yo o (by omega) (by omega) h1.1 (by omega) h2.1 (by omega) c h1.2.2 h2.2.2,o.1.2,fun r hr=>(o.2.1 r hr).1⟩,Br.f (hX' _ ⟨_,rfl⟩)⟩
  ·rintro _ ⟨s,s',rfl⟩
   refine ⟨⟨oK t,oK t⟩,br_t (eE (oK t)) ⟨rfl,(2 + k).toNat,t,0,1,rfl,⟨yo o (by omega) (by omega) (by decide) (by omega) (by decide) (by omega) (by decide) (.inl (by decide)) (.inl (by decide)),o.1.2,fun r hr=>(o.2.1 r hr).1⟩,?_⟩⟩
   rfl
 ·obtain ⟨ks,rfl,hl,hk,s,rfl⟩:=hN
  have hd:d∈kP 0 (2 + k).toNat:=by rw [e]; simp
  rw [fM] at hd
  obtain ⟨i,hi,rfl⟩:=List.mem_map.mp hd
  rw [List.mem_range] at hi
  have hpre:pre.length <= 4:=by
   have:=congrArg List.length e
   rw [fM,List.length_map,List.length_range,List.length_append,List.length_cons] at this
   omega
  have take:(i:Int) < 2∨Full t->((ks.map D.int).length < sizeLine /\ ∀ ρ',(∃ s:Sl,cY ρ'=[s,.val (.lst (t.map rowD))])->Y (ks.map D.int++[.int (0 + (i:Int))]) ρ'):=fun hf=>by
   refine ⟨?_,fun ρ' hρ=>hY _ _ ⟨ks++[0 + (i:Int)],by simp,by simp; omega,fun j hj=>?_,hρ⟩⟩
   ·rw [List.length_map]
    exact Nat.lt_of_le_of_lt (Nat.le_trans hl hpre) (by decide)
   ·rcases List.mem_append.mp hj with hj | hj
    ·exact hk j hj
    ·rw [List.mem_singleton.mp hj]
     refine ⟨by omega,by omega,?_⟩
     rw [Int.zero_add]
     exact hf
  have drop:∀ ρ',(∃ s:Sl,cY ρ'=[s,.val (.lst (t.map rowD))])->Y (ks.map D.int) ρ':=fun ρ' hρ=>hY _ _ ⟨ks,rfl,by simp; omega,hk,hρ⟩
  refine ⟨fun c=>?_,fun c=>?_⟩
  ·have c:0 + (i:Int) < 2:=by simpa using c
   have tk:=take (.inl (by omega))
   exact Br.t ⟨tk.1,tk.2 _ ⟨_,rfl⟩⟩
  ·refine cC (fun pre acc ρ=>∃ rs:List Row,acc=rs.map rowD /\ rs.length <= pre.length /\ (rs=[]->∀ d∈pre,∀ r:Row,d=rowD r->r∈t->(at_ r 0).1≠0) /\ ∃ s:Sl,ρ=[s]) (fun acc ρ hN=>?_) (fun pre d post acc ρ Y e hN hY=>?_) _ ⟨[],rfl,Nat.le_refl _,fun _ d hd=>by simp at hd,_,rfl⟩
   ·obtain ⟨rs,rfl,_,hz,_⟩:=hN
    refine ⟨sz,⟨oK rs,rfl⟩,fun c=>?_,fun c=>drop _ ⟨_,rfl⟩⟩
    have c:rs.map rowD=[]:=(Ag _).mp c
    have c:rs=[]:=List.map_eq_nil_iff.mp c
    have tk:=take (.inr fun r hr=>by
     have h0:=hz c (rowD r) (List.mem_map.mpr ⟨r,hr,rfl⟩) r rfl hr
     rcases (o.2.1 r hr).2 with f | ⟨z,_⟩
     ·exact f
     ·exact absurd z h0)
    exact ⟨tk.1,tk.2 _ ⟨_,rfl⟩⟩
   ·obtain ⟨rs,rfl,hlr,hz,s',rfl⟩:=hN
    have hd:d∈t.map rowD:=by rw [e]; simp
    obtain ⟨r0,hr0,rfl⟩:=List.mem_map.mp hd
    refine cf (o.2.1 r0 hr0).1 (h:=0) (by decide) (by omega) ⟨⟨rfl,rfl⟩,fun c=>?_,fun c=>hY _ _ ⟨rs,rfl,by simp; omega,fun z d hd r er hr=>?_,_,rfl⟩⟩
    ·refine ⟨?_,hY _ _ ⟨rs++[r0],by simp,by simp; omega,fun z=>absurd z (by simp),_,rfl⟩⟩
     have h1:=congrArg List.length e
     rw [List.length_map,List.length_append,List.length_cons] at h1
     rw [List.length_map]
     exact Nat.lt_of_le_of_lt (show rs.length <= 100 by have:=o.1.2; omega) (by decide)
    ·rcases List.mem_append.mp hd with hd | hd
     ·exact hz z d hd r er hr
     ·rw [List.mem_singleton.mp hd] at er
      have:=xO er
      subst this
      have c:¬ (at_ r0 0).1=0:=by simpa [bG] using c
      exact c
end
set_option maxHeartbeats 0 in
theorem all_mk {l:PySem.W.OpenLaw} {w:World} {K:PySem.W.Frag} {h:Heap} {mg:Str->Option Value} {fa f0 f1 f2 f3 f4 f5 f6 f7 f8 f9 f10 f11 f12 f13 f14 f15 f16 f17 f18 f19 f20 f21 f22 f23 f24 f25 f26 f27 f28 f29 f30 f31 f32 f33 f34 f35 f36 f37 f38 f39 f40 f41 f42 f43 f44 f45 f46 f47:Addr} (X:K.In h) (G:h.Ns mainGlobals mg) (hfa:mg "law" = some (.ref fa))
  {od0 an0 od1 an1 od2 an2 od3 an3 od4 an4 od5 an5 od6 an6 od7 an7 od8 an8 od9 an9 od10 an10 od11 an11 od12 an12 od13 an13 od14 an14 od15 an15 od16 an16 od17 an17 od18 an18 od19 an19 od20 an20 od21 an21 od22 an22 od23 an23 od24 an24 od25 an25 od26 an26 od27 an27 od28 an28 od29 an29 od30 an30 od31 an31 od32 an32 od33 an33 od34 an34 od35 an35 od36 an36 od37 an37 od38 an38 od39 an39 od40 an40 od41 an41 od42 an42 od43 an43 od44 an44 od45 an45 od46 an46 od47 an47:Option Addr} {sl0 sl1 sl2 sl3 sl4 sl5 sl6 sl7 sl8 sl9 sl10 sl11 sl12 sl13 sl14 sl15 sl16 sl17 sl18 sl19 sl20 sl21 sl22 sl23 sl24 sl25 sl26 sl27 sl28 sl29 sl30 sl31 sl32 sl33 sl34 sl35 sl36 sl37 sl38 sl39 sl40 sl41 sl42 sl43 sl44 sl45 sl46 sl47:Array (Option Value)} {oc0 kV0 dc0 pm0 cd0 ct0 oc1 kV1 dc1 pm1 cd1 ct1 oc2 kV2 dc2 pm2 cd2 ct2 oc3 kV3 dc3 pm3 cd3 ct3 oc4 kV4 dc4 pm4 cd4 ct4 oc5 kV5 dc5 pm5 cd5 ct5 oc6 kV6 dc6 pm6 cd6 ct6 oc7 kV7 dc7 pm7 cd7 ct7 oc8 kV8 dc8 pm8 cd8 ct8 oc9 kV9 dc9 pm9 cd9 ct9 oc10 kV10 dc10 pm10 cd10 ct10 oc11 kV11 dc11 pm11 cd11 ct11 oc12 kV12 dc12 pm12 cd12 ct12 oc13 kV13 dc13 pm13 cd13 ct13 oc14 kV14 dc14 pm14 cd14 ct14 oc15 kV15 dc15 pm15 cd15 ct15 oc16 kV16 dc16 pm16 cd16 ct16 oc17 kV17 dc17 pm17 cd17 ct17 oc18 kV18 dc18 pm18 cd18 ct18 oc19 kV19 dc19 pm19 cd19 ct19 oc20 kV20 dc20 pm20 cd20 ct20 oc21 kV21 dc21 pm21 cd21 ct21 oc22 kV22 dc22 pm22 cd22 ct22 oc23 kV23 dc23 pm23 cd23 ct23 oc24 kV24 dc24 pm24 cd24 ct24 oc25 kV25 dc25 pm25 cd25 ct25 oc26 kV26 dc26 pm26 cd26 ct26 oc27 kV27 dc27 pm27 cd27 ct27 oc28 kV28 dc28 pm28 cd28 ct28 oc29 kV29 dc29 pm29 cd29 ct29 oc30 kV30 dc30 pm30 cd30 ct30 oc31 kV31 dc31 pm31 cd31 ct31 oc32 kV32 dc32 pm32 cd32 ct32 oc33 kV33 dc33 pm33 cd33 ct33 oc34 kV34 dc34 pm34 cd34 ct34 oc35 kV35 dc35 pm35 cd35 ct35 oc36 kV36 dc36 pm36 cd36 ct36 oc37 kV37 dc37 pm37 cd37 ct37 oc38 kV38 dc38 pm38 cd38 ct38 oc39 kV39 dc39 pm39 cd39 ct39 oc40 kV40 dc40 pm40 cd40 ct40 oc41 kV41 dc41 pm41 cd41 ct41 oc42 kV42 dc42 pm42 cd42 ct42 oc43 kV43 dc43 pm43 cd43 ct43 oc44 kV44 dc44 pm44 cd44 ct44 oc45 kV45 dc45 pm45 cd45 ct45 oc46 kV46 dc46 pm46 cd46 ct46 oc47 kV47 dc47 pm47 cd47 ct47:Value}
  (a0:PySem.W.nsIn K mainGlobals "greatest_divisor" = some (some (.ref f0))) (l0:K.lookup f0=some ⟨oc0,od0,.func (PySem.W.fnOf "greatest_divisor" "greatest_divisor" (ax bc) (ao bc) (ad bc) .none kV0 dc0 pm0 an0 cd0 ct0),sl0⟩) (c0:PySem.W.codeIn K cd0 "greatest_divisor" = true) (k0:PySem.W.keepIn K (.ref f0)=true)
  (a1:PySem.W.nsIn K mainGlobals "ratio_of" = some (some (.ref f1))) (l1:K.lookup f1=some ⟨oc1,od1,.func (PySem.W.fnOf "ratio_of" "ratio_of" (ax eF) (ao eF) (ad eF) .none kV1 dc1 pm1 an1 cd1 ct1),sl1⟩) (c1:PySem.W.codeIn K cd1 "ratio_of" = true) (k1:PySem.W.keepIn K (.ref f1)=true)
  (a2:PySem.W.nsIn K mainGlobals "plus" = some (some (.ref f2))) (l2:K.lookup f2=some ⟨oc2,od2,.func (PySem.W.fnOf "plus" "plus" (ax nC) (ao nC) (ad nC) .none kV2 dc2 pm2 an2 cd2 ct2),sl2⟩) (c2:PySem.W.codeIn K cd2 "plus" = true) (k2:PySem.W.keepIn K (.ref f2)=true)
  (a3:PySem.W.nsIn K mainGlobals "minus" = some (some (.ref f3))) (l3:K.lookup f3=some ⟨oc3,od3,.func (PySem.W.fnOf "minus" "minus" (ax jN) (ao jN) (ad jN) .none kV3 dc3 pm3 an3 cd3 ct3),sl3⟩) (c3:PySem.W.codeIn K cd3 "minus" = true) (k3:PySem.W.keepIn K (.ref f3)=true)
  (a4:PySem.W.nsIn K mainGlobals "times" = some (some (.ref f4))) (l4:K.lookup f4=some ⟨oc4,od4,.func (PySem.W.fnOf "times" "times" (ax jO) (ao jO) (ad jO) .none kV4 dc4 pm4 an4 cd4 ct4),sl4⟩) (c4:PySem.W.codeIn K cd4 "times" = true) (k4:PySem.W.keepIn K (.ref f4)=true)
  (a5:PySem.W.nsIn K mainGlobals "over" = some (some (.ref f5))) (l5:K.lookup f5=some ⟨oc5,od5,.func (PySem.W.fnOf "over" "over" (ax nD) (ao nD) (ad nD) .none kV5 dc5 pm5 an5 cd5 ct5),sl5⟩) (c5:PySem.W.codeIn K cd5 "over" = true) (k5:PySem.W.keepIn K (.ref f5)=true)
  (a6:PySem.W.nsIn K mainGlobals "less" = some (some (.ref f6))) (l6:K.lookup f6=some ⟨oc6,od6,.func (PySem.W.fnOf "less" "less" (ax nE) (ao nE) (ad nE) .none kV6 dc6 pm6 an6 cd6 ct6),sl6⟩) (c6:PySem.W.codeIn K cd6 "less" = true) (k6:PySem.W.keepIn K (.ref f6)=true)
  (a7:PySem.W.nsIn K mainGlobals "total" = some (some (.ref f7))) (l7:K.lookup f7=some ⟨oc7,od7,.func (PySem.W.fnOf "total" "total" (ax jP) (ao jP) (ad jP) .none kV7 dc7 pm7 an7 cd7 ct7),sl7⟩) (c7:PySem.W.codeIn K cd7 "total" = true) (k7:PySem.W.keepIn K (.ref f7)=true)
  (a8:PySem.W.nsIn K mainGlobals "lesser" = some (some (.ref f8))) (l8:K.lookup f8=some ⟨oc8,od8,.func (PySem.W.fnOf "lesser" "lesser" (ax io) (ao io) (ad io) .none kV8 dc8 pm8 an8 cd8 ct8),sl8⟩) (c8:PySem.W.codeIn K cd8 "lesser" = true) (k8:PySem.W.keepIn K (.ref f8)=true)
  (a9:PySem.W.nsIn K mainGlobals "common_bottom" = some (some (.ref f9))) (l9:K.lookup f9=some ⟨oc9,od9,.func (PySem.W.fnOf "common_bottom" "common_bottom" (ax bH) (ao bH) (ad bH) .none kV9 dc9 pm9 an9 cd9 ct9),sl9⟩) (c9:PySem.W.codeIn K cd9 "common_bottom" = true) (k9:PySem.W.keepIn K (.ref f9)=true)
  (a10:PySem.W.nsIn K mainGlobals "top_over" = some (some (.ref f10))) (l10:K.lookup f10=some ⟨oc10,od10,.func (PySem.W.fnOf "top_over" "top_over" (ax eG) (ao eG) (ad eG) .none kV10 dc10 pm10 an10 cd10 ct10),sl10⟩) (c10:PySem.W.codeIn K cd10 "top_over" = true) (k10:PySem.W.keepIn K (.ref f10)=true)
  (a11:PySem.W.nsIn K mainGlobals "is_whole" = some (some (.ref f11))) (l11:K.lookup f11=some ⟨oc11,od11,.func (PySem.W.fnOf "is_whole" "is_whole" (ax eJ) (ao eJ) (ad eJ) .none kV11 dc11 pm11 an11 cd11 ct11),sl11⟩) (c11:PySem.W.codeIn K cd11 "is_whole" = true) (k11:PySem.W.keepIn K (.ref f11)=true)
  (a12:PySem.W.nsIn K mainGlobals "is_within" = some (some (.ref f12))) (l12:K.lookup f12=some ⟨oc12,od12,.func (PySem.W.fnOf "is_within" "is_within" (ax dr) (ao dr) (ad dr) .none kV12 dc12 pm12 an12 cd12 ct12),sl12⟩) (c12:PySem.W.codeIn K cd12 "is_within" = true) (k12:PySem.W.keepIn K (.ref f12)=true)
  (a13:PySem.W.nsIn K mainGlobals "together" = some (some (.ref f13))) (l13:K.lookup f13=some ⟨oc13,od13,.func (PySem.W.fnOf "together" "together" (ax eK) (ao eK) (ad eK) .none kV13 dc13 pm13 an13 cd13 ct13),sl13⟩) (c13:PySem.W.codeIn K cd13 "together" = true) (k13:PySem.W.keepIn K (.ref f13)=true)
  (a14:PySem.W.nsIn K mainGlobals "together_by_house" = some (some (.ref f14))) (l14:K.lookup f14=some ⟨oc14,od14,.func (PySem.W.fnOf "together_by_house" "together_by_house" (ax aU) (ao aU) (ad aU) .none kV14 dc14 pm14 an14 cd14 ct14),sl14⟩) (c14:PySem.W.codeIn K cd14 "together_by_house" = true) (k14:PySem.W.keepIn K (.ref f14)=true)
  (a15:PySem.W.nsIn K mainGlobals "share_of" = some (some (.ref f15))) (l15:K.lookup f15=some ⟨oc15,od15,.func (PySem.W.fnOf "share_of" "share_of" (ax eL) (ao eL) (ad eL) .none kV15 dc15 pm15 an15 cd15 ct15),sl15⟩) (c15:PySem.W.codeIn K cd15 "share_of" = true) (k15:PySem.W.keepIn K (.ref f15)=true)
  (a16:PySem.W.nsIn K mainGlobals "check_house" = some (some (.ref f16))) (l16:K.lookup f16=some ⟨oc16,od16,.func (PySem.W.fnOf "check_house" "check_house" (ax cr) (ao cr) (ad cr) .none kV16 dc16 pm16 an16 cd16 ct16),sl16⟩) (c16:PySem.W.codeIn K cd16 "check_house" = true) (k16:PySem.W.keepIn K (.ref f16)=true)
  (a17:PySem.W.nsIn K mainGlobals "check_pair" = some (some (.ref f17))) (l17:K.lookup f17=some ⟨oc17,od17,.func (PySem.W.fnOf "check_pair" "check_pair" (ax cQ) (ao cQ) (ad cQ) .none kV17 dc17 pm17 an17 cd17 ct17),sl17⟩) (c17:PySem.W.codeIn K cd17 "check_pair" = true) (k17:PySem.W.keepIn K (.ref f17)=true)
  (a18:PySem.W.nsIn K mainGlobals "houses_of" = some (some (.ref f18))) (l18:K.lookup f18=some ⟨oc18,od18,.func (PySem.W.fnOf "houses_of" "houses_of" (ax du) (ao du) (ad du) .none kV18 dc18 pm18 an18 cd18 ct18),sl18⟩) (c18:PySem.W.codeIn K cd18 "houses_of" = true) (k18:PySem.W.keepIn K (.ref f18)=true)
  (a19:PySem.W.nsIn K mainGlobals "sums_of" = some (some (.ref f19))) (l19:K.lookup f19=some ⟨oc19,od19,.func (PySem.W.fnOf "sums_of" "sums_of" (ax fK) (ao fK) (ad fK) .none kV19 dc19 pm19 an19 cd19 ct19),sl19⟩) (c19:PySem.W.codeIn K cd19 "sums_of" = true) (k19:PySem.W.keepIn K (.ref f19)=true)
  (a20:PySem.W.nsIn K mainGlobals "weights_of" = some (some (.ref f20))) (l20:K.lookup f20=some ⟨oc20,od20,.func (PySem.W.fnOf "weights_of" "weights_of" (ax cR) (ao cR) (ad cR) .none kV20 dc20 pm20 an20 cd20 ct20),sl20⟩) (c20:PySem.W.codeIn K cd20 "weights_of" = true) (k20:PySem.W.keepIn K (.ref f20)=true)
  (a21:PySem.W.nsIn K mainGlobals "ends_of" = some (some (.ref f21))) (l21:K.lookup f21=some ⟨oc21,od21,.func (PySem.W.fnOf "ends_of" "ends_of" (ax fL) (ao fL) (ad fL) .none kV21 dc21 pm21 an21 cd21 ct21),sl21⟩) (c21:PySem.W.codeIn K cd21 "ends_of" = true) (k21:PySem.W.keepIn K (.ref f21)=true)
  (a22:PySem.W.nsIn K mainGlobals "whole_count" = some (some (.ref f22))) (l22:K.lookup f22=some ⟨oc22,od22,.func (PySem.W.fnOf "whole_count" "whole_count" (ax cu) (ao cu) (ad cu) .none kV22 dc22 pm22 an22 cd22 ct22),sl22⟩) (c22:PySem.W.codeIn K cd22 "whole_count" = true) (k22:PySem.W.keepIn K (.ref f22)=true)
  (a23:PySem.W.nsIn K mainGlobals "shares_in" = some (some (.ref f23))) (l23:K.lookup f23=some ⟨oc23,od23,.func (PySem.W.fnOf "shares_in" "shares_in" (ax dw) (ao dw) (ad dw) .none kV23 dc23 pm23 an23 cd23 ct23),sl23⟩) (c23:PySem.W.codeIn K cd23 "shares_in" = true) (k23:PySem.W.keepIn K (.ref f23)=true)
  (a24:PySem.W.nsIn K mainGlobals "ends_among" = some (some (.ref f24))) (l24:K.lookup f24=some ⟨oc24,od24,.func (PySem.W.fnOf "ends_among" "ends_among" (ax cS) (ao cS) (ad cS) .none kV24 dc24 pm24 an24 cd24 ct24),sl24⟩) (c24:PySem.W.codeIn K cd24 "ends_among" = true) (k24:PySem.W.keepIn K (.ref f24)=true)
  (a25:PySem.W.nsIn K mainGlobals "check_same_parts" = some (some (.ref f25))) (l25:K.lookup f25=some ⟨oc25,od25,.func (PySem.W.fnOf "check_same_parts" "check_same_parts" (ax bf) (ao bf) (ad bf) .none kV25 dc25 pm25 an25 cd25 ct25),sl25⟩) (c25:PySem.W.codeIn K cd25 "check_same_parts" = true) (k25:PySem.W.keepIn K (.ref f25)=true)
  (a26:PySem.W.nsIn K mainGlobals "mixed_share" = some (some (.ref f26))) (l26:K.lookup f26=some ⟨oc26,od26,.func (PySem.W.fnOf "mixed_share" "mixed_share" (ax cw) (ao cw) (ad cw) .none kV26 dc26 pm26 an26 cd26 ct26),sl26⟩) (c26:PySem.W.codeIn K cd26 "mixed_share" = true) (k26:PySem.W.keepIn K (.ref f26)=true)
  (a27:PySem.W.nsIn K mainGlobals "reach" = some (some (.ref f27))) (l27:K.lookup f27=some ⟨oc27,od27,.func (PySem.W.fnOf "reach" "reach" (ax jQ) (ao jQ) (ad jQ) .none kV27 dc27 pm27 an27 cd27 ct27),sl27⟩) (c27:PySem.W.codeIn K cd27 "reach" = true) (k27:PySem.W.keepIn K (.ref f27)=true)
  (a28:PySem.W.nsIn K mainGlobals "level" = some (some (.ref f28))) (l28:K.lookup f28=some ⟨oc28,od28,.func (PySem.W.fnOf "level" "level" (ax jR) (ao jR) (ad jR) .none kV28 dc28 pm28 an28 cd28 ct28),sl28⟩) (c28:PySem.W.codeIn K cd28 "level" = true) (k28:PySem.W.keepIn K (.ref f28)=true)
  (a29:PySem.W.nsIn K mainGlobals "levels" = some (some (.ref f29))) (l29:K.lookup f29=some ⟨oc29,od29,.func (PySem.W.fnOf "levels" "levels" (ax ip) (ao ip) (ad ip) .none kV29 dc29 pm29 an29 cd29 ct29),sl29⟩) (c29:PySem.W.codeIn K cd29 "levels" = true) (k29:PySem.W.keepIn K (.ref f29)=true)
  (a30:PySem.W.nsIn K mainGlobals "rising" = some (some (.ref f30))) (l30:K.lookup f30=some ⟨oc30,od30,.func (PySem.W.fnOf "rising" "rising" (ax iq) (ao iq) (ad iq) .none kV30 dc30 pm30 an30 cd30 ct30),sl30⟩) (c30:PySem.W.codeIn K cd30 "rising" = true) (k30:PySem.W.keepIn K (.ref f30)=true)
  (a31:PySem.W.nsIn K mainGlobals "weights_left" = some (some (.ref f31))) (l31:K.lookup f31=some ⟨oc31,od31,.func (PySem.W.fnOf "weights_left" "weights_left" (ax bW) (ao bW) (ad bW) .none kV31 dc31 pm31 an31 cd31 ct31),sl31⟩) (c31:PySem.W.codeIn K cd31 "weights_left" = true) (k31:PySem.W.keepIn K (.ref f31)=true)
  (a32:PySem.W.nsIn K mainGlobals "_law_pen" = some (some (.ref f32))) (l32:K.lookup f32=some ⟨oc32,od32,.func (PySem.W.fnOf "_law_pen" "_law_pen" (ax eM) (ao eM) (ad eM) .none kV32 dc32 pm32 an32 cd32 ct32),sl32⟩) (c32:PySem.W.codeIn K cd32 "_law_pen" = true) (k32:PySem.W.keepIn K (.ref f32)=true)
  (a33:PySem.W.nsIn K mainGlobals "_law_next" = some (some (.ref f33))) (l33:K.lookup f33=some ⟨oc33,od33,.func (PySem.W.fnOf "_law_next" "_law_next" (ax dz) (ao dz) (ad dz) .none kV33 dc33 pm33 an33 cd33 ct33),sl33⟩) (c33:PySem.W.codeIn K cd33 "_law_next" = true) (k33:PySem.W.keepIn K (.ref f33)=true)
  (a34:PySem.W.nsIn K mainGlobals "_law_part" = some (some (.ref f34))) (l34:K.lookup f34=some ⟨oc34,od34,.func (PySem.W.fnOf "_law_part" "_law_part" (ax dA) (ao dA) (ad dA) .none kV34 dc34 pm34 an34 cd34 ct34),sl34⟩) (c34:PySem.W.codeIn K cd34 "_law_part" = true) (k34:PySem.W.keepIn K (.ref f34)=true)
  (a35:PySem.W.nsIn K mainGlobals "_law_table" = some (some (.ref f35))) (l35:K.lookup f35=some ⟨oc35,od35,.func (PySem.W.fnOf "_law_table" "_law_table" (ax cT) (ao cT) (ad cT) .none kV35 dc35 pm35 an35 cd35 ct35),sl35⟩) (c35:PySem.W.codeIn K cd35 "_law_table" = true) (k35:PySem.W.keepIn K (.ref f35)=true)
  (a36:PySem.W.nsIn K mainGlobals "_law_at_the_top" = some (some (.ref f36))) (l36:K.lookup f36=some ⟨oc36,od36,.func (PySem.W.fnOf "_law_at_the_top" "_law_at_the_top" (ax bn) (ao bn) (ad bn) .none kV36 dc36 pm36 an36 cd36 ct36),sl36⟩) (c36:PySem.W.codeIn K cd36 "_law_at_the_top" = true) (k36:PySem.W.keepIn K (.ref f36)=true)
  (a37:PySem.W.nsIn K mainGlobals "_law_low" = some (some (.ref f37))) (l37:K.lookup f37=some ⟨oc37,od37,.func (PySem.W.fnOf "_law_low" "_law_low" (ax eO) (ao eO) (ad eO) .none kV37 dc37 pm37 an37 cd37 ct37),sl37⟩) (c37:PySem.W.codeIn K cd37 "_law_low" = true) (k37:PySem.W.keepIn K (.ref f37)=true)
  (a38:PySem.W.nsIn K mainGlobals "_law_plus" = some (some (.ref f38))) (l38:K.lookup f38=some ⟨oc38,od38,.func (PySem.W.fnOf "_law_plus" "_law_plus" (ax dD) (ao dD) (ad dD) .none kV38 dc38 pm38 an38 cd38 ct38),sl38⟩) (c38:PySem.W.codeIn K cd38 "_law_plus" = true) (k38:PySem.W.keepIn K (.ref f38)=true)
  (a39:PySem.W.nsIn K mainGlobals "_law_less" = some (some (.ref f39))) (l39:K.lookup f39=some ⟨oc39,od39,.func (PySem.W.fnOf "_law_less" "_law_less" (ax dE) (ao dE) (ad dE) .none kV39 dc39 pm39 an39 cd39 ct39),sl39⟩) (c39:PySem.W.codeIn K cd39 "_law_less" = true) (k39:PySem.W.keepIn K (.ref f39)=true)
  (a40:PySem.W.nsIn K mainGlobals "_law_times" = some (some (.ref f40))) (l40:K.lookup f40=some ⟨oc40,od40,.func (PySem.W.fnOf "_law_times" "_law_times" (ax cU) (ao cU) (ad cU) .none kV40 dc40 pm40 an40 cd40 ct40),sl40⟩) (c40:PySem.W.codeIn K cd40 "_law_times" = true) (k40:PySem.W.keepIn K (.ref f40)=true)
  (a41:PySem.W.nsIn K mainGlobals "_law_is_ratio" = some (some (.ref f41))) (l41:K.lookup f41=some ⟨oc41,od41,.func (PySem.W.fnOf "_law_is_ratio" "_law_is_ratio" (ax bI) (ao bI) (ad bI) .none kV41 dc41 pm41 an41 cd41 ct41),sl41⟩) (c41:PySem.W.codeIn K cd41 "_law_is_ratio" = true) (k41:PySem.W.keepIn K (.ref f41)=true)
  (a42:PySem.W.nsIn K mainGlobals "_law_mixed" = some (some (.ref f42))) (l42:K.lookup f42=some ⟨oc42,od42,.func (PySem.W.fnOf "_law_mixed" "_law_mixed" (ax cV) (ao cV) (ad cV) .none kV42 dc42 pm42 an42 cd42 ct42),sl42⟩) (c42:PySem.W.codeIn K cd42 "_law_mixed" = true) (k42:PySem.W.keepIn K (.ref f42)=true)
  (a43:PySem.W.nsIn K mainGlobals "_law_weights_right" = some (some (.ref f43))) (l43:K.lookup f43=some ⟨oc43,od43,.func (PySem.W.fnOf "_law_weights_right" "_law_weights_right" (ax aS) (ao aS) (ad aS) .none kV43 dc43 pm43 an43 cd43 ct43),sl43⟩) (c43:PySem.W.codeIn K cd43 "_law_weights_right" = true) (k43:PySem.W.keepIn K (.ref f43)=true)
  (a44:PySem.W.nsIn K mainGlobals "_law_bar_right" = some (some (.ref f44))) (l44:K.lookup f44=some ⟨oc44,od44,.func (PySem.W.fnOf "_law_bar_right" "_law_bar_right" (ax bv) (ao bv) (ad bv) .none kV44 dc44 pm44 an44 cd44 ct44),sl44⟩) (c44:PySem.W.codeIn K cd44 "_law_bar_right" = true) (k44:PySem.W.keepIn K (.ref f44)=true)
  (a45:PySem.W.nsIn K mainGlobals "_law_top" = some (some (.ref f45))) (l45:K.lookup f45=some ⟨oc45,od45,.func (PySem.W.fnOf "_law_top" "_law_top" (ax eP) (ao eP) (ad eP) .none kV45 dc45 pm45 an45 cd45 ct45),sl45⟩) (c45:PySem.W.codeIn K cd45 "_law_top" = true) (k45:PySem.W.keepIn K (.ref f45)=true)
  (a46:PySem.W.nsIn K mainGlobals "_law_right" = some (some (.ref f46))) (l46:K.lookup f46=some ⟨oc46,od46,.func (PySem.W.fnOf "_law_right" "_law_right" (ax cX) (ao cX) (ad cX) .none kV46 dc46 pm46 an46 cd46 ct46),sl46⟩) (c46:PySem.W.codeIn K cd46 "_law_right" = true) (k46:PySem.W.keepIn K (.ref f46)=true)
  (a47:PySem.W.nsIn K mainGlobals "law" = some (some (.ref f47))) (l47:K.lookup f47=some ⟨oc47,od47,.func (PySem.W.fnOf "law" "law" (ax oy) (ao oy) (ad oy) .none kV47 dc47 pm47 an47 cd47 ct47),sl47⟩) (c47:PySem.W.codeIn K cd47 "law" = true) (k47:PySem.W.keepIn K (.ref f47)=true)
  (z0:PySem.W.nsIn K mainGlobals "ValueError" = some none) (z1:PySem.W.nsIn K mainGlobals "abs" = some none) (z2:PySem.W.nsIn K mainGlobals "sum" = some none) (z3:PySem.W.nsIn K mainGlobals "tuple" = some none) (z4:PySem.W.nsIn K mainGlobals "len" = some none) (z5:PySem.W.nsIn K mainGlobals "enumerate" = some none) (z6:PySem.W.nsIn K mainGlobals "zip" = some none) (z7:PySem.W.nsIn K mainGlobals "sorted" = some none) (z8:PySem.W.nsIn K mainGlobals "range" = some none) (z9:PySem.W.nsIn K mainGlobals "list" = some none) (z10:PySem.W.nsIn K mainGlobals "isinstance" = some none) (z11:PySem.W.nsIn K mainGlobals "int" = some none) (z12:PySem.W.nsIn K mainGlobals "bool" = some none)
  {ts:List Addr} {ff lp_rising:Addr}
  {uo_rising:Value} {ud_rising:Option Addr} {uv_rising:Array Value} {us_rising:Array (Option Value)}
  (mL:cd30 = .ref ff)
  (qO:K.lookup ff=some ⟨uo_rising,ud_rising,.fields uv_rising,us_rising⟩)
  (qP:uv_rising[11]? = some (.ref lp_rising))
  (jE:PySem.W.codeHdIn K ff lp_rising=true)
  (mO:K.lookup lp_rising=none)
  (mS:lp_rising∈ts)
  (mT:([(lp_rising,"rising.<locals>.<lambda>")]:List (Addr×Str)).lookup lp_rising=some ("rising.<locals>.<lambda>" : Str))
  :
  ∃ (fd:FuncData) (tb:List (Addr×Str)),(∀ (s:Shared) (v:Value),BindsTo s fd ⟨[v],[]⟩ [("_law_script",v)]) /\ (∀ q∈tb,(∃ c,PySem.W.codeHdIn K c q.1=true) /\ q.1∈ts /\ K.lookup q.1=none) /\ ∀ base:Heap,K.In base->base.Ns mainGlobals mg->Bm mg base->FnOk l.prog w K mg base CX0 14 fa fd ["_law_script"] (@DL.spLaw ⟨tb⟩ K):=by
 have e:=hfa.symm.trans (PySem.W.mg_of X G a47)
 cases e
 have F0:=aG (st:=bc) l0 c0 k0
 have F1:=aG (st:=eF) l1 c1 k1
 have F2:=aG (st:=nC) l2 c2 k2
 have F3:=aG (st:=jN) l3 c3 k3
 have F4:=aG (st:=jO) l4 c4 k4
 have F5:=aG (st:=nD) l5 c5 k5
 have F6:=aG (st:=nE) l6 c6 k6
 have F7:=aG (st:=jP) l7 c7 k7
 have F8:=aG (st:=io) l8 c8 k8
 have F9:=aG (st:=bH) l9 c9 k9
 have F10:=aG (st:=eG) l10 c10 k10
 have F11:=aG (st:=eJ) l11 c11 k11
 have F12:=aG (st:=dr) l12 c12 k12
 have F13:=aG (st:=eK) l13 c13 k13
 have F14:=aG (st:=aU) l14 c14 k14
 have F15:=aG (st:=eL) l15 c15 k15
 have F16:=aG (st:=cr) l16 c16 k16
 have F17:=aG (st:=cQ) l17 c17 k17
 have F18:=aG (st:=du) l18 c18 k18
 have F19:=aG (st:=fK) l19 c19 k19
 have F20:=aG (st:=cR) l20 c20 k20
 have F21:=aG (st:=fL) l21 c21 k21
 have F22:=aG (st:=cu) l22 c22 k22
 have F23:=aG (st:=dw) l23 c23 k23
 have F24:=aG (st:=cS) l24 c24 k24
 have F25:=aG (st:=bf) l25 c25 k25
 have F26:=aG (st:=cw) l26 c26 k26
 have F27:=aG (st:=jQ) l27 c27 k27
 have F28:=aG (st:=jR) l28 c28 k28
 have F29:=aG (st:=ip) l29 c29 k29
 have F30:=aG (st:=iq) l30 c30 k30
 have F31:=aG (st:=bW) l31 c31 k31
 have F32:=aG (st:=eM) l32 c32 k32
 have F33:=aG (st:=dz) l33 c33 k33
 have F34:=aG (st:=dA) l34 c34 k34
 have F35:=aG (st:=cT) l35 c35 k35
 have F36:=aG (st:=bn) l36 c36 k36
 have F37:=aG (st:=eO) l37 c37 k37
 have F38:=aG (st:=dD) l38 c38 k38
 have F39:=aG (st:=dE) l39 c39 k39
 have F40:=aG (st:=cU) l40 c40 k40
 have F41:=aG (st:=bI) l41 c41 k41
 have F42:=aG (st:=cV) l42 c42 k42
 have F43:=aG (st:=aS) l43 c43 k43
 have F44:=aG (st:=bv) l44 c44 k44
 have F45:=aG (st:=eP) l45 c45 k45
 have F46:=aG (st:=cX) l46 c46 k46
 have F47:=aG (st:=oy) l47 c47 k47
 letI tbi:DL.TB:=⟨[(lp_rising,"rising.<locals>.<lambda>")]⟩
 let T:Tx K mg:={ df:=f0,cK:=_,aK:=⟨F0,PySem.W.mg_of X G a0,F0.binds (ps:=["one","other"]) (fun _ _ _ _ _ _ us hl=>match us,hl with | [_,_],_=>rfl)⟩,jY:=f1,iX:=_,aE:=⟨F1,PySem.W.mg_of X G a1,F1.binds (ps:=["top","bottom"]) (fun _ _ _ _ _ _ us hl=>match us,hl with | [_,_],_=>rfl)⟩,wv:=f2,rY:=_,dX:=⟨F2,PySem.W.mg_of X G a2,F2.binds (ps:=["one","other"]) (fun _ _ _ _ _ _ us hl=>match us,hl with | [_,_],_=>rfl)⟩,si:=f3,oP:=_,cg:=⟨F3,PySem.W.mg_of X G a3,F3.binds (ps:=["one","other"]) (fun _ _ _ _ _ _ us hl=>match us,hl with | [_,_],_=>rfl)⟩,rZ:=f4,oS:=_,gQ:=⟨F4,PySem.W.mg_of X G a4,F4.binds (ps:=["one","other"]) (fun _ _ _ _ _ _ us hl=>match us,hl with | [_,_],_=>rfl)⟩,wx:=f5,se:=_,qN:=⟨F5,PySem.W.mg_of X G a5,F5.binds (ps:=["one","other"]) (fun _ _ _ _ _ _ us hl=>match us,hl with | [_,_],_=>rfl)⟩,ww:=f6,sf:=_,ci:=⟨F6,PySem.W.mg_of X G a6,F6.binds (ps:=["one","other"]) (fun _ _ _ _ _ _ us hl=>match us,hl with | [_,_],_=>rfl)⟩,oO:=f7,ly:=_,eX:=⟨F7,PySem.W.mg_of X G a7,F7.binds (ps:=["ratios"]) (fun _ _ _ _ _ _ us hl=>match us,hl with | [_],_=>rfl)⟩,oN:=f8,mP:=_,jD:=⟨F8,PySem.W.mg_of X G a8,F8.binds (ps:=["one","other"]) (fun _ _ _ _ _ _ us hl=>match us,hl with | [_,_],_=>rfl)⟩,eZ:=f9,eA:=_,cm:=⟨F9,PySem.W.mg_of X G a9,F9.binds (ps:=["ratios"]) (fun _ _ _ _ _ _ us hl=>match us,hl with | [_],_=>rfl)⟩,km:=f10,iP:=_,fP:=⟨F10,PySem.W.mg_of X G a10,F10.binds (ps:=["ratio","bottom"]) (fun _ _ _ _ _ _ us hl=>match us,hl with | [_,_],_=>rfl)⟩,kq:=f11,iN:=_,fO:=⟨F11,PySem.W.mg_of X G a11,F11.binds (ps:=["thing"]) (fun _ _ _ _ _ _ us hl=>match us,hl with | [_],_=>rfl)⟩,ja:=f12,gS:=_,fc:=⟨F12,PySem.W.mg_of X G a12,F12.binds (ps:=["thing","least","most"]) (fun _ _ _ _ _ _ us hl=>match us,hl with | [_,_,_],_=>rfl)⟩,kc:=f13,iV:=_,fN:=⟨F13,PySem.W.mg_of X G a13,F13.binds (ps:=["counts"]) (fun _ _ _ _ _ _ us hl=>match us,hl with | [_],_=>rfl)⟩,cM:=f14,cA:=_,br:=⟨F14,PySem.W.mg_of X G a14,F14.binds (ps:=["many","rows"]) (fun _ _ _ _ _ _ us hl=>match us,hl with | [_,_],_=>rfl)⟩,kj:=f15,iR:=_,bJ:=⟨F15,PySem.W.mg_of X G a15,F15.binds (ps:=["count"]) (fun _ _ _ _ _ _ us hl=>match us,hl with | [_],_=>rfl)⟩,gi:=f16,fC:=_,aQ:=⟨F16,PySem.W.mg_of X G a16,F16.binds (ps:=["many","house"]) (fun _ _ _ _ _ _ us hl=>match us,hl with | [_,_],_=>rfl)⟩,gX:=f17,gl:=_,dU:=⟨F17,PySem.W.mg_of X G a17,F17.binds (ps:=["many","a","b"]) (fun _ _ _ _ _ _ us hl=>match us,hl with | [_,_,_],_=>rfl)⟩,iY:=f18,gZ:=_,bu:=⟨F18,PySem.W.mg_of X G a18,F18.binds (ps:=["table"]) (fun _ _ _ _ _ _ us hl=>match us,hl with | [_],_=>rfl)⟩,mM:=f19,kg:=_,gU:=⟨F19,PySem.W.mg_of X G a19,F19.binds (ps:=["table"]) (fun _ _ _ _ _ _ us hl=>match us,hl with | [_],_=>rfl)⟩,gR:=f20,gk:=_,aX:=⟨F20,PySem.W.mg_of X G a20,F20.binds (ps:=["table","house"]) (fun _ _ _ _ _ _ us hl=>match us,hl with | [_,_],_=>rfl)⟩,mQ:=f21,jZ:=_,dS:=⟨F21,PySem.W.mg_of X G a21,F21.binds (ps:=["table","house"]) (fun _ _ _ _ _ _ us hl=>match us,hl with | [_,_],_=>rfl)⟩,gf:=f22,fG:=_,ay:=⟨F22,PySem.W.mg_of X G a22,F22.binds (ps:=["table","house"]) (fun _ _ _ _ _ _ us hl=>match us,hl with | [_,_],_=>rfl)⟩,iU:=f23,gP:=_,bo:=⟨F23,PySem.W.mg_of X G a23,F23.binds (ps:=["table","house"]) (fun _ _ _ _ _ _ us hl=>match us,hl with | [_,_],_=>rfl)⟩,ib:=f24,gd:=_,dR:=⟨F24,PySem.W.mg_of X G a24,F24.binds (ps:=["ratios"]) (fun _ _ _ _ _ _ us hl=>match us,hl with | [_],_=>rfl)⟩,dh:=f25,cL:=_,bB:=⟨F25,PySem.W.mg_of X G a25,F25.binds (ps:=["table","a","b"]) (fun _ _ _ _ _ _ us hl=>match us,hl with | [_,_,_],_=>rfl)⟩,gv:=f26,fE:=_,dl:=⟨F26,PySem.W.mg_of X G a26,F26.binds (ps:=["table","house","weights"]) (fun _ _ _ _ _ _ us hl=>match us,hl with | [_,_,_],_=>rfl)⟩,oM:=f27,lz:=_,mR:=⟨F27,PySem.W.mg_of X G a27,F27.binds (ps:=["table","a","b"]) (fun _ _ _ _ _ _ us hl=>match us,hl with | [_,_,_],_=>rfl)⟩,sg:=f28,oT:=_,mK:=⟨F28,PySem.W.mg_of X G a28,F28.binds (ps:=["table","a","b"]) (fun _ _ _ _ _ _ us hl=>match us,hl with | [_,_,_],_=>rfl)⟩,oR:=f29,mU:=_,fy:=⟨F29,PySem.W.mg_of X G a29,F29.binds (ps:=["table","a","b"]) (fun _ _ _ _ _ _ us hl=>match us,hl with | [_,_,_],_=>rfl)⟩,oQ:=f30,jB:=_,jC:=⟨F30,PySem.W.mg_of X G a30,F30.binds (ps:=["shares"]) (fun _ _ _ _ _ _ us hl=>match us,hl with | [_],_=>rfl)⟩,fF:=f31,eV:=_,cG:=⟨F31,PySem.W.mg_of X G a31,F31.binds (ps:=["table","a","b","bar","rest"]) (fun _ _ _ _ _ _ us hl=>match us,hl with | [_,_,_,_,_],_=>rfl)⟩,ko:=f32,iT:=_,fQ:=⟨F32,PySem.W.mg_of X G a32,F32.binds (ps:=["_law_script"]) (fun _ _ _ _ _ _ us hl=>match us,hl with | [_],_=>rfl)⟩,gh:=f33,fx:=_,aj:=⟨F33,PySem.W.mg_of X G a33,F33.binds (ps:=["_law_pen_here","_law_many"]) (fun _ _ _ _ _ _ us hl=>match us,hl with | [_,_],_=>rfl)⟩,iZ:=f34,hU:=_,ck:=⟨F34,PySem.W.mg_of X G a34,F34.binds (ps:=["_law_pen_here","_law_many","_law_far","_law_raised"]) (fun _ _ _ _ _ _ us hl=>match us,hl with | [_,_,_,_],_=>rfl)⟩,hV:=f35,gc:=_,dW:=⟨F35,PySem.W.mg_of X G a35,F35.binds (ps:=["_law_pen_here","_law_many"]) (fun _ _ _ _ _ _ us hl=>match us,hl with | [_,_],_=>rfl)⟩,dM:=f36,dg:=_,bK:=⟨F36,PySem.W.mg_of X G a36,F36.binds (ps:=["_law_table_here"]) (fun _ _ _ _ _ _ us hl=>match us,hl with | [_],_=>rfl)⟩,kh:=f37,iO:=_,aD:=⟨F37,PySem.W.mg_of X G a37,F37.binds (ps:=["_law_top_here","_law_bottom"]) (fun _ _ _ _ _ _ us hl=>match us,hl with | [_,_],_=>rfl)⟩,iW:=f38,ia:=_,aR:=⟨F38,PySem.W.mg_of X G a38,F38.binds (ps:=["_law_one","_law_other"]) (fun _ _ _ _ _ _ us hl=>match us,hl with | [_,_],_=>rfl)⟩,iQ:=f39,hZ:=_,aq:=⟨F39,PySem.W.mg_of X G a39,F39.binds (ps:=["_law_one","_law_other"]) (fun _ _ _ _ _ _ us hl=>match us,hl with | [_,_],_=>rfl)⟩,gT:=f40,gj:=_,aY:=⟨F40,PySem.W.mg_of X G a40,F40.binds (ps:=["_law_one","_law_other"]) (fun _ _ _ _ _ _ us hl=>match us,hl with | [_,_],_=>rfl)⟩,eY:=f41,eB:=_,aI:=⟨F41,PySem.W.mg_of X G a41,F41.binds (ps:=["_law_thing"]) (fun _ _ _ _ _ _ us hl=>match us,hl with | [_],_=>rfl)⟩,ic:=f42,gg:=_,bR:=⟨F42,PySem.W.mg_of X G a42,F42.binds (ps:=["_law_weights","_law_shares"]) (fun _ _ _ _ _ _ us hl=>match us,hl with | [_,_],_=>rfl)⟩,cB:=f43,cj:=_,bi:=⟨F43,PySem.W.mg_of X G a43,F43.binds (ps:=["_law_weights","_law_mine","_law_m"]) (fun _ _ _ _ _ _ us hl=>match us,hl with | [_,_,_],_=>rfl)⟩,eC:=f44,dL:=_,bV:=⟨F44,PySem.W.mg_of X G a44,F44.binds (ps:=["_law_bar","_law_m","_law_top_here","_law_missing","_law_mine","_law_shares"]) (fun _ _ _ _ _ _ us hl=>match us,hl with | [_,_,_,_,_,_],_=>rfl)⟩,kf:=f45,iS:=_,fR:=⟨F45,PySem.W.mg_of X G a45,F45.binds (ps:=["_law_shares"]) (fun _ _ _ _ _ _ us hl=>match us,hl with | [_],_=>rfl)⟩,gY:=f46,gu:=_,bQ:=⟨F46,PySem.W.mg_of X G a46,F46.binds (ps:=["_law_table_here","_law_a","_law_b"]) (fun _ _ _ _ _ _ us hl=>match us,hl with | [_,_,_],_=>rfl)⟩,Ai:=fa,wy:=_,Cs:=⟨F47,PySem.W.mg_of X G a47,F47.binds (ps:=["_law_script"]) (fun _ _ _ _ _ _ us hl=>match us,hl with | [_],_=>rfl)⟩,qM:=PySem.W.mg_none_of X G z0,Ah:=PySem.W.mg_none_of X G z1,wz:=PySem.W.mg_none_of X G z2,kl:=PySem.W.mg_none_of X G z3,ki:=PySem.W.mg_none_of X G z4,fg:=PySem.W.mg_none_of X G z5,uA:=PySem.W.mg_none_of X G z6,tM:=PySem.W.mg_none_of X G z7,mN:=PySem.W.mg_none_of X G z8,tN:=PySem.W.mg_none_of X G z9,bA:=PySem.W.mg_none_of X G z10,xP:=PySem.W.mg_none_of X G z11,wu:=PySem.W.mg_none_of X G z12,ff:=⟨ff,lp_rising,mL,jE,mT⟩ }
 exact ⟨PySem.W.fnOf "law" "law" (ax oy) (ao oy) (ad oy) .none kV47 dc47 pm47 an47 cd47 ct47,[(lp_rising,"rising.<locals>.<lambda>")],fun s v=>.of_eq rfl,List.forall_mem_cons.mpr ⟨⟨⟨_,jE⟩,mS,mO⟩,fun _ h=>nomatch h⟩,fun base _ _ B=>DF T B⟩
end My
theorem PySem.W.Fast.tw16201036246827670877:True:=trivial
theorem PySem.W.Fast.tw12756449339997386293:True:=trivial
theorem PySem.W.Fast.tw11117189837253368402:True:=trivial
theorem PySem.W.Fast.tw18138735252706792016:True:=trivial
theorem PySem.W.Fast.tw10771602730326321160:True:=trivial
theorem PySem.W.Fast.tw16473506940814932009:True:=trivial
theorem PySem.W.Fast.tw2856758142989689889:True:=trivial
theorem PySem.W.Fast.tw8504815346203031734:True:=trivial
theorem PySem.W.Fast.tw14063783307295076871:True:=trivial
theorem PySem.W.Fast.tw18166426653214015142:True:=trivial
theorem PySem.W.Fast.tw2724005348057451089:True:=trivial
theorem PySem.W.Fast.tw11693016148694016879:True:=trivial
theorem PySem.W.Fast.tw13525533093645042255:True:=trivial
theorem PySem.W.Fast.tw13162942028938315692:True:=trivial
theorem PySem.W.Fast.tw16043808830386606926:True:=trivial
open PySem PySem.W PyProof.Rows
set_option maxRecDepth 100000 in
set_option maxHeartbeats 0 in
theorem PySem.Challenge.cw_othersum_k62_how_little_uneven_it_comes_holds : PySem.Challenge.rw_othersum_k62_how_little_uneven_it_comes.Holds := by
  w_on; o_law; k_head; (case hw => w_witness2)
  k_fill
  refine DL.walk_ofT (l := PySem.Challenge.rw_othersum_k62_how_little_uneven_it_comes) (n := 63) (k := 14) (x := "_law_script") rfl (by decide) rfl ⟨rfl, by decide, by decide⟩ (fun w h Y => PySem.W.km_in_of Y) (fun w h Y => PySem.W.km_tabs_of Y) ?F
  case F =>
    intro w mg fa h KX G hmg
    refine' My.all_mk KX G hmg ?a0 ?l0 ?c0 ?k0 ?a1 ?l1 ?c1 ?k1 ?a2 ?l2 ?c2 ?k2 ?a3 ?l3 ?c3 ?k3 ?a4 ?l4 ?c4 ?k4 ?a5 ?l5 ?c5 ?k5 ?a6 ?l6 ?c6 ?k6 ?a7 ?l7 ?c7 ?k7 ?a8 ?l8 ?c8 ?k8 ?a9 ?l9 ?c9 ?k9 ?a10 ?l10 ?c10 ?k10 ?a11 ?l11 ?c11 ?k11 ?a12 ?l12 ?c12 ?k12 ?a13 ?l13 ?c13 ?k13 ?a14 ?l14 ?c14 ?k14 ?a15 ?l15 ?c15 ?k15 ?a16 ?l16 ?c16 ?k16 ?a17 ?l17 ?c17 ?k17 ?a18 ?l18 ?c18 ?k18 ?a19 ?l19 ?c19 ?k19 ?a20 ?l20 ?c20 ?k20 ?a21 ?l21 ?c21 ?k21 ?a22 ?l22 ?c22 ?k22 ?a23 ?l23 ?c23 ?k23 ?a24 ?l24 ?c24 ?k24 ?a25 ?l25 ?c25 ?k25 ?a26 ?l26 ?c26 ?k26 ?a27 ?l27 ?c27 ?k27 ?a28 ?l28 ?c28 ?k28 ?a29 ?l29 ?c29 ?k29 ?a30 ?l30 ?c30 ?k30 ?a31 ?l31 ?c31 ?k31 ?a32 ?l32 ?c32 ?k32 ?a33 ?l33 ?c33 ?k33 ?a34 ?l34 ?c34 ?k34 ?a35 ?l35 ?c35 ?k35 ?a36 ?l36 ?c36 ?k36 ?a37 ?l37 ?c37 ?k37 ?a38 ?l38 ?c38 ?k38 ?a39 ?l39 ?c39 ?k39 ?a40 ?l40 ?c40 ?k40 ?a41 ?l41 ?c41 ?k41 ?a42 ?l42 ?c42 ?k42 ?a43 ?l43 ?c43 ?k43 ?a44 ?l44 ?c44 ?k44 ?a45 ?l45 ?c45 ?k45 ?a46 ?l46 ?c46 ?k46 ?a47 ?l47 ?c47 ?k47 ?z0 ?z1 ?z2 ?z3 ?z4 ?z5 ?z6 ?z7 ?z8 ?z9 ?z10 ?z11 ?z12 ?mL ?qO ?qP ?jE ?mO ?mS ?mT
    (case a0 => k_is)
    (case l0 => k_is)
    (case c0 => k_is)
    (case k0 => k_is)
    (case a1 => k_is)
    (case l1 => k_is)
    (case c1 => k_is)
    (case k1 => k_is)
    (case a2 => k_is)
    (case l2 => k_is)
    (case c2 => k_is)
    (case k2 => k_is)
    (case a3 => k_is)
    (case l3 => k_is)
    (case c3 => k_is)
    (case k3 => k_is)
    (case a4 => k_is)
    (case l4 => k_is)
    (case c4 => k_is)
    (case k4 => k_is)
    (case a5 => k_is)
    (case l5 => k_is)
    (case c5 => k_is)
    (case k5 => k_is)
    (case a6 => k_is)
    (case l6 => k_is)
    (case c6 => k_is)
    (case k6 => k_is)
    (case a7 => k_is)
    (case l7 => k_is)
    (case c7 => k_is)
    (case k7 => k_is)
    (case a8 => k_is)
    (case l8 => k_is)
    (case c8 => k_is)
    (case k8 => k_is)
    (case a9 => k_is)
    (case l9 => k_is)
    (case c9 => k_is)
    (case k9 => k_is)
    (case a10 => k_is)
    (case l10 => k_is)
    (case c10 => k_is)
    (case k10 => k_is)
    (case a11 => k_is)
    (case l11 => k_is)
    (case c11 => k_is)
    (case k11 => k_is)
    (case a12 => k_is)
    (case l12 => k_is)
    (case c12 => k_is)
    (case k12 => k_is)
    (case a13 => k_is)
    (case l13 => k_is)
    (case c13 => k_is)
    (case k13 => k_is)
    (case a14 => k_is)
    (case l14 => k_is)
    (case c14 => k_is)
    (case k14 => k_is)
    (case a15 => k_is)
    (case l15 => k_is)
    (case c15 => k_is)
    (case k15 => k_is)
    (case a16 => k_is)
    (case l16 => k_is)
    (case c16 => k_is)
    (case k16 => k_is)
    (case a17 => k_is)
    (case l17 => k_is)
    (case c17 => k_is)
    (case k17 => k_is)
    (case a18 => k_is)
    (case l18 => k_is)
    (case c18 => k_is)
    (case k18 => k_is)
    (case a19 => k_is)
    (case l19 => k_is)
    (case c19 => k_is)
    (case k19 => k_is)
    (case a20 => k_is)
    (case l20 => k_is)
    (case c20 => k_is)
    (case k20 => k_is)
    (case a21 => k_is)
    (case l21 => k_is)
    (case c21 => k_is)
    (case k21 => k_is)
    (case a22 => k_is)
    (case l22 => k_is)
    (case c22 => k_is)
    (case k22 => k_is)
    (case a23 => k_is)
    (case l23 => k_is)
    (case c23 => k_is)
    (case k23 => k_is)
    (case a24 => k_is)
    (case l24 => k_is)
    (case c24 => k_is)
    (case k24 => k_is)
    (case a25 => k_is)
    (case l25 => k_is)
    (case c25 => k_is)
    (case k25 => k_is)
    (case a26 => k_is)
    (case l26 => k_is)
    (case c26 => k_is)
    (case k26 => k_is)
    (case a27 => k_is)
    (case l27 => k_is)
    (case c27 => k_is)
    (case k27 => k_is)
    (case a28 => k_is)
    (case l28 => k_is)
    (case c28 => k_is)
    (case k28 => k_is)
    (case a29 => k_is)
    (case l29 => k_is)
    (case c29 => k_is)
    (case k29 => k_is)
    (case a30 => k_is)
    (case l30 => k_is)
    (case c30 => k_is)
    (case k30 => k_is)
    (case a31 => k_is)
    (case l31 => k_is)
    (case c31 => k_is)
    (case k31 => k_is)
    (case a32 => k_is)
    (case l32 => k_is)
    (case c32 => k_is)
    (case k32 => k_is)
    (case a33 => k_is)
    (case l33 => k_is)
    (case c33 => k_is)
    (case k33 => k_is)
    (case a34 => k_is)
    (case l34 => k_is)
    (case c34 => k_is)
    (case k34 => k_is)
    (case a35 => k_is)
    (case l35 => k_is)
    (case c35 => k_is)
    (case k35 => k_is)
    (case a36 => k_is)
    (case l36 => k_is)
    (case c36 => k_is)
    (case k36 => k_is)
    (case a37 => k_is)
    (case l37 => k_is)
    (case c37 => k_is)
    (case k37 => k_is)
    (case a38 => k_is)
    (case l38 => k_is)
    (case c38 => k_is)
    (case k38 => k_is)
    (case a39 => k_is)
    (case l39 => k_is)
    (case c39 => k_is)
    (case k39 => k_is)
    (case a40 => k_is)
    (case l40 => k_is)
    (case c40 => k_is)
    (case k40 => k_is)
    (case a41 => k_is)
    (case l41 => k_is)
    (case c41 => k_is)
    (case k41 => k_is)
    (case a42 => k_is)
    (case l42 => k_is)
    (case c42 => k_is)
    (case k42 => k_is)
    (case a43 => k_is)
    (case l43 => k_is)
    (case c43 => k_is)
    (case k43 => k_is)
    (case a44 => k_is)
    (case l44 => k_is)
    (case c44 => k_is)
    (case k44 => k_is)
    (case a45 => k_is)
    (case l45 => k_is)
    (case c45 => k_is)
    (case k45 => k_is)
    (case a46 => k_is)
    (case l46 => k_is)
    (case c46 => k_is)
    (case k46 => k_is)
    (case a47 => k_is)
    (case l47 => k_is)
    (case c47 => k_is)
    (case k47 => k_is)
    (case z0 => k_is)
    (case z1 => k_is)
    (case z2 => k_is)
    (case z3 => k_is)
    (case z4 => k_is)
    (case z5 => k_is)
    (case z6 => k_is)
    (case z7 => k_is)
    (case z8 => k_is)
    (case z9 => k_is)
    (case z10 => k_is)
    (case z11 => k_is)
    (case z12 => k_is)
    (case mL => exact rfl)
    (case qO => k_is)
    (case qP => exact rfl)
    (case jE => kernel_rfl)
    (case mO => first | k_is | kernel_rfl)
    (case mS => first | k_mem | decide | simp)
    (case mT => kernel_rfl)
#print axioms PySem.Challenge.cw_othersum_k62_how_little_uneven_it_comes_holds