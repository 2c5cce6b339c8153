import PyProof.Rows.All
import Wide.All
import OpenK.AllK
import Wide.FinOn
import Lean
import PyProof.EqAt
import PyProof.EqKinds
import PyProof.TupleCall
import PySem.Challenge.RW_othersum_k45_whole_a_turned_knot_between
noncomputable section
set_option Elab.async false
set_option linter.all false
set_option maxRecDepth 100000
namespace L2
open PySem PySem.Spec PyProof.Rows
abbrev Key:=Sum Int Str
def keyIs:Key -> Value -> Bool
 | .inl k,v=>Value.isInt k v
 | .inr x,v=>Value.isStrOf x v
def keyH (w:World):Key -> Int
 | .inl k=>hashInt k
 | .inr x=>hashStr w x
theorem keyIs_shape:∀ {k:Key} {v:Value},keyIs k v = true -> (∃ i t,k = Sum.inl i /\ v = Value.int i t) ∨ (∃ x t,k = Sum.inr x /\ v = Value.str x t)
 | .inl i,v,h=>by
  obtain ⟨t,e⟩:=Value.isInt_shape (k:=i) (v:=v) h
  exact .inl ⟨i,t,rfl,e⟩
 | .inr x,v,h=>by
  obtain ⟨t,e⟩:=Value.isStrOf_shape (x:=x) (v:=v) h
  exact .inr ⟨x,t,rfl,e⟩
theorem keyIs_int (i:Int) (t:Tok):keyIs (.inl i) (.int i t) = true:=by simp [keyIs,Value.isInt]
theorem keyIs_str (x:Str) (t:Tok):keyIs (.inr x) (.str x t) = true:=by simp [keyIs,Value.isStrOf]
theorem key_ll (a b:Int):decide ((Sum.inl a:Key) = Sum.inl b) = (a == b):=by
 by_cases e:a = b
 ·subst e; simp
 ·have h:¬ (Sum.inl a:Key) = Sum.inl b:=fun q=>e (Sum.inl.inj q)
  rw [decide_eq_false h]
  exact (beq_eq_false_iff_ne.mpr e).symm
theorem key_rr (a b:Str):decide ((Sum.inr a:Key) = Sum.inr b) = decide (a = b):=by
 by_cases e:a = b
 ·subst e; simp
 ·have h:¬ (Sum.inr a:Key) = Sum.inr b:=fun q=>e (Sum.inr.inj q)
  rw [decide_eq_false h,decide_eq_false e]
theorem key_lr (a:Int) (b:Str):decide ((Sum.inl a:Key) = Sum.inr b) = false:=decide_eq_false (fun q=>nomatch q)
theorem key_rl (a:Str) (b:Int):decide ((Sum.inr a:Key) = Sum.inl b) = false:=decide_eq_false (fun q=>nomatch q)
def mixKind (prog:Program) (w:World):PySem.KeyKind prog w Key where
 is:=keyIs
 hash:=keyH w
 inj:=fun v a b ha hb=>by
  rcases keyIs_shape ha with ⟨i,t,rfl,rfl⟩ | ⟨x,t,rfl,rfl⟩
  ·rcases keyIs_shape hb with ⟨j,u,rfl,e⟩ | ⟨y,u,rfl,e⟩
   ·injection e with e1 _; rw [e1]
   ·exact nomatch e
  ·rcases keyIs_shape hb with ⟨j,u,rfl,e⟩ | ⟨y,u,rfl,e⟩
   ·exact nomatch e
   ·injection e with e1 _; rw [e1]
 byValue:=fun k v h=>by
  rcases keyIs_shape h with ⟨i,t,rfl,rfl⟩ | ⟨x,t,rfl,rfl⟩ <;> rfl
 pyHash:=fun hv h=>by
  rcases keyIs_shape hv with ⟨i,t,rfl,rfl⟩ | ⟨x,t,rfl,rfl⟩
  ·exact wpAny_pyHash_int h
  ·exact wpAny_pyHash_str h
 eqBool:=fun hu hv h=>by
  rcases keyIs_shape hu with ⟨i,t,rfl,rfl⟩ | ⟨x,t,rfl,rfl⟩
  ·rcases keyIs_shape hv with ⟨j,u,rfl,rfl⟩ | ⟨y,u,rfl,rfl⟩
   ·rw [key_ll] at h; exact wpAny_eqBool_int h
   ·rw [key_lr] at h; exact SeqAt.EqAt.int_str i t y u _ _ _ _ h
  ·rcases keyIs_shape hv with ⟨j,u,rfl,rfl⟩ | ⟨y,u,rfl,rfl⟩
   ·rw [key_rl] at h; exact SeqAt.EqAt.str_int x t j u _ _ _ _ h
   ·rw [key_rr] at h; exact wpAny_eqBool_str h
 «strs»:=fun k x t v h=>by
  rcases keyIs_shape h with ⟨i,u,rfl,e⟩ | ⟨y,u,rfl,e⟩
  ·exact nomatch e
  ·injection e with e1 _
   subst e1
   cases v <;> rfl
theorem mixKind_int (prog:Program) (w:World) (i:Int) (t:Tok):(mixKind prog w).is (.inl i) (.int i t) = true:=keyIs_int i t
theorem mixKind_str (prog:Program) (w:World) (x:Str) (t:Tok):(mixKind prog w).is (.inr x) (.str x t) = true:=keyIs_str x t
end L2
namespace L2
open PySem PySem.Spec PyProof.Rows
inductive V where
 | non | bl (b:Bool) | int (i:Int) | str (x:Str) | byt (b:Array UInt8) | flt (b:UInt64) | ref (a:Addr) | ty (n:String)
 deriving DecidableEq
def RelV:V -> Value -> Prop
 | .non,u=>u = Value.none
 | .bl b,u=>u = Value.bool b
 | .int i,u=>∃ t,u = Value.int i t
 | .str x,u=>∃ t,u = Value.str x t
 | .byt b,u=>∃ t,u = Value.bytes b t
 | .flt b,u=>∃ t,u = Value.float b t
 | .ref a,u=>u = Value.ref a
 | .ty n,u=>u = Value.type n
abbrev Vals:List V -> List Value -> Prop:=Paired RelV
theorem Vals.length {xs:List V} {us:List Value} (r:Vals xs us):xs.length = us.length:=Paired.length r
theorem Vals.get:∀ {xs:List V} {us:List Value} {i:Nat} {x:V},Vals xs us -> xs[i]? = some x -> ∃ u,us[i]? = some u /\ RelV x u
 | _,_,_,_,.nil,e=>by simp at e
 | _,_,0,_,.cons r _,e=>by simp at e; subst e; exact ⟨_,rfl,r⟩
 | _,_,i + 1,x,.cons _ t,e=>by
  obtain ⟨u,h1,h2⟩:=Vals.get (i:=i) (x:=x) t (by simpa using e)
  exact ⟨u,by simpa using h1,h2⟩
theorem Vals.set {x:V} {u:Value} (r:RelV x u):∀ {xs:List V} {us:List Value} (i:Nat),Vals xs us -> Vals (xs.set i x) (us.set i u)
 | _,_,_,.nil=>.nil
 | _,_,0,.cons _ t=>.cons r t
 | _,_,i + 1,.cons q t=>.cons q (Vals.set r i t)
theorem Vals.append:∀ {xs ys:List V} {us ws:List Value},Vals xs us -> Vals ys ws -> Vals (xs ++ ys) (us ++ ws)
 | _,_,_,_,.nil,s=>s
 | _,_,_,_,.cons r t,s=>.cons r (Vals.append t s)
theorem Vals.take:∀ {xs:List V} {us:List Value} (n:Nat),Vals xs us -> Vals (xs.take n) (us.take n)
 | _,_,0,_=>.nil
 | _,_,_ + 1,.nil=>.nil
 | _,_,n + 1,.cons r t=>.cons r (Vals.take n t)
theorem Vals.drop:∀ {xs:List V} {us:List Value} (n:Nat),Vals xs us -> Vals (xs.drop n) (us.drop n)
 | _,_,0,r=>r
 | _,_,_ + 1,.nil=>.nil
 | _,_,n + 1,.cons _ t=>Vals.drop n t
def RelO:Option V -> Option Value -> Prop
 | some v,some u=>RelV v u
 | none,none=>True
 | _,_=>False
def KV {κ:Type}:List (κ × V) -> List (κ × Value) -> Prop:=Paired fun (p:κ × V) (q:κ × Value)=>p.1 = q.1 /\ RelV p.2 q.2
def kV:Key -> V
 | .inl i=>.int i
 | .inr x=>.str x
inductive HO where
  | lst (xs:List V)
  | tup (xs:List V)
  | dK (kvs:List (Key × V)) | dT (kvs:List (List Key × V))
  | set (S:Int -> Bool) (n:Nat)
  | ins (C dx:Addr) (fs:List (Str × V))
  | own (x:Addr)
  | xd (fs:List (Str × V))
  | met (f x:Addr)
  | rng (lo hi:Int)
  | frz (o:Obj) (u:HO)
  | tbl (ps:Array Value)
  | ext (φ:Heap -> Prop)
abbrev Hp:=Addr -> Option HO
def upd (H:Hp) (a:Addr) (o:HO):Hp:=fun b=>if b = a then some o else H b
theorem upd_same {H:Hp} {a:Addr} {o:HO}:upd H a o a = some o:=by unfold upd; rw [if_pos rfl]
theorem upd_ne {H:Hp} {a b:Addr} {o:HO} (h:b ≠ a):upd H a o b = H b:=by unfold upd; rw [if_neg h]
theorem ne_of {H:Hp} {a b:Addr} {o u:HO} (h:H a = some o) (h':H b = some u) (d:o ≠ u):a ≠ b:=by
 intro e; subst e; rw [h] at h'; exact d (Option.some.inj h')
theorem ne_of_none {H:Hp} {a b:Addr} {o:HO} (h:H a = some o) (h':H b = none):a ≠ b:=by
 intro e; subst e; rw [h] at h'; cases h'
section
variable (P:Program) (w:World)
def ObjOk (H:Hp) (h:Heap) (a:Addr):HO -> Prop
 | .lst xs=>xs.length <= sizeLine /\ ∃ (its:List Value) (n:Nat),Vals xs its /\ h.get? a = some { cls:=.type "list",data:=.seq its.toArray n }
 | .tup xs=>xs.length <= sizeLine /\ ∃ its:List Value,Vals xs its /\ IsTup h a its.toArray
 | .dK kvs=>kvs.length <= sizeLine /\ (a == sysModules) = false /\ ∃ vs,KV kvs vs /\ h.DictOf (mixKind P w) a vs
 | .dT kvs=>kvs.length <= sizeLine /\ (a == sysModules) = false /\ ∃ xs:List (List Key × Addr × Value),
   Paired (fun (p:List Key × V) (q:List Key × Addr × Value)=>p.1 = q.1 /\ H q.2.1 = some (.tup (p.1.map kV)) /\ RelV p.2 q.2.2) kvs xs /\
   ∃ o es ep,h.get? a = some o /\ o.ExactDict /\ o.data = .dict es ep /\ es.toList = xs.map (entryOfKey (tupleKind (mixKind P w))) /\ (xs.map (·.1)).Nodup
 | .set S n=>h.SetOf (intKind P w) a S n
 | .ins C dx fs=>H dx = some (.own a) /\ fs.length <= 1000 /\ dx ≠ a /\ h.get? a = some (PySem.W.instObj C dx) /\
   ∃ mA,h.Ns1 dx mA /\ (∀ f,RelO (fs.lookup f) (mA f)) /\ PySem.Within mA (fs.map (·.1))
 | .own _=>∃ o,h.get? a = some o
 | .xd fs=>∃ mA,h.Ns1 a mA /\ ∀ f,RelO (fs.lookup f) (mA f)
 | .rng lo hi=>∃ t u v,h.get? a = some { cls:=.type "range",data:=.fields #[.int lo t,.int hi u,.int 1 v] }
 | .frz o u=>h.get? a = some o /\ ObjOk H h a u
 | .tbl ps=>h.get? a = some { cls:=.none,data:=.fields ps }
 | .met f x=>h.get? a = some (PySem.W.methodObj (.ref f) (.ref x))
 | .ext φ=>φ h /\ (∃ o,h.get? a = some o) /\ ∀ h1 h2:Heap,φ h1 -> (∀ o,h1.get? a = some o -> h2.get? a = some o) -> φ h2
def HOk (H:Hp) (h:Heap):Prop:=∀ a o,H a = some o -> ObjOk P w H h a o
end
section
variable {P:Program} {w:World} {H H':Hp} {h h':Heap} {a:Addr} {o:HO}
theorem ObjOk.lt (x:ObjOk P w H h a o):a < h.objs.size:=by
 cases o with
 | lst xs=>obtain ⟨_,_,_,_,e⟩:=x; exact Heap.lt_size e
 | tup xs=>obtain ⟨_,_,_,p⟩:=x; exact p.lt
 | dK kvs=>obtain ⟨_,_,_,_,o,_,_,e,_⟩:=x; exact Heap.lt_size e
 | dT kvs=>obtain ⟨_,_,_,_,o,_,_,e,_⟩:=x; exact Heap.lt_size e
 | set S n=>obtain ⟨o,_,_,_,e,_⟩:=x; exact Heap.lt_size e
 | ins C dx fs=>obtain ⟨_,_,_,e,_⟩:=x; exact Heap.lt_size e
 | own y=>obtain ⟨_,e⟩:=x; exact Heap.lt_size e
 | xd fs=>obtain ⟨_,⟨_,_,_,e,_⟩,_⟩:=x; exact Heap.lt_size e
 | rng lo hi=>obtain ⟨_,_,_,e⟩:=x; exact Heap.lt_size e
 | frz ob u=>obtain ⟨e,_⟩:=x; exact Heap.lt_size e
 | tbl ps=>exact Heap.lt_size (show h.get? a = some _ from x)
 | met f y=>exact Heap.lt_size (show h.get? a = some _ from x)
 | ext φ=>obtain ⟨_,⟨_,e⟩,_⟩:=x; exact Heap.lt_size e
theorem Paired.mapP {α β:Type} {F G:α -> β -> Prop}:∀ {l₁:List α} {l₂:List β},Paired F l₁ l₂ -> (∀ a b,F a b -> G a b) -> Paired G l₁ l₂
 | _,_,.nil,_=>.nil
 | _,_,.cons r t,f=>.cons (f _ _ r) (Paired.mapP t f)
theorem ObjOk.stay (x:ObjOk P w H h a o) (k:∀ b u,(b = a ∨ H b = some (.own a)) -> h.get? b = some u -> h'.get? b = some u)
  (ho:∀ b,H b = some (.own a) -> H' b = some (.own a)) (ht:∀ b xs,H b = some (.tup xs) -> H' b = some (.tup xs)):ObjOk P w H' h' a o:=by
 induction o with
 | lst xs=>obtain ⟨z,its,n,r,e⟩:=x; exact ⟨z,its,n,r,k _ _ (.inl rfl) e⟩
 | tup xs=>obtain ⟨z,its,r,ob,e,c⟩:=x; exact ⟨z,its,r,ob,k _ _ (.inl rfl) e,c⟩
 | dK kvs=>obtain ⟨z,y,vs,r,ob,es,ep,e,c⟩:=x; exact ⟨z,y,vs,r,ob,es,ep,k _ _ (.inl rfl) e,c⟩
 | dT kvs =>
  obtain ⟨z,y,xs,r,ob,es,ep,e,c⟩:=x
  exact ⟨z,y,xs,Paired.mapP r fun p q z=>⟨z.1,ht _ _ z.2.1,z.2.2⟩,ob,es,ep,k _ _ (.inl rfl) e,c⟩
 | set S n=>obtain ⟨ob,es,ep,t,e,c⟩:=x; exact ⟨ob,es,ep,t,k _ _ (.inl rfl) e,c⟩
 | ins C dx fs =>
  obtain ⟨d,z,ne,e,mA,⟨od,es,ep,e2,c⟩,r⟩:=x
  exact ⟨ho _ d,z,ne,k _ _ (.inl rfl) e,mA,⟨od,es,ep,k _ _ (.inr d) e2,c⟩,r⟩
 | own y=>obtain ⟨ob,e⟩:=x; exact ⟨ob,k _ _ (.inl rfl) e⟩
 | xd fs=>obtain ⟨mA,⟨od,es,ep,e,c⟩,r⟩:=x; exact ⟨mA,⟨od,es,ep,k _ _ (.inl rfl) e,c⟩,r⟩
 | rng lo hi=>obtain ⟨t,u,v,e⟩:=x; exact ⟨t,u,v,k _ _ (.inl rfl) e⟩
 | frz ob u ih=>obtain ⟨e,q⟩:=x; exact ⟨k _ _ (.inl rfl) e,ih q⟩
 | tbl ps =>
  have e:h.get? a = some { cls:=.none,data:=.fields ps }:=x
  show h'.get? a = some { cls:=.none,data:=.fields ps }
  exact k a _ (.inl rfl) e
 | met f y =>
  have e:h.get? a = some (PySem.W.methodObj (.ref f) (.ref y)):=x
  show h'.get? a = some (PySem.W.methodObj (.ref f) (.ref y))
  exact k a _ (.inl rfl) e
 | ext φ=>obtain ⟨p,⟨o,e⟩,st⟩:=x; exact ⟨st _ _ p fun o q=>k _ _ (.inl rfl) q,⟨o,k _ _ (.inl rfl) e⟩,st⟩
theorem HOk.lt (x:HOk P w H h) (e:H a = some o):a < h.objs.size:=(x a o e).lt
theorem HOk.fresh (x:HOk P w H h) (e:h.objs.size <= a):H a = none:=by
 cases q:H a with
 | none=>rfl
 | some u=>exact absurd (Nat.lt_of_lt_of_le (x.lt q) e) (Nat.lt_irrefl _)
theorem HOk.kept (x:HOk P w H h) (k:∀ b u,h.get? b = some u -> h'.get? b = some u):HOk P w H h':=fun a o e =>
 (x a o e).stay (fun b u _ q=>k b u q) (fun _ q=>q) fun _ _ q=>q
theorem HOk.laid (x:HOk P w H h) (k:∀ b u,h.get? b = some u -> h'.get? b = some u) (hp:h.objs.size <= a) (new:ObjOk P w (upd H a o) h' a o):HOk P w (upd H a o) h':=fun b u e=>by
 have hn:=x.fresh hp
 by_cases hb:b = a
 ·subst hb; rw [upd_same] at e; cases e; exact new
 ·rw [upd_ne hb] at e
  exact (x b u e).stay (fun c v _ q=>k c v q) (fun c q=>by rw [upd_ne (ne_of_none q hn)]; exact q) fun c xs q=>by rw [upd_ne (ne_of_none q hn)]; exact q
end
def Rd (H:Hp) (a:Addr) (u:HO):Prop:=H a = some u ∨ ∃ o,H a = some (.frz o u)
theorem Rd.ok {P:Program} {w:World} {H:Hp} {h:Heap} {a:Addr} {u:HO} (r:Rd H a u) (x:HOk P w H h):ObjOk P w H h a u:=by
 rcases r with r | ⟨o,r⟩
 ·exact x a u r
 ·obtain ⟨_,q⟩:=x a _ r
  exact q
def Mut:Option HO -> Prop
 | some (.lst _)=>True
 | some (.dK _)=>True
 | some (.dT _)=>True
 | some (.set _ _)=>True
 | some (.ins _ _ _)=>True
 | some (.ext _)=>True
 | _=>False
section
variable {P:Program} {w:World} {H:Hp} {h h':Heap} {x e:Addr} {o':HO}
theorem HOk.write (ok:HOk P w H h) (mu:Mut (H x)) (he:e = x ∨ H e = some (.own x)) (k:∀ b u,b ≠ e -> h.get? b = some u -> h'.get? b = some u) (heo:∃ u,h'.get? e = some u)
  (new:ObjOk P w (upd H x o') h' x o'):HOk P w (upd H x o') h':=fun b u q=>by
 have nown:∀ c y,H c = some (.own y) -> c ≠ x:=fun c y r z=>by subst z; rw [r] at mu; exact mu
 have ntup:∀ c xs,H c = some (.tup xs) -> c ≠ x:=fun c xs r z=>by subst z; rw [r] at mu; exact mu
 by_cases hb:b = x
 ·subst hb; rw [upd_same] at q; cases q; exact new
 ·rw [upd_ne hb] at q
  by_cases hbe:b = e
  ·have q':H b = some (.own x):=by
    rcases he with z | z
    ·exact absurd (hbe.trans z) hb
    ·rw [hbe]; exact z
   rw [q] at q'; cases q'
   obtain ⟨v,hv⟩:=heo
   exact ⟨v,by rw [hbe]; exact hv⟩
  ·refine (ok b u q).stay (fun c v hc r=>k c v ?_ r) (fun c r=>by rw [upd_ne (nown c b r)]; exact r) fun c xs r=>by rw [upd_ne (ntup c xs r)]; exact r
   rcases hc with rfl | hc
   ·exact hbe
   ·rintro rfl
    rcases he with z | z
    ·exact nown c b hc z
    ·rw [hc] at z; cases z; exact hb rfl
end
structure Un (fs ex:List Addr) (H H':Hp) (h h':Heap):Prop where
 keep:∀ b o,h.get? b = some o -> H b = none -> b ∉ fs -> b ∉ ex -> h'.get? b = some o
 slot:∀ b o,h.get? b = some o -> H b = none -> b ∈ fs -> b ∉ ex -> ∃ sl,h'.get? b = some { o with slots:=sl }
 free:∀ b o,h.get? b = some o -> H b = none -> b ∉ ex -> H' b = none
 there:∀ b o,h.get? b = some o -> b ∉ ex -> ∃ o',h'.get? b = some o'
 tups:∀ b xs,H b = some (.tup xs) -> H' b = some (.tup xs)
 frzs:∀ b o u,H b = some (.frz o u) -> H' b = some (.frz o u)
 tbls:∀ b ps,H b = some (.tbl ps) -> ∃ more,H' b = some (.tbl (ps ++ more))
section
variable {fs fs' ex ex':List Addr} {H H1 H2:Hp} {h h1 h2 h':Heap} {a x e:Addr} {o:HO}
theorem Un.any (u:Un fs ex H H1 h h1) {b:Addr} {ob:Obj} (q:h.get? b = some ob) (n:H b = none) (hx:b ∉ ex):∃ sl,h1.get? b = some { ob with slots:=sl }:=by
 by_cases hb:b ∈ fs
 ·exact u.slot b ob q n hb hx
 ·exact ⟨ob.slots,u.keep b ob q n hb hx⟩
theorem Un.kept (k:∀ b u,h.get? b = some u -> h'.get? b = some u):Un fs ex H H h h' :=
 ⟨fun b ob q _ _ _=>k b ob q,fun b ob q _ _ _=>⟨ob.slots,k b ob q⟩,fun _ _ _ n _=>n,fun b ob q _=>⟨ob,k b ob q⟩,fun _ _ q=>q,fun _ _ _ q=>q,fun _ ps q=>⟨#[],by rw [q]; simp⟩⟩
theorem Un.refl:Un fs ex H H h h:=Un.kept fun _ _ q=>q
theorem Un.laid (k:∀ b u,h.get? b = some u -> h'.get? b = some u) (hp:h.objs.size <= a) (hn:H a = none):Un fs ex H (upd H a o) h h' where
 keep:=fun b u q _ _ _=>k b u q
 slot:=fun b u q _ _ _=>⟨u.slots,k b u q⟩
 free:=fun b u q n _=>by rw [upd_ne (Nat.ne_of_lt (Nat.lt_of_lt_of_le (Heap.lt_size q) hp))]; exact n
 there:=fun b u q _=>⟨u,k b u q⟩
 tups:=fun b xs q=>by rw [upd_ne (ne_of_none q hn)]; exact q
 frzs:=fun b u xs q=>by rw [upd_ne (ne_of_none q hn)]; exact q
 tbls:=fun b ps q=>⟨#[],by rw [upd_ne (ne_of_none q hn),q]; simp⟩
theorem Un.write (mu:Mut (H x)) (he:e = x ∨ H e = some (.own x)) (k:∀ b u,b ≠ e -> h.get? b = some u -> h'.get? b = some u) (heo:∃ u,h'.get? e = some u):Un fs ex H (upd H x o) h h':=by
 have hx:∀ b,H b = none -> b ≠ x:=fun b n z=>by subst z; rw [n] at mu; exact mu
 have hb:∀ b,H b = none -> b ≠ e:=fun b n z=>by
  subst z
  rcases he with r | r
  ·exact hx b n r
  ·rw [n] at r; cases r
 have hm:∀ b u,H b = some u -> ¬ Mut (some u) -> b ≠ x:=fun b u q nm z=>by subst z; rw [q] at mu; exact nm mu
 refine ⟨fun b u q n _ _=>k b u (hb b n) q,fun b u q n _ _=>⟨u.slots,k b u (hb b n) q⟩,fun b u q n _=>by rw [upd_ne (hx b n)]; exact n,fun b u q _=>?_,
  fun b xs q=>by rw [upd_ne (hm b _ q fun z=>z)]; exact q,fun b u xs q=>by rw [upd_ne (hm b _ q fun z=>z)]; exact q,fun b ps q=>⟨#[],by rw [upd_ne (hm b _ q fun z=>z),q]; simp⟩⟩
 by_cases hbe:b = e
 ·subst hbe; exact heo
 ·exact ⟨u,k b u hbe q⟩
theorem Un.mono (u:Un fs ex H H1 h h1) (hs:∀ b ∈ fs,b ∈ fs') (hx:∀ b ∈ ex,b ∈ ex'):Un fs' ex' H H1 h h1 :=
 ⟨fun b ob q n hb he=>u.keep b ob q n (fun z=>hb (hs b z)) fun z=>he (hx b z),fun _ _ q n _ he=>u.any q n fun z=>he (hx _ z),fun b ob q n he=>u.free b ob q n fun z=>he (hx b z),fun b ob q he=>u.there b ob q fun z=>he (hx b z),u.tups,u.frzs,u.tbls⟩
end
def trk (h:Heap) (H:Hp):List Addr:=(List.range h.objs.size).filter fun a=>(H a).isSome
def hidT (h:Heap) (H:Hp):Heap:=PySem.W.hideAll h (trk h H)
theorem hidT_size (h:Heap) (H:Hp):(hidT h H).objs.size = h.objs.size:=PySem.W.hideAll_size _ _
theorem hidT_get {h:Heap} {H:Hp} {b:Addr} {o:Obj} (e:h.get? b = some o) (n:H b = none):(hidT h H).get? b = some o :=
 PySem.W.hideAll_get _ e fun hm=>by
  have q:(H b).isSome = true:=(List.mem_filter.mp hm).2
  rw [n] at q; simp at q
theorem of_hidT {h:Heap} {H:Hp} {b:Addr} {o:Obj} (e:(hidT h H).get? b = some o):h.get? b = some o /\ H b = none:=by
 have e':h.get? b = some o:=PySem.W.of_hideAll (trk h H) e
 refine ⟨e',?_⟩
 cases q:H b with
 | none=>rfl
 | some x =>
  have hm:b ∈ trk h H:=List.mem_filter.mpr ⟨List.mem_range.mpr (Heap.lt_size e'),by simp [q]⟩
  have z:(hidT h H).get? b = none:=PySem.W.hideAll_none (trk h H) hm
  rw [z] at e; cases e
end L2
namespace L2
open PySem PySem.Spec PyProof.Rows
structure Mod (K:PySem.W.Frag) (mg:Str -> Option Value) (base:Heap):Prop where
 kin:K.In base
 glob:base.Ns mainGlobals mg
 blt:∃ mb,base.Ns builtinsNs mb /\ ∀ x:Str,x ≠ "__name__" -> mb x = bootBuiltins x
 nolimit:base.NoLimit
structure Cx where
 prog:Program
 w:World
 K:PySem.W.Frag
 mg:Str -> Option Value
 base:Heap
 A:Around
 N:List Str
 s₀:Shared
 H₀:Hp
 env:Env
 outer:List Env
 stack:List Env
 ex:List Addr
 fn:Str -> Bool
 calm:Bool
 pn:List (Addr × Obj)
 xe:Value -> Shared -> Prop
def frs (l:List Env):List Addr:=l.filterMap (·.frame)
abbrev Cx.fs (X:Cx):List Addr:=frs X.outer
def Vis (sc:Scope) (x:Str):Prop:=sc.names.lookup x = some .local ∨ sc.names.lookup x = some .cell ∨ sc.names.lookup x = some .free
def Loc (sc:Scope) (x:Str):Prop:=sc.names.lookup x = some .local ∨ sc.names.lookup x = some .cell
def Look (env:Env) (h:Heap) (m:Str -> Option Value) (x:Str) (u:Value):Prop :=
 (env.kindOf x = some .local /\ m x = some u) ∨ ((env.kindOf x = some .cell ∨ env.kindOf x = some .free) /\ ∃ c,env.cells.lookup x = some c /\ h.IsCell c (some u))
structure Cx.Ok (X:Cx):Prop where
 mod:Mod X.K X.mg X.base
 kind:X.env.scope.kind = .function
 glob:X.env.globals = mainGlobals
 blt:X.env.builtins = builtinsNs
 above:X.s₀.heap.objs.size <= X.env.locals
 inj:∀ x y c,X.env.cells.lookup x = some c -> X.env.cells.lookup y = some c -> x = y
 has:∀ x,(X.env.kindOf x = some .cell ∨ X.env.kindOf x = some .free) -> ∃ c,X.env.cells.lookup x = some c
 cab:∀ x c,X.fn x = true -> X.env.cells.lookup x = some c -> X.s₀.heap.objs.size <= c
 hd:X.calm = true -> X.A.handled = none
 frames:X.A.frames = some X.stack
 stk:X.stack = X.outer ∨ (X.stack = X.env :: X.outer /\ X.env.frame = some X.env.locals)
 exf:∀ b ∈ X.ex,b ≠ X.env.locals /\ ∀ x c,X.env.cells.lookup x = some c -> c ≠ b
 bs:∀ b o,X.base.get? b = some o -> X.s₀.heap.get? b = some o /\ X.H₀ b = none
 bsz:X.base.objs.size <= X.s₀.heap.objs.size
 noex:∀ b o,X.base.get? b = some o -> b ∉ X.ex
 exfs:∀ b ∈ X.ex,b ∉ X.fs
 funs:X.s₀.heap.FunFrames X.base X.outer
 frf:∀ b ∈ X.fs,X.H₀ b = none
structure Inv (X:Cx) (pins:List (Addr × Obj)) (σ:List (Option V)) (H:Hp) (s:Shared):Prop where
 ok:X.Ok
 os:s.os = X.s₀.os
 bare:AllBare s.gens
 base:Un X.fs X.ex X.H₀ H X.s₀.heap s.heap
 loc:∃ m,s.heap.Ns X.env.locals m /\ ∀ (i:Nat) (x:Str) (v:V),X.N[i]? = some x -> σ[i]? = some (some v) -> Vis X.env.scope x -> ∃ u,RelV v u /\ Look X.env s.heap m x u
 cell:∀ x c,X.env.cells.lookup x = some c -> ∃ v,s.heap.IsCell c v
 free:H X.env.locals = none
 freeC:∀ x c,X.env.cells.lookup x = some c -> H c = none
 pin:∀ p ∈ X.pn ++ pins,s.heap.get? p.1 = some p.2 /\ H p.1 = none /\ p.1 ≠ X.env.locals /\ p.1 ∉ X.fs /\ ∀ v,p.2.data ≠ .cell v
 hok:HOk X.prog X.w H s.heap
 len:σ.length = X.N.length
section
variable {X:Cx} {pins:List (Addr × Obj)} {σ:List (Option V)} {H H':Hp} {s:Shared} {h':Heap}
theorem Cx.Ok.nofr (ok:X.Ok) {b:Addr} {o:Obj} (e:X.base.get? b = some o):b ∉ X.fs:=fun hb=>by
 have:=(ok.funs.mem hb).1
 rw [e] at this; cases this
theorem Inv.bs (I:Inv X pins σ H s):∀ b o,X.base.get? b = some o -> s.heap.get? b = some o /\ H b = none:=fun b o e =>
 ⟨I.base.keep b o (I.ok.bs b o e).1 (I.ok.bs b o e).2 (I.ok.nofr e) (I.ok.noex b o e),I.base.free b o (I.ok.bs b o e).1 (I.ok.bs b o e).2 (I.ok.noex b o e)⟩
theorem Inv.bk (I:Inv X pins σ H s):∀ b o,X.base.get? b = some o -> s.heap.get? b = some o:=fun b o e=>(I.bs b o e).1
theorem Inv.mod (I:Inv X pins σ H s):Mod X.K X.mg X.base:=I.ok.mod
theorem Inv.kIn (I:Inv X pins σ H s):X.K.In s.heap:=I.ok.mod.kin.keeps I.bk
theorem Inv.lt (I:Inv X pins σ H s):X.env.locals < s.heap.objs.size:=let ⟨_,hn,_⟩:=I.loc; hn.lt
theorem Inv.sz (I:Inv X pins σ H s):X.s₀.heap.objs.size <= s.heap.objs.size:=Nat.le_trans I.ok.above (Nat.le_of_lt I.lt)
theorem Inv.nofs (I:Inv X pins σ H s) {a:Addr} (h:s.heap.objs.size <= a):a ∉ X.fs:=fun hb=>by
 obtain ⟨_,o,ho,_⟩:=I.ok.funs.mem hb
 exact absurd (Nat.lt_of_lt_of_le (Heap.lt_size ho) (Nat.le_trans I.sz h)) (Nat.lt_irrefl _)
theorem Inv.cne (I:Inv X pins σ H s):∀ x c,X.env.cells.lookup x = some c -> c ≠ X.env.locals:=fun x c e z=>by
 obtain ⟨v,o,ho,hd⟩:=I.cell x c e
 obtain ⟨m,⟨o',es,ep,ho',hd',_⟩,_⟩:=I.loc
 rw [z,ho'] at ho; cases ho; rw [hd'] at hd; cases hd
theorem Inv.funs (I:Inv X pins σ H s):s.heap.FunFrames X.base X.outer:=by
 have all:∀ (l:List Env),(∀ b ∈ frs l,b ∈ X.fs) -> X.s₀.heap.FunFrames X.base l -> s.heap.FunFrames X.base l:=by
  intro l
  induction l with
  | nil=>intro _ _; trivial
  | cons env r ih =>
   intro hs hl
   obtain ⟨hk,⟨L,o,hf,hn,ho,hd⟩,hr⟩:=hl
   have hL:L ∈ X.fs:=hs L (by unfold frs; rw [List.filterMap_cons,hf]; exact List.mem_cons_self)
   obtain ⟨sl,e⟩:=I.base.slot L o ho (I.ok.frf L hL) hL fun z=>I.ok.exfs L z hL
   exact ⟨hk,⟨L,_,hf,hn,e,hd⟩,ih (fun b hb=>hs b (by unfold frs; rw [List.filterMap_cons,hf]; exact List.mem_cons_of_mem _ hb)) hr⟩
 exact all X.outer (fun _ hb=>hb) I.ok.funs
theorem Inv.stack (I:Inv X pins σ H s):s.heap.FunFrames X.base X.stack:=by
 rcases I.ok.stk with e | ⟨e,hf⟩
 ·rw [e]; exact I.funs
 ·rw [e]
  obtain ⟨m,hn,_⟩:=I.loc
  refine .cons (by rw [I.ok.kind]; decide) hf hn ?_ I.funs
  exact Heap.get?_none_of_le (Nat.le_trans I.ok.bsz I.ok.above)
theorem Inv.stkSub (I:Inv X pins σ H s):∀ b ∈ frs X.stack,b ∈ X.env.locals :: X.fs:=fun b hb=>by
 rcases I.ok.stk with e | ⟨e,hf⟩
 ·rw [e] at hb; exact List.mem_cons_of_mem _ hb
 ·rw [e] at hb
  unfold frs at hb
  rw [List.filterMap_cons,hf] at hb
  exact hb
theorem Inv.stkFree (I:Inv X pins σ H s):∀ b ∈ frs X.stack,H b = none:=fun b hb=>by
 rcases List.mem_cons.mp (I.stkSub b hb) with e | hb
 ·rw [e]; exact I.free
 ·obtain ⟨_,o,ho,_⟩:=I.ok.funs.mem hb
  exact I.base.free b o ho (I.ok.frf b hb) fun z=>I.ok.exfs b z hb
theorem Inv.step {g':Array GenState} {t':Nat} {d':Drawn} {ch:List Addr} (I:Inv X pins σ H s)
  (hch:∀ b ∈ ch,(b ∈ X.ex ∨ X.s₀.heap.objs.size <= b) /\ b ≠ X.env.locals /\ (∀ x c,X.env.cells.lookup x = some c -> c ≠ b) /\ ∀ p ∈ X.pn ++ pins,p.1 ≠ b)
  (keep:∀ b o,b ≠ X.env.locals -> b ∉ X.fs -> b ∉ ch -> s.heap.get? b = some o -> H b = none -> h'.get? b = some o)
  (slot:∀ b o,b ≠ X.env.locals -> b ∈ X.fs -> b ∉ ch -> s.heap.get? b = some o -> H b = none -> ∃ sl,h'.get? b = some { o with slots:=sl }) (free:∀ b o,b ∉ ch -> s.heap.get? b = some o -> H b = none -> H' b = none)
  (there:∀ b o,b ∉ ch -> s.heap.get? b = some o -> ∃ o',h'.get? b = some o')
  (tups:∀ b xs,H b = some (.tup xs) -> H' b = some (.tup xs)) (frzs:∀ b o u,H b = some (.frz o u) -> H' b = some (.frz o u)) (tbls:∀ b ps,H b = some (.tbl ps) -> ∃ more,H' b = some (.tbl (ps ++ more)))
  (ns:∀ m,s.heap.Ns X.env.locals m -> h'.Ns X.env.locals m) (hok:HOk X.prog X.w H' h') (hg:AllBare g') :
  Inv X pins σ H' { s with heap:=h',gens:=g',drawn:=d',toks:=t' }:=by
 have neL:∀ b o,X.s₀.heap.get? b = some o -> b ≠ X.env.locals:=fun b o e=>Nat.ne_of_lt (Nat.lt_of_lt_of_le (Heap.lt_size e) I.ok.above)
 have neC:∀ b o,X.s₀.heap.get? b = some o -> b ∉ X.ex -> b ∉ ch:=fun b o e hx hb=>by
  rcases (hch b hb).1 with z | z
  ·exact hx z
  ·exact absurd (Nat.lt_of_lt_of_le (Heap.lt_size e) z) (Nat.lt_irrefl _)
 have cellK:∀ x c,X.env.cells.lookup x = some c -> ∀ v,s.heap.IsCell c v -> h'.IsCell c v:=fun x c e v ⟨o,ho,hd⟩=>by
  have nch:c ∉ ch:=fun z=>(hch c z).2.2.1 x c e rfl
  by_cases hc:c ∈ X.fs
  ·obtain ⟨sl,q⟩:=slot c o (I.cne x c e) hc nch ho (I.freeC x c e)
   exact ⟨_,q,hd⟩
  ·exact ⟨o,keep c o (I.cne x c e) hc nch ho (I.freeC x c e),hd⟩
 refine ⟨I.ok,I.os,hg,⟨fun b o e n hb hx=>?_,fun b o e n hb hx=>?_,fun b o e n hx=>?_,fun b o e hx=>?_,fun b xs e=>tups b xs (I.base.tups b xs e),fun b o xs e=>frzs b o xs (I.base.frzs b o xs e),fun b ps e=>?_⟩,?_,fun x c e=>?_,?_,fun x c e=>?_,fun p hp=>?_,hok,I.len⟩
 ·exact keep b o (neL b o e) hb (neC b o e hx) (I.base.keep b o e n hb hx) (I.base.free b o e n hx)
 ·obtain ⟨sl,e1⟩:=I.base.slot b o e n hb hx
  obtain ⟨sl',e2⟩:=slot b _ (neL b o e) hb (neC b o e hx) e1 (I.base.free b o e n hx)
  exact ⟨sl',e2⟩
 ·obtain ⟨o',e1⟩:=I.base.there b o e hx
  exact free b o' (neC b o e hx) e1 (I.base.free b o e n hx)
 ·obtain ⟨o',e1⟩:=I.base.there b o e hx
  exact there b o' (neC b o e hx) e1
 ·obtain ⟨m1,e1⟩:=I.base.tbls b ps e
  obtain ⟨m2,e2⟩:=tbls b _ e1
  exact ⟨m1 ++ m2,by rw [e2,Array.append_assoc]⟩
 ·obtain ⟨m,hn,hl⟩:=I.loc
  refine ⟨m,ns m hn,fun i x v e1 e2 e3=>?_⟩
  obtain ⟨u,r,l⟩:=hl i x v e1 e2 e3
  refine ⟨u,r,?_⟩
  rcases l with l | ⟨k,c,e,z⟩
  ·exact .inl l
  ·exact .inr ⟨k,c,e,cellK x c e _ z⟩
 ·obtain ⟨v,z⟩:=I.cell x c e
  exact ⟨v,cellK x c e v z⟩
 ·obtain ⟨m,⟨o,_,_,ho,_⟩,_⟩:=I.loc
  exact free _ o (fun z=>(hch _ z).2.1 rfl) ho I.free
 ·obtain ⟨v,o,ho,hd⟩:=I.cell x c e
  exact free c o (fun z=>(hch c z).2.2.1 x c e rfl) ho (I.freeC x c e)
 ·obtain ⟨e,n,ne,nf,d⟩:=I.pin p hp
  have nch:p.1 ∉ ch:=fun z=>(hch p.1 z).2.2.2 p hp rfl
  exact ⟨keep p.1 p.2 ne nf nch e n,free p.1 p.2 nch e n,ne,nf,d⟩
theorem Inv.un {t':Nat} (I:Inv X pins σ H s) (u:Un X.fs [] H H' s.heap h') (hok:HOk X.prog X.w H' h'):Inv X pins σ H' { s with heap:=h',toks:=t' }:=by
 obtain ⟨m,⟨o,es,ep,ho,r⟩,_⟩:=id I.loc
 obtain ⟨sl,hL⟩:=u.any ho I.free (by simp)
 exact I.step (g':=s.gens) (d':=s.drawn) (ch:=[]) (fun _ z=>nomatch z) (fun b o _ hb _ e n=>u.keep b o e n hb (by simp)) (fun b o _ hb _ e n=>u.slot b o e n hb (by simp)) (fun b o _ e n=>u.free b o e n (by simp)) (fun b o _ e=>u.there b o e (by simp)) u.tups u.frzs u.tbls (fun m' hm=>by
  obtain ⟨o',es',ep',ho',r'⟩:=hm
  rw [ho] at ho'; cases ho'
  exact ⟨_,es',ep',hL,r'⟩) hok I.bare
theorem Inv.call {g':Array GenState} {t':Nat} {d':Drawn} {ch:List Addr} (I:Inv X pins σ H s) (u:Un (frs X.stack) ch H H' s.heap h') (hok:HOk X.prog X.w H' h') (hg:AllBare g')
  (hch:∀ b ∈ ch,(b ∈ X.ex ∨ X.s₀.heap.objs.size <= b) /\ b ≠ X.env.locals /\ (∀ x c,X.env.cells.lookup x = some c -> c ≠ b) /\ ∀ p ∈ X.pn ++ pins,p.1 ≠ b) :
  Inv X pins σ H' { s with heap:=h',gens:=g',drawn:=d',toks:=t' }:=by
 obtain ⟨m,⟨o,es,ep,ho,r⟩,_⟩:=id I.loc
 obtain ⟨sl,hL⟩:=u.any ho I.free fun z=>(hch _ z).2.1 rfl
 exact I.step (ch:=ch) hch (fun b o hL hb hc e n=>u.keep b o e n (fun z=>(List.mem_cons.mp (I.stkSub b z)).elim hL hb) hc) (fun b o _ _ hc e n=>u.any e n hc) (fun b o hc e n=>u.free b o e n hc) (fun b o hc e=>u.there b o e hc) u.tups u.frzs u.tbls (fun m' hm=>by
  obtain ⟨o',es',ep',ho',r'⟩:=hm
  rw [ho] at ho'; cases ho'
  exact ⟨_,es',ep',hL,r'⟩) hok hg
theorem Inv.turned {t':Nat} {it:Addr} (I:Inv X pins σ H s) (k:∀ b o,b ≠ it -> s.heap.get? b = some o -> h'.get? b = some o) (hn:H it = none) (hL:it ≠ X.env.locals)
  (h1:it ∈ X.ex ∨ X.s₀.heap.objs.size <= it) (h2:∀ x c,X.env.cells.lookup x = some c -> c ≠ it) (h3:∀ p ∈ X.pn ++ pins,p.1 ≠ it):Inv X pins σ H { s with heap:=h',toks:=t' }:=by
 have nit:∀ b u,H b = some u -> b ≠ it:=fun b u e z=>by rw [z,hn] at e; cases e
 refine I.step (g':=s.gens) (d':=s.drawn) (ch:=[it]) (fun b hb=>?_) (fun b o _ _ hc e _=>k b o (fun z=>hc (by simp [z])) e) (fun b o _ _ hc e _=>⟨o.slots,k b o (fun z=>hc (by simp [z])) e⟩) (fun _ _ _ _ n=>n)
  (fun b o hc e=>⟨o,k b o (fun z=>hc (by simp [z])) e⟩) (fun _ _ e=>e) (fun _ _ _ e=>e) (fun b ps e=>⟨#[],by rw [e]; simp⟩) (fun m hm=>?_) (fun b u e=>?_) I.bare
 ·have e:b = it:=by simpa using hb
  subst e
  exact ⟨h1,hL,h2,h3⟩
 ·obtain ⟨o,es,ep,ho,r⟩:=hm
  exact ⟨o,es,ep,k _ o (Ne.symm hL) ho,r⟩
 ·refine (I.hok b u e).stay (fun c v hc q=>k c v ?_ q) (fun _ q=>q) fun _ _ q=>q
  rcases hc with z | z
  ·rw [z]; exact nit b u e
  ·exact nit c _ z
theorem Inv.tok (I:Inv X pins σ H s) (t:Nat):Inv X pins σ H { s with toks:=t }:=I.un (h':=s.heap) (t':=t) Un.refl I.hok
theorem Inv.kept {t':Nat} (I:Inv X pins σ H s) (k:∀ b u,s.heap.get? b = some u -> h'.get? b = some u):Inv X pins σ H { s with heap:=h',toks:=t' }:=I.un (Un.kept k) (I.hok.kept k)
theorem Inv.laid {a:Addr} {o:HO} {t':Nat} (I:Inv X pins σ H s) (k:∀ b u,s.heap.get? b = some u -> h'.get? b = some u) (hp:s.heap.objs.size <= a) (new:ObjOk X.prog X.w (upd H a o) h' a o) :
  Inv X pins σ (upd H a o) { s with heap:=h',toks:=t' }:=I.un (Un.laid k hp (I.hok.fresh hp)) (I.hok.laid k hp new)
theorem Inv.write {x e:Addr} {o:HO} {t':Nat} (I:Inv X pins σ H s) (mu:Mut (H x)) (he:e = x ∨ H e = some (.own x)) (k:∀ b u,b ≠ e -> s.heap.get? b = some u -> h'.get? b = some u) (heo:∃ u,h'.get? e = some u)
  (new:ObjOk X.prog X.w (upd H x o) h' x o):Inv X pins σ (upd H x o) { s with heap:=h',toks:=t' }:=I.un (Un.write mu he k heo) (I.hok.write mu he k heo new)
theorem Inv.pins_of {pins':List (Addr × Obj)} (I:Inv X pins σ H s) (h:∀ p ∈ pins',s.heap.get? p.1 = some p.2 /\ H p.1 = none /\ p.1 ≠ X.env.locals /\ p.1 ∉ X.fs /\ ∀ v,p.2.data ≠ .cell v):Inv X pins' σ H s :=
 ⟨I.ok,I.os,I.bare,I.base,I.loc,I.cell,I.free,I.freeC,fun p hp=>(List.mem_append.mp hp).elim (fun z=>I.pin p (List.mem_append_left _ z)) (h p),I.hok,I.len⟩
theorem nodup_ix {N:List Str} (hN:N.Nodup) {i j:Nat} {x:Str} (a:N[i]? = some x) (b:N[j]? = some x):i = j:=by
 obtain ⟨h1,e1⟩:=List.getElem?_eq_some_iff.mp a
 obtain ⟨h2,e2⟩:=List.getElem?_eq_some_iff.mp b
 exact (List.getElem_inj hN).mp (e1.trans e2.symm)
theorem store_ok2 {M:Model} {A:Around} {E:Value -> Shared -> Prop} {i:Nat} {x:Str} {v:V} {u:Value} {Q:Unit -> Shared -> Prop} (I:Inv X pins σ H s) (hN:X.N.Nodup) (hi:X.N[i]? = some x) (hx:Loc X.env.scope x) (r:RelV v u)
  (h:∀ s',Inv X pins (σ.set i (some v)) H s' -> (∃ a,Heap.SameBut a s.heap s'.heap /\ (a = X.env.locals ∨ X.env.cells.lookup x = some a)) -> Q () s') (hf:X.fn x = true ∨ X.env.scope.names.lookup x = some .local:=by first | exact .inl rfl | exact .inr rfl | assumption):wpAny M A (storeName X.env x u) Q E s:=by
 obtain ⟨m,hn,hl⟩:=id I.loc
 have hcls:(X.env.scope.kind == .class || (X.env.scope.kind == .module && X.env.locals != X.env.globals)) = false:=by rw [I.ok.kind]; rfl
 have hiσ:i < σ.length:=by rw [I.len]; exact (List.getElem?_eq_some_iff.mp hi).1
 have cne:=I.cne
 have tracked:∀ {a:Addr} {h':Heap},(∃ o,s.heap.get? a = some o /\ H a = none) -> Heap.SameBut a s.heap h' -> HOk X.prog X.w H h':=fun {a h'} ha hs b ob e=>by
  obtain ⟨_,_,hfree⟩:=ha
  refine (I.hok b ob e).stay (fun c w' hc q=>(hs.2 c ?_).trans q) (fun _ q=>q) fun _ _ q=>q
  rintro rfl
  rcases hc with rfl | hc
  ·rw [hfree] at e; cases e
  ·rw [hfree] at hc; cases hc
 rcases hx with hk | hk
 ·refine wpAny_storeName_local hk hn (fun h' hn' hs=>?_) hcls
  obtain ⟨oL,_,_,hoL,_⟩:=id hn
  refine h _ ⟨I.ok,I.os,I.bare,⟨fun b o e n hb hx=>?_,fun b o e n hb hx=>?_,I.base.free,fun b o e hx=>?_,I.base.tups,I.base.frzs,I.base.tbls⟩,⟨_,hn',fun j y v' e1 e2 e3=>?_⟩,fun y c e=>?_,I.free,I.freeC,fun p hp=>?_,tracked ⟨oL,hoL,I.free⟩ hs,by simpa using I.len⟩ ⟨_,hs,.inl rfl⟩
  ·exact (hs.2 b (Nat.ne_of_lt (Nat.lt_of_lt_of_le (Heap.lt_size e) I.ok.above))).trans (I.base.keep b o e n hb hx)
  ·obtain ⟨sl,e1⟩:=I.base.slot b o e n hb hx
   exact ⟨sl,(hs.2 b (Nat.ne_of_lt (Nat.lt_of_lt_of_le (Heap.lt_size e) I.ok.above))).trans e1⟩
  ·obtain ⟨o',e1⟩:=I.base.there b o e hx
   exact ⟨o',(hs.2 b (Nat.ne_of_lt (Nat.lt_of_lt_of_le (Heap.lt_size e) I.ok.above))).trans e1⟩
  ·by_cases hj:j = i
   ·subst hj
    rw [hi] at e1; cases e1
    rw [List.getElem?_set_self hiσ] at e2
    cases e2
    exact ⟨u,r,.inl ⟨hk,by simp⟩⟩
   ·rw [List.getElem?_set_ne (Ne.symm hj)] at e2
    obtain ⟨u',r',q⟩:=hl j y v' e1 e2 e3
    refine ⟨u',r',?_⟩
    rcases q with ⟨k,e⟩ | ⟨k,c,e,z⟩
    ·refine .inl ⟨k,?_⟩
     have:y ≠ x:=fun e=>hj (nodup_ix hN e1 (e ▸ hi))
     simp [this,e]
    ·exact .inr ⟨k,c,e,z.sameBut hs (cne y c e)⟩
  ·obtain ⟨w',z⟩:=I.cell y c e
   exact ⟨w',z.sameBut hs (cne y c e)⟩
  ·obtain ⟨e,n,ne,nf,d⟩:=I.pin p hp
   exact ⟨(hs.2 p.1 ne).trans e,n,ne,nf,d⟩
 ·have hfn:X.fn x = true:=by
   rcases hf with z | z
   ·exact z
   ·rw [z] at hk; cases hk
  obtain ⟨c,hc⟩:=I.ok.has x (.inl hk)
  obtain ⟨w',z⟩:=I.cell x c hc
  refine wpAny_storeName_cell I.ok.kind hk hc z (fun h' hc' hs=>?_)
  obtain ⟨oc,hoc,hocd⟩:=id z
  refine h { s with heap:=h' } ⟨I.ok,I.os,I.bare,⟨fun b o e n hb hx=>?_,fun b o e n hb hx=>?_,I.base.free,fun b o e hx=>?_,I.base.tups,I.base.frzs,I.base.tbls⟩,⟨m,hn.sameBut hs (Ne.symm (cne x c hc)),fun j y v' e1 e2 e3=>?_⟩,fun y c' e=>?_,I.free,I.freeC,fun p hp=>?_,tracked ⟨oc,hoc,I.freeC x c hc⟩ hs,by simpa using I.len⟩ ⟨c,hs,.inr hc⟩
  ·exact (hs.2 b (Nat.ne_of_lt (Nat.lt_of_lt_of_le (Heap.lt_size e) (I.ok.cab x c hfn hc)))).trans (I.base.keep b o e n hb hx)
  ·obtain ⟨sl,e1⟩:=I.base.slot b o e n hb hx
   exact ⟨sl,(hs.2 b (Nat.ne_of_lt (Nat.lt_of_lt_of_le (Heap.lt_size e) (I.ok.cab x c hfn hc)))).trans e1⟩
  ·obtain ⟨o',e1⟩:=I.base.there b o e hx
   exact ⟨o',(hs.2 b (Nat.ne_of_lt (Nat.lt_of_lt_of_le (Heap.lt_size e) (I.ok.cab x c hfn hc)))).trans e1⟩
  ·by_cases hj:j = i
   ·subst hj
    rw [hi] at e1; cases e1
    rw [List.getElem?_set_self hiσ] at e2
    cases e2
    exact ⟨u,r,.inr ⟨.inl hk,c,hc,hc'⟩⟩
   ·rw [List.getElem?_set_ne (Ne.symm hj)] at e2
    obtain ⟨u',r',q⟩:=hl j y v' e1 e2 e3
    refine ⟨u',r',?_⟩
    rcases q with q | ⟨k,c',e,z'⟩
    ·exact .inl q
    ·refine .inr ⟨k,c',e,z'.sameBut hs ?_⟩
     rintro rfl
     exact hj (nodup_ix hN e1 (I.ok.inj _ _ _ e hc ▸ hi))
  ·by_cases hcc:c' = c
   ·subst hcc; exact ⟨_,hc'⟩
   ·obtain ⟨w2,z2⟩:=I.cell y c' e
    exact ⟨w2,z2.sameBut hs hcc⟩
  ·obtain ⟨e,n,ne,nf,d⟩:=I.pin p hp
   refine ⟨(hs.2 p.1 ?_).trans e,n,ne,nf,d⟩
   intro q
   rw [q,hoc] at e
   have q':oc = p.2:=Option.some.inj e
   exact d w' (by rw [← q']; exact hocd)
theorem store_ok {M:Model} {A:Around} {E:Value -> Shared -> Prop} {i:Nat} {x:Str} {v:V} {u:Value} {Q:Unit -> Shared -> Prop} (I:Inv X pins σ H s) (hN:X.N.Nodup) (hi:X.N[i]? = some x) (hx:Loc X.env.scope x) (r:RelV v u)
  (h:∀ s',Inv X pins (σ.set i (some v)) H s' -> Q () s') (hf:X.fn x = true ∨ X.env.scope.names.lookup x = some .local:=by first | exact .inl rfl | exact .inr rfl | assumption):wpAny M A (storeName X.env x u) Q E s :=
 store_ok2 I hN hi hx r (fun s' I' _=>h s' I') hf
theorem Inv.call' {s':Shared} {ch:List Addr} (I:Inv X pins σ H s) (ho:s'.os = s.os) (u:Un (frs X.stack) ch H H' s.heap s'.heap) (hok:HOk X.prog X.w H' s'.heap) (hg:AllBare s'.gens)
  (hch:∀ b ∈ ch,(b ∈ X.ex ∨ X.s₀.heap.objs.size <= b) /\ b ≠ X.env.locals /\ (∀ x c,X.env.cells.lookup x = some c -> c ≠ b) /\ ∀ p ∈ X.pn ++ pins,p.1 ≠ b):Inv X pins σ H' s':=by
 obtain ⟨h',g',d',t',o'⟩:=s'
 have e:o' = s.os:=ho
 subst e
 exact I.call (g':=g') (t':=t') (d':=d') u hok hg hch
end
abbrev XK:=Value -> Option Addr -> Hp -> Prop
abbrev St:=List (Option V)
abbrev VK:=V -> Hp -> Prop
abbrev TE:=St -> Hp -> VK -> Prop
abbrev TT:=St -> Hp -> (Bool -> Hp -> Prop) -> Prop
abbrev TA:=St -> Hp -> (List V -> Hp -> Prop) -> Prop
structure Ends where
 nx:St -> Hp -> Prop
 rt:VK
 bk:St -> Hp -> Prop:=fun _ _=>False
 ct:St -> Hp -> Prop:=fun _ _=>False
abbrev TS:=Ends -> St -> Hp -> Prop
def EP (X:Cx) (pins:List (Addr × Obj)) (σ:St) (Q:VK) (u:Value) (s':Shared):Prop:=∃ v H',Inv X pins σ H' s' /\ RelV v u /\ Q v H'
def TP (X:Cx) (pins:List (Addr × Obj)) (σ:St) (Q:Bool -> Hp -> Prop) (b:Bool) (s':Shared):Prop:=∃ H',Inv X pins σ H' s' /\ Q b H'
def AP (X:Cx) (pins:List (Addr × Obj)) (σ:St) (Q:List V -> Hp -> Prop) (us:List Value) (s':Shared):Prop:=∃ vs H',Inv X pins σ H' s' /\ Vals vs us /\ Q vs H'
def SP (X:Cx) (pins:List (Addr × Obj)) (D:Ends) (f:Flow) (s':Shared):Prop :=
 match f with
 | .next=>∃ σ' H',Inv X pins σ' H' s' /\ D.nx σ' H'
 | .brk=>∃ σ' H',Inv X pins σ' H' s' /\ D.bk σ' H'
 | .cont=>∃ σ' H',Inv X pins σ' H' s' /\ D.ct σ' H'
 | .ret u=>∃ v σ' H',Inv X pins σ' H' s' /\ RelV v u /\ D.rt v H'
def PE (X:Cx) (e:Expr) (t:TE):Prop :=
 ∀ (pins:List (Addr × Obj)) (s:Shared) (σ:St) (H:Hp) (Q:VK),Inv X pins σ H s -> t σ H Q -> wpAny (model X.prog X.w) X.A (eval e X.env) (EP X pins σ Q) X.xe s
def PT (X:Cx) (e:Expr) (t:TT):Prop :=
 ∀ (pins:List (Addr × Obj)) (s:Shared) (σ:St) (H:Hp) (Q:Bool -> Hp -> Prop),Inv X pins σ H s -> t σ H Q -> wpAny (model X.prog X.w) X.A (isTrue e X.env (eval e X.env)) (TP X pins σ Q) X.xe s
def PW (X:Cx) (e:Expr) (t:TT):Prop :=
 ∀ (whole:Sem Value) (pins:List (Addr × Obj)) (s:Shared) (σ:St) (H:Hp) (Q:Bool -> Hp -> Prop),Inv X pins σ H s -> t σ H Q -> wpAny (model X.prog X.w) X.A (isTrue e X.env whole) (TP X pins σ Q) X.xe s
theorem PW.pt {X:Cx} {e:Expr} {t:TT} (h:PW X e t):PT X e t:=h _
def PA (X:Cx) (es:List Expr) (t:TA):Prop :=
 ∀ (pos:Pos) (pins:List (Addr × Obj)) (s:Shared) (σ:St) (H:Hp) (Q:List V -> Hp -> Prop),Inv X pins σ H s -> t σ H Q -> wpAny (model X.prog X.w) X.A (spliced (backTo pos (starEach es X.env))) (AP X pins σ Q) X.xe s
def PS (X:Cx) (st:Stmt) (t:TS):Prop :=
 ∀ (pins:List (Addr × Obj)) (s:Shared) (σ:St) (H:Hp) (D:Ends),Inv X pins σ H s -> t D σ H -> wpAny (model X.prog X.w) X.A (exec st X.env) (SP X pins D) X.xe s
def PSs (X:Cx) (st:List Stmt) (t:TS):Prop :=
 ∀ (pins:List (Addr × Obj)) (s:Shared) (σ:St) (H:Hp) (D:Ends),Inv X pins σ H s -> t D σ H -> wpAny (model X.prog X.w) X.A (execs st X.env) (SP X pins D) X.xe s
theorem thn {α:Type} {t:Sem α} {Q Q':α -> Shared -> Prop} {M:Model} {A:Around} {E:Value -> Shared -> Prop} {s:Shared} (h:wpAny M A t Q E s) (hQ:∀ a s,Q a s -> Q' a s):wpAny M A t Q' E s:=wpAny_mono h hQ fun _ _ x=>x
end L2
namespace L2
open PySem PySem.Spec PyProof.Rows
section
variable {X:Cx}
def tVar (i:Nat):TE:=fun σ H Q=>∃ v,σ[i]? = some (some v) /\ Q v H
def tC (v:V):TE:=fun _ H Q=>Q v H
theorem pe_var {i:Nat} {x:Str} {pos:Pos} (hN:X.N[i]? = some x) (hv:Vis X.env.scope x) (hd:(x == ("__debug__" : Str)) = false:=by decide) (hcd:(x == ("__classdict__" : Str)) = false:=by decide):PE X (.Name x pos) (tVar i):=by
 intro pins s σ H Q I h
 obtain ⟨v,e,h⟩:=h
 obtain ⟨m,hn,hl⟩:=I.loc
 obtain ⟨u,r,l⟩:=hl i x v hN e hv
 have fin:EP X pins σ Q u s:=⟨v,H,I,r,h⟩
 rcases l with ⟨hk,hm⟩ | ⟨hk,c,hc,hcell⟩
 ·exact wpAny_Name (wpAny_loadName_local I.ok.kind hk hn hm fin) hd
 ·rcases hk with hk | hk
  ·exact wpAny_Name (wpAny_loadName_cell I.ok.kind hk hc hcell fin) hd
  ·exact wpAny_Name (wpAny_loadName_free I.ok.kind hk hc hcell fin hcd) hd
theorem pe_int {i j pos}:PE X (.Constant (.int i) j pos) (tC (.int i)):=fun _ _ _ H _ I h=>wpAny_Constant_int ⟨.int i,H,I.tok _,⟨_,rfl⟩,h⟩
theorem pe_bl {b j pos}:PE X (.Constant (.bool b) j pos) (tC (.bl b)):=fun _ _ _ H _ I h=>Constant_bool ⟨.bl b,H,I,rfl,h⟩
theorem pe_non {j pos}:PE X (.Constant .none j pos) (tC .non):=fun _ _ _ H _ I h=>Constant_none ⟨.non,H,I,rfl,h⟩
theorem pe_str {x j pos}:PE X (.Constant (.str x) j pos) (tC (.str x)):=fun _ _ _ H _ I h=>Calls.Constant_str ⟨.str x,H,I.tok _,⟨_,rfl⟩,h⟩
def Gl (X:Cx) (x:Str):Prop:=X.env.kindOf x = some .globalImplicit
theorem ld_glob {E:Value -> Shared -> Prop} {pins:List (Addr × Obj)} {s:Shared} {σ:St} {H:Hp} {x:Str} {u:Value} {pos:Pos} {Q:Value -> Shared -> Prop} (I:Inv X pins σ H s) (hg:Gl X x) (hm:X.mg x = some u) (h:Q u s)
  (hd:(x == ("__debug__" : Str)) = false:=by decide):wpAny (model X.prog X.w) X.A (eval (.Name x pos) X.env) Q E s :=
 Calls.Name_function_global I.ok.kind hg (Calls.loadGlobal_global (by rw [I.ok.glob]; exact I.mod.glob.keeps I.bk) hm h) hd
theorem ld_blt {E:Value -> Shared -> Prop} {pins:List (Addr × Obj)} {s:Shared} {σ:St} {H:Hp} {x:Str} {u:Value} {pos:Pos} {Q:Value -> Shared -> Prop} (I:Inv X pins σ H s) (hg:Gl X x) (hm:X.mg x = none) (hv:bootBuiltins x = some u) (h:Q u s)
  (hn:x ≠ "__name__":=by decide) (hd:(x == ("__debug__" : Str)) = false:=by decide):wpAny (model X.prog X.w) X.A (eval (.Name x pos) X.env) Q E s:=by
 obtain ⟨mb,h1,h2⟩:=I.mod.blt
 exact Calls.Name_function_global I.ok.kind hg (Calls.loadGlobal_builtin (by rw [I.ok.glob]; exact I.mod.glob.keeps I.bk) hm (by rw [I.ok.blt]; exact h1.keeps I.bk) ((h2 x hn).trans hv) h) hd
theorem pe_bltn {x:Str} {v:V} {u:Value} {pos:Pos} (hg:Gl X x) (hm:X.mg x = none) (hv:bootBuiltins x = some u) (r:RelV v u) (hn:x ≠ "__name__":=by decide) (hd:(x == ("__debug__" : Str)) = false:=by decide):PE X (.Name x pos) (tC v) :=
 fun _ _ _ H _ I h=>ld_blt I hg hm hv ⟨v,H,I,r,h⟩ hn hd
variable {a b:Expr} {ta tb:TE} {pos:Pos}
def tB (t:TE):TT:=fun σ H Q=>t σ H fun x H1=>∃ c,x = .bl c /\ Q c H1
theorem pt_val {e:Expr} {t:TE} (h:PE X e t) (he:∀ whole,isTrue e X.env whole = (do let v ← whole; standAt e.pos; holding [v] (truthy v)):=by intro _; rfl):PT X e (tB t):=by
 intro pins s σ H Q I hw
 refine isTrue_plain (thn (h pins s σ H _ I hw) fun v s1 ⟨x,H1,I1,r1,q1⟩=>?_) (he _)
 obtain ⟨d,rfl,q⟩:=q1
 cases r1
 exact wpAny_truthy_bool ⟨H1,I1,q⟩
variable {tA tB':TT} {rest:List Expr}
def tAnd (t u:TT):TT:=fun σ H Q=>t σ H fun c H1=>if c = true then u σ H1 Q else Q false H1
def tOr (t u:TT):TT:=fun σ H Q=>t σ H fun c H1=>if c = true then Q true H1 else u σ H1 Q
def tNot (t:TT):TT:=fun σ H Q=>t σ H fun c H1=>Q (!c) H1
theorem pw_and1 (ha:PT X a tA):PW X (.BoolOp .And [a] pos) tA:=by
 intro wh pins s σ H Q I h
 refine isTrue_and (thn (ha pins s σ H Q I h) fun c s1 e=>?_)
 cases c with
 | true=>exact isTrue_and_nil e
 | false=>exact e
theorem pw_or1 (ha:PT X a tA):PW X (.BoolOp .Or [a] pos) tA:=by
 intro wh pins s σ H Q I h
 refine isTrue_or (thn (ha pins s σ H Q I h) fun c s1 e=>?_)
 cases c with
 | false=>exact isTrue_or_nil e
 | true=>exact e
theorem pw_and (ha:PT X a tA) (hb:PW X (.BoolOp .And (b :: rest) pos) tB'):PW X (.BoolOp .And (a :: b :: rest) pos) (tAnd tA tB'):=by
 intro wh pins s σ H Q I h
 refine isTrue_and (thn (ha pins s σ H _ I h) fun c s1 ⟨H1,I1,q1⟩=>?_)
 cases c with
 | true=>exact hb wh pins s1 σ H1 Q I1 q1
 | false=>exact ⟨H1,I1,q1⟩
theorem pw_or (ha:PT X a tA) (hb:PW X (.BoolOp .Or (b :: rest) pos) tB'):PW X (.BoolOp .Or (a :: b :: rest) pos) (tOr tA tB'):=by
 intro wh pins s σ H Q I h
 refine isTrue_or (thn (ha pins s σ H _ I h) fun c s1 ⟨H1,I1,q1⟩=>?_)
 cases c with
 | true=>exact ⟨H1,I1,q1⟩
 | false=>exact hb wh pins s1 σ H1 Q I1 q1
theorem pt_not (ha:PT X a tA):PT X (.UnaryOp .Not a pos) (tNot tA):=by
 intro pins s σ H Q I h
 exact isTrue_not (ha pins s σ H (fun c H1=>Q (!c) H1) I h)
def tAndV (ta tb:TE):TE:=fun σ H Q=>ta σ H fun x H1=>∃ c,x = .bl c /\ if c = true then tb σ H1 Q else Q (.bl false) H1
def tNotV (ta:TE):TE:=fun σ H Q=>ta σ H fun x H1=>∃ c,x = .bl c /\ Q (.bl (!c)) H1
theorem pe_one {op} {t:TE} (h:PE X a t):PE X (.BoolOp op [a] pos) t:=fun pins s σ H Q I hw=>BoolOp_one (h pins s σ H Q I hw)
theorem pe_and (ha:PE X a ta) (hb:PE X (.BoolOp .And (b :: rest) pos) tb):PE X (.BoolOp .And (a :: b :: rest) pos) (tAndV ta tb):=by
 intro pins s σ H Q I h
 refine BoolOp_and (thn (ha pins s σ H _ I h) fun v s1 ⟨x,H1,I1,r1,q1⟩=>?_)
 obtain ⟨c,rfl,q1⟩:=q1
 cases r1
 refine wpAny_truthy_bool ?_
 cases c with
 | true=>exact hb pins s1 σ H1 Q I1 q1
 | false=>exact ⟨.bl false,H1,I1,rfl,q1⟩
theorem pe_not (ha:PE X a ta):PE X (.UnaryOp .Not a pos) (tNotV ta):=by
 intro pins s σ H Q I h
 refine UnaryOp_ (thn (ha pins s σ H _ I h) fun v s1 ⟨x,H1,I1,r1,q1⟩=>?_)
 obtain ⟨c,rfl,q1⟩:=q1
 cases r1
 exact not_of (wpAny_truthy_bool ⟨.bl (!c),H1,I1,rfl,q1⟩)
def tIf (t:TT) (ta tb:TE):TE:=fun σ H Q=>t σ H fun c H1=>if c = true then ta σ H1 Q else tb σ H1 Q
theorem pe_ifExp {c:Expr} (hc:PT X c tA) (ha:PE X a ta) (hb:PE X b tb):PE X (.IfExp c a b pos) (tIf tA ta tb):=by
 intro pins s σ H Q I h
 refine wpAny_IfExp (thn (hc pins s σ H _ I h) fun d s1 ⟨H1,I1,q1⟩=>?_)
 cases d with
 | true=>exact ha pins s1 σ H1 Q I1 q1
 | false=>exact hb pins s1 σ H1 Q I1 q1
end
end L2
namespace L2
open PySem PySem.Spec PyProof.Rows
def SqL (K:PySem.W.Frag) (H:Hp) (a:Addr) (xs:List V):Prop :=
 Rd H a (.lst xs) ∨
  ∃ (o:Obj) (its:Array Value) (n:Nat),K.lookup a = some o /\ o.cls = .type "list" /\ o.dict = none /\ o.data = .seq its n /\ its.size <= sizeLine /\ Vals xs its.toList
def SqT (K:PySem.W.Frag) (H:Hp) (a:Addr) (xs:List V):Prop :=
 Rd H a (.tup xs) ∨
  ∃ (o:Obj) (its:Array Value) (n:Nat),K.lookup a = some o /\ o.cls = .type "tuple" /\ o.data = .seq its n /\ its.size <= sizeLine /\ Vals xs its.toList
def absV:Value -> Option V
 | .none=>some .non
 | .bool b=>some (.bl b)
 | .int i _=>some (.int i)
 | .str x _=>some (.str x)
 | .bytes b _=>some (.byt b)
 | .float b _=>some (.flt b)
 | .ref a=>some (.ref a)
 | .type n=>some (.ty n)
 | _=>none
theorem RelV.abs {x:V} {u:Value} (r:RelV x u):absV u = some x:=by
 cases x with
 | non=>cases r; rfl
 | bl _=>cases r; rfl
 | int _=>obtain ⟨t,rfl⟩:=r; rfl
 | str _=>obtain ⟨t,rfl⟩:=r; rfl
 | byt _=>obtain ⟨t,rfl⟩:=r; rfl
 | flt _=>obtain ⟨t,rfl⟩:=r; rfl
 | ref _=>cases r; rfl
 | ty _=>cases r; rfl
theorem RelV.inj {x y:V} {u:Value} (r:RelV x u) (q:RelV y u):x = y:=Option.some.inj (r.abs.symm.trans q.abs)
theorem Vals.inj:∀ {xs ys:List V} {us:List Value},Vals xs us -> Vals ys us -> xs = ys
 | _,_,_,.nil,.nil=>rfl
 | _,_,_,.cons r t,.cons r' t'=>by rw [r.inj r',Vals.inj t t']
section
variable {X:Cx} {pins:List (Addr × Obj)} {σ:St} {H:Hp} {s:Shared} {a:Addr} {xs ys:List V}
theorem SqL.of {K:PySem.W.Frag} (h:H a = some (.lst xs)):SqL K H a xs:=.inl (.inl h)
theorem SqT.of {K:PySem.W.Frag} (h:H a = some (.tup xs)):SqT K H a xs:=.inl (.inl h)
theorem Inv.list (I:Inv X pins σ H s) (h:SqL X.K H a xs):∃ its:List Value,Vals xs its /\ PlainL s.heap a its.toArray /\ xs.length <= sizeLine:=by
 rcases h with h | ⟨o,its,n,hk,hc,hd,hs,hz,r⟩
 ·obtain ⟨z,its,n,r,e⟩:=h.ok I.hok
  exact ⟨its,r,⟨_,n,e,rfl,rfl,rfl⟩,z⟩
 ·refine ⟨its.toList,r,⟨o,n,I.kIn a o hk,hc,hd,by simpa using hs⟩,?_⟩
  have e:=r.length
  simp only [Array.length_toList] at e
  omega
theorem Inv.tuple (I:Inv X pins σ H s) (h:SqT X.K H a xs):∃ its:List Value,Vals xs its /\ IsTup s.heap a its.toArray /\ xs.length <= sizeLine:=by
 rcases h with h | ⟨o,its,n,hk,hc,hs,hz,r⟩
 ·obtain ⟨z,its,r,p⟩:=h.ok I.hok
  exact ⟨its,r,p,z⟩
 ·refine ⟨its.toList,r,⟨o,I.kIn a o hk,hc,n,by simpa using hs⟩,?_⟩
  have e:=r.length
  simp only [Array.length_toList] at e
  omega
theorem Inv.list_inj (I:Inv X pins σ H s) (h:SqL X.K H a xs) (h':SqL X.K H a ys):xs = ys:=by
 obtain ⟨its,r,⟨o,n,e,_,_,d⟩,_⟩:=I.list h
 obtain ⟨its',r',⟨o',n',e',_,_,d'⟩,_⟩:=I.list h'
 rw [e] at e'; cases e'
 rw [d] at d'
 injection d' with d1 _
 have:its = its':=by simpa using congrArg Array.toList d1
 subst this
 exact r.inj r'
theorem Inv.tuple_inj (I:Inv X pins σ H s) (h:SqT X.K H a xs) (h':SqT X.K H a ys):xs = ys:=by
 obtain ⟨its,r,⟨o,e,_,n,d⟩,_⟩:=I.tuple h
 obtain ⟨its',r',⟨o',e',_,n',d'⟩,_⟩:=I.tuple h'
 rw [e] at e'; cases e'
 rw [d] at d'
 injection d' with d1 _
 have:its = its':=by simpa using congrArg Array.toList d1
 subst this
 exact r.inj r'
end
abbrev Cx.wish (X:Cx) (E:Value -> Shared -> Prop):Cx:={ X with xe:=E }
abbrev Cx.nox (X:Cx):Cx:=X.wish fun _ _=>False
theorem Cx.Ok.wish {X:Cx} (ok:X.Ok) (E:Value -> Shared -> Prop):(X.wish E).Ok :=
 ⟨ok.mod,ok.kind,ok.glob,ok.blt,ok.above,ok.inj,ok.has,ok.cab,ok.hd,ok.frames,ok.stk,ok.exf,ok.bs,ok.bsz,ok.noex,ok.exfs,ok.funs,ok.frf⟩
theorem Cx.Ok.unwish {X:Cx} {E:Value -> Shared -> Prop} (ok:(X.wish E).Ok):X.Ok :=
 ⟨ok.mod,ok.kind,ok.glob,ok.blt,ok.above,ok.inj,ok.has,ok.cab,ok.hd,ok.frames,ok.stk,ok.exf,ok.bs,ok.bsz,ok.noex,ok.exfs,ok.funs,ok.frf⟩
section
variable {X:Cx} {pins:List (Addr × Obj)} {σ:St} {H:Hp} {s:Shared} {E:Value -> Shared -> Prop}
theorem Inv.wish (I:Inv X pins σ H s) (E:Value -> Shared -> Prop):Inv (X.wish E) pins σ H s:=⟨I.ok.wish E,I.os,I.bare,I.base,I.loc,I.cell,I.free,I.freeC,I.pin,I.hok,I.len⟩
theorem Inv.unwish (I:Inv (X.wish E) pins σ H s):Inv X pins σ H s:=⟨I.ok.unwish,I.os,I.bare,I.base,I.loc,I.cell,I.free,I.freeC,I.pin,I.hok,I.len⟩
theorem SP.unwish {D:Ends} {f:Flow} {s':Shared} (h:SP (X.wish E) pins D f s'):SP X pins D f s':=by
 cases f with
 | next=>obtain ⟨σ',H',I,q⟩:=h; exact ⟨σ',H',I.unwish,q⟩
 | brk=>obtain ⟨σ',H',I,q⟩:=h; exact ⟨σ',H',I.unwish,q⟩
 | cont=>obtain ⟨σ',H',I,q⟩:=h; exact ⟨σ',H',I.unwish,q⟩
 | ret u=>obtain ⟨v,σ',H',I,r,q⟩:=h; exact ⟨v,σ',H',I.unwish,r,q⟩
theorem PSs.nox {st:List Stmt} {t:TS} (h:PSs X.nox st t):PSs X st t:=fun pins s σ H D I hw =>
 wpAny_mono (h pins s σ H D (I.wish _) hw) (fun _ _ q=>q.unwish) fun _ _ z=>False.elim z
end
section
variable {X:Cx} {st:Stmt} {rest:List Stmt} {t u:TS} {e:Expr} {te:TE} {pos:Pos}
def tNext:TS:=fun D σ H=>D.nx σ H
def tSeq (t u:TS):TS:=fun D σ H=>t { D with nx:=u D } σ H
theorem pss_nil:PSs X [] tNext:=fun _ _ σ H _ I h=>wpAny_execs_nil ⟨σ,H,I,h⟩
theorem pss_cons (h1:PS X st t) (h2:PSs X rest u):PSs X (st :: rest) (tSeq t u):=by
 intro pins s σ H D I h
 refine wpAny_execs_cons (thn (h1 pins s σ H { D with nx:=u D } I h) fun f s1 q=>?_)
 cases f with
 | next =>
  obtain ⟨σ',H',I',q⟩:=q
  exact h2 pins s1 σ' H' D I' q
 | ret v=>exact q
 | brk=>exact q
 | cont=>exact q
theorem pss_one (h1:PS X st t):PSs X [st] t:=by
 intro pins s σ H D I h
 refine wpAny_execs_cons (thn (h1 pins s σ H D I h) fun f s1 q=>?_)
 cases f with
 | next=>exact wpAny_execs_nil q
 | ret v=>exact q
 | brk=>exact q
 | cont=>exact q
theorem Inv.quiet {pins:List (Addr × Obj)} {σ:St} {H:Hp} {s:Shared} (I:Inv X pins σ H s):interactive X.env = false:=by simp [interactive,I.ok.kind]
def tDrop (te:TE):TS:=fun D σ H=>te σ H fun _ H1=>D.nx σ H1
theorem ps_expr (he:PE X e te) (hs:swapsWith e none pos.line X.env = pure false:=by rfl):PS X (.Expr e pos) (tDrop te):=by
 intro pins s σ H D I h
 exact wpAny_Expr_any (thn (he pins s σ H _ I h) fun v s1 ⟨x,H1,I1,r1,q1⟩=>⟨σ,H1,I1,q1⟩) I.quiet hs
def tRet (te:TE):TS:=fun D σ H=>te σ H D.rt
theorem ps_ret (he:PE X e te):PS X (.Return (some e) pos) (tRet te):=by
 intro pins s σ H D I h
 exact wpAny_Return_some (thn (he pins s σ H _ I h) fun v s1 ⟨x,H1,I1,r1,q1⟩=>⟨x,σ,H1,I1,r1,q1⟩)
def tIfS (c:TT) (t u:TS):TS:=fun D σ H=>c σ H fun b H1=>if b = true then t D σ H1 else u D σ H1
theorem ps_if {c:Expr} {a b:List Stmt} {tc:TT} (hc:PT X c tc) (ha:PSs X a t) (hb:PSs X b u):PS X (.If c a b pos) (tIfS tc t u):=by
 intro pins s σ H D I h
 refine wpAny_If (thn (hc pins s σ H _ I h) fun d s1 ⟨H1,I1,q1⟩=>?_)
 cases d with
 | true=>exact ha pins s1 σ H1 D I1 q1
 | false=>exact hb pins s1 σ H1 D I1 q1
def tNever:TS:=fun _ _ _=>False
theorem ps_never:PS X st tNever:=fun _ _ _ _ _ _ h=>h.elim
end
abbrev TG:=V -> St -> Hp -> (St -> Hp -> Prop) -> Prop
abbrev TGs:=List V -> St -> Hp -> (St -> Hp -> Prop) -> Prop
def PG (X:Cx) (target:Expr) (t:TG):Prop :=
 ∀ (pins:List (Addr × Obj)) (s:Shared) (σ:St) (H:Hp) (v:V) (u:Value) (Q:St -> Hp -> Prop),Inv X pins σ H s -> RelV v u -> t v σ H Q ->
  wpAny (model X.prog X.w) X.A (assign target X.env u) (fun _ s'=>∃ σ' H',Inv X pins σ' H' s' /\ Q σ' H') X.xe s
def PGs (X:Cx) (ts:List Expr) (t:TGs):Prop :=
 ∀ (pins:List (Addr × Obj)) (s:Shared) (σ:St) (H:Hp) (vs:List V) (us:List Value) (Q:St -> Hp -> Prop),Inv X pins σ H s -> Vals vs us -> t vs σ H Q ->
  wpAny (model X.prog X.w) X.A (assignInOrder ((assignEach ts X.env).map (·.2)) us) (fun _ s'=>∃ σ' H',Inv X pins σ' H' s' /\ Q σ' H') X.xe s
abbrev TSet:=V -> V -> V -> Hp -> (Hp -> Prop) -> Prop
def PSet (X:Cx) (t:TSet):Prop :=
 ∀ (pins:List (Addr × Obj)) (s:Shared) (σ:St) (H:Hp) (o i v:V) (ov iv u:Value) (Q:Hp -> Prop),Inv X pins σ H s -> RelV o ov -> RelV i iv -> RelV v u -> t o i v H Q ->
  wpAny (model X.prog X.w) X.A (setItem ov iv u) (fun _ s'=>∃ H',Inv X pins σ H' s' /\ Q H') X.xe s
section
variable {X:Cx} {pos:Pos}
def gName (i:Nat):TG:=fun v σ H Q=>Q (σ.set i (some v)) H
theorem pg_name {i:Nat} {x:Str} (hN:X.N.Nodup) (hi:X.N[i]? = some x) (hx:Loc X.env.scope x) (hf:X.fn x = true ∨ X.env.scope.names.lookup x = some .local:=by first | exact .inl rfl | exact .inr rfl | assumption):PG X (.Name x pos) (gName i):=by
 intro pins s σ H v u Q I r h
 exact wpAny_assign_Name (store_ok I hN hi hx r (fun s' I'=>⟨_,H,I',h⟩) hf)
def gNil:TGs:=fun vs σ H Q=>vs = [] /\ Q σ H
def gCons (t:TG) (u:TGs):TGs:=fun vs σ H Q=>∃ v r,vs = v :: r /\ t v σ H fun σ' H'=>u r σ' H' Q
theorem pgs_nil:PGs X [] gNil:=by
 intro pins s σ H vs us Q I r h
 obtain ⟨e,h⟩:=h
 subst e
 cases r
 exact assignInOrder_nil ⟨σ,H,I,h⟩
theorem pgs_cons {e:Expr} {es:List Expr} {t:TG} {u:TGs} (h1:PG X e t) (h2:PGs X es u)
  (hs:(assignEach (e :: es) X.env).map (·.2) = assign e X.env :: (assignEach es X.env).map (·.2):=by rfl):PGs X (e :: es) (gCons t u):=by
 intro pins s σ H vs us Q I r h
 obtain ⟨v,vr,e1,h⟩:=h
 subst e1
 cases r with
 | cons r rr =>
  rw [hs]
  refine assignInOrder_cons (thn (h1 pins s σ H _ _ _ I r h) fun _ s1 ⟨σ1,H1,I1,q1⟩=>?_)
  exact h2 pins s1 σ1 H1 _ _ Q I1 rr q1
def gTup (K:PySem.W.Frag) (n:Nat) (t:TGs):TG:=fun v σ H Q=>∃ a xs,v = .ref a /\ SqT K H a xs /\ xs.length = n /\ t xs σ H Q
theorem pg_tup {es:List Expr} {k:Nat} {t:TGs} {n:Nat} (hc:X.calm = true) (h:PGs X es t)
  (hn:(assignEach es X.env).length = n:=by rfl) (hst:(assignEach es X.env).findIdx? (·.1) = none:=by rfl):PG X (.Tuple es k pos) (gTup X.K n t):=by
 intro pins s σ H v u Q I r hw
 obtain ⟨a,xs,e1,hq,hl,hw⟩:=hw
 subst e1
 cases r
 obtain ⟨its,rv,ht,hz⟩:=I.tuple hq
 refine assign_Tuple_tuple (I.ok.hd hc) ht (by simp [hn,← hl,rv.length]) hst fun h' hx=>?_
 have I1:Inv X pins σ H { s with heap:=h' }:=I.kept (t':=s.toks) fun b o e=>hx b o (Nat.ne_of_lt (Heap.lt_size e)) e
 exact h pins _ σ H xs _ Q I1 (by simpa using rv) hw
def gSub (to ti:TE) (t:TSet):TG:=fun v σ H Q=>to σ H fun o H1=>ti σ H1 fun i H2=>t o i v H2 fun H3=>Q σ H3
theorem pg_sub {o i:Expr} {to ti:TE} {t:TSet} (ho:PE X o to) (hi:PE X i ti) (hs:PSet X t)
  (ha:∀ v,assign (.Subscript o i pos) X.env v = (do
   let ov ← holding [v] (eval o X.env)
   let iv ← holding [v,ov] (eval i X.env)
   standAt pos
   holding [v,ov,iv] (setItem ov iv v)
   release [v,ov,iv] []):=by intro _; rfl):PG X (.Subscript o i pos) (gSub to ti t):=by
 intro pins s σ H v u Q I r h
 rw [ha]
 refine wpAny_bind (wpAny_holding (thn (ho pins s σ H _ I h) fun ov s1 ⟨x,H1,I1,r1,q1⟩=>?_))
 refine wpAny_bind (wpAny_holding (thn (hi pins s1 σ H1 _ I1 q1) fun iv s2 ⟨y,H2,I2,r2,q2⟩=>?_))
 refine wpAny_bind (wpAny_standAt (wpAny_bind (wpAny_holding (thn (hs pins s2 σ H2 x y v ov iv u _ I2 r1 r2 r q2) fun _ s3 ⟨H3,I3,q3⟩=>?_))))
 exact wpAny_release ⟨σ,H3,I3,q3⟩
def tAsg (te:TE) (g:TG):TS:=fun D σ H=>te σ H fun x H1=>g x σ H1 D.nx
theorem ps_asg {tg e:Expr} {te:TE} {g:TG} (he:PE X e te) (hg:PG X tg g) (hs:swapsWithSole [tg] e pos.line X.env = pure false:=by rfl) (hw:swappedStores [tg] e X.env = pure none:=by rfl)
  (h1:(assignEach [tg] X.env).map (·.2) = [assign tg X.env]:=by rfl):PS X (.Assign [tg] e pos) (tAsg te g):=by
 intro pins s σ H D I h
 refine wpAny_Assign_stores (thn (he pins s σ H _ I h) fun v s1 ⟨x,H1,I1,r1,q1⟩=>?_) hs hw
 rw [h1]
 exact thn (hg pins s1 σ H1 x v _ I1 r1 q1) fun _ s2 q=>q
theorem ps_set {i:Nat} {x:Str} {e:Expr} {te:TE} {pos':Pos} (hN:X.N.Nodup) (hi:X.N[i]? = some x) (hx:Loc X.env.scope x) (he:PE X e te) (hs:swapsWith e (some (.Name x pos')) pos.line X.env = pure false:=by rfl) (hf:X.fn x = true ∨ X.env.scope.names.lookup x = some .local:=by first | exact .inl rfl | exact .inr rfl | assumption) :
  PS X (.Assign [.Name x pos'] e pos) (tAsg te (gName i)):=by
 intro pins s σ H D I h
 refine wpAny_Assign_Name (thn (he pins s σ H _ I h) fun v s1 ⟨y,H1,I1,r1,q1⟩=>?_) hs
 exact store_ok I1 hN hi hx r1 (fun s2 I2=>⟨_,H1,I2,q1⟩) hf
end
section
variable {X:Cx} {pos:Pos}
def tWhile (c:TT) (tb:TS):TS:=fun D σ H=>∃ W:Nat -> St -> Hp -> Prop,(∃ m,W m σ H) /\ ∀ m σ H,W m σ H ->
 c σ H fun b H1=>if b = true then ∃ N:St -> Hp -> Prop,(∀ σ' H',N σ' H' -> ∃ m',m' < m /\ W m' σ' H') /\ tb { D with nx:=N,ct:=N,bk:=D.nx } σ H1 else D.nx σ H1
theorem ps_while {c:Expr} {body:List Stmt} {tc:TT} {tb:TS} (hp:PassesOwn (model X.prog X.w) X.A X.env X.xe) (hc:PT X c tc) (hb:PSs X body tb):PS X (.While c body [] pos) (tWhile tc tb):=by
 intro pins s σ H D I h
 obtain ⟨W,⟨m0,w0⟩,turn⟩:=h
 refine wpAny_While (codeAny_whileLoop (fun n s'=>∃ σ' H',Inv X pins σ' H' s' /\ W n σ' H') ?_ m0 ⟨σ,H,I,w0⟩)
 rintro n s1 ⟨σ1,H1,I1,w1⟩
 refine wpAny_passesOwn hp (thn (hc pins s1 σ1 H1 _ I1 (turn n σ1 H1 w1)) fun b s2 ⟨H2,I2,q2⟩=>?_)
 cases b with
 | true =>
  obtain ⟨N,hN,q2⟩:=q2
  rw [if_pos rfl]
  refine wpAny_passesOwn hp (thn (hb pins s2 σ1 H2 _ I2 q2) fun f s3 q3=>?_)
  cases f with
  | next =>
   obtain ⟨σ3,H3,I3,n3⟩:=q3
   obtain ⟨m',hm,w3⟩:=hN σ3 H3 n3
   exact ⟨m',hm,σ3,H3,I3,w3⟩
  | cont =>
   obtain ⟨σ3,H3,I3,n3⟩:=q3
   obtain ⟨m',hm,w3⟩:=hN σ3 H3 n3
   exact ⟨m',hm,σ3,H3,I3,w3⟩
  | brk=>exact q3
  | ret v=>exact q3
 | false =>
  rw [if_neg Bool.false_ne_true]
  exact wpAny_execs_nil ⟨σ1,H2,I2,q2⟩
end
structure It where
 go:Nat -> Hp -> Prop
 yld:Nat -> Hp -> V -> Hp -> Prop
 stop:Nat -> Hp -> Prop
def FpOk (X:Cx) (pins:List (Addr × Obj)) (H:Hp) (b:Addr):Prop :=
 H b = none /\ b ≠ X.env.locals /\ b ∉ X.fs /\ (b ∈ X.ex ∨ X.s₀.heap.objs.size <= b) /\ (∀ x c,X.env.cells.lookup x = some c -> c ≠ b) /\ ∀ p ∈ X.pn ++ pins,p.1 ≠ b
theorem Inv.fpOk {X:Cx} {pins:List (Addr × Obj)} {σ:St} {H H':Hp} {s:Shared} {b:Addr} (I:Inv X pins σ H s) (hb:s.heap.objs.size <= b) (hn:H' b = none):FpOk X pins H' b:=by
 refine ⟨hn,Nat.ne_of_gt (Nat.lt_of_lt_of_le I.lt hb),I.nofs hb,.inr (Nat.le_trans I.sz hb),fun x c e z=>?_,fun p hp z=>?_⟩
 ·obtain ⟨v,q⟩:=I.cell x c e
  exact absurd (Nat.lt_of_lt_of_le q.lt (by rw [z]; exact hb)) (Nat.lt_irrefl _)
 ·exact absurd (Nat.lt_of_lt_of_le (Heap.lt_size (I.pin p hp).1) (by rw [z]; exact hb)) (Nat.lt_irrefl _)
structure Turn (P:Program) (w:World) (K:PySem.W.Frag) (tg:Expr) (J:It) (fp:List Addr) (it:Addr) (tn:Nat -> Heap -> Prop):Prop where
 mem:it ∈ fp
 obj:∀ i h,tn i h -> ∀ b ∈ fp,∃ o,h.get? b = some o /\ ∀ v,o.data ≠ .cell v
 keep:∀ i h h',tn i h -> (∀ b ∈ fp,∀ o,h.get? b = some o -> h'.get? b = some o) -> tn i h'
 item:∀ (X:Cx),X.prog = P -> X.w = w -> X.K = K -> X.calm = true -> ∀ (i:Nat) (pins:List (Addr × Obj)) (s:Shared) (σ:St) (H:Hp) (E:Value -> Shared -> Prop),Inv X pins σ H s -> (∀ b ∈ fp,FpOk X pins H b) -> tn i s.heap -> J.go i H ->
  wpAny (model P w) X.A (pyNext (.ref it)) (fun r s1=>∃ u,r = some u /\
   wpAny (model P w) X.A (letOwnedTupleGo tg (.ref it) u) (fun _ s2=>∃ x H',Inv X pins σ H' s2 /\ RelV x u /\ J.yld i H x H' /\ tn (i + 1) s2.heap /\ ∀ b ∈ fp,H' b = none) E s1) E s
 done:∀ (X:Cx),X.prog = P -> X.w = w -> X.K = K -> X.calm = true -> ∀ (i:Nat) (pins:List (Addr × Obj)) (s:Shared) (σ:St) (H:Hp) (E:Value -> Shared -> Prop),Inv X pins σ H s -> (∀ b ∈ fp,FpOk X pins H b) -> tn i s.heap -> J.stop i H ->
  wpAny (model P w) X.A (pyNext (.ref it)) (fun r s1=>r = none /\ Inv X pins σ H s1) E s
 self:∀ (A:Around) (i:Nat) (s:Shared) (Q:Value -> Shared -> Prop) (E:Value -> Shared -> Prop),tn i s.heap -> Q (.ref it) s -> wpAny (model P w) A (pyIter (.ref it)) Q E s
abbrev TI:=St -> Hp -> (It -> Hp -> Prop) -> Prop
def PIE (X:Cx) (pins:List (Addr × Obj)) (σ:St) (tg:Expr) (R:It -> Hp -> Prop) (itv:Value) (s2:Shared):Prop :=
 ∃ (it:Addr) (fp:List Addr) (tn:Nat -> Heap -> Prop) (J:It) (H':Hp),itv = .ref it /\ Inv X pins σ H' s2 /\ Turn X.prog X.w X.K tg J fp it tn /\ tn 0 s2.heap /\ (∀ b ∈ fp,FpOk X pins H' b) /\ R J H'
def PI (X:Cx) (tg iter:Expr) (wi:TI):Prop :=
 ∀ (pins:List (Addr × Obj)) (s:Shared) (σ:St) (H:Hp) (R:It -> Hp -> Prop),Inv X pins σ H s -> wi σ H R ->
  wpAny (model X.prog X.w) X.A (eval iter X.env) (fun v s1=>wpAny (model X.prog X.w) X.A (pyIter v) (PIE X pins σ tg R) X.xe s1) X.xe s
theorem go_of {M:Model} {A:Around} {E:Value -> Shared -> Prop} {s:Shared} {tg:Expr} {it:Addr} {u:Value} {o:Obj} {n:String} {vs:Array Value} {Q:Unit -> Shared -> Prop} (ho:s.heap.get? it = some o) (hc:o.cls = .type n) (hd:o.data = .fields vs)
  (hn:["enumerate","zip","dict_itemiterator","dict_reverseitemiterator","odict_iterator","itertools.zip_longest","itertools.pairwise"].contains n = false) (hQ:Q () s):wpAny M A (letOwnedTupleGo tg (.ref it) u) Q E s:=by
 unfold letOwnedTupleGo
 cases tg <;> first
  | exact wpAny_pure hQ
  | (cases u <;> first
    | exact wpAny_pure hQ
    | (refine wpAny_bind (wpAny_load ho ?_)
       rw [hc,hd]
       show wpAny M A (if (["enumerate","zip","dict_itemiterator","dict_reverseitemiterator","odict_iterator","itertools.zip_longest","itertools.pairwise"].contains n && vs[0]? == some (rawInt _)) = true then _ else _) Q E s
       rw [if_neg (by intro h; rw [hn,Bool.false_and] at h; cases h)]
       exact wpAny_pure hQ))
def Itl (K:PySem.W.Frag) (a:Addr):It :=
 ⟨fun i H=>∃ xs x,SqL K H a xs /\ xs[i]? = some x,fun i H x H'=>H' = H /\ ∀ xs,SqL K H a xs -> xs[i]? = some x,fun i H=>∃ xs,SqL K H a xs /\ xs.length <= i⟩
def Itt (K:PySem.W.Frag) (a:Addr):It :=
 ⟨fun i H=>∃ xs x,SqT K H a xs /\ xs[i]? = some x,fun i H x H'=>H' = H /\ ∀ xs,SqT K H a xs -> xs[i]? = some x,fun i H=>∃ xs,SqT K H a xs /\ xs.length <= i⟩
def Itr (lo:Int) (n:Nat):It:=⟨fun i _=>i < n,fun i H x H'=>H' = H /\ x = .int (lo + i),fun i _=>n <= i⟩
theorem turn_list {P:Program} {w:World} {K:PySem.W.Frag} {tg:Expr} (a it:Addr):Turn P w K tg (Itl K a) [it] it (fun i h=>h.IsListIter it a i) where
 mem:=by simp
 obj:=fun i h st b hb=>by
  have e:b = it:=by simpa using hb
  subst e
  obtain ⟨o,e,c,d⟩:=st
  exact ⟨o,e,fun v z=>by rw [d] at z; cases z⟩
 keep:=fun i h h' st k=>st.at fun o e=>k it (by simp) o e
 item:=by
  intro X hP hw hK hc i pins s σ H E I hf st hg
  subst hP hw hK
  obtain ⟨xs,x,hq,hx⟩:=hg
  obtain ⟨its,rv,p,hz⟩:=I.list hq
  obtain ⟨u,hu,ru⟩:=rv.get hx
  obtain ⟨f0,f1,f2,f3,f4,f5⟩:=hf it (by simp)
  refine wpAny_pyNext_list_item st p.isList (x:=u) (by simpa using hu) fun h' st' sb=>?_
  have I1:Inv X pins σ H { s with heap:=h' }:=I.turned (t':=s.toks) (fun b o hb e=>(sb.2 b hb).trans e) f0 f1 f3 f4 f5
  obtain ⟨o,e,c,d⟩:=id st'
  exact ⟨u,rfl,go_of (s:={ s with heap:=h' }) e c d (by decide) ⟨x,H,I1,ru,⟨rfl,fun ys hy=>by rw [I.list_inj hy hq]; exact hx⟩,st',fun b hb=>(hf b hb).1⟩⟩
 done:=by
  intro X hP hw hK hc i pins s σ H E I hf st hg
  subst hP hw hK
  obtain ⟨xs,hq,hx⟩:=hg
  obtain ⟨its,rv,p,hz⟩:=I.list hq
  obtain ⟨f0,f1,f2,f3,f4,f5⟩:=hf it (by simp)
  have hl:=rv.length
  exact wpAny_pyNext_list_end (I.ok.hd hc) st p.isList (by simp; omega) fun h' eb=>⟨rfl,I.turned (t':=s.toks) (fun b o hb e=>eb b o hb e) f0 f1 f3 f4 f5⟩
 self:=fun _ _ _ _ _ st h=>wpAny_pyIter_listiter st h
theorem turn_tuple {P:Program} {w:World} {K:PySem.W.Frag} {tg:Expr} (a it:Addr):Turn P w K tg (Itt K a) [it] it (fun i h=>h.IsTupleIter it a i) where
 mem:=by simp
 obj:=fun i h st b hb=>by
  have e:b = it:=by simpa using hb
  subst e
  obtain ⟨o,e,c,d⟩:=st
  exact ⟨o,e,fun v z=>by rw [d] at z; cases z⟩
 keep:=fun i h h' st k=>st.at fun o e=>k it (by simp) o e
 item:=by
  intro X hP hw hK hc i pins s σ H E I hf st hg
  subst hP hw hK
  obtain ⟨xs,x,hq,hx⟩:=hg
  obtain ⟨its,rv,p,hz⟩:=I.tuple hq
  obtain ⟨u,hu,ru⟩:=rv.get hx
  obtain ⟨f0,f1,f2,f3,f4,f5⟩:=hf it (by simp)
  refine wpAny_pyNext_tuple_item st (show s.heap.IsTuple a its.toArray from p) (x:=u) (by simpa using hu) fun h' st' sb=>?_
  have I1:Inv X pins σ H { s with heap:=h' }:=I.turned (t':=s.toks) (fun b o hb e=>(sb.2 b hb).trans e) f0 f1 f3 f4 f5
  obtain ⟨o,e,c,d⟩:=id st'
  exact ⟨u,rfl,go_of (s:={ s with heap:=h' }) e c d (by decide) ⟨x,H,I1,ru,⟨rfl,fun ys hy=>by rw [I.tuple_inj hy hq]; exact hx⟩,st',fun b hb=>(hf b hb).1⟩⟩
 done:=by
  intro X hP hw hK hc i pins s σ H E I hf st hg
  subst hP hw hK
  obtain ⟨xs,hq,hx⟩:=hg
  obtain ⟨its,rv,p,hz⟩:=I.tuple hq
  obtain ⟨f0,f1,f2,f3,f4,f5⟩:=hf it (by simp)
  have hl:=rv.length
  exact wpAny_pyNext_tuple_end (I.ok.hd hc) st (show s.heap.IsTuple a its.toArray from p) (by simp; omega) fun h' eb=>⟨rfl,I.turned (t':=s.toks) (fun b o hb e=>eb b o hb e) f0 f1 f3 f4 f5⟩
 self:=fun _ _ _ _ _ st h=>wpAny_pyIter_tupleiter st h
theorem turn_range {P:Program} {w:World} {K:PySem.W.Frag} {tg:Expr} (it:Addr) (lo:Int) (n:Nat):Turn P w K tg (Itr lo n) [it] it (fun i h=>IsRangeIter h it (lo + (i:Nat) * 1) ((n:Int) - (i:Nat)) 1) where
 mem:=by simp
 obj:=fun i h st b hb=>by
  have e:b = it:=by simpa using hb
  subst e
  exact ⟨_,st,fun v z=>by
   have z':Data.fields _ = Data.cell v:=z
   cases z'⟩
 keep:=fun i h h' st k=>k it (by simp) _ st
 item:=by
  intro X hP hw hK hc i pins s σ H E I hf st hg
  subst hP hw hK
  obtain ⟨f0,f1,f2,f3,f4,f5⟩:=hf it (by simp)
  have W:=Walks.range (prog:=X.prog) (w:=X.w) (I.ok.hd hc) it lo 1 n
  refine W.item i s _ _ hg st fun v h' tk hv st' kk=>?_
  obtain ⟨t,rfl⟩:=hv
  have I1:Inv X pins σ H { s with heap:=h',toks:=tk }:=I.turned (fun b o hb e=>kk b o (by simpa using hb) e) f0 f1 f3 f4 f5
  refine ⟨_,rfl,go_of (s:={ s with heap:=h',toks:=tk }) (n:="range_iterator") st' rfl rfl (by decide) ⟨.int (lo + i),H,I1,⟨t,?_⟩,⟨rfl,rfl⟩,st',fun b hb=>(hf b hb).1⟩⟩
  rw [Int.mul_one]
 done:=by
  intro X hP hw hK hc i pins s σ H E I hf st hg
  subst hP hw hK
  obtain ⟨f0,f1,f2,f3,f4,f5⟩:=hf it (by simp)
  exact wpAny_pyNext_range_end (I.ok.hd hc) st (by have:n <= i:=hg; omega) fun h' eb=>⟨rfl,I.turned (t':=s.toks) (fun b o hb e=>eb b o hb e) f0 f1 f3 f4 f5⟩
 self:=fun _ _ _ _ _ st h=>wpAny_pyIter_rangeiter st h
end L2
namespace L2
open PySem PySem.Spec PyProof.Rows
section
variable {X:Cx} {tg:Expr}
def iList (K:PySem.W.Frag) (tl:TE):TI:=fun σ H R=>tl σ H fun x H1=>∃ a,x = .ref a /\ (∃ xs,SqL K H1 a xs) /\ R (Itl K a) H1
def iTup (K:PySem.W.Frag) (tl:TE):TI:=fun σ H R=>tl σ H fun x H1=>∃ a,x = .ref a /\ (∃ xs,SqT K H1 a xs) /\ R (Itt K a) H1
theorem pi_list {l:Expr} {tl:TE} (hl:PE X l tl):PI X tg l (iList X.K tl):=by
 intro pins s σ H R I h
 refine thn (hl pins s σ H _ I h) fun v s1 ⟨x,H1,I1,r1,q1⟩=>?_
 obtain ⟨a,e,⟨xs,hq⟩,q⟩:=q1
 subst e
 cases r1
 obtain ⟨its,rv,p,hz⟩:=I1.list hq
 refine wpAny_pyIter_list p.isList ?_
 refine ⟨s1.heap.objs.size,[s1.heap.objs.size],_,_,H1,rfl,I1.kept (t':=s1.toks) fun b o e=>Heap.get?_push_of_some _ e,turn_list a _,⟨_,Heap.get?_push_size _ rfl,rfl,rfl⟩,fun b hb=>?_,q⟩
 have e:b = s1.heap.objs.size:=by simpa using hb
 subst e
 exact I1.fpOk (Nat.le_refl _) (I1.hok.fresh (Nat.le_refl _))
theorem pi_tup {l:Expr} {tl:TE} (hl:PE X l tl):PI X tg l (iTup X.K tl):=by
 intro pins s σ H R I h
 refine thn (hl pins s σ H _ I h) fun v s1 ⟨x,H1,I1,r1,q1⟩=>?_
 obtain ⟨a,e,⟨xs,hq⟩,q⟩:=q1
 subst e
 cases r1
 obtain ⟨its,rv,p,hz⟩:=I1.tuple hq
 refine wpAny_pyIter_tuple (show s1.heap.IsTuple a its.toArray from p) ?_
 refine ⟨s1.heap.objs.size,[s1.heap.objs.size],_,_,H1,rfl,I1.kept (t':=s1.toks) fun b o e=>Heap.get?_push_of_some _ e,turn_tuple a _,⟨_,Heap.get?_push_size _ rfl,rfl,rfl⟩,fun b hb=>?_,q⟩
 have e:b = s1.heap.objs.size:=by simpa using hb
 subst e
 exact I1.fpOk (Nat.le_refl _) (I1.hok.fresh (Nat.le_refl _))
theorem range_it {pins:List (Addr × Obj)} {σ:St} {H:Hp} {s:Shared} {R:It -> Hp -> Prop} {E:Value -> Shared -> Prop} {lo hi:Int} {t u v:Tok} {tk:Nat} (I:Inv X pins σ H s) (h1 : -(2 ^ 62) <= lo) (h2:lo < 2 ^ 62) (h3 : -(2 ^ 62) <= hi) (h4:hi < 2 ^ 62)
  (q:R (Itr lo (hi - lo).toNat) H):wpAny (model X.prog X.w) X.A (pyIter (.ref s.heap.objs.size)) (PIE X pins σ tg R) E { s with heap:=s.heap.push { cls:=.type "range",data:=.fields #[.int lo t,.int hi u,.int 1 v] },toks:=tk }:=by
 refine wpAny_pyIter_range (IsRange.new ..) (small_one h1 h2 h3 h4) ?_
 have I1:Inv X pins σ H { s with heap:=s.heap.push { cls:=.type "range",data:=.fields #[.int lo t,.int hi u,.int 1 v] },toks:=tk }:=I.kept fun b o e=>Heap.get?_push_of_some _ e
 refine ⟨(s.heap.push { cls:=.type "range",data:=.fields #[.int lo t,.int hi u,.int 1 v] }).objs.size,[(s.heap.push { cls:=.type "range",data:=.fields #[.int lo t,.int hi u,.int 1 v] }).objs.size],_,_,H,rfl,
  I1.kept (t':=tk) fun b o e=>Heap.get?_push_of_some _ e,turn_range _ lo (hi - lo).toNat,?_,fun b hb=>?_,q⟩
 ·have e1:lo + ((0:Nat):Int) * 1 = lo:=by simp
  have e2:(((hi - lo).toNat:Nat):Int) - ((0:Nat):Int) = Builtin.Range.rangeSize lo hi 1:=by rw [rangeSize_one]; split <;> omega
  show IsRangeIter _ _ (lo + ((0:Nat):Int) * 1) ((((hi - lo).toNat:Nat):Int) - ((0:Nat):Int)) 1
  rw [e1,e2]
  exact Heap.get?_push_size _ rfl
 ·have e:b = (s.heap.push { cls:=.type "range",data:=.fields #[.int lo t,.int hi u,.int 1 v] }).objs.size:=by simpa using hb
  subst e
  exact I1.fpOk (Nat.le_refl _) (I1.hok.fresh (Nat.le_refl _))
def iRng1 (ta:TA):TI:=fun σ H R=>ta σ H fun vs H1=>∃ j:Int,vs = [.int j] /\ -(2 ^ 62) <= j /\ j < 2 ^ 62 /\ R (Itr 0 j.toNat) H1
theorem pi_range1 {a:Expr} {ta:TA} {p pos:Pos} (hg:Gl X "range") (hm:X.mg "range" = none) (ha:PA X [a] ta) (hs:starEach [a] X.env = [(false,eval a X.env)]:=by rfl):PI X tg (.Call (.Name "range" p) [a] [] pos) (iRng1 ta):=by
 intro pins s σ H R I h
 refine Call_ (ld_blt I hg hm boot_range (PyProof.Rows.callWith_type1 (thn (ha pos pins s σ H _ I h) fun us s1 ⟨vs,H1,I1,r1,q1⟩=>?_) hs rfl))
 obtain ⟨j,e,q1,q2,q⟩:=q1
 subst e
 cases r1 with
 | cons r rr =>
  cases rr
  obtain ⟨t,rfl⟩:=r
  exact call_range_1 (range_it I1 (by omega) (by omega) q1 q2 (by simpa using q))
def tFor (wi:TI) (g:TG) (tb:TS):TS:=fun D σ H=>wi σ H fun J H1=>∃ W:Nat -> Nat -> St -> Hp -> Prop,(∃ m,W 0 m σ H1) /\ ∀ i m σ H,W i m σ H ->
 (J.stop i H /\ D.nx σ H) ∨ (J.go i H /\ ∃ N:St -> Hp -> Prop,(∀ σ' H',N σ' H' -> ∃ m',m' < m /\ W (i + 1) m' σ' H') /\ ∀ x H',J.yld i H x H' -> g x σ H' fun σ2 H2=>tb { D with nx:=N,ct:=N,bk:=D.nx } σ2 H2)
def pinsAt (fp:List Addr) (h:Heap):List (Addr × Obj):=fp.filterMap fun b=>(h.get? b).map fun o=>(b,o)
theorem mem_pinsAt {fp:List Addr} {h:Heap} {b:Addr} {o:Obj} (hb:b ∈ fp) (e:h.get? b = some o):(b,o) ∈ pinsAt fp h:=List.mem_filterMap.mpr ⟨b,hb,by rw [e]; rfl⟩
theorem of_pinsAt {fp:List Addr} {h:Heap} {p:Addr × Obj} (hp:p ∈ pinsAt fp h):p.1 ∈ fp /\ h.get? p.1 = some p.2:=by
 obtain ⟨b,hb,e⟩:=List.mem_filterMap.mp hp
 cases q:h.get? b with
 | none=>rw [q] at e; cases e
 | some o =>
  rw [q] at e
  have e':(b,o) = p:=Option.some.inj e
  subst e'
  exact ⟨hb,q⟩
theorem Inv.pinned {pins:List (Addr × Obj)} {σ:St} {H:Hp} {s:Shared} {fp:List Addr} (I:Inv X pins σ H s) (hf:∀ b ∈ fp,FpOk X pins H b) (ho:∀ b ∈ fp,∃ o,s.heap.get? b = some o /\ ∀ v,o.data ≠ .cell v):Inv X (pins ++ pinsAt fp s.heap) σ H s :=
 I.pins_of fun p hp=>(List.mem_append.mp hp).elim (fun z=>I.pin p (List.mem_append_right _ z)) fun z=>by
  obtain ⟨hb,e⟩:=of_pinsAt z
  obtain ⟨f0,f1,f2,_⟩:=hf p.1 hb
  obtain ⟨o,e',d⟩:=ho p.1 hb
  rw [e] at e'; cases e'
  exact ⟨e,f0,f1,f2,d⟩
theorem Inv.unpinned {pins pl:List (Addr × Obj)} {σ:St} {H:Hp} {s:Shared} (I:Inv X (pins ++ pl) σ H s):Inv X pins σ H s:=I.pins_of fun p hp=>I.pin p (List.mem_append_right _ (List.mem_append_left _ hp))
theorem ps_for {iter:Expr} {body:List Stmt} {wi:TI} {g:TG} {tb:TS} {pos:Pos} (hp:PassesOwn (model X.prog X.w) X.A X.env X.xe) (hc:X.calm = true) (hi:PI X tg iter wi) (hg:PG X tg g) (hb:PSs X body tb)
  (hs:∀ x,foldedSetIterable iter X.env x = pure x:=by intro _; rfl):PS X (.For tg iter body [] pos) (tFor wi g tb):=by
 intro pins s σ H D I h
 refine wpAny_For (thn (hi pins s σ H _ I h) fun v s1 h1=>thn h1 fun itv s2 h2=>?_) hs
 obtain ⟨it,fp,tn,J,H2,e,I2,T,st2,f2,W,⟨m0,w0⟩,turn⟩:=h2
 subst e
 -- what stays true of the iterator's objects through the loop
 have stat:∀ {H':Hp},(∀ b ∈ fp,H' b = none) -> ∀ b ∈ fp,FpOk X pins H' b:=fun hn b hb=>⟨hn b hb,(f2 b hb).2⟩
 refine codeAny_forLoop_any (fun n s'=>∃ i σ' H',Inv X pins σ' H' s' /\ tn i s'.heap /\ (∀ b ∈ fp,H' b = none) /\ W i n σ' H') ?_ m0 ⟨0,σ,H2,I2,st2,fun b hb=>(f2 b hb).1,w0⟩
 rintro n s3 ⟨i,σ3,H3,I3,st3,fr3,w3⟩
 rcases turn i n σ3 H3 w3 with ⟨stop,qn⟩ | ⟨go,N,hN,step⟩
 ·refine wpAny_passesOwn hp (thn (T.done X rfl rfl rfl hc i pins s3 σ3 H3 X.xe I3 (stat fr3) st3 stop) fun r s4 ⟨hr,I4⟩=>?_)
  subst hr
  exact wpAny_execs_nil ⟨σ3,H3,I4,qn⟩
 ·refine wpAny_passesOwn hp (thn (T.item X rfl rfl rfl hc i pins s3 σ3 H3 X.xe I3 (stat fr3) st3 go) fun r s4 ⟨u,hr,h4⟩=>?_)
  subst hr
  refine wpAny_passesOwn hp (thn h4 fun _ s5 ⟨x,H5,I5,r5,y5,st5,fr5⟩=>?_)
  have I5':=I5.pinned (stat fr5) (T.obj _ _ st5)
  refine wpAny_passesOwn hp (thn (hg _ s5 σ3 H5 x u _ I5' r5 (step x H5 y5)) fun _ s6 ⟨σ6,H6,I6,q6⟩=>?_)
  refine wpAny_passesOwn hp (thn (hb _ s6 σ6 H6 _ I6 q6) fun f s7 q7=>?_)
  have again:∀ {σ7:St} {H7:Hp},Inv X (pins ++ pinsAt fp s5.heap) σ7 H7 s7 -> N σ7 H7 -> ∃ m,m < n /\ ∃ i σ' H',Inv X pins σ' H' s7 /\ tn i s7.heap /\ (∀ b ∈ fp,H' b = none) /\ W i m σ' H':=fun {σ7 H7} I7 n7=>by
   obtain ⟨m',hm,w7⟩:=hN σ7 H7 n7
   refine ⟨m',hm,i + 1,σ7,H7,I7.unpinned,T.keep _ _ _ st5 fun b hb o e=>(I7.pin (b,o) (List.mem_append_right _ (List.mem_append_right _ (mem_pinsAt hb e)))).1,fun b hb=>?_,w7⟩
   obtain ⟨o,e,d⟩:=T.obj _ _ st5 b hb
   exact (I7.pin (b,o) (List.mem_append_right _ (List.mem_append_right _ (mem_pinsAt hb e)))).2.1
  cases f with
  | next=>obtain ⟨σ7,H7,I7,n7⟩:=q7; exact again I7 n7
  | cont=>obtain ⟨σ7,H7,I7,n7⟩:=q7; exact again I7 n7
  | brk=>obtain ⟨σ7,H7,I7,q7⟩:=q7; exact ⟨σ7,H7,I7.unpinned,q7⟩
  | ret v=>obtain ⟨x7,σ7,H7,I7,r7,q7⟩:=q7; exact ⟨x7,σ7,H7,I7.unpinned,r7,q7⟩
end
end L2
namespace L2
open PySem PySem.Spec PyProof.Rows
abbrev R2:=V -> V -> Hp -> VK -> Prop
def OpR (X:Cx) (f:Value -> Value -> Sem Value) (r:R2):Prop :=
 ∀ (pins:List (Addr × Obj)) (s:Shared) (σ:St) (H:Hp) (x y:V) (v u:Value) (Q:VK),Inv X pins σ H s -> RelV x v -> RelV y u -> r x y H Q ->
  wpAny (model X.prog X.w) X.A (f v u) (EP X pins σ Q) X.xe s
def UnR (X:Cx) (f:Value -> Sem Value) (r:V -> Hp -> VK -> Prop):Prop :=
 ∀ (pins:List (Addr × Obj)) (s:Shared) (σ:St) (H:Hp) (x:V) (v:Value) (Q:VK),Inv X pins σ H s -> RelV x v -> r x H Q ->
  wpAny (model X.prog X.w) X.A (f v) (EP X pins σ Q) X.xe s
def CallR (X:Cx) (f:Value) (r:List V -> Hp -> VK -> Prop):Prop :=
 ∀ (pins:List (Addr × Obj)) (s:Shared) (σ:St) (H:Hp) (xs:List V) (us:List Value) (Q:VK),Inv X pins σ H s -> Vals xs us -> r xs H Q ->
  wpAny (model X.prog X.w) X.A (call f us) (EP X pins σ Q) X.xe s
def tOp (r:R2) (ta tb:TE):TE:=fun σ H Q=>ta σ H fun x H1=>tb σ H1 fun y H2=>r x y H2 Q
def tUn (r:V -> Hp -> VK -> Prop) (ta:TE):TE:=fun σ H Q=>ta σ H fun x H1=>r x H1 Q
def rI (C:Int -> Int -> Prop) (g:Int -> Int -> V):R2:=fun x y H Q=>∃ i j,x = .int i /\ y = .int j /\ C i j /\ Q (g i j) H
def rI0 (g:Int -> Int -> V):R2:=fun x y H Q=>∃ i j,x = .int i /\ y = .int j /\ Q (g i j) H
def rU (g:Int -> V):V -> Hp -> VK -> Prop:=fun x H Q=>∃ i,x = .int i /\ Q (g i) H
section
variable {X:Cx} {a b c:Expr} {ta tb tc:TE} {pos:Pos}
theorem binT (ha:PE X a ta) (hb:PE X b tb) {pins:List (Addr × Obj)} {s:Shared} {σ:St} {H:Hp} {R:V -> V -> Hp -> Prop} (I:Inv X pins σ H s)
  (h:ta σ H fun x H1=>tb σ H1 fun y H2=>R x y H2) {Q:Value -> Shared -> Prop} {f:Value -> Value -> Sem Value}
  (hf:∀ v u s2 x y H2,Inv X pins σ H2 s2 -> RelV x v -> RelV y u -> R x y H2 -> wpAny (model X.prog X.w) X.A (f v u) Q X.xe s2) :
  wpAny (model X.prog X.w) X.A (eval a X.env) (fun v s₁=>wpAny (model X.prog X.w) X.A (eval b X.env) (fun u s₂=>wpAny (model X.prog X.w) X.A (f v u) Q X.xe s₂) X.xe s₁) X.xe s:=by
 refine thn (ha pins s σ H _ I h) fun v s1 ⟨x,H1,I1,r1,q1⟩=>?_
 refine thn (hb pins s1 σ H1 _ I1 q1) fun u s2 ⟨y,H2,I2,r2,q2⟩=>?_
 exact hf v u s2 x y H2 I2 r1 r2 q2
theorem pe_op {op:Operator} {r:R2} (ho:OpR X (binaryOp op) r) (ha:PE X a ta) (hb:PE X b tb):PE X (.BinOp a op b pos) (tOp r ta tb):=by
 intro pins s σ H Q I h
 exact wpAny_BinOp (binT ha hb I h fun v u s2 x y H2 I2 rx ry q=>ho pins s2 σ H2 x y v u Q I2 rx ry q)
theorem pe_un {op:UnaryOp} {r:V -> Hp -> VK -> Prop} (ho:UnR X (unaryOp op) r) (ha:PE X a ta):PE X (.UnaryOp op a pos) (tUn r ta):=by
 intro pins s σ H Q I h
 exact UnaryOp_ (thn (ha pins s σ H _ I h) fun v s1 ⟨x,H1,I1,r1,q1⟩=>ho pins s1 σ H1 x v Q I1 r1 q1)
theorem opI {f:Value -> Value -> Sem Value} {C:Int -> Int -> Prop} {g:Int -> Int -> Int}
  (rule:∀ (i j:Int) (t u:Tok) (s:Shared) (Q:Value -> Shared -> Prop) (E:Value -> Shared -> Prop),C i j -> Q (.int (g i j) s.toks) { s with toks:=s.toks + 1 } -> wpAny (model X.prog X.w) X.A (f (.int i t) (.int j u)) Q E s) :
  OpR X f (rI C fun i j=>.int (g i j)):=by
 intro pins s σ H x y v u Q I rx ry h
 obtain ⟨i,j,rfl,rfl,hc,q⟩:=h
 obtain ⟨t,rfl⟩:=rx
 obtain ⟨t',rfl⟩:=ry
 exact rule i j t t' s _ _ hc ⟨.int (g i j),H,I.tok _,⟨_,rfl⟩,q⟩
theorem opI0 {f:Value -> Value -> Sem Value} {g:Int -> Int -> Int}
  (rule:∀ (i j:Int) (t u:Tok) (s:Shared) (Q:Value -> Shared -> Prop) (E:Value -> Shared -> Prop),Q (.int (g i j) s.toks) { s with toks:=s.toks + 1 } -> wpAny (model X.prog X.w) X.A (f (.int i t) (.int j u)) Q E s) :
  OpR X f (rI0 fun i j=>.int (g i j)):=by
 intro pins s σ H x y v u Q I rx ry h
 obtain ⟨i,j,rfl,rfl,q⟩:=h
 obtain ⟨t,rfl⟩:=rx
 obtain ⟨t',rfl⟩:=ry
 exact rule i j t t' s _ _ ⟨.int (g i j),H,I.tok _,⟨_,rfl⟩,q⟩
theorem opB0 {f:Value -> Value -> Sem Value} {g:Int -> Int -> Bool}
  (rule:∀ (i j:Int) (t u:Tok) (s:Shared) (Q:Value -> Shared -> Prop) (E:Value -> Shared -> Prop),Q (.bool (g i j)) s -> wpAny (model X.prog X.w) X.A (f (.int i t) (.int j u)) Q E s) :
  OpR X f (rI0 fun i j=>.bl (g i j)):=by
 intro pins s σ H x y v u Q I rx ry h
 obtain ⟨i,j,rfl,rfl,q⟩:=h
 obtain ⟨t,rfl⟩:=rx
 obtain ⟨t',rfl⟩:=ry
 exact rule i j t t' s _ _ ⟨.bl (g i j),H,I,rfl,q⟩
def CPow (i j:Int):Prop:=0 <= j /\ j <= 1000000 /\ i.natAbs < 2 ^ 64
theorem op_add:OpR X (binaryOp .Add) (rI0 fun i j=>.int (i + j)):=opI0 fun _ _ _ _ _ _ _ q=>add_int q
theorem op_sub:OpR X (binaryOp .Sub) (rI0 fun i j=>.int (i - j)):=opI0 fun _ _ _ _ _ _ _ q=>sub_int q
theorem op_mod:OpR X (binaryOp .Mod) (rI (fun _ j=>0 < j) fun i j=>.int (i % j)):=opI fun i j _ _ _ _ _ hc q=>by
 have h1:(0:Int) < j:=hc
 exact mod_int' (by omega) (by rw [Int.fmod_eq_emod_of_nonneg i (by omega)]; exact q)
theorem op_pow:OpR X (binaryOp .Pow) (rI CPow fun i j=>.int (i ^ j.toNat)):=opI fun _ _ _ _ _ _ _ hc q=>pow_int_small hc.1 hc.2.1 hc.2.2 q
theorem unI {f:Value -> Sem Value} {g:Int -> Int}
  (rule:∀ (i:Int) (t:Tok) (s:Shared) (Q:Value -> Shared -> Prop) (E:Value -> Shared -> Prop),Q (.int (g i) s.toks) { s with toks:=s.toks + 1 } -> wpAny (model X.prog X.w) X.A (f (.int i t)) Q E s) :
  UnR X f (rU fun i=>.int (g i)):=by
 intro pins s σ H x v Q I rx h
 obtain ⟨i,rfl,q⟩:=h
 obtain ⟨t,rfl⟩:=rx
 exact rule i t s _ _ ⟨.int (g i),H,I.tok _,⟨_,rfl⟩,q⟩
theorem un_neg:UnR X (unaryOp .USub) (rU fun i=>.int (-i)):=unI fun _ _ _ _ _ q=>neg_int q
end
def scal:V -> V -> Bool
 | .non,.non=>true | .non,.int _=>true | .int _,.non=>true | .non,.bl _=>true | .bl _,.non=>true | .non,.str _=>true | .str _,.non=>true
 | .int _,.int _=>true | .bl _,.bl _=>true | .str _,.str _=>true | .byt _,.byt _=>true
 | .int _,.str _=>true | .str _,.int _=>true | .bl _,.str _=>true | .str _,.bl _=>true
 | _,_=>false
def rEq:R2:=fun x y H Q=>scal x y = true /\ Q (.bl (decide (x = y))) H
theorem dec_int {i j:Int}:decide (V.int i = V.int j) = (i == j):=by
 rw [Bool.eq_iff_iff]
 simp
theorem dec_bl {i j:Bool}:decide (V.bl i = V.bl j) = (i == j):=by
 rw [Bool.eq_iff_iff]
 simp
theorem dec_str {i j:Str}:decide (V.str i = V.str j) = (i == j):=by
 rw [Bool.eq_iff_iff]
 simp
theorem dec_byt {i j:Array UInt8}:decide (V.byt i = V.byt j) = (i.toList == j.toList):=by
 rw [Bool.eq_iff_iff]
 cases i
 cases j
 simp
section
variable {X:Cx} {a b c:Expr} {ta tb tc:TE} {pos:Pos}
theorem fin_bl {pins:List (Addr × Obj)} {σ:St} {H:Hp} {s:Shared} {Q:VK} {k k':Bool} (I:Inv X pins σ H s) (q:Q (.bl k) H) (e:k = k'):EP X pins σ Q (.bool k') s:=by
 subst e
 exact ⟨.bl k,H,I,rfl,q⟩
theorem op_eq:OpR X (compareOp .Eq) rEq:=by
 intro pins s σ H x y v u Q I rx ry h
 obtain ⟨hs,q⟩:=h
 cases x with
 | non =>
  cases rx
  cases y with
  | non=>cases ry; exact PySem.EqNone.eq_none_none (fin_bl I q (by simp))
  | bl j=>cases ry; exact PySem.EqNone.eq_none_bool (fin_bl I q (by simp))
  | int j=>obtain ⟨t',rfl⟩:=ry; exact PySem.EqNone.eq_none_int (fin_bl I q (by simp))
  | str j=>obtain ⟨t',rfl⟩:=ry; exact PySem.EqNone.eq_none_str (fin_bl I q (by simp))
  | _=>exact absurd (show false = true from hs) Bool.false_ne_true
 | bl i =>
  cases rx
  cases y with
  | non=>cases ry; exact PySem.EqNone.eq_bool_none (fin_bl I q (by simp))
  | bl j=>cases ry; exact eq_bool (fin_bl I q dec_bl)
  | str j=>obtain ⟨t',rfl⟩:=ry; exact PySem.EqMixed.eq_bool_str (fin_bl I q (by simp))
  | _=>exact absurd (show false = true from hs) Bool.false_ne_true
 | int i =>
  obtain ⟨t,rfl⟩:=rx
  cases y with
  | non=>cases ry; exact PySem.EqNone.eq_int_none (fin_bl I q (by simp))
  | int j=>obtain ⟨t',rfl⟩:=ry; exact eq_int (fin_bl I q dec_int)
  | str j=>obtain ⟨t',rfl⟩:=ry; exact PySem.EqMixed.eq_int_str (fin_bl I q (by simp))
  | _=>exact absurd (show false = true from hs) Bool.false_ne_true
 | str i =>
  obtain ⟨t,rfl⟩:=rx
  cases y with
  | non=>cases ry; exact PySem.EqNone.eq_str_none (fin_bl I q (by simp))
  | bl j=>cases ry; exact PySem.EqMixed.eq_str_bool (fin_bl I q (by simp))
  | int j=>obtain ⟨t',rfl⟩:=ry; exact PySem.EqMixed.eq_str_int (fin_bl I q (by simp))
  | str j=>obtain ⟨t',rfl⟩:=ry; exact eq_str (fin_bl I q dec_str)
  | _=>exact absurd (show false = true from hs) Bool.false_ne_true
 | byt i =>
  obtain ⟨t,rfl⟩:=rx
  cases y with
  | byt j=>obtain ⟨t',rfl⟩:=ry; exact PySem.W.eq_bytes (fin_bl I q dec_byt)
  | _=>exact absurd (show false = true from hs) Bool.false_ne_true
 | _=>cases y <;> exact absurd (show false = true from hs) Bool.false_ne_true
theorem op_lt:OpR X (compareOp .Lt) (rI0 fun i j=>.bl (decide (i < j))):=opB0 fun _ _ _ _ _ _ _ q=>lt_int q
theorem op_le:OpR X (compareOp .LtE) (rI0 fun i j=>.bl (decide (i <= j))):=opB0 fun _ _ _ _ _ _ _ q=>le_int q
theorem op_gt:OpR X (compareOp .Gt) (rI0 fun i j=>.bl (decide (j < i))):=opB0 fun _ _ _ _ _ _ _ q=>gt_int q
theorem op_ge:OpR X (compareOp .GtE) (rI0 fun i j=>.bl (decide (j <= i))):=opB0 fun _ _ _ _ _ _ _ q=>ge_int q
theorem op_isN:OpR X (compareOp .Is) (fun x y H Q=>y = .non /\ Q (.bl (decide (x = .non))) H):=by
 intro pins s σ H x y v u Q I rx ry h
 obtain ⟨rfl,q⟩:=h
 cases ry
 refine is_none_gen (fin_bl I q ?_)
 cases x <;> first
  | (cases rx; rfl)
  | (obtain ⟨t,rfl⟩:=rx; rfl)
theorem nomark (b:Expr) {op:CmpOp} (h:op ≠ .In:=by decide) (h2:op ≠ .NotIn:=by decide):behindInMarks op b = false:=by
 have e1:(op == CmpOp.In) = false:=by cases op <;> first | rfl | exact absurd rfl h
 have e2:(op == CmpOp.NotIn) = false:=by cases op <;> first | rfl | exact absurd rfl h2
 cases b <;> simp [behindInMarks,e1,e2]
theorem pe_cmpR {op:CmpOp} {r:R2} (ho:OpR X (compareOp op) r) (ha:PE X a ta) (hb:PE X b tb) (hm:behindInMarks op b = false):PE X (.Compare a [op] [b] pos) (tOp r ta tb):=by
 intro pins s σ H Q I h
 exact wpAny_Compare1 (binT ha hb I h fun v u s2 x y H2 I2 rx ry q=>ho pins s2 σ H2 x y v u Q I2 rx ry q) hm
def tTest (t:TE):TT:=fun σ H Q=>t σ H fun x H'=>∃ k,x = .bl k /\ Q k H'
theorem pt_cmpR {op:CmpOp} {r:R2} (ho:OpR X (compareOp op) r) (ha:PE X a ta) (hb:PE X b tb) (hm:behindInMarks op b = false):PT X (.Compare a [op] [b] pos) (tTest (tOp r ta tb)):=by
 intro pins s σ H Q I h
 refine wpAny_isTrue_Compare1 (thn (ha pins s σ H _ I h) fun v s1 ⟨x,H1,I1,r1,q1⟩=>thn (hb pins s1 σ H1 _ I1 q1) fun u s2 ⟨y,H2,I2,r2,q2⟩ =>
  thn (ho pins s2 σ H2 x y v u _ I2 r1 r2 q2) fun c s3 ⟨z,H3,I3,r3,k,e,q3⟩=>?_) hm
 subst e
 cases r3
 exact wpAny_truthy_bool ⟨H3,I3,q3⟩
def tChain (r r':R2) (ta tb tc:TE):TE:=fun σ H Q=>ta σ H fun x H1=>tb σ H1 fun y H2=>r x y H2 fun z H3=>∃ k,z = .bl k /\
 (if k = true then tc σ H3 fun w' H4=>r' y w' H4 Q else Q (.bl false) H3)
theorem pe_chain {op op':CmpOp} {r r':R2} (ho:OpR X (compareOp op) r) (ho':OpR X (compareOp op') r') (ha:PE X a ta) (hb:PE X b tb) (hc:PE X c tc)
  (hm:lastMarks [op,op'] [b,c] = false:=by with_unfolding_all rfl):PE X (.Compare a [op,op'] [b,c] pos) (tChain r r' ta tb tc):=by
 intro pins s σ H Q I h
 refine Compare_chain (thn (ha pins s σ H _ I h) fun v s1 ⟨x,H1,I1,r1,q1⟩=>chain_link (thn (hb pins s1 σ H1 _ I1 q1) fun u s2 ⟨y,H2,I2,r2,q2⟩ =>
  thn (ho pins s2 σ H2 x y v u _ I2 r1 r2 q2) fun d s3 ⟨z,H3,I3,r3,k,e,q3⟩=>?_)) hm
 subst e
 cases r3
 refine wpAny_truthy_bool ?_
 cases k with
 | false=>exact ite_ff ⟨.bl false,H3,I3,rfl,q3⟩
 | true=>exact ite_tt (chain_last (thn (hc pins s3 σ H3 _ I3 q3) fun w' s4 ⟨z',H4,I4,r4,q4⟩=>ho' pins s4 σ H4 y z' u w' Q I4 r2 r4 q4))
theorem line63:(sizeLine:Nat) < 2 ^ 63:=by rw [sizeLine_eq]; decide
theorem vals1 {x:V} {us:List Value} (r:Vals [x] us):∃ u,us = [u] /\ RelV x u:=by
 cases r with
 | cons r1 r2=>cases r2; exact ⟨_,rfl,r1⟩
theorem vals2 {x y:V} {us:List Value} (r:Vals [x,y] us):∃ u w',us = [u,w'] /\ RelV x u /\ RelV y w':=by
 cases r with
 | cons r1 r2 =>
  cases r2 with
  | cons r3 r4=>cases r4; exact ⟨_,_,rfl,r1,r3⟩
theorem call_int1:CallR X (.type "int") (fun xs H Q=>(∃ i,xs = [.int i] /\ Q (.int i) H) ∨ ∃ k,xs = [.bl k] /\ Q (.int (if k then 1 else 0)) H):=by
 intro pins s σ H xs us Q I r h
 rcases h with ⟨i,rfl,q⟩ | ⟨k,rfl,q⟩
 ·obtain ⟨u,rfl,t,rfl⟩:=vals1 r
  exact call_int_int ⟨.int i,H,I,⟨_,rfl⟩,q⟩
 ·obtain ⟨u,rfl,r1⟩:=vals1 r
  cases r1
  exact call_int_bool ⟨.int (if k then 1 else 0),H,I.tok _,⟨_,rfl⟩,q⟩
end
end L2
namespace L2
open PySem PySem.Spec PyProof.Rows
structure ObjM (h:Heap) (x dx C:Addr) (mA:Str -> Option Value):Prop where
 obj:h.get? x = some (PySem.W.instObj C dx)
 ns:h.Ns1 dx mA
 ne:dx ≠ x
theorem lookIn_ns {h:Heap} {dx:Addr} {mA:Str -> Option Value} (n:h.Ns1 dx mA):∃ od,h.get? dx = some od /\ ∀ name,PySem.W.lookIn name od = some (mA name):=by
 obtain ⟨o,es,ep,ho,hd,hk,_,hm⟩:=n
 refine ⟨o,ho,fun name=>?_⟩
 have e:=hm name
 unfold nsFind findBy at e
 rw [← Array.find?_toList] at e
 unfold PySem.W.lookIn
 rw [hd]
 dsimp only
 split
 ·rename_i y q
  rw [q] at e
  exact congrArg some e
 ·rename_i q
  rw [q] at e
  have a:es.toList.any (·.refKey) = false:=by
   rw [List.any_eq_false]
   intro y hy
   obtain ⟨z,t,hkey⟩:=hk y (Array.mem_toList_iff.mp hy)
   simp [DictEntry.refKey,hkey]
  have a':¬ es.toList.any (·.refKey) = true:=by rw [a]; exact Bool.false_ne_true
  rw [if_neg a']
  exact congrArg some e
theorem ObjM.look {h:Heap} {x dx C:Addr} {mA:Str -> Option Value} (I:ObjM h x dx C mA):∃ od,PySem.W.InstAt h x (PySem.W.instObj C dx) C (some od) /\ ∀ name,PySem.W.lookIn name od = some (mA name) :=
 let ⟨od,ho,hl⟩:=lookIn_ns I.ns
 ⟨od,⟨I.obj,rfl,rfl,ho⟩,hl⟩
section
variable {prog:Program} {w:World} {A:Around} {E:Value -> Shared -> Prop} {s:Shared} {K:PySem.W.Frag} {x dx C f:Addr} {mA:Str -> Option Value} {name:Str} {v:Value}
end
theorem RelO.some_of {v:V} {o:Option Value} (r:RelO (some v) o):∃ u,o = some u /\ RelV v u:=by
 cases o with
 | none=>exact (show False from r).elim
 | some u=>exact ⟨u,rfl,r⟩
section
variable {P:Program} {w:World} {H H':Hp} {h h':Heap} {a C dx:Addr} {fs fs':List (Str × V)}
theorem ins_get (hok:HOk P w H h) (e:H a = some (.ins C dx fs)):∃ mA,ObjM h a dx C mA /\ (∀ f,RelO (fs.lookup f) (mA f)) /\ PySem.Within mA (fs.map (·.1)) /\ fs.length <= 1000 /\ H dx = some (.own a):=by
 obtain ⟨d,z,ne,ob,mA,n,r,q⟩:=(show ObjOk P w H h a (.ins C dx fs) from hok a _ e)
 exact ⟨mA,⟨ob,n,ne⟩,r,q,z,d⟩
end
structure Cls (K:PySem.W.Frag) (C:Addr):Prop where
 pg:PySem.W.plainGet K C Str.empty = true
 hd:PySem.W.hasDictIn K C = true
 po:PySem.W.plainOver K C = true
 sa:PySem.W.findIn K (.ref C) "__setattr__" = some (some (.builtin "object.__setattr__"))
theorem Cls.get {K:PySem.W.Frag} {C:Addr} (c:Cls K C) (f:Str):PySem.W.plainGet K C f = true:=c.pg
section
variable {X:Cx} {pins:List (Addr × Obj)} {σ:St} {H:Hp} {s:Shared} {a C dx:Addr} {fs:List (Str × V)} {f:Str} {v:V} {A:Around} {E:Value -> Shared -> Prop}
end
section
variable {X:Cx} {o e value:Expr} {f:Str} {pos pos' tpos:Pos} {ta tv:TE}
end
section
variable {X:Cx} {pins:List (Addr × Obj)} {σ:St} {H:Hp} {s:Shared} {A:Around} {E:Value -> Shared -> Prop} {Q:Value -> Shared -> Prop} {c:Value} {b:Bool}
inductive TyOf (K:PySem.W.Frag) (H:Hp):V -> Value -> Prop where
 | non:TyOf K H .non (.type "NoneType")
 | bl (x:Bool):TyOf K H (.bl x) (.type "bool")
 | int (i:Int):TyOf K H (.int i) (.type "int")
 | str (x:Str):TyOf K H (.str x) (.type "str")
 | flt (x:UInt64):TyOf K H (.flt x) (.type "float")
 | lst {a:Addr} {xs:List V} (e:H a = some (.lst xs)):TyOf K H (.ref a) (.type "list")
 | frz {a:Addr} {o:Obj} {xs:List V} (e:H a = some (.frz o (.lst xs))):TyOf K H (.ref a) (.type "list")
 | tup {a:Addr} {xs:List V} (e:H a = some (.tup xs)):TyOf K H (.ref a) (.type "tuple")
 | dK {a:Addr} {kvs:List (Key × V)} (e:H a = some (.dK kvs)):TyOf K H (.ref a) (.type "dict")
 | dT {a:Addr} {kvs:List (List Key × V)} (e:H a = some (.dT kvs)):TyOf K H (.ref a) (.type "dict")
 | ins {a C dx:Addr} {fs:List (Str × V)} (e:H a = some (.ins C dx fs)) (cl:Cls K C) (ha:PySem.W.findIn K (.ref C) "__class__" = some (some (.builtin "object.__class__")))
   (hn:PySem.W.specialIn K (.builtin "object.__class__") "__get__" = some (some (.builtin "getset_descriptor.__get__"))) (htk:PySem.W.takesIn K (.builtin "object.__class__") = some true)
   (hm:PySem.W.mroIn K C (.type "object") = some true):TyOf K H (.ref a) (.ref C)
theorem isinst_ok {x:V} {u t:Value} (I:Inv X pins σ H s) (rx:RelV x u) (ty:TyOf X.K H x t) (e:PySem.W.kitOne X.K t c = some b) (h:∀ tk,Q (.bool b) { s with toks:=tk }) :
  wpAny (model X.prog X.w) A (call (.builtin "isinstance") [u,c]) Q E s:=by
 cases ty with
 | non=>cases (show u = Value.none from rx); exact PySem.W.kia_one PySem.W.kitx_none I.kIn True.intro e (fun z=>nomatch z) h
 | bl y=>cases (show u = Value.bool y from rx); exact PySem.W.kia_one PySem.W.kitx_bool I.kIn True.intro e (fun z=>nomatch z) h
 | int i=>obtain ⟨t,q⟩:=(show ∃ t,u = Value.int i t from rx); cases q; exact PySem.W.kia_one PySem.W.kitx_int I.kIn True.intro e (fun z=>nomatch z) h
 | str y=>obtain ⟨t,q⟩:=(show ∃ t,u = Value.str y t from rx); cases q; exact PySem.W.kia_one PySem.W.kitx_str I.kIn True.intro e (fun z=>nomatch z) h
 | flt y=>obtain ⟨t,q⟩:=(show ∃ t,u = Value.float y t from rx); cases q; exact PySem.W.kia_one PySem.W.kitx_float I.kIn True.intro e (fun z=>nomatch z) h
 | @lst a xs ea =>
  cases (show u = Value.ref a from rx)
  obtain ⟨_,_,n,_,h1⟩:=(show ObjOk X.prog X.w H s.heap a (.lst xs) from I.hok a _ ea)
  exact PySem.W.kia_one PySem.W.kitx_list I.kIn ⟨_,h1,rfl⟩ e (fun z=>nomatch z) h
 | @frz a ob xs ea =>
  cases (show u = Value.ref a from rx)
  obtain ⟨_,_,_,n,_,h1⟩:=(show ObjOk X.prog X.w H s.heap a (.frz ob (.lst xs)) from I.hok a _ ea)
  exact PySem.W.kia_one PySem.W.kitx_list I.kIn ⟨_,h1,rfl⟩ e (fun z=>nomatch z) h
 | @tup a xs ea =>
  cases (show u = Value.ref a from rx)
  obtain ⟨_,_,_,p⟩:=(show ObjOk X.prog X.w H s.heap a (.tup xs) from I.hok a _ ea)
  obtain ⟨o,h1,h2,_⟩:=p
  exact PySem.W.kia_one PySem.W.kitx_tuple I.kIn ⟨o,h1,h2⟩ e (fun z=>nomatch z) h
 | @dK a kvs ea =>
  cases (show u = Value.ref a from rx)
  obtain ⟨_,_,vs,_,p⟩:=(show ObjOk X.prog X.w H s.heap a (.dK kvs) from I.hok a _ ea)
  obtain ⟨o,es,ep,h1,h2,_⟩:=p
  exact PySem.W.kia_one PySem.W.kitx_dict I.kIn ⟨o,h1,h2.1⟩ e (fun z=>nomatch z) h
 | @dT a kvs ea =>
  cases (show u = Value.ref a from rx)
  obtain ⟨_,_,xs,_,o,es,ep,h1,h2,_⟩:=(show ObjOk X.prog X.w H s.heap a (.dT kvs) from I.hok a _ ea)
  exact PySem.W.kia_one PySem.W.kitx_dict I.kIn ⟨o,h1,h2.1⟩ e (fun z=>nomatch z) h
 | @ins a C dx fs ea cl ha hn htk hm =>
  cases (show u = Value.ref a from rx)
  obtain ⟨mA,O,_⟩:=ins_get I.hok ea
  obtain ⟨od,J,_⟩:=O.look
  exact PySem.W.kia_one (PySem.W.kitx_own (cl.get _) cl.hd ha hn htk hm) I.kIn J e (fun z=>nomatch z) h
end
end L2
namespace L2
open PySem PySem.Spec PyProof.Rows
structure Room (k:Nat) (A:Around):Prop where
 hd:A.handled = none
 dp:A.depth + 3 * k + 5 < recursionLimit
 un:A.units + 16 * k + 200 < cLine
theorem Room.mono {j k:Nat} {A:Around} (r:Room k A) (h:j <= k):Room j A:=⟨r.hd,by have:=r.dp; omega,by have:=r.un; omega⟩
theorem Room.deeper {k:Nat} {A:Around} (r:Room (k + 1) A) (env:Env):Room k (A.deeper env) :=
 ⟨r.hd,by have:=r.dp; show A.depth + 1 + 3 * k + 5 < _; omega,by have:=r.un; show A.units + 3 + 16 * k + 200 < _; omega⟩
theorem Room.depth {k:Nat} {A:Around} (r:Room k A):A.depth < recursionLimit:=by have:=r.dp; omega
theorem Room.units {k:Nat} {A:Around} (r:Room k A):A.units + 64 < cLine:=by have:=r.un; omega
def tNil:TA:=fun _ H Q=>Q [] H
def tCons (ta:TE) (tr:TA):TA:=fun σ H Q=>ta σ H fun x H1=>tr σ H1 fun xs H2=>Q (x :: xs) H2
section
variable {X:Cx} {e:Expr} {es:List Expr} {te:TE} {t:TA} {pos:Pos}
theorem pa_nil:PA X [] tNil:=fun _ _ _ _ H Q I h=>Calls.spliced_nil ⟨[],H,I,.nil,h⟩
theorem pa_cons (ha:PE X e te) (hr:PA X es t) (hs:starEach (e :: es) X.env = (false,eval e X.env) :: starEach es X.env:=by rfl):PA X (e :: es) (tCons te t):=by
 intro pos pins s σ H Q I h
 rw [hs]
 show wpAny _ _ (spliced ((false,eval e X.env) :: backTo pos (starEach es X.env))) _ _ s
 refine Calls.spliced_cons (thn (ha pins s σ H _ I h) fun u s1 ⟨x,H1,I1,r1,q1⟩=>?_)
 exact thn (hr pos pins s1 σ H1 _ I1 q1) fun us s2 ⟨xs,H2,I2,r2,q2⟩=>⟨x :: xs,H2,I2,.cons r1 r2,q2⟩
def tTup (t:TA):TE:=fun σ H Q=>t σ H fun xs H1=>xs.length <= sizeLine /\ ∀ p,H1 p = none -> Q (.ref p) (upd H1 p (.tup xs))
def tLst (t:TA):TE:=fun σ H Q=>t σ H fun xs H1=>xs.length <= sizeLine /\ ∀ p,H1 p = none -> Q (.ref p) (upd H1 p (.lst xs))
theorem pe_tup {x1} (h:PA X es t):PE X (.Tuple es x1 pos) (tTup t):=by
 intro pins s σ H Q I hq
 refine wpAny_Tuple_spliced (thn (h pos pins s σ H _ I hq) fun us s1 ⟨xs,H1,I1,r,z,q⟩=>⟨by rw [← r.length]; exact z,?_⟩)
 have hf:H1 s1.heap.objs.size = none:=I1.hok.fresh (Nat.le_refl _)
 refine ⟨.ref s1.heap.objs.size,upd H1 s1.heap.objs.size (.tup xs),I1.laid (t':=s1.toks) (fun b u e=>Heap.get?_push_of_some _ e) (Nat.le_refl _) ?_,rfl,q _ hf⟩
 exact ⟨z,us,r,⟨_,Heap.get?_push_size _ rfl,rfl,_,rfl⟩⟩
theorem pe_lst (h:PA X es t):PE X (.List es pos) (tLst t):=by
 intro pins s σ H Q I hq
 refine wpAny_List_spliced (thn (h pos pins s σ H _ I hq) fun us s1 ⟨xs,H1,I1,r,z,q⟩=>⟨by rw [← r.length]; exact z,?_⟩)
 have hf:H1 s1.heap.objs.size = none:=I1.hok.fresh (Nat.le_refl _)
 refine ⟨.ref s1.heap.objs.size,upd H1 s1.heap.objs.size (.lst xs),I1.laid (t':=s1.toks) (fun b u e=>Heap.get?_push_of_some _ e) (Nat.le_refl _) ?_,rfl,q _ hf⟩
 exact ⟨z,us,0,r,Heap.get?_push_size _ rfl⟩
end
abbrev Sp:=List V -> Hp -> VK -> XK -> Prop
abbrev CXT:=List Env -> Hp -> Shared -> XK -> Value -> Shared -> Prop
structure Env0 (P:Program) (w:World) (K:PySem.W.Frag) (mg:Str -> Option Value) (base:Heap) (A:Around) (outer:List Env) (s:Shared) (H:Hp):Prop where
 frames:A.frames = some outer
 mod:Mod K mg base
 bs:∀ b o,base.get? b = some o -> s.heap.get? b = some o /\ H b = none
 bsz:base.objs.size <= s.heap.objs.size
 funs:s.heap.FunFrames base outer
 frf:∀ b ∈ frs outer,H b = none
 hok:HOk P w H s.heap
 bare:AllBare s.gens
def CE (outer:List Env) (P:Program) (w:World) (H:Hp) (s:Shared) (Q:VK) (u:Value) (s':Shared):Prop :=
 ∃ v H',s'.os = s.os /\ AllBare s'.gens /\ Un (frs outer) [] H H' s.heap s'.heap /\ HOk P w H' s'.heap /\ RelV v u /\ Q v H'
def CR (CX:CXT) (outer:List Env) (P:Program) (w:World) (H:Hp) (s:Shared) (Q:VK) (E:XK) (r:Result) (s':Shared):Prop :=
 match r with
 | .ok (.ret u)=>CE outer P w H s Q u s'
 | .ok _=>False
 | .error e=>CX outer H s E e s'
structure FnOk (P:Program) (w:World) (K:PySem.W.Frag) (mg:Str -> Option Value) (base:Heap) (CX:CXT) (k:Nat) (f:Addr) (fd:FuncData) (ps:List Str) (sp:Sp):Prop where
 len:∀ vs H Q E,sp vs H Q E -> vs.length = ps.length
 run:∀ (A:Around) (outer:List Env) (s:Shared) (H:Hp) (args:Args) (us:List Value) (vs:List V) (Q:VK) (E:XK),Room k A -> Env0 P w K mg base A outer s H -> BindsTo s fd args (ps.zip us) -> Vals vs us -> sp vs H Q E ->
  codeAny (model P w) A (.call (.ref f) args) (CR CX outer P w H s Q E) s
theorem FnOk.imp {P:Program} {w:World} {K:PySem.W.Frag} {mg:Str -> Option Value} {base:Heap} {CX:CXT} {k:Nat} {f:Addr} {fd:FuncData} {ps:List Str} {sp sp':Sp} (F:FnOk P w K mg base CX k f fd ps sp)
  (h:∀ vs H Q E,sp' vs H Q E -> sp vs H Q E):FnOk P w K mg base CX k f fd ps sp' :=
 ⟨fun vs H Q E q=>F.len vs H Q E (h _ _ _ _ q),fun A outer s H args us vs Q E hr he hb hv hs=>F.run A outer s H args us vs Q E hr he hb hv (h _ _ _ _ hs)⟩
section
variable {X:Cx} {pins:List (Addr × Obj)} {σ:St} {H:Hp} {s s':Shared}
theorem Inv.env0 (I:Inv X pins σ H s):Env0 X.prog X.w X.K X.mg X.base X.A X.stack s H :=
 ⟨I.ok.frames,I.ok.mod,I.bs,Nat.le_trans I.ok.bsz I.sz,I.stack,I.stkFree,I.hok,I.bare⟩
theorem Inv.after {Q:VK} {u:Value} (I:Inv X pins σ H s) (h:CE X.stack X.prog X.w H s Q u s'):EP X pins σ Q u s':=by
 obtain ⟨v,H',os,bare,un,hok,r,q⟩:=h
 obtain ⟨hh,g,d,t,os'⟩:=s'
 obtain rfl:os' = s.os:=os
 exact ⟨v,H',I.call (h':=hh) (g':=g) (d':=d) (t':=t) (ch:=[]) un hok bare (fun b z=>absurd z (by simp)),r,q⟩
end
def tCall (sp:Sp) (dvs:List V) (E:XK) (t:TA):TE:=fun σ H Q=>t σ H fun vs H1=>sp (vs ++ dvs) H1 Q E
def Binds (K:PySem.W.Frag) (fd:FuncData) (ps:List Str) (ds:List Value):Prop :=
 ∀ (s:Shared) (us:List Value),K.In s.heap -> (us ++ ds).length = ps.length -> BindsTo s fd ⟨us,[]⟩ (ps.zip (us ++ ds))
theorem Binds.all {K:PySem.W.Frag} {fd:FuncData} {ps:List Str} (h:∀ us:List Value,us.length = ps.length -> bindArgs fd ⟨us,[]⟩ = pure (ps.zip us)):Binds K fd ps []:=fun s us _ hl=>by
 rw [List.append_nil] at hl ⊢
 exact .of_eq (h us hl)
def Passes (CX:CXT) (X:Cx) (E:XK):Prop:=∀ (pins:List (Addr × Obj)) (σ:St) (H:Hp) (s:Shared) (e:Value) (s':Shared),Inv X pins σ H s -> CX X.stack H s E e s' -> X.xe e s'
section
variable {X:Cx} {CX:CXT} {k:Nat} {f C:Addr} {fd:FuncData} {ps:List Str} {sp:Sp} {dvs:List V} {ds:List Value} {E:XK} {x m:Str} {p pos apos:Pos} {e o:Expr} {es:List Expr} {ta:TE} {t:TA}
theorem run_fn {pins:List (Addr × Obj)} {σ:St} {H:Hp} {s:Shared} {Q:VK} {us:List Value} {vs:List V} (F:FnOk X.prog X.w X.K X.mg X.base CX k f fd ps sp) (hr:Room k X.A) (hb:Binds X.K fd ps ds) (hd:Vals dvs ds) (hx:Passes CX X E)
  (I:Inv X pins σ H s) (r:Vals vs us) (h:sp (vs ++ dvs) H Q E):wpAny (model X.prog X.w) X.A (call (.ref f) us) (EP X pins σ Q) X.xe s:=by
 have r2:Vals (vs ++ dvs) (us ++ ds):=r.append hd
 have hl:(us ++ ds).length = ps.length:=by rw [← r2.length]; exact F.len _ _ _ _ h
 refine wpAny_call (codeAny_mono (F.run X.A X.stack s H ⟨us,[]⟩ (us ++ ds) (vs ++ dvs) Q E hr I.env0 (hb s us I.kIn hl) r2 h) fun r s' hq=>?_)
 cases r with
 | error e=>exact hx pins σ H s e s' I hq
 | ok fl =>
  cases fl with
  | ret u=>exact I.after hq
  | next=>exact False.elim hq
  | brk=>exact False.elim hq
  | cont=>exact False.elim hq
theorem pe_call (F:FnOk X.prog X.w X.K X.mg X.base CX k f fd ps sp) (hr:Room k X.A) (hg:Gl X x) (hm:X.mg x = some (.ref f)) (hk:PySem.W.keepIn X.K (.ref f) = true) (hb:Binds X.K fd ps ds) (hd:Vals dvs ds) (hx:Passes CX X E)
  (ha:PA X (e :: es) t) (hdb:(x == ("__debug__" : Str)) = false:=by decide) (he:starEach (e :: es) X.env = (false,eval e X.env) :: starEach es X.env:=by rfl) (hpl:(backTo pos (starEach es X.env)).any (·.1) = false:=by rfl) :
  PE X (.Call (.Name x p) (e :: es) [] pos) (tCall sp dvs E t):=by
 intro pins s σ H Q I h
 refine wpAny_Call_Name_kw (ld_glob I hg hm ?_ hdb)
 refine PySem.W.callWith_K (h₀:=X.base) I.ok.mod.kin hk (thn (ha pos pins s σ H _ I h) fun us s1 ⟨vs,H1,I1,r,q⟩=>⟨I1.kIn,?_⟩) he hpl
 exact run_fn F hr hb hd hx I1 r q
end
section
variable {X:Cx} {CX:CXT} {k:Nat} {f C:Addr} {fd:FuncData} {ps ks:List Str} {sp:Sp} {E:XK} {x m:Str} {p pos apos kpos:Pos} {e o:Expr} {es:List Expr} {kws:List Keyword} {te ta:TE} {t tk:TA} {nm:Option Str}
variable {g:List Value -> List Value -> List Value} {gV:List V -> List V -> List V}
end
structure FnScope (N P:List Str) (sc:Scope):Prop where
 kind:sc.kind = .function
 co:sc.isCoroutine = false
 gen:sc.isGenerator = false
 nd:N.Nodup
 pre:N.take P.length = P
 par:∀ x ∈ P,sc.names.lookup x = some .local ∨ sc.names.lookup x = some .cell
 nofree:∀ y ∈ sc.names,y.2 ≠ .free
theorem bindL_out {kindOf:Str -> Option NameKind} {x:Str}:∀ {binds:List (Str × Value)} {m:Str -> Option Value},(∀ v,(x,v) ∉ binds) -> bindL kindOf binds m x = m x
 | [],_,_=>rfl
 | (n,v) :: r,m,h=>by
  unfold bindL
  rw [bindL_out fun w hw=>h w (List.mem_cons_of_mem _ hw)]
  split
  ·have:x ≠ n:=by rintro rfl; exact h v List.mem_cons_self
   simp [this]
  ·rfl
theorem bindC_out {kindOf:Str -> Option NameKind} {x:Str}:∀ {binds:List (Str × Value)} {m:Str -> Option Value},(∀ v,(x,v) ∉ binds) -> bindC kindOf binds m x = m x
 | [],_,_=>rfl
 | (n,v) :: r,m,h=>by
  unfold bindC
  rw [bindC_out fun w hw=>h w (List.mem_cons_of_mem _ hw)]
  split
  ·rfl
  ·have:x ≠ n:=by rintro rfl; exact h v List.mem_cons_self
   simp [this]
theorem bindL_get {kindOf:Str -> Option NameKind} {x:Str} {v:Value}:∀ {P:List Str} {vs:List Value} {i:Nat} {m:Str -> Option Value},P.Nodup -> P[i]? = some x -> vs[i]? = some v -> kindOf x = some .local ->
  bindL kindOf (P.zip vs) m x = some v
 | [],_,_,_,_,h,_,_=>by simp at h
 | _ :: _,[],_,_,_,_,h,_=>by simp at h
 | p :: P,w :: vs,0,m,nd,h1,h2,hk=>by
  simp at h1 h2; subst h1; subst h2
  show bindL kindOf ((p,w) :: P.zip vs) m p = _
  unfold bindL
  rw [bindL_out fun v hv=>(List.nodup_cons.mp nd).1 (List.of_mem_zip hv).1,if_pos hk]
  simp
 | p :: P,w :: vs,i + 1,m,nd,h1,h2,hk=>by
  show bindL kindOf ((p,w) :: P.zip vs) m x = _
  unfold bindL
  exact bindL_get (i:=i) (List.nodup_cons.mp nd).2 (by simpa using h1) (by simpa using h2) hk
theorem bindC_get {kindOf:Str -> Option NameKind} {x:Str} {v:Value}:∀ {P:List Str} {vs:List Value} {i:Nat} {m:Str -> Option Value},P.Nodup -> P[i]? = some x -> vs[i]? = some v -> kindOf x ≠ some .local ->
  bindC kindOf (P.zip vs) m x = some v
 | [],_,_,_,_,h,_,_=>by simp at h
 | _ :: _,[],_,_,_,_,h,_=>by simp at h
 | p :: P,w :: vs,0,m,nd,h1,h2,hk=>by
  simp at h1 h2; subst h1; subst h2
  show bindC kindOf ((p,w) :: P.zip vs) m p = _
  unfold bindC
  rw [bindC_out fun v hv=>(List.nodup_cons.mp nd).1 (List.of_mem_zip hv).1,if_neg hk]
  simp
 | p :: P,w :: vs,i + 1,m,nd,h1,h2,hk=>by
  show bindC kindOf ((p,w) :: P.zip vs) m x = _
  unfold bindC
  exact bindC_get (i:=i) (List.nodup_cons.mp nd).2 (by simpa using h1) (by simpa using h2) hk
def start (N:List Str) (vs:List V):St:=vs.map some ++ List.replicate (N.length - vs.length) none
def cxOf (CX:CXT) (P:Program) (w:World) (K:PySem.W.Frag) (mg:Str -> Option Value) (base:Heap) (N:List Str) (qual:Str) (scope:Scope) (f:Addr) (cd:Value) (A:Around) (outer:List Env) (s:Shared) (H:Hp) (E:XK):Cx where
 prog:=P
 w:=w
 K:=K
 mg:=mg
 base:=base
 A:=A.deeper (envOfC qual scope s.heap.objs.size f cd)
 N:=N
 s₀:=s
 H₀:=H
 env:=envOfC qual scope s.heap.objs.size f cd
 outer:=outer
 stack:=envOfC qual scope s.heap.objs.size f cd :: outer
 ex:=[]
 calm:=true
 fn:=fun _=>true
 pn:=[]
 xe:=fun e s'=>wpAny (model P w) (A.deeper (envOfC qual scope s.heap.objs.size f cd)) (leaving (envOfC qual scope s.heap.objs.size f cd) e) (fun _ s''=>CX outer H s E e s'') (fun e' s''=>CX outer H s E e' s'') s'
theorem cell_has {sc:Scope} {n:Nat} {x:Str} (h:sc.names.lookup x = some .cell):∃ c,(cellsFrom n sc.names []).lookup x = some c:=by
 have q:=PySem.W.cellsFrom_some sc.names n [] (.inl h)
 exact Option.isSome_iff_exists.mp q
theorem inv_start {CX:CXT} {P:Program} {w:World} {K:PySem.W.Frag} {mg:Str -> Option Value} {base:Heap} {N ps:List Str} {qual:Str} {scope:Scope} {f:Addr} {cd:Value} {A:Around} {outer:List Env} {s s1:Shared} {H:Hp} {E:XK} {us:List Value} {vs:List V}
  (S:FnScope N ps scope) (hd:A.handled = none) (e0:Env0 P w K mg base A outer s H) (hl:vs.length = ps.length) (r:Vals vs us)
  (x:InCallC s s.heap.objs.size (bindL (envOfC qual scope s.heap.objs.size f cd).kindOf (ps.zip us) fun _=>none) (cellsFrom (s.heap.objs.size + 1) scope.names []) (bindC (envOfC qual scope s.heap.objs.size f cd).kindOf (ps.zip us) fun _=>none) s1) :
  Inv (cxOf CX P w K mg base N qual scope f cd A outer s H E) [] (start N vs) H s1:=by
 have hpl:ps.length <= N.length:=by have:=congrArg List.length S.pre; rw [List.length_take] at this; omega
 obtain ⟨h1,tk,rfl,hk⟩:=x.done
 have noA:∀ b:Addr,b ∉ (cxOf CX P w K mg base N qual scope f cd A outer s H E).ex:=fun b z=>absurd (show b ∈ ([]:List Addr) from z) (by simp)
 refine ⟨⟨e0.mod,S.kind,rfl,rfl,Nat.le_refl _,fun y z c h1 h2=>?_,fun y hy=>?_,fun y c _ h=>?_,fun _=>hd,Around.frames_deeper e0.frames,.inr ⟨rfl,rfl⟩,fun b z=>absurd z (noA b),e0.bs,e0.bsz,fun b _ _=>noA b,fun b z=>absurd z (noA b),e0.funs,e0.frf⟩,
  rfl,e0.bare,Un.kept hk,⟨_,x.toInCall.ns,fun i y v h1 h2 h3=>?_⟩,fun y c h=>⟨_,x.cell y c h⟩,e0.hok.fresh (Nat.le_refl _),fun y c h=>?_,fun p hp=>absurd (show p ∈ ([]:List (Addr × Obj)) from hp) (by simp),e0.hok.kept hk,?_⟩
 ·exact name_of_addr x.apart (PySem.mem_of_lookup h1) (PySem.mem_of_lookup h2)
 ·have hy:scope.names.lookup y = some .cell ∨ scope.names.lookup y = some .free:=hy
  rcases hy with hy | hy
  ·exact cell_has hy
  ·exact absurd rfl (S.nofree _ (PySem.mem_of_lookup hy))
 ·exact Nat.le_of_lt (x.above y c (PySem.mem_of_lookup h))
 ·have hi:i < vs.length:=by
   unfold start at h2
   by_cases hi:i < vs.length
   ·exact hi
   ·rw [List.getElem?_append_right (by simpa using hi)] at h2
    rw [List.getElem?_replicate] at h2
    split at h2 <;> cases h2
  have ha:vs[i]? = some v:=by
   unfold start at h2
   rw [List.getElem?_append_left (by simpa using hi),List.getElem?_map] at h2
   cases e:vs[i]? with
   | none=>rw [e] at h2; cases h2
   | some a=>rw [e] at h2; cases h2; rfl
  obtain ⟨u,hu,rv⟩:=r.get ha
  have hp:ps[i]? = some y:=by
   rw [← S.pre,List.getElem?_take_of_lt (by omega)]; exact h1
  have ndP:ps.Nodup:=by rw [← S.pre]; exact S.nd.sublist (List.take_sublist _ _)
  refine ⟨u,rv,?_⟩
  rcases S.par y (List.mem_of_getElem? hp) with k | k
  ·exact .inl ⟨k,bindL_get ndP hp hu k⟩
  ·obtain ⟨c,e⟩:=cell_has (n:=s.heap.objs.size + 1) k
   refine .inr ⟨.inl k,c,e,?_⟩
   have q:=x.cell y c e
   rw [bindC_get ndP hp hu (by show scope.names.lookup y ≠ _; rw [k]; decide)] at q
   exact q
 ·exact e0.hok.fresh (Nat.le_of_lt (x.above y c (PySem.mem_of_lookup h)))
 ·unfold start
  show _ = N.length
  rw [List.length_append,List.length_map,List.length_replicate]
  omega
theorem fn_of {CX:CXT} {P:Program} {w:World} {K:PySem.W.Frag} {mg:Str -> Option Value} {base:Heap} {k:Nat} {f:Addr} {name qual:Str} {params:Arguments} {body:List Stmt} {scope:Scope} {dV kV doc pm cdv ct oc:Value} {an od:Option Addr}
  {osl:Array (Option Value)} {N ps:List Str} {sp:Sp} (lk:K.lookup f = some ⟨oc,od,.func (PySem.W.fnOf name qual params body scope dV kV doc pm an cdv ct),osl⟩) (hcd:PySem.W.codeIn K cdv qual = true) (S:FnScope N ps scope)
  (len:∀ vs H Q E,sp vs H Q E -> vs.length = ps.length)
  (hbody:∀ (A:Around) (outer:List Env) (s:Shared) (H:Hp) (vs:List V) (Q:VK) (E:XK),Room k (A.deeper (envOfC qual scope s.heap.objs.size f cdv)) -> sp vs H Q E ->
   ∃ t,PSs (cxOf CX P w K mg base N qual scope f cdv A outer s H E) body t /\ t { nx:=fun _ H'=>Q .non H',rt:=Q } (start N vs) H) :
  FnOk P w K mg base CX (k + 1) f (PySem.W.fnOf name qual params body scope dV kV doc pm an cdv ct) ps sp:=by
 refine ⟨len,fun A outer s H args us vs Q E hr e0 hb r hsp=>?_⟩
 have hl:=len _ _ _ _ hsp
 have KX:K.In s.heap:=e0.mod.kin.keeps fun b o e=>(e0.bs b o e).1
 have lim:s.heap.NoLimit:=e0.mod.nolimit.keeps fun b o e=>(e0.bs b o e).1
 have hkind:∀ y ∈ ps.zip us,scope.names.lookup y.1 = some .local ∨ (scope.names.lookup y.1 = some .cell /\ ((cellsFrom (s.heap.objs.size + 1) scope.names []).lookup y.1).isSome = true):=fun ⟨n,v⟩ hy=>by
  rcases S.par n (List.of_mem_zip hy).1 with q | q
  ·exact .inl q
  ·exact .inr ⟨q,PySem.W.cellsFrom_some _ _ _ (.inl q)⟩
 refine codeAny_call_function hr.depth (KX _ _ lk) rfl S.co S.gen rfl (PySem.W.codeRec_of KX hcd) (hb _ _ _ _ ?_)
 refine wpAny_newFunctionEnv_cells S.kind hkind fun env he s1 x=>?_
 subst he
 refine ⟨lim.keeps x.toInCall.keep,codeAny_func ?_⟩
 obtain ⟨t,ht,hq⟩:=hbody A outer s H vs Q E (hr.deeper _) hsp
 have I:Inv (cxOf CX P w K mg base N qual scope f cdv A outer s H E) [] (start N vs) H s1:=inv_start S hr.hd e0 hl r x
 refine wpAny_mono (ht [] s1 (start N vs) H _ I hq) (fun fl s' hs=>?_) fun e s' hs=>hs
 have fin:∀ {σ':St} {H':Hp} {v:V} {u:Value},Inv (cxOf CX P w K mg base N qual scope f cdv A outer s H E) [] σ' H' s' -> RelV v u -> Q v H' -> CE outer P w H s Q u s' :=
  fun {σ' H' v u} J rv q=>⟨v,H',J.os,J.bare,J.base,J.hok,rv,q⟩
 cases fl with
 | ret u =>
  obtain ⟨v,σ',H',J,rv,q⟩:=hs
  exact fin J rv q
 | next =>
  obtain ⟨σ',H',J,q⟩:=hs
  exact fin (v:=V.non) (u:=Value.none) J rfl q
 | brk =>
  obtain ⟨_,_,_,q⟩:=hs
  exact False.elim q
 | cont =>
  obtain ⟨_,_,_,q⟩:=hs
  exact False.elim q
end L2
namespace L2
open PySem PySem.Spec PyProof.Rows
section
variable {X:Cx} {x:Str} {p pos:Pos} {e:Expr} {es:List Expr} {t:TA} {id T:String} {r:List V -> Hp -> VK -> Prop}
def tCB (r:List V -> Hp -> VK -> Prop) (t:TA):TE:=fun σ H Q=>t σ H fun vs H1=>r vs H1 Q
theorem pe_callB (hc:CallR X (.builtin id) r) (hg:Gl X x) (hm:X.mg x = none) (hv:bootBuiltins x = some (.builtin id)) (ha:PA X (e :: es) t) (hn:x ≠ "__name__":=by decide) (hdb:(x == ("__debug__" : Str)) = false:=by decide)
  (he:starEach (e :: es) X.env = (false,eval e X.env) :: starEach es X.env:=by rfl) (hpl:(backTo pos (starEach es X.env)).any (·.1) = false:=by rfl):PE X (.Call (.Name x p) (e :: es) [] pos) (tCB r t):=by
 intro pins s σ H Q I h
 refine wpAny_Call_Name_kw (ld_blt I hg hm hv ?_ hn hdb)
 exact PyProof.Rows.callWith_builtin1 (thn (ha pos pins s σ H _ I h) fun us s1 ⟨vs,H1,I1,r1,q1⟩=>hc pins s1 σ H1 vs us Q I1 r1 q1) he hpl
theorem pe_callTy (hc:CallR X (.type T) r) (hg:Gl X x) (hm:X.mg x = none) (hv:bootBuiltins x = some (.type T)) (ha:PA X (e :: es) t) (hn:x ≠ "__name__":=by decide) (hdb:(x == ("__debug__" : Str)) = false:=by decide)
  (he:starEach (e :: es) X.env = (false,eval e X.env) :: starEach es X.env:=by rfl) (hpl:(backTo pos (starEach es X.env)).any (·.1) = false:=by rfl):PE X (.Call (.Name x p) (e :: es) [] pos) (tCB r t):=by
 intro pins s σ H Q I h
 refine wpAny_Call_Name_kw (ld_blt I hg hm hv ?_ hn hdb)
 exact PyProof.Rows.callWith_type1 (thn (ha pos pins s σ H _ I h) fun us s1 ⟨vs,H1,I1,r1,q1⟩=>hc pins s1 σ H1 vs us Q I1 r1 q1) he hpl
end
end L2
namespace HT
open PySem PyProof.Rows
section
open PySem.SeqAt
open PySem.AutoSeq1 (wpAny_loadPart')
open PySem.MeetsSeq PySem.MeetsSeq2 PySem.MeetsSeq3
end
section
variable {prog:Program} {w:World} {A:Around} {E:Value -> Shared -> Prop} {s:Shared}
theorem cat_tup {t b:Addr} {vs ws:List Value} {Q:Value -> Shared -> Prop} (ht:IsTup s.heap t vs.toArray) (hb:IsTup s.heap b ws.toArray) (hv:vs ≠ [])
  (h1:ws = [] -> Q (.ref t) s) (h2:ws ≠ [] -> Q (.ref s.heap.objs.size) { s with heap:=s.heap.push { cls:=.type "tuple",data:=.seq (vs ++ ws).toArray } })
  (hsz:vs.length + ws.length <= sizeLine):wpAny (model prog w) A (binaryOp .Add (.ref t) (.ref b)) Q E s:=by
 obtain ⟨⟨cls,dd,data,sl⟩,ho,hc,n,hd⟩:=id ht
 obtain ⟨⟨cls2,dd2,data2,sl2⟩,ho2,hc2,n2,hd2⟩:=id hb
 simp only at hc hd hc2 hd2
 subst hc hd hc2 hd2
 have e:vs.toArray ++ ws.toArray = (vs ++ ws).toArray:=by simp
 by_cases hw:ws = []
 ·exact concat_meets ⟨_,ho,rfl⟩ ⟨_,ho2,rfl⟩ noFill_tuple_add seq_tuple_add PySem.F.slot_tuple_add PySem.F.entry_tuple_add (PySem.F.args_tuple_add_2 _ _)
   (tuple_addW1 t b vs.toArray ws.toArray n n2 dd dd2 sl sl2 (by simpa using hv) (by simp [hw])) ⟨ho,ho2,h1 hw⟩
 ·refine concat_meets ⟨_,ho,rfl⟩ ⟨_,ho2,rfl⟩ noFill_tuple_add seq_tuple_add PySem.F.slot_tuple_add PySem.F.entry_tuple_add (PySem.F.args_tuple_add_2 _ _)
   (tuple_addW2 t b vs.toArray ws.toArray n n2 dd dd2 sl sl2 (by simpa using hv) (by simpa using hw) (by rw [List.size_toArray,List.size_toArray]; exact hsz)) ⟨ho,ho2,?_⟩
  rw [e]
  exact h2 hw
def sIx (n d:Nat):Option Int -> Nat
 | none=>d
 | some v=>if v < 0 then (v + (n:Int)).toNat else min v.toNat n
theorem sIx_nat (n d k:Nat):sIx n d (some (k:Int)) = min k n:=by
 show (if (k:Int) < 0 then ((k:Int) + (n:Int)).toNat else min (k:Int).toNat n) = min k n
 rw [if_neg (by omega),Int.toNat_natCast]
theorem sIx_le (n d:Nat) (hd:d <= n) (o:Option Int):sIx n d o <= n:=by
 cases o with
 | none=>exact hd
 | some v =>
  show (if v < 0 then (v + (n:Int)).toNat else min v.toNat n) <= n
  by_cases hv:v < 0
  ·rw [if_pos hv]; omega
  ·rw [if_neg hv]; exact Nat.min_le_right _ _
theorem clip_eq (v:Int) (n d:Nat):(if v < 0 then max (v + (n:Int)) 0 else min v (n:Int)) = ((sIx n d (some v):Nat):Int):=by
 show (if v < 0 then max (v + (n:Int)) 0 else min v (n:Int)) = (((if v < 0 then (v + (n:Int)).toNat else min v.toNat n):Nat):Int)
 by_cases hv:v < 0
 ·simp only [if_pos hv]; omega
 ·simp only [if_neg hv]; omega
theorem adjust_gen (lo hi:Option Int) (n:Nat):Builtin.Slice.sliceAdjust lo hi 1 (n:Int) = (((sIx n 0 lo:Nat):Int),((sIx n n hi:Nat):Int)):=by
 have h1:¬ ((1:Int) < 0):=by omega
 unfold Builtin.Slice.sliceAdjust
 simp only [h1,if_false]
 refine Prod.ext ?_ ?_
 ·cases lo with
  | none=>rfl
  | some v=>exact clip_eq v n 0
 ·cases hi with
  | none=>rfl
  | some v=>exact clip_eq v n n
theorem places_gen (i j:Nat):Builtin.Slice.slicePlaces (i:Int) (j:Int) 1 = j - i:=by
 unfold Builtin.Slice.slicePlaces
 have h1:(1:Int) > 0:=by omega
 simp only [h1,if_true,Int.ediv_one]
 split <;> omega
theorem slicePart_ {v:Value} {o:Option Int} {Q:Option Int -> Shared -> Prop} (p:IsPart v o) (h:Q o s):wpAny (model prog w) A (Builtin.Slice.slicePartIndex v) Q E s:=by
 cases p with
 | none=>exact slicePart_none h
 | int i t=>exact slicePart_int h
theorem sliceApplied_gen {sl:Addr} {vl vu:Value} {lo hi:Option Int} {n:Nat} {Q:Int × Int × Nat -> Shared -> Prop} (hs:s.heap.IsSliceOf sl vl vu .none) (pl:IsPart vl lo) (pu:IsPart vu hi)
  (h:Q (((sIx n 0 lo:Nat):Int),1,sIx n n hi - sIx n 0 lo) s):wpAny (model prog w) A (Builtin.Slice.sliceApplied (.ref sl) (pure (n:Int))) Q E s:=by
 obtain ⟨os,hos,hcs,hds⟩:=id hs
 unfold Builtin.Slice.sliceApplied Builtin.Slice.sliceFields
 refine wpAny_bind (wpAny_bind (wpAny_field hos hds (x:=vl) rfl (wpAny_bind (wpAny_field hos hds (x:=vu) rfl (wpAny_bind (wpAny_field hos hds (x:=.none) rfl (wpAny_pure ?_)))))))
 refine wpAny_bind (slicePart_none ?_)
 show wpAny _ _ (if ((1:Int) == 0) = true then _ else _) _ _ s
 rw [if_neg (by decide)]
 refine wpAny_bind (slicePart_ pl (wpAny_bind (slicePart_ pu (wpAny_bind (wpAny_pure ?_)))))
 show wpAny _ _ (match Builtin.Slice.sliceAdjust lo hi 1 (n:Int) with | (lo,hi)=>pure (lo,(1:Int),Builtin.Slice.slicePlaces lo hi 1)) _ _ s
 rw [adjust_gen lo hi n]
 show wpAny _ _ (pure (((sIx n 0 lo:Nat):Int),(1:Int),Builtin.Slice.slicePlaces ((sIx n 0 lo:Nat):Int) ((sIx n n hi:Nat):Int) 1)) _ _ s
 rw [places_gen]
 exact wpAny_pure h
theorem pick_gen (xs:Array Value) (i k:Nat):((List.range k).filterMap fun (m:Nat)=>xs[((i:Int) + (m:Int) * 1).toNat]?).toArray = ((xs.toList.drop i).take k).toArray:=by
 have e:(fun (m:Nat)=>xs[((i:Int) + (m:Int) * 1).toNat]?) = fun m=>xs[i + m]?:=by
  funext m
  have:((i:Int) + (m:Int) * 1).toNat = i + m:=by omega
  rw [this]
 rw [e]
 have:=pick_run xs i k
 rw [List.filterMap_map] at this
 have e2:((fun x=>xs[x]?) ∘ fun x=>i + x) = fun m=>xs[i + m]?:=rfl
 rw [e2] at this
 rw [this]
theorem getItem_tuple_cut {t sl:Addr} {items:Array Value} {vl vu:Value} {lo hi:Option Int} {Q:Value -> Shared -> Prop} (ht:IsTup s.heap t items) (hs:s.heap.IsSliceOf sl vl vu .none) (pl:IsPart vl lo) (pu:IsPart vu hi)
  (hw:¬ (sIx items.size 0 lo = 0 /\ sIx items.size items.size hi = items.size))
  (h:Q (.ref s.heap.objs.size) { s with heap:=s.heap.push { cls:=.type "tuple",data:=.seq ((items.toList.drop (sIx items.size 0 lo)).take (sIx items.size items.size hi - sIx items.size 0 lo)).toArray } })
  (hsz:items.size <= sizeLine):wpAny (model prog w) A (getItem (.ref t) (.ref sl)) Q E s:=by
 have htake:sizeOk (.seq ((items.toList.drop (sIx items.size 0 lo)).take (sIx items.size items.size hi - sIx items.size 0 lo)).toArray):=by
  show ((items.toList.drop (sIx items.size 0 lo)).take (sIx items.size items.size hi - sIx items.size 0 lo)).toArray.size <= sizeLine
  rw [List.size_toArray,List.length_take,List.length_drop,Array.length_toList]
  omega
 have hj:sIx items.size items.size hi <= items.size:=sIx_le _ _ (Nat.le_refl _) hi
 obtain ⟨os,hos,hcs,hds⟩:=id hs
 have hTs:s.TypeIs (.ref sl) "slice":=⟨os,hos,hcs⟩
 unfold getItem
 try with_reducible refine wpAny_holding ?_
 first | refine wpAny_bind (wpAny_pure ?_) | skip
 refine wpAny_bind (wpAny_sequenceKey ht.typeIs (by decide) ?_)
 refine wpAny_bind (wpAny_callSpecial?_slot (name:=Str.ofString "__getitem__") ht.typeIs PyProof.Rows.slot_tuple_getitem
  (wpAny_call_entry PyProof.Rows.slot_tuple_getitem ht.typeIs entry_tuple_getitem ?_ (args_tuple_getitem _ _)))
 show wpAny _ _ (Builtin.Tuple.tupleItemsOf (.ref t) >>= _) _ _ s
 refine wpAny_bind (tupleItemsOf_ ht ?_)
 refine wpAny_bind (wpAny_typeOf hTs ?_)
 rw [if_pos (by decide)]
 refine wpAny_bind (sliceApplied_gen hs pl pu ?_)
 have hno:¬ ((((sIx items.size 0 lo:Nat):Int) == 0 && (1:Int) == 1 && (sIx items.size items.size hi - sIx items.size 0 lo) == items.size) = true):=by
  intro q
  rw [Bool.and_eq_true,Bool.and_eq_true] at q
  have q1:((sIx items.size 0 lo:Nat):Int) = 0:=eq_of_beq q.1.1
  have q2:sIx items.size items.size hi - sIx items.size 0 lo = items.size:=eq_of_beq q.2
  exact hw ⟨by omega,by omega⟩
 show wpAny _ _ (if (((sIx items.size 0 lo:Nat):Int) == 0 && (1:Int) == 1 && (sIx items.size items.size hi - sIx items.size 0 lo) == items.size) = true then _ else _) _ _ s
 rw [if_neg hno,pick_gen]
 first
  | exact wpAny_bind (m:=Builtin.Tuple.tupleExact _) (wpAny_newObj_type (wpAny_pure ⟨_,rfl,wpAny_pure h⟩) htake)
  | exact wpAny_bind (m:=Builtin.Tuple.tupleExact _) (wpAny_newObj_type (wpAny_bind (wpAny_pure (wpAny_pure ⟨_,rfl,wpAny_pure h⟩))) htake)
  | exact wpAny_bind (wpAny_bind (m:=Builtin.Tuple.tupleExact _) (wpAny_newObj_type (wpAny_pure (wpAny_pure ⟨_,rfl,wpAny_pure h⟩)) htake))
  | exact wpAny_bind (wpAny_bind (m:=Builtin.Tuple.tupleExact _) (wpAny_newObj_type (wpAny_pure ⟨_,rfl,wpAny_pure h⟩) htake))
end
end HT
namespace L2
open PySem PySem.Spec PyProof.Rows
abbrev TO:=St -> Hp -> (Option Int -> Hp -> Prop) -> Prop
def PO (X:Cx) (e:Option Expr) (t:TO):Prop :=
 ∀ (pins:List (Addr × Obj)) (s:Shared) (σ:St) (H:Hp) (Q:Option Int -> Hp -> Prop),Inv X pins σ H s -> t σ H Q ->
  wpAny (model X.prog X.w) X.A (evalPart e X.env) (fun u s'=>∃ o H',Inv X pins σ H' s' /\ IsPart u o /\ Q o H') X.xe s
def tNoPart:TO:=fun _ H Q=>Q none H
def tPart (t:TE):TO:=fun σ H Q=>t σ H fun x H1=>∃ i,x = .int i /\ Q (some i) H1
theorem intsAre_of {ns:List Int}:∀ {us:List Value},Vals (ns.map V.int) us -> IntsAre us ns:=by
 induction ns with
 | nil=>intro us r; rw [List.map_nil] at r; cases r; exact .nil
 | cons n ns ih =>
  intro us r
  rw [List.map_cons] at r
  cases r with
  | cons r1 r2 =>
   obtain ⟨t,e⟩:=r1
   subst e
   exact .cons n t (ih r2)
section
variable {X:Cx} {e:Expr} {te:TE} {lo hi:Option Expr} {tl th:TO} {pos p2:Pos}
theorem po_none:PO X none tNoPart:=by
 intro pins s σ H Q I h
 rw [evalPart_none]
 exact wpAny_pure ⟨none,H,I,.none,h⟩
theorem po_some (h:PE X e te):PO X (some e) (tPart te):=by
 intro pins s σ H Q I hw
 rw [evalPart_some]
 refine thn (h pins s σ H _ I hw) fun u s1 ⟨x,H1,I1,r1,q1⟩=>?_
 obtain ⟨i,rfl,q⟩:=q1
 obtain ⟨t,rfl⟩:=r1
 exact ⟨some i,H1,I1,.int i t,q⟩
def SlR (X:Cx) (r:V -> Option Int -> Option Int -> Hp -> VK -> Prop):Prop :=
 ∀ (pins:List (Addr × Obj)) (s:Shared) (σ:St) (H:Hp) (x:V) (v vl vu:Value) (lo hi:Option Int) (sl:Addr) (Q:VK),Inv X pins σ H s -> RelV x v -> s.heap.IsSliceOf sl vl vu .none -> IsPart vl lo -> IsPart vu hi -> r x lo hi H Q ->
  ∃ T id,typeLookup (.type T) "__getitem__" = pure (some (.builtin id)) /\ s.TypeIs v T /\ wpAny (model X.prog X.w) X.A (getItem v (.ref sl)) (EP X pins σ Q) X.xe s
theorem SlR.or {r r':V -> Option Int -> Option Int -> Hp -> VK -> Prop} (h:SlR X r) (h':SlR X r'):SlR X (fun x lo hi H Q=>r x lo hi H Q ∨ r' x lo hi H Q):=by
 intro pins s σ H x v vl vu lo hi sl Q I rx hs pl pu q
 rcases q with q | q
 ·exact h pins s σ H x v vl vu lo hi sl Q I rx hs pl pu q
 ·exact h' pins s σ H x v vl vu lo hi sl Q I rx hs pl pu q
def tSl (r:V -> Option Int -> Option Int -> Hp -> VK -> Prop) (te:TE) (tl th:TO):TE:=fun σ H Q=>te σ H fun x H1=>tl σ H1 fun l H2=>th σ H2 fun u H3=>r x l u H3 Q
theorem pe_slice {r:V -> Option Int -> Option Int -> Hp -> VK -> Prop} (hr:SlR X r) (he:PE X e te) (hl:PO X lo tl) (hu:PO X hi th):PE X (.Subscript e (.Slice lo hi none p2) pos) (tSl r te tl th):=by
 intro pins s σ H Q I h
 refine Subscript_ (thn (he pins s σ H _ I h) fun v s1 ⟨x,H1,I1,r1,q1⟩=>?_)
 refine wpAny_Slice (thn (hl pins s1 σ H1 _ I1 q1) fun vl s2 ⟨l,H2,I2,pl,q2⟩=>thn (hu pins s2 σ H2 _ I2 q2) fun vu s3 ⟨u,H3,I3,pu,q3⟩=>?_)
 rw [evalPart_none]
 refine wpAny_pure ?_
 have I4:Inv X pins σ H3 { s3 with heap:=s3.heap.push { cls:=.type "slice",data:=.fields #[vl,vu,.none] } }:=I3.kept (t':=s3.toks) fun b ob q=>Heap.get?_push_of_some _ q
 obtain ⟨T,id,hT,ht,hg⟩:=hr pins { s3 with heap:=s3.heap.push { cls:=.type "slice",data:=.fields #[vl,vu,.none] } } σ H3 x v vl vu l u s3.heap.objs.size Q I4 r1 (Heap.IsSliceOf.new ..) pl pu q3
 show wpAny (model X.prog X.w) X.A (subscriptTail e (.Slice lo hi none p2) v (.ref s3.heap.objs.size)) (EP X pins σ Q) X.xe { s3 with heap:=s3.heap.push { cls:=.type "slice",data:=.fields #[vl,vu,.none] } }
 exact tail_any (ops:=[.ref s3.heap.objs.size,v]) ht hT hg (by with_unfolding_all rfl)
def cutV (xs:List V) (lo hi:Option Int):List V:=(xs.drop (HT.sIx xs.length 0 lo)).take (HT.sIx xs.length xs.length hi - HT.sIx xs.length 0 lo)
theorem cutV_length (xs:List V) (lo hi:Option Int):(cutV xs lo hi).length <= xs.length:=by
 unfold cutV
 rw [List.length_take,List.length_drop]
 omega
def rSlT (K:PySem.W.Frag):V -> Option Int -> Option Int -> Hp -> VK -> Prop:=fun x lo hi H Q=>∃ a xs,x = .ref a /\ SqT K H a xs /\
 ¬ (HT.sIx xs.length 0 lo = 0 /\ HT.sIx xs.length xs.length hi = xs.length) /\ ∀ p,H p = none -> Q (.ref p) (upd H p (.tup (cutV xs lo hi)))
theorem sl_tup:SlR X (rSlT X.K):=by
 intro pins s σ H x v vl vu lo hi sl Q I rx hs pl pu h
 obtain ⟨a,xs,rfl,hx,hw,q⟩:=h
 cases rx
 obtain ⟨its,r,ht,hz⟩:=I.tuple hx
 have hlen:its.toArray.size = xs.length:=by rw [List.size_toArray]; exact r.length.symm
 refine ⟨"tuple",_,PyProof.Rows.slot_tuple_getitem.lookup,ht.typeIs,?_⟩
 refine HT.getItem_tuple_cut ht hs pl pu (by rw [hlen]; exact hw) ?_ (by rw [hlen]; exact hz)
 rw [hlen]
 refine ⟨.ref s.heap.objs.size,_,I.laid (t':=s.toks) (o:=.tup (cutV xs lo hi)) (fun b ob q=>Heap.get?_push_of_some _ q) (Nat.le_refl _) ?_,rfl,q _ (I.hok.fresh (Nat.le_refl _))⟩
 exact ⟨Nat.le_trans (cutV_length xs lo hi) hz,_,(r.drop (HT.sIx xs.length 0 lo)).take (HT.sIx xs.length xs.length hi - HT.sIx xs.length 0 lo),IsTup.new _ _⟩
def rCatT (K:PySem.W.Frag):R2:=fun x y H Q=>∃ a b xs ys,x = .ref a /\ y = .ref b /\ SqT K H a xs /\ SqT K H b ys /\ xs ≠ [] /\ xs.length + ys.length <= sizeLine /\
 (ys = [] -> Q (.ref a) H) /\ (ys ≠ [] -> ∀ p,H p = none -> Q (.ref p) (upd H p (.tup (xs ++ ys))))
theorem Vals.nil_iff {xs:List V} {us:List Value} (r:Vals xs us):us = [] ↔ xs = []:=by
 cases r with
 | nil=>simp
 | cons _ _=>simp
theorem op_catT:OpR X (binaryOp .Add) (rCatT X.K):=by
 intro pins s σ H x y v u Q I rx ry h
 obtain ⟨a,b,xs,ys,rfl,rfl,ha,hb,hx,hz,q1,q2⟩:=h
 cases rx
 cases ry
 obtain ⟨its,r1,p1,_⟩:=I.tuple ha
 obtain ⟨its2,r2,p2,_⟩:=I.tuple hb
 refine HT.cat_tup p1 p2 (fun z=>hx (r1.nil_iff.mp z)) (fun z=>⟨.ref a,H,I,rfl,q1 (r2.nil_iff.mp z)⟩) (fun z=>?_) (by rw [← r1.length,← r2.length]; exact hz)
 refine ⟨.ref s.heap.objs.size,_,I.laid (t':=s.toks) (o:=.tup (xs ++ ys)) (fun b ob q=>Heap.get?_push_of_some _ q) (Nat.le_refl _) ?_,rfl,q2 (fun w=>z (r2.nil_iff.mpr w)) _ (I.hok.fresh (Nat.le_refl _))⟩
 exact ⟨by rw [List.length_append]; exact hz,_,r1.append r2,IsTup.new _ _⟩
end
end L2
namespace L2
open PySem PySem.Spec PyProof.Rows
def ixN (n:Nat) (i:Int):Option Nat:=if 0 <= i then (if i < n then some i.toNat else none) else if -(n:Int) <= i then some (i + n).toNat else none
def atI {α:Type} (xs:List α) (i:Int):Option α:=(ixN xs.length i).bind fun j=>xs[j]?
theorem ixN_seq {n:Nat} {i:Int} {j:Nat} (h:ixN n i = some j):seqIndex? i n = some j /\ j < n /\ -(n:Int) <= i /\ i < n:=by
 unfold ixN at h
 by_cases h0:0 <= i
 ·rw [if_pos h0] at h
  by_cases h1:i < n
  ·rw [if_pos h1] at h
   have e:i.toNat = j:=Option.some.inj h
   exact ⟨by rw [seqIndex_of h0 h1,e],by omega,by omega,h1⟩
  ·rw [if_neg h1] at h; cases h
 ·rw [if_neg h0] at h
  by_cases h1 : -(n:Int) <= i
  ·rw [if_pos h1] at h
   have e:(i + n).toNat = j:=Option.some.inj h
   exact ⟨by rw [seqIndex_neg (by omega) h1,e],by omega,h1,by omega⟩
  ·rw [if_neg h1] at h; cases h
theorem atI_get {α:Type} {xs:List α} {i:Int} {v:α} (h:atI xs i = some v):∃ j,seqIndex? i xs.length = some j /\ xs[j]? = some v /\ j < xs.length /\ -(xs.length:Int) <= i /\ i < xs.length:=by
 unfold atI at h
 cases e:ixN xs.length i with
 | none=>rw [e] at h; cases h
 | some j =>
  rw [e] at h
  obtain ⟨h1,h2,h3,h4⟩:=ixN_seq e
  exact ⟨j,h1,h,h2,h3,h4⟩
theorem atI_nat {α:Type} {xs:List α} {j:Nat} {v:α} (h:xs[j]? = some v):atI xs (j:Int) = some v:=by
 have hj:j < xs.length:=(List.getElem?_eq_some_iff.mp h).1
 have e:ixN xs.length (j:Int) = some j:=by
  unfold ixN
  rw [if_pos (by omega),if_pos (by omega)]; simp
 unfold atI; rw [e]; exact h
def PlainIx (b:Expr):Prop:=∀ o i,subscripted b false o i = operate [o,i] (getItem o i)
def IxR (X:Cx) (r:R2):Prop :=
 ∀ (value slice:Expr) (pins:List (Addr × Obj)) (s:Shared) (σ:St) (H:Hp) (x y:V) (v u:Value) (Q:VK),Inv X pins σ H s -> RelV x v -> RelV y u -> r x y H Q ->
  subscripted slice false v u = operate [v,u] (getItem v u) -> wpAny (model X.prog X.w) X.A (subscriptTail value slice v u) (EP X pins σ Q) X.xe s
def MtR (X:Cx) (id:String) (r:V -> List V -> Hp -> VK -> Prop):Prop :=
 ∀ (pins:List (Addr × Obj)) (s:Shared) (σ:St) (H:Hp) (x:V) (xs:List V) (v:Value) (us:List Value) (Q:VK),Inv X pins σ H s -> RelV x v -> Vals xs us -> r x xs H Q ->
  wpAny (model X.prog X.w) X.A (call (.builtin id) (v :: us)) (EP X pins σ Q) X.xe s
section
variable {X:Cx} {a b:Expr} {ta tb:TE} {pos:Pos}
theorem IxR.or {r r':R2} (h:IxR X r) (h':IxR X r'):IxR X (fun x y H Q=>r x y H Q ∨ r' x y H Q):=by
 intro value slice pins s σ H x y v u Q I rx ry q hs
 rcases q with q | q
 ·exact h value slice pins s σ H x y v u Q I rx ry q hs
 ·exact h' value slice pins s σ H x y v u Q I rx ry q hs
theorem pe_ix {r:R2} (hr:IxR X r) (ha:PE X a ta) (hb:PE X b tb) (hs:PlainIx b):PE X (.Subscript a b pos) (tOp r ta tb):=by
 intro pins s σ H Q I h
 exact Subscript_ (binT ha hb I h fun v u s2 x y H2 I2 rx ry q=>hr a b pins s2 σ H2 x y v u Q I2 rx ry q (hs _ _))
def rIxL (K:PySem.W.Frag):R2:=fun x y H Q=>∃ p xs i v,x = .ref p /\ y = .int i /\ SqL K H p xs /\ atI xs i = some v /\ Q v H
def rIxT (K:PySem.W.Frag):R2:=fun x y H Q=>∃ p xs i v,x = .ref p /\ y = .int i /\ SqT K H p xs /\ atI xs i = some v /\ Q v H
theorem ix_list:IxR X (rIxL X.K):=by
 intro value slice pins s σ H x y v u Q I rx ry h hs
 obtain ⟨p,xs,i,z,rfl,rfl,hq,he,q⟩:=h
 cases rx
 obtain ⟨t,rfl⟩:=ry
 obtain ⟨its,r,pl,hz⟩:=I.list hq
 obtain ⟨j,h1,h2,h3,h4,h5⟩:=atI_get he
 obtain ⟨w,ew,rw'⟩:=r.get h2
 have hl:=r.length
 have hn:=line63
 have fin:EP X pins σ Q w s:=⟨z,H,I,rw',q⟩
 by_cases h0:0 <= i
 ·have hj:i.toNat = j:=by
   rw [seqIndex_of h0 h5] at h1
   exact Option.some.inj h1
  exact item_listR pl.isList h0 (by omega) (by rw [hj]; simpa using ew) fin hs
 ·have hj:(i + (its.toArray.size:Int)).toNat = j:=by
   rw [seqIndex_neg (by omega) h4] at h1
   rw [List.size_toArray,← hl]
   exact Option.some.inj h1
  exact subscriptTail_builtinR (x:=w) pl.isList.typeIs slot_list_getitem.lookup
   (wpAny_getItem_list_neg (Q:=fun r s'=>r = w /\ EP X pins σ Q r s') pl.isList (by omega) (by rw [List.size_toArray] <;> omega) (by omega) (by rw [hj]; simpa using ew) ⟨rfl,fin⟩) hs
theorem ix_tup:IxR X (rIxT X.K):=by
 intro value slice pins s σ H x y v u Q I rx ry h hs
 obtain ⟨p,xs,i,z,rfl,rfl,hq,he,q⟩:=h
 cases rx
 obtain ⟨t,rfl⟩:=ry
 obtain ⟨its,r,pl,hz⟩:=I.tuple hq
 obtain ⟨j,h1,h2,h3,h4,h5⟩:=atI_get he
 obtain ⟨w,ew,rw'⟩:=r.get h2
 have hl:=r.length
 have hn:=line63
 have fin:EP X pins σ Q w s:=⟨z,H,I,rw',q⟩
 exact subscriptTail_builtinR (x:=w) pl.typeIs slot_tuple_getitem.lookup
  (getItem_tuple (j:=j) (Q:=fun r s'=>r = w /\ EP X pins σ Q r s') pl (by omega) (by omega) (by rw [List.size_toArray,← hl]; exact h1) (by simpa using ew) ⟨rfl,fin⟩) hs
theorem mapSeq_set (its:List Value) (n j:Nat) (u:Value):Obj.mapSeq (·.setIfInBounds j u) { cls:=.type "list",data:=.seq its.toArray n } = { cls:=.type "list",data:=.seq (its.set j u).toArray n }:=by
 simp [Obj.mapSeq]
theorem Inv.lst {pins:List (Addr × Obj)} {σ:St} {H:Hp} {s:Shared} {p:Addr} {xs:List V} (I:Inv X pins σ H s) (h:H p = some (.lst xs)) :
  ∃ (its:List Value) (n:Nat),Vals xs its /\ s.heap.get? p = some { cls:=.type "list",data:=.seq its.toArray n } /\ xs.length <= sizeLine:=by
 obtain ⟨z,its,n,r,e⟩:=I.hok p _ h
 exact ⟨its,n,r,e,z⟩
theorem Inv.lstUpd {pins:List (Addr × Obj)} {σ:St} {H:Hp} {s:Shared} {p:Addr} {xs ys:List V} {its its':List Value} {n n':Nat} {f:Obj -> Obj} (I:Inv X pins σ H s) (h:H p = some (.lst xs))
  (ho:s.heap.get? p = some { cls:=.type "list",data:=.seq its.toArray n }) (hf:f { cls:=.type "list",data:=.seq its.toArray n } = { cls:=.type "list",data:=.seq its'.toArray n' }) (r:Vals ys its') (hz:ys.length <= sizeLine) (t:Nat) :
  Inv X pins σ (upd H p (.lst ys)) { s with heap:=s.heap.update p f,toks:=t }:=by
 have e:(s.heap.update p f).get? p = some { cls:=.type "list",data:=.seq its'.toArray n' }:=by
  rw [Heap.get?_update_self f ho (by rw [hf] <;> rfl),hf]
 refine I.write (x:=p) (e:=p) (by rw [h]; trivial) (.inl rfl) (fun b u hb q=>(Heap.get?_update_other _ _ (Ne.symm hb)).trans q) ⟨_,e⟩ ?_
 exact ⟨hz,its',n',r,e⟩
def rSetL:V -> V -> V -> Hp -> (Hp -> Prop) -> Prop:=fun o i v H Q=>∃ p xs k j,o = .ref p /\ i = .int k /\ H p = some (.lst xs) /\ ixN xs.length k = some j /\ Q (upd H p (.lst (xs.set j v)))
theorem set_list:PSet X rSetL:=by
 intro pins s σ H o i v ov iv u Q I ro ri rv h
 obtain ⟨p,xs,k,j,rfl,rfl,hp,hj,q⟩:=h
 cases ro
 obtain ⟨t,rfl⟩:=ri
 obtain ⟨its,n,r,ho,hz⟩:=I.lst hp
 obtain ⟨h1,h2,h3,h4⟩:=ixN_seq hj
 have hl:=r.length
 have hn:=line63
 have I':Inv X pins σ (upd H p (.lst (xs.set j v))) { s with heap:=s.heap.update p (Obj.mapSeq (·.setIfInBounds j u)) } :=
  I.lstUpd hp ho (mapSeq_set its n j u) (r.set rv j) (by rw [List.length_set]; exact hz) s.toks
 by_cases h0:0 <= k
 ·have hk:k.toNat = j:=by
   rw [seqIndex_of h0 h4] at h1
   exact Option.some.inj h1
  exact PySem.W.ki_setAt ho h0 (by omega) (by rw [List.size_toArray,← hl]; exact h4) (by rw [hk]; exact ⟨_,I',q⟩)
 ·have hk:(k + (its.toArray.size:Int)).toNat = j:=by
   rw [seqIndex_neg (by omega) h3] at h1
   rw [List.size_toArray,← hl]
   exact Option.some.inj h1
  exact PySem.W.ki_setBack ho (by omega) (by rw [List.size_toArray,← hl]; exact h3) (by omega) (by rw [hk]; exact ⟨_,I',q⟩)
def flatV:V -> Bool
 | .non=>true
 | .bl _=>true
 | .int _=>true
 | .str _=>true
 | _=>false
def eqV:V -> V -> Bool
 | .non,.non=>true
 | .bl a,.bl b=>a == b
 | .bl a,.int b=>(if a then 1 else 0) == b
 | .int a,.bl b=>a == (if b then 1 else 0)
 | .int a,.int b=>a == b
 | .str a,.str b=>a == b
 | _,_=>false
theorem eqAt_V {A:Around} {s:Shared} {y x:V} {u v:Value} (ry:RelV y u) (rx:RelV x v) (fy:flatV y = true) (fx:flatV x = true):SeqAt.EqAt A s u v (eqV y x):=by
 cases y with
 | non =>
  cases ry
  cases x with
  | non=>cases rx; exact SeqAt.EqAt.same _
  | bl b=>cases rx; exact SeqAt.EqAt.none_bool b
  | int b=>obtain ⟨t,rfl⟩:=rx; exact SeqAt.EqAt.none_int b t
  | str b=>obtain ⟨t,rfl⟩:=rx; exact SeqAt.EqAt.none_str b t
  | _=>exact absurd (show false = true from fx) Bool.false_ne_true
 | bl a =>
  cases ry
  cases x with
  | non=>cases rx; exact SeqAt.EqAt.bool_none a
  | bl b=>cases rx; exact SeqAt.EqAt.bool_bool a b
  | int b=>obtain ⟨t,rfl⟩:=rx; exact SeqAt.EqAt.bool_int a b t
  | str b=>obtain ⟨t,rfl⟩:=rx; exact SeqAt.EqAt.bool_str a b t
  | _=>exact absurd (show false = true from fx) Bool.false_ne_true
 | int a =>
  obtain ⟨t',rfl⟩:=ry
  cases x with
  | non=>cases rx; exact SeqAt.EqAt.int_none a t'
  | bl b=>cases rx; exact SeqAt.EqAt.int_bool a t' b
  | int b=>obtain ⟨t,rfl⟩:=rx; exact SeqAt.EqAt.int_int a t' b t
  | str b=>obtain ⟨t,rfl⟩:=rx; exact SeqAt.EqAt.int_str a t' b t
  | _=>exact absurd (show false = true from fx) Bool.false_ne_true
 | str a =>
  obtain ⟨t',rfl⟩:=ry
  cases x with
  | non=>cases rx; exact SeqAt.EqAt.str_none a t'
  | bl b=>cases rx; exact SeqAt.EqAt.str_bool a t' b
  | int b=>obtain ⟨t,rfl⟩:=rx; exact SeqAt.EqAt.str_int a t' b t
  | str b=>obtain ⟨t,rfl⟩:=rx; exact SeqAt.EqAt.str_str a t' b t
  | _=>exact absurd (show false = true from fx) Bool.false_ne_true
 | _=>exact absurd (show false = true from fy) Bool.false_ne_true
def eqU (x:V) (u:Value):Bool:=match u with
 | .none=>eqV .non x
 | .bool b=>eqV (.bl b) x
 | .int i _=>eqV (.int i) x
 | .str z _=>eqV (.str z) x
 | _=>false
theorem eqU_of {x y:V} {u:Value} (r:RelV y u) (f:flatV y = true):eqU x u = eqV y x:=by
 cases y with
 | non=>cases r; rfl
 | bl b=>cases r; rfl
 | int i=>obtain ⟨t,rfl⟩:=r; rfl
 | str z=>obtain ⟨t,rfl⟩:=r; rfl
 | _=>exact absurd (show false = true from f) Bool.false_ne_true
theorem any_eqU {x:V}:∀ {xs:List V} {us:List Value},Vals xs us -> xs.all flatV = true -> us.any (eqU x) = xs.any fun y=>eqV y x
 | _,_,.nil,_=>rfl
 | y :: xs,u :: us,.cons r t,f=>by
  rw [List.all_cons,Bool.and_eq_true] at f
  rw [List.any_cons,List.any_cons,eqU_of r f.1,any_eqU t f.2]
theorem mem_eqAt {A:Around} {s:Shared} {x:V} {v:Value} (rx:RelV x v) (fx:flatV x = true):∀ {xs:List V} {us:List Value},Vals xs us -> xs.all flatV = true -> ∀ u ∈ us,SeqAt.EqAt A s u v (eqU x u)
 | _,_,.nil,_=>fun u hu=>by cases hu
 | y :: xs,u :: us,.cons r t,f=>fun u' hu=>by
  rw [List.all_cons,Bool.and_eq_true] at f
  rcases List.mem_cons.mp hu with rfl | hu
  ·rw [eqU_of r f.1]; exact eqAt_V r rx f.1 fx
  ·exact mem_eqAt rx fx t f.2 u' hu
def inV (x:V) (xs:List V):Bool:=xs.any fun y=>eqV y x
def rIn (K:PySem.W.Frag) (neg:Bool):R2:=fun x y H Q=>∃ p xs,y = .ref p /\ (SqL K H p xs ∨ SqT K H p xs) /\ flatV x = true /\ xs.all flatV = true /\ Q (.bl (if neg then !inV x xs else inV x xs)) H
theorem op_notIn_seq:OpR X (compareOp .NotIn) (rIn X.K true):=by
 intro pins s σ H x y v u Q I rx ry h
 obtain ⟨p,xs,rfl,hq,fx,fs,q⟩:=h
 cases ry
 rcases hq with hq | hq
 ·obtain ⟨its,r,pl,hz⟩:=I.list hq
  refine SeqAt.notIn_listAt (eqU x) pl.isList (fun w hw=>mem_eqAt rx fx r fs w (by simpa using hw)) ⟨.bl _,H,I,rfl,?_⟩
  rw [show its.toArray.any (eqU x) = its.any (eqU x) by simp,any_eqU r fs]
  exact q
 ·obtain ⟨its,r,pl,hz⟩:=I.tuple hq
  refine SeqAt.notIn_tupleAt (eqU x) pl (fun w hw=>mem_eqAt rx fx r fs w (by simpa using hw)) ⟨.bl _,H,I,rfl,?_⟩
  rw [show its.toArray.any (eqU x) = its.any (eqU x) by simp,any_eqU r fs]
  exact q
theorem call_len_seq:CallR X (.builtin "len") (fun xs H Q=>∃ p ys,xs = [.ref p] /\ (SqL X.K H p ys ∨ SqT X.K H p ys) /\ Q (.int ys.length) H):=by
 intro pins s σ H xs us Q I r h
 obtain ⟨p,ys,rfl,hq,q⟩:=h
 obtain ⟨u,rfl,rx⟩:=vals1 r
 cases rx
 have hn:=line63
 rcases hq with hq | hq
 ·obtain ⟨its,r',pl,hz⟩:=I.list hq
  have hlen:=r'.length
  exact Calls.call_len_list pl.isList (by simp only [List.size_toArray] <;> omega) ⟨.int ys.length,H,I.tok _,⟨s.toks + 1,by rw [List.size_toArray,hlen]⟩,q⟩
 ·obtain ⟨its,r',pl,hz⟩:=I.tuple hq
  have hlen:=r'.length
  exact len_tuple pl (by simp only [List.size_toArray] <;> omega) ⟨.int ys.length,H,I.tok _,⟨s.toks + 1,by rw [List.size_toArray,hlen]⟩,q⟩
theorem call_list_of:CallR X (.type "list") (fun xs H Q=>∃ p ys,xs = [.ref p] /\ (SqL X.K H p ys ∨ SqT X.K H p ys) /\ ∀ l,H l = none -> Q (.ref l) (upd H l (.lst ys))):=by
 intro pins s σ H xs us Q I r h
 obtain ⟨p,ys,rfl,hq,q⟩:=h
 obtain ⟨u,rfl,rx⟩:=vals1 r
 cases rx
 have fin:∀ (its:List Value),Vals ys its -> ys.length <= sizeLine -> ∀ (h':Heap) (c':Nat),(∀ b o',s.heap.get? b = some o' -> h'.get? b = some o') ->
   h'.get? s.heap.objs.size = some { cls:=.type "list",dict:=none,data:=.seq its.toArray c',slots:=#[] } -> EP X pins σ Q (.ref s.heap.objs.size) { s with heap:=h' }:=fun its r' hz h' c' kp e =>
  ⟨.ref s.heap.objs.size,_,I.laid (t':=s.toks) kp (Nat.le_refl _) (show ObjOk X.prog X.w _ h' _ (.lst ys) from ⟨hz,its,c',r',e⟩),rfl,q _ (I.hok.fresh (Nat.le_refl _))⟩
 rcases hq with hq | hq
 ·obtain ⟨its,r',pl,hz⟩:=I.list hq
  have hlen:=r'.length
  obtain ⟨o,ho,hc,n,hd⟩:=pl.isList
  exact call_list_seq p (.inl rfl) ho hc hd (fun h' c' kp e=>fin its r' hz h' c' kp e) (by simp only [List.size_toArray] <;> omega)
 ·obtain ⟨its,r',pl,hz⟩:=I.tuple hq
  have hlen:=r'.length
  obtain ⟨o,ho,hc,n,hd⟩:=pl
  exact call_list_seq p (.inr rfl) ho hc hd (fun h' c' kp e=>fin its r' hz h' c' kp e) (by simp only [List.size_toArray] <;> omega)
theorem call_tuple_of:CallR X (.type "tuple") (fun xs H Q=>∃ p ys,xs = [.ref p] /\ ((SqL X.K H p ys /\ ∀ l,H l = none -> Q (.ref l) (upd H l (.tup ys))) ∨ (SqT X.K H p ys /\ Q (.ref p) H))):=by
 intro pins s σ H xs us Q I r h
 obtain ⟨p,ys,rfl,h⟩:=h
 obtain ⟨u,rfl,rx⟩:=vals1 r
 cases rx
 rcases h with ⟨hq,q⟩ | ⟨hq,q⟩
 ·obtain ⟨its,r',pl,hz⟩:=I.list hq
  have hlen:=r'.length
  refine call_tuple_list pl.isList (fun h' kp=>?_) (by simp only [List.size_toArray] <;> omega)
  have I1:Inv X pins σ H { s with heap:=h' }:=I.kept (t':=s.toks) kp
  have I2:Inv X pins σ (upd H h'.objs.size (.tup ys)) { s with heap:=h'.push { cls:=.type "tuple",data:=.seq its.toArray } } :=
   I1.laid (t':=s.toks) (fun b o e=>Heap.get?_push_of_some _ e) (Nat.le_refl _) (show ObjOk X.prog X.w _ _ _ (.tup ys) from ⟨hz,its,r',IsTup.new _ _⟩)
  exact ⟨.ref h'.objs.size,_,I2,rfl,q _ (I1.hok.fresh (Nat.le_refl _))⟩
 ·obtain ⟨its,r',pl,hz⟩:=I.tuple hq
  exact call_tuple_same pl ⟨.ref p,H,I,rfl,q⟩
def tyV (K:PySem.W.Frag) (T:String) (x:V) (H:Hp):Prop:=match x with
 | .str _=>T = "str"
 | .int _=>T = "int"
 | .ref p=>(T = "list" /\ ∃ xs,SqL K H p xs) ∨ (T = "tuple" /\ ∃ o,K.lookup p = some o /\ o.cls = .type "tuple" /\ o.dict = none) ∨
   (T = "dict" /\ ((∃ kvs,H p = some (.dK kvs)) ∨ ∃ kvs,H p = some (.dT kvs))) ∨ (T = "set" /\ ∃ S n,H p = some (.set S n))
 | _=>False
theorem tyV_is {pins:List (Addr × Obj)} {σ:St} {H:Hp} {s:Shared} {T:String} {x:V} {v:Value} (I:Inv X pins σ H s) (r:RelV x v) (ty:tyV X.K T x H) :
  s.TypeIs v T /\ ∀ a,v = .ref a -> ∃ ob,s.heap.get? a = some ob /\ ob.dict = none:=by
 cases x with
 | str z =>
  obtain ⟨t,rfl⟩:=r
  cases (show T = "str" from ty)
  exact ⟨typeIs_str s z t,fun _ e=>nomatch e⟩
 | int i =>
  obtain ⟨t,rfl⟩:=r
  cases (show T = "int" from ty)
  exact ⟨typeIs_int s i t,fun _ e=>nomatch e⟩
 | ref p =>
  cases r
  rcases ty with ⟨rfl,xs,hq⟩ | ⟨rfl,o,hk,hc,hd⟩ | ⟨rfl,hk⟩ | ⟨rfl,S,n,hk⟩
  ·obtain ⟨its,_,pl,_⟩:=I.list hq
   refine ⟨pl.isList.typeIs,fun a e=>?_⟩
   cases e
   obtain ⟨o,n,e,c,hd,_⟩:=pl
   exact ⟨o,e,hd⟩
  ·refine ⟨⟨o,I.kIn p o hk,hc⟩,fun a e=>?_⟩
   cases e
   exact ⟨o,I.kIn _ o hk,hd⟩
  ·have z:∃ o,s.heap.get? p = some o /\ o.ExactDict:=by
    rcases hk with ⟨kvs,hk⟩ | ⟨kvs,hk⟩
    ·obtain ⟨_,_,_,_,o,_,_,e,ex,_⟩:=I.hok p _ hk
     exact ⟨o,e,ex⟩
    ·obtain ⟨_,_,_,_,o,_,_,e,ex,_⟩:=I.hok p _ hk
     exact ⟨o,e,ex⟩
   obtain ⟨o,e,ex⟩:=z
   refine ⟨⟨o,e,ex.1⟩,fun a e2=>?_⟩
   cases e2
   exact ⟨o,e,ex.2.1⟩
  ·obtain ⟨o,_,_,_,e,ex,_⟩:=I.hok p _ hk
   refine ⟨⟨o,e,ex.1⟩,fun a e2=>?_⟩
   cases e2
   exact ⟨o,e,ex.2.1⟩
 | _=>exact False.elim ty
def tBM (K:PySem.W.Frag) (T:String) (r:V -> List V -> Hp -> VK -> Prop) (to:TE) (t:TA):TE:=fun σ H Q=>to σ H fun x H1=>tyV K T x H1 /\ t σ H1 fun xs H2=>r x xs H2 Q
variable {o e:Expr} {es:List Expr} {to:TE} {t:TA} {name:Str} {apos cpos:Pos} {T id:String} {r:V -> List V -> Hp -> VK -> Prop}
theorem pe_bm (pa:PlainAttrs T) (slot:Slot T name id) (hty:typeOf (.builtin id) = pure (.type "method_descriptor")) (hm:MtR X id r) (ho:PE X o to) (ha:PA X (e :: es) t)
  (hbase:attributeBase o name X.env (eval o X.env) = eval o X.env:=by rfl)
  (hfew:((backTo cpos (starEach (e :: es) X.env)).all (fun x=>!x.1) && (backToKw cpos (keywordEach [] X.env)).all (fun x=>x.1.isSome)
   && decide ((e :: es).length + ([]:List Keyword).length + (if ([]:List Keyword).isEmpty then 0 else 1) < 30)) = true:=by rfl)
  (hline:(apos.endLine == cpos.line) = true:=by rfl) (hs:starEach (e :: es) X.env = (false,eval e X.env) :: starEach es X.env:=by rfl) (hplain:(backTo cpos (starEach es X.env)).any (·.1) = false:=by rfl) :
  PE X (.Call (.Attribute o name apos) (e :: es) [] cpos) (tBM X.K T r to t):=by
 intro pins s σ H Q I h
 refine wpAny_Call_method_late hbase hfew hline rfl (thn (ho pins s σ H _ I h) fun v s1 ⟨x,H1,I1,r1,ty,q1⟩=>?_)
 obtain ⟨h1,h2⟩:=tyV_is I1 r1 ty
 refine ⟨T,id,pa,slot,hty,h1,h2,?_⟩
 have hA:=ha cpos pins s1 σ H1 _ I1 q1
 rw [hs] at hA ⊢
 refine Calls.callWith_builtin (by show (false || (backTo cpos (starEach es X.env)).any (·.1)) = false; rw [hplain] <;> rfl) (Calls.evalArgs_plain ?_)
 exact thn hA fun us s2 ⟨vs,H2,I2,r2,q2⟩=>hm pins s2 σ H2 x vs v us Q I2 r1 r2 q2
end
end L2
namespace L2
open PySem PySem.Spec PyProof.Rows
def MtM (X:Cx) (id:String) (r:V -> List V -> Hp -> VK -> Prop):Prop :=
 ∀ (pins:List (Addr × Obj)) (s:Shared) (σ:St) (H:Hp) (x:V) (xs:List V) (v:Value) (us:List Value) (Q:VK),Inv X pins σ H s -> RelV x v -> Vals xs us -> r x xs H Q ->
  wpAny (model X.prog X.w) X.A (call (.builtin id) (v :: us)) (EP X pins σ Q) X.xe s
theorem Vals.one:∀ {x:V} {us:List Value},Vals [x] us -> ∃ u,us = [u] /\ RelV x u
 | _,_,.cons r .nil=>⟨_,rfl,r⟩
theorem Vals.two:∀ {x y:V} {us:List Value},Vals [x,y] us -> ∃ u v,us = [u,v] /\ RelV x u /\ RelV y v
 | _,_,_,.cons r (.cons q .nil)=>⟨_,_,rfl,r,q⟩
theorem Vals.eraseIdx:∀ {xs:List V} {us:List Value} (i:Nat),Vals xs us -> Vals (xs.eraseIdx i) (us.eraseIdx i)
 | _,_,_,.nil=>.nil
 | _,_,0,.cons _ t=>t
 | _,_,i + 1,.cons r t=>.cons r (Vals.eraseIdx i t)
theorem Vals.rep {xs:List V} {us:List Value} (h:Vals xs us):∀ k:Nat,Vals (List.replicate k xs).flatten (List.replicate k us).flatten
 | 0=>.nil
 | k + 1=>by
  rw [List.replicate_succ,List.replicate_succ,List.flatten_cons,List.flatten_cons]
  exact Vals.append h (Vals.rep h k)
theorem len_erase {α:Type}:∀ (l:List α) (i:Nat),(l.eraseIdx i).length <= l.length
 | [],_=>Nat.le_refl _
 | _ :: _,0=>Nat.le_succ _
 | _ :: r,i + 1=>Nat.succ_le_succ (len_erase r i)
theorem foldl_rep (its:List Value):∀ (k:Nat) (acc:List Value),
  List.foldl (fun x1 x2=>x1 ++ x2) acc.toArray (List.replicate k its.toArray) = (acc ++ (List.replicate k its).flatten).toArray
 | 0,acc=>by simp
 | k + 1,acc=>by
  have e:acc.toArray ++ its.toArray = (acc ++ its).toArray:=by simp
  have e2:(acc ++ its) ++ (List.replicate k its).flatten = acc ++ (List.replicate (k + 1) its).flatten:=by
   rw [List.replicate_succ,List.flatten_cons,List.append_assoc]
  rw [← e2,← foldl_rep its k (acc ++ its),← e,List.replicate_succ,List.foldl_cons]
section
variable {X:Cx} {pins:List (Addr × Obj)} {σ:St} {H:Hp} {s:Shared} {l b:Addr} {xs ys zs:List V}
theorem Inv.lset {its its':List Value} {n:Nat} {f:Array Value -> Array Value} {t':Nat} (I:Inv X pins σ H s) (hH:H l = some (.lst xs))
  (e:s.heap.get? l = some { cls:=.type "list",data:=.seq its.toArray n }) (hf:f its.toArray = its'.toArray) (hv:Vals ys its') (hz:ys.length <= sizeLine) :
  Inv X pins σ (upd H l (.lst ys)) { s with heap:=s.heap.update l (Obj.mapSeq f),toks:=t' }:=by
 have q:=PySem.IsL.update e f
 rw [hf] at q
 refine I.write (x:=l) (e:=l) (by rw [hH]; exact trivial) (.inl rfl) (fun b' u hb hu=>(Heap.get?_update_other s.heap (Obj.mapSeq f) (Ne.symm hb)).trans hu) ⟨_,q⟩ ?_
 exact ⟨hz,its',_,hv,q⟩
theorem Inv.lnew {its:List Value} {t':Nat} (I:Inv X pins σ H s) (hv:Vals ys its) (hz:ys.length <= sizeLine) :
  Inv X pins σ (upd H s.heap.objs.size (.lst ys)) { s with heap:=s.heap.push { cls:=.type "list",data:=.seq its.toArray },toks:=t' } :=
 I.laid (fun _ _ q=>Heap.get?_push_of_some _ q) (Nat.le_refl _) ⟨hz,its,0,hv,Heap.get?_push_size _ rfl⟩
theorem Inv.fresh (I:Inv X pins σ H s):H s.heap.objs.size = none:=I.hok.fresh (Nat.le_refl _)
theorem Inv.lstM (I:Inv X pins σ H s) (hH:H l = some (.lst xs)):xs.length <= sizeLine /\ ∃ (its:List Value) (n:Nat),Vals xs its /\ xs.length = its.length /\ s.heap.get? l = some { cls:=.type "list",data:=.seq its.toArray n }:=by
 obtain ⟨z,its,n,r,e⟩:=I.hok l _ hH
 exact ⟨z,its,n,r,r.length,e⟩
theorem notLongL {n:Nat} (h:n <= sizeLine):Builtin.List.listTooLong n = false:=by
 unfold Builtin.List.listTooLong
 exact decide_eq_false (by omega)
end
section
variable {X:Cx}
def rAppend:V -> List V -> Hp -> VK -> Prop:=fun x vs H Q=>∃ l xs y,x = .ref l /\ vs = [y] /\ H l = some (.lst xs) /\ xs.length < sizeLine /\ Q .non (upd H l (.lst (xs ++ [y])))
theorem mt_append:MtM X "list.append" rAppend:=by
 intro pins s σ H x vs v us Q I rx rv h
 obtain ⟨l,xs,y,rfl,rfl,hH,hz,q⟩:=h
 cases rx
 obtain ⟨u,rfl,ru⟩:=rv.one
 obtain ⟨z,its,n,r,hl,e⟩:=I.lstM hH
 refine call_meets F.slot_list_append ⟨_,e,rfl⟩ F.entry_list_append (F.args_list_append_2 _ _) (PySem.list_append l its.toArray n u (by rw [List.size_toArray]; omega)) ⟨e,?_⟩
 refine ⟨.non,_,I.lset (its':=its ++ [u]) hH e (by simp) (r.append (.cons ru .nil)) ?_,rfl,q⟩
 rw [List.length_append,List.length_singleton]
 omega
def rExtend:V -> List V -> Hp -> VK -> Prop:=fun x vs H Q=>∃ l b xs zs,x = .ref l /\ vs = [.ref b] /\ H l = some (.lst xs) /\ H b = some (.lst zs) /\ xs.length + zs.length <= sizeLine /\ Q .non (upd H l (.lst (xs ++ zs)))
theorem mt_extend:MtM X "list.extend" rExtend:=by
 intro pins s σ H x vs v us Q I rx rv h
 obtain ⟨l,b,xs,zs,rfl,rfl,hH,hB,hz,q⟩:=h
 cases rx
 obtain ⟨u,rfl,ru⟩:=rv.one
 cases ru
 obtain ⟨z,its,n,r,hl,e⟩:=I.lstM hH
 obtain ⟨z2,its2,n2,r2,hl2,e2⟩:=I.lstM hB
 have hsz:its.toArray.size + its2.toArray.size <= sizeLine:=by rw [List.size_toArray,List.size_toArray]; omega
 have hlong:¬ (!its.toArray.isEmpty && Builtin.List.listTooLong (its.toArray.size + its2.toArray.size)) = true:=by
  rw [notLongL hsz,Bool.and_false]
  exact Bool.false_ne_true
 refine call_meets F.slot_list_extend ⟨_,e,rfl⟩ F.entry_list_extend (F.args_list_extend_2 _ _)
  (AutoSeq1.list_extend_list_list_0 l its.toArray n b its2.toArray n2 hlong (by rw [List.size_toArray]; omega) (by omega)) ⟨e,e2,?_⟩
 refine ⟨.non,_,I.lset (its':=its ++ its2) hH e (by simp) (r.append r2) ?_,rfl,q⟩
 rw [List.length_append]
 omega
def rPopAt:V -> List V -> Hp -> VK -> Prop:=fun x vs H Q=>∃ l xs i k y,x = .ref l /\ vs = [.int i] /\ H l = some (.lst xs) /\ -(2 ^ 63) <= i /\ i < 2 ^ 63 /\ seqIndex? i xs.length = some k /\ xs[k]? = some y /\ Q y (upd H l (.lst (xs.eraseIdx k)))
theorem mt_popAt:MtM X "list.pop" rPopAt:=by
 intro pins s σ H x vs v us Q I rx rv h
 obtain ⟨l,xs,i,k,y,rfl,rfl,hH,h1,h2,hk,hy,q⟩:=h
 cases rx
 obtain ⟨u,rfl,ru⟩:=rv.one
 obtain ⟨t,rfl⟩:=ru
 obtain ⟨z,its,n,r,hl,e⟩:=I.lstM hH
 obtain ⟨w,hw,rw'⟩:=r.get hy
 refine call_meets F.slot_list_pop ⟨_,e,rfl⟩ F.entry_list_pop (F.args_list_pop_2 _ _)
  (MeetsSeq.list_pop_at l its.toArray n i t k w (fitsIndex_both h1 h2) (by rw [List.size_toArray,← hl]; exact hk) (by rw [← Array.getElem?_toList]; exact hw) (by rw [List.size_toArray]; omega)) ⟨e,?_⟩
 refine ⟨y,_,I.lset (its':=its.eraseIdx k) hH e ?_ (r.eraseIdx k) ?_,rw',q⟩
 ·show its.toArray.eraseIdxIfInBounds k = (its.eraseIdx k).toArray
  rw [List.eraseIdxIfInBounds_toArray]
 ·have:=len_erase xs k
  omega
def rRep:R2:=fun x y H Q=>∃ l k xs,x = .ref l /\ y = .int k /\ H l = some (.lst xs) /\ -(2 ^ 63) <= k /\ k < 2 ^ 63 /\ xs.length * k.toNat <= sizeLine /\
 ∀ p,H p = none -> Q (.ref p) (upd H p (.lst (List.replicate k.toNat xs).flatten))
theorem len_rep {α:Type} (xs:List α) (k:Nat):(List.replicate k xs).flatten.length = k * xs.length:=by
 induction k with
 | zero=>simp
 | succ k ih=>rw [List.replicate_succ,List.flatten_cons,List.length_append,ih,Nat.succ_mul,Nat.add_comm]
theorem op_rep:OpR X (binaryOp .Mult) rRep:=by
 intro pins s σ H x y v u Q I rx ry h
 obtain ⟨l,k,xs,rfl,rfl,hH,h1,h2,hz,q⟩:=h
 cases rx
 obtain ⟨t,rfl⟩:=ry
 obtain ⟨z,its,n,r,hl,e⟩:=I.lstM hH
 have hlen:its.toArray.size * k.toNat <= sizeLine:=by rw [List.size_toArray,← hl]; exact hz
 have hcap:¬ its.toArray.size * k.toNat > (2 ^ 63 - 1) / 8:=by
  have:(sizeLine:Nat) <= (2 ^ 63 - 1) / 8:=by decide
  omega
 have hfit:¬ (!Builtin.List.listFitsIndex k) = true:=by
  rw [fitsIndex_both h1 h2]
  exact Bool.false_ne_true
 have hlong:¬ Builtin.List.listTooLong (its.toArray.size * k.toNat) = true:=by
  rw [notLongL hlen]
  exact Bool.false_ne_true
 have hnew:List.foldl (fun x1 x2=>x1 ++ x2) #[] (List.replicate (if its.toArray.isEmpty = true then 0 else k.toNat) its.toArray) = (List.replicate k.toNat its).flatten.toArray:=by
  have f0:∀ m:Nat,List.foldl (fun x1 x2=>x1 ++ x2) #[] (List.replicate m its.toArray) = (List.replicate m its).flatten.toArray:=fun m=>by
   have:=foldl_rep its m []
   rw [List.nil_append] at this
   exact this
  rw [f0]
  cases its with
  | nil=>simp
  | cons a r'=>rw [if_neg (by simp)]
 refine wpAny_binaryOp_repeat_ref (T:="list") (U:="int") (by decide) ⟨_,e,rfl⟩ (fun s'=>typeIs_int s' k t) noFill_list_mul F.fills_int_mul F.slot_int_rmul repeat_list F.slot_int_index.lookup
  (call_meets F.slot_int_rmul (typeIs_int s k t) F.entry_int_rmul (F.args_int_rmul_2 _ _) (int___rmul___int_list k t l its.toArray n)
   ⟨e,rfl,⟨_,e,rfl⟩,call_meets F.slot_list_mul ⟨_,e,rfl⟩ F.entry_list_mul (F.args_list_mul_2 _ _) (AutoListH.list___mul___list_int_3 l its.toArray n k t hfit hcap hlong) ⟨e,?_⟩⟩)
 rw [hnew]
 exact ⟨.ref _,_,I.lnew (t':=s.toks) (r.rep k.toNat) (by rw [len_rep,Nat.mul_comm]; exact hz),rfl,q _ I.fresh⟩
end
section
variable {prog:Program} {w:World} {A:Around} {E:Value -> Shared -> Prop} {s:Shared}
end
section
variable {X:Cx}
end
end L2
namespace L2
open PySem PySem.Spec PyProof.Rows
section
variable {κ:Type} [DecidableEq κ]
def valV (kvs:List (κ × V)) (k:κ):Option V:=(kvs.find? fun kv=>decide (kv.1 = k)).map (·.2)
def putK (kvs:List (κ × V)) (k:κ) (v:V):List (κ × V) :=
 if (kvs.any fun kv=>decide (kv.1 = k)) = true then kvs.map (fun kv=>if kv.1 = k then (kv.1,v) else kv) else kvs ++ [(k,v)]
theorem valV_pos {p:κ × V} {r:List (κ × V)} {k:κ} (e:p.1 = k):valV (p :: r) k = some p.2:=by simp [valV,List.find?_cons,e]
theorem valV_neg {p:κ × V} {r:List (κ × V)} {k:κ} (e:¬ p.1 = k):valV (p :: r) k = valV r k:=by simp [valV,List.find?_cons,e]
theorem valV_any (k:κ):∀ kvs:List (κ × V),(kvs.any fun kv=>decide (kv.1 = k)) = (valV kvs k).isSome
 | []=>rfl
 | p :: r=>by
  rw [List.any_cons]
  by_cases e:p.1 = k
  ·simp only [valV_pos e,decide_eq_true e,Bool.true_or,Option.isSome_some]
  ·rw [valV_neg e,decide_eq_false e,Bool.false_or]; exact valV_any k r
theorem valV_map (k j:κ) (y:V):∀ kvs:List (κ × V),valV (kvs.map fun kv=>if kv.1 = k then (kv.1,y) else kv) j = (valV kvs j).map fun x=>if j = k then y else x
 | []=>rfl
 | p :: r=>by
  have ih:=valV_map k j y r
  rw [List.map_cons]
  by_cases h:p.1 = k
  ·rw [if_pos h]
   by_cases e:p.1 = j
   ·rw [valV_pos (p:=(p.1,y)) e,valV_pos e,Option.map_some,if_pos (e.symm.trans h)]
   ·rw [valV_neg (p:=(p.1,y)) e,valV_neg e,ih]
  ·rw [if_neg h]
   by_cases e:p.1 = j
   ·rw [valV_pos (p:=p) e,valV_pos e,Option.map_some,if_neg (fun z=>h (e.trans z))]
   ·rw [valV_neg (p:=p) e,valV_neg e,ih]
theorem valV_snoc (k j:κ) (y:V):∀ kvs:List (κ × V),valV kvs k = none -> valV (kvs ++ [(k,y)]) j = if j = k then some y else valV kvs j
 | [],_=>by
  by_cases e:k = j
  ·rw [if_pos e.symm]; exact valV_pos (p:=(k,y)) e
  ·rw [if_neg (fun z=>e z.symm)]; exact valV_neg (p:=(k,y)) e
 | p :: r,hn=>by
  rw [List.cons_append]
  have hk:¬ p.1 = k:=fun z=>by rw [valV_pos z] at hn; cases hn
  rw [valV_neg hk] at hn
  have ih:=valV_snoc k j y r hn
  by_cases e:p.1 = j
  ·rw [valV_pos e,valV_pos e,if_neg (fun z=>hk (e.trans z))]
  ·rw [valV_neg e,valV_neg e,ih]
theorem valV_put (kvs:List (κ × V)) (k j:κ) (y:V):valV (putK kvs k y) j = if j = k then some y else valV kvs j:=by
 unfold putK
 by_cases a:(kvs.any fun kv=>decide (kv.1 = k)) = true
 ·rw [if_pos a,valV_map]
  rw [valV_any] at a
  by_cases e:j = k
  ·obtain ⟨x,hx⟩:=Option.isSome_iff_exists.mp a
   rw [if_pos e,e,hx,Option.map_some,if_pos rfl]
  ·rw [if_neg e]
   cases valV kvs j with
   | none=>rfl
   | some x=>rw [Option.map_some,if_neg e]
 ·rw [if_neg a]
  refine valV_snoc k j y kvs ?_
  rw [valV_any] at a
  cases q:valV kvs k with
  | none=>rfl
  | some x=>rw [q] at a; exact (a rfl).elim
theorem length_putK (kvs:List (κ × V)) (k:κ) (v:V):(putK kvs k v).length <= kvs.length + 1:=by
 unfold putK
 split
 ·rw [List.length_map]; omega
 ·rw [List.length_append,List.length_cons,List.length_nil]; omega
theorem RelO.isSome_eq {o:Option V} {u:Option Value} (r:RelO o u):o.isSome = u.isSome:=by
 cases o with
 | none=>cases u with
  | none=>rfl
  | some _=>exact (show False from r).elim
 | some _=>cases u with
  | none=>exact (show False from r).elim
  | some _=>rfl
theorem RelO.getD {o:Option V} {u:Option Value} {d:V} {d':Value} (r:RelO o u) (rd:RelV d d'):RelV (o.getD d) (u.getD d'):=by
 cases o with
 | none=>cases u with
  | none=>exact rd
  | some _=>exact (show False from r).elim
 | some _=>cases u with
  | none=>exact (show False from r).elim
  | some _=>exact r
theorem KV.val {kvs:List (κ × V)} {vs:List (κ × Value)} (r:KV kvs vs) (k:κ):RelO (valV kvs k) (valueAt vs k):=by
 unfold KV at r
 induction r with
 | nil=>exact True.intro
 | @cons p q ps qs h t ih =>
  obtain ⟨h1,h2⟩:=h
  by_cases e:p.1 = k
  ·have e':q.1 = k:=h1.symm.trans e
   have b:valueAt (q :: qs) k = some q.2:=by simp [valueAt,List.find?_cons,e']
   rw [valV_pos e,b]; exact h2
  ·have e':¬ q.1 = k:=fun z=>e (h1.trans z)
   have b:valueAt (q :: qs) k = valueAt qs k:=by simp [valueAt,List.find?_cons,e']
   rw [valV_neg e,b]; exact ih
theorem KV.any {kvs:List (κ × V)} {vs:List (κ × Value)} (r:KV kvs vs) (k:κ):(kvs.any fun kv=>decide (kv.1 = k)) = vs.any fun kv=>decide (kv.1 = k):=by
 unfold KV at r
 induction r with
 | nil=>rfl
 | cons h t ih=>rw [List.any_cons,List.any_cons,ih,h.1]
theorem KV.repl {kvs:List (κ × V)} {vs:List (κ × Value)} (r:KV kvs vs) (k:κ) {y:V} {u:Value} (ry:RelV y u) :
  KV (kvs.map fun kv=>if kv.1 = k then (kv.1,y) else kv) (vs.map fun kv=>if kv.1 = k then (kv.1,u) else kv):=by
 unfold KV at r ⊢
 induction r with
 | nil=>exact .nil
 | @cons p q ps qs h t ih =>
  rw [List.map_cons,List.map_cons]
  refine .cons ?_ ih
  obtain ⟨h1,h2⟩:=h
  by_cases e:p.1 = k
  ·rw [if_pos e,if_pos (h1.symm.trans e)]; exact ⟨h1,ry⟩
  ·rw [if_neg e,if_neg (fun z=>e (h1.trans z))]; exact ⟨h1,h2⟩
theorem KV.put {kvs:List (κ × V)} {vs:List (κ × Value)} (r:KV kvs vs) (k:κ) {y:V} {u:Value} (ry:RelV y u):KV (putK kvs k y) (stored vs k u):=by
 unfold putK stored
 rw [r.any k]
 by_cases e:(vs.any fun kv=>decide (kv.1 = k)) = true
 ·rw [if_pos e,if_pos e]; exact r.repl k ry
 ·rw [if_neg e,if_neg e]; exact Paired.snoc r ⟨rfl,ry⟩
theorem KV.length {kvs:List (κ × V)} {vs:List (κ × Value)} (r:KV kvs vs):kvs.length = vs.length:=Paired.length r
end
theorem kV_is {P:Program} {w:World} {k:Key} {u:Value} (r:RelV (kV k) u):(mixKind P w).is k u = true:=by
 cases k with
 | inl i=>obtain ⟨t,e⟩:=(show ∃ t,u = Value.int i t from r); subst e; exact mixKind_int P w i t
 | inr x=>obtain ⟨t,e⟩:=(show ∃ t,u = Value.str x t from r); subst e; exact mixKind_str P w x t
theorem items_are {P:Program} {w:World}:∀ {ks:List Key} {us:List Value},Vals (ks.map kV) us -> ItemsAre (mixKind P w) ks us
 | [],_,r=>by rw [List.map_nil] at r; cases r; exact .nil
 | k :: ks,_,r=>by
  rw [List.map_cons] at r
  cases r with
  | cons h t=>exact .cons (kV_is h) (items_are t)
abbrev KT (H:Hp):List (List Key × V) -> List (List Key × Addr × Value) -> Prop:=Paired fun p q=>p.1 = q.1 /\ H q.2.1 = some (.tup (p.1.map kV)) /\ RelV p.2 q.2.2
theorem KT.val {H:Hp} {kvs:List (List Key × V)} {xs:List (List Key × Addr × Value)} (r:KT H kvs xs) (k:List Key):RelO (valV kvs k) ((atKey xs k).map (·.2)):=by
 induction r with
 | nil=>exact True.intro
 | @cons p q ps qs h t ih =>
  obtain ⟨h1,_,h2⟩:=h
  by_cases e:p.1 = k
  ·have e':q.1 = k:=h1.symm.trans e
   have b:atKey (q :: qs) k = some q.2:=by simp [atKey,List.find?_cons,e']
   rw [valV_pos e,b]; exact h2
  ·have e':¬ q.1 = k:=fun z=>e (h1.trans z)
   have b:atKey (q :: qs) k = atKey qs k:=by simp [atKey,List.find?_cons,e']
   rw [valV_neg e,b]; exact ih
theorem KT.repl {H:Hp} {kvs:List (List Key × V)} {xs:List (List Key × Addr × Value)} (r:KT H kvs xs) (k:List Key) {y:V} {u:Value} (ry:RelV y u) :
  KT H (kvs.map fun kv=>if kv.1 = k then (kv.1,y) else kv) (xs.map (putAt k u)):=by
 induction r with
 | nil=>exact .nil
 | @cons p q ps qs h t ih =>
  rw [List.map_cons,List.map_cons]
  refine .cons ?_ ih
  obtain ⟨h1,h2,h3⟩:=h
  unfold putAt
  by_cases e:p.1 = k
  ·rw [if_pos e,if_pos (h1.symm.trans e)]; exact ⟨h1,h2,ry⟩
  ·rw [if_neg e,if_neg (fun z=>e (h1.trans z))]; exact ⟨h1,h2,h3⟩
theorem KT.put {H:Hp} {kvs:List (List Key × V)} {xs:List (List Key × Addr × Value)} (r:KT H kvs xs) (k:List Key) {b:Addr} {y:V} {u:Value} (hb:H b = some (.tup (k.map kV))) (ry:RelV y u) :
  KT H (putK kvs k y) (storedH xs k b u):=by
 have e:(kvs.any fun kv=>decide (kv.1 = k)) = (atKey xs k).isSome:=by
  rw [valV_any,(r.val k).isSome_eq,Option.isSome_map]
 unfold putK storedH
 rw [e]
 by_cases q:(atKey xs k).isSome = true
 ·rw [if_pos q,if_pos q]; exact r.repl k ry
 ·rw [if_neg q,if_neg q]; exact Paired.snoc r ⟨rfl,hb,ry⟩
theorem KT.keeps {H H':Hp} {kvs:List (List Key × V)} {xs:List (List Key × Addr × Value)} (r:KT H kvs xs) (ht:∀ b ys,H b = some (.tup ys) -> H' b = some (.tup ys)):KT H' kvs xs :=
 Paired.mapP r fun _ _ z=>⟨z.1,ht _ _ z.2.1,z.2.2⟩
section
variable {P:Program} {w:World} {H:Hp} {h:Heap} {a:Addr}
theorem rd_of {u:HO} (ok:HOk P w H h) (e:Rd H a u):ObjOk P w H h a u:=e.ok ok
theorem dk_rd {kvs:List (Key × V)} (ok:HOk P w H h) (e:Rd H a (.dK kvs)):kvs.length <= sizeLine /\ (a == sysModules) = false /\ ∃ vs,KV kvs vs /\ h.DictOf (mixKind P w) a vs :=
 show ObjOk P w H h a (.dK kvs) from rd_of ok e
theorem dk_of {kvs:List (Key × V)} (ok:HOk P w H h) (e:H a = some (.dK kvs)):kvs.length <= sizeLine /\ (a == sysModules) = false /\ ∃ vs,KV kvs vs /\ h.DictOf (mixKind P w) a vs:=dk_rd ok (.inl e)
theorem key_of {ks:List Key} (ok:HOk P w H h) (e:H a = some (.tup (ks.map kV))):(tupleKind (mixKind P w)).is h ks a:=by
 obtain ⟨_,its,r,o,h1,h2,n,h3⟩:=(show ObjOk P w H h a (.tup (ks.map kV)) from ok a _ e)
 exact ⟨o,its.toArray,n,h1,h2,h3,by simpa using items_are r⟩
theorem dt_rd {kvs:List (List Key × V)} (ok:HOk P w H h) (e:Rd H a (.dT kvs)):kvs.length <= sizeLine /\ (a == sysModules) = false /\
  ∃ xs,KT H kvs xs /\ h.DictOfH (tupleKind (mixKind P w)) a xs:=by
 obtain ⟨z,y,xs,r,o,es,ep,h1,h2,h3,h4,h5⟩:=(show ObjOk P w H h a (.dT kvs) from rd_of ok e)
 refine ⟨z,y,xs,r,o,es,ep,h1,h2,h3,h4,fun x hx=>?_,h5⟩
 have all:∀ {l:List (List Key × V)} {m:List (List Key × Addr × Value)},KT H l m -> ∀ x ∈ m,(tupleKind (mixKind P w)).is h x.1 x.2.1:=by
  intro l m q
  induction q with
  | nil=>intro x hx; exact nomatch hx
  | @cons p q ps qs hq t ih =>
   intro x hx
   rcases List.mem_cons.mp hx with e | hx
   ·subst e
    exact key_of ok (by rw [← hq.1]; exact hq.2.1)
   ·exact ih x hx
 exact all r x hx
theorem dt_of {kvs:List (List Key × V)} (ok:HOk P w H h) (e:H a = some (.dT kvs)):kvs.length <= sizeLine /\ (a == sysModules) = false /\
  ∃ xs,KT H kvs xs /\ h.DictOfH (tupleKind (mixKind P w)) a xs:=dt_rd ok (.inl e)
end
def DGet (H:Hp) (a:Addr) (y:V) (r:Option V):Prop :=
 (∃ kvs k,Rd H a (.dK kvs) /\ y = kV k /\ r = valV kvs k) ∨ ∃ kvs k b,Rd H a (.dT kvs) /\ y = .ref b /\ H b = some (.tup (k.map kV)) /\ r = valV kvs k
def DPut (H:Hp) (a:Addr) (y v:V) (H':Hp):Prop :=
 (∃ kvs k,H a = some (.dK kvs) /\ y = kV k /\ kvs.length < sizeLine /\ H' = upd H a (.dK (putK kvs k v))) ∨
 ∃ kvs k b,H a = some (.dT kvs) /\ y = .ref b /\ H b = some (.tup (k.map kV)) /\ kvs.length < sizeLine /\ H' = upd H a (.dT (putK kvs k v))
theorem DGet.t {H:Hp} {a b:Addr} {kvs:List (List Key × V)} {k:List Key} (e:H a = some (.dT kvs)) (eb:H b = some (.tup (k.map kV))):DGet H a (.ref b) (valV kvs k):=.inr ⟨kvs,k,b,.inl e,rfl,eb,rfl⟩
theorem DPut.t {H:Hp} {a b:Addr} {kvs:List (List Key × V)} {k:List Key} {v:V} (e:H a = some (.dT kvs)) (eb:H b = some (.tup (k.map kV))) (hl:kvs.length < sizeLine) :
  DPut H a (.ref b) v (upd H a (.dT (putK kvs k v))):=.inr ⟨kvs,k,b,e,rfl,eb,hl,rfl⟩
section
variable {X:Cx} {pins:List (Addr × Obj)} {σ:St} {H:Hp} {s:Shared} {a:Addr} {y v:V} {u r:Value} {o:Option V} {A:Around} {E:Value -> Shared -> Prop}
theorem Inv.big (I:Inv X pins σ H s):sysModules < s.heap.objs.size:=by
 have h:mainGlobals < s.heap.objs.size:=(I.mod.glob.keeps I.bk).lt
 exact Nat.lt_trans (by decide) h
theorem d_getItem {Q:Value -> Shared -> Prop} (hu:A.units + 1 < cLine) (I:Inv X pins σ H s) (g:DGet H a y (some v)) (ry:RelV y u) (h:∀ w' s',Inv X pins σ H s' -> RelV v w' -> Q w' s') :
  wpAny (model X.prog X.w) A (getItem (.ref a) u) Q E s:=by
 rcases g with ⟨kvs,k,e,ey,l⟩ | ⟨kvs,k,b,e,ey,eb,l⟩
 ·subst ey
  obtain ⟨z,hd,vs,rel,dd⟩:=dk_rd I.hok e
  obtain ⟨w',hw,rw'⟩:=RelO.some_of (v:=v) (o:=valueAt vs k) (by rw [l]; exact rel.val k)
  exact wpAny_getItem_of (kV_is ry) dd.mapOf hw (h w' _ (I.tok _) rw')
 ·subst ey
  cases (show u = Value.ref b from ry)
  obtain ⟨z,hd,xs,rel,dd⟩:=dt_rd I.hok e
  obtain ⟨w',hw,rw'⟩:=RelO.some_of (v:=v) (o:=(atKey xs k).map (·.2)) (by rw [l]; exact rel.val k)
  obtain ⟨p,hp,hp2⟩:=Option.map_eq_some_iff.mp hw
  refine wpAny_getItem_heap (tupleKind_room_in1 hu) (key_of I.hok eb) dd hp ?_
  rw [hp2]
  exact h w' _ (I.tok _) rw'
theorem d_write {h':Heap} {t':Nat} {ob:HO} (I:Inv X pins σ H s) (mu:Mut (H a)) (hs:Heap.SameBut a s.heap h') (he:∃ q,h'.get? a = some q) (new:ObjOk X.prog X.w (upd H a ob) h' a ob) :
  Inv X pins σ (upd H a ob) { s with heap:=h',toks:=t' } :=
 I.write (x:=a) (e:=a) mu (.inl rfl) (fun b q hb z=>(hs.2 b hb).trans z) he new
theorem dk_new {P:Program} {w:World} {H':Hp} {h':Heap} {kvs:List (Key × V)} {vs:List (Key × Value)} (z:kvs.length <= sizeLine) (hd:(a == sysModules) = false) (rel:KV kvs vs) (dd:h'.DictOf (mixKind P w) a vs) :
  ObjOk P w H' h' a (.dK kvs):=⟨z,hd,vs,rel,dd⟩
theorem d_setItem {H':Hp} {Q:Unit -> Shared -> Prop} (hu:A.units + 1 < cLine) (I:Inv X pins σ H s) (g:DPut H a y v H') (ry:RelV y u) (rv:RelV v r) (h:∀ s',Inv X pins σ H' s' -> Q () s') :
  wpAny (model X.prog X.w) A (setItem (.ref a) u r) Q E s:=by
 rcases g with ⟨kvs,k,e,ey,l,eH⟩ | ⟨kvs,k,b,e,ey,eb,l,eH⟩
 ·subst ey eH
  obtain ⟨z,hd,vs,rel,dd⟩:=dk_of I.hok e
  have hz:vs.length <= sizeLine:=by rw [← rel.length]; exact z
  have hl:(putK kvs k v).length <= sizeLine:=by have:=length_putK kvs k v; omega
  refine wpAny_setItem_pairs (hsz:=hz) (kV_is ry) dd fun h' dd' hs=>h _ ?_
  have he:∃ q,h'.get? a = some q:=let ⟨q,_,_,hq,_⟩:=dd'; ⟨q,hq⟩
  exact d_write I (by rw [e]; exact True.intro) hs he (dk_new hl hd (rel.put k rv) dd')
 ·subst ey eH
  cases (show u = Value.ref b from ry)
  obtain ⟨z,hd,xs,rel,dd⟩:=dt_of I.hok e
  have hz:xs.length <= sizeLine:=by rw [← Paired.length rel]; exact z
  have hl:(putK kvs k v).length <= sizeLine:=by have:=length_putK kvs k v; omega
  refine wpAny_setItem_heap (hsz:=hz) (tupleKind_room_in1 hu) (key_of I.hok eb) dd fun h' dd' hs=>h _ ?_
  obtain ⟨q,es,ep,hq,h2,h3,h4,_,h5⟩:=dd'
  refine d_write I (by rw [e]; exact True.intro) hs ⟨q,hq⟩ ⟨hl,hd,_,(rel.put k eb rv).keeps fun c ys ec=>?_,q,es,ep,hq,h2,h3,h4,h5⟩
  rw [upd_ne (ne_of ec e (fun z=>nomatch z))]
  exact ec
end
section
variable {X:Cx} {pins:List (Addr × Obj)} {σ:St} {H:Hp} {s:Shared} {a:Addr} {kvs:List (Key × V)} {k:Key} {u:Value} {A:Around} {E:Value -> Shared -> Prop}
end
def NoSl (i:Expr):Prop:=∀ ov iv,subscripted i false ov iv = operate [ov,iv] (getItem ov iv)
theorem subD_of {prog:Program} {w:World} {A:Around} {E:Value -> Shared -> Prop} {s:Shared} {env:Env} {value slice:Expr} {pos:Pos} {T id:String} {Q:Value -> Shared -> Prop}
  (hl:typeLookup (.type T) "__getitem__" = pure (some (.builtin id))) (hs:NoSl slice)
  (h:wpAny (model prog w) A (eval value env) (fun o s₁=>wpAny (model prog w) A (eval slice env) (fun i s₂=>s₂.TypeIs o T /\ wpAny (model prog w) A (getItem o i) Q E s₂) E s₁) E s) :
  wpAny (model prog w) A (eval (.Subscript value slice pos) env) Q E s:=by
 refine Subscript_ (wpAny_mono h (fun o s₁ h₁=>wpAny_mono h₁ (fun i s₂ h₂=>?_) fun _ _ x=>x) fun _ _ x=>x)
 obtain ⟨hT,h₂⟩:=h₂
 unfold subscriptTail
 refine wpAny_bind ?_
 rw [getitemInPython_of_ne hT.not_modules]
 refine wpAny_bind (wpAny_specialOf hT hl ?_)
 have fin:wpAny (model prog w) A (subscripted slice false o i) (fun r s₃=>wpAny (model prog w) A (letTemporaryGo value o r >>= fun _=>pure r) Q E s₃) E s₂:=by
  rw [hs o i]
  exact wpAny_operating (wpAny_mono h₂ (fun r s₃ h₃=>wpAny_bind (wpAny_letTemporaryGo (wpAny_pure h₃))) fun _ _ x=>x)
 first
  | exact wpAny_pure (wpAny_bind fin)
  | exact wpAny_bind (wpAny_pure (wpAny_bind fin))
  | exact wpAny_bind fin
theorem dict_typeIs {X:Cx} {pins:List (Addr × Obj)} {σ:St} {H:Hp} {s:Shared} {a:Addr} {y:V} {o:Option V} (I:Inv X pins σ H s) (g:DGet H a y o):s.TypeIs (.ref a) "dict":=by
 rcases g with ⟨kvs,k,e,_,_⟩ | ⟨kvs,k,b,e,_,_,_⟩
 ·obtain ⟨_,_,vs,_,dd⟩:=dk_rd I.hok e
  exact dd.typeIs
 ·obtain ⟨_,_,xs,_,dd⟩:=dt_rd I.hok e
  exact dd.typeIs
def tDGet (td ty:TE):TE:=fun σ H Q=>td σ H fun x H1=>ty σ H1 fun y H2=>∃ a v,x = .ref a /\ DGet H2 a y (some v) /\ Q v H2
def sDPut (td ty tv:TE):TS:=fun D σ H=>tv σ H fun v H1=>td σ H1 fun x H2=>ty σ H2 fun y H3=>∃ a H4,x = .ref a /\ DPut H3 a y v H4 /\ D.nx σ H4
section
variable {X:Cx} {o i e value:Expr} {pos pos' tpos:Pos} {td ty tv:TE}
theorem pe_dget (hu:X.A.units + 1 < cLine) (ho:PE X o td) (hi:PE X i ty) (hs:NoSl i):PE X (.Subscript o i pos) (tDGet td ty):=by
 intro pins s σ H Q I h
 refine subD_of PySem.F.slot_dict_getitem.lookup hs (thn (ho pins s σ H _ I h) fun u s1 ⟨x,H1,I1,rx,q1⟩=>thn (hi pins s1 σ H1 _ I1 q1) fun iv s2 ⟨y,H2,I2,ry,a,v,ex,g,q2⟩=>?_)
 subst ex
 obtain rfl:u = Value.ref a:=rx
 exact ⟨dict_typeIs I2 g,d_getItem hu I2 g ry fun w' s3 I3 rw'=>⟨v,H2,I3,rw',q2⟩⟩
theorem ps_dput (hu:X.A.units + 1 < cLine) (ho:PE X o td) (hi:PE X i ty) (hv:PE X value tv) (hs:swapsWith value (some (.Subscript o i pos')) pos.line X.env = pure false) :
  PS X (.Assign [.Subscript o i pos'] value pos) (sDPut td ty tv):=by
 intro pins s σ H D I h
 refine wpAny_Assign_Subscript (thn (hv pins s σ H _ I h) fun r s1 ⟨v,H1,I1,rv,q1⟩=>thn (ho pins s1 σ H1 _ I1 q1) fun u s2 ⟨x,H2,I2,rx,q2⟩=>thn (hi pins s2 σ H2 _ I2 q2) fun iv s3 ⟨y,H3,I3,ry,a,H4,ex,g,q3⟩=>?_) hs
 subst ex
 obtain rfl:u = Value.ref a:=rx
 exact d_setItem hu I3 g ry rv fun s4 I4=>⟨σ,H4,I4,q3⟩
end
theorem dt_empty {P:Program} {w:World} {H:Hp} (h:Heap) (hb:sysModules < h.objs.size):ObjOk P w H (h.push { cls:=.type "dict",data:=.dict #[] }) h.objs.size (.dT []) :=
 ⟨Nat.zero_le _,beq_eq_false_iff_ne.mpr (Ne.symm (Nat.ne_of_lt hb)),[],.nil,_,#[],0,Heap.get?_push_size _ rfl,⟨rfl,rfl,rfl⟩,rfl,rfl,List.nodup_nil⟩
def tDNewT:TE:=fun _ H Q=>∀ p,H p = none -> Q (.ref p) (upd H p (.dT []))
section
variable {X:Cx} {pos:Pos}
theorem pe_dnewT:PE X (.Dict [] [] pos) tDNewT:=fun pins s σ H Q I h =>
 wpAny_Dict_empty ⟨.ref s.heap.objs.size,_,I.laid (a:=s.heap.objs.size) (o:=.dT []) (t':=s.toks) (fun _ _ q=>Heap.get?_push_of_some _ q) (Nat.le_refl _) (dt_empty s.heap I.big),rfl,h _ (I.hok.fresh (Nat.le_refl _))⟩
end
structure M2 (X:Cx) (o:Expr) (m:Str) (apos:Pos) (e f:Expr) (cpos:Pos):Prop where
 base:attributeBase o m X.env (eval o X.env) = eval o X.env
 few:((backTo cpos (starEach [e,f] X.env)).all (fun x=>!x.1) && (backToKw cpos (keywordEach [] X.env)).all (fun x=>x.1.isSome)
  && decide (([e,f]:List Expr).length + ([]:List Keyword).length + (if ([]:List Keyword).isEmpty then 0 else 1) < 30)) = true
 line:(apos.endLine == cpos.line) = true
 trees:backTo cpos (starEach [e,f] X.env) = [(false,eval e X.env),(false,eval f X.env)]
def IsD (H:Hp) (a:Addr):Prop:=(∃ kvs,Rd H a (.dK kvs)) ∨ ∃ kvs,Rd H a (.dT kvs)
theorem isD_at {X:Cx} {pins:List (Addr × Obj)} {σ:St} {H:Hp} {s:Shared} {a:Addr} (I:Inv X pins σ H s) (d:IsD H a) :
  s.TypeIs (.ref a) "dict" /\ (∀ b,Value.ref a = .ref b -> ∃ ob,s.heap.get? b = some ob /\ ob.dict = none) /\ (a == sysModules) = false:=by
 rcases d with ⟨kvs,e⟩ | ⟨kvs,e⟩
 ·obtain ⟨_,hd,vs,_,dd⟩:=dk_rd I.hok e
  refine ⟨dd.typeIs,fun b q=>?_,hd⟩
  cases q
  obtain ⟨ob,_,_,h1,h2,_⟩:=dd
  exact ⟨ob,h1,h2.2.1⟩
 ·obtain ⟨_,hd,xs,_,dd⟩:=dt_rd I.hok e
  refine ⟨dd.typeIs,fun b q=>?_,hd⟩
  cases q
  obtain ⟨ob,_,_,h1,h2,_⟩:=dd
  exact ⟨ob,h1,h2.2.1⟩
section
variable {X:Cx} {pins:List (Addr × Obj)} {σ:St} {H:Hp} {s:Shared} {a:Addr} {y d:V} {u r:Value} {o:Option V} {A:Around} {E:Value -> Shared -> Prop}
theorem d_get2 {Q:Value -> Shared -> Prop} (hu:A.units + 1 < cLine) (I:Inv X pins σ H s) (g:DGet H a y o) (ry:RelV y u) (rd:RelV d r) (h:∀ w' s',Inv X pins σ H s' -> RelV (o.getD d) w' -> Q w' s') :
  wpAny (model X.prog X.w) A (call (.builtin "dict.get") [.ref a,u,r]) Q E s:=by
 rcases g with ⟨kvs,k,e,ey,l⟩ | ⟨kvs,k,b,e,ey,eb,l⟩
 ·subst ey
  obtain ⟨z,hd,vs,rel,dd⟩:=dk_rd I.hok e
  refine call_meetsIn PySem.F.slot_dict_get dd.typeIs PySem.F.entry_dict_get (PySem.F.args_dict_get_3 _ _ _) (meets_dict_get_default (mixKind X.prog X.w) a (kV_is ry) hd r) ⟨_,dd.mapOf,h _ _ (I.tok _) ?_⟩
  rw [l]
  exact (rel.val k).getD rd
 ·subst ey
  cases (show u = Value.ref b from ry)
  obtain ⟨z,hd,xs,rel,dd⟩:=dt_rd I.hok e
  refine call_meetsIn PySem.F.slot_dict_get dd.typeIs PySem.F.entry_dict_get (PySem.F.args_dict_get_3 _ _ _) (meetsH_dict_get_default (tupleKind (mixKind X.prog X.w)) a b hd r) ⟨tupleKind_room_in1 hu,k,xs,key_of I.hok eb,dd,h _ _ (I.tok _) ?_⟩
  rw [l]
  exact (rel.val k).getD rd
end
def tDGet2 (td ty tx:TE):TE:=fun σ H Q=>td σ H fun x H1=>∃ a,x = .ref a /\ IsD H1 a /\ ty σ H1 fun y H2=>tx σ H2 fun z H3=>∃ o,DGet H3 a y o /\ Q (o.getD z) H3
section
variable {X:Cx} {o e f:Expr} {apos cpos:Pos} {td ty tx:TE}
theorem pe_dget2 (hu:X.A.units + 1 < cLine) (ho:PE X o td) (he:PE X e ty) (hf:PE X f tx) (m:M2 X o "get" apos e f cpos):PE X (.Call (.Attribute o "get" apos) [e,f] [] cpos) (tDGet2 td ty tx):=by
 intro pins s σ H Q I h
 refine wpAny_Call_method m.base m.few m.line PySem.F.plainAttrs_dict PySem.F.slot_dict_get PySem.F.type_dict_get (thn (ho pins s σ H _ I h) fun u s1 ⟨x,H1,I1,rx,a,ex,d,q1⟩=>?_)
 subst ex
 obtain rfl:u = Value.ref a:=rx
 obtain ⟨t1,t2,_⟩:=isD_at I1 d
 refine ⟨t1,t2,?_⟩
 rw [m.trees]
 refine Calls.callWith_builtin rfl (Calls.evalArgs_plain (Calls.spliced_cons (thn (he pins s1 σ H1 _ I1 q1) fun iv s2 ⟨y,H2,I2,ry,q2⟩ =>
  Calls.spliced_cons (thn (hf pins s2 σ H2 _ I2 q2) fun fv s3 ⟨z,H3,I3,rz,ov,g,q3⟩=>Calls.spliced_nil ?_))))
 exact d_get2 hu I3 g ry rz fun w' s4 I4 rw'=>⟨_,H3,I4,rw',q3⟩
end
section
variable {X:Cx} {pins:List (Addr × Obj)} {σ:St} {H:Hp} {s:Shared} {a:Addr} {kvs:List (Key × V)} {A:Around} {E:Value -> Shared -> Prop}
end
section
variable {X:Cx} {pins:List (Addr × Obj)} {σ:St} {H:Hp} {s:Shared} {a:Addr} {y:V} {u:Value} {A:Around} {E:Value -> Shared -> Prop}
end
end L2
namespace Att
open PySem PySem.W PySem.Calls PyProof.Rows
theorem ints_of_wellAll {P:Params} {h:Heap}:∀ (ns:List Int) (vs:List Value),WellAll P h vs (ns.map WData.int) -> IntsAre vs ns:=by
 intro ns
 induction ns with
 | nil =>
  intro vs w
  rw [List.map_nil] at w
  cases w
  exact .nil
 | cons n ns ih =>
  intro vs w
  rw [List.map_cons] at w
  cases w with
  | cons a b =>
   cases a
   exact .cons _ _ (ih _ b)
theorem script_of {l:OpenLaw} {n:Nat} (hn:l.most = some n) {P:Params} {h:Heap} {args:List WData} {vals:List Value}
  (hpre:l.row.toRowW.claim.pre args = true) (hwl:WellAll P h vals args) :
  ∃ a vs ns,vals = [Value.ref a] /\ args = [WData.list (ns.map WData.int)] /\ h.get? a = some { cls:=.type "list",data:=.seq vs.toArray } /\ IntsAre vs ns /\ ns.length <= n:=by
 have hsh:WShape.hasAll [] args [.list .int] = true:=(pre_splitW hpre).1
 have hc:l.pre.holds [] { args:=args } = true:=(pre_splitW hpre).2
 obtain ⟨d,r,rfl,h1,h2⟩:=hasAllW_cons hsh
 obtain rfl:=hasAllW_nil h2
 obtain ⟨xs,rfl,h3⟩:=hasW_list h1
 obtain ⟨ns,rfl⟩:=items_int h3
 have hlen:ns.length <= n:=by
  unfold OpenLaw.pre at hc
  have h4:(WTm.not (.lt (.lit (.int (n:Int))) (.len (.arg 0)))).holds [] { args:=[.list (ns.map .int)] } = true:=by
   have h4:=(holds_andW hc).1
   rw [hn] at h4
   exact h4
  have h5:=condW_of h4 (w_not (w_lt w_lit (w_len_list (w_arg rfl))))
  rw [List.length_map] at h5
  refine Nat.le_of_not_lt fun q=>?_
  have q':(n:Int) < ((ns.length:Nat):Int):=by omega
  first
   | (rw [decide_eq_true q'] at h5; exact absurd h5 (by decide))
   | (simp at h5; omega)
 cases hwl with
 | cons w1 w2 =>
  cases w2
  cases w1 with
  | list ho hall=>exact ⟨_,_,ns,rfl,rfl,ho,ints_of_wellAll ns _ hall,hlen⟩
theorem post_true (l:OpenLaw) (args:List WData):l.row.toRowW.claim.post args (.bool true) args = true :=
 postW_of (r:=l.row.toRowW) (X:=(true == true))
  (show WShape.has [] (.bool true) .bool = true by first | rfl | decide | simp [WShape.has,WShape.arms,WShape.armsAll])
  (show (WTm.eq .res (.lit (.bool true))).value [] { args:=args,res:=some (.bool true),after:=args } = some (.bool (true == true)) from w_eq_bool (w_res rfl) w_lit) rfl
theorem attach_call {l:OpenLaw} {n:Nat} {q:Program} {loose:List Str} {XP:(Str -> Option Value) -> Heap -> Prop} {YP:World -> Heap -> Prop} {d:DefRec}
  (hn:l.most = some n) (hdf:d.params.defaults = [])
  (call:∀ (w:World) (s₀ s₁:Shared) (mg mb:Str -> Option Value) (fa:Addr) (o:Obj) (pm cd doc:Value) (a:Addr) (vs:List Value) (ns:List Int),
   Ground q loose [] XP w s₀ mg mb s₁.heap -> YP w s₁.heap ->
   s₁.heap.get? fa = some o -> o.data = .func (docDef d.name d.params d.body d.scope pm cd doc) -> s₁.heap.CodeRec cd d.name -> mg d.name = some (.ref fa) ->
   s₁.heap.get? a = some { cls:=.type "list",data:=.seq vs.toArray } -> IntsAre vs ns -> ns.length <= n -> s₁.gens = #[] ->
   codeAny (model l.prog w) callerA (.call (.ref fa) ⟨[.ref a],[]⟩) (fun r s'=>r = .ok (.ret (.bool true)) /\ OldK s₁.heap s'.heap /\ s'.os = s₁.os /\ AllBare s'.gens) s₁) :
  WalkO q loose XP YP l.row.toRowW d [] (fun f vs=>PySem.call f vs):=by
 intro w s₀ s₁ mg mb G Y fa o pm cd doc dV kV ho hd hcd hD hmg hg args vals as hpre hlay hrd hwl hlo
 obtain rfl:dV = .none:=Dflts.none hD hdf
 obtain rfl:kV = .none:=Dflts.noKw hD
 obtain ⟨a,vs,ns,rfl,rfl,hobj,hints,hlen⟩:=script_of hn hpre hwl
 refine enter_call (codeAny_mono (call w s₀ s₁ mg mb fa o pm cd doc a vs ns G Y ho (fd_plain hd) hcd hmg hobj hints hlen hg) fun r s' hq=>?_)
 obtain ⟨rfl,h2,h3,h4⟩:=hq
 exact ⟨.inl ⟨.bool true,.bool true,[],rfl,fun _=>rfl,.bool true,post_true l _,fun _=>⟨List.Pairwise.nil,fun _ hm=>(nomatch hm)⟩⟩,h2,h3,h4⟩
section
variable {prog:Program} {w:World} {A:Around} {E:Value -> Shared -> Prop} {s:Shared} {K:Frag}
end
end Att
namespace L2
open PySem PySem.Spec PyProof.Rows
theorem vals_ints:∀ {vs:List Value} {ns:List Int},IntsAre vs ns -> Vals (ns.map V.int) vs
 | _,_,.nil=>.nil
 | _,_,.cons n t h=>.cons ⟨t,rfl⟩ (vals_ints h)
def Only (H:Hp):Prop:=∀ b,H b = none ∨ ∃ o xs,H b = some (.frz o (.lst xs))
theorem law_call {P:Program} {w:World} {K:PySem.W.Frag} {mg mb:Str -> Option Value} {CX:CXT} {k:Nat} {fa a:Addr} {fd:FuncData} {x:Str} {sp:Sp} {s₁:Shared} {vs:List Value} {ns:List Int}
  (KX:K.In s₁.heap) (hns:s₁.heap.Ns mainGlobals mg) (hb:s₁.heap.Ns builtinsNs mb) (hbb:∀ x:Str,x ≠ "__name__" -> mb x = bootBuiltins x) (hlim:s₁.heap.NoLimit) (hg:s₁.gens = #[])
  (ha:s₁.heap.get? a = some { cls:=.type "list",data:=.seq vs.toArray }) (hi:IntsAre vs ns) (hl:ns.length <= sizeLine) (hr:Room k callerA)
  (F:∀ base:Heap,K.In base -> base.Ns mainGlobals mg -> FnOk P w K mg base CX k fa fd [x] sp) (hbind:∀ (s:Shared) (u:Value),BindsTo s fd ⟨[u],[]⟩ [(x,u)])
  (hsp:∀ H:Hp,Only H -> SqL K H a (ns.map V.int) -> sp [.ref a] H (fun v _=>v = .bl true) fun _ _ _=>False)
  (hCX:∀ H e s',CX [] H s₁ (fun _ _ _=>False) e s' -> False) :
  codeAny (model P w) callerA (.call (.ref fa) ⟨[.ref a],[]⟩) (fun r s'=>r = .ok (.ret (.bool true)) /\ OldK s₁.heap s'.heap /\ s'.os = s₁.os /\ AllBare s'.gens) s₁:=by
 have rv:=vals_ints hi
 have lenV:=hi.length
 -- from an abstract heap in which nothing but the script may be tracked
 have core:∀ H:Hp,Only H -> SqL K H a (ns.map V.int) -> HOk P w H s₁.heap -> (∀ b,H b ≠ none -> b = a) -> (H a ≠ none -> K.lookup a = none) ->
   codeAny (model P w) callerA (.call (.ref fa) ⟨[.ref a],[]⟩) (fun r s'=>r = .ok (.ret (.bool true)) /\ OldK s₁.heap s'.heap /\ s'.os = s₁.os /\ AllBare s'.gens) s₁:=by
  intro H hO hS hok hA hK
  have base_of:∀ {b:Addr} {o:Obj},s₁.heap.get? b = some o -> H b = none -> (hidT s₁.heap H).get? b = some o:=fun e n=>hidT_get e n
  have noA:∀ {b:Addr} {o:Obj} {es:Array DictEntry} {ep:Nat},s₁.heap.get? b = some o -> o.data = .dict es ep -> H b = none:=fun {b o es ep} e d=>by
   cases q:H b with
   | none=>rfl
   | some u =>
    have e':b = a:=hA b (by rw [q]; simp)
    subst e'
    rw [ha] at e; cases e
    have d':Data.seq vs.toArray _ = Data.dict es ep:=d
    cases d'
  have nsK:∀ {b:Addr} {m:Str -> Option Value},s₁.heap.Ns b m -> (hidT s₁.heap H).Ns b m:=fun {b m} ⟨o,es,ep,e,d,r⟩=>⟨o,es,ep,base_of e (noA e d),d,r⟩
  have hKb:K.In (hidT s₁.heap H):=fun b o e=>base_of (KX b o e) (by
   cases q:H b with
   | none=>rfl
   | some u =>
    have e':b = a:=hA b (by rw [q]; simp)
    subst e'
    rw [hK (by rw [q]; simp)] at e; cases e)
  have hM:Mod K mg (hidT s₁.heap H):=⟨hKb,nsK hns,⟨mb,nsK hb,hbb⟩,let ⟨mc,h1,h2⟩:=hlim; ⟨mc,nsK h1,h2⟩⟩
  have e0:Env0 P w K mg (hidT s₁.heap H) callerA [] s₁ H:=⟨rfl,hM,fun b o e=>of_hidT e,Nat.le_of_eq (hidT_size _ _),trivial,fun b hb=>absurd (show b ∈ ([]:List Addr) from hb) (by simp),hok,.of_eq hg⟩
  refine codeAny_mono ((F _ hKb (nsK hns)).run callerA [] s₁ H ⟨[.ref a],[]⟩ [.ref a] [.ref a] _ _ hr e0 (hbind s₁ (.ref a)) (.cons rfl .nil) (hsp H hO hS)) fun r s' h=>?_
  cases r with
  | error e=>exact (hCX H e s' h).elim
  | ok fl =>
   cases fl with
   | next=>exact False.elim h
   | brk=>exact False.elim h
   | cont=>exact False.elim h
   | ret u =>
    obtain ⟨v,H',os,bare,un,hok',r',q⟩:=h
    have q':v = .bl true:=q
    subst q'
    obtain rfl:u = Value.bool true:=r'
    refine ⟨rfl,OldK.of_keep fun b o e=>?_,os,bare⟩
    cases q:H b with
    | none=>exact un.keep b o e q (by intro z; exact absurd (show b ∈ ([]:List Addr) from z) (by simp)) (by simp)
    | some u =>
     rcases hO b with z | ⟨ob,xs,z⟩
     ·rw [q] at z; cases z
     ·have z2:=un.frzs b ob _ z
      obtain ⟨e1,_⟩:=hok b _ z
      obtain ⟨e2,_⟩:=hok' b _ z2
      rw [e] at e1; cases e1
      exact e2
 cases hk:K.lookup a with
 | some o =>
  -- the script is one of the module's own objects
  have e:=KX a o hk
  rw [ha] at e
  cases e
  refine core (fun _=>none) (fun _=>.inl rfl) (.inr ⟨_,vs.toArray,_,hk,rfl,rfl,rfl,by rw [List.size_toArray,lenV]; exact hl,by simpa using rv⟩) (fun b u z=>by have z':(none:Option HO) = some u:=z; cases z') (fun b z=>absurd rfl z) fun z=>absurd rfl z
 | none =>
  refine core (fun b=>if b = a then some (.frz { cls:=.type "list",data:=.seq vs.toArray } (.lst (ns.map V.int))) else none) (fun b=>?_) (.inl (.inr ⟨{ cls:=.type "list",data:=.seq vs.toArray },if_pos rfl⟩)) (fun b u z=>?_) (fun b z=>?_) fun _=>hk
  ·by_cases hb:b = a
   ·exact .inr ⟨_,_,if_pos hb⟩
   ·exact .inl (if_neg hb)
  ·by_cases hb:b = a
   ·have z':=(if_pos hb).symm.trans z
    cases z'
    subst hb
    exact ⟨ha,by rw [List.length_map]; exact hl,vs,_,rv,ha⟩
   ·have z':=(if_neg hb).symm.trans z
    cases z'
  ·by_cases hb:b = a
   ·exact hb
   ·exact absurd (if_neg hb) z
end L2
namespace L2
open PySem PySem.Spec PyProof.Rows
theorem walk_of {l:PySem.W.OpenLaw} {n k:Nat} {q:Program} {loose:List Str} {XP:(Str -> Option Value) -> Heap -> Prop} {YP:World -> Heap -> Prop} {d:DefRec} {K:Params -> PySem.W.Frag} {CX:World -> CXT} {sp:World -> Sp} {x:Str}
  (hn:l.most = some n) (hn2:n <= sizeLine) (hdf:d.params.defaults = []) (hr:Room k callerA)
  (hY:∀ (w:World) (h:Heap),YP w h -> (K w.params).In h)
  (F:∀ (w:World) (mg:Str -> Option Value) (fa:Addr) (h:Heap),(K w.params).In h -> h.Ns mainGlobals mg -> mg d.name = some (.ref fa) ->
   ∃ fd:FuncData,(∀ (s:Shared) (u:Value),BindsTo s fd ⟨[u],[]⟩ [(x,u)]) /\
    ∀ base:Heap,(K w.params).In base -> base.Ns mainGlobals mg -> FnOk l.prog w (K w.params) mg base (CX w) k fa fd [x] (sp w))
  (hsp:∀ (w:World) (H:Hp) (a:Addr) (ns:List Int),ns.length <= n -> Only H -> SqL (K w.params) H a (ns.map V.int) -> sp w [.ref a] H (fun v _=>v = .bl true) fun _ _ _=>False)
  (hCX:∀ (w:World) (H:Hp) (s:Shared) (e:Value) (s':Shared),CX w [] H s (fun _ _ _=>False) e s' -> False) :
  PySem.W.WalkO q loose XP YP l.row.toRowW d [] (fun f vs=>PySem.call f vs):=by
 refine Att.attach_call hn hdf fun w s₀ s₁ mg mb fa o pm cd doc a vs ns G Y ho hd hcd hmg hobj hints hlen hg=>?_
 have KX:=hY w _ Y
 obtain ⟨fd,hb,hF⟩:=F w mg fa _ KX G.T.g hmg
 exact law_call KX G.T.g G.T.b G.T.builtins G.T.nolimit hg hobj hints (Nat.le_trans hlen hn2) hr hF hb (fun H hO hS=>hsp w H a ns hlen hO hS) fun H e s'=>hCX w H s₁ e s'
theorem walk_ofK {l:PySem.W.OpenLaw} {n k:Nat} {q:Program} {loose:List Str} {XP:(Str -> Option Value) -> Heap -> Prop} {YP:World -> Heap -> Prop} {d:DefRec} {K:Params -> PySem.W.Frag} {CX:CXT} {sp:PySem.W.Frag -> Sp} {x:Str}
  (hn:l.most = some n) (hn2:n <= sizeLine) (hdf:d.params.defaults = []) (hr:Room k callerA)
  (hY:∀ (w:World) (h:Heap),YP w h -> (K w.params).In h)
  (F:∀ (w:World) (mg:Str -> Option Value) (fa:Addr) (h:Heap),(K w.params).In h -> h.Ns mainGlobals mg -> mg d.name = some (.ref fa) ->
   ∃ fd:FuncData,(∀ (s:Shared) (u:Value),BindsTo s fd ⟨[u],[]⟩ [(x,u)]) /\
    ∀ base:Heap,(K w.params).In base -> base.Ns mainGlobals mg -> FnOk l.prog w (K w.params) mg base CX k fa fd [x] (sp (K w.params)))
  (hsp:∀ (K:PySem.W.Frag) (H:Hp) (a:Addr) (ns:List Int),ns.length <= n -> Only H -> SqL K H a (ns.map V.int) -> sp K [.ref a] H (fun v _=>v = .bl true) fun _ _ _=>False)
  (hCX:∀ (H:Hp) (s:Shared) (e:Value) (s':Shared),CX [] H s (fun _ _ _=>False) e s' -> False) :
  PySem.W.WalkO q loose XP YP l.row.toRowW d [] (fun f vs=>PySem.call f vs) :=
 walk_of (K:=K) (CX:=fun _=>CX) (sp:=fun w=>sp (K w.params)) hn hn2 hdf hr hY F (fun w H a ns h1 h2 h3=>hsp (K w.params) H a ns h1 h2 h3) fun _ H s e s'=>hCX H s e s'
end L2
/- THE LAST THEOREM (shape; LID,My.* are yours):
  My.Adr: a structure of the addresses that your layer names (classes,functions); My.Txt K t: a structure (Prop) of the equations over K;
  My.txt_mk:{K} {implicit addresses ..} (e1:nsIn K mainGlobals "law" = some (some (.ref f))) (e2:K.lookup f = some ⟨oc,od,.func (fnOf "law" "law" params body scope dV kV doc pm an cdv ct),sl⟩) (e3:codeIn K cdv "law" = true) .. : ∃ t,My.Txt K t
set_option maxRecDepth 100000 in
set_option maxHeartbeats 0 in
theorem PySem.Challenge.cw_LID_holds:PySem.Challenge.rw_LID.Holds:=by
 w_on; o_law; k_head; (case hw=>w_witness2)
 k_fill
 refine L2.walk_of (l:=PySem.Challenge.rw_LID) (n:=63) (k:=40) (x:="script") (CX:=fun w=>..) (sp:=fun _=>My.sp_law) rfl (by decide) rfl ⟨rfl,by decide,by decide⟩ (fun w h Y=>PySem.W.kIn_of Y) ?F ?S ?C
 case F =>
  intro w mg fa h KX G hmg
  have T:∃ t,My.Txt (L2.KOf KX) t:=by
   dsimp only [L2.KOf]                          -- K must stand as «<heap const> w.params» for k_is
   refine' My.txt_mk ?e1 ?e2 ?e3 ..
   (case e1=>PySem.W.k_is)                    -- in the order: a name -> its address -> its object -> its parts
   (case e2=>PySem.W.k_is)
   ..
  obtain ⟨t,T⟩:=T
  have e0:=hmg.symm.trans (PySem.W.mg_of KX G T.law)
  cases e0                                       -- fa is the law's own address
  exact ⟨_,fun s u=>.of_eq rfl,fun base kb nb=>My.law_fn T kb nb⟩     -- if «.of_eq rfl» comes too early: refine' ⟨_,?b,fun base kb nb=>My.law_fn T kb nb⟩; exact fun s u=>.of_eq rfl
 case S=>exact fun w H a ns hl hO hS=>..
 case C=>exact ..
(the tactic k_is has no namespace: write k_is) -/
namespace L2
open PySem PySem.Spec PyProof.Rows
def defArgs (s:Stmt):Arguments:=match s with
 | .FunctionDef _ a _ _ _ _ _ _ _ _=>a
 | _=>{ posonlyargs:=[],args:=[],vararg:=none,kwonlyargs:=[],kw_defaults:=[],kwarg:=none,defaults:=[] }
def defBody (s:Stmt):List Stmt:=match s with
 | .FunctionDef _ _ b _ _ _ _ _ _ _=>b
 | _=>[]
def defScope (s:Stmt):Scope:=match s with
 | .FunctionDef _ _ _ _ _ _ sc _ _ _=>sc
 | _=>{ kind:=.function,names:=[],isGenerator:=false,isCoroutine:=false }
abbrev CX0:CXT:=fun _ _ _ _ _ _=>False
abbrev E0:XK:=fun _ _ _=>False
theorem pass0 {X:Cx}:Passes CX0 X E0:=fun _ _ _ _ _ _ _ h=>h.elim
structure Fun (K:PySem.W.Frag) (x qual:Str) (st:Stmt) (f:Addr) (fd:FuncData):Prop where
 ex:∃ (oc:Value) (od:Option Addr) (kV doc pm:Value) (an:Option Addr) (cdv ct:Value) (osl:Array (Option Value)),
  fd = PySem.W.fnOf x qual (defArgs st) (defBody st) (defScope st) .none kV doc pm an cdv ct /\ K.lookup f = some ⟨oc,od,.func fd,osl⟩ /\ PySem.W.codeIn K cdv qual = true
 kp:PySem.W.keepIn K (.ref f) = true
section
variable {P:Program} {w:World} {K:PySem.W.Frag} {mg:Str -> Option Value} {base:Heap}
theorem Fun.ok {x qual:Str} {st:Stmt} {f:Addr} {fd:FuncData} {N ps:List Str} {k:Nat} {sp:Sp} (F:Fun K x qual st f fd) (S:FnScope N ps (defScope st)) (len:∀ vs H Q E,sp vs H Q E -> vs.length = ps.length)
  (hbody:∀ (cdv:Value) (A:Around) (outer:List Env) (s:Shared) (H:Hp) (vs:List V) (Q:VK) (E:XK),Room k (A.deeper (envOfC qual (defScope st) s.heap.objs.size f cdv)) -> sp vs H Q E ->
   ∃ t,PSs (cxOf CX0 P w K mg base N qual (defScope st) f cdv A outer s H E).nox (defBody st) t /\ t { nx:=fun _ H'=>Q .non H',rt:=Q } (start N vs) H):FnOk P w K mg base CX0 (k + 1) f fd ps sp:=by
 obtain ⟨oc,od,kV,doc,pm,an,cdv,ct,osl,rfl,lk,hcd⟩:=F.ex
 refine fn_of lk hcd S len fun A outer s H vs Q E hr hsp=>?_
 obtain ⟨t,h,q⟩:=hbody cdv A outer s H vs Q E hr hsp
 exact ⟨t,h.nox,q⟩
theorem Fun.binds {x qual:Str} {st:Stmt} {f:Addr} {fd:FuncData} {ps:List Str} (F:Fun K x qual st f fd)
  (h:∀ (kV doc pm:Value) (an:Option Addr) (cdv ct:Value) (us:List Value),us.length = ps.length -> bindArgs (PySem.W.fnOf x qual (defArgs st) (defBody st) (defScope st) .none kV doc pm an cdv ct) ⟨us,[]⟩ = pure (ps.zip us)):Binds K fd ps []:=by
 obtain ⟨oc,od,kV,doc,pm,an,cdv,ct,osl,rfl,lk,hcd⟩:=F.ex
 exact .all (h kV doc pm an cdv ct)
theorem fun_mk {x qual:Str} {st:Stmt} {f:Addr} {oc:Value} {od an:Option Addr} {osl:Array (Option Value)} {kV doc pm cdv ct:Value} (l:K.lookup f = some ⟨oc,od,.func (PySem.W.fnOf x qual (defArgs st) (defBody st) (defScope st) .none kV doc pm an cdv ct),osl⟩)
  (c:PySem.W.codeIn K cdv qual = true) (k:PySem.W.keepIn K (.ref f) = true):Fun K x qual st f (PySem.W.fnOf x qual (defArgs st) (defBody st) (defScope st) .none kV doc pm an cdv ct):=⟨⟨oc,od,kV,doc,pm,an,cdv,ct,osl,rfl,l,c⟩,k⟩
end
section
variable {X:Cx}
theorem pv (i:Nat) {x:Str} {pos:Pos} (hN:X.N[i]? = some x:=by rfl) (hv:Vis X.env.scope x:=by first | exact Or.inl rfl | exact Or.inr (Or.inl rfl) | exact Or.inr (Or.inr rfl)) (hd:(x == ("__debug__" : Str)) = false:=by decide)
  (hcd:(x == ("__classdict__" : Str)) = false:=by decide):PE X (.Name x pos) (tVar i):=pe_var hN hv hd hcd
end
theorem iteF {A B:Prop} (h:B):if false = true then A else B:=by
 rw [if_neg Bool.false_ne_true]
 exact h
theorem iteT {A B:Prop} (h:A):if true = true then A else B:=by
 rw [if_pos rfl]
 exact h
theorem ite2 {c A B:Prop} [Decidable c] (h1:c -> A) (h2:¬ c -> B):if c then A else B:=by
 by_cases h:c
 ·rw [if_pos h]
  exact h1 h
 ·rw [if_neg h]
  exact h2 h
def Same (H H':Hp):Prop:=∀ b o,H b = some o -> H' b = some o
end L2
namespace L2
open PySem PySem.Spec PyProof.Rows
section
variable {X:Cx}
end
section
variable {κ:Type} [DecidableEq κ]
end
end L2
namespace L2
open PySem PySem.Spec PyProof.Rows
section
variable {X:Cx} {pos:Pos}
def gLs (K:PySem.W.Frag) (n:Nat) (t:TGs):TG:=fun v σ H Q=>∃ a xs,v = .ref a /\ SqL K H a xs /\ xs.length = n /\ t xs σ H Q
theorem pg_ls {es:List Expr} {k:Nat} {t:TGs} {n:Nat} (hc:X.calm = true) (h:PGs X es t)
  (hn:(assignEach es X.env).length = n:=by rfl) (hst:(assignEach es X.env).findIdx? (·.1) = none:=by rfl):PG X (.Tuple es k pos) (gLs X.K n t):=by
 intro pins s σ H v u Q I r hw
 obtain ⟨a,xs,e1,hq,hl,hw⟩:=hw
 subst e1
 cases r
 obtain ⟨its,rv,pl,hz⟩:=I.list hq
 rw [assign_Tuple]
 refine wpAny_bind (wpAny_standAt ?_)
 unfold unpack
 rw [show (assignEach es X.env).length = its.toArray.size by simp [hn,← hl,rv.length],hst]
 refine wpAny_bind (wpAny_holding (PySem.W.kun_itemsOf (I.ok.hd hc) pl.isList fun h' hx=>?_))
 have I1:Inv X pins σ H { s with heap:=h' }:=I.kept (t':=s.toks) fun b o e=>hx b o (Nat.ne_of_lt (Heap.lt_size e)) e
 exact h pins _ σ H xs _ Q I1 (by simpa using rv) hw
def knV (H:Hp):V -> Prop
 | .non=>True | .bl _=>True | .int _=>True | .str _=>True
 | .ref a=>(∃ xs,H a = some (.lst xs)) ∨ (∃ o xs,H a = some (.frz o (.lst xs))) ∨ (∃ xs,H a = some (.tup xs)) ∨ (∃ kvs,H a = some (.dK kvs)) ∨ (∃ kvs,H a = some (.dT kvs))
 | _=>False
def isIntV:V -> Bool
 | .int _=>true | .bl _=>true | _=>false
def isBlV:V -> Bool
 | .bl _=>true | _=>false
def isTupO:Option HO -> Bool
 | some (.tup _)=>true | _=>false
def isTupV (H:Hp):V -> Bool
 | .ref a=>isTupO (H a) | _=>false
theorem kit_ty {K:PySem.W.Frag} {t T:String} {b:Bool}
  (h:(if (Value.type t == Value.type T) = true then some true else if PySem.W.kitMeta T = true then (PySem.fastBuiltinMro t).map (·.contains (.type T)) else none) = some b):PySem.W.kitOne K (.type t) (.type T) = some b:=h
theorem isinst_any {T:String} {f:Hp -> V -> Bool}
  (hn:∀ (H:Hp),PySem.W.kitOne X.K (.type "NoneType") (.type T) = some (f H .non)) (hb:∀ (H:Hp) c,PySem.W.kitOne X.K (.type "bool") (.type T) = some (f H (.bl c)))
  (hi:∀ (H:Hp) i,PySem.W.kitOne X.K (.type "int") (.type T) = some (f H (.int i))) (hs:∀ (H:Hp) x,PySem.W.kitOne X.K (.type "str") (.type T) = some (f H (.str x)))
  (hl:∀ (H:Hp) a xs,H a = some (.lst xs) -> PySem.W.kitOne X.K (.type "list") (.type T) = some (f H (.ref a)))
  (hf:∀ (H:Hp) a o xs,H a = some (.frz o (.lst xs)) -> PySem.W.kitOne X.K (.type "list") (.type T) = some (f H (.ref a)))
  (ht:∀ (H:Hp) a xs,H a = some (.tup xs) -> PySem.W.kitOne X.K (.type "tuple") (.type T) = some (f H (.ref a)))
  (hd:∀ (H:Hp) a kvs,H a = some (.dK kvs) -> PySem.W.kitOne X.K (.type "dict") (.type T) = some (f H (.ref a)))
  (hd':∀ (H:Hp) a kvs,H a = some (.dT kvs) -> PySem.W.kitOne X.K (.type "dict") (.type T) = some (f H (.ref a))) :
  CallR X (.builtin "isinstance") (fun xs H Q=>∃ x,xs = [x,.ty T] /\ knV H x /\ Q (.bl (f H x)) H):=by
 intro pins s σ H xs us Q I r h
 obtain ⟨x,rfl,kn,q⟩:=h
 obtain ⟨u1,u2,rfl,r1,r2⟩:=vals2 r
 cases r2
 have fin:∀ t,TyOf X.K H x t -> PySem.W.kitOne X.K t (.type T) = some (f H x) -> wpAny (model X.prog X.w) X.A (call (.builtin "isinstance") [u1,.type T]) (EP X pins σ Q) X.xe s :=
  fun t ty e=>isinst_ok I r1 ty e fun tk=>⟨.bl (f H x),H,I.tok tk,rfl,q⟩
 cases x with
 | non=>exact fin _ .non (hn H)
 | bl c=>exact fin _ (.bl c) (hb H c)
 | int i=>exact fin _ (.int i) (hi H i)
 | str y=>exact fin _ (.str y) (hs H y)
 | ref a =>
  rcases kn with ⟨ys,e⟩ | ⟨o,ys,e⟩ | ⟨ys,e⟩ | ⟨ys,e⟩ | ⟨ys,e⟩
  ·exact fin _ (.lst e) (hl H a ys e)
  ·exact fin _ (.frz e) (hf H a o ys e)
  ·exact fin _ (.tup e) (ht H a ys e)
  ·exact fin _ (.dK e) (hd H a ys e)
  ·exact fin _ (.dT e) (hd' H a ys e)
 | _=>exact kn.elim
theorem kt_NoneType_int {K:PySem.W.Frag}:PySem.W.kitOne K (.type "NoneType") (.type "int") = some false:=kit_ty (by decide +kernel)
theorem kt_bool_int {K:PySem.W.Frag}:PySem.W.kitOne K (.type "bool") (.type "int") = some true:=kit_ty (by decide +kernel)
theorem kt_int_int {K:PySem.W.Frag}:PySem.W.kitOne K (.type "int") (.type "int") = some true:=kit_ty (by decide +kernel)
theorem kt_str_int {K:PySem.W.Frag}:PySem.W.kitOne K (.type "str") (.type "int") = some false:=kit_ty (by decide +kernel)
theorem kt_list_int {K:PySem.W.Frag}:PySem.W.kitOne K (.type "list") (.type "int") = some false:=kit_ty (by decide +kernel)
theorem kt_tuple_int {K:PySem.W.Frag}:PySem.W.kitOne K (.type "tuple") (.type "int") = some false:=kit_ty (by decide +kernel)
theorem kt_dict_int {K:PySem.W.Frag}:PySem.W.kitOne K (.type "dict") (.type "int") = some false:=kit_ty (by decide +kernel)
theorem kt_NoneType_bool {K:PySem.W.Frag}:PySem.W.kitOne K (.type "NoneType") (.type "bool") = some false:=kit_ty (by decide +kernel)
theorem kt_bool_bool {K:PySem.W.Frag}:PySem.W.kitOne K (.type "bool") (.type "bool") = some true:=kit_ty (by decide +kernel)
theorem kt_int_bool {K:PySem.W.Frag}:PySem.W.kitOne K (.type "int") (.type "bool") = some false:=kit_ty (by decide +kernel)
theorem kt_str_bool {K:PySem.W.Frag}:PySem.W.kitOne K (.type "str") (.type "bool") = some false:=kit_ty (by decide +kernel)
theorem kt_list_bool {K:PySem.W.Frag}:PySem.W.kitOne K (.type "list") (.type "bool") = some false:=kit_ty (by decide +kernel)
theorem kt_tuple_bool {K:PySem.W.Frag}:PySem.W.kitOne K (.type "tuple") (.type "bool") = some false:=kit_ty (by decide +kernel)
theorem kt_dict_bool {K:PySem.W.Frag}:PySem.W.kitOne K (.type "dict") (.type "bool") = some false:=kit_ty (by decide +kernel)
theorem kt_NoneType_tuple {K:PySem.W.Frag}:PySem.W.kitOne K (.type "NoneType") (.type "tuple") = some false:=kit_ty (by decide +kernel)
theorem kt_bool_tuple {K:PySem.W.Frag}:PySem.W.kitOne K (.type "bool") (.type "tuple") = some false:=kit_ty (by decide +kernel)
theorem kt_int_tuple {K:PySem.W.Frag}:PySem.W.kitOne K (.type "int") (.type "tuple") = some false:=kit_ty (by decide +kernel)
theorem kt_str_tuple {K:PySem.W.Frag}:PySem.W.kitOne K (.type "str") (.type "tuple") = some false:=kit_ty (by decide +kernel)
theorem kt_list_tuple {K:PySem.W.Frag}:PySem.W.kitOne K (.type "list") (.type "tuple") = some false:=kit_ty (by decide +kernel)
theorem kt_tuple_tuple {K:PySem.W.Frag}:PySem.W.kitOne K (.type "tuple") (.type "tuple") = some true:=kit_ty (by decide +kernel)
theorem kt_dict_tuple {K:PySem.W.Frag}:PySem.W.kitOne K (.type "dict") (.type "tuple") = some false:=kit_ty (by decide +kernel)
theorem call_is_int:CallR X (.builtin "isinstance") (fun xs H Q=>∃ x,xs = [x,.ty "int"] /\ knV H x /\ Q (.bl (isIntV x)) H) :=
 isinst_any (f:=fun _ x=>isIntV x) (fun _=>kt_NoneType_int) (fun _ _=>kt_bool_int) (fun _ _=>kt_int_int) (fun _ _=>kt_str_int) (fun _ _ _ _=>kt_list_int) (fun _ _ _ _ _=>kt_list_int) (fun _ _ _ _=>kt_tuple_int) (fun _ _ _ _=>kt_dict_int) (fun _ _ _ _=>kt_dict_int)
theorem call_is_bool:CallR X (.builtin "isinstance") (fun xs H Q=>∃ x,xs = [x,.ty "bool"] /\ knV H x /\ Q (.bl (isBlV x)) H) :=
 isinst_any (f:=fun _ x=>isBlV x) (fun _=>kt_NoneType_bool) (fun _ _=>kt_bool_bool) (fun _ _=>kt_int_bool) (fun _ _=>kt_str_bool) (fun _ _ _ _=>kt_list_bool) (fun _ _ _ _ _=>kt_list_bool) (fun _ _ _ _=>kt_tuple_bool) (fun _ _ _ _=>kt_dict_bool) (fun _ _ _ _=>kt_dict_bool)
theorem call_is_tuple:CallR X (.builtin "isinstance") (fun xs H Q=>∃ x,xs = [x,.ty "tuple"] /\ knV H x /\ Q (.bl (isTupV H x)) H) :=
 isinst_any (f:=isTupV) (fun _=>kt_NoneType_tuple) (fun _ _=>kt_bool_tuple) (fun _ _=>kt_int_tuple) (fun _ _=>kt_str_tuple) (fun H a xs e=>by simp only [isTupV,e,isTupO]; exact kt_list_tuple) (fun H a o xs e=>by simp only [isTupV,e,isTupO]; exact kt_list_tuple) (fun H a xs e=>by simp only [isTupV,e,isTupO]; exact kt_tuple_tuple) (fun H a xs e=>by simp only [isTupV,e,isTupO]; exact kt_dict_tuple) (fun H a xs e=>by simp only [isTupV,e,isTupO]; exact kt_dict_tuple)
def Big (i:Int):Prop:=i.natAbs.log2 < 8000
theorem big_of {i:Int} (h:i.natAbs < 2 ^ 8000):Big i:=by
 unfold Big
 rcases Nat.eq_zero_or_pos i.natAbs with h0 | hp
 ·rw [h0]; decide
 ·exact (Nat.log2_lt (Nat.ne_of_gt hp)).mpr h
theorem Big.bits {i:Int} (h:Big i):Builtin.Int.intBits i <= 8000:=by
 unfold Builtin.Int.intBits
 unfold Big at h
 split
 ·exact Nat.zero_le _
 ·omega
def CMulB (i j:Int):Prop:=(-(2 ^ 64) < i /\ i < 2 ^ 64) ∨ (-(2 ^ 64) < j /\ j < 2 ^ 64) ∨ (Big i /\ Big j)
theorem CMulB.ok {i j:Int} (h:CMulB i j):IntMulOk i j:=by
 rcases h with ⟨h1,h2⟩ | ⟨h1,h2⟩ | ⟨h1,h2⟩
 ·exact .of_left (intBits_le_64 h1 h2)
 ·exact .of_right (intBits_le_64 h1 h2)
 ·have b1:=h1.bits
  have b2:=h2.bits
  unfold IntMulOk
  have:Builtin.Int.intTooBig (Builtin.Int.intBits i + Builtin.Int.intBits j) = false:=by
   unfold Builtin.Int.intTooBig
   refine decide_eq_false ?_
   have e:bitsLine = 134217728:=by decide
   rw [e]
   omega
  rw [this]
  simp
theorem op_mulB:OpR X (binaryOp .Mult) (rI CMulB fun i j=>.int (i * j)):=opI fun _ _ _ _ _ _ _ hc q=>mul_int q hc.ok
def CDivP (_ j:Int):Prop:=0 < j /\ Big j
theorem op_fdivB:OpR X (binaryOp .FloorDiv) (rI CDivP fun i j=>.int (i / j)):=opI fun i j _ _ _ _ _ hc q=>by
 have h1:(0:Int) < j:=hc.1
 exact floordiv_int (by omega) (by rw [Int.fdiv_eq_ediv_of_nonneg i (by omega)]; exact q) (.inl (PyProof.noPylong_of_log2 (Nat.lt_trans hc.2 (by decide))))
end
structure Df (K:PySem.W.Frag) (mg:Str -> Option Value) (x:Str) (st:Stmt) (ps:List Str) (f:Addr) (fd:FuncData):Prop where
 F:Fun K x x st f fd
 m:mg x = some (.ref f)
 b:Binds K fd ps []
def SBut (p:Addr) (H H':Hp):Prop:=∀ b o,b ≠ p -> H b = some o -> H' b = some o
theorem SBut.trans {p:Addr} {H H1 H2:Hp} (x:SBut p H H1) (y:SBut p H1 H2):SBut p H H2:=fun b o n e=>y b o n (x b o n e)
theorem SBut.upd {p:Addr} {H:Hp} {o:HO}:SBut p H (upd H p o):=fun b u n e=>by rw [upd_ne n]; exact e
theorem same_new {q:Addr} {H:Hp} {o:HO} (h:H q = none):Same H (upd H q o):=fun b u e=>by rw [upd_ne (ne_of_none e h)]; exact e
theorem upd_old {H:Hp} {p q:Addr} {o u:HO} (h:H p = none) (e:H q = some u):upd H p o q = some u:=by rw [upd_ne (ne_of_none e h)]; exact e
def Scr (K:PySem.W.Frag) (H:Hp) (a:Addr) (ns:List Int):Prop:=(∃ o,H a = some (.frz o (.lst (ns.map V.int)))) ∨ ∀ H',SqL K H' a (ns.map V.int)
theorem Scr.sq {K:PySem.W.Frag} {H:Hp} {a:Addr} {ns:List Int} (h:Scr K H a ns):SqL K H a (ns.map V.int):=by
 rcases h with ⟨o,h⟩ | h
 ·exact .inl (.inr ⟨o,h⟩)
 ·exact h H
theorem scr_of {K:PySem.W.Frag} {H:Hp} {a:Addr} {ns:List Int} (h1:Only H) (h:SqL K H a (ns.map V.int)):Scr K H a ns:=by
 rcases h with (h | ⟨o,h⟩) | h
 ·rcases h1 a with z | ⟨o,xs,z⟩
  ·rw [z] at h; cases h
  ·rw [z] at h; cases h
 ·exact .inl ⟨o,h⟩
 ·exact .inr fun H'=>.inr h
structure Pen (K:PySem.W.Frag) (H:Hp) (p a:Addr) (ns:List Int) (t l:Int):Prop where
 lst:H p = some (.lst [.ref a,.int t,.int l])
 scr:Scr K H a ns
 t0:0 <= t
theorem Pen.put {K:PySem.W.Frag} {H:Hp} {p a:Addr} {ns:List Int} {t l t' l':Int} (h:Pen K H p a ns t l) (h0:0 <= t'):Pen K (upd H p (.lst [.ref a,.int t',.int l'])) p a ns t' l':=by
 refine ⟨upd_same,?_,h0⟩
 rcases h.scr with ⟨o,e⟩ | e
 ·refine .inl ⟨o,?_⟩
  rw [upd_ne (ne_of e h.lst (by intro z; cases z))]
  exact e
 ·exact .inr e
theorem Pen.same {K:PySem.W.Frag} {H H':Hp} {p a:Addr} {ns:List Int} {t l:Int} (h:Pen K H p a ns t l) (s:Same H H'):Pen K H' p a ns t l:=by
 refine ⟨s _ _ h.lst,?_,h.t0⟩
 rcases h.scr with ⟨o,e⟩ | e
 ·exact .inl ⟨o,s _ _ e⟩
 ·exact .inr e
theorem scr_at {ns:List Int} {i:Int} (h0:0 <= i) (h:i < (ns.length:Int)):atI (ns.map V.int) i = some (.int (ns.getD i.toNat 0)):=by
 obtain ⟨j,rfl⟩:=Int.eq_ofNat_of_zero_le h0
 have hj:j < ns.length:=by omega
 refine atI_nat ?_
 simp [List.getElem?_map,hj]
end L2
namespace L2
open PySem PySem.Spec PyProof.Rows
section
variable {X:Cx} {pos:Pos}
def rIxTH:R2:=fun x y H Q=>∃ p xs i v,x = .ref p /\ y = .int i /\ H p = some (.tup xs) /\ atI xs i = some v /\ Q v H
def rIxLH:R2:=fun x y H Q=>∃ p xs i v,x = .ref p /\ y = .int i /\ H p = some (.lst xs) /\ atI xs i = some v /\ Q v H
theorem ix_tupH:IxR X rIxTH:=fun value slice pins s σ H x y v u Q I rx ry ⟨p,xs,i,z,e1,e2,h,e3,q⟩ hs=>ix_tup value slice pins s σ H x y v u Q I rx ry ⟨p,xs,i,z,e1,e2,SqT.of h,e3,q⟩ hs
theorem ix_listH:IxR X rIxLH:=fun value slice pins s σ H x y v u Q I rx ry ⟨p,xs,i,z,e1,e2,h,e3,q⟩ hs=>ix_list value slice pins s σ H x y v u Q I rx ry ⟨p,xs,i,z,e1,e2,SqL.of h,e3,q⟩ hs
def lenO:Option HO -> Option Nat
 | some (.lst xs)=>some xs.length | some (.tup xs)=>some xs.length | _=>none
def rLenH:List V -> Hp -> VK -> Prop:=fun xs H Q=>∃ p n,xs = [.ref p] /\ lenO (H p) = some n /\ Q (.int n) H
theorem call_lenH:CallR X (.builtin "len") rLenH:=by
 intro pins s σ H xs us Q I r h
 obtain ⟨p,n,rfl,e,q⟩:=h
 cases o:H p with
 | none=>rw [o] at e; cases e
 | some ob =>
  rw [o] at e
  cases ob with
  | lst ys=>cases e; exact call_len_seq pins s σ H _ us Q I r ⟨p,ys,rfl,.inl (SqL.of o),q⟩
  | tup ys=>cases e; exact call_len_seq pins s σ H _ us Q I r ⟨p,ys,rfl,.inr (SqT.of o),q⟩
  | _=>cases e
def gLsH (n:Nat) (t:TGs):TG:=fun v σ H Q=>∃ a xs,v = .ref a /\ H a = some (.lst xs) /\ xs.length = n /\ t xs σ H Q
theorem pg_lsH {es:List Expr} {k:Nat} {t:TGs} {n:Nat} (hc:X.calm = true) (h:PGs X es t)
  (hn:(assignEach es X.env).length = n:=by rfl) (hst:(assignEach es X.env).findIdx? (·.1) = none:=by rfl):PG X (.Tuple es k pos) (gLsH n t) :=
 fun pins s σ H v u Q I r ⟨a,xs,e1,e2,e3,q⟩=>pg_ls hc h hn hst pins s σ H v u Q I r ⟨a,xs,e1,SqL.of e2,e3,q⟩
def gTupH (n:Nat) (t:TGs):TG:=fun v σ H Q=>∃ a xs,v = .ref a /\ H a = some (.tup xs) /\ xs.length = n /\ t xs σ H Q
theorem pg_tupH {es:List Expr} {k:Nat} {t:TGs} {n:Nat} (hc:X.calm = true) (h:PGs X es t)
  (hn:(assignEach es X.env).length = n:=by rfl) (hst:(assignEach es X.env).findIdx? (·.1) = none:=by rfl):PG X (.Tuple es k pos) (gTupH n t) :=
 fun pins s σ H v u Q I r ⟨a,xs,e1,e2,e3,q⟩=>pg_tup hc h hn hst pins s σ H v u Q I r ⟨a,xs,e1,SqT.of e2,e3,q⟩
end
end L2
namespace L2
open PySem PySem.Spec PyProof.Rows
def sp_next (K:PySem.W.Frag):Sp:=fun vs H Q _=>∃ (p a:Addr) (ns:List Int) (t l m:Int),vs = [.ref p,.int m] /\ Pen K H p a ns t l /\ 1 <= m /\ m <= 10 ^ 60 /\
 ∀ (r t' l':Int) (H':Hp),0 <= r -> r < m -> Pen K H' p a ns t' l' -> SBut p H H' -> Q (.int r) H'
def sp_pen (K:PySem.W.Frag):Sp:=fun vs H Q _=>∃ (a:Addr) (ns:List Int),vs = [.ref a] /\ Scr K H a ns /\ ∀ (p:Addr) (H':Hp),H p = none -> Pen K H' p a ns 0 0 -> Same H H' -> Q (.ref p) H'
theorem mul_mod {x d y:Int} (h0:0 < d) (h:d <= 18446744073709551616):CMulB (x % d) y:=by
 have h1:=Int.emod_nonneg x (show d ≠ 0 by omega)
 have h2:=Int.emod_lt_of_pos x h0
 exact .inl ⟨by omega,by omega⟩
theorem mul_l {c y:Int} (h : -18446744073709551616 < c /\ c < 18446744073709551616:=by decide):CMulB c y:=.inl h
theorem mul_r {c y:Int} (h : -18446744073709551616 < c /\ c < 18446744073709551616:=by decide):CMulB y c:=.inr (.inl h)
theorem mpos {c:Int} (h:0 < c:=by decide):0 < c:=h
theorem big_ten {c:Int} (h0:0 <= c) (h:c <= 10 ^ 60):Big c:=big_of (Nat.lt_of_lt_of_le (Nat.lt_of_le_of_lt (show c.natAbs <= 10 ^ 60 by omega) (show 10 ^ 60 < 2 ^ 200 by decide)) (Nat.pow_le_pow_right (by decide) (by decide)))
theorem big_small {c:Int} (h0:0 <= c) (h:c <= 18446744073709551616):Big c:=big_of (Nat.lt_of_lt_of_le (Nat.lt_of_le_of_lt (show c.natAbs <= 18446744073709551616 by omega) (show 18446744073709551616 < 2 ^ 65 by decide)) (Nat.pow_le_pow_right (by decide) (by decide)))
end L2
namespace Ra
end Ra
namespace L2
open PySem PySem.Spec PyProof.Rows
def closeL (cells:List (Str × Addr)):List (Str × NameKind) -> List (Str × Addr) -> Option (List (Str × Addr))
 | [],cs=>some cs
 | (n,k) :: r,cs=>if k == .free then (match cells.lookup n with
  | some c=>closeL cells r ((n,c) :: cs)
  | none=>none) else closeL cells r cs
theorem closureFor_of {scope:Scope} {env:Env} {cl:List (Str × Addr)} (h:closeL env.cells scope.names [] = some cl):closureFor scope env = pure cl:=by
 simp only [closureFor]
 generalize ([]:List (Str × Addr)) = cs at h ⊢
 generalize scope.names = l at h ⊢
 induction l generalizing cs with
 | nil=>cases h; rfl
 | cons a r ih =>
  obtain ⟨n,k⟩:=a
  unfold closeL at h
  rw [List.forIn_cons]
  by_cases hk:(k == NameKind.free) = true
  ·rw [if_pos hk] at h
   cases e:env.cells.lookup n with
   | none=>rw [e] at h; cases h
   | some c =>
    rw [e] at h
    have:=ih _ h
    simp only [hk,if_true,cellOf,e,pure_bind]
    exact this
  ·rw [if_neg hk] at h
   have:=ih _ h
   simp only [hk,Bool.false_eq_true,if_false,pure_bind]
   exact this
theorem closeL_sub {cells cl:List (Str × Addr)}:∀ {l:List (Str × NameKind)} {cs:List (Str × Addr)},closeL cells l cs = some cl -> (∀ y c,cs.lookup y = some c -> cells.lookup y = some c) -> ∀ y c,cl.lookup y = some c -> cells.lookup y = some c
 | [],cs,h,hs,y,c,e=>by cases h; exact hs y c e
 | (n,k) :: r,cs,h,hs,y,c,e=>by
  unfold closeL at h
  by_cases hk:(k == NameKind.free) = true
  ·rw [if_pos hk] at h
   cases q:cells.lookup n with
   | none=>rw [q] at h; cases h
   | some c' =>
    rw [q] at h
    refine closeL_sub h (fun z d hz=>?_) y c e
    by_cases hzn:(z == n) = true
    ·rw [List.lookup_cons,hzn] at hz
     cases hz
     rw [eq_of_beq hzn]; exact q
    ·rw [List.lookup_cons,(Bool.not_eq_true _).mp hzn] at hz
     exact hs z d hz
  ·rw [if_neg hk] at h
   exact closeL_sub h hs y c e
theorem closeL_has {cells cl:List (Str × Addr)}:∀ {l:List (Str × NameKind)} {cs:List (Str × Addr)},closeL cells l cs = some cl -> ∀ y,((y,NameKind.free) ∈ l ∨ ∃ c,cs.lookup y = some c) -> ∃ c,cl.lookup y = some c
 | [],cs,h,y,e=>by
  cases h
  rcases e with e | e
  ·simp at e
  ·exact e
 | (n,k) :: r,cs,h,y,e=>by
  unfold closeL at h
  by_cases hk:(k == NameKind.free) = true
  ·rw [if_pos hk] at h
   cases q:cells.lookup n with
   | none=>rw [q] at h; cases h
   | some c' =>
    rw [q] at h
    refine closeL_has h y ?_
    rcases e with e | ⟨c,e⟩
    ·rcases List.mem_cons.mp e with e | e
     ·cases e
      exact .inr ⟨c',by rw [List.lookup_cons,beq_self_eq_true]⟩
     ·exact .inl e
    ·by_cases hyn:(y == n) = true
     ·exact .inr ⟨c',by rw [List.lookup_cons,hyn]⟩
     ·exact .inr ⟨c,by rw [List.lookup_cons,(Bool.not_eq_true _).mp hyn]; exact e⟩
  ·rw [if_neg hk] at h
   refine closeL_has h y ?_
   rcases e with e | e
   ·rcases List.mem_cons.mp e with e | e
    ·cases e
     exact absurd rfl hk
    ·exact .inl e
   ·exact .inr e
inductive Cap (X:Cx) (scope:Scope):List Str -> List (Option Nat) -> Prop where
 | nil:Cap X scope [] []
 | own {x:Str} {N:List Str} {js:List (Option Nat)} (h:Cap X scope N js):Cap X scope (x :: N) (none :: js)
 | cap {x:Str} {j:Nat} {N:List Str} {js:List (Option Nat)} (h1:X.N[j]? = some x) (h2:X.env.kindOf x = some .cell ∨ X.env.kindOf x = some .free)
   (h3:scope.names.lookup x = some .free) (h:Cap X scope N js):Cap X scope (x :: N) (some j :: js)
def sub1 (σ:St):Option Nat -> Option V
 | none=>none
 | some j=>(σ[j]?).join
def sub (js:List (Option Nat)) (σ:St):St:=js.map (sub1 σ)
theorem Cap.len {X:Cx} {scope:Scope} {N:List Str} {js:List (Option Nat)} (h:Cap X scope N js):js.length = N.length:=by induction h <;> simp [*]
theorem Cap.at {X:Cx} {scope:Scope} {N:List Str} {js:List (Option Nat)} (h:Cap X scope N js):∀ {i:Nat} {x:Str} {σ:St} {v:V},N[i]? = some x -> (sub js σ)[i]? = some (some v) ->
  ∃ j:Nat,X.N[j]? = some x /\ σ[j]? = some (some v) /\ (X.env.kindOf x = some .cell ∨ X.env.kindOf x = some .free) /\ scope.names.lookup x = some .free:=by
 induction h with
 | nil=>intro i x σ v h; simp at h
 | own h ih =>
  intro i x σ v h1 h2
  cases i with
  | zero=>simp [sub,sub1] at h2
  | succ i=>exact ih (by simpa using h1) (by simpa [sub] using h2)
 | @cap x j N js k1 k2 k3 h ih =>
  intro i y σ v h1 h2
  cases i with
  | zero =>
   simp at h1
   subst h1
   simp [sub,sub1] at h2
   refine ⟨j,k1,?_,k2,k3⟩
   cases q:σ[j]? with
   | none=>rw [q] at h2; simp at h2
   | some o=>rw [q] at h2; simp at h2; rw [h2]
  | succ i=>exact ih (by simpa using h1) (by simpa [sub] using h2)
def cxComp (X:Cx) (scope:Scope) (cl:List (Str × Addr)) (C:Addr) (N':List Str) (s₃:Shared) (H₃:Hp) (fp:List Addr) (pins:List (Addr × Obj)):Cx :=
 { X with N:=N',s₀:=s₃,H₀:=H₃,env:=compEnvC scope cl C X.env,outer:=X.stack,ex:=fp,fn:=fun y=>scope.names.lookup y == some .cell,pn:=X.pn ++ pins,xe:=fun _ _=>False }
structure Blk where
 C:Addr
 s3:Shared
 H3:Hp
 fp:List Addr
 pins:List (Addr × Obj)
abbrev cxB (X:Cx) (scope:Scope) (cl:List (Str × Addr)) (N':List Str) (B:Blk):Cx:=cxComp X scope (cellsFrom (B.C + 1) scope.names cl) B.C N' B.s3 B.H3 B.fp B.pins
def PTs (X:Cx) (ifs:List Expr) (t:TT):Prop :=
 ∀ (pins:List (Addr × Obj)) (s:Shared) (σ:St) (H:Hp) (Q:Bool -> Hp -> Prop),Inv X pins σ H s -> t σ H Q ->
  wpAny (model X.prog X.w) X.A (forIn ifs true fun c r=>if r = true then do let ok ← isTrue c X.env (eval c X.env); pure (ForInStep.yield ok) else pure (ForInStep.yield r)) (TP X pins σ Q) X.xe s
def tNoTest:TT:=fun _ H Q=>Q true H
theorem pts_nil {X:Cx}:PTs X [] tNoTest:=fun _ _ _ H _ I h=>wpAny_tests_nil ⟨H,I,h⟩
theorem pts_one {X:Cx} {c:Expr} {t:TT} (h:PT X c t):PTs X [c] t:=fun pins s σ H Q I q=>wpAny_tests_one (h pins s σ H Q I q)
def tComp (wi:TI) (js:List (Option Nat)) (g:Blk -> TG) (tc:Blk -> TT) (te:Blk -> TE):TE:=fun σ H Q=>wi σ H fun J H1=>∀ (B:Blk) D,H1 D = none -> ∃ W:Nat -> Nat -> St -> Hp -> Prop,(∃ m,W 0 m (sub js σ) (upd H1 D (.lst []))) /\ ∀ i m σ' H',W i m σ' H' ->
 (J.stop i H' /\ Q (.ref D) H') ∨ (J.go i H' /\ ∃ N:St -> Hp -> Prop,(∀ σ2 H2,N σ2 H2 -> ∃ m',m' < m /\ W (i + 1) m' σ2 H2) /\ ∀ y H2,J.yld i H' y H2 -> g B y σ' H2 fun σ3 H3=>tc B σ3 H3 fun b H4 =>
  if b = true then te B σ3 H4 fun v H5=>∃ ys,H5 D = some (.lst ys) /\ ys.length < sizeLine /\ N σ3 (upd H5 D (.lst (ys ++ [v]))) else N σ3 H4)
theorem relabel_free {scope:Scope} {env:Env} {y:Str} (h:(relabel scope env).names.lookup y = some .cell ∨ (relabel scope env).names.lookup y = some .free):(y,NameKind.free) ∈ scope.names ∨ (y,NameKind.cell) ∈ scope.names:=by
 have key:∀ k,(y,k) ∈ (relabel scope env).names -> (k = .cell ∨ k = .free) -> (y,NameKind.free) ∈ scope.names ∨ (y,NameKind.cell) ∈ scope.names:=by
  intro k hm hk
  obtain ⟨⟨n,q⟩,hn,e⟩:=List.mem_map.mp hm
  dsimp only at e
  split at e
  ·rename_i c
   simp only [Bool.and_eq_true] at c
   have:q = .free:=eq_of_beq c.1.1
   subst this
   cases e
   exact .inl hn
  ·cases e
   rcases hk with rfl | rfl
   ·exact .inr hn
   ·exact .inl hn
 rcases h with h | h
 ·exact key _ (PySem.mem_of_lookup h) (.inl rfl)
 ·exact key _ (PySem.mem_of_lookup h) (.inr rfl)
theorem relabel_of_free {scope:Scope} {env:Env} {y:Str} (h:scope.names.lookup y = some .free):(relabel scope env).names.lookup y = some .cell ∨ (relabel scope env).names.lookup y = some .free:=by
 show (List.lookup y (scope.names.map _)) = _ ∨ (List.lookup y (scope.names.map _)) = _
 generalize scope.names = l at h
 induction l with
 | nil=>simp at h
 | cons a r ih =>
  obtain ⟨n,k⟩:=a
  rw [List.lookup_cons] at h
  rw [List.map_cons]
  cases e:y == n with
  | true =>
   rw [e] at h
   cases h
   dsimp only
   split
   ·left; rw [List.lookup_cons,e]
   ·right; rw [List.lookup_cons,e]
  | false =>
   rw [e] at h
   dsimp only
   split <;> (rw [List.lookup_cons,e]; exact ih h)
theorem cellsFrom_app:∀ (names:List (Str × NameKind)) (n:Nat) (acc:List (Str × Addr)),cellsFrom n names acc = cellsFrom n names [] ++ acc
 | [],_,_=>rfl
 | (x,k) :: r,n,acc=>by
  unfold cellsFrom
  split
  ·rw [cellsFrom_app r (n + 1) ((x,n) :: acc),cellsFrom_app r (n + 1) [(x,n)],List.append_assoc]; rfl
  ·exact cellsFrom_app r n acc
theorem cellsFrom_kind:∀ (names:List (Str × NameKind)) (n:Nat) (y:Str) (c:Addr),(y,c) ∈ cellsFrom n names [] -> (y,NameKind.cell) ∈ names
 | [],_,_,_,h=>(nomatch h)
 | (x,k) :: r,n,y,c,h=>by
  unfold cellsFrom at h
  split at h
  ·rename_i hk
   rw [cellsFrom_app] at h
   rcases List.mem_append.mp h with h | h
   ·exact List.mem_cons_of_mem _ (cellsFrom_kind r _ y c h)
   ·have e:=List.mem_singleton.mp h
    cases e
    rw [show k = .cell from eq_of_beq hk]
    exact List.mem_cons_self
  ·exact List.mem_cons_of_mem _ (cellsFrom_kind r _ y c h)
theorem lookup_of_mem:∀ {l:List (Str × Addr)} {y:Str} {c:Addr},(y,c) ∈ l -> ∃ d,l.lookup y = some d
 | (x,k) :: r,y,c,h=>by
  rw [List.lookup_cons]
  cases e:y == x with
  | true=>exact ⟨_,rfl⟩
  | false =>
   rcases List.mem_cons.mp h with h | h
   ·cases h; simp at e
   ·exact lookup_of_mem h
theorem cellsFrom_has:∀ (names:List (Str × NameKind)) (n:Nat) (y:Str),(y,NameKind.cell) ∈ names -> ∃ c,(y,c) ∈ cellsFrom n names []
 | (x,k) :: r,n,y,h=>by
  unfold cellsFrom
  split
  ·rw [cellsFrom_app]
   rcases List.mem_cons.mp h with h | h
   ·cases h
    exact ⟨n,List.mem_append_right _ (List.mem_singleton.mpr rfl)⟩
   ·obtain ⟨c,q⟩:=cellsFrom_has r (n + 1) y h
    exact ⟨c,List.mem_append_left _ q⟩
  ·rename_i hk
   rcases List.mem_cons.mp h with h | h
   ·cases h; exact absurd rfl hk
   ·exact cellsFrom_has r n y h
theorem lookup_app {l r:List (Str × Addr)} {y:Str} {c:Addr} (h:(l ++ r).lookup y = some c):l.lookup y = some c ∨ (l.lookup y = none /\ r.lookup y = some c):=by
 rw [List.lookup_append] at h
 cases e:l.lookup y with
 | none=>rw [e] at h; exact .inr ⟨rfl,h⟩
 | some d=>rw [e] at h; exact .inl h
theorem lookup_appl {l r:List (Str × Addr)} {y:Str} {c:Addr} (h:l.lookup y = some c):(l ++ r).lookup y = some c:=by rw [List.lookup_append,h]; rfl
theorem lookup_appr {l r:List (Str × Addr)} {y:Str} (h:l.lookup y = none):(l ++ r).lookup y = r.lookup y:=by rw [List.lookup_append,h]; rfl
theorem wpAny_newCompEnv {M:Model} {A:Around} {E:Value -> Shared -> Prop} {s:Shared} {scope:Scope} {globals:Addr} {cl:List (Str × Addr)} {qual:Str} {outer:Env} {Q:Env -> Shared -> Prop}
  (h:∀ h₁:Heap,h₁.Ns s.heap.objs.size (fun _=>none) -> (∀ b o,s.heap.get? b = some o -> h₁.get? b = some o) -> CellsOk h₁ (s.heap.objs.size + 1) (cellsFrom (s.heap.objs.size + 1) scope.names []) ->
   Q (newEnv scope s.heap.objs.size globals (cellsFrom (s.heap.objs.size + 1) scope.names cl) qual none .none (some outer) builtinsNs) { s with heap:=h₁ }) :
  wpAny M A (newFunctionEnv scope globals cl [] qual none .none (some outer)) Q E s:=by
 simp only [newFunctionEnv,Option.isSome_some,if_true]
 refine wpAny_bind (wpAny_alloc ?_)
 refine wpAny_bind (wpAny_layCells _ (fun name kind cells=>by cases hkc:kind == NameKind.cell <;> simp [hkc]) _ _ _ _ ?_)
 have ok:=cellsFrom_ok scope.names (s.heap.push { cls:=.type "dict",data:=.dict #[] }) (s.heap.objs.size + 1) [] ⟨fun _ _ hm=>(nomatch hm),List.Pairwise.nil⟩ (by rw [Heap.size_push]; exact Nat.le_refl _)
 rw [Heap.size_push] at ok
 rw [show ({ s with heap:=s.heap.push { cls:=.type "dict",data:=.dict #[] } }:Shared).heap.objs.size = s.heap.objs.size + 1 from Heap.size_push ..]
 rw [List.forIn_nil]
 exact wpAny_bind (wpAny_pure (wpAny_pure (h _ ((Heap.Ns.new s.heap (.type "dict")).keeps (pushCells_keeps _ _)) (fun b o e=>pushCells_keeps _ _ b o (Heap.get?_push_of_some _ e)) ok)))
section
variable {X:Cx} {pins:List (Addr × Obj)} {σ:St} {H:Hp} {s:Shared} {scope:Scope} {cl:List (Str × Addr)} {N':List Str} {js:List (Option Nat)}
theorem inv_comp {fp:List Addr} {h₁:Heap} (I:Inv X pins σ H s) (hclo:closeL X.env.cells scope.names [] = some cl) (hdis:∀ y ∈ scope.names,y.2 = .free -> (y.1,NameKind.cell) ∉ scope.names) (hkind:scope.kind = .function) (cap:Cap X scope N' js)
  (hf:∀ b ∈ fp,FpOk X pins H b) (ho:∀ b ∈ fp,∃ o,s.heap.get? b = some o)
  (hns:h₁.Ns s.heap.objs.size (fun _=>none)) (hk:∀ b o,s.heap.get? b = some o -> h₁.get? b = some o) (cok:CellsOk h₁ (s.heap.objs.size + 1) (cellsFrom (s.heap.objs.size + 1) scope.names [])) {t':Nat} :
  Inv (cxComp X scope (cellsFrom (s.heap.objs.size + 1) scope.names cl) s.heap.objs.size N' s H fp pins) [] (sub js σ) H { s with heap:=h₁,toks:=t' }:=by
 have sb:=closeL_sub hclo (fun y c e=>by simp at e)
 rw [cellsFrom_app]
 generalize hnw:cellsFrom (s.heap.objs.size + 1) scope.names [] = nw at cok ⊢
 have nk:∀ y c,(y,c) ∈ nw -> (y,NameKind.cell) ∈ scope.names:=fun y c h=>by rw [← hnw] at h; exact cellsFrom_kind _ _ y c h
 have nh:∀ y,(y,NameKind.cell) ∈ scope.names -> ∃ c,nw.lookup y = some c:=fun y h=>by
  obtain ⟨c,q⟩:=cellsFrom_has scope.names (s.heap.objs.size + 1) y h
  rw [hnw] at q
  exact lookup_of_mem q
 have ng:∀ y c,nw.lookup y = some c -> h₁.IsCell c none /\ s.heap.objs.size + 1 <= c:=fun y c h=>cok.empty y c (PySem.mem_of_lookup h)
 have old:∀ y c,cl.lookup y = some c -> c < s.heap.objs.size:=fun y c h=>by
  obtain ⟨v,o,q1,q2⟩:=I.cell y c (sb y c h)
  exact Heap.lt_size q1
 have nf:∀ y,(y,NameKind.free) ∈ scope.names -> nw.lookup y = none:=fun y h=>by
  cases e:nw.lookup y with
  | none=>rfl
  | some c=>exact absurd (nk y c (PySem.mem_of_lookup e)) (hdis _ h rfl)
 refine ⟨⟨I.ok.mod,hkind,I.ok.glob,I.ok.blt,Nat.le_refl _,fun y z c h1 h2=>?_,fun y hy=>?_,fun y c z h=>?_,I.ok.hd,I.ok.frames,.inl rfl,fun b hb=>⟨?_,fun y c h=>?_⟩,I.bs,Nat.le_trans I.ok.bsz I.sz,fun b o e hb=>?_,fun b hb=>?_,I.stack,I.stkFree⟩,
  rfl,I.bare,Un.kept hk,⟨_,hns,fun i y v h1 h2 h3=>?_⟩,fun y c h=>?_,I.hok.fresh (Nat.le_refl _),fun y c h=>?_,fun p hp=>?_,I.hok.kept hk,?_⟩
 ·rcases lookup_app h1 with a | ⟨_,a⟩ <;> rcases lookup_app h2 with b | ⟨_,b⟩
  ·exact name_of_addr cok.apart (PySem.mem_of_lookup a) (PySem.mem_of_lookup b)
  ·exact absurd (Nat.lt_of_lt_of_le (old z c b) (Nat.le_of_succ_le (ng y c a).2)) (Nat.lt_irrefl _)
  ·exact absurd (Nat.lt_of_lt_of_le (old y c a) (Nat.le_of_succ_le (ng z c b).2)) (Nat.lt_irrefl _)
  ·exact I.ok.inj y z c (sb y c a) (sb z c b)
 ·show ∃ c,(nw ++ cl).lookup y = some c
  rcases relabel_free hy with q | q
  ·obtain ⟨c,e⟩:=closeL_has hclo y (.inl q)
   exact ⟨c,by rw [lookup_appr (nf y q)]; exact e⟩
  ·obtain ⟨c,e⟩:=nh y q
   exact ⟨c,lookup_appl e⟩
 ·have z:(y,NameKind.cell) ∈ scope.names:=PySem.mem_of_lookup (eq_of_beq z)
  obtain ⟨d,e⟩:=nh y z
  have h:(nw ++ cl).lookup y = some c:=h
  rw [lookup_appl e] at h
  have h:d = c:=Option.some.inj h
  rw [← h]
  exact Nat.le_of_succ_le (ng y d e).2
 ·obtain ⟨o,e⟩:=ho b hb
  exact Nat.ne_of_lt (Heap.lt_size e)
 ·rcases lookup_app h with a | ⟨_,a⟩
  ·obtain ⟨o,e⟩:=ho b hb
   rintro rfl
   exact absurd (Nat.lt_of_lt_of_le (Heap.lt_size e) (Nat.le_of_succ_le (ng y c a).2)) (Nat.lt_irrefl _)
  ·exact (hf b hb).2.2.2.2.1 y c (sb y c a)
 ·have fb:=hf b hb
  rcases fb.2.2.2.1 with z | z
  ·exact I.ok.noex b o e z
  ·have h1:b < X.base.objs.size:=Heap.lt_size e
   exact absurd (Nat.lt_of_lt_of_le h1 (Nat.le_trans I.ok.bsz z)) (Nat.lt_irrefl _)
 ·intro z
  have:=I.stkSub b z
  rcases List.mem_cons.mp this with z | z
  ·exact (hf b hb).2.1 z
  ·exact (hf b hb).2.2.1 z
 ·obtain ⟨j,k1,k2,k3,k4⟩:=cap.at h1 h2
  obtain ⟨m,hm,hl⟩:=I.loc
  have vis:Vis X.env.scope y:=by
   rcases k3 with k | k
   ·exact .inr (.inl k)
   ·exact .inr (.inr k)
  obtain ⟨u,r,lk⟩:=hl j y v k1 k2 vis
  refine ⟨u,r,.inr ⟨relabel_of_free k4,?_⟩⟩
  have q4:(y,NameKind.free) ∈ scope.names:=PySem.mem_of_lookup k4
  rcases lk with ⟨k5,_⟩ | ⟨_,c,e1,e2⟩
  ·rcases k3 with k | k <;> (rw [k] at k5; cases k5)
  ·obtain ⟨c',e3⟩:=closeL_has hclo y (.inl q4)
   have:=sb y c' e3
   rw [e1] at this
   cases this
   refine ⟨c,by show (nw ++ cl).lookup y = some c; rw [lookup_appr (nf y q4)]; exact e3,?_⟩
   obtain ⟨o,q1,q2⟩:=e2
   exact ⟨o,hk _ _ q1,q2⟩
 ·rcases lookup_app h with a | ⟨_,a⟩
  ·exact ⟨_,(ng y c a).1⟩
  ·obtain ⟨v,o,q1,q2⟩:=I.cell y c (sb y c a)
   exact ⟨v,o,hk _ _ q1,q2⟩
 ·rcases lookup_app h with a | ⟨_,a⟩
  ·exact I.hok.fresh (Nat.le_of_succ_le (ng y c a).2)
  ·exact I.freeC y c (sb y c a)
 ·have hp:p ∈ X.pn ++ pins:=by simpa [cxComp] using hp
  obtain ⟨q1,q2,q3,q4,q5⟩:=I.pin p hp
  refine ⟨hk _ _ q1,q2,Nat.ne_of_lt (Heap.lt_size q1),fun z=>?_,q5⟩
  have:=I.stkSub p.1 z
  rcases List.mem_cons.mp this with z | z
  ·exact q3 z
  ·exact q4 z
 ·simp [sub,cap.len]; rfl
theorem un_but {fs ex:List Addr} {H:Hp} {h h':Heap} {C:Addr} (hC:C ∈ ex) (hs:Heap.SameBut C h h'):Un fs ex H H h h' where
 keep:=fun b o e _ _ nx=>by rw [hs.2 b (by rintro rfl; exact nx hC)]; exact e
 slot:=fun b o e _ _ nx=>⟨o.slots,by rw [hs.2 b (by rintro rfl; exact nx hC)]; exact e⟩
 free:=fun b o _ n _=>n
 there:=fun b o e nx=>⟨o,by rw [hs.2 b (by rintro rfl; exact nx hC)]; exact e⟩
 tups:=fun _ _ h=>h
 frzs:=fun _ _ _ h=>h
 tbls:=fun b ps h=>⟨#[],by simpa using h⟩
theorem Inv.but {C:Addr} {h':Heap} (I:Inv X pins σ H s) (f:FpOk X pins H C) (hs:Heap.SameBut C s.heap h'):Inv X pins σ H { s with heap:=h' }:=by
 refine I.call' (s':={ s with heap:=h' }) (ch:=[C]) rfl (un_but List.mem_cons_self hs) ?_ I.bare (fun b hb=>?_)
 ·intro a o e
  refine ObjOk.stay (I.hok a o e) (fun b u hb q=>?_) (fun _ h=>h) (fun _ _ h=>h)
  show h'.get? b = some u
  rw [hs.2 b]
  ·exact q
  ·rintro rfl
   rcases hb with rfl | hb
   ·rw [f.1] at e; cases e
   ·rw [f.1] at hb; cases hb
 ·have:b = C:=by simpa using hb
  subst this
  exact ⟨f.2.2.2.1,f.2.1,f.2.2.2.2.1,f.2.2.2.2.2⟩
variable {elt iter:Expr} {x:Str} {px pos:Pos} {ifs:List Expr} {wi:TI} {g:TG} {tc:TT} {te:TE} {Q:VK} {gB:Blk -> TG} {tcB:Blk -> TT} {teB:Blk -> TE}
theorem comp_loop {prog:Program} {w:World} {A:Around} {R:Result -> Shared -> Prop} {e tg it0:Expr} {cs:List Expr} {sc:Scope} {ps:Pos} {itv av:Value} {cenv:Env} {z:Shared} (J:Nat -> Shared -> Prop)
  (turn:∀ k z,J k z -> wpAny (model prog w) A (pyNext itv) (fun r z1=>match r with
   | none=>R (.ok .next) z1
   | some u=>wpAny (model prog w) A (letOwnedTupleGo tg itv u) (fun _ z2=>wpAny (model prog w) A (assign tg cenv u) (fun _ z3 =>
     wpAny (model prog w) A (forIn cs true fun c r=>if r = true then do let ok ← isTrue c cenv (eval c cenv); pure (ForInStep.yield ok) else pure (ForInStep.yield r)) (fun b z4 =>
      if b = true then wpAny (model prog w) A (eval e cenv) (fun y z5 =>
       wpAny (model prog w) A (call (.builtin "list.append") [av,y]) (fun _ z6=>∃ m,m < k /\ J m z6) (fun _ _=>False) z5) (fun _ _=>False) z4
      else ∃ m,m < k /\ J m z4) (fun _ _=>False) z3) (fun _ _=>False) z2) (fun _ _=>False) z1) (fun _ _=>False) z)
  (k:Nat) (h:J k z):codeAny (model prog w) A (.compLoop (.ListComp e [⟨tg,it0,cs,0⟩] sc ps) 0 itv av cenv) R z:=by
 have no:∀ {α:Type} {m:Sem α} {P:α -> Shared -> Prop} {E:Value -> Shared -> Prop} {z:Shared},wpAny (model prog w) A m P (fun _ _=>False) z -> wpAny (model prog w) A m P E z:=fun h=>wpAny_mono h (fun _ _ q=>q) fun _ _ q=>q.elim
 refine codeAny_loop rfl J (fun k z hJ=>?_) k h
 show wpAny _ A ((compTurn (.ListComp e [⟨tg,it0,cs,0⟩] sc ps) 0 itv av cenv).onRaise (fun x=>do noteFrame x cenv; theTreesLotGoes x)) _ _ z
 refine wpAny_noted ?_
 rw [compTurn_list]
 refine wpAny_bind (wpAny_standAt (wpAny_bind (no (thn (turn k z hJ) fun r z1 q1=>?_))))
 cases r with
 | none=>exact wpAny_pure q1
 | some u =>
  refine wpAny_bind (no (thn q1 fun _ z2 q2=>wpAny_bind (no (thn q2 fun _ z3 q3=>wpAny_bind (no (thn q3 fun b z4 q4=>?_))))))
  cases b with
  | false=>exact wpAny_pure ⟨rfl,q4⟩
  | true=>exact wpAny_bind (wpAny_bind (no (thn q4 fun y z5 q5=>wpAny_bind (no (thn q5 fun _ z6 q6=>wpAny_pure (wpAny_pure ⟨rfl,q6⟩))))))
theorem comp_block {RR:Value -> Addr -> Result -> Shared -> Prop} {s3:Shared} {H3:Hp} {D it:Addr} {fp:List Addr} {tn:Nat -> Heap -> Prop} {J:It} {W:Nat -> Nat -> St -> Hp -> Prop} {m0 t':Nat} {h₁:Heap} {tg:Expr}
  (hc:X.calm = true) (hclo:closeL X.env.cells scope.names [] = some cl) (hdis:∀ y ∈ scope.names,y.2 = .free -> (y.1,NameKind.cell) ∉ scope.names) (hkind:scope.kind = .function) (cap:Cap X scope N' js)
  (hb:PG (cxComp X scope (cellsFrom (s3.heap.objs.size + 1) scope.names cl) s3.heap.objs.size N' s3 H3 fp pins) tg g /\ PTs (cxComp X scope (cellsFrom (s3.heap.objs.size + 1) scope.names cl) s3.heap.objs.size N' s3 H3 fp pins) ifs tc /\ PE (cxComp X scope (cellsFrom (s3.heap.objs.size + 1) scope.names cl) s3.heap.objs.size N' s3 H3 fp pins) elt te)
  (I3:Inv X pins σ H3 s3) (T:Turn X.prog X.w X.K tg J fp it tn) (st3:tn 0 s3.heap) (f3:∀ b ∈ fp,FpOk X pins H3 b) (w0:W 0 m0 (sub js σ) H3)
  (turn:∀ i m σ' H',W i m σ' H' -> (J.stop i H' /\ Q (.ref D) H') ∨ (J.go i H' /\ ∃ N:St -> Hp -> Prop,(∀ σ2 H2,N σ2 H2 -> ∃ m',m' < m /\ W (i + 1) m' σ2 H2) /\ ∀ y H2,J.yld i H' y H2 -> g y σ' H2 fun σ3 H3=>tc σ3 H3 fun b H4 =>
   if b = true then te σ3 H4 fun v H5=>∃ ys,H5 D = some (.lst ys) /\ ys.length < sizeLine /\ N σ3 (upd H5 D (.lst (ys ++ [v]))) else N σ3 H4))
  (hns:h₁.Ns s3.heap.objs.size (fun _=>none)) (hk:∀ b o,s3.heap.get? b = some o -> h₁.get? b = some o) (cok:CellsOk h₁ (s3.heap.objs.size + 1) (cellsFrom (s3.heap.objs.size + 1) scope.names []))
  (hR:∀ s' H' m,Inv X pins σ H' s' -> FpOk X pins H' s3.heap.objs.size -> s'.heap.Ns s3.heap.objs.size m -> Q (.ref D) H' -> RR (.ref D) s3.heap.objs.size (.ok .next) s') :
  codeAny (model X.prog X.w) X.A (.compStart (.ListComp elt [⟨tg,iter,ifs,0⟩] scope pos) 0 (.ref it) (.ref D) (compEnvC scope (cellsFrom (s3.heap.objs.size + 1) scope.names cl) s3.heap.objs.size X.env)) (RR (.ref D) s3.heap.objs.size) { s3 with heap:=h₁,toks:=t' }:=by
 have ob3:∀ b ∈ fp,∃ o,s3.heap.get? b = some o:=fun b hb=>let ⟨o,e,_⟩:=T.obj _ _ st3 b hb; ⟨o,e⟩
 have I0:Inv (cxComp X scope (cellsFrom (s3.heap.objs.size + 1) scope.names cl) s3.heap.objs.size N' s3 H3 fp pins) [] (sub js σ) H3 { s3 with heap:=h₁,toks:=t' }:=inv_comp I3 hclo hdis hkind cap f3 ob3 hns hk cok
 have tn0:tn 0 h₁:=T.keep _ _ _ st3 fun b _ o e=>hk b o e
 have hC:FpOk X pins H3 s3.heap.objs.size:=I3.fpOk (Nat.le_refl _) (I3.hok.fresh (Nat.le_refl _))
 obtain ⟨bg,bt,be⟩:=hb
 have stat:∀ {H':Hp},(∀ b ∈ fp,H' b = none) -> ∀ b ∈ fp,FpOk (cxComp X scope (cellsFrom (s3.heap.objs.size + 1) scope.names cl) s3.heap.objs.size N' s3 H3 fp pins) [] H' b:=fun {H'} hn b hb=>by
  obtain ⟨o,e⟩:=ob3 b hb
  refine ⟨hn b hb,Nat.ne_of_lt (Heap.lt_size e),I0.ok.exfs b hb,.inl hb,fun y c h=>(I0.ok.exf b hb).2 y c h,fun p hp=>?_⟩
  exact (f3 b hb).2.2.2.2.2 p (by simpa [cxComp] using hp)
 have loop:codeAny (model X.prog X.w) X.A (.compLoop (.ListComp elt [⟨tg,iter,ifs,0⟩] scope pos) 0 (.ref it) (.ref D) (compEnvC scope (cellsFrom (s3.heap.objs.size + 1) scope.names cl) s3.heap.objs.size X.env)) (RR (.ref D) s3.heap.objs.size) { s3 with heap:=h₁,toks:=t' }:=by
  refine comp_loop (fun n s'=>∃ i σ' H',Inv (cxComp X scope (cellsFrom (s3.heap.objs.size + 1) scope.names cl) s3.heap.objs.size N' s3 H3 fp pins) [] σ' H' s' /\ tn i s'.heap /\ (∀ b ∈ fp,H' b = none) /\ W i n σ' H') (fun n s4 hJ=>?_) m0 ⟨0,sub js σ,H3,I0,tn0,fun b hb=>(f3 b hb).1,w0⟩
  obtain ⟨i,σ4,H4,I4,st4,fr4,w4⟩:=hJ
  rcases turn i n σ4 H4 w4 with ⟨stop,q⟩ | ⟨go,N,hN,step⟩
  ·refine thn (T.done (cxComp X scope (cellsFrom (s3.heap.objs.size + 1) scope.names cl) s3.heap.objs.size N' s3 H3 fp pins) rfl rfl rfl hc i [] s4 σ4 H4 _ I4 (stat fr4) st4 stop) fun r s5 ⟨hr,I5⟩=>?_
   subst hr
   have u:Un (frs X.stack) fp H3 H4 s3.heap s5.heap:=I5.base
   have free:H4 s3.heap.objs.size = none:=I5.free
   have back:Inv X pins σ H4 s5:=by
    refine I3.call' (s':=s5) (ch:=s3.heap.objs.size :: fp) I5.os (u.mono (fun _ h=>h) fun b h=>List.mem_cons_of_mem _ h) I5.hok I5.bare (fun b hb=>?_)
    rcases List.mem_cons.mp hb with rfl | hb
    ·exact ⟨hC.2.2.2.1,hC.2.1,hC.2.2.2.2.1,hC.2.2.2.2.2⟩
    ·have:=f3 b hb
     exact ⟨this.2.2.2.1,this.2.1,this.2.2.2.2.1,this.2.2.2.2.2⟩
   obtain ⟨m,hm,_⟩:=I5.loc
   exact hR s5 H4 m back ⟨free,hC.2⟩ hm q
  ·refine thn (T.item (cxComp X scope (cellsFrom (s3.heap.objs.size + 1) scope.names cl) s3.heap.objs.size N' s3 H3 fp pins) rfl rfl rfl hc i [] s4 σ4 H4 _ I4 (stat fr4) st4 go) fun r s5 ⟨u,hr,h5⟩=>?_
   subst hr
   refine thn h5 fun _ s6 ⟨y,H6,I6,r6,y6,st6,fr6⟩=>?_
   have I6':=I6.pinned (stat fr6) (T.obj _ _ st6)
   refine thn (bg _ s6 σ4 H6 y u _ I6' r6 (step y H6 y6)) fun _ s7 ⟨σ7,H7,I7,q7⟩=>?_
   refine thn (bt _ s7 σ7 H7 _ I7 q7) fun b s8 ⟨H8,I8,q8⟩=>?_
   have again:∀ {H':Hp} {s':Shared},Inv (cxComp X scope (cellsFrom (s3.heap.objs.size + 1) scope.names cl) s3.heap.objs.size N' s3 H3 fp pins) ([] ++ pinsAt fp s6.heap) σ7 H' s' -> N σ7 H' -> ∃ m,m < n /\ ∃ i σ' H',Inv (cxComp X scope (cellsFrom (s3.heap.objs.size + 1) scope.names cl) s3.heap.objs.size N' s3 H3 fp pins) [] σ' H' s' /\ tn i s'.heap /\ (∀ b ∈ fp,H' b = none) /\ W i m σ' H':=fun {H' s'} I9 n9=>by
    obtain ⟨m',hm,w9⟩:=hN σ7 H' n9
    refine ⟨m',hm,i + 1,σ7,H',I9.unpinned,T.keep _ _ _ st6 fun b hb o e=>(I9.pin (b,o) (List.mem_append_right _ (List.mem_append_right _ (mem_pinsAt hb e)))).1,fun b hb=>?_,w9⟩
    obtain ⟨o,e,d⟩:=T.obj _ _ st6 b hb
    exact (I9.pin (b,o) (List.mem_append_right _ (List.mem_append_right _ (mem_pinsAt hb e)))).2.1
   cases b with
   | false=>exact iteF (again I8 q8)
   | true =>
    refine iteT (thn (be _ s8 σ7 H8 _ I8 q8) fun yv s9 ⟨v9,H9,I9,r9,ys,hD,hl,n9⟩=>?_)
    exact thn (mt_append _ s9 σ7 H9 (.ref D) [v9] (.ref D) [yv] (fun _ H'=>H' = upd H9 D (.lst (ys ++ [v9]))) I9 rfl (.cons r9 .nil) ⟨D,ys,v9,rfl,rfl,hD,hl,rfl⟩) fun _ s10 ⟨_,H10,I10,_,e10⟩=>by
     subst e10
     exact again I10 n9
 exact codeAny_compStart_list loop (T.self _ 0 _ _ _ tn0 loop)
theorem comp_run {RR:Value -> Addr -> Result -> Shared -> Prop} {tg:Expr} (hc:X.calm = true) (hclo:closeL X.env.cells scope.names [] = some cl) (hdis:∀ y ∈ scope.names,y.2 = .free -> (y.1,NameKind.cell) ∉ scope.names) (hkind:scope.kind = .function) (cap:Cap X scope N' js)
  (hi:PI X tg iter wi)
  (hb:∀ B:Blk,PG (cxB X scope cl N' B) tg (gB B) /\ PTs (cxB X scope cl N' B) ifs (tcB B) /\ PE (cxB X scope cl N' B) elt (teB B))
  (I:Inv X pins σ H s) (h:tComp wi js gB tcB teB σ H Q)
  (hR:∀ D C s' H' m,Inv X pins σ H' s' -> FpOk X pins H' C -> s'.heap.Ns C m -> Q (.ref D) H' -> RR (.ref D) C (.ok .next) s') :
  wpAny (model X.prog X.w) X.A (eval iter X.env) (fun v s1=>wpAny (model X.prog X.w) X.A (pyIter v) (fun it s2=>wpAny (model X.prog X.w) X.A (newList []) (fun acc s3 =>
   wpAny (model X.prog X.w) X.A (newFunctionEnv scope X.env.globals cl [] X.env.qual none .none (some X.env)) (fun cenv s4 =>
    codeAny (model X.prog X.w) X.A (.compStart (.ListComp elt [⟨tg,iter,ifs,0⟩] scope pos) 0 it acc { cenv with scope:=relabel scope X.env }) (RR acc cenv.locals) s4) X.xe s3) X.xe s2) X.xe s1) X.xe s:=by
 refine thn (hi pins s σ H _ I h) fun v s1 h1=>thn h1 fun itv s2 h2=>?_
 obtain ⟨it,fp,tn,J,H2,e,I2,T,st2,f2,h2⟩:=h2
 subst e
 have hD0:H2 s2.heap.objs.size = none:=I2.hok.fresh (Nat.le_refl _)
 obtain ⟨W,⟨m0,w0⟩,turn⟩:=h2 ⟨(s2.heap.push { cls:=.type "list",data:=.seq ([]:List Value).toArray }).objs.size,{ s2 with heap:=s2.heap.push { cls:=.type "list",data:=.seq ([]:List Value).toArray } },upd H2 s2.heap.objs.size (.lst []),fp,pins⟩ s2.heap.objs.size hD0
 refine wpAny_newObj_type (wpAny_newCompEnv (fun h₁ hns₁ hk₁ cok₁=>?_))
 have I3:Inv X pins σ (upd H2 s2.heap.objs.size (.lst [])) { s2 with heap:=s2.heap.push { cls:=.type "list",data:=.seq ([]:List Value).toArray } }:=I2.lnew .nil (Nat.zero_le _)
 refine comp_block (s3:={ s2 with heap:=s2.heap.push { cls:=.type "list",data:=.seq ([]:List Value).toArray } }) (cl:=cl) (fp:=fp) hc hclo hdis hkind cap (hb ⟨(s2.heap.push { cls:=.type "list",data:=.seq ([]:List Value).toArray }).objs.size,{ s2 with heap:=s2.heap.push { cls:=.type "list",data:=.seq ([]:List Value).toArray } },upd H2 s2.heap.objs.size (.lst []),fp,pins⟩) I3 T ?_ (fun b hb=>?_) w0 turn hns₁ hk₁ cok₁ (fun s' H' m=>hR _ _ s' H' m)
 ·exact T.keep _ _ _ st2 fun b _ o e=>Heap.get?_push_of_some _ e
 ·have:=f2 b hb
  obtain ⟨o,e,_⟩:=T.obj _ _ st2 b hb
  exact ⟨by show upd H2 s2.heap.objs.size (.lst []) b = none; rw [upd_ne (Nat.ne_of_lt (Heap.lt_size e))]; exact this.1,this.2⟩
theorem pe_comp {tg:Expr} (hc:X.calm = true) (hclo:closeL X.env.cells scope.names [] = some cl) (hdis:∀ y ∈ scope.names,y.2 = .free -> (y.1,NameKind.cell) ∉ scope.names) (hkind:scope.kind = .function) (cap:Cap X scope N' js)
  (hnames:∀ y ∈ scope.names,y.2 = .local -> scope.names.lookup y.1 = some .local) (hi:PI X tg iter wi)
  (hb:∀ B:Blk,PG (cxB X scope cl N' B) tg (gB B) /\ PTs (cxB X scope cl N' B) ifs (tcB B) /\ PE (cxB X scope cl N' B) elt (teB B))
  (hs:∀ v,foldedSetIterable iter X.env v = pure v:=by intro _; rfl):PE X (.ListComp elt [⟨tg,iter,ifs,0⟩] scope pos) (tComp wi js gB tcB teB):=by
 intro pins s σ H Q I h
 rw [eval_ListComp]
 refine wpAny_comprehension_free (use:=none) rfl hs (closureFor_of hclo) hkind hnames (comp_run (RR:=fun acc C=>compPost (model X.prog X.w) X.A X.xe none (EP X pins σ Q) acc C) hc hclo hdis hkind cap hi hb I h ?_)
 intro D C s' H' m I' f hm q
 exact ⟨m,hm,fun h' hs'=>⟨.ref D,H',I'.but f hs',rfl,q⟩⟩
theorem ps_comp {tg:Expr} {i:Nat} {y:Str} {py spos:Pos} (hN:X.N.Nodup) (hy:X.N[i]? = some y) (hl:X.env.scope.names.lookup y = some .local) (hc:X.calm = true) (hclo:closeL X.env.cells scope.names [] = some cl) (hdis:∀ y ∈ scope.names,y.2 = .free -> (y.1,NameKind.cell) ∉ scope.names) (hkind:scope.kind = .function) (cap:Cap X scope N' js)
  (hnames:∀ y ∈ scope.names,y.2 = .local -> scope.names.lookup y.1 = some .local) (hi:PI X tg iter wi)
  (hb:∀ B:Blk,PG (cxB X scope cl N' B) tg (gB B) /\ PTs (cxB X scope cl N' B) ifs (tcB B) /\ PE (cxB X scope cl N' B) elt (teB B))
  (hsw:swapsWith (.ListComp elt [⟨tg,iter,ifs,0⟩] scope pos) (some (.Name y py)) spos.line X.env = pure true:=by rfl)
  (hs:∀ v,foldedSetIterable iter X.env v = pure v:=by intro _; rfl):PS X (.Assign [.Name y py] (.ListComp elt [⟨tg,iter,ifs,0⟩] scope pos) spos) (tAsg (tComp wi js gB tcB teB) (gName i)):=by
 intro pins s σ H D I h
 rw [exec_Assign_Name_used _ _ _ _ hsw]
 refine wpAny_bind (wpAny_standAt (wpAny_bind ?_))
 show wpAny _ X.A (do let _ ← comprehension (.ListComp elt [⟨tg,iter,ifs,0⟩] scope pos) scope X.env _ (newList []) false (eval iter X.env) (some (assign (.Name y py) X.env))) _ _ s
 refine wpAny_bind (thn (wpAny_comprehension_free (use:=some (assign (.Name y py) X.env)) (Q:=fun _ s'=>SP X pins D .next s') rfl hs (closureFor_of hclo) hkind hnames
  (comp_run (RR:=fun acc C=>compPost (model X.prog X.w) X.A X.xe (some (assign (.Name y py) X.env)) (fun _ s'=>SP X pins D .next s') acc C) hc hclo hdis hkind cap hi hb I h ?_)) fun _ s' q=>wpAny_pure (wpAny_pure q))
 intro Dl C s' H' m I' f hm q
 show wpAny _ X.A (assign (.Name y py) X.env (.ref Dl)) _ _ _
 refine wpAny_assign_Name (store_ok2 I' hN hy (.inl hl) (v:=.ref Dl) rfl (fun s2 I2 hch=>?_) (.inr hl))
 obtain ⟨a,hsb,ha⟩:=hch
 have hCa:C ≠ a:=by
  rcases ha with rfl | ha
  ·exact f.2.1
  ·exact fun z=>f.2.2.2.2.1 y a ha z.symm
 refine ⟨m,hm.sameBut hsb hCa,fun h' hs'=>⟨_,H',I2.but f hs',q⟩⟩
end
end L2
namespace L2
open PySem PySem.Spec PyProof.Rows
section
end
end L2
namespace L2
open PySem PySem.Spec PyProof.Rows
section
variable {P:Program} {w:World} {H:Hp} {h:Heap} {a:Addr} {o:HO}
end
section
variable {X:Cx} {pins:List (Addr × Obj)} {σ:St} {H H':Hp} {s s':Shared} {B h':Heap}
end
section
variable {X:Cx} {pins:List (Addr × Obj)} {σ:St} {H H':Hp} {s s':Shared} {B h':Heap} {W:St -> XK} {e:Value}
end
end L2
namespace L2
open PySem PySem.Spec PyProof.Rows
section
variable {X:Cx} {pins:List (Addr × Obj)} {σ:St} {H H':Hp} {s s':Shared} {B h':Heap} {W:St -> XK} {e:Value}
end
section
variable {X:Cx} {k:Nat} {f C:Addr} {fd:FuncData} {ps:List Str} {sp:Sp} {dvs:List V} {ds:List Value} {W:St -> XK} {x m:Str} {p pos apos:Pos} {e o:Expr} {es:List Expr} {ta:TE} {t:TA}
end
section
variable {X:Cx} {W:St -> XK} {C:Addr} {x:Str} {np cpos pos:Pos} {e:Expr} {es:List Expr} {t:TA}
end
end L2
namespace L2
open PySem PySem.Spec PyProof.Rows
def excA (C:Addr) (dd:Option Addr) (ea:Addr):HO:=.ext fun h=>∃ o,h.get? ea = some o /\ o.cls = .ref C /\ o.dict = dd /\ ∃ vs,o.data = .fields vs
abbrev excO (C ea:Addr):HO:=excA C none ea
section
variable {X:Cx} {pins:List (Addr × Obj)} {σ:St} {H H':Hp} {s s':Shared} {B h':Heap} {W:St -> XK} {e:Value}
end
section
variable {X:Cx} {body suite:List Stmt} {b0:Stmt} {n x:Str} {np hpos pos:Pos} {C0:Addr} {i:Nat} {Wo:St -> XK}
end
end L2
namespace L2
open PySem PySem.Spec PyProof.Rows
open PySem.W (Looks)
section
variable {prog:Program} {w:World} {A:Around} {E:Value -> Shared -> Prop} {s:Shared} {K:PySem.W.Frag} {x D:Addr}
open PySem.W PySem.Calls Builtin Builtin.ObjectAttr Builtin.Getset_descriptor in
end
end L2
namespace L2
open PySem PySem.Spec PyProof.Rows
open PySem.W (Looks)
section
variable {prog:Program} {w:World} {A:Around} {E:Value -> Shared -> Prop} {s:Shared} {K:PySem.W.Frag} {x dx C:Addr} {mA:Str -> Option Value} {name:Str} {v:Value}
open PySem.W in
end
def exD (fs:List (Str × V)) (dx:Addr):HO:=.ext fun h=>∃ mA,h.Ns1 dx mA /\ (∀ f,RelO (fs.lookup f) (mA f)) /\ PySem.Within mA (fs.map (·.1)) /\ fs.length <= 1000
section
variable {X:Cx} {pins:List (Addr × Obj)} {σ:St} {H:Hp} {s:Shared} {a C dx:Addr} {fs:List (Str × V)} {f:Str} {v:V} {A:Around} {E:Value -> Shared -> Prop}
end
section
variable {X:Cx} {o e value:Expr} {f:Str} {pos pos' tpos:Pos} {ta tv:TE}
end
section
variable {K:PySem.W.Frag} {C fI:Addr}
section
variable {prog:Program} {w:World} {A:Around} {E:Value -> Shared -> Prop} {s:Shared}
end
end
end L2
namespace L2
open PySem PySem.Spec PyProof.Rows
section
variable {X:Cx} {pins:List (Addr × Obj)} {σ:St} {H G:Hp} {s s':Shared} {a:Addr} {W:St -> XK}
end
section
variable {X:Cx} {W:St -> XK} {k:Nat} {C f:Addr} {fd:FuncData} {ps:List Str} {a1 a2 x:Str} {np cpos pos:Pos} {e:Expr} {es:List Expr} {t:TA}
end
end L2
namespace DL
open PySem PySem.Spec L2
open PyProof.Rows hiding St
inductive D where
 | non | bl (b:Bool) | int (i:Int) | str (x:Str) | ty (n:String) | tup (ds:List D) | lst (ds:List D)
 | dK (ks:List Key) (ds:List D) | dT (ks:List (List Key)) (ds:List D) | pen | exc (C:Addr) | cls (C:Addr) | exa (C:Addr) (fs:List (Str × V))
inductive O where
 | val (d:D) | lst (os:List O) | dct (ks:List (List Key)) (os:List O) | tup (os:List O)
inductive Sl where
 | nil | val (d:D) | own (ds:List D) | obj (o:O) | pin (v:V) (d:D)
section
variable (K:PySem.W.Frag) (pp:Option Addr) (M:List Addr) (H:Hp)
mutual
def Rep:D -> V -> Prop
 | .non,v=>v = .non
 | .bl b,v=>v = .bl b
 | .int i,v=>v = .int i
 | .str x,v=>v = .str x
 | .ty n,v=>v = .ty n
 | .tup ds,v=>∃ a xs,v = .ref a /\ H a = some (.tup xs) /\ Reps ds xs
 | .lst ds,v=>∃ a xs,v = .ref a /\ a ∉ M /\ pp ≠ some a /\ H a = some (.lst xs) /\ Reps ds xs
 | .dK ks ds,v=>∃ a kvs,v = .ref a /\ a ∉ M /\ pp ≠ some a /\ H a = some (.dK kvs) /\ kvs.map (·.1) = ks /\ Reps ds (kvs.map (·.2))
 | .dT ks ds,v=>∃ a kvs,v = .ref a /\ a ∉ M /\ pp ≠ some a /\ H a = some (.dT kvs) /\ kvs.map (·.1) = ks /\ Reps ds (kvs.map (·.2))
 | .pen,v=>∃ p,v = .ref p /\ pp = some p /\ ∃ a ns t l,Pen K H p a ns t l
 | .exc C,v=>∃ a,v = .ref a /\ a ∉ M /\ pp ≠ some a /\ H a = some (excO C a)
 | .cls C,v=>v = .ref C
 | .exa C fs,v=>∃ a dx,v = .ref a /\ a ∉ M /\ pp ≠ some a /\ H a = some (excA C (some dx) a) /\ dx ∉ M /\ pp ≠ some dx /\ H dx = some (exD fs dx)
def Reps:List D -> List V -> Prop
 | [],xs=>xs = []
 | d :: ds,xs=>∃ x r,xs = x :: r /\ Rep d x /\ Reps ds r
end
end
section
variable {K:PySem.W.Frag} {pp:Option Addr} {M M' M'':List Addr} {H H' H'':Hp}
structure Mv (K:PySem.W.Frag) (pp:Option Addr) (M:List Addr) (H:Hp) (M':List Addr) (H':Hp):Prop where
 tup:∀ a xs,H a = some (.tup xs) -> H' a = some (.tup xs)
 oth:∀ a o,H a = some o -> a ∉ M -> pp ≠ some a -> H' a = some o /\ a ∉ M'
 pen:∀ p,pp = some p -> (∃ a ns t l,Pen K H p a ns t l) -> ∃ a ns t l,Pen K H' p a ns t l
theorem Mv.lst (m:Mv K pp M H M' H') (a:Addr) (xs:List V) (h:H a = some (.lst xs)) (n:a ∉ M) (q:pp ≠ some a):H' a = some (.lst xs) /\ a ∉ M':=m.oth a _ h n q
theorem Mv.refl:Mv K pp M H M H:=⟨fun _ _ h=>h,fun _ _ h n _=>⟨h,n⟩,fun _ _ h=>h⟩
theorem Mv.trans (x:Mv K pp M H M' H') (y:Mv K pp M' H' M'' H''):Mv K pp M H M'' H'' :=
 ⟨fun a xs h=>y.tup a xs (x.tup a xs h),fun a xs h n q=>y.oth a xs (x.oth a xs h n q).1 (x.oth a xs h n q).2 q,fun p e h=>y.pen p e (x.pen p e h)⟩
mutual
theorem Rep.mv (m:Mv K pp M H M' H'):∀ (d:D) (v:V),Rep K pp M H d v -> Rep K pp M' H' d v
 | .non,_,h=>by simp only [Rep] at h ⊢; exact h
 | .bl _,_,h=>by simp only [Rep] at h ⊢; exact h
 | .int _,_,h=>by simp only [Rep] at h ⊢; exact h
 | .str _,_,h=>by simp only [Rep] at h ⊢; exact h
 | .ty _,_,h=>by simp only [Rep] at h ⊢; exact h
 | .tup ds,_,h=>by
  simp only [Rep] at h ⊢
  obtain ⟨a,xs,e,h1,h2⟩:=h
  exact ⟨a,xs,e,m.tup a xs h1,Reps.mv m ds xs h2⟩
 | .lst ds,_,h=>by
  simp only [Rep] at h ⊢
  obtain ⟨a,xs,e,h0,hp,h1,h2⟩:=h
  exact ⟨a,xs,e,(m.lst a xs h1 h0 hp).2,hp,(m.lst a xs h1 h0 hp).1,Reps.mv m ds xs h2⟩
 | .dK ks ds,_,h=>by
  simp only [Rep] at h ⊢
  obtain ⟨a,xs,e,h0,hp,h1,h2,h3⟩:=h
  exact ⟨a,xs,e,(m.oth a _ h1 h0 hp).2,hp,(m.oth a _ h1 h0 hp).1,h2,Reps.mv m ds _ h3⟩
 | .dT ks ds,_,h=>by
  simp only [Rep] at h ⊢
  obtain ⟨a,xs,e,h0,hp,h1,h2,h3⟩:=h
  exact ⟨a,xs,e,(m.oth a _ h1 h0 hp).2,hp,(m.oth a _ h1 h0 hp).1,h2,Reps.mv m ds _ h3⟩
 | .pen,_,h=>by
  simp only [Rep] at h ⊢
  obtain ⟨p,e,e2,h⟩:=h
  exact ⟨p,e,e2,m.pen p e2 h⟩
 | .exc C,_,h=>by
  simp only [Rep] at h ⊢
  obtain ⟨a,e,h0,hp,h1⟩:=h
  exact ⟨a,e,(m.oth a _ h1 h0 hp).2,hp,(m.oth a _ h1 h0 hp).1⟩
 | .cls _,_,h=>by simp only [Rep] at h ⊢; exact h
 | .exa C fs,_,h=>by
  simp only [Rep] at h ⊢
  obtain ⟨a,dx,e,h0,hp,h1,h2,h3,h4⟩:=h
  exact ⟨a,dx,e,(m.oth a _ h1 h0 hp).2,hp,(m.oth a _ h1 h0 hp).1,(m.oth dx _ h4 h2 h3).2,h3,(m.oth dx _ h4 h2 h3).1⟩
theorem Reps.mv (m:Mv K pp M H M' H'):∀ (ds:List D) (xs:List V),Reps K pp M H ds xs -> Reps K pp M' H' ds xs
 | [],_,h=>by simp only [Reps] at h ⊢; exact h
 | d :: ds,_,h=>by
  simp only [Reps] at h ⊢
  obtain ⟨x,r,e,h1,h2⟩:=h
  exact ⟨x,r,e,Rep.mv m d x h1,Reps.mv m ds r h2⟩
end
theorem Reps.length:∀ {ds:List D} {xs:List V},Reps K pp M H ds xs -> ds.length = xs.length
 | [],_,h=>by simp only [Reps] at h; subst h; rfl
 | _ :: _,_,h=>by
  simp only [Reps] at h
  obtain ⟨x,r,rfl,_,h2⟩:=h
  simp [Reps.length h2]
theorem Reps.get':∀ {ds:List D} {xs:List V} {i:Nat} {d:D},Reps K pp M H ds xs -> ds[i]? = some d -> ∃ x,xs[i]? = some x /\ Rep K pp M H d x
 | [],_,_,_,h,e=>by simp at e
 | d :: ds,_,0,x,h,e=>by
  simp only [Reps] at h
  obtain ⟨y,r,rfl,h1,h2⟩:=h
  simp at e; subst e
  exact ⟨y,rfl,h1⟩
 | d :: ds,_,i + 1,x,h,e=>by
  simp only [Reps] at h
  obtain ⟨y,r,rfl,h1,h2⟩:=h
  obtain ⟨d',e1,e2⟩:=Reps.get' (i:=i) h2 (by simpa using e)
  exact ⟨d',by simpa using e1,e2⟩
theorem Reps.append:∀ {ds es:List D} {xs ys:List V},Reps K pp M H ds xs -> Reps K pp M H es ys -> Reps K pp M H (ds ++ es) (xs ++ ys)
 | [],_,_,_,h,q=>by simp only [Reps] at h; subst h; exact q
 | d :: ds,_,_,_,h,q=>by
  simp only [Reps] at h
  obtain ⟨y,r,rfl,h1,h2⟩:=h
  simp only [List.cons_append,Reps]
  exact ⟨y,_,rfl,h1,Reps.append h2 q⟩
theorem Reps.drop:∀ {ds:List D} {xs:List V} (n:Nat),Reps K pp M H ds xs -> Reps K pp M H (ds.drop n) (xs.drop n)
 | _,_,0,h=>h
 | [],_,n + 1,h=>by simp only [Reps] at h; subst h; simp [Reps]
 | d :: ds,_,n + 1,h=>by
  simp only [Reps] at h
  obtain ⟨y,r,rfl,h1,h2⟩:=h
  exact Reps.drop n h2
theorem Reps.take:∀ {ds:List D} {xs:List V} (n:Nat),Reps K pp M H ds xs -> Reps K pp M H (ds.take n) (xs.take n)
 | _,_,0,h=>by simp [Reps]
 | [],_,n + 1,h=>by simp only [Reps] at h; subst h; simp [Reps]
 | d :: ds,_,n + 1,h=>by
  simp only [Reps] at h
  obtain ⟨y,r,rfl,h1,h2⟩:=h
  simp only [List.take_succ_cons,Reps]
  exact ⟨y,_,rfl,h1,Reps.take n h2⟩
theorem Reps.set {d:D} {x:V} (hd:Rep K pp M H d x):∀ {ds:List D} {xs:List V} (n:Nat),Reps K pp M H ds xs -> Reps K pp M H (ds.set n d) (xs.set n x)
 | [],_,n,h=>by simp only [Reps] at h; subst h; simp [Reps]
 | e :: ds,_,0,h=>by
  simp only [Reps] at h
  obtain ⟨y,r,rfl,h1,h2⟩:=h
  simp only [List.set_cons_zero,Reps]
  exact ⟨x,r,rfl,hd,h2⟩
 | e :: ds,_,n + 1,h=>by
  simp only [Reps] at h
  obtain ⟨y,r,rfl,h1,h2⟩:=h
  simp only [List.set_cons_succ,Reps]
  exact ⟨y,_,rfl,h1,Reps.set hd n h2⟩
theorem Reps.one {d:D} {x:V} (h:Rep K pp M H d x):Reps K pp M H [d] [x]:=by simp only [Reps]; exact ⟨x,[],rfl,h,rfl⟩
theorem Reps.nil:Reps K pp M H [] []:=by simp only [Reps]
theorem Reps.cons {d:D} {x:V} {ds:List D} {xs:List V} (h:Rep K pp M H d x) (q:Reps K pp M H ds xs):Reps K pp M H (d :: ds) (x :: xs):=by simp only [Reps]; exact ⟨x,xs,rfl,h,q⟩
structure SameP (K:PySem.W.Frag) (pp:Option Addr) (H H':Hp):Prop where
 keep:∀ b o,H b = some o -> (pp = some b -> ∀ xs,o ≠ .lst xs) -> H' b = some o
 pen:∀ p,pp = some p -> (∃ a ns t l,Pen K H p a ns t l) -> ∃ a ns t l,Pen K H' p a ns t l
 live:∀ b,H b ≠ none -> H' b ≠ none
theorem SameP.refl:SameP K pp H H:=⟨fun _ _ h _=>h,fun _ _ h=>h,fun _ h=>h⟩
theorem SameP.trans (x:SameP K pp H H') (y:SameP K pp H' H''):SameP K pp H H'' :=
 ⟨fun b o h n=>y.keep b o (x.keep b o h n) n,fun p e h=>y.pen p e (x.pen p e h),fun b h=>y.live b (x.live b h)⟩
theorem SameP.of (s:Same H H'):SameP K pp H H':=⟨fun b o h _=>s b o h,fun _ _ ⟨a,ns,t,l,h⟩=>⟨a,ns,t,l,h.same s⟩,fun b h e=>by
 cases q:H b with
 | none=>exact h q
 | some o=>rw [s b o q] at e; cases e⟩
theorem SameP.new {l:Addr} {o:HO} (h:H l = none):SameP K pp H (upd H l o):=.of (same_new h)
theorem SameP.mv (s:SameP K pp H H'):Mv K pp M H M H' :=
 ⟨fun a xs h=>s.keep a _ h fun _ _ z=>(by cases z),fun a xs h n q=>⟨s.keep a _ h fun z=>absurd z q,n⟩,s.pen⟩
theorem Mv.new {l:Addr} {o:HO} (h:H l = none):Mv K pp M H M (upd H l o):=(SameP.new h).mv
theorem Mv.newOwn {l:Addr} {o:HO} (h:H l = none):Mv K pp M H (l :: M) (upd H l o) :=
 ⟨fun a xs e=>upd_old h e,fun a xs e n q=>⟨upd_old h e,by
  intro z
  rcases List.mem_cons.mp z with rfl | z
  ·rw [h] at e; cases e
  ·exact n z⟩,(SameP.new h).pen⟩
theorem Mv.less {l:List Addr} (h:∀ a ∈ l,a ∈ M):Mv K pp M H l H:=⟨fun _ _ h=>h,fun a xs e n _=>⟨e,fun z=>n (h a z)⟩,fun _ _ h=>h⟩
theorem pen_upd {p l:Addr} {xs ys:List V} (hl:H l = some (.lst xs)) (hp:p ≠ l):(∃ a ns t k,Pen K H p a ns t k) -> ∃ a ns t k,Pen K (upd H l (.lst ys)) p a ns t k:=by
 rintro ⟨a,ns,t,k,h⟩
 refine ⟨a,ns,t,k,?_,?_,h.t0⟩
 ·rw [upd_ne hp]; exact h.lst
 ·rcases h.scr with ⟨o,e⟩ | e
  ·refine .inl ⟨o,?_⟩
   rw [upd_ne (ne_of e hl (by intro z; cases z))]; exact e
  ·exact .inr e
theorem Mv.write {l:Addr} {xs ys:List V} (hl:H l = some (.lst xs)) (hm:l ∈ M) (hp:pp ≠ some l):Mv K pp M H M (upd H l (.lst ys)) :=
 ⟨fun a zs e=>by rw [upd_ne (ne_of e hl (by intro z; cases z))]; exact e,
  fun a zs e n q=>⟨by rw [upd_ne (by rintro rfl; exact n hm)]; exact e,n⟩,
  fun p e h=>pen_upd hl (by rintro rfl; exact hp e) h⟩
end
section
variable (K:PySem.W.Frag) (pp:Option Addr) (M:List Addr) (H:Hp)
mutual
def RO:O -> V -> List Addr -> Prop
 | .val d,v,A=>A = [] /\ Rep K pp M H d v
 | .lst os,v,A=>∃ a xs B,v = .ref a /\ H a = some (.lst xs) /\ A = a :: B /\ ROs os xs B
 | .dct ks os,v,A=>∃ a kvs B,v = .ref a /\ H a = some (.dT kvs) /\ kvs.map (·.1) = ks /\ A = a :: B /\ ROs os (kvs.map (·.2)) B
 | .tup os,v,A=>∃ a xs,v = .ref a /\ H a = some (.tup xs) /\ ROs os xs A
def ROs:List O -> List V -> List Addr -> Prop
 | [],xs,A=>xs = [] /\ A = []
 | o :: os,xs,A=>∃ x r B C,xs = x :: r /\ A = B ++ C /\ RO o x B /\ ROs os r C
end
end
section
variable {K:PySem.W.Frag} {pp:Option Addr} {M M':List Addr} {H H':Hp}
mutual
theorem RO.mv (m:Mv K pp M H M' H'):∀ (q:O) (v:V) (A:List Addr),(∀ a ∈ A,∀ o,H a = some o -> H' a = some o) -> RO K pp M H q v A -> RO K pp M' H' q v A
 | .val d,v,A,_,h=>by
  simp only [RO] at h ⊢
  exact ⟨h.1,Rep.mv m d v h.2⟩
 | .lst os,v,A,k,h=>by
  simp only [RO] at h ⊢
  obtain ⟨a,xs,B,e,ha,rfl,r⟩:=h
  exact ⟨a,xs,B,e,k a List.mem_cons_self _ ha,rfl,ROs.mv m os xs B (fun b hb=>k b (List.mem_cons_of_mem _ hb)) r⟩
 | .dct ks os,v,A,k,h=>by
  simp only [RO] at h ⊢
  obtain ⟨a,kvs,B,e,ha,e2,rfl,r⟩:=h
  exact ⟨a,kvs,B,e,k a List.mem_cons_self _ ha,e2,rfl,ROs.mv m os _ B (fun b hb=>k b (List.mem_cons_of_mem _ hb)) r⟩
 | .tup os,v,A,k,h=>by
  simp only [RO] at h ⊢
  obtain ⟨a,xs,e,ha,r⟩:=h
  exact ⟨a,xs,e,m.tup a xs ha,ROs.mv m os xs A k r⟩
theorem ROs.mv (m:Mv K pp M H M' H'):∀ (os:List O) (xs:List V) (A:List Addr),(∀ a ∈ A,∀ o,H a = some o -> H' a = some o) -> ROs K pp M H os xs A -> ROs K pp M' H' os xs A
 | [],xs,A,_,h=>by simp only [ROs] at h ⊢; exact h
 | o :: os,xs,A,k,h=>by
  simp only [ROs] at h ⊢
  obtain ⟨x,r,B,C,e,rfl,h1,h2⟩:=h
  exact ⟨x,r,B,C,e,rfl,RO.mv m o x B (fun b hb=>k b (List.mem_append.mpr (.inl hb))) h1,ROs.mv m os r C (fun b hb=>k b (List.mem_append.mpr (.inr hb))) h2⟩
end
mutual
def fzO:O -> D
 | .val d=>d
 | .lst os=>.lst (fzOs os)
 | .dct ks os=>.dT ks (fzOs os)
 | .tup os=>.tup (fzOs os)
def fzOs:List O -> List D
 | []=>[]
 | o :: os=>fzO o :: fzOs os
end
mutual
theorem RO.fz (m:Mv K pp M H M' H):∀ (q:O) (v:V) (A:List Addr),(∀ a ∈ A,a ∉ M' /\ pp ≠ some a) -> RO K pp M H q v A -> Rep K pp M' H (fzO q) v
 | .val d,v,A,_,h=>by
  simp only [RO] at h
  simp only [fzO]
  exact Rep.mv m d v h.2
 | .lst os,v,A,k,h=>by
  simp only [RO] at h
  simp only [fzO,Rep]
  obtain ⟨a,xs,B,e,ha,rfl,r⟩:=h
  exact ⟨a,xs,e,(k a List.mem_cons_self).1,(k a List.mem_cons_self).2,ha,ROs.fz m os xs B (fun b hb=>k b (List.mem_cons_of_mem _ hb)) r⟩
 | .dct ks os,v,A,k,h=>by
  simp only [RO] at h
  simp only [fzO,Rep]
  obtain ⟨a,kvs,B,e,ha,e2,rfl,r⟩:=h
  exact ⟨a,kvs,e,(k a List.mem_cons_self).1,(k a List.mem_cons_self).2,ha,e2,ROs.fz m os _ B (fun b hb=>k b (List.mem_cons_of_mem _ hb)) r⟩
 | .tup os,v,A,k,h=>by
  simp only [RO] at h
  simp only [fzO,Rep]
  obtain ⟨a,xs,e,ha,r⟩:=h
  exact ⟨a,xs,e,ha,ROs.fz m os xs A k r⟩
theorem ROs.fz (m:Mv K pp M H M' H):∀ (os:List O) (xs:List V) (A:List Addr),(∀ a ∈ A,a ∉ M' /\ pp ≠ some a) -> ROs K pp M H os xs A -> Reps K pp M' H (fzOs os) xs
 | [],xs,A,_,h=>by simp only [ROs] at h; simp only [fzOs,Reps]; exact h.1
 | o :: os,xs,A,k,h=>by
  simp only [ROs] at h
  simp only [fzOs,Reps]
  obtain ⟨x,r,B,C,e,rfl,h1,h2⟩:=h
  exact ⟨x,r,e,RO.fz m o x B (fun b hb=>k b (List.mem_append.mpr (.inl hb))) h1,ROs.fz m os r C (fun b hb=>k b (List.mem_append.mpr (.inr hb))) h2⟩
end
theorem fzOs_map:∀ os:List O,fzOs os = os.map fzO
 | []=>rfl
 | o :: os=>by simp only [fzOs,List.map_cons,fzOs_map os]
end
structure Fx where
 pp:Option Addr
 M0:List Addr
 H0:Hp
abbrev DS:=List Sl
class Frm where
 L:PySem.W.Frag -> Fx -> List Addr -> Hp -> Prop
 W:DS -> Addr -> Prop
 cl:∀ K (F:Fx) M H M' H',L K F M H -> Mv K F.pp M H M' H' -> L K F M' H'
instance (priority:=low) Frm.free:Frm:=⟨fun _ _ _ _=>True,fun _ _=>False,fun _ _ _ _ _ _ h _=>h⟩
variable [Frm]
structure Lv (pp:Option Addr) (M:List Addr) (H:Hp):Prop where
 m:∀ a ∈ M,H a ≠ none
 p:∀ p,pp = some p -> H p ≠ none
theorem Lv.sameP {K:PySem.W.Frag} {pp:Option Addr} {M:List Addr} {H H':Hp} (l:Lv pp M H) (s:SameP K pp H H'):Lv pp M H' :=
 ⟨fun a ha=>s.live a (l.m a ha),fun p e=>s.live p (l.p p e)⟩
theorem Lv.fresh {pp:Option Addr} {M:List Addr} {H:Hp} {a:Addr} (l:Lv pp M H) (h:H a = none):a ∉ M /\ pp ≠ some a:=⟨fun z=>l.m a z h,fun z=>l.p a z h⟩
section
variable (K:PySem.W.Frag) (F:Fx) (M:List Addr) (H:Hp)
def RSl:Sl -> Option V -> Prop
 | .nil,_=>True
 | .val d,o=>∃ v,o = some v /\ Rep K F.pp M H d v
 | .own ds,o=>∃ l xs,o = some (.ref l) /\ l ∈ M /\ F.H0 l = none /\ F.pp ≠ some l /\ H l = some (.lst xs) /\ Reps K F.pp M H ds xs
 | .obj _,o=>∃ v,o = some v
 | .pin w d,o=>∃ v,o = some v /\ v = w /\ Rep K F.pp M H d v
def Ow:Sl -> Option V -> List Addr -> Prop
 | .own _,o,A=>∃ l,o = some (.ref l) /\ A = [l]
 | .obj q,o,A=>A.Nodup /\ ∃ v,o = some v /\ RO K F.pp M H q v A
 | _,_,_=>True
def OwF (σ:St) (ρ:DS):Prop:=∃ As:Nat -> List Addr,(∀ (i:Nat) s o,ρ[i]? = some s -> σ[i]? = some o -> Ow K F M H s o (As i)) /\ (∀ i,∀ a ∈ As i,a ∈ M /\ F.H0 a = none /\ F.pp ≠ some a) /\ ∀ i j,i ≠ j -> ∀ a ∈ As i,a ∉ As j
structure RSt (σ:St) (ρ:DS):Prop where
 len:σ.length = ρ.length
 sl:∀ (i:Nat) s o,ρ[i]? = some s -> σ[i]? = some o -> RSl K F M H s o
 ow:OwF K F M H σ ρ
 sub:∀ a ∈ F.M0,a ∈ M
 same:SameP K F.pp F.H0 H
 old:∀ a ∈ F.M0,F.H0 a ≠ none
 liv:Lv F.pp M H
 lk:Frm.L K F M H
end
section
variable {K:PySem.W.Frag} {F:Fx} {M M':List Addr} {H H':Hp} {σ:St} {ρ:DS}
omit [Frm] in
theorem Ow.mv {s:Sl} {o:Option V} {A:List Addr} (m:Mv K F.pp M H M' H') (k:∀ a ∈ A,∀ x,H a = some x -> H' a = some x) (h:Ow K F M H s o A):Ow K F M' H' s o A:=by
 cases s with
 | nil=>trivial
 | val d=>trivial
 | pin w d=>trivial
 | own ds=>exact h
 | obj q =>
  obtain ⟨nd,v,e,h⟩:=h
  exact ⟨nd,v,e,RO.mv m q v A k h⟩
omit [Frm] in
theorem OwF.keep (h:OwF K F M H σ ρ) (m:Mv K F.pp M H M' H') (k:∀ a,a ∈ M -> F.pp ≠ some a -> F.H0 a = none -> a ∈ M' /\ ∀ x,H a = some x -> H' a = some x):OwF K F M' H' σ ρ:=by
 obtain ⟨As,h1,h2,h3⟩:=h
 refine ⟨As,fun i s o e1 e2=>(h1 i s o e1 e2).mv m fun a ha=>(k a (h2 i a ha).1 (h2 i a ha).2.2 (h2 i a ha).2.1).2,fun i a ha=>⟨(k a (h2 i a ha).1 (h2 i a ha).2.2 (h2 i a ha).2.1).1,(h2 i a ha).2⟩,h3⟩
omit [Frm] in
theorem OwF.step {σ':St} {ρ':DS} (h:OwF K F M H σ ρ) (m:Mv K F.pp M H M' H') (i:Nat) (hσ:∀ j,j ≠ i -> σ'[j]? = σ[j]?) (hρ:∀ j,j ≠ i -> ρ'[j]? = ρ[j]?)
  (k:∀ A,(∀ s o,ρ[i]? = some s -> σ[i]? = some o -> Ow K F M H s o A) -> (∀ a ∈ A,a ∈ M /\ F.H0 a = none /\ F.pp ≠ some a) -> ∃ B,(∀ s o,ρ'[i]? = some s -> σ'[i]? = some o -> Ow K F M' H' s o B) /\
   (∀ b ∈ B,b ∈ M' /\ F.H0 b = none /\ F.pp ≠ some b /\ (b ∈ A ∨ b ∉ M)) /\ ∀ a,a ∈ M -> F.pp ≠ some a -> F.H0 a = none -> a ∉ A -> a ∈ M' /\ ∀ x,H a = some x -> H' a = some x):OwF K F M' H' σ' ρ':=by
 obtain ⟨As,h1,h2,h3⟩:=h
 obtain ⟨B,k1,k2,k3⟩:=k (As i) (h1 i) (h2 i)
 have old:∀ j,j ≠ i -> ∀ a ∈ As j,a ∈ M' /\ ∀ x,H a = some x -> H' a = some x:=fun j e a ha=>k3 a (h2 j a ha).1 (h2 j a ha).2.2 (h2 j a ha).2.1 (h3 j i e a ha)
 refine ⟨fun j=>if j = i then B else As j,fun j s o e1 e2=>?_,fun j a ha=>?_,fun j l e a ha hb=>?_⟩
 ·show Ow K F M' H' s o (if j = i then B else As j)
  by_cases e:j = i
  ·subst e
   rw [if_pos rfl]
   exact k1 s o e1 e2
  ·rw [if_neg e]
   rw [hρ j e] at e1
   rw [hσ j e] at e2
   exact (h1 j s o e1 e2).mv m fun a ha=>(old j e a ha).2
 ·replace ha:a ∈ (if j = i then B else As j):=ha
  by_cases e:j = i
  ·subst e
   rw [if_pos rfl] at ha
   exact ⟨(k2 a ha).1,(k2 a ha).2.1,(k2 a ha).2.2.1⟩
  ·rw [if_neg e] at ha
   exact ⟨(old j e a ha).1,(h2 j a ha).2⟩
 ·replace ha:a ∈ (if j = i then B else As j):=ha
  replace hb:a ∈ (if l = i then B else As l):=hb
  by_cases e1:j = i
  ·subst e1
   rw [if_pos rfl] at ha
   rw [if_neg (Ne.symm e)] at hb
   rcases (k2 a ha).2.2.2 with z | z
   ·exact h3 j l e a z hb
   ·exact z (h2 l a hb).1
  ·rw [if_neg e1] at ha
   by_cases e2:l = i
   ·subst e2
    rw [if_pos rfl] at hb
    rcases (k2 a hb).2.2.2 with z | z
    ·exact h3 j l e a ha z
    ·exact z (h2 j a ha).1
   ·rw [if_neg e2] at hb
    exact h3 j l e a ha hb
omit [Frm] in
theorem OwF.none (h:∀ (i:Nat) s,ρ[i]? = some s -> (∀ ds,s ≠ .own ds) /\ ∀ q,s ≠ .obj q):OwF K F M H σ ρ:=by
 refine ⟨fun _=>[],fun i s o e1 _=>?_,fun _ _ h=>(by simp at h),fun _ _ _ _ h=>(by simp at h)⟩
 cases s with
 | nil=>trivial
 | val d=>trivial
 | pin w d=>trivial
 | own ds=>exact absurd rfl ((h i _ e1).1 ds)
 | obj q=>exact absurd rfl ((h i _ e1).2 q)
theorem RSt.own (r:RSt K F M H σ ρ) (i j:Nat) (ds es:List D) (a:Addr) (h1:ρ[i]? = some (.own ds)) (h2:ρ[j]? = some (.own es)) (h3:σ[i]? = some (some (.ref a))) (h4:σ[j]? = some (some (.ref a))):i = j:=by
 obtain ⟨As,k1,k2,k3⟩:=r.ow
 obtain ⟨l,e,e2⟩:=k1 i _ _ h1 h3
 cases e
 obtain ⟨l,e,e3⟩:=k1 j _ _ h2 h4
 cases e
 by_cases z:i = j
 ·exact z
 ·exact absurd (by rw [e3]; simp) (k3 i j z a (by rw [e2]; simp))
omit [Frm] in
theorem SameP.ow (s:SameP K F.pp H H') (a:Addr) (_:a ∈ M) (p:F.pp ≠ some a) (_:F.H0 a = none):a ∈ M /\ ∀ x,H a = some x -> H' a = some x:=⟨‹_›,fun x e=>s.keep a x e fun z=>absurd z p⟩
theorem RSt.sameP (r:RSt K F M H σ ρ) (s:SameP K F.pp H H'):RSt K F M H' σ ρ:=by
 refine ⟨r.len,fun i q o h1 h2=>?_,r.ow.keep s.mv fun a h1 h2 h3=>s.ow a h1 h2 h3,r.sub,r.same.trans s,r.old,r.liv.sameP s,Frm.cl _ _ _ _ _ _ r.lk s.mv⟩
 have:=r.sl i q o h1 h2
 cases q with
 | nil=>trivial
 | val d=>obtain ⟨v,e,h⟩:=this; exact ⟨v,e,h.mv s.mv⟩
 | pin w d=>obtain ⟨v,e,ew,h⟩:=this; exact ⟨v,e,ew,h.mv s.mv⟩
 | own ds =>
  obtain ⟨l,xs,e,hm,h0,hp,hl,hr⟩:=this
  exact ⟨l,xs,e,hm,h0,hp,s.keep l _ hl fun z=>absurd z hp,hr.mv s.mv⟩
 | obj q=>exact this
theorem RSt.at (r:RSt K F M H σ ρ) {i:Nat} {s:Sl} (h:ρ[i]? = some s):∃ o,σ[i]? = some o /\ RSl K F M H s o:=by
 have hi:i < σ.length:=by rw [r.len]; exact (List.getElem?_eq_some_iff.mp h).1
 exact ⟨σ[i],by simp [hi],r.sl i s _ h (by simp [hi])⟩
omit [Frm] in
theorem OwF.drop {σ':St} {ρ':DS} (h:OwF K F M H σ ρ) (i:Nat) (hσ:∀ j,j ≠ i -> σ'[j]? = σ[j]?) (hρ:∀ j,j ≠ i -> ρ'[j]? = ρ[j]?) (hn:∀ s,ρ'[i]? = some s -> (∀ ds,s ≠ .own ds) /\ ∀ q,s ≠ .obj q):OwF K F M H σ' ρ' :=
 h.step .refl i hσ hρ fun A _ _=>⟨[],fun s o e _=>(by
  cases s with
  | nil=>trivial
  | val d=>trivial
  | pin w d=>trivial
  | own ds=>exact absurd rfl ((hn _ e).1 ds)
  | obj q=>exact absurd rfl ((hn _ e).2 q)),fun _ h=>(by simp at h),fun a ha _ _ _=>⟨ha,fun _ e=>e⟩⟩
omit [Frm] in
theorem set_self {α:Type} {l:List α} {i:Nat} {x y:α} (h:(l.set i x)[i]? = some y):y = x:=by
 have hi:i < l.length:=by have:=(List.getElem?_eq_some_iff.mp h).1; simpa using this
 simp [hi] at h
 exact h.symm
theorem RSt.set (r:RSt K F M H σ ρ) {d:D} {v:V} (h:Rep K F.pp M H d v) (i:Nat):RSt K F M H (σ.set i (some v)) (ρ.set i (.val d)):=by
 refine ⟨by simp [r.len],fun j s o h1 h2=>?_,r.ow.drop i (fun j e=>List.getElem?_set_ne (Ne.symm e)) (fun j e=>List.getElem?_set_ne (Ne.symm e)) (fun s e=>?_),r.sub,r.same,r.old,r.liv,r.lk⟩
 ·by_cases e:i = j
  ·subst e
   rw [set_self h1,set_self h2]
   exact ⟨v,rfl,h⟩
  ·rw [List.getElem?_set_ne e] at h1 h2
   exact r.sl j s o h1 h2
 ·rw [set_self e]
  exact ⟨fun ds z=>(by cases z),fun q z=>(by cases z)⟩
end
end DL
namespace DL
open PySem PySem.Spec L2
open PyProof.Rows hiding St
variable [Frm]
abbrev DE:=DS -> (D -> DS -> Prop) -> Prop
abbrev DT:=DS -> (Bool -> DS -> Prop) -> Prop
abbrev DA:=DS -> (List D -> DS -> Prop) -> Prop
structure DEnds where
 nx:DS -> Prop
 rt:D -> Prop
 bk:DS -> Prop:=fun _=>False
 ct:DS -> Prop:=fun _=>False
abbrev DTS:=DEnds -> DS -> Prop
def slot:DS -> Nat -> Sl
 | [],_=>.nil
 | s :: _,0=>s
 | _ :: r,n + 1=>slot r n
theorem slot_get:∀ {ρ:DS} {i:Nat} {s:Sl},slot ρ i = s -> s ≠ .nil -> ρ[i]? = some s
 | [],_,_,h,n=>absurd h.symm n
 | _ :: _,0,_,h,_=>by subst h; rfl
 | _ :: r,i + 1,s,h,n=>by simpa using slot_get (ρ:=r) (i:=i) h n
section
variable {X:Cx} {F:Fx}
structure PED (X:Cx) (e:Expr) (t:DE):Prop where
 mono:∀ ρ P P',(∀ d ρ',P d ρ' -> P' d ρ') -> t ρ P -> t ρ P'
 run:∃ T:TE,PE X e T /\ ∀ {F:Fx} M H σ ρ (Q:VK),RSt X.K F M H σ ρ ->
  (t ρ fun d ρ'=>∀ M' H' v,Mv X.K F.pp M H M' H' -> RSt X.K F M' H' σ ρ' -> Rep X.K F.pp M' H' d v -> Q v H') -> T σ H Q
structure PTD (X:Cx) (e:Expr) (t:DT):Prop where
 mono:∀ ρ P P',(∀ b ρ',P b ρ' -> P' b ρ') -> t ρ P -> t ρ P'
 run:∃ T:TT,PT X e T /\ ∀ {F:Fx} M H σ ρ (Q:Bool -> Hp -> Prop),RSt X.K F M H σ ρ ->
  (t ρ fun b ρ'=>∀ M' H',Mv X.K F.pp M H M' H' -> RSt X.K F M' H' σ ρ' -> Q b H') -> T σ H Q
structure PWD (X:Cx) (e:Expr) (t:DT):Prop where
 mono:∀ ρ P P',(∀ b ρ',P b ρ' -> P' b ρ') -> t ρ P -> t ρ P'
 run:∃ T:TT,PW X e T /\ ∀ {F:Fx} M H σ ρ (Q:Bool -> Hp -> Prop),RSt X.K F M H σ ρ ->
  (t ρ fun b ρ'=>∀ M' H',Mv X.K F.pp M H M' H' -> RSt X.K F M' H' σ ρ' -> Q b H') -> T σ H Q
structure PAD (X:Cx) (es:List Expr) (t:DA):Prop where
 mono:∀ ρ P P',(∀ d ρ',P d ρ' -> P' d ρ') -> t ρ P -> t ρ P'
 run:∃ T:TA,PA X es T /\ ∀ {F:Fx} M H σ ρ (Q:List V -> Hp -> Prop),RSt X.K F M H σ ρ ->
  (t ρ fun ds ρ'=>∀ M' H' vs,Mv X.K F.pp M H M' H' -> RSt X.K F M' H' σ ρ' -> Reps X.K F.pp M' H' ds vs -> Q vs H') -> T σ H Q
abbrev dC (d:D):DE:=fun ρ Q=>Q d ρ
theorem PED.con {e:Expr} {d:D} {v:V} (h:PE X e (tC v)) (r:∀ pp M H,Rep X.K pp M H d v):PED X e (dC d) :=
 ⟨fun _ _ _ f h=>f _ _ h,_,h,fun {F} M H _ _ _ rs q=>q M H v .refl rs (r _ M H)⟩
theorem de_int {i j pos}:PED X (.Constant (.int i) j pos) (dC (.int i)):=.con pe_int fun _ _ _=>by simp only [Rep]
theorem de_bl {i j pos}:PED X (.Constant (.bool i) j pos) (dC (.bl i)):=.con pe_bl fun _ _ _=>by simp only [Rep]
theorem de_non {j pos}:PED X (.Constant .none j pos) (dC .non):=.con pe_non fun _ _ _=>by simp only [Rep]
theorem de_str {i j pos}:PED X (.Constant (.str i) j pos) (dC (.str i)):=.con pe_str fun _ _ _=>by simp only [Rep]
theorem de_ty {x:Str} {n:String} {pos:Pos} (hg:Gl X x) (hm:X.mg x = none) (hv:bootBuiltins x = some (.type n)) (hn:x ≠ "__name__":=by decide) (hd:(x == ("__debug__" : Str)) = false:=by decide):PED X (.Name x pos) (dC (.ty n)) :=
 .con (pe_bltn (v:=.ty n) hg hm hv rfl hn hd) fun _ _ _=>by simp only [Rep]
def dVarS (i:Nat) (ρ:DS) (Q:D -> DS -> Prop):Sl -> Prop
 | .val d=>Q d ρ
 | .own ds=>Q (.lst ds) (ρ.set i (.val (.lst ds)))
 | .obj q=>Q (fzO q) (ρ.set i (.val (fzO q)))
 | .pin _ d=>Q d ρ
 | .nil=>False
abbrev dVar (i:Nat):DE:=fun ρ Q=>dVarS i ρ Q (slot ρ i)
theorem RSt.freeze {K:PySem.W.Frag} {M:List Addr} {H:Hp} {σ:St} {ρ:DS} {i:Nat} {ds:List D} (r:RSt K F M H σ ρ) (h:ρ[i]? = some (.own ds)) :
  ∃ M' v,σ[i]? = some (some v) /\ Mv K F.pp M H M' H /\ RSt K F M' H σ (ρ.set i (.val (.lst ds))) /\ Rep K F.pp M' H (.lst ds) v:=by
 obtain ⟨o,ho,l,xs,rfl,hm,h0,hp,hl,hr⟩:=r.at h
 have m:Mv K F.pp M H (M.filter fun a=>decide (a ≠ l)) H:=.less fun a ha=>(List.mem_filter.mp ha).1
 have rl:Rep K F.pp (M.filter fun a=>decide (a ≠ l)) H (.lst ds) (.ref l):=by
  simp only [Rep]
  exact ⟨l,xs,rfl,by simp,hp,hl,hr.mv m⟩
 refine ⟨_,_,ho,m,⟨by simp [r.len],fun j s o h1 h2=>?_,r.ow.step m i (fun _ _=>rfl) (fun j e=>List.getElem?_set_ne (Ne.symm e)) (fun A hA _=>⟨[],fun s o e _=>?_,fun _ h=>(by simp at h),fun a ha _ _ hn=>⟨?_,fun _ e=>e⟩⟩),fun a ha=>?_,r.same,r.old,?_,Frm.cl _ _ _ _ _ _ r.lk m⟩,rl⟩
 ·by_cases e:i = j
  ·subst e
   rw [ho] at h2
   rw [set_self h1]
   cases h2
   exact ⟨_,rfl,rl⟩
  ·rw [List.getElem?_set_ne e] at h1
   have q:=r.sl j s o h1 h2
   cases s with
   | nil=>trivial
   | val d=>obtain ⟨v,e,q⟩:=q; exact ⟨v,e,q.mv m⟩
   | pin w d=>obtain ⟨v,e,ew,q⟩:=q; exact ⟨v,e,ew,q.mv m⟩
   | own es =>
    obtain ⟨l',ys,rfl,hm',h0',hp',hl',hr'⟩:=q
    refine ⟨l',ys,rfl,List.mem_filter.mpr ⟨hm',?_⟩,h0',hp',hl',hr'.mv m⟩
    by_cases z:l' = l
    ·subst z
     exact absurd (r.own i j _ _ _ h h1 ho h2) e
    ·simpa using z
   | obj q=>exact ‹_›
 ·rw [set_self e]
  trivial
 ·obtain ⟨l2,e2,e3⟩:=hA _ _ h ho
  cases e2
  refine List.mem_filter.mpr ⟨ha,?_⟩
  by_cases z:a = l
  ·subst z
   exact absurd (by rw [e3]; simp) hn
  ·simpa using z
 ·refine List.mem_filter.mpr ⟨r.sub a ha,?_⟩
  by_cases z:a = l
  ·subst z
   exact absurd h0 (r.old a ha)
  ·simpa using z
 ·exact ⟨fun a ha=>r.liv.m a (List.mem_filter.mp ha).1,r.liv.p⟩
theorem RSt.objAt {K:PySem.W.Frag} {M:List Addr} {H:Hp} {σ:St} {ρ:DS} {i:Nat} {q:O} (r:RSt K F M H σ ρ) (h:ρ[i]? = some (.obj q)) :
  ∃ v A,σ[i]? = some (some v) /\ A.Nodup /\ RO K F.pp M H q v A /\ (∀ a ∈ A,a ∈ M /\ F.H0 a = none /\ F.pp ≠ some a) /\ ∀ (j:Nat) s o,j ≠ i -> ρ[j]? = some s -> σ[j]? = some o -> ∀ l,(∃ ds,s = .own ds) -> o = some (.ref l) -> l ∉ A:=by
 obtain ⟨o,ho,_⟩:=r.at h
 obtain ⟨As,k1,k2,k3⟩:=r.ow
 obtain ⟨nd,v,rfl,hq⟩:=k1 i _ _ h ho
 refine ⟨v,As i,ho,nd,hq,k2 i,fun j s o e h1 h2 l hs ho' hl=>?_⟩
 obtain ⟨ds,rfl⟩:=hs
 subst ho'
 obtain ⟨l2,e2,e3⟩:=k1 j _ _ h1 h2
 cases e2
 exact k3 j i e l (by rw [e3]; simp) hl
theorem RSt.freezeO {K:PySem.W.Frag} {M:List Addr} {H:Hp} {σ:St} {ρ:DS} {i:Nat} {q:O} (r:RSt K F M H σ ρ) (h:ρ[i]? = some (.obj q)) :
  ∃ M' v,σ[i]? = some (some v) /\ Mv K F.pp M H M' H /\ RSt K F M' H σ (ρ.set i (.val (fzO q))) /\ Rep K F.pp M' H (fzO q) v:=by
 obtain ⟨As,k1,k2,k3⟩:=r.ow
 obtain ⟨o,ho,_⟩:=r.at h
 obtain ⟨nd,v,rfl,hq⟩:=k1 i _ _ h ho
 have m:Mv K F.pp M H (M.filter fun a=>decide (a ∉ As i)) H:=.less fun a ha=>(List.mem_filter.mp ha).1
 have rl:Rep K F.pp (M.filter fun a=>decide (a ∉ As i)) H (fzO q) v:=RO.fz m q v (As i) (fun a ha=>⟨fun z=>absurd ha (by simpa using (List.mem_filter.mp z).2),(k2 i a ha).2.2⟩) hq
 refine ⟨_,_,ho,m,⟨by simp [r.len],fun j s o h1 h2=>?_,⟨fun j=>if j = i then [] else As j,fun j s o e1 e2=>?_,fun j a ha=>?_,fun j l e a ha hb=>?_⟩,fun a ha=>?_,r.same,r.old,?_,Frm.cl _ _ _ _ _ _ r.lk m⟩,rl⟩
 ·by_cases e:i = j
  ·subst e
   rw [ho] at h2
   rw [set_self h1]
   cases h2
   exact ⟨_,rfl,rl⟩
  ·rw [List.getElem?_set_ne e] at h1
   have q':=r.sl j s o h1 h2
   cases s with
   | nil=>trivial
   | val d=>obtain ⟨v,e,q⟩:=q'; exact ⟨v,e,q.mv m⟩
   | pin w d=>obtain ⟨v,e,ew,q⟩:=q'; exact ⟨v,e,ew,q.mv m⟩
   | own es =>
    obtain ⟨l',ys,rfl,hm',h0',hp',hl',hr'⟩:=q'
    refine ⟨l',ys,rfl,List.mem_filter.mpr ⟨hm',?_⟩,h0',hp',hl',hr'.mv m⟩
    obtain ⟨l2,e2,e3⟩:=k1 j _ _ h1 h2
    cases e2
    simpa using k3 j i (Ne.symm e) l' (by rw [e3]; simp)
   | obj q=>exact ‹_›
 ·show Ow K F _ H s o (if j = i then [] else As j)
  by_cases e:j = i
  ·subst e
   rw [set_self e1]
   trivial
  ·rw [if_neg e]
   rw [List.getElem?_set_ne (Ne.symm e)] at e1
   exact (k1 j s o e1 e2).mv m fun a _ x z=>z
 ·replace ha:a ∈ (if j = i then [] else As j):=ha
  by_cases e:j = i
  ·rw [if_pos e] at ha; simp at ha
  ·rw [if_neg e] at ha
   exact ⟨List.mem_filter.mpr ⟨(k2 j a ha).1,by simpa using k3 j i e a ha⟩,(k2 j a ha).2⟩
 ·replace ha:a ∈ (if j = i then [] else As j):=ha
  replace hb:a ∈ (if l = i then [] else As l):=hb
  by_cases e1:j = i
  ·rw [if_pos e1] at ha; simp at ha
  ·by_cases e2:l = i
   ·rw [if_pos e2] at hb; simp at hb
   ·rw [if_neg e1] at ha
    rw [if_neg e2] at hb
    exact k3 j l e a ha hb
 ·refine List.mem_filter.mpr ⟨r.sub a ha,?_⟩
  have:a ∉ As i:=fun z=>r.old a ha (k2 i a z).2.1
  simpa using this
 ·exact ⟨fun a ha=>r.liv.m a (List.mem_filter.mp ha).1,r.liv.p⟩
theorem de_var (i:Nat) {e:Expr} (h:PE X e (tVar i)):PED X e (dVar i):=by
 refine ⟨fun ρ P P' f h=>?_,_,h,fun {F} M H σ ρ Q rs h=>?_⟩
 ·unfold dVar at h ⊢
  cases e:slot ρ i with
  | nil=>rw [e] at h; exact h
  | val d=>rw [e] at h; exact f _ _ h
  | own ds=>rw [e] at h; exact f _ _ h
  | obj q=>rw [e] at h; exact f _ _ h
  | pin w d=>rw [e] at h; exact f _ _ h
 ·unfold dVar at h
  cases e:slot ρ i with
  | nil=>rw [e] at h; exact h.elim
  | val d =>
   rw [e] at h
   obtain ⟨o,ho,v,rfl,r⟩:=rs.at (slot_get e (by intro z; cases z))
   exact ⟨v,ho,h M H v .refl rs r⟩
  | pin w d =>
   rw [e] at h
   obtain ⟨o,ho,v,rfl,_,r⟩:=rs.at (slot_get e (by intro z; cases z))
   exact ⟨v,ho,h M H v .refl rs r⟩
  | own ds =>
   rw [e] at h
   obtain ⟨M',v,ho,m,rs',r⟩:=rs.freeze (slot_get e (by intro z; cases z))
   exact ⟨v,ho,h M' H v m rs' r⟩
  | obj q =>
   rw [e] at h
   obtain ⟨M',v,ho,m,rs',r⟩:=rs.freezeO (slot_get e (by intro z; cases z))
   exact ⟨v,ho,h M' H v m rs' r⟩
structure OpD (X:Cx) (f:Value -> Value -> Sem Value) (g:D -> D -> (D -> Prop) -> Prop):Prop where
 mono:∀ x y P P',(∀ d,P d -> P' d) -> g x y P -> g x y P'
 run:∃ r:R2,OpR X f r /\ ∀ {pp:Option Addr} M H x y v u (Q:VK),Lv pp M H -> Rep X.K pp M H x v -> Rep X.K pp M H y u ->
  g x y (fun d=>∀ H' w,SameP X.K pp H H' -> Rep X.K pp M H' d w -> Q w H') -> r v u H Q
abbrev dOp (g:D -> D -> (D -> Prop) -> Prop) (ta tb:DE):DE:=fun ρ Q=>ta ρ fun x ρ1=>tb ρ1 fun y ρ2=>g x y fun d=>Q d ρ2
variable {a b c:Expr} {ta tb tc:DE} {pos:Pos} {g g':D -> D -> (D -> Prop) -> Prop}
theorem dOp_mono {g:D -> D -> (D -> Prop) -> Prop} (hg:∀ x y P P',(∀ d,P d -> P' d) -> g x y P -> g x y P') (ha:PED X a ta) (hb:PED X b tb):∀ ρ P P',(∀ d ρ',P d ρ' -> P' d ρ') -> dOp g ta tb ρ P -> dOp g ta tb ρ P' :=
 fun ρ _ _ f h=>ha.mono _ _ _ (fun _ _ h=>hb.mono _ _ _ (fun _ _ h=>hg _ _ _ _ (fun _ h=>f _ _ h) h) h) h
theorem dOp_run {g:D -> D -> (D -> Prop) -> Prop} {r:R2} {Ta Tb:TE} (hg:∀ M H x y v u (Q:VK),Lv F.pp M H -> Rep X.K F.pp M H x v -> Rep X.K F.pp M H y u ->
   g x y (fun d=>∀ H' w,SameP X.K F.pp H H' -> Rep X.K F.pp M H' d w -> Q w H') -> r v u H Q)
  (hgm:∀ x y P P',(∀ d,P d -> P' d) -> g x y P -> g x y P') (ha:PED X a ta) (hb:PED X b tb)
  (ra:∀ M H σ ρ (Q:VK),RSt X.K F M H σ ρ -> (ta ρ fun d ρ'=>∀ M' H' v,Mv X.K F.pp M H M' H' -> RSt X.K F M' H' σ ρ' -> Rep X.K F.pp M' H' d v -> Q v H') -> Ta σ H Q)
  (rb:∀ M H σ ρ (Q:VK),RSt X.K F M H σ ρ -> (tb ρ fun d ρ'=>∀ M' H' v,Mv X.K F.pp M H M' H' -> RSt X.K F M' H' σ ρ' -> Rep X.K F.pp M' H' d v -> Q v H') -> Tb σ H Q)
  {M:List Addr} {H:Hp} {σ:St} {ρ:DS} {Q:VK} (rs:RSt X.K F M H σ ρ)
  (h:dOp g ta tb ρ fun d ρ'=>∀ M' H' v,Mv X.K F.pp M H M' H' -> RSt X.K F M' H' σ ρ' -> Rep X.K F.pp M' H' d v -> Q v H'):tOp r Ta Tb σ H Q:=by
 refine ra M H σ ρ _ rs (ha.mono _ _ _ (fun x ρ1 h M1 H1 v m1 rs1 r1=>?_) h)
 refine rb M1 H1 σ ρ1 _ rs1 (hb.mono _ _ _ (fun y ρ2 h M2 H2 u m2 rs2 r2=>?_) h)
 refine hg M2 H2 x y v u _ rs2.liv (r1.mv m2) r2 (hgm _ _ _ _ (fun d h H' w s r=>?_) h)
 exact h M2 H' w ((m1.trans m2).trans s.mv) (rs2.sameP s) r
theorem de_op {op:Operator} (ho:OpD X (binaryOp op) g) (ha:PED X a ta) (hb:PED X b tb):PED X (.BinOp a op b pos) (dOp g ta tb):=by
 obtain ⟨r,hr,hg⟩:=ho.run
 obtain ⟨Ta,pa,ra⟩:=ha.run
 obtain ⟨Tb,pb,rb⟩:=hb.run
 exact ⟨dOp_mono ho.mono ha hb,_,pe_op hr pa pb,fun {F} M H σ ρ Q rs h=>dOp_run hg ho.mono ha hb ra rb rs h⟩
theorem de_cmp {op:CmpOp} (ho:OpD X (compareOp op) g) (ha:PED X a ta) (hb:PED X b tb) (hm:behindInMarks op b = false):PED X (.Compare a [op] [b] pos) (dOp g ta tb):=by
 obtain ⟨r,hr,hg⟩:=ho.run
 obtain ⟨Ta,pa,ra⟩:=ha.run
 obtain ⟨Tb,pb,rb⟩:=hb.run
 exact ⟨dOp_mono ho.mono ha hb,_,pe_cmpR hr pa pb hm,fun {F} M H σ ρ Q rs h=>dOp_run hg ho.mono ha hb ra rb rs h⟩
def blD:D -> (Bool -> Prop) -> Prop
 | .bl b,P=>P b
 | _,_=>False
theorem blD_mono {d:D} {P P':Bool -> Prop} (f:∀ b,P b -> P' b) (h:blD d P):blD d P':=by cases d <;> first | exact h | exact f _ h
abbrev dB (t:DE):DT:=fun ρ Q=>t ρ fun d ρ'=>blD d fun b=>Q b ρ'
theorem blD_rep {K:PySem.W.Frag} {pp:Option Addr} {M:List Addr} {H:Hp} {d:D} {v:V} {P:Bool -> Prop} (r:Rep K pp M H d v) (h:blD d P):∃ k,v = .bl k /\ P k:=by
 cases d <;> first | exact h.elim | (simp only [Rep] at r; exact ⟨_,r,h⟩)
theorem dB_mono (ha:PED X a ta):∀ ρ P P',(∀ b ρ',P b ρ' -> P' b ρ') -> dB ta ρ P -> dB ta ρ P':=fun _ _ _ f h=>ha.mono _ _ _ (fun _ _ h=>blD_mono (fun _ h=>f _ _ h) h) h
theorem dt_cmp {op:CmpOp} (ho:OpD X (compareOp op) g) (ha:PED X a ta) (hb:PED X b tb) (hm:behindInMarks op b = false):PTD X (.Compare a [op] [b] pos) (dB (dOp g ta tb)):=by
 obtain ⟨r,hr,hg⟩:=ho.run
 obtain ⟨Ta,pa,ra⟩:=ha.run
 obtain ⟨Tb,pb,rb⟩:=hb.run
 refine ⟨dB_mono (X:=X) (a:=.Compare a [op] [b] pos) (de_cmp ho ha hb hm),_,pt_cmpR hr pa pb hm,fun {F} M H σ ρ Q rs h=>?_⟩
 refine dOp_run hg ho.mono ha hb ra rb rs (dOp_mono ho.mono ha hb _ _ _ (fun d ρ' h M' H' v m rs' r=>?_) h)
 obtain ⟨k,e,h⟩:=blD_rep r h
 exact ⟨k,e,h M' H' m rs'⟩
theorem dt_val {e:Expr} {t:DE} (h:PED X e t) (he:∀ whole,isTrue e X.env whole = (do let v ← whole; standAt e.pos; holding [v] (truthy v)):=by intro _; rfl):PTD X e (dB t):=by
 obtain ⟨T,p,r⟩:=h.run
 refine ⟨dB_mono h,_,pt_val p he,fun {F} M H σ ρ Q rs q=>?_⟩
 refine r M H σ ρ _ rs (h.mono _ _ _ (fun d ρ' h M' H' v m rs' r=>?_) q)
 obtain ⟨k,e,h⟩:=blD_rep r h
 exact ⟨k,e,h M' H' m rs'⟩
structure Br (b:Bool) (A B:Prop):Prop where
 yes:b = true -> A
 no:b = false -> B
theorem Br.t {A B:Prop} (h:A):Br true A B:=⟨fun _=>h,fun e=>nomatch e⟩
theorem Br.f {A B:Prop} (h:B):Br false A B:=⟨(fun e=>nomatch e),fun _=>h⟩
abbrev dNot (t:DT):DT:=fun ρ Q=>t ρ fun b ρ'=>Q (!b) ρ'
abbrev dAnd (t u:DT):DT:=fun ρ Q=>t ρ fun b ρ'=>Br b (u ρ' Q) (Q false ρ')
abbrev dOr (t u:DT):DT:=fun ρ Q=>t ρ fun b ρ'=>Br b (Q true ρ') (u ρ' Q)
variable {tA tB:DT} {rest:List Expr}
theorem dt_not (h:PTD X a tA):PTD X (.UnaryOp .Not a pos) (dNot tA):=by
 obtain ⟨T,p,r⟩:=h.run
 exact ⟨fun _ _ _ f q=>h.mono _ _ _ (fun _ _ q=>f _ _ q) q,_,pt_not p,fun {F} M H σ ρ Q rs q=>r M H σ ρ _ rs q⟩
theorem PWD.pt {e:Expr} {t:DT} (h:PWD X e t):PTD X e t:=by
 obtain ⟨T,p,r⟩:=h.run
 exact ⟨h.mono,T,p.pt,r⟩
theorem dw_and1 (h:PTD X a tA):PWD X (.BoolOp .And [a] pos) tA:=by
 obtain ⟨T,p,r⟩:=h.run
 exact ⟨h.mono,T,pw_and1 p,r⟩
theorem dw_or1 (h:PTD X a tA):PWD X (.BoolOp .Or [a] pos) tA:=by
 obtain ⟨T,p,r⟩:=h.run
 exact ⟨h.mono,T,pw_or1 p,r⟩
theorem dw_and (ha:PTD X a tA) (hb:PWD X (.BoolOp .And (b :: rest) pos) tB):PWD X (.BoolOp .And (a :: b :: rest) pos) (dAnd tA tB):=by
 obtain ⟨T,p,r⟩:=ha.run
 obtain ⟨U,q,s⟩:=hb.run
 refine ⟨fun _ _ _ f h=>ha.mono _ _ _ (fun _ _ h=>⟨fun e=>hb.mono _ _ _ f (h.yes e),fun e=>f _ _ (h.no e)⟩) h,_,pw_and p q,fun {F} M H σ ρ Q rs h=>?_⟩
 refine r M H σ ρ _ rs (ha.mono _ _ _ (fun c ρ1 h M1 H1 m1 rs1=>?_) h)
 cases c with
 | true=>exact iteT (s M1 H1 σ ρ1 _ rs1 (hb.mono _ _ _ (fun c ρ2 h M2 H2 m2 rs2=>h M2 H2 (m1.trans m2) rs2) (h.yes rfl)))
 | false=>exact iteF (h.no rfl M1 H1 m1 rs1)
theorem dw_or (ha:PTD X a tA) (hb:PWD X (.BoolOp .Or (b :: rest) pos) tB):PWD X (.BoolOp .Or (a :: b :: rest) pos) (dOr tA tB):=by
 obtain ⟨T,p,r⟩:=ha.run
 obtain ⟨U,q,s⟩:=hb.run
 refine ⟨fun _ _ _ f h=>ha.mono _ _ _ (fun _ _ h=>⟨fun e=>f _ _ (h.yes e),fun e=>hb.mono _ _ _ f (h.no e)⟩) h,_,pw_or p q,fun {F} M H σ ρ Q rs h=>?_⟩
 refine r M H σ ρ _ rs (ha.mono _ _ _ (fun c ρ1 h M1 H1 m1 rs1=>?_) h)
 cases c with
 | true=>exact iteT (h.yes rfl M1 H1 m1 rs1)
 | false=>exact iteF (s M1 H1 σ ρ1 _ rs1 (hb.mono _ _ _ (fun c ρ2 h M2 H2 m2 rs2=>h M2 H2 (m1.trans m2) rs2) (h.no rfl)))
abbrev dNotV (t:DE):DE:=fun ρ Q=>t ρ fun d ρ'=>blD d fun b=>Q (.bl (!b)) ρ'
abbrev dAndV (t u:DE):DE:=fun ρ Q=>t ρ fun d ρ'=>blD d fun b=>Br b (u ρ' Q) (Q (.bl false) ρ')
theorem rep_bl {K:PySem.W.Frag} {pp:Option Addr} {M:List Addr} {H:Hp} {b:Bool}:Rep K pp M H (.bl b) (.bl b):=by simp only [Rep]
theorem rep_int {K:PySem.W.Frag} {pp:Option Addr} {M:List Addr} {H:Hp} {b:Int}:Rep K pp M H (.int b) (.int b):=by simp only [Rep]
theorem de_one {op} {t:DE} (h:PED X a t):PED X (.BoolOp op [a] pos) t:=by
 obtain ⟨T,p,r⟩:=h.run
 exact ⟨h.mono,T,pe_one p,r⟩
theorem de_not (h:PED X a ta):PED X (.UnaryOp .Not a pos) (dNotV ta):=by
 obtain ⟨T,p,r⟩:=h.run
 refine ⟨fun _ _ _ f q=>h.mono _ _ _ (fun _ _ q=>blD_mono (fun _ q=>f _ _ q) q) q,_,pe_not p,fun {F} M H σ ρ Q rs q=>r M H σ ρ _ rs (h.mono _ _ _ (fun d ρ' q M' H' v m rs' r=>?_) q)⟩
 obtain ⟨k,e,q⟩:=blD_rep r q
 exact ⟨k,e,q M' H' _ m rs' rep_bl⟩
theorem de_and (ha:PED X a ta) (hb:PED X (.BoolOp .And (b :: rest) pos) tb):PED X (.BoolOp .And (a :: b :: rest) pos) (dAndV ta tb):=by
 obtain ⟨T,p,r⟩:=ha.run
 obtain ⟨U,q,s⟩:=hb.run
 refine ⟨fun _ _ _ f h=>ha.mono _ _ _ (fun _ _ h=>blD_mono (fun _ h=>⟨fun e=>hb.mono _ _ _ f (h.yes e),fun e=>f _ _ (h.no e)⟩) h) h,_,pe_and p q,fun {F} M H σ ρ Q rs h=>?_⟩
 refine r M H σ ρ _ rs (ha.mono _ _ _ (fun d ρ1 h M1 H1 v m1 rs1 r1=>?_) h)
 obtain ⟨c,e,h⟩:=blD_rep r1 h
 refine ⟨c,e,?_⟩
 cases c with
 | true=>exact iteT (s M1 H1 σ ρ1 _ rs1 (hb.mono _ _ _ (fun c ρ2 h M2 H2 v m2 rs2=>h M2 H2 v (m1.trans m2) rs2) (h.yes rfl)))
 | false=>exact iteF (h.no rfl M1 H1 _ m1 rs1 rep_bl)
abbrev dIf (t:DT) (ta tb:DE):DE:=fun ρ Q=>t ρ fun b ρ'=>Br b (ta ρ' Q) (tb ρ' Q)
theorem de_ifExp {c:Expr} (hc:PTD X c tA) (ha:PED X a ta) (hb:PED X b tb):PED X (.IfExp c a b pos) (dIf tA ta tb):=by
 obtain ⟨T,p,r⟩:=hc.run
 obtain ⟨U,q,s⟩:=ha.run
 obtain ⟨U',q',s'⟩:=hb.run
 refine ⟨fun _ _ _ f h=>hc.mono _ _ _ (fun _ _ h=>⟨fun e=>ha.mono _ _ _ f (h.yes e),fun e=>hb.mono _ _ _ f (h.no e)⟩) h,_,pe_ifExp p q q',fun {F} M H σ ρ Q rs h=>?_⟩
 refine r M H σ ρ _ rs (hc.mono _ _ _ (fun c ρ1 h M1 H1 m1 rs1=>?_) h)
 cases c with
 | true=>exact iteT (s M1 H1 σ ρ1 _ rs1 (ha.mono _ _ _ (fun c ρ2 h M2 H2 v m2 rs2=>h M2 H2 v (m1.trans m2) rs2) (h.yes rfl)))
 | false=>exact iteF (s' M1 H1 σ ρ1 _ rs1 (hb.mono _ _ _ (fun c ρ2 h M2 H2 v m2 rs2=>h M2 H2 v (m1.trans m2) rs2) (h.no rfl)))
abbrev dChain (g g':D -> D -> (D -> Prop) -> Prop) (ta tb tc:DE):DE:=fun ρ Q=>ta ρ fun x ρ1=>tb ρ1 fun y ρ2=>g x y fun d=>blD d fun k=>Br k (tc ρ2 fun z ρ3=>g' y z fun d=>Q d ρ3) (Q (.bl false) ρ2)
theorem dChain_mono (ho:∀ x y P P',(∀ d,P d -> P' d) -> g x y P -> g x y P') (ho':∀ x y P P',(∀ d,P d -> P' d) -> g' x y P -> g' x y P') (ha:PED X a ta) (hb:PED X b tb) (hc:PED X c tc) :
  ∀ ρ P P',(∀ d ρ',P d ρ' -> P' d ρ') -> dChain g g' ta tb tc ρ P -> dChain g g' ta tb tc ρ P' :=
 fun _ _ _ f h=>ha.mono _ _ _ (fun _ _ h=>hb.mono _ _ _ (fun _ _ h=>ho _ _ _ _ (fun _ h=>blD_mono (fun _ h=>⟨fun e=>hc.mono _ _ _ (fun _ _ h=>ho' _ _ _ _ (fun _ h=>f _ _ h) h) (h.yes e),fun e=>f _ _ (h.no e)⟩) h) h) h) h
theorem dChain_run {op op':CmpOp} (ho:OpD X (compareOp op) g) (ho':OpD X (compareOp op') g') (ha:PED X a ta) (hb:PED X b tb) (hc:PED X c tc)  :
  ∃ (r r':R2) (Ta Tb Tc:TE),OpR X (compareOp op) r /\ OpR X (compareOp op') r' /\ PE X a Ta /\ PE X b Tb /\ PE X c Tc /\ ∀ {F:Fx} M H σ ρ (Q:VK),RSt X.K F M H σ ρ ->
  (dChain g g' ta tb tc ρ fun d ρ'=>∀ M' H' v,Mv X.K F.pp M H M' H' -> RSt X.K F M' H' σ ρ' -> Rep X.K F.pp M' H' d v -> Q v H') -> tChain r r' Ta Tb Tc σ H Q:=by
 obtain ⟨r,hr,hg⟩:=ho.run
 obtain ⟨r',hr',hg'⟩:=ho'.run
 obtain ⟨Ta,pa,ra⟩:=ha.run
 obtain ⟨Tb,pb,rb⟩:=hb.run
 obtain ⟨Tc,pc,rc⟩:=hc.run
 refine ⟨r,r',Ta,Tb,Tc,hr,hr',pa,pb,pc,fun {F} M H σ ρ Q rs h=>?_⟩
 refine ra M H σ ρ _ rs (ha.mono _ _ _ (fun x ρ1 h M1 H1 v m1 rs1 r1=>?_) h)
 refine rb M1 H1 σ ρ1 _ rs1 (hb.mono _ _ _ (fun y ρ2 h M2 H2 u m2 rs2 r2=>?_) h)
 refine hg M2 H2 x y v u _ rs2.liv (r1.mv m2) r2 (ho.mono _ _ _ _ (fun d h H' w s r=>?_) h)
 obtain ⟨k,e,h⟩:=blD_rep r h
 refine ⟨k,e,?_⟩
 have rs3:=rs2.sameP s
 have m3:Mv X.K F.pp M H M2 H':=(m1.trans m2).trans s.mv
 cases k with
 | false=>exact iteF (h.no rfl M2 H' _ m3 rs3 rep_bl)
 | true =>
  refine iteT (rc M2 H' σ ρ2 _ rs3 (hc.mono _ _ _ (fun z ρ3 h M4 H4 w' m4 rs4 r4=>?_) (h.yes rfl)))
  refine hg' M4 H4 y z u w' _ rs4.liv ((r2.mv s.mv).mv m4) r4 (ho'.mono _ _ _ _ (fun d h H5 w s r=>?_) h)
  exact h M4 H5 w ((m3.trans m4).trans s.mv) (rs4.sameP s) r
theorem de_chain {op op':CmpOp} (ho:OpD X (compareOp op) g) (ho':OpD X (compareOp op') g') (ha:PED X a ta) (hb:PED X b tb) (hc:PED X c tc)
  (hm:lastMarks [op,op'] [b,c] = false:=by with_unfolding_all rfl):PED X (.Compare a [op,op'] [b,c] pos) (dChain g g' ta tb tc):=by
 obtain ⟨r,r',Ta,Tb,Tc,hr,hr',pa,pb,pc,h⟩:=dChain_run ho ho' ha hb hc
 exact ⟨dChain_mono ho.mono ho'.mono ha hb hc,_,pe_chain hr hr' pa pb pc hm,h⟩
variable {tL:DA} {es:List Expr} {e:Expr}
abbrev daNil:DA:=fun ρ Q=>Q [] ρ
abbrev daCons (t:DE) (u:DA):DA:=fun ρ Q=>t ρ fun x ρ1=>u ρ1 fun xs ρ2=>Q (x :: xs) ρ2
theorem da_nil:PAD X [] daNil:=⟨fun _ _ _ f h=>f _ _ h,_,pa_nil,fun {F} M H _ _ _ rs h=>h M H [] .refl rs .nil⟩
theorem da_cons (ha:PED X e ta) (hr:PAD X es tL) (hs:starEach (e :: es) X.env = (false,eval e X.env) :: starEach es X.env:=by rfl):PAD X (e :: es) (daCons ta tL):=by
 obtain ⟨T,p,r⟩:=ha.run
 obtain ⟨U,q,s⟩:=hr.run
 refine ⟨fun _ _ _ f h=>ha.mono _ _ _ (fun _ _ h=>hr.mono _ _ _ (fun _ _ h=>f _ _ h) h) h,_,pa_cons p q hs,fun {F} M H σ ρ Q rs h=>?_⟩
 refine r M H σ ρ _ rs (ha.mono _ _ _ (fun x ρ1 h M1 H1 v m1 rs1 r1=>?_) h)
 exact s M1 H1 σ ρ1 _ rs1 (hr.mono _ _ _ (fun ds ρ2 h M2 H2 vs m2 rs2 r2=>h M2 H2 (v :: vs) (m1.trans m2) rs2 (.cons (r1.mv m2) r2)) h)
abbrev dTup (t:DA):DE:=fun ρ Q=>t ρ fun xs ρ1=>xs.length <= sizeLine /\ Q (.tup xs) ρ1
theorem de_tup {x1} (h:PAD X es tL):PED X (.Tuple es x1 pos) (dTup tL):=by
 obtain ⟨T,p,r⟩:=h.run
 refine ⟨fun _ _ _ f q=>h.mono _ _ _ (fun _ _ q=>⟨q.1,f _ _ q.2⟩) q,_,pe_tup p,fun {F} M H σ ρ Q rs q=>?_⟩
 refine r M H σ ρ _ rs (h.mono _ _ _ (fun ds ρ1 q M1 H1 vs m1 rs1 r1=>?_) q)
 refine ⟨by rw [← r1.length]; exact q.1,fun l hl=>?_⟩
 refine q.2 M1 _ _ (m1.trans (.new hl)) (rs1.sameP (.new hl)) ?_
 simp only [Rep]
 exact ⟨l,vs,rfl,upd_same,r1.mv (.new hl)⟩
structure PLD (X:Cx) (e:Expr) (t:DA):Prop where
 mono:∀ ρ P P',(∀ d ρ',P d ρ' -> P' d ρ') -> t ρ P -> t ρ P'
 run:∃ T:TE,PE X e T /\ ∀ {F:Fx} M H σ ρ (Q:VK),RSt X.K F M H σ ρ ->
  (t ρ fun ds ρ'=>∀ M' H1 H' l xs,Mv X.K F.pp M H M' H1 -> RSt X.K F M' H1 σ ρ' -> H1 l = none -> H' = upd H1 l (.lst xs) -> Reps X.K F.pp M' H1 ds xs -> Q (.ref l) H') -> T σ H Q
abbrev dLst (t:DA):DA:=fun ρ Q=>t ρ fun xs ρ1=>xs.length <= sizeLine /\ Q xs ρ1
theorem dl_lst (h:PAD X es tL):PLD X (.List es pos) (dLst tL):=by
 obtain ⟨T,p,r⟩:=h.run
 refine ⟨fun _ _ _ f q=>h.mono _ _ _ (fun _ _ q=>⟨q.1,f _ _ q.2⟩) q,_,pe_lst p,fun {F} M H σ ρ Q rs q=>?_⟩
 refine r M H σ ρ _ rs (h.mono _ _ _ (fun ds ρ1 q M1 H1 vs m1 rs1 r1=>?_) q)
 exact ⟨by rw [← r1.length]; exact q.1,fun l hl=>q.2 M1 H1 _ l vs m1 rs1 hl rfl r1⟩
abbrev dFrz (t:DA):DE:=fun ρ Q=>t ρ fun xs ρ1=>Q (.lst xs) ρ1
theorem de_frz (h:PLD X e tL):PED X e (dFrz tL):=by
 obtain ⟨T,p,r⟩:=h.run
 refine ⟨fun _ _ _ f q=>h.mono _ _ _ (fun _ _ q=>f _ _ q) q,T,p,fun {F} M H σ ρ Q rs q=>?_⟩
 refine r M H σ ρ _ rs (h.mono _ _ _ (fun ds ρ1 q M1 H1 H' l xs m1 rs1 hl e r1=>?_) q)
 subst e
 refine q M1 _ _ (m1.trans (.new hl)) (rs1.sameP (.new hl)) ?_
 simp only [Rep]
 exact ⟨l,xs,rfl,(rs1.liv.fresh hl).1,(rs1.liv.fresh hl).2,upd_same,r1.mv (.new hl)⟩
end
end DL
namespace DL
open PySem PySem.Spec L2
open PyProof.Rows hiding St
variable [Frm]
abbrev DSp:=List D -> (D -> Prop) -> Prop
def spD (K:PySem.W.Frag) (n:Nat) (g:DSp):Sp:=fun vs H Q _=>∃ pp M ds,Lv pp M H /\ Reps K pp M H ds vs /\ ds.length = n /\ g ds (fun d=>∀ H' v,SameP K pp H H' -> Rep K pp M H' d v -> Q v H')
def MonoS (g:DSp):Prop:=∀ ds P P',(∀ d,P d -> P' d) -> g ds P -> g ds P'
structure CallD (X:Cx) (f:Value) (g:DSp):Prop where
 mono:MonoS g
 run:∃ r:List V -> Hp -> VK -> Prop,CallR X f r /\ ∀ {pp:Option Addr} M H ds vs (Q:VK),Lv pp M H -> Reps X.K pp M H ds vs -> g ds (fun d=>∀ H' w,SameP X.K pp H H' -> Rep X.K pp M H' d w -> Q w H') -> r vs H Q
abbrev dCB (g:DSp) (t:DA):DE:=fun ρ Q=>t ρ fun ds ρ1=>g ds fun d=>Q d ρ1
abbrev dCall (n:Nat) (g:DSp) (t:DA):DE:=fun ρ Q=>t ρ fun ds ρ1=>ds.length = n /\ g ds fun d=>Q d ρ1
section
variable {X:Cx} {F:Fx} {x:Str} {p pos:Pos} {e:Expr} {es:List Expr} {t:DA} {id T:String} {g:DSp}
theorem de_callB (hc:CallD X (.builtin id) g) (hg:Gl X x) (hm:X.mg x = none) (hv:bootBuiltins x = some (.builtin id)) (ha:PAD X (e :: es) t) (hn:x ≠ "__name__":=by decide) (hdb:(x == ("__debug__" : Str)) = false:=by decide)
  (he:starEach (e :: es) X.env = (false,eval e X.env) :: starEach es X.env:=by rfl) (hpl:(backTo pos (starEach es X.env)).any (·.1) = false:=by rfl):PED X (.Call (.Name x p) (e :: es) [] pos) (dCB g t):=by
 obtain ⟨r,hr,h⟩:=hc.run
 obtain ⟨T,pa,ra⟩:=ha.run
 refine ⟨fun _ _ _ f q=>ha.mono _ _ _ (fun _ _ q=>hc.mono _ _ _ (fun _ q=>f _ _ q) q) q,_,pe_callB hr hg hm hv pa hn hdb he hpl,fun {F} M H σ ρ Q rs q=>?_⟩
 refine ra M H σ ρ _ rs (ha.mono _ _ _ (fun ds ρ1 q M1 H1 vs m1 rs1 r1=>?_) q)
 exact h M1 H1 ds vs _ rs1.liv r1 (hc.mono _ _ _ (fun d q H' w s r=>q M1 H' w (m1.trans s.mv) (rs1.sameP s) r) q)
theorem de_callTy (hc:CallD X (.type T) g) (hg:Gl X x) (hm:X.mg x = none) (hv:bootBuiltins x = some (.type T)) (ha:PAD X (e :: es) t) (hn:x ≠ "__name__":=by decide) (hdb:(x == ("__debug__" : Str)) = false:=by decide)
  (he:starEach (e :: es) X.env = (false,eval e X.env) :: starEach es X.env:=by rfl) (hpl:(backTo pos (starEach es X.env)).any (·.1) = false:=by rfl):PED X (.Call (.Name x p) (e :: es) [] pos) (dCB g t):=by
 obtain ⟨r,hr,h⟩:=hc.run
 obtain ⟨T,pa,ra⟩:=ha.run
 refine ⟨fun _ _ _ f q=>ha.mono _ _ _ (fun _ _ q=>hc.mono _ _ _ (fun _ q=>f _ _ q) q) q,_,pe_callTy hr hg hm hv pa hn hdb he hpl,fun {F} M H σ ρ Q rs q=>?_⟩
 refine ra M H σ ρ _ rs (ha.mono _ _ _ (fun ds ρ1 q M1 H1 vs m1 rs1 r1=>?_) q)
 exact h M1 H1 ds vs _ rs1.liv r1 (hc.mono _ _ _ (fun d q H' w s r=>q M1 H' w (m1.trans s.mv) (rs1.sameP s) r) q)
theorem de_call {k n:Nat} {f:Addr} {fd:FuncData} {ps:List Str} (Fn:FnOk X.prog X.w X.K X.mg X.base CX0 k f fd ps (spD X.K n g)) (gm:MonoS g) (hr:Room k X.A) (hg:Gl X x) (hm:X.mg x = some (.ref f)) (hk:PySem.W.keepIn X.K (.ref f) = true) (hb:Binds X.K fd ps [])
  (ha:PAD X (e :: es) t) (hdb:(x == ("__debug__" : Str)) = false:=by decide) (he:starEach (e :: es) X.env = (false,eval e X.env) :: starEach es X.env:=by rfl) (hpl:(backTo pos (starEach es X.env)).any (·.1) = false:=by rfl) :
  PED X (.Call (.Name x p) (e :: es) [] pos) (dCall n g t):=by
 obtain ⟨T,pa,ra⟩:=ha.run
 refine ⟨fun _ _ _ f q=>ha.mono _ _ _ (fun _ _ q=>⟨q.1,gm _ _ _ (fun _ q=>f _ _ q) q.2⟩) q,_,pe_call Fn hr hg hm hk hb .nil pass0 pa hdb he hpl,fun {F} M H σ ρ Q rs q=>?_⟩
 refine ra M H σ ρ _ rs (ha.mono _ _ _ (fun ds ρ1 q M1 H1 vs m1 rs1 r1=>?_) q)
 rw [List.append_nil]
 exact ⟨F.pp,M1,ds,rs1.liv,r1,q.1,gm _ _ _ (fun d q H' w s r=>q M1 H' w (m1.trans s.mv) (rs1.sameP s) r) q.2⟩
end
structure EO (K:PySem.W.Frag) (F:Fx) (M:List Addr) (H:Hp) (E:DEnds) (D:Ends):Prop where
 nx:∀ M' H' σ' ρ',Mv K F.pp M H M' H' -> RSt K F M' H' σ' ρ' -> E.nx ρ' -> D.nx σ' H'
 bk:∀ M' H' σ' ρ',Mv K F.pp M H M' H' -> RSt K F M' H' σ' ρ' -> E.bk ρ' -> D.bk σ' H'
 ct:∀ M' H' σ' ρ',Mv K F.pp M H M' H' -> RSt K F M' H' σ' ρ' -> E.ct ρ' -> D.ct σ' H'
 rt:∀ M' H' σ' ρ' d v,Mv K F.pp M H M' H' -> RSt K F M' H' σ' ρ' -> Rep K F.pp M' H' d v -> E.rt d -> D.rt v H'
theorem EO.mv {K:PySem.W.Frag} {F:Fx} {M M1:List Addr} {H H1:Hp} {E:DEnds} {D:Ends} (o:EO K F M H E D) (m:Mv K F.pp M H M1 H1):EO K F M1 H1 E D :=
 ⟨fun _ _ _ _ m'=>o.nx _ _ _ _ (m.trans m'),fun _ _ _ _ m'=>o.bk _ _ _ _ (m.trans m'),fun _ _ _ _ m'=>o.ct _ _ _ _ (m.trans m'),fun _ _ _ _ _ _ m'=>o.rt _ _ _ _ _ _ (m.trans m')⟩
def PSD (X:Cx) (st:Stmt) (t:DTS):Prop:=∃ T:TS,PS X st T /\ ∀ {F:Fx} M H σ ρ (E:DEnds) (D:Ends),RSt X.K F M H σ ρ -> EO X.K F M H E D -> t E ρ -> T D σ H
def PSsD (X:Cx) (st:List Stmt) (t:DTS):Prop:=∃ T:TS,PSs X st T /\ ∀ {F:Fx} M H σ ρ (E:DEnds) (D:Ends),RSt X.K F M H σ ρ -> EO X.K F M H E D -> t E ρ -> T D σ H
section
variable {X:Cx} {F:Fx} {st:Stmt} {rest a b:List Stmt} {t u:DTS} {e c:Expr} {te:DE} {tc:DT} {tl:DA} {pos:Pos}
abbrev dNext:DTS:=fun E ρ=>E.nx ρ
abbrev dSeq (t u:DTS):DTS:=fun E ρ=>t { E with nx:=u E } ρ
abbrev dMid (t u:DTS):DTS:=fun E ρ=>∃ N:DS -> Prop,t { E with nx:=N } ρ /\ ∀ ρ',N ρ' -> u E ρ'
theorem dss_nil:PSsD X [] dNext:=⟨_,pss_nil,fun {F} M H σ ρ E D rs o h=>o.nx M H σ ρ .refl rs h⟩
theorem dss_one (h:PSD X st t):PSsD X [st] t:=by
 obtain ⟨T,p,r⟩:=h
 exact ⟨T,pss_one p,r⟩
theorem dss_cons (h1:PSD X st t) (h2:PSsD X rest u):PSsD X (st :: rest) (dSeq t u):=by
 obtain ⟨T,p,r⟩:=h1
 obtain ⟨U,q,s⟩:=h2
 refine ⟨_,pss_cons p q,fun {F} M H σ ρ E D rs o h=>r M H σ ρ { E with nx:=u E } { D with nx:=U D } rs ⟨fun M' H' σ' ρ' m rs' h=>?_,o.bk,o.ct,o.rt⟩ h⟩
 exact s M' H' σ' ρ' E D rs' (o.mv m) h
theorem dss_mid (h1:PSD X st t) (h2:PSsD X rest u):PSsD X (st :: rest) (dMid t u):=by
 obtain ⟨T,p,r⟩:=h1
 obtain ⟨U,q,s⟩:=h2
 refine ⟨_,pss_cons p q,fun {F} M H σ ρ E D rs o h=>?_⟩
 obtain ⟨N,h,hn⟩:=h
 refine r M H σ ρ { E with nx:=N } { D with nx:=U D } rs ⟨fun M' H' σ' ρ' m rs' h=>?_,o.bk,o.ct,o.rt⟩ h
 exact s M' H' σ' ρ' E D rs' (o.mv m) (hn _ h)
abbrev dNever:DTS:=fun _ _=>False
theorem ds_never:PSD X st dNever:=⟨_,ps_never,fun _ _ _ _ _ _ _ _ h=>h⟩
abbrev dRet (te:DE):DTS:=fun E ρ=>te ρ fun d _=>E.rt d
theorem ds_ret (h:PED X e te):PSD X (.Return (some e) pos) (dRet te):=by
 obtain ⟨T,p,r⟩:=h.run
 refine ⟨_,ps_ret p,fun {F} M H σ ρ E D rs o q=>r M H σ ρ _ rs (h.mono _ _ _ (fun d ρ' q M' H' v m rs' r'=>?_) q)⟩
 exact o.rt M' H' σ ρ' d v m rs' r' q
abbrev dDrop (te:DE):DTS:=fun E ρ=>te ρ fun _ ρ'=>E.nx ρ'
theorem ds_expr (h:PED X e te) (hs:swapsWith e none pos.line X.env = pure false:=by rfl):PSD X (.Expr e pos) (dDrop te):=by
 obtain ⟨T,p,r⟩:=h.run
 refine ⟨_,ps_expr p hs,fun {F} M H σ ρ E D rs o q=>r M H σ ρ _ rs (h.mono _ _ _ (fun d ρ' q M' H' v m rs' r'=>?_) q)⟩
 exact o.nx M' H' σ ρ' m rs' q
abbrev dIfS (c:DT) (t u:DTS):DTS:=fun E ρ=>c ρ fun b ρ'=>Br b (t E ρ') (u E ρ')
theorem ds_if (hc:PTD X c tc) (ha:PSsD X a t) (hb:PSsD X b u):PSD X (.If c a b pos) (dIfS tc t u):=by
 obtain ⟨T,p,r⟩:=hc.run
 obtain ⟨U,q,s⟩:=ha
 obtain ⟨U',q',s'⟩:=hb
 refine ⟨_,ps_if p q q',fun {F} M H σ ρ E D rs o h=>r M H σ ρ _ rs (hc.mono _ _ _ (fun k ρ1 h M1 H1 m1 rs1=>?_) h)⟩
 cases k with
 | true=>exact iteT (s M1 H1 σ ρ1 E D rs1 (o.mv m1) (h.yes rfl))
 | false=>exact iteF (s' M1 H1 σ ρ1 E D rs1 (o.mv m1) (h.no rfl))
abbrev dSet (i:Nat) (te:DE):DTS:=fun E ρ=>te ρ fun d ρ'=>E.nx (ρ'.set i (.val d))
theorem ds_set {i:Nat} {x:Str} {pos':Pos} (hN:X.N.Nodup) (hi:X.N[i]? = some x) (hx:Loc X.env.scope x) (h:PED X e te) (hs:swapsWith e (some (.Name x pos')) pos.line X.env = pure false:=by rfl) (hf:X.fn x = true ∨ X.env.scope.names.lookup x = some .local:=by first | exact .inl rfl | exact .inr rfl | assumption) :
  PSD X (.Assign [.Name x pos'] e pos) (dSet i te):=by
 obtain ⟨T,p,r⟩:=h.run
 refine ⟨_,ps_set hN hi hx p hs hf,fun {F} M H σ ρ E D rs o q=>r M H σ ρ _ rs (h.mono _ _ _ (fun d ρ' q M' H' v m rs' r'=>?_) q)⟩
 exact o.nx M' H' _ _ m (rs'.set r' i) q
abbrev dOwn (i:Nat) (t:DA):DTS:=fun E ρ=>t ρ fun ds ρ'=>E.nx (ρ'.set i (.own ds))
theorem RSt.newOwn {K:PySem.W.Frag} {M:List Addr} {H:Hp} {σ:St} {ρ:DS} {l:Addr} {xs:List V} {ds:List D} (r:RSt K F M H σ ρ) (hl:H l = none) (hd:Reps K F.pp M H ds xs) (i:Nat) :
  RSt K F (l :: M) (upd H l (.lst xs)) (σ.set i (some (.ref l))) (ρ.set i (.own ds)):=by
 have m:Mv K F.pp M H (l :: M) (upd H l (.lst xs)):=.newOwn hl
 have s:SameP K F.pp H (upd H l (.lst xs)):=.new hl
 have h0:F.H0 l = none:=by
  cases e:F.H0 l with
  | none=>rfl
  | some o=>exact absurd hl (r.same.live l (by rw [e]; intro z; cases z))
 refine ⟨by simp [r.len],fun j q o h1 h2=>?_,r.ow.step m i (fun j e=>List.getElem?_set_ne (Ne.symm e)) (fun j e=>List.getElem?_set_ne (Ne.symm e)) (fun A _ _=>⟨[l],fun s o e1 e2=>?_,fun b hb=>?_,fun a ha hp h0' _=>⟨List.mem_cons_of_mem _ ha,fun x e=>upd_old hl e⟩⟩),fun a ha=>List.mem_cons_of_mem _ (r.sub a ha),r.same.trans s,r.old,?_,Frm.cl _ _ _ _ _ _ r.lk m⟩
 ·by_cases e:i = j
  ·subst e
   rw [set_self h1,set_self h2]
   exact ⟨l,xs,rfl,List.mem_cons_self,h0,(r.liv.fresh hl).2,upd_same,hd.mv m⟩
  ·rw [List.getElem?_set_ne e] at h1 h2
   have q':=r.sl j q o h1 h2
   cases q with
   | nil=>trivial
   | val d=>obtain ⟨v,e,q⟩:=q'; exact ⟨v,e,q.mv m⟩
   | pin w d=>obtain ⟨v,e,ew,q⟩:=q'; exact ⟨v,e,ew,q.mv m⟩
   | own es =>
    obtain ⟨l',ys,rfl,hm',h0',hp',hl',hr'⟩:=q'
    exact ⟨l',ys,rfl,List.mem_cons_of_mem _ hm',h0',hp',upd_old hl hl',hr'.mv m⟩
   | obj q=>exact q'
 ·rw [set_self e1,set_self e2]
  exact ⟨l,rfl,rfl⟩
 ·rw [List.mem_singleton.mp hb]
  exact ⟨List.mem_cons_self,h0,(r.liv.fresh hl).2,.inr (r.liv.fresh hl).1⟩
 ·refine ⟨fun a ha=>?_,fun p e=>s.live p (r.liv.p p e)⟩
  rcases List.mem_cons.mp ha with rfl | ha
  ·rw [upd_same]; intro z; cases z
  ·exact s.live a (r.liv.m a ha)
theorem ds_own {i:Nat} {x:Str} {pos':Pos} (hN:X.N.Nodup) (hi:X.N[i]? = some x) (hx:Loc X.env.scope x) (h:PLD X e tl) (hs:swapsWith e (some (.Name x pos')) pos.line X.env = pure false:=by rfl) (hf:X.fn x = true ∨ X.env.scope.names.lookup x = some .local:=by first | exact .inl rfl | exact .inr rfl | assumption) :
  PSD X (.Assign [.Name x pos'] e pos) (dOwn i tl):=by
 obtain ⟨T,p,r⟩:=h.run
 refine ⟨_,ps_set hN hi hx p hs hf,fun {F} M H σ ρ E D rs o q=>r M H σ ρ _ rs (h.mono _ _ _ (fun ds ρ' q M' H1 H' l xs m rs' hl e r'=>?_) q)⟩
 subst e
 exact o.nx _ _ _ _ (m.trans (.newOwn hl)) (rs'.newOwn hl r' i) q
abbrev DG:=D -> DS -> (DS -> Prop) -> Prop
structure PGD (X:Cx) (tg:Expr) (g:DG):Prop where
 mono:∀ d ρ P P',(∀ ρ',P ρ' -> P' ρ') -> g d ρ P -> g d ρ P'
 run:∃ G:TG,PG X tg G /\ ∀ {F:Fx} M H σ ρ d v (Q:St -> Hp -> Prop),RSt X.K F M H σ ρ -> Rep X.K F.pp M H d v -> (g d ρ fun ρ'=>∀ M' H' σ',Mv X.K F.pp M H M' H' -> RSt X.K F M' H' σ' ρ' -> Q σ' H') -> G v σ H Q
abbrev dgName (i:Nat):DG:=fun d ρ Q=>Q (ρ.set i (.val d))
theorem dg_name {i:Nat} {x:Str} (hN:X.N.Nodup) (hi:X.N[i]? = some x) (hx:Loc X.env.scope x) (hf:X.fn x = true ∨ X.env.scope.names.lookup x = some .local:=by first | exact .inl rfl | exact .inr rfl | assumption):PGD X (.Name x pos) (dgName i) :=
 ⟨fun _ _ _ _ f h=>f _ h,_,pg_name hN hi hx hf,fun {F} M H σ ρ d v Q rs r h=>h M H _ .refl (rs.set r i)⟩
abbrev DGs:=List D -> DS -> (DS -> Prop) -> Prop
structure PGsD (X:Cx) (tg:List Expr) (g:DGs):Prop where
 mono:∀ d ρ P P',(∀ ρ',P ρ' -> P' ρ') -> g d ρ P -> g d ρ P'
 run:∃ G:TGs,PGs X tg G /\ ∀ {F:Fx} M H σ ρ ds vs (Q:St -> Hp -> Prop),RSt X.K F M H σ ρ -> Reps X.K F.pp M H ds vs -> (g ds ρ fun ρ'=>∀ M' H' σ',Mv X.K F.pp M H M' H' -> RSt X.K F M' H' σ' ρ' -> Q σ' H') -> G vs σ H Q
def dgNil:DGs:=fun ds ρ Q=>match ds with
 | []=>Q ρ
 | _=>False
def dgCons (g:DG) (u:DGs):DGs:=fun ds ρ Q=>match ds with
 | d :: r=>g d ρ fun ρ'=>u r ρ' Q
 | []=>False
theorem dgs_nil:PGsD X [] dgNil:=by
 refine ⟨fun ds _ _ _ f h=>?_,_,pgs_nil,fun {F} M H σ ρ ds vs Q rs r h=>?_⟩
 ·cases ds with
  | nil=>exact f _ h
  | cons=>exact h
 ·cases ds with
  | nil=>simp only [Reps] at r; exact ⟨r,h M H σ .refl rs⟩
  | cons=>exact h.elim
theorem dgs_cons {e:Expr} {es:List Expr} {g:DG} {u:DGs} (h1:PGD X e g) (h2:PGsD X es u)
  (hs:(assignEach (e :: es) X.env).map (·.2) = assign e X.env :: (assignEach es X.env).map (·.2):=by rfl):PGsD X (e :: es) (dgCons g u):=by
 obtain ⟨G,p,r⟩:=h1.run
 obtain ⟨G',p',r'⟩:=h2.run
 refine ⟨fun ds _ _ _ f h=>?_,_,pgs_cons p p' hs,fun {F} M H σ ρ ds vs Q rs rd h=>?_⟩
 ·cases ds with
  | nil=>exact h
  | cons=>exact h1.mono _ _ _ _ (fun _ h=>h2.mono _ _ _ _ f h) h
 ·cases ds with
  | nil=>exact h.elim
  | cons d ds =>
   simp only [Reps] at rd
   obtain ⟨v,vr,rfl,rd,rr⟩:=rd
   refine ⟨v,vr,rfl,r M H σ ρ d v _ rs rd (h1.mono _ _ _ _ (fun ρ' h M1 H1 σ1 m1 rs1=>?_) h)⟩
   exact r' M1 H1 σ1 ρ' ds vr _ rs1 (rr.mv m1) (h2.mono _ _ _ _ (fun ρ2 h M2 H2 σ2 m2 rs2=>h M2 H2 σ2 (m1.trans m2) rs2) h)
def dgTup (n:Nat) (g:DGs):DG:=fun d ρ Q=>match d with
 | .tup ds=>ds.length = n /\ g ds ρ Q
 | _=>False
theorem dg_tup {es:List Expr} {k:Nat} {g:DGs} {n:Nat} (hc:X.calm = true) (h:PGsD X es g)
  (hn:(assignEach es X.env).length = n:=by rfl) (hst:(assignEach es X.env).findIdx? (·.1) = none:=by rfl):PGD X (.Tuple es k pos) (dgTup n g):=by
 obtain ⟨G,p,r⟩:=h.run
 refine ⟨fun d _ _ _ f q=>?_,_,pg_tupH hc p hn hst,fun {F} M H σ ρ d v Q rs rd q=>?_⟩
 ·cases d <;> first | exact q.elim | exact ⟨q.1,h.mono _ _ _ _ f q.2⟩
 ·cases d with
  | tup ds =>
   simp only [Rep] at rd
   obtain ⟨a,xs,rfl,ha,rd⟩:=rd
   exact ⟨a,xs,rfl,ha,by rw [← rd.length]; exact q.1,r M H σ ρ ds xs _ rs rd q.2⟩
  | _=>exact q.elim
abbrev dAsg (te:DE) (g:DG):DTS:=fun E ρ=>te ρ fun d ρ'=>g d ρ' E.nx
theorem ds_asg {tg:Expr} {g:DG} (he:PED X e te) (hg:PGD X tg g) (hs:swapsWithSole [tg] e pos.line X.env = pure false:=by rfl) (hw:swappedStores [tg] e X.env = pure none:=by rfl) (hh:PS X (.Assign [tg] e pos) (tAsg (Classical.choose he.run) (Classical.choose hg.run)):=by exact ps_asg (Classical.choose_spec he.run).1 (Classical.choose_spec hg.run).1):PSD X (.Assign [tg] e pos) (dAsg te g):=by
 obtain ⟨_,r⟩:=Classical.choose_spec he.run
 obtain ⟨_,r'⟩:=Classical.choose_spec hg.run
 refine ⟨_,hh,fun {F} M H σ ρ E D rs o q=>r M H σ ρ _ rs (he.mono _ _ _ (fun d ρ' q M' H' v m rs' rd=>?_) q)⟩
 exact r' M' H' σ ρ' d v _ rs' rd (hg.mono _ _ _ _ (fun ρ2 q M2 H2 σ2 m2 rs2=>o.nx M2 H2 σ2 ρ2 (m.trans m2) rs2 q) q)
def dLoop (g:DG) (b:DTS):List D -> DEnds -> DS -> Prop
 | [],E,ρ=>E.nx ρ
 | d :: r,E,ρ=>g d ρ fun ρ1=>b { E with nx:=fun ρ'=>dLoop g b r E ρ',ct:=fun ρ'=>dLoop g b r E ρ',bk:=E.nx } ρ1
structure ItOkV (K:PySem.W.Frag) (pp:Option Addr) (J:It) (M:List Addr) (H:Hp) (vs:List V):Prop where
 yld:∀ M2 H2,Mv K pp M H M2 H2 -> ∀ i x H3,i < vs.length -> J.yld i H2 x H3 -> H3 = H2 /\ vs[i]? = some x
 go:∀ M2 H2,Mv K pp M H M2 H2 -> ∀ i,i < vs.length -> J.go i H2
 stop:∀ M2 H2,Mv K pp M H M2 H2 -> ∀ i,vs.length <= i -> J.stop i H2
structure ItOk (K:PySem.W.Frag) (pp:Option Addr) (J:It) (M:List Addr) (H:Hp) (ds:List D):Prop where
 yld:∀ M2 H2,Mv K pp M H M2 H2 -> ∀ i d x H3,ds[i]? = some d -> J.yld i H2 x H3 -> SameP K pp H2 H3 /\ Rep K pp M2 H3 d x
 go:∀ M2 H2,Mv K pp M H M2 H2 -> ∀ i,i < ds.length -> J.go i H2
 stop:∀ M2 H2,Mv K pp M H M2 H2 -> ∀ i,ds.length <= i -> J.stop i H2
theorem ItOkV.of {K:PySem.W.Frag} {pp:Option Addr} {J:It} {M:List Addr} {H:Hp} {vs:List V} {ds:List D} (o:ItOkV K pp J M H vs) (rd:Reps K pp M H ds vs):ItOk K pp J M H ds where
 yld:=fun M2 H2 m i d x H3 e y=>by
  obtain ⟨v,e1,r⟩:=rd.get' e
  obtain ⟨rfl,e2⟩:=o.yld M2 H2 m i x H3 (List.getElem?_eq_some_iff.mp e1).1 y
  rw [e1] at e2
  cases e2
  exact ⟨.refl,r.mv m⟩
 go:=fun M2 H2 m i h=>o.go M2 H2 m i (by rw [← rd.length]; exact h)
 stop:=fun M2 H2 m i h=>o.stop M2 H2 m i (by rw [← rd.length]; exact h)
structure PID (X:Cx) (tg iter:Expr) (t:DA):Prop where
 mono:∀ ρ P P',(∀ d ρ',P d ρ' -> P' d ρ') -> t ρ P -> t ρ P'
 run:∃ wi:TI,PI X tg iter wi /\ ∀ {F:Fx} M H σ ρ (R:It -> Hp -> Prop),RSt X.K F M H σ ρ ->
  (t ρ fun ds ρ'=>∀ M' H' J,Mv X.K F.pp M H M' H' -> RSt X.K F M' H' σ ρ' -> ItOk X.K F.pp J M' H' ds -> R J H') -> wi σ H R
abbrev dFor (t:DA) (g:DG) (b:DTS):DTS:=fun E ρ=>t ρ fun ds ρ'=>dLoop g b ds E ρ'
theorem ds_for {tg iter:Expr} {body:List Stmt} {t:DA} {g:DG} {tb:DTS} {pos:Pos} (hp:PassesOwn (model X.prog X.w) X.A X.env X.xe) (hc:X.calm = true) (hi:PID X tg iter t) (hg:PGD X tg g) (hb:PSsD X body tb)
  (hs:∀ x,foldedSetIterable iter X.env x = pure x:=by intro _; rfl):PSD X (.For tg iter body [] pos) (dFor t g tb):=by
 obtain ⟨wi,pi,ri⟩:=hi.run
 obtain ⟨G,pg,rg⟩:=hg.run
 obtain ⟨T,p,r⟩:=hb
 refine ⟨_,ps_for hp hc pi pg p hs,fun {F} M H σ ρ E D rs o h=>ri M H σ ρ _ rs (hi.mono _ _ _ (fun ds ρ1 h M1 H1 J m1 rs1 ok=>?_) h)⟩
 refine ⟨fun i m σ2 H2=>∃ M2 ρ2,m = ds.length - i /\ i <= ds.length /\ Mv X.K F.pp M1 H1 M2 H2 /\ RSt X.K F M2 H2 σ2 ρ2 /\ dLoop g tb (ds.drop i) E ρ2,⟨ds.length,M1,ρ1,rfl,Nat.zero_le _,.refl,rs1,h⟩,?_⟩
 rintro i m σ2 H2 ⟨M2,ρ2,rfl,hi2,m2,rs2,h2⟩
 by_cases hlt:i < ds.length
 ·have e1:ds[i]? = some ds[i]:=by simp [hlt]
  rw [List.drop_eq_getElem_cons hlt] at h2
  refine .inr ⟨ok.go M2 H2 m2 i hlt,fun σ' H'=>∃ M' ρ',Mv X.K F.pp M1 H1 M' H' /\ RSt X.K F M' H' σ' ρ' /\ dLoop g tb (ds.drop (i + 1)) E ρ',fun σ' H' ⟨M',ρ',mm,rs',h'⟩=>⟨ds.length - (i + 1),by omega,M',ρ',rfl,hlt,mm,rs',h'⟩,fun x H3 y=>?_⟩
  obtain ⟨sp,rx⟩:=ok.yld M2 H2 m2 i _ x H3 e1 y
  have m23:=m2.trans (sp.mv (M:=M2))
  refine rg M2 H3 σ2 ρ2 _ _ _ (rs2.sameP sp) rx (hg.mono _ _ _ _ (fun ρ3 h3 M3 H3 σ3 m3 rs3=>?_) h2)
  refine r M3 H3 σ3 ρ3 _ _ rs3 ⟨fun M4 H4 σ4 ρ4 m4 rs4 h4=>⟨M4,ρ4,(m23.trans m3).trans m4,rs4,h4⟩,fun M4 H4 σ4 ρ4 m4 rs4 h4=>?_,fun M4 H4 σ4 ρ4 m4 rs4 h4=>⟨M4,ρ4,(m23.trans m3).trans m4,rs4,h4⟩,fun M4 H4 σ4 ρ4 d' v m4 rs4 r4 h4=>?_⟩ h3
  ·exact o.nx M4 H4 σ4 ρ4 (((m1.trans m23).trans m3).trans m4) rs4 h4
  ·exact o.rt M4 H4 σ4 ρ4 d' v (((m1.trans m23).trans m3).trans m4) rs4 r4 h4
 ·have e:i = ds.length:=by omega
  refine .inl ⟨ok.stop M2 H2 m2 i (by omega),?_⟩
  have hd:ds.drop i = []:=by rw [List.drop_eq_nil_iff]; omega
  rw [hd] at h2
  exact o.nx M2 H2 σ2 ρ2 (m1.trans m2) rs2 h2
abbrev diSeq (te:DE):DA:=fun ρ Q=>te ρ fun d ρ'=>match d with
 | .lst ds=>Q ds ρ'
 | _=>False
abbrev diTup (te:DE):DA:=fun ρ Q=>te ρ fun d ρ'=>match d with
 | .tup ds=>Q ds ρ'
 | _=>False
theorem di_list {tg l:Expr} (hl:PED X l te):PID X tg l (diSeq te):=by
 obtain ⟨T,p,r⟩:=hl.run
 refine ⟨fun _ _ _ f h=>hl.mono _ _ _ (fun d _ h=>?_) h,_,pi_list p,fun {F} M H σ ρ R rs h=>r M H σ ρ _ rs (hl.mono _ _ _ (fun d ρ' h M' H' v m rs' rd=>?_) h)⟩
 ·cases d <;> first | exact h.elim | exact f _ _ h
 ·cases d with
  | lst ds =>
   simp only [Rep] at rd
   obtain ⟨a,xs,rfl,hm,hp,ha,rd⟩:=rd
   refine ⟨a,rfl,⟨xs,SqL.of ha⟩,h M' H' _ m rs' (ItOkV.of (vs:=xs) ⟨fun M2 H2 m2 i x H3 _ y=>?_,fun M2 H2 m2 i hi=>?_,fun M2 H2 m2 i hi=>?_⟩ rd)⟩
   ·exact ⟨y.1,y.2 xs (SqL.of (m2.lst a xs ha hm hp).1)⟩
   ·exact ⟨xs,xs[i],SqL.of (m2.lst a xs ha hm hp).1,by simp [hi]⟩
   ·exact ⟨xs,SqL.of (m2.lst a xs ha hm hp).1,hi⟩
  | _=>exact h.elim
theorem di_tup {tg l:Expr} (hl:PED X l te):PID X tg l (diTup te):=by
 obtain ⟨T,p,r⟩:=hl.run
 refine ⟨fun _ _ _ f h=>hl.mono _ _ _ (fun d _ h=>?_) h,_,pi_tup p,fun {F} M H σ ρ R rs h=>r M H σ ρ _ rs (hl.mono _ _ _ (fun d ρ' h M' H' v m rs' rd=>?_) h)⟩
 ·cases d <;> first | exact h.elim | exact f _ _ h
 ·cases d with
  | tup ds =>
   simp only [Rep] at rd
   obtain ⟨a,xs,rfl,ha,rd⟩:=rd
   refine ⟨a,rfl,⟨xs,SqT.of ha⟩,h M' H' _ m rs' (ItOkV.of (vs:=xs) ⟨fun M2 H2 m2 i x H3 _ y=>?_,fun M2 H2 m2 i hi=>?_,fun M2 H2 m2 i hi=>?_⟩ rd)⟩
   ·exact ⟨y.1,y.2 xs (SqT.of (m2.tup a xs ha))⟩
   ·exact ⟨xs,xs[i],SqT.of (m2.tup a xs ha),by simp [hi]⟩
   ·exact ⟨xs,SqT.of (m2.tup a xs ha),hi⟩
  | _=>exact h.elim
def intsD (lo:Int):Nat -> List D
 | 0=>[]
 | n + 1=>.int lo :: intsD (lo + 1) n
theorem reps_intsD {K:PySem.W.Frag} {pp:Option Addr} {M:List Addr} {H:Hp}:∀ (n:Nat) (lo:Int),Reps K pp M H (intsD lo n) ((List.range n).map fun (i:Nat)=>V.int (lo + i))
 | 0,_=>by simp [intsD,Reps]
 | n + 1,lo=>by
  rw [List.range_succ_eq_map,List.map_cons,intsD]
  refine .cons (by simp [Rep]) ?_
  have:=reps_intsD (K:=K) (pp:=pp) (M:=M) (H:=H) n (lo + 1)
  rw [List.map_map]
  refine (congrArg (Reps K pp M H (intsD (lo + 1) n)) (List.map_congr_left fun i _=>?_)).mp this
  simp only [Function.comp]
  congr 1
  omega
abbrev diR1 (t:DA):DA:=fun ρ Q=>t ρ fun ds ρ'=>match ds with
 | [.int j]=>(-(2 ^ 62) <= j /\ j < 2 ^ 62) /\ Q (intsD 0 j.toNat) ρ'
 | _=>False
theorem itOk_range {K:PySem.W.Frag} {pp:Option Addr} {M:List Addr} {H:Hp} {lo:Int} {n:Nat}:ItOkV K pp (Itr lo n) M H ((List.range n).map fun (i:Nat)=>V.int (lo + i)) where
 yld:=fun M2 H2 _ i x H3 hi y=>by
  obtain ⟨e1,e2⟩:=y
  refine ⟨e1,?_⟩
  have hi':i < n:=by simpa using hi
  simp [hi',e2]
 go:=fun _ _ _ i hi=>by show i < n; simpa using hi
 stop:=fun _ _ _ i hi=>by show n <= i; simpa using hi
variable {es:List Expr} {ea eb:Expr}
theorem di_range1 {tg:Expr} {p:Pos} (hg:Gl X "range") (hm:X.mg "range" = none) (ha:PAD X [ea] tl) (hs:starEach [ea] X.env = [(false,eval ea X.env)]:=by rfl):PID X tg (.Call (.Name "range" p) [ea] [] pos) (diR1 tl):=by
 obtain ⟨T,pa,r⟩:=ha.run
 refine ⟨fun _ _ _ f h=>ha.mono _ _ _ (fun d _ h=>?_) h,_,pi_range1 hg hm pa hs,fun {F} M H σ ρ R rs h=>r M H σ ρ _ rs (ha.mono _ _ _ (fun d ρ' h M' H' v m rs' rd=>?_) h)⟩
 ·split at h
  ·exact ⟨h.1,f _ _ h.2⟩
  ·exact h.elim
 ·split at h
  ·rename_i j
   simp only [Reps,Rep] at rd
   obtain ⟨x,r,rfl,rfl,rfl⟩:=rd
   exact ⟨j,rfl,h.1.1,h.1.2,h.2 M' H' _ m rs' (itOk_range.of (reps_intsD _ _))⟩
  ·exact h.elim
def dWhileN (c:DT) (b:DTS):Nat -> DEnds -> DS -> Prop
 | 0,_,_=>False
 | n + 1,E,ρ=>c ρ fun k ρ'=>Br k (b { E with nx:=fun ρ2=>dWhileN c b n E ρ2,ct:=fun ρ2=>dWhileN c b n E ρ2,bk:=E.nx } ρ') (E.nx ρ')
abbrev dWhile (c:DT) (b:DTS):DTS:=fun E ρ=>∃ n,dWhileN c b n E ρ
theorem ds_while {body:List Stmt} {tb:DTS} (hp:PassesOwn (model X.prog X.w) X.A X.env X.xe) (hc:PTD X c tc) (hb:PSsD X body tb):PSD X (.While c body [] pos) (dWhile tc tb):=by
 obtain ⟨C,pc,rc⟩:=hc.run
 obtain ⟨T,p,r⟩:=hb
 refine ⟨_,ps_while hp pc p,fun {F} M H σ ρ E D rs o h=>?_⟩
 obtain ⟨n,h⟩:=h
 refine ⟨fun m σ2 H2=>∃ M2 ρ2,Mv X.K F.pp M H M2 H2 /\ RSt X.K F M2 H2 σ2 ρ2 /\ dWhileN tc tb m E ρ2,⟨n,M,ρ,.refl,rs,h⟩,?_⟩
 rintro m σ2 H2 ⟨M2,ρ2,m2,rs2,h2⟩
 cases m with
 | zero=>exact h2.elim
 | succ m =>
  refine rc M2 H2 σ2 ρ2 _ rs2 (hc.mono _ _ _ (fun k ρ3 h3 M3 H3 m3 rs3=>?_) h2)
  cases k with
  | false=>exact iteF (o.nx M3 H3 σ2 ρ3 (m2.trans m3) rs3 (h3.no rfl))
  | true =>
   refine iteT ⟨fun σ' H'=>∃ M' ρ',Mv X.K F.pp M H M' H' /\ RSt X.K F M' H' σ' ρ' /\ dWhileN tc tb m E ρ',fun σ' H' h'=>⟨m,Nat.lt_succ_self _,h'⟩,?_⟩
   refine r M3 H3 σ2 ρ3 { E with nx:=fun ρ2=>dWhileN tc tb m E ρ2,ct:=fun ρ2=>dWhileN tc tb m E ρ2,bk:=E.nx } _ rs3 ⟨fun M4 H4 σ4 ρ4 m4 rs4 h4=>⟨M4,ρ4,(m2.trans m3).trans m4,rs4,h4⟩,fun M4 H4 σ4 ρ4 m4 rs4 h4=>o.nx M4 H4 σ4 ρ4 ((m2.trans m3).trans m4) rs4 h4,fun M4 H4 σ4 ρ4 m4 rs4 h4=>⟨M4,ρ4,(m2.trans m3).trans m4,rs4,h4⟩,fun M4 H4 σ4 ρ4 d' v m4 rs4 r4 h4=>o.rt M4 H4 σ4 ρ4 d' v ((m2.trans m3).trans m4) rs4 r4 h4⟩ (h3.yes rfl)
end
end DL
namespace DL
open PySem PySem.Spec L2
open PyProof.Rows hiding St
variable [Frm]
def dstart (n:Nat) (ds:List D):DS:=ds.map .val ++ List.replicate (n - ds.length) .nil
theorem reps_start {K:PySem.W.Frag} {F:Fx} {M:List Addr} {H:Hp}:∀ {ds:List D} {vs:List V},Reps K F.pp M H ds vs -> ∀ (i:Nat) s o,(ds.map Sl.val)[i]? = some s -> (vs.map some)[i]? = some o -> RSl K F M H s o
 | [],_,_,_,_,_,h1,_=>by simp at h1
 | d :: ds,_,h,0,s,o,h1,h2=>by
  simp only [Reps] at h
  obtain ⟨x,r,rfl,h,_⟩:=h
  simp at h1 h2
  subst h1 h2
  exact ⟨x,rfl,h⟩
 | d :: ds,_,h,i + 1,s,o,h1,h2=>by
  simp only [Reps] at h
  obtain ⟨x,r,rfl,_,h⟩:=h
  exact reps_start h i s o (by simpa using h1) (by simpa using h2)
theorem val_not_own {ds:List D} {n i:Nat} {es:List D} (h:(ds.map Sl.val ++ List.replicate n Sl.nil)[i]? = some (.own es)):False:=by
 have:=List.mem_of_getElem? h
 rcases List.mem_append.mp this with h | h
 ·obtain ⟨d,_,e⟩:=List.mem_map.mp h; cases e
 ·have:=List.eq_of_mem_replicate h; cases this
theorem val_not_obj {ds:List D} {n i:Nat} {q:O} (h:(ds.map Sl.val ++ List.replicate n Sl.nil)[i]? = some (.obj q)):False:=by
 have:=List.mem_of_getElem? h
 rcases List.mem_append.mp this with h | h
 ·obtain ⟨d,_,e⟩:=List.mem_map.mp h; cases e
 ·have:=List.eq_of_mem_replicate h; cases this
theorem rst_start {K:PySem.W.Frag} {pp:Option Addr} {M:List Addr} {H:Hp} {ds:List D} {vs:List V} {N:List Str} (lv:Lv pp M H) (r:Reps K pp M H ds vs) (lk:Frm.L K ⟨pp,M,H⟩ M H):RSt K ⟨pp,M,H⟩ M H (L2.start N vs) (dstart N.length ds):=by
 have hl:=r.length
 refine ⟨by simp [L2.start,dstart,hl],fun i s o h1 h2=>?_,OwF.none (fun i s e=>⟨fun ds z=>(val_not_own (z ▸ e)).elim,fun q z=>(val_not_obj (z ▸ e)).elim⟩),fun a h=>h,.refl,lv.m,lv,lk⟩
 unfold dstart at h1
 unfold L2.start at h2
 by_cases hi:i < ds.length
 ·rw [List.getElem?_append_left (by simpa using hi)] at h1
  rw [List.getElem?_append_left (by simpa [← hl] using hi)] at h2
  exact reps_start (F:=⟨pp,M,H⟩) r i s o h1 h2
 ·rw [List.getElem?_append_right (by simp; omega)] at h1
  have:=List.eq_of_mem_replicate (List.mem_of_getElem? h1)
  subst this
  trivial
omit [Frm] in
theorem fnD {P:Program} {w:World} {K:PySem.W.Frag} {mg:Str -> Option Value} {base:Heap} {x qual:Str} {st:Stmt} {f:Addr} {fd:FuncData} {N ps:List Str} {k:Nat} {g:DSp} {t:DTS} (Fn:Fun K x qual st f fd) (S:FnScope N ps (defScope st))
  (hb:∀ (cdv:Value) (A:Around) (outer:List Env) (s:Shared) (H:Hp) (E:XK),Room k (A.deeper (envOfC qual (defScope st) s.heap.objs.size f cdv)) -> @PSsD Frm.free (cxOf CX0 P w K mg base N qual (defScope st) f cdv A outer s H E).nox (defBody st) t)
  (hg:∀ ds Q,ds.length = ps.length -> g ds Q -> t { nx:=fun _=>Q .non,rt:=Q } (dstart N.length ds)):FnOk P w K mg base CX0 (k + 1) f fd ps (spD K ps.length g):=by
 refine Fn.ok S (fun vs H Q E h=>?_) (fun cdv A outer s H vs Q E hr h=>?_)
 ·obtain ⟨pp,M,ds,_,r,e,_⟩:=h
  rw [← r.length,e]
 ·obtain ⟨pp,M,ds,lv,r,e,h⟩:=h
  obtain ⟨T,p,run⟩:=hb cdv A outer s H E hr
  refine ⟨T,p,run M H _ _ _ _ (rst_start lv r trivial) ⟨fun M' H' σ' ρ' m rs q=>?_,fun _ _ _ _ _ _ q=>q,fun _ _ _ _ _ _ q=>q,fun M' H' σ' ρ' d v m rs rd q=>?_⟩ (hg ds _ e h)⟩
  ·exact q H' .non rs.same (by simp only [Rep])
  ·exact q H' v rs.same (rd.mv (.less rs.sub))
section
variable {X:Cx} {pp:Option Addr}
def g2I (C:Int -> Int -> Prop) (f:Int -> Int -> D):D -> D -> (D -> Prop) -> Prop
 | .int i,.int j,P=>C i j /\ P (f i j)
 | _,_,_=>False
def g2I0 (f:Int -> Int -> D):D -> D -> (D -> Prop) -> Prop
 | .int i,.int j,P=>P (f i j)
 | _,_,_=>False
theorem OpD.ofI {f:Value -> Value -> Sem Value} {C:Int -> Int -> Prop} {h:Int -> Int -> V} {h':Int -> Int -> D} (o:OpR X f (rI C h)) (e:∀ pp M H i j,Rep X.K pp M H (h' i j) (h i j)):OpD X f (g2I C h'):=by
 refine ⟨fun x y P P' f h=>?_,_,o,fun {pp} M H x y v u Q _ rx ry h=>?_⟩
 ·cases x <;> cases y <;> first | exact h.elim | exact ⟨h.1,f _ h.2⟩
 ·cases x <;> first | exact h.elim | skip
  cases y <;> first | exact h.elim | skip
  simp only [Rep] at rx ry
  exact ⟨_,_,rx,ry,h.1,h.2 H _ .refl (e _ M H _ _)⟩
theorem OpD.ofI0 {f:Value -> Value -> Sem Value} {h:Int -> Int -> V} {h':Int -> Int -> D} (o:OpR X f (rI0 h)) (e:∀ pp M H i j,Rep X.K pp M H (h' i j) (h i j)):OpD X f (g2I0 h'):=by
 refine ⟨fun x y P P' f h=>?_,_,o,fun {pp} M H x y v u Q _ rx ry h=>?_⟩
 ·cases x <;> cases y <;> first | exact h.elim | exact f _ h
 ·cases x <;> first | exact h.elim | skip
  cases y <;> first | exact h.elim | skip
  simp only [Rep] at rx ry
  exact ⟨_,_,rx,ry,h H _ .refl (e _ M H _ _)⟩
theorem od_add:OpD X (binaryOp .Add) (g2I0 fun i j=>.int (i + j)):=.ofI0 op_add fun _ _ _ _ _=>rep_int
theorem od_sub:OpD X (binaryOp .Sub) (g2I0 fun i j=>.int (i - j)):=.ofI0 op_sub fun _ _ _ _ _=>rep_int
theorem od_mul:OpD X (binaryOp .Mult) (g2I CMulB fun i j=>.int (i * j)):=.ofI op_mulB fun _ _ _ _ _=>rep_int
theorem od_mod:OpD X (binaryOp .Mod) (g2I (fun _ j=>0 < j) fun i j=>.int (i % j)):=.ofI op_mod fun _ _ _ _ _=>rep_int
theorem od_pow:OpD X (binaryOp .Pow) (g2I CPow fun i j=>.int (i ^ j.toNat)):=.ofI op_pow fun _ _ _ _ _=>rep_int
theorem od_lt:OpD X (compareOp .Lt) (g2I0 fun i j=>.bl (decide (i < j))):=.ofI0 op_lt fun _ _ _ _ _=>rep_bl
theorem od_le:OpD X (compareOp .LtE) (g2I0 fun i j=>.bl (decide (i <= j))):=.ofI0 op_le fun _ _ _ _ _=>rep_bl
theorem od_gt:OpD X (compareOp .Gt) (g2I0 fun i j=>.bl (decide (j < i))):=.ofI0 op_gt fun _ _ _ _ _=>rep_bl
def isNon:D -> Bool
 | .non=>true
 | _=>false
theorem isNon_rep {K:PySem.W.Frag} {M:List Addr} {H:Hp} {d:D} {v:V} (r:Rep K pp M H d v):decide (v = .non) = isNon d:=by
 cases d <;> simp only [Rep] at r
 case non=>subst r; rfl
 case bl=>subst r; rfl
 case int=>subst r; rfl
 case str=>subst r; rfl
 case ty=>subst r; rfl
 case tup=>obtain ⟨a,xs,rfl,_⟩:=r; rfl
 case lst=>obtain ⟨a,xs,rfl,_⟩:=r; rfl
 case dK=>obtain ⟨a,xs,rfl,_⟩:=r; rfl
 case dT=>obtain ⟨a,xs,rfl,_⟩:=r; rfl
 case pen=>obtain ⟨a,rfl,_⟩:=r; rfl
 case exc=>obtain ⟨a,rfl,_⟩:=r; rfl
 case exa=>obtain ⟨a,dx,rfl,_⟩:=r; rfl
 case cls=>subst r; rfl
def gIsN (n:Bool):D -> D -> (D -> Prop) -> Prop
 | x,.non,P=>P (.bl (if n then !isNon x else isNon x))
 | _,_,_=>False
theorem od_isN:OpD X (compareOp .Is) (gIsN false):=by
 refine ⟨fun x y P P' f h=>?_,_,op_isN,fun {pp} M H x y v u Q _ rx ry h=>?_⟩
 ·cases y <;> first | exact h.elim | exact f _ h
 ·cases y <;> first | exact h.elim | skip
  simp only [Rep] at ry
  exact ⟨ry,h H _ .refl (by rw [isNon_rep rx]; exact rep_bl)⟩
structure UnD (X:Cx) (f:Value -> Sem Value) (g:D -> (D -> Prop) -> Prop):Prop where
 mono:∀ x P P',(∀ d,P d -> P' d) -> g x P -> g x P'
 run:∃ r,UnR X f r /\ ∀ {pp:Option Addr} M H x v (Q:VK),Lv pp M H -> Rep X.K pp M H x v -> g x (fun d=>∀ H' w,SameP X.K pp H H' -> Rep X.K pp M H' d w -> Q w H') -> r v H Q
abbrev dUn (g:D -> (D -> Prop) -> Prop) (ta:DE):DE:=fun ρ Q=>ta ρ fun x ρ1=>g x fun d=>Q d ρ1
theorem de_un {op:UnaryOp} {g:D -> (D -> Prop) -> Prop} {a:Expr} {ta:DE} {pos:Pos} (ho:UnD X (unaryOp op) g) (ha:PED X a ta):PED X (.UnaryOp op a pos) (dUn g ta):=by
 obtain ⟨r,hr,hg⟩:=ho.run
 obtain ⟨Ta,pa,ra⟩:=ha.run
 refine ⟨fun _ _ _ f h=>ha.mono _ _ _ (fun _ _ h=>ho.mono _ _ _ (fun _ h=>f _ _ h) h) h,_,pe_un hr pa,fun {F} M H σ ρ Q rs h=>ra M H σ ρ _ rs (ha.mono _ _ _ (fun x ρ1 h M1 H1 v m1 rs1 r1=>?_) h)⟩
 exact hg M1 H1 x v _ rs1.liv r1 (ho.mono _ _ _ (fun d h H' w s r=>h M1 H' w (m1.trans s.mv) (rs1.sameP s) r) h)
def gNeg:D -> (D -> Prop) -> Prop
 | .int i,P=>P (.int (-i))
 | _,_=>False
theorem ud_neg:UnD X (unaryOp .USub) gNeg:=by
 refine ⟨fun x P P' f h=>?_,_,un_neg,fun {pp} M H x v Q _ rx h=>?_⟩
 ·cases x <;> first | exact h.elim | exact f _ h
 ·cases x <;> first | exact h.elim | skip
  simp only [Rep] at rx
  exact ⟨_,rx,h H _ .refl rep_int⟩
def isIntD:D -> Bool
 | .int _=>true
 | .bl _=>true
 | _=>false
def isBoolD:D -> Bool
 | .bl _=>true
 | _=>false
def isTupD:D -> Bool
 | .tup _=>true
 | _=>false
def flesh:D -> Bool
 | .pen=>false
 | .exc _=>false
 | .exa _ _=>false
 | .cls _=>false
 | .ty _=>false
 | _=>true
theorem kn_rep {K:PySem.W.Frag} {M:List Addr} {H:Hp} {d:D} {v:V} (r:Rep K pp M H d v) (f:flesh d = true):knV H v:=by
 cases d <;> first | cases f | skip
 all_goals simp only [Rep] at r
 case non=>subst r; trivial
 case bl=>subst r; trivial
 case int=>subst r; trivial
 case str=>subst r; trivial
 case tup=>obtain ⟨a,xs,rfl,h,_⟩:=r; exact .inr (.inr (.inl ⟨xs,h⟩))
 case lst=>obtain ⟨a,xs,rfl,_,_,h,_⟩:=r; exact .inl ⟨xs,h⟩
 case dK=>obtain ⟨a,xs,rfl,_,_,h,_⟩:=r; exact .inr (.inr (.inr (.inl ⟨xs,h⟩)))
 case dT=>obtain ⟨a,xs,rfl,_,_,h,_⟩:=r; exact .inr (.inr (.inr (.inr ⟨xs,h⟩)))
def gIs (T:String) (f:D -> Bool):DSp:=fun ds P=>match ds with
 | [d,.ty T']=>T' = T /\ flesh d = true /\ P (.bl (f d))
 | _=>False
theorem CallD.isOf {T:String} {f:Hp -> V -> Bool} {fD:D -> Bool} (hc:CallR X (.builtin "isinstance") (fun xs H Q=>∃ x,xs = [x,.ty T] /\ knV H x /\ Q (.bl (f H x)) H))
  (e:∀ pp M H d v,Rep X.K pp M H d v -> flesh d = true -> f H v = fD d):CallD X (.builtin "isinstance") (gIs T fD):=by
 refine ⟨fun ds P P' f h=>?_,_,hc,fun {pp} M H ds vs Q _ r h=>?_⟩
 ·unfold gIs at h ⊢; split at h
  ·exact ⟨h.1,h.2.1,f _ h.2.2⟩
  ·exact h.elim
 ·unfold gIs at h; split at h
  case h_2=>exact h.elim
  ·rename_i d T'
   obtain ⟨e1,e2,h⟩:=h
   simp only [Reps] at r
   obtain ⟨x,r,rfl,rx,y,r',rfl,ry,rfl⟩:=r
   simp only [Rep] at ry
   subst ry e1
   exact ⟨x,rfl,kn_rep rx e2,h H _ .refl (by rw [e _ M H d x rx e2]; exact rep_bl)⟩
theorem cd_is_int:CallD X (.builtin "isinstance") (gIs "int" isIntD):=.isOf call_is_int fun pp M H d v r _=>by
 cases d <;> simp only [Rep] at r
 case non=>subst r; rfl
 case bl=>subst r; rfl
 case int=>subst r; rfl
 case str=>subst r; rfl
 case ty=>subst r; rfl
 case tup=>obtain ⟨a,xs,rfl,_⟩:=r; rfl
 case lst=>obtain ⟨a,xs,rfl,_⟩:=r; rfl
 case dK=>obtain ⟨a,xs,rfl,_⟩:=r; rfl
 case dT=>obtain ⟨a,xs,rfl,_⟩:=r; rfl
 case pen=>obtain ⟨a,rfl,_⟩:=r; rfl
 case exc=>obtain ⟨a,rfl,_⟩:=r; rfl
 case exa=>obtain ⟨a,dx,rfl,_⟩:=r; rfl
 case cls=>subst r; rfl
theorem cd_is_bool:CallD X (.builtin "isinstance") (gIs "bool" isBoolD):=.isOf call_is_bool fun pp M H d v r _=>by
 cases d <;> simp only [Rep] at r
 case non=>subst r; rfl
 case bl=>subst r; rfl
 case int=>subst r; rfl
 case str=>subst r; rfl
 case ty=>subst r; rfl
 case tup=>obtain ⟨a,xs,rfl,_⟩:=r; rfl
 case lst=>obtain ⟨a,xs,rfl,_⟩:=r; rfl
 case dK=>obtain ⟨a,xs,rfl,_⟩:=r; rfl
 case dT=>obtain ⟨a,xs,rfl,_⟩:=r; rfl
 case pen=>obtain ⟨a,rfl,_⟩:=r; rfl
 case exc=>obtain ⟨a,rfl,_⟩:=r; rfl
 case exa=>obtain ⟨a,dx,rfl,_⟩:=r; rfl
 case cls=>subst r; rfl
theorem cd_is_tuple:CallD X (.builtin "isinstance") (gIs "tuple" isTupD):=.isOf call_is_tuple fun pp M H d v r f=>by
 cases d <;> first | cases f | skip
 all_goals simp only [Rep] at r
 case non=>subst r; rfl
 case bl=>subst r; rfl
 case int=>subst r; rfl
 case str=>subst r; rfl
 case tup=>obtain ⟨a,xs,rfl,h,_⟩:=r; simp [isTupV,h,isTupO,isTupD]
 case lst=>obtain ⟨a,xs,rfl,_,_,h,_⟩:=r; simp [isTupV,h,isTupO,isTupD]
 case dK=>obtain ⟨a,xs,rfl,_,_,h,_⟩:=r; simp [isTupV,h,isTupO,isTupD]
 case dT=>obtain ⟨a,xs,rfl,_,_,h,_⟩:=r; simp [isTupV,h,isTupO,isTupD]
def gLen:DSp:=fun ds P=>match ds with
 | [.tup xs]=>P (.int xs.length)
 | [.lst xs]=>P (.int xs.length)
 | _=>False
theorem cd_len:CallD X (.builtin "len") gLen:=by
 refine ⟨fun ds P P' f h=>?_,_,call_lenH,fun {pp} M H ds vs Q _ r h=>?_⟩
 ·unfold gLen at h ⊢; split at h
  ·exact f _ h
  ·exact f _ h
  ·exact h.elim
 ·unfold gLen at h; split at h
  case h_3=>exact h.elim
  ·simp only [Reps,Rep] at r
   obtain ⟨x,r,rfl,⟨a,ys,rfl,ha,ry⟩,rfl⟩:=r
   exact ⟨a,ys.length,rfl,by rw [ha]; rfl,h H _ .refl (by rw [← ry.length]; exact rep_int)⟩
  ·simp only [Reps,Rep] at r
   obtain ⟨x,r,rfl,⟨a,ys,rfl,_,_,ha,ry⟩,rfl⟩:=r
   exact ⟨a,ys.length,rfl,by rw [ha]; rfl,h H _ .refl (by rw [← ry.length]; exact rep_int)⟩
def gInt1:DSp:=fun ds P=>match ds with
 | [.int i]=>P (.int i)
 | [.bl b]=>P (.int (if b then 1 else 0))
 | _=>False
theorem cd_int:CallD X (.type "int") gInt1:=by
 refine ⟨fun ds P P' f h=>?_,_,call_int1,fun {pp} M H ds vs Q _ r h=>?_⟩
 ·unfold gInt1 at h ⊢; split at h
  ·exact f _ h
  ·exact f _ h
  ·exact h.elim
 ·unfold gInt1 at h; split at h
  case h_3=>exact h.elim
  ·rename_i i
   simp only [Reps,Rep] at r
   obtain ⟨x,r,rfl,rfl,rfl⟩:=r
   exact .inl ⟨i,rfl,h H _ .refl rep_int⟩
  ·rename_i i
   simp only [Reps,Rep] at r
   obtain ⟨x,r,rfl,rfl,rfl⟩:=r
   exact .inr ⟨i,rfl,h H _ .refl rep_int⟩
def gTupOf:DSp:=fun ds P=>match ds with
 | [.tup xs]=>P (.tup xs)
 | [.lst xs]=>P (.tup xs)
 | _=>False
theorem cd_tuple:CallD X (.type "tuple") gTupOf:=by
 refine ⟨fun ds P P' f h=>?_,_,call_tuple_of,fun {pp} M H ds vs Q _ r h=>?_⟩
 ·unfold gTupOf at h ⊢; split at h
  ·exact f _ h
  ·exact f _ h
  ·exact h.elim
 ·unfold gTupOf at h; split at h
  case h_3=>exact h.elim
  ·simp only [Reps] at r
   obtain ⟨x,r,rfl,rx,rfl⟩:=r
   have rx':=rx
   simp only [Rep] at rx
   obtain ⟨a,ys,rfl,ha,ry⟩:=rx
   exact ⟨a,ys,rfl,.inr ⟨SqT.of ha,h H _ .refl rx'⟩⟩
  ·simp only [Reps,Rep] at r
   obtain ⟨x,r,rfl,⟨a,ys,rfl,_,_,ha,ry⟩,rfl⟩:=r
   refine ⟨a,ys,rfl,.inl ⟨SqL.of ha,fun l hl=>h _ _ (.new hl) ?_⟩⟩
   simp only [Rep]
   exact ⟨l,ys,rfl,upd_same,ry.mv (.new hl)⟩
abbrev dListOf (te:DE):DA:=fun ρ Q=>te ρ fun d ρ'=>match d with
 | .tup xs=>Q xs ρ'
 | .lst xs=>Q xs ρ'
 | _=>False
theorem dl_list {x:Str} {e:Expr} {p pos:Pos} {te:DE} (hg:Gl X x) (hm:X.mg x = none) (hv:bootBuiltins x = some (.type "list")) (he:PED X e te) (hn:x ≠ "__name__":=by decide) (hdb:(x == ("__debug__" : Str)) = false:=by decide)
  (hs:starEach [e] X.env = (false,eval e X.env) :: starEach [] X.env:=by rfl) (hpl:(backTo pos (starEach [] X.env)).any (·.1) = false:=by rfl):PLD X (.Call (.Name x p) [e] [] pos) (dListOf te):=by
 obtain ⟨T,pa,ra⟩:=he.run
 refine ⟨fun _ _ _ f h=>he.mono _ _ _ (fun d _ h=>?_) h,_,pe_callTy call_list_of hg hm hv (pa_cons pa pa_nil hs) hn hdb hs hpl,fun {F} M H σ ρ Q rs h=>ra M H σ ρ _ rs (he.mono _ _ _ (fun d ρ1 h M1 H1 v m1 rs1 r1=>?_) h)⟩
 ·cases d <;> first | exact h.elim | exact f _ _ h
 ·cases d <;> first | exact h.elim | skip
  all_goals simp only [Rep] at r1
  case tup xs =>
   obtain ⟨a,ys,rfl,ha,ry⟩:=r1
   exact ⟨a,ys,rfl,.inr (SqT.of ha),fun l hl=>h M1 H1 _ l ys m1 rs1 hl rfl ry⟩
  case lst xs =>
   obtain ⟨a,ys,rfl,_,_,ha,ry⟩:=r1
   exact ⟨a,ys,rfl,.inl (SqL.of ha),fun l hl=>h M1 H1 _ l ys m1 rs1 hl rfl ry⟩
def opt (o:Option D) (P:D -> Prop):Prop:=match o with
 | some d=>P d
 | none=>False
theorem opt_mono {o:Option D} {P P':D -> Prop} (f:∀ d,P d -> P' d) (h:opt o P):opt o P':=by cases o <;> first | exact h.elim | exact f _ h
theorem opt_some {o:Option D} {P:D -> Prop} (h:opt o P):∃ d,o = some d /\ P d:=by cases o <;> first | exact h.elim | exact ⟨_,rfl,h⟩
def gIx:D -> D -> (D -> Prop) -> Prop
 | .tup xs,.int i,P=>opt (atI xs i) P
 | .lst xs,.int i,P=>opt (atI xs i) P
 | _,_,_=>False
theorem atI_rep {K:PySem.W.Frag} {M:List Addr} {H:Hp} {ds:List D} {xs:List V} {i:Int} {d:D} (r:Reps K pp M H ds xs) (h:atI ds i = some d):∃ v,atI xs i = some v /\ Rep K pp M H d v:=by
 unfold atI at h ⊢
 rw [r.length] at h
 cases q:ixN xs.length i with
 | none=>rw [q] at h; cases h
 | some j =>
  rw [q] at h
  obtain ⟨v,e1,e2⟩:=r.get' (i:=j) h
  exact ⟨v,e1,e2⟩
theorem de_ix {a b:Expr} {ta tb:DE} {pos:Pos} (ha:PED X a ta) (hb:PED X b tb) (hs:PlainIx b):PED X (.Subscript a b pos) (dOp gIx ta tb):=by
 have gm:∀ x y P P',(∀ d,P d -> P' d) -> gIx x y P -> gIx x y P':=fun x y P P' f h=>by
  cases x <;> first | exact h.elim | skip
  all_goals cases y <;> first | exact h.elim | exact opt_mono f h
 obtain ⟨Ta,pa,ra⟩:=ha.run
 obtain ⟨Tb,pb,rb⟩:=hb.run
 refine ⟨dOp_mono gm ha hb,_,pe_ix (IxR.or ix_tupH ix_listH) pa pb hs,fun {F} M H σ ρ Q rs h=>dOp_run (fun M H x y v u Q _ rx ry h=>?_) gm ha hb ra rb rs h⟩
 cases x <;> first | exact h.elim | skip
 all_goals cases y <;> first | exact h.elim | skip
 all_goals
  obtain ⟨d,e,h⟩:=opt_some h
  simp only [Rep] at rx ry
 ·obtain ⟨p,xs,rfl,hp,r⟩:=rx
  obtain ⟨z,e2,rz⟩:=atI_rep r e
  exact .inl ⟨p,xs,_,z,rfl,ry,hp,e2,h H z .refl rz⟩
 ·obtain ⟨p,xs,rfl,_,_,hp,r⟩:=rx
  obtain ⟨z,e2,rz⟩:=atI_rep r e
  exact .inr ⟨p,xs,_,z,rfl,ry,hp,e2,h H z .refl rz⟩
end
end DL
namespace DL
open PySem PySem.Spec L2
open PyProof.Rows hiding St
variable [Frm]
section
variable {X:Cx} {F:Fx}
def dAppS (i:Nat) (E:DEnds) (ρ:DS) (d:D):Sl -> Prop
 | .own ds=>ds.length < sizeLine /\ E.nx (ρ.set i (.own (ds ++ [d])))
 | _=>False
def isOwn:Sl -> Prop
 | .own _=>True
 | _=>False
abbrev dApp (i:Nat) (te:DE):DTS:=fun E ρ=>isOwn (slot ρ i) /\ te ρ fun d ρ'=>dAppS i E ρ' d (slot ρ' i)
theorem RSt.write {K:PySem.W.Frag} {M:List Addr} {H:Hp} {σ:St} {ρ:DS} {l:Addr} {ys:List V} {ds es:List D} {i:Nat} (r:RSt K F M H σ ρ) (h:ρ[i]? = some (.own ds)) (hl:σ[i]? = some (some (.ref l))) (hd:Reps K F.pp M H es ys) :
  Mv K F.pp M H M (upd H l (.lst ys)) /\ RSt K F M (upd H l (.lst ys)) σ (ρ.set i (.own es)):=by
 obtain ⟨l',xs,e,hm,h0,hp,hl',hr⟩:=r.sl i _ _ h hl
 cases e
 have m:Mv K F.pp M H M (upd H l (.lst ys)):=.write hl' hm hp
 refine ⟨m,⟨by simp [r.len],fun j q o h1 h2=>?_,r.ow.step m i (fun _ _=>rfl) (fun j e=>List.getElem?_set_ne (Ne.symm e)) (fun A hA hB=>⟨A,fun s o e1 e2=>?_,fun b hb=>⟨(hB b hb).1,(hB b hb).2.1,(hB b hb).2.2,.inl hb⟩,fun a ha _ _ hn=>⟨ha,fun x e=>?_⟩⟩),r.sub,?_,r.old,?_,Frm.cl _ _ _ _ _ _ r.lk m⟩⟩
 ·by_cases e:i = j
  ·subst e
   rw [hl] at h2
   rw [set_self h1]
   cases h2
   exact ⟨l,ys,rfl,hm,h0,hp,upd_same,hd.mv m⟩
  ·rw [List.getElem?_set_ne e] at h1
   have q':=r.sl j q o h1 h2
   cases q with
   | nil=>trivial
   | val d=>obtain ⟨v,e,q⟩:=q'; exact ⟨v,e,q.mv m⟩
   | pin w d=>obtain ⟨v,e,ew,q⟩:=q'; exact ⟨v,e,ew,q.mv m⟩
   | own es =>
    obtain ⟨l',zs,rfl,hm',h0',hp',hl'',hr'⟩:=q'
    refine ⟨l',zs,rfl,hm',h0',hp',?_,hr'.mv m⟩
    rw [upd_ne]
    ·exact hl''
    ·rintro rfl
     exact e (r.own i j _ _ _ h h1 hl h2)
   | obj q=>exact q'
 ·rw [set_self e1]
  exact hA _ _ h e2
 ·obtain ⟨l2,e2,e3⟩:=hA _ _ h hl
  cases e2
  rw [upd_ne (by rintro rfl; exact hn (by rw [e3]; simp))]
  exact e
 ·refine ⟨fun b o e n=>?_,fun p e h=>m.pen p e (r.same.pen p e h),fun b e=>?_⟩
  ·rw [upd_ne (by rintro rfl; rw [h0] at e; cases e)]
   exact r.same.keep b o e n
  ·by_cases z:b = l
   ·subst z; rw [upd_same]; intro z; cases z
   ·rw [upd_ne z]; exact r.same.live b e
 ·refine ⟨fun a ha=>?_,fun p e=>?_⟩
  ·by_cases z:a = l
   ·subst z; rw [upd_same]; intro z; cases z
   ·rw [upd_ne z]; exact r.liv.m a ha
  ·by_cases z:p = l
   ·subst z; rw [upd_same]; intro z; cases z
   ·rw [upd_ne z]; exact r.liv.p p e
theorem ds_app {i:Nat} {o e:Expr} {apos cpos pos:Pos} {te:DE} (ho:PE X o (tVar i)) (he:PED X e te)
  (hbase:attributeBase o "append" X.env (eval o X.env) = eval o X.env:=by rfl)
  (hfew:((backTo cpos (starEach [e] X.env)).all (fun x=>!x.1) && (backToKw cpos (keywordEach [] X.env)).all (fun x=>x.1.isSome)
   && decide ([e].length + ([]:List Keyword).length + (if ([]:List Keyword).isEmpty then 0 else 1) < 30)) = true:=by rfl)
  (hline:(apos.endLine == cpos.line) = true:=by rfl) (hst:starEach [e] X.env = (false,eval e X.env) :: starEach [] X.env:=by rfl) (hpl:(backTo cpos (starEach [] X.env)).any (·.1) = false:=by rfl)
  (hs:swapsWith (.Call (.Attribute o "append" apos) [e] [] cpos) none pos.line X.env = pure false:=by rfl):PSD X (.Expr (.Call (.Attribute o "append" apos) [e] [] cpos) pos) (dApp i te):=by
 have hm:PE X (.Call (.Attribute o "append" apos) [e] [] cpos) (tBM X.K "list" rAppend (tVar i) (tCons (Classical.choose he.run) tNil)):=pe_bm PySem.F.plainAttrs_list PySem.F.slot_list_append PySem.F.type_list_append mt_append ho (pa_cons (Classical.choose_spec he.run).1 pa_nil hst) hbase hfew hline hst hpl
 obtain ⟨_,r⟩:=Classical.choose_spec he.run
 refine ⟨_,ps_expr hm hs,fun {F} M H σ ρ E D rs oo h=>?_⟩
 obtain ⟨h0,h⟩:=h
 cases q:slot ρ i with
 | nil=>rw [q] at h0; exact h0.elim
 | val d=>rw [q] at h0; exact h0.elim
 | pin w d=>rw [q] at h0; exact h0.elim
 | obj z=>rw [q] at h0; exact h0.elim
 | own ds =>
  obtain ⟨oo1,ho1,l,xs,rfl,hm1,h01,hp1,hl1,hr1⟩:=rs.at (slot_get q (by intro z; cases z))
  refine ⟨.ref l,ho1,.inl ⟨rfl,xs,SqL.of hl1⟩,?_⟩
  refine r M H σ ρ _ rs (he.mono _ _ _ (fun d ρ' h M' H' v m rs' rd=>?_) h)
  cases q':slot ρ' i with
  | nil=>rw [q'] at h; exact h.elim
  | val d=>rw [q'] at h; exact h.elim
  | pin w d=>rw [q'] at h; exact h.elim
  | obj z=>rw [q'] at h; exact h.elim
  | own ds' =>
   rw [q'] at h
   have g1:=slot_get q' (by intro z; cases z)
   obtain ⟨l',xs',e',hm',h0',hp',hl',hr'⟩:=rs'.sl i _ _ g1 ho1
   cases e'
   obtain ⟨m2,rs2⟩:=rs'.write g1 ho1 (hr'.append (.one rd))
   exact ⟨l,xs',v,rfl,rfl,hl',by rw [← hr'.length]; exact h.1,oo.nx M' _ _ _ (m.trans m2) rs2 h.2⟩
end
def gNext:DSp:=fun ds P=>match ds with
 | [.pen,.int m]=>(1 <= m /\ m <= 10 ^ 60) /\ ∀ r,0 <= r -> r < m -> P (.int r)
 | _=>False
theorem mono_next:MonoS gNext:=fun ds P P' f h=>by
 unfold gNext at h ⊢
 split at h
 ·exact ⟨h.1,fun r h0 h1=>f _ (h.2 r h0 h1)⟩
 ·exact h.elim
theorem next_of {P:Program} {w:World} {K:PySem.W.Frag} {mg:Str -> Option Value} {base:Heap} {k:Nat} {f:Addr} {fd:FuncData} {ps:List Str} (h:FnOk P w K mg base CX0 k f fd ps (sp_next K)):FnOk P w K mg base CX0 k f fd ps (spD K 2 gNext) :=
 h.imp fun vs H Q E h=>by
  obtain ⟨pp,M,ds,lv,r,e,h⟩:=h
  unfold gNext at h
  split at h
  case h_2=>exact h.elim
  ·rename_i m
   obtain ⟨⟨m1,m2⟩,h⟩:=h
   simp only [Reps,Rep] at r
   obtain ⟨x,_,rfl,⟨p,rfl,ep,a,ns,t,l,pen⟩,y,_,rfl,rfl,rfl⟩:=r
   refine ⟨p,a,ns,t,l,m,rfl,pen,m1,m2,fun r t' l' H' h0 h1 pen' sb=>h r h0 h1 H' _ ⟨fun b o hb n=>?_,fun q e _=>?_,fun b hb=>?_⟩ rep_int⟩
   ·by_cases z:b = p
    ·subst z
     rw [pen.lst] at hb
     cases hb
     exact absurd rfl (n ep _)
    ·exact sb b o z hb
   ·rw [ep] at e; cases e
    exact ⟨a,ns,t',l',pen'⟩
   ·by_cases z:b = p
    ·subst z; rw [pen'.lst]; intro z; cases z
    ·cases q:H b with
     | none=>exact absurd q hb
     | some o=>rw [sb b o z q]; intro z; cases z
def spLaw (K:PySem.W.Frag):Sp:=fun vs H Q _=>∃ a ns,vs = [.ref a] /\ Scr K H a ns /\ ∀ H',Q (.bl true) H'
theorem law_sp (K:PySem.W.Frag) (H:Hp) (a:Addr) (ns:List Int) (_:ns.length <= 63) (h1:Only H) (h:SqL K H a (ns.map V.int)):spLaw K [.ref a] H (fun v _=>v = .bl true) fun _ _ _=>False :=
 ⟨a,ns,rfl,scr_of h1 h,fun _=>rfl⟩
omit [Frm] in
theorem lawD {P:Program} {w:World} {K:PySem.W.Frag} {mg:Str -> Option Value} {base:Heap} {st:Stmt} {f:Addr} {fd:FuncData} {N:List Str} {x:Str} {k:Nat} {t:DTS} {s1:Stmt} {rest:List Stmt} (Fn:Fun K "law" "law" st f fd) (S:FnScope N [x] (defScope st)) (hs:defBody st = s1 :: rest) (hN:2 <= N.length)
  (h1:∀ (cdv:Value) (A:Around) (outer:List Env) (s:Shared) (H:Hp) (E:XK),Room k (A.deeper (envOfC "law" (defScope st) s.heap.objs.size f cdv)) -> PS (cxOf CX0 P w K mg base N "law" (defScope st) f cdv A outer s H E).nox s1 (tAsg (tCall (sp_pen K) [] E0 (tCons (tVar 0) tNil)) (gName 1)))
  (hb:∀ (cdv:Value) (A:Around) (outer:List Env) (s:Shared) (H:Hp) (E:XK),Room k (A.deeper (envOfC "law" (defScope st) s.heap.objs.size f cdv)) -> @PSsD Frm.free (cxOf CX0 P w K mg base N "law" (defScope st) f cdv A outer s H E).nox rest t)
  (hg:t { nx:=fun _=>False,rt:=fun d=>d = .bl true } (.nil :: .val .pen :: List.replicate (N.length - 2) .nil)):FnOk P w K mg base CX0 (k + 1) f fd [x] (spLaw K):=by
 refine Fn.ok S (fun vs H Q E h=>?_) (fun cdv A outer s H vs Q E hr h=>?_)
 ·obtain ⟨a,ns,rfl,_⟩:=h
  rfl
 ·obtain ⟨a,ns,rfl,hs',h⟩:=h
  rw [hs]
  refine ⟨_,pss_cons (u:=fun D σ H'=>∃ p:Addr,@RSt Frm.free K ⟨some p,[],H'⟩ [] H' σ (.nil :: .val .pen :: List.replicate (N.length - 2) .nil) /\ ∀ H'',D.rt (.bl true) H'') (h1 cdv A outer s H E hr) ?_,?_⟩
  ·intro pins s' σ H' D I ⟨p,rs,q⟩
   obtain ⟨T,pT,run⟩:=hb cdv A outer s H E hr
   refine pT pins s' σ H' D I (run [] H' σ _ { nx:=fun _=>False,rt:=fun d=>d = .bl true } D rs ⟨fun _ _ _ _ _ _ q=>q.elim,fun _ _ _ _ _ _ q=>q.elim,fun _ _ _ _ _ _ q=>q.elim,fun M2 H2 σ2 ρ2 d v _ _ rd e=>?_⟩ hg)
   subst e
   simp only [Rep] at rd
   subst rd
   exact q H2
  ·refine ⟨.ref a,?_,a,ns,rfl,hs',fun p H' hp pen sm=>⟨p,⟨?_,fun i s o e1 e2=>?_,OwF.none (fun i s e1=>?_),fun a z=>by simp at z,.refl,fun a z=>by simp at z,⟨fun a z=>by simp at z,fun q e=>?_⟩,trivial⟩,h⟩⟩
   ·simp [L2.start]
   ·simp [L2.start]; omega
   ·match i,e1 with
    | 0,e1=>simp at e1; subst e1; trivial
    | 1,e1 =>
     simp at e1
     subst e1
     have hi:1 < (L2.start N [V.ref a]).length:=by simp [L2.start]; omega
     simp [hi] at e2
     subst e2
     refine ⟨_,rfl,?_⟩
     simp only [Rep]
     exact ⟨p,rfl,rfl,a,ns,0,0,pen⟩
    | i + 2,e1 =>
     have:=List.eq_of_mem_replicate (List.mem_of_getElem? (by simpa using e1))
     subst this
     trivial
   ·have:=List.mem_of_getElem? e1
    simp at this
    rcases this with rfl | rfl | ⟨_,rfl⟩ <;> exact ⟨fun ds z=>(by cases z),fun q z=>(by cases z)⟩
   ·cases e
    rw [pen.lst]; intro z; cases z
end DL
namespace DL
open PySem PySem.Spec L2
open PyProof.Rows hiding St
variable [Frm]
mutual
def toPy:D -> PyData
 | .non=>.none
 | .bl b=>.bool b
 | .int i=>.int i
 | .str x=>.str x
 | .tup ds=>.tuple (toPys ds)
 | .lst ds=>.list (toPys ds)
 | .ty _=>.none
 | .dK _ _=>.none
 | .dT _ _=>.none
 | .pen=>.none
 | .exc _=>.none
 | .exa _ _=>.none
 | .cls _=>.none
def toPys:List D -> List PyData
 | []=>[]
 | d :: ds=>toPy d :: toPys ds
def pln:D -> Bool
 | .pen=>false
 | .exc _=>false
 | .exa _ _=>false
 | .cls _=>false
 | .ty _=>false
 | .dK _ _=>false
 | .dT _ _=>false
 | .tup ds=>plns ds
 | .lst ds=>plns ds
 | _=>true
def plns:List D -> Bool
 | []=>true
 | d :: ds=>pln d && plns ds
end
def eqD (x y:D):Bool:=PyData.eqv (toPy x) (toPy y)
def shp (d:D):Bool:=pln d && SeqAt.shaped (toPy d)
mutual
theorem reads_of {P:Program} {w:World} {K:PySem.W.Frag} {pp:Option Addr} {M:List Addr} {H:Hp} {h:Heap} (ok:HOk P w H h):∀ (d:D) (v:V) (u:Value),pln d = true -> Rep K pp M H d v -> RelV v u -> ∃ as,Reads h u (toPy d) as
 | .non,_,_,_,r,q=>by simp only [Rep] at r; subst r; cases q; exact ⟨_,.none⟩
 | .bl b,_,_,_,r,q=>by simp only [Rep] at r; subst r; cases q; exact ⟨_,.bool b⟩
 | .int i,_,_,_,r,q=>by simp only [Rep] at r; subst r; obtain ⟨t,rfl⟩:=q; exact ⟨_,.int i t⟩
 | .str x,_,_,_,r,q=>by simp only [Rep] at r; subst r; obtain ⟨t,rfl⟩:=q; exact ⟨_,.str x t⟩
 | .tup ds,_,_,p,r,q=>by
  simp only [Rep] at r
  obtain ⟨a,xs,rfl,ha,r⟩:=r
  cases q
  obtain ⟨_,its,vs,o,ho,hc,n,hd⟩:=ok a _ ha
  obtain ⟨as,z⟩:=readss_of ok ds xs its (by simpa only [pln] using p) r vs
  exact ⟨_,by rw [toPy]; exact .tuple ho hc hd (by simpa using z)⟩
 | .lst ds,_,_,p,r,q=>by
  simp only [Rep] at r
  obtain ⟨a,xs,rfl,_,_,ha,r⟩:=r
  cases q
  obtain ⟨_,its,n,vs,ho⟩:=ok a _ ha
  obtain ⟨as,z⟩:=readss_of ok ds xs its (by simpa only [pln] using p) r vs
  exact ⟨_,by rw [toPy]; exact .list ho rfl rfl (by simpa using z)⟩
 | .ty _,_,_,p,_,_=>by simp [pln] at p
 | .dK _ _,_,_,p,_,_=>by simp [pln] at p
 | .dT _ _,_,_,p,_,_=>by simp [pln] at p
 | .pen,_,_,p,_,_=>by simp [pln] at p
 | .exc _,_,_,p,_,_=>by simp [pln] at p
 | .exa _ _,_,_,p,_,_=>by simp [pln] at p
 | .cls _,_,_,p,_,_=>by simp [pln] at p
theorem readss_of {P:Program} {w:World} {K:PySem.W.Frag} {pp:Option Addr} {M:List Addr} {H:Hp} {h:Heap} (ok:HOk P w H h):∀ (ds:List D) (vs:List V) (us:List Value),plns ds = true -> Reps K pp M H ds vs -> Vals vs us -> ∃ as,ReadsAll h us (toPys ds) as
 | [],_,_,_,r,q=>by simp only [Reps] at r; subst r; cases q; exact ⟨_,.nil⟩
 | d :: ds,_,_,p,r,q=>by
  simp only [Reps] at r
  obtain ⟨x,r',rfl,r1,r2⟩:=r
  simp only [plns,Bool.and_eq_true] at p
  cases q with
  | cons q1 q2 =>
   obtain ⟨as,z1⟩:=reads_of ok d _ _ p.1 r1 q1
   obtain ⟨bs,z2⟩:=readss_of ok ds _ _ p.2 r2 q2
   exact ⟨_,by rw [toPys]; exact .cons z1 z2⟩
end
section
variable {X:Cx} {pp:Option Addr} {k:Nat}
def rEqD (K:PySem.W.Frag) (n:Bool):R2:=fun x y H Q=>∃ pp M dx dy,Rep K pp M H dx x /\ Rep K pp M H dy y /\ shp dx = true /\ shp dy = true /\ Q (.bl (if n then !eqD dx dy else eqD dx dy)) H
theorem op_eqD (hr:Room k X.A):OpR X (compareOp .Eq) (rEqD X.K false):=by
 intro pins s σ H x y v u Q I rx ry h
 obtain ⟨pp,M,dx,dy,r1,r2,s1,s2,q⟩:=h
 unfold shp at s1 s2
 rw [Bool.and_eq_true] at s1 s2
 obtain ⟨as,z1⟩:=reads_of I.hok dx x v s1.1 r1 rx
 obtain ⟨bs,z2⟩:=reads_of I.hok dy y u s2.1 r2 ry
 exact SeqAt.compareEq_shaped z1 z2 s1.2 s2.2 (by have:=hr.un; omega) (fin_bl I q rfl)
theorem op_neD (hr:Room k X.A):OpR X (compareOp .NotEq) (rEqD X.K true):=by
 intro pins s σ H x y v u Q I rx ry h
 obtain ⟨pp,M,dx,dy,r1,r2,s1,s2,q⟩:=h
 unfold shp at s1 s2
 rw [Bool.and_eq_true] at s1 s2
 obtain ⟨as,z1⟩:=reads_of I.hok dx x v s1.1 r1 rx
 obtain ⟨bs,z2⟩:=reads_of I.hok dy y u s2.1 r2 ry
 exact SeqAt.compareNe_shaped z1 z2 s1.2 s2.2 (by have:=hr.un; omega) (fin_bl I q rfl)
def gEq (n:Bool):D -> D -> (D -> Prop) -> Prop:=fun x y P=>(shp x = true /\ shp y = true) /\ P (.bl (if n then !eqD x y else eqD x y))
theorem od_eq (hr:Room k X.A):OpD X (compareOp .Eq) (gEq false) :=
 ⟨fun _ _ _ _ f h=>⟨h.1,f _ h.2⟩,_,op_eqD hr,fun {pp} M H x y v u Q _ rx ry h=>⟨pp,M,x,y,rx,ry,h.1.1,h.1.2,h.2 H _ .refl rep_bl⟩⟩
theorem od_ne (hr:Room k X.A):OpD X (compareOp .NotEq) (gEq true) :=
 ⟨fun _ _ _ _ f h=>⟨h.1,f _ h.2⟩,_,op_neD hr,fun {pp} M H x y v u Q _ rx ry h=>⟨pp,M,x,y,rx,ry,h.1.1,h.1.2,h.2 H _ .refl rep_bl⟩⟩
end
end DL
namespace DL
open PySem PySem.Spec L2
open PyProof.Rows hiding St
variable [Frm]
section
variable {X:Cx} {F:Fx} {pp:Option Addr}
abbrev DO:=DS -> (Option Int -> DS -> Prop) -> Prop
structure POD (X:Cx) (e:Option Expr) (t:DO):Prop where
 mono:∀ ρ P P',(∀ b ρ',P b ρ' -> P' b ρ') -> t ρ P -> t ρ P'
 run:∃ T:TO,PO X e T /\ ∀ {F:Fx} M H σ ρ (Q:Option Int -> Hp -> Prop),RSt X.K F M H σ ρ ->
  (t ρ fun o ρ'=>∀ M' H',Mv X.K F.pp M H M' H' -> RSt X.K F M' H' σ ρ' -> Q o H') -> T σ H Q
abbrev doNone:DO:=fun ρ Q=>Q none ρ
abbrev doSome (te:DE):DO:=fun ρ Q=>te ρ fun d ρ'=>match d with
 | .int i=>Q (some i) ρ'
 | _=>False
theorem do_none:POD X none doNone:=⟨fun _ _ _ f h=>f _ _ h,_,po_none,fun {F} M H σ ρ Q rs h=>h M H .refl rs⟩
theorem do_some {e:Expr} {te:DE} (he:PED X e te):POD X (some e) (doSome te):=by
 obtain ⟨T,p,r⟩:=he.run
 refine ⟨fun _ _ _ f h=>he.mono _ _ _ (fun d _ h=>?_) h,_,po_some p,fun {F} M H σ ρ Q rs h=>r M H σ ρ _ rs (he.mono _ _ _ (fun d ρ' h M' H' v m rs' rd=>?_) h)⟩
 ·cases d <;> first | exact h.elim | exact f _ _ h
 ·cases d <;> first | exact h.elim | skip
  simp only [Rep] at rd
  exact ⟨_,rd,h M' H' m rs'⟩
def cutD (xs:List D) (lo hi:Option Int):List D:=(xs.drop (HT.sIx xs.length 0 lo)).take (HT.sIx xs.length xs.length hi - HT.sIx xs.length 0 lo)
theorem Reps.cut {K:PySem.W.Frag} {M:List Addr} {H:Hp} {ds:List D} {xs:List V} (lo hi:Option Int) (r:Reps K pp M H ds xs):Reps K pp M H (cutD ds lo hi) (cutV xs lo hi):=by
 unfold cutD cutV
 rw [r.length]
 exact (r.drop _).take _
end
end DL
namespace DL
open PySem PySem.Spec L2
open PyProof.Rows hiding St
variable [Frm]
theorem dLoop_ind {g:DG} {b:DTS} {E:DEnds} {ds:List D} (N:DS -> Prop) (hn:∀ ρ,N ρ -> E.nx ρ)
  (hs:∀ d ∈ ds,∀ (ρ:DS) (X:DS -> Prop),N ρ -> (∀ ρ',N ρ' -> X ρ') -> g d ρ fun ρ1=>b { E with nx:=X,ct:=X,bk:=E.nx } ρ1):∀ ρ,N ρ -> dLoop g b ds E ρ:=by
 induction ds with
 | nil=>exact hn
 | cons d r ih=>exact fun ρ h=>hs d List.mem_cons_self ρ _ h (ih fun d hd=>hs d (List.mem_cons_of_mem _ hd))
theorem dLoop_pre {g:DG} {b:DTS} {E:DEnds} {ds:List D} (N:List D -> DS -> Prop) (hn:∀ ρ,N ds ρ -> E.nx ρ)
  (hs:∀ (pre:List D) (d:D) (post:List D) (ρ:DS) (X:DS -> Prop),ds = pre ++ d :: post -> N pre ρ -> (∀ ρ',N (pre ++ [d]) ρ' -> X ρ') -> g d ρ fun ρ1=>b { E with nx:=X,ct:=X,bk:=E.nx } ρ1) (ρ:DS) (h:N [] ρ):dLoop g b ds E ρ:=by
 have key:∀ (post pre:List D),ds = pre ++ post -> ∀ ρ,N pre ρ -> dLoop g b post E ρ:=by
  intro post
  induction post with
  | nil=>intro pre e ρ h; rw [List.append_nil] at e; subst e; exact hn ρ h
  | cons d r ih=>intro pre e ρ h; exact hs pre d r ρ _ e h (ih (pre ++ [d]) (by rw [e,List.append_assoc]; rfl))
 exact key ds [] rfl ρ h
theorem dWhile_ind {c:DT} {b:DTS} {E:DEnds} (N:DS -> Prop) (μ:DS -> Nat)
  (hs:∀ (ρ:DS) (X:DS -> Prop),N ρ -> (∀ ρ',N ρ' -> μ ρ' < μ ρ -> X ρ') -> c ρ fun k ρ'=>Br k (b { E with nx:=X,ct:=X,bk:=E.nx } ρ') (E.nx ρ')) (ρ:DS) (h:N ρ):dWhile c b E ρ:=by
 have key:∀ n ρ,N ρ -> μ ρ < n -> dWhileN c b n E ρ:=by
  intro n
  induction n with
  | zero=>intro ρ _ h; exact absurd h (Nat.not_lt_zero _)
  | succ n ih=>intro ρ h hl; exact hs ρ _ h fun ρ' h' hl'=>ih ρ' h' (by omega)
 exact ⟨_,key _ ρ h (Nat.lt_succ_self _)⟩
theorem atI_lt {α:Type} {xs:List α} {r:Int} (h0:0 <= r) (h1:r < xs.length):∃ d,atI xs r = some d /\ xs[r.toNat]? = some d:=by
 obtain ⟨j,rfl⟩:=Int.eq_ofNat_of_zero_le h0
 have hj:j < xs.length:=by omega
 exact ⟨xs[j],atI_nat (by simp [hj]),by simp [hj]⟩
theorem opt_mem {xs:List D} {r:Int} {Q:D -> Prop} (h0:0 <= r) (h1:r < xs.length) (h:∀ d ∈ xs,Q d):opt (atI xs r) Q:=by
 obtain ⟨d,e,e2⟩:=atI_lt h0 h1
 rw [e]
 exact h d (List.mem_of_getElem? e2)
theorem opt_at {xs:List D} {r:Int} {d:D} {Q:D -> Prop} (h0:0 <= r) (e:xs[r.toNat]? = some d) (h:Q d):opt (atI xs r) Q:=by
 obtain ⟨j,rfl⟩:=Int.eq_ofNat_of_zero_le h0
 rw [atI_nat (show xs[j]? = some d from e)]
 exact h
theorem cpow {i j:Int} (h:0 <= j /\ j <= 1000000 /\ i.natAbs < 2 ^ 64:=by decide):CPow i j:=h
theorem sz {n:Nat} (h:Nat.ble n 1000 = true:=by rfl):n <= sizeLine:=Nat.le_trans (Nat.le_of_ble_eq_true h) (by decide)
theorem eqD_int {i j:Int}:eqD (.int i) (.int j) = decide (i = j):=by
 show (i == j) = _
 by_cases h:i = j <;> simp [h]
end DL
namespace DL
open PySem PySem.Spec L2
open PyProof.Rows hiding St
variable [Frm]
def Bd (n:Nat) (i:Int):Prop:=i.natAbs < 2 ^ n
theorem Bd.mono {m n:Nat} {i:Int} (h:Bd m i) (l:m <= n):Bd n i:=Nat.lt_of_lt_of_le h (Nat.pow_le_pow_right (by decide) l)
theorem Bd.le {m:Nat} {i j:Int} (h:Bd m j) (l:i.natAbs <= j.natAbs):Bd m i:=Nat.lt_of_le_of_lt l h
theorem Bd.big {m:Nat} {i:Int} (h:Bd m i) (l:m <= 8000):Big i:=big_of (h.mono l)
theorem Bd.cmul {m n:Nat} {i j:Int} (h:Bd m i) (q:Bd n j) (l:m <= 8000:=by decide) (l':n <= 8000:=by decide):CMulB i j:=.inr (.inr ⟨h.big l,q.big l'⟩)
end DL
namespace DL
open PySem PySem.Spec L2
open PyProof.Rows hiding St
variable [Frm]
end DL
namespace DL
open PySem PySem.Spec L2
open PyProof.Rows hiding St
def cleanS:Sl -> Sl
 | .own _=>.nil
 | .obj _=>.nil
 | s=>s
theorem cleanS_free (s:Sl):(∀ ds,cleanS s ≠ .own ds) /\ ∀ q,cleanS s ≠ .obj q:=by
 cases s <;> exact ⟨fun ds z=>(by cases z),fun q z=>(by cases z)⟩
def clean (ρ:DS):DS:=ρ.map cleanS
def subD1 (ρ:DS):Option Nat -> Sl
 | none=>.nil
 | some j=>cleanS (slot ρ j)
def subD (js:List (Option Nat)) (ρ:DS):DS:=js.map (subD1 ρ)
def dColl (g:DG) (tc:DT) (te:DE):List D -> List D -> DS -> (List D -> Prop) -> Prop
 | [],acc,_,Q=>Q acc
 | d :: r,acc,ρ,Q=>g d ρ fun ρ1=>tc ρ1 fun b ρ2=>Br b (te ρ2 fun y ρ3=>acc.length < sizeLine /\ dColl g tc te r (acc ++ [y]) (clean ρ3) Q) (dColl g tc te r acc (clean ρ2) Q)
abbrev dComp (t:DA) (js:List (Option Nat)) (g:DG) (tc:DT) (te:DE):DA:=fun ρ Q=>t ρ fun ds ρ1=>dColl g tc te ds [] (subD js ρ1) fun ys=>Q ys ρ1
def delH (H:Hp) (a:Addr):Hp:=fun b=>if b = a then none else H b
theorem delH_same {H:Hp} {a:Addr}:delH H a a = none:=by simp [delH]
theorem delH_ne {H:Hp} {a b:Addr} (h:b ≠ a):delH H a b = H b:=by simp [delH,h]
theorem upd_delH {H:Hp} {a:Addr} {o:HO} (h:H a = some o):upd (delH H a) a o = H:=by
 funext b
 by_cases e:b = a
 ·subst e; rw [upd_same,h]
 ·rw [upd_ne e,delH_ne e]
section
variable {X:Cx} {F:Fx} {K:PySem.W.Frag} {pp:Option Addr}
theorem RSt.rebase {M:List Addr} {H:Hp} {σ:St} {ρ:DS} (r:RSt K F M H σ ρ):RSt K ⟨F.pp,M,H⟩ M H σ (clean ρ):=by
 refine ⟨by simp [clean,r.len],fun i s o h1 h2=>?_,OwF.none (fun i s h1=>?_),fun a h=>h,.refl,r.liv.m,r.liv,trivial⟩
 ·simp only [clean,List.getElem?_map] at h1
  cases q:ρ[i]? with
  | none=>rw [q] at h1; cases h1
  | some s' =>
   rw [q] at h1
   cases h1
   have:=r.sl i s' o q h2
   cases s' with
   | nil=>trivial
   | val d=>exact this
   | pin w d=>exact this
   | own ds=>trivial
   | obj q=>trivial
 ·simp only [clean,List.getElem?_map] at h1
  cases q:ρ[i]? with
  | none=>rw [q] at h1; cases h1
  | some s' =>
   rw [q] at h1
   cases h1
   exact cleanS_free s'
theorem RSt.writeFree {M:List Addr} {H:Hp} {σ:St} {ρ:DS} {D:Addr} {xs ys:List V} (r:RSt K ⟨F.pp,M,H⟩ M H σ (clean ρ)) (hD:D ∈ M) (hp:F.pp ≠ some D) (h:H D = some (.lst xs)) :
  RSt K ⟨F.pp,M,upd H D (.lst ys)⟩ M (upd H D (.lst ys)) σ (clean ρ):=by
 have m:Mv K F.pp M H M (upd H D (.lst ys)):=.write h hD hp
 have lv:Lv F.pp M (upd H D (.lst ys)):=by
  refine ⟨fun a ha=>?_,fun p e=>?_⟩
  ·by_cases z:a = D
   ·subst z; rw [upd_same]; intro z; cases z
   ·rw [upd_ne z]; exact r.liv.m a ha
  ·by_cases z:p = D
   ·subst z; rw [upd_same]; intro z; cases z
   ·rw [upd_ne z]; exact r.liv.p p e
 refine ⟨r.len,fun i s o h1 h2=>?_,OwF.none (fun i s h1=>?_),fun a h=>h,.refl,lv.m,lv,trivial⟩
 rotate_left
 ·simp only [clean,List.getElem?_map] at h1
  cases q:ρ[i]? with
  | none=>rw [q] at h1; cases h1
  | some s' =>
   rw [q] at h1
   cases h1
   exact cleanS_free s'
 have q:=r.sl i s o h1 h2
 cases s with
 | nil=>trivial
 | val d=>obtain ⟨v,e,q⟩:=q; exact ⟨v,e,q.mv m⟩
 | pin w d=>obtain ⟨v,e,ew,q⟩:=q; exact ⟨v,e,ew,q.mv m⟩
 | obj z=>exact q
 | own ds =>
  exfalso
  simp only [clean,List.getElem?_map] at h1
  cases q:ρ[i]? with
  | none=>rw [q] at h1; cases h1
  | some s'=>rw [q] at h1; cases s' <;> cases h1
theorem clean_clean (ρ:DS):clean (clean ρ) = clean ρ:=by
 simp only [clean,List.map_map]
 refine List.map_congr_left fun s _=>?_
 cases s <;> rfl
theorem subD_clean (js:List (Option Nat)) (ρ:DS):clean (subD js ρ) = subD js ρ:=by
 simp only [clean,subD,List.map_map]
 refine List.map_congr_left fun o _=>?_
 cases o with
 | none=>rfl
 | some j=>simp only [Function.comp,subD1]; cases slot ρ j <;> rfl
theorem RSt.block {M:List Addr} {H:Hp} {σ:St} {ρ:DS} {D:Addr} (r:RSt K F M H σ ρ) (js:List (Option Nat)) (hD:H D = none) :
  RSt K ⟨F.pp,D :: M,upd H D (.lst [])⟩ (D :: M) (upd H D (.lst [])) (L2.sub js σ) (subD js ρ):=by
 have m:Mv K F.pp M H (D :: M) (upd H D (.lst [])):=.newOwn hD
 have lv:Lv F.pp (D :: M) (upd H D (.lst [])):=by
  refine ⟨fun a ha=>?_,fun p e=>(SameP.new (K:=K) (pp:=F.pp) hD).live p (r.liv.p p e)⟩
  rcases List.mem_cons.mp ha with rfl | ha
  ·rw [upd_same]; intro z; cases z
  ·exact (SameP.new (K:=K) (pp:=F.pp) hD).live a (r.liv.m a ha)
 refine ⟨by simp [L2.sub,subD],fun i s o h1 h2=>?_,OwF.none (fun i s h1=>?_),fun a h=>h,.refl,lv.m,lv,trivial⟩
 ·simp only [subD,List.getElem?_map] at h1
  simp only [L2.sub,List.getElem?_map] at h2
  cases q:js[i]? with
  | none=>rw [q] at h1; cases h1
  | some jo =>
   rw [q] at h1 h2
   cases h1
   cases h2
   cases jo with
   | none=>trivial
   | some j =>
    show RSl K _ _ _ (cleanS (slot ρ j)) _
    cases e:slot ρ j with
    | nil=>trivial
    | own ds=>trivial
    | obj q=>trivial
    | val d =>
     obtain ⟨o,ho,v,rfl,hr⟩:=r.at (slot_get e (by intro z; cases z))
     exact ⟨v,by simp [sub1,ho],hr.mv m⟩
    | pin w d =>
     obtain ⟨o,ho,v,rfl,ew,hr⟩:=r.at (slot_get e (by intro z; cases z))
     exact ⟨v,by simp [sub1,ho],ew,hr.mv m⟩
 ·simp only [subD,List.getElem?_map] at h1
  cases q:js[i]? with
  | none=>rw [q] at h1; cases h1
  | some jo =>
   rw [q] at h1
   cases jo with
   | none=>cases h1; exact ⟨fun ds z=>(by cases z),fun q z=>(by cases z)⟩
   | some j =>
    cases h1
    exact cleanS_free (slot ρ j)
structure PTsD (X:Cx) (ifs:List Expr) (t:DT):Prop where
 mono:∀ ρ P P',(∀ b ρ',P b ρ' -> P' b ρ') -> t ρ P -> t ρ P'
 run:∃ T:TT,PTs X ifs T /\ ∀ {F:Fx} M H σ ρ (Q:Bool -> Hp -> Prop),RSt X.K F M H σ ρ ->
  (t ρ fun b ρ'=>∀ M' H',Mv X.K F.pp M H M' H' -> RSt X.K F M' H' σ ρ' -> Q b H') -> T σ H Q
abbrev dNoTest:DT:=fun ρ Q=>Q true ρ
theorem dts_nil:PTsD X [] dNoTest:=⟨fun _ _ _ f h=>f _ _ h,_,pts_nil,fun {F} M H σ ρ Q rs h=>h M H .refl rs⟩
theorem dts_one {c:Expr} {t:DT} (h:PTD X c t):PTsD X [c] t:=by
 obtain ⟨T,p,r⟩:=h.run
 exact ⟨h.mono,T,pts_one p,r⟩
structure PCD (X:Cx) (e:Expr) (t:DA):Prop where
 mono:∀ ρ P P',(∀ d ρ',P d ρ' -> P' d ρ') -> t ρ P -> t ρ P'
 run:∃ T:TE,PE X e T /\ (∀ (i:Nat) (y:Str) (py spos:Pos),X.N.Nodup -> X.N[i]? = some y -> X.env.scope.names.lookup y = some .local -> swapsWith e (some (.Name y py)) spos.line X.env = pure true -> PS X (.Assign [.Name y py] e spos) (tAsg T (gName i))) /\
  ∀ {F:Fx} M H σ ρ (Q:VK),RSt X.K F M H σ ρ ->
  (t ρ fun ds ρ'=>∀ M' H1 H' l xs,Mv X.K F.pp M H M' H1 -> RSt X.K F M' H1 σ ρ' -> H1 l = none -> H' = upd H1 l (.lst xs) -> Reps X.K F.pp M' H1 ds xs -> Q (.ref l) H') -> T σ H Q
theorem PCD.pld {e:Expr} {t:DA} (h:PCD X e t):PLD X e t:=by
 obtain ⟨T,p,_,r⟩:=h.run
 exact ⟨h.mono,T,p,r⟩
theorem dColl_mono {g:DG} {tc:DT} {te:DE} (hg:∀ d ρ P P',(∀ ρ',P ρ' -> P' ρ') -> g d ρ P -> g d ρ P') (hc:∀ ρ P P',(∀ b ρ',P b ρ' -> P' b ρ') -> tc ρ P -> tc ρ P') (he:∀ ρ P P',(∀ d ρ',P d ρ' -> P' d ρ') -> te ρ P -> te ρ P') {Q Q':List D -> Prop} (f:∀ ys,Q ys -> Q' ys) :
  ∀ (ds acc:List D) (ρ:DS),dColl g tc te ds acc ρ Q -> dColl g tc te ds acc ρ Q'
 | [],acc,ρ,h=>f _ h
 | d :: r,acc,ρ,h=>hg _ _ _ _ (fun ρ1 h=>hc _ _ _ (fun b ρ2 h=>⟨fun e=>he _ _ _ (fun y ρ3 h=>⟨h.1,dColl_mono hg hc he f r _ _ h.2⟩) (h.yes e),fun e=>dColl_mono hg hc he f r _ _ (h.no e)⟩) h) h
theorem dl_comp {tg elt iter:Expr} {ifs:List Expr} {scope:Scope} {cl:List (Str × Addr)} {N':List Str} {js:List (Option Nat)} {pos:Pos} {t:DA} {g:DG} {tc:DT} {te:DE}
  (hc:X.calm = true) (hclo:closeL X.env.cells scope.names [] = some cl) (hdis:∀ y ∈ scope.names,y.2 = .free -> (y.1,NameKind.cell) ∉ scope.names) (hkind:scope.kind = .function) (cap:Cap X scope N' js)
  (hnames:∀ y ∈ scope.names,y.2 = .local -> scope.names.lookup y.1 = some .local) (hi:PID X tg iter t)
  (hg:∀ B:Blk,PGD (cxB X scope cl N' B) tg g) (ht:∀ B:Blk,PTsD (cxB X scope cl N' B) ifs tc) (he:∀ B:Blk,PED (cxB X scope cl N' B) elt te)
  (hs:∀ v,foldedSetIterable iter X.env v = pure v:=by intro _; rfl):PCD X (.ListComp elt [⟨tg,iter,ifs,0⟩] scope pos) (dComp t js g tc te):=by
 obtain ⟨wi,pi,ri⟩:=hi.run
 have hb:∀ B:Blk,PG (cxB X scope cl N' B) tg (Classical.choose (hg B).run) /\ PTs (cxB X scope cl N' B) ifs (Classical.choose (ht B).run) /\ PE (cxB X scope cl N' B) elt (Classical.choose (he B).run):=fun B =>
  ⟨(Classical.choose_spec (hg B).run).1,(Classical.choose_spec (ht B).run).1,(Classical.choose_spec (he B).run).1⟩
 let B0:Blk:=⟨0,X.s₀,X.H₀,[],[]⟩
 refine ⟨fun _ _ _ f h=>hi.mono _ _ _ (fun ds ρ1 h=>dColl_mono (hg B0).mono (ht B0).mono (he B0).mono (fun ys h=>f _ _ h) _ _ _ h) h,_,pe_comp hc hclo hdis hkind cap hnames pi hb hs,fun i y py spos hN hy hl hsw=>ps_comp hN hy hl hc hclo hdis hkind cap hnames pi hb hsw hs,fun {F} M H σ ρ Q rs h=>?_⟩
 refine ri M H σ ρ _ rs (hi.mono _ _ _ (fun ds ρ1 h M1 H1 J m1 rs1 ok=>?_) h)
 intro B Dl hD
 obtain ⟨_,rg⟩:=Classical.choose_spec (hg B).run
 obtain ⟨_,rt⟩:=Classical.choose_spec (ht B).run
 obtain ⟨_,re⟩:=Classical.choose_spec (he B).run
 have fr:=rs1.liv.fresh hD
 have m3:Mv X.K F.pp M1 H1 (Dl :: M1) (upd H1 Dl (.lst [])):=.newOwn hD
 refine ⟨fun i m σ' H'=>∃ M' ρ' acc ys,m = ds.length - i /\ i <= ds.length /\ Mv X.K F.pp M1 H1 M' H' /\ SameP X.K F.pp H1 H' /\ RSt X.K ⟨F.pp,M',H'⟩ M' H' σ' (clean ρ') /\ Dl ∈ M' /\ (∀ a ∈ M1,a ∈ M') /\ H' Dl = some (.lst ys) /\ Reps X.K F.pp M' H' acc ys /\
  dColl g tc te (ds.drop i) acc (clean ρ') fun ys=>∀ M' H1 H' l xs,Mv X.K F.pp M H M' H1 -> RSt X.K F M' H1 σ ρ1 -> H1 l = none -> H' = upd H1 l (.lst xs) -> Reps X.K F.pp M' H1 ys xs -> Q (.ref l) H',
  ⟨ds.length,Dl :: M1,subD js ρ1,[],[],rfl,Nat.zero_le _,m3,.new hD,by rw [subD_clean]; exact rs1.block js hD,List.mem_cons_self,fun a ha=>List.mem_cons_of_mem _ ha,upd_same,.nil,by rw [subD_clean]; exact h⟩,?_⟩
 rintro i m σ' H' ⟨M',ρ',acc,ys,rfl,hil,mv,sm,rs',hDm,hsub,hDl,ra,hcoll⟩
 by_cases hlt:i < ds.length
 ·have e1:ds[i]? = some ds[i]:=by simp [hlt]
  rw [List.drop_eq_getElem_cons hlt] at hcoll
  refine .inr ⟨ok.go M' H' mv i hlt,fun σ2 H2=>∃ M2 ρ2 acc ys,Mv X.K F.pp M1 H1 M2 H2 /\ SameP X.K F.pp H1 H2 /\ RSt X.K ⟨F.pp,M2,H2⟩ M2 H2 σ2 (clean ρ2) /\ Dl ∈ M2 /\ (∀ a ∈ M1,a ∈ M2) /\ H2 Dl = some (.lst ys) /\ Reps X.K F.pp M2 H2 acc ys /\
   dColl g tc te (ds.drop (i + 1)) acc (clean ρ2) fun ys=>∀ M' H1 H' l xs,Mv X.K F.pp M H M' H1 -> RSt X.K F M' H1 σ ρ1 -> H1 l = none -> H' = upd H1 l (.lst xs) -> Reps X.K F.pp M' H1 ys xs -> Q (.ref l) H',
   fun σ2 H2 ⟨M2,ρ2,acc,ys,a1,a2,a3,a4,a5,a6,a7,a8⟩=>⟨ds.length - (i + 1),by omega,M2,ρ2,acc,ys,rfl,hlt,a1,a2,a3,a4,a5,a6,a7,a8⟩,fun y H2 yl=>?_⟩
  obtain ⟨sp,rx⟩:=ok.yld M' H' mv i _ y H2 e1 yl
  have rs'':RSt X.K ⟨F.pp,M',H2⟩ M' H2 σ' (clean ρ'):=by
   have:=(rs'.sameP sp).rebase
   rw [clean_clean] at this
   exact this
  have mv2:=mv.trans (sp.mv (M:=M'))
  have sm2:=sm.trans sp
  have ra2:=ra.mv (sp.mv (M:=M'))
  have hDl2:H2 Dl = some (.lst ys):=sp.keep Dl _ hDl fun z=>absurd z fr.2
  refine rg M' H2 σ' (clean ρ') _ _ _ rs'' rx ((hg B).mono _ _ _ _ (fun ρ3 h3 M3 H3 σ3 m3 rs3=>?_) hcoll)
  refine rt M3 H3 σ3 ρ3 _ rs3 ((ht B).mono _ _ _ (fun b ρ4 h4 M4 H4 m4 rs4=>?_) h3)
  -- what stands behind a step within this turn
  have keep:∀ {M5:List Addr} {H5:Hp} {σ5:St} {ρ5:DS},Mv X.K F.pp M' H2 M5 H5 -> RSt X.K ⟨F.pp,M',H2⟩ M5 H5 σ5 ρ5 -> Mv X.K F.pp M1 H1 M5 H5 /\ SameP X.K F.pp H1 H5 /\ RSt X.K ⟨F.pp,M5,H5⟩ M5 H5 σ5 (clean ρ5) /\ Dl ∈ M5 /\ (∀ a ∈ M1,a ∈ M5) /\ H5 Dl = some (.lst ys) /\ Reps X.K F.pp M5 H5 acc ys:=fun mm rr =>
   ⟨mv2.trans mm,sm2.trans rr.same,rr.rebase,rr.sub _ hDm,fun a ha=>rr.sub _ (hsub a ha),rr.same.keep Dl _ hDl2 fun z=>absurd z fr.2,ra2.mv mm⟩
  cases b with
  | false =>
   refine iteF ?_
   obtain ⟨a1,a2,a3,a4,a5,a6,a7⟩:=keep (m3.trans m4) rs4
   exact ⟨M4,ρ4,acc,ys,a1,a2,a3,a4,a5,a6,a7,h4.no rfl⟩
  | true =>
   refine iteT (re M4 H4 σ3 ρ4 _ rs4 ((he B).mono _ _ _ (fun y ρ5 h5 M5 H5 v m5 rs5 r5=>?_) (h4.yes rfl)))
   obtain ⟨a1,a2,a3,a4,a5,a6,a7⟩:=keep ((m3.trans m4).trans m5) rs5
   have mw:Mv X.K F.pp M5 H5 M5 (upd H5 Dl (.lst (ys ++ [v]))):=.write a6 a4 fr.2
   refine ⟨ys,a6,by rw [← a7.length]; exact h5.1,M5,ρ5,acc ++ [y],ys ++ [v],a1.trans mw,?_,a3.writeFree a4 fr.2 a6,a4,a5,upd_same,(a7.append (.one r5)).mv mw,h5.2⟩
   refine ⟨fun b o e n=>?_,fun p e hp=>mw.pen p e (a2.pen p e hp),fun b hb=>?_⟩
   ·rw [upd_ne (by rintro rfl; rw [hD] at e; cases e)]
    exact a2.keep b o e n
   ·by_cases z:b = Dl
    ·subst z; rw [upd_same]; intro z; cases z
    ·rw [upd_ne z]; exact a2.live b hb
 ·have e:i = ds.length:=by omega
  refine .inl ⟨ok.stop M' H' mv i (by omega),?_⟩
  have hd:ds.drop i = []:=by rw [List.drop_eq_nil_iff]; omega
  rw [hd] at hcoll
  have sd:SameP X.K F.pp H1 (delH H' Dl):=by
   refine ⟨fun b o e n=>?_,fun p e hp=>?_,fun b hb=>?_⟩
   ·rw [delH_ne (by rintro rfl; rw [hD] at e; cases e)]
    exact sm.keep b o e n
   ·obtain ⟨a,ns,t,l,pn⟩:=sm.pen p e hp
    have np:p ≠ Dl:=by rintro rfl; exact fr.2 e
    refine ⟨a,ns,t,l,by rw [delH_ne np]; exact pn.lst,?_,pn.t0⟩
    rcases pn.scr with ⟨o,q⟩ | q
    ·exact .inl ⟨o,by rw [delH_ne (ne_of q hDl (by intro z; cases z))]; exact q⟩
    ·exact .inr q
   ·rw [delH_ne (by rintro rfl; exact hb hD)]
    exact sm.live b hb
  have md:Mv X.K F.pp M' H' M1 (delH H' Dl):=by
   refine ⟨fun a xs q=>by rw [delH_ne (ne_of q hDl (by intro z; cases z))]; exact q,fun a o q n p=>⟨by rw [delH_ne (by rintro rfl; exact n hDm)]; exact q,fun z=>n (hsub a z)⟩,fun p e hp=>?_⟩
   obtain ⟨a,ns,t,l,pn⟩:=hp
   have np:p ≠ Dl:=by rintro rfl; exact fr.2 e
   refine ⟨a,ns,t,l,by rw [delH_ne np]; exact pn.lst,?_,pn.t0⟩
   rcases pn.scr with ⟨o,q⟩ | q
   ·exact .inl ⟨o,by rw [delH_ne (ne_of q hDl (by intro z; cases z))]; exact q⟩
   ·exact .inr q
  exact hcoll M1 (delH H' Dl) H' Dl ys (m1.trans sd.mv) (rs1.sameP sd) delH_same (upd_delH hDl).symm (ra.mv md)
theorem ds_setC {e:Expr} {t:DA} {i:Nat} {y:Str} {py pos:Pos} (hN:X.N.Nodup) (hy:X.N[i]? = some y) (hl:X.env.scope.names.lookup y = some .local) (h:PCD X e t) (hsw:swapsWith e (some (.Name y py)) pos.line X.env = pure true:=by rfl):PSD X (.Assign [.Name y py] e pos) (dSet i (dFrz t)):=by
 obtain ⟨T,_,p,r⟩:=h.run
 refine ⟨_,p i y py pos hN hy hl hsw,fun {F} M H σ ρ E D rs o q=>r M H σ ρ _ rs (h.mono _ _ _ (fun ds ρ1 q M1 H1 H' l xs m1 rs1 hl e r1=>?_) q)⟩
 subst e
 refine o.nx M1 _ _ _ (m1.trans (.new hl)) ((rs1.sameP (.new hl)).set ?_ i) q
 simp only [Rep]
 exact ⟨l,xs,rfl,(rs1.liv.fresh hl).1,(rs1.liv.fresh hl).2,upd_same,r1.mv (.new hl)⟩
end
end DL
namespace L2
open PySem PySem.Spec PyProof.Rows
section
variable {X:Cx} {tg:Expr}
theorem call_sum (hc:X.calm = true):CallR X (.builtin "sum") (fun xs H Q=>∃ (p:Addr) (ns:List Int),xs = [.ref p] /\ SqL X.K H p (ns.map V.int) /\ Q (.int ns.sum) H):=by
 intro pins s σ H xs us Q I r h
 obtain ⟨p,ns,rfl,hl,q⟩:=h
 obtain ⟨u,rfl,e⟩:=vals1 r
 cases e
 obtain ⟨its,rv,pl,_⟩:=I.list hl
 have hi:IntsAre its ns:=intsAre_of rv
 obtain ⟨ps,e⟩:=hi.allInts.items
 have il:=pl.isList
 rw [e] at il
 refine sum_intListG (I.ok.hd hc) il fun h' tk t' hk=>⟨.int ns.sum,H,I.kept hk,⟨t',?_⟩,q⟩
 have e2:numsOf its = ns:=hi.numsOf
 have e3:=nums_intItems ps
 rw [← e] at e3
 have e4:ps.toList.map (·.1) = ns:=by rw [← e3,← e2]
 rw [preSum_eq,List.take_of_length_le (by simp),e4]
def iSeq (K:PySem.W.Frag) (tl:TE):TI:=fun σ H R=>tl σ H fun x H1=>(∃ a,x = .ref a /\ (∃ xs,SqL K H1 a xs) /\ R (Itl K a) H1) ∨ (∃ a,x = .ref a /\ (∃ xs,SqT K H1 a xs) /\ R (Itt K a) H1)
theorem pi_seq {l:Expr} {tl:TE} (hl:PE X l tl):PI X tg l (iSeq X.K tl):=by
 intro pins s σ H R I h
 refine thn (hl pins s σ H _ I h) fun v s1 ⟨x,H1,I1,r1,q1⟩=>?_
 rcases q1 with ⟨a,rfl,⟨xs,hq⟩,q⟩ | ⟨a,rfl,⟨xs,hq⟩,q⟩
 ·cases r1
  obtain ⟨its,rv,p,hz⟩:=I1.list hq
  refine wpAny_pyIter_list p.isList ⟨s1.heap.objs.size,[s1.heap.objs.size],_,_,H1,rfl,I1.kept (t':=s1.toks) (fun b o e=>Heap.get?_push_of_some _ e),turn_list a _,⟨_,Heap.get?_push_size _ rfl,rfl,rfl⟩,fun b hb=>?_,q⟩
  rw [show b = s1.heap.objs.size by simpa using hb]
  exact I1.fpOk (Nat.le_refl _) (I1.hok.fresh (Nat.le_refl _))
 ·cases r1
  obtain ⟨its,rv,p,hz⟩:=I1.tuple hq
  refine wpAny_pyIter_tuple (show s1.heap.IsTuple a its.toArray from p) ⟨s1.heap.objs.size,[s1.heap.objs.size],_,_,H1,rfl,I1.kept (t':=s1.toks) (fun b o e=>Heap.get?_push_of_some _ e),turn_tuple a _,⟨_,Heap.get?_push_size _ rfl,rfl,rfl⟩,fun b hb=>?_,q⟩
  rw [show b = s1.heap.objs.size by simpa using hb]
  exact I1.fpOk (Nat.le_refl _) (I1.hok.fresh (Nat.le_refl _))
end
end L2
namespace DL
open PySem PySem.Spec L2
open PyProof.Rows hiding St
variable [Frm]
section
variable {X:Cx}
def intsOf:List D -> Option (List Int)
 | []=>some []
 | .int i :: r=>(intsOf r).map (i :: ·)
 | _=>none
theorem intsOf_map:∀ ns:List Int,intsOf (ns.map D.int) = some ns
 | []=>rfl
 | n :: r=>by simp [intsOf,intsOf_map r]
theorem intsOf_eq:∀ {ds:List D} {ns:List Int},intsOf ds = some ns -> ds = ns.map D.int
 | [],ns,h=>by cases h; rfl
 | .int i :: r,ns,h=>by
  simp only [intsOf,Option.map_eq_some_iff] at h
  obtain ⟨ms,h,rfl⟩:=h
  rw [intsOf_eq h]; rfl
theorem reps_ints {K:PySem.W.Frag} {pp:Option Addr} {M:List Addr} {H:Hp}:∀ {ns:List Int} {xs:List V},Reps K pp M H (ns.map D.int) xs -> xs = ns.map V.int
 | [],xs,h=>by simpa only [List.map_nil,Reps] using h
 | n :: r,xs,h=>by
  simp only [List.map_cons,Reps,Rep] at h
  obtain ⟨x,t,rfl,rfl,h⟩:=h
  rw [reps_ints h]; rfl
def gSum:DSp:=fun ds P=>match ds with
 | [.lst xs]=>match intsOf xs with
  | some ns=>P (.int ns.sum)
  | none=>False
 | _=>False
theorem gSum_of {ns:List Int} {P:D -> Prop} (h:P (.int ns.sum)):gSum [.lst (ns.map D.int)] P:=by
 unfold gSum
 simp only [intsOf_map]
 exact h
theorem gSum_inv {ds:List D} {P:D -> Prop} (h:gSum ds P):∃ ns:List Int,ds = [.lst (ns.map D.int)] /\ P (.int ns.sum):=by
 unfold gSum at h
 split at h
 ·rename_i xs
  cases e:intsOf xs with
  | none=>rw [e] at h; exact h.elim
  | some ns =>
   rw [e] at h
   exact ⟨ns,by rw [intsOf_eq e],h⟩
 ·exact h.elim
theorem cd_sum (hc:X.calm = true:=by rfl):CallD X (.builtin "sum") gSum:=by
 refine ⟨fun ds P P' f h=>?_,_,call_sum hc,fun {pp} M H ds vs Q _ r h=>?_⟩
 ·obtain ⟨ns,rfl,h2⟩:=gSum_inv h
  exact gSum_of (f _ h2)
 ·obtain ⟨ns,rfl,h2⟩:=gSum_inv h
  simp only [Reps,Rep] at r
  obtain ⟨x,_,rfl,⟨a,ys,rfl,_,_,ha,ry⟩,rfl⟩:=r
  refine ⟨a,ns,rfl,SqL.of (by rw [ha,reps_ints ry]),h2 H _ .refl rep_int⟩
abbrev diAny (te:DE):DA:=fun ρ Q=>te ρ fun d ρ'=>match d with
 | .lst ds=>Q ds ρ'
 | .tup ds=>Q ds ρ'
 | _=>False
theorem di_any {tg l:Expr} {te:DE} (hl:PED X l te):PID X tg l (diAny te):=by
 obtain ⟨T,p,r⟩:=hl.run
 refine ⟨fun _ _ _ f h=>hl.mono _ _ _ (fun d _ h=>?_) h,_,pi_seq p,fun {F} M H σ ρ R rs h=>r M H σ ρ _ rs (hl.mono _ _ _ (fun d ρ' h M' H' v m rs' rd=>?_) h)⟩
 ·cases d <;> first | exact h.elim | exact f _ _ h
 ·cases d <;> first | exact h.elim | skip
  all_goals simp only [Rep] at rd
  case tup ds =>
   obtain ⟨a,xs,rfl,ha,rd⟩:=rd
   refine .inr ⟨a,rfl,⟨xs,SqT.of ha⟩,h M' H' _ m rs' (ItOkV.of (vs:=xs) ⟨fun M2 H2 m2 i x H3 _ y=>?_,fun M2 H2 m2 i hi=>?_,fun M2 H2 m2 i hi=>?_⟩ rd)⟩
   ·exact ⟨y.1,y.2 xs (SqT.of (m2.tup a xs ha))⟩
   ·exact ⟨xs,xs[i],SqT.of (m2.tup a xs ha),by simp [hi]⟩
   ·exact ⟨xs,SqT.of (m2.tup a xs ha),hi⟩
  case lst ds =>
   obtain ⟨a,xs,rfl,hm,hp,ha,rd⟩:=rd
   refine .inl ⟨a,rfl,⟨xs,SqL.of ha⟩,h M' H' _ m rs' (ItOkV.of (vs:=xs) ⟨fun M2 H2 m2 i x H3 _ y=>?_,fun M2 H2 m2 i hi=>?_,fun M2 H2 m2 i hi=>?_⟩ rd)⟩
   ·exact ⟨y.1,y.2 xs (SqL.of (m2.lst a xs ha hm hp).1)⟩
   ·exact ⟨xs,xs[i],SqL.of (m2.lst a xs ha hm hp).1,by simp [hi]⟩
   ·exact ⟨xs,SqL.of (m2.lst a xs ha hm hp).1,hi⟩
end
theorem dColl_pre {g:DG} {tc:DT} {te:DE} {ds:List D} {Q:List D -> Prop} (N:List D -> List D -> DS -> Prop) (hn:∀ acc ρ,N ds acc ρ -> Q acc)
  (hs:∀ (pre:List D) (d:D) (post acc:List D) (ρ:DS) (Y:List D -> DS -> Prop),ds = pre ++ d :: post -> N pre acc ρ -> (∀ acc' ρ',N (pre ++ [d]) acc' (clean ρ') -> Y acc' ρ') ->
   g d ρ fun ρ1=>tc ρ1 fun b ρ2=>Br b (te ρ2 fun y ρ3=>acc.length < sizeLine /\ Y (acc ++ [y]) ρ3) (Y acc ρ2)) (ρ:DS) (h:N [] [] ρ):dColl g tc te ds [] ρ Q:=by
 have key:∀ (post pre acc:List D),ds = pre ++ post -> ∀ ρ,N pre acc ρ -> dColl g tc te post acc ρ Q:=by
  intro post
  induction post with
  | nil=>intro pre acc e ρ h; rw [List.append_nil] at e; subst e; exact hn acc ρ h
  | cons d r ih=>intro pre acc e ρ h; exact hs pre d r acc ρ (fun acc' ρ'=>dColl g tc te r acc' (clean ρ') Q) e h (fun acc' ρ' h'=>ih (pre ++ [d]) acc' (by rw [e,List.append_assoc]; rfl) _ h')
 exact key ds [] [] rfl ρ h
theorem dColl_map {g:DG} {te:DE} {ds:List D} {Q:List D -> Prop} (f:D -> D) (N:DS -> Prop) (hl:ds.length <= sizeLine)
  (hs:∀ d ∈ ds,∀ (ρ:DS) (Y:D -> DS -> Prop) (Z:DS -> Prop),N ρ -> (∀ ρ',N (clean ρ') -> Y (f d) ρ') -> g d ρ fun ρ1=>dNoTest ρ1 fun b ρ2=>Br b (te ρ2 Y) (Z ρ2)) (ρ:DS) (h:N ρ) (hq:Q (ds.map f)):dColl g dNoTest te ds [] ρ Q:=by
 refine dColl_pre (fun pre acc ρ=>acc = pre.map f /\ N ρ) (fun acc ρ h=>by rw [h.1]; exact hq) (fun pre d post acc ρ Y e hN hY=>?_) ρ ⟨rfl,h⟩
 obtain ⟨rfl,hN⟩:=hN
 have hlt:(pre.map f).length < sizeLine:=by
  rw [List.length_map]
  have:ds.length = pre.length + (post.length + 1):=by rw [e]; simp
  omega
 refine hs d (by rw [e]; simp) ρ (fun y ρ3=>(pre.map f).length < sizeLine /\ Y (pre.map f ++ [y]) ρ3) (fun ρ2=>Y (pre.map f) ρ2) hN fun ρ' h'=>⟨hlt,hY _ ρ' ⟨by simp,h'⟩⟩
end DL
namespace DL
open PySem PySem.Spec L2
open PyProof.Rows hiding St
variable [Frm]
structure Shp (n:Nat) (d:D):Prop where
 p:pln d = true
 c:(toPy d).canLay0 = true
 d:(toPy d).depth <= n
theorem Shp.shp {n:Nat} {d:D} (h:Shp n d) (l:n <= 64:=by decide):shp d = true:=by
 unfold DL.shp SeqAt.shaped
 rw [h.p,h.c,decide_eq_true (Nat.le_trans h.d l)]; rfl
theorem Shp.int {i:Int} {n:Nat}:Shp n (.int i):=⟨rfl,rfl,Nat.zero_le _⟩
theorem Shp.non {n:Nat}:Shp n .non:=⟨rfl,rfl,Nat.zero_le _⟩
theorem shp_all {n:Nat}:∀ {ds:List D},(∀ d ∈ ds,Shp n d) -> plns ds = true /\ PyData.canLayAll0 (toPys ds) = true /\ PyData.depthAll (toPys ds) <= n
 | [],_=>⟨rfl,rfl,Nat.zero_le _⟩
 | d :: ds,h=>by
  obtain ⟨a,b,c⟩:=shp_all (ds:=ds) fun x hx=>h x (List.mem_cons_of_mem _ hx)
  have q:=h d List.mem_cons_self
  refine ⟨by simp only [plns,q.p,a,Bool.and_self],by simp only [toPys,PyData.canLayAll0,q.c,b,Bool.and_self],?_⟩
  simp only [toPys,PyData.depthAll]
  exact Nat.max_le.mpr ⟨q.d,c⟩
theorem Shp.tup {n:Nat} {ds:List D} (h:∀ d ∈ ds,Shp n d):Shp (n + 1) (.tup ds):=by
 obtain ⟨a,b,c⟩:=shp_all h
 exact ⟨by simp only [pln,a],by simp only [toPy,PyData.canLay0,b],by simp only [toPy,PyData.depth]; omega⟩
theorem Shp.lst {n:Nat} {ds:List D} (h:∀ d ∈ ds,Shp n d):Shp (n + 1) (.lst ds):=by
 obtain ⟨a,b,c⟩:=shp_all h
 exact ⟨by simp only [pln,a],by simp only [toPy,PyData.canLay0,b],by simp only [toPy,PyData.depth]; omega⟩
theorem eqD_self {d:D} (h:shp d = true):eqD d d = true:=by
 unfold shp at h
 rw [Bool.and_eq_true] at h
 exact SeqAt.eqv_refl _ (SeqAt.canLay_of_shaped h.2)
theorem Shp.pair {n:Nat} {i j:Int}:Shp (n + 1) (.tup [.int i,.int j]):=.tup fun d hd=>by
 simp only [List.mem_cons,List.not_mem_nil,or_false] at hd
 rcases hd with rfl | rfl <;> exact .int
end DL
namespace DL
open PySem PySem.Spec L2
open PyProof.Rows hiding St
section
variable [Frm] {X:Cx} {x:Str} {p pos np cpos:Pos} {e:Expr} {es:List Expr} {t:DA} {g:DSpE} {W:DS -> Addr -> Prop}
end
section
variable [fr0:Frm] {X:Cx} {body suite:List Stmt} {b0:Stmt} {n x:Str} {np hpos pos:Pos} {C0:Addr} {i:Nat} {tb:(DS -> Addr -> Prop) -> DTS} {th:DTS} {K:PySem.W.Frag}
end
section
variable [Frm] {X:Cx} {x:Str} {pos:Pos}
theorem ds_asgT {e tg:Expr} {te:DE} {g:DG} (he:PED X e te) (hg:PGD X tg g) (hs:swapsWithSole [tg] e pos.line X.env = pure false:=by rfl) (hw:swappedStores [tg] e X.env = pure none:=by rfl)
  (h1:(assignEach [tg] X.env).map (·.2) = [assign tg X.env]:=by rfl):PSD X (.Assign [tg] e pos) (dAsg te g) :=
 ds_asg he hg hs hw (ps_asg (Classical.choose_spec he.run).1 (Classical.choose_spec hg.run).1 hs hw h1)
end
end DL
namespace L2
open PySem PySem.Spec PyProof.Rows
section
variable {X:Cx} {tg:Expr}
end
end L2
namespace DL
open PySem PySem.Spec L2
open PyProof.Rows hiding St
variable [Frm]
section
variable {X:Cx}
end
omit [Frm] in
theorem Br.dt {p:Prop} [Decidable p] {A B:Prop} (h:p) (a:A):Br (decide p) A B:=⟨fun _=>a,fun z=>absurd h (of_decide_eq_false z)⟩
omit [Frm] in
theorem Br.di {p:Prop} [Decidable p] {A B:Prop} (a:p -> A) (b:¬p -> B):Br (decide p) A B:=⟨fun z=>a (of_decide_eq_true z),fun z=>b (of_decide_eq_false z)⟩
theorem dLoop_up {g:DG} {b:DTS} {E:DEnds} (N:Int -> DS -> Prop):∀ (n:Nat) (lo:Int),(∀ ρ,N (lo + n) ρ -> E.nx ρ) ->
  (∀ (k:Int) (ρ:DS) (X:DS -> Prop),lo <= k -> k < lo + n -> N k ρ -> (∀ ρ',N (k + 1) ρ' -> X ρ') -> g (.int k) ρ fun ρ1=>b { E with nx:=X,ct:=X,bk:=E.nx } ρ1) -> ∀ ρ,N lo ρ -> dLoop g b (intsD lo n) E ρ
 | 0,lo,hn,_,ρ,h=>hn ρ (by simpa using h)
 | n + 1,lo,hn,hs,ρ,h=>hs lo ρ _ (Int.le_refl _) (by omega) h fun ρ' h'=>dLoop_up N n (lo + 1) (fun ρ h=>hn ρ (by rw [show lo + ((n + 1:Nat):Int) = lo + 1 + (n:Int) by omega]; exact h)) (fun k ρ X h1 h2=>hs k ρ X (by omega) (by omega)) ρ' h'
end DL
namespace L2
open PySem PySem.Spec PyProof.Rows
section
variable {X:Cx} {pins:List (Addr × Obj)} {σ:St} {H:Hp} {s:Shared} {h':Heap}
theorem Inv.turnedN {ch:List Addr} {T:Addr} {o:HO} {t':Nat} (I:Inv X pins σ H s) (hf:∀ b ∈ ch,FpOk X pins H b) (k:∀ b u,b ∉ ch -> s.heap.get? b = some u -> h'.get? b = some u) (hT:s.heap.objs.size <= T)
  (new:ObjOk X.prog X.w (upd H T o) h' T o):Inv X pins σ (upd H T o) { s with heap:=h',toks:=t' }:=by
 have hn:=I.hok.fresh hT
 refine I.call' (s':={ s with heap:=h',toks:=t' }) (ch:=ch) rfl ⟨fun b u q _ _ hx=>k b u hx q,fun b u q _ _ hx=>⟨u.slots,k b u hx q⟩,fun b u q n _=>?_,fun b u q hx=>⟨u,k b u hx q⟩,fun b xs e=>?_,fun b p u e=>?_,fun b ps e=>⟨#[],?_⟩⟩ (fun a q e=>?_) I.bare
  (fun b hb=>⟨(hf b hb).2.2.2.1,(hf b hb).2.1,(hf b hb).2.2.2.2.1,(hf b hb).2.2.2.2.2⟩)
 ·rw [upd_ne (Nat.ne_of_lt (Nat.lt_of_lt_of_le (Heap.lt_size q) hT))]; exact n
 ·rw [upd_ne (by rintro rfl; rw [hn] at e; cases e)]; exact e
 ·rw [upd_ne (by rintro rfl; rw [hn] at e; cases e)]; exact e
 ·rw [upd_ne (by rintro rfl; rw [hn] at e; cases e)]; simpa using e
 ·by_cases z:a = T
  ·subst z
   rw [upd_same] at e
   cases e
   exact new
  ·rw [upd_ne z] at e
   refine ObjOk.stay (I.hok a q e) (fun b u hb q'=>k b u (fun hc=>?_) q') (fun b hb=>?_) (fun b xs hb=>?_)
   ·have:=(hf b hc).1
    rcases hb with rfl | hb
    ·rw [this] at e; cases e
    ·rw [this] at hb; cases hb
   ·rw [upd_ne (by rintro rfl; rw [hn] at hb; cases hb)]; exact hb
   ·rw [upd_ne (by rintro rfl; rw [hn] at hb; cases hb)]; exact hb
theorem Inv.turnedL {ch:List Addr} {t':Nat} (I:Inv X pins σ H s) (hf:∀ b ∈ ch,FpOk X pins H b) (k:∀ b u,b ∉ ch -> s.heap.get? b = some u -> h'.get? b = some u):Inv X pins σ H { s with heap:=h',toks:=t' }:=by
 refine I.call' (s':={ s with heap:=h',toks:=t' }) (ch:=ch) rfl ⟨fun b u q _ _ hx=>k b u hx q,fun b u q _ _ hx=>⟨u.slots,k b u hx q⟩,fun b u q n _=>n,fun b u q hx=>⟨u,k b u hx q⟩,fun b xs e=>e,fun b p u e=>e,fun b ps e=>⟨#[],by simpa using e⟩⟩ (fun a q e=>?_) I.bare
  (fun b hb=>⟨(hf b hb).2.2.2.1,(hf b hb).2.1,(hf b hb).2.2.2.2.1,(hf b hb).2.2.2.2.2⟩)
 refine ObjOk.stay (I.hok a q e) (fun b u hb q'=>k b u (fun hc=>?_) q') (fun b hb=>hb) (fun b xs hb=>hb)
 have:=(hf b hc).1
 rcases hb with rfl | hb
 ·rw [this] at e; cases e
 ·rw [this] at hb; cases hb
end
def Ite (K:PySem.W.Frag) (a:Addr):It :=
 ⟨fun i H=>∃ xs x,SqL K H a xs /\ xs[i]? = some x,fun i H x H'=>∃ T y,H T = none /\ x = .ref T /\ (∀ xs,SqL K H a xs -> xs[i]? = some y) /\ H' = upd H T (.tup [.int i,y]),fun i H=>∃ xs,SqL K H a xs /\ xs.length <= i⟩
theorem not_list {h:Heap} {a b:Addr} {its:Array Value} {o:Obj} {n:String} (hl:h.IsList a its) (ho:h.get? b = some o) (hc:o.cls = .type n) (hn:n ≠ "list"):a ≠ b:=by
 rintro rfl
 obtain ⟨o',e,c,_⟩:=hl
 rw [ho] at e
 cases e
 rw [hc] at c
 cases c
 exact hn rfl
theorem turn_enum {P:Program} {w:World} {K:PySem.W.Frag} {elts:List Expr} {k:Nat} {tp:Pos} (a e it:Addr) (hei:e ≠ it):Turn P w K (.Tuple elts k tp) (Ite K a) [e,it] e (fun i h=>(∃ old,IsEnum h e it i old) /\ h.IsListIter it a i) where
 mem:=by simp
 obj:=fun i h st b hb=>by
  obtain ⟨⟨old,he⟩,ho⟩:=st
  rcases List.mem_cons.mp hb with rfl | hb
  ·exact ⟨_,he,fun v z=>by
    have z':Data.fields _ = Data.cell v:=z
    cases z'⟩
  ·have:b = it:=by simpa using hb
   subst this
   obtain ⟨o,eo,c,d⟩:=ho
   exact ⟨o,eo,fun v z=>by rw [d] at z; cases z⟩
 keep:=fun i h h' st k=>⟨let ⟨old,he⟩:=st.1; ⟨old,k e (by simp) _ he⟩,st.2.at fun o x=>k it (by simp) o x⟩
 item:=by
  intro X hP hw hK hc i pins s σ H E I hf st hg
  subst hP hw hK
  obtain ⟨xs,x,hq,hx⟩:=hg
  obtain ⟨its,rv,p,hz⟩:=I.list hq
  obtain ⟨u,hu,ru⟩:=rv.get hx
  obtain ⟨⟨old,he⟩,hit⟩:=st
  have hae:a ≠ e:=not_list p.isList he rfl (by decide)
  have hai:a ≠ it:=by
   obtain ⟨o,eo,c,d⟩:=id hit
   exact not_list p.isList eo c (by decide)
  have W:=WalksT.enumerate (prog:=X.prog) (w:=X.w) (I.ok.hd hc) e it a hei hae hai its.toArray
  have hi:i < its.toArray.size:=by
   have:=(List.getElem?_eq_some_iff.mp hu).1
   simpa using this
  refine W.item i s _ _ hi ⟨⟨old,he⟩,hit,p.isList⟩ fun T vals h1 tk hP hT hIs hMid hk=>?_
  obtain ⟨t,z,hz',rfl⟩:=hP
  have ezu:z = u:=by
   have:its.toArray[i]? = some u:=by simpa using hu
   rw [this] at hz'
   cases hz'
   rfl
  subst ezu
  have ap:=W.apart i T h1 hMid
  refine ⟨_,rfl,W.go elts k tp i T { s with heap:=h1,toks:=tk } _ _ hMid fun h2 st2 hk2=>?_⟩
  obtain ⟨st21,st22,_⟩:=st2
  have I2:Inv X pins σ (upd H T (.tup [.int i,x])) { s with heap:=h2,toks:=tk }:=by
   refine I.turnedN (ch:=[e,it]) hf (fun b o hb q=>hk2 b o hb (hk b o hb q)) hT ⟨?_,[.int i t,z],.cons ⟨t,rfl⟩ (.cons ru .nil),?_⟩
   ·show 2 <= sizeLine
    decide
   ·obtain ⟨o,eo,r⟩:=hIs
    exact ⟨o,hk2 T o ap eo,r⟩
  refine ⟨.ref T,_,I2,rfl,⟨T,x,I.hok.fresh hT,rfl,fun ys hy=>by rw [I.list_inj hy hq]; exact hx,rfl⟩,⟨by simpa using st21,st22⟩,fun b hb=>?_⟩
  have fb:=hf b hb
  rw [upd_ne]
  ·exact fb.1
  ·rintro rfl
   exact ap hb
 done:=by
  intro X hP hw hK hc i pins s σ H E I hf st hg
  subst hP hw hK
  obtain ⟨xs,hq,hx⟩:=hg
  obtain ⟨its,rv,p,hz⟩:=I.list hq
  obtain ⟨⟨old,he⟩,hit⟩:=st
  have hl:=rv.length
  refine wpAny_pyNext_enum_end (I.ok.hd hc) he hit p.isList (by simp; omega) fun h1 hx1=>⟨rfl,?_⟩
  exact I.turnedL (t':=s.toks) (ch:=[e,it]) hf fun b o hb q=>hx1 b o (fun z=>hb (by simp [z])) q
 self:=fun _ _ _ _ _ st h=>let ⟨_,he⟩:=st.1; wpAny_pyIter_enum he h
theorem boot_enum:bootBuiltins "enumerate" = some (.type "enumerate"):=by decide +kernel
theorem boot_zip:bootBuiltins "zip" = some (.type "zip"):=by decide +kernel
section
variable {X:Cx}
def iEnum (K:PySem.W.Frag) (ta:TA):TI:=fun σ H R=>ta σ H fun vs H1=>∃ a,vs = [.ref a] /\ (∃ xs,SqL K H1 a xs) /\ R (Ite K a) H1
theorem pi_enum {l:Expr} {ta:TA} {p pos tp:Pos} {elts:List Expr} {k:Nat} (hg:Gl X "enumerate") (hm:X.mg "enumerate" = none) (ha:PA X [l] ta) (he:starEach [l] X.env = (false,eval l X.env) :: starEach [] X.env:=by rfl) (hpl:(backTo pos (starEach [] X.env)).any (·.1) = false:=by rfl) :
  PI X (.Tuple elts k tp) (.Call (.Name "enumerate" p) [l] [] pos) (iEnum X.K ta):=by
 intro pins s σ H R I h
 refine Call_ (ld_blt I hg hm boot_enum (PyProof.Rows.callWith_type1 (thn (ha pos pins s σ H _ I h) fun us s1 ⟨vs,H1,I1,r1,q1⟩=>?_) he hpl))
 obtain ⟨a,e,⟨xs,hq⟩,q⟩:=q1
 subst e
 obtain ⟨u,rfl,ru⟩:=r1.one
 cases ru
 obtain ⟨its,rv,pl,hz⟩:=I1.list hq
 refine call_enumerate_list pl.isList fun h1 hE hit hsz hk=>?_
 refine wpAny_pyIter_enum hE ?_
 have ne:s1.heap.objs.size + 1 ≠ s1.heap.objs.size:=by omega
 refine ⟨_,[s1.heap.objs.size + 1,s1.heap.objs.size],_,Ite X.K a,H1,rfl,I1.kept (t':=s1.toks) hk,turn_enum a _ _ ne,⟨⟨_,hE⟩,hit⟩,fun b hb=>?_,q⟩
 rcases List.mem_cons.mp hb with rfl | hb
 ·exact I1.fpOk (Nat.le_succ _) (I1.hok.fresh (Nat.le_succ _))
 ·have:b = s1.heap.objs.size:=by simpa using hb
  subst this
  exact I1.fpOk (Nat.le_refl _) (I1.hok.fresh (Nat.le_refl _))
end
section
variable {X:Cx}
end
end L2
namespace DL
open PySem PySem.Spec L2
open PyProof.Rows hiding St
variable [Frm]
section
variable {X:Cx} {F:Fx}
def enumD (k:Nat):List D -> List D
 | []=>[]
 | d :: r=>.tup [.int k,d] :: enumD (k + 1) r
omit [Frm] in
theorem enumD_length:∀ (ds:List D) (k:Nat),(enumD k ds).length = ds.length
 | [],_=>rfl
 | _ :: r,k=>by simp [enumD,enumD_length r]
omit [Frm] in
theorem enumD_get:∀ (ds:List D) (k i:Nat) (d:D),(enumD k ds)[i]? = some d -> ∃ e,ds[i]? = some e /\ d = .tup [.int ((k + i:Nat):Int),e]
 | [],_,i,d,h=>by simp [enumD] at h
 | e :: r,k,0,d,h=>by
  simp [enumD] at h
  exact ⟨e,rfl,h.symm⟩
 | e :: r,k,i + 1,d,h=>by
  simp only [enumD,List.getElem?_cons_succ] at h ⊢
  obtain ⟨e',h1,h2⟩:=enumD_get r (k + 1) i d h
  exact ⟨e',h1,by rw [h2]; congr 3; congr 1; omega⟩
def zipD:List D -> List D -> List D
 | x :: xs,y :: ys=>.tup [x,y] :: zipD xs ys
 | _,_=>[]
omit [Frm] in
theorem zipD_length:∀ (xs ys:List D),(zipD xs ys).length = min xs.length ys.length
 | [],_=>by simp [zipD]
 | _ :: _,[]=>by simp [zipD]
 | _ :: xs,_ :: ys=>by simp [zipD,zipD_length xs ys]
omit [Frm] in
theorem zipD_get:∀ (xs ys:List D) (i:Nat) (d:D),(zipD xs ys)[i]? = some d -> ∃ x y,xs[i]? = some x /\ ys[i]? = some y /\ d = .tup [x,y]
 | [],_,i,d,h=>by simp [zipD] at h
 | _ :: _,[],i,d,h=>by simp [zipD] at h
 | x :: xs,y :: ys,0,d,h=>by
  simp [zipD] at h
  exact ⟨x,y,rfl,rfl,h.symm⟩
 | x :: xs,y :: ys,i + 1,d,h=>by
  simp only [zipD,List.getElem?_cons_succ] at h ⊢
  exact zipD_get xs ys i d h
abbrev diEnum (t:DA):DA:=fun ρ Q=>t ρ fun ds ρ'=>match ds with
 | [.lst xs]=>Q (enumD 0 xs) ρ'
 | _=>False
theorem di_enum {l:Expr} {tl:DA} {p pos tp:Pos} {elts:List Expr} {k:Nat} (hg:Gl X "enumerate") (hm:X.mg "enumerate" = none) (ha:PAD X [l] tl) (he:starEach [l] X.env = (false,eval l X.env) :: starEach [] X.env:=by rfl) (hpl:(backTo pos (starEach [] X.env)).any (·.1) = false:=by rfl) :
  PID X (.Tuple elts k tp) (.Call (.Name "enumerate" p) [l] [] pos) (diEnum tl):=by
 obtain ⟨T,pa,r⟩:=ha.run
 refine ⟨fun _ _ _ f h=>ha.mono _ _ _ (fun d _ h=>?_) h,_,pi_enum hg hm pa he hpl,fun {F} M H σ ρ R rs h=>r M H σ ρ _ rs (ha.mono _ _ _ (fun d ρ' h M' H' v m rs' rd=>?_) h)⟩
 ·split at h
  ·exact f _ _ h
  ·exact h.elim
 ·split at h
  case h_2=>exact h.elim
  rename_i ds
  simp only [Reps,Rep] at rd
  obtain ⟨x,r0,rfl,⟨a,xs,rfl,hm,hp,ha,rd⟩,rfl⟩:=rd
  refine ⟨a,rfl,⟨xs,SqL.of ha⟩,h M' H' _ m rs' ⟨fun M2 H2 m2 i d y H3 e yl=>?_,fun M2 H2 m2 i hi=>?_,fun M2 H2 m2 i hi=>?_⟩⟩
  ·obtain ⟨T,z,hT,rfl,hz,rfl⟩:=yl
   obtain ⟨d',hd',rfl⟩:=enumD_get ds 0 i d e
   obtain ⟨v',hv',rv'⟩:=rd.get' hd'
   have:=hz xs (SqL.of (m2.lst a xs ha hm hp).1)
   rw [hv'] at this
   cases this
   refine ⟨.new hT,?_⟩
   simp only [Rep]
   exact ⟨T,_,rfl,upd_same,.cons (by rw [Nat.zero_add]; exact rep_int) (.one ((rv'.mv m2).mv (.new hT)))⟩
  ·have hi':i < xs.length:=by rw [← rd.length,← enumD_length ds 0]; exact hi
   exact ⟨xs,xs[i],SqL.of (m2.lst a xs ha hm hp).1,by simp [hi']⟩
  ·exact ⟨xs,SqL.of (m2.lst a xs ha hm hp).1,by rw [← rd.length,← enumD_length ds 0]; exact hi⟩
def dgSubS (k:Nat) (d:D) (ρ:DS) (Q:DS -> Prop) (j:D):Sl -> Prop
 | .own ds=>match j with
  | .int i=>∃ n,ixN ds.length i = some n /\ Q (ρ.set k (.own (ds.set n d)))
  | _=>False
 | _=>False
abbrev dgSub (k:Nat) (ti:DE):DG:=fun d ρ Q=>isOwn (slot ρ k) /\ ti ρ fun j ρ'=>dgSubS k d ρ' Q j (slot ρ' k)
theorem dg_sub {k:Nat} {o i:Expr} {ti:DE} {pos:Pos} (ho:PE X o (tVar k)) (hi:PED X i ti)
  (ha:∀ v,assign (.Subscript o i pos) X.env v = (do
   let ov ← holding [v] (eval o X.env)
   let iv ← holding [v,ov] (eval i X.env)
   standAt pos
   holding [v,ov,iv] (setItem ov iv v)
   release [v,ov,iv] []):=by intro _; rfl):PGD X (.Subscript o i pos) (dgSub k ti):=by
 obtain ⟨T,p,r⟩:=hi.run
 refine ⟨fun d ρ P P' f h=>⟨h.1,hi.mono _ _ _ (fun j ρ' h=>?_) h.2⟩,_,pg_sub ho p set_list ha,fun {F} M H σ ρ d v Q rs rd h=>?_⟩
 ·cases q:slot ρ' k with
  | nil=>rw [q] at h; exact h.elim
  | val d=>rw [q] at h; exact h.elim
  | pin w d=>rw [q] at h; exact h.elim
  | obj z=>rw [q] at h; exact h.elim
  | own ds =>
   rw [q] at h
   cases j <;> first | exact h.elim | (obtain ⟨n,e,h⟩:=h; exact ⟨n,e,f _ h⟩)
 ·obtain ⟨h0,h⟩:=h
  cases q:slot ρ k with
  | nil=>rw [q] at h0; exact h0.elim
  | val d=>rw [q] at h0; exact h0.elim
  | pin w d=>rw [q] at h0; exact h0.elim
  | obj z=>rw [q] at h0; exact h0.elim
  | own ds =>
   obtain ⟨oo1,ho1,l,xs,rfl,hm1,h01,hp1,hl1,hr1⟩:=rs.at (slot_get q (by intro z; cases z))
   refine ⟨.ref l,ho1,?_⟩
   refine r M H σ ρ _ rs (hi.mono _ _ _ (fun j ρ' h M' H' w m rs' rj=>?_) h)
   cases q':slot ρ' k with
   | nil=>rw [q'] at h; exact h.elim
   | val d=>rw [q'] at h; exact h.elim
   | pin w d=>rw [q'] at h; exact h.elim
   | obj z=>rw [q'] at h; exact h.elim
   | own ds' =>
    rw [q'] at h
    cases j <;> first | exact h.elim | skip
    rename_i j
    obtain ⟨n,e,h⟩:=h
    have g1:=slot_get q' (by intro z; cases z)
    obtain ⟨l',xs',e',hm',h0',hp',hl',hr'⟩:=rs'.sl k _ _ g1 ho1
    cases e'
    simp only [Rep] at rj
    subst rj
    obtain ⟨m2,rs2⟩:=rs'.write g1 ho1 (hr'.set (rd.mv m) n)
    exact ⟨l,xs',j,n,rfl,rfl,hl',by rw [← hr'.length]; exact e,h M' _ _ (m.trans m2) rs2⟩
omit [Frm] in
theorem ixN_of {n:Nat} {i:Int} (h0:0 <= i) (h:i < n):ixN n i = some i.toNat:=by
 unfold ixN
 rw [if_pos h0,if_pos h]
end
end DL
namespace DL
open PySem PySem.Spec L2
open PyProof.Rows hiding St
abbrev DTN:=(D -> Prop) -> (List D -> Prop) -> DS -> Prop
section
variable [Frm]
structure EN (K:PySem.W.Frag) (F:Fx) (M:List Addr) (H:Hp) (Q:D -> Prop) (L:List D -> Prop) (D:Ends):Prop where
 rt:∀ M' H' σ' ρ' d v,Mv K F.pp M H M' H' -> RSt K F M' H' σ' ρ' -> Rep K F.pp M' H' d v -> Q d -> D.rt v H'
 nx:∀ M' H' σ' ρ',Mv K F.pp M H M' H' -> RSt K F M' H' σ' ρ' -> Q .non -> D.nx σ' H'
 nw:∀ M' H' ds l xs,SameP K F.pp F.H0 H' -> (∀ a ∈ F.M0,a ∈ M') -> F.H0 l = none -> F.pp ≠ some l -> l ∈ M' -> H' l = some (.lst xs) -> Reps K F.pp M' H' ds xs -> L ds -> D.rt (.ref l) H'
theorem EN.mv {K:PySem.W.Frag} {F:Fx} {M M1:List Addr} {H H1:Hp} {Q:DL.D -> Prop} {L:List DL.D -> Prop} {D:Ends} (o:EN K F M H Q L D) (m:Mv K F.pp M H M1 H1):EN K F M1 H1 Q L D :=
 ⟨fun _ _ _ _ _ _ m'=>o.rt _ _ _ _ _ _ (m.trans m'),fun _ _ _ _ m'=>o.nx _ _ _ _ (m.trans m'),o.nw⟩
def PSsN (X:Cx) (st:List Stmt) (t:DTN):Prop:=∃ T:TS,PSs X st T /\ ∀ {F:Fx} M H σ ρ (Q:D -> Prop) (L:List D -> Prop) (D:Ends),RSt X.K F M H σ ρ -> EN X.K F M H Q L D -> t Q L ρ -> T D σ H
variable {X:Cx} {st:Stmt} {rest:List Stmt} {t:DTS} {u:DTN} {e:Expr} {tl:DA} {pos:Pos}
theorem psn_ret (h:PLD X e tl):PSsN X [.Return (some e) pos] (fun _ L ρ=>tl ρ fun ds _=>L ds):=by
 obtain ⟨T,p,r⟩:=h.run
 refine ⟨_,pss_one (ps_ret p),fun {F} M H σ ρ Q L D rs en q=>r M H σ ρ _ rs (h.mono _ _ _ (fun ds ρ' q M' H1 H' l xs m rs' hl e r'=>?_) q)⟩
 subst e
 have h0:F.H0 l = none:=by
  cases e:F.H0 l with
  | none=>rfl
  | some o=>exact absurd hl (rs'.same.live l (by rw [e]; intro z; cases z))
 exact en.nw (l :: M') _ ds l xs (rs'.same.trans (.new hl)) (fun a ha=>List.mem_cons_of_mem _ (rs'.sub a ha)) h0 (rs'.liv.fresh hl).2 List.mem_cons_self upd_same (r'.mv (.newOwn hl)) q
def slN (L:List D -> Prop):Sl -> Prop
 | .own ds=>L ds
 | _=>False
theorem psn_own {i:Nat} (h:PE X e (tVar i)):PSsN X [.Return (some e) pos] (fun _ L ρ=>slN L (slot ρ i)):=by
 refine ⟨_,pss_one (ps_ret h),fun {F} M H σ ρ Q L D rs en q=>?_⟩
 have q:slN L (slot ρ i):=q
 cases z:slot ρ i with
 | nil=>rw [z] at q; exact q.elim
 | val d=>rw [z] at q; exact q.elim
 | pin w d=>rw [z] at q; exact q.elim
 | obj y=>rw [z] at q; exact q.elim
 | own ds =>
  rw [z] at q
  obtain ⟨oo1,ho1,l,xs,rfl,hm1,h01,hp1,hl1,hr1⟩:=rs.at (slot_get z (by intro z; cases z))
  exact ⟨.ref l,ho1,en.nw M H ds l xs rs.same rs.sub h01 hp1 hm1 hl1 hr1 q⟩
theorem psn_cons (h1:PSD X st t) (h2:PSsN X rest u):PSsN X (st :: rest) (fun Q L ρ=>t { nx:=u Q L,rt:=Q } ρ):=by
 obtain ⟨T,p,r⟩:=h1
 obtain ⟨U,q,s⟩:=h2
 refine ⟨_,pss_cons p q,fun {F} M H σ ρ Q L D rs en h=>r M H σ ρ { nx:=u Q L,rt:=Q } { D with nx:=U D } rs ⟨fun M' H' σ' ρ' m rs' h=>?_,fun _ _ _ _ _ _ q=>q.elim,fun _ _ _ _ _ _ q=>q.elim,en.rt⟩ h⟩
 exact s M' H' σ' ρ' Q L D rs' (en.mv m) h
theorem psn_mid (h1:PSD X st t) (h2:PSsN X rest u):PSsN X (st :: rest) (fun Q L ρ=>∃ N:DS -> Prop,t { nx:=N,rt:=Q } ρ /\ ∀ ρ',N ρ' -> u Q L ρ'):=by
 obtain ⟨T,p,r⟩:=h1
 obtain ⟨U,q,s⟩:=h2
 refine ⟨_,pss_cons p q,fun {F} M H σ ρ Q L D rs en h=>?_⟩
 obtain ⟨N,h,hn⟩:=h
 refine r M H σ ρ { nx:=N,rt:=Q } { D with nx:=U D } rs ⟨fun M' H' σ' ρ' m rs' h=>?_,fun _ _ _ _ _ _ q=>q.elim,fun _ _ _ _ _ _ q=>q.elim,en.rt⟩ h
 exact s M' H' σ' ρ' Q L D rs' (en.mv m) (hn ρ' h)
end
abbrev DSpN:=List D -> (D -> Prop) -> (List D -> Prop) -> Prop
def spDN (K:PySem.W.Frag) (n:Nat) (g:DSpN):Sp:=fun vs H Q _=>∃ pp M ds,Lv pp M H /\ Reps K pp M H ds vs /\ ds.length = n /\ g ds (fun d=>∀ H' v,SameP K pp H H' -> Rep K pp M H' d v -> Q v H')
 (fun es=>∀ M' H' l xs,SameP K pp H H' -> (∀ a ∈ M,a ∈ M') -> H l = none -> pp ≠ some l -> l ∈ M' -> H' l = some (.lst xs) -> Reps K pp M' H' es xs -> Q (.ref l) H')
def MonoN (g:DSpN):Prop:=∀ ds P P' L L',(∀ d,P d -> P' d) -> (∀ es,L es -> L' es) -> g ds P L -> g ds P' L'
theorem fnDN {P:Program} {w:World} {K:PySem.W.Frag} {mg:Str -> Option Value} {base:Heap} {x qual:Str} {st:Stmt} {f:Addr} {fd:FuncData} {N ps:List Str} {k:Nat} {g:DSpN} {t:DTN} (Fn:Fun K x qual st f fd) (S:FnScope N ps (defScope st))
  (hb:∀ (cdv:Value) (A:Around) (outer:List Env) (s:Shared) (H:Hp) (E:XK),Room k (A.deeper (envOfC qual (defScope st) s.heap.objs.size f cdv)) -> @PSsN Frm.free (cxOf CX0 P w K mg base N qual (defScope st) f cdv A outer s H E).nox (defBody st) t)
  (hg:∀ ds Q L,ds.length = ps.length -> g ds Q L -> t Q L (dstart N.length ds)):FnOk P w K mg base CX0 (k + 1) f fd ps (spDN K ps.length g):=by
 refine Fn.ok S (fun vs H Q E h=>?_) (fun cdv A outer s H vs Q E hr h=>?_)
 ·obtain ⟨pp,M,ds,_,r,e,_⟩:=h
  rw [← r.length,e]
 ·obtain ⟨pp,M,ds,lv,r,e,h⟩:=h
  obtain ⟨T,p,run⟩:=hb cdv A outer s H E hr
  refine ⟨T,p,run M H _ _ _ _ _ (rst_start lv r trivial) ⟨fun M' H' σ' ρ' d v m rs rd q=>?_,fun M' H' σ' ρ' m rs q=>?_,fun M' H' es l xs s sub h0 hp hm hl rr q=>?_⟩ (hg ds _ _ e h)⟩
  ·exact q H' v rs.same (rd.mv (.less rs.sub))
  ·exact q H' .non rs.same (by simp only [Rep])
  ·exact q M' H' l xs s sub h0 hp hm hl rr
theorem FnOk.asD {P:Program} {w:World} {K:PySem.W.Frag} {mg:Str -> Option Value} {base:Heap} {k n:Nat} {f:Addr} {fd:FuncData} {ps:List Str} {g:DSpN} {g':DSp} (h:FnOk P w K mg base CX0 k f fd ps (spDN K n g)) (hg:∀ ds Q,g' ds Q -> g ds Q (fun es=>Q (.lst es))) (gm:MonoN g):FnOk P w K mg base CX0 k f fd ps (spD K n g') :=
 h.imp fun vs H Q E h=>by
  obtain ⟨pp,M,ds,lv,r,e,h⟩:=h
  refine ⟨pp,M,ds,lv,r,e,gm _ _ _ _ _ (fun d q=>q) (fun es q M' H' l xs s sub hl hp hm hH rr=>q H' _ s ?_) (hg _ _ h)⟩
  simp only [Rep]
  exact ⟨l,xs,rfl,(lv.fresh hl).1,hp,hH,rr.mv (.less sub)⟩
section
variable [Frm] {X:Cx}
end
end DL
namespace DL
open PySem PySem.Spec L2
open PyProof.Rows hiding St
variable [Frm]
section
variable {K:PySem.W.Frag} {F:Fx} {M M0 M':List Addr} {H H':Hp} {σ:St} {ρ:DS} {i:Nat} {ds:List D} {v:V}
end
section
variable {X:Cx} {e:Expr}
end
end DL
namespace DL
open PySem PySem.Spec L2
open PyProof.Rows hiding St
variable [Frm]
end DL
namespace L2
open PySem PySem.Spec PyProof.Rows
section
variable {prog:Program} {w:World} {A:Around} {E:Value -> Shared -> Prop} {s:Shared}
end
section
variable {X:Cx} {e st:Expr} {te:TE} {tk:TO} {pos p2:Pos}
end
end L2
namespace PySem
end PySem
namespace L2
open PySem PySem.Spec PyProof.Rows
section
variable {X:Cx}
end
end L2
namespace DL
open PySem PySem.Spec L2
open PyProof.Rows hiding St
variable [Frm]
section
variable {X:Cx} {pp:Option Addr}
end
end DL
namespace DL
open PySem PySem.Spec L2
open PyProof.Rows hiding St
variable [Frm]
section
variable {X:Cx} {pp:Option Addr}
end
end DL
namespace L2
open PySem PySem.Spec PyProof.Rows
theorem countP_eqU {x:V}:∀ {xs:List V} {us:List Value},Vals xs us -> xs.all flatV = true -> us.countP (eqU x) = xs.countP fun y=>eqV y x
 | _,_,.nil,_=>rfl
 | y :: xs,u :: us,.cons r t,f=>by
  rw [List.all_cons,Bool.and_eq_true] at f
  rw [List.countP_cons,List.countP_cons,eqU_of r f.1,countP_eqU t f.2]
section
variable {X:Cx}
def rCount:V -> List V -> Hp -> VK -> Prop:=fun x vs H Q=>∃ l xs y,x = .ref l /\ vs = [y] /\ H l = some (.lst xs) /\ flatV y = true /\ xs.all flatV = true /\ Q (.int ((xs.countP fun z=>eqV z y:Nat):Int)) H
theorem mt_count:MtM X "list.count" rCount:=by
 intro pins s σ H x vs v us Q I rx rv h
 obtain ⟨l,xs,y,rfl,rfl,hH,fy,fs,q⟩:=h
 cases rx
 obtain ⟨u,rfl,ru⟩:=rv.one
 obtain ⟨z,its,n,r,hl,e⟩:=I.lstM hH
 refine call_meets F.slot_list_count ⟨_,e,rfl⟩ F.entry_list_count (F.args_list_count_2 _ _) (SeqAt.list_countAt l its.toArray n none #[] u (eqU y)) ⟨e,fun w hw=>mem_eqAt ru fy r fs w (by simpa using hw),?_⟩
 refine ⟨.int _,H,I.tok _,⟨_,rfl⟩,?_⟩
 rw [show its.toArray.toList.countP (eqU y) = its.countP (eqU y) from rfl,countP_eqU r fs]
 exact q
def rIndex:V -> List V -> Hp -> VK -> Prop:=fun x vs H Q=>∃ l xs y j,x = .ref l /\ vs = [y] /\ H l = some (.lst xs) /\ flatV y = true /\ xs.all flatV = true /\ (∃ z,xs[j]? = some z /\ eqV z y = true) /\ (∀ m z,m < j -> xs[m]? = some z -> eqV z y = false) /\ Q (.int ((j:Nat):Int)) H
theorem mt_index:MtM X "list.index" rIndex:=by
 intro pins s σ H x vs v us Q I rx rv h
 obtain ⟨l,xs,y,j,rfl,rfl,hH,fy,fs,⟨z0,hz0,e0⟩,hno,q⟩:=h
 cases rx
 obtain ⟨u,rfl,ru⟩:=rv.one
 obtain ⟨z,its,n,r,hl,e⟩:=I.lstM hH
 have fl:∀ (m:Nat) (z:V),xs[m]? = some z -> flatV z = true:=fun m z hz=>List.all_eq_true.mp fs z (List.mem_of_getElem? hz)
 have hj:j < its.length:=by rw [← hl]; exact (List.getElem?_eq_some_iff.mp hz0).1
 have at_:∀ (m:Nat) (hm:m < its.toArray.size),∃ z,xs[m]? = some z /\ eqU y its.toArray[m] = eqV z y:=fun m hm=>by
  have hm':m < xs.length:=by rw [hl]; simpa using hm
  obtain ⟨w,hw,rw'⟩:=r.get (show xs[m]? = some xs[m] by simp [hm'])
  refine ⟨xs[m],by simp [hm'],?_⟩
  have:its.toArray[m] = w:=by
   have hm2:m < its.length:=by simpa using hm
   have:its[m]? = some its[m]:=by simp [hm2]
   rw [hw] at this
   cases this
   simp
  rw [this]
  exact eqU_of rw' (fl m _ (by simp [hm']))
 have sj:(j:Int) < 2 ^ 63 - 1:=by
  have:j < sizeLine:=by omega
  have:(sizeLine:Int) < 2 ^ 63 - 1:=by decide
  omega
 refine call_meets F.slot_list_index ⟨_,e,rfl⟩ F.entry_list_index (F.args_list_index_2 _ _) (SeqAt.list_indexAt l its.toArray n none #[] u (eqU y) j (by simpa using hj) sj ?_ (fun m hm hlt=>?_)) ⟨e,fun w hw=>mem_eqAt ru fy r fs w (by simpa using hw),?_⟩
 ·obtain ⟨z1,h1,h2⟩:=at_ j (by simpa using hj)
  rw [hz0] at h1
  cases h1
  rw [h2]
  exact e0
 ·obtain ⟨z1,h1,h2⟩:=at_ m hm
  rw [h2]
  exact hno m z1 hlt h1
 ·exact ⟨.int _,H,I.tok _,⟨_,rfl⟩,q⟩
end
end L2
namespace DL
open PySem PySem.Spec L2
open PyProof.Rows hiding St
def flatD:D -> Bool
 | .non=>true
 | .bl _=>true
 | .int _=>true
 | .str _=>true
 | _=>false
def toV:D -> V
 | .bl b=>.bl b
 | .int i=>.int i
 | .str s=>.str s
 | _=>.non
def eqF (x y:D):Bool:=eqV (toV x) (toV y)
section
variable {K:PySem.W.Frag} {pp:Option Addr} {M:List Addr} {H:Hp}
theorem flat_rep {d:D} {v:V} (f:flatD d = true) (r:Rep K pp M H d v):v = toV d /\ flatV v = true:=by
 cases d <;> first | exact absurd (show false = true from f) Bool.false_ne_true | skip
 all_goals
  simp only [Rep] at r
  subst r
  exact ⟨rfl,rfl⟩
theorem flats_rep:∀ {ds:List D} {xs:List V},ds.all flatD = true -> Reps K pp M H ds xs -> xs = ds.map toV /\ xs.all flatV = true
 | [],xs,_,r=>by
  simp only [Reps] at r
  subst r
  exact ⟨rfl,rfl⟩
 | d :: ds,xs,f,r=>by
  simp only [Reps] at r
  obtain ⟨x,r',rfl,hd,hr⟩:=r
  rw [List.all_cons,Bool.and_eq_true] at f
  obtain ⟨e1,e2⟩:=flat_rep f.1 hd
  obtain ⟨e3,e4⟩:=flats_rep f.2 hr
  subst e1 e3
  exact ⟨rfl,by rw [List.all_cons,e2,e4]; rfl⟩
end
variable [Frm]
section
variable {X:Cx}
structure M1D (X:Cx) (name:Str) (id:String) (g:D -> D -> (D -> Prop) -> Prop):Prop where
 mono:∀ x y P P',(∀ d,P d -> P' d) -> g x y P -> g x y P'
 slot:Slot "list" name id
 ty:typeOf (.builtin id) = pure (.type "method_descriptor")
 run:∃ r,MtR X id r /\ ∀ {pp:Option Addr} M H x y v u (Q:VK),Rep X.K pp M H x v -> Rep X.K pp M H y u -> g x y (fun d=>∀ w,Rep X.K pp M H d w -> Q w H) -> r v [u] H Q
def isLst:D -> Prop
 | .lst _=>True
 | _=>False
abbrev dM1 (g:D -> D -> (D -> Prop) -> Prop) (to te:DE):DE:=fun ρ Q=>to ρ fun x ρ1=>isLst x /\ te ρ1 fun y ρ2=>g x y fun d=>Q d ρ2
theorem de_m1 {name:Str} {id:String} {g:D -> D -> (D -> Prop) -> Prop} {o e:Expr} {to te:DE} {apos cpos:Pos} (hm:M1D X name id g) (ho:PED X o to) (he:PED X e te)
  (hbase:attributeBase o name X.env (eval o X.env) = eval o X.env:=by rfl)
  (hfew:((backTo cpos (starEach [e] X.env)).all (fun x=>!x.1) && (backToKw cpos (keywordEach [] X.env)).all (fun x=>x.1.isSome)
   && decide ([e].length + ([]:List Keyword).length + (if ([]:List Keyword).isEmpty then 0 else 1) < 30)) = true:=by rfl)
  (hline:(apos.endLine == cpos.line) = true:=by rfl) (hst:starEach [e] X.env = (false,eval e X.env) :: starEach [] X.env:=by rfl) (hpl:(backTo cpos (starEach [] X.env)).any (·.1) = false:=by rfl) :
  PED X (.Call (.Attribute o name apos) [e] [] cpos) (dM1 g to te):=by
 obtain ⟨r,mr,hr⟩:=hm.run
 obtain ⟨To,po,ro⟩:=ho.run
 obtain ⟨Te,pe,re⟩:=he.run
 refine ⟨fun _ _ _ f h=>ho.mono _ _ _ (fun _ _ h=>⟨h.1,he.mono _ _ _ (fun _ _ h=>hm.mono _ _ _ _ (fun _ h=>f _ _ h) h) h.2⟩) h,_,pe_bm PySem.F.plainAttrs_list hm.slot hm.ty mr po (pa_cons pe pa_nil hst) hbase hfew hline hst hpl,fun {F} M H σ ρ Q rs h=>?_⟩
 refine ro M H σ ρ _ rs (ho.mono _ _ _ (fun x ρ1 h M1 H1 v m1 rs1 r1=>?_) h)
 obtain ⟨hx,h⟩:=h
 have tv:tyV X.K "list" v H1:=by
  cases x <;> first | exact hx.elim | skip
  have r1':=r1
  simp only [Rep] at r1'
  obtain ⟨a,xs,rfl,_,_,ha,_⟩:=r1'
  exact .inl ⟨rfl,xs,SqL.of ha⟩
 refine ⟨tv,re M1 H1 σ ρ1 _ rs1 (he.mono _ _ _ (fun y ρ2 h M2 H2 u m2 rs2 r2=>?_) h)⟩
 exact hr M2 H2 x y v u _ (r1.mv m2) r2 (hm.mono _ _ _ _ (fun d q w rw=>q M2 H2 w (m1.trans m2) rs2 rw) h)
def gCnt1:D -> D -> (D -> Prop) -> Prop
 | .lst ds,y,P=>(flatD y = true /\ ds.all flatD = true) /\ P (.int ((ds.countP fun z=>eqF z y:Nat):Int))
 | _,_,_=>False
theorem m1_count:M1D X "count" "list.count" gCnt1:=by
 refine ⟨fun x y P P' f h=>?_,PySem.F.slot_list_count,PySem.F.type_list_count,_,mt_count,fun {pp} M H x y v u Q rx ry h=>?_⟩
 ·cases x <;> first | exact h.elim | exact ⟨h.1,f _ h.2⟩
 ·cases x <;> first | exact h.elim | skip
  rename_i ds
  simp only [Rep] at rx
  obtain ⟨a,xs,rfl,hm,hp,ha,r⟩:=rx
  obtain ⟨⟨f1,f2⟩,h⟩:=h
  obtain ⟨e1,e2⟩:=flat_rep f1 ry
  obtain ⟨e3,e4⟩:=flats_rep f2 r
  refine ⟨a,xs,u,rfl,rfl,ha,e2,e4,?_⟩
  subst e1 e3
  rw [List.countP_map]
  exact h _ rep_int
def gIdx1:D -> D -> (D -> Prop) -> Prop
 | .lst ds,y,P=>(flatD y = true /\ ds.all flatD = true) /\ ∃ j:Nat,((∃ z,ds[j]? = some z /\ eqF z y = true) /\ ∀ m z,m < j -> ds[m]? = some z -> eqF z y = false) /\ P (.int (j:Int))
 | _,_,_=>False
theorem m1_index:M1D X "index" "list.index" gIdx1:=by
 refine ⟨fun x y P P' f h=>?_,PySem.F.slot_list_index,PySem.F.type_list_index,_,mt_index,fun {pp} M H x y v u Q rx ry h=>?_⟩
 ·cases x <;> first | exact h.elim | skip
  obtain ⟨h1,j,h2,h3⟩:=h
  exact ⟨h1,j,h2,f _ h3⟩
 ·cases x <;> first | exact h.elim | skip
  rename_i ds
  simp only [Rep] at rx
  obtain ⟨a,xs,rfl,hm,hp,ha,r⟩:=rx
  obtain ⟨⟨f1,f2⟩,j,⟨⟨z,hz,ez⟩,hno⟩,h⟩:=h
  obtain ⟨e1,e2⟩:=flat_rep f1 ry
  obtain ⟨e3,e4⟩:=flats_rep f2 r
  refine ⟨a,xs,u,j,rfl,rfl,ha,e2,e4,⟨toV z,?_,?_⟩,fun m w hm hw=>?_,h _ rep_int⟩
  ·rw [e3,List.getElem?_map,hz]; rfl
  ·rw [e1]; exact ez
  ·rw [e3,List.getElem?_map] at hw
   cases q:ds[m]? with
   | none=>rw [q] at hw; cases hw
   | some d =>
    rw [q] at hw
    cases hw
    rw [e1]
    exact hno m d hm q
end
end DL
namespace DL
open PySem PySem.Spec L2
open PyProof.Rows hiding St
variable [Frm]
theorem dLoop_enum {g:DG} {b:DTS} {E:DEnds} {ds:List D} (N:Nat -> DS -> Prop) (hn:∀ ρ,N ds.length ρ -> E.nx ρ)
  (hs:∀ (i:Nat) (d:D) (ρ:DS) (X:DS -> Prop),ds[i]? = some d -> N i ρ -> (∀ ρ',N (i + 1) ρ' -> X ρ') -> g (.tup [.int i,d]) ρ fun ρ1=>b { E with nx:=X,ct:=X,bk:=E.nx } ρ1) (ρ:DS) (h:N 0 ρ):dLoop g b (enumD 0 ds) E ρ:=by
 have key:∀ (post:List D) (k:Nat),k <= ds.length -> ds.drop k = post -> ∀ ρ,N k ρ -> dLoop g b (enumD k post) E ρ:=by
  intro post
  induction post with
  | nil =>
   intro k hk e ρ h
   have h1:ds.length <= k:=List.drop_eq_nil_iff.mp e
   have z:k = ds.length:=Nat.le_antisymm hk h1
   subst z
   exact hn ρ h
  | cons d r ih =>
   intro k hk e ρ h
   have hd:ds[k]? = some d:=by
    have:=congrArg (fun l=>l[0]?) e
    simpa using this
   refine hs k d ρ _ hd h (ih (k + 1) (List.getElem?_eq_some_iff.mp hd).1 ?_)
   rw [← List.drop_drop,e]
   rfl
 exact key ds 0 (Nat.zero_le _) rfl ρ h
end DL
namespace L2
open PySem PySem.Spec PyProof.Rows
section
variable {prog:Program} {w:World} {A:Around} {E:Value -> Shared -> Prop} {s:Shared}
theorem getItem_tuple_all {t sl:Addr} {items:Array Value} {vl vu:Value} {lo hi:Option Int} {Q:Value -> Shared -> Prop} (ht:IsTup s.heap t items) (hs:s.heap.IsSliceOf sl vl vu .none) (pl:IsPart vl lo) (pu:IsPart vu hi)
  (hw:HT.sIx items.size 0 lo = 0 /\ HT.sIx items.size items.size hi = items.size) (h:Q (.ref t) s):wpAny (model prog w) A (getItem (.ref t) (.ref sl)) Q E s:=by
 obtain ⟨os,hos,hcs,hds⟩:=id hs
 have hTs:s.TypeIs (.ref sl) "slice":=⟨os,hos,hcs⟩
 unfold getItem
 try with_reducible refine wpAny_holding ?_
 first | refine wpAny_bind (wpAny_pure ?_) | skip
 refine wpAny_bind (wpAny_sequenceKey ht.typeIs (by decide) ?_)
 refine wpAny_bind (wpAny_callSpecial?_slot (name:=Str.ofString "__getitem__") ht.typeIs PyProof.Rows.slot_tuple_getitem
  (wpAny_call_entry PyProof.Rows.slot_tuple_getitem ht.typeIs PySem.F.entry_tuple_getitem ?_ (PySem.F.args_tuple_getitem_2 _ _)))
 show wpAny _ _ (Builtin.Tuple.tupleItemsOf (.ref t) >>= _) _ _ s
 refine wpAny_bind (tupleItemsOf_ ht ?_)
 refine wpAny_bind (wpAny_typeOf hTs ?_)
 rw [if_pos (by decide)]
 refine wpAny_bind (HT.sliceApplied_gen hs pl pu ?_)
 rw [hw.1,hw.2,Nat.sub_zero]
 have hyes:(((((0:Nat):Int)) == 0 && (1:Int) == 1 && items.size == items.size)) = true:=by simp
 show wpAny _ _ (if ((((0:Nat):Int)) == 0 && (1:Int) == 1 && items.size == items.size) = true then _ else _) _ _ s
 rw [if_pos hyes]
 unfold Builtin.Tuple.tupleIsExact
 refine wpAny_bind (wpAny_bind (wpAny_typeOf ht.typeIs (wpAny_pure ?_)))
 show wpAny _ _ (rule "tuple.getitem.whole" >>= fun _=>ret (Value.ref t)) _ _ s
 exact wpAny_bind (wpAny_rule (wpAny_pure ⟨_,rfl,wpAny_pure h⟩))
def rSlW (K:PySem.W.Frag):V -> Option Int -> Option Int -> Hp -> VK -> Prop:=fun x lo hi H Q=>∃ a xs,x = .ref a /\ SqT K H a xs /\ (HT.sIx xs.length 0 lo = 0 /\ HT.sIx xs.length xs.length hi = xs.length) /\ Q (.ref a) H
theorem sl_tupW {X:Cx}:SlR X (rSlW X.K):=by
 intro pins s σ H x v vl vu lo hi sl Q I rx hs pl pu h
 obtain ⟨a,xs,rfl,hx,hw,q⟩:=h
 cases rx
 obtain ⟨its,r,ht,hz⟩:=I.tuple hx
 have hlen:its.toArray.size = xs.length:=by rw [List.size_toArray]; exact r.length.symm
 refine ⟨"tuple",_,PyProof.Rows.slot_tuple_getitem.lookup,ht.typeIs,?_⟩
 exact getItem_tuple_all ht hs pl pu (by rw [hlen]; exact hw) ⟨.ref a,H,I,rfl,q⟩
end
end L2
namespace DL
open PySem PySem.Spec L2
open PyProof.Rows hiding St
section
variable [Frm]
variable {X:Cx} {F:Fx} {pp:Option Addr}
abbrev dRepL (ta tb:DE):DA:=fun ρ Q=>ta ρ fun x ρ1=>tb ρ1 fun y ρ2=>match x,y with
 | .lst xs,.int k=>((-(2 ^ 63) <= k /\ k < 2 ^ 63) /\ xs.length * k.toNat <= sizeLine) /\ Q (List.replicate k.toNat xs).flatten ρ2
 | _,_=>False
theorem Reps.reps {K:PySem.W.Frag} {M:List Addr} {H:Hp} {ds:List D} {xs:List V} (r:Reps K pp M H ds xs):∀ k:Nat,Reps K pp M H (List.replicate k ds).flatten (List.replicate k xs).flatten
 | 0=>by simp [Reps]
 | k + 1=>by
  rw [List.replicate_succ,List.replicate_succ,List.flatten_cons,List.flatten_cons]
  exact r.append (Reps.reps r k)
theorem dl_rep {a b:Expr} {ta tb:DE} {pos:Pos} (ha:PED X a ta) (hb:PED X b tb):PLD X (.BinOp a .Mult b pos) (dRepL ta tb):=by
 obtain ⟨Ta,pa,ra⟩:=ha.run
 obtain ⟨Tb,pb,rb⟩:=hb.run
 refine ⟨fun _ _ _ f h=>ha.mono _ _ _ (fun x _ h=>hb.mono _ _ _ (fun y _ h=>?_) h) h,_,pe_op op_rep pa pb,fun {F} M H σ ρ Q rs h=>?_⟩
 ·cases x <;> first | exact h.elim | skip
  cases y <;> first | exact h.elim | exact ⟨h.1,f _ _ h.2⟩
 refine ra M H σ ρ _ rs (ha.mono _ _ _ (fun x ρ1 h M1 H1 v m1 rs1 r1=>?_) h)
 refine rb M1 H1 σ ρ1 _ rs1 (hb.mono _ _ _ (fun y ρ2 h M2 H2 u m2 rs2 r2=>?_) h)
 have r1:=r1.mv m2
 cases x <;> first | exact h.elim | skip
 cases y <;> first | exact h.elim | skip
 simp only [Rep] at r1 r2
 obtain ⟨l,xs,rfl,_,_,hl,rx⟩:=r1
 subst r2
 exact ⟨l,_,xs,rfl,rfl,hl,h.1.1.1,h.1.1.2,by rw [← rx.length]; exact h.1.2,fun p hp=>h.2 M2 H2 _ p _ (m1.trans m2) rs2 hp rfl (Reps.reps rx _)⟩
def gSlA:D -> Option Int -> Option Int -> (D -> Prop) -> Prop
 | .tup xs,lo,hi,P=>P (.tup (cutD xs lo hi))
 | _,_,_,_=>False
abbrev dSlA (te:DE) (tl th:DO):DE:=fun ρ Q=>te ρ fun x ρ1=>tl ρ1 fun lo ρ2=>th ρ2 fun hi ρ3=>gSlA x lo hi fun d=>Q d ρ3
theorem de_slA {e:Expr} {lo hi:Option Expr} {te:DE} {tl th:DO} {pos p2:Pos} (he:PED X e te) (hl:POD X lo tl) (hh:POD X hi th):PED X (.Subscript e (.Slice lo hi none p2) pos) (dSlA te tl th):=by
 obtain ⟨T,p,r⟩:=he.run
 obtain ⟨Tl,pl,rl⟩:=hl.run
 obtain ⟨Th,ph,rh⟩:=hh.run
 have gm:∀ x lo hi P P',(∀ d,P d -> P' d) -> gSlA x lo hi P -> gSlA x lo hi P':=fun x lo hi P P' f h=>by
  cases x <;> first | exact h.elim | exact f _ h
 refine ⟨fun _ _ _ f h=>he.mono _ _ _ (fun _ _ h=>hl.mono _ _ _ (fun _ _ h=>hh.mono _ _ _ (fun _ _ h=>gm _ _ _ _ _ (fun _ h=>f _ _ h) h) h) h) h,_,pe_slice (SlR.or sl_tup sl_tupW) p pl ph,fun {F} M H σ ρ Q rs h=>?_⟩
 refine r M H σ ρ _ rs (he.mono _ _ _ (fun x ρ1 h M1 H1 v m1 rs1 r1=>?_) h)
 refine rl M1 H1 σ ρ1 _ rs1 (hl.mono _ _ _ (fun lo ρ2 h M2 H2 m2 rs2=>?_) h)
 refine rh M2 H2 σ ρ2 _ rs2 (hh.mono _ _ _ (fun hi ρ3 h M3 H3 m3 rs3=>?_) h)
 have r3:=(r1.mv m2).mv m3
 obtain ⟨ds,rfl⟩:∃ ds,x = .tup ds:=by cases x <;> first | exact h.elim | exact ⟨_,rfl⟩
 have r3':=r3
 simp only [Rep] at r3
 obtain ⟨a,xs,rfl,ha,rx⟩:=r3
 by_cases hw:HT.sIx ds.length 0 lo = 0 /\ HT.sIx ds.length ds.length hi = ds.length
 ·have e:cutD ds lo hi = ds:=by
   unfold cutD
   rw [hw.1,hw.2,List.drop_zero,Nat.sub_zero,List.take_length]
  exact .inr ⟨a,xs,rfl,SqT.of ha,by rw [← rx.length]; exact hw,h M3 _ _ ((m1.trans m2).trans m3) rs3 (by rw [e]; exact r3')⟩
 ·refine .inl ⟨a,xs,rfl,SqT.of ha,by rw [← rx.length]; exact hw,fun l hl=>h M3 _ _ (((m1.trans m2).trans m3).trans (.new hl)) (rs3.sameP (.new hl)) ?_⟩
  simp only [Rep]
  exact ⟨l,_,rfl,upd_same,(rx.cut lo hi).mv (.new hl)⟩
end
end DL
namespace L2
open PySem PySem.Spec PyProof.Rows
abbrev IsZipN (h:Heap) (z TI TO:Addr) (f0 f1:Value):Prop :=
 h.get? z = some { cls:=.type "zip",dict:=none,data:=.fields #[f0,f1,.bool false,.ref TI,.ref TO],slots:=#[] }
abbrev IsTupR (h:Heap) (T:Addr) (xs:Array Value):Prop:=h.get? T = some { cls:=.type "tuple",data:=.seq xs }
def OwnF (f:Value):Prop:=f = .none ∨ ∃ a:Int,f = .int a 0
abbrev itsL (n m:Nat):List Value:=(List.range m).map fun j=>Value.ref (n + j)
def KeptZ (n m:Nat) (h h':Heap):Prop:=∀ (b:Nat) o,b < n ∨ b = n + m ∨ n + m + 2 < b -> h.get? b = some o -> h'.get? b = some o
section
variable {prog:Program} {w:World} {A:Around} {E:Value -> Shared -> Prop} {s:Shared}
theorem wpAny_loadIfAlive {a:Addr} {Q:Option Obj -> Shared -> Prop} (h:Q (s.heap.get? a) s):wpAny (model prog w) A (loadIfAlive a) Q E s :=
 fun Γ p _=>by
  show Sem.wp _ Γ (.loadIfAlive a .pure) _ _ p s
  rw [Sem.wp_loadIfAlive]
  exact h
theorem own_free {z TI TO:Addr} {f0 f1:Value} {Q:Bool -> Shared -> Prop} (hf:OwnF f0) (hz:IsZipN s.heap z TI TO f0 f1) (q1:Q true s)
  (q2:∀ h' f1',IsZipN h' z TI TO f0 f1' -> Heap.SameBut z s.heap h' -> Q false { s with heap:=h' }) :
  wpAny (model prog w) A (Builtin.SmallTypes.ownedTupleIsFree (.ref z)) Q E s:=by
 unfold Builtin.SmallTypes.ownedTupleIsFree
 refine wpAny_bind (wpAny_field hz rfl (x:=f0) rfl ?_)
 rcases hf with rfl | ⟨a,rfl⟩
 ·exact wpAny_pure q1
 ·show wpAny _ _ (loadIfAlive a.toNat >>= _) _ _ _
  refine wpAny_bind (wpAny_loadIfAlive ?_)
  cases e:s.heap.get? a.toNat with
  | none=>exact wpAny_pure q1
  | some o =>
   show wpAny _ _ (field (.ref z) 1 >>= _) _ _ _
   refine wpAny_bind (wpAny_field hz rfl (x:=f1) rfl ?_)
   by_cases hb:(f1 != .bool true) = true
   ·rw [if_pos hb]
    refine wpAny_bind (wpAny_setField_rec hz (by simp) fun h' hz' hs=>wpAny_pure (q2 h' (.bool true) ?_ hs))
    exact hz'
   ·rw [if_neg hb]
    refine wpAny_bind (wpAny_pure ?_)
    exact wpAny_pure (q2 s.heap f1 hz (Heap.SameBut.refl ..))
end
end L2
namespace L2
open PySem PySem.Spec PyProof.Rows
theorem at_lt {α:Type} {l:List α} {j:Nat} {p:α} (h:l[j]? = some p):j < l.length:=(List.getElem?_eq_some_iff.mp h).1
section
variable {h0 h h':Heap} {n k c:Nat} {src:List (Addr × Array Value)}
end
section
variable {prog:Program} {w:World} {A:Around} {E:Value -> Shared -> Prop} {s:Shared}
theorem wpAny_updateSeq_tup {T:Addr} {ws:Array Value} {x:Value} {k:Nat} {Q:Unit -> Shared -> Prop} (hT:IsTupR s.heap T ws) (hz:ws.size <= sizeLine)
  (h:∀ h',IsTupR h' T (ws.setIfInBounds k x) -> Heap.SameBut T s.heap h' -> Q () { s with heap:=h' }) :
  wpAny (model prog w) A (updateSeq T (·.setIfInBounds k x)) Q E s:=by
 refine wpAny_updateSeq hT rfl (h _ ?_ (Heap.SameBut.update ..)) hz (by simp; omega)
 show Heap.get? _ _ = _
 rw [Heap.get?_update_self _ hT rfl]
 simp [Obj.mapSeq]
theorem drop_at {α:Type} {l:List α} {c:Nat} {x:α} {r:List α} (h:l.drop c = x :: r):l[c]? = some x /\ l.drop (c + 1) = r:=by
 have hc:c < l.length:=by
  rcases Nat.lt_or_ge c l.length with h' | h'
  ·exact h'
  ·rw [List.drop_eq_nil_of_le h'] at h; cases h
 rw [List.drop_eq_getElem_cons hc] at h
 cases h
 exact ⟨by simp,rfl⟩
theorem itsL_at {n m c:Nat} (h:c < m):(itsL n m)[c]? = some (.ref (n + c)):=by
 unfold itsL
 rw [List.getElem?_map,List.getElem?_range h]
 rfl
def Told (src:List (Addr × Array Value)) (k c:Nat) (vs:List Value):Prop:=vs.length = c /\ ∀ (j:Nat) (p:Addr × Array Value),j < c -> src[j]? = some p -> p.2[k]? = vs[j]?
theorem Told.push {src:List (Addr × Array Value)} {k c:Nat} {vs:List Value} {p:Addr × Array Value} {v:Value} (t:Told src k c vs) (hc:src[c]? = some p) (hv:p.2[k]? = some v):Told src k (c + 1) (vs ++ [v]):=by
 refine ⟨by simp [t.1],fun j q hj hq=>?_⟩
 by_cases z:j = c
 ·subst z
  rw [hc] at hq
  cases hq
  rw [hv,List.getElem?_append_right (by rw [t.1]; exact Nat.le_refl _),t.1]
  simp
 ·rw [t.2 j q (by omega) hq,List.getElem?_append_left (by rw [t.1]; omega)]
end
end L2
namespace PySem
namespace F
end F
end PySem
namespace L2
open PySem PySem.Spec PyProof.Rows
abbrev tuO (xs:List Value):Obj:={ cls:=.type "tuple",data:=.seq xs.toArray }
abbrev ziO (TI TO:Addr):Obj:={ cls:=.type "zip",data:=.fields #[.none,.bool false,.bool false,.ref TI,.ref TO] }
section
variable {prog:Program} {w:World} {A:Around} {E:Value -> Shared -> Prop} {s:Shared}
end
end L2
namespace L2
open PySem PySem.Spec PyProof.Rows
section
variable {X:Cx} {pins:List (Addr × Obj)} {σ:St} {H:Hp} {s:Shared} {h':Heap}
end
def RowAt (xss:List (List V)) (i:Nat) (r:List V):Prop:=r.length = xss.length /\ ∀ (j:Nat) xs,xss[j]? = some xs -> xs[i]? = r[j]?
def SrcV (xss:List (List V)) (src:List (Addr × Array Value)):Prop:=xss.length = src.length /\ ∀ (j:Nat) xs (p:Addr × Array Value),xss[j]? = some xs -> src[j]? = some p -> Vals xs p.2.toList
theorem Vals.got:∀ {xs:List V} {us:List Value} {i:Nat} {u:Value},Vals xs us -> us[i]? = some u -> ∃ x,xs[i]? = some x /\ RelV x u:=fun {xs us i u} r e=>by
 have hi:i < us.length:=at_lt e
 have hx:xs[i]? = some (xs[i]'(by rw [r.length]; exact hi)):=by simp
 obtain ⟨u',e',ru⟩:=r.get hx
 rw [e] at e'
 cases e'
 exact ⟨_,hx,ru⟩
theorem told_row' {i:Nat}:∀ {xss:List (List V)} {src:List (Addr × Array Value)} {vs:List Value},SrcV xss src -> vs.length = src.length -> (∀ (j:Nat) (p:Addr × Array Value),src[j]? = some p -> p.2[i]? = vs[j]?) -> ∃ r,RowAt xss i r /\ Vals r vs
 | [],src,vs,hv,hl,_=>by
  have h0:src = []:=List.length_eq_zero_iff.mp (by rw [← hv.1]; rfl)
  subst h0
  have h1:vs = []:=List.length_eq_zero_iff.mp (by rw [hl]; rfl)
  subst h1
  exact ⟨[],⟨rfl,fun j xs h=>by simp at h⟩,.nil⟩
 | xs :: xss,[],vs,hv,hl,_=>absurd hv.1 (by simp)
 | xs :: xss,p :: src,[],hv,hl,_=>absurd hl (by simp)
 | xs :: xss,p :: src,v :: vs,hv,hl,h=>by
  obtain ⟨r,hr,rv⟩:=told_row' (xss:=xss) (src:=src) (vs:=vs) (i:=i) ⟨by simpa using hv.1,fun j xs p h1 h2=>hv.2 (j + 1) xs p (by simpa using h1) (by simpa using h2)⟩ (by simpa using hl) fun j p hj=>by
   have:=h (j + 1) p (by simpa using hj)
   simpa using this
  have h0:=h 0 p rfl
  have h0:p.2[i]? = some v:=by simpa using h0
  obtain ⟨x,hx,rx⟩:=(hv.2 0 xs p rfl rfl).got (u:=v) (i:=i) (by rw [Array.getElem?_toList]; exact h0)
  refine ⟨x :: r,⟨by simp [hr.1],fun j ys hj=>?_⟩,.cons rx rv⟩
  cases j with
  | zero=>simp at hj; subst hj; simpa using hx
  | succ j=>simpa using hr.2 j ys (by simpa using hj)
theorem told_row {xss:List (List V)} {src:List (Addr × Array Value)} {i:Nat} {vs:List Value} (hv:SrcV xss src) (ht:Told src i src.length vs):∃ r,RowAt xss i r /\ Vals r vs :=
 told_row' hv ht.1 fun j p hj=>ht.2 j p (at_lt hj) hj
section
variable {X:Cx}
theorem keptZ_of {n m b:Nat} (h:b < n ∨ n + m + 2 < b):b < n ∨ b = n + m ∨ n + m + 2 < b:=h.imp_right .inr
end
end L2
namespace PySem
namespace F
end F
end PySem
namespace L2
open PySem PySem.Spec PyProof.Rows
section
variable {X:Cx}
end
end L2
namespace L2
open PySem PySem.Spec PyProof.Rows
section
variable {X:Cx}
theorem boot_list_ty:bootBuiltins "list" = some (.type "list"):=by decide +kernel
end
end L2
namespace DL
open PySem PySem.Spec PyProof.Rows L2
variable [Frm]
section
variable {X:Cx}
end
end DL
namespace L2
open PySem PySem.Spec PyProof.Rows
section
variable {X:Cx}
theorem range_any:∀ (bs:List Bool),(List.range bs.length).any (fun i=>bs.getD i false) = bs.any id:=by
 intro bs
 rw [Bool.eq_iff_iff]
 simp only [List.any_eq_true,List.mem_range]
 constructor
 ·rintro ⟨i,hi,h⟩
  rw [List.getD_eq_getElem?_getD,List.getElem?_eq_getElem hi] at h
  exact ⟨bs[i],List.getElem_mem hi,by simpa using h⟩
 ·rintro ⟨b,hb,h⟩
  obtain ⟨i,hi,e⟩:=List.mem_iff_getElem.mp hb
  refine ⟨i,hi,?_⟩
  rw [List.getD_eq_getElem?_getD,List.getElem?_eq_getElem hi]
  subst e
  simpa using h
theorem truth_bools {prog:Program} {w:World} {A:Around} {bs:List Bool} {its:List Value} (r:Vals (bs.map V.bl) its):TruthOf prog w A (fun i v=>its.toArray[i]? = some v) (fun i=>bs.getD i false):=by
 intro i v s Q E h q
 have h:its[i]? = some v:=by simpa using h
 have hi:i < bs.length:=by
  have:=r.length
  have:=at_lt h
  simp at *
  omega
 obtain ⟨u,hu,ru⟩:=r.get (i:=i) (x:=.bl bs[i]) (by simp [hi])
 rw [h] at hu
 cases hu
 cases ru
 have q:Q (bs.getD i false) s:=q
 rw [List.getD_eq_getElem?_getD,List.getElem?_eq_getElem hi] at q
 exact wpAny_truthy_bool q
theorem call_any (hc:X.calm = true):CallR X (.builtin "any") (fun xs H Q=>∃ (p:Addr) (bs:List Bool),xs = [.ref p] /\ SqL X.K H p (bs.map V.bl) /\ Q (.bl (bs.any id)) H):=by
 intro pins s σ H xs us Q I r h
 obtain ⟨p,bs,rfl,hl,q⟩:=h
 obtain ⟨u,rfl,e⟩:=vals1 r
 cases e
 obtain ⟨its,rv,pl,_⟩:=I.list hl
 have hlen:its.toArray.size = bs.length:=by have:=rv.length; simpa using this.symm
 have hne:p ≠ s.heap.objs.size:=by
  obtain ⟨o,ho,_⟩:=pl.isList
  exact Nat.ne_of_lt (Heap.lt_size ho)
 refine call_any_walk (wpAny_pyIter_list pl.isList ⟨s.heap.objs.size,_,_,_,_,_,_,rfl,Walks.list (A:=X.A.in1) (I.ok.hd hc) s.heap.objs.size p hne its.toArray,⟨⟨_,Heap.get?_push_size _ rfl,rfl,rfl⟩,pl.isList.push _⟩,truth_bools rv,fun h' tk hk=>⟨.bl (bs.any id),H,I.kept fun b o e=>hk b o ?_ (Heap.get?_push_of_some _ e),?_,q⟩⟩)
 ·intro hb
  have:b = s.heap.objs.size:=by simpa using hb
  exact absurd (Heap.lt_size e) (by rw [this]; exact Nat.lt_irrefl _)
 ·show Value.bool _ = Value.bool _
  rw [hlen,range_any]
end
end L2
namespace DL
open PySem PySem.Spec L2
open PyProof.Rows hiding St
variable [Frm]
section
variable {X:Cx}
def blsOf:List D -> Option (List Bool)
 | []=>some []
 | .bl b :: r=>(blsOf r).map (b :: ·)
 | _=>none
theorem blsOf_map:∀ bs:List Bool,blsOf (bs.map D.bl) = some bs
 | []=>rfl
 | n :: r=>by simp [blsOf,blsOf_map r]
theorem blsOf_eq:∀ {ds:List D} {bs:List Bool},blsOf ds = some bs -> ds = bs.map D.bl
 | [],ns,h=>by cases h; rfl
 | .bl i :: r,ns,h=>by
  simp only [blsOf,Option.map_eq_some_iff] at h
  obtain ⟨ms,h,rfl⟩:=h
  rw [blsOf_eq h]; rfl
theorem reps_bls {K:PySem.W.Frag} {pp:Option Addr} {M:List Addr} {H:Hp}:∀ {ns:List Bool} {xs:List V},Reps K pp M H (ns.map D.bl) xs -> xs = ns.map V.bl
 | [],xs,h=>by simpa only [List.map_nil,Reps] using h
 | n :: r,xs,h=>by
  simp only [List.map_cons,Reps,Rep] at h
  obtain ⟨x,t,rfl,rfl,h⟩:=h
  rw [reps_bls h]; rfl
def gTru (f:List Bool -> Bool):DSp:=fun ds P=>match ds with
 | [.lst xs]=>match blsOf xs with
  | some bs=>P (.bl (f bs))
  | none=>False
 | _=>False
theorem gTru_of {f:List Bool -> Bool} {bs:List Bool} {P:D -> Prop} (h:P (.bl (f bs))):gTru f [.lst (bs.map D.bl)] P:=by
 unfold gTru
 simp only [blsOf_map]
 exact h
theorem gTru_inv {f:List Bool -> Bool} {ds:List D} {P:D -> Prop} (h:gTru f ds P):∃ bs:List Bool,ds = [.lst (bs.map D.bl)] /\ P (.bl (f bs)):=by
 unfold gTru at h
 split at h
 ·rename_i xs
  cases e:blsOf xs with
  | none=>rw [e] at h; exact h.elim
  | some ns =>
   rw [e] at h
   exact ⟨ns,by rw [blsOf_eq e],h⟩
 ·exact h.elim
theorem cd_any (hc:X.calm = true:=by rfl):CallD X (.builtin "any") (gTru fun bs=>bs.any id):=by
 refine ⟨fun ds P P' f h=>?_,_,call_any hc,fun {pp} M H ds vs Q _ r h=>?_⟩
 ·obtain ⟨ns,rfl,h2⟩:=gTru_inv h
  exact gTru_of (f _ h2)
 ·obtain ⟨ns,rfl,h2⟩:=gTru_inv h
  simp only [Reps,Rep] at r
  obtain ⟨x,_,rfl,⟨a,ys,rfl,_,_,ha,ry⟩,rfl⟩:=r
  refine ⟨a,ns,rfl,SqL.of (by rw [ha,reps_bls ry]),h2 H _ .refl rep_bl⟩
end
end DL
namespace L2
open PySem PySem.Spec PyProof.Rows
section
variable {prog:Program} {w:World} {A:Around} {E:Value -> Shared -> Prop} {s:Shared}
theorem go_zipN {elts:List Expr} {x1} {pos:Pos} {z TI TO T:Addr} {f0 f1:Value} {Q:Unit -> Shared -> Prop} (hf:OwnF f0) (hz:IsZipN s.heap z TI TO f0 f1)
  (hQ:∀ h' f0',OwnF f0' -> IsZipN h' z TI TO f0' f1 -> Heap.SameBut z s.heap h' -> Q () { s with heap:=h' }) :
  wpAny (model prog w) A (letOwnedTupleGo (.Tuple elts x1 pos) (.ref z) (.ref T)) Q E s:=by
 unfold letOwnedTupleGo
 refine wpAny_bind (wpAny_load hz ?_)
 show wpAny _ _ (if (["enumerate","zip","dict_itemiterator","dict_reverseitemiterator","odict_iterator","itertools.zip_longest","itertools.pairwise"].contains "zip" &&
   (#[f0,f1,.bool false,.ref TI,.ref TO]:Array Value)[0]? == some (rawInt T)) = true then _ else _) Q E s
 split
 ·refine wpAny_bind (wpAny_rule ?_)
  show wpAny _ _ (setField (.ref z) 0 .none) Q E s
  exact wpAny_setField_rec hz (by simp) fun h' hz' hs'=>hQ h' .none (.inl rfl) hz' hs'
 ·exact wpAny_pure (hQ s.heap f0 hf hz (Heap.SameBut.refl _ _))
end
def fpZ (n m:Nat):List Addr:=(List.range (m + 3)).map (n + ·)
theorem fpZ_mem {n m b:Nat}:b ∈ fpZ n m ↔ n <= b /\ b < n + m + 3:=by
 unfold fpZ
 simp only [List.mem_map,List.mem_range]
 constructor
 ·rintro ⟨a,h1,h2⟩
  omega
 ·rintro ⟨h1,h2⟩
  exact ⟨b - n,by omega,by omega⟩
theorem fpZ_cases {n m c:Nat} (h:c ∈ fpZ n m):c = n + m + 2 ∨ c = n + m ∨ c = n + m + 1 ∨ (c - n < m /\ n + (c - n) = c):=by
 have:=fpZ_mem.mp h
 omega
theorem fpZ_not {n m b:Nat} (h:b ∉ fpZ n m):b < n ∨ n + m + 2 < b:=by
 have:¬ (n <= b /\ b < n + m + 3):=fun z=>h (fpZ_mem.mpr z)
 omega
theorem fpZ_ne {n m b:Nat} (h:b ∉ fpZ n m):b ≠ n + m + 2:=by
 have:=fpZ_not h
 omega
section
variable {X:Cx}
end
end L2
namespace DL
open PySem PySem.Spec PyProof.Rows L2
variable [Frm]
section
variable {X:Cx}
end
end DL
namespace DL
open PySem PySem.Spec L2
open PyProof.Rows hiding St
variable [Frm]
mutual
def flD:D -> Prop
 | .non=>True
 | .bl _=>True
 | .int _=>True
 | .str _=>True
 | .ty _=>True
 | .cls _=>True
 | .tup ds=>flDs ds
 | _=>False
def flDs:List D -> Prop
 | []=>True
 | d :: r=>flD d /\ flDs r
end
omit [Frm] in
mutual
theorem Rep.flat {K:PySem.W.Frag} {pp:Option Addr} {M M':List Addr} {H:Hp}:∀ (d:D) (v:V),flD d -> Rep K pp M H d v -> Rep K pp M' H d v
 | .non,_,_,h=>by simp only [Rep] at h ⊢; exact h
 | .bl _,_,_,h=>by simp only [Rep] at h ⊢; exact h
 | .int _,_,_,h=>by simp only [Rep] at h ⊢; exact h
 | .str _,_,_,h=>by simp only [Rep] at h ⊢; exact h
 | .ty _,_,_,h=>by simp only [Rep] at h ⊢; exact h
 | .cls _,_,_,h=>by simp only [Rep] at h ⊢; exact h
 | .tup ds,_,f,h=>by
  simp only [Rep] at h ⊢
  simp only [flD] at f
  obtain ⟨a,xs,e,ha,r⟩:=h
  exact ⟨a,xs,e,ha,Reps.flat ds xs f r⟩
 | .lst _,_,f,_=>by simp only [flD] at f
 | .dK _ _,_,f,_=>by simp only [flD] at f
 | .dT _ _,_,f,_=>by simp only [flD] at f
 | .pen,_,f,_=>by simp only [flD] at f
 | .exc _,_,f,_=>by simp only [flD] at f
 | .exa _ _,_,f,_=>by simp only [flD] at f
theorem Reps.flat {K:PySem.W.Frag} {pp:Option Addr} {M M':List Addr} {H:Hp}:∀ (ds:List D) (xs:List V),flDs ds -> Reps K pp M H ds xs -> Reps K pp M' H ds xs
 | [],xs,_,h=>by simp only [Reps] at h ⊢; exact h
 | d :: ds,xs,f,h=>by
  simp only [Reps] at h ⊢
  simp only [flDs] at f
  obtain ⟨x,r,e,h1,h2⟩:=h
  exact ⟨x,r,e,Rep.flat d x f.1 h1,Reps.flat ds r f.2 h2⟩
end
def pinS (v:V):Sl -> Sl
 | .nil=>.nil
 | .val d=>.pin v d
 | .own ds=>.pin v (.lst ds)
 | .obj q=>.pin v (fzO q)
 | .pin w d=>.pin w d
def pinL (vs:Nat -> V):Nat -> DS -> DS
 | _,[]=>[]
 | n,s :: r=>pinS (vs n) s :: pinL vs (n + 1) r
inductive Unp (vs:Nat -> V):Nat -> DS -> DS -> DS -> Prop
 | nil {n}:Unp vs n [] [] []
 | keep {n s r r' r2}:Unp vs (n + 1) r r' r2 -> Unp vs n (s :: r) (pinS (vs n) s :: r') (s :: r2)
 | drop {n s s' r r' r2}:Unp vs (n + 1) r r' r2 -> Unp vs n (s :: r) (s' :: r') (.nil :: r2)
 | flat {n s d r r' r2}:flD d -> Unp vs (n + 1) r r' r2 -> Unp vs n (s :: r) (.val d :: r') (.val d :: r2)
omit [Frm] in
theorem pinL_get (vs:Nat -> V):∀ (ρ:DS) (n i:Nat),(pinL vs n ρ)[i]? = (ρ[i]?).map (pinS (vs (n + i)))
 | [],_,_=>by simp [pinL]
 | s :: r,n,0=>by simp [pinL]
 | s :: r,n,i + 1=>by
  simp only [pinL,List.getElem?_cons_succ]
  rw [pinL_get vs r (n + 1) i,show n + 1 + i = n + (i + 1) by omega]
omit [Frm] in
theorem pinL_len (vs:Nat -> V):∀ (ρ:DS) (n:Nat),(pinL vs n ρ).length = ρ.length
 | [],_=>rfl
 | s :: r,n=>by simp [pinL,pinL_len vs r (n + 1)]
omit [Frm] in
theorem Unp.self (vs:Nat -> V):∀ (ρ:DS) (n:Nat),Unp vs n ρ (pinL vs n ρ) ρ
 | [],_=>.nil
 | _ :: r,n=>.keep (Unp.self vs r (n + 1))
omit [Frm] in
theorem Unp.len {vs:Nat -> V} {n:Nat} {a b c:DS} (h:Unp vs n a b c):b.length = c.length /\ c.length = a.length:=by
 induction h with
 | nil=>exact ⟨rfl,rfl⟩
 | keep _ ih=>simp [ih.1,ih.2]
 | drop _ ih=>simp [ih.1,ih.2]
 | flat _ _ ih=>simp [ih.1,ih.2]
omit [Frm] in
theorem Unp.get {vs:Nat -> V} {n:Nat} {a b c:DS} (h:Unp vs n a b c):∀ (i:Nat) (s:Sl),c[i]? = some s -> s = .nil ∨ (a[i]? = some s /\ b[i]? = some (pinS (vs (n + i)) s)) ∨ ∃ d,s = .val d /\ flD d /\ b[i]? = some (.val d):=by
 induction h with
 | nil=>intro i s e; simp at e
 | @keep n s0 r r' r2 _ ih =>
  intro i s e
  cases i with
  | zero=>simp at e; subst e; exact .inr (.inl ⟨by simp,by simp⟩)
  | succ i =>
   have:=ih i s (by simpa using e)
   rw [show n + 1 + i = n + (i + 1) by omega] at this
   simpa using this
 | @drop n s0 s' r r' r2 _ ih =>
  intro i s e
  cases i with
  | zero=>simp at e; exact .inl e.symm
  | succ i =>
   have:=ih i s (by simpa using e)
   rw [show n + 1 + i = n + (i + 1) by omega] at this
   simpa using this
 | @flat n s0 d r r' r2 f _ ih =>
  intro i s e
  cases i with
  | zero=>simp at e; exact .inr (.inr ⟨d,e.symm,f,by simp⟩)
  | succ i =>
   have:=ih i s (by simpa using e)
   rw [show n + 1 + i = n + (i + 1) by omega] at this
   simpa using this
section
variable {K:PySem.W.Frag} {F:Fx} {M:List Addr} {H:Hp} {σ:St} {ρ:DS}
theorem RSt.look (r:RSt K F M H σ ρ) (vs:Nat -> V) (hv:∀ (i:Nat) v,σ[i]? = some (some v) -> vs i = v) :
  ∃ M0,Mv K F.pp M H M0 H /\ RSt K F M0 H σ (pinL vs 0 ρ) /\ (∀ M' H' σ' ρ' ρ2,Mv K F.pp M0 H M' H' -> RSt K F M' H' σ' ρ' -> Unp vs 0 ρ ρ' ρ2 -> ∃ M2,Mv K F.pp M H M2 H' /\ RSt K F M2 H' σ' ρ2) /\
   ∃ As:Nat -> List Addr,(∀ (i:Nat) s o,ρ[i]? = some s -> σ[i]? = some o -> Ow K F M H s o (As i)) /\ ∀ M' H',Mv K F.pp M0 H M' H' -> ∀ i,i < ρ.length -> ∀ a ∈ As i,∀ x,H a = some x -> H' a = some x:=by
 obtain ⟨As,k1,k2,k3⟩:=r.ow
 obtain ⟨A,hA⟩:∃ A:List Addr,∀ a,a ∈ A ↔ ∃ i,i < ρ.length /\ a ∈ As i:=⟨(List.range ρ.length).flatMap As,fun a=>by simp⟩
 have inA:∀ (i:Nat) s,ρ[i]? = some s -> ∀ a ∈ As i,a ∈ A:=fun i s e a ha=>(hA a).mpr ⟨i,(List.getElem?_eq_some_iff.mp e).1,ha⟩
 have ofA:∀ a ∈ A,a ∈ M /\ F.H0 a = none /\ F.pp ≠ some a:=fun a ha=>by
  obtain ⟨i,_,h⟩:=(hA a).mp ha
  exact k2 i a h
 have m0:Mv K F.pp M H (M.filter fun a=>decide (a ∉ A)) H:=.less fun a ha=>(List.mem_filter.mp ha).1
 have n0:∀ a ∈ A,a ∉ M.filter fun a=>decide (a ∉ A):=fun a ha z=>absurd ha (by simpa using (List.mem_filter.mp z).2)
 have z0:∀ i:Nat,vs (0 + i) = vs i:=fun i=>by rw [Nat.zero_add]
 refine ⟨_,m0,⟨by rw [pinL_len,r.len],fun i s o h1 h2=>?_,OwF.none (fun i s h1=>?_),fun a ha=>?_,r.same,r.old,⟨fun a ha=>r.liv.m a (List.mem_filter.mp ha).1,r.liv.p⟩,Frm.cl _ _ _ _ _ _ r.lk m0⟩,?_,As,k1,fun M' H' m i hi a ha x e=>(m.oth a x e (n0 a ((hA a).mpr ⟨i,hi,ha⟩)) (k2 i a ha).2.2).1⟩
 ·rw [pinL_get] at h1
  obtain ⟨s0,e0,rfl⟩:=Option.map_eq_some_iff.mp h1
  rw [z0]
  have q:=r.sl i s0 o e0 h2
  cases s0 with
  | nil=>trivial
  | val d=>obtain ⟨v,rfl,q⟩:=q; exact ⟨v,rfl,(hv i v h2).symm,q.mv m0⟩
  | pin w d=>obtain ⟨v,e,ew,q⟩:=q; exact ⟨v,e,ew,q.mv m0⟩
  | own ds =>
   obtain ⟨l,xs,rfl,hm,h0,hp,hl,hr⟩:=q
   have hlA:l ∈ A:=by
    obtain ⟨l2,e2,e3⟩:=k1 i _ _ e0 h2
    cases e2
    exact inA i _ e0 l (by rw [e3]; simp)
   refine ⟨.ref l,rfl,(hv i _ h2).symm,?_⟩
   simp only [Rep]
   exact ⟨l,xs,rfl,n0 l hlA,hp,hl,hr.mv m0⟩
  | obj b =>
   obtain ⟨nd,v,rfl,hq⟩:=k1 i _ _ e0 h2
   exact ⟨v,rfl,(hv i v h2).symm,RO.fz m0 b v (As i) (fun a ha=>⟨n0 a (inA i _ e0 a ha),(k2 i a ha).2.2⟩) hq⟩
 ·rw [pinL_get] at h1
  obtain ⟨s0,e0,rfl⟩:=Option.map_eq_some_iff.mp h1
  cases s0 <;> exact ⟨fun ds z=>(by cases z),fun q z=>(by cases z)⟩
 ·refine List.mem_filter.mpr ⟨r.sub a ha,?_⟩
  have:a ∉ A:=fun z=>r.old a ha (ofA a z).2.1
  simpa using this
 ·intro M' H' σ' ρ' ρ2 m r' u
  have mm:=m0.trans m
  have m2:Mv K F.pp M H (A ++ M') H':=by
   refine ⟨mm.tup,fun a o e n p=>?_,mm.pen⟩
   obtain ⟨q1,q2⟩:=mm.oth a o e n p
   refine ⟨q1,fun z=>?_⟩
   rcases List.mem_append.mp z with z | z
   ·exact n (ofA a z).1
   ·exact q2 z
  have kp:∀ a ∈ A,∀ x,H a = some x -> H' a = some x:=fun a ha x e=>(m.oth a x e (n0 a ha) (ofA a ha).2.2).1
  obtain ⟨ul,ul2⟩:=u.len
  have key:∀ (i:Nat) s o,ρ[i]? = some s -> ρ'[i]? = some (pinS (vs (0 + i)) s) -> s ≠ .nil -> σ'[i]? = some o -> σ[i]? = some o:=fun i s o e1 e2 hn h2=>by
   obtain ⟨o0,ho0,q0⟩:=r.at e1
   have q1:=r'.sl i _ _ e2 h2
   rw [z0] at q1
   rw [ho0]
   cases s with
   | nil=>exact absurd rfl hn
   | val d =>
    obtain ⟨v,rfl,q⟩:=q0
    obtain ⟨v',rfl,e,_⟩:=q1
    rw [e,hv i v ho0]
   | pin w d =>
    obtain ⟨v,rfl,e',q⟩:=q0
    obtain ⟨v',rfl,e,_⟩:=q1
    rw [e,e']
   | own ds =>
    obtain ⟨l,xs,rfl,hm,h0,hp,hl,hr⟩:=q0
    obtain ⟨v',rfl,e,_⟩:=q1
    rw [e,hv i _ ho0]
   | obj q =>
    obtain ⟨v,rfl⟩:=q0
    obtain ⟨v',rfl,e,_⟩:=q1
    rw [e,hv i v ho0]
  refine ⟨A ++ M',m2,⟨by rw [r'.len,ul],fun i s o h1 h2=>?_,⟨fun i=>if i < ρ.length then As i else [],fun i s o h1 h2=>?_,fun i a ha=>?_,fun i j e a ha hb=>?_⟩,fun a ha=>List.mem_append.mpr (.inr (r'.sub a ha)),r'.same,r.old,⟨fun a ha=>?_,r'.liv.p⟩,Frm.cl _ _ _ _ _ _ r.lk m2⟩⟩
  ·rcases u.get i s h1 with rfl | ⟨e1,e2⟩ | ⟨d,rfl,f,e2⟩
   ·trivial
   ·by_cases hn:s = .nil
    ·subst hn; trivial
    have h3:=key i s o e1 e2 hn h2
    have q0:=r.sl i s o e1 h3
    cases s with
    | nil=>trivial
    | val d=>obtain ⟨v,e,q⟩:=q0; exact ⟨v,e,q.mv m2⟩
    | pin w d=>obtain ⟨v,e,ew,q⟩:=q0; exact ⟨v,e,ew,q.mv m2⟩
    | own ds =>
     obtain ⟨l,xs,rfl,hm,h0,hp,hl,hr⟩:=q0
     have hlA:l ∈ A:=by
      obtain ⟨l2,e2,e3⟩:=k1 i _ _ e1 h3
      cases e2
      exact inA i _ e1 l (by rw [e3]; simp)
     exact ⟨l,xs,rfl,List.mem_append.mpr (.inl hlA),h0,hp,kp l hlA _ hl,hr.mv m2⟩
    | obj q=>exact q0
   ·obtain ⟨v,e,q⟩:=r'.sl i _ _ e2 h2
    exact ⟨v,e,q.flat _ _ f⟩
  ·show Ow K F _ H' s o (if i < ρ.length then As i else [])
   rcases u.get i s h1 with rfl | ⟨e1,e2⟩ | ⟨d,rfl,f,e2⟩
   ·trivial
   ·by_cases hn:s = .nil
    ·subst hn; trivial
    have h3:=key i s o e1 e2 hn h2
    rw [if_pos (List.getElem?_eq_some_iff.mp e1).1]
    exact (k1 i s o e1 h3).mv m2 fun a ha=>kp a (inA i s e1 a ha)
   ·trivial
  ·replace ha:a ∈ (if i < ρ.length then As i else []):=ha
   by_cases e:i < ρ.length
   ·rw [if_pos e] at ha
    exact ⟨List.mem_append.mpr (.inl ((hA a).mpr ⟨i,e,ha⟩)),(k2 i a ha).2⟩
   ·rw [if_neg e] at ha; simp at ha
  ·replace ha:a ∈ (if i < ρ.length then As i else []):=ha
   replace hb:a ∈ (if j < ρ.length then As j else []):=hb
   by_cases e1:i < ρ.length
   ·by_cases e2:j < ρ.length
    ·rw [if_pos e1] at ha
     rw [if_pos e2] at hb
     exact k3 i j e a ha hb
    ·rw [if_neg e2] at hb; simp at hb
   ·rw [if_neg e1] at ha; simp at ha
  ·rcases List.mem_append.mp ha with ha | ha
   ·intro z
    have:=r.liv.m a (ofA a ha).1
    cases e:H a with
    | none=>exact this e
    | some x=>rw [kp a ha x e] at z; cases z
   ·exact r'.liv.m a ha
end
section
variable {X:Cx} {e:Expr} {st:Stmt}
omit [Frm] in
theorem st_at (σ:St) (i:Nat) (v:V) (h:σ[i]? = some (some v)):(fun i=>((σ[i]?).getD none).getD V.non) i = v:=by simp [h]
abbrev dLookT (t:DT):DT:=fun ρ Q=>∀ vs:Nat -> V,t (pinL vs 0 ρ) fun b ρ'=>ρ' = pinL vs 0 ρ /\ Q b ρ
theorem dt_look {t:DT} (h:PTD X e t):PTD X e (dLookT t):=by
 obtain ⟨T,p,r⟩:=h.run
 refine ⟨fun ρ P P' f q vs=>h.mono _ _ _ (fun b ρ' q=>⟨q.1,f _ _ q.2⟩) (q vs),T,p,fun {F} M H σ ρ Q rs q=>?_⟩
 obtain ⟨M0,m0,rs0,th,_⟩:=rs.look _ (st_at σ)
 refine r M0 H σ _ Q rs0 (h.mono _ _ _ (fun b ρ' q M' H' m rs'=>?_) (q _))
 obtain ⟨rfl,q⟩:=q
 obtain ⟨M2,m2,rs2⟩:=th M' H' σ _ ρ m rs' (Unp.self _ ρ 0)
 exact q M2 H' m2 rs2
abbrev dLook (t:DE):DE:=fun ρ Q=>∀ vs:Nat -> V,t (pinL vs 0 ρ) fun d ρ'=>(flD d /\ ρ' = pinL vs 0 ρ) /\ Q d ρ
theorem de_look {t:DE} (h:PED X e t):PED X e (dLook t):=by
 obtain ⟨T,p,r⟩:=h.run
 refine ⟨fun ρ P P' f q vs=>h.mono _ _ _ (fun b ρ' q=>⟨q.1,f _ _ q.2⟩) (q vs),T,p,fun {F} M H σ ρ Q rs q=>?_⟩
 obtain ⟨M0,m0,rs0,th,_⟩:=rs.look _ (st_at σ)
 refine r M0 H σ _ Q rs0 (h.mono _ _ _ (fun d ρ' q M' H' v m rs' rd=>?_) (q _))
 obtain ⟨⟨f,rfl⟩,q⟩:=q
 obtain ⟨M2,m2,rs2⟩:=th M' H' σ _ ρ m rs' (Unp.self _ ρ 0)
 exact q M2 H' v m2 rs2 (rd.flat _ _ f)
end
section
variable {K:PySem.W.Frag} {pp:Option Addr} {M:List Addr} {H:Hp}
omit [Frm] in
mutual
theorem RO.live:∀ (q:O) (v:V) (A:List Addr),RO K pp M H q v A -> ∀ a ∈ A,H a ≠ none
 | .val d,v,A,h,a,ha=>by simp only [RO] at h; rw [h.1] at ha; simp at ha
 | .lst os,v,A,h,a,ha=>by
  simp only [RO] at h
  obtain ⟨b,xs,B,e,hb,rfl,r⟩:=h
  rcases List.mem_cons.mp ha with rfl | ha
  ·rw [hb]; intro z; cases z
  ·exact ROs.live os xs B r a ha
 | .dct ks os,v,A,h,a,ha=>by
  simp only [RO] at h
  obtain ⟨b,kvs,B,e,hb,e2,rfl,r⟩:=h
  rcases List.mem_cons.mp ha with rfl | ha
  ·rw [hb]; intro z; cases z
  ·exact ROs.live os _ B r a ha
 | .tup os,v,A,h,a,ha=>by
  simp only [RO] at h
  obtain ⟨b,xs,e,hb,r⟩:=h
  exact ROs.live os xs A r a ha
theorem ROs.live:∀ (os:List O) (xs:List V) (A:List Addr),ROs K pp M H os xs A -> ∀ a ∈ A,H a ≠ none
 | [],xs,A,h,a,ha=>by simp only [ROs] at h; rw [h.2] at ha; simp at ha
 | o :: os,xs,A,h,a,ha=>by
  simp only [ROs] at h
  obtain ⟨x,r,B,C,e,rfl,h1,h2⟩:=h
  rcases List.mem_append.mp ha with ha | ha
  ·exact RO.live o x B h1 a ha
  ·exact ROs.live os r C h2 a ha
end
omit [Frm] in
theorem ROs.vals:∀ {ds:List D} {xs:List V},Reps K pp M H ds xs -> ROs K pp M H (ds.map O.val) xs []
 | [],xs,h=>by simp only [Reps] at h; simp only [List.map_nil,ROs]; exact ⟨h,trivial⟩
 | d :: ds,xs,h=>by
  simp only [Reps] at h
  obtain ⟨x,r,rfl,h1,h2⟩:=h
  simp only [List.map_cons,ROs,RO]
  exact ⟨x,r,[],[],rfl,rfl,⟨rfl,h1⟩,ROs.vals h2⟩
end
section
variable {K:PySem.W.Frag} {F:Fx} {M:List Addr} {H:Hp} {σ:St} {ρ:DS} {i:Nat} {q q':O} {l:Addr} {xs ys:List V}
theorem RSt.newObj {M1:List Addr} {H1 H':Hp} {A:List Addr} {v:V} (r:RSt K F M1 H1 σ ρ) (s:SameP K F.pp H1 H') (hn:A.Nodup) (hA:∀ a ∈ A,H1 a = none /\ F.pp ≠ some a) (ro:RO K F.pp (A ++ M1) H' q v A) (i:Nat) :
  Mv K F.pp M1 H1 (A ++ M1) H' /\ RSt K F (A ++ M1) H' (σ.set i (some v)) (ρ.set i (.obj q)):=by
 have m1:Mv K F.pp M1 H1 M1 H':=s.mv
 have m:Mv K F.pp M1 H1 (A ++ M1) H':=by
  refine ⟨m1.tup,fun a o e n p=>⟨(m1.oth a o e n p).1,fun z=>?_⟩,m1.pen⟩
  rcases List.mem_append.mp z with z | z
  ·rw [(hA a z).1] at e; cases e
  ·exact n z
 have f0:∀ a ∈ A,F.H0 a = none:=fun a ha=>by
  cases e:F.H0 a with
  | none=>rfl
  | some o=>exact absurd (hA a ha).1 (r.same.live a (by rw [e]; intro z; cases z))
 refine ⟨m,⟨by simp [r.len],fun j t o h1 h2=>?_,r.ow.step m i (fun j e=>List.getElem?_set_ne (Ne.symm e)) (fun j e=>List.getElem?_set_ne (Ne.symm e)) (fun A0 _ _=>⟨A,fun t o e1 e2=>?_,fun b hb=>⟨List.mem_append.mpr (.inl hb),f0 b hb,(hA b hb).2,.inr fun z=>r.liv.m b z (hA b hb).1⟩,fun a ha p0 z0 _=>⟨List.mem_append.mpr (.inr ha),(s.ow (M:=M1) a ha p0 z0).2⟩⟩),fun a ha=>List.mem_append.mpr (.inr (r.sub a ha)),r.same.trans s,r.old,⟨fun a ha=>?_,fun p e=>s.live p (r.liv.p p e)⟩,Frm.cl _ _ _ _ _ _ r.lk m⟩⟩
 ·by_cases e:i = j
  ·subst e
   rw [set_self h1,set_self h2]
   exact ⟨v,rfl⟩
  ·rw [List.getElem?_set_ne e] at h1 h2
   have q':=r.sl j t o h1 h2
   cases t with
   | nil=>trivial
   | val d=>obtain ⟨v,e,q⟩:=q'; exact ⟨v,e,q.mv m⟩
   | pin w d=>obtain ⟨v,e,ew,q⟩:=q'; exact ⟨v,e,ew,q.mv m⟩
   | own es =>
    obtain ⟨l',zs,rfl,hm',h0',hp',hl'',hr'⟩:=q'
    exact ⟨l',zs,rfl,List.mem_append.mpr (.inr hm'),h0',hp',(s.ow (M:=M1) l' hm' hp' h0').2 _ hl'',hr'.mv m⟩
   | obj q=>exact q'
 ·rw [set_self e1,set_self e2]
  exact ⟨hn,v,rfl,ro⟩
 ·rcases List.mem_append.mp ha with ha | ha
  ·exact RO.live q v A ro a ha
  ·exact s.live a (r.liv.m a ha)
end
section
variable {X:Cx} {st:Stmt} {rest:List Stmt} {t:DTS} {u:DTB} {e:Expr} {te:DE} {pos:Pos}
end
section
variable {X:Cx}
end
end DL
namespace L2
open PySem PySem.Spec PyProof.Rows
section
variable {X:Cx}
def intsV (n:Nat):List V:=(List.range n).map fun (i:Nat)=>V.int i
def tListR (ta:TA):TE:=fun σ H Q=>ta σ H fun vs H1=>∃ j:Int,vs = [.int j] /\ 0 <= j /\ j <= 100000 /\ ∀ l,H1 l = none -> Q (.ref l) (upd H1 l (.lst (intsV j.toNat)))
theorem vals_of_get:∀ {xs:List V} {us:List Value},xs.length = us.length -> (∀ (i:Nat) x u,xs[i]? = some x -> us[i]? = some u -> RelV x u) -> Vals xs us
 | [],[],_,_=>.nil
 | [],_ :: _,h,_=>by simp at h
 | _ :: _,[],h,_=>by simp at h
 | x :: xs,u :: us,h,k=>.cons (k 0 x u rfl rfl) (vals_of_get (by simpa using h) fun i y v e1 e2=>k (i + 1) y v (by simpa using e1) (by simpa using e2))
theorem pe_listrange {a:Expr} {ta:TA} {p p' pos pos':Pos} (hc:X.calm = true) (hgl:Gl X "list") (hml:X.mg "list" = none) (hg:Gl X "range") (hm:X.mg "range" = none) (ha:PA X [a] ta)
  (he:starEach [a] X.env = [(false,eval a X.env)]:=by rfl)
  (hs:starEach [.Call (.Name "range" p') [a] [] pos'] X.env = (false,eval (.Call (.Name "range" p') [a] [] pos') X.env) :: starEach [] X.env:=by rfl) (hpl0:(backTo pos (starEach [] X.env)).any (·.1) = false:=by rfl) :
  PE X (.Call (.Name "list" p) [.Call (.Name "range" p') [a] [] pos'] [] pos) (tListR ta):=by
 intro pins s σ H Q I h
 refine wpAny_Call_Name_kw (ld_blt I hgl hml boot_list_ty ?_ (by decide) (by decide))
 refine PyProof.Rows.callWith_type1 ?_ hs hpl0
 rw [hs]
 show wpAny _ _ (spliced ((false,eval (.Call (.Name "range" p') [a] [] pos') X.env) :: backTo pos (starEach [] X.env))) _ _ s
 refine Calls.spliced_cons ?_
 refine Call_ (ld_blt I hg hm boot_range (PyProof.Rows.callWith_type1 (thn (ha pos' pins s σ H _ I h) fun us s1 ⟨vs,H1,I1,r1,q1⟩=>?_) he rfl))
 obtain ⟨j,e,q1,q2,q⟩:=q1
 subst e
 cases r1 with
 | cons r rr =>
  cases rr
  obtain ⟨t,rfl⟩:=r
  refine call_range_1 ?_
  refine Calls.spliced_nil ?_
  have I2:Inv X pins σ H1 { s1 with heap:=s1.heap.push { cls:=.type "range",data:=.fields #[.int 0 s1.toks,.int j t,.int 1 (s1.toks + 1)] },toks:=s1.toks + 1 + 1 }:=I1.kept fun b o e=>Heap.get?_push_of_some _ e
  have hn:Builtin.Range.rangeSize 0 j 1 = ((j.toNat:Nat):Int):=by rw [rangeSize_one]; split <;> omega
  refine call_list_range (I.ok.hd hc) (IsRange.new ..) (small_one (by decide) (by decide) (by omega) (by omega)) hn (by omega) fun h' tk acc c hk hD hI=>?_
  refine ⟨.ref _,_,I2.laid (o:=.lst (intsV j.toNat)) hk (Nat.le_refl _) ⟨?_,acc.toList,c,?_,?_⟩,rfl,q _ (I2.hok.fresh (Nat.le_refl _))⟩
  ·unfold intsV
   rw [List.length_map,List.length_range]
   exact Nat.le_trans (show j.toNat <= 100000 by omega) (by decide)
  ·refine vals_of_get ?_ fun i x u e1 e2=>?_
   ·unfold intsV
    rw [List.length_map,List.length_range,Array.length_toList,hI.1]
   ·rw [Array.getElem?_toList] at e2
    obtain ⟨t',e3⟩:=hI.2 i u e2
    unfold intsV at e1
    rw [List.getElem?_map] at e1
    obtain ⟨k,e4,rfl⟩:=Option.map_eq_some_iff.mp e1
    have hk':k = i:=by
     have:=(List.getElem?_eq_some_iff.mp e4).2
     simpa using this.symm
    subst hk'
    refine ⟨t',?_⟩
    rw [e3]
    congr 1
    omega
  ·rw [Array.toArray_toList]
   exact hD
end
end L2
namespace DL
open PySem PySem.Spec L2
open PyProof.Rows hiding St
variable [Frm]
section
variable {X:Cx}
omit [Frm] in
theorem reps_ints0 {K:PySem.W.Frag} {pp:Option Addr} {M:List Addr} {H:Hp} (n:Nat):Reps K pp M H (intsD 0 n) (intsV n):=by
 have:=reps_intsD (K:=K) (pp:=pp) (M:=M) (H:=H) n 0
 unfold intsV
 simpa using this
abbrev dListR (t:DA):DA:=fun ρ Q=>t ρ fun ds ρ'=>match ds with
 | [.int j]=>(0 <= j /\ j <= 100000) /\ Q (intsD 0 j.toNat) ρ'
 | _=>False
theorem dl_listR {a:Expr} {tl:DA} {p p' pos pos':Pos} (hc:X.calm = true) (hgl:Gl X "list") (hml:X.mg "list" = none) (hg:Gl X "range") (hm:X.mg "range" = none) (ha:PAD X [a] tl)
  (he:starEach [a] X.env = [(false,eval a X.env)]:=by rfl)
  (hs:starEach [.Call (.Name "range" p') [a] [] pos'] X.env = (false,eval (.Call (.Name "range" p') [a] [] pos') X.env) :: starEach [] X.env:=by rfl) (hpl0:(backTo pos (starEach [] X.env)).any (·.1) = false:=by rfl) :
  PLD X (.Call (.Name "list" p) [.Call (.Name "range" p') [a] [] pos'] [] pos) (dListR tl):=by
 obtain ⟨T,pa,ra⟩:=ha.run
 refine ⟨fun _ _ _ f h=>ha.mono _ _ _ (fun d _ h=>?_) h,_,pe_listrange hc hgl hml hg hm pa he hs hpl0,fun {F} M H σ ρ Q rs h=>ra M H σ ρ _ rs (ha.mono _ _ _ (fun d ρ1 h M1 H1 v m1 rs1 r1=>?_) h)⟩
 ·split at h
  ·exact ⟨h.1,f _ _ h.2⟩
  ·exact h.elim
 ·split at h
  ·rename_i j
   simp only [Reps,Rep] at r1
   obtain ⟨x,r,rfl,rfl,rfl⟩:=r1
   refine ⟨j,rfl,h.1.1,h.1.2,fun l hl=>h.2 M1 H1 _ l _ m1 rs1 hl rfl (reps_ints0 _)⟩
  ·exact h.elim
omit [Frm] in
theorem Reps.erase {K:PySem.W.Frag} {pp:Option Addr} {M:List Addr} {H:Hp}:∀ {ds:List D} {xs:List V} (n:Nat),Reps K pp M H ds xs -> Reps K pp M H (ds.eraseIdx n) (xs.eraseIdx n)
 | [],xs,n,h=>by simp only [Reps] at h; subst h; simpa only [List.eraseIdx_nil,Reps] using rfl
 | d :: ds,xs,0,h=>by
  simp only [Reps] at h
  obtain ⟨x,r,rfl,h1,h2⟩:=h
  exact h2
 | d :: ds,xs,n + 1,h=>by
  simp only [Reps] at h
  obtain ⟨x,r,rfl,h1,h2⟩:=h
  exact .cons h1 (Reps.erase n h2)
def dPopS (i:Nat) (ρ:DS) (Q:D -> DS -> Prop) (j:D):Sl -> Prop
 | .own ds=>match j with
  | .int k=>(0 <= k /\ k <= 100000) /\ ∃ d,ds[k.toNat]? = some d /\ Q d (ρ.set i (.own (ds.eraseIdx k.toNat)))
  | _=>False
 | _=>False
abbrev dPop (i:Nat) (te:DE):DE:=fun ρ Q=>isOwn (slot ρ i) /\ te ρ fun j ρ'=>dPopS i ρ' Q j (slot ρ' i)
theorem de_pop {i:Nat} {o e:Expr} {apos cpos:Pos} {te:DE} (ho:PE X o (tVar i)) (he:PED X e te)
  (hbase:attributeBase o "pop" X.env (eval o X.env) = eval o X.env:=by rfl)
  (hfew:((backTo cpos (starEach [e] X.env)).all (fun x=>!x.1) && (backToKw cpos (keywordEach [] X.env)).all (fun x=>x.1.isSome)
   && decide ([e].length + ([]:List Keyword).length + (if ([]:List Keyword).isEmpty then 0 else 1) < 30)) = true:=by rfl)
  (hline:(apos.endLine == cpos.line) = true:=by rfl) (hst:starEach [e] X.env = (false,eval e X.env) :: starEach [] X.env:=by rfl) (hpl:(backTo cpos (starEach [] X.env)).any (·.1) = false:=by rfl) :
  PED X (.Call (.Attribute o "pop" apos) [e] [] cpos) (dPop i te):=by
 have hm:PE X (.Call (.Attribute o "pop" apos) [e] [] cpos) (tBM X.K "list" rPopAt (tVar i) (tCons (Classical.choose he.run) tNil)):=pe_bm PySem.F.plainAttrs_list PySem.F.slot_list_pop PySem.F.type_list_pop mt_popAt ho (pa_cons (Classical.choose_spec he.run).1 pa_nil hst) hbase hfew hline hst hpl
 obtain ⟨_,r⟩:=Classical.choose_spec he.run
 refine ⟨fun ρ P P' f h=>⟨h.1,he.mono _ _ _ (fun j ρ' h=>?_) h.2⟩,_,hm,fun {F} M H σ ρ Q rs h=>?_⟩
 ·cases q:slot ρ' i with
  | own ds =>
   rw [q] at h
   cases j with
   | int k=>obtain ⟨h0,d,h1,h2⟩:=h; exact ⟨h0,d,h1,f _ _ h2⟩
   | _=>exact h.elim
  | _=>rw [q] at h; exact h.elim
 obtain ⟨h0,h⟩:=h
 cases q:slot ρ i with
 | nil=>rw [q] at h0; exact h0.elim
 | val d=>rw [q] at h0; exact h0.elim
 | pin w d=>rw [q] at h0; exact h0.elim
 | obj z=>rw [q] at h0; exact h0.elim
 | own ds =>
  obtain ⟨oo1,ho1,l,xs,rfl,hm1,h01,hp1,hl1,hr1⟩:=rs.at (slot_get q (by intro z; cases z))
  refine ⟨.ref l,ho1,.inl ⟨rfl,xs,SqL.of hl1⟩,?_⟩
  refine r M H σ ρ _ rs (he.mono _ _ _ (fun j ρ' h M' H' v m rs' rd=>?_) h)
  cases q':slot ρ' i with
  | nil=>rw [q'] at h; exact h.elim
  | val d=>rw [q'] at h; exact h.elim
  | pin w d=>rw [q'] at h; exact h.elim
  | obj z=>rw [q'] at h; exact h.elim
  | own ds' =>
   rw [q'] at h
   cases j with
   | int k =>
    obtain ⟨⟨k0,k1⟩,d,hd,h⟩:=h
    simp only [Rep] at rd
    subst rd
    have g1:=slot_get q' (by intro z; cases z)
    obtain ⟨l',xs',e',hm',h0',hp',hl',hr'⟩:=rs'.sl i _ _ g1 ho1
    cases e'
    obtain ⟨y,hy,ry⟩:=hr'.get' hd
    obtain ⟨m2,rs2⟩:=rs'.write g1 ho1 (hr'.erase k.toNat)
    have hlt:k.toNat < xs'.length:=(List.getElem?_eq_some_iff.mp hy).1
    refine ⟨l,xs',k,k.toNat,y,rfl,rfl,hl',by omega,by omega,?_,hy,h M' _ y (m.trans m2) rs2 (ry.mv m2)⟩
    unfold seqIndex?
    have c1:¬ k < 0:=by omega
    have c2:k < (xs'.length:Int):=by omega
    simp [c1,k0,c2]
   | _=>exact h.elim
end
section
variable {X:Cx}
end
end DL
namespace PySem
section
variable {prog:Program} {w:World} {K:Type} [DecidableEq K] {knd:HeapKind prog w K} {A:Around} {E:Value -> Shared -> Prop} {z:Shared}
theorem q_setdef {c b:Addr} {ps:List (K × Addr × Value)} {q:K} {x:Value} {R:Value -> Shared -> Prop} (room:knd.room A) (isK:knd.is z.heap q b) (D:z.heap.DictOfH knd c ps) (few:ps.length <= sizeLine)
  (old:∀ p,atKey ps q = some p -> R p.2 { z with toks:=z.toks + knd.draws q })
  (new:atKey ps q = none -> ∀ h2,h2.DictOfH knd c (storedH ps q b x) -> Heap.SameBut c z.heap h2 -> R x { z with heap:=h2,toks:=z.toks + knd.draws q }) :
  wpAny (model prog w) A (dictSetDefault c (.ref b) x) R E z:=by
 obtain ⟨ob,en,ep,g1,g2,g3,g4,g5,g6⟩:=D
 unfold dictSetDefault
 try with_reducible refine wpAny_holding ?_
 refine wpAny_bind (knd.pyHash room isK ?_)
 refine wpAny_bind (wpAny_dictFind_heap (s:={ z with toks:=z.toks + knd.draws q }) room isK g1 g3 g4 g5 g6 (fun none_=>?_) (fun j p at_=>?_))
 ·have few2:en.size <= sizeLine:=by rw [size_of_entries g4]; exact few
  have a0:=atKey_none_of_get none_
  refine wpAny_bind (wpAny_rule (wpAny_bind (wpAny_updateDictKeys (hz:=few2) (s:={ z with toks:=z.toks + knd.draws q }) g1 g3 (wpAny_pure (new a0 _ ⟨_,_,ep + 1,Heap.get?_update_self _ g1 (Obj.isFreed_of_dict (Obj.data_mapDictKeys g3 _)),g2.mapDictKeys _,Obj.data_mapDictKeys g3 _,?_,?_,?_⟩ (Heap.SameBut.update ..))))))
  all_goals rw [storedH_new a0]
  ·simp [g4,entryOfKey]
  ·intro y hy
   rcases List.mem_append.mp hy with hy | hy
   ·exact knd.keeps (g5 y hy) g1 g3 (Heap.SameBut.update ..)
   ·rw [List.mem_singleton.mp hy]
    exact knd.keeps isK g1 g3 (Heap.SameBut.update ..)
  ·rw [List.map_append,List.map_singleton]
   refine List.nodup_append.mpr ⟨g6,List.nodup_cons.mpr ⟨by simp,List.nodup_nil⟩,fun y hy u hu e=>?_⟩
   have e:y = q:=by rw [List.mem_singleton.mp hu] at e; exact e
   subst e
   exact not_mem_keys_of_get none_ hy
 ·refine wpAny_bind (wpAny_dictEntries (s:={ z with toks:=z.toks + knd.draws q }) g1 g3 ?_)
  rw [entry_at g4 j,at_]
  exact wpAny_bind (wpAny_rule (wpAny_pure (old p (atKey_of_get g6 at_))))
theorem q_meets_setdef (knd:HeapKind prog w K) (c b:Addr) (x:Value) (plain:(c == sysModules) = false) :
  MeetsIn prog w (Builtin.«dict.setdefault» ⟨[.ref c,.ref b,x],[]⟩) (fun A R z=>knd.room A.in1 /\ ∃ q ps,knd.is z.heap q b /\ z.heap.DictOfH knd c ps /\ ps.length <= sizeLine /\
   (∀ p,atKey ps q = some p -> R (.ok (.ret p.2)) { z with toks:=z.toks + knd.draws q }) /\
   (atKey ps q = none -> ∀ h2,h2.DictOfH knd c (storedH ps q b x) -> Heap.SameBut c z.heap h2 -> R (.ok (.ret x)) { z with heap:=h2,toks:=z.toks + knd.draws q })) :=
 .of_wp fun A R z ⟨room,q,ps,isK,D,few,old,new⟩=>by
  unfold Builtin.«dict.setdefault»
  refine wpAny_bind ?_
  unfold Builtin.Dict.keyAndDefault
  refine wpAny_bind (wpAny_notOrdered_dict D.typeIs ?_)
  show wpAny _ _ (pure (c,Value.ref b,some x)) _ _ z
  refine wpAny_pure ?_
  show wpAny _ _ (if (c == sysModules) = true then _ else (dictSetDefault c (.ref b) x >>= _)) _ _ z
  rw [if_neg (by rw [plain]; exact Bool.false_ne_true)]
  exact wpAny_bind (q_setdef room isK D few (fun p e=>wpAny_pure ⟨p.2,rfl,old p e⟩) fun e h2 D2 sb=>wpAny_pure ⟨x,rfl,new e h2 D2 sb⟩)
end
end PySem
namespace L2
open PySem PySem.Spec PyProof.Rows
section
variable {X:Cx}
def rSetD:V -> List V -> Hp -> VK -> Prop:=fun x vs H Q=>∃ a kvs k b y,x = .ref a /\ vs = [.ref b,y] /\ H a = some (.dT kvs) /\ H b = some (.tup (k.map kV)) /\ kvs.length < sizeLine /\
 (∀ v,valV kvs k = some v -> Q v H) /\ (valV kvs k = none -> Q y (upd H a (.dT (putK kvs k y))))
theorem mt_setdefault (hu:X.A.units + 1 < cLine):MtM X "dict.setdefault" rSetD:=by
 intro pins s σ H x vs v us Q I rx rv h
 obtain ⟨a,kvs,k,b,y,rfl,rfl,e,eb,l,h1,h2⟩:=h
 cases rx
 cases rv with
 | cons r1 rr =>
  obtain ⟨u,rfl,ru⟩:=Vals.one rr
  cases r1
  obtain ⟨z,plain,xs,rel,dd⟩:=dt_of I.hok e
  have hz:xs.length <= sizeLine:=by rw [← Paired.length rel]; exact z
  have hl:(putK kvs k y).length <= sizeLine:=by have:=length_putK kvs k y; omega
  refine call_meetsIn F.slot_dict_setdefault dd.typeIs F.entry_dict_setdefault (F.args_dict_setdefault_3 _ _ _) (q_meets_setdef (tupleKind (mixKind X.prog X.w)) a b u plain) ⟨tupleKind_room_in1 hu,k,xs,key_of I.hok eb,dd,hz,fun p hp=>?_,fun hn h' dd' hs=>?_⟩
  ·have q:=rel.val k
   rw [hp] at q
   cases ev:valV kvs k with
   | none=>rw [ev] at q; exact q.elim
   | some v' =>
    rw [ev] at q
    exact ⟨v',H,I.tok _,q,h1 v' ev⟩
  ·have q:=rel.val k
   rw [hn] at q
   cases ev:valV kvs k with
   | some v'=>rw [ev] at q; exact q.elim
   | none =>
    obtain ⟨q,es,ep,hq,h2',h3,h4,_,h5⟩:=dd'
    refine ⟨y,_,d_write (ob:=.dT (putK kvs k y)) I (by rw [e]; exact True.intro) hs ⟨q,hq⟩ ⟨hl,plain,_,(rel.put k eb ru).keeps fun c ys ec=>?_,q,es,ep,hq,h2',h3,h4,h5⟩,ru,h2 ev⟩
    rw [upd_ne (ne_of ec e (fun z=>nomatch z))]
    exact ec
end
end L2
namespace L2
open PySem PySem.Spec PyProof.Rows PySem.W
def kRun {α:Type} (c:Nat -> Nat -> Bool):KasT α -> α
 | .ret a=>a
 | .ask i j k=>kRun c (k (c i j))
def KGood {α:Type} (N:Nat) (P:α -> Prop):KasT α -> Prop
 | .ret a=>P a
 | .ask i j k=>(i < N /\ j < N) /\ ∀ b,KGood N P (k b)
theorem KGood.bind {α β:Type} {N:Nat} {P:α -> Prop} {R:β -> Prop} {f:α -> KasT β} (hf:∀ a,P a -> KGood N R (f a)):∀ (t:KasT α),KGood N P t -> KGood N R (t.bind f)
 | .ret a,h=>hf a h
 | .ask i j k,h=>⟨h.1,fun b=>KGood.bind hf (k b) (h.2 b)⟩
theorem KGood.end {α:Type} {N:Nat} {P:α -> Prop} (c:Nat -> Nat -> Bool):∀ (t:KasT α),KGood N P t -> P (kRun c t)
 | .ret a,h=>h
 | .ask i j k,h=>KGood.end c (k (c i j)) (h.2 _)
theorem KGood.wp {α:Type} {N:Nat} {P:α -> Prop} {c:Nat -> Nat -> Bool} {cmp:Nat -> Nat -> (Bool -> Shared -> Prop) -> Shared -> Prop} {s:Shared}
  (hc:∀ i j (C:Bool -> Shared -> Prop),i < N -> j < N -> C (c i j) s -> cmp i j C s):∀ (t:KasT α) (Q:α -> Shared -> Prop),KGood N P t -> Q (kRun c t) s -> t.kasWp cmp Q s
 | .ret a,Q,_,q=>q
 | .ask i j k,Q,h,q=>hc i j _ h.1.1 h.1.2 (KGood.wp hc (k (c i j)) Q (h.2 _) q)
def PmN (N:Nat) (p:Array Nat):Prop:=p.toList.Perm (List.range N)
section
variable {N:Nat} {p:Array Nat}
theorem PmN.lt (h:PmN N p) (h0:0 < N) (i:Nat):p.getD i 0 < N:=by
 by_cases hi:i < p.size
 ·have e:p.getD i 0 = p[i]:=by simp [Array.getD,hi]
  have hm:p[i] ∈ p.toList:=Array.mem_toList_iff.mpr (Array.getElem_mem hi)
  rw [e]
  exact List.mem_range.mp (h.mem_iff.mp hm)
 ·have e:p.getD i 0 = 0:=by simp [Array.getD,hi]
  rw [e]
  exact h0
theorem PmN.rev (h:PmN N p) (i j:Nat):PmN N (kas_rev p i j):=(Array.perm_iff_toList_perm.mp (mirror_perm _ _ _ _)).trans h
theorem PmN.bub (h:PmN N p) (i j:Nat):PmN N (bubble p i j):=(Array.perm_iff_toList_perm.mp (bubble_perm _ _ _)).trans h
theorem good_asc (h0:0 < N) (h:PmN N p):∀ (f n:Nat),KGood N (fun _=>True) (kas_asc p f n)
 | 0,n=>trivial
 | f + 1,n=>⟨⟨h.lt h0 _,h.lt h0 _⟩,fun b=>by
  dsimp only
  split
  ·trivial
  ·exact good_asc h0 h f (n + 1)⟩
theorem good_desc (h0:0 < N):∀ (f:Nat) (p:Array Nat) (n q:Nat),PmN N p -> KGood N (fun r=>PmN N r.1) (kas_desc f p n q)
 | 0,p,n,q,h=>h
 | f + 1,p,n,q,h=>⟨⟨h.lt h0 _,h.lt h0 _⟩,fun b=>by
  dsimp only
  split
  ·split
   ·exact good_desc h0 f _ _ _ (h.rev _ _)
   ·exact good_desc h0 f _ _ _ h
  ·refine ⟨⟨h.lt h0 _,h.lt h0 _⟩,fun d=>?_⟩
   dsimp only
   split
   ·exact h
   ·exact good_desc h0 f _ _ _ h⟩
theorem good_tail3 (h0:0 < N) (h:PmN N p) (n m:Nat):KGood N (fun r=>PmN N r.2) (kas_tail3 n m p):=by
 unfold kas_tail3
 refine KGood.bind (N:=N) (P:=fun _=>True) (R:=fun (r:Nat × Array Nat)=>PmN N r.2) ?_ _ (good_asc h0 (h.rev 0 n) _ _)
 intro m _
 exact h.rev 0 n
theorem good_descPart (h0:0 < N) (h:PmN N p) (n m:Nat):KGood N (fun r=>PmN N r.2) (kas_descPart n m p):=KGood.bind (fun r hr=>by
 split
 ·exact good_tail3 h0 (hr.rev _ _) _ _
 ·exact good_tail3 h0 hr _ _) _ (good_desc h0 _ _ _ _ h)
theorem good_count (h0:0 < N) (h:PmN N p) (m:Nat):KGood N (fun r=>PmN N r.2) (kas_count m p):=KGood.bind (fun n _=>by
 split
 ·exact h
 ·split
  ·refine ⟨⟨h.lt h0 _,h.lt h0 _⟩,fun b=>?_⟩
   dsimp only
   split
   ·exact h
   ·exact good_descPart h0 (h.rev _ _) _ _
  ·exact good_descPart h0 h _ _) _ (good_asc h0 h _ _)
theorem good_place (h0:0 < N) (h:PmN N p) (k:Nat):∀ (f l r:Nat),KGood N (fun _=>True) (kas_place p k f l r)
 | 0,l,r=>trivial
 | f + 1,l,r=>by
  unfold kas_place
  split
  ·trivial
  ·refine ⟨⟨h.lt h0 _,h.lt h0 _⟩,fun b=>?_⟩
   dsimp only
   split
   ·exact good_place h0 h k f _ _
   ·exact good_place h0 h k f _ _
theorem good_bin (h0:0 < N):∀ (f:Nat) (p:Array Nat) (k:Nat),PmN N p -> KGood N (PmN N) (kas_bin f p k)
 | 0,p,k,h=>h
 | f + 1,p,k,h=>KGood.bind (fun l _=>good_bin h0 f _ _ (h.bub _ _)) _ (good_place h0 h k _ _ _)
theorem good_sort (h0:0 < N):KGood N (PmN N) (kas_sort N):=by
 have hp:PmN N (List.toArray (List.range N)):=by unfold PmN; rw [List.toList_toArray]
 exact KGood.bind (fun r hr=>by
  split
  ·exact good_bin h0 _ _ _ hr
  ·exact hr) _ (good_count h0 hp N)
end
def lexI:List Key -> List Key -> Bool
 | [],[]=>false
 | [],_ :: _=>true
 | _ :: _,[]=>false
 | .inl a :: r,.inl b :: r'=>if a = b then lexI r r' else decide (a < b)
 | _,_=>false
def srtK (ks:List (List Key)):List (List Key):=if ks.length < 2 then ks else (kRun (fun i j=>lexI (ks.getD i []) (ks.getD j [])) (kas_sort ks.length)).toList.map fun i=>ks.getD i []
theorem pick_perm {α:Type} {xs:List α} {d:α} {is:List Nat} (h:is.Perm (List.range xs.length)):(is.map fun i=>xs.getD i d).Perm xs:=by
 refine (h.map _).trans ?_
 have:(List.range xs.length).map (fun i=>xs.getD i d) = xs:=by
  apply List.ext_getElem
  ·simp
  ·intro i h1 h2
   simp [h2]
 rw [this]
theorem srtK_perm (ks:List (List Key)):(srtK ks).Perm ks:=by
 unfold srtK
 split
 ·exact List.Perm.refl _
 ·exact pick_perm (KGood.end _ _ (good_sort (by omega)))
def isI (k:Key) (u:Value):Prop:=∃ i t,k = .inl i /\ u = Value.int i t
def TupI (h:Heap) (k:List Key) (v:Value):Prop:=∃ a o xs n,v = .ref a /\ h.get? a = some o /\ o.cls = .type "tuple" /\ o.data = .seq xs n /\ Paired isI k xs.toList
theorem paired_len {α β:Type} {R:α -> β -> Prop} {xs:List α} {ys:List β} (h:Paired R xs ys):xs.length = ys.length:=by
 induction h with
 | nil=>rfl
 | cons _ _ ih=>simp [ih]
section
variable {prog:Program} {w:World} {A:Around} {E:Value -> Shared -> Prop} {s:Shared} {b fin:Bool} {Q:Bool -> Shared -> Prop}
theorem one_lt (o:Bool) {x y:Int} {t u:Tok} {Q:Bool -> Shared -> Prop} (h:Q (decide (x < y)) s):wpAny (model prog w) A (oneLt' o (.int x t) (.int y u)) Q E s:=by
 cases o with
 | true=>exact oneLt_int h
 | false=>exact kat_one _ _ (wpAny_lt_int h)
theorem lex_ints:∀ {k1 k2:List Key} {xs ys:List Value} (i:Nat),Paired isI k1 xs -> Paired isI k2 ys -> fin = decide (xs.length < ys.length) -> Q (lexI k1 k2) s -> KatLex prog w A b fin Q (xs.zip ys) i s
 | _,_,_,_,i,.nil,.nil,e,q=>by
  subst e
  exact q
 | _,_,_,_,i,.nil,.cons _ _,e,q=>by
  subst e
  exact q
 | _,_,_,_,i,.cons _ _,.nil,e,q=>by
  subst e
  exact q
 | _,_,_,_,i,.cons h1 r1,.cons h2 r2,e,q=>by
  obtain ⟨x,t,rfl,rfl⟩:=h1
  obtain ⟨y,u,rfl,rfl⟩:=h2
  refine kat_cons (wpAny_eqBool_int ?_)
  by_cases z:x = y
  ·subst z
   have e1:(x == x) = true:=by simp
   rw [e1]
   refine kat_yes (lex_ints (i + 1) r1 r2 (by rw [e]; simp) ?_)
   simpa [lexI] using q
  ·have e1:(x == y) = false:=by simpa using z
   rw [e1]
   refine kat_no (one_lt _ ?_)
   simpa [lexI,z] using q
theorem lt_tups {k1 k2:List Key} {v1 v2:Value} (h1:TupI s.heap k1 v1) (h2:TupI s.heap k2 v2) (q:Q (lexI k1 k2) s):wpAny (model prog w) A (keyLt' (tuples' b) v1 v2) Q E s:=by
 obtain ⟨x,ox,xs,n,rfl,hx,_,dx,px⟩:=h1
 obtain ⟨y,oy,ys,m,rfl,hy,_,dy,py⟩:=h2
 exact kat_lt hx dx hy dy (lex_ints 0 px py (by simp) q)
end
def RawD (d:Addr) (es:Array DictEntry) (ep:Nat) (h:Heap):Prop:=∃ o,h.get? d = some o /\ o.ExactDict /\ o.data = .dict es ep
theorem RawD.type {d:Addr} {es:Array DictEntry} {ep:Nat} {s:Shared} (h:RawD d es ep s.heap):s.TypeIs (.ref d) "dict":=let ⟨o,e,x,_⟩:=h; ⟨o,e,x.1⟩
theorem RawD.keep {d:Addr} {es:Array DictEntry} {ep:Nat} {h h':Heap} (r:RawD d es ep h) (k:∀ o,h.get? d = some o -> h'.get? d = some o):RawD d es ep h':=let ⟨o,e,x⟩:=r; ⟨o,k o e,x⟩
section
variable {prog:Program} {w:World} {A:Around} {E:Value -> Shared -> Prop} {s:Shared} {d it:Addr} {es:Array DictEntry} {ep i:Nat}
theorem raw_iter {Q:Value -> Shared -> Prop} (lo:(d == sysModules) = false) (r:RawD d es ep s.heap)
  (q:Q (.ref s.heap.objs.size) { s with heap:=s.heap.push { cls:=.type "dict_keyiterator",data:=.fields #[.ref d,.int 0 0,.int es.size 0,.int ep 0] } }):wpAny (model prog w) A (pyIter (.ref d)) Q E s:=by
 have ty:=r.type
 obtain ⟨o,g1,_,g2⟩:=r
 refine wpAny_pyIter_slot ty F.slot_dict_iter (wpAny_call_entry F.slot_dict_iter ty F.entry_dict_iter ?_ (F.args_dict_iter_1 _))
 unfold Builtin.«dict.__iter__» Builtin.Dict.dictSlotNone
 refine wpAny_bind (wpAny_bind (wpAny_notOrdered_dict ty (wpAny_pure ?_)))
 unfold Builtin.Dict.showsAll
 show wpAny _ _ ((if (d == sysModules) = true then unsupported "sys.modules:all-start-up-values-wanted" else pure ()) >>= _) _ _ s
 rw [if_neg (by rw [lo]; exact Bool.false_ne_true)]
 refine wpAny_bind (wpAny_pure (wpAny_bind (wpAny_dictEntries g1 g2 (wpAny_bind (wpAny_dictEpoch g1 g2 ?_)))))
 exact wpAny_bind (wpAny_newObj_type (wpAny_pure ⟨_,rfl,"dict_keyiterator",_,⟨_,Heap.get?_push_size _ rfl,rfl⟩,F.slot_dict_keyiterator_next.lookup,q⟩))
theorem raw_item {n:Nat} {Q:Option Value -> Shared -> Prop} (hi:i < es.size) (en:es.size = n) (g:s.heap.IsKeyIter it d i n ep) (r:RawD d es ep s.heap)
  (q:∀ h',h'.IsKeyIter it d (i + 1) n ep -> Heap.SameBut it s.heap h' -> Q (some es[i].key) { s with heap:=h' }):wpAny (model prog w) A (pyNext (.ref it)) Q E s:=by
 subst en
 have ty:=g.typeIs
 obtain ⟨o,g1,g2,g3⟩:=g
 obtain ⟨od,r1,_,r2⟩:=r
 unfold pyNext
 refine wpAny_bind (wpAny_attempt (wpAny_callSpecial?_slot (name:=Str.ofString "__next__") ty F.slot_dict_keyiterator_next (wpAny_call_entry F.slot_dict_keyiterator_next ty F.entry_dict_keyiterator_next ?_ (F.args_dict_keyiterator_next_1 _))))
 refine wpAny_bind (wpAny_pure (wpAny_bind (wpAny_bind (wpAny_bind (wpAny_typeNameOfWhole_keyiter ty (wpAny_pure (wpAny_bind (wpAny_fieldsOf g1 g3 ?_))))))))
 simp only [show Builtin.Dict_items.ownsTuple "dict_keyiterator" = false by decide,Bool.false_eq_true,if_false]
 show wpAny _ _ (if (Value.ref d == Value.none) = true then _ else _) _ _ s
 rw [if_neg (show ¬ ((Value.ref d == Value.none) = true) from Bool.false_ne_true)]
 refine wpAny_bind (wpAny_pure (wpAny_bind (wpAny_dictEntries r1 r2 ?_)))
 rw [if_neg (by simp)]
 refine wpAny_bind (wpAny_pure (wpAny_bind (wpAny_dictEpoch r1 r2 ?_)))
 rw [if_neg (by simp)]
 refine wpAny_pure ?_
 simp only [show ¬ ((i:Int) < 0) from by omega,if_false,Int.toNat_natCast,Array.getElem?_eq_getElem hi]
 refine wpAny_bind (wpAny_bind (wpAny_typeNameOfWhole_keyiter ty (wpAny_pure (wpAny_bind (wpAny_isOneOf_keyiter ty ?_)))))
 show wpAny _ _ (setField (.ref it) 1 (rawInt ((i:Int) + 1)) >>= _) _ _ s
 refine wpAny_bind (wpAny_setField g1 g3 (by simp) ?_)
 have g':(s.heap.update it (Obj.mapFields (·.setIfInBounds 1 (rawInt ((i:Int) + 1))))).IsKeyIter it d (i + 1) es.size ep :=
  ⟨_,Heap.get?_update_self _ g1 (Obj.isFreed_of_fields (Obj.data_mapFields g3 _)),(Obj.cls_mapFields ..).trans g2,by rw [Obj.data_mapFields g3]; simp [rawInt]⟩
 refine wpAny_bind (wpAny_holding (wpAny_bind (wpAny_isOneOf_keyiter (s:={ s with heap:=s.heap.update it (Obj.mapFields (·.setIfInBounds 1 (rawInt ((i:Int) + 1)))) }) g'.typeIs ?_)))
 show wpAny _ _ (pure es[i].key) _ _ _
 exact wpAny_pure (wpAny_pure ⟨_,rfl,wpAny_pure (q _ g' (Heap.SameBut.update ..))⟩)
theorem raw_end {n:Nat} {Q:Option Value -> Shared -> Prop} (hh:A.handled = none) (hi:es.size <= i) (en:es.size = n) (g:s.heap.IsKeyIter it d i n ep) (r:RawD d es ep s.heap)
  (q:∀ h',Heap.ExtBut it s.heap h' -> Q none { s with heap:=h' }):wpAny (model prog w) A (pyNext (.ref it)) Q E s:=by
 subst en
 have ty:=g.typeIs
 obtain ⟨o,g1,g2,g3⟩:=g
 obtain ⟨od,r1,_,r2⟩:=r
 unfold pyNext
 refine wpAny_bind (wpAny_attempt (wpAny_callSpecial?_slot (name:=Str.ofString "__next__") ty F.slot_dict_keyiterator_next (wpAny_call_entry F.slot_dict_keyiterator_next ty F.entry_dict_keyiterator_next ?_ (F.args_dict_keyiterator_next_1 _))))
 refine wpAny_bind (wpAny_pure (wpAny_bind (wpAny_bind (wpAny_bind (wpAny_typeNameOfWhole_keyiter ty (wpAny_pure (wpAny_bind (wpAny_fieldsOf g1 g3 ?_))))))))
 simp only [show Builtin.Dict_items.ownsTuple "dict_keyiterator" = false by decide,Bool.false_eq_true,if_false]
 show wpAny _ _ (if (Value.ref d == Value.none) = true then _ else _) _ _ s
 rw [if_neg (show ¬ ((Value.ref d == Value.none) = true) from Bool.false_ne_true)]
 refine wpAny_bind (wpAny_pure (wpAny_bind (wpAny_dictEntries r1 r2 ?_)))
 rw [if_neg (by simp)]
 refine wpAny_bind (wpAny_pure (wpAny_bind (wpAny_dictEpoch r1 r2 ?_)))
 rw [if_neg (by simp)]
 refine wpAny_pure ?_
 simp only [show ¬ ((i:Int) < 0) from by omega,if_false,Int.toNat_natCast,Array.getElem?_eq_none hi]
 refine wpAny_bind (wpAny_bind (wpAny_typeNameOfWhole_keyiter ty (wpAny_pure ?_)))
 show wpAny _ _ (setField (.ref it) 0 .none >>= _) _ _ s
 refine wpAny_bind (wpAny_setField g1 g3 (by simp) ?_)
 show wpAny _ _ (newExc (.type "StopIteration") [] >>= _) _ _ _
 refine wpAny_bind ?_
 simp only [newExc,newTuple]
 refine wpAny_bind (wpAny_newObj_type ?_ (by size_fits))
 refine wpAny_bind (m:=firstArgMember _ _) (wpAny_of_eq (a:=Value.none) (by first | rfl | (simp only [firstArgMember]; rfl)) ?_)
 refine wpAny_newObj_type ?_ (by size_fits)
 simp only [raiseNew]
 refine wpAny_bind (wpAny_handled ?_)
 rw [show A.in1.handled = none from hh]
 refine wpAny_bind (wpAny_pure (wpAny_throw ?_))
 refine wpAny_bind (wpAny_isInstance (T:="StopIteration") (b:=true) ⟨_,Heap.get?_push_size _ rfl,rfl⟩ isSubtype_stop ?_)
 exact wpAny_pure (q _ (((Heap.SameBut.update ..).extBut.push _).push _))
theorem src_raw (lo:(d == sysModules) = false) (es:Array DictEntry) (ep:Nat):KdlSrc prog w "dict" d d es.size (fun i v=>(es[i]?).map (·.key) = some v) (RawD d es ep) where
 type:=fun _ r=>r.type
 there:=fun _ ⟨_,e,_⟩=>⟨Heap.lt_size e,Heap.lt_size e⟩
 keep:=fun _ _ r k=>r.keep fun o e=>k d (.inl rfl) o e
 notList:=by decide
 notTuple:=by decide
 hint:=fun _ _ _ _ r q=>kdl_hint_dict r.type q
 iter:=fun A s hh r=>⟨_,fun i h=>h.IsKeyIter s.heap.objs.size d i es.size ep /\ RawD d es ep h,(fun _ _ q=>raw_iter lo r q),{
  sub:=fun b hb=>by simp at hb; simp [hb]
  frame:=fun _ _ _ st k=>⟨st.1.at fun o e=>k _ (by simp) o e,st.2.keep fun o e=>k d (by simp) o e⟩
  item:=fun i s' Q E hi st q=>raw_item hi rfl st.1 st.2 fun h' g' sb=>by
   have ne:d ≠ s.heap.objs.size:=by
    obtain ⟨_,e,_⟩:=r
    exact Nat.ne_of_lt (Heap.lt_size e)
   refine q es[i].key h' s'.toks (by simp [hi]) ⟨g',st.2.keep fun o e=>(sb.2 d ne).trans e⟩ fun b o hb e=>?_
   have hb:b ≠ s.heap.objs.size:=by simpa using hb
   exact (sb.2 b hb).trans e
  done:=fun s' Q E st q=>raw_end hh (Nat.le_refl _) rfl st.1 st.2 fun h' eb=>q h' s'.toks fun b o hb e=>eb b o (by simpa using hb) e
  self:=fun _ _ _ _ st q=>wpAny_pyIter_keyiter st.1 q },⟨⟨_,Heap.get?_push_size _ rfl,rfl,rfl⟩,r.keep fun o e=>Heap.get?_push_of_some _ e⟩⟩
end
end L2
namespace L2
open PySem PySem.Spec PyProof.Rows PySem.W
section
variable {prog:Program} {w:World} {A:Around} {E:Value -> Shared -> Prop} {s:Shared}
theorem TupI.keep {h h':Heap} {k:List Key} {v:Value} {a:Addr} {xs:Array Value} {n:Nat} (t:TupI h k v) (ha:h.get? a = some (seqObj "list" xs n)) (kp:∀ b o,b ≠ a -> h.get? b = some o -> h'.get? b = some o):TupI h' k v:=by
 obtain ⟨b,o,ys,m,rfl,e,c,d,p⟩:=t
 refine ⟨b,o,ys,m,rfl,kp b o ?_ e,c,d,p⟩
 rintro rfl
 rw [ha] at e
 cases e
 simp [seqObj] at c
theorem paired_mapR {α β:Type} {R S:α -> β -> Prop} {xs:List α} {ys:List β} (h:Paired R xs ys) (f:∀ a b,R a b -> S a b):Paired S xs ys:=by
 induction h with
 | nil=>exact .nil
 | cons h _ ih=>exact .cons (f _ _ h) ih
theorem paired_get {α β:Type} {R:α -> β -> Prop} {d:α} {e:β} {xs:List α} {ys:List β} (h:Paired R xs ys):∀ i,i < xs.length -> R (xs.getD i d) (ys.getD i e):=by
 induction h with
 | nil=>intro i hi; simp at hi
 | cons h _ ih =>
  intro i hi
  cases i with
  | zero=>simpa using h
  | succ i=>simpa using ih i (by simpa using hi)
theorem paired_pick {α β:Type} {R:α -> β -> Prop} {d:α} {e:β} {xs:List α} {ys:List β} (h:Paired R xs ys):∀ (is:List Nat),(∀ i ∈ is,i < xs.length) -> Paired R (is.map fun i=>xs.getD i d) (is.map fun i=>ys.getD i e)
 | [],_=>.nil
 | i :: is,hi=>.cons (paired_get h i (hi i List.mem_cons_self)) (paired_pick h is fun j hj=>hi j (List.mem_cons_of_mem _ hj))
theorem kat_of {h:Heap}:∀ {ks:List (List Key)} {vs:List Value},Paired (TupI h) ks vs -> (∀ k ∈ ks,k ≠ []) -> ∃ fs,KatTups h vs fs /\ fs.length = vs.length /\ ∀ v ∈ fs,∃ i t,v = Value.int i t
 | _,_,.nil,_=>⟨[],.nil,rfl,fun v hv=>by simp at hv⟩
 | k :: ks,v :: vs,.cons h1 r,ne=>by
  obtain ⟨fs,h2,h3,h4⟩:=kat_of r fun k hk=>ne k (List.mem_cons_of_mem _ hk)
  obtain ⟨a,o,xs,n,rfl,e,c,d,p⟩:=h1
  have hk:=ne k List.mem_cons_self
  generalize hxs:xs.toList = l at p
  cases p with
  | nil=>exact absurd rfl hk
  | @cons x u ks' us hx hr =>
   obtain ⟨i,t,rfl,rfl⟩:=hx
   refine ⟨Value.int i t :: fs,.cons e c d ?_ h2,by simp [h3],fun v hv=>?_⟩
   ·rw [← Array.getElem?_toList,hxs]
    rfl
   ·rcases List.mem_cons.mp hv with rfl | hv
    ·exact ⟨i,t,rfl⟩
    ·exact h4 v hv
theorem sort_tups {a:Addr} {vs:List Value} {ks:List (List Key)} {n:Nat} {P:PySem.Fin -> Shared -> Prop} (ho:s.heap.get? a = some (seqObj "list" vs.toArray n)) (hp:Paired (TupI s.heap) ks vs) (hne:2 <= ks.length -> ∀ k ∈ ks,k ≠ []) (h64:vs.length < 64)
  (q:∀ (h':Heap) (out:List Value) (c:Nat),(∀ b o,b ≠ a -> s.heap.get? b = some o -> h'.get? b = some o) -> h'.get? a = some (seqObj "list" out.toArray c) -> (∀ R:List Key -> Value -> Prop,Paired R ks vs -> Paired R (srtK ks) out) -> P (.done (.ret .none)) { s with heap:=h' }) :
  wpAny (model prog w) A (Builtin.«list.sort» ⟨[.ref a],[]⟩) P E s:=by
 have hl:=paired_len hp
 have ha:a < s.heap.objs.size:=Heap.lt_size ho
 have sb:=Heap.SameBut.update s.heap a (Obj.mapSeq fun _=>(#[]:Array Value))
 obtain ⟨e1,ho1⟩:∃ e1,(s.heap.update a (Obj.mapSeq fun _=>(#[]:Array Value))).get? a = some (seqObj "list" #[] e1):=⟨_,get?_update_seq ho fun _=>#[]⟩
 rw [list_sort_plain]
 refine wpAny_bind (listItems_at ho rfl (wpAny_bind (listUpdate_at ho rfl ?_ (by rw [List.size_toArray,sizeLine_eq]; omega) (Nat.zero_le _))))
 refine wpAny_bind (seqEpoch_at ho1 rfl (wpAny_bind (wpAny_newTuple ?_ (by show vs.length <= _; rw [sizeLine_eq]; omega))))
 refine wpAny_bind (wpAny_newList (wpAny_holding ?_) (Nat.zero_le _))
 show wpAny (model prog w) A _ P E { s with heap:=((s.heap.update a (Obj.mapSeq fun _=>(#[]:Array Value))).push (seqObj "tuple" vs.toArray 0)).push (seqObj "list" #[] 0) }
 have kp:∀ b o,b ≠ a -> s.heap.get? b = some o -> (((s.heap.update a (Obj.mapSeq fun _=>(#[]:Array Value))).push (seqObj "tuple" vs.toArray 0)).push (seqObj "list" #[] 0)).get? b = some o:=fun b o hb e =>
  Heap.get?_push_of_some _ (Heap.get?_push_of_some _ ((sb.2 b hb).trans e))
 have ho3:(((s.heap.update a (Obj.mapSeq fun _=>(#[]:Array Value))).push (seqObj "tuple" vs.toArray 0)).push (seqObj "list" #[] 0)).get? a = some (seqObj "list" #[] e1):=Heap.get?_push_of_some _ (Heap.get?_push_of_some _ ho1)
 generalize ((s.heap.update a (Obj.mapSeq fun _=>(#[]:Array Value))).push (seqObj "tuple" vs.toArray 0)).push (seqObj "list" #[] 0) = h3 at kp ho3
 have hp3:Paired (TupI h3) ks vs:=paired_mapR hp fun k v t=>t.keep ho kp
 dsimp only
 have fin:∀ (st:SortSt) (out:List Value),(arrOf st).map (·.2) = out.toArray -> failedOf st = none -> out.length < 64 -> (∀ R:List Key -> Value -> Prop,Paired R ks vs -> Paired R (srtK ks) out) ->
   wpAny (model prog w) A (do
    let touched:=(← seqEpoch a) != e1
    Builtin.List.listUpdate (.ref a) fun _=>(arrOf st).map (·.2)
    if let some e:=failedOf st then rule "list.sort.comparison-raised"; throw e
    if touched then rule "list.sort.modified"; raiseError "ValueError" "list modified during sort"
    ret .none) P E { s with heap:=h3 }:=by
  intro st out e f hz hR
  rw [e,f]
  refine wpAny_bind (seqEpoch_at ho3 rfl ?_)
  refine wpAny_bind (listUpdate_at ho3 rfl ?_ (Nat.zero_le _) (by show out.toArray.size <= _; rw [List.size_toArray,sizeLine_eq]; omega))
  simp only [bne_self_eq_false,Bool.false_eq_true,if_false]
  refine wpAny_pure (q _ out _ (fun b o hb e=>?_) (get?_update_seq ho3 fun _=>out.toArray) hR)
  exact ((Heap.SameBut.update h3 a (Obj.mapSeq fun _=>out.toArray)).2 b hb).trans (kp b o hb e)
 by_cases h2:vs.length < 2
 ·have hz:vs.toArray.size < 2:=by rw [List.size_toArray]; exact h2
  rw [if_pos hz,if_pos hz]
  refine wpAny_bind (wpAny_pure (wpAny_bind (wpAny_pure ?_)))
  refine fin _ vs ?_ rfl h64 fun R hR=>?_
  ·show (vs.toArray.zip vs.toArray).map (·.2) = vs.toArray
   apply Array.toList_inj.mp
   simp [List.map_snd_zip]
  ·unfold srtK
   rw [if_pos (by omega)]
   exact hR
 ·have hz:¬ vs.toArray.size < 2:=by rw [List.size_toArray]; exact h2
  rw [if_neg hz,if_neg hz]
  obtain ⟨fs,t1,t2,t3⟩:=kat_of hp3 (hne (by omega))
  refine wpAny_bind (kat_kind (s:={ s with heap:=h3 }) (T:=.type "int") t1 (by omega) (fun v hv=>?_) (by decide) ?_)
  ·obtain ⟨i,t,rfl⟩:=t3 v hv
   exact Looks.of_pure rfl
  ·refine wpAny_bind (wpAny_mono (kat_run (Q:=fun st' s'=>s' = { s with heap:=h3 } /\ (arrOf st').map (·.2) = List.toArray ((kRun (fun i j=>lexI (ks.getD i []) (ks.getD j [])) (kas_sort ks.length)).toList.map fun i=>vs.getD i Value.none) /\ failedOf st' = none) (G:=fun p s'=>s' = { s with heap:=h3 } /\ p = kRun (fun i j=>lexI (ks.getD i []) (ks.getD j [])) (kas_sort ks.length)) rfl (by omega) h64 (fun p st' s' a1 a2 a3 a4=>?_) ?_) (fun r s' hq=>?_) fun _ _ x=>x)
   ·obtain ⟨rfl,rfl⟩:=a4
    exact ⟨rfl,kat_snds rfl a2,a3⟩
   ·rw [← hl]
    refine KGood.wp (N:=ks.length) (P:=PmN ks.length) (fun i j C hi hj hC=>?_) _ _ (good_sort (by omega)) ⟨rfl,rfl⟩
    show wpAny (model prog w) A (keyLt' _ (vs.getD i Value.none) (vs.getD j Value.none)) C (fun _ _=>False) _
    exact lt_tups (s:={ s with heap:=h3 }) (paired_get hp3 i hi) (paired_get hp3 j hj) hC
   ·obtain ⟨⟨⟩,st'⟩:=r
    obtain ⟨rfl,e,f⟩:=hq
    refine fin st' _ e f ?_ fun R hR=>?_
    ·have:=(KGood.end (fun i j=>lexI (ks.getD i []) (ks.getD j [])) _ (good_sort (N:=ks.length) (by omega))).length_eq
     rw [List.length_range] at this
     rw [List.length_map,this,hl]
     exact h64
    ·unfold srtK
     rw [if_neg (by omega)]
     refine paired_pick hR _ fun i hi=>?_
     have:=KGood.end (fun i j=>lexI (ks.getD i []) (ks.getD j [])) _ (good_sort (N:=ks.length) (by omega))
     exact List.mem_range.mp (this.mem_iff.mp hi)
end
end L2
namespace L2
open PySem PySem.Spec PyProof.Rows PySem.W
section
variable {X:Cx}
def IsKey (H:Hp) (k:List Key) (v:V):Prop:=∃ b,v = .ref b /\ H b = some (.tup (k.map kV))
def onlyI (k:List Key):Prop:=∀ x ∈ k,∃ i:Int,x = .inl i
theorem vals_isI:∀ {k:List Key} {us:List Value},onlyI k -> Vals (k.map kV) us -> Paired isI k us
 | [],us,_,h=>by cases h; exact .nil
 | x :: k,us,hi,h=>by
  obtain ⟨i,rfl⟩:=hi _ List.mem_cons_self
  rw [List.map_cons] at h
  cases h with
  | cons h1 h2 =>
   obtain ⟨t,rfl⟩:=(show ∃ t,_ = Value.int i t from h1)
   exact .cons ⟨i,t,rfl,rfl⟩ (vals_isI (fun y hy=>hi y (List.mem_cons_of_mem _ hy)) h2)
theorem Inv.tupI {pins:List (Addr × Obj)} {σ:St} {H:Hp} {s:Shared} {k:List Key} {b:Addr} (I:Inv X pins σ H s) (hi:onlyI k) (e:H b = some (.tup (k.map kV))):TupI s.heap k (.ref b):=by
 obtain ⟨_,its,r,o,h1,h2,n,h3⟩:=(show ObjOk X.prog X.w H s.heap b (.tup (k.map kV)) from I.hok b _ e)
 refine ⟨b,o,its.toArray,n,rfl,h1,?_,h3,?_⟩
 ·exact h2
 ·rw [List.toList_toArray]
  exact vals_isI hi r
theorem keys_of {H:Hp}:∀ {ks:List (List Key)} {out:List Value},Paired (fun k v=>∃ b,v = Value.ref b /\ H b = some (.tup (k.map kV))) ks out -> ∃ bs,Paired (IsKey H) ks bs /\ Vals bs out
 | _,_,.nil=>⟨[],.nil,.nil⟩
 | _,_,.cons h r=>by
  obtain ⟨b,rfl,e⟩:=h
  obtain ⟨bs,h1,h2⟩:=keys_of r
  exact ⟨.ref b :: bs,.cons ⟨b,rfl,e⟩ h1,.cons rfl h2⟩
theorem kt_keys {H:Hp} {kvs:List (List Key × V)} {xs:List (List Key × Addr × Value)} (r:KT H kvs xs):Paired (fun k v=>∃ b,v = Value.ref b /\ H b = some (.tup (k.map kV))) (kvs.map (·.1)) (xs.map fun x=>Value.ref x.2.1):=by
 induction r with
 | nil=>exact .nil
 | @cons p q ps qs h t ih=>exact .cons ⟨q.2.1,rfl,h.2.1⟩ ih
theorem paired_mem {α β:Type} {R:α -> β -> Prop} {xs:List α} {ys:List β} (h:Paired R xs ys):Paired (fun a b=>a ∈ xs /\ R a b) xs ys:=by
 induction h with
 | nil=>exact .nil
 | cons h _ ih=>exact .cons ⟨List.mem_cons_self,h⟩ (paired_mapR ih fun a b z=>⟨List.mem_cons_of_mem _ z.1,z.2⟩)
theorem call_sortD (hc:X.calm = true):CallR X (.builtin "sorted") (fun xs H Q=>∃ a kvs,xs = [.ref a] /\ H a = some (.dT kvs) /\ (∀ k ∈ kvs.map (·.1),onlyI k) /\ (2 <= kvs.length -> ∀ k ∈ kvs.map (·.1),k ≠ []) /\ kvs.length < 64 /\
  ∀ l bs,H l = none -> Paired (IsKey H) (srtK (kvs.map (·.1))) bs -> Q (.ref l) (upd H l (.lst bs))):=by
 intro pins s σ H xs us Q I r h
 obtain ⟨a,kvs,rfl,e,hi,hne,h64,q⟩:=h
 obtain ⟨u,rfl,e2⟩:=vals1 r
 cases e2
 obtain ⟨z,lo,xs,rel,o,es,ep,g1,g2,g3,g4,g5,g6⟩:=dt_of I.hok e
 have hsz:es.size = xs.length:=size_of_entries g4
 have hxl:kvs.length = xs.length:=Paired.length rel
 refine Calls.call_function_entry kind_sorted plain_sorted entry_sorted (args_sorted1 _) ?_
 unfold Builtin.«sorted»
 refine wpAny_bind (m:=checkCount "sorted" 1 1 _) (wpAny_pure ?_)
 refine wpAny_bind (kdu_collect (src_raw lo es ep) (I.ok.hd hc) ⟨o,g1,g2,g3⟩ (by rw [sizeLine_eq]; omega) fun h' tk acc hk hI=>?_)
 have hacc:acc.toList = xs.map fun x=>Value.ref x.2.1:=by
  apply List.ext_getElem?
  intro i
  rw [Array.getElem?_toList]
  cases hx:xs[i]? with
  | none =>
   have h1:xs.length <= i:=by simpa using hx
   rw [List.getElem?_map,hx,Array.getElem?_eq_none (by rw [hI.1]; omega)]
   rfl
  | some x =>
   have h1:i < xs.length:=(List.getElem?_eq_some_iff.mp hx).1
   obtain ⟨v,hv⟩:∃ v,acc[i]? = some v:=⟨acc[i]'(by rw [hI.1]; omega),by simp [hI.1,hsz,h1]⟩
   have h2:(es[i]?).map (·.key) = some v:=hI.2 i v hv
   rw [entry_at g4 i,hx] at h2
   rw [hv,List.getElem?_map,hx]
   simpa [entryOfKey] using h2.symm
 rw [hacc]
 have I1:Inv X pins σ H { s with heap:=h',toks:=tk }:=I.kept hk
 refine wpAny_bind (wpAny_newList ?_ (by rw [List.length_map,sizeLine_eq]; omega))
 have hoL:(h'.push (seqObj "list" (xs.map fun x=>Value.ref x.2.1).toArray 0)).get? h'.objs.size = some (seqObj "list" (xs.map fun x=>Value.ref x.2.1).toArray 0):=Heap.get?_push_size _ rfl
 refine wpAny_bind (wpAny_holding (wpAny_call_entry slot_list_sort ⟨_,hoL,rfl⟩ entry_list_sort ?body (args_list_sort _)))
 case body =>
  have kk:=kt_keys rel
  refine sort_tups (s:={ s with heap:=h'.push (seqObj "list" (xs.map fun x=>Value.ref x.2.1).toArray 0),toks:=tk }) hoL (ks:=kvs.map (·.1)) (paired_mapR (paired_mem kk) (S:=TupI _) fun k v z=>?_) (fun h2=>hne (by simpa using h2)) (by rw [List.length_map]; omega) fun h4 out c kp ho hR=>?_
  ·obtain ⟨hm,b,rfl,hb⟩:=z
   exact ((I1.kept (t':=tk) fun b o e=>Heap.get?_push_of_some _ e).tupI (hi k hm) hb)
  ·obtain ⟨bs,p1,p2⟩:=keys_of (hR _ kk)
   have hb:bs.length <= sizeLine:=by
    rw [← paired_len p1,(srtK_perm _).length_eq,List.length_map]
    exact z
   exact ⟨_,rfl,wpAny_pure ⟨_,rfl,.ref h'.objs.size,upd H h'.objs.size (.lst bs),I1.laid (o:=.lst bs) (fun b u e=>kp b u (Nat.ne_of_lt (Heap.lt_size e)) (Heap.get?_push_of_some _ e)) (Nat.le_refl _) ⟨hb,out,c,p2,ho⟩,rfl,q _ bs (I1.hok.fresh (Nat.le_refl _)) p1⟩⟩
end
end L2
namespace PySem
section
variable {prog:Program} {w:World} {A:Around} {E:Value -> Shared -> Prop} {s:Shared}
set_option maxRecDepth 100000 in
set_option maxHeartbeats 3200000 in
theorem call_set_tup {b:Addr} {its:Array Value} {ks:List Int} {R:Value -> Shared -> Prop} (calm:A.handled = none) (tp:s.heap.IsTuple b its) (isints:PyProof.Rows.IntsAre its.toList ks) (few:its.size + 1 < scanBound)
  (q:∀ (h2:Heap) (tk:Nat),h2.SetOf (intKind prog w) s.heap.objs.size (fun k=>(PyProof.Rows.firstMet (fun i=>ks.getD i 0) its.size).any (· == k)) (PyProof.Rows.firstMet (fun i=>ks.getD i 0) its.size).length ->
   (∀ c o,c < s.heap.objs.size -> s.heap.get? c = some o -> h2.get? c = some o) -> R (.ref s.heap.objs.size) { s with heap:=h2,toks:=tk }):wpAny (model prog w) A (call (.type "set") [.ref b]) R E s:=by
 obtain ⟨c,tl,hmro⟩:=F.called_set.mro
 have hmade:=F.called_set.made
 have hsub:=F.called_set.sub
 refine wpAny_call (codeAny_of_tree ?_)
 show wpAny _ _ (callAny (.type "set") _) _ _ _
 refine wpAny_pure ⟨Code.quiet_builtin _ (by decide +kernel),codeAny_builtin F.entry_type_call ?_⟩
 rw [Around.under_plain (weight_type_call_type "set" [.ref b] []) rfl]
 have n1:=F.called_set.notType
 have n2:=F.called_set.canCreate
 have n3:=F.typeCall_set_1 (.ref b)
 repeat (any_goals (first | assumption | wp_step))
 refine codeAny_mono (code_set_new_1 (.ref b) (E:=E) (Q₁:=fun obj z=>∃ led:Bool,obj = .ref s.heap.objs.size /\ z = { s with heap:=s.heap.push { cls:=.type "set",dict:=none,data:=.set #[] 0 (.fresh 0 0 led) } }) fun led=>⟨led,rfl,rfl⟩) fun r z hr=>?_
 cases r with
 | error e=>exact hr
 | ok fl =>
  cases fl with
  | ret obj =>
   obtain ⟨led,rfl,rfl⟩:=hr
   have g1:(s.heap.push { cls:=.type "set",dict:=none,data:=.set #[] 0 (.fresh 0 0 led) }).get? s.heap.objs.size = some { cls:=.type "set",dict:=none,data:=.set #[] 0 (.fresh 0 0 led) }:=Heap.get?_push_size _ rfl
   have ty:Shared.TypeIs { s with heap:=s.heap.push { cls:=.type "set",dict:=none,data:=.set #[] 0 (.fresh 0 0 led) } } (.ref s.heap.objs.size) "set":=⟨_,g1,rfl⟩
   have i1:=F.called_set.init.lookup
   have i2:=F.called_set.init.bind (.ref s.heap.objs.size)
   repeat (any_goals (first | assumption | wp_step))
   refine codeAny_mono (codeAny_call_builtin (R:=wants (fun r z=>r = .none /\ ∃ h2 tk,z = { s with heap:=h2,toks:=tk } /\
     h2.SetOf (intKind prog w) s.heap.objs.size (fun k=>(PyProof.Rows.firstMet (fun i=>ks.getD i 0) its.size).any (· == k)) (PyProof.Rows.firstMet (fun i=>ks.getD i 0) its.size).length /\
     (∀ c o,c < s.heap.objs.size -> s.heap.get? c = some o -> h2.get? c = some o)) E) F.called_set.init.plain F.entry_set_init (check_set_init_1 ty ?_)) fun r2 z2 hr2=>?_
   ·have tp1:(s.heap.push { cls:=.type "set",dict:=none,data:=.set #[] 0 (.fresh 0 0 led) }).IsTuple b its:=by
     obtain ⟨o,e,x⟩:=tp
     exact ⟨o,Heap.get?_push_of_some _ e,x⟩
    have blt:b < s.heap.objs.size:=by
     obtain ⟨o,e,x⟩:=tp
     exact Heap.lt_size e
    obtain ⟨o,e,oc,n,od⟩:=id tp1
    obtain ⟨ocls,odict,odata,oslots⟩:=o
    simp only at oc od
    subst oc; subst od
    have t1:=F.sub_tuple_set
    have t2:=F.sub_tuple_frozenset
    have t3:(Value.type "tuple" == Value.type "dict") = false:=by decide
    unfold Builtin.«set.__init__» noKeywords Builtin.Frozenset.updateFrom
    generalize hPI:pyIter = PI
    wp_walk
    subst hPI
    refine wpAny_pyIter_tuple tp1 ?_
    refine wpAny_bind (wpAny_runValue ?_)
    have calm3:A.in1.in1.in1.handled = none:=by simp [calm]
    have ne:b ≠ (s.heap.push { cls:=.type "set",dict:=none,data:=.set #[] 0 (.fresh 0 0 led) }).objs.size:=by
     rw [Heap.size_push]; exact Nat.ne_of_lt (Nat.lt_succ_of_lt blt)
    have off:s.heap.objs.size ∉ [(s.heap.push { cls:=.type "set",dict:=none,data:=.set #[] 0 (.fresh 0 0 led) }).objs.size,b]:=by
     rw [Heap.size_push]; simp only [List.mem_cons,List.mem_singleton,List.not_mem_nil,or_false,not_or]
     exact ⟨Nat.ne_of_lt (Nat.lt_succ_self _),Nat.ne_of_gt blt⟩
    have val:∀ (i:Nat) (v:Value),its[i]? = some v -> ∃ t,v = .int ((fun i=>ks.getD i 0) i) t:=fun i v hv=>PyProof.Rows.IntsAre.int_at isints i v (by rw [Array.getElem?_toList]; exact hv)
    refine PyProof.Rows.codeAny_set_update_loopS ((Walks.tuple calm3 _ b ne its).toS) s.heap.objs.size off (fun i=>ks.getD i 0) val few (its.size - 0) 0 _ (by omega) (Nat.zero_le _) ⟨⟨_,Heap.get?_push_size _ rfl,rfl,rfl⟩,?_⟩ ?s0 ?r0
    ·obtain ⟨o,e,x⟩:=tp1
     exact ⟨o,Heap.get?_push_of_some _ e,x⟩
    case s0 =>
     have hget:((s.heap.push { cls:=.type "set",dict:=none,data:=.set #[] 0 (.fresh 0 0 led) }).push { cls:=.type "tuple_iterator",data:=.fields #[.ref b,.int 0 0] }).get? s.heap.objs.size
       = some { cls:=.type "set",dict:=none,data:=.set #[] 0 (.fresh 0 0 led) }:=Heap.get?_push_of_some _ g1
     exact PyProof.Rows.SetOf_congr ((PyProof.Rows.setObjOf_fresh (knd:=intKind prog w) led).setOf hget (by unfold scanBound; omega)) (fun _=>rfl) rfl
    case r0 =>
     intro z hm hS
     obtain ⟨h2,g',d',tk',os'⟩:=z
     have eg:g' = s.gens:=hm.gens
     have ed:d' = s.drawn:=hm.drawn
     have eo:os' = s.os:=hm.os
     subst eg; subst ed; subst eo
     show wpAny _ _ _ _ _ _
     refine wpAny_pure ?_
     show wpAny _ _ (ret Value.none) _ _ _
     refine wpAny_pure ⟨rfl,h2,tk',rfl,hS,fun c o hc e=>?_⟩
     have hc2:c ≠ (s.heap.push { cls:=.type "set",dict:=none,data:=.set #[] 0 (.fresh 0 0 led) }).objs.size:=by
      rw [Heap.size_push]; exact Nat.ne_of_lt (Nat.lt_succ_of_lt hc)
     exact hm.heap c o (by simp only [List.mem_cons,List.mem_singleton,List.not_mem_nil,or_false,not_or]; exact ⟨Nat.ne_of_lt hc,hc2⟩) (Heap.get?_push_of_some _ (Heap.get?_push_of_some _ e))
   ·cases r2 with
    | error e=>exact hr2
    | ok fl2 =>
     cases fl2 with
     | ret r =>
      obtain ⟨rfl,h2,tk,rfl,hS,hk⟩:=hr2
      repeat (any_goals (first | assumption | wp_step))
      exact q _ _ hS hk
     | _=>exact hr2.elim
  | _=>exact hr.elim
end
end PySem
namespace DL
open PySem PySem.Spec L2
open PyProof.Rows hiding St
def plainO:HO -> Prop
 | .lst _=>True
 | .dT _=>True
 | _=>False
section
variable {K:PySem.W.Frag} {pp:Option Addr} {M:List Addr} {H:Hp}
theorem Mv.writeX {l:Addr} {o u:HO} (hl:H l = some o) (ho:plainO o) (hm:l ∈ M) (hp:pp ≠ some l):Mv K pp M H M (upd H l u):=by
 refine ⟨fun a zs e=>by rw [upd_ne (ne_of e hl (by rintro rfl; exact ho))]; exact e,fun a zs e n q=>⟨by rw [upd_ne (by rintro rfl; exact n hm)]; exact e,n⟩,fun p e h=>?_⟩
 obtain ⟨a,ns,t,k,h⟩:=h
 refine ⟨a,ns,t,k,?_,?_,h.t0⟩
 ·rw [upd_ne (by rintro rfl; exact hp e)]; exact h.lst
 ·rcases h.scr with ⟨o',e⟩ | e
  ·refine .inl ⟨o',?_⟩
   rw [upd_ne (ne_of e hl (by rintro rfl; exact ho))]; exact e
  ·exact .inr e
end
def k1D:Key -> D
 | .inl i=>.int i
 | .inr x=>.str x
def keyD (k:List Key):D:=.tup (k.map k1D)
theorem reps_key {K:PySem.W.Frag} {pp:Option Addr} {M:List Addr} {H:Hp}:∀ {k:List Key} {xs:List V},Reps K pp M H (k.map k1D) xs -> xs = k.map kV
 | [],xs,h=>by simpa only [List.map_nil,Reps] using h
 | .inl i :: r,xs,h=>by
  simp only [List.map_cons,k1D,Reps,Rep] at h
  obtain ⟨x,t,rfl,rfl,h⟩:=h
  rw [reps_key h]; rfl
 | .inr i :: r,xs,h=>by
  simp only [List.map_cons,k1D,Reps,Rep] at h
  obtain ⟨x,t,rfl,rfl,h⟩:=h
  rw [reps_key h]; rfl
theorem key_reps {K:PySem.W.Frag} {pp:Option Addr} {M:List Addr} {H:Hp}:∀ (k:List Key),Reps K pp M H (k.map k1D) (k.map kV)
 | []=>by simp only [List.map_nil,Reps]
 | .inl i :: r=>by
  simp only [List.map_cons,k1D,kV,Reps,Rep]
  exact ⟨_,_,rfl,rfl,key_reps r⟩
 | .inr i :: r=>by
  simp only [List.map_cons,k1D,kV,Reps,Rep]
  exact ⟨_,_,rfl,rfl,key_reps r⟩
theorem rep_keyD {K:PySem.W.Frag} {pp:Option Addr} {M:List Addr} {H:Hp} {k:List Key} {v:V} (h:Rep K pp M H (keyD k) v):∃ b,v = .ref b /\ H b = some (.tup (k.map kV)):=by
 simp only [keyD,Rep] at h
 obtain ⟨b,xs,rfl,hb,h⟩:=h
 rw [reps_key h] at hb
 exact ⟨b,rfl,hb⟩
theorem keyD_rep {K:PySem.W.Frag} {pp:Option Addr} {M:List Addr} {H:Hp} {k:List Key} {b:Addr} (h:H b = some (.tup (k.map kV))):Rep K pp M H (keyD k) (.ref b):=by
 simp only [keyD,Rep]
 exact ⟨b,_,rfl,h,key_reps k⟩
section
variable {α β:Type}
def findA (ps:List (List Key × α)) (k:List Key):Option α:=(ps.find? fun p=>decide (p.1 = k)).map (·.2)
def putA (ps:List (List Key × α)) (k:List Key) (x:α):List (List Key × α) :=
 if (ps.any fun p=>decide (p.1 = k)) = true then ps.map (fun p=>if p.1 = k then (p.1,x) else p) else ps ++ [(k,x)]
abbrev PK (R:α -> β -> Prop):List (List Key × α) -> List (List Key × β) -> Prop:=Paired fun p q=>p.1 = q.1 /\ R p.2 q.2
theorem PK.find {R:α -> β -> Prop} {ps:List (List Key × α)} {qs:List (List Key × β)} (h:PK R ps qs) (k:List Key):(findA ps k = none /\ findA qs k = none) ∨ ∃ x y,findA ps k = some x /\ findA qs k = some y /\ R x y:=by
 induction h with
 | nil=>exact .inl ⟨rfl,rfl⟩
 | @cons p q ps qs h _ ih =>
  unfold findA at ih ⊢
  by_cases e:p.1 = k
  ·have e':q.1 = k:=h.1.symm.trans e
   refine .inr ⟨p.2,q.2,?_,?_,h.2⟩
   ·rw [List.find?_cons_of_pos (by simpa using e)]; rfl
   ·rw [List.find?_cons_of_pos (by simpa using e')]; rfl
  ·have e':¬ q.1 = k:=fun z=>e (h.1.trans z)
   rw [List.find?_cons_of_neg (by simpa using e),List.find?_cons_of_neg (by simpa using e')]
   exact ih
theorem PK.any {R:α -> β -> Prop} {ps:List (List Key × α)} {qs:List (List Key × β)} (h:PK R ps qs) (k:List Key):(ps.any fun p=>decide (p.1 = k)) = qs.any fun p=>decide (p.1 = k):=by
 induction h with
 | nil=>rfl
 | @cons p q ps qs h _ ih=>simp only [List.any_cons,ih,h.1]
theorem PK.put {R:α -> β -> Prop} {ps:List (List Key × α)} {qs:List (List Key × β)} (h:PK R ps qs) (k:List Key) {x:α} {y:β} (r:R x y):PK R (putA ps k x) (putA qs k y):=by
 unfold putA
 rw [h.any k]
 by_cases e:(qs.any fun p=>decide (p.1 = k)) = true
 ·rw [if_pos e,if_pos e]
  clear e
  induction h with
  | nil=>exact .nil
  | @cons p q ps qs h _ ih =>
   rw [List.map_cons,List.map_cons]
   refine .cons ?_ ih
   by_cases e:p.1 = k
   ·rw [if_pos e,if_pos (h.1.symm.trans e)]; exact ⟨h.1,r⟩
   ·rw [if_neg e,if_neg (fun z=>e (h.1.trans z))]; exact h
 ·rw [if_neg e,if_neg e]
  exact Paired.snoc h ⟨rfl,r⟩
theorem PK.keys {R:α -> β -> Prop} {ps:List (List Key × α)} {qs:List (List Key × β)} (h:PK R ps qs):ps.map (·.1) = qs.map (·.1):=by
 induction h with
 | nil=>rfl
 | cons h _ ih=>simp only [List.map_cons,ih,h.1]
end
theorem find_val (kvs:List (List Key × V)) (k:List Key):findA kvs k = valV kvs k:=rfl
section
variable {K:PySem.W.Frag} {pp:Option Addr} {M M':List Addr} {H H':Hp}
theorem pk_of:∀ {kds:List (List Key × D)} {kvs:List (List Key × V)},kvs.map (·.1) = kds.map (·.1) -> Reps K pp M H (kds.map (·.2)) (kvs.map (·.2)) -> PK (Rep K pp M H) kds kvs
 | [],[],_,_=>.nil
 | [],_ :: _,h,_=>by simp at h
 | _ :: _,[],h,_=>by simp at h
 | p :: ps,q :: qs,h,r=>by
  simp only [List.map_cons,List.cons.injEq] at h
  simp only [List.map_cons,Reps] at r
  obtain ⟨x,t,e,r1,r2⟩:=r
  injection e with e1 e2
  subst e1 e2
  exact .cons ⟨h.1.symm,r1⟩ (pk_of h.2 r2)
theorem pk_reps {kds:List (List Key × D)} {kvs:List (List Key × V)} (h:PK (Rep K pp M H) kds kvs):Reps K pp M H (kds.map (·.2)) (kvs.map (·.2)):=by
 induction h with
 | nil=>simp only [List.map_nil,Reps]
 | cons h _ ih=>exact .cons h.2 ih
theorem PK.imp {α β:Type} {R S:α -> β -> Prop} {ps:List (List Key × α)} {qs:List (List Key × β)} (h:PK R ps qs) (f:∀ a b,R a b -> S a b):PK S ps qs:=by
 induction h with
 | nil=>exact .nil
 | cons h _ ih=>exact .cons ⟨h.1,f _ _ h.2⟩ ih
def dvO (kds:List (List Key × D)):O:=.dct (kds.map (·.1)) (kds.map fun p=>.val p.2)
theorem ro_dv {kds:List (List Key × D)} {v:V} {A:List Addr}:RO K pp M H (dvO kds) v A ↔ ∃ a kvs,v = .ref a /\ H a = some (.dT kvs) /\ A = [a] /\ PK (Rep K pp M H) kds kvs:=by
 have vals:∀ {kds:List (List Key × D)} {xs:List V} {B:List Addr},ROs K pp M H (kds.map fun p=>O.val p.2) xs B -> B = [] /\ Reps K pp M H (kds.map (·.2)) xs:=by
  intro kds
  induction kds with
  | nil=>intro xs B h; simp only [List.map_nil,ROs] at h; exact ⟨h.2,by simp only [List.map_nil,Reps]; exact h.1⟩
  | cons p ps ih =>
   intro xs B h
   simp only [List.map_cons,ROs,RO] at h
   obtain ⟨x,r,B1,C,rfl,rfl,⟨rfl,h1⟩,h2⟩:=h
   obtain ⟨rfl,h3⟩:=ih h2
   exact ⟨rfl,.cons h1 h3⟩
 constructor
 ·intro h
  simp only [dvO,RO] at h
  obtain ⟨a,kvs,B,rfl,ha,ek,rfl,r⟩:=h
  obtain ⟨rfl,r2⟩:=vals r
  exact ⟨a,kvs,rfl,ha,rfl,pk_of ek r2⟩
 ·rintro ⟨a,kvs,rfl,ha,rfl,r⟩
  simp only [dvO,RO]
  refine ⟨a,kvs,[],rfl,ha,r.keys.symm,rfl,?_⟩
  have:=ROs.vals (pk_reps r)
  rw [List.map_map] at this
  exact this
def dlO (kls:List (List Key × List D)):O:=.dct (kls.map (·.1)) (kls.map fun p=>.lst (p.2.map .val))
def PL (K:PySem.W.Frag) (pp:Option Addr) (M:List Addr) (H:Hp):List (List Key × List D) -> List (List Key × V) -> List Addr -> Prop
 | [],kvs,ls=>kvs = [] /\ ls = []
 | p :: ps,kvs,ls=>∃ l xs r t,kvs = (p.1,.ref l) :: r /\ ls = l :: t /\ H l = some (.lst xs) /\ Reps K pp M H p.2 xs /\ PL K pp M H ps r t
theorem rol_vals {ds:List D} {xs:List V} {B:List Addr} (h:ROs K pp M H (ds.map O.val) xs B):B = [] /\ Reps K pp M H ds xs:=by
 induction ds generalizing xs B with
 | nil=>simp only [List.map_nil,ROs] at h; exact ⟨h.2,by simp only [Reps]; exact h.1⟩
 | cons d ds ih =>
  simp only [List.map_cons,ROs,RO] at h
  obtain ⟨x,r,B1,C,rfl,rfl,⟨rfl,h1⟩,h2⟩:=h
  obtain ⟨rfl,h3⟩:=ih h2
  exact ⟨rfl,.cons h1 h3⟩
theorem pl_of:∀ {kls:List (List Key × List D)} {kvs:List (List Key × V)} {B:List Addr},kvs.map (·.1) = kls.map (·.1) -> ROs K pp M H (kls.map fun p=>O.lst (p.2.map .val)) (kvs.map (·.2)) B -> PL K pp M H kls kvs B
 | [],[],B,_,h=>by simp only [List.map_nil,ROs] at h; exact ⟨rfl,h.2⟩
 | [],_ :: _,_,h,_=>by simp at h
 | _ :: _,[],_,h,_=>by simp at h
 | p :: ps,q :: qs,B,e,h=>by
  simp only [List.map_cons,List.cons.injEq] at e
  simp only [List.map_cons,ROs,RO] at h
  obtain ⟨x,r,B1,C,e1,rfl,⟨l,xs,B2,rfl,hl,rfl,h1⟩,h2⟩:=h
  injection e1 with e2 e3
  subst e3
  obtain ⟨rfl,h3⟩:=rol_vals h1
  exact ⟨l,xs,qs,C,by rw [← e.1,← e2],rfl,hl,h3,pl_of e.2 h2⟩
theorem pl_ro:∀ {kls:List (List Key × List D)} {kvs:List (List Key × V)} {B:List Addr},PL K pp M H kls kvs B -> kvs.map (·.1) = kls.map (·.1) /\ ROs K pp M H (kls.map fun p=>O.lst (p.2.map .val)) (kvs.map (·.2)) B
 | [],kvs,B,h=>by
  obtain ⟨rfl,rfl⟩:=h
  simp only [List.map_nil,ROs]
  exact ⟨trivial,trivial,trivial⟩
 | p :: ps,kvs,B,h=>by
  obtain ⟨l,xs,r,t,rfl,rfl,hl,h1,h2⟩:=h
  obtain ⟨e,h3⟩:=pl_ro h2
  refine ⟨by simp only [List.map_cons,e],?_⟩
  simp only [List.map_cons,ROs,RO]
  exact ⟨.ref l,_,[l],t,rfl,rfl,⟨l,xs,[],rfl,hl,rfl,ROs.vals h1⟩,h3⟩
theorem ro_dl {kls:List (List Key × List D)} {v:V} {A:List Addr}:RO K pp M H (dlO kls) v A ↔ ∃ a kvs ls,v = .ref a /\ H a = some (.dT kvs) /\ A = a :: ls /\ PL K pp M H kls kvs ls:=by
 constructor
 ·intro h
  simp only [dlO,RO] at h
  obtain ⟨a,kvs,B,rfl,ha,ek,rfl,r⟩:=h
  exact ⟨a,kvs,B,rfl,ha,rfl,pl_of ek r⟩
 ·rintro ⟨a,kvs,ls,rfl,ha,rfl,r⟩
  simp only [dlO,RO]
  obtain ⟨e,r⟩:=pl_ro r
  exact ⟨a,kvs,ls,rfl,ha,e,rfl,r⟩
end
end DL
namespace DL
open PySem PySem.Spec L2
open PyProof.Rows hiding St
variable [Frm]
section
variable {K:PySem.W.Frag} {F:Fx} {M M':List Addr} {H H':Hp} {σ:St} {ρ:DS} {i:Nat} {q q':O}
theorem RSt.objStep (r:RSt K F M H σ ρ) (h:ρ[i]? = some (.obj q)) (m:Mv K F.pp M H M' H')
  (k:∀ v A,σ[i]? = some (some v) -> A.Nodup -> RO K F.pp M H q v A -> (∀ a ∈ A,a ∈ M /\ F.H0 a = none /\ F.pp ≠ some a) -> ∃ A',A'.Nodup /\ RO K F.pp M' H' q' v A' /\ (∀ b ∈ A',b ∈ M' /\ F.H0 b = none /\ F.pp ≠ some b /\ (b ∈ A ∨ b ∉ M)) /\
   ∀ a,a ∈ M -> F.pp ≠ some a -> F.H0 a = none -> a ∉ A -> a ∈ M' /\ ∀ x,H a = some x -> H' a = some x)
  (sub:∀ a ∈ F.M0,a ∈ M') (same:SameP K F.pp F.H0 H') (liv:Lv F.pp M' H'):RSt K F M' H' σ (ρ.set i (.obj q')):=by
 obtain ⟨v,A,ho,nd,hq,hA,hoth⟩:=r.objAt h
 obtain ⟨_,_,_,_,ke⟩:=k v A ho nd hq hA
 refine ⟨by simp [r.len],fun j s o h1 h2=>?_,r.ow.step m i (fun _ _=>rfl) (fun j e=>List.getElem?_set_ne (Ne.symm e)) (fun A1 hA1 hB1=>?_),sub,same,r.old,liv,Frm.cl _ _ _ _ _ _ r.lk m⟩
 ·by_cases e:i = j
  ·subst e
   rw [ho] at h2
   rw [set_self h1]
   cases h2
   exact ⟨v,rfl⟩
  ·rw [List.getElem?_set_ne e] at h1
   have q':=r.sl j s o h1 h2
   cases s with
   | nil=>trivial
   | val d=>obtain ⟨v,e,q⟩:=q'; exact ⟨v,e,q.mv m⟩
   | pin w d=>obtain ⟨v,e,ew,q⟩:=q'; exact ⟨v,e,ew,q.mv m⟩
   | own es =>
    obtain ⟨l',zs,rfl,hm',h0',hp',hl'',hr'⟩:=q'
    have nl:l' ∉ A:=hoth j _ _ (Ne.symm e) h1 h2 _ ⟨es,rfl⟩ rfl
    obtain ⟨k1,k2⟩:=ke l' hm' hp' h0' nl
    exact ⟨l',zs,rfl,k1,h0',hp',k2 _ hl'',hr'.mv m⟩
   | obj q=>exact q'
 ·obtain ⟨nd1,v1,e1,hq1⟩:=hA1 _ _ h ho
  cases e1
  obtain ⟨A',nd',ro,hb,ha⟩:=k v A1 ho nd1 hq1 hB1
  refine ⟨A',fun s o e1 e2=>?_,hb,ha⟩
  rw [ho] at e2
  cases e2
  rw [set_self e1]
  exact ⟨nd',v,rfl,ro⟩
theorem Lv.upd {pp:Option Addr} {l:Addr} {o:HO} (h:Lv pp M H):Lv pp M (L2.upd H l o):=by
 refine ⟨fun a ha=>?_,fun p e=>?_⟩
 ·by_cases z:a = l
  ·subst z; rw [upd_same]; intro z; cases z
  ·rw [upd_ne z]; exact h.m a ha
 ·by_cases z:p = l
  ·subst z; rw [upd_same]; intro z; cases z
  ·rw [upd_ne z]; exact h.p p e
theorem RSt.sameW {l:Addr} {o:HO} (r:RSt K F M H σ ρ) (h0:F.H0 l = none) (m:Mv K F.pp M H M' (L2.upd H l o)):SameP K F.pp F.H0 (L2.upd H l o):=by
 refine ⟨fun b o e n=>?_,fun p e h=>m.pen p e (r.same.pen p e h),fun b e=>?_⟩
 ·rw [upd_ne (by rintro rfl; rw [h0] at e; cases e)]
  exact r.same.keep b o e n
 ·by_cases z:b = l
  ·subst z; rw [upd_same]; intro z; cases z
  ·rw [upd_ne z]; exact r.same.live b e
end
section
variable {X:Cx}
def isObj:Sl -> Prop
 | .obj _=>True
 | _=>False
omit [Frm] in
theorem isObj_of {s:Sl} (h:isObj s):∃ q,s = .obj q:=by
 cases s <;> first | exact ⟨_,rfl⟩ | exact h.elim
abbrev dNewD (i:Nat):DTS:=fun E ρ=>E.nx (ρ.set i (.obj (.dct [] [])))
theorem ds_newD {i:Nat} {y:Str} {py dpos pos:Pos} (hN:X.N.Nodup) (hi:X.N[i]? = some y) (hx:Loc X.env.scope y) (hs:swapsWith (.Dict [] [] dpos) (some (.Name y py)) pos.line X.env = pure false:=by rfl)
  (hf:X.fn y = true ∨ X.env.scope.names.lookup y = some .local:=by first | exact .inl rfl | exact .inr rfl | assumption):PSD X (.Assign [.Name y py] (.Dict [] [] dpos) pos) (dNewD i):=by
 refine ⟨_,ps_set hN hi hx pe_dnewT hs hf,fun {F} M H σ ρ E D rs o q p hp=>?_⟩
 have lf:=rs.liv.fresh hp
 obtain ⟨m,rs2⟩:=rs.newObj (q:=.dct [] []) (A:=[p]) (v:=.ref p) (.new hp) (by simp) (fun a ha=>by rw [List.mem_singleton.mp ha]; exact ⟨hp,lf.2⟩) (by simp only [RO,ROs]; exact ⟨p,[],[],rfl,upd_same,rfl,rfl,rfl,rfl⟩) i
 exact o.nx _ _ _ _ m rs2 q
abbrev dPutD (i:Nat) (tk te:DE):DTS:=fun E ρ=>te ρ fun d ρ1=>isObj (slot ρ1 i) /\ tk ρ1 fun dk ρ2=>∃ kds k,slot ρ2 i = .obj (dvO kds) /\ dk = keyD k /\ kds.length < sizeLine /\ E.nx (ρ2.set i (.obj (dvO (putA kds k d))))
omit [Frm] in
theorem pk_len {α β:Type} {R:α -> β -> Prop} {ps:List (List Key × α)} {qs:List (List Key × β)} (h:PK R ps qs):ps.length = qs.length:=paired_len h
theorem ds_putD {i r:Nat} {o ek e:Expr} {pos' pos:Pos} {tk te:DE} (hr:Room r X.A) (ho:PE X o (tVar i)) (hk:PED X ek tk) (he:PED X e te) (hs:swapsWith e (some (.Subscript o ek pos')) pos.line X.env = pure false:=by rfl) :
  PSD X (.Assign [.Subscript o ek pos'] e pos) (dPutD i tk te):=by
 obtain ⟨Tk,pk,rk⟩:=hk.run
 obtain ⟨Te,pe,re⟩:=he.run
 refine ⟨_,ps_dput (by have:=hr.units; omega) ho pk pe hs,fun {F} M H σ ρ E D rs oo h=>re M H σ ρ _ rs (he.mono _ _ _ (fun d ρ1 h M1 H1 v m1 rs1 r1=>?_) h)⟩
 obtain ⟨q0,e0⟩:=isObj_of h.1
 obtain ⟨v0,_,hv0,_⟩:=rs1.objAt (slot_get e0 (by intro z; cases z))
 refine ⟨v0,hv0,rk M1 H1 σ ρ1 _ rs1 (hk.mono _ _ _ (fun dk ρ2 h M2 H2 y m2 rs2 r2=>?_) h.2)⟩
 obtain ⟨kds,k,es,rfl,hl,h⟩:=h
 obtain ⟨b,rfl,hb⟩:=rep_keyD r2
 have g:=slot_get es (by intro z; cases z)
 obtain ⟨v1,A,hv1,nd,hq,hA,_⟩:=rs2.objAt g
 rw [hv0] at hv1
 cases hv1
 obtain ⟨a,kvs,rfl,ha,rfl,pk⟩:=ro_dv.mp hq
 obtain ⟨am,a0,ap⟩:=hA a (by simp)
 have mw:Mv X.K F.pp M2 H2 M2 (upd H2 a (.dT (putK kvs k v))):=.writeX ha trivial am ap
 refine ⟨a,_,rfl,DPut.t ha hb (by rw [← pk_len pk]; exact hl),oo.nx M2 _ σ _ ((m1.trans m2).trans mw) ?_ h⟩
 refine rs2.objStep g mw (fun v' A' hv' _ hq' hA'=>?_) rs2.sub (rs2.sameW a0 mw) rs2.liv.upd
 rw [hv0] at hv'
 cases hv'
 obtain ⟨a',kvs',e,ha',rfl,pk'⟩:=ro_dv.mp hq'
 cases e
 rw [ha] at ha'
 cases ha'
 refine ⟨[a],by simp,ro_dv.mpr ⟨a,_,rfl,upd_same,rfl,(pk'.imp fun x y z=>z.mv mw).put k ((r1.mv m2).mv mw)⟩,fun c hc=>?_,fun c hc _ _ hn=>⟨hc,fun x e=>?_⟩⟩
 ·rw [List.mem_singleton.mp hc]
  exact ⟨am,a0,ap,.inl (by simp)⟩
 ·rw [upd_ne (by rintro rfl; exact hn (by simp))]
  exact e
def isDct:Sl -> Prop
 | .obj (.dct _ _)=>True
 | _=>False
omit [Frm] in
theorem isDct_of {s:Sl} (h:isDct s):∃ ks os,s = .obj (.dct ks os):=by
 cases s with
 | obj q=>cases q with
  | dct ks os=>exact ⟨ks,os,rfl⟩
  | _=>exact h.elim
 | _=>exact h.elim
def gIxT:D -> D -> (D -> Prop) -> Prop:=fun x y P=>∃ (kds:List (List Key × D)) (k:List Key) (d:D),x = .dT (kds.map (·.1)) (kds.map (·.2)) /\ y = keyD k /\ findA kds k = some d /\ P d
theorem de_ixT {r:Nat} {a b:Expr} {ta tb:DE} {pos:Pos} (hr:Room r X.A) (ha:PED X a ta) (hb:PED X b tb) (hs:NoSl b):PED X (.Subscript a b pos) (dOp gIxT ta tb):=by
 have gm:∀ x y P P',(∀ d,P d -> P' d) -> gIxT x y P -> gIxT x y P':=fun x y P P' f ⟨kds,k,d,h1,h2,h3,h4⟩=>⟨kds,k,d,h1,h2,h3,f _ h4⟩
 obtain ⟨Ta,pa,ra⟩:=ha.run
 obtain ⟨Tb,pb,rb⟩:=hb.run
 refine ⟨dOp_mono gm ha hb,_,pe_dget (by have:=hr.units; omega) pa pb hs,fun {F} M H σ ρ Q rs h=>?_⟩
 refine ra M H σ ρ _ rs (ha.mono _ _ _ (fun x ρ1 h M1 H1 v m1 rs1 r1=>?_) h)
 refine rb M1 H1 σ ρ1 _ rs1 (hb.mono _ _ _ (fun y ρ2 h M2 H2 u m2 rs2 r2=>?_) h)
 obtain ⟨kds,k,d,rfl,rfl,ef,h⟩:=h
 obtain ⟨b,rfl,hb⟩:=rep_keyD r2
 have r1:=r1.mv m2
 simp only [Rep] at r1
 obtain ⟨c,kvs,rfl,_,_,hc,ek,rr⟩:=r1
 rcases (pk_of ek rr).find k with ⟨e1,e2⟩ | ⟨x,y,e1,e2,rxy⟩
 ·rw [ef] at e1; cases e1
 ·rw [ef] at e1
  cases e1
  rw [find_val] at e2
  exact ⟨c,y,rfl,e2 ▸ DGet.t hc hb,h M2 H2 y (m1.trans m2) rs2 rxy⟩
def gSortT:DSp:=fun ds P=>match ds with
 | [.dT ks _]=>((∀ k ∈ ks,onlyI k) /\ (2 <= ks.length -> ∀ k ∈ ks,k ≠ []) /\ ks.length < 64) /\ P (.lst ((srtK ks).map keyD))
 | _=>False
omit [Frm] in
theorem reps_keys {K:PySem.W.Frag} {pp:Option Addr} {M:List Addr} {H:Hp} {ks:List (List Key)} {bs:List V} (h:Paired (IsKey H) ks bs):Reps K pp M H (ks.map keyD) bs:=by
 induction h with
 | nil=>simp only [List.map_nil,Reps]
 | cons h _ ih =>
  obtain ⟨b,rfl,hb⟩:=h
  exact .cons (keyD_rep hb) ih
theorem cd_sortT (hc:X.calm = true:=by rfl):CallD X (.builtin "sorted") gSortT:=by
 refine ⟨fun ds P P' f h=>?_,_,call_sortD hc,fun {pp} M H ds vs Q lv r h=>?_⟩
 ·unfold gSortT at h ⊢
  split at h
  ·exact ⟨h.1,f _ h.2⟩
  ·exact h.elim
 ·unfold gSortT at h
  split at h
  ·rename_i ks es
   obtain ⟨⟨h1,h2,h3⟩,h⟩:=h
   simp only [Reps,Rep] at r
   obtain ⟨x,t,rfl,⟨a,kvs,rfl,_,_,ha,rfl,_⟩,rfl⟩:=r
   rw [List.length_map] at h2 h3
   refine ⟨a,kvs,rfl,ha,h1,h2,h3,fun l bs hl hp=>h _ _ (.new hl) ?_⟩
   simp only [Rep]
   exact ⟨l,bs,rfl,(lv.fresh hl).1,(lv.fresh hl).2,upd_same,(reps_keys hp).mv (.new hl)⟩
  ·exact h.elim
end
end DL
namespace L2
open PySem PySem.Spec PyProof.Rows
section
variable {X:Cx}
def distN (ns:List Int):Nat:=(firstMet (fun i=>ns.getD i 0) ns.length).length
theorem vals_intsA:∀ {ns:List Int} {us:List Value},Vals (ns.map V.int) us -> IntsAre us ns
 | [],us,h=>by cases h; exact .nil
 | n :: r,us,h=>by
  rw [List.map_cons] at h
  cases h with
  | cons h1 h2 =>
   obtain ⟨t,rfl⟩:=(show ∃ t,_ = Value.int n t from h1)
   exact .cons _ _ (vals_intsA h2)
theorem call_setT (hc:X.calm = true):CallR X (.type "set") (fun xs H Q=>∃ b ns,xs = [.ref b] /\ H b = some (.tup (ns.map V.int)) /\ ns.length <= 1000 /\ ∀ l S,H l = none -> Q (.ref l) (upd H l (.set S (distN ns)))):=by
 intro pins s σ H xs us Q I r h
 obtain ⟨b,ns,rfl,e,hl,q⟩:=h
 obtain ⟨u,rfl,e2⟩:=vals1 r
 cases e2
 obtain ⟨_,its,rv,o,h1,h2,n,h3⟩:=(show ObjOk X.prog X.w H s.heap b (.tup (ns.map V.int)) from I.hok b _ e)
 have hlen:its.length = ns.length:=by have:=rv.length; simpa using this.symm
 refine call_set_tup (its:=its.toArray) (ks:=ns) (I.ok.hd hc) ⟨o,h1,h2,n,h3⟩ (by rw [List.toList_toArray]; exact vals_intsA rv) (by rw [List.size_toArray,hlen]; unfold scanBound; omega) fun h' tk hS hk=>?_
 have hz:its.toArray.size = ns.length:=by rw [List.size_toArray,hlen]
 rw [hz] at hS
 exact ⟨.ref s.heap.objs.size,_,I.laid (o:=.set (fun k=>(firstMet (fun i=>ns.getD i 0) ns.length).any (· == k)) (distN ns)) (fun b o e=>hk b o (Heap.lt_size e) e) (Nat.le_refl _) hS,rfl,q _ _ (I.hok.fresh (Nat.le_refl _))⟩
theorem call_lenS:CallR X (.builtin "len") (fun xs H Q=>∃ p S n,xs = [.ref p] /\ H p = some (.set S n) /\ Q (.int n) H):=by
 intro pins s σ H xs us Q I r h
 obtain ⟨p,S,n,rfl,e,q⟩:=h
 obtain ⟨u,rfl,e2⟩:=vals1 r
 cases e2
 obtain ⟨o,es,ep,t,g1,g2,g3,_,_,g4,g5,g6⟩:=(show ObjOk X.prog X.w H s.heap p (.set S n) from I.hok p _ e)
 refine call_len_set g1 g2 g3 g5 (by unfold scanBound at g4; omega) ?_
 rw [g6]
 exact ⟨.int n,H,I.tok _,⟨_,rfl⟩,q⟩
theorem distN_nodup {ns:List Int} (h:ns.Nodup):distN ns = ns.length:=by
 unfold distN
 have key:∀ i,i <= ns.length -> (firstMet (fun i=>ns.getD i 0) i).length = i:=by
  intro i
  induction i with
  | zero=>intro _; rfl
  | succ i ih =>
   intro hi
   rw [firstMet_succ,step_length,firstMet_any,if_neg,ih (by omega)]
   intro hz
   obtain ⟨x,hx,e⟩:=List.any_eq_true.mp hz
   obtain ⟨j,hj,rfl⟩:=List.mem_map.mp hx
   have hj:=List.mem_range.mp hj
   have hji:j < ns.length:=by omega
   have e:ns[j] = ns[i]:=by simpa [hji,show i < ns.length by omega] using e
   have:=(List.getElem_inj h).mp e
   omega
 exact key _ (Nat.le_refl _)
end
end L2
namespace DL
open PySem PySem.Spec L2
open PyProof.Rows hiding St
variable [Frm]
section
variable {X:Cx}
omit [Frm] in
theorem reps_intsV {K:PySem.W.Frag} {pp:Option Addr} {M:List Addr} {H:Hp}:∀ {ns:List Int} {xs:List V},Reps K pp M H (ns.map D.int) xs -> xs = ns.map V.int
 | [],xs,h=>by simpa only [List.map_nil,Reps] using h
 | n :: r,xs,h=>by
  simp only [List.map_cons,Reps,Rep] at h
  obtain ⟨x,t,rfl,rfl,h⟩:=h
  rw [reps_intsV h]; rfl
abbrev dLenSet (te:DE):DE:=fun ρ Q=>te ρ fun d ρ'=>∃ ns:List Int,d = .tup (ns.map .int) /\ ns.length <= 1000 /\ Q (.int (distN ns)) ρ'
theorem de_lenset {e:Expr} {te:DE} {p p' pos pos':Pos} (hc:X.calm = true) (hgl:Gl X "len") (hml:X.mg "len" = none) (hgs:Gl X "set") (hms:X.mg "set" = none) (he:PED X e te)
  (h1:starEach [e] X.env = (false,eval e X.env) :: starEach [] X.env:=by rfl)
  (h2:starEach [.Call (.Name "set" p') [e] [] pos'] X.env = (false,eval (.Call (.Name "set" p') [e] [] pos') X.env) :: starEach [] X.env:=by rfl)
  (hp:(backTo pos (starEach [] X.env)).any (·.1) = false:=by rfl) (hp':(backTo pos' (starEach [] X.env)).any (·.1) = false:=by rfl) :
  PED X (.Call (.Name "len" p) [.Call (.Name "set" p') [e] [] pos'] [] pos) (dLenSet te):=by
 obtain ⟨T,pe,re⟩:=he.run
 refine ⟨fun ρ P P' f h=>he.mono _ _ _ (fun d ρ1 ⟨ns,e1,e2,h⟩=>⟨ns,e1,e2,f _ _ h⟩) h,_,pe_callB (he:=h2) (hpl:=hp) call_lenS hgl hml PySem.boot_len (pa_cons (pe_callTy (he:=h1) (hpl:=hp') (call_setT hc) hgs hms rfl (pa_cons pe pa_nil h1)) pa_nil h2),fun {F} M H σ ρ Q rs h=>?_⟩
 refine re M H σ ρ _ rs (he.mono _ _ _ (fun d ρ1 h M1 H1 v m1 rs1 r1=>?_) h)
 obtain ⟨ns,rfl,hl,h9⟩:=h
 simp only [Rep] at r1
 obtain ⟨a,xs,rfl,ha,rr⟩:=r1
 rw [reps_intsV rr] at ha
 refine ⟨a,ns,rfl,ha,hl,fun l S hn=>⟨l,S,distN ns,rfl,upd_same,h9 M1 _ _ (m1.trans (.new hn)) (rs1.sameP (.new hn)) rep_int⟩⟩
def dExtS (i:Nat) (E:DEnds) (ρ:DS) (d:D):Sl -> Prop
 | .own ds=>∃ es,d = .lst es /\ ds.length + es.length <= sizeLine /\ E.nx (ρ.set i (.own (ds ++ es)))
 | _=>False
abbrev dExt (i:Nat) (te:DE):DTS:=fun E ρ=>isOwn (slot ρ i) /\ te ρ fun d ρ'=>dExtS i E ρ' d (slot ρ' i)
theorem ds_ext {i:Nat} {o e:Expr} {apos cpos pos:Pos} {te:DE} (ho:PE X o (tVar i)) (he:PED X e te)
  (hbase:attributeBase o "extend" X.env (eval o X.env) = eval o X.env:=by rfl)
  (hfew:((backTo cpos (starEach [e] X.env)).all (fun x=>!x.1) && (backToKw cpos (keywordEach [] X.env)).all (fun x=>x.1.isSome)
   && decide ([e].length + ([]:List Keyword).length + (if ([]:List Keyword).isEmpty then 0 else 1) < 30)) = true:=by rfl)
  (hline:(apos.endLine == cpos.line) = true:=by rfl) (hst:starEach [e] X.env = (false,eval e X.env) :: starEach [] X.env:=by rfl) (hpl:(backTo cpos (starEach [] X.env)).any (·.1) = false:=by rfl)
  (hs:swapsWith (.Call (.Attribute o "extend" apos) [e] [] cpos) none pos.line X.env = pure false:=by rfl):PSD X (.Expr (.Call (.Attribute o "extend" apos) [e] [] cpos) pos) (dExt i te):=by
 have hm:PE X (.Call (.Attribute o "extend" apos) [e] [] cpos) (tBM X.K "list" rExtend (tVar i) (tCons (Classical.choose he.run) tNil)):=pe_bm PySem.F.plainAttrs_list PySem.F.slot_list_extend PySem.F.type_list_extend mt_extend ho (pa_cons (Classical.choose_spec he.run).1 pa_nil hst) hbase hfew hline hst hpl
 obtain ⟨_,r⟩:=Classical.choose_spec he.run
 refine ⟨_,ps_expr hm hs,fun {F} M H σ ρ E D rs oo h=>?_⟩
 obtain ⟨h0,h⟩:=h
 cases q:slot ρ i with
 | nil=>rw [q] at h0; exact h0.elim
 | val d=>rw [q] at h0; exact h0.elim
 | pin w d=>rw [q] at h0; exact h0.elim
 | obj z=>rw [q] at h0; exact h0.elim
 | own ds =>
  obtain ⟨oo1,ho1,l,xs,rfl,hm1,h01,hp1,hl1,hr1⟩:=rs.at (slot_get q (by intro z; cases z))
  refine ⟨.ref l,ho1,.inl ⟨rfl,xs,SqL.of hl1⟩,?_⟩
  refine r M H σ ρ _ rs (he.mono _ _ _ (fun d ρ' h M' H' v m rs' rd=>?_) h)
  cases q':slot ρ' i with
  | nil=>rw [q'] at h; exact h.elim
  | val d=>rw [q'] at h; exact h.elim
  | pin w d=>rw [q'] at h; exact h.elim
  | obj z=>rw [q'] at h; exact h.elim
  | own ds' =>
   rw [q'] at h
   obtain ⟨es,rfl,hlen,h9⟩:=h
   have g1:=slot_get q' (by intro z; cases z)
   obtain ⟨l',xs',e',hm',h0',hp',hl',hr'⟩:=rs'.sl i _ _ g1 ho1
   cases e'
   simp only [Rep] at rd
   obtain ⟨c,zs,rfl,hc,_,hzs,rz⟩:=rd
   obtain ⟨m2,rs2⟩:=rs'.write g1 ho1 (hr'.append rz)
   exact ⟨l,c,xs',zs,rfl,rfl,hl',hzs,by rw [← hr'.length,← rz.length]; exact hlen,oo.nx M' _ _ _ (m.trans m2) rs2 h9⟩
end
section
variable {K:PySem.W.Frag} {pp:Option Addr} {M M':List Addr} {H H':Hp}
omit [Frm] in
theorem PL.mv (m:Mv K pp M H M' H'):∀ {kls:List (List Key × List D)} {kvs:List (List Key × V)} {ls:List Addr},(∀ b ∈ ls,∀ o,H b = some o -> H' b = some o) -> PL K pp M H kls kvs ls -> PL K pp M' H' kls kvs ls
 | [],kvs,ls,_,h=>h
 | p :: ps,kvs,ls,kp,h=>by
  obtain ⟨l,xs,r,t,rfl,rfl,hl,h1,h2⟩:=h
  exact ⟨l,xs,r,t,rfl,rfl,kp l List.mem_cons_self _ hl,h1.mv m,PL.mv m (fun b hb=>kp b (List.mem_cons_of_mem _ hb)) h2⟩
omit [Frm] in
theorem PL.snoc {k:List Key} {es:List D} {l:Addr} {xs:List V} (hl:H l = some (.lst xs)) (hr:Reps K pp M H es xs):∀ {kls:List (List Key × List D)} {kvs:List (List Key × V)} {ls:List Addr},PL K pp M H kls kvs ls -> PL K pp M H (kls ++ [(k,es)]) (kvs ++ [(k,.ref l)]) (ls ++ [l])
 | [],kvs,ls,h=>by
  obtain ⟨rfl,rfl⟩:=h
  exact ⟨l,xs,[],[],rfl,rfl,hl,hr,rfl,rfl⟩
 | p :: ps,kvs,ls,h=>by
  obtain ⟨l',xs',r,t,rfl,rfl,hl',h1,h2⟩:=h
  exact ⟨l',xs',r ++ [(k,.ref l)],t ++ [l],rfl,rfl,hl',h1,PL.snoc hl hr h2⟩
def addL1 (k:List Key) (d:D):List (List Key × List D) -> List (List Key × List D)
 | []=>[(k,[d])]
 | p :: r=>if p.1 = k then (p.1,p.2 ++ [d]) :: r else p :: addL1 k d r
omit [Frm] in
theorem PL.add (k:List Key) (d:D):∀ {kls:List (List Key × List D)} {kvs:List (List Key × V)} {ls:List Addr},PL K pp M H kls kvs ls -> ls.Nodup ->
  (valV kvs k = none /\ addL1 k d kls = kls ++ [(k,[d])]) ∨ ∃ l0 xs,valV kvs k = some (.ref l0) /\ l0 ∈ ls /\ H l0 = some (.lst xs) /\ (∃ p ∈ kls,p.1 = k /\ p.2.length = xs.length) /\
   ∀ {M':List Addr} {H':Hp} {v:V},Mv K pp M H M' H' -> Rep K pp M' H' d v -> H' l0 = some (.lst (xs ++ [v])) -> (∀ b ∈ ls,b ≠ l0 -> ∀ o,H b = some o -> H' b = some o) -> PL K pp M' H' (addL1 k d kls) kvs ls
 | [],kvs,ls,h,_=>by
  obtain ⟨rfl,rfl⟩:=h
  exact .inl ⟨rfl,rfl⟩
 | p :: ps,kvs,ls,h,nd=>by
  obtain ⟨l,xs,r,t,rfl,rfl,hl,h1,h2⟩:=h
  obtain ⟨n1,n2⟩:=List.nodup_cons.mp nd
  by_cases e:p.1 = k
  ·refine .inr ⟨l,xs,valV_pos (p:=(p.1,V.ref l)) e,List.mem_cons_self,hl,⟨p,List.mem_cons_self,e,h1.length⟩,fun {M' H' v} m rd hv kp=>?_⟩
   unfold addL1
   rw [if_pos e]
   exact ⟨l,_,r,t,rfl,rfl,hv,(h1.mv m).append (.one rd),PL.mv m (fun b hb=>kp b (List.mem_cons_of_mem _ hb) (by rintro rfl; exact n1 hb)) h2⟩
  ·rcases PL.add k d h2 n2 with ⟨a1,a2⟩ | ⟨l0,ys,a1,a2,a3,⟨p',a4,a5⟩,f⟩
   ·refine .inl ⟨by rw [valV_neg (p:=(p.1,V.ref l)) e]; exact a1,?_⟩
    unfold addL1
    rw [if_neg e,a2]
    rfl
   ·refine .inr ⟨l0,ys,by rw [valV_neg (p:=(p.1,V.ref l)) e]; exact a1,List.mem_cons_of_mem _ a2,a3,⟨p',List.mem_cons_of_mem _ a4,a5⟩,fun {M' H' v} m rd hv kp=>?_⟩
    unfold addL1
    rw [if_neg e]
    exact ⟨l,xs,r,t,rfl,rfl,kp l List.mem_cons_self (by rintro rfl; exact n1 a2) _ hl,h1.mv m,f m rd hv fun b hb=>kp b (List.mem_cons_of_mem _ hb)⟩
end
section
variable {X:Cx}
abbrev dSda (i jk ja:Nat):DTS:=fun E ρ=>∃ (kls:List (List Key × List D)) (k:List Key) (d:D),slot ρ i = .obj (dlO kls) /\ slot ρ jk = .val (keyD k) /\ slot ρ ja = .val d /\ kls.length < sizeLine /\ (∀ p ∈ kls,p.2.length < sizeLine) /\ E.nx (ρ.set i (.obj (dlO (addL1 k d kls))))
omit [Frm] in
theorem PL.len {K:PySem.W.Frag} {pp:Option Addr} {M:List Addr} {H:Hp}:∀ {kls:List (List Key × List D)} {kvs:List (List Key × V)} {ls:List Addr},PL K pp M H kls kvs ls -> kls.length = kvs.length
 | [],kvs,ls,h=>by rw [h.1]; rfl
 | p :: ps,kvs,ls,h=>by
  obtain ⟨l,xs,r,t,rfl,rfl,hl,h1,h2⟩:=h
  simp [PL.len h2]
theorem ds_sda {i jk ja r:Nat} {o ek ea:Expr} {lp p1 p2 p3 p4 pos:Pos} (hr:Room r X.A) (ho:PE X o (tVar i)) (hk:PE X ek (tVar jk)) (ha:PE X ea (tVar ja))
  (b1:attributeBase o "setdefault" X.env (eval o X.env) = eval o X.env:=by rfl)
  (f1:((backTo p2 (starEach [ek,.List [] lp] X.env)).all (fun x=>!x.1) && (backToKw p2 (keywordEach [] X.env)).all (fun x=>x.1.isSome)
   && decide ([ek,.List [] lp].length + ([]:List Keyword).length + (if ([]:List Keyword).isEmpty then 0 else 1) < 30)) = true:=by rfl)
  (l1:(p1.endLine == p2.line) = true:=by rfl) (s1:starEach [ek,.List [] lp] X.env = (false,eval ek X.env) :: starEach [.List [] lp] X.env:=by rfl) (s1':starEach [.List [] lp] X.env = (false,eval (.List [] lp) X.env) :: starEach [] X.env:=by rfl)
  (q1:(backTo p2 (starEach [.List [] lp] X.env)).any (·.1) = false:=by rfl)
  (b2:attributeBase (.Call (.Attribute o "setdefault" p1) [ek,.List [] lp] [] p2) "append" X.env (eval (.Call (.Attribute o "setdefault" p1) [ek,.List [] lp] [] p2) X.env) = eval (.Call (.Attribute o "setdefault" p1) [ek,.List [] lp] [] p2) X.env:=by rfl)
  (f2:((backTo p4 (starEach [ea] X.env)).all (fun x=>!x.1) && (backToKw p4 (keywordEach [] X.env)).all (fun x=>x.1.isSome)
   && decide ([ea].length + ([]:List Keyword).length + (if ([]:List Keyword).isEmpty then 0 else 1) < 30)) = true:=by rfl)
  (l2:(p3.endLine == p4.line) = true:=by rfl) (s2:starEach [ea] X.env = (false,eval ea X.env) :: starEach [] X.env:=by rfl) (q2:(backTo p4 (starEach [] X.env)).any (·.1) = false:=by rfl)
  (hs:swapsWith (.Call (.Attribute (.Call (.Attribute o "setdefault" p1) [ek,.List [] lp] [] p2) "append" p3) [ea] [] p4) none pos.line X.env = pure false:=by rfl) :
  PSD X (.Expr (.Call (.Attribute (.Call (.Attribute o "setdefault" p1) [ek,.List [] lp] [] p2) "append" p3) [ea] [] p4) pos) (dSda i jk ja):=by
 have hm:=pe_bm PySem.F.plainAttrs_list PySem.F.slot_list_append PySem.F.type_list_append mt_append (pe_bm PySem.F.plainAttrs_dict PySem.F.slot_dict_setdefault PySem.F.type_dict_setdefault (mt_setdefault (X:=X) (by have:=hr.units; omega)) ho (pa_cons hk (pa_cons (pe_lst (pos:=lp) pa_nil) pa_nil s1') s1) b1 f1 l1 s1 q1) (pa_cons ha pa_nil s2) b2 f2 l2 s2 q2
 refine ⟨_,ps_expr hm hs,fun {F} M H σ ρ E D rs oo h=>?_⟩
 obtain ⟨kls,k,d,e1,e2,e3,hlen,hlens,h9⟩:=h
 have g1:=slot_get e1 (by intro z; cases z)
 obtain ⟨v0,A,hv0,nd,hq,hA,_⟩:=rs.objAt g1
 obtain ⟨a,kvs,ls,rfl,hd,rfl,pl⟩:=ro_dl.mp hq
 obtain ⟨_,hk0,vk,rfl,rk⟩:=rs.at (slot_get e2 (by intro z; cases z))
 obtain ⟨_,ha0,va,rfl,ra⟩:=rs.at (slot_get e3 (by intro z; cases z))
 obtain ⟨b,rfl,hb⟩:=rep_keyD rk
 obtain ⟨am,a0,ap⟩:=hA a List.mem_cons_self
 obtain ⟨nd1,nd2⟩:=List.nodup_cons.mp nd
 refine ⟨.ref a,hv0,.inr (.inr (.inl ⟨rfl,.inr ⟨kvs,hd⟩⟩)),.ref b,hk0,Nat.zero_le _,fun l hl=>?_⟩
 have la:a ≠ l:=by rintro rfl; rw [hd] at hl; cases hl
 have lb:b ≠ l:=by rintro rfl; rw [hb] at hl; cases hl
 have lf:=rs.liv.fresh hl
 have hd1:upd H l (.lst []) a = some (.dT kvs):=by rw [upd_ne la]; exact hd
 have mn:Mv X.K F.pp M H M (upd H l (.lst [])):=.new hl
 have rs1:RSt X.K F M (upd H l (.lst [])) σ ρ:=rs.sameP (.new hl)
 have f0:F.H0 l = none:=by
  cases e:F.H0 l with
  | none=>rfl
  | some o=>exact absurd hl (rs.same.live l (by rw [e]; intro z; cases z))
 refine ⟨a,kvs,k,b,.ref l,rfl,rfl,hd1,by rw [upd_ne lb]; exact hb,by rw [← pl.len]; exact hlen,fun v hv=>?_,fun hn=>?_⟩
 ·rcases pl.add k d nd2 with ⟨a1,_⟩ | ⟨l0,xs,a1,a2,a3,⟨p',c1,c2,c3⟩,_⟩
  ·rw [hv] at a1; cases a1
  rw [hv] at a1
  cases a1
  obtain ⟨lm,l00,lp0⟩:=hA l0 (List.mem_cons_of_mem _ a2)
  have n0:l0 ≠ l:=by rintro rfl; rw [hl] at a3; cases a3
  have hl1:upd H l (.lst []) l0 = some (.lst xs):=by rw [upd_ne n0]; exact a3
  have mw:Mv X.K F.pp M (upd H l (.lst [])) M (upd (upd H l (.lst [])) l0 (.lst (xs ++ [va]))):=.writeX hl1 trivial lm lp0
  have m:=mn.trans mw
  refine ⟨.inl ⟨rfl,xs,SqL.of hl1⟩,va,ha0,l0,xs,va,rfl,rfl,hl1,by rw [← c3]; exact hlens p' c1,oo.nx M _ σ _ m ?_ h9⟩
  refine rs.objStep g1 m (fun v' A' hv' nd' hq' hA'=>?_) rs.sub (rs1.sameW l00 mw) rs1.liv.upd
  rw [hv0] at hv'
  cases hv'
  obtain ⟨a',kvs',ls',e,hd',rfl,pl'⟩:=ro_dl.mp hq'
  cases e
  rw [hd] at hd'
  cases hd'
  obtain ⟨nd1',nd2'⟩:=List.nodup_cons.mp nd'
  rcases pl'.add k d nd2' with ⟨z,_⟩ | ⟨l0',xs',z1,z2,z3,_,f⟩
  ·rw [hv] at z; cases z
  rw [hv] at z1
  cases z1
  rw [a3] at z3
  cases z3
  have na:a ≠ l0:=by rintro rfl; exact nd1' z2
  have keep:∀ c x,c ≠ l0 -> H c = some x -> upd (upd H l (.lst [])) l0 (.lst (xs ++ [va])) c = some x:=fun c x h1 h2=>by
   rw [upd_ne h1,upd_ne (by rintro rfl; rw [hl] at h2; cases h2)]
   exact h2
  refine ⟨a :: ls',nd',ro_dl.mpr ⟨a,kvs,ls',rfl,keep a _ na hd,rfl,f m (ra.mv m) upd_same fun c _ h1 x h2=>keep c x h1 h2⟩,fun c hc=>⟨(hA' c hc).1,(hA' c hc).2.1,(hA' c hc).2.2,.inl hc⟩,fun c hc _ _ hn=>⟨hc,fun x e=>keep c x (by rintro rfl; exact hn (List.mem_cons_of_mem _ z2)) e⟩⟩
 ·have hput:putK kvs k (.ref l) = kvs ++ [(k,.ref l)]:=by
   unfold putK
   rw [valV_any,hn]
   rfl
  rw [hput]
  have m1:Mv X.K F.pp M H (l :: M) (upd H l (.lst [])):=.newOwn hl
  have m2:Mv X.K F.pp (l :: M) (upd H l (.lst [])) (l :: M) (upd (upd H l (.lst [])) a (.dT (kvs ++ [(k,.ref l)]))):=.writeX hd1 trivial (List.mem_cons_of_mem _ am) ap
  have m2':Mv X.K F.pp M (upd H l (.lst [])) M (upd (upd H l (.lst [])) a (.dT (kvs ++ [(k,.ref l)]))):=.writeX hd1 trivial am ap
  have hl2:upd (upd H l (.lst [])) a (.dT (kvs ++ [(k,.ref l)])) l = some (.lst []):=by rw [upd_ne (Ne.symm la),upd_same]
  have m3:Mv X.K F.pp (l :: M) (upd (upd H l (.lst [])) a (.dT (kvs ++ [(k,.ref l)]))) (l :: M) (upd (upd (upd H l (.lst [])) a (.dT (kvs ++ [(k,.ref l)]))) l (.lst ([] ++ [va]))):=.writeX hl2 trivial List.mem_cons_self lf.2
  have m:=(m1.trans m2).trans m3
  have same2:=rs1.sameW a0 m2'
  have same3:SameP X.K F.pp F.H0 (upd (upd (upd H l (.lst [])) a (.dT (kvs ++ [(k,.ref l)]))) l (.lst ([] ++ [va]))):=by
   refine ⟨fun c x e n=>?_,fun p e h=>m3.pen p e (same2.pen p e h),fun c e=>?_⟩
   ·rw [upd_ne (by rintro rfl; rw [f0] at e; cases e)]
    exact same2.keep c x e n
   ·by_cases z:c = l
    ·subst z; rw [upd_same]; intro z; cases z
    ·rw [upd_ne z]; exact same2.live c e
  have lv3:=(rs1.liv.upd (l:=a) (o:=.dT (kvs ++ [(k,.ref l)]))).upd (l:=l) (o:=.lst ([] ++ [va]))
  refine ⟨.inl ⟨rfl,[],SqL.of hl2⟩,va,ha0,l,[],va,rfl,rfl,hl2,by decide,oo.nx (l :: M) _ σ _ m ?_ h9⟩
  refine rs.objStep g1 m (fun v' A' hv' nd' hq' hA'=>?_) (fun c hc=>List.mem_cons_of_mem _ (rs.sub c hc)) same3 ⟨fun c hc=>?_,lv3.p⟩
  ·rw [hv0] at hv'
   cases hv'
   obtain ⟨a',kvs',ls',e,hd',rfl,pl'⟩:=ro_dl.mp hq'
   cases e
   rw [hd] at hd'
   cases hd'
   obtain ⟨nd1',nd2'⟩:=List.nodup_cons.mp nd'
   have lls:l ∉ ls':=fun z=>lf.1 (hA' l (List.mem_cons_of_mem _ z)).1
   rcases pl'.add k d nd2' with ⟨_,z⟩ | ⟨l0',xs',z1,_⟩
   ·have keep:∀ c x,c ≠ a -> c ≠ l -> H c = some x -> upd (upd (upd H l (.lst [])) a (.dT (kvs ++ [(k,.ref l)]))) l (.lst ([] ++ [va])) c = some x:=fun c x h1 h2 h3=>by
     rw [upd_ne h2,upd_ne h1,upd_ne h2]
     exact h3
    have hal:upd (upd (upd H l (.lst [])) a (.dT (kvs ++ [(k,.ref l)]))) l (.lst ([] ++ [va])) a = some (.dT (kvs ++ [(k,.ref l)])):=by rw [upd_ne la,upd_same]
    refine ⟨a :: (ls' ++ [l]),?_,ro_dl.mpr ⟨a,_,ls' ++ [l],rfl,hal,rfl,?_⟩,fun c hc=>?_,fun c hc _ _ hn=>⟨List.mem_cons_of_mem _ hc,fun x e=>keep c x (by rintro rfl; exact hn List.mem_cons_self) (by rintro rfl; exact lf.1 hc) e⟩⟩
    ·refine List.nodup_cons.mpr ⟨fun z=>?_,List.nodup_append.mpr ⟨nd2',by simp,fun x hx y hy e=>?_⟩⟩
     ·rcases List.mem_append.mp z with z | z
      ·exact nd1' z
      ·exact la (List.mem_singleton.mp z)
     ·rw [List.mem_singleton.mp hy] at e
      subst e
      exact lls hx
    ·rw [z]
     exact PL.snoc upd_same (.one (ra.mv m)) (pl'.mv m fun c hc x e=>keep c x (by rintro rfl; exact nd1' hc) (by rintro rfl; exact lls hc) e)
    ·rcases List.mem_cons.mp hc with rfl | hc
     ·exact ⟨List.mem_cons_of_mem _ am,a0,ap,.inl List.mem_cons_self⟩
     rcases List.mem_append.mp hc with hc | hc
     ·have:=hA' c (List.mem_cons_of_mem _ hc)
      exact ⟨List.mem_cons_of_mem _ this.1,this.2.1,this.2.2,.inl (List.mem_cons_of_mem _ hc)⟩
     ·rw [List.mem_singleton.mp hc]
      exact ⟨List.mem_cons_self,f0,lf.2,.inr lf.1⟩
   ·rw [hn] at z1; cases z1
  ·rcases List.mem_cons.mp hc with rfl | hc
   ·rw [upd_same]; intro z; cases z
   ·exact lv3.m c hc
end
end DL
namespace DL
open PySem PySem.Spec L2
open PyProof.Rows hiding St
variable [Frm]
def touch (k:List Key):List (List Key × List D) -> List (List Key × List D)
 | []=>[(k,[])]
 | p :: r=>if p.1 = k then p :: r else p :: touch k r
omit [Frm] in
theorem add_touch (k:List Key) (d:D):∀ kls,addL1 k d (touch k kls) = addL1 k d kls
 | []=>by simp [touch,addL1]
 | p :: r=>by
  unfold touch
  by_cases e:p.1 = k
  ·rw [if_pos e]
  ·rw [if_neg e]
   unfold addL1
   rw [if_neg e,if_neg e,add_touch k d r]
section
variable {K:PySem.W.Frag} {F:Fx} {M:List Addr} {H:Hp} {σ:St} {ρ:DS} {i:Nat}
omit [Frm] in
theorem PL.touch (k:List Key):∀ {kls:List (List Key × List D)} {kvs:List (List Key × V)} {ls:List Addr},PL K F.pp M H kls kvs ls -> (valV kvs k = none /\ touch k kls = kls ++ [(k,[])]) ∨ ∃ l0,valV kvs k = some (.ref l0) /\ touch k kls = kls /\ l0 ∈ ls
 | [],kvs,ls,h=>by
  obtain ⟨rfl,rfl⟩:=h
  exact .inl ⟨rfl,rfl⟩
 | p :: ps,kvs,ls,h=>by
  obtain ⟨l,xs,r,t,rfl,rfl,hl,h1,h2⟩:=h
  unfold DL.touch
  by_cases e:p.1 = k
  ·rw [if_pos e]
   exact .inr ⟨l,valV_pos (p:=(p.1,V.ref l)) e,rfl,List.mem_cons_self⟩
  ·rw [if_neg e,valV_neg (p:=(p.1,V.ref l)) e]
   rcases PL.touch k h2 with ⟨a,b⟩ | ⟨l0,a,b,c⟩
   ·exact .inl ⟨a,by rw [b]; rfl⟩
   ·exact .inr ⟨l0,a,by rw [b],List.mem_cons_of_mem _ c⟩
theorem RSt.dlAt {kls:List (List Key × List D)} (rs:RSt K F M H σ ρ) (g1:ρ[i]? = some (.obj (dlO kls))):∃ a kvs ls,σ[i]? = some (some (.ref a)) /\ H a = some (.dT kvs) /\ (a :: ls).Nodup /\ PL K F.pp M H kls kvs ls /\ ∀ b ∈ a :: ls,b ∈ M /\ F.H0 b = none /\ F.pp ≠ some b:=by
 obtain ⟨v0,A,hv0,nd,hq,hA,_⟩:=rs.objAt g1
 obtain ⟨a,kvs,ls,rfl,hd,rfl,pl⟩:=ro_dl.mp hq
 exact ⟨a,kvs,ls,hv0,hd,nd,pl,hA⟩
theorem RSt.touch {kls:List (List Key × List D)} {a l:Addr} {kvs:List (List Key × V)} (rs:RSt K F M H σ ρ) (g1:ρ[i]? = some (.obj (dlO kls))) (hv0:σ[i]? = some (some (.ref a))) (hd:H a = some (.dT kvs)) (hl:H l = none) (k:List Key) :
  kvs.length = kls.length /\ (∀ v,valV kvs k = some v -> ∃ l0,v = .ref l0 /\ RSt K F M (upd H l (.lst [])) σ (ρ.set i (.obj (dlO (DL.touch k kls)))) /\ upd H l (.lst []) a = some (.dT kvs)) /\
  (valV kvs k = none -> Mv K F.pp M H (l :: M) (upd (upd H l (.lst [])) a (.dT (putK kvs k (.ref l)))) /\ RSt K F (l :: M) (upd (upd H l (.lst [])) a (.dT (putK kvs k (.ref l)))) σ (ρ.set i (.obj (dlO (DL.touch k kls)))) /\ valV (putK kvs k (.ref l)) k = some (.ref l)):=by
 obtain ⟨a1,kvs1,ls,hv1,hd1,nd,pl,hA⟩:=rs.dlAt g1
 rw [hv0] at hv1
 cases hv1
 rw [hd] at hd1
 cases hd1
 obtain ⟨am,a0,ap⟩:=hA a List.mem_cons_self
 obtain ⟨nd1,nd2⟩:=List.nodup_cons.mp nd
 have la:a ≠ l:=by rintro rfl; rw [hd] at hl; cases hl
 have lf:=rs.liv.fresh hl
 have hda:upd H l (.lst []) a = some (.dT kvs):=by rw [upd_ne la]; exact hd
 have rs1:RSt K F M (upd H l (.lst [])) σ ρ:=rs.sameP (.new hl)
 have f0:F.H0 l = none:=by
  cases e:F.H0 l with
  | none=>rfl
  | some o=>exact absurd hl (rs.same.live l (by rw [e]; intro z; cases z))
 refine ⟨pl.len.symm,fun v hv=>?_,fun hn=>?_⟩
 ·rcases pl.touch k with ⟨z,_⟩ | ⟨l0,z,e,_⟩
  ·rw [hv] at z; cases z
  ·rw [hv] at z
   cases z
   refine ⟨l0,rfl,?_,hda⟩
   rw [e]
   have:ρ.set i (.obj (dlO kls)) = ρ:=by
    have hi:=(List.getElem?_eq_some_iff.mp g1).1
    have:=(List.getElem?_eq_some_iff.mp g1).2
    rw [← this]
    exact List.set_getElem_self hi
   rw [this]
   exact rs1
 ·have hput:putK kvs k (.ref l) = kvs ++ [(k,.ref l)]:=by
   unfold putK
   rw [valV_any,hn]
   rfl
  have hval:valV (putK kvs k (.ref l)) k = some (.ref l):=by rw [valV_put,if_pos rfl]
  rw [hput] at hval ⊢
  have m1:Mv K F.pp M H (l :: M) (upd H l (.lst [])):=.newOwn hl
  have m2:Mv K F.pp (l :: M) (upd H l (.lst [])) (l :: M) (upd (upd H l (.lst [])) a (.dT (kvs ++ [(k,.ref l)]))):=.writeX hda trivial (List.mem_cons_of_mem _ am) ap
  have m2':Mv K F.pp M (upd H l (.lst [])) M (upd (upd H l (.lst [])) a (.dT (kvs ++ [(k,.ref l)]))):=.writeX hda trivial am ap
  have m:=m1.trans m2
  have lv3:=rs1.liv.upd (l:=a) (o:=.dT (kvs ++ [(k,.ref l)]))
  refine ⟨m,rs.objStep g1 m (fun v' A' hv' nd' hq' hA'=>?_) (fun c hc=>List.mem_cons_of_mem _ (rs.sub c hc)) (rs1.sameW a0 m2') ⟨fun c hc=>?_,lv3.p⟩,hval⟩
  ·rw [hv0] at hv'
   cases hv'
   obtain ⟨a',kvs',ls',e,hd',rfl,pl'⟩:=ro_dl.mp hq'
   cases e
   rw [hd] at hd'
   cases hd'
   obtain ⟨nd1',nd2'⟩:=List.nodup_cons.mp nd'
   have lls:l ∉ ls':=fun z=>lf.1 (hA' l (List.mem_cons_of_mem _ z)).1
   rcases pl'.touch k with ⟨_,z⟩ | ⟨l0',z1,_⟩
   ·have keep:∀ c x,c ≠ a -> c ≠ l -> H c = some x -> upd (upd H l (.lst [])) a (.dT (kvs ++ [(k,.ref l)])) c = some x:=fun c x h1 h2 h3=>by
     rw [upd_ne h1,upd_ne h2]
     exact h3
    refine ⟨a :: (ls' ++ [l]),?_,ro_dl.mpr ⟨a,_,ls' ++ [l],rfl,upd_same,rfl,?_⟩,fun c hc=>?_,fun c hc _ _ hn=>⟨List.mem_cons_of_mem _ hc,fun x e=>keep c x (by rintro rfl; exact hn List.mem_cons_self) (by rintro rfl; exact lf.1 hc) e⟩⟩
    ·refine List.nodup_cons.mpr ⟨fun z=>?_,List.nodup_append.mpr ⟨nd2',by simp,fun x hx y hy e=>?_⟩⟩
     ·rcases List.mem_append.mp z with z | z
      ·exact nd1' z
      ·exact la (List.mem_singleton.mp z)
     ·rw [List.mem_singleton.mp hy] at e
      subst e
      exact lls hx
    ·rw [z]
     exact PL.snoc (xs:=[]) (by rw [upd_ne (Ne.symm la),upd_same]) .nil (pl'.mv m fun c hc x e=>keep c x (by rintro rfl; exact nd1' hc) (by rintro rfl; exact lls hc) e)
    ·rcases List.mem_cons.mp hc with rfl | hc
     ·exact ⟨List.mem_cons_of_mem _ am,a0,ap,.inl List.mem_cons_self⟩
     rcases List.mem_append.mp hc with hc | hc
     ·have:=hA' c (List.mem_cons_of_mem _ hc)
      exact ⟨List.mem_cons_of_mem _ this.1,this.2.1,this.2.2,.inl (List.mem_cons_of_mem _ hc)⟩
     ·rw [List.mem_singleton.mp hc]
      exact ⟨List.mem_cons_self,f0,lf.2,.inr lf.1⟩
   ·rw [hn] at z1; cases z1
  ·rcases List.mem_cons.mp hc with rfl | hc
   ·rw [upd_ne (Ne.symm la),upd_same]; intro z; cases z
   ·exact lv3.m c hc
theorem RSt.appL {kls:List (List Key × List D)} {a l0:Addr} {kvs:List (List Key × V)} {k:List Key} {d:D} {v:V} (rs:RSt K F M H σ ρ) (g1:ρ[i]? = some (.obj (dlO kls))) (hv0:σ[i]? = some (some (.ref a))) (hd:H a = some (.dT kvs)) (hv:valV kvs k = some (.ref l0)) (ra:Rep K F.pp M H d v) :
  ∃ xs,H l0 = some (.lst xs) /\ (∃ p ∈ kls,p.1 = k /\ p.2.length = xs.length) /\ Mv K F.pp M H M (upd H l0 (.lst (xs ++ [v]))) /\ RSt K F M (upd H l0 (.lst (xs ++ [v]))) σ (ρ.set i (.obj (dlO (addL1 k d kls)))):=by
 obtain ⟨a1,kvs1,ls,hv1,hd1,nd,pl,hA⟩:=rs.dlAt g1
 rw [hv0] at hv1
 cases hv1
 rw [hd] at hd1
 cases hd1
 obtain ⟨nd1,nd2⟩:=List.nodup_cons.mp nd
 rcases pl.add k d nd2 with ⟨a1,_⟩ | ⟨l0',xs,a1,a2,a3,a4,_⟩
 ·rw [hv] at a1; cases a1
 rw [hv] at a1
 cases a1
 obtain ⟨lm,l00,lp0⟩:=hA l0 (List.mem_cons_of_mem _ a2)
 have mw:Mv K F.pp M H M (upd H l0 (.lst (xs ++ [v]))):=.writeX a3 trivial lm lp0
 refine ⟨xs,a3,a4,mw,rs.objStep g1 mw (fun v' A' hv' nd' hq' hA'=>?_) rs.sub (rs.sameW l00 mw) rs.liv.upd⟩
 rw [hv0] at hv'
 cases hv'
 obtain ⟨a',kvs',ls',e,hd',rfl,pl'⟩:=ro_dl.mp hq'
 cases e
 rw [hd] at hd'
 cases hd'
 obtain ⟨nd1',nd2'⟩:=List.nodup_cons.mp nd'
 rcases pl'.add k d nd2' with ⟨z,_⟩ | ⟨l0',xs',z1,z2,z3,_,f⟩
 ·rw [hv] at z; cases z
 rw [hv] at z1
 cases z1
 rw [a3] at z3
 cases z3
 have na:a ≠ l0:=by rintro rfl; exact nd1' z2
 have keep:∀ c x,c ≠ l0 -> H c = some x -> upd H l0 (.lst (xs ++ [v])) c = some x:=fun c x h1 h2=>by rw [upd_ne h1]; exact h2
 refine ⟨a :: ls',nd',ro_dl.mpr ⟨a,kvs,ls',rfl,keep a _ na hd,rfl,f mw (ra.mv mw) upd_same fun c _ h1 x h2=>keep c x h1 h2⟩,fun c hc=>⟨(hA' c hc).1,(hA' c hc).2.1,(hA' c hc).2.2,.inl hc⟩,fun c hc _ _ hn=>⟨hc,fun x e=>keep c x (by rintro rfl; exact hn (List.mem_cons_of_mem _ z2)) e⟩⟩
end
section
variable {X:Cx}
abbrev dSdaE (i:Nat) (tk ta:DE):DTS:=fun E ρ=>isDct (slot ρ i) /\ tk ρ fun dk ρ1=>∃ (kls:List (List Key × List D)) (k:List Key),slot ρ1 i = .obj (dlO kls) /\ dk = keyD k /\ kls.length < sizeLine /\ (∀ p ∈ kls,p.2.length < sizeLine) /\
 ∀ vs:Nat -> V,ta (pinL vs 0 (ρ1.set i (.obj (dlO (touch k kls))))) fun d ρ'=>(flD d /\ ρ' = pinL vs 0 (ρ1.set i (.obj (dlO (touch k kls))))) /\ E.nx (ρ1.set i (.obj (dlO (addL1 k d kls))))
omit [Frm] in
theorem touch_len {k:List Key} {n:Nat} (hn:0 < n):∀ {kls:List (List Key × List D)},(∀ p ∈ kls,p.2.length < n) -> ∀ p ∈ touch k kls,p.2.length < n
 | [],_,p,hp=>by
  rw [List.mem_singleton.mp hp]
  exact hn
 | q :: r,h,p,hp=>by
  unfold touch at hp
  split at hp
  ·exact h p hp
  ·rcases List.mem_cons.mp hp with rfl | hp
   ·exact h p List.mem_cons_self
   ·exact touch_len hn (fun p hp=>h p (List.mem_cons_of_mem _ hp)) p hp
theorem ds_sdaE {i r:Nat} {o ek ea:Expr} {lp p1 p2 p3 p4 pos:Pos} {tk ta:DE} (hr:Room r X.A) (ho:PE X o (tVar i)) (hk:PED X ek tk) (ha:PED X ea ta)
  (b1:attributeBase o "setdefault" X.env (eval o X.env) = eval o X.env:=by rfl)
  (f1:((backTo p2 (starEach [ek,.List [] lp] X.env)).all (fun x=>!x.1) && (backToKw p2 (keywordEach [] X.env)).all (fun x=>x.1.isSome)
   && decide ([ek,.List [] lp].length + ([]:List Keyword).length + (if ([]:List Keyword).isEmpty then 0 else 1) < 30)) = true:=by rfl)
  (l1:(p1.endLine == p2.line) = true:=by rfl) (s1:starEach [ek,.List [] lp] X.env = (false,eval ek X.env) :: starEach [.List [] lp] X.env:=by rfl) (s1':starEach [.List [] lp] X.env = (false,eval (.List [] lp) X.env) :: starEach [] X.env:=by rfl)
  (q1:(backTo p2 (starEach [.List [] lp] X.env)).any (·.1) = false:=by rfl)
  (b2:attributeBase (.Call (.Attribute o "setdefault" p1) [ek,.List [] lp] [] p2) "append" X.env (eval (.Call (.Attribute o "setdefault" p1) [ek,.List [] lp] [] p2) X.env) = eval (.Call (.Attribute o "setdefault" p1) [ek,.List [] lp] [] p2) X.env:=by rfl)
  (f2:((backTo p4 (starEach [ea] X.env)).all (fun x=>!x.1) && (backToKw p4 (keywordEach [] X.env)).all (fun x=>x.1.isSome)
   && decide ([ea].length + ([]:List Keyword).length + (if ([]:List Keyword).isEmpty then 0 else 1) < 30)) = true:=by rfl)
  (l2:(p3.endLine == p4.line) = true:=by rfl) (s2:starEach [ea] X.env = (false,eval ea X.env) :: starEach [] X.env:=by rfl) (q2:(backTo p4 (starEach [] X.env)).any (·.1) = false:=by rfl)
  (hs:swapsWith (.Call (.Attribute (.Call (.Attribute o "setdefault" p1) [ek,.List [] lp] [] p2) "append" p3) [ea] [] p4) none pos.line X.env = pure false:=by rfl) :
  PSD X (.Expr (.Call (.Attribute (.Call (.Attribute o "setdefault" p1) [ek,.List [] lp] [] p2) "append" p3) [ea] [] p4) pos) (dSdaE i tk ta):=by
 obtain ⟨Tk,pk,rk⟩:=hk.run
 obtain ⟨Ta,pa,ra⟩:=ha.run
 have hm:=pe_bm PySem.F.plainAttrs_list PySem.F.slot_list_append PySem.F.type_list_append mt_append (pe_bm PySem.F.plainAttrs_dict PySem.F.slot_dict_setdefault PySem.F.type_dict_setdefault (mt_setdefault (X:=X) (by have:=hr.units; omega)) ho (pa_cons pk (pa_cons (pe_lst (pos:=lp) pa_nil) pa_nil s1') s1) b1 f1 l1 s1 q1) (pa_cons pa pa_nil s2) b2 f2 l2 s2 q2
 refine ⟨_,ps_expr hm hs,fun {F} M H σ ρ E D rs oo h=>?_⟩
 obtain ⟨ks,os,e0⟩:=isDct_of h.1
 obtain ⟨v0,A0,hv0,_,hq0,_⟩:=rs.objAt (slot_get e0 (by intro z; cases z))
 simp only [RO] at hq0
 obtain ⟨a,kvs0,B,rfl,hd0,_⟩:=hq0
 refine ⟨.ref a,hv0,.inr (.inr (.inl ⟨rfl,.inr ⟨kvs0,hd0⟩⟩)),?_⟩
 refine rk M H σ ρ _ rs (hk.mono _ _ _ (fun dk ρ1 h M1 H1 y m1 rs1 r1=>?_) h.2)
 obtain ⟨kls,k,es,ek',hlen,hlens,h9⟩:=h
 subst ek'
 obtain ⟨b,rfl,hb⟩:=rep_keyD r1
 have g1:=slot_get es (by intro z; cases z)
 refine ⟨Nat.zero_le _,fun l hl=>?_⟩
 obtain ⟨a1,kvs,ls,hv1,hd,_⟩:=rs1.dlAt g1
 rw [hv0] at hv1
 cases hv1
 have la:a ≠ l:=by rintro rfl; rw [hd] at hl; cases hl
 have lb:b ≠ l:=by rintro rfl; rw [hb] at hl; cases hl
 obtain ⟨el,t1,t2⟩:=rs1.touch g1 hv0 hd hl k
 have g2:(ρ1.set i (.obj (dlO (touch k kls))))[i]? = some (.obj (dlO (touch k kls))):=by
  have hi:=(List.getElem?_eq_some_iff.mp g1).1
  simp [hi]
 have go:∀ (M2:List Addr) (H2:Hp) (kvs2:List (List Key × V)) (l0:Addr),Mv X.K F.pp M1 H1 M2 H2 -> RSt X.K F M2 H2 σ (ρ1.set i (.obj (dlO (touch k kls)))) -> H2 a = some (.dT kvs2) -> valV kvs2 k = some (.ref l0) ->
   tyV X.K "list" (.ref l0) H2 /\ tCons Ta tNil σ H2 fun xs H3=>rAppend (.ref l0) xs H3 fun _ H'=>D.nx σ H':=by
  intro M2 H2 kvs2 l0 m2 rs2 hd2 hv2
  obtain ⟨xs0,hx0,_⟩:=rs2.appL (d:=.non) (v:=.non) g2 hv0 hd2 hv2 (by simp only [Rep])
  refine ⟨.inl ⟨rfl,xs0,SqL.of hx0⟩,?_⟩
  obtain ⟨M0,m0,rs0,th,As,k1,kp⟩:=rs2.look _ (st_at σ)
  refine ra M0 H2 σ _ _ rs0 (ha.mono _ _ _ (fun d ρ' q M' H' v m rs' rd=>?_) (h9 _))
  obtain ⟨⟨fl,rfl⟩,q⟩:=q
  obtain ⟨M3,m3,rs3⟩:=th M' H' σ _ _ m rs' (Unp.self _ _ 0)
  have hda:H' a = some (.dT kvs2):=by
   obtain ⟨_,v1,e1,ro⟩:=k1 i _ _ g2 hv0
   cases e1
   obtain ⟨a',kvs',ls',e,_,eA,_⟩:=ro_dl.mp ro
   cases e
   exact kp M' H' m i (List.getElem?_eq_some_iff.mp g2).1 a (by rw [eA]; exact List.mem_cons_self) _ hd2
  obtain ⟨xs,hx,⟨p',c1,_,c3⟩,mw,rs4⟩:=rs3.appL g2 hv0 hda hv2 (rd.flat _ _ fl)
  refine ⟨l0,xs,v,rfl,rfl,hx,by rw [← c3]; exact touch_len (by decide) hlens p' c1,oo.nx M3 _ σ _ ((m1.trans (m2.trans m3)).trans mw) rs4 ?_⟩
  rw [add_touch,List.set_set]
  exact q
 refine ⟨a,kvs,k,b,.ref l,rfl,rfl,by rw [upd_ne la]; exact hd,by rw [upd_ne lb]; exact hb,by rw [el]; exact hlen,fun v hv=>?_,fun hn=>?_⟩
 ·obtain ⟨l0,rfl,rs2,hd2⟩:=t1 v hv
  exact go M1 _ kvs l0 (.new hl) rs2 hd2 hv
 ·obtain ⟨m2,rs2,hv2⟩:=t2 hn
  exact go (l :: M1) _ _ l m2 rs2 upd_same hv2
def isDT:D -> Prop
 | .dT _ _=>True
 | _=>False
abbrev dGetT (tx tk te:DE):DE:=fun ρ Q=>tx ρ fun x ρ0=>isDT x /\ tk ρ0 fun dk ρ1=>te ρ1 fun d ρ2=>∃ kds k,x = .dT (List.map (·.1) kds) (List.map (·.2) kds) /\ dk = keyD k /\ Q ((findA kds k).getD d) ρ2
theorem de_getT {r:Nat} {o ek e:Expr} {apos cpos:Pos} {tx tk te:DE} (hr:Room r X.A) (hx:PED X o tx) (hk:PED X ek tk) (he:PED X e te) (m:M2 X o "get" apos ek e cpos:=by exact ⟨rfl,rfl,rfl,rfl⟩) :
  PED X (.Call (.Attribute o "get" apos) [ek,e] [] cpos) (dGetT tx tk te):=by
 obtain ⟨Tx,px,rx⟩:=hx.run
 obtain ⟨Tk,pk,rk⟩:=hk.run
 obtain ⟨Te,pe,re⟩:=he.run
 refine ⟨fun ρ P P' f h=>hx.mono _ _ _ (fun x ρ0 h=>⟨h.1,hk.mono _ _ _ (fun dk ρ1 h=>he.mono _ _ _ (fun d ρ2 ⟨kds,k,h1,h2,h3⟩=>⟨kds,k,h1,h2,f _ _ h3⟩) h) h.2⟩) h,_,pe_dget2 (by have:=hr.units; omega) px pk pe m,fun {F} M H σ ρ Q rs h=>?_⟩
 refine rx M H σ ρ _ rs (hx.mono _ _ _ (fun x ρ0 h M0 H0 v m0 rs0 r0=>?_) h)
 cases x with
 | dT ks ds =>
  simp only [Rep] at r0
  obtain ⟨a,kvs,rfl,an,ap,ha,ek',rr⟩:=r0
  refine ⟨a,rfl,.inr ⟨kvs,.inl ha⟩,?_⟩
  refine rk M0 H0 σ ρ0 _ rs0 (hk.mono _ _ _ (fun dk ρ1 h M1 H1 y m1 rs1 r1=>?_) h.2)
  refine re M1 H1 σ ρ1 _ rs1 (he.mono _ _ _ (fun d ρ2 h M2 H2 z m2 rs2 r2=>?_) h)
  obtain ⟨kds,k,e1,e2,h9⟩:=h
  subst e2
  cases e1
  obtain ⟨b,rfl,hb⟩:=rep_keyD (r1.mv m2)
  have ha2:=((m1.trans m2).oth a _ ha an ap).1
  refine ⟨_,DGet.t ha2 hb,h9 M2 H2 _ ((m0.trans m1).trans m2) rs2 ?_⟩
  rcases (pk_of ek' (Reps.mv (m1.trans m2) _ _ rr)).find k with ⟨e1,e2⟩ | ⟨x,y,e1,e2,rxy⟩
  ·rw [find_val] at e2
   rw [e1,e2]
   exact r2
  ·rw [find_val] at e2
   rw [e1,e2]
   exact rxy
 | _=>exact h.1.elim
end
end DL
namespace DL
open PySem PySem.Spec L2
open PyProof.Rows hiding St
variable [Frm] {X:Cx} {st:Stmt}
end DL
namespace DL
open PySem PySem.Spec L2
open PyProof.Rows hiding St
section
variable {P:Program} {w:World} {K:PySem.W.Frag} {mg:Str -> Option Value} {base:Heap} {k:Nat} {f:Addr} {fd:FuncData} {ps:List Str} {n:Nat}
end
end DL
namespace DL
open PySem PySem.Spec L2
open PyProof.Rows hiding St
section
variable {X:Cx}
end
end DL
namespace L2
open PySem PySem.Spec PyProof.Rows PySem.W
theorem kRun_bind {α β:Type} (c:Nat -> Nat -> Bool) (f:α -> KasT β):∀ t:KasT α,kRun c (t.bind f) = kRun c (f (kRun c t))
 | .ret _=>rfl
 | .ask i j k=>kRun_bind c f (k (c i j))
structure StrO (N:Nat) (c:Nat -> Nat -> Bool):Prop where
 tr:∀ i j k,i < N -> j < N -> k < N -> c i j = true -> c j k = true -> c i k = true
 as:∀ i j,i < N -> j < N -> c i j = true -> c j i = false
 to:∀ i j,i < N -> j < N -> i ≠ j -> c i j = false -> c j i = true
section
variable {N:Nat} {c:Nat -> Nat -> Bool} {p:Array Nat}
theorem PmN.size (h:PmN N p):p.size = N:=by
 have:=h.length_eq
 simpa using this
theorem PmN.ne (h:PmN N p) {i j:Nat} (hi:i < N) (hj:j < N) (e:i ≠ j):p.getD i 0 ≠ p.getD j 0:=by
 have nd:p.toList.Nodup:=h.nodup_iff.mpr List.nodup_range
 have s:=h.size
 have e1:p.getD i 0 = p.toList[i]'(by simpa [s] using hi):=by simp [Array.getD,s,hi]
 have e2:p.getD j 0 = p.toList[j]'(by simpa [s] using hj):=by simp [Array.getD,s,hj]
 rw [e1,e2]
 intro z
 exact e ((List.getElem_inj nd).mp z)
def Asc (c:Nat -> Nat -> Bool) (p:Array Nat) (n:Nat):Prop:=∀ i j,i < j -> j < n -> c (p.getD i 0) (p.getD j 0) = true
def Dsc (c:Nat -> Nat -> Bool) (p:Array Nat) (n:Nat):Prop:=∀ i j,i < j -> j < n -> c (p.getD j 0) (p.getD i 0) = true
theorem Asc.step (O:StrO N c) (h:PmN N p) {n:Nat} (hn:1 <= n) (hN:n < N) (a:Asc c p n) (e:c (p.getD n 0) (p.getD (n - 1) 0) = false):Asc c p (n + 1):=by
 have h0:0 < N:=by omega
 have last:c (p.getD (n - 1) 0) (p.getD n 0) = true:=O.to _ _ (h.lt h0 _) (h.lt h0 _) (h.ne hN (by omega) (by omega)) e
 intro i j hij hj
 by_cases z:j = n
 ·subst z
  by_cases y:i = j - 1
  ·subst y; exact last
  ·exact O.tr _ _ _ (h.lt h0 _) (h.lt h0 _) (h.lt h0 _) (a i (j - 1) (by omega) (by omega)) last
 ·exact a i j hij (by omega)
theorem Dsc.step (O:StrO N c) (h:PmN N p) {n:Nat} (hn:1 <= n) (hN:n < N) (a:Dsc c p n) (last:c (p.getD n 0) (p.getD (n - 1) 0) = true):Dsc c p (n + 1):=by
 have h0:0 < N:=by omega
 intro i j hij hj
 by_cases z:j = n
 ·subst z
  by_cases y:i = j - 1
  ·subst y; exact last
  ·exact O.tr _ _ _ (h.lt h0 _) (h.lt h0 _) (h.lt h0 _) last (a i (j - 1) (by omega) (by omega))
 ·exact a i j hij (by omega)
theorem run_asc (O:StrO N c) (h:PmN N p):∀ (f n:Nat),1 <= n -> n + f <= N -> Asc c p n -> Asc c p (kRun c (kas_asc p f n)) /\ n <= kRun c (kas_asc p f n) /\ kRun c (kas_asc p f n) <= n + f /\ (kRun c (kas_asc p f n) = n + f ∨ c (p.getD (kRun c (kas_asc p f n)) 0) (p.getD (kRun c (kas_asc p f n) - 1) 0) = true)
 | 0,n,_,_,a=>⟨a,Nat.le_refl _,Nat.le_refl _,.inl rfl⟩
 | f + 1,n,hn,hN,a=>by
  have e0:kRun c (kas_asc p (f + 1) n) = kRun c (if c (p.getD n 0) (p.getD (n - 1) 0) = true then .ret n else kas_asc p f (n + 1)):=rfl
  cases e:c (p.getD n 0) (p.getD (n - 1) 0) with
  | true =>
   rw [e0,if_pos e]
   exact ⟨a,Nat.le_refl _,by show n <= _; omega,.inr e⟩
  | false =>
   rw [e0,if_neg (by rw [e]; intro z; cases z)]
   obtain ⟨b1,b2,b3,b4⟩:=run_asc O h f (n + 1) (by omega) (by omega) (a.step O h hn (by omega) e)
   refine ⟨b1,by omega,by omega,?_⟩
   rcases b4 with b4 | b4
   ·exact .inl (by omega)
   ·exact .inr b4
theorem run_desc (O:StrO N c) (h:PmN N p):∀ (f n:Nat),1 <= n -> n + f <= N -> Dsc c p n -> ∃ m,kRun c (kas_desc f p n 0) = (p,m,0) /\ Dsc c p m /\ n <= m /\ m <= n + f
 | 0,n,_,_,a=>⟨n,rfl,a,Nat.le_refl _,Nat.le_refl _⟩
 | f + 1,n,hn,hN,a=>by
  have h0:0 < N:=by omega
  have e0:kRun c (kas_desc (f + 1) p n 0) = kRun c (if c (p.getD n 0) (p.getD (n - 1) 0) = true then (if 0 > 0 then kas_desc f (kas_rev p (n - (0 + 1)) n) (n + 1) 0 else kas_desc f p (n + 1) 0)
   else .ask (p.getD (n - 1) 0) (p.getD n 0) fun d=>if d = true then .ret (p,n,0) else kas_desc f p (n + 1) (0 + 1)):=rfl
  rw [e0]
  cases e:c (p.getD n 0) (p.getD (n - 1) 0) with
  | true =>
   rw [if_pos rfl,if_neg (by omega)]
   obtain ⟨m,b1,b2,b3,b4⟩:=run_desc O h f (n + 1) (by omega) (by omega) (a.step O h hn (by omega) e)
   exact ⟨m,b1,b2,by omega,by omega⟩
  | false =>
   rw [if_neg (by intro z; cases z)]
   have last:c (p.getD (n - 1) 0) (p.getD n 0) = true:=O.to _ _ (h.lt h0 _) (h.lt h0 _) (h.ne (by omega) (by omega) (by omega)) e
   have e1:kRun c (.ask (p.getD (n - 1) 0) (p.getD n 0) fun d=>if d = true then .ret (p,n,0) else kas_desc f p (n + 1) (0 + 1)) = kRun c (if c (p.getD (n - 1) 0) (p.getD n 0) = true then .ret (p,n,0) else kas_desc f p (n + 1) (0 + 1)):=rfl
   rw [e1,if_pos last]
   exact ⟨n,rfl,a,Nat.le_refl _,by omega⟩
theorem swap_at {p:Array Nat} {a b:Nat} (ha:a < p.size) (hb:b < p.size) (i:Nat):(p.swapIfInBounds a b).getD i 0 = if i = a then p.getD b 0 else if i = b then p.getD a 0 else p.getD i 0:=by
 have e:∀ (q:Array Nat) (j:Nat),q.getD j 0 = (q[j]?).getD 0:=fun q j=>by
  by_cases h:j < q.size <;> simp [Array.getD,h]
 rw [e,e,e,e,Array.swapIfInBounds_def,dif_pos ha,dif_pos hb,Array.getElem?_swap]
 by_cases h1:i = a
 ·subst h1
  by_cases h2:i = b
  ·subst h2; simp [hb]
  ·simp [h2,hb,Ne.symm h2]
 ·by_cases h2:i = b
  ·subst h2
   simp [h1,ha,hb]
  ·simp [h1,h2,Ne.symm h1,Ne.symm h2]
theorem bub_at {p:Array Nat} {k:Nat} (hk:k < p.size):∀ (d:Nat),d <= k -> ∀ i,(bubble p k d).getD i 0 = if i = k - d then p.getD k 0 else if k - d < i /\ i <= k then p.getD (i - 1) 0 else p.getD i 0
 | 0,_,i=>by
  show p.getD i 0 = _
  by_cases h:i = k
  ·subst h; simp
  ·rw [if_neg (by omega),if_neg (by omega)]
 | d + 1,hd,i=>by
  rw [bubble_succ,swap_at (by rw [bubble_size]; omega) (by rw [bubble_size]; omega),bub_at hk d (by omega),bub_at hk d (by omega),bub_at hk d (by omega)]
  by_cases h1:i = k - d
  ·rw [if_pos h1,if_neg (by omega),if_neg (by omega),if_neg (by omega),if_pos (by omega),show k - d - 1 = i - 1 by omega]
  ·rw [if_neg h1]
   by_cases h2:i = k - d - 1
   ·rw [if_pos h2,if_pos rfl,if_pos (by omega)]
   ·rw [if_neg h2,if_neg h1,if_neg (show ¬ i = k - (d + 1) by omega)]
    by_cases h3:k - d < i /\ i <= k
    ·rw [if_pos h3,if_pos (by omega)]
    ·rw [if_neg h3,if_neg (by omega)]
theorem mir_at {p:Array Nat} {n:Nat} (hn:n <= p.size):∀ (d:Nat),d <= n / 2 -> ∀ i,(mirror p 0 n d).getD i 0 = if i < d ∨ (n - d <= i /\ i < n) then p.getD (n - 1 - i) 0 else p.getD i 0
 | 0,_,i=>by
  show p.getD i 0 = _
  rw [if_neg (by omega)]
 | d + 1,hd,i=>by
  rw [mirror_succ,swap_at (by rw [mirror_size]; omega) (by rw [mirror_size]; omega),mir_at hn d (by omega),mir_at hn d (by omega),mir_at hn d (by omega)]
  by_cases h1:i = 0 + d
  ·rw [if_pos h1,if_neg (by omega),if_pos (by omega),show n - 1 - d = n - 1 - i by omega]
  ·rw [if_neg h1]
   by_cases h2:i = n - 1 - d
   ·rw [if_pos h2,if_neg (by omega),if_pos (by omega),show n - 1 - i = 0 + d by omega]
   ·rw [if_neg h2]
    by_cases h3:i < d ∨ (n - d <= i /\ i < n)
    ·rw [if_pos h3,if_pos (by omega)]
    ·rw [if_neg h3,if_neg (by omega)]
theorem rev_at {p:Array Nat} {n:Nat} (hn:n <= p.size) (i:Nat):(kas_rev p 0 n).getD i 0 = if i < n then p.getD (n - 1 - i) 0 else p.getD i 0:=by
 unfold kas_rev
 rw [mir_at hn _ (by omega)]
 by_cases h:i < (n - 0) / 2 ∨ (n - (n - 0) / 2 <= i /\ i < n)
 ·rw [if_pos h,if_pos (by omega)]
 ·rw [if_neg h]
  by_cases h2:i < n
  ·rw [if_pos h2,show n - 1 - i = i by omega]
  ·rw [if_neg h2]
theorem Dsc.rev {n:Nat} (h:PmN N p) (hn:n <= N) (a:Dsc c p n):Asc c (kas_rev p 0 n) n:=by
 intro i j hij hj
 have s:=h.size
 rw [rev_at (by omega),rev_at (by omega),if_pos (by omega),if_pos hj]
 exact a _ _ (by omega) (by omega)
theorem run_count (O:StrO N c) (h:PmN N p) (h2:2 <= N):Asc c (kRun c (kas_count N p)).2 (kRun c (kas_count N p)).1 /\ 1 <= (kRun c (kas_count N p)).1 /\ (kRun c (kas_count N p)).1 <= N:=by
 obtain ⟨a1,a2,a3,a4⟩:=run_asc O h (N - 1) 1 (Nat.le_refl _) (by omega) (fun i j hij hj=>by omega)
 unfold kas_count
 rw [kRun_bind]
 generalize kRun c (kas_asc p (N - 1) 1) = n at a1 a2 a3 a4
 by_cases e1:(n == N) = true
 ·rw [if_pos e1]
  exact ⟨a1,a2,by show n <= N; omega⟩
 ·rw [if_neg e1]
  have nN:n ≠ N:=fun z=>e1 (by rw [z]; exact beq_self_eq_true _)
  by_cases e2:n > 1
  ·rw [if_pos e2]
   have e3:kRun c (.ask (p.getD 0 0) (p.getD (n - 1) 0) fun b=>if b = true then .ret (n,p) else kas_descPart n N (kas_rev p 0 n)) = kRun c (if c (p.getD 0 0) (p.getD (n - 1) 0) = true then .ret (n,p) else kas_descPart n N (kas_rev p 0 n)):=rfl
   rw [e3,if_pos (a1 0 (n - 1) (by omega) (by omega))]
   exact ⟨a1,a2,by show n <= N; omega⟩
  ·rw [if_neg e2]
   have n1:n = 1:=by omega
   subst n1
   have last:c (p.getD 1 0) (p.getD (1 - 1) 0) = true:=by
    rcases a4 with a4 | a4
    ·exact absurd a4 (by omega)
    ·exact a4
   have d2:Dsc c p (1 + 1):=Dsc.step O h (Nat.le_refl _) (by omega) (fun i j hij hj=>by omega) last
   unfold kas_descPart
   rw [kRun_bind]
   obtain ⟨m,b1,b2,b3,b4⟩:=run_desc O h (N - (1 + 1)) (1 + 1) (by omega) (by omega) d2
   rw [b1]
   show Asc c (kRun c (if (0:Nat) > 0 then _ else kas_tail3 m N p)).2 _ /\ _
   rw [if_neg (by omega)]
   have mN:m <= N:=by omega
   unfold kas_tail3
   rw [kRun_bind]
   obtain ⟨c1,c2,c3,_⟩:=run_asc O (h.rev 0 m) (N - m) m (by omega) (by omega) (b2.rev h mN)
   exact ⟨c1,by show 1 <= kRun c _; omega,by show kRun c _ <= N; omega⟩
theorem run_place (O:StrO N c) (h:PmN N p) {k:Nat} (hk:k < N) (a:Asc c p k):∀ (f l r:Nat),r - l <= f -> l <= r -> r <= k -> (∀ i,i < l -> c (p.getD i 0) (p.getD k 0) = true) -> (∀ i,r <= i -> i < k -> c (p.getD k 0) (p.getD i 0) = true) ->
  (kRun c (kas_place p k f l r) <= k /\ (∀ i,i < kRun c (kas_place p k f l r) -> c (p.getD i 0) (p.getD k 0) = true) /\ ∀ i,kRun c (kas_place p k f l r) <= i -> i < k -> c (p.getD k 0) (p.getD i 0) = true)
 | 0,l,r,hf,hlr,hr,h1,h2=>by
  show l <= k /\ _
  have:l = r:=by omega
  subst this
  exact ⟨hr,h1,h2⟩
 | f + 1,l,r,hf,hlr,hr,h1,h2=>by
  have h0:0 < N:=by omega
  unfold kas_place
  by_cases e:l ≥ r
  ·rw [if_pos e]
   have:l = r:=by omega
   subst this
   exact ⟨hr,h1,h2⟩
  ·rw [if_neg e]
   have e3:∀ (t u:KasT Nat),kRun c (.ask (p.getD k 0) (p.getD ((l + r) / 2) 0) fun b=>if b = true then t else u) = kRun c (if c (p.getD k 0) (p.getD ((l + r) / 2) 0) = true then t else u):=fun _ _=>rfl
   rw [e3]
   cases z:c (p.getD k 0) (p.getD ((l + r) / 2) 0) with
   | true =>
    rw [if_pos rfl]
    refine run_place O h hk a f l ((l + r) / 2) (by omega) (by omega) (by omega) h1 fun i hi hik=>?_
    by_cases y:i = (l + r) / 2
    ·rw [y]; exact z
    ·exact O.tr _ _ _ (h.lt h0 _) (h.lt h0 _) (h.lt h0 _) z (a _ _ (by omega) hik)
   | false =>
    rw [if_neg (by intro z; cases z)]
    have z':c (p.getD ((l + r) / 2) 0) (p.getD k 0) = true:=O.to _ _ (h.lt h0 _) (h.lt h0 _) (h.ne hk (by omega) (by omega)) z
    refine run_place O h hk a f ((l + r) / 2 + 1) r (by omega) (by omega) hr (fun i hi=>?_) h2
    by_cases y:i = (l + r) / 2
    ·rw [y]; exact z'
    ·exact O.tr _ _ _ (h.lt h0 _) (h.lt h0 _) (h.lt h0 _) (a i _ (by omega) (by omega)) z'
theorem Asc.bub (h:PmN N p) {k l:Nat} (hk:k < N) (a:Asc c p k) (hl:l <= k) (h1:∀ i,i < l -> c (p.getD i 0) (p.getD k 0) = true) (h2:∀ i,l <= i -> i < k -> c (p.getD k 0) (p.getD i 0) = true):Asc c (bubble p k (k - l)) (k + 1):=by
 intro i j hij hj
 have s:=h.size
 have e:=bub_at (p:=p) (k:=k) (by omega) (k - l) (by omega)
 have el:k - (k - l) = l:=by omega
 rw [e i,e j,el]
 by_cases i1:i = l
 ·rw [if_pos i1,if_neg (by omega),if_pos (by omega)]
  exact h2 (j - 1) (by omega) (by omega)
 ·rw [if_neg i1]
  by_cases j1:j = l
  ·rw [if_pos j1,if_neg (by omega)]
   exact h1 i (by omega)
  ·rw [if_neg j1]
   by_cases i2:l < i /\ i <= k
   ·rw [if_pos i2,if_pos (by omega)]
    exact a _ _ (by omega) (by omega)
   ·rw [if_neg i2]
    by_cases j2:l < j /\ j <= k
    ·rw [if_pos j2]
     exact a _ _ (by omega) (by omega)
    ·rw [if_neg j2]
     exact a _ _ hij (by omega)
theorem run_bin (O:StrO N c):∀ (f:Nat) (p:Array Nat) (k:Nat),PmN N p -> 1 <= k -> k + f = N -> Asc c p k -> Asc c (kRun c (kas_bin f p k)) N
 | 0,p,k,h,_,e,a=>by
  have:k = N:=by omega
  subst this
  exact a
 | f + 1,p,k,h,hk,e,a=>by
  unfold kas_bin
  rw [kRun_bind]
  obtain ⟨b1,b2,b3⟩:=run_place O h (k:=k) (by omega) a k 0 k (by omega) (by omega) (Nat.le_refl _) (fun i hi=>by omega) (fun i hi hik=>by omega)
  exact run_bin O f _ (k + 1) (h.bub _ _) (by omega) (by omega) (a.bub h (by omega) b1 b2 b3)
theorem run_sort (O:StrO N c) (h2:2 <= N):Asc c (kRun c (kas_sort N)) N:=by
 have hp:PmN N (List.toArray (List.range N)):=by unfold PmN; rw [List.toList_toArray]
 unfold kas_sort
 rw [kRun_bind]
 obtain ⟨a1,a2,a3⟩:=run_count O hp h2
 have pm:=KGood.end c _ (good_count (N:=N) (by omega) hp N)
 generalize kRun c (kas_count N (List.toArray (List.range N))) = r at a1 a2 a3 pm
 by_cases e:r.1 < N
 ·rw [if_pos e]
  have em:max r.1 1 = r.1:=by omega
  rw [em]
  exact run_bin O _ _ _ pm a2 (by omega) a1
 ·rw [if_neg e]
  have:r.1 = N:=by omega
  rw [this] at a1
  exact a1
end
end L2
namespace L2
open PySem PySem.Spec PyProof.Rows
def IterX:Bool -> Heap -> Addr -> Addr -> Nat -> Prop
 | true,h,i,a,k=>h.IsTupleIter i a k
 | false,h,i,a,k=>h.IsListIter i a k
def SeqX:Bool -> Heap -> Addr -> Array Value -> Prop
 | true,h,a,xs=>h.IsTuple a xs
 | false,h,a,xs=>h.IsList a xs
theorem IterX.extBut {t:Bool} {h h':Heap} {i a b:Addr} {k:Nat} (x:IterX t h i a k) (hs:Heap.ExtBut b h h') (e:i ≠ b):IterX t h' i a k:=by
 cases t with
 | true=>exact Heap.IsTupleIter.extBut x hs e
 | false=>exact Heap.IsListIter.extBut x hs e
theorem IterX.at {t:Bool} {h h':Heap} {i a:Addr} {k:Nat} (x:IterX t h i a k) (e:∀ o,h.get? i = some o -> h'.get? i = some o):IterX t h' i a k:=by
 cases t with
 | true=>exact Heap.IsTupleIter.at x e
 | false=>exact Heap.IsListIter.at x e
theorem IterX.cell {t:Bool} {h:Heap} {i a:Addr} {k:Nat} (x:IterX t h i a k):∃ o,h.get? i = some o /\ ∀ v,o.data ≠ .cell v:=by
 cases t with
 | true=>obtain ⟨o,e,_,d⟩:=(show h.IsTupleIter i a k from x); exact ⟨o,e,fun v z=>by rw [d] at z; cases z⟩
 | false=>obtain ⟨o,e,_,d⟩:=(show h.IsListIter i a k from x); exact ⟨o,e,fun v z=>by rw [d] at z; cases z⟩
theorem SeqX.extBut {t:Bool} {h h':Heap} {a b:Addr} {xs:Array Value} (x:SeqX t h a xs) (hs:Heap.ExtBut b h h') (e:a ≠ b):SeqX t h' a xs:=by
 cases t with
 | true=>exact Heap.IsTuple.extBut x hs e
 | false=>exact Heap.IsList.extBut x hs e
theorem SeqX.at {t:Bool} {h h':Heap} {a:Addr} {xs:Array Value} (x:SeqX t h a xs) (e:∀ o,h.get? a = some o -> h'.get? a = some o):SeqX t h' a xs:=by
 cases t with
 | true=>obtain ⟨o,ho,r⟩:=(show h.IsTuple a xs from x); exact ⟨o,e o ho,r⟩
 | false=>exact Heap.IsList.at x e
theorem SeqX.lt {t:Bool} {h:Heap} {a:Addr} {xs:Array Value} (x:SeqX t h a xs):a < h.objs.size:=by
 cases t with
 | true=>obtain ⟨o,ho,_⟩:=(show h.IsTuple a xs from x); exact Heap.lt_size ho
 | false=>obtain ⟨o,ho,_⟩:=(show h.IsList a xs from x); exact Heap.lt_size ho
section
variable {prog:Program} {w:World} {A:Around} {E:Value -> Shared -> Prop} {s:Shared}
theorem nextOf_tup_item {it t:Addr} {i:Nat} {xs:Array Value} {v:Value} {Q:Value -> Shared -> Prop} (h1:s.heap.IsTupleIter it t i) (h2:s.heap.IsTuple t xs) (h3:xs[i]? = some v)
  (q:∀ h',h'.IsTupleIter it t (i + 1) -> Heap.SameBut it s.heap h' -> Q v { s with heap:=h' }):wpAny (model prog w) A (Builtin.SmallTypes.nextOf (.ref it)) Q E s:=by
 obtain ⟨ob,ho,oc,od⟩:=id h1
 obtain ⟨ot,hot,_,nt,odt⟩:=h2
 unfold Builtin.SmallTypes.nextOf
 refine wpAny_bind (wpAny_callSpecial?_slot (name:=Str.ofString "__next__") h1.typeIs F.slot_tuple_iterator_next (wpAny_call_entry F.slot_tuple_iterator_next h1.typeIs F.entry_tuple_iterator_next ?_ (F.args_tuple_iterator_next_1 _)))
 refine (show wpAny _ _ (field (.ref it) 0 >>= _) _ _ s from wpAny_bind (wpAny_field ho od (x:=.ref t) rfl ?_))
 refine (show wpAny _ _ (if (Value.ref t == Value.none) = true then _ else _) _ _ s from ?_)
 rw [if_neg (show ¬ ((Value.ref t == Value.none) = true) from fun z=>nomatch z)]
 refine (show wpAny _ _ (field (.ref it) 1 >>= _) _ _ s from wpAny_bind (wpAny_field ho od (x:=.int i 0) rfl ?_))
 refine (show wpAny _ _ (seqItems? (.ref t) >>= _) _ _ s from wpAny_bind (wpAny_seqItems hot odt ?_))
 simp only [Int.toNat_natCast,h3]
 refine wpAny_bind (wpAny_setField ho od (by simp) (wpAny_pure ⟨v,rfl,wpAny_pure (q _ ⟨_,Heap.get?_update_self _ ho (Obj.isFreed_of_fields (Obj.data_mapFields od _)),(Obj.cls_mapFields ..).trans oc,by rw [Obj.data_mapFields od]; simp [rawInt]⟩ (Heap.SameBut.update ..))⟩))
theorem nextOf_tup_end {it t:Addr} {i:Nat} {xs:Array Value} {Q:Value -> Shared -> Prop} (hh:A.handled = none) (h1:s.heap.IsTupleIter it t i) (h2:s.heap.IsTuple t xs) (h3:xs[i]? = none)
  (q:∀ h' e,Heap.ExtBut it s.heap h' -> (∃ o,h'.get? e = some o /\ o.cls = .type "StopIteration") -> E (.ref e) { s with heap:=h' }):wpAny (model prog w) A (Builtin.SmallTypes.nextOf (.ref it)) Q E s:=by
 obtain ⟨ob,ho,oc,od⟩:=id h1
 obtain ⟨ot,hot,_,nt,odt⟩:=h2
 unfold Builtin.SmallTypes.nextOf
 refine wpAny_bind (wpAny_callSpecial?_slot (name:=Str.ofString "__next__") h1.typeIs F.slot_tuple_iterator_next (wpAny_call_entry F.slot_tuple_iterator_next h1.typeIs F.entry_tuple_iterator_next ?_ (F.args_tuple_iterator_next_1 _)))
 refine (show wpAny _ _ (field (.ref it) 0 >>= _) _ _ s from wpAny_bind (wpAny_field ho od (x:=.ref t) rfl ?_))
 refine (show wpAny _ _ (if (Value.ref t == Value.none) = true then _ else _) _ _ s from ?_)
 rw [if_neg (show ¬ ((Value.ref t == Value.none) = true) from fun z=>nomatch z)]
 refine (show wpAny _ _ (field (.ref it) 1 >>= _) _ _ s from wpAny_bind (wpAny_field ho od (x:=.int i 0) rfl ?_))
 refine (show wpAny _ _ (seqItems? (.ref t) >>= _) _ _ s from wpAny_bind (wpAny_seqItems hot odt ?_))
 simp only [Int.toNat_natCast,h3]
 refine wpAny_bind (wpAny_rule (wpAny_bind (wpAny_setField ho od (by simp) ?_)))
 refine (show wpAny _ _ (newExc (.type "StopIteration") [] >>= _) _ _ _ from wpAny_bind ?_)
 simp only [newExc,newTuple]
 refine wpAny_bind (wpAny_newObj_type (wpAny_bind (m:=firstArgMember _ _) (wpAny_of_eq (a:=Value.none) (by first | rfl | (simp only [firstArgMember]; rfl)) (wpAny_newObj_type ?_ (by size_fits)))) (by size_fits))
 simp only [raiseNew]; refine wpAny_bind (wpAny_handled ?_); (first | rw [show A.in1.handled = none from hh] | rw [hh]); refine wpAny_bind (wpAny_pure (wpAny_throw ?_))
 exact q _ _ (((Heap.SameBut.update ..).extBut.push _).push _) ⟨_,Heap.get?_push_size _ rfl,rfl⟩
theorem nextOf_x_item {b:Bool} {it t:Addr} {i:Nat} {xs:Array Value} {v:Value} {Q:Value -> Shared -> Prop} (h1:IterX b s.heap it t i) (h2:SeqX b s.heap t xs) (h3:xs[i]? = some v)
  (q:∀ h',IterX b h' it t (i + 1) -> Heap.SameBut it s.heap h' -> Q v { s with heap:=h' }):wpAny (model prog w) A (Builtin.SmallTypes.nextOf (.ref it)) Q E s:=by
 cases b with
 | true=>exact nextOf_tup_item h1 h2 h3 q
 | false=>exact wpAny_nextOf_list_item h1 h2 h3 q
theorem nextOf_x_end {b:Bool} {it t:Addr} {i:Nat} {xs:Array Value} {Q:Value -> Shared -> Prop} (hh:A.handled = none) (h1:IterX b s.heap it t i) (h2:SeqX b s.heap t xs) (h3:xs[i]? = none)
  (q:∀ h' e,Heap.ExtBut it s.heap h' -> (∃ o,h'.get? e = some o /\ o.cls = .type "StopIteration") -> E (.ref e) { s with heap:=h' }):wpAny (model prog w) A (Builtin.SmallTypes.nextOf (.ref it)) Q E s:=by
 cases b with
 | true=>exact nextOf_tup_end hh h1 h2 h3 q
 | false=>exact wpAny_nextOf_list_end hh h1 h2 h3 q
end
end L2
namespace L2
open PySem PySem.Spec PyProof.Rows
section
variable {tk:Addr -> Bool}
def ItsAtM (tk:Addr -> Bool) (h:Heap) (n:Nat) (src:List (Addr × Array Value)) (k c:Nat):Prop:=∀ (j:Nat) (p:Addr × Array Value),src[j]? = some p -> IterX (tk p.1) h (n + j) p.1 (if j < c then k + 1 else k)
def SrcAtM (tk:Addr -> Bool) (h:Heap) (n:Nat) (src:List (Addr × Array Value)):Prop:=∀ (j:Nat) (p:Addr × Array Value),src[j]? = some p -> p.1 < n /\ SeqX (tk p.1) h p.1 p.2
structure ZipStM (tk:Addr -> Bool) (h:Heap) (n:Nat) (src:List (Addr × Array Value)) (k:Nat):Prop where
 zip:∃ f0 f1,OwnF f0 /\ IsZipN h (n + src.length + 2) (n + src.length) (n + src.length + 1) f0 f1
 ti:IsTupR h (n + src.length) (itsL n src.length).toArray
 to:∃ ws:Array Value,ws.size = src.length /\ IsTupR h (n + src.length + 1) ws
 its:ItsAtM tk h n src k 0
 ls:SrcAtM tk h n src
 ne:src ≠ []
structure ZipLpM (tk:Addr -> Bool) (h0:Heap) (n:Nat) (src:List (Addr × Array Value)) (k c:Nat) (h:Heap):Prop where
 ti:IsTupR h (n + src.length) (itsL n src.length).toArray
 its:ItsAtM tk h n src k c
 ls:SrcAtM tk h n src
 kept:KeptZ n src.length h0 h
 sz:h.objs.size = h0.objs.size
section
variable {h0 h h':Heap} {n k c:Nat} {src:List (Addr × Array Value)}
theorem ZipLpM.same {a:Nat} (L:ZipLpM tk h0 n src k c h) (hs:Heap.SameBut a h h') (ha:a = n + src.length + 1 ∨ a = n + src.length + 2):ZipLpM tk h0 n src k c h' where
 ti:=hs.extBut _ _ (by intro e; have e:(_:Nat) = (_:Nat):=e; omega) L.ti
 its:=fun j p hj=>(L.its j p hj).extBut hs.extBut (by have:=at_lt hj; intro e; have e:(_:Nat) = (_:Nat):=e; omega)
 ls:=fun j p hj=>⟨(L.ls j p hj).1,(L.ls j p hj).2.extBut hs.extBut (Nat.ne_of_lt (Nat.lt_of_lt_of_le (L.ls j p hj).1 (show n <= a by omega)))⟩
 kept:=fun b o hb e=>hs.extBut _ _ (by intro e; have e:(_:Nat) = (_:Nat):=e; omega) (L.kept b o hb e)
 sz:=hs.1.trans L.sz
theorem ZipLpM.next {p:Addr × Array Value} (L:ZipLpM tk h0 n src k c h) (hc:src[c]? = some p) (hit:IterX (tk p.1) h' (n + c) p.1 (k + 1)) (hs:Heap.SameBut (n + c) h h'):ZipLpM tk h0 n src k (c + 1) h':=by
 have lt:=at_lt hc
 refine ⟨hs.extBut _ _ (by intro e; have e:(_:Nat) = (_:Nat):=e; omega) L.ti,fun j q hj=>?_,fun j q hj=>⟨(L.ls j q hj).1,(L.ls j q hj).2.extBut hs.extBut (Nat.ne_of_lt (Nat.lt_of_lt_of_le (L.ls j q hj).1 (Nat.le_add_right n c)))⟩,fun b o hb e=>hs.extBut _ _ (by intro e; have e:(_:Nat) = (_:Nat):=e; omega) (L.kept b o hb e),hs.1.trans L.sz⟩
 by_cases z:j = c
 ·subst z
  rw [hc] at hj
  cases hj
  rw [if_pos (by omega)]
  exact hit
 ·have:=(L.its j q hj).extBut hs.extBut (by intro e; have e:(_:Nat) = (_:Nat):=e; omega)
  by_cases y:j < c
  ·rw [if_pos y] at this
   rw [if_pos (by omega)]
   exact this
  ·rw [if_neg y] at this
   rw [if_neg (by omega)]
   exact this
theorem KeptZ.stepM {a:Nat} (L:ZipLpM tk h0 n src k c h) (hs:Heap.ExtBut a h h') (ha:(n <= a /\ a < n + src.length) ∨ a = n + src.length + 1 ∨ a = n + src.length + 2):KeptZ n src.length h0 h' :=
 fun b o hb e=>hs _ _ (by intro e; have e:(_:Nat) = (_:Nat):=e; omega) (L.kept b o hb e)
end
section
variable {prog:Program} {w:World} {A:Around} {E:Value -> Shared -> Prop} {s:Shared}
set_option maxHeartbeats 1000000 in
theorem zipM_next {n k:Nat} {src:List (Addr × Array Value)} {Q:Value -> Shared -> Prop} (hh:A.handled = none) (hsz:src.length <= sizeLine) (hs:ZipStM tk s.heap n src k)
  (hQ:∀ vs h',Told src k src.length vs -> ZipStM tk h' n src (k + 1) -> IsTupR h' s.heap.objs.size vs.toArray -> h'.objs.size = s.heap.objs.size + 1 -> KeptZ n src.length s.heap h' -> Q (.ref s.heap.objs.size) { s with heap:=h' })
  (hE:(∃ (j:Nat) (p:Addr × Array Value),src[j]? = some p /\ p.2[k]? = none) -> ∀ h' e,KeptZ n src.length s.heap h' -> (∃ o,h'.get? e = some o /\ o.cls = .type "StopIteration") -> E (.ref e) { s with heap:=h' }) :
  wpAny (model prog w) A (Builtin.«zip.__next__» ⟨[.ref (n + src.length + 2)],[]⟩) (fun fin s'=>∃ v,fin = .done (.ret v) /\ Q v s') E s:=by
 obtain ⟨⟨f0,f1,hf,hz⟩,hTI,⟨ws,hws,hTO⟩,hit,hls,hne⟩:=hs
 show wpAny _ _ (field (.ref (n + src.length + 2)) 2 >>= _) _ _ _
 refine wpAny_bind (wpAny_field hz rfl (x:=.bool false) rfl ?_)
 show wpAny _ _ (field (.ref (n + src.length + 2)) 3 >>= _) _ _ _
 refine wpAny_bind (wpAny_field hz rfl (x:=.ref (n + src.length)) rfl ?_)
 refine wpAny_bind (wpAny_seqItems hTI rfl ?_)
 have hem:((itsL n src.length).toArray.isEmpty) = false:=by
  cases src with
  | nil=>exact absurd rfl hne
  | cons a l=>simp [itsL]
 simp only [hem,Bool.false_eq_true,if_false]
 refine wpAny_bind (own_free hf hz ?_ fun h1 f1' hz1 hs1=>?_)
 ·simp only [if_true]
  refine wpAny_bind (wpAny_rule ?_)
  refine wpAny_bind (wpAny_field hz rfl (x:=.ref (n + src.length + 1)) rfl ?_)
  refine wpAny_bind (wpAny_setField_rec hz (by simp) fun h₁ hz₁ hs₁=>?_)
  replace hz₁:IsZipN h₁ (n + src.length + 2) (n + src.length) (n + src.length + 1) .ellipsis f1:=hz₁
  have L0:ZipLpM tk s.heap n src k 0 s.heap:=⟨hTI,hit,hls,fun _ _ _ e=>e,rfl⟩
  have L1:=L0.same hs₁ (.inr rfl)
  have hTO₁:IsTupR h₁ (n + src.length + 1) ws:=hs₁.extBut _ _ (by intro e; have e:(_:Nat) = (_:Nat):=e; omega) hTO
  refine wpAny_bind (wpAny_forIn_list _ (fun rest b s'=>∃ c h ws vs,rest = ((itsL n src.length).toArray.toList.zipIdx).drop c /\ c <= src.length /\ b = (none,()) /\ s' = { s with heap:=h } /\ IsZipN h (n + src.length + 2) (n + src.length) (n + src.length + 1) .ellipsis f1 /\ ZipLpM tk s.heap n src k c h /\ Told src k c vs /\ ws.size = src.length /\ IsTupR h (n + src.length + 1) ws /\ ∀ j,j < c -> ws[j]? = vs[j]?) _ ?turn ?fin _ _ ⟨0,h₁,ws,[],rfl,Nat.zero_le _,rfl,rfl,hz₁,L1,⟨rfl,fun j p hj=>absurd hj (Nat.not_lt_zero _)⟩,hws,hTO₁,fun j hj=>absurd hj (Nat.not_lt_zero _)⟩)
  case turn =>
   rintro x rest b s' ⟨c,h,ws,vs,hr,hc,rfl,rfl,hz,L,ht,hws,hTO,hw⟩
   obtain ⟨hx,hr2⟩:=drop_at hr.symm
   have hc:c < src.length:=by
    have:=at_lt hx
    simpa using this
   rw [List.toList_toArray,List.getElem?_zipIdx,itsL_at hc] at hx
   simp only [Option.map_some,Nat.zero_add,Option.some.injEq] at hx
   subst hx
   have hp:src[c]? = some src[c]:=by simp [hc]
   have hi:=L.its c _ hp
   rw [if_neg (Nat.lt_irrefl _)] at hi
   have hl:=(L.ls c _ hp).2
   refine wpAny_bind (wpAny_onRaise ?_)
   show wpAny _ _ (Builtin.SmallTypes.nextOf (.ref (n + c)) >>= _) _ _ _
   cases ev:(src[c]).2[k]? with
   | none =>
    refine wpAny_bind (nextOf_x_end hh hi hl ev fun h₂ e hs₂ he=>?_)
    obtain ⟨oe,hoe,hce⟩:=he
    have hz₂:IsZipN h₂ (n + src.length + 2) (n + src.length) (n + src.length + 1) .ellipsis f1:=hs₂ _ _ (by intro e; have e:(_:Nat) = (_:Nat):=e; omega) hz
    have hez:e ≠ n + src.length + 2:=fun x=>by subst x; rw [hz₂] at hoe; cases hoe; simp at hce
    refine wpAny_setField_rec hz₂ (by simp) fun h₃ _ hs₃=>hE ⟨c,_,hp,ev⟩ h₃ e (fun b o hb x=>hs₃.extBut _ _ (by intro e; have e:(_:Nat) = (_:Nat):=e; omega) (KeptZ.stepM L hs₂ (.inl ⟨Nat.le_add_right _ _,by omega⟩) b o hb x)) ⟨oe,hs₃.extBut _ _ hez hoe,hce⟩
   | some v =>
    refine wpAny_bind (nextOf_x_item hi hl ev fun h₂ hi₂ hs₂=>wpAny_pure ?_)
    have hTO₂:IsTupR h₂ (n + src.length + 1) ws:=hs₂.extBut _ _ (by intro e; have e:(_:Nat) = (_:Nat):=e; omega) hTO
    have hz₂:IsZipN h₂ (n + src.length + 2) (n + src.length) (n + src.length + 1) .ellipsis f1:=hs₂.extBut _ _ (by intro e; have e:(_:Nat) = (_:Nat):=e; omega) hz
    refine wpAny_bind (wpAny_seqItems hTO₂ rfl ?_)
    refine wpAny_bind (wpAny_updateSeq_tup hTO₂ (by omega) fun h₃ hTO₃ hs₃=>?_)
    refine wpAny_bind (wpAny_letGo (wpAny_pure ?_))
    refine ⟨c + 1,h₃,_,vs ++ [v],hr2.symm,hc,rfl,rfl,hs₃.extBut _ _ (by intro e; have e:(_:Nat) = (_:Nat):=e; omega) hz₂,(L.next hp hi₂ hs₂).same hs₃ (.inl rfl),ht.push hp ev,by simp [hws],hTO₃,fun j hj=>?_⟩
    rw [Array.getElem?_setIfInBounds]
    by_cases z:c = j
    ·subst z
     rw [if_pos rfl,if_pos (by omega),List.getElem?_append_right (by rw [ht.1]; exact Nat.le_refl _),ht.1]
     simp
    ·rw [if_neg z,hw j (by omega),List.getElem?_append_left (by rw [ht.1]; omega)]
  case fin =>
   rintro b s' ⟨c,h,ws,vs,hr,hc,rfl,rfl,hz,L,ht,hws,hTO,hw⟩
   have hc:c = src.length:=by
    have:=congrArg List.length hr
    simp at this
    omega
   subst hc
   refine wpAny_bind (wpAny_seqItems hTO rfl ?_)
   have ews:ws = vs.toArray:=by
    have:ws.toList = vs:=List.ext_getElem? fun j=>by
     rw [Array.getElem?_toList]
     by_cases z:j < src.length
     ·exact hw j z
     ·rw [Array.getElem?_eq_none (by omega),List.getElem?_eq_none (by rw [ht.1]; omega)]
    rw [← this]
   subst ews
   refine wpAny_bind (wpAny_newTuple ?_ (by simp [ht.1]; exact hsz))
   show wpAny _ _ (Builtin.SmallTypes.ownedTupleHandOut (.ref (n + src.length + 2)) (.ref h.objs.size) >>= _) _ _ _
   refine wpAny_bind ?_
   unfold Builtin.SmallTypes.ownedTupleHandOut
   have hzlt:n + src.length + 2 < h.objs.size:=Heap.lt_size hz
   have hz₆:IsZipN (h.push { cls:=.type "tuple",data:=.seq vs.toArray.toList.toArray }) (n + src.length + 2) (n + src.length) (n + src.length + 1) .ellipsis f1:=Heap.get?_push_of_some _ hz
   refine wpAny_bind (wpAny_setField_rec hz₆ (by simp) fun h₇ hz₇ hs₇=>?_)
   replace hz₇:IsZipN h₇ (n + src.length + 2) (n + src.length) (n + src.length + 1) (rawInt h.objs.size) f1:=hz₇
   refine wpAny_setField_rec hz₇ (by simp) fun h₈ hz₈ hs₈=>?_
   replace hz₈:IsZipN h₈ (n + src.length + 2) (n + src.length) (n + src.length + 1) (rawInt h.objs.size) (.bool false):=hz₈
   have up:∀ c o,c ≠ n + src.length + 2 -> h.get? c = some o -> h₈.get? c = some o:=fun c o c1 e=>hs₈.extBut _ _ c1 (hs₇.extBut _ _ c1 (Heap.get?_push_of_some _ e))
   have hT₈:IsTupR h₈ h.objs.size vs.toArray:=hs₈.extBut _ _ (Nat.ne_of_gt hzlt) (hs₇.extBut _ _ (Nat.ne_of_gt hzlt) (Heap.get?_push_size _ rfl))
   have hz8:h₈.objs.size = h.objs.size + 1:=by rw [hs₈.1,hs₇.1,Heap.size_push]
   have esz:=L.sz
   rw [esz] at hT₈ hz8
   refine wpAny_pure ⟨_,rfl,?_⟩
   show Q (.ref h.objs.size) _
   rw [esz]
   refine hQ vs h₈ ht ⟨⟨_,_,.inr ⟨_,rfl⟩,hz₈⟩,up _ _ (by intro e; have e:(_:Nat) = (_:Nat):=e; omega) L.ti,⟨_,hws,up _ _ (by intro e; have e:(_:Nat) = (_:Nat):=e; omega) hTO⟩,fun j p hj=>?_,fun j p hj=>⟨(L.ls j p hj).1,(L.ls j p hj).2.at fun o e=>up _ o (Nat.ne_of_lt (Nat.lt_of_lt_of_le (L.ls j p hj).1 (show n <= n + src.length + 2 by omega))) e⟩,hne⟩ hT₈ hz8 fun b o hb e=>up b o (by intro e; have e:(_:Nat) = (_:Nat):=e; omega) (L.kept b o hb e)
   have:=at_lt hj
   have h1:=(L.its j p hj).at fun o e=>up _ o (by intro e; have e:(_:Nat) = (_:Nat):=e; omega) e
   rw [if_pos this] at h1
   rw [if_neg (Nat.not_lt_zero _)]
   exact h1
 ·simp only [Bool.false_eq_true,if_false]
  have L0:ZipLpM tk s.heap n src k 0 s.heap:=⟨hTI,hit,hls,fun _ _ _ e=>e,rfl⟩
  have L1:=L0.same hs1 (.inr rfl)
  have hTO₁:IsTupR h1 (n + src.length + 1) ws:=hs1.extBut _ _ (by intro e; have e:(_:Nat) = (_:Nat):=e; omega) hTO
  refine wpAny_bind (wpAny_forIn_array' _ (fun rest b s'=>∃ c h vs,rest = ((itsL n src.length).toArray.toList).drop c /\ c <= src.length /\ b = (none,vs.toArray) /\ s' = { s with heap:=h } /\ IsZipN h (n + src.length + 2) (n + src.length) (n + src.length + 1) f0 f1' /\ ZipLpM tk s.heap n src k c h /\ Told src k c vs /\ IsTupR h (n + src.length + 1) ws) _ ?turn2 ?fin2 _ _ ⟨0,h1,[],rfl,Nat.zero_le _,rfl,rfl,hz1,L1,⟨rfl,fun j p hj=>absurd hj (Nat.not_lt_zero _)⟩,hTO₁⟩)
  case turn2 =>
   rintro x rest b s' ⟨c,h,vs,hr,hc,rfl,rfl,hz,L,ht,hTO⟩
   obtain ⟨hx,hr2⟩:=drop_at hr.symm
   have hc:c < src.length:=by
    have:=at_lt hx
    simpa using this
   rw [List.toList_toArray,itsL_at hc] at hx
   cases hx
   have hp:src[c]? = some src[c]:=by simp [hc]
   have hi:=L.its c _ hp
   rw [if_neg (Nat.lt_irrefl _)] at hi
   have hl:=(L.ls c _ hp).2
   refine wpAny_bind (wpAny_holding ?_)
   show wpAny _ _ (Builtin.SmallTypes.nextOf (.ref (n + c)) >>= _) _ _ _
   cases ev:(src[c]).2[k]? with
   | none =>
    refine wpAny_bind (nextOf_x_end hh hi hl ev fun h₂ e hs₂ he=>?_)
    exact hE ⟨c,_,hp,ev⟩ h₂ e (KeptZ.stepM L hs₂ (.inl ⟨Nat.le_add_right _ _,by omega⟩)) he
   | some v =>
    refine wpAny_bind (nextOf_x_item hi hl ev fun h₂ hi₂ hs₂=>wpAny_pure ?_)
    refine wpAny_pure ⟨c + 1,h₂,vs ++ [v],hr2.symm,hc,by simp,rfl,hs₂.extBut _ _ (by intro e; have e:(_:Nat) = (_:Nat):=e; omega) hz,L.next hp hi₂ hs₂,ht.push hp ev,hs₂.extBut _ _ (by intro e; have e:(_:Nat) = (_:Nat):=e; omega) hTO⟩
  case fin2 =>
   rintro b s' ⟨c,h,vs,hr,hc,rfl,rfl,hz,L,ht,hTO⟩
   have hc:c = src.length:=by
    have:=congrArg List.length hr
    simp at this
    omega
   subst hc
   refine wpAny_bind (wpAny_newTuple ?_ (by simp [ht.1]; exact hsz))
   have hT₈:IsTupR (h.push { cls:=.type "tuple",data:=.seq vs.toArray.toList.toArray }) h.objs.size vs.toArray:=Heap.get?_push_size _ rfl
   have up:∀ c o,h.get? c = some o -> (h.push { cls:=.type "tuple",data:=.seq vs.toArray.toList.toArray }).get? c = some o:=fun c o e=>Heap.get?_push_of_some _ e
   have hz8:(h.push { cls:=.type "tuple",data:=.seq vs.toArray.toList.toArray }).objs.size = h.objs.size + 1:=Heap.size_push ..
   have esz:=L.sz
   rw [esz] at hT₈ hz8
   refine wpAny_pure ⟨_,rfl,?_⟩
   show Q (.ref h.objs.size) _
   rw [esz]
   refine hQ vs _ ht ⟨⟨_,_,hf,up _ _ hz⟩,up _ _ L.ti,⟨_,hws,up _ _ hTO⟩,fun j p hj=>?_,fun j p hj=>⟨(L.ls j p hj).1,(L.ls j p hj).2.at fun o e=>up _ o e⟩,hne⟩ hT₈ hz8 fun b o hb e=>up b o (L.kept b o hb e)
   have:=at_lt hj
   have h1:=(L.its j p hj).at fun o e=>up _ o e
   rw [if_pos this] at h1
   rw [if_neg (Nat.not_lt_zero _)]
   exact h1
end
theorem wpAny_pyNext_zipM {prog:Program} {w:World} {A:Around} {E:Value -> Shared -> Prop} {s:Shared} {n k:Nat} {src:List (Addr × Array Value)} {Q:Option Value -> Shared -> Prop} (hh:A.handled = none) (hsz:src.length <= sizeLine) (hs:ZipStM tk s.heap n src k)
  (hQ:∀ vs h',Told src k src.length vs -> ZipStM tk h' n src (k + 1) -> IsTupR h' s.heap.objs.size vs.toArray -> h'.objs.size = s.heap.objs.size + 1 -> KeptZ n src.length s.heap h' -> Q (some (.ref s.heap.objs.size)) { s with heap:=h' })
  (hE:(∃ (j:Nat) (p:Addr × Array Value),src[j]? = some p /\ p.2[k]? = none) -> ∀ h',KeptZ n src.length s.heap h' -> Q none { s with heap:=h' }) :
  wpAny (model prog w) A (pyNext (.ref (n + src.length + 2))) Q E s:=by
 obtain ⟨f0,f1,_,hz⟩:=hs.zip
 have hT:s.TypeIs (.ref (n + src.length + 2)) "zip":=⟨_,hz,rfl⟩
 unfold pyNext
 refine wpAny_bind (wpAny_attempt (wpAny_callSpecial?_slot (name:=Str.ofString "__next__") hT F.slot_zip_next
  (wpAny_call_entry F.slot_zip_next hT F.entry_zip_next (zipM_next hh hsz hs (fun vs h' a1 a2 a3 a4 a5=>wpAny_pure (hQ vs h' a1 a2 a3 a4 a5)) fun a h' e hk he=>?_) (F.args_zip_next_1 _))))
 obtain ⟨o,ho,hc⟩:=he
 refine wpAny_bind (wpAny_isInstance (T:="StopIteration") (b:=true) ⟨o,ho,hc⟩ isSubtype_stop ?_)
 exact wpAny_pure (hE a _ hk)
def ZipCameM (tk:Addr -> Bool) (s:Shared) (src:List (Addr × Array Value)) (Q:Value -> Shared -> Prop):Prop :=
 ∀ h',ZipStM tk h' s.heap.objs.size src 0 -> h'.objs.size = s.heap.objs.size + src.length + 3 -> (∀ c o,s.heap.get? c = some o -> h'.get? c = some o) -> Q (.ref (s.heap.objs.size + src.length + 2)) { s with heap:=h' }
def SqX (tk:Addr -> Bool) (K:PySem.W.Frag) (H:Hp) (a:Addr) (xs:List V):Prop:=if tk a = true then SqT K H a xs else SqL K H a xs
theorem SqX.inj {X:Cx} {pins:List (Addr × Obj)} {σ:St} {H:Hp} {s:Shared} (I:Inv X pins σ H s) {a:Addr} {xs ys:List V} (h1:SqX tk X.K H a xs) (h2:SqX tk X.K H a ys):xs = ys:=by
 unfold SqX at h1 h2
 cases e:tk a with
 | true=>rw [if_pos e] at h1 h2; exact I.tuple_inj h1 h2
 | false=>rw [if_neg (by rw [e]; intro z; cases z)] at h1 h2; exact I.list_inj h1 h2
theorem SqX.at {X:Cx} {pins:List (Addr × Obj)} {σ:St} {H:Hp} {s:Shared} (I:Inv X pins σ H s) {a:Addr} {xs:List V} (h:SqX tk X.K H a xs):∃ its:List Value,Vals xs its /\ SeqX (tk a) s.heap a its.toArray /\ xs.length <= sizeLine:=by
 unfold SqX at h
 cases e:tk a with
 | true =>
  rw [if_pos e] at h
  obtain ⟨its,rv,p,hz⟩:=I.tuple h
  exact ⟨its,rv,p,hz⟩
 | false =>
  rw [if_neg (by rw [e]; intro z; cases z)] at h
  obtain ⟨its,rv,p,hz⟩:=I.list h
  exact ⟨its,rv,p.isList,hz⟩
theorem zip_srcM {X:Cx} {K:PySem.W.Frag} {pins:List (Addr × Obj)} {σ:St} {H:Hp} {s:Shared} (hK:X.K = K) (I:Inv X pins σ H s):∀ {as:List Addr} {xss:List (List V)},as.length = xss.length -> (∀ (j:Nat) a xs,as[j]? = some a -> xss[j]? = some xs -> SqX tk K H a xs) ->
  ∃ src:List (Addr × Array Value),src.map (·.1) = as /\ SrcV xss src /\ (∀ p ∈ src,SeqX (tk p.1) s.heap p.1 p.2) /\ ∀ xs ∈ xss,xs.length <= sizeLine
 | [],xss,hl,_=>by
  have h0:xss = []:=List.length_eq_zero_iff.mp (by rw [← hl]; rfl)
  subst h0
  exact ⟨[],rfl,⟨rfl,fun j xs p h=>by simp at h⟩,fun p hp=>by simp at hp,fun xs hx=>by simp at hx⟩
 | a :: as,[],hl,_=>absurd hl (by simp)
 | a :: as,xs :: xss,hl,h=>by
  subst hK
  obtain ⟨src,h1,h2,h3,h4⟩:=zip_srcM rfl I (as:=as) (xss:=xss) (by simpa using hl) fun j a xs ha hx=>h (j + 1) a xs (by simpa using ha) (by simpa using hx)
  obtain ⟨its,rv,pl,hz⟩:=(h 0 a xs rfl rfl).at I
  refine ⟨(a,its.toArray) :: src,by simp [h1],⟨by simp [h2.1],fun j ys p hy hp=>?_⟩,fun p hp=>?_,fun ys hy=>?_⟩
  ·cases j with
   | zero=>simp at hy hp; subst hy hp; simpa using rv
   | succ j=>exact h2.2 j ys p (by simpa using hy) (by simpa using hp)
  ·rcases List.mem_cons.mp hp with rfl | hp
   ·exact pl
   ·exact h3 p hp
  ·rcases List.mem_cons.mp hy with rfl | hy
   ·exact hz
   ·exact h4 ys hy
abbrev itO (t:Bool) (l:Addr):Obj:={ cls:=.type (match t with | true=>"tuple_iterator" | false=>"list_iterator"),data:=.fields #[.ref l,.int 0 0] }
abbrev m2H (t u:Bool) (h:Heap) (l1 l2:Addr):Heap:=(h.push (itO t l1)).push (itO u l2)
abbrev m2T (t u:Bool) (h:Heap) (l1 l2:Addr):Heap:=(m2H t u h l1 l2).push (tuO [.ref h.objs.size,.ref (h.push (itO t l1)).objs.size])
abbrev m2U (t u:Bool) (h:Heap) (l1 l2:Addr):Heap:=(m2T t u h l1 l2).push (tuO [.none,.none])
abbrev m2Z (t u:Bool) (h:Heap) (l1 l2:Addr):Heap:=(m2U t u h l1 l2).push (ziO (m2H t u h l1 l2).objs.size (m2T t u h l1 l2).objs.size)
theorem SeqX.push {t:Bool} {h:Heap} {a:Addr} {xs:Array Value} (x:SeqX t h a xs) (o:Obj):SeqX t (h.push o) a xs:=x.at fun o e=>Heap.get?_push_of_some _ e
theorem iterOf {prog:Program} {w:World} {A:Around} {E:Value -> Shared -> Prop} {s:Shared} {t:Bool} {l:Addr} {xs:Array Value} {Q:Value -> Shared -> Prop} (h:SeqX t s.heap l xs) (q:Q (.ref s.heap.objs.size) { s with heap:=s.heap.push (itO t l) }):wpAny (model prog w) A (pyIter (.ref l)) Q E s:=by
 cases t with
 | true=>exact wpAny_pyIter_tuple h q
 | false=>exact wpAny_pyIter_list h q
set_option maxHeartbeats 0 in
theorem meets_zip_newM (t u:Bool) (l1 l2:Addr) (xs ys:Array Value) :
  Meets (Builtin.«zip.__new__» ⟨[.type "zip",.ref l1,.ref l2],[]⟩) (fun _ R s=>SeqX t s.heap l1 xs /\ SeqX u s.heap l2 ys /\
   R (.ok (.ret (.ref (m2U t u s.heap l1 l2).objs.size))) { s with heap:=m2Z t u s.heap l1 l2 }) :=
 .of_wp fun prog w A R s h=>by
  obtain ⟨hp,g,d,tok,os⟩:=s; obtain ⟨hl1,hl2,h⟩:=h
  have hsub:=sub_zip
  have hL1:SeqX t (Shared.heap ⟨hp,g,d,tok,os⟩) l1 xs:=hl1
  have hL2:SeqX u (Shared.heap ⟨hp.push (itO t l1),g,d,tok,os⟩) l2 ys:=hl2.push _
  wp_walk using iterOf hL1,iterOf hL2
  exact ⟨_,rfl,h⟩
section
variable {prog:Program} {w:World} {A:Around} {E:Value -> Shared -> Prop} {s:Shared}
theorem IterX.new {t:Bool} {h:Heap} {i a:Addr} (e:h.get? i = some (itO t a)):IterX t h i a 0:=by
 cases t with
 | true=>exact ⟨_,e,rfl,rfl⟩
 | false=>exact ⟨_,e,rfl,rfl⟩
theorem call_zipM {p1 p2:Addr × Array Value} {Q:Value -> Shared -> Prop} (h1:SeqX (tk p1.1) s.heap p1.1 p1.2) (h2:SeqX (tk p2.1) s.heap p2.1 p2.2) (h:ZipCameM tk s [p1,p2] Q) :
  wpAny (model prog w) A (call (.type "zip") [.ref p1.1,.ref p2.1]) Q E s:=by
 refine callType_new F.called_zip (by decide) (F.typeCall_zip_2 _ _) (F.newCall_zip_2 _ _) (fun obj=>F.args_object_init_3 obj _ _) F.entry_zip_new (meets_zip_newM (tk p1.1) (tk p2.1) p1.1 p2.1 p1.2 p2.2) ⟨h1,h2,?_⟩
 have z1:(s.heap.push (itO (tk p1.1) p1.1)).objs.size = s.heap.objs.size + 1:=Heap.size_push ..
 have z2:(m2H (tk p1.1) (tk p2.1) s.heap p1.1 p2.1).objs.size = s.heap.objs.size + 2:=by rw [Heap.size_push,z1]
 have z3:(m2T (tk p1.1) (tk p2.1) s.heap p1.1 p2.1).objs.size = s.heap.objs.size + 3:=by rw [Heap.size_push,z2]
 have z4:(m2U (tk p1.1) (tk p2.1) s.heap p1.1 p2.1).objs.size = s.heap.objs.size + 4:=by rw [Heap.size_push,z3]
 have z5:(m2Z (tk p1.1) (tk p2.1) s.heap p1.1 p2.1).objs.size = s.heap.objs.size + 5:=by rw [Heap.size_push,z4]
 have up:∀ c o,(m2H (tk p1.1) (tk p2.1) s.heap p1.1 p2.1).get? c = some o -> (m2Z (tk p1.1) (tk p2.1) s.heap p1.1 p2.1).get? c = some o:=fun c o e=>Heap.get?_push_of_some _ (Heap.get?_push_of_some _ (Heap.get?_push_of_some _ e))
 have g5:(m2Z (tk p1.1) (tk p2.1) s.heap p1.1 p2.1).get? (m2U (tk p1.1) (tk p2.1) s.heap p1.1 p2.1).objs.size = some _:=Heap.get?_push_size _ rfl
 have g4:(m2Z (tk p1.1) (tk p2.1) s.heap p1.1 p2.1).get? (m2T (tk p1.1) (tk p2.1) s.heap p1.1 p2.1).objs.size = some _:=Heap.get?_push_of_some _ (Heap.get?_push_size _ rfl)
 have g3:(m2Z (tk p1.1) (tk p2.1) s.heap p1.1 p2.1).get? (m2H (tk p1.1) (tk p2.1) s.heap p1.1 p2.1).objs.size = some _:=Heap.get?_push_of_some _ (Heap.get?_push_of_some _ (Heap.get?_push_size _ rfl))
 have g2:(m2Z (tk p1.1) (tk p2.1) s.heap p1.1 p2.1).get? (s.heap.push (itO (tk p1.1) p1.1)).objs.size = some (itO (tk p2.1) p2.1):=up _ _ (Heap.get?_push_size _ rfl)
 have g1:(m2Z (tk p1.1) (tk p2.1) s.heap p1.1 p2.1).get? s.heap.objs.size = some (itO (tk p1.1) p1.1):=up _ _ (Heap.get?_push_of_some _ (Heap.get?_push_size _ rfl))
 have kp:∀ c o,s.heap.get? c = some o -> (m2Z (tk p1.1) (tk p2.1) s.heap p1.1 p2.1).get? c = some o:=fun c o x=>up _ _ (Heap.get?_push_of_some _ (Heap.get?_push_of_some _ x))
 show _ /\ _
 rw [z2,z3,z4] at g5
 rw [z1,z2] at g3
 rw [z3] at g4
 rw [z1] at g2
 rw [z4]
 refine ⟨⟨_,g5,rfl⟩,h _ ⟨⟨_,_,.inl rfl,g5⟩,g3,⟨_,rfl,g4⟩,fun j p hj=>?_,fun j p hj=>?_,by simp⟩ z5 kp⟩
 ·rw [if_neg (Nat.not_lt_zero _)]
  rcases j with _ | _ | j
  ·simp at hj; subst hj; exact .new g1
  ·simp at hj; subst hj; exact .new g2
  ·simp at hj
 ·rcases j with _ | _ | j
  ·simp at hj; subst hj; exact ⟨h1.lt,h1.at fun o e=>kp _ o e⟩
  ·simp at hj; subst hj; exact ⟨h2.lt,h2.at fun o e=>kp _ o e⟩
  ·simp at hj
end
def ItzM (tk:Addr -> Bool) (K:PySem.W.Frag) (as:List Addr):It :=
 ⟨fun i H=>∀ a ∈ as,∃ xs x,SqX tk K H a xs /\ xs[i]? = some x,
  fun i H v H'=>∃ T r,H T = none /\ v = .ref T /\ (r.length = as.length /\ ∀ (j:Nat) a xs,as[j]? = some a -> SqX tk K H a xs -> xs[i]? = r[j]?) /\ H' = upd H T (.tup r),
  fun i H=>(∀ a ∈ as,∃ xs,SqX tk K H a xs) /\ ∃ a ∈ as,∃ xs,SqX tk K H a xs /\ xs.length <= i⟩
structure ZipTnM (tk:Addr -> Bool) (n:Nat) (as:List Addr) (k:Nat) (h:Heap):Prop where
 zip:∃ f0 f1,OwnF f0 /\ IsZipN h (n + as.length + 2) (n + as.length) (n + as.length + 1) f0 f1
 ti:IsTupR h (n + as.length) (itsL n as.length).toArray
 to:∃ ws:Array Value,ws.size = as.length /\ IsTupR h (n + as.length + 1) ws
 its:∀ (j:Nat) (a:Addr),as[j]? = some a -> IterX (tk a) h (n + j) a k
theorem ex_xssM {K:PySem.W.Frag} {H:Hp}:∀ {as:List Addr},(∀ a ∈ as,∃ xs,SqX tk K H a xs) -> ∃ xss:List (List V),as.length = xss.length /\ ∀ (j:Nat) a xs,as[j]? = some a -> xss[j]? = some xs -> SqX tk K H a xs
 | [],_=>⟨[],rfl,fun j a xs h=>by simp at h⟩
 | a :: as,h=>by
  obtain ⟨xs,hx⟩:=h a List.mem_cons_self
  obtain ⟨xss,h1,h2⟩:=ex_xssM fun b hb=>h b (List.mem_cons_of_mem _ hb)
  refine ⟨xs :: xss,by simp [h1],fun j b ys hb hy=>?_⟩
  cases j with
  | zero=>simp at hb hy; subst hb hy; exact hx
  | succ j=>exact h2 j b ys (by simpa using hb) (by simpa using hy)
theorem ZipTnM.st {n k:Nat} {as:List Addr} {h:Heap} {src:List (Addr × Array Value)} (t:ZipTnM tk n as k h) (hs:src.map (·.1) = as) (hl:∀ p ∈ src,SeqX (tk p.1) h p.1 p.2) (hlt:∀ a ∈ as,a < n) (hne:as ≠ []):ZipStM tk h n src k:=by
 have hlen:src.length = as.length:=by rw [← hs,List.length_map]
 obtain ⟨z,ti,to,its⟩:=t
 have at_:∀ (j:Nat) (p:Addr × Array Value),src[j]? = some p -> as[j]? = some p.1:=fun j p hp=>by rw [← hs,List.getElem?_map,hp]; rfl
 refine ⟨by rw [hlen]; exact z,by rw [hlen]; exact ti,by rw [hlen]; exact to,fun j p hp=>?_,fun j p hp=>⟨hlt p.1 (List.mem_of_getElem? (at_ j p hp)),hl p (List.mem_of_getElem? hp)⟩,fun e=>hne (by rw [← hs,e]; rfl)⟩
 rw [if_neg (Nat.not_lt_zero _)]
 exact its j p.1 (at_ j p hp)
theorem ZipStM.tn {n k:Nat} {as:List Addr} {h:Heap} {src:List (Addr × Array Value)} (z:ZipStM tk h n src k) (hs:src.map (·.1) = as):ZipTnM tk n as k h:=by
 have hlen:src.length = as.length:=by rw [← hs,List.length_map]
 refine ⟨by rw [← hlen]; exact z.zip,by rw [← hlen]; exact z.ti,by rw [← hlen]; exact z.to,fun j a ha=>?_⟩
 have hj:j < src.length:=by rw [hlen]; exact at_lt ha
 have hp:src[j]? = some src[j]:=by simp [hj]
 have:=z.its j _ hp
 rw [if_neg (Nat.not_lt_zero _)] at this
 have e:(src[j]).1 = a:=by
  have:as[j]? = some (src[j]).1:=by rw [← hs,List.getElem?_map,hp]; rfl
  rw [ha] at this
  exact (Option.some.inj this).symm
 rw [← e]
 exact this
theorem turn_zipM {P:Program} {w:World} {K:PySem.W.Frag} {elts:List Expr} {k:Nat} {tp:Pos} (n:Nat) (as:List Addr) (hlt:∀ a ∈ as,a < n) (h1:as ≠ []) (hm4:as.length <= 4) :
  Turn P w K (.Tuple elts k tp) (ItzM tk K as) (fpZ n as.length) (n + as.length + 2) (fun i h=>ZipTnM tk n as i h) where
 mem:=fpZ_mem.mpr ⟨by omega,by omega⟩
 obj:=fun i h st c hc=>by
  obtain ⟨⟨f0,f1,_,hz⟩,hTI,⟨ws,_,hTO⟩,its⟩:=st
  rcases fpZ_cases hc with rfl | rfl | rfl | ⟨lt,e⟩
  ·exact ⟨_,hz,fun v z=>by have z':Data.fields _ = Data.cell v:=z; cases z'⟩
  ·exact ⟨_,hTI,fun v z=>by have z':Data.seq _ _ = Data.cell v:=z; cases z'⟩
  ·exact ⟨_,hTO,fun v z=>by have z':Data.seq _ _ = Data.cell v:=z; cases z'⟩
  ·obtain ⟨o,eo,d⟩:=(its (c - n) as[c - n] (by simp [lt])).cell
   rw [e] at eo
   exact ⟨o,eo,d⟩
 keep:=fun i h h' st kk=>by
  obtain ⟨⟨f0,f1,hf,hz⟩,hTI,⟨ws,hws,hTO⟩,its⟩:=st
  exact ⟨⟨f0,f1,hf,kk _ (fpZ_mem.mpr ⟨by omega,by omega⟩) _ hz⟩,kk _ (fpZ_mem.mpr ⟨by omega,by omega⟩) _ hTI,⟨ws,hws,kk _ (fpZ_mem.mpr ⟨by omega,by omega⟩) _ hTO⟩,fun j a ha=>(its j a ha).at fun o e=>kk _ (fpZ_mem.mpr ⟨by omega,by have:=at_lt ha; omega⟩) o e⟩
 item:=by
  intro X hP hw hK hc i pins s σ H E I hf st hg
  subst hP hw hK
  obtain ⟨xss,hl,hsq⟩:=ex_xssM (tk:=tk) (K:=X.K) (H:=H) (as:=as) fun a ha=>let ⟨xs,x,h,_⟩:=hg a ha; ⟨xs,h⟩
  obtain ⟨src,hsa,hv,hls,hb⟩:=zip_srcM (tk:=tk) rfl I hl hsq
  have hls4:src.length = as.length:=by rw [← hsa,List.length_map]
  have hst:=st.st hsa hls hlt h1
  have sz4:src.length <= sizeLine:=Nat.le_trans (show src.length <= 4 by omega) (by decide)
  rw [show n + as.length + 2 = n + src.length + 2 by rw [hls4]]
  refine wpAny_pyNext_zipM (I.ok.hd hc) sz4 hst (fun vs h' ht hz' hT' hs' hk=>?_) (fun he h' hk=>?_)
  ·obtain ⟨r,hr,rv⟩:=told_row hv ht
   obtain ⟨f0,f1,hf0,hzz⟩:=hz'.zip
   refine ⟨_,rfl,go_zipN hf0 hzz fun h4 f0' hf0' hz4 hs4=>?_⟩
   have hzl:n + src.length + 2 < s.heap.objs.size:=by
    obtain ⟨_,_,_,q⟩:=st.zip
    rw [hls4]
    exact Heap.lt_size q
   have hz4st:ZipTnM tk n as (i + 1) h4:=by
    have z0:=hz'.tn hsa
    obtain ⟨_,hTI,⟨ws,hws,hTO⟩,its⟩:=z0
    rw [hls4] at hz4 hs4
    refine ⟨⟨f0',f1,hf0',hz4⟩,hs4.extBut _ _ (by intro e; have e:(_:Nat) = (_:Nat):=e; omega) hTI,⟨ws,hws,hs4.extBut _ _ (by intro e; have e:(_:Nat) = (_:Nat):=e; omega) hTO⟩,fun j a ha=>(its j a ha).extBut hs4.extBut (by have:=at_lt ha; intro e; have e:(_:Nat) = (_:Nat):=e; omega)⟩
   have I2:Inv X pins σ (upd H s.heap.objs.size (.tup r)) { s with heap:=h4 }:=by
    refine I.turnedN (t':=s.toks) (ch:=fpZ n as.length) hf (fun b o hb q=>?_) (Nat.le_refl _) ⟨?_,vs,rv,?_⟩
    ·rw [← hls4] at hb
     exact hs4.extBut _ _ (fpZ_ne hb) (hk b o (keptZ_of (fpZ_not hb)) q)
    ·rw [hr.1,← hl]; exact Nat.le_trans hm4 (by decide)
    ·exact ⟨_,hs4.extBut _ _ (by intro e; have e:(_:Nat) = (_:Nat):=e; omega) hT',rfl,_,rfl⟩
   refine ⟨.ref s.heap.objs.size,_,I2,rfl,⟨s.heap.objs.size,r,I.hok.fresh (Nat.le_refl _),rfl,⟨by rw [hr.1,hl],fun j a xs ha hx=>?_⟩,rfl⟩,hz4st,fun b hb=>?_⟩
   ·have hj:j < xss.length:=by rw [← hl]; exact at_lt ha
    have hxs:xss[j]? = some xss[j]:=by simp [hj]
    have:=hsq j a xss[j] ha hxs
    rw [SqX.inj I hx this]
    exact hr.2 j _ hxs
   ·have:=fpZ_mem.mp hb
    rw [upd_ne (by intro e; have e:(_:Nat) = (_:Nat):=e; omega)]
    exact (hf b hb).1
  ·exfalso
   obtain ⟨j,p,hj,hp⟩:=he
   have ha:as[j]? = some p.1:=by rw [← hsa,List.getElem?_map,hj]; rfl
   obtain ⟨xs,x,h,hx⟩:=hg p.1 (List.mem_of_getElem? ha)
   have hjx:j < xss.length:=by rw [← hl]; exact at_lt ha
   have hxs:xss[j]? = some xss[j]:=by simp [hjx]
   rw [SqX.inj I h (hsq j p.1 _ ha hxs)] at hx
   obtain ⟨u,hu,_⟩:=(hv.2 j _ p hxs hj).get hx
   rw [Array.getElem?_toList,hp] at hu
   cases hu
 done:=by
  intro X hP hw hK hc i pins s σ H E I hf st hg
  subst hP hw hK
  obtain ⟨hall,a0,ha0,xs0,hx0,hle⟩:=hg
  obtain ⟨xss,hl,hsq⟩:=ex_xssM (tk:=tk) (K:=X.K) (H:=H) (as:=as) hall
  obtain ⟨src,hsa,hv,hls,hb⟩:=zip_srcM (tk:=tk) rfl I hl hsq
  have hls4:src.length = as.length:=by rw [← hsa,List.length_map]
  have hst:=st.st hsa hls hlt h1
  have sz4:src.length <= sizeLine:=Nat.le_trans (show src.length <= 4 by omega) (by decide)
  rw [show n + as.length + 2 = n + src.length + 2 by rw [hls4]]
  refine wpAny_pyNext_zipM (I.ok.hd hc) sz4 hst (fun vs h' ht hz' hT' hs' hk=>?_) (fun he h' hk=>⟨rfl,?_⟩)
  ·exfalso
   obtain ⟨r,hr,rv⟩:=told_row hv ht
   obtain ⟨j,hj⟩:=List.mem_iff_getElem?.mp ha0
   have hjx:j < xss.length:=by rw [← hl]; exact at_lt hj
   have hxs:xss[j]? = some xss[j]:=by simp [hjx]
   have e:=SqX.inj I hx0 (hsq j a0 _ hj hxs)
   have:=hr.2 j _ hxs
   rw [← e,List.getElem?_eq_none hle,List.getElem?_eq_getElem (by rw [hr.1]; exact hjx)] at this
   cases this
  ·refine I.turnedL (t':=s.toks) (ch:=fpZ n as.length) hf fun b o hb q=>hk b o ?_ q
   rw [← hls4] at hb
   exact keptZ_of (fpZ_not hb)
 self:=fun A i s Q E st h=>by
  obtain ⟨f0,f1,_,hz⟩:=st.zip
  have hT:s.TypeIs (.ref (n + as.length + 2)) "zip":=⟨_,hz,rfl⟩
  refine wpAny_pyIter_slot hT F.slot_zip_iter (wpAny_call_entry F.slot_zip_iter hT F.entry_zip_iter ?_ (F.args_zip_iter_1 _))
  show wpAny _ _ (ret (.ref (n + as.length + 2))) _ _ s
  exact wpAny_pure ⟨_,rfl,"zip",_,hT,F.slot_zip_next.lookup,h⟩
end
section
variable {X:Cx}
def iZipM (K:PySem.W.Frag) (ta:TA):TI:=fun σ H R=>ta σ H fun vs H1=>∃ (tk:Addr -> Bool) (a b:Addr),vs = [.ref a,.ref b] /\ (∃ xs,SqX tk K H1 a xs) /\ (∃ xs,SqX tk K H1 b xs) /\ R (ItzM tk K [a,b]) H1
theorem pi_zipM {l l':Expr} {ta:TA} {p pos tp:Pos} {elts:List Expr} {k:Nat} (hg:Gl X "zip") (hm:X.mg "zip" = none) (ha:PA X [l,l'] ta) (he:starEach [l,l'] X.env = (false,eval l X.env) :: starEach [l'] X.env:=by rfl) (hpl:(backTo pos (starEach [l'] X.env)).any (·.1) = false:=by rfl) :
  PI X (.Tuple elts k tp) (.Call (.Name "zip" p) [l,l'] [] pos) (iZipM X.K ta):=by
 intro pins s σ H R I h
 refine Call_ (ld_blt I hg hm boot_zip (PyProof.Rows.callWith_type1 (thn (ha pos pins s σ H _ I h) fun us s1 ⟨vs,H1,I1,r1,q1⟩=>?_) he hpl))
 obtain ⟨tk,a,b,e,⟨xs,hq⟩,⟨ys,hq'⟩,q⟩:=q1
 subst e
 obtain ⟨u,u',rfl,ru,ru'⟩:=r1.two
 cases ru
 cases ru'
 obtain ⟨its,rv,pl,hz⟩:=hq.at I1
 obtain ⟨its',rv',pl',hz'⟩:=hq'.at I1
 refine call_zipM (tk:=tk) (p1:=(a,its.toArray)) (p2:=(b,its'.toArray)) pl pl' fun h' hz hz' hk=>?_
 have I2:Inv X pins σ H1 { s1 with heap:=h' }:=I1.kept (t':=s1.toks) hk
 have hlt:∀ c ∈ [a,b],c < s1.heap.objs.size:=fun c hc=>by
  simp only [List.mem_cons,List.not_mem_nil,or_false] at hc
  rcases hc with rfl | rfl
  ·exact pl.lt
  ·exact pl'.lt
 have tz:=turn_zipM (tk:=tk) (P:=X.prog) (w:=X.w) (K:=X.K) (elts:=elts) (k:=k) (tp:=tp) s1.heap.objs.size [a,b] hlt (by simp) (by simp)
 have tn:=hz.tn (as:=[a,b]) rfl
 exact tz.self X.A 0 _ _ _ tn ⟨_,_,_,ItzM tk X.K [a,b],H1,rfl,I2,tz,tn,fun b hb=>I1.fpOk (fpZ_mem.mp hb).1 (I1.hok.fresh (fpZ_mem.mp hb).1),q⟩
end
end L2
namespace DL
open PySem PySem.Spec PyProof.Rows L2
variable [Frm]
def seqD:D -> Option (List D)
 | .lst xs=>some xs
 | .tup xs=>some xs
 | _=>none
omit [Frm] in
theorem seq_at {K:PySem.W.Frag} {pp:Option Addr} {M:List Addr} {H:Hp} {d:D} {v:V} {ds:List D} (r:Rep K pp M H d v) (e:seqD d = some ds) :
  ∃ a xs,v = .ref a /\ Reps K pp M H ds xs /\ ∀ M2 H2,Mv K pp M H M2 H2 -> SqX (fun c=>L2.isTupO (H c)) K H2 a xs:=by
 cases d <;> simp only [seqD] at e <;> cases e
 all_goals simp only [Rep] at r
 ·obtain ⟨a,xs,rfl,ha,rd⟩:=r
  refine ⟨a,xs,rfl,rd,fun M2 H2 m2=>?_⟩
  unfold SqX
  rw [if_pos (show L2.isTupO (H a) = true by rw [ha]; rfl)]
  exact SqT.of (m2.tup a xs ha)
 ·obtain ⟨a,xs,rfl,hm,hp,ha,rd⟩:=r
  refine ⟨a,xs,rfl,rd,fun M2 H2 m2=>?_⟩
  unfold SqX
  rw [if_neg (show ¬ L2.isTupO (H a) = true by rw [ha]; intro z; cases z)]
  exact SqL.of (m2.lst a xs ha hm hp).1
section
variable {X:Cx}
abbrev diZipM (t:DA):DA:=fun ρ Q=>t ρ fun ds ρ'=>match ds with
 | [a,b]=>∃ xs ys,seqD a = some xs /\ seqD b = some ys /\ Q (zipD xs ys) ρ'
 | _=>False
theorem di_zipM {l l':Expr} {tl:DA} {p pos tp:Pos} {elts:List Expr} {k:Nat} (hg:Gl X "zip") (hm:X.mg "zip" = none) (ha:PAD X [l,l'] tl) (he:starEach [l,l'] X.env = (false,eval l X.env) :: starEach [l'] X.env:=by rfl) (hpl:(backTo pos (starEach [l'] X.env)).any (·.1) = false:=by rfl) :
  PID X (.Tuple elts k tp) (.Call (.Name "zip" p) [l,l'] [] pos) (diZipM tl):=by
 obtain ⟨T,pa,r⟩:=ha.run
 refine ⟨fun _ _ _ f h=>ha.mono _ _ _ (fun d _ h=>?_) h,_,pi_zipM hg hm pa he hpl,fun {F} M H σ ρ R rs h=>r M H σ ρ _ rs (ha.mono _ _ _ (fun d ρ' h M' H' v m rs' rd=>?_) h)⟩
 ·split at h
  ·obtain ⟨xs,ys,a,b,h⟩:=h
   exact ⟨xs,ys,a,b,f _ _ h⟩
  ·exact h.elim
 ·split at h
  case h_2=>exact h.elim
  rename_i d1 d2
  obtain ⟨ds,ds',e1,e2,h⟩:=h
  simp only [Reps] at rd
  obtain ⟨x,r0,rfl,hx,x',r0',rfl,hx',rfl⟩:=rd
  obtain ⟨a,xs,rfl,rd,ka⟩:=seq_at hx e1
  obtain ⟨b,ys,rfl,rd',kb⟩:=seq_at hx' e2
  have L:=zipD_length ds ds'
  refine ⟨fun c=>L2.isTupO (H' c),a,b,rfl,⟨xs,ka _ _ .refl⟩,⟨ys,kb _ _ .refl⟩,h M' H' _ m rs' ⟨fun M2 H2 m2 i d y H3 e yl=>?_,fun M2 H2 m2 i hi=>?_,fun M2 H2 m2 i hi=>?_⟩⟩
  ·obtain ⟨T,r,hT,rfl,⟨hr,hz⟩,rfl⟩:=yl
   obtain ⟨d1,d2,hd1,hd2,rfl⟩:=zipD_get ds ds' i d e
   obtain ⟨v1,hv1,rv1⟩:=rd.get' hd1
   obtain ⟨v2,hv2,rv2⟩:=rd'.get' hd2
   have z1:=hz 0 a xs rfl (ka _ _ m2)
   have z2:=hz 1 b ys rfl (kb _ _ m2)
   rw [hv1] at z1
   rw [hv2] at z2
   have er:r = [v1,v2]:=by
    match r,hr,z1,z2 with
    | [p,q],_,z1,z2 =>
     cases z1
     cases z2
     rfl
   subst er
   refine ⟨.new hT,?_⟩
   simp only [Rep]
   exact ⟨T,_,rfl,upd_same,.cons ((rv1.mv m2).mv (.new hT)) (.one ((rv2.mv m2).mv (.new hT)))⟩
  ·rw [L,rd.length,rd'.length] at hi
   intro c hc
   simp only [List.mem_cons,List.not_mem_nil,or_false] at hc
   rcases hc with rfl | rfl
   ·exact ⟨xs,xs[i]'(by omega),ka _ _ m2,by simp⟩
   ·exact ⟨ys,ys[i]'(by omega),kb _ _ m2,by simp⟩
  ·rw [L,rd.length,rd'.length] at hi
   refine ⟨fun c hc=>?_,?_⟩
   ·simp only [List.mem_cons,List.not_mem_nil,or_false] at hc
    rcases hc with rfl | rfl
    ·exact ⟨xs,ka _ _ m2⟩
    ·exact ⟨ys,kb _ _ m2⟩
   ·rcases Nat.lt_or_ge ys.length xs.length with z | z
    ·exact ⟨b,by simp,ys,kb _ _ m2,by omega⟩
    ·exact ⟨a,by simp,xs,ka _ _ m2,by omega⟩
end
end DL
namespace DL
open PySem PySem.Spec L2
open PyProof.Rows hiding St
section
variable [Frm] {X:Cx}
end
end DL
namespace L2
open PySem PySem.Spec PyProof.Rows
open AutoSeq1 (wpAny_loadPart')
section
variable {prog:Program} {w:World} {A:Around} {E:Value -> Shared -> Prop} {s:Shared}
end
section
variable {prog:Program} {w:World} {A:Around} {E:Value -> Shared -> Prop} {s:Shared}
end
section
variable {X:Cx}
end
end L2
namespace DL
open PySem PySem.Spec L2
open PyProof.Rows hiding St
section
variable [Frm] {X:Cx}
end
end DL
namespace DL
open PySem PySem.Spec L2
open PyProof.Rows hiding St
section
variable [Frm] {X:Cx}
end
end DL
namespace DL
open PySem PySem.Spec L2
open PyProof.Rows hiding St
section
variable [Frm] {X:Cx} {xi:XI} {x:Str} {p pos np cpos:Pos} {e:Expr} {es:List Expr} {t:DA} {g:DSpE} {W:DS -> Addr -> Prop}
end
section
variable {xi:XI} {P:Program} {w:World} {K:PySem.W.Frag} {mg:Str -> Option Value} {base:Heap} {k:Nat} {f:Addr} {fd:FuncData} {ps:List Str} {n:Nat}
end
section
variable [fr0:Frm] {xi:XI} {X:Cx} {body suite:List Stmt} {b0:Stmt} {n x:Str} {np hpos pos:Pos} {C0:Addr} {i:Nat} {tb:(DS -> Addr -> Prop) -> DTS} {th:DTS} {K:PySem.W.Frag}
end
section
variable [Frm] {X:Cx}
end
end DL
namespace L2
open PySem PySem.Spec PyProof.Rows
section
variable {prog:Program} {w:World} {A:Around} {E:Value -> Shared -> Prop} {s:Shared}
theorem cat_tup0 {t b:Addr} {vs ws:List Value} {Q:Value -> Shared -> Prop} (ht:IsTup s.heap t vs.toArray) (hb:IsTup s.heap b ws.toArray) (hv:vs = [])
  (h:Q (.ref b) s):wpAny (model prog w) A (binaryOp .Add (.ref t) (.ref b)) Q E s:=by
 obtain ⟨⟨cls,dd,data,sl⟩,ho,hc,n,hd⟩:=id ht
 obtain ⟨⟨cls2,dd2,data2,sl2⟩,ho2,hc2,n2,hd2⟩:=id hb
 simp only at hc hd hc2 hd2
 subst hc hd hc2 hd2
 exact concat_meets ⟨_,ho,rfl⟩ ⟨_,ho2,rfl⟩ noFill_tuple_add seq_tuple_add PySem.F.slot_tuple_add PySem.F.entry_tuple_add (PySem.F.args_tuple_add_2 _ _)
   (tuple_addW0 t b vs.toArray ws.toArray n n2 dd dd2 sl sl2 (by simp [hv])) ⟨ho,ho2,h⟩
end
section
variable {X:Cx}
def rCatT0 (K:PySem.W.Frag):R2:=fun x y H Q=>∃ a b ys,x = .ref a /\ y = .ref b /\ SqT K H a [] /\ SqT K H b ys /\ Q (.ref b) H
theorem op_catA:OpR X (binaryOp .Add) (fun x y H Q=>rCatT X.K x y H Q ∨ rCatT0 X.K x y H Q):=by
 intro pins s σ H x y v u Q I rx ry h
 rcases h with h | h
 ·exact op_catT pins s σ H x y v u Q I rx ry h
 ·obtain ⟨a,b,ys,rfl,rfl,ha,hb,q⟩:=h
  cases rx
  cases ry
  obtain ⟨its,r1,p1,_⟩:=I.tuple ha
  obtain ⟨its2,r2,p2,_⟩:=I.tuple hb
  exact cat_tup0 p1 p2 (r1.nil_iff.mpr rfl) ⟨.ref b,H,I,rfl,q⟩
end
end L2
namespace DL
open PySem PySem.Spec L2
open PyProof.Rows hiding St
section
variable {X:Cx}
def gCatA:D -> D -> (D -> Prop) -> Prop
 | .tup xs,.tup ys,P=>(xs.length + ys.length <= sizeLine) /\ P (.tup (xs ++ ys))
 | _,_,_=>False
theorem od_catA:OpD X (binaryOp .Add) gCatA:=by
 refine ⟨fun x y P P' f h=>?_,_,op_catA,fun {pp} M H x y v u Q lv rx ry h=>?_⟩
 ·cases x <;> first | exact h.elim | skip
  cases y <;> first | exact h.elim | exact ⟨h.1,f _ h.2⟩
 ·cases x <;> first | exact h.elim | skip
  cases y <;> first | exact h.elim | skip
  rename_i xs ys
  by_cases z:xs = []
  ·subst z
   have ry':=ry
   simp only [Rep] at rx ry
   obtain ⟨a,us,rfl,ha,ra⟩:=rx
   obtain ⟨b,ws,rfl,hb,rb⟩:=ry
   have e:us = []:=List.length_eq_zero_iff.mp ra.length.symm
   subst e
   exact .inr ⟨a,b,ws,rfl,rfl,SqT.of ha,SqT.of hb,h.2 H _ .refl ry'⟩
  ·have rx':=rx
   simp only [Rep] at rx ry
   obtain ⟨a,us,rfl,ha,ra⟩:=rx
   obtain ⟨b,ws,rfl,hb,rb⟩:=ry
   obtain ⟨h2,h⟩:=h
   refine .inl ⟨a,b,us,ws,rfl,rfl,SqT.of ha,SqT.of hb,?_,by rw [← ra.length,← rb.length]; exact h2,fun e=>?_,fun e l hl=>?_⟩
   ·rintro rfl
    exact z (List.length_eq_zero_iff.mp ra.length)
   ·subst e
    have e2:ys = []:=List.length_eq_zero_iff.mp rb.length
    subst e2
    rw [List.append_nil] at h
    exact h H _ .refl rx'
   ·refine h _ _ (.new hl) ?_
    simp only [Rep]
    exact ⟨l,_,rfl,upd_same,(ra.append rb).mv (.new hl)⟩
end
end DL
namespace DL
open PySem PySem.Spec L2
open PyProof.Rows hiding St
section
variable [Frm] {X:Cx}
end
end DL
namespace L2
open PySem PySem.Spec PyProof.Rows
open AutoSeq1 (wpAny_loadPart')
section
variable {prog:Program} {w:World} {A:Around} {E:Value -> Shared -> Prop} {s:Shared}
end
section
variable {X:Cx}
end
end L2
namespace DL
open PySem PySem.Spec L2
open PyProof.Rows hiding St
section
variable [Frm] {X:Cx}
end
end DL
namespace L2
open PySem PySem.Spec PyProof.Rows
section
variable {X:Cx}
def rRemove:V -> List V -> Hp -> VK -> Prop:=fun x vs H Q=>∃ l xs k j,x = .ref l /\ vs = [.int k] /\ H l = some (.lst xs) /\ (∀ y ∈ xs,∃ a,y = V.int a) /\ xs[j]? = some (.int k) /\ (∀ m,m < j -> xs[m]? ≠ some (.int k)) /\ Q .non (upd H l (.lst (xs.eraseIdx j)))
def isK (k:Int):Value -> Bool
 | .int a _=>a == k
 | _=>false
theorem vals_at:∀ {xs:List V} {us:List Value},Vals xs us -> ∀ (m:Nat) (u:Value),us[m]? = some u -> ∃ x,xs[m]? = some x /\ RelV x u
 | _,_,.nil,m,u,h=>by simp at h
 | x :: _,_,.cons r _,0,u,h=>by
  simp at h
  subst h
  exact ⟨x,rfl,r⟩
 | _,_,.cons _ t,m + 1,u,h=>by
  have h:_:=vals_at t m u (by simpa using h)
  simpa using h
theorem mt_remove:MtM X "list.remove" rRemove:=by
 intro pins s σ H x vs v us Q I rx rv h
 obtain ⟨l,xs,k,j,rfl,rfl,hH,hi,hj,hno,q⟩:=h
 cases rx
 obtain ⟨u,rfl,ru⟩:=rv.one
 obtain ⟨t,rfl⟩:=ru
 obtain ⟨z,its,n,r,hl,e⟩:=I.lstM hH
 have at_:∀ (m:Nat) (w:Value),its[m]? = some w -> ∃ a t',w = .int a t' /\ xs[m]? = some (.int a):=fun m w hw=>by
  obtain ⟨y,hy,ry⟩:=vals_at r m w hw
  obtain ⟨a,rfl⟩:=hi y (List.mem_of_getElem? hy)
  obtain ⟨t',rfl⟩:=ry
  exact ⟨a,t',rfl,hy⟩
 have hjl:j < its.length:=by rw [← hl]; exact (List.getElem?_eq_some_iff.mp hj).1
 have hsz:its.toArray.size = its.length:=by simp
 refine call_meets F.slot_list_remove ⟨_,e,rfl⟩ F.entry_list_remove (F.args_list_remove_2 _ _) (MeetsSeq.list_remove l its.toArray n (.int k t) (isK k) (fun y hy=>?_) j (by rw [hsz]; exact hjl) ?_ (fun m hm hlt=>?_) (by rw [hsz]; omega)) ⟨e,?_⟩
 ·obtain ⟨m,hm⟩:=List.mem_iff_getElem?.mp (show y ∈ its by simpa using hy)
  obtain ⟨a,t',rfl,_⟩:=at_ m y hm
  exact MeetsSeq.EqGives.int a k t' t
 ·obtain ⟨a,t',ew,hx⟩:=at_ j its[j] (List.getElem?_eq_getElem hjl)
  rw [hj] at hx
  cases hx
  show isK k its[j] = true
  rw [ew]
  simp [isK]
 ·have hm':m < its.length:=by rw [← hsz]; exact hm
  obtain ⟨a,t',ew,hx⟩:=at_ m its[m] (List.getElem?_eq_getElem hm')
  show isK k its[m] = false
  rw [ew]
  have:a ≠ k:=fun zz=>hno m hlt (by rw [hx,zz])
  simp [isK,this]
 ·refine ⟨.non,_,I.lset (its':=its.eraseIdx j) hH e ?_ (r.eraseIdx j) ?_,rfl,q⟩
  ·show its.toArray.eraseIdxIfInBounds j = (its.eraseIdx j).toArray
   rw [List.eraseIdxIfInBounds_toArray]
  ·have:=len_erase xs j
   omega
end
end L2
namespace DL
open PySem PySem.Spec L2
open PyProof.Rows hiding St
section
variable [Frm] {X:Cx}
def dRemS (i:Nat) (E:DEnds) (ρ:DS) (d:D):Sl -> Prop
 | .own ds=>∃ (ns:List Int) (k:Int) (j:Nat),d = .int k /\ ds = ns.map D.int /\ ns[j]? = some k /\ (∀ m,m < j -> ns[m]? ≠ some k) /\ E.nx (ρ.set i (.own ((ns.eraseIdx j).map D.int)))
 | _=>False
abbrev dRem (i:Nat) (te:DE):DTS:=fun E ρ=>isOwn (slot ρ i) /\ te ρ fun d ρ'=>dRemS i E ρ' d (slot ρ' i)
theorem reps_is {K:PySem.W.Frag} {pp:Option Addr} {M:List Addr} {H:Hp}:∀ {ns:List Int} {xs:List V},Reps K pp M H (ns.map D.int) xs -> xs = ns.map V.int
 | [],xs,h=>by simpa only [List.map_nil,Reps] using h
 | n :: ns,xs,h=>by
  simp only [List.map_cons,Reps,Rep] at h
  obtain ⟨x,r,rfl,rfl,h2⟩:=h
  rw [reps_is h2,List.map_cons]
theorem ds_rem {i:Nat} {o e:Expr} {apos cpos pos:Pos} {te:DE} (ho:PE X o (tVar i)) (he:PED X e te)
  (hbase:attributeBase o "remove" X.env (eval o X.env) = eval o X.env:=by rfl)
  (hfew:((backTo cpos (starEach [e] X.env)).all (fun x=>!x.1) && (backToKw cpos (keywordEach [] X.env)).all (fun x=>x.1.isSome)
   && decide ([e].length + ([]:List Keyword).length + (if ([]:List Keyword).isEmpty then 0 else 1) < 30)) = true:=by rfl)
  (hline:(apos.endLine == cpos.line) = true:=by rfl) (hst:starEach [e] X.env = (false,eval e X.env) :: starEach [] X.env:=by rfl) (hpl:(backTo cpos (starEach [] X.env)).any (·.1) = false:=by rfl)
  (hs:swapsWith (.Call (.Attribute o "remove" apos) [e] [] cpos) none pos.line X.env = pure false:=by rfl):PSD X (.Expr (.Call (.Attribute o "remove" apos) [e] [] cpos) pos) (dRem i te):=by
 have hm:PE X (.Call (.Attribute o "remove" apos) [e] [] cpos) (tBM X.K "list" rRemove (tVar i) (tCons (Classical.choose he.run) tNil)):=pe_bm PySem.F.plainAttrs_list PySem.F.slot_list_remove PySem.F.type_list_remove mt_remove ho (pa_cons (Classical.choose_spec he.run).1 pa_nil hst) hbase hfew hline hst hpl
 obtain ⟨_,r⟩:=Classical.choose_spec he.run
 refine ⟨_,ps_expr hm hs,fun {F} M H σ ρ E D rs oo h=>?_⟩
 obtain ⟨h0,h⟩:=h
 cases q:slot ρ i with
 | nil=>rw [q] at h0; exact h0.elim
 | val d=>rw [q] at h0; exact h0.elim
 | pin w d=>rw [q] at h0; exact h0.elim
 | obj z=>rw [q] at h0; exact h0.elim
 | own ds =>
  obtain ⟨oo1,ho1,l,xs,rfl,hm1,h01,hp1,hl1,hr1⟩:=rs.at (slot_get q (by intro z; cases z))
  refine ⟨.ref l,ho1,.inl ⟨rfl,xs,SqL.of hl1⟩,?_⟩
  refine r M H σ ρ _ rs (he.mono _ _ _ (fun d ρ' h M' H' v m rs' rd=>?_) h)
  cases q':slot ρ' i with
  | nil=>rw [q'] at h; exact h.elim
  | val d=>rw [q'] at h; exact h.elim
  | pin w d=>rw [q'] at h; exact h.elim
  | obj z=>rw [q'] at h; exact h.elim
  | own ds' =>
   rw [q'] at h
   obtain ⟨ns,k,j,rfl,rfl,hj,hno,h9⟩:=h
   have g1:=slot_get q' (by intro z; cases z)
   obtain ⟨l',xs',e',hm',h0',hp',hl',hr'⟩:=rs'.sl i _ _ g1 ho1
   cases e'
   simp only [Rep] at rd
   subst rd
   have ex:=reps_is hr'
   obtain ⟨m2,rs2⟩:=rs'.write g1 ho1 (hr'.erase j)
   have ee:(ns.map DL.D.int).eraseIdx j = (ns.eraseIdx j).map DL.D.int:=by
    have:∀ (xs:List Int) (i:Nat),(xs.map DL.D.int).eraseIdx i = (xs.eraseIdx i).map DL.D.int:=fun xs=>by
     induction xs with
     | nil=>intro i; rfl
     | cons x xs ih=>intro i; cases i with
      | zero=>rfl
      | succ i=>rw [List.map_cons,List.eraseIdx_cons_succ,List.eraseIdx_cons_succ,List.map_cons,ih]
    exact this ns j
   rw [ee] at rs2
   refine ⟨l,xs',k,j,rfl,rfl,hl',fun y hy=>?_,?_,fun m' hm'=>?_,oo.nx M' _ _ _ (m.trans m2) rs2 h9⟩
   ·rw [ex] at hy
    obtain ⟨a,_,rfl⟩:=List.mem_map.mp hy
    exact ⟨a,rfl⟩
   ·rw [ex,List.getElem?_map,hj]; rfl
   ·rw [ex,List.getElem?_map]
    intro z
    obtain ⟨a,ha,hb⟩:=Option.map_eq_some_iff.mp z
    cases hb
    exact hno m' hm' ha
end
end DL
namespace DL
open PySem PySem.Spec L2
open PyProof.Rows hiding St
section
variable {X:Cx}
def gNotIn (x y:D) (P:D -> Prop):Prop:=match y with
 | .tup ys=>(flatD x = true /\ ys.all flatD = true) /\ P (.bl (!(ys.any fun y=>eqF y x)))
 | .lst ys=>(flatD x = true /\ ys.all flatD = true) /\ P (.bl (!(ys.any fun y=>eqF y x)))
 | _=>False
theorem od_notin:OpD X (compareOp .NotIn) gNotIn:=by
 refine ⟨fun x y P P' f h=>?_,_,op_notIn_seq,fun {pp} M H x y v u Q _ rx ry h=>?_⟩
 ·cases y <;> first | exact ⟨h.1,f _ h.2⟩ | exact False.elim h
 ·have go:∀ ys:List D,(flatD x = true /\ ys.all flatD = true) -> ∀ us:List V,Reps X.K pp M H ys us -> flatV v = true /\ us.all flatV = true /\ inV v us = ys.any fun y=>eqF y x:=fun ys ⟨f1,f2⟩ us r=>by
   obtain ⟨e1,e2⟩:=flat_rep f1 rx
   obtain ⟨e3,e4⟩:=flats_rep f2 r
   refine ⟨e2,e4,?_⟩
   unfold inV
   rw [e3,e1,List.any_map]
   rfl
  cases y <;> first | exact False.elim h | skip
  ·rename_i ys
   simp only [Rep] at ry
   obtain ⟨a,us,rfl,ha,r⟩:=ry
   obtain ⟨g1,g2,g3⟩:=go ys h.1 us r
   refine ⟨a,us,rfl,.inr (SqT.of ha),g1,g2,?_⟩
   rw [if_pos rfl,g3]
   exact h.2 H _ .refl rep_bl
  ·rename_i ys
   simp only [Rep] at ry
   obtain ⟨a,us,rfl,hm,hp,ha,r⟩:=ry
   obtain ⟨g1,g2,g3⟩:=go ys h.1 us r
   refine ⟨a,us,rfl,.inl (SqL.of ha),g1,g2,?_⟩
   rw [if_pos rfl,g3]
   exact h.2 H _ .refl rep_bl
end
end DL
namespace My
open PySem L2
def top (i:Nat):Stmt:=PySem.Challenge.pw_othersum_k45_whole_a_turned_knot_between.main.body.getD i (.Pass ⟨0,0,0,0⟩)
abbrev s_is_whole:Stmt:=top 5
theorem sc_is_whole:FnScope ["thing"] ["thing"] (defScope s_is_whole):=⟨rfl,rfl,rfl,by decide +kernel,rfl,by decide +kernel,by decide +kernel⟩
abbrev s_is_within:Stmt:=top 6
theorem sc_is_within:FnScope ["thing","least","most"] ["thing","least","most"] (defScope s_is_within):=⟨rfl,rfl,rfl,by decide +kernel,rfl,by decide +kernel,by decide +kernel⟩
abbrev s_together:Stmt:=top 7
theorem sc_together:FnScope ["counts","tried","well"] ["counts"] (defScope s_together):=⟨rfl,rfl,rfl,by decide +kernel,rfl,by decide +kernel,by decide +kernel⟩
abbrev s_together_by_house:Stmt:=top 8
theorem sc_together_by_house:FnScope ["many","rows"] ["many","rows"] (defScope s_together_by_house):=⟨rfl,rfl,rfl,by decide +kernel,rfl,by decide +kernel,by decide +kernel⟩
abbrev s_said:Stmt:=top 9
theorem sc_said:FnScope ["one","other","first","second"] ["one","other"] (defScope s_said):=⟨rfl,rfl,rfl,by decide +kernel,rfl,by decide +kernel,by decide +kernel⟩
abbrev s_check_house:Stmt:=top 11
theorem sc_check_house:FnScope ["many","house"] ["many","house"] (defScope s_check_house):=⟨rfl,rfl,rfl,by decide +kernel,rfl,by decide +kernel,by decide +kernel⟩
abbrev s_check_pair:Stmt:=top 12
theorem sc_check_pair:FnScope ["many","a","b"] ["many","a","b"] (defScope s_check_pair):=⟨rfl,rfl,rfl,by decide +kernel,rfl,by decide +kernel,by decide +kernel⟩
abbrev s_houses_of:Stmt:=top 13
theorem sc_houses_of:FnScope ["table"] ["table"] (defScope s_houses_of):=⟨rfl,rfl,rfl,by decide +kernel,rfl,by decide +kernel,by decide +kernel⟩
abbrev s_gathered:Stmt:=top 15
theorem sc_gathered:FnScope ["many","pairs","found","kinds","counts","cells"] ["many","pairs"] (defScope s_gathered):=⟨rfl,rfl,rfl,by decide +kernel,rfl,by decide +kernel,by decide +kernel⟩
abbrev s_is_tried:Stmt:=top 16
theorem sc_is_tried:FnScope ["counts"] ["counts"] (defScope s_is_tried):=⟨rfl,rfl,rfl,by decide +kernel,rfl,by decide +kernel,by decide +kernel⟩
abbrev s_parts_by:Stmt:=top 18
theorem sc_parts_by:FnScope ["book","some"] ["book","some"] (defScope s_parts_by):=⟨rfl,rfl,rfl,by decide +kernel,rfl,by decide +kernel,by decide +kernel⟩
abbrev s_within:Stmt:=top 19
theorem sc_within:FnScope ["book","mark","kind","cells"] ["book","mark","kind"] (defScope s_within):=⟨rfl,rfl,rfl,by decide +kernel,rfl,by decide +kernel,by decide +kernel⟩
abbrev s_table_by:Stmt:=top 20
theorem sc_table_by:FnScope ["book","some"] ["book","some"] (defScope s_table_by):=⟨rfl,rfl,rfl,by decide +kernel,rfl,by decide +kernel,by decide +kernel⟩
abbrev s_values_by:Stmt:=top 21
theorem sc_values_by:FnScope ["kinds","some"] ["kinds","some"] (defScope s_values_by):=⟨rfl,rfl,rfl,by decide +kernel,rfl,by decide +kernel,by decide +kernel⟩
abbrev s_without:Stmt:=top 22
theorem sc_without:FnScope ["things","place"] ["things","place"] (defScope s_without):=⟨rfl,rfl,rfl,by decide +kernel,rfl,by decide +kernel,by decide +kernel⟩
abbrev s_check_mark:Stmt:=top 23
theorem sc_check_mark:FnScope ["book","mark"] ["book","mark"] (defScope s_check_mark):=⟨rfl,rfl,rfl,by decide +kernel,rfl,by decide +kernel,by decide +kernel⟩
abbrev s_check_marks:Stmt:=top 24
theorem sc_check_marks:FnScope ["book","some","mark"] ["book","some"] (defScope s_check_marks):=⟨rfl,rfl,rfl,by decide +kernel,rfl,by decide +kernel,by decide +kernel⟩
abbrev s_knots:Stmt:=top 26
theorem sc_knots:FnScope ["book","order","told","length"] ["book","order"] (defScope s_knots):=⟨rfl,rfl,rfl,by decide +kernel,rfl,by decide +kernel,by decide +kernel⟩
abbrev s_turned_knots:Stmt:=top 27
theorem sc_turned_knots:FnScope ["book","order","a","b","found","kids","told","values","counts","numbers","number","all_say"] ["book","order","a","b"] (defScope s_turned_knots):=⟨rfl,rfl,rfl,by decide +kernel,rfl,by decide +kernel,by decide +kernel⟩
abbrev s_says_of_kids:Stmt:=top 28
theorem sc_says_of_kids:FnScope ["found","a","b","kids","values","counts"] ["found","a","b"] (defScope s_says_of_kids):=⟨rfl,rfl,rfl,by decide +kernel,rfl,by decide +kernel,by decide +kernel⟩
abbrev s_sums_of:Stmt:=top 30
theorem sc_sums_of:FnScope ["table"] ["table"] (defScope s_sums_of):=⟨rfl,rfl,rfl,by decide +kernel,rfl,by decide +kernel,by decide +kernel⟩
abbrev s_says:Stmt:=top 31
theorem sc_says:FnScope ["table","a","b"] ["table","a","b"] (defScope s_says):=⟨rfl,rfl,rfl,by decide +kernel,rfl,by decide +kernel,by decide +kernel⟩
abbrev s_turning:Stmt:=top 32
theorem sc_turning:FnScope ["table","a","b","told","whole","number","part"] ["table","a","b"] (defScope s_turning):=⟨rfl,rfl,rfl,by decide +kernel,rfl,by decide +kernel,by decide +kernel⟩
abbrev s_turned_or_kept:Stmt:=top 33
theorem sc_turned_or_kept:FnScope ["number","whole"] ["number","whole"] (defScope s_turned_or_kept):=⟨rfl,rfl,rfl,by decide +kernel,rfl,by decide +kernel,by decide +kernel⟩
abbrev s__law_pen:Stmt:=top 35
theorem sc__law_pen:FnScope ["_law_script"] ["_law_script"] (defScope s__law_pen):=⟨rfl,rfl,rfl,by decide +kernel,rfl,by decide +kernel,by decide +kernel⟩
abbrev s__law_next:Stmt:=top 36
theorem sc__law_next:FnScope ["_law_pen_here","_law_many","_law_script","_law_turn","_law_left","_law_cell","_law_number"] ["_law_pen_here","_law_many"] (defScope s__law_next):=⟨rfl,rfl,rfl,by decide +kernel,rfl,by decide +kernel,by decide +kernel⟩
abbrev s__law_count:Stmt:=top 37
theorem sc__law_count:FnScope ["_law_pen_here","_law_way","_law_tried"] ["_law_pen_here"] (defScope s__law_count):=⟨rfl,rfl,rfl,by decide +kernel,rfl,by decide +kernel,by decide +kernel⟩
abbrev s__law_book:Stmt:=top 38
theorem sc__law_book:FnScope ["_law_pen_here","_law_most","_law_many","_law_marks","_law_found","_law_k","_law_kinds","_law_counts"] ["_law_pen_here","_law_most"] (defScope s__law_book):=⟨rfl,rfl,rfl,by decide +kernel,rfl,by decide +kernel,by decide +kernel⟩
abbrev s__law_two:Stmt:=top 39
theorem sc__law_two:FnScope ["_law_pen_here","_law_many","_law_a"] ["_law_pen_here","_law_many"] (defScope s__law_two):=⟨rfl,rfl,rfl,by decide +kernel,rfl,by decide +kernel,by decide +kernel⟩
abbrev s__law_leaning:Stmt:=top 40
theorem sc__law_leaning:FnScope ["_law_pen_here","_law_book_here","_law_a","_law_b","_law_s","_law_cells","_law_kinds","_law_counts","_law_some","_law_high","_law_first","_law_second"] ["_law_pen_here","_law_book_here","_law_a","_law_b"] (defScope s__law_leaning):=⟨rfl,rfl,rfl,by decide +kernel,rfl,by decide +kernel,by decide +kernel⟩
abbrev s__law_sum:Stmt:=top 41
theorem sc__law_sum:FnScope ["_law_counts"] ["_law_counts"] (defScope s__law_sum):=⟨rfl,rfl,rfl,by decide +kernel,rfl,by decide +kernel,by decide +kernel⟩
abbrev s__law_said:Stmt:=top 42
theorem sc__law_said:FnScope ["_law_one","_law_other","_law_left","_law_right"] ["_law_one","_law_other"] (defScope s__law_said):=⟨rfl,rfl,rfl,by decide +kernel,rfl,by decide +kernel,by decide +kernel⟩
abbrev s__law_order:Stmt:=top 43
theorem sc__law_order:FnScope ["_law_pen_here","_law_many","_law_left","_law_found"] ["_law_pen_here","_law_many"] (defScope s__law_order):=⟨rfl,rfl,rfl,by decide +kernel,rfl,by decide +kernel,by decide +kernel⟩
abbrev s__law_kids:Stmt:=top 44
theorem sc__law_kids:FnScope ["_law_book_here","_law_order_here","_law_values","_law_left","_law_mark","_law_kind"] ["_law_book_here","_law_order_here","_law_values"] (defScope s__law_kids):=⟨rfl,rfl,rfl,by decide +kernel,rfl,by decide +kernel,by decide +kernel⟩
abbrev s__law_added:Stmt:=top 45
theorem sc__law_added:FnScope ["_law_rows","_law_many"] ["_law_rows","_law_many"] (defScope s__law_added):=⟨rfl,rfl,rfl,by decide +kernel,rfl,by decide +kernel,by decide +kernel⟩
abbrev s_law:Stmt:=top 46
theorem sc_law:FnScope ["_law_script","_law_pen_here","_law_book_here","_law_a","_law_b","_law_order_here","_law_found","_law_told","_law_leaves","_law_root","_law_s","_law_values","_law_counts","_law_table","_law_turn","_law_due"] ["_law_script"] (defScope s_law):=⟨rfl,rfl,rfl,by decide +kernel,rfl,by decide +kernel,by decide +kernel⟩
set_option genInjectivity false in
set_option genSizeOf false in
structure Tx (K:PySem.W.Frag) (mg:Str -> Option Value) where
 f_is_whole:Addr
 fd_is_whole:FuncData
 d_is_whole:Df K mg "is_whole" s_is_whole ["thing"] f_is_whole fd_is_whole
 f_is_within:Addr
 fd_is_within:FuncData
 d_is_within:Df K mg "is_within" s_is_within ["thing","least","most"] f_is_within fd_is_within
 f_together:Addr
 fd_together:FuncData
 d_together:Df K mg "together" s_together ["counts"] f_together fd_together
 f_together_by_house:Addr
 fd_together_by_house:FuncData
 d_together_by_house:Df K mg "together_by_house" s_together_by_house ["many","rows"] f_together_by_house fd_together_by_house
 f_said:Addr
 fd_said:FuncData
 d_said:Df K mg "said" s_said ["one","other"] f_said fd_said
 f_check_house:Addr
 fd_check_house:FuncData
 d_check_house:Df K mg "check_house" s_check_house ["many","house"] f_check_house fd_check_house
 f_check_pair:Addr
 fd_check_pair:FuncData
 d_check_pair:Df K mg "check_pair" s_check_pair ["many","a","b"] f_check_pair fd_check_pair
 f_houses_of:Addr
 fd_houses_of:FuncData
 d_houses_of:Df K mg "houses_of" s_houses_of ["table"] f_houses_of fd_houses_of
 f_gathered:Addr
 fd_gathered:FuncData
 d_gathered:Df K mg "gathered" s_gathered ["many","pairs"] f_gathered fd_gathered
 f_is_tried:Addr
 fd_is_tried:FuncData
 d_is_tried:Df K mg "is_tried" s_is_tried ["counts"] f_is_tried fd_is_tried
 f_parts_by:Addr
 fd_parts_by:FuncData
 d_parts_by:Df K mg "parts_by" s_parts_by ["book","some"] f_parts_by fd_parts_by
 f_within:Addr
 fd_within:FuncData
 d_within:Df K mg "within" s_within ["book","mark","kind"] f_within fd_within
 f_table_by:Addr
 fd_table_by:FuncData
 d_table_by:Df K mg "table_by" s_table_by ["book","some"] f_table_by fd_table_by
 f_values_by:Addr
 fd_values_by:FuncData
 d_values_by:Df K mg "values_by" s_values_by ["kinds","some"] f_values_by fd_values_by
 f_without:Addr
 fd_without:FuncData
 d_without:Df K mg "without" s_without ["things","place"] f_without fd_without
 f_check_mark:Addr
 fd_check_mark:FuncData
 d_check_mark:Df K mg "check_mark" s_check_mark ["book","mark"] f_check_mark fd_check_mark
 f_check_marks:Addr
 fd_check_marks:FuncData
 d_check_marks:Df K mg "check_marks" s_check_marks ["book","some"] f_check_marks fd_check_marks
 f_knots:Addr
 fd_knots:FuncData
 d_knots:Df K mg "knots" s_knots ["book","order"] f_knots fd_knots
 f_turned_knots:Addr
 fd_turned_knots:FuncData
 d_turned_knots:Df K mg "turned_knots" s_turned_knots ["book","order","a","b"] f_turned_knots fd_turned_knots
 f_says_of_kids:Addr
 fd_says_of_kids:FuncData
 d_says_of_kids:Df K mg "says_of_kids" s_says_of_kids ["found","a","b"] f_says_of_kids fd_says_of_kids
 f_sums_of:Addr
 fd_sums_of:FuncData
 d_sums_of:Df K mg "sums_of" s_sums_of ["table"] f_sums_of fd_sums_of
 f_says:Addr
 fd_says:FuncData
 d_says:Df K mg "says" s_says ["table","a","b"] f_says fd_says
 f_turning:Addr
 fd_turning:FuncData
 d_turning:Df K mg "turning" s_turning ["table","a","b"] f_turning fd_turning
 f_turned_or_kept:Addr
 fd_turned_or_kept:FuncData
 d_turned_or_kept:Df K mg "turned_or_kept" s_turned_or_kept ["number","whole"] f_turned_or_kept fd_turned_or_kept
 f__law_pen:Addr
 fd__law_pen:FuncData
 d__law_pen:Df K mg "_law_pen" s__law_pen ["_law_script"] f__law_pen fd__law_pen
 f__law_next:Addr
 fd__law_next:FuncData
 d__law_next:Df K mg "_law_next" s__law_next ["_law_pen_here","_law_many"] f__law_next fd__law_next
 f__law_count:Addr
 fd__law_count:FuncData
 d__law_count:Df K mg "_law_count" s__law_count ["_law_pen_here"] f__law_count fd__law_count
 f__law_book:Addr
 fd__law_book:FuncData
 d__law_book:Df K mg "_law_book" s__law_book ["_law_pen_here","_law_most"] f__law_book fd__law_book
 f__law_two:Addr
 fd__law_two:FuncData
 d__law_two:Df K mg "_law_two" s__law_two ["_law_pen_here","_law_many"] f__law_two fd__law_two
 f__law_leaning:Addr
 fd__law_leaning:FuncData
 d__law_leaning:Df K mg "_law_leaning" s__law_leaning ["_law_pen_here","_law_book_here","_law_a","_law_b"] f__law_leaning fd__law_leaning
 f__law_sum:Addr
 fd__law_sum:FuncData
 d__law_sum:Df K mg "_law_sum" s__law_sum ["_law_counts"] f__law_sum fd__law_sum
 f__law_said:Addr
 fd__law_said:FuncData
 d__law_said:Df K mg "_law_said" s__law_said ["_law_one","_law_other"] f__law_said fd__law_said
 f__law_order:Addr
 fd__law_order:FuncData
 d__law_order:Df K mg "_law_order" s__law_order ["_law_pen_here","_law_many"] f__law_order fd__law_order
 f__law_kids:Addr
 fd__law_kids:FuncData
 d__law_kids:Df K mg "_law_kids" s__law_kids ["_law_book_here","_law_order_here","_law_values"] f__law_kids fd__law_kids
 f__law_added:Addr
 fd__law_added:FuncData
 d__law_added:Df K mg "_law_added" s__law_added ["_law_rows","_law_many"] f__law_added fd__law_added
 f_law:Addr
 fd_law:FuncData
 d_law:Df K mg "law" s_law ["_law_script"] f_law fd_law
 z_ValueError:mg "ValueError" = none
 z_sum:mg "sum" = none
 z_tuple:mg "tuple" = none
 z_len:mg "len" = none
 z_any:mg "any" = none
 z_range:mg "range" = none
 z_enumerate:mg "enumerate" = none
 z_list:mg "list" = none
 z_zip:mg "zip" = none
 z_isinstance:mg "isinstance" = none
 z_int:mg "int" = none
 z_bool:mg "bool" = none
 z_sorted:mg "sorted" = none
 z_set:mg "set" = none
open DL
section
variable {P:Program} {w:World} {K:PySem.W.Frag} {mg:Str -> Option Value} {base:Heap}
theorem g0__law_pen (T:Tx K mg):FnOk P w K mg base CX0 1 T.f__law_pen T.fd__law_pen ["_law_script"] (sp_pen K):=by
 refine T.d__law_pen.F.ok sc__law_pen (fun vs H Q E h=>?_) (fun cdv A outer s H vs Q E hr h=>?_)
 ·obtain ⟨a,ns,rfl,_⟩:=h
  rfl
 ·obtain ⟨a,ns,rfl,hs,k⟩:=h
  refine ⟨_,(pss_one (ps_ret (pe_lst (pa_cons (pv 0) (pa_cons pe_int (pa_cons pe_int pa_nil)))))),?_⟩
  refine ⟨_,rfl,(by show (3:Nat) <= sizeLine; decide),fun p hp=>?_⟩
  refine k p _ hp ⟨upd_same,?_,Int.le_refl 0⟩ (same_new hp)
  rcases hs with ⟨o,e⟩ | e
  ·exact .inl ⟨o,upd_old hp e⟩
  ·exact .inr e
theorem g0__law_next (T:Tx K mg):FnOk P w K mg base CX0 1 T.f__law_next T.fd__law_next ["_law_pen_here","_law_many"] (sp_next K):=by
 refine T.d__law_next.F.ok sc__law_next (fun vs H Q E h=>?_) (fun cdv A outer s H vs Q E hr h=>?_)
 ·obtain ⟨p,a,ns,t,l,m,rfl,_⟩:=h
  rfl
 ·obtain ⟨p,a,ns,t,l,m,rfl,pen,m1,m2,k⟩:=h
  refine ⟨_,(pss_cons (ps_asg (pv 0) (pg_lsH rfl (pgs_cons (pg_name (i:=2) sc__law_next.nd rfl (Or.inl rfl)) (pgs_cons (pg_name (i:=3) sc__law_next.nd rfl (Or.inl rfl)) (pgs_cons (pg_name (i:=4) sc__law_next.nd rfl (Or.inl rfl)) pgs_nil)))))
   (pss_cons (ps_if (pt_cmpR op_eq (pv 4) pe_int (nomark _)) (pss_cons (ps_asg (pe_op op_add (pv 3) pe_int) (pg_sub (pv 0) pe_int set_list))
   (pss_cons (ps_if (PW.pt (pw_or (pt_cmpR op_ge (pv 3) (pe_callB call_len_seq rfl T.z_len PySem.boot_len (pa_cons (pv 2) pa_nil)) (nomark _)) (pw_or1 (pt_cmpR op_lt (pe_ix ix_list (pv 2) (pv 3) (fun _ _=>rfl)) (pe_op op_pow pe_int pe_int) (nomark _))))) (pss_cons (ps_set (i:=5) sc__law_next.nd rfl (Or.inl rfl) pe_int)
   (pss_cons (ps_if (pt_cmpR op_gt (pe_callB call_len_seq rfl T.z_len PySem.boot_len (pa_cons (pv 2) pa_nil)) pe_int (nomark _)) (pss_one (ps_set (i:=5) sc__law_next.nd rfl (Or.inl rfl) (pe_op op_mod (pe_ix ix_list (pv 2) (pe_op op_mod (pv 3) (pe_callB call_len_seq rfl T.z_len PySem.boot_len (pa_cons (pv 2) pa_nil))) (fun _ _=>rfl)) pe_int))) pss_nil)
   (pss_cons (ps_set (i:=6) sc__law_next.nd rfl (Or.inl rfl) (pe_op op_mod (pe_op op_mulB (pe_op op_add (pe_op op_add (pv 5) (pe_op op_mulB pe_int (pv 3))) pe_int) pe_int) pe_int))
   (pss_cons (ps_set (i:=6) sc__law_next.nd rfl (Or.inl rfl) (pe_op op_mod (pe_op op_add (pe_op op_add (pe_op op_mulB (pv 6) (pv 6)) (pe_op op_mulB pe_int (pv 3))) pe_int) pe_int))
   (pss_one (ps_ret (pe_op op_mod (pe_op op_fdivB (pe_op op_mod (pe_op op_mulB (pv 6) (pe_op op_add (pv 6) pe_int)) pe_int) pe_int) (pv 1)))))))) pss_nil)
   (pss_one (ps_set (i:=4) sc__law_next.nd rfl (Or.inl rfl) (pe_ix ix_list (pv 2) (pv 3) (fun _ _=>rfl)))))) pss_nil)
   (pss_cons (ps_asg (pe_op op_fdivB (pv 4) (pv 1)) (pg_sub (pv 0) pe_int set_list))
   (pss_one (ps_ret (pe_op op_mod (pv 4) (pv 1))))))),?_⟩
  have ht:=pen.t0
  have hm:(0:Int) < m:=by omega
  -- the pen's three parts
  refine ⟨_,rfl,p,_,rfl,pen.lst,rfl,_,_,rfl,_,_,rfl,_,_,rfl,rfl,?_⟩
  -- if left == 0
  refine ⟨_,rfl,rfl,_,rfl,?_⟩
  refine ite2 (fun hl=>?_) (fun hl=>?_)
  ·-- pen[1] = turn + 1
   refine ⟨_,rfl,_,_,rfl,rfl,_,rfl,p,_,1,1,rfl,rfl,pen.lst,rfl,?_⟩
   have pen1:Pen K (upd H p (.lst [.ref a,.int (t + 1),.int l])) p a ns (t + 1) l:=pen.put (by omega)
   have sq:=pen1.scr.sq
   -- if turn >= len(script) or script[turn] < 10 ** 18
   refine ⟨_,rfl,_,rfl,a,_,rfl,.inl sq,_,_,rfl,rfl,_,rfl,?_⟩
   refine ite2 (fun h1=>iteT ?_) (fun h1=>⟨_,rfl,_,rfl,a,_,t,_,rfl,rfl,sq,scr_at ht (by simp only [decide_eq_true_eq,List.length_map] at h1; omega),_,_,rfl,rfl,⟨by decide,by decide,by decide⟩,_,_,rfl,rfl,_,rfl,ite2 (fun h2=>?_) (fun h2=>?_)⟩)
   rotate_left 2
   ·-- left = script[turn]; pen[2] = left // many; return left % many
    simp only [decide_eq_true_eq,List.length_map] at h1
    refine ⟨_,rfl,_,rfl,a,_,t,_,rfl,rfl,sq,scr_at ht (by omega),?_⟩
    refine ⟨_,rfl,_,rfl,_,_,rfl,rfl,⟨hm,big_ten (by omega) (by omega)⟩,_,rfl,p,_,2,2,rfl,rfl,pen1.lst,rfl,?_⟩
    refine ⟨_,rfl,_,rfl,_,_,rfl,rfl,hm,?_⟩
    exact k _ (t + 1) _ _ (Int.emod_nonneg _ (by omega)) (Int.emod_lt_of_pos _ hm) (pen1.put (by omega)) (SBut.upd.trans SBut.upd)
   all_goals
    -- cell = ..; if len(script) > 0: cell = script[turn % len(script)] % ..
    refine ⟨_,rfl,a,_,rfl,.inl sq,_,_,rfl,rfl,_,rfl,?_⟩
    refine ite2 (fun h3=>?_) (fun h3=>?_)
    ·simp only [decide_eq_true_eq,List.length_map] at h3
     refine ⟨_,rfl,_,rfl,_,rfl,a,_,rfl,.inl sq,_,_,rfl,rfl,(by show (0:Int) < ((ns.map V.int).length:Int); rw [List.length_map]; omega),a,_,_,_,rfl,rfl,sq,scr_at (by rw [List.length_map]; exact Int.emod_nonneg _ (by omega)) (by rw [List.length_map]; exact Int.emod_lt_of_pos _ (by omega)),_,_,rfl,rfl,mpos,?_⟩
     refine ⟨_,rfl,_,rfl,_,_,rfl,rfl,mul_l,_,_,rfl,rfl,_,_,rfl,rfl,_,_,rfl,rfl,mul_r,_,_,rfl,rfl,mpos,?_⟩
     refine ⟨_,rfl,_,rfl,_,_,rfl,rfl,mul_mod (by decide) (by decide),_,rfl,_,_,rfl,rfl,mul_l,_,_,rfl,rfl,_,_,rfl,rfl,_,_,rfl,rfl,mpos,?_⟩
     refine ⟨_,rfl,_,rfl,_,_,rfl,rfl,_,_,rfl,rfl,mul_mod (by decide) (by decide),_,_,rfl,rfl,mpos,_,_,rfl,rfl,⟨by decide,big_small (by decide) (by decide)⟩,_,rfl,_,_,rfl,rfl,hm,?_⟩
     exact k _ (t + 1) _ _ (Int.emod_nonneg _ (by omega)) (Int.emod_lt_of_pos _ hm) pen1 SBut.upd
    ·refine ⟨_,rfl,_,rfl,_,_,rfl,rfl,mul_l,_,_,rfl,rfl,_,_,rfl,rfl,_,_,rfl,rfl,mul_r,_,_,rfl,rfl,mpos,?_⟩
     refine ⟨_,rfl,_,rfl,_,_,rfl,rfl,mul_mod (by decide) (by decide),_,rfl,_,_,rfl,rfl,mul_l,_,_,rfl,rfl,_,_,rfl,rfl,_,_,rfl,rfl,mpos,?_⟩
     refine ⟨_,rfl,_,rfl,_,_,rfl,rfl,_,_,rfl,rfl,mul_mod (by decide) (by decide),_,_,rfl,rfl,mpos,_,_,rfl,rfl,⟨by decide,big_small (by decide) (by decide)⟩,_,rfl,_,_,rfl,rfl,hm,?_⟩
     exact k _ (t + 1) _ _ (Int.emod_nonneg _ (by omega)) (Int.emod_lt_of_pos _ hm) pen1 SBut.upd
  ·-- pen[2] = left // many; return left % many
   refine ⟨_,rfl,_,rfl,_,_,rfl,rfl,⟨hm,big_ten (by omega) (by omega)⟩,_,rfl,p,_,2,2,rfl,rfl,pen.lst,rfl,?_⟩
   refine ⟨_,rfl,_,rfl,_,_,rfl,rfl,hm,?_⟩
   exact k _ t _ _ (Int.emod_nonneg _ (by omega)) (Int.emod_lt_of_pos _ hm) (pen.put ht) SBut.upd
theorem g__law_next (T:Tx K mg):FnOk P w K mg base CX0 1 T.f__law_next T.fd__law_next ["_law_pen_here","_law_many"] (spD K 2 gNext):=next_of (g0__law_next T)
theorem m__law_next:MonoS gNext:=mono_next
def wholeD:D -> Bool
 | .int _=>true
 | _=>false
def gW:DSp:=fun ds Q=>match ds with
 | [d]=>flesh d = true /\ Q (.bl (wholeD d))
 | _=>False
theorem m_is_whole:MonoS gW:=fun ds P P' f h=>by
 unfold gW at h ⊢
 split at h
 ·exact ⟨h.1,f _ h.2⟩
 ·exact h.elim
theorem g_is_whole (T:Tx K mg):FnOk P w K mg base CX0 1 T.f_is_whole T.fd_is_whole ["thing"] (spD K 1 gW):=by
 refine fnD (k:=0) T.d_is_whole.F sc_is_whole (fun cdv A outer s H E hr=>(dss_one (ds_ret (de_and (de_callB cd_is_int rfl T.z_isinstance rfl (da_cons (de_var 0 (pv 0)) (da_cons (de_ty (n:="int") rfl T.z_int rfl) da_nil))) (de_one (de_not (de_callB cd_is_bool rfl T.z_isinstance rfl (da_cons (de_var 0 (pv 0)) (da_cons (de_ty (n:="bool") rfl T.z_bool rfl) da_nil))))))))) (fun ds Q hl h=>?_)
 unfold gW at h
 split at h
 case h_2=>exact h.elim
 rename_i d
 obtain ⟨h1,h⟩:=h
 refine ⟨rfl,h1,?_⟩
 cases d with
 | int i=>exact Br.t ⟨rfl,h1,h⟩
 | bl i=>exact Br.t ⟨rfl,h1,h⟩
 | _=>exact Br.f h
def pairD (c:Int × Int):D:=.tup [.int c.1,.int c.2]
def gTog:DSp:=fun ds Q=>match ds with
 | [.lst xs]=>∃ cs:List (Int × Int),xs = cs.map pairD /\ cs.length <= 1000 /\ Q (.tup [.int (cs.map (·.1)).sum,.int (cs.map (·.2)).sum])
 | [.tup xs]=>∃ cs:List (Int × Int),xs = cs.map pairD /\ cs.length <= 1000 /\ Q (.tup [.int (cs.map (·.1)).sum,.int (cs.map (·.2)).sum])
 | _=>False
theorem m_together:MonoS gTog:=fun ds P P' f h=>by
 unfold gTog at h ⊢
 split at h
 ·obtain ⟨cs,a,b,h⟩:=h
  exact ⟨cs,a,b,f _ h⟩
 ·obtain ⟨cs,a,b,h⟩:=h
  exact ⟨cs,a,b,f _ h⟩
 ·exact h.elim
theorem firsts (cs:List (Int × Int)):(cs.map pairD).map (fun d=>match d with | .tup (x :: _)=>x | _=>.non) = (cs.map (·.1)).map D.int:=by
 rw [List.map_map,List.map_map]; rfl
theorem seconds (cs:List (Int × Int)):(cs.map pairD).map (fun d=>match d with | .tup [_,x]=>x | _=>.non) = (cs.map (·.2)).map D.int:=by
 rw [List.map_map,List.map_map]; rfl
theorem coll0 {cs:List (Int × Int)} {s:Sl} {Q:List D -> Prop} (hc:cs.length <= 1000) (hq:Q ((cs.map (·.1)).map D.int)):dColl (dgName 0) dNoTest (dOp gIx (dVar 0) (dC (.int 0))) (cs.map pairD) [] [s] Q:=by
 refine dColl_map (fun d=>match d with | .tup (x :: _)=>x | _=>.non) (fun ρ=>∃ s,ρ = [s]) ?_ (fun d hd ρ Y Z hN hY=>?_) _ ⟨_,rfl⟩ ?_
 ·rw [List.length_map]; exact Nat.le_trans hc (by decide)
 ·obtain ⟨s,rfl⟩:=hN
  obtain ⟨c,_,rfl⟩:=List.mem_map.mp hd
  exact Br.t (hY _ ⟨_,rfl⟩)
 ·rw [firsts]; exact hq
theorem coll1 {cs:List (Int × Int)} {s:Sl} {Q:List D -> Prop} (hc:cs.length <= 1000) (hq:Q ((cs.map (·.2)).map D.int)):dColl (dgName 0) dNoTest (dOp gIx (dVar 0) (dC (.int 1))) (cs.map pairD) [] [s] Q:=by
 refine dColl_map (fun d=>match d with | .tup [_,x]=>x | _=>.non) (fun ρ=>∃ s,ρ = [s]) ?_ (fun d hd ρ Y Z hN hY=>?_) _ ⟨_,rfl⟩ ?_
 ·rw [List.length_map]; exact Nat.le_trans hc (by decide)
 ·obtain ⟨s,rfl⟩:=hN
  obtain ⟨c,_,rfl⟩:=List.mem_map.mp hd
  exact Br.t (hY _ ⟨_,rfl⟩)
 ·rw [seconds]; exact hq
theorem g_together (T:Tx K mg):FnOk P w K mg base CX0 1 T.f_together T.fd_together ["counts"] (spD K 1 gTog):=by
 refine fnD (k:=0) T.d_together.F sc_together (fun cdv A outer s H E hr=>(dss_cons (ds_set (i:=1) sc_together.nd rfl (by first | exact Or.inl rfl | exact Or.inr rfl) (de_callB cd_sum rfl T.z_sum PyProof.Rows.boot_sum (da_cons (de_frz (PCD.pld (dl_comp (N':=["count"]) rfl rfl (by decide +kernel) rfl (.own .nil) (by decide +kernel) (di_any (de_var 0 (pv 0))) (fun B=>(dg_name (i:=0) (show List.Nodup (α:=PySem.Str) ["count"] by decide +kernel) rfl (by first | exact Or.inl rfl | exact Or.inr rfl))) (fun B=>dts_nil) (fun B=>(de_ix (de_var 0 (pv 0)) de_int (fun _ _=>rfl)))))) da_nil)))
   (dss_cons (ds_set (i:=2) sc_together.nd rfl (by first | exact Or.inl rfl | exact Or.inr rfl) (de_callB cd_sum rfl T.z_sum PyProof.Rows.boot_sum (da_cons (de_frz (PCD.pld (dl_comp (N':=["count"]) rfl rfl (by decide +kernel) rfl (.own .nil) (by decide +kernel) (di_any (de_var 0 (pv 0))) (fun B=>(dg_name (i:=0) (show List.Nodup (α:=PySem.Str) ["count"] by decide +kernel) rfl (by first | exact Or.inl rfl | exact Or.inr rfl))) (fun B=>dts_nil) (fun B=>(de_ix (de_var 0 (pv 0)) de_int (fun _ _=>rfl)))))) da_nil)))
   (dss_one (ds_ret (de_tup (da_cons (de_var 1 (pv 1)) (da_cons (de_var 2 (pv 2)) da_nil)))))))) (fun ds Q hl h=>?_)
 unfold gTog at h
 split at h
 case h_3=>exact h.elim
 all_goals
  obtain ⟨cs,rfl,hc,h⟩:=h
  refine coll0 hc (gSum_of ?_)
  refine coll1 hc (gSum_of ?_)
  exact ⟨sz,h⟩
def saidD (t w t' w':Int):D:=if t = 0 ∨ t' = 0 then .non else if t * w' < w * t' then .int 1 else if w * t' < t * w' then .int (-1) else .int 0
def gSaid:DSp:=fun ds Q=>match ds with
 | [.tup [.int t,.int w],.tup [.int t',.int w']]=>(Bd 7000 t /\ Bd 7000 w /\ Bd 7000 t' /\ Bd 7000 w') /\ Q (saidD t w t' w')
 | _=>False
theorem m_said:MonoS gSaid:=fun ds P P' f h=>by
 unfold gSaid at h ⊢
 split at h
 ·exact ⟨h.1,f _ h.2⟩
 ·exact h.elim
theorem g_said (T:Tx K mg):FnOk P w K mg base CX0 1 T.f_said T.fd_said ["one","other"] (spD K 2 gSaid):=by
 refine fnD (k:=0) T.d_said.F sc_said (fun cdv A outer s H E hr=>(dss_cons (ds_if (PWD.pt (dw_or (dt_cmp (od_eq hr) (de_ix (de_var 0 (pv 0)) de_int (fun _ _=>rfl)) de_int (nomark _)) (dw_or1 (dt_cmp (od_eq hr) (de_ix (de_var 1 (pv 1)) de_int (fun _ _=>rfl)) de_int (nomark _))))) (dss_one (ds_ret de_non)) dss_nil)
   (dss_cons (ds_set (i:=2) sc_said.nd rfl (by first | exact Or.inl rfl | exact Or.inr rfl) (de_op od_mul (de_ix (de_var 0 (pv 0)) de_int (fun _ _=>rfl)) (de_ix (de_var 1 (pv 1)) de_int (fun _ _=>rfl))))
   (dss_cons (ds_set (i:=3) sc_said.nd rfl (by first | exact Or.inl rfl | exact Or.inr rfl) (de_op od_mul (de_ix (de_var 1 (pv 1)) de_int (fun _ _=>rfl)) (de_ix (de_var 0 (pv 0)) de_int (fun _ _=>rfl))))
   (dss_cons (ds_if (dt_cmp od_gt (de_var 2 (pv 2)) (de_var 3 (pv 3)) (nomark _)) (dss_one (ds_ret de_int)) dss_nil)
   (dss_cons (ds_if (dt_cmp od_lt (de_var 2 (pv 2)) (de_var 3 (pv 3)) (nomark _)) (dss_one (ds_ret (de_un ud_neg de_int))) dss_nil)
   (dss_one (ds_ret de_int)))))))) (fun ds Q hl h=>?_)
 unfold gSaid at h
 split at h
 case h_2=>exact h.elim
 rename_i t w t' w'
 obtain ⟨⟨b1,b2,b3,b4⟩,h⟩:=h
 unfold saidD at h
 refine ⟨⟨rfl,rfl⟩,fun e=>Br.t ?_,fun e=>⟨⟨rfl,rfl⟩,fun e'=>?_,fun e'=>?_⟩⟩
 ·have e:t = 0:=by simpa [eqD_int] using e
  rw [if_pos (.inl e)] at h
  exact h
 ·have e':t' = 0:=by simpa [eqD_int] using e'
  rw [if_pos (.inr e')] at h
  exact h
 ·have e:t ≠ 0:=by simpa [eqD_int] using e
  have e':t' ≠ 0:=by simpa [eqD_int] using e'
  rw [if_neg (by simp [e,e'])] at h
  refine ⟨b2.cmul b3,b4.cmul b1,⟨fun c=>?_,fun c=>⟨fun c'=>?_,fun c'=>?_⟩⟩⟩
  ·have c:w' * t < w * t':=by simpa using c
   rw [if_pos (by rw [Int.mul_comm t w']; exact c)] at h
   exact h
  ·have c:¬ w' * t < w * t':=by simpa using c
   have c':w * t' < w' * t:=by simpa using c'
   rw [if_neg (by rw [Int.mul_comm t w']; exact c),if_pos (by rw [Int.mul_comm t w']; exact c')] at h
   exact h
  ·have c:¬ w' * t < w * t':=by simpa using c
   have c':¬ w * t' < w' * t:=by simpa using c'
   rw [if_neg (by rw [Int.mul_comm t w']; exact c),if_neg (by rw [Int.mul_comm t w']; exact c')] at h
   exact h
structure Cnt (n:Nat) (t w:Int):Prop where
 lo:0 <= w
 hi:w <= t
 bt:Bd n t
 bw:Bd n w
theorem Cnt.mono {m n:Nat} {t w:Int} (h:Cnt m t w) (l:m <= n):Cnt n t w:=⟨h.lo,h.hi,h.bt.mono l,h.bw.mono l⟩
theorem cnt_of {n:Nat} {t w:Int} (lo:0 <= w) (hi:w <= t) (b:Bd n t):Cnt n t w:=⟨lo,hi,b,b.le (by omega)⟩
abbrev Row:=List (Int × Int)
def rowD (r:Row):D:=.tup (r.map pairD)
def RowN (n m:Nat) (r:Row):Prop:=r.length = m /\ ∀ c ∈ r,Cnt n c.1 c.2
abbrev RowOk (m:Nat) (r:Row):Prop:=RowN 200 m r
theorem RowN.up {n m:Nat} {r:Row} (o:RowN n m r) (h:n <= 200:=by decide):RowOk m r:=⟨o.1,fun c hc=>(o.2 c hc).mono h⟩
structure Tbl (m:Nat) (t:List Row):Prop where
 m2:2 <= m
 m6:m <= 6
 p1:1 <= t.length
 p60:t.length <= 100
 rows:∀ r ∈ t,RowOk m r
def at_ (r:Row) (h:Nat):Int × Int:=r.getD h (0,0)
def col (t:List Row) (h:Nat):List (Int × Int):=t.map fun r=>at_ r h
def sumP (cs:List (Int × Int)):Int × Int:=((cs.map (·.1)).sum,(cs.map (·.2)).sum)
def sums (t:List Row) (m:Nat):Row:=(List.range m).map fun h=>sumP (col t h)
theorem at_get {n m:Nat} {r:Row} (o:RowN n m r) {h:Nat} (hh:h < m):r[h]? = some (at_ r h) /\ Cnt n (at_ r h).1 (at_ r h).2:=by
 have hl:h < r.length:=by rw [o.1]; exact hh
 have e:r[h]? = some (at_ r h):=by
  unfold at_
  rw [List.getD_eq_getElem?_getD]
  simp [hl]
 exact ⟨e,o.2 _ (List.mem_of_getElem? e)⟩
theorem row_at {n m:Nat} {r:Row} (o:RowN n m r) {h:Int} {Q:D -> Prop} (h0:0 <= h) (h1:h < m) (q:Q (pairD (at_ r h.toNat))):opt (atI (r.map pairD) h) Q:=by
 refine opt_at h0 ?_ q
 rw [List.getElem?_map,(at_get o (h:=h.toNat) (by omega)).1]
 rfl
def gWith:DSp:=fun ds Q=>match ds with
 | [.int x,.int lo,.int hi]=>(lo <= x /\ x <= hi) /\ Q (.bl true)
 | _=>False
theorem m_is_within:MonoS gWith:=fun ds P P' f h=>by
 unfold gWith at h ⊢
 split at h
 ·exact ⟨h.1,f _ h.2⟩
 ·exact h.elim
theorem g_is_within (T:Tx K mg):FnOk P w K mg base CX0 2 T.f_is_within T.fd_is_within ["thing","least","most"] (spD K 3 gWith):=by
 refine fnD (k:=1) T.d_is_within.F sc_is_within (fun cdv A outer s H E hr=>(dss_one (ds_ret (de_and (de_call (g_is_whole T) m_is_whole (hr.mono (by decide)) rfl T.d_is_whole.m T.d_is_whole.F.kp T.d_is_whole.b (da_cons (de_var 0 (pv 0)) da_nil)) (de_one (de_chain od_le od_le (de_var 1 (pv 1)) (de_var 0 (pv 0)) (de_var 2 (pv 2)))))))) (fun ds Q hl h=>?_)
 unfold gWith at h
 split at h
 case h_2=>exact h.elim
 rename_i x lo hi
 obtain ⟨⟨h1,h2⟩,h⟩:=h
 have h':Q (.bl (decide (x <= hi))):=by rw [decide_eq_true h2]; exact h
 exact ⟨rfl,rfl,Br.t (Br.dt h1 h')⟩
def gChH:DSp:=fun ds Q=>match ds with
 | [.int m,.int h]=>(0 <= h /\ h < m) /\ Q .non
 | _=>False
theorem m_check_house:MonoS gChH:=fun ds P P' f h=>by
 unfold gChH at h ⊢
 split at h
 ·exact ⟨h.1,f _ h.2⟩
 ·exact h.elim
theorem g_check_house (T:Tx K mg):FnOk P w K mg base CX0 3 T.f_check_house T.fd_check_house ["many","house"] (spD K 2 gChH):=by
 refine fnD (k:=2) T.d_check_house.F sc_check_house (fun cdv A outer s H E hr=>(dss_one (ds_if (dt_not (dt_val (de_call (g_is_within T) m_is_within (hr.mono (by decide)) rfl T.d_is_within.m T.d_is_within.F.kp T.d_is_within.b (da_cons (de_var 1 (pv 1)) (da_cons de_int (da_cons (de_op od_sub (de_var 0 (pv 0)) de_int) da_nil)))))) (dss_one ds_never) dss_nil))) (fun ds Q hl h=>?_)
 unfold gChH at h
 split at h
 case h_2=>exact h.elim
 obtain ⟨⟨h1,h2⟩,h⟩:=h
 exact ⟨rfl,⟨h1,by omega⟩,Br.f h⟩
def gHs:DSp:=fun ds Q=>match ds with
 | [.lst (.tup xs :: _)]=>Q (.int xs.length)
 | _=>False
theorem m_houses_of:MonoS gHs:=fun ds P P' f h=>by
 unfold gHs at h ⊢
 split at h
 ·exact f _ h
 ·exact h.elim
theorem g_houses_of (T:Tx K mg):FnOk P w K mg base CX0 1 T.f_houses_of T.fd_houses_of ["table"] (spD K 1 gHs):=by
 refine fnD (k:=0) T.d_houses_of.F sc_houses_of (fun cdv A outer s H E hr=>(dss_one (ds_ret (de_callB cd_len rfl T.z_len PySem.boot_len (da_cons (de_ix (de_var 0 (pv 0)) de_int (fun _ _=>rfl)) da_nil))))) (fun ds Q hl h=>?_)
 unfold gHs at h
 split at h
 case h_2=>exact h.elim
 rename_i xs r
 exact opt_at (Int.le_refl 0) rfl h
theorem tbl_houses {m:Nat} {t:List Row} (o:Tbl m t) {Q:D -> Prop} (q:Q (.int m)):gHs [.lst (t.map rowD)] Q:=by
 cases t with
 | nil=>have:=o.p1; simp at this
 | cons r rest =>
  have:=(o.rows r List.mem_cons_self).1
  show Q (.int ((r.map pairD).length:Nat))
  rw [List.length_map,this]
  exact q
theorem coll_col {m:Nat} {t:List Row} (ho:∀ r ∈ t,RowOk m r) (hl:t.length <= 1000) {h:Int} (h0:0 <= h) (h1:h < m) {s:Sl} {Q:List D -> Prop} (q:Q ((col t h.toNat).map pairD)) :
  dColl (dgName 0) dNoTest (dOp gIx (dVar 0) (dVar 1)) (t.map rowD) [] [s,.val (.int h)] Q:=by
 refine dColl_pre (fun pre acc ρ=>∃ t0 t1:List Row,t = t0 ++ t1 /\ pre = t0.map rowD /\ acc = (col t0 h.toNat).map pairD /\ ∃ s,ρ = [s,.val (.int h)]) (fun acc ρ hN=>?_) (fun pre d post acc ρ Y e hN hY=>?_) _ ⟨[],t,rfl,rfl,rfl,_,rfl⟩
 ·obtain ⟨t0,t1,rfl,e,rfl,_⟩:=hN
  have:t1 = []:=by
   have:=congrArg List.length e
   simp at this
   exact this
  subst this
  simpa using q
 ·obtain ⟨t0,t1,rfl,rfl,rfl,s,rfl⟩:=hN
  rw [List.map_append] at e
  have e:=List.append_cancel_left e
  cases t1 with
  | nil=>simp at e
  | cons r t1 =>
   rw [List.map_cons] at e
   injection e with e1 e2
   subst e1
   have o:=ho r (by simp)
   refine Br.t (row_at o h0 h1 ⟨?_,hY _ _ ⟨t0 ++ [r],t1,by simp,by simp,by simp [col],_,rfl⟩⟩)
   rw [List.length_map]
   unfold col
   rw [List.length_map]
   have:t0.length <= 1000:=by rw [List.length_append] at hl; omega
   exact Nat.lt_of_le_of_lt this (by decide)
def gTbh:DSp:=fun ds Q=>match ds with
 | [.int m,.lst xs]=>∃ (n:Nat) (t:List Row),m = n /\ xs = t.map rowD /\ (n <= 6 /\ t.length <= 1000 /\ ∀ r ∈ t,RowOk n r) /\ Q (rowD (sums t n))
 | _=>False
theorem m_together_by_house:MonoS gTbh:=fun ds P P' f h=>by
 unfold gTbh at h ⊢
 split at h
 ·obtain ⟨n,t,a,b,c,h⟩:=h
  exact ⟨n,t,a,b,c,f _ h⟩
 ·exact h.elim
theorem intsD_map:∀ (n:Nat) (lo:Int),intsD lo n = (List.range n).map fun (i:Nat)=>D.int (lo + i)
 | 0,_=>rfl
 | n + 1,lo=>by
  rw [List.range_succ_eq_map,List.map_cons,List.map_map,intsD,intsD_map n (lo + 1)]
  congr 1
  ·simp
  ·apply List.map_congr_left
   intro i _
   simp only [Function.comp]
   congr 1
   omega
theorem g_together_by_house (T:Tx K mg):FnOk P w K mg base CX0 2 T.f_together_by_house T.fd_together_by_house ["many","rows"] (spD K 2 gTbh):=by
 refine fnD (k:=1) T.d_together_by_house.F sc_together_by_house (fun cdv A outer s H E hr=>(dss_one (ds_ret (de_callTy cd_tuple rfl T.z_tuple rfl (da_cons (de_frz (PCD.pld (dl_comp (N':=["house","rows"]) rfl rfl (by decide +kernel) rfl (.own (.cap (j:=1) rfl (by first | exact Or.inl rfl | exact Or.inr rfl) rfl .nil)) (by decide +kernel) (di_range1 rfl T.z_range (da_cons (de_var 0 (pv 0)) da_nil)) (fun B=>(dg_name (i:=0) (show List.Nodup (α:=PySem.Str) ["house","rows"] by decide +kernel) rfl (by first | exact Or.inl rfl | exact Or.inr rfl))) (fun B=>dts_nil) (fun B=>(de_call (g_together T) m_together (hr.mono (by decide)) rfl T.d_together.m T.d_together.F.kp T.d_together.b (da_cons (de_frz (PCD.pld (dl_comp (N':=["row","house"]) rfl rfl (by decide +kernel) rfl (.own (.cap (j:=0) rfl (by first | exact Or.inl rfl | exact Or.inr rfl) rfl .nil)) (by decide +kernel) (di_list (de_var 1 (pv 1))) (fun B=>(dg_name (i:=0) (show List.Nodup (α:=PySem.Str) ["row","house"] by decide +kernel) rfl (by first | exact Or.inl rfl | exact Or.inr rfl))) (fun B=>dts_nil) (fun B=>(de_ix (de_var 0 (pv 0)) (de_var 1 (pv 1)) (fun _ _=>rfl)))))) da_nil)))))) da_nil))))) (fun ds Q hl h=>?_)
 unfold gTbh at h
 split at h
 case h_2=>exact h.elim
 obtain ⟨n,t,rfl,rfl,⟨h6,h1000,ho⟩,h⟩:=h
 refine ⟨⟨by omega,by omega⟩,?_⟩
 rw [Int.toNat_natCast]
 refine dColl_map (fun d=>match d with | .int i=>pairD (sumP (col t i.toNat)) | _=>.non) (fun ρ=>∃ s,ρ = [s,.val (.lst (t.map rowD))]) ?_ (fun d hd ρ Y Z hN hY=>?_) _ ⟨_,rfl⟩ ?_
 ·rw [intsD_map,List.length_map,List.length_range]
  exact Nat.le_trans h6 (by decide)
 ·obtain ⟨s,rfl⟩:=hN
  rw [intsD_map] at hd
  obtain ⟨i,hi,rfl⟩:=List.mem_map.mp hd
  have hi:=List.mem_range.mp hi
  refine Br.t (coll_col ho h1000 (by omega) (by omega) ⟨rfl,col t (0 + (i:Int)).toNat,rfl,?_,hY _ ⟨_,rfl⟩⟩)
  unfold col
  rw [List.length_map]
  exact h1000
 ·show Q (.tup (List.map _ (intsD 0 n)))
  have e:(intsD 0 n).map (fun d=>match d with | .int i=>pairD (sumP (col t i.toNat)) | _=>.non) = (sums t n).map pairD:=by
   rw [intsD_map,List.map_map]
   unfold sums
   rw [List.map_map]
   apply List.map_congr_left
   intro i _
   show pairD (sumP (col t (0 + (i:Int)).toNat)) = pairD (sumP (col t i))
   congr 3
   omega
  rw [e]
  exact h
def gSums:DSp:=fun ds Q=>match ds with
 | [.lst xs]=>∃ (n:Nat) (t:List Row),xs = t.map rowD /\ Tbl n t /\ Q (rowD (sums t n))
 | _=>False
theorem m_sums_of:MonoS gSums:=fun ds P P' f h=>by
 unfold gSums at h ⊢
 split at h
 ·obtain ⟨n,t,a,b,h⟩:=h
  exact ⟨n,t,a,b,f _ h⟩
 ·exact h.elim
theorem g_sums_of (T:Tx K mg):FnOk P w K mg base CX0 3 T.f_sums_of T.fd_sums_of ["table"] (spD K 1 gSums):=by
 refine fnD (k:=2) T.d_sums_of.F sc_sums_of (fun cdv A outer s H E hr=>(dss_one (ds_ret (de_call (g_together_by_house T) m_together_by_house (hr.mono (by decide)) rfl T.d_together_by_house.m T.d_together_by_house.F.kp T.d_together_by_house.b (da_cons (de_call (g_houses_of T) m_houses_of (hr.mono (by decide)) rfl T.d_houses_of.m T.d_houses_of.F.kp T.d_houses_of.b (da_cons (de_var 0 (pv 0)) da_nil)) (da_cons (de_var 0 (pv 0)) da_nil)))))) (fun ds Q hl h=>?_)
 unfold gSums at h
 split at h
 case h_2=>exact h.elim
 obtain ⟨n,t,rfl,o,h⟩:=h
 refine ⟨rfl,tbl_houses o ⟨rfl,n,t,rfl,rfl,⟨o.m6,Nat.le_trans o.p60 (by decide),o.rows⟩,h⟩⟩
def gChP:DSp:=fun ds Q=>match ds with
 | [.int m,.int a,.int b]=>(0 <= a /\ a < m /\ 0 <= b /\ b < m /\ a ≠ b) /\ Q .non
 | _=>False
theorem m_check_pair:MonoS gChP:=fun ds P P' f h=>by
 unfold gChP at h ⊢
 split at h
 ·exact ⟨h.1,f _ h.2⟩
 ·exact h.elim
theorem g_check_pair (T:Tx K mg):FnOk P w K mg base CX0 4 T.f_check_pair T.fd_check_pair ["many","a","b"] (spD K 3 gChP):=by
 refine fnD (k:=3) T.d_check_pair.F sc_check_pair (fun cdv A outer s H E hr=>(dss_cons (ds_expr (de_call (g_check_house T) m_check_house (hr.mono (by decide)) rfl T.d_check_house.m T.d_check_house.F.kp T.d_check_house.b (da_cons (de_var 0 (pv 0)) (da_cons (de_var 1 (pv 1)) da_nil))))
   (dss_cons (ds_expr (de_call (g_check_house T) m_check_house (hr.mono (by decide)) rfl T.d_check_house.m T.d_check_house.F.kp T.d_check_house.b (da_cons (de_var 0 (pv 0)) (da_cons (de_var 2 (pv 2)) da_nil))))
   (dss_one (ds_if (dt_cmp (od_eq hr) (de_var 1 (pv 1)) (de_var 2 (pv 2)) (nomark _)) (dss_one ds_never) dss_nil))))) (fun ds Q hl h=>?_)
 unfold gChP at h
 split at h
 case h_2=>exact h.elim
 obtain ⟨⟨h1,h2,h3,h4,h5⟩,h⟩:=h
 refine ⟨rfl,⟨h1,h2⟩,rfl,⟨h3,h4⟩,⟨rfl,rfl⟩,fun z=>?_,fun _=>h⟩
 exact absurd (by simpa [eqD_int] using z) h5
def kI (ks:List Int):List Key:=ks.map .inl
def intsT (ks:List Int):D:=.tup (ks.map .int)
theorem keyD_kI (ks:List Int):intsT ks = keyD (kI ks):=by
 unfold keyD kI intsT
 rw [List.map_map]
 rfl
theorem kI_inj {a b:List Int} (h:kI a = kI b):a = b:=by
 unfold kI at h
 exact (List.map_inj_right (fun _ _ e=>Sum.inl.inj e)).mp h
theorem kI_eq {a b:List Int}:(kI a = kI b) ↔ a = b:=⟨kI_inj,fun e=>by rw [e]⟩
theorem onlyI_kI (ks:List Int):onlyI (kI ks):=fun x hx=>by
 obtain ⟨i,_,rfl⟩:=List.mem_map.mp hx
 exact ⟨i,rfl⟩
def addG (k:List Int) (r:Row):List (List Int × List Row) -> List (List Int × List Row)
 | []=>[(k,[r])]
 | p :: t=>if p.1 = k then (p.1,p.2 ++ [r]) :: t else p :: addG k r t
def grp (ps:List (List Int × Row)):List (List Int × List Row):=ps.foldl (fun g p=>addG p.1 p.2 g) []
theorem grp_snoc (ps:List (List Int × Row)) (p:List Int × Row):grp (ps ++ [p]) = addG p.1 p.2 (grp ps):=by
 unfold grp
 rw [List.foldl_append]
 rfl
def emb (g:List (List Int × List Row)):List (List Key × List D):=g.map fun p=>(kI p.1,p.2.map rowD)
def embV (g:List (List Int × List Row)):List (List Key × D):=g.map fun p=>(kI p.1,.lst (p.2.map rowD))
theorem emb_add (k:List Int) (r:Row):∀ g,addL1 (kI k) (rowD r) (emb g) = emb (addG k r g)
 | []=>rfl
 | p :: t=>by
  show addL1 (kI k) (rowD r) ((kI p.1,p.2.map rowD) :: emb t) = _
  unfold addL1 addG
  by_cases e:p.1 = k
  ·rw [if_pos (show (kI p.1,p.2.map rowD).1 = kI k by rw [e]),if_pos e]
   simp [emb]
  ·rw [if_neg (show ¬ (kI p.1,p.2.map rowD).1 = kI k from fun z=>e (kI_inj z)),if_neg e,emb_add k r t]
   rfl
theorem keys_add (k:List Int) (r:Row):∀ g:List (List Int × List Row),(addG k r g).map (·.1) = if k ∈ g.map (·.1) then g.map (·.1) else g.map (·.1) ++ [k]
 | []=>rfl
 | p :: t=>by
  unfold addG
  by_cases e:p.1 = k
  ·rw [if_pos e,if_pos (by simp [e])]
   rfl
  ·rw [if_neg e,List.map_cons,keys_add k r t]
   by_cases m:k ∈ t.map (·.1)
   ·rw [if_pos m,if_pos (by rw [List.map_cons]; exact List.mem_cons_of_mem _ m),List.map_cons]
   ·rw [if_neg m,if_neg (by rw [List.map_cons]; intro z; rcases List.mem_cons.mp z with z | z; exact e z.symm; exact m z),List.map_cons]
    rfl
structure GOk (C:List Int -> Prop) (R:Row -> Prop) (n:Nat) (g:List (List Int × List Row)):Prop where
 nd:(g.map (·.1)).Nodup
 it:∀ p ∈ g,C p.1 /\ p.2 ≠ [] /\ p.2.length <= n /\ ∀ r ∈ p.2,R r
 len:g.length <= n
theorem GOk.add {C:List Int -> Prop} {R:Row -> Prop} {n:Nat} {g:List (List Int × List Row)} (h:GOk C R n g) {k:List Int} {r:Row} (hk:C k) (hr:R r):GOk C R (n + 1) (addG k r g):=by
 refine ⟨?_,?_,?_⟩
 ·rw [keys_add]
  split
  ·exact h.nd
  ·rename_i m
   refine List.nodup_append.mpr ⟨h.nd,by simp,fun a ha b hb e=>?_⟩
   rw [List.mem_singleton.mp hb] at e
   exact m (e ▸ ha)
 ·have key:∀ g:List (List Int × List Row),(∀ p ∈ g,C p.1 /\ p.2 ≠ [] /\ p.2.length <= n /\ ∀ r ∈ p.2,R r) -> ∀ p ∈ addG k r g,C p.1 /\ p.2 ≠ [] /\ p.2.length <= n + 1 /\ ∀ r ∈ p.2,R r:=by
   intro g
   induction g with
   | nil =>
    intro _ p hp
    rw [List.mem_singleton.mp hp]
    exact ⟨hk,by simp,by simp,fun x hx=>by rw [List.mem_singleton.mp hx]; exact hr⟩
   | cons q t ih =>
    intro h p hp
    unfold addG at hp
    split at hp
    ·rcases List.mem_cons.mp hp with rfl | hp
     ·have:=h q List.mem_cons_self
      refine ⟨this.1,by simp,by simp; exact this.2.2.1,fun x hx=>?_⟩
      rcases List.mem_append.mp hx with hx | hx
      ·exact this.2.2.2 x hx
      ·rw [List.mem_singleton.mp hx]; exact hr
     ·have:=h p (List.mem_cons_of_mem _ hp)
      exact ⟨this.1,this.2.1,Nat.le_succ_of_le this.2.2.1,this.2.2.2⟩
    ·rcases List.mem_cons.mp hp with rfl | hp
     ·have:=h p List.mem_cons_self
      exact ⟨this.1,this.2.1,Nat.le_succ_of_le this.2.2.1,this.2.2.2⟩
     ·exact ih (fun p hp=>h p (List.mem_cons_of_mem _ hp)) p hp
  exact key g h.it
 ·have:=congrArg List.length (keys_add k r g)
  rw [List.length_map] at this
  rw [this]
  split
  ·rw [List.length_map]; exact Nat.le_succ_of_le h.len
  ·rw [List.length_append,List.length_map]; simp; exact h.len
theorem grp_ok {C:List Int -> Prop} {R:Row -> Prop}:∀ (ps:List (List Int × Row)),(∀ p ∈ ps,C p.1 /\ R p.2) -> GOk C R ps.length (grp ps):=by
 intro ps
 generalize hn:ps.length = n
 induction n generalizing ps with
 | zero =>
  intro _
  have:ps = []:=List.length_eq_zero_iff.mp hn
  subst this
  exact ⟨List.nodup_nil,fun p hp=>by simp [grp] at hp,Nat.zero_le _⟩
 | succ n ih =>
  intro h
  obtain ⟨qs,p,rfl⟩:∃ qs p,ps = qs ++ [p]:=⟨ps.dropLast,ps.getLast (by intro z; rw [z] at hn; simp at hn),(List.dropLast_concat_getLast _).symm⟩
  rw [grp_snoc]
  have hp:=h p (by simp)
  exact (ih qs (by simp at hn; exact hn) fun q hq=>h q (by simp [hq])).add hp.1 hp.2
def rowsOf (g:List (List Int × List Row)) (k:List Int):List Row:=((g.find? fun p=>decide (p.1 = k)).map (·.2)).getD []
theorem rows_at {g:List (List Int × List Row)} {k:List Int} (h:k ∈ g.map (·.1)):∃ p ∈ g,p.1 = k /\ rowsOf g k = p.2 /\ findA (embV g) (kI k) = some (.lst (p.2.map rowD)):=by
 induction g with
 | nil=>simp at h
 | cons q t ih =>
  by_cases e:q.1 = k
  ·refine ⟨q,List.mem_cons_self,e,?_,?_⟩
   ·unfold rowsOf
    rw [List.find?_cons_of_pos (by simpa using e)]
    rfl
   ·unfold findA embV
    rw [List.map_cons,List.find?_cons_of_pos (by simpa [kI_eq] using e)]
    rfl
  ·have h':k ∈ t.map (·.1):=by
    rw [List.map_cons] at h
    rcases List.mem_cons.mp h with h | h
    ·exact absurd h.symm e
    ·exact h
   obtain ⟨p,h1,h2,h3,h4⟩:=ih h'
   refine ⟨p,List.mem_cons_of_mem _ h1,h2,?_,?_⟩
   ·unfold rowsOf at h3 ⊢
    rw [List.find?_cons_of_neg (by simpa using e)]
    exact h3
   ·unfold findA embV at h4 ⊢
    rw [List.map_cons,List.find?_cons_of_neg (by simpa [kI_eq] using e)]
    exact h4
def sortI (ks:List (List Int)):List (List Int):=if ks.length < 2 then ks else (kRun (fun i j=>lexI ((ks.map kI).getD i []) ((ks.map kI).getD j [])) (PySem.W.kas_sort ks.length)).toList.map fun i=>ks.getD i []
theorem getD_kI (ks:List (List Int)) (i:Nat):(ks.map kI).getD i [] = kI (ks.getD i []):=by
 rw [List.getD_eq_getElem?_getD,List.getD_eq_getElem?_getD,List.getElem?_map]
 cases ks[i]? <;> rfl
theorem srtK_kI (ks:List (List Int)):srtK (ks.map kI) = (sortI ks).map kI:=by
 unfold srtK sortI
 rw [List.length_map]
 split
 ·rfl
 ·rw [List.map_map]
  apply List.map_congr_left
  intro i _
  exact getD_kI ks i
theorem sortI_perm (ks:List (List Int)):(sortI ks).Perm ks:=by
 unfold sortI
 split
 ·exact List.Perm.refl _
 ·exact pick_perm (KGood.end _ _ (good_sort (by omega)))
def cellD (c:List Int × Row):D:=.tup [intsT c.1,rowD c.2]
def partsL (m:Nat) (ps:List (List Int × Row)):List (List Int × Row):=(sortI ((grp ps).map (·.1))).map fun k=>(k,sums (rowsOf (grp ps) k) m)
def triedR (r:Row):Prop:=∃ c ∈ r,0 < c.1
theorem sum_ge {ns:List Int} (h:∀ n ∈ ns,0 <= n):∀ x ∈ ns,x <= ns.sum /\ 0 <= ns.sum:=by
 induction ns with
 | nil=>intro x hx; simp at hx
 | cons a r ih =>
  intro x hx
  have h0:=h a List.mem_cons_self
  have hr:0 <= r.sum:=by
   cases r with
   | nil=>simp
   | cons b t=>exact (ih (fun n hn=>h n (List.mem_cons_of_mem _ hn)) b List.mem_cons_self).2
  rw [List.sum_cons]
  rcases List.mem_cons.mp hx with rfl | hx
  ·omega
  ·have:=(ih (fun n hn=>h n (List.mem_cons_of_mem _ hn)) x hx).1
   omega
theorem tried_sums {n m:Nat} {rows:List Row} (ho:∀ r ∈ rows,RowN n m r) (hne:rows ≠ []) (ht:∀ r ∈ rows,triedR r):triedR (sums rows m):=by
 cases rows with
 | nil=>exact absurd rfl hne
 | cons r0 rs =>
  obtain ⟨c,hc,hpos⟩:=ht r0 List.mem_cons_self
  obtain ⟨h,hh⟩:=List.getElem?_of_mem hc
  have hm:h < m:=by
   have:=(List.getElem?_eq_some_iff.mp hh).1
   rw [(ho r0 List.mem_cons_self).1] at this
   exact this
  refine ⟨sumP (col (r0 :: rs) h),List.mem_map.mpr ⟨h,List.mem_range.mpr hm,rfl⟩,?_⟩
  have e:at_ r0 h = c:=by
   unfold at_
   rw [List.getD_eq_getElem?_getD,hh]
   rfl
  have hin:c.1 ∈ (col (r0 :: rs) h).map (·.1):=List.mem_map.mpr ⟨c,List.mem_map.mpr ⟨r0,List.mem_cons_self,e⟩,rfl⟩
  have hall:∀ x ∈ (col (r0 :: rs) h).map (·.1),0 <= x:=fun x hx=>by
   obtain ⟨d,hd,rfl⟩:=List.mem_map.mp hx
   obtain ⟨r,hr,rfl⟩:=List.mem_map.mp hd
   have:=(at_get (ho r hr) hm).2
   have h1:=this.lo
   have h2:=this.hi
   omega
  have:=(sum_ge hall _ hin).1
  unfold sumP
  dsimp only
  omega
theorem fz_val (ds:List D):fzOs (ds.map O.val) = ds:=by
 induction ds with
 | nil=>rfl
 | cons d r ih=>simp only [List.map_cons,fzOs,fzO,ih]
theorem fz_dl (g:List (List Int × List Row)):fzO (dlO (emb g)) = .dT ((embV g).map (·.1)) ((embV g).map (·.2)):=by
 unfold dlO emb embV
 simp only [fzO]
 refine congr (congrArg D.dT ?_) ?_
 ·rw [List.map_map,List.map_map]
  rfl
 ·rw [fzOs_map,List.map_map,List.map_map,List.map_map]
  apply List.map_congr_left
  intro p _
  simp only [Function.comp,fzO,fz_val]
theorem keys_ne {l:Nat} {ks:List (List Int)} (nd:ks.Nodup) (hl:∀ k ∈ ks,k.length = l) (h2:2 <= ks.length):∀ k ∈ ks,k ≠ []:=by
 intro k hk z
 subst z
 have l0:l = 0:=(hl [] hk).symm
 subst l0
 match ks,nd,hl,h2 with
 | a :: b :: r,nd,hl,_ =>
  have ha:a = []:=List.length_eq_zero_iff.mp (hl a (by simp))
  have hb:b = []:=List.length_eq_zero_iff.mp (hl b (by simp))
  subst ha hb
  simp at nd
 | [_],_,_,h2=>simp at h2
 | [],_,_,h2=>simp at h2
def ltI:List Int -> List Int -> Bool
 | [],[]=>false
 | [],_ :: _=>true
 | _ :: _,[]=>false
 | a :: r,b :: r'=>if a = b then ltI r r' else decide (a < b)
theorem lexI_kI:∀ a b:List Int,lexI (kI a) (kI b) = ltI a b
 | [],[]=>rfl
 | [],_ :: _=>rfl
 | _ :: _,[]=>rfl
 | a :: r,b :: r'=>by
  show (if a = b then lexI (kI r) (kI r') else decide (a < b)) = if a = b then ltI r r' else decide (a < b)
  rw [lexI_kI r r']
theorem ltI_irr:∀ a:List Int,ltI a a = false
 | []=>rfl
 | a :: r=>by
  show (if a = a then ltI r r else _) = _
  rw [if_pos rfl]
  exact ltI_irr r
theorem ltI_tr:∀ a b c:List Int,ltI a b = true -> ltI b c = true -> ltI a c = true
 | [],[],_,h,_=>by cases h
 | [],_ :: _,[],_,h=>by cases h
 | [],_ :: _,_ :: _,_,_=>rfl
 | _ :: _,[],_,h,_=>by cases h
 | _ :: _,_ :: _,[],_,h=>by cases h
 | a :: r,b :: s,c :: t,h1,h2=>by
  unfold ltI at h1 h2 ⊢
  by_cases e1:a = b
  ·rw [if_pos e1] at h1
   subst e1
   by_cases e2:a = c
   ·rw [if_pos e2] at h2 ⊢
    exact ltI_tr r s t h1 h2
   ·rw [if_neg e2] at h2 ⊢
    exact h2
  ·rw [if_neg e1] at h1
   have h1:=of_decide_eq_true h1
   by_cases e2:b = c
   ·subst e2
    rw [if_neg e1]
    exact decide_eq_true h1
   ·rw [if_neg e2] at h2
    have h2:=of_decide_eq_true h2
    rw [if_neg (by omega)]
    exact decide_eq_true (by omega)
theorem ltI_as {a b:List Int} (h:ltI a b = true):ltI b a = false:=by
 cases e:ltI b a with
 | false=>rfl
 | true =>
  have:=ltI_tr a b a h e
  rw [ltI_irr] at this
  cases this
theorem ltI_to:∀ a b:List Int,a ≠ b -> ltI a b = false -> ltI b a = true
 | [],[],h,_=>absurd rfl h
 | [],_ :: _,_,h=>by cases h
 | _ :: _,[],_,_=>rfl
 | a :: r,b :: s,h,e=>by
  unfold ltI at e ⊢
  by_cases z:a = b
  ·subst z
   rw [if_pos rfl] at e ⊢
   exact ltI_to r s (fun z=>h (by rw [z])) e
  ·rw [if_neg z] at e
   rw [if_neg (Ne.symm z)]
   have:=of_decide_eq_false e
   exact decide_eq_true (by omega)
theorem sortI_up {ks:List (List Int)} (nd:ks.Nodup):(sortI ks).Pairwise fun a b=>ltI a b = true:=by
 unfold sortI
 by_cases h:ks.length < 2
 ·rw [if_pos h]
  match ks,h with
  | [],_=>exact .nil
  | [_],_=>exact List.pairwise_singleton _ _
 ·rw [if_neg h]
  have gd:∀ i,i < ks.length -> ks[i]? = some (ks.getD i []):=fun i hi=>by simp [hi]
  have O:StrO ks.length (fun i j=>lexI ((ks.map kI).getD i []) ((ks.map kI).getD j [])):=by
   refine ⟨fun i j k _ _ _ h1 h2=>?_,fun i j _ _ h1=>?_,fun i j hi hj e h1=>?_⟩
   ·simp only [getD_kI,lexI_kI] at *
    exact ltI_tr _ _ _ h1 h2
   ·simp only [getD_kI,lexI_kI] at *
    exact ltI_as h1
   ·simp only [getD_kI,lexI_kI] at *
    refine ltI_to _ _ (fun z=>e ?_) h1
    have e1:ks.getD i [] = ks[i]:=by simp [hi]
    have e2:ks.getD j [] = ks[j]:=by simp [hj]
    rw [e1,e2] at z
    exact (List.getElem_inj nd).mp z
  have pm:=KGood.end (fun i j=>lexI ((ks.map kI).getD i []) ((ks.map kI).getD j [])) _ (good_sort (N:=ks.length) (by omega))
  have as:=run_sort O (by omega)
  have sz:=pm.size
  generalize kRun (fun i j=>lexI ((ks.map kI).getD i []) ((ks.map kI).getD j [])) (PySem.W.kas_sort ks.length) = p at pm as sz
  rw [List.pairwise_map,List.pairwise_iff_getElem]
  intro i j hi hj hij
  have:=as i j hij (by rw [Array.length_toList] at hj; omega)
  simp only [getD_kI,lexI_kI] at this
  rw [Array.length_toList] at hi hj
  have e1:p.getD i 0 = p[i]:=by simp [Array.getD,hi]
  have e2:p.getD j 0 = p[j]:=by simp [Array.getD,hj]
  rw [e1,e2] at this
  simpa using this
theorem up_eq:∀ {xs ys:List (List Int)},xs.Pairwise (fun a b=>ltI a b = true) -> ys.Pairwise (fun a b=>ltI a b = true) -> (∀ k,k ∈ xs ↔ k ∈ ys) -> xs = ys
 | [],[],_,_,_=>rfl
 | [],y :: ys,_,_,h=>absurd ((h y).mpr List.mem_cons_self) (by simp)
 | x :: xs,[],_,_,h=>absurd ((h x).mp List.mem_cons_self) (by simp)
 | x :: xs,y :: ys,hx,hy,h=>by
  obtain ⟨hx1,hx2⟩:=List.pairwise_cons.mp hx
  obtain ⟨hy1,hy2⟩:=List.pairwise_cons.mp hy
  have exy:x = y:=by
   rcases List.mem_cons.mp ((h x).mp List.mem_cons_self) with e | e
   ·exact e
   ·rcases List.mem_cons.mp ((h y).mpr List.mem_cons_self) with e' | e'
    ·exact e'.symm
    ·have a:=hy1 x e
     have b:=hx1 y e'
     rw [ltI_as a] at b
     cases b
  subst exy
  have ni:∀ {zs:List (List Int)},(∀ z ∈ zs,ltI x z = true) -> x ∉ zs:=fun hz m=>by
   have:=hz x m
   rw [ltI_irr] at this
   cases this
  rw [up_eq hx2 hy2 fun k=>⟨fun hk=>?_,fun hk=>?_⟩]
  ·rcases List.mem_cons.mp ((h k).mp (List.mem_cons_of_mem _ hk)) with rfl | e
   ·exact absurd hk (ni hx1)
   ·exact e
  ·rcases List.mem_cons.mp ((h k).mpr (List.mem_cons_of_mem _ hk)) with rfl | e
   ·exact absurd hk (ni hy1)
   ·exact e
theorem grp_nd (ps:List (List Int × Row)):((grp ps).map (·.1)).Nodup:=(grp_ok (C:=fun _=>True) (R:=fun _=>True) ps fun _ _=>⟨trivial,trivial⟩).nd
theorem find_add (k:List Int) (r:Row) (k':List Int):∀ g:List (List Int × List Row),rowsOf (addG k r g) k' = if k = k' then rowsOf g k' ++ [r] else rowsOf g k'
 | []=>by
  unfold addG rowsOf
  by_cases e:k = k'
  ·rw [if_pos e,List.find?_cons_of_pos (by simpa using e)]
   rfl
  ·rw [if_neg e,List.find?_cons_of_neg (by simpa using e)]
 | p :: t=>by
  have ih:=find_add k r k' t
  unfold addG
  unfold rowsOf at ih ⊢
  by_cases e:p.1 = k
  ·rw [if_pos e]
   by_cases e2:k = k'
   ·rw [if_pos e2,List.find?_cons_of_pos (by simp [e,e2]),List.find?_cons_of_pos (by simp [e,e2])]
    rfl
   ·rw [if_neg e2,List.find?_cons_of_neg (by simp [e,e2]),List.find?_cons_of_neg (by simp [e,e2])]
  ·rw [if_neg e]
   by_cases e2:p.1 = k'
   ·rw [List.find?_cons_of_pos (by simpa using e2),List.find?_cons_of_pos (by simpa using e2),if_neg (fun z=>e (by rw [e2,z]))]
   ·rw [List.find?_cons_of_neg (by simpa using e2),List.find?_cons_of_neg (by simpa using e2)]
    exact ih
theorem rowsOf_grp (ps:List (List Int × Row)) (k:List Int):rowsOf (grp ps) k = (ps.filter fun p=>decide (p.1 = k)).map (·.2):=by
 have key:∀ (qs:List (List Int × Row)) g,rowsOf (qs.foldl (fun g (p:List Int × Row)=>addG p.1 p.2 g) g) k = rowsOf g k ++ (qs.filter fun p=>decide (p.1 = k)).map (·.2):=by
  intro qs
  induction qs with
  | nil=>intro g; simp
  | cons q t ih =>
   intro g
   rw [List.foldl_cons,ih,find_add]
   by_cases e:q.1 = k
   ·rw [if_pos e,List.filter_cons_of_pos (by simpa using e),List.map_cons,List.append_assoc]
    rfl
   ·rw [if_neg e,List.filter_cons_of_neg (by simpa using e)]
 rw [grp,key]
 rfl
theorem mem_grp (ps:List (List Int × Row)) (k:List Int):k ∈ (grp ps).map (·.1) ↔ k ∈ ps.map (·.1):=by
 have key:∀ (qs:List (List Int × Row)) g,k ∈ (qs.foldl (fun g (p:List Int × Row)=>addG p.1 p.2 g) g).map (·.1) ↔ k ∈ g.map (·.1) ∨ k ∈ qs.map (·.1):=by
  intro qs
  induction qs with
  | nil=>intro g; simp
  | cons q t ih =>
   intro g
   rw [List.foldl_cons,ih,keys_add,List.map_cons,List.mem_cons]
   by_cases m:q.1 ∈ g.map (·.1)
   ·rw [if_pos m]
    constructor
    ·rintro (h | h)
     ·exact .inl h
     ·exact .inr (.inr h)
    ·rintro (h | h | h)
     ·exact .inl h
     ·exact .inl (h ▸ m)
     ·exact .inr h
   ·rw [if_neg m,List.mem_append,List.mem_singleton]
    constructor
    ·rintro ((h | h) | h)
     ·exact .inl h
     ·exact .inr (.inl h)
     ·exact .inr (.inr h)
    ·rintro (h | h | h)
     ·exact .inl (.inl h)
     ·exact .inl (.inr h)
     ·exact .inr h
 rw [grp,key]
 simp
def gTried:DSp:=fun ds Q=>match ds with
 | [.tup xs]=>∃ r:Row,xs = r.map pairD /\ r.length <= 1000 /\ triedR r /\ Q (.bl true)
 | _=>False
theorem m_is_tried:MonoS gTried:=fun ds P P' f h=>by
 unfold gTried at h ⊢
 split at h
 ·obtain ⟨r,a,b,c,h⟩:=h
  exact ⟨r,a,b,c,f _ h⟩
 ·exact h.elim
theorem g_is_tried (T:Tx K mg):FnOk P w K mg base CX0 1 T.f_is_tried T.fd_is_tried ["counts"] (spD K 1 gTried):=by
 refine fnD (k:=0) T.d_is_tried.F sc_is_tried (fun cdv A outer s H E hr=>(dss_one (ds_ret (de_callB cd_any rfl T.z_any PyProof.Rows.boot_any (da_cons (de_frz (PCD.pld (dl_comp (N':=["count"]) rfl rfl (by decide +kernel) rfl (.own .nil) (by decide +kernel) (di_tup (de_var 0 (pv 0))) (fun B=>(dg_name (i:=0) (show List.Nodup (α:=PySem.Str) ["count"] by decide +kernel) rfl (by first | exact Or.inl rfl | exact Or.inr rfl))) (fun B=>dts_nil) (fun B=>(de_cmp od_gt (de_ix (de_var 0 (pv 0)) de_int (fun _ _=>rfl)) de_int (nomark _)))))) da_nil))))) (fun ds Q hl h=>?_)
 unfold gTried at h
 split at h
 case h_2=>exact h.elim
 obtain ⟨r,rfl,hl,ht,h⟩:=h
 refine dColl_map (fun d=>match d with | .tup (.int t :: _)=>.bl (decide (0 < t)) | _=>.non) (fun ρ=>∃ s,ρ = [s]) (by rw [List.length_map]; exact Nat.le_trans hl (by decide)) (fun d hd ρ Y Z hN hY=>?_) _ ⟨_,rfl⟩ ?_
 ·obtain ⟨s,rfl⟩:=hN
  obtain ⟨c,_,rfl⟩:=List.mem_map.mp hd
  exact Br.t (hY _ ⟨_,rfl⟩)
 ·have e:(r.map pairD).map (fun d=>match d with | .tup (.int t :: _)=>D.bl (decide (0 < t)) | _=>.non) = (r.map fun c=>decide (0 < c.1)).map D.bl:=by
   rw [List.map_map,List.map_map]
   rfl
  rw [e]
  refine gTru_of ?_
  have:(r.map fun c=>decide (0 < c.1)).any id = true:=by
   obtain ⟨c,hc,hp⟩:=ht
   exact List.any_eq_true.mpr ⟨true,List.mem_map.mpr ⟨c,hc,by simpa using hp⟩,rfl⟩
  rw [this]
  exact h
def gGath:DSp:=fun ds Q=>match ds with
 | [.int m,.lst xs]=>∃ (n:Nat) (ps:List (List Int × Row)) (l:Nat),m = n /\ xs = ps.map cellD /\ (n <= 6 /\ ps.length <= 60 /\ ∀ p ∈ ps,p.1.length = l /\ RowN 110 n p.2 /\ triedR p.2) /\ Q (.lst ((partsL n ps).map cellD))
 | _=>False
theorem m_gathered:MonoS gGath:=fun ds P P' f h=>by
 unfold gGath at h ⊢
 split at h
 ·obtain ⟨n,ps,l,a,b,c,h⟩:=h
  exact ⟨n,ps,l,a,b,c,f _ h⟩
 ·exact h.elim
theorem g_gathered (T:Tx K mg):FnOk P w K mg base CX0 3 T.f_gathered T.fd_gathered ["many","pairs"] (spD K 2 gGath):=by
 refine fnD (k:=2) T.d_gathered.F sc_gathered (fun cdv A outer s H E hr=>(dss_cons (ds_newD (i:=2) sc_gathered.nd rfl (by first | exact Or.inl rfl | exact Or.inr rfl))
   (dss_mid (ds_for PassesOwn.never rfl (di_list (de_var 1 (pv 1))) (dg_tup (n:=2) rfl (dgs_cons (dg_name (i:=3) sc_gathered.nd rfl (by first | exact Or.inl rfl | exact Or.inr rfl)) (dgs_cons (dg_name (i:=4) sc_gathered.nd rfl (by first | exact Or.inl rfl | exact Or.inr rfl)) dgs_nil))) (dss_one (ds_sda hr (pv 2) (pv 3) (pv 4))))
   (dss_cons (ds_setC (i:=5) sc_gathered.nd rfl rfl (dl_comp (N':=["kinds","many","found"]) rfl rfl (by decide +kernel) rfl (.own (.cap (j:=0) rfl (by first | exact Or.inl rfl | exact Or.inr rfl) rfl (.cap (j:=2) rfl (by first | exact Or.inl rfl | exact Or.inr rfl) rfl .nil))) (by decide +kernel) (di_list (de_callB cd_sortT rfl T.z_sorted (by decide +kernel) (da_cons (de_var 2 (pv 2)) da_nil))) (fun B=>(dg_name (i:=0) (show List.Nodup (α:=PySem.Str) ["kinds","many","found"] by decide +kernel) rfl (by first | exact Or.inl rfl | exact Or.inr rfl))) (fun B=>dts_nil) (fun B=>(de_tup (da_cons (de_var 0 (pv 0)) (da_cons (de_call (g_together_by_house T) m_together_by_house (hr.mono (by decide)) rfl T.d_together_by_house.m T.d_together_by_house.F.kp T.d_together_by_house.b (da_cons (de_var 1 (pv 1)) (da_cons (de_ixT hr (de_var 2 (pv 2)) (de_var 0 (pv 0)) (fun _ _=>rfl)) da_nil))) da_nil))))))
   (dss_one (ds_ret (de_frz (PCD.pld (dl_comp (N':=["cell"]) rfl rfl (by decide +kernel) rfl (.own .nil) (by decide +kernel) (di_list (de_var 5 (pv 5))) (fun B=>(dg_name (i:=0) (show List.Nodup (α:=PySem.Str) ["cell"] by decide +kernel) rfl (by first | exact Or.inl rfl | exact Or.inr rfl))) (fun B=>(dts_one (dt_val (de_call (g_is_tried T) m_is_tried (hr.mono (by decide)) rfl T.d_is_tried.m T.d_is_tried.F.kp T.d_is_tried.b (da_cons (de_ix (de_var 0 (pv 0)) de_int (fun _ _=>rfl)) da_nil))))) (fun B=>(de_var 0 (pv 0)))))))))))) (fun ds Q hl h=>?_)
 unfold gGath at h
 split at h
 case h_2=>exact h.elim
 obtain ⟨n,ps,l,rfl,rfl,⟨n6,p60,hps⟩,h⟩:=h
 have gok:∀ qs:List (List Int × Row),(∀ p ∈ qs,p ∈ ps) -> GOk (fun k=>k.length = l) (fun r=>RowN 110 n r /\ triedR r) qs.length (grp qs):=fun qs hq=>grp_ok qs fun p hp=>⟨(hps p (hq p hp)).1,(hps p (hq p hp)).2⟩
 refine ⟨fun ρ=>∃ a b:Sl,ρ = [.val (.int n),.val (.lst (ps.map cellD)),.obj (dlO (emb (grp ps))),a,b,.nil],?_,?_⟩
 ·refine dLoop_pre (fun pre ρ=>∃ p0 p1:List (List Int × Row),ps = p0 ++ p1 /\ pre = p0.map cellD /\ ∃ a b:Sl,ρ = [.val (.int n),.val (.lst (ps.map cellD)),.obj (dlO (emb (grp p0))),a,b,.nil]) (fun ρ hN=>?_) (fun pre d post ρ X e hN hX=>?_) _ ⟨[],ps,rfl,rfl,_,_,rfl⟩
  ·obtain ⟨p0,p1,rfl,e,a,b,rfl⟩:=hN
   have:p1 = []:=by
    have:=congrArg List.length e
    simp at this
    exact this
   subst this
   rw [List.append_nil]
   exact ⟨a,b,rfl⟩
  ·obtain ⟨p0,p1,rfl,rfl,a,b,rfl⟩:=hN
   rw [List.map_append] at e
   have e:=List.append_cancel_left e
   cases p1 with
   | nil=>simp at e
   | cons p p1 =>
    rw [List.map_cons] at e
    injection e with e1 e2
    subst e1
    have go:=gok p0 fun q hq=>by simp [hq]
    have pl:p0.length <= 60:=by rw [List.length_append] at p60; omega
    refine ⟨rfl,emb (grp p0),kI p.1,rowD p.2,rfl,?_,rfl,?_,fun q hq=>?_,hX _ ⟨p0 ++ [p],p1,by simp,by simp,_,_,by rw [emb_add,← grp_snoc]; rfl⟩⟩
    ·show Sl.val (intsT p.1) = _
     rw [keyD_kI]
    ·unfold emb
     rw [List.length_map]
     exact Nat.lt_of_le_of_lt (show (grp p0).length <= 60 from Nat.le_trans go.len pl) (by decide)
    ·obtain ⟨q',hq',rfl⟩:=List.mem_map.mp hq
     rw [List.length_map]
     exact Nat.lt_of_le_of_lt (show q'.2.length <= 60 from Nat.le_trans (go.it q' hq').2.2.1 pl) (by decide)
 ·rintro _ ⟨a,b,rfl⟩
  have go:=gok ps fun q hq=>hq
  have hk:(emb (grp ps)).map (·.1) = ((grp ps).map (·.1)).map kI:=by unfold emb; rw [List.map_map,List.map_map]; rfl
  have kl:((grp ps).map (·.1)).length <= 60:=by rw [List.length_map]; exact Nat.le_trans go.len p60
  have kln:∀ k ∈ (grp ps).map (·.1),k.length = l:=fun k hk=>by
   obtain ⟨p,hp,rfl⟩:=List.mem_map.mp hk
   exact (go.it p hp).1
  have sl:(sortI ((grp ps).map (·.1))).length <= 60:=by rw [(sortI_perm _).length_eq]; exact kl
  refine ⟨⟨fun k hk'=>?_,fun h2 k hk'=>?_,?_⟩,?_⟩
  ·rw [hk] at hk'
   obtain ⟨k',_,rfl⟩:=List.mem_map.mp hk'
   exact onlyI_kI k'
  ·rw [hk] at h2 hk'
   rw [List.length_map] at h2
   obtain ⟨k',hk2,rfl⟩:=List.mem_map.mp hk'
   intro z
   exact keys_ne go.nd kln h2 k' hk2 (kI_inj (b:=[]) z)
  ·rw [hk,List.length_map]
   omega
  ·have e1:(srtK ((emb (grp ps)).map (·.1))).map keyD = (sortI ((grp ps).map (·.1))).map intsT:=by
    rw [hk,srtK_kI,List.map_map]
    apply List.map_congr_left
    intro k _
    exact (keyD_kI k).symm
   show dColl _ _ _ ((srtK ((emb (grp ps)).map (·.1))).map keyD) _ _ _
   rw [e1]
   refine dColl_pre (fun pre acc ρ=>∃ k0 k1:List (List Int),sortI ((grp ps).map (·.1)) = k0 ++ k1 /\ pre = k0.map intsT /\ acc = (k0.map fun k=>(k,sums (rowsOf (grp ps) k) n)).map cellD /\ ∃ s:Sl,ρ = [s,.val (.int n),.val (fzO (dlO (emb (grp ps))))]) (fun acc ρ hN=>?_) (fun pre d post acc ρ Y e hN hY=>?_) _ ⟨[],_,rfl,rfl,rfl,_,rfl⟩
   ·obtain ⟨k0,k1,e,e2,rfl,s,rfl⟩:=hN
    have:k1 = []:=by
     have:=congrArg List.length e2
     rw [e] at this
     simp at this
     exact this
    subst this
    rw [List.append_nil] at e
    rw [← e]
    have epl:((sortI ((grp ps).map (·.1))).map fun k=>(k,sums (rowsOf (grp ps) k) n)) = partsL n ps:=rfl
    rw [epl]
    have pll:(partsL n ps).length <= 60:=by unfold partsL; rw [List.length_map]; exact sl
    refine dColl_pre (fun pre acc ρ=>∃ c0 c1:List (List Int × Row),partsL n ps = c0 ++ c1 /\ pre = c0.map cellD /\ acc = c0.map cellD /\ ∃ s:Sl,ρ = [s]) (fun acc ρ hN=>?_) (fun pre d post acc ρ Y e hN hY=>?_) _ ⟨[],_,rfl,rfl,rfl,_,rfl⟩
    ·obtain ⟨c0,c1,e3,e4,rfl,s,rfl⟩:=hN
     rw [← e4]
     exact h
    ·obtain ⟨c0,c1,e3,rfl,rfl,s,rfl⟩:=hN
     rw [e3,List.map_append] at e
     have e:=List.append_cancel_left e
     cases c1 with
     | nil=>simp at e
     | cons c c1 =>
      rw [List.map_cons] at e
      injection e with e1 e2
      subst e1
      have hc:c ∈ partsL n ps:=by rw [e3]; simp
      obtain ⟨k,hk',rfl⟩:=List.mem_map.mp hc
      obtain ⟨p,hp,_,h3,_⟩:=rows_at ((sortI_perm _).mem_iff.mp hk')
      have gp:=go.it p hp
      rw [e3,List.length_append] at pll
      refine ⟨rfl,sums (rowsOf (grp ps) k) n,rfl,?_,?_,Br.t ⟨?_,hY _ _ ⟨c0 ++ [(k,sums (rowsOf (grp ps) k) n)],c1,by rw [e3]; simp,by simp,by simp,_,rfl⟩⟩⟩
      ·unfold sums
       rw [List.length_map,List.length_range]
       omega
      ·rw [h3]
       exact tried_sums (n:=110) (fun r hr=>(gp.2.2.2 r hr).1) gp.2.1 fun r hr=>(gp.2.2.2 r hr).2
      ·rw [List.length_map]
       exact Nat.lt_of_le_of_lt (show c0.length <= 60 by omega) (by decide)
   ·obtain ⟨k0,k1,e3,rfl,rfl,s,rfl⟩:=hN
    rw [e3,List.map_append] at e
    have e:=List.append_cancel_left e
    cases k1 with
    | nil=>simp at e
    | cons k k1 =>
     rw [List.map_cons] at e
     injection e with e1 e2
     subst e1
     have hk':k ∈ sortI ((grp ps).map (·.1)):=by rw [e3]; simp
     obtain ⟨p,hp,_,h3,h4⟩:=rows_at ((sortI_perm _).mem_iff.mp hk')
     have gp:=go.it p hp
     rw [e3,List.length_append] at sl
     refine Br.t ⟨embV (grp ps),kI k,.lst (p.2.map rowD),fz_dl _,keyD_kI k,h4,rfl,n,p.2,rfl,rfl,⟨n6,Nat.le_trans gp.2.2.1 (by omega),fun r hr=>(gp.2.2.2 r hr).1.up⟩,sz,?_,hY _ _ ⟨k0 ++ [k],k1,by rw [e3]; simp,by simp,by rw [List.map_append,List.map_append,← h3]; rfl,_,rfl⟩⟩
     rw [List.length_map,List.length_map]
     exact Nat.lt_of_le_of_lt (show k0.length <= 60 by omega) (by decide)
structure Bk where
 m:Nat
 marks:List Int
 cells:List (List Int × Row)
def bookD (b:Bk):D:=.tup [.int b.m,intsT b.marks,.tup (b.cells.map cellD)]
structure BkOk (b:Bk):Prop where
 m2:2 <= b.m
 m6:b.m <= 6
 mk5:b.marks.length <= 5
 c60:b.cells.length <= 60
 it:∀ c ∈ b.cells,c.1.length = b.marks.length /\ RowN 110 b.m c.2 /\ triedR c.2
structure SoOk (b:Bk) (so:List Int):Prop where
 it:∀ x ∈ so,0 <= x /\ x < b.marks.length
 nd:so.Nodup
 len:so.length <= 5
theorem SoOk.take {b:Bk} {so:List Int} (h:SoOk b so) (n:Nat):SoOk b (so.take n) :=
 ⟨fun x hx=>h.it x (List.mem_of_mem_take hx),h.nd.sublist (List.take_sublist _ _),Nat.le_trans (by rw [List.length_take]; exact Nat.min_le_right _ _) h.len⟩
def vals (ks so:List Int):List Int:=so.map fun x=>ks.getD x.toNat 0
def partsB (b:Bk) (so:List Int):List (List Int × Row):=partsL b.m (b.cells.map fun c=>(vals c.1 so,c.2))
theorem coll_vals {ks so:List Int} (hb:∀ x ∈ so,0 <= x /\ x < ks.length) (hl:so.length <= 1000) {s:Sl} {Q:List D -> Prop} (q:Q ((vals ks so).map D.int)) :
  dColl (dgName 0) dNoTest (dOp gIx (dVar 1) (dVar 0)) (so.map D.int) [] [s,.val (intsT ks)] Q:=by
 refine dColl_map (fun d=>match d with | .int i=>.int (ks.getD i.toNat 0) | _=>.non) (fun ρ=>∃ s,ρ = [s,.val (intsT ks)]) (by rw [List.length_map]; exact Nat.le_trans hl (by decide)) (fun d hd ρ Y Z hN hY=>?_) _ ⟨_,rfl⟩ ?_
 ·obtain ⟨s,rfl⟩:=hN
  obtain ⟨x,hx,rfl⟩:=List.mem_map.mp hd
  obtain ⟨h0,h1⟩:=hb x hx
  refine Br.t (opt_at (d:=.int (ks.getD x.toNat 0)) h0 ?_ (hY _ ⟨_,rfl⟩))
  rw [List.getElem?_map,List.getD_eq_getElem?_getD]
  have:x.toNat < ks.length:=by omega
  simp [this]
 ·unfold vals at q
  rw [List.map_map] at q ⊢
  exact q
def gVals:DSp:=fun ds Q=>∃ ks so:List Int,ds = [intsT ks,intsT so] /\ (∀ x ∈ so,0 <= x /\ x < ks.length) /\ so.length <= 1000 /\ Q (intsT (vals ks so))
theorem m_values_by:MonoS gVals:=fun ds P P' f ⟨ks,so,a,b,c,h⟩=>⟨ks,so,a,b,c,f _ h⟩
theorem g_values_by (T:Tx K mg):FnOk P w K mg base CX0 1 T.f_values_by T.fd_values_by ["kinds","some"] (spD K 2 gVals):=by
 refine fnD (k:=0) T.d_values_by.F sc_values_by (fun cdv A outer s H E hr=>(dss_one (ds_ret (de_callTy cd_tuple rfl T.z_tuple rfl (da_cons (de_frz (PCD.pld (dl_comp (N':=["mark","kinds"]) rfl rfl (by decide +kernel) rfl (.own (.cap (j:=0) rfl (by first | exact Or.inl rfl | exact Or.inr rfl) rfl .nil)) (by decide +kernel) (di_tup (de_var 1 (pv 1))) (fun B=>(dg_name (i:=0) (show List.Nodup (α:=PySem.Str) ["mark","kinds"] by decide +kernel) rfl (by first | exact Or.inl rfl | exact Or.inr rfl))) (fun B=>dts_nil) (fun B=>(de_ix (de_var 1 (pv 1)) (de_var 0 (pv 0)) (fun _ _=>rfl)))))) da_nil))))) (fun ds Q hl h=>?_)
 obtain ⟨ks,so,rfl,h1,h2,h⟩:=h
 exact coll_vals h1 h2 h
def gChM:DSp:=fun ds Q=>∃ (b:Bk) (x:Int),ds = [bookD b,.int x] /\ (0 <= x /\ x < b.marks.length) /\ b.marks.length <= 5 /\ Q .non
theorem m_check_mark:MonoS gChM:=fun ds P P' f ⟨b,x,a,c,d,h⟩=>⟨b,x,a,c,d,f _ h⟩
theorem g_check_mark (T:Tx K mg):FnOk P w K mg base CX0 3 T.f_check_mark T.fd_check_mark ["book","mark"] (spD K 2 gChM):=by
 refine fnD (k:=2) T.d_check_mark.F sc_check_mark (fun cdv A outer s H E hr=>(dss_one (ds_if (dt_not (dt_val (de_call (g_is_within T) m_is_within (hr.mono (by decide)) rfl T.d_is_within.m T.d_is_within.F.kp T.d_is_within.b (da_cons (de_var 1 (pv 1)) (da_cons de_int (da_cons (de_op od_sub (de_callB cd_len rfl T.z_len PySem.boot_len (da_cons (de_ix (de_var 0 (pv 0)) de_int (fun _ _=>rfl)) da_nil)) de_int) da_nil)))))) (dss_one ds_never) dss_nil))) (fun ds Q hl h=>?_)
 obtain ⟨b,x,rfl,⟨h0,h1⟩,h2,h⟩:=h
 have e:((b.marks.map D.int).length:Int) = b.marks.length:=by rw [List.length_map]
 refine ⟨rfl,⟨h0,?_⟩,Br.f h⟩
 omega
theorem ne_self {d:D} (h:shp d = true) {A B:Prop} (q:B):Br (!eqD d d) A B:=by
 rw [eqD_self h]
 exact Br.f q
theorem ne_to {d e:D} (h:d = e) (s:shp e = true) {A B:Prop} (q:B):Br (!eqD d e) A B:=by rw [h]; exact ne_self s q
theorem shp_to {d e:D} (h:d = e) (s:shp e = true):shp d = true:=by rw [h]; exact s
def gChMs:DSp:=fun ds Q=>∃ (b:Bk) (so:List Int),ds = [bookD b,intsT so] /\ SoOk b so /\ b.marks.length <= 5 /\ Q .non
theorem m_check_marks:MonoS gChMs:=fun ds P P' f ⟨b,so,a,c,d,h⟩=>⟨b,so,a,c,d,f _ h⟩
theorem g_check_marks (T:Tx K mg):FnOk P w K mg base CX0 4 T.f_check_marks T.fd_check_marks ["book","some"] (spD K 2 gChMs):=by
 refine fnD (k:=3) T.d_check_marks.F sc_check_marks (fun cdv A outer s H E hr=>(dss_cons (ds_if (dt_not (dt_val (de_callB cd_is_tuple rfl T.z_isinstance rfl (da_cons (de_var 1 (pv 1)) (da_cons (de_ty (n:="tuple") rfl T.z_tuple rfl) da_nil))))) (dss_one ds_never) dss_nil)
   (dss_mid (ds_for PassesOwn.never rfl (di_tup (de_var 1 (pv 1))) (dg_name (i:=2) sc_check_marks.nd rfl (by first | exact Or.inl rfl | exact Or.inr rfl)) (dss_one (ds_expr (de_call (g_check_mark T) m_check_mark (hr.mono (by decide)) rfl T.d_check_mark.m T.d_check_mark.F.kp T.d_check_mark.b (da_cons (de_var 0 (pv 0)) (da_cons (de_var 2 (pv 2)) da_nil))))))
   (dss_one (ds_if (dt_cmp (od_ne hr) (de_lenset rfl rfl T.z_len rfl T.z_set (de_var 1 (pv 1))) (de_callB cd_len rfl T.z_len PySem.boot_len (da_cons (de_var 1 (pv 1)) da_nil)) (nomark _)) (dss_one ds_never) dss_nil))))) (fun ds Q hl h=>?_)
 obtain ⟨b,so,rfl,o,hm,h⟩:=h
 refine ⟨rfl,rfl,Br.f ?_⟩
 refine ⟨fun ρ=>∃ s:Sl,ρ = [.val (bookD b),.val (intsT so),s],?_,?_⟩
 ·refine dLoop_ind (fun ρ=>∃ s:Sl,ρ = [.val (bookD b),.val (intsT so),s]) (fun ρ h=>h) (fun d hd ρ X hN hX=>?_) _ ⟨_,rfl⟩
  obtain ⟨s,rfl⟩:=hN
  obtain ⟨x,hx,rfl⟩:=List.mem_map.mp hd
  exact ⟨rfl,b,x,rfl,o.it x hx,hm,hX _ ⟨_,rfl⟩⟩
 ·rintro _ ⟨s,rfl⟩
  have e:D.int (distN so:Nat) = D.int ((so.map D.int).length:Nat):=by rw [distN_nodup o.nd,List.length_map]
  exact ⟨so,rfl,Nat.le_trans o.len (by decide),⟨rfl,rfl⟩,ne_to e rfl h⟩
def gParts:DSp:=fun ds Q=>∃ (b:Bk) (so:List Int),ds = [bookD b,intsT so] /\ BkOk b /\ SoOk b so /\ Q (.lst ((partsB b so).map cellD))
theorem m_parts_by:MonoS gParts:=fun ds P P' f ⟨b,so,a,c,d,h⟩=>⟨b,so,a,c,d,f _ h⟩
theorem g_parts_by (T:Tx K mg):FnOk P w K mg base CX0 5 T.f_parts_by T.fd_parts_by ["book","some"] (spD K 2 gParts):=by
 refine fnD (k:=4) T.d_parts_by.F sc_parts_by (fun cdv A outer s H E hr=>(dss_cons (ds_expr (de_call (g_check_marks T) m_check_marks (hr.mono (by decide)) rfl T.d_check_marks.m T.d_check_marks.F.kp T.d_check_marks.b (da_cons (de_var 0 (pv 0)) (da_cons (de_var 1 (pv 1)) da_nil))))
   (dss_one (ds_ret (de_call (g_gathered T) m_gathered (hr.mono (by decide)) rfl T.d_gathered.m T.d_gathered.F.kp T.d_gathered.b (da_cons (de_ix (de_var 0 (pv 0)) de_int (fun _ _=>rfl)) (da_cons (de_frz (PCD.pld (dl_comp (N':=["cell","some"]) rfl rfl (by decide +kernel) rfl (.own (.cap (j:=1) rfl (by first | exact Or.inl rfl | exact Or.inr rfl) rfl .nil)) (by decide +kernel) (di_tup (de_ix (de_var 0 (pv 0)) de_int (fun _ _=>rfl))) (fun B=>(dg_name (i:=0) (show List.Nodup (α:=PySem.Str) ["cell","some"] by decide +kernel) rfl (by first | exact Or.inl rfl | exact Or.inr rfl))) (fun B=>dts_nil) (fun B=>(de_tup (da_cons (de_call (g_values_by T) m_values_by (hr.mono (by decide)) rfl T.d_values_by.m T.d_values_by.F.kp T.d_values_by.b (da_cons (de_ix (de_var 0 (pv 0)) de_int (fun _ _=>rfl)) (da_cons (de_var 1 (pv 1)) da_nil))) (da_cons (de_ix (de_var 0 (pv 0)) de_int (fun _ _=>rfl)) da_nil))))))) da_nil))))))) (fun ds Q hl h=>?_)
 obtain ⟨b,so,rfl,bo,o,h⟩:=h
 unfold partsB at h
 refine ⟨rfl,b,so,rfl,o,bo.mk5,?_⟩
 have c60:=bo.c60
 refine dColl_pre (fun pre acc ρ=>∃ c0 c1:List (List Int × Row),b.cells = c0 ++ c1 /\ pre = c0.map cellD /\ acc = (c0.map fun c=>(vals c.1 so,c.2)).map cellD /\ ∃ s:Sl,ρ = [s,.val (intsT so)]) (fun acc ρ hN=>?_) (fun pre d post acc ρ Y e hN hY=>?_) _ ⟨[],_,rfl,rfl,rfl,_,rfl⟩
 ·obtain ⟨c0,c1,e,e2,rfl,s,rfl⟩:=hN
  have:c1 = []:=by
   have:=congrArg List.length e2
   rw [e] at this
   simp at this
   exact this
  subst this
  rw [List.append_nil] at e
  rw [← e]
  have fin:gGath [.int b.m,.lst ((b.cells.map fun c=>(vals c.1 so,c.2)).map cellD)] Q:=by
   refine ⟨b.m,_,so.length,rfl,rfl,⟨bo.m6,by rw [List.length_map]; exact bo.c60,fun p hp=>?_⟩,h⟩
   obtain ⟨c,hc,rfl⟩:=List.mem_map.mp hp
   exact ⟨by unfold vals; rw [List.length_map],(bo.it c hc).2⟩
  exact ⟨rfl,fin⟩
 ·obtain ⟨c0,c1,e3,rfl,rfl,s,rfl⟩:=hN
  rw [e3,List.map_append] at e
  have e:=List.append_cancel_left e
  cases c1 with
  | nil=>simp at e
  | cons c c1 =>
   rw [List.map_cons] at e
   injection e with e1 e2
   subst e1
   have hc:=bo.it c (by rw [e3]; simp)
   rw [e3,List.length_append] at c60
   refine Br.t ⟨rfl,c.1,so,rfl,fun x hx=>by rw [hc.1]; exact o.it x hx,Nat.le_trans o.len (by decide),sz,?_,hY _ _ ⟨c0 ++ [c],c1,by rw [e3]; simp,by simp,by rw [List.map_append,List.map_append]; rfl,_,rfl⟩⟩
   rw [List.length_map,List.length_map]
   exact Nat.lt_of_le_of_lt (show c0.length <= 60 by omega) (by decide)
def knotsL (b:Bk) (so:List Int) (n:Nat):List (List Int × Row):=(List.range n).flatMap fun l=>partsB b (so.take l)
theorem knots_succ (b:Bk) (so:List Int) (n:Nat):knotsL b so (n + 1) = knotsL b so n ++ partsB b (so.take n):=by
 unfold knotsL
 rw [List.range_succ,List.flatMap_append]
 simp
theorem parts_len {b:Bk} (bo:BkOk b) {so:List Int}:(partsB b so).length <= 60:=by
 unfold partsB partsL
 rw [List.length_map,(sortI_perm _).length_eq,List.length_map]
 have:=(grp_ok (C:=fun _=>True) (R:=fun _=>True) (b.cells.map fun c=>(vals c.1 so,c.2)) fun _ _=>⟨trivial,trivial⟩).len
 rw [List.length_map] at this
 exact Nat.le_trans this bo.c60
theorem knots_len {b:Bk} (bo:BkOk b) {so:List Int}:∀ n,(knotsL b so n).length <= 60 * n
 | 0=>by simp [knotsL]
 | n + 1=>by
  rw [knots_succ,List.length_append]
  have:=knots_len bo (so:=so) n
  have:=parts_len bo (so:=so.take n)
  omega
theorem cut_take {so:List Int} {k:Int} (k0:0 <= k) (k1:k <= so.length):cutD (so.map D.int) none (some k) = (so.take k.toNat).map D.int:=by
 unfold cutD
 have s1:HT.sIx (so.map D.int).length 0 none = 0:=rfl
 have s2:HT.sIx (so.map D.int).length (so.map D.int).length (some k) = k.toNat:=by
  rw [List.length_map]
  have kn:¬ k < 0:=by omega
  unfold HT.sIx
  simp [kn]
  omega
 rw [s1,s2,List.drop_zero,Nat.sub_zero,List.map_take]
def gKnots:DSpN:=fun ds _ L=>∃ (b:Bk) (so:List Int),ds = [bookD b,intsT so] /\ BkOk b /\ SoOk b so /\ L ((knotsL b so (so.length + 1)).map cellD)
theorem mN_knots:MonoN gKnots:=fun ds P P' L L' f fl ⟨b,so,a,c,d,h⟩=>⟨b,so,a,c,d,fl _ h⟩
theorem gN_knots (T:Tx K mg):FnOk P w K mg base CX0 6 T.f_knots T.fd_knots ["book","order"] (spDN K 2 gKnots):=by
 refine fnDN (k:=5) T.d_knots.F sc_knots (fun cdv A outer s H E hr=>(psn_cons (ds_expr (de_call (g_check_marks T) m_check_marks (hr.mono (by decide)) rfl T.d_check_marks.m T.d_check_marks.F.kp T.d_check_marks.b (da_cons (de_var 0 (pv 0)) (da_cons (de_var 1 (pv 1)) da_nil))))
   (psn_cons (ds_own (i:=2) sc_knots.nd rfl (by first | exact Or.inl rfl | exact Or.inr rfl) (dl_lst da_nil))
   (psn_mid (ds_for PassesOwn.never rfl (di_range1 rfl T.z_range (da_cons (de_op od_add (de_callB cd_len rfl T.z_len PySem.boot_len (da_cons (de_var 1 (pv 1)) da_nil)) de_int) da_nil)) (dg_name (i:=3) sc_knots.nd rfl (by first | exact Or.inl rfl | exact Or.inr rfl)) (dss_one (ds_ext (pv 2) (de_call (g_parts_by T) m_parts_by (hr.mono (by decide)) rfl T.d_parts_by.m T.d_parts_by.F.kp T.d_parts_by.b (da_cons (de_var 0 (pv 0)) (da_cons (de_slA (de_var 1 (pv 1)) do_none (do_some (de_var 3 (pv 3)))) da_nil))))))
   (psn_own (pv 2)))))) (fun ds Q L hl h=>?_)
 obtain ⟨b,so,rfl,bo,o,h⟩:=h
 have l5:=o.len
 have el:((so.map D.int).length:Int) = so.length:=by rw [List.length_map]
 refine ⟨rfl,b,so,rfl,o,bo.mk5,sz,fun ρ=>∃ s:Sl,ρ = [.val (bookD b),.val (intsT so),.own ((knotsL b so (so.length + 1)).map cellD),s],⟨⟨by omega,by omega⟩,?_⟩,?_⟩
 ·refine dLoop_up (fun k ρ=>∃ s:Sl,ρ = [.val (bookD b),.val (intsT so),.own ((knotsL b so k.toNat).map cellD),s]) _ _ ?_ ?_ _ ⟨_,rfl⟩
  ·rintro ρ ⟨s,rfl⟩
   have e:(0 + ((((so.map D.int).length:Int) + 1).toNat:Int)).toNat = so.length + 1:=by omega
   rw [e]
   exact ⟨s,rfl⟩
  ·rintro k ρ X k0 k1 ⟨s,rfl⟩ hX
   have kl:k <= so.length:=by omega
   refine ⟨trivial,?_⟩
   show _ /\ _
   refine ⟨rfl,b,so.take k.toNat,?_,bo,o.take _,_,rfl,?_,hX _ ⟨.val (.int k),?_⟩⟩
   ·rw [cut_take k0 kl]
    rfl
   ·rw [List.length_map,List.length_map]
    have h1:=knots_len bo (so:=so) k.toNat
    have h2:=parts_len bo (so:=so.take k.toNat)
    exact Nat.le_trans (show _ <= 500 by omega) (by decide)
   ·have e:(k + 1).toNat = k.toNat + 1:=by omega
    rw [e,knots_succ,List.map_append]
    rfl
 ·rintro _ ⟨s,rfl⟩
  exact h
def gKnotsD:DSp:=fun ds Q=>∃ (b:Bk) (so:List Int),ds = [bookD b,intsT so] /\ BkOk b /\ SoOk b so /\ Q (.lst ((knotsL b so (so.length + 1)).map cellD))
theorem m_knots:MonoS gKnotsD:=fun ds P P' f ⟨b,so,a,c,d,h⟩=>⟨b,so,a,c,d,f _ h⟩
theorem g_knots (T:Tx K mg):FnOk P w K mg base CX0 6 T.f_knots T.fd_knots ["book","order"] (spD K 2 gKnotsD):=DL.FnOk.asD (gN_knots T) (fun ds Q h=>h) mN_knots
theorem coll_f0 {cs:List (Int × Int)} (hl:cs.length <= 1000) {x y:Sl} {Q:List D -> Prop} (q:Q ((cs.map (·.1)).map D.int)):dColl (dgTup 2 (dgCons (dgName 0) (dgCons (dgName 1) dgNil))) dNoTest (dVar 0) (cs.map pairD) [] [x,y] Q:=by
 refine dColl_map (fun d=>match d with | .tup (x :: _)=>x | _=>.non) (fun ρ=>∃ x y,ρ = [x,y]) (by rw [List.length_map]; exact Nat.le_trans hl (by decide)) (fun d hd ρ Y Z hN hY=>?_) _ ⟨_,_,rfl⟩ ?_
 ·obtain ⟨x,y,rfl⟩:=hN
  obtain ⟨c,_,rfl⟩:=List.mem_map.mp hd
  exact ⟨rfl,Br.t (hY _ ⟨_,_,rfl⟩)⟩
 ·rw [List.map_map] at q ⊢
  exact q
theorem coll_f1 {cs:List (Int × Int)} (hl:cs.length <= 1000) {x y:Sl} {Q:List D -> Prop} (q:Q ((cs.map (·.2)).map D.int)):dColl (dgTup 2 (dgCons (dgName 0) (dgCons (dgName 1) dgNil))) dNoTest (dVar 1) (cs.map pairD) [] [x,y] Q:=by
 refine dColl_map (fun d=>match d with | .tup [_,x]=>x | _=>.non) (fun ρ=>∃ x y,ρ = [x,y]) (by rw [List.length_map]; exact Nat.le_trans hl (by decide)) (fun d hd ρ Y Z hN hY=>?_) _ ⟨_,_,rfl⟩ ?_
 ·obtain ⟨x,y,rfl⟩:=hN
  obtain ⟨c,_,rfl⟩:=List.mem_map.mp hd
  exact ⟨rfl,Br.t (hY _ ⟨_,_,rfl⟩)⟩
 ·rw [List.map_map] at q ⊢
  exact q
def gLSum:DSp:=fun ds Q=>∃ cs:List (Int × Int),ds = [.lst (cs.map pairD)] /\ cs.length <= 1000 /\ Q (pairD (sumP cs))
theorem m__law_sum:MonoS gLSum:=fun ds P P' f ⟨cs,a,b,h⟩=>⟨cs,a,b,f _ h⟩
theorem g__law_sum (T:Tx K mg):FnOk P w K mg base CX0 1 T.f__law_sum T.fd__law_sum ["_law_counts"] (spD K 1 gLSum):=by
 refine fnD (k:=0) T.d__law_sum.F sc__law_sum (fun cdv A outer s H E hr=>(dss_one (ds_ret (de_tup (da_cons (de_callB cd_sum rfl T.z_sum PyProof.Rows.boot_sum (da_cons (de_frz (PCD.pld (dl_comp (N':=["_law_tried","_law_well"]) rfl rfl (by decide +kernel) rfl (.own (.own .nil)) (by decide +kernel) (di_list (de_var 0 (pv 0))) (fun B=>(dg_tup (n:=2) rfl (dgs_cons (dg_name (i:=0) (show List.Nodup (α:=PySem.Str) ["_law_tried","_law_well"] by decide +kernel) rfl (by first | exact Or.inl rfl | exact Or.inr rfl)) (dgs_cons (dg_name (i:=1) (show List.Nodup (α:=PySem.Str) ["_law_tried","_law_well"] by decide +kernel) rfl (by first | exact Or.inl rfl | exact Or.inr rfl)) dgs_nil)))) (fun B=>dts_nil) (fun B=>(de_var 0 (pv 0)))))) da_nil)) (da_cons (de_callB cd_sum rfl T.z_sum PyProof.Rows.boot_sum (da_cons (de_frz (PCD.pld (dl_comp (N':=["_law_tried","_law_well"]) rfl rfl (by decide +kernel) rfl (.own (.own .nil)) (by decide +kernel) (di_list (de_var 0 (pv 0))) (fun B=>(dg_tup (n:=2) rfl (dgs_cons (dg_name (i:=0) (show List.Nodup (α:=PySem.Str) ["_law_tried","_law_well"] by decide +kernel) rfl (by first | exact Or.inl rfl | exact Or.inr rfl)) (dgs_cons (dg_name (i:=1) (show List.Nodup (α:=PySem.Str) ["_law_tried","_law_well"] by decide +kernel) rfl (by first | exact Or.inl rfl | exact Or.inr rfl)) dgs_nil)))) (fun B=>dts_nil) (fun B=>(de_var 1 (pv 1)))))) da_nil)) da_nil)))))) (fun ds Q hl h=>?_)
 obtain ⟨cs,rfl,hc,h⟩:=h
 exact coll_f0 hc (gSum_of (coll_f1 hc (gSum_of ⟨sz,h⟩)))
theorem fz_dv (kds:List (List Key × D)):fzO (dvO kds) = .dT (kds.map (·.1)) (kds.map (·.2)):=by
 unfold dvO
 simp only [fzO]
 congr 1
 rw [fzOs_map,List.map_map]
 apply List.map_congr_left
 intro p _
 simp only [Function.comp,fzO]
theorem coll_lsum {m:Nat} {t:List Row} (m6:m <= 6) (ho:∀ r ∈ t,RowOk m r) (hl:t.length <= 1000) {s:Sl} {Q:List D -> Prop} (q:Q ((sums t m).map pairD)) :
  dColl (dgName 0) dNoTest (dCall 1 gLSum (daCons (dFrz (dComp (diSeq (dVar 1)) [none,some 0] (dgName 0) dNoTest (dOp gIx (dVar 0) (dVar 1)))) daNil)) (intsD 0 m) [] [s,.val (.lst (t.map rowD))] Q:=by
 refine dColl_map (fun d=>match d with | .int i=>pairD (sumP (col t i.toNat)) | _=>.non) (fun ρ=>∃ s,ρ = [s,.val (.lst (t.map rowD))]) ?_ (fun d hd ρ Y Z hN hY=>?_) _ ⟨_,rfl⟩ ?_
 ·rw [intsD_map,List.length_map,List.length_range]
  exact Nat.le_trans m6 (by decide)
 ·obtain ⟨s,rfl⟩:=hN
  rw [intsD_map] at hd
  obtain ⟨i,hi,rfl⟩:=List.mem_map.mp hd
  have hi:=List.mem_range.mp hi
  refine Br.t (coll_col ho hl (by omega) (by omega) ⟨rfl,col t (0 + (i:Int)).toNat,rfl,?_,hY _ ⟨_,rfl⟩⟩)
  unfold col
  rw [List.length_map]
  exact hl
 ·have e:(intsD 0 m).map (fun d=>match d with | .int i=>pairD (sumP (col t i.toNat)) | _=>.non) = (sums t m).map pairD:=by
   rw [intsD_map,List.map_map]
   unfold sums
   rw [List.map_map]
   apply List.map_congr_left
   intro i _
   show pairD (sumP (col t (0 + (i:Int)).toNat)) = pairD (sumP (col t i))
   congr 3
   omega
  rw [e]
  exact q
def gCount:DSp:=fun ds Q=>match ds with
 | [.pen]=>∀ t w,Cnt 110 t w -> Q (.tup [.int t,.int w])
 | _=>False
theorem m__law_count:MonoS gCount:=fun ds P P' f h=>by
 unfold gCount at h ⊢
 split at h
 ·exact fun x y l=>f _ (h x y l)
 ·exact h.elim
theorem g__law_count (T:Tx K mg):FnOk P w K mg base CX0 2 T.f__law_count T.fd__law_count ["_law_pen_here"] (spD K 1 gCount):=by
 refine fnD (k:=1) T.d__law_count.F sc__law_count (fun cdv A outer s H E hr=>(dss_cons (ds_set (i:=1) sc__law_count.nd rfl (by first | exact Or.inl rfl | exact Or.inr rfl) (de_call (g__law_next T) m__law_next (hr.mono (by decide)) rfl T.d__law_next.m T.d__law_next.F.kp T.d__law_next.b (da_cons (de_var 0 (pv 0)) (da_cons de_int da_nil))))
   (dss_cons (ds_set (i:=2) sc__law_count.nd rfl (by first | exact Or.inl rfl | exact Or.inr rfl) (de_op od_add de_int (de_call (g__law_next T) m__law_next (hr.mono (by decide)) rfl T.d__law_next.m T.d__law_next.F.kp T.d__law_next.b (da_cons (de_var 0 (pv 0)) (da_cons de_int da_nil)))))
   (dss_mid (ds_if (dt_cmp (od_eq hr) (de_var 1 (pv 1)) de_int (nomark _)) (dss_one (ds_set (i:=2) sc__law_count.nd rfl (by first | exact Or.inl rfl | exact Or.inr rfl) de_int)) dss_nil)
   (dss_mid (ds_if (dt_cmp (od_eq hr) (de_var 1 (pv 1)) de_int (nomark _)) (dss_one (ds_set (i:=2) sc__law_count.nd rfl (by first | exact Or.inl rfl | exact Or.inr rfl) (de_op od_add (de_op od_pow de_int de_int) (de_call (g__law_next T) m__law_next (hr.mono (by decide)) rfl T.d__law_next.m T.d__law_next.F.kp T.d__law_next.b (da_cons (de_var 0 (pv 0)) (da_cons (de_op od_pow de_int de_int) da_nil)))))) dss_nil)
   (dss_one (ds_ret (de_tup (da_cons (de_var 2 (pv 2)) (da_cons (de_call (g__law_next T) m__law_next (hr.mono (by decide)) rfl T.d__law_next.m T.d__law_next.F.kp T.d__law_next.b (da_cons (de_var 0 (pv 0)) (da_cons (de_op od_add (de_var 2 (pv 2)) de_int) da_nil))) da_nil)))))))))) (fun ds Q hl h=>?_)
 unfold gCount at h
 split at h
 case h_2=>exact h.elim
 refine ⟨rfl,⟨by decide,by decide⟩,fun way w0 w1=>⟨rfl,⟨by decide,by decide⟩,fun r r0 r1=>?_⟩⟩
 refine ⟨fun ρ=>∃ t:Int,0 <= t /\ t <= 10 /\ ρ = [.val .pen,.val (.int way),.val (.int t)],⟨⟨rfl,rfl⟩,fun _=>⟨0,by decide,by decide,rfl⟩,fun _=>⟨1 + r,by omega,by omega,rfl⟩⟩,?_⟩
 rintro _ ⟨t,t0,t1,rfl⟩
 refine ⟨fun ρ=>∃ t:Int,0 <= t /\ t <= 10 ^ 12 /\ ρ = [.val .pen,.val (.int way),.val (.int t)],⟨⟨rfl,rfl⟩,fun _=>?_,fun _=>⟨t,t0,by omega,rfl⟩⟩,?_⟩
 ·refine ⟨cpow,cpow,rfl,⟨by decide,by decide⟩,fun p p0 p1=>⟨_,?_,?_,rfl⟩⟩
  all_goals simp only [Int.reduceToNat,Int.reducePow] at *
  ·omega
  ·omega
 rintro _ ⟨t,t0,t1,rfl⟩
 have bt:Bd 110 t:=by show t.natAbs < 2 ^ 110; omega
 exact ⟨rfl,⟨by omega,by omega⟩,fun w w0 w1=>⟨sz,h t w (cnt_of w0 (by omega) bt)⟩⟩
def embB (f:List (List Int × Row)):List (List Key × D):=f.map fun p=>(kI p.1,rowD p.2)
def KsOk (ms ks:List Int):Prop:=ks.length = ms.length /\ ∀ i,i < ks.length -> 0 <= ks.getD i 0 /\ ks.getD i 0 < ms.getD i 0
theorem KsOk.snoc {ms ks:List Int} (h:KsOk ms ks) {x r:Int} (r0:0 <= r) (r1:r < x):KsOk (ms ++ [x]) (ks ++ [r]):=by
 obtain ⟨h1,h2⟩:=h
 refine ⟨by simp [h1],fun i hi=>?_⟩
 rw [List.length_append,List.length_singleton] at hi
 rw [List.getD_eq_getElem?_getD,List.getD_eq_getElem?_getD]
 by_cases z:i < ks.length
 ·have:=h2 i z
  rw [List.getD_eq_getElem?_getD,List.getD_eq_getElem?_getD] at this
  rw [List.getElem?_append_left z,List.getElem?_append_left (by omega)]
  exact this
 ·have e:i = ks.length:=by omega
  subst e
  rw [List.getElem?_append_right (Nat.le_refl _),List.getElem?_append_right (by omega),Nat.sub_self,← h1,Nat.sub_self]
  exact ⟨r0,r1⟩
def BkK (b:Bk):Prop:=∀ c ∈ b.cells,KsOk b.marks c.1
structure FOk (m:Nat) (ms:List Int) (f:List (List Int × Row)):Prop where
 nd:(f.map (·.1)).Nodup
 it:∀ p ∈ f,KsOk ms p.1 /\ RowN 110 m p.2 /\ triedR p.2
theorem FOk.put {m:Nat} {ms:List Int} {f:List (List Int × Row)} (h:FOk m ms f) {k:List Int} {r:Row} (hk:KsOk ms k) (hr:RowN 110 m r /\ triedR r):∃ f',putA (embB f) (kI k) (rowD r) = embB f' /\ FOk m ms f' /\ f'.length <= f.length + 1:=by
 have ea:((embB f).any fun q=>decide (q.1 = kI k)) = f.any fun q=>decide (q.1 = k):=by
  unfold embB
  rw [List.any_map]
  congr 1
  funext q
  simp [kI_eq]
 unfold putA
 rw [ea]
 by_cases a:(f.any fun q=>decide (q.1 = k)) = true
 ·rw [if_pos a]
  refine ⟨f.map fun p=>if p.1 = k then (p.1,r) else p,?_,⟨?_,fun p hp=>?_⟩,by rw [List.length_map]; omega⟩
  ·unfold embB
   rw [List.map_map,List.map_map]
   apply List.map_congr_left
   intro p _
   simp only [Function.comp,kI_eq]
   split <;> rfl
  ·rw [List.map_map]
   have:f.map ((fun x=>x.1) ∘ fun p=>if p.1 = k then (p.1,r) else p) = f.map (·.1):=by
    apply List.map_congr_left
    intro p _
    simp only [Function.comp]
    split <;> rfl
   rw [this]
   exact h.nd
  ·obtain ⟨q,hq,rfl⟩:=List.mem_map.mp hp
   split
   ·rename_i e
    exact ⟨by rw [e]; exact hk,hr⟩
   ·exact h.it q hq
 ·rw [if_neg a]
  refine ⟨f ++ [(k,r)],by unfold embB; rw [List.map_append]; rfl,⟨?_,fun p hp=>?_⟩,by simp⟩
  ·rw [List.map_append]
   refine List.nodup_append.mpr ⟨h.nd,by simp,fun x hx y hy e=>?_⟩
   have hy:y = k:=by simpa using hy
   subst hy
   subst e
   obtain ⟨q,hq,e⟩:=List.mem_map.mp hx
   exact a (List.any_eq_true.mpr ⟨q,hq,by simpa using e⟩)
  ·rcases List.mem_append.mp hp with hp | hp
   ·exact h.it p hp
   ·rw [List.mem_singleton.mp hp]
    exact ⟨hk,hr⟩
theorem row_of {f:List (List Int × Row)} {k:List Int} (h:k ∈ f.map (·.1)):∃ p ∈ f,p.1 = k /\ findA (embB f) (kI k) = some (rowD p.2):=by
 induction f with
 | nil=>simp at h
 | cons q t ih =>
  by_cases e:q.1 = k
  ·refine ⟨q,List.mem_cons_self,e,?_⟩
   unfold findA embB
   rw [List.map_cons,List.find?_cons_of_pos (by simpa [kI_eq] using e)]
   rfl
  ·have h':k ∈ t.map (·.1):=by
    rw [List.map_cons] at h
    rcases List.mem_cons.mp h with h | h
    ·exact absurd h.symm e
    ·exact h
   obtain ⟨p,h1,h2,h4⟩:=ih h'
   refine ⟨p,List.mem_cons_of_mem _ h1,h2,?_⟩
   unfold findA embB at h4 ⊢
   rw [List.map_cons,List.find?_cons_of_neg (by simpa [kI_eq] using e)]
   exact h4
theorem tried_of_sum {r:Row} (h:0 < (r.map (·.1)).sum):triedR r:=by
 induction r with
 | nil=>simp at h
 | cons c t ih =>
  rw [List.map_cons,List.sum_cons] at h
  by_cases e:0 < c.1
  ·exact ⟨c,List.mem_cons_self,e⟩
  ·obtain ⟨d,hd,hp⟩:=ih (by omega)
   exact ⟨d,List.mem_cons_of_mem _ hd,hp⟩
theorem bl01 (b:Bool) {P:Int -> Prop} (h0:P 0) (h1:P 1):P (if b = true then 1 else 0):=by cases b <;> assumption
theorem in_ints {ns:List Int} {k:Int} {Q:D -> Prop} {lo hi:Int} (k0:0 <= k) (k1:k < ns.length) (hb:∀ n ∈ ns,lo <= n /\ n <= hi) (q:∀ n,lo <= n -> n <= hi -> Q (.int n)):opt (atI (ns.map D.int) k) Q:=by
 refine opt_mem k0 (by rw [List.length_map]; exact k1) fun d hd=>?_
 obtain ⟨n,hn,rfl⟩:=List.mem_map.mp hd
 exact q n (hb n hn).1 (hb n hn).2
def gBook:DSp:=fun ds Q=>match ds with
 | [.pen,.int mo]=>(0 <= mo /\ mo <= 5) /\ ∀ b:Bk,BkOk b -> BkK b -> Q (bookD b)
 | _=>False
theorem m__law_book:MonoS gBook:=fun ds P P' f h=>by
 unfold gBook at h ⊢
 split at h
 ·exact ⟨h.1,fun b o q=>f _ (h.2 b o q)⟩
 ·exact h.elim
theorem g__law_book (T:Tx K mg):FnOk P w K mg base CX0 3 T.f__law_book T.fd__law_book ["_law_pen_here","_law_most"] (spD K 2 gBook):=by
 refine fnD (k:=2) T.d__law_book.F sc__law_book (fun cdv A outer s H E hr=>(dss_mid (ds_set (i:=2) sc__law_book.nd rfl (by first | exact Or.inl rfl | exact Or.inr rfl) (de_op od_add de_int (de_op od_mul (de_call (g__law_next T) m__law_next (hr.mono (by decide)) rfl T.d__law_next.m T.d__law_next.F.kp T.d__law_next.b (da_cons (de_var 0 (pv 0)) (da_cons de_int da_nil))) (de_callTy cd_int rfl T.z_int rfl (da_cons (de_cmp (od_eq hr) (de_call (g__law_next T) m__law_next (hr.mono (by decide)) rfl T.d__law_next.m T.d__law_next.F.kp T.d__law_next.b (da_cons (de_var 0 (pv 0)) (da_cons de_int da_nil))) de_int (nomark _)) da_nil)))))
   (dss_mid (ds_set (i:=3) sc__law_book.nd rfl (by first | exact Or.inl rfl | exact Or.inr rfl) (de_callTy cd_tuple rfl T.z_tuple rfl (da_cons (de_frz (PCD.pld (dl_comp (N':=["_law_k","_law_pen_here"]) rfl rfl (by decide +kernel) rfl (.own (.cap (j:=0) rfl (by first | exact Or.inl rfl | exact Or.inr rfl) rfl .nil)) (by decide +kernel) (di_range1 rfl T.z_range (da_cons (de_call (g__law_next T) m__law_next (hr.mono (by decide)) rfl T.d__law_next.m T.d__law_next.F.kp T.d__law_next.b (da_cons (de_var 0 (pv 0)) (da_cons (de_op od_add (de_var 1 (pv 1)) de_int) da_nil))) da_nil)) (fun B=>(dg_name (i:=0) (show List.Nodup (α:=PySem.Str) ["_law_k","_law_pen_here"] by decide +kernel) rfl (by first | exact Or.inl rfl | exact Or.inr rfl))) (fun B=>dts_nil) (fun B=>(de_op od_add de_int (de_call (g__law_next T) m__law_next (hr.mono (by decide)) rfl T.d__law_next.m T.d__law_next.F.kp T.d__law_next.b (da_cons (de_var 1 (pv 1)) (da_cons (de_ix (de_frz (dl_lst (da_cons de_int (da_cons de_int da_nil)))) (de_callTy cd_int rfl T.z_int rfl (da_cons (de_cmp (od_eq hr) (de_call (g__law_next T) m__law_next (hr.mono (by decide)) rfl T.d__law_next.m T.d__law_next.F.kp T.d__law_next.b (da_cons (de_var 1 (pv 1)) (da_cons de_int da_nil))) de_int (nomark _)) da_nil)) (fun _ _=>rfl)) da_nil)))))))) da_nil)))
   (dss_cons (ds_newD (i:=4) sc__law_book.nd rfl (by first | exact Or.inl rfl | exact Or.inr rfl))
   (dss_mid (ds_for PassesOwn.never rfl (di_range1 rfl T.z_range (da_cons (de_call (g__law_next T) m__law_next (hr.mono (by decide)) rfl T.d__law_next.m T.d__law_next.F.kp T.d__law_next.b (da_cons (de_var 0 (pv 0)) (da_cons (de_ix (de_frz (dl_lst (da_cons de_int (da_cons de_int da_nil)))) (de_callTy cd_int rfl T.z_int rfl (da_cons (de_cmp (od_eq hr) (de_call (g__law_next T) m__law_next (hr.mono (by decide)) rfl T.d__law_next.m T.d__law_next.F.kp T.d__law_next.b (da_cons (de_var 0 (pv 0)) (da_cons de_int da_nil))) de_int (nomark _)) da_nil)) (fun _ _=>rfl)) da_nil))) da_nil)) (dg_name (i:=5) sc__law_book.nd rfl (by first | exact Or.inl rfl | exact Or.inr rfl)) (dss_cons (ds_set (i:=6) sc__law_book.nd rfl (by first | exact Or.inl rfl | exact Or.inr rfl) (de_callTy cd_tuple rfl T.z_tuple rfl (da_cons (de_frz (PCD.pld (dl_comp (N':=["_law_kinds","_law_pen_here"]) rfl rfl (by decide +kernel) rfl (.own (.cap (j:=0) rfl (by first | exact Or.inl rfl | exact Or.inr rfl) rfl .nil)) (by decide +kernel) (di_tup (de_var 3 (pv 3))) (fun B=>(dg_name (i:=0) (show List.Nodup (α:=PySem.Str) ["_law_kinds","_law_pen_here"] by decide +kernel) rfl (by first | exact Or.inl rfl | exact Or.inr rfl))) (fun B=>dts_nil) (fun B=>(de_call (g__law_next T) m__law_next (hr.mono (by decide)) rfl T.d__law_next.m T.d__law_next.F.kp T.d__law_next.b (da_cons (de_var 1 (pv 1)) (da_cons (de_var 0 (pv 0)) da_nil))))))) da_nil)))
   (dss_cons (ds_set (i:=7) sc__law_book.nd rfl (by first | exact Or.inl rfl | exact Or.inr rfl) (de_callTy cd_tuple rfl T.z_tuple rfl (da_cons (de_frz (PCD.pld (dl_comp (N':=["_law_house","_law_pen_here"]) rfl rfl (by decide +kernel) rfl (.own (.cap (j:=0) rfl (by first | exact Or.inl rfl | exact Or.inr rfl) rfl .nil)) (by decide +kernel) (di_range1 rfl T.z_range (da_cons (de_var 2 (pv 2)) da_nil)) (fun B=>(dg_name (i:=0) (show List.Nodup (α:=PySem.Str) ["_law_house","_law_pen_here"] by decide +kernel) rfl (by first | exact Or.inl rfl | exact Or.inr rfl))) (fun B=>dts_nil) (fun B=>(de_call (g__law_count T) m__law_count (hr.mono (by decide)) rfl T.d__law_count.m T.d__law_count.F.kp T.d__law_count.b (da_cons (de_var 1 (pv 1)) da_nil)))))) da_nil)))
   (dss_one (ds_if (dt_cmp od_gt (de_callB cd_sum rfl T.z_sum PyProof.Rows.boot_sum (da_cons (de_frz (PCD.pld (dl_comp (N':=["_law_tried","_law_well"]) rfl rfl (by decide +kernel) rfl (.own (.own .nil)) (by decide +kernel) (di_tup (de_var 7 (pv 7))) (fun B=>(dg_tup (n:=2) rfl (dgs_cons (dg_name (i:=0) (show List.Nodup (α:=PySem.Str) ["_law_tried","_law_well"] by decide +kernel) rfl (by first | exact Or.inl rfl | exact Or.inr rfl)) (dgs_cons (dg_name (i:=1) (show List.Nodup (α:=PySem.Str) ["_law_tried","_law_well"] by decide +kernel) rfl (by first | exact Or.inl rfl | exact Or.inr rfl)) dgs_nil)))) (fun B=>dts_nil) (fun B=>(de_var 0 (pv 0)))))) da_nil)) de_int (nomark _)) (dss_one (ds_putD hr (pv 4) (de_var 6 (pv 6)) (de_var 7 (pv 7)))) dss_nil)))))
   (dss_one (ds_ret (de_tup (da_cons (de_var 2 (pv 2)) (da_cons (de_var 3 (pv 3)) (da_cons (de_callTy cd_tuple rfl T.z_tuple rfl (da_cons (de_frz (PCD.pld (dl_comp (N':=["_law_kinds","_law_found"]) rfl rfl (by decide +kernel) rfl (.own (.cap (j:=4) rfl (by first | exact Or.inl rfl | exact Or.inr rfl) rfl .nil)) (by decide +kernel) (di_list (de_callB cd_sortT rfl T.z_sorted (by decide +kernel) (da_cons (de_var 4 (pv 4)) da_nil))) (fun B=>(dg_name (i:=0) (show List.Nodup (α:=PySem.Str) ["_law_kinds","_law_found"] by decide +kernel) rfl (by first | exact Or.inl rfl | exact Or.inr rfl))) (fun B=>dts_nil) (fun B=>(de_tup (da_cons (de_var 0 (pv 0)) (da_cons (de_ixT hr (de_var 1 (pv 1)) (de_var 0 (pv 0)) (fun _ _=>rfl)) da_nil))))))) da_nil)) da_nil))))))))))) (fun ds Q hl h=>?_)
 unfold gBook at h
 split at h
 case h_2=>exact h.elim
 rename_i mo
 obtain ⟨⟨mo0,mo1⟩,h⟩:=h
 refine ⟨fun ρ=>∃ m:Nat,2 <= m /\ m <= 6 /\ ρ = [.val .pen,.val (.int mo),.val (.int m),.nil,.nil,.nil,.nil,.nil],⟨rfl,⟨by decide,by decide⟩,fun a a0 a1=>⟨rfl,⟨by decide,by decide⟩,fun c c0 c1=>⟨⟨rfl,rfl⟩,.inl ⟨by omega,by omega⟩,?_⟩⟩⟩,?_⟩
 ·have hm:∃ m:Nat,2 <= m /\ m <= 6 /\ 2 + a * (if eqD (.int c) (.int 1) = true then (1:Int) else 0) = (m:Int):=by
   refine bl01 (P:=fun x=>∃ m:Nat,2 <= m /\ m <= 6 /\ 2 + a * x = (m:Int)) _ ⟨2,by omega,by omega,by omega⟩ ⟨(2 + a).toNat,by omega,by omega,by omega⟩
  obtain ⟨m,m2,m6,em⟩:=hm
  exact ⟨m,m2,m6,by rw [← em]; rfl⟩
 rintro _ ⟨m,m2,m6,rfl⟩
 refine ⟨fun ρ=>∃ ms:List Int,ms.length <= 5 /\ (∀ x ∈ ms,1 <= x /\ x <= 6) /\ ρ = [.val .pen,.val (.int mo),.val (.int m),.val (intsT ms),.nil,.nil,.nil,.nil],⟨rfl,⟨by omega,by omega⟩,fun n n0 n1=>⟨⟨by omega,by omega⟩,?_⟩⟩,?_⟩
 ·refine dColl_pre (fun pre acc ρ=>∃ ms:List Int,acc = ms.map D.int /\ ms.length = pre.length /\ (∀ x ∈ ms,1 <= x /\ x <= 6) /\ ∃ s,ρ = [s,.val .pen]) (fun acc ρ hN=>?_) (fun pre d post acc ρ Y e hN hY=>?_) _ ⟨[],rfl,rfl,fun x hx=>by simp at hx,_,rfl⟩
  ·obtain ⟨ms,rfl,el,hv,_⟩:=hN
   rw [intsD_map,List.length_map,List.length_range] at el
   exact ⟨ms,by omega,hv,rfl⟩
  ·obtain ⟨ms,rfl,el,hv,s,rfl⟩:=hN
   have hlen:(intsD 0 n.toNat).length = pre.length + (post.length + 1):=by rw [e]; simp
   rw [intsD_map,List.length_map,List.length_range] at hlen
   refine Br.t ⟨sz,rfl,⟨by decide,by decide⟩,fun q q0 q1=>⟨⟨rfl,rfl⟩,in_ints (ns:=[3,6]) (lo:=1) (hi:=6) (bl01 (P:=fun x=>0 <= x) _ (by decide) (by decide)) (bl01 (P:=fun x=>x < ([3,6]:List Int).length) _ (by decide) (by decide)) (by decide) fun v v1 v2=>⟨rfl,⟨by omega,by omega⟩,fun r r0 r1=>⟨?_,hY _ _ ⟨ms ++ [1 + r],by simp,by simp [el],fun x hx=>?_,_,rfl⟩⟩⟩⟩⟩
   ·rw [List.length_map]
    exact Nat.lt_of_le_of_lt (show ms.length <= 10 by omega) (by decide)
   ·rcases List.mem_append.mp hx with hx | hx
    ·exact hv x hx
    ·rw [List.mem_singleton.mp hx]
     omega
 rintro _ ⟨ms,ml,mv,rfl⟩
 refine ⟨fun ρ=>∃ f:List (List Int × Row),FOk m ms f /\ f.length <= 60 /\ ∃ a b c:Sl,ρ = [.val .pen,.val (.int mo),.val (.int m),.val (intsT ms),.obj (dvO (embB f)),a,b,c],⟨sz,rfl,⟨by decide,by decide⟩,fun q q0 q1=>⟨⟨rfl,rfl⟩,in_ints (ns:=[10,61]) (lo:=1) (hi:=61) (bl01 (P:=fun x=>0 <= x) _ (by decide) (by decide)) (bl01 (P:=fun x=>x < ([10,61]:List Int).length) _ (by decide) (by decide)) (by decide) fun v v1 v2=>⟨rfl,⟨by omega,by omega⟩,fun n n0 n1=>⟨⟨by omega,by omega⟩,?_⟩⟩⟩⟩,?_⟩
 ·refine dLoop_up (fun k ρ=>∃ f:List (List Int × Row),FOk m ms f /\ (f.length:Int) <= k /\ ∃ a b c:Sl,ρ = [.val .pen,.val (.int mo),.val (.int m),.val (intsT ms),.obj (dvO (embB f)),a,b,c]) _ _ ?_ ?_ _ ⟨[],⟨List.nodup_nil,fun p hp=>by simp at hp⟩,by simp,_,_,_,rfl⟩
  ·rintro ρ ⟨f,fo,fl,a,b,c,rfl⟩
   exact ⟨f,fo,by omega,a,b,c,rfl⟩
  ·rintro k ρ X k0 k1 ⟨f,fo,fl,a,b,c,rfl⟩ hX
   refine dColl_pre (fun pre acc ρ=>∃ m0 m1 ks:List Int,ms = m0 ++ m1 /\ pre = m0.map D.int /\ acc = ks.map D.int /\ KsOk m0 ks /\ ∃ s,ρ = [s,.val .pen]) (fun acc ρ hN=>?_) (fun pre d post acc ρ Y e hN hY=>?_) _ ⟨[],ms,[],rfl,rfl,rfl,⟨rfl,fun i hi=>absurd hi (Nat.not_lt_zero i)⟩,_,rfl⟩
   ·obtain ⟨m0,m1,ks,e1,e2,rfl,kl,s,rfl⟩:=hN
    have:m1 = []:=by
     have:=congrArg List.length e2
     rw [e1] at this
     simp at this
     exact this
    subst this
    rw [List.append_nil] at e1
    rw [← e1] at kl
    refine ⟨⟨by omega,by omega⟩,?_⟩
    refine dColl_pre (fun pre acc ρ=>∃ r:Row,acc = r.map pairD /\ r.length = pre.length /\ (∀ c ∈ r,Cnt 110 c.1 c.2) /\ ∃ s,ρ = [s,.val .pen]) (fun acc ρ hN=>?_) (fun pre d post acc ρ Y e hN hY=>?_) _ ⟨[],rfl,rfl,fun c hc=>by simp at hc,_,rfl⟩
    ·obtain ⟨r,rfl,hl,hc,_⟩:=hN
     rw [intsD_map,List.length_map,List.length_range] at hl
     have hl':r.length = m:=by omega
     refine coll_f0 (by omega) (gSum_of (Br.di (fun z=>?_) (fun z=>hX _ ⟨f,fo,by omega,_,_,_,rfl⟩)))
     obtain ⟨f',e,fo',fl'⟩:=fo.put (k:=ks) (r:=r) kl ⟨⟨hl',hc⟩,tried_of_sum z⟩
     refine ⟨trivial,embB f,kI ks,rfl,keyD_kI ks,?_,?_⟩
     ·unfold embB
      rw [List.length_map]
      exact Nat.lt_of_le_of_lt (show f.length <= 100 by omega) (by decide)
     ·have e':putA (embB f) (kI ks) (.tup (r.map pairD)) = embB f':=e
      rw [e']
      exact hX _ ⟨f',fo',by omega,_,_,_,rfl⟩
    ·obtain ⟨r,rfl,hl,hc,s,rfl⟩:=hN
     refine Br.t ⟨rfl,fun t w cw=>⟨?_,hY _ _ ⟨r ++ [(t,w)],by simp [pairD],by simp [hl],fun c hc'=>?_,_,rfl⟩⟩⟩
     ·have hlen:(intsD 0 ((m:Int)).toNat).length = pre.length + (post.length + 1):=by rw [e]; simp
      rw [intsD_map,List.length_map,List.length_range] at hlen
      rw [List.length_map]
      exact Nat.lt_of_le_of_lt (show r.length <= 100 by omega) (by decide)
     ·rcases List.mem_append.mp hc' with hc' | hc'
      ·exact hc c hc'
      ·rw [List.mem_singleton.mp hc']; exact cw
   ·obtain ⟨m0,m1,ks,e1,rfl,rfl,kl,s,rfl⟩:=hN
    rw [e1,List.map_append] at e
    have e:=List.append_cancel_left e
    cases m1 with
    | nil=>simp at e
    | cons x m1 =>
     rw [List.map_cons] at e
     injection e with e3 e4
     subst e3
     have hx:=mv x (by rw [e1]; simp)
     rw [e1,List.length_append] at ml
     refine Br.t ⟨rfl,⟨by omega,by omega⟩,fun r r0 r1=>⟨?_,hY _ _ ⟨m0 ++ [x],m1,ks ++ [r],by rw [e1]; simp,by simp,by simp,kl.snoc r0 r1,_,rfl⟩⟩⟩
     rw [List.length_map,kl.1]
     exact Nat.lt_of_le_of_lt (show m0.length <= 10 by omega) (by decide)
 rintro _ ⟨f,fo,fl,a,b,c,rfl⟩
 have hk:(embB f).map (·.1) = (f.map (·.1)).map kI:=by unfold embB; rw [List.map_map,List.map_map]; rfl
 have kl:(f.map (·.1)).length <= 60:=by rw [List.length_map]; exact fl
 have kln:∀ k ∈ f.map (·.1),k.length = ms.length:=fun k hk=>by
  obtain ⟨p,hp,rfl⟩:=List.mem_map.mp hk
  exact (fo.it p hp).1.1
 have sl:(sortI (f.map (·.1))).length <= 60:=by rw [(sortI_perm _).length_eq]; exact kl
 have cA:∀ k ∈ (embB f).map (·.1),onlyI k:=fun k hk'=>by
  rw [hk] at hk'
  obtain ⟨k',_,rfl⟩:=List.mem_map.mp hk'
  exact onlyI_kI k'
 have cB:2 <= ((embB f).map (·.1)).length -> ∀ k ∈ (embB f).map (·.1),k ≠ []:=fun h2 k hk'=>by
  rw [hk] at h2 hk'
  rw [List.length_map] at h2
  obtain ⟨k',hk2,rfl⟩:=List.mem_map.mp hk'
  intro z
  exact keys_ne fo.nd kln h2 k' hk2 (kI_inj (b:=[]) z)
 have cC:((embB f).map (·.1)).length < 64:=by rw [hk,List.length_map]; omega
 have e1:(srtK ((embB f).map (·.1))).map keyD = (sortI (f.map (·.1))).map intsT:=by
  rw [hk,srtK_kI,List.map_map]
  apply List.map_congr_left
  intro k _
  exact (keyD_kI k).symm
 refine ⟨⟨cA,cB,cC⟩,?_⟩
 show dColl _ _ _ ((srtK ((embB f).map (·.1))).map keyD) _ _ _
 rw [e1]
 refine dColl_pre (fun pre acc ρ=>∃ k0 k1:List (List Int),∃ cs:List (List Int × Row),sortI (f.map (·.1)) = k0 ++ k1 /\ pre = k0.map intsT /\ acc = cs.map cellD /\ cs.length = k0.length /\ (∀ p ∈ cs,p ∈ f) /\ ∃ s:Sl,ρ = [s,.val (fzO (dvO (embB f)))]) (fun acc ρ hN=>?_) (fun pre d post acc ρ Y e hN hY=>?_) _ ⟨[],_,[],rfl,rfl,rfl,rfl,fun p hp=>by simp at hp,_,rfl⟩
 ·obtain ⟨k0,k1,cs,e3,e4,rfl,cl,hc,s,rfl⟩:=hN
  have:k1 = []:=by
   have:=congrArg List.length e4
   rw [e3] at this
   simp at this
   exact this
  subst this
  rw [List.append_nil] at e3
  rw [e3] at sl
  exact ⟨sz,h ⟨m,ms,cs⟩ ⟨m2,m6,ml,by show cs.length <= 60; omega,fun c hc'=>⟨(fo.it c (hc c hc')).1.1,(fo.it c (hc c hc')).2⟩⟩ (fun c hc'=>(fo.it c (hc c hc')).1)⟩
 ·obtain ⟨k0,k1,cs,e3,rfl,rfl,cl,hc,s,rfl⟩:=hN
  rw [e3,List.map_append] at e
  have e:=List.append_cancel_left e
  cases k1 with
  | nil=>simp at e
  | cons k k1 =>
   rw [List.map_cons] at e
   injection e with e4 e5
   subst e4
   have hk':k ∈ sortI (f.map (·.1)):=by rw [e3]; simp
   obtain ⟨p,hp,hpk,h4⟩:=row_of ((sortI_perm _).mem_iff.mp hk')
   rw [e3,List.length_append] at sl
   refine Br.t ⟨embB f,kI k,rowD p.2,fz_dv _,keyD_kI k,h4,sz,?_,hY _ _ ⟨k0 ++ [k],k1,cs ++ [p],by rw [e3]; simp,by simp,by rw [List.map_append,← hpk]; rfl,by simp [cl],fun q hq=>?_,_,rfl⟩⟩
   ·rw [List.length_map,cl]
    exact Nat.lt_of_le_of_lt (show k0.length <= 60 by omega) (by decide)
   ·rcases List.mem_append.mp hq with hq | hq
    ·exact hc q hq
    ·rw [List.mem_singleton.mp hq]; exact hp
def sayR (a b:Nat) (r:Row):D:=saidD (at_ r a).1 (at_ r a).2 (at_ r b).1 (at_ r b).2
def isS (s:Int) (d:D):Bool:=eqF d (.int s)
def four (d:D):Prop:=d = .non ∨ d = .int 1 ∨ d = .int (-1) ∨ d = .int 0
theorem sayR_four (a b:Nat) (r:Row):four (sayR a b r):=by
 unfold four sayR saidD
 split
 ·exact .inl rfl
 ·split
  ·exact .inr (.inl rfl)
  ·split
   ·exact .inr (.inr (.inl rfl))
   ·exact .inr (.inr (.inr rfl))
theorem four_fl {d:D} (h:four d):flD d:=by rcases h with rfl | rfl | rfl | rfl <;> trivial
theorem four_flat {d:D} (h:four d):flatD d = true:=by rcases h with rfl | rfl | rfl | rfl <;> rfl
theorem four_shp {d:D} (h:four d):shp d = true:=by rcases h with rfl | rfl | rfl | rfl <;> rfl
theorem four_eq {d:D} (h:four d) {s:Int}:eqD d (.int s) = isS s d:=by
 rcases h with rfl | rfl | rfl | rfl <;> rfl
def isKid (v w:List Int):Bool:=decide (w.length = v.length + 1) && decide (w.take v.length = v)
def wordsOf (cs:List (List Int × Row)) (a b:Nat) (v:List Int):List D:=(cs.filter fun c=>isKid v c.1).map fun c=>sayR a b c.2
theorem words_four {cs:List (List Int × Row)} {a b:Nat} {v:List Int}:∀ d ∈ wordsOf cs a b v,four d:=fun d hd=>by
 obtain ⟨c,_,rfl⟩:=List.mem_map.mp hd
 exact sayR_four a b c.2
theorem words_len {cs:List (List Int × Row)} {a b:Nat} {v:List Int}:(wordsOf cs a b v).length <= cs.length:=by
 unfold wordsOf
 rw [List.length_map]
 exact List.length_filter_le _ _
theorem kid_drop {v w:List Int} (h:w ≠ []):isKid v w = decide (v = w.dropLast):=by
 unfold isKid
 have hl:0 < w.length:=List.length_pos_iff.mpr h
 by_cases e:v = w.dropLast
 ·rw [decide_eq_true e]
  have l1:w.length = v.length + 1:=by rw [e,List.length_dropLast]; omega
  have l2:w.take v.length = v:=by rw [e,List.length_dropLast,List.dropLast_eq_take]
  rw [decide_eq_true l1,decide_eq_true l2]
  rfl
 ·rw [decide_eq_false e]
  by_cases l1:w.length = v.length + 1
  ·have l2:¬ w.take v.length = v:=fun z=>e (by rw [List.dropLast_eq_take,l1,Nat.add_sub_cancel,z])
   rw [decide_eq_false l2,Bool.and_false]
  ·rw [decide_eq_false l1,Bool.false_and]
theorem kid_nil (v:List Int):isKid v [] = false:=by
 unfold isKid
 rw [decide_eq_false (by simp),Bool.false_and]
def addD (k:List Int) (d:D):List (List Int × List D) -> List (List Int × List D)
 | []=>[(k,[d])]
 | p :: t=>if p.1 = k then (p.1,p.2 ++ [d]) :: t else p :: addD k d t
def lkD (g:List (List Int × List D)) (v:List Int):List D:=((g.find? fun p=>decide (p.1 = v)).map (·.2)).getD []
theorem lk_add (k v:List Int) (d:D):∀ g,lkD (addD k d g) v = if v = k then lkD g v ++ [d] else lkD g v
 | []=>by
  unfold addD lkD
  by_cases e:v = k
  ·rw [if_pos e,List.find?_cons_of_pos (by simpa using e.symm)]
   rfl
  ·rw [if_neg e,List.find?_cons_of_neg (by simpa using fun z=>e z.symm)]
 | p :: t=>by
  unfold addD
  by_cases e:p.1 = k
  ·rw [if_pos e]
   unfold lkD
   by_cases f:v = k
   ·rw [if_pos f,List.find?_cons_of_pos (by simpa using e.trans f.symm),List.find?_cons_of_pos (by simpa using e.trans f.symm)]
    rfl
   ·have ne:¬ p.1 = v:=fun z=>f (z.symm.trans e)
    rw [if_neg f,List.find?_cons_of_neg (by simpa using ne),List.find?_cons_of_neg (by simpa using ne)]
  ·rw [if_neg e]
   have ih:=lk_add k v d t
   unfold lkD at ih ⊢
   by_cases f:p.1 = v
   ·have nv:¬ v = k:=fun z=>e (f.trans z)
    rw [if_neg nv,List.find?_cons_of_pos (by simpa using f),List.find?_cons_of_pos (by simpa using f)]
   ·rw [List.find?_cons_of_neg (by simpa using f),List.find?_cons_of_neg (by simpa using f)]
    exact ih
def embD (g:List (List Int × List D)):List (List Key × List D):=g.map fun p=>(kI p.1,p.2)
def embDV (g:List (List Int × List D)):List (List Key × D):=g.map fun p=>(kI p.1,.lst p.2)
theorem embD_add (k:List Int) (d:D):∀ g,addL1 (kI k) d (embD g) = embD (addD k d g)
 | []=>rfl
 | p :: t=>by
  show addL1 (kI k) d ((kI p.1,p.2) :: embD t) = _
  unfold addL1 addD
  by_cases e:p.1 = k
  ·rw [if_pos (show (kI p.1,p.2).1 = kI k by rw [e]),if_pos e]
   rfl
  ·rw [if_neg (show ¬ (kI p.1,p.2).1 = kI k from fun z=>e (kI_inj z)),if_neg e,embD_add k d t]
   rfl
theorem add_lens (k:List Int) (d:D) {n:Nat}:∀ g:List (List Int × List D),g.length <= n -> (∀ p ∈ g,p.2.length <= n) -> (addD k d g).length <= n + 1 /\ ∀ p ∈ addD k d g,p.2.length <= n + 1:=by
 have key:∀ g:List (List Int × List D),(addD k d g).length <= g.length + 1 /\ ∀ p ∈ addD k d g,p.2.length <= 1 ∨ ∃ q ∈ g,p.2.length <= q.2.length + 1:=by
  intro g
  induction g with
  | nil=>exact ⟨Nat.le_refl _,fun p hp=>.inl (by rw [List.mem_singleton.mp hp]; exact Nat.le_refl _)⟩
  | cons q t ih =>
   unfold addD
   split
   ·refine ⟨by simp,fun p hp=>?_⟩
    rcases List.mem_cons.mp hp with rfl | hp
    ·exact .inr ⟨q,List.mem_cons_self,by simp⟩
    ·exact .inr ⟨p,List.mem_cons_of_mem _ hp,by omega⟩
   ·refine ⟨by simp; exact ih.1,fun p hp=>?_⟩
    rcases List.mem_cons.mp hp with rfl | hp
    ·exact .inr ⟨p,List.mem_cons_self,by omega⟩
    ·rcases ih.2 p hp with h | ⟨q',hq,h⟩
     ·exact .inl h
     ·exact .inr ⟨q',List.mem_cons_of_mem _ hq,h⟩
 intro g h1 h2
 have:=key g
 refine ⟨by omega,fun p hp=>?_⟩
 rcases this.2 p hp with h | ⟨q,hq,h⟩
 ·omega
 ·have:=h2 q hq
  omega
theorem find_embDV (g:List (List Int × List D)) (v:List Int):(findA (embDV g) (kI v)).getD (.lst []) = .lst (lkD g v):=by
 induction g with
 | nil=>rfl
 | cons p t ih =>
  unfold findA lkD embDV at ih ⊢
  by_cases e:p.1 = v
  ·rw [List.map_cons,List.find?_cons_of_pos (by simpa [kI_eq] using e),List.find?_cons_of_pos (by simpa using e)]
   rfl
  ·rw [List.map_cons,List.find?_cons_of_neg (by simpa [kI_eq] using e),List.find?_cons_of_neg (by simpa using e)]
   exact ih
theorem fz_dlD (g:List (List Int × List D)):fzO (dlO (embD g)) = .dT ((embDV g).map (·.1)) ((embDV g).map (·.2)):=by
 unfold dlO embD embDV
 simp only [fzO]
 refine congr (congrArg D.dT ?_) ?_
 ·rw [List.map_map,List.map_map]
  rfl
 ·rw [fzOs_map,List.map_map,List.map_map,List.map_map]
  apply List.map_congr_left
  intro p _
  simp only [Function.comp,fzO,fz_val]
def kidsG (cs:List (List Int × Row)) (a b:Nat):List (List Int × List D):=cs.foldl (fun g c=>if c.1 = [] then g else addD c.1.dropLast (sayR a b c.2) g) []
theorem kids_snoc (cs:List (List Int × Row)) (c:List Int × Row) (a b:Nat):kidsG (cs ++ [c]) a b = if c.1 = [] then kidsG cs a b else addD c.1.dropLast (sayR a b c.2) (kidsG cs a b):=by
 unfold kidsG
 rw [List.foldl_append]
 rfl
theorem snoc_ind {α:Type} {C:List α -> Prop} (h0:C []) (hs:∀ l x,C l -> C (l ++ [x])):∀ l,C l:=by
 intro l
 rw [← List.reverse_reverse l]
 induction l.reverse with
 | nil=>exact h0
 | cons x t ih =>
  rw [List.reverse_cons]
  exact hs _ _ ih
theorem kids_ok (a b:Nat) (v:List Int):∀ cs,lkD (kidsG cs a b) v = wordsOf cs a b v:=by
 refine snoc_ind rfl fun cs c ih=>?_
 rw [kids_snoc]
 unfold wordsOf at ih ⊢
 rw [List.filter_append,List.map_append,← ih]
 by_cases e:c.1 = []
 ·rw [if_pos e]
  have:[c].filter (fun c=>isKid v c.1) = []:=by simp [e,kid_nil]
  rw [this]
  simp
 ·rw [if_neg e,lk_add]
  have hk:=kid_drop (v:=v) e
  by_cases f:v = c.1.dropLast
  ·rw [if_pos f]
   have:[c].filter (fun c=>isKid v c.1) = [c]:=by rw [List.filter_cons_of_pos (by rw [hk]; simpa using f)]; rfl
   rw [this]
   rfl
  ·rw [if_neg f]
   have:[c].filter (fun c=>isKid v c.1) = []:=by simp [hk,f]
   rw [this]
   simp
theorem kids_len (a b:Nat):∀ cs:List (List Int × Row),(kidsG cs a b).length <= cs.length /\ ∀ p ∈ kidsG cs a b,p.2.length <= cs.length:=by
 refine snoc_ind ⟨Nat.le_refl _,fun p hp=>by simp [kidsG] at hp⟩ fun cs c ih=>?_
 rw [kids_snoc,List.length_append]
 split
 ·exact ⟨Nat.le_trans ih.1 (by simp),fun p hp=>Nat.le_trans (ih.2 p hp) (by simp)⟩
 ·exact add_lens _ _ _ ih.1 ih.2
theorem said_ok {n m:Nat} {r:Row} (o:RowN n m r) (hn:n <= 7000) {a b:Int} (a0:0 <= a) (a1:a < m) (b0:0 <= b) (b1:b < m) {Q:D -> Prop} (q:Q (sayR a.toNat b.toNat r)):gSaid [pairD (at_ r a.toNat),pairD (at_ r b.toNat)] Q:=by
 have ca:=(at_get o (h:=a.toNat) (by omega)).2
 have cb:=(at_get o (h:=b.toNat) (by omega)).2
 exact ⟨⟨ca.bt.mono hn,ca.bw.mono hn,cb.bt.mono hn,cb.bw.mono hn⟩,q⟩
structure CsOk (m:Nat) (cs:List (List Int × Row)):Prop where
 rows:∀ c ∈ cs,RowN 200 m c.2
 len:cs.length <= 600
structure AbOk (m:Nat) (a b:Int):Prop where
 a0:0 <= a
 a1:a < m
 b0:0 <= b
 b1:b < m
 ne:a ≠ b
theorem AbOk.swap {m:Nat} {a b:Int} (h:AbOk m a b):AbOk m b a:=⟨h.b0,h.b1,h.a0,h.a1,fun z=>h.ne z.symm⟩
def gSok:DSp:=fun ds Q=>∃ (m:Nat) (cs:List (List Int × Row)) (a b:Int),ds = [.lst (cs.map cellD),.int a,.int b] /\ CsOk m cs /\ AbOk m a b /\ Q (fzO (dlO (embD (kidsG cs a.toNat b.toNat))))
theorem m_says_of_kids:MonoS gSok:=fun ds P P' f ⟨m,cs,a,b,x,y,z,h⟩=>⟨m,cs,a,b,x,y,z,f _ h⟩
theorem cut_last {v:List Int}:cutD (v.map D.int) none (some (-1)) = v.dropLast.map D.int:=by
 unfold cutD
 have s1:HT.sIx (v.map D.int).length 0 none = 0:=rfl
 have s2:HT.sIx (v.map D.int).length (v.map D.int).length (some (-1)) = v.length - 1:=by
  rw [List.length_map]
  unfold HT.sIx
  simp
  omega
 rw [s1,s2,List.drop_zero,Nat.sub_zero,List.dropLast_eq_take,List.map_take]
theorem g_says_of_kids (T:Tx K mg):FnOk P w K mg base CX0 2 T.f_says_of_kids T.fd_says_of_kids ["found","a","b"] (spD K 3 gSok):=by
 refine fnD (k:=1) T.d_says_of_kids.F sc_says_of_kids (fun cdv A outer s H E hr=>(dss_cons (ds_newD (i:=3) sc_says_of_kids.nd rfl (by first | exact Or.inl rfl | exact Or.inr rfl))
   (dss_mid (ds_for PassesOwn.never rfl (di_list (de_var 0 (pv 0))) (dg_tup (n:=2) rfl (dgs_cons (dg_name (i:=4) sc_says_of_kids.nd rfl (by first | exact Or.inl rfl | exact Or.inr rfl)) (dgs_cons (dg_name (i:=5) sc_says_of_kids.nd rfl (by first | exact Or.inl rfl | exact Or.inr rfl)) dgs_nil))) (dss_one (ds_if (dt_cmp od_gt (de_callB cd_len rfl T.z_len PySem.boot_len (da_cons (de_var 4 (pv 4)) da_nil)) de_int (nomark _)) (dss_one (ds_sdaE hr (pv 3) (de_slA (de_var 4 (pv 4)) do_none (do_some (de_un ud_neg de_int))) (de_call (g_said T) m_said (hr.mono (by decide)) rfl T.d_said.m T.d_said.F.kp T.d_said.b (da_cons (de_ix (de_var 5 (pv 5)) (de_var 1 (pv 1)) (fun _ _=>rfl)) (da_cons (de_ix (de_var 5 (pv 5)) (de_var 2 (pv 2)) (fun _ _=>rfl)) da_nil))))) dss_nil)))
   (dss_one (ds_ret (de_var 3 (pv 3))))))) (fun ds Q hl h=>?_)
 obtain ⟨m,cs,a,b,rfl,co,ab,h⟩:=h
 have c6:=co.len
 refine ⟨fun ρ=>∃ s t:Sl,ρ = [.val (.lst (cs.map cellD)),.val (.int a),.val (.int b),.obj (dlO (embD (kidsG cs a.toNat b.toNat))),s,t],?_,?_⟩
 ·refine dLoop_pre (fun pre ρ=>∃ c0 c1:List (List Int × Row),cs = c0 ++ c1 /\ pre = c0.map cellD /\ ∃ s t:Sl,ρ = [.val (.lst (cs.map cellD)),.val (.int a),.val (.int b),.obj (dlO (embD (kidsG c0 a.toNat b.toNat))),s,t]) (fun ρ hN=>?_) (fun pre d post ρ X e hN hX=>?_) _ ⟨[],cs,rfl,rfl,_,_,rfl⟩
  ·obtain ⟨c0,c1,rfl,e,s,t,rfl⟩:=hN
   have:c1 = []:=by
    have:=congrArg List.length e
    simp at this
    exact this
   subst this
   rw [List.append_nil]
   exact ⟨s,t,rfl⟩
  ·obtain ⟨c0,c1,rfl,rfl,s,t,rfl⟩:=hN
   rw [List.map_append] at e
   have e:=List.append_cancel_left e
   cases c1 with
   | nil=>simp at e
   | cons c c1 =>
    rw [List.map_cons] at e
    injection e with e1 e2
    subst e1
    have ro:=co.rows c (by simp)
    have kl:=kids_len a.toNat b.toNat c0
    rw [List.length_append] at c6
    have el:((c.1.map D.int).length:Int) = c.1.length:=by rw [List.length_map]
    refine ⟨rfl,Br.di (fun z=>?_) (fun z=>?_)⟩
    ·have ne:c.1 ≠ []:=by
      intro e
      rw [e] at el z
      simp at z
     have kd:D.tup (cutD (c.1.map D.int) none (some (-1))) = keyD (kI c.1.dropLast):=by rw [cut_last,← keyD_kI]; rfl
     refine ⟨trivial,embD (kidsG c0 a.toNat b.toNat),kI c.1.dropLast,rfl,kd,?_,fun p hp=>?_,fun vs=>row_at ro ab.a0 ab.a1 (row_at ro ab.b0 ab.b1 ⟨rfl,said_ok ro (by decide) ab.a0 ab.a1 ab.b0 ab.b1 ⟨⟨four_fl (sayR_four _ _ _),rfl⟩,?_⟩⟩)⟩
     ·unfold embD
      rw [List.length_map]
      exact Nat.lt_of_le_of_lt (show _ <= 600 by omega) (by decide)
     ·obtain ⟨q,hq,rfl⟩:=List.mem_map.mp hp
      exact Nat.lt_of_le_of_lt (show q.2.length <= 600 from Nat.le_trans (kl.2 q hq) (by omega)) (by decide)
     ·rw [embD_add]
      have es:kidsG (c0 ++ [c]) a.toNat b.toNat = addD c.1.dropLast (sayR a.toNat b.toNat c.2) (kidsG c0 a.toNat b.toNat):=by rw [kids_snoc,if_neg ne]
      exact hX _ ⟨c0 ++ [c],c1,by simp,by simp,.val (intsT c.1),.val (rowD c.2),by rw [es]; rfl⟩
    ·have en:c.1 = []:=by
      apply Classical.byContradiction
      intro ne
      have:=List.length_pos_iff.mpr ne
      omega
     have es:kidsG (c0 ++ [c]) a.toNat b.toNat = kidsG c0 a.toNat b.toNat:=by rw [kids_snoc,if_pos en]
     exact hX _ ⟨c0 ++ [c],c1,by simp,by simp,.val (intsT c.1),.val (rowD c.2),by rw [es]; rfl⟩
 ·rintro _ ⟨s,t,rfl⟩
  exact h
def saidR (a b:Nat) (r:Row):D:=saidD (at_ r a).1 (at_ r a).2 (at_ r b).1 (at_ r b).2
theorem coll_said {g:DSp} (hg:∀ (c d:Int × Int) (Q:D -> Prop),Cnt 200 c.1 c.2 -> Cnt 200 d.1 d.2 -> Q (saidD c.1 c.2 d.1 d.2) -> g [pairD c,pairD d] Q) {m:Nat} {t:List Row} (ho:∀ r ∈ t,RowOk m r) (hl:t.length <= 1000) {a b:Int} (a0:0 <= a) (a1:a < m) (b0:0 <= b) (b1:b < m) {s:Sl} {Q:List D -> Prop} (q:Q (t.map (saidR a.toNat b.toNat))) :
  dColl (dgName 0) dNoTest (dCall 2 g (daCons (dOp gIx (dVar 0) (dVar 1)) (daCons (dOp gIx (dVar 0) (dVar 2)) daNil))) (t.map rowD) [] [s,.val (.int a),.val (.int b)] Q:=by
 refine dColl_pre (fun pre acc ρ=>∃ t0 t1:List Row,t = t0 ++ t1 /\ pre = t0.map rowD /\ acc = t0.map (saidR a.toNat b.toNat) /\ ∃ s,ρ = [s,.val (.int a),.val (.int b)]) (fun acc ρ hN=>?_) (fun pre d post acc ρ Y e hN hY=>?_) _ ⟨[],t,rfl,rfl,rfl,_,rfl⟩
 ·obtain ⟨t0,t1,rfl,e,rfl,_⟩:=hN
  have:t1 = []:=by
   have:=congrArg List.length e
   simp at this
   exact this
  subst this
  simpa using q
 ·obtain ⟨t0,t1,rfl,rfl,rfl,s,rfl⟩:=hN
  rw [List.map_append] at e
  have e:=List.append_cancel_left e
  cases t1 with
  | nil=>simp at e
  | cons r t1 =>
   rw [List.map_cons] at e
   injection e with e1 e2
   subst e1
   have o:=ho r (by simp)
   refine Br.t (row_at o a0 a1 (row_at o b0 b1 ⟨rfl,hg _ _ _ (at_get o (by omega)).2 (at_get o (by omega)).2 ⟨?_,hY _ _ ⟨t0 ++ [r],t1,by simp,by simp,by simp [saidR],_,rfl⟩⟩⟩))
   rw [List.length_map]
   have:t0.length <= 1000:=by rw [List.length_append] at hl; omega
   exact Nat.lt_of_le_of_lt this (by decide)
theorem said_okT (c d:Int × Int) (Q:D -> Prop) (hc:Cnt 200 c.1 c.2) (hd:Cnt 200 d.1 d.2) (q:Q (saidD c.1 c.2 d.1 d.2)):gSaid [pairD c,pairD d] Q :=
 ⟨⟨hc.bt.mono (by decide),hc.bw.mono (by decide),hd.bt.mono (by decide),hd.bw.mono (by decide)⟩,q⟩
def gSays:DSpN:=fun ds _ L=>match ds with
 | [.lst xs,.int a,.int b]=>∃ (n:Nat) (t:List Row),xs = t.map rowD /\ Tbl n t /\ (0 <= a /\ a < n /\ 0 <= b /\ b < n /\ a ≠ b) /\ L (t.map (saidR a.toNat b.toNat))
 | _=>False
theorem mN_says:MonoN gSays:=fun ds P P' L L' f fl h=>by
 unfold gSays at h ⊢
 split at h
 ·obtain ⟨n,t,a,b,c,h⟩:=h
  exact ⟨n,t,a,b,c,fl _ h⟩
 ·exact h.elim
theorem gN_says (T:Tx K mg):FnOk P w K mg base CX0 5 T.f_says T.fd_says ["table","a","b"] (spDN K 3 gSays):=by
 refine fnDN (k:=4) T.d_says.F sc_says (fun cdv A outer s H E hr=>(psn_cons (ds_expr (de_call (g_check_pair T) m_check_pair (hr.mono (by decide)) rfl T.d_check_pair.m T.d_check_pair.F.kp T.d_check_pair.b (da_cons (de_call (g_houses_of T) m_houses_of (hr.mono (by decide)) rfl T.d_houses_of.m T.d_houses_of.F.kp T.d_houses_of.b (da_cons (de_var 0 (pv 0)) da_nil)) (da_cons (de_var 1 (pv 1)) (da_cons (de_var 2 (pv 2)) da_nil)))))
   (psn_ret (PCD.pld (dl_comp (N':=["part","a","b"]) rfl rfl (by decide +kernel) rfl (.own (.cap (j:=1) rfl (by first | exact Or.inl rfl | exact Or.inr rfl) rfl (.cap (j:=2) rfl (by first | exact Or.inl rfl | exact Or.inr rfl) rfl .nil))) (by decide +kernel) (di_list (de_var 0 (pv 0))) (fun B=>(dg_name (i:=0) (show List.Nodup (α:=PySem.Str) ["part","a","b"] by decide +kernel) rfl (by first | exact Or.inl rfl | exact Or.inr rfl))) (fun B=>dts_nil) (fun B=>(de_call (g_said T) m_said (hr.mono (by decide)) rfl T.d_said.m T.d_said.F.kp T.d_said.b (da_cons (de_ix (de_var 0 (pv 0)) (de_var 1 (pv 1)) (fun _ _=>rfl)) (da_cons (de_ix (de_var 0 (pv 0)) (de_var 2 (pv 2)) (fun _ _=>rfl)) da_nil))))))))) (fun ds Q L hl h=>?_)
 unfold gSays at h
 split at h
 case h_2=>exact h.elim
 obtain ⟨n,t,rfl,o,⟨a0,a1,b0,b1,ab⟩,h⟩:=h
 refine ⟨rfl,tbl_houses o ⟨rfl,⟨a0,a1,b0,b1,ab⟩,?_⟩⟩
 exact coll_said said_okT o.rows (Nat.le_trans o.p60 (by decide)) a0 a1 b0 b1 h
def openB:D -> Bool
 | .non=>true
 | .int i=>i == 0
 | _=>false
def tkT (s:Int) (x:D):D:=if eqD x (.int s) = true then .tup [.str "kept",.int s] else .tup [.str "turned",.int s,x]
def turnD (told:List D) (x:D):D :=
 if told.all (isS 1) = true then tkT 1 x else if told.all (isS (-1)) = true then tkT (-1) x else
 match told.findIdx? openB with
 | some j=>.tup [.str "open",.int j]
 | none=>.tup [.str "apart",.int (told.findIdx (isS 1)),.int (told.findIdx (isS (-1)))]
theorem saidR_four (a b:Nat) (r:Row):saidR a b r = .non ∨ saidR a b r = .int 1 ∨ saidR a b r = .int (-1) ∨ saidR a b r = .int 0:=by
 unfold saidR saidD
 split
 ·exact .inl rfl
 ·split
  ·exact .inr (.inl rfl)
  ·split
   ·exact .inr (.inr (.inl rfl))
   ·exact .inr (.inr (.inr rfl))
theorem said_flat4 (t w t' w':Int):(∃ i,saidD t w t' w' = .int i) ∨ saidD t w t' w' = .non:=by
 unfold saidD
 split
 ·exact .inr rfl
 ·split
  ·exact .inl ⟨_,rfl⟩
  ·split <;> exact .inl ⟨_,rfl⟩
abbrev told (t:List Row) (a b:Nat):List D:=t.map (saidR a b)
theorem told_flat (t:List Row) (a b:Nat):(told t a b).all flatD = true:=by
 rw [List.all_eq_true]
 intro d hd
 obtain ⟨r,_,rfl⟩:=List.mem_map.mp hd
 rcases saidR_four a b r with e | e | e | e <;> (rw [e]; rfl)
def gTKt:DSp:=fun ds Q=>match ds with
 | [.int s,x]=>((∃ i,x = .int i) ∨ x = .non) /\ Q (tkT s x)
 | _=>False
theorem m_turned_or_kept:MonoS gTKt:=fun ds P P' f h=>by
 unfold gTKt at h ⊢
 split at h
 ·exact ⟨h.1,f _ h.2⟩
 ·exact h.elim
theorem shp_flat {x:D} (h:(∃ i,x = .int i) ∨ x = .non):shp x = true:=by
 rcases h with ⟨i,rfl⟩ | rfl
 ·exact Shp.shp (n:=0) .int
 ·exact Shp.shp (n:=0) .non
theorem g_turned_or_kept (T:Tx K mg):FnOk P w K mg base CX0 1 T.f_turned_or_kept T.fd_turned_or_kept ["number","whole"] (spD K 2 gTKt):=by
 refine fnD (k:=0) T.d_turned_or_kept.F sc_turned_or_kept (fun cdv A outer s H E hr=>(dss_cons (ds_if (dt_cmp (od_eq hr) (de_var 1 (pv 1)) (de_var 0 (pv 0)) (nomark _)) (dss_one (ds_ret (de_tup (da_cons de_str (da_cons (de_var 0 (pv 0)) da_nil))))) dss_nil)
   (dss_one (ds_ret (de_tup (da_cons de_str (da_cons (de_var 0 (pv 0)) (da_cons (de_var 1 (pv 1)) da_nil)))))))) (fun ds Q hl h=>?_)
 unfold gTKt at h
 split at h
 case h_2=>exact h.elim
 rename_i s x
 obtain ⟨hx,h⟩:=h
 unfold tkT at h
 refine ⟨⟨shp_flat hx,rfl⟩,fun e=>?_,fun e=>?_⟩
 ·have e:eqD x (.int s) = true:=e
  rw [if_pos e] at h
  exact ⟨sz,h⟩
 ·have e:eqD x (.int s) = false:=e
  rw [if_neg (by rw [e]; exact Bool.false_ne_true)] at h
  exact ⟨sz,h⟩
theorem sum_bd {n:Nat}:∀ {ns:List Int},(∀ i ∈ ns,Bd n i) -> ∀ {k:Nat},ns.length <= 2 ^ k -> Bd (n + k) ns.sum:=by
 have key:∀ ns:List Int,(∀ i ∈ ns,Bd n i) -> ns.sum.natAbs <= ns.length * (2 ^ n - 1):=by
  intro ns
  induction ns with
  | nil=>intro _; simp
  | cons a r ih =>
   intro h
   have h1:=ih fun i hi=>h i (List.mem_cons_of_mem _ hi)
   have h2:a.natAbs < 2 ^ n:=h a List.mem_cons_self
   rw [List.sum_cons,List.length_cons,Nat.succ_mul]
   have:=Int.natAbs_add_le a r.sum
   omega
 intro ns h k hk
 have h1:=key ns h
 unfold Bd
 have h2:ns.length * (2 ^ n - 1) <= 2 ^ k * (2 ^ n - 1):=Nat.mul_le_mul_right _ hk
 have h3:2 ^ k * (2 ^ n - 1) < 2 ^ k * 2 ^ n:=Nat.mul_lt_mul_of_pos_left (by have:=Nat.two_pow_pos n; omega) (Nat.two_pow_pos k)
 rw [← Nat.pow_add,Nat.add_comm k n] at h3
 omega
theorem whole_cnt {m:Nat} {t:List Row} (o:Tbl m t) {h:Nat} (hh:h < m):0 <= (sumP (col t h)).2 /\ (sumP (col t h)).2 <= (sumP (col t h)).1 /\ Bd 300 (sumP (col t h)).1 /\ Bd 300 (sumP (col t h)).2:=by
 have hc:∀ c ∈ col t h,Cnt 200 c.1 c.2:=fun c hc=>by
  obtain ⟨r,hr,rfl⟩:=List.mem_map.mp hc
  exact (at_get (o.rows r hr) hh).2
 have hl:(col t h).length <= 2 ^ 10:=by
  unfold col
  rw [List.length_map]
  exact Nat.le_trans o.p60 (by decide)
 have s1:0 <= ((col t h).map (·.2)).sum /\ ((col t h).map (·.2)).sum <= ((col t h).map (·.1)).sum:=by
  generalize col t h = cs at hc
  induction cs with
  | nil=>simp
  | cons c r ih =>
   have:=ih fun d hd=>hc d (List.mem_cons_of_mem _ hd)
   have h1:=(hc c List.mem_cons_self).lo
   have h2:=(hc c List.mem_cons_self).hi
   simp only [List.map_cons,List.sum_cons]
   omega
 refine ⟨s1.1,s1.2,(sum_bd (n:=200) (k:=10) (fun i hi=>?_) (by rw [List.length_map]; exact hl)).mono (by decide),(sum_bd (n:=200) (k:=10) (fun i hi=>?_) (by rw [List.length_map]; exact hl)).mono (by decide)⟩
 ·obtain ⟨c,hc',rfl⟩:=List.mem_map.mp hi
  exact (hc c hc').bt
 ·obtain ⟨c,hc',rfl⟩:=List.mem_map.mp hi
  exact (hc c hc').bw
def wholeS (t:List Row) (a b:Nat):D:=saidD (sumP (col t a)).1 (sumP (col t a)).2 (sumP (col t b)).1 (sumP (col t b)).2
theorem sums_at {m:Nat} {t:List Row} {h:Int} {Q:D -> Prop} (h0:0 <= h) (h1:h < m) (q:Q (pairD (sumP (col t h.toNat)))):opt (atI ((sums t m).map pairD) h) Q:=by
 refine opt_at h0 ?_ q
 unfold sums
 rw [List.getElem?_map,List.getElem?_map,List.getElem?_range (by omega)]
 rfl
def gTurning:DSp:=fun ds Q=>match ds with
 | [.lst xs,.int a,.int b]=>∃ (n:Nat) (t:List Row),xs = t.map rowD /\ Tbl n t /\ (0 <= a /\ a < n /\ 0 <= b /\ b < n /\ a ≠ b) /\ Q (turnD (told t a.toNat b.toNat) (wholeS t a.toNat b.toNat))
 | _=>False
theorem m_turning:MonoS gTurning:=fun ds P P' f h=>by
 unfold gTurning at h ⊢
 split at h
 ·obtain ⟨n,t,a,b,c,h⟩:=h
  exact ⟨n,t,a,b,c,f _ h⟩
 ·exact h.elim
def gSaysD:DSp:=fun ds Q=>match ds with
 | [.lst xs,.int a,.int b]=>∃ (n:Nat) (t:List Row),xs = t.map rowD /\ Tbl n t /\ (0 <= a /\ a < n /\ 0 <= b /\ b < n /\ a ≠ b) /\ Q (.lst (told t a.toNat b.toNat))
 | _=>False
theorem m_says:MonoS gSaysD:=fun ds P P' f h=>by
 unfold gSaysD at h ⊢
 split at h
 ·obtain ⟨n,t,a,b,c,h⟩:=h
  exact ⟨n,t,a,b,c,f _ h⟩
 ·exact h.elim
theorem g_says (T:Tx K mg):FnOk P w K mg base CX0 5 T.f_says T.fd_says ["table","a","b"] (spD K 3 gSaysD):=DL.FnOk.asD (gN_says T) (fun ds Q h=>by
 unfold gSaysD at h
 unfold gSays
 split at h
 ·exact h
 ·exact h.elim) mN_says
theorem count_all {ds:List D} {s:Int}:(eqD (.int ((ds.countP fun z=>eqF z (.int s):Nat):Int)) (.int (ds.length:Int)) = true) ↔ ds.all (isS s) = true:=by
 rw [eqD_int,decide_eq_true_eq]
 have h:((ds.countP fun z=>eqF z (.int s):Nat):Int) = (ds.length:Int) ↔ (ds.countP fun z=>eqF z (.int s)) = ds.length:=by omega
 rw [h,List.countP_eq_length,List.all_eq_true]
 rfl
theorem find_other {t:List Row} {a b:Nat} (ho:(told t a b).findIdx? openB = none) {s:Int} (hs:s = 1 ∨ s = -1) (hn:¬ (told t a b).all (isS (-s)) = true) :
  ∃ z,(told t a b)[(told t a b).findIdx (isS s)]? = some z /\ isS s z = true:=by
 have hex:∃ d ∈ told t a b,isS s d = true:=by
  rw [List.all_eq_true] at hn
  have:∃ d ∈ told t a b,¬ isS (-s) d = true:=by
   apply Classical.byContradiction
   intro h
   exact hn fun d hd=>Classical.byContradiction fun q=>h ⟨d,hd,q⟩
  obtain ⟨d,hd,q⟩:=this
  refine ⟨d,hd,?_⟩
  have hop:openB d = false:=by
   have:=List.findIdx?_eq_none_iff.mp ho d hd
   simpa using this
  obtain ⟨r,_,rfl⟩:=List.mem_map.mp hd
  rcases saidR_four a b r with e | e | e | e <;> rw [e] at q hop ⊢
  ·exact absurd hop (by decide)
  ·rcases hs with rfl | rfl
   ·rfl
   ·exact absurd rfl q
  ·rcases hs with rfl | rfl
   ·exact absurd rfl q
   ·rfl
  ·exact absurd hop (by decide)
 have hlt:=List.findIdx_lt_length.mpr hex
 exact ⟨(told t a b)[(told t a b).findIdx (isS s)],List.getElem?_eq_getElem hlt,List.findIdx_getElem⟩
theorem idx_ok {t:List Row} {a b:Nat} (ho:(told t a b).findIdx? openB = none) {s:Int} (hs:s = 1 ∨ s = -1) (hn:¬ (told t a b).all (isS (-s)) = true) {Q:D -> Prop} (q:Q (.int ((told t a b).findIdx (isS s):Nat))) :
  gIdx1 (.lst (told t a b)) (.int s) Q:=by
 refine ⟨⟨rfl,told_flat t a b⟩,(told t a b).findIdx (isS s),⟨find_other ho hs hn,fun m z hm hz=>?_⟩,q⟩
 have:=List.not_of_lt_findIdx hm
 have hz':=List.getElem?_eq_some_iff.mp hz
 obtain ⟨hl,e⟩:=hz'
 subst e
 have:isS s (told t a b)[m] = false:=by simpa using this
 exact this
theorem g_turning (T:Tx K mg):FnOk P w K mg base CX0 6 T.f_turning T.fd_turning ["table","a","b"] (spD K 3 gTurning):=by
 refine fnD (k:=5) T.d_turning.F sc_turning (fun cdv A outer s H E hr=>(dss_cons (ds_set (i:=3) sc_turning.nd rfl (by first | exact Or.inl rfl | exact Or.inr rfl) (de_call (g_says T) m_says (hr.mono (by decide)) rfl T.d_says.m T.d_says.F.kp T.d_says.b (da_cons (de_var 0 (pv 0)) (da_cons (de_var 1 (pv 1)) (da_cons (de_var 2 (pv 2)) da_nil)))))
   (dss_cons (ds_set (i:=4) sc_turning.nd rfl (by first | exact Or.inl rfl | exact Or.inr rfl) (de_call (g_sums_of T) m_sums_of (hr.mono (by decide)) rfl T.d_sums_of.m T.d_sums_of.F.kp T.d_sums_of.b (da_cons (de_var 0 (pv 0)) da_nil)))
   (dss_mid (ds_for PassesOwn.never rfl (di_tup (de_tup (da_cons de_int (da_cons (de_un ud_neg de_int) da_nil)))) (dg_name (i:=5) sc_turning.nd rfl (by first | exact Or.inl rfl | exact Or.inr rfl)) (dss_one (ds_if (dt_cmp (od_eq hr) (de_m1 m1_count (de_var 3 (pv 3)) (de_var 5 (pv 5))) (de_callB cd_len rfl T.z_len PySem.boot_len (da_cons (de_var 3 (pv 3)) da_nil)) (nomark _)) (dss_one (ds_ret (de_call (g_turned_or_kept T) m_turned_or_kept (hr.mono (by decide)) rfl T.d_turned_or_kept.m T.d_turned_or_kept.F.kp T.d_turned_or_kept.b (da_cons (de_var 5 (pv 5)) (da_cons (de_call (g_said T) m_said (hr.mono (by decide)) rfl T.d_said.m T.d_said.F.kp T.d_said.b (da_cons (de_ix (de_var 4 (pv 4)) (de_var 1 (pv 1)) (fun _ _=>rfl)) (da_cons (de_ix (de_var 4 (pv 4)) (de_var 2 (pv 2)) (fun _ _=>rfl)) da_nil))) da_nil))))) dss_nil)))
   (dss_mid (ds_for PassesOwn.never rfl (di_enum rfl T.z_enumerate (da_cons (de_var 3 (pv 3)) da_nil)) (dg_tup (n:=2) rfl (dgs_cons (dg_name (i:=6) sc_turning.nd rfl (by first | exact Or.inl rfl | exact Or.inr rfl)) (dgs_cons (dg_name (i:=5) sc_turning.nd rfl (by first | exact Or.inl rfl | exact Or.inr rfl)) dgs_nil))) (dss_one (ds_if (PWD.pt (dw_or (dt_cmp od_isN (de_var 5 (pv 5)) de_non (nomark _)) (dw_or1 (dt_cmp (od_eq hr) (de_var 5 (pv 5)) de_int (nomark _))))) (dss_one (ds_ret (de_tup (da_cons de_str (da_cons (de_var 6 (pv 6)) da_nil))))) dss_nil)))
   (dss_one (ds_ret (de_tup (da_cons de_str (da_cons (de_m1 m1_index (de_var 3 (pv 3)) de_int) (da_cons (de_m1 m1_index (de_var 3 (pv 3)) (de_un ud_neg de_int)) da_nil))))))))))) (fun ds Q hl h=>?_)
 unfold gTurning at h
 split at h
 case h_2=>exact h.elim
 rename_i a b
 obtain ⟨n,t,rfl,o,ab,h⟩:=h
 have a0:=ab.1
 have a1:=ab.2.1
 have b0:=ab.2.2.1
 have b1:=ab.2.2.2.1
 have wa:=whole_cnt o (h:=a.toNat) (by omega)
 have wb:=whole_cnt o (h:=b.toNat) (by omega)
 have tf:=told_flat t a.toNat b.toNat
 have sw:=said_flat4 (sumP (col t a.toNat)).1 (sumP (col t a.toNat)).2 (sumP (col t b.toNat)).1 (sumP (col t b.toNat)).2
 refine ⟨rfl,n,t,rfl,o,ab,rfl,n,t,rfl,o,?_⟩
 refine ⟨fun ρ=>(¬ (told t a.toNat b.toNat).all (isS 1) = true /\ ¬ (told t a.toNat b.toNat).all (isS (-1)) = true) /\ ∃ s5 s6:Sl,ρ = [.val (.lst (t.map rowD)),.val (.int a),.val (.int b),.val (.lst (told t a.toNat b.toNat)),.val (rowD (sums t n)),s5,s6],?_,?_⟩
 ·have bs:∀ {c:Int × Int},(0 <= c.2 /\ c.2 <= c.1 /\ Bd 300 c.1 /\ Bd 300 c.2) -> Bd 7000 c.1 /\ Bd 7000 c.2:=fun h=>⟨h.2.2.1.mono (by decide),h.2.2.2.mono (by decide)⟩
  have sd:∀ {Q:D -> Prop},Q (wholeS t a.toNat b.toNat) -> gSaid [pairD (sumP (col t a.toNat)),pairD (sumP (col t b.toNat))] Q:=fun q=>⟨⟨(bs wa).1,(bs wa).2,(bs wb).1,(bs wb).2⟩,q⟩
  refine ⟨sz,trivial,⟨rfl,tf⟩,⟨rfl,rfl⟩,fun z=>?_,fun z=>⟨trivial,⟨rfl,tf⟩,⟨rfl,rfl⟩,fun z'=>?_,fun z'=>?_⟩⟩
  ·have z:=count_all.mp z
   have e:turnD (told t a.toNat b.toNat) (wholeS t a.toNat b.toNat) = tkT 1 (wholeS t a.toNat b.toNat):=by unfold turnD; rw [if_pos z]
   rw [e] at h
   exact sums_at a0 a1 (sums_at b0 b1 ⟨rfl,sd ⟨rfl,sw,h⟩⟩)
  ·have z':=count_all.mp z'
   have z:¬ (told t a.toNat b.toNat).all (isS 1) = true:=fun q=>by rw [count_all.mpr q] at z; cases z
   have e:turnD (told t a.toNat b.toNat) (wholeS t a.toNat b.toNat) = tkT (-1) (wholeS t a.toNat b.toNat):=by unfold turnD; rw [if_neg z,if_pos z']
   rw [e] at h
   exact sums_at a0 a1 (sums_at b0 b1 ⟨rfl,sd ⟨rfl,sw,h⟩⟩)
  ·have z:¬ (told t a.toNat b.toNat).all (isS 1) = true:=fun q=>by rw [count_all.mpr q] at z; cases z
   have z':¬ (told t a.toNat b.toNat).all (isS (-1)) = true:=fun q=>by rw [count_all.mpr q] at z'; cases z'
   exact ⟨⟨z,z'⟩,_,_,rfl⟩
 ·rintro _ ⟨⟨n1,n2⟩,s5,s6,rfl⟩
  refine ⟨fun ρ=>(told t a.toNat b.toNat).findIdx? openB = none /\ ∃ s5 s6:Sl,ρ = [.val (.lst (t.map rowD)),.val (.int a),.val (.int b),.val (.lst (told t a.toNat b.toNat)),.val (rowD (sums t n)),s5,s6],?_,?_⟩
  ·refine dLoop_enum (fun i ρ=>(∀ m z,m < i -> (told t a.toNat b.toNat)[m]? = some z -> openB z = false) /\ ∃ s5 s6:Sl,ρ = [.val (.lst (t.map rowD)),.val (.int a),.val (.int b),.val (.lst (told t a.toNat b.toNat)),.val (rowD (sums t n)),s5,s6]) ?_ ?_ _ ⟨fun m z hm=>absurd hm (Nat.not_lt_zero _),_,_,rfl⟩
   ·rintro ρ ⟨hn,hr⟩
    refine ⟨?_,hr⟩
    rw [List.findIdx?_eq_none_iff]
    intro d hd
    obtain ⟨m,hm,e⟩:=List.mem_iff_getElem.mp hd
    exact hn m d hm (by rw [← e]; exact List.getElem?_eq_getElem hm)
   ·rintro i d ρ X hd ⟨hn,s5,s6,rfl⟩ hX
    have ret:openB d = true -> Q (.tup [.str "open",.int i]):=fun od=>by
     have hf:(told t a.toNat b.toNat).findIdx? openB = some i:=by
      rw [List.findIdx?_eq_some_iff_getElem]
      obtain ⟨hl,e⟩:=List.getElem?_eq_some_iff.mp hd
      refine ⟨hl,by rw [e]; exact od,fun j hj=>?_⟩
      have:=hn j ((told t a.toNat b.toNat)[j]'(Nat.lt_trans hj hl)) hj (List.getElem?_eq_getElem _)
      rw [this]; exact Bool.false_ne_true
     unfold turnD at h
     rw [if_neg n1,if_neg n2,hf] at h
     exact h
    have nx:openB d = false -> ∀ m z,m < i + 1 -> (told t a.toNat b.toNat)[m]? = some z -> openB z = false:=fun od m z hm hz=>by
     by_cases e:m = i
     ·subst e; rw [hd] at hz; cases hz; exact od
     ·exact hn m z (by omega) hz
    obtain ⟨r,_,rfl⟩:=List.mem_map.mp (List.mem_of_getElem? hd)
    rcases saidR_four a.toNat b.toNat r with e | e | e | e <;> rw [e] at ret nx ⊢
    ·exact ⟨rfl,Br.t (Br.t ⟨sz,ret rfl⟩)⟩
    ·exact ⟨rfl,Br.f ⟨⟨rfl,rfl⟩,Br.f (hX _ ⟨nx rfl,_,_,rfl⟩)⟩⟩
    ·exact ⟨rfl,Br.f ⟨⟨rfl,rfl⟩,Br.f (hX _ ⟨nx rfl,_,_,rfl⟩)⟩⟩
    ·exact ⟨rfl,Br.f ⟨⟨rfl,rfl⟩,Br.t ⟨sz,ret rfl⟩⟩⟩
  ·rintro _ ⟨hf,s5,s6,rfl⟩
   unfold turnD at h
   rw [if_neg n1,if_neg n2,hf] at h
   refine ⟨trivial,idx_ok hf (.inl rfl) n2 ⟨trivial,?_⟩⟩
   obtain ⟨i1,j,i2,i3⟩:=idx_ok (Q:=fun d=>d = .int ((told t a.toNat b.toNat).findIdx (isS (-1)):Nat)) hf (.inr rfl) n1 rfl
   injection i3 with i3
   have i3:j = (told t a.toNat b.toNat).findIdx (isS (-1)):=by omega
   subst i3
   exact ⟨i1,_,i2,sz,h⟩
theorem tup_cons (x y:D) (xs ys:List D):eqD (.tup (x :: xs)) (.tup (y :: ys)) = (eqD x y && eqD (.tup xs) (.tup ys)):=rfl
theorem lst_cons (x y:D) (xs ys:List D):eqD (.lst (x :: xs)) (.lst (y :: ys)) = (eqD x y && eqD (.lst xs) (.lst ys)):=rfl
theorem eqD_ints:∀ a b:List Int,eqD (intsT a) (intsT b) = decide (a = b)
 | [],[]=>rfl
 | [],_ :: _=>by
  rw [decide_eq_false (by simp)]
  rfl
 | _ :: _,[]=>by
  rw [decide_eq_false (by simp)]
  rfl
 | x :: xs,y :: ys=>by
  have ih:=eqD_ints xs ys
  unfold intsT at ih ⊢
  rw [List.map_cons,List.map_cons,tup_cons,ih,eqD_int]
  by_cases h:x = y <;> by_cases h':xs = ys <;> simp [h,h']
theorem eqD_rep (s:Int):∀ ws:List D,(∀ d ∈ ws,four d) -> eqD (.lst ws) (.lst (List.replicate ws.length [D.int s]).flatten) = ws.all (isS s)
 | [],_=>rfl
 | d :: ws,h=>by
  have ih:=eqD_rep s ws fun d hd=>h d (List.mem_cons_of_mem _ hd)
  rw [List.length_cons,List.replicate_succ,List.flatten_cons]
  show eqD (.lst (d :: ws)) (.lst (D.int s :: (List.replicate ws.length [D.int s]).flatten)) = _
  rw [lst_cons,ih,four_eq (h d List.mem_cons_self),List.all_cons]
def okT (ws:List D) (d:D) (s:Int):Bool:=!ws.isEmpty && (ws.all (isS s) && !isS s d)
def oneT (ws:List D) (d:D) (v:List Int) (s:Int):List (List Int × Int):=if okT ws d s = true then [(v,s)] else []
def tuOf (cs:List (List Int × Row)) (a b:Nat) (c:List Int × Row):List (List Int × Int):=([1,-1]:List Int).flatMap (oneT (wordsOf cs a b c.1) (sayR a b c.2) c.1)
def turnsL (cs:List (List Int × Row)) (a b:Nat):List (List Int × Int):=cs.flatMap (tuOf cs a b)
def tkD (p:List Int × Int):D:=.tup [intsT p.1,.int p.2]
theorem cnt_all {ds:List D} {s:Int}:eqD (.int ((ds.countP fun z=>eqF z (.int s):Nat):Int)) (.int (ds.length:Int)) = ds.all (isS s):=by
 rw [eqD_int]
 have h:(((ds.countP fun z=>eqF z (.int s):Nat):Int) = (ds.length:Int)) ↔ ds.all (isS s) = true:=by
  have h:((ds.countP fun z=>eqF z (.int s):Nat):Int) = (ds.length:Int) ↔ (ds.countP fun z=>eqF z (.int s)) = ds.length:=by omega
  rw [h,List.countP_eq_length,List.all_eq_true]
  rfl
 cases e:ds.all (isS s) with
 | true=>exact decide_eq_true (h.mpr e)
 | false=>exact decide_eq_false fun z=>by rw [h.mp z] at e; cases e
theorem tu_len (cs:List (List Int × Row)) (a b:Nat) (c:List Int × Row):(tuOf cs a b c).length <= 2:=by
 have:∀ s,(oneT (wordsOf cs a b c.1) (sayR a b c.2) c.1 s).length <= 1:=fun s=>by unfold oneT; split <;> simp
 show (oneT _ _ _ 1 ++ (oneT _ _ _ (-1) ++ [])).length <= 2
 have h1:=this 1
 have h2:=this (-1)
 simp only [List.length_append,List.length_nil]
 omega
theorem turns_len (cs c0:List (List Int × Row)) (a b:Nat):(c0.flatMap (tuOf cs a b)).length <= 2 * c0.length:=by
 induction c0 with
 | nil=>simp
 | cons c t ih =>
  rw [List.flatMap_cons,List.length_append,List.length_cons]
  have:=tu_len cs a b c
  omega
theorem sums_n {m:Nat} {rows:List Row} (ho:∀ r ∈ rows,RowN 110 m r) (hl:rows.length <= 60):RowN 200 m (sums rows m):=by
 refine ⟨by unfold sums; simp,fun c hc=>?_⟩
 obtain ⟨h,hh,rfl⟩:=List.mem_map.mp hc
 have hh:=List.mem_range.mp hh
 have cn:∀ x ∈ col rows h,Cnt 110 x.1 x.2:=fun x hx=>by
  obtain ⟨r,hr,rfl⟩:=List.mem_map.mp hx
  exact (at_get (ho r hr) hh).2
 have cl:(col rows h).length <= 2 ^ 10:=by unfold col; rw [List.length_map]; exact Nat.le_trans hl (by decide)
 have s1:0 <= ((col rows h).map (·.2)).sum /\ ((col rows h).map (·.2)).sum <= ((col rows h).map (·.1)).sum:=by
  generalize col rows h = cs at cn
  induction cs with
  | nil=>simp
  | cons c r ih =>
   have:=ih fun d hd=>cn d (List.mem_cons_of_mem _ hd)
   have h1:=(cn c List.mem_cons_self).lo
   have h2:=(cn c List.mem_cons_self).hi
   simp only [List.map_cons,List.sum_cons]
   omega
 refine ⟨s1.1,s1.2,(sum_bd (n:=110) (k:=10) (fun i hi=>?_) (by rw [List.length_map]; exact cl)).mono (by decide),(sum_bd (n:=110) (k:=10) (fun i hi=>?_) (by rw [List.length_map]; exact cl)).mono (by decide)⟩
 ·obtain ⟨c,hc',rfl⟩:=List.mem_map.mp hi
  exact (cn c hc').bt
 ·obtain ⟨c,hc',rfl⟩:=List.mem_map.mp hi
  exact (cn c hc').bw
theorem knots_ok {b:Bk} (bo:BkOk b) {so:List Int} (o:SoOk b so):CsOk b.m (knotsL b so (so.length + 1)):=by
 refine ⟨fun c hc=>?_,?_⟩
 ·unfold knotsL at hc
  obtain ⟨l,_,hc⟩:=List.mem_flatMap.mp hc
  have go:=grp_ok (C:=fun _=>True) (R:=fun r=>RowN 110 b.m r) (b.cells.map fun c=>(vals c.1 (so.take l),c.2)) fun p hp=>by
   obtain ⟨c,h1,rfl⟩:=List.mem_map.mp hp
   exact ⟨trivial,(bo.it c h1).2.1⟩
  unfold partsB partsL at hc
  obtain ⟨k,hk,rfl⟩:=List.mem_map.mp hc
  obtain ⟨p,hp,_,h3,_⟩:=rows_at ((sortI_perm _).mem_iff.mp hk)
  show RowN 200 b.m (sums (rowsOf _ k) b.m)
  rw [h3]
  have:=(go.it p hp).2.2.1
  rw [List.length_map] at this
  exact sums_n (go.it p hp).2.2.2 (Nat.le_trans this bo.c60)
 ·have:=knots_len bo (so:=so) (so.length + 1)
  have:=o.len
  omega
def gTK:DSpN:=fun ds _ L=>∃ (b:Bk) (so:List Int) (x y:Int),ds = [bookD b,intsT so,.int x,.int y] /\ BkOk b /\ SoOk b so /\ AbOk b.m x y /\ L ((turnsL (knotsL b so (so.length + 1)) x.toNat y.toNat).map tkD)
theorem mN_turned_knots:MonoN gTK:=fun ds P P' L L' f fl ⟨b,so,x,y,h1,h2,h3,h4,h⟩=>⟨b,so,x,y,h1,h2,h3,h4,fl _ h⟩
theorem gN_turned_knots (T:Tx K mg):FnOk P w K mg base CX0 7 T.f_turned_knots T.fd_turned_knots ["book","order","a","b"] (spDN K 4 gTK):=by
 refine fnDN (k:=6) T.d_turned_knots.F sc_turned_knots (fun cdv A outer s H E hr=>(psn_cons (ds_expr (de_call (g_check_pair T) m_check_pair (hr.mono (by decide)) rfl T.d_check_pair.m T.d_check_pair.F.kp T.d_check_pair.b (da_cons (de_ix (de_var 0 (pv 0)) de_int (fun _ _=>rfl)) (da_cons (de_var 2 (pv 2)) (da_cons (de_var 3 (pv 3)) da_nil)))))
   (psn_cons (ds_set (i:=4) sc_turned_knots.nd rfl (by first | exact Or.inl rfl | exact Or.inr rfl) (de_call (g_knots T) m_knots (hr.mono (by decide)) rfl T.d_knots.m T.d_knots.F.kp T.d_knots.b (da_cons (de_var 0 (pv 0)) (da_cons (de_var 1 (pv 1)) da_nil))))
   (psn_cons (ds_set (i:=5) sc_turned_knots.nd rfl (by first | exact Or.inl rfl | exact Or.inr rfl) (de_call (g_says_of_kids T) m_says_of_kids (hr.mono (by decide)) rfl T.d_says_of_kids.m T.d_says_of_kids.F.kp T.d_says_of_kids.b (da_cons (de_var 4 (pv 4)) (da_cons (de_var 2 (pv 2)) (da_cons (de_var 3 (pv 3)) da_nil)))))
   (psn_cons (ds_own (i:=6) sc_turned_knots.nd rfl (by first | exact Or.inl rfl | exact Or.inr rfl) (dl_lst da_nil))
   (psn_mid (ds_for PassesOwn.never rfl (di_list (de_var 4 (pv 4))) (dg_tup (n:=2) rfl (dgs_cons (dg_name (i:=7) sc_turned_knots.nd rfl (by first | exact Or.inl rfl | exact Or.inr rfl)) (dgs_cons (dg_name (i:=8) sc_turned_knots.nd rfl (by first | exact Or.inl rfl | exact Or.inr rfl)) dgs_nil))) (dss_cons (ds_set (i:=9) sc_turned_knots.nd rfl (by first | exact Or.inl rfl | exact Or.inr rfl) (de_getT hr (de_var 5 (pv 5)) (de_var 7 (pv 7)) (de_frz (dl_lst da_nil))))
   (dss_one (ds_for PassesOwn.never rfl (di_tup (de_tup (da_cons de_int (da_cons (de_un ud_neg de_int) da_nil)))) (dg_name (i:=10) sc_turned_knots.nd rfl (by first | exact Or.inl rfl | exact Or.inr rfl)) (dss_cons (ds_set (i:=11) sc_turned_knots.nd rfl (by first | exact Or.inl rfl | exact Or.inr rfl) (de_and (de_cmp od_gt (de_callB cd_len rfl T.z_len PySem.boot_len (da_cons (de_var 9 (pv 9)) da_nil)) de_int (nomark _)) (de_one (de_cmp (od_eq hr) (de_m1 m1_count (de_var 9 (pv 9)) (de_var 10 (pv 10))) (de_callB cd_len rfl T.z_len PySem.boot_len (da_cons (de_var 9 (pv 9)) da_nil)) (nomark _)))))
   (dss_one (ds_if (PWD.pt (dw_and (dt_val (de_var 11 (pv 11))) (dw_and1 (dt_cmp (od_ne hr) (de_call (g_said T) m_said (hr.mono (by decide)) rfl T.d_said.m T.d_said.F.kp T.d_said.b (da_cons (de_ix (de_var 8 (pv 8)) (de_var 2 (pv 2)) (fun _ _=>rfl)) (da_cons (de_ix (de_var 8 (pv 8)) (de_var 3 (pv 3)) (fun _ _=>rfl)) da_nil))) (de_var 10 (pv 10)) (nomark _))))) (dss_one (ds_app (pv 6) (de_tup (da_cons (de_var 7 (pv 7)) (da_cons (de_var 10 (pv 10)) da_nil))))) dss_nil)))))))
   (psn_own (pv 6)))))))) (fun ds Q L hl h=>?_)
 obtain ⟨b,so,x,y,rfl,bo,o,ab,h⟩:=h
 have co:=knots_ok bo o
 have c6:=co.len
 obtain ⟨cs,hcs⟩:∃ cs,cs = knotsL b so (so.length + 1):=⟨_,rfl⟩
 refine ⟨rfl,⟨ab.a0,ab.a1,ab.b0,ab.b1,ab.ne⟩,rfl,b,so,rfl,bo,o,?_⟩
 rw [← hcs] at co c6 h ⊢
 refine ⟨rfl,b.m,cs,x,y,rfl,co,ab,sz,?_⟩
 refine ⟨fun ρ=>∃ s1 s2 s3 s4 s5:Sl,ρ = [.val (bookD b),.val (intsT so),.val (.int x),.val (.int y),.val (.lst (cs.map cellD)),.val (fzO (dlO (embD (kidsG cs x.toNat y.toNat)))),.own ((turnsL cs x.toNat y.toNat).map tkD),s1,s2,s3,s4,s5],?_,?_⟩
 ·refine dLoop_pre (fun pre ρ=>∃ c0 c1:List (List Int × Row),cs = c0 ++ c1 /\ pre = c0.map cellD /\ ∃ s1 s2 s3 s4 s5:Sl,ρ = [.val (bookD b),.val (intsT so),.val (.int x),.val (.int y),.val (.lst (cs.map cellD)),.val (fzO (dlO (embD (kidsG cs x.toNat y.toNat)))),.own ((c0.flatMap (tuOf cs x.toNat y.toNat)).map tkD),s1,s2,s3,s4,s5]) (fun ρ hN=>?_) (fun pre d post ρ X e hN hX=>?_) _ ⟨[],cs,rfl,rfl,_,_,_,_,_,rfl⟩
  ·obtain ⟨c0,c1,e3,e,s1,s2,s3,s4,s5,rfl⟩:=hN
   have:c1 = []:=by
    have:=congrArg List.length e
    rw [e3] at this
    simp at this
    exact this
   subst this
   rw [List.append_nil] at e3
   subst e3
   exact ⟨s1,s2,s3,s4,s5,rfl⟩
  ·obtain ⟨c0,c1,e3,rfl,s1,s2,s3,s4,s5,rfl⟩:=hN
   rw [e3,List.map_append] at e
   have e:=List.append_cancel_left e
   cases c1 with
   | nil=>simp at e
   | cons c c1 =>
    rw [List.map_cons] at e
    injection e with e1 e2
    subst e1
    have ro:=co.rows c (by rw [e3]; simp)
    have cl:c0.length <= 600:=by rw [e3,List.length_append] at c6; omega
    refine ⟨rfl,trivial,sz,embDV (kidsG cs x.toNat y.toNat),kI c.1,fz_dlD _,keyD_kI _,?_⟩
    rw [find_embDV,kids_ok]
    have wf:=words_four (cs:=cs) (a:=x.toNat) (b:=y.toNat) (v:=c.1)
    have wl:=words_len (cs:=cs) (a:=x.toNat) (b:=y.toNat) (v:=c.1)
    have tl:=turns_len cs c0 x.toNat y.toNat
    obtain ⟨ws,hws⟩:∃ ws,ws = wordsOf cs x.toNat y.toNat c.1:=⟨_,rfl⟩
    rw [← hws] at wf wl ⊢
    refine ⟨sz,?_⟩
    show dLoop _ _ (([1,-1]:List Int).map D.int) _ _
    refine dLoop_pre (fun pre ρ=>∃ t0 t1:List Int,([1,-1]:List Int) = t0 ++ t1 /\ pre = t0.map D.int /\ ∃ s4 s5:Sl,ρ = [.val (bookD b),.val (intsT so),.val (.int x),.val (.int y),.val (.lst (cs.map cellD)),.val (fzO (dlO (embD (kidsG cs x.toNat y.toNat)))),.own ((c0.flatMap (tuOf cs x.toNat y.toNat) ++ t0.flatMap (oneT ws (sayR x.toNat y.toNat c.2) c.1)).map tkD),.val (intsT c.1),.val (rowD c.2),.val (.lst ws),s4,s5]) (fun ρ hN=>?_) (fun pre d post ρ Z e hN hZ=>?_) _ ⟨[],[1,-1],rfl,rfl,_,_,by rw [List.flatMap_nil,List.append_nil]; rfl⟩
    ·obtain ⟨t0,t1,e5,e6,s4,s5,rfl⟩:=hN
     have:t1 = []:=by
      have:=congrArg List.length e6
      rw [e5] at this
      simp at this
      exact this
     subst this
     rw [List.append_nil] at e5
     refine hX _ ⟨c0 ++ [c],c1,by rw [e3]; simp,by simp,.val (intsT c.1),.val (rowD c.2),.val (.lst ws),s4,s5,?_⟩
     rw [List.flatMap_append,List.flatMap_singleton,← e5,hws]
     rfl
    ·obtain ⟨t0,t1,e5,rfl,s4,s5,rfl⟩:=hN
     rw [e5,List.map_append] at e
     have e:=List.append_cancel_left e
     cases t1 with
     | nil=>simp at e
     | cons s t1 =>
      rw [List.map_cons] at e
      injection e with e7 e8
      subst e7
      have t2:t0.length <= 2:=by have:=congrArg List.length e5; simp at this; omega
      have hol:(t0.flatMap (oneT ws (sayR x.toNat y.toNat c.2) c.1)).length <= t0.length:=by
       clear e5 e hZ t2
       induction t0 with
       | nil=>simp
       | cons u t ih =>
        rw [List.flatMap_cons,List.length_append,List.length_cons]
        have:(oneT ws (sayR x.toNat y.toNat c.2) c.1 u).length <= 1:=by unfold oneT; split <;> simp
        omega
      have hlen:((c0.flatMap (tuOf cs x.toNat y.toNat) ++ t0.flatMap (oneT ws (sayR x.toNat y.toNat c.2) c.1)).map tkD).length < sizeLine:=by
       rw [List.length_map,List.length_append]
       exact Nat.lt_of_le_of_lt (show _ <= 2000 by omega) (by decide)
      have hT:okT ws (sayR x.toNat y.toNat c.2) s = true -> ∀ u v:Sl,Z [.val (bookD b),.val (intsT so),.val (.int x),.val (.int y),.val (.lst (cs.map cellD)),.val (fzO (dlO (embD (kidsG cs x.toNat y.toNat)))),.own ((c0.flatMap (tuOf cs x.toNat y.toNat) ++ t0.flatMap (oneT ws (sayR x.toNat y.toNat c.2) c.1)).map tkD ++ [tkD (c.1,s)]),.val (intsT c.1),.val (rowD c.2),.val (.lst ws),u,v]:=fun ok u v=>by
       refine hZ _ ⟨t0 ++ [s],t1,by rw [e5]; simp,by simp,u,v,?_⟩
       have:oneT ws (sayR x.toNat y.toNat c.2) c.1 s = [(c.1,s)]:=by unfold oneT; rw [if_pos ok]
       rw [List.flatMap_append,List.flatMap_singleton,this,← List.append_assoc]
       simp only [List.map_append]
       rfl
      have hF:okT ws (sayR x.toNat y.toNat c.2) s = false -> ∀ u v:Sl,Z [.val (bookD b),.val (intsT so),.val (.int x),.val (.int y),.val (.lst (cs.map cellD)),.val (fzO (dlO (embD (kidsG cs x.toNat y.toNat)))),.own ((c0.flatMap (tuOf cs x.toNat y.toNat) ++ t0.flatMap (oneT ws (sayR x.toNat y.toNat c.2) c.1)).map tkD),.val (intsT c.1),.val (rowD c.2),.val (.lst ws),u,v]:=fun ok u v=>by
       refine hZ _ ⟨t0 ++ [s],t1,by rw [e5]; simp,by simp,u,v,?_⟩
       rw [List.flatMap_append,List.flatMap_singleton]
       have:oneT ws (sayR x.toNat y.toNat c.2) c.1 s = []:=by unfold oneT; rw [if_neg (by rw [ok]; exact Bool.false_ne_true)]
       rw [this,List.append_nil]
      refine Br.di (fun z=>?_) (fun z=>?_)
      ·have ne:ws.isEmpty = false:=by
        cases ws with
        | nil=>simp at z
        | cons _ _=>rfl
       have fa:ws.all flatD = true:=List.all_eq_true.mpr fun d hd=>four_flat (wf d hd)
       refine ⟨trivial,⟨rfl,fa⟩,⟨rfl,rfl⟩,fun hc=>?_,fun hc=>?_⟩
       ·have hc:ws.all (isS s) = true:=by rw [← cnt_all]; exact hc
        refine row_at ro ab.a0 ab.a1 (row_at ro ab.b0 ab.b1 ⟨rfl,said_ok ro (by decide) ab.a0 ab.a1 ab.b0 ab.b1 ⟨⟨four_shp (sayR_four _ _ _),rfl⟩,fun hd=>?_,fun hd=>?_⟩⟩)
        ·have hd:(!eqD (sayR x.toNat y.toNat c.2) (.int s)) = true:=hd
         rw [four_eq (sayR_four _ _ _)] at hd
         exact ⟨trivial,sz,hlen,hT (by unfold okT; rw [ne,hc,hd]; rfl) _ _⟩
        ·have hd:(!eqD (sayR x.toNat y.toNat c.2) (.int s)) = false:=hd
         rw [four_eq (sayR_four _ _ _)] at hd
         exact hF (by unfold okT; rw [ne,hc,hd]; rfl) _ _
       ·have hc:ws.all (isS s) = false:=by rw [← cnt_all]; exact hc
        exact Br.f (hF (by unfold okT; rw [ne,hc]; rfl) _ _)
      ·have em:ws.isEmpty = true:=by
        cases ws with
        | nil=>rfl
        | cons _ _=>simp at z
       exact Br.f (Br.f (hF (by unfold okT; rw [em]; rfl) _ _))
 ·rintro _ ⟨s1,s2,s3,s4,s5,rfl⟩
  exact h
def gTKD:DSp:=fun ds Q=>∃ (b:Bk) (so:List Int) (x y:Int),ds = [bookD b,intsT so,.int x,.int y] /\ BkOk b /\ SoOk b so /\ AbOk b.m x y /\ Q (.lst ((turnsL (knotsL b so (so.length + 1)) x.toNat y.toNat).map tkD))
theorem m_turned_knots:MonoS gTKD:=fun ds P P' f ⟨b,so,x,y,h1,h2,h3,h4,h⟩=>⟨b,so,x,y,h1,h2,h3,h4,f _ h⟩
theorem g_turned_knots (T:Tx K mg):FnOk P w K mg base CX0 7 T.f_turned_knots T.fd_turned_knots ["book","order","a","b"] (spD K 4 gTKD):=DL.FnOk.asD (gN_turned_knots T) (fun ds Q h=>h) mN_turned_knots
def gDue:DSp:=fun ds Q=>match ds with
 | [.tup [.int t,.int w],.tup [.int t',.int w']]=>(Bd 7000 t /\ Bd 7000 w /\ Bd 7000 t' /\ Bd 7000 w') /\ Q (saidD t w t' w')
 | _=>False
theorem m__law_said:MonoS gDue:=m_said
theorem g__law_said (T:Tx K mg):FnOk P w K mg base CX0 1 T.f__law_said T.fd__law_said ["_law_one","_law_other"] (spD K 2 gDue):=by
 refine fnD (k:=0) T.d__law_said.F sc__law_said (fun cdv A outer s H E hr=>(dss_cons (ds_if (PWD.pt (dw_or (dt_cmp (od_eq hr) (de_ix (de_var 0 (pv 0)) de_int (fun _ _=>rfl)) de_int (nomark _)) (dw_or1 (dt_cmp (od_eq hr) (de_ix (de_var 1 (pv 1)) de_int (fun _ _=>rfl)) de_int (nomark _))))) (dss_one (ds_ret de_non)) dss_nil)
   (dss_cons (ds_set (i:=2) sc__law_said.nd rfl (by first | exact Or.inl rfl | exact Or.inr rfl) (de_op od_mul (de_ix (de_var 0 (pv 0)) de_int (fun _ _=>rfl)) (de_ix (de_var 1 (pv 1)) de_int (fun _ _=>rfl))))
   (dss_cons (ds_set (i:=3) sc__law_said.nd rfl (by first | exact Or.inl rfl | exact Or.inr rfl) (de_op od_mul (de_ix (de_var 1 (pv 1)) de_int (fun _ _=>rfl)) (de_ix (de_var 0 (pv 0)) de_int (fun _ _=>rfl))))
   (dss_one (ds_ret (de_op od_sub (de_callTy cd_int rfl T.z_int rfl (da_cons (de_cmp od_gt (de_var 2 (pv 2)) (de_var 3 (pv 3)) (nomark _)) da_nil)) (de_callTy cd_int rfl T.z_int rfl (da_cons (de_cmp od_lt (de_var 2 (pv 2)) (de_var 3 (pv 3)) (nomark _)) da_nil))))))))) (fun ds Q hl h=>?_)
 unfold gDue at h
 split at h
 case h_2=>exact h.elim
 rename_i t w t' w'
 obtain ⟨⟨b1,b2,b3,b4⟩,h⟩:=h
 unfold saidD at h
 refine ⟨⟨rfl,rfl⟩,fun e=>Br.t ?_,fun e=>⟨⟨rfl,rfl⟩,fun e'=>?_,fun e'=>?_⟩⟩
 ·have e:t = 0:=by simpa [eqD_int] using e
  rw [if_pos (.inl e)] at h
  exact h
 ·have e':t' = 0:=by simpa [eqD_int] using e'
  rw [if_pos (.inr e')] at h
  exact h
 ·have e:t ≠ 0:=by simpa [eqD_int] using e
  have e':t' ≠ 0:=by simpa [eqD_int] using e'
  rw [if_neg (by simp [e,e'])] at h
  refine ⟨b2.cmul b3,b4.cmul b1,?_⟩
  show Q (.int ((if decide (w' * t < w * t') = true then 1 else 0) - (if decide (w * t' < w' * t) = true then 1 else 0)))
  rw [Int.mul_comm t w'] at h
  by_cases c:w' * t < w * t'
  ·have c':¬ w * t' < w' * t:=by omega
   simpa [c,c'] using h
  ·by_cases c':w * t' < w' * t
   ·simpa [c,c'] using h
   ·simpa [c,c'] using h
def gTwo:DSp:=fun ds Q=>∃ m:Nat,ds = [.pen,.int m] /\ (2 <= m /\ m <= 6) /\ ∀ a b,AbOk m a b -> Q (.tup [.int a,.int b])
theorem m__law_two:MonoS gTwo:=fun ds P P' f ⟨m,x,y,h⟩=>⟨m,x,y,fun a b o=>f _ (h a b o)⟩
theorem two_ok {m:Nat} (m2:2 <= m) (m6:m <= 6) {a r:Int} (a0:0 <= a) (a1:a < m) (r0:0 <= r) (r1:r < (m:Int) - 1):AbOk m a ((a + 1 + r) % m):=by
 have:m = 2 ∨ m = 3 ∨ m = 4 ∨ m = 5 ∨ m = 6:=by omega
 rcases this with rfl | rfl | rfl | rfl | rfl <;> exact ⟨a0,a1,by omega,by omega,by omega⟩
theorem g__law_two (T:Tx K mg):FnOk P w K mg base CX0 2 T.f__law_two T.fd__law_two ["_law_pen_here","_law_many"] (spD K 2 gTwo):=by
 refine fnD (k:=1) T.d__law_two.F sc__law_two (fun cdv A outer s H E hr=>(dss_cons (ds_set (i:=2) sc__law_two.nd rfl (by first | exact Or.inl rfl | exact Or.inr rfl) (de_call (g__law_next T) m__law_next (hr.mono (by decide)) rfl T.d__law_next.m T.d__law_next.F.kp T.d__law_next.b (da_cons (de_var 0 (pv 0)) (da_cons (de_var 1 (pv 1)) da_nil))))
   (dss_one (ds_ret (de_tup (da_cons (de_var 2 (pv 2)) (da_cons (de_op od_mod (de_op od_add (de_op od_add (de_var 2 (pv 2)) de_int) (de_call (g__law_next T) m__law_next (hr.mono (by decide)) rfl T.d__law_next.m T.d__law_next.F.kp T.d__law_next.b (da_cons (de_var 0 (pv 0)) (da_cons (de_op od_sub (de_var 1 (pv 1)) de_int) da_nil)))) (de_var 1 (pv 1))) da_nil))))))) (fun ds Q hl h=>?_)
 obtain ⟨m,rfl,⟨m2,m6⟩,h⟩:=h
 refine ⟨rfl,⟨by omega,by omega⟩,fun a a0 a1=>⟨rfl,⟨by omega,by omega⟩,fun r r0 r1=>⟨by omega,sz,h _ _ (two_ok m2 m6 a0 a1 r0 r1)⟩⟩⟩
def gLean:DSp:=fun ds Q=>∃ (b:Bk) (x y:Int),ds = [.pen,bookD b,.int x,.int y] /\ BkOk b /\ BkK b /\ AbOk b.m x y /\ ∀ b',BkOk b' -> BkK b' -> b'.m = b.m -> Q (bookD b')
theorem m__law_leaning:MonoS gLean:=fun ds P P' f ⟨b,x,y,h1,h2,h2',h3,h⟩=>⟨b,x,y,h1,h2,h2',h3,fun b' o o' e=>f _ (h b' o o' e)⟩
theorem small_cnt {t w:Int} (h0:0 <= w) (h1:w <= t) (h2:t <= 10000):Cnt 110 t w:=by
 refine cnt_of h0 h1 (Bd.mono (m:=14) ?_ (by decide))
 show t.natAbs < 2 ^ 14
 have:(2:Nat) ^ 14 = 16384:=by decide
 omega
theorem set2_ok {m:Nat} {r:Row} (o:RowN 110 m r) {i j:Nat} (hj:j < m) {p q:Int × Int} (hp:Cnt 110 p.1 p.2) (hq:Cnt 110 q.1 q.2) (q0:0 < q.1):RowN 110 m ((r.set i p).set j q) /\ triedR ((r.set i p).set j q):=by
 refine ⟨⟨by rw [List.length_set,List.length_set]; exact o.1,fun c hc=>?_⟩,q,?_,q0⟩
 ·rcases List.mem_or_eq_of_mem_set hc with hc | rfl
  ·rcases List.mem_or_eq_of_mem_set hc with hc | rfl
   ·exact o.2 c hc
   ·exact hp
  ·exact hq
 ·exact List.mem_set (by rw [List.length_set,o.1]; exact hj) q
theorem g__law_leaning (T:Tx K mg):FnOk P w K mg base CX0 2 T.f__law_leaning T.fd__law_leaning ["_law_pen_here","_law_book_here","_law_a","_law_b"] (spD K 4 gLean):=by
 refine fnD (k:=1) T.d__law_leaning.F sc__law_leaning (fun cdv A outer s H E hr=>(dss_cons (ds_set (i:=4) sc__law_leaning.nd rfl (by first | exact Or.inl rfl | exact Or.inr rfl) (de_call (g__law_next T) m__law_next (hr.mono (by decide)) rfl T.d__law_next.m T.d__law_next.F.kp T.d__law_next.b (da_cons (de_var 0 (pv 0)) (da_cons de_int da_nil))))
   (dss_cons (ds_if (dt_cmp (od_eq hr) (de_var 4 (pv 4)) de_int (nomark _)) (dss_one (ds_ret (de_var 1 (pv 1)))) dss_nil)
   (dss_cons (ds_own (i:=5) sc__law_leaning.nd rfl (by first | exact Or.inl rfl | exact Or.inr rfl) (dl_lst da_nil))
   (dss_mid (ds_for PassesOwn.never rfl (di_tup (de_ix (de_var 1 (pv 1)) de_int (fun _ _=>rfl))) (dg_tup (n:=2) rfl (dgs_cons (dg_name (i:=6) sc__law_leaning.nd rfl (by first | exact Or.inl rfl | exact Or.inr rfl)) (dgs_cons (dg_name (i:=7) sc__law_leaning.nd rfl (by first | exact Or.inl rfl | exact Or.inr rfl)) dgs_nil))) (dss_cons (ds_own (i:=8) sc__law_leaning.nd rfl (by first | exact Or.inl rfl | exact Or.inr rfl) (dl_list rfl T.z_list rfl (de_var 7 (pv 7))))
   (dss_cons (ds_set (i:=9) sc__law_leaning.nd rfl (by first | exact Or.inl rfl | exact Or.inr rfl) (de_op od_add de_int (de_call (g__law_next T) m__law_next (hr.mono (by decide)) rfl T.d__law_next.m T.d__law_next.F.kp T.d__law_next.b (da_cons (de_var 0 (pv 0)) (da_cons de_int da_nil)))))
   (dss_cons (ds_set (i:=10) sc__law_leaning.nd rfl (by first | exact Or.inl rfl | exact Or.inr rfl) (de_ix (de_frz (dl_lst (da_cons de_int (da_cons de_int da_nil)))) (de_call (g__law_next T) m__law_next (hr.mono (by decide)) rfl T.d__law_next.m T.d__law_next.F.kp T.d__law_next.b (da_cons (de_var 0 (pv 0)) (da_cons de_int da_nil))) (fun _ _=>rfl)))
   (dss_cons (ds_set (i:=11) sc__law_leaning.nd rfl (by first | exact Or.inl rfl | exact Or.inr rfl) (de_ix (de_frz (dl_lst (da_cons de_int (da_cons de_int da_nil)))) (de_call (g__law_next T) m__law_next (hr.mono (by decide)) rfl T.d__law_next.m T.d__law_next.F.kp T.d__law_next.b (da_cons (de_var 0 (pv 0)) (da_cons de_int da_nil))) (fun _ _=>rfl)))
   (dss_cons (ds_asgT (de_tup (da_cons (de_op od_mul de_int (de_var 10 (pv 10))) (da_cons (de_op od_mul (de_var 9 (pv 9)) (de_var 10 (pv 10))) da_nil))) (dg_sub (pv 8) (de_ix (de_frz (dl_lst (da_cons (de_var 2 (pv 2)) (da_cons (de_var 3 (pv 3)) da_nil)))) (de_var 4 (pv 4)) (fun _ _=>rfl))))
   (dss_cons (ds_asgT (de_tup (da_cons (de_op od_mul de_int (de_var 11 (pv 11))) (da_cons (de_op od_mul (de_op od_add (de_op od_sub (de_var 9 (pv 9)) de_int) (de_callTy cd_int rfl T.z_int rfl (da_cons (de_cmp (od_eq hr) (de_call (g__law_next T) m__law_next (hr.mono (by decide)) rfl T.d__law_next.m T.d__law_next.F.kp T.d__law_next.b (da_cons (de_var 0 (pv 0)) (da_cons de_int da_nil))) de_int (nomark _)) da_nil))) (de_var 11 (pv 11))) da_nil))) (dg_sub (pv 8) (de_ix (de_frz (dl_lst (da_cons (de_var 3 (pv 3)) (da_cons (de_var 2 (pv 2)) da_nil)))) (de_var 4 (pv 4)) (fun _ _=>rfl))))
   (dss_one (ds_app (pv 5) (de_tup (da_cons (de_var 6 (pv 6)) (da_cons (de_callTy cd_tuple rfl T.z_tuple rfl (da_cons (de_var 8 (pv 8)) da_nil)) da_nil))))))))))))
   (dss_one (ds_ret (de_tup (da_cons (de_ix (de_var 1 (pv 1)) de_int (fun _ _=>rfl)) (da_cons (de_ix (de_var 1 (pv 1)) de_int (fun _ _=>rfl)) (da_cons (de_callTy cd_tuple rfl T.z_tuple rfl (da_cons (de_var 5 (pv 5)) da_nil)) da_nil))))))))))) (fun ds Q hl h=>?_)
 obtain ⟨b,x,y,rfl,bo,bk,ab,h⟩:=h
 refine ⟨rfl,⟨by decide,by decide⟩,fun s s0 s1=>⟨⟨rfl,rfl⟩,fun _=>h b bo bk rfl,fun z=>?_⟩⟩
 have z:s ≠ 2:=by simpa [eqD_int] using z
 obtain ⟨i,j,ij,ei,ej⟩:∃ i j:Int,AbOk b.m i j /\ atI [D.int x,D.int y] s = some (D.int i) /\ atI [D.int y,D.int x] s = some (D.int j):=by
  have:s = 0 ∨ s = 1:=by omega
  rcases this with rfl | rfl
  ·exact ⟨x,y,ab,rfl,rfl⟩
  ·exact ⟨y,x,ab.swap,rfl,rfl⟩
 refine ⟨sz,fun ρ=>∃ cs:List (List Int × Row),cs.length = b.cells.length /\ (∀ c ∈ cs,KsOk b.marks c.1 /\ RowN 110 b.m c.2 /\ triedR c.2) /\ ∃ s1 s2 s3 s4 s5 s6:Sl,ρ = [.val .pen,.val (bookD b),.val (.int x),.val (.int y),.val (.int s),.own (cs.map cellD),s1,s2,s3,s4,s5,s6],?_,?_⟩
 ·refine dLoop_pre (fun pre ρ=>∃ c0 c1 cs:List (List Int × Row),b.cells = c0 ++ c1 /\ pre = c0.map cellD /\ cs.length = c0.length /\ (∀ c ∈ cs,KsOk b.marks c.1 /\ RowN 110 b.m c.2 /\ triedR c.2) /\ ∃ s1 s2 s3 s4 s5 s6:Sl,ρ = [.val .pen,.val (bookD b),.val (.int x),.val (.int y),.val (.int s),.own (cs.map cellD),s1,s2,s3,s4,s5,s6]) (fun ρ hN=>?_) (fun pre d post ρ X e hN hX=>?_) _ ⟨[],b.cells,[],rfl,rfl,rfl,fun c hc=>by simp at hc,_,_,_,_,_,_,rfl⟩
  ·obtain ⟨c0,c1,cs,e3,e,cl,hc,s1,s2,s3,s4,s5,s6,rfl⟩:=hN
   have:c1 = []:=by
    have:=congrArg List.length e
    rw [e3] at this
    simp at this
    exact this
   subst this
   rw [List.append_nil] at e3
   exact ⟨cs,by rw [cl,e3],hc,_,_,_,_,_,_,rfl⟩
  ·obtain ⟨c0,c1,cs,e3,rfl,cl,hc,s1,s2,s3,s4,s5,s6,rfl⟩:=hN
   rw [e3,List.map_append] at e
   have e:=List.append_cancel_left e
   cases c1 with
   | nil=>simp at e
   | cons c c1 =>
    rw [List.map_cons] at e
    injection e with e1 e2
    subst e1
    have co:=bo.it c (by rw [e3]; simp)
    have c6:=bo.c60
    rw [e3,List.length_append] at c6
    have ten:∀ d ∈ ([.int 10,.int 1000]:List D),d = .int 10 ∨ d = .int 1000:=fun d hd=>by simpa using hd
    refine ⟨rfl,rfl,⟨by decide,by decide⟩,fun g g0 g1=>?_⟩
    refine ⟨sz,rfl,⟨by decide,by decide⟩,fun z1 z10 z11=>opt_mem z10 z11 fun d1 hd1=>?_⟩
    refine ⟨sz,rfl,⟨by decide,by decide⟩,fun z2 z20 z21=>opt_mem z20 z21 fun d2 hd2=>?_⟩
    obtain ⟨f,f',rfl⟩:∃ f:Int,(f = 10 ∨ f = 1000) /\ d1 = .int f:=by
     rcases ten d1 hd1 with rfl | rfl
     ·exact ⟨_,.inl rfl,rfl⟩
     ·exact ⟨_,.inr rfl,rfl⟩
    obtain ⟨k,k',rfl⟩:∃ f:Int,(f = 10 ∨ f = 1000) /\ d2 = .int f:=by
     rcases ten d2 hd2 with rfl | rfl
     ·exact ⟨_,.inl rfl,rfl⟩
     ·exact ⟨_,.inr rfl,rfl⟩
    have lr:=co.2.1.1
    have sm:∀ {i:Int},i.natAbs < 32768 -> Bd 15 i:=fun h=>h
    have fb:Bd 15 f:=sm (by omega)
    have kb:Bd 15 k:=sm (by omega)
    refine ⟨(sm (i:=10) (by decide)).cmul fb,(sm (by omega)).cmul fb,sz,trivial,sz,?_⟩
    show opt (atI _ s) _
    rw [ei]
    refine ⟨i.toNat,by rw [List.length_map,lr]; exact ixN_of ij.a0 ij.a1,?_⟩
    refine ⟨(sm (i:=10) (by decide)).cmul kb,rfl,⟨by decide,by decide⟩,fun u u0 u1=>⟨⟨rfl,rfl⟩,?_⟩⟩
    obtain ⟨v,hv,ev⟩:∃ v:Int,(v = 0 ∨ v = 1) /\ v = if eqD (.int u) (.int 0) = true then 1 else 0:=by
     refine ⟨_,?_,rfl⟩
     split
     ·exact .inr rfl
     ·exact .inl rfl
    show CMulB (1 + g - 1 + (if eqD (.int u) (.int 0) = true then 1 else 0)) k /\ _
    rw [← ev]
    refine ⟨(sm (by omega)).cmul kb,sz,trivial,sz,?_⟩
    show opt (atI _ s) _
    rw [ej]
    refine ⟨j.toNat,by rw [List.length_set,List.length_map,lr]; exact ixN_of ij.b0 ij.b1,?_⟩
    have so:=set2_ok co.2.1 (i:=i.toNat) (j:=j.toNat) (p:=(10 * f,(1 + g) * f)) (q:=(10 * k,(1 + g - 1 + v) * k)) (by have:=ij.b0; have:=ij.b1; omega) ?_ ?_ ?_
    ·refine ⟨trivial,sz,?_,hX _ ⟨c0 ++ [c],c1,cs ++ [(c.1,(c.2.set i.toNat (10 * f,(1 + g) * f)).set j.toNat (10 * k,(1 + g - 1 + v) * k))],by rw [e3]; simp,by simp,by simp [cl],fun c' hc'=>?_,.val (intsT c.1),.val (rowD c.2),.val (.lst (((c.2.map pairD).set i.toNat (pairD (10 * f,(1 + g) * f))).set j.toNat (pairD (10 * k,(1 + g - 1 + v) * k)))),.val (.int (1 + g)),.val (.int f),.val (.int k),?_⟩⟩
     ·rw [List.length_map,cl]
      exact Nat.lt_of_le_of_lt (show c0.length <= 60 by omega) (by decide)
     ·rcases List.mem_append.mp hc' with hc' | hc'
      ·exact hc c' hc'
      ·rw [List.mem_singleton.mp hc']
       exact ⟨bk c (by rw [e3]; simp),so⟩
     ·rw [List.map_append,List.map_singleton]
      unfold cellD rowD
      rw [List.map_set,List.map_set,ev]
      rfl
    ·rcases f' with rfl | rfl <;> exact small_cnt (by omega) (by omega) (by omega)
    ·rcases k' with rfl | rfl <;> rcases hv with rfl | rfl <;> exact small_cnt (by omega) (by omega) (by omega)
    ·show 0 < 10 * k
     omega
 ·rintro _ ⟨cs,cl,hc,s1,s2,s3,s4,s5,s6,rfl⟩
  exact ⟨sz,h ⟨b.m,b.marks,cs⟩ ⟨bo.m2,bo.m6,bo.mk5,by show cs.length <= 60; rw [cl]; exact bo.c60,fun c hc'=>⟨(hc c hc').1.1,(hc c hc').2⟩⟩ (fun c hc'=>(hc c hc').1) rfl⟩
theorem cutL (xs:List D) (h:Nat) (hh:h <= xs.length):cutD xs none (some (h:Int)) = xs.take h:=by
 have e1:HT.sIx xs.length 0 none = 0:=rfl
 have e2:HT.sIx xs.length xs.length (some (h:Int)) = h:=by
  rw [HT.sIx_nat]
  omega
 unfold cutD
 rw [e1,e2,List.drop_zero,Nat.sub_zero]
theorem cutR (xs:List D) (h:Nat) (hh:h <= xs.length):cutD xs (some (h:Int)) none = xs.drop h:=by
 have e1:HT.sIx xs.length 0 (some (h:Int)) = h:=by
  rw [HT.sIx_nat]
  omega
 have e2:HT.sIx xs.length xs.length none = xs.length:=rfl
 unfold cutD
 rw [e1,e2]
 apply List.take_of_length_le
 rw [List.length_drop]
 exact Nat.le_refl _
theorem cut_erase (xs:List D) {i:Nat} (hi:i < xs.length):cutD xs none (some (i:Int)) ++ cutD xs (some ((i:Int) + 1)) none = xs.eraseIdx i:=by
 rw [cutL xs i (by omega),show (some ((i:Int) + 1)) = some (((i + 1:Nat)):Int) from rfl,cutR xs (i + 1) (by omega),List.eraseIdx_eq_take_drop_succ]
theorem map_erase {α β:Type} (f:α -> β):∀ (xs:List α) (i:Nat),(xs.map f).eraseIdx i = (xs.eraseIdx i).map f
 | [],_=>rfl
 | x :: xs,0=>rfl
 | x :: xs,i + 1=>by
  rw [List.map_cons,List.eraseIdx_cons_succ,List.eraseIdx_cons_succ,List.map_cons,map_erase f xs i]
def gWo:DSp:=fun ds Q=>∃ (ks:List Int) (i:Nat),ds = [intsT ks,.int i] /\ i < ks.length /\ ks.length <= 100 /\ Q (intsT (ks.eraseIdx i))
theorem m_without:MonoS gWo:=fun ds P P' f ⟨ks,i,a,b,c,h⟩=>⟨ks,i,a,b,c,f _ h⟩
theorem cut_small {xs:List D} {i:Nat} (hi:i < xs.length) (hl:xs.length <= 100):(cutD xs none (some (i:Int))).length + (cutD xs (some ((i:Int) + 1)) none).length <= sizeLine:=by
 have:=congrArg List.length (cut_erase xs hi)
 rw [List.length_append,List.length_eraseIdx] at this
 rw [this]
 exact Nat.le_trans (show (if i < xs.length then xs.length - 1 else xs.length) <= 100 by split <;> omega) (by decide)
theorem g_without (T:Tx K mg):FnOk P w K mg base CX0 1 T.f_without T.fd_without ["things","place"] (spD K 2 gWo):=by
 refine fnD (k:=0) T.d_without.F sc_without (fun cdv A outer s H E hr=>(dss_one (ds_ret (de_op od_catA (de_slA (de_var 0 (pv 0)) do_none (do_some (de_var 1 (pv 1)))) (de_slA (de_var 0 (pv 0)) (do_some (de_op od_add (de_var 1 (pv 1)) de_int)) do_none))))) (fun ds Q hl h=>?_)
 obtain ⟨ks,i,rfl,hi,hl,h⟩:=h
 have hi':i < (ks.map D.int).length:=by rw [List.length_map]; exact hi
 refine ⟨cut_small hi' (by rw [List.length_map]; exact hl),?_⟩
 rw [cut_erase _ hi',map_erase]
 exact h
def wcells (i:Nat) (k:Int) (cs:List (List Int × Row)):List (List Int × Row):=(cs.filter fun c=>decide (c.1.getD i 0 = k)).map fun c=>(c.1.eraseIdx i,c.2)
structure BkW (b:Bk):Prop where
 mk5:b.marks.length <= 5
 c60:b.cells.length <= 60
 it:∀ c ∈ b.cells,c.1.length = b.marks.length
def gWi:DSp:=fun ds Q=>∃ (b:Bk) (i:Nat) (m k:Int),ds = [bookD b,.int i,.int k] /\ BkW b /\ b.marks[i]? = some m /\ (0 <= k /\ k < m) /\ Q (bookD ⟨b.m,b.marks.eraseIdx i,wcells i k b.cells⟩)
theorem m_within:MonoS gWi:=fun ds P P' f ⟨b,i,m,k,a,c,d,e,h⟩=>⟨b,i,m,k,a,c,d,e,f _ h⟩
theorem g_within (T:Tx K mg):FnOk P w K mg base CX0 4 T.f_within T.fd_within ["book","mark","kind"] (spD K 3 gWi):=by
 refine fnD (k:=3) T.d_within.F sc_within (fun cdv A outer s H E hr=>(dss_cons (ds_expr (de_call (g_check_mark T) m_check_mark (hr.mono (by decide)) rfl T.d_check_mark.m T.d_check_mark.F.kp T.d_check_mark.b (da_cons (de_var 0 (pv 0)) (da_cons (de_var 1 (pv 1)) da_nil))))
   (dss_cons (ds_if (dt_not (dt_val (de_call (g_is_within T) m_is_within (hr.mono (by decide)) rfl T.d_is_within.m T.d_is_within.F.kp T.d_is_within.b (da_cons (de_var 2 (pv 2)) (da_cons de_int (da_cons (de_op od_sub (de_ix (de_ix (de_var 0 (pv 0)) de_int (fun _ _=>rfl)) (de_var 1 (pv 1)) (fun _ _=>rfl)) de_int) da_nil)))))) (dss_one ds_never) dss_nil)
   (dss_cons (ds_setC (i:=3) sc_within.nd rfl rfl (dl_comp (N':=["cell","mark","kind"]) rfl rfl (by decide +kernel) rfl (.own (.cap (j:=1) rfl (by first | exact Or.inl rfl | exact Or.inr rfl) rfl (.cap (j:=2) rfl (by first | exact Or.inl rfl | exact Or.inr rfl) rfl .nil))) (by decide +kernel) (di_tup (de_ix (de_var 0 (pv 0)) de_int (fun _ _=>rfl))) (fun B=>(dg_name (i:=0) (show List.Nodup (α:=PySem.Str) ["cell","mark","kind"] by decide +kernel) rfl (by first | exact Or.inl rfl | exact Or.inr rfl))) (fun B=>(dts_one (dt_cmp (od_eq hr) (de_ix (de_ix (de_var 0 (pv 0)) de_int (fun _ _=>rfl)) (de_var 1 (pv 1)) (fun _ _=>rfl)) (de_var 2 (pv 2)) (nomark _)))) (fun B=>(de_tup (da_cons (de_call (g_without T) m_without (hr.mono (by decide)) rfl T.d_without.m T.d_without.F.kp T.d_without.b (da_cons (de_ix (de_var 0 (pv 0)) de_int (fun _ _=>rfl)) (da_cons (de_var 1 (pv 1)) da_nil))) (da_cons (de_ix (de_var 0 (pv 0)) de_int (fun _ _=>rfl)) da_nil))))))
   (dss_one (ds_ret (de_tup (da_cons (de_ix (de_var 0 (pv 0)) de_int (fun _ _=>rfl)) (da_cons (de_call (g_without T) m_without (hr.mono (by decide)) rfl T.d_without.m T.d_without.F.kp T.d_without.b (da_cons (de_ix (de_var 0 (pv 0)) de_int (fun _ _=>rfl)) (da_cons (de_var 1 (pv 1)) da_nil))) (da_cons (de_callTy cd_tuple rfl T.z_tuple rfl (da_cons (de_var 3 (pv 3)) da_nil)) da_nil)))))))))) (fun ds Q hl h=>?_)
 obtain ⟨b,i,m,k,rfl,bo,hm,⟨k0,k1⟩,h⟩:=h
 have hi:i < b.marks.length:=(List.getElem?_eq_some_iff.mp hm).1
 have mk5:=bo.mk5
 have c60:=bo.c60
 refine ⟨rfl,b,i,rfl,⟨by omega,by omega⟩,mk5,?_⟩
 refine opt_at (d:=.int m) (by omega) (by rw [Int.toNat_natCast,List.getElem?_map,hm]; rfl) ⟨rfl,⟨k0,by omega⟩,Br.f ?_⟩
 refine dColl_pre (fun pre acc ρ=>∃ c0 c1,b.cells = c0 ++ c1 /\ pre = c0.map cellD /\ acc = (wcells i k c0).map cellD /\ ∃ s,ρ = [s,.val (.int i),.val (.int k)]) (fun acc ρ hN=>?_) (fun pre d post acc ρ Y e hN hY=>?_) _ ⟨[],b.cells,rfl,rfl,rfl,_,rfl⟩
 ·obtain ⟨c0,c1,e1,e2,rfl,s,rfl⟩:=hN
  have:c1 = []:=by
   have:=congrArg List.length e2
   rw [e1] at this
   simp at this
   exact this
  subst this
  rw [List.append_nil] at e1
  subst e1
  exact ⟨rfl,b.marks,i,rfl,hi,by omega,sz,h⟩
 ·obtain ⟨c0,c1,e1,rfl,rfl,s,rfl⟩:=hN
  rw [e1,List.map_append] at e
  have e:=List.append_cancel_left e
  cases c1 with
  | nil=>simp at e
  | cons c c1 =>
   rw [List.map_cons] at e
   injection e with e3 e4
   subst e3
   have cl:=bo.it c (by rw [e1]; simp)
   have ci:c.1[i]? = some (c.1.getD i 0):=by
    rw [List.getD_eq_getElem?_getD,List.getElem?_eq_getElem (by omega)]
    rfl
   have snoc:wcells i k (c0 ++ [c]) = wcells i k c0 ++ (if c.1.getD i 0 = k then [(c.1.eraseIdx i,c.2)] else []):=by
    unfold wcells
    rw [List.filter_append,List.map_append,List.filter_cons]
    by_cases z:c.1.getD i 0 = k
    ·rw [if_pos (decide_eq_true z),if_pos z]; rfl
    ·rw [if_neg (by rw [decide_eq_true_eq]; exact z),if_neg z]; rfl
   have wl:(wcells i k c0).length <= 60:=by
    unfold wcells
    rw [List.length_map]
    have:=List.length_filter_le (fun c:List Int × Row=>decide (c.1.getD i 0 = k)) c0
    rw [e1,List.length_append] at c60
    omega
   refine opt_at (d:=.int (c.1.getD i 0)) (by omega) (by rw [Int.toNat_natCast,List.getElem?_map,ci]; rfl) ⟨⟨rfl,rfl⟩,fun z=>?_,fun z=>?_⟩
   ·have z:c.1.getD i 0 = k:=by simpa [eqD_int] using z
    rw [if_pos z] at snoc
    refine ⟨rfl,c.1,i,rfl,by omega,by omega,sz,?_,hY _ _ ⟨c0 ++ [c],c1,by rw [e1]; simp,by simp,by rw [snoc,List.map_append]; rfl,_,rfl⟩⟩
    rw [List.length_map]
    exact Nat.lt_of_le_of_lt wl (by decide)
   ·have z:c.1.getD i 0 ≠ k:=by simpa [eqD_int] using z
    rw [if_neg z,List.append_nil] at snoc
    exact hY _ _ ⟨c0 ++ [c],c1,by rw [e1]; simp,by simp,by rw [snoc],_,rfl⟩
def gTableD:DSp:=fun ds Q=>∃ (b:Bk) (so:List Int),ds = [bookD b,intsT so] /\ BkOk b /\ SoOk b so /\ Q (.lst (((partsB b so).map (·.2)).map rowD))
theorem m_table_by:MonoS gTableD:=fun ds P P' f ⟨b,so,a,c,d,h⟩=>⟨b,so,a,c,d,f _ h⟩
theorem g_table_by (T:Tx K mg):FnOk P w K mg base CX0 6 T.f_table_by T.fd_table_by ["book","some"] (spD K 2 gTableD):=by
 refine fnD (k:=5) T.d_table_by.F sc_table_by (fun cdv A outer s H E hr=>(dss_one (ds_ret (de_frz (PCD.pld (dl_comp (N':=["part"]) rfl rfl (by decide +kernel) rfl (.own .nil) (by decide +kernel) (di_list (de_call (g_parts_by T) m_parts_by (hr.mono (by decide)) rfl T.d_parts_by.m T.d_parts_by.F.kp T.d_parts_by.b (da_cons (de_var 0 (pv 0)) (da_cons (de_var 1 (pv 1)) da_nil)))) (fun B=>(dg_name (i:=0) (show List.Nodup (α:=PySem.Str) ["part"] by decide +kernel) rfl (by first | exact Or.inl rfl | exact Or.inr rfl))) (fun B=>dts_nil) (fun B=>(de_ix (de_var 0 (pv 0)) de_int (fun _ _=>rfl))))))))) (fun ds Q hl h=>?_)
 obtain ⟨b,so,rfl,bo,o,h⟩:=h
 refine ⟨rfl,b,so,rfl,bo,o,?_⟩
 refine dColl_map (fun d=>match d with | .tup [_,x]=>x | _=>.non) (fun ρ=>∃ s,ρ = [s]) ?_ (fun d hd ρ Y Z hN hY=>?_) _ ⟨_,rfl⟩ ?_
 ·rw [List.length_map]
  exact Nat.le_trans (parts_len bo) (by decide)
 ·obtain ⟨s,rfl⟩:=hN
  obtain ⟨c,_,rfl⟩:=List.mem_map.mp hd
  exact Br.t (hY _ ⟨_,rfl⟩)
 ·have e:((partsB b so).map cellD).map (fun d=>match d with | .tup [_,x]=>x | _=>.non) = ((partsB b so).map (·.2)).map rowD:=by
   rw [List.map_map,List.map_map]
   rfl
  rw [e]
  exact h
theorem erase_perm:∀ (l:List Int) (i:Nat) (h:i < l.length),(l[i] :: l.eraseIdx i).Perm l
 | [],i,h=>by simp at h
 | a :: t,0,_=>List.Perm.refl _
 | a :: t,i + 1,h=>by
  have hi:i < t.length:=by simpa using h
  have ih:=erase_perm t i hi
  show (t[i] :: a :: t.eraseIdx i).Perm (a :: t)
  exact (List.Perm.swap a t[i] _).trans (ih.cons a)
theorem erase_mapI:∀ (l:List Int) (i:Nat),(l.eraseIdx i).map D.int = (l.map D.int).eraseIdx i
 | [],i=>by simp
 | a :: t,0=>rfl
 | a :: t,i + 1=>by
  show D.int a :: (t.eraseIdx i).map D.int = D.int a :: (t.map D.int).eraseIdx i
  rw [erase_mapI t i]
def rngI (n:Nat):List Int:=(List.range n).map fun (i:Nat)=>(i:Int)
theorem rng_ints (n:Nat):intsD 0 n = (rngI n).map D.int:=by
 unfold rngI
 rw [intsD_map,List.map_map]
 apply List.map_congr_left
 intro i _
 simp
theorem rngI_nd (n:Nat):(rngI n).Nodup:=(List.nodup_range).map _ (fun a b h e=>h (by have e:(a:Int) = (b:Int):=e; omega))
theorem rngI_mem {n:Nat} {x:Int}:x ∈ rngI n ↔ 0 <= x /\ x < n:=by
 unfold rngI
 rw [List.mem_map]
 constructor
 ·rintro ⟨i,hi,rfl⟩
  have:=List.mem_range.mp hi
  omega
 ·rintro ⟨h0,h1⟩
  exact ⟨x.toNat,List.mem_range.mpr (by omega),by omega⟩
theorem rngI_len (n:Nat):(rngI n).length = n:=by unfold rngI; simp
def gOrd:DSp:=fun ds Q=>∃ n:Nat,ds = [.pen,.int n] /\ n <= 5 /\ ∀ so:List Int,so.Perm (rngI n) -> Q (intsT so)
theorem m__law_order:MonoS gOrd:=fun ds P P' f ⟨n,a,b,h⟩=>⟨n,a,b,fun so x=>f _ (h so x)⟩
def muO (ρ:DS):Nat:=match slot ρ 2 with
 | .own l=>l.length
 | _=>0
theorem shp_intsL (ls:List Int):shp (.lst (ls.map D.int)) = true:=Shp.shp (n:=2) (.lst fun d hd=>by
 obtain ⟨k,_,rfl⟩:=List.mem_map.mp hd
 exact .int)
theorem g__law_order (T:Tx K mg):FnOk P w K mg base CX0 2 T.f__law_order T.fd__law_order ["_law_pen_here","_law_many"] (spD K 2 gOrd):=by
 refine fnD (k:=1) T.d__law_order.F sc__law_order (fun cdv A outer s H E hr=>(dss_cons (ds_own (i:=2) sc__law_order.nd rfl (by first | exact Or.inl rfl | exact Or.inr rfl) (dl_listR rfl rfl T.z_list rfl T.z_range (da_cons (de_var 1 (pv 1)) da_nil)))
   (dss_cons (ds_own (i:=3) sc__law_order.nd rfl (by first | exact Or.inl rfl | exact Or.inr rfl) (dl_lst da_nil))
   (dss_mid (ds_while PassesOwn.never (dt_look (dt_cmp (od_ne hr) (de_var 2 (pv 2)) (de_frz (dl_lst da_nil)) (nomark _))) (dss_one (ds_app (pv 3) (de_pop (pv 2) (de_call (g__law_next T) m__law_next (hr.mono (by decide)) rfl T.d__law_next.m T.d__law_next.F.kp T.d__law_next.b (da_cons (de_var 0 (pv 0)) (da_cons (de_look (de_callB cd_len rfl T.z_len PySem.boot_len (da_cons (de_var 2 (pv 2)) da_nil))) da_nil)))))))
   (dss_one (ds_ret (de_callTy cd_tuple rfl T.z_tuple rfl (da_cons (de_var 3 (pv 3)) da_nil)))))))) (fun ds Q hl h=>?_)
 obtain ⟨n,rfl,n5,h⟩:=h
 refine ⟨⟨by omega,by omega⟩,?_⟩
 rw [Int.toNat_natCast,rng_ints]
 refine ⟨sz,fun ρ=>∃ fs:List Int,fs.Perm (rngI n) /\ ∃ a:Sl,ρ = [.val .pen,.val (.int n),a,.own (fs.map D.int)],?_,?_⟩
 ·refine dWhile_ind (fun ρ=>∃ fs ls:List Int,(fs ++ ls).Perm (rngI n) /\ ρ = [.val .pen,.val (.int n),.own (ls.map D.int),.own (fs.map D.int)]) muO (fun ρ X hN hX=>?_) _ ⟨[],rngI n,List.Perm.refl _,rfl⟩
  obtain ⟨fs,ls,hp,rfl⟩:=hN
  have sl:=hp.length_eq
  rw [rngI_len,List.length_append] at sl
  refine fun vs=>⟨sz,⟨shp_intsL ls,rfl⟩,rfl,?_⟩
  cases ls with
  | nil =>
   rw [List.append_nil] at hp
   refine ne_self (d:=.lst []) rfl ?_
   exact ⟨fs,hp,_,rfl⟩
  | cons l0 lt =>
   obtain ⟨ls,els⟩:∃ ls,ls = l0 :: lt:=⟨_,rfl⟩
   have eb:eqD (.lst ((l0 :: lt).map D.int)) (.lst []) = false:=rfl
   rw [eb]
   rw [← els] at hp sl ⊢
   have lp:1 <= ls.length:=by rw [els]; simp
   refine Br.t ?_
   have ell:((ls.map D.int).length:Int) = ls.length:=by rw [List.length_map]
   refine ⟨trivial,trivial,fun vs=>⟨⟨trivial,rfl⟩,rfl,⟨by omega,by omega⟩,fun r r0 r1=>?_⟩⟩
   have hr:r.toNat < ls.length:=by omega
   refine ⟨⟨r0,by omega⟩,.int ls[r.toNat],by rw [List.getElem?_map]; simp [hr],?_,hX _ ⟨fs ++ [ls[r.toNat]],ls.eraseIdx r.toNat,?_,?_⟩ ?_⟩
   ·rw [List.length_map]
    exact Nat.lt_of_le_of_lt (show fs.length <= 10 by omega) (by decide)
   ·have p:(fs ++ [ls[r.toNat]] ++ ls.eraseIdx r.toNat).Perm (fs ++ ls):=by
     rw [List.append_assoc]
     exact (erase_perm ls r.toNat hr).append_left fs
    exact p.trans hp
   ·rw [List.map_append,erase_mapI]
    rfl
   ·show ((ls.map D.int).eraseIdx r.toNat).length < ((l0 :: lt).map D.int).length
    rw [← els,List.length_eraseIdx,List.length_map,if_pos hr]
    omega
 ·rintro _ ⟨fs,hp,a,rfl⟩
  exact h fs hp
theorem parts_keys (m:Nat) (ps:List (List Int × Row)):(partsL m ps).map (·.1) = sortI ((grp ps).map (·.1)):=by
 unfold partsL
 rw [List.map_map]
 exact List.map_id _
theorem parts_up (m:Nat) (ps:List (List Int × Row)):((partsL m ps).map (·.1)).Pairwise fun a b=>ltI a b = true:=by
 rw [parts_keys]
 exact sortI_up (grp_nd _)
theorem parts_mem {m:Nat} {ps:List (List Int × Row)} {k:List Int}:k ∈ (partsL m ps).map (·.1) ↔ k ∈ ps.map (·.1):=by
 rw [parts_keys,(sortI_perm _).mem_iff,mem_grp]
theorem parts_row {m:Nat} {ps:List (List Int × Row)} {c:List Int × Row} (h:c ∈ partsL m ps):c.2 = sums ((ps.filter fun p=>decide (p.1 = c.1)).map (·.2)) m:=by
 unfold partsL at h
 obtain ⟨k,_,rfl⟩:=List.mem_map.mp h
 show sums (rowsOf (grp ps) k) m = _
 rw [rowsOf_grp]
theorem parts_as (m:Nat) (ps:List (List Int × Row)):partsL m ps = ((partsL m ps).map (·.1)).map fun k=>(k,sums ((ps.filter fun p=>decide (p.1 = k)).map (·.2)) m):=by
 rw [List.map_map]
 conv=>lhs; rw [← List.map_id (partsL m ps)]
 apply List.map_congr_left
 intro c hc
 show c = (c.1,_)
 rw [← parts_row hc]
theorem parts_nd (m:Nat) (ps:List (List Int × Row)):((partsL m ps).map (·.1)).Nodup:=by
 rw [parts_keys]
 exact (sortI_perm _).nodup_iff.mpr (grp_nd _)
theorem parts_filter (m:Nat) (q:List Int -> Bool) (ps:List (List Int × Row)):partsL m (ps.filter fun p=>q p.1) = (partsL m ps).filter fun c=>q c.1:=by
 have ek:(partsL m (ps.filter fun p=>q p.1)).map (·.1) = ((partsL m ps).map (·.1)).filter q:=by
  refine up_eq (parts_up _ _) ((parts_up m ps).sublist List.filter_sublist) fun k=>?_
  rw [parts_mem,List.mem_filter,parts_mem,List.mem_map,List.mem_map]
  constructor
  ·rintro ⟨p,hp,rfl⟩
   have hp:=List.mem_filter.mp hp
   exact ⟨⟨p,hp.1,rfl⟩,hp.2⟩
  ·rintro ⟨⟨p,hp,rfl⟩,hq⟩
   exact ⟨p,List.mem_filter.mpr ⟨hp,hq⟩,rfl⟩
 obtain ⟨Ks,hK⟩:∃ Ks,Ks = (partsL m ps).map (·.1):=⟨_,rfl⟩
 rw [← hK] at ek
 rw [parts_as m (ps.filter fun p=>q p.1),ek,parts_as m ps,← hK,List.filter_map]
 apply List.map_congr_left
 intro k hk
 have hk:=(List.mem_filter.mp hk).2
 show (k,_) = (k,_)
 rw [List.filter_filter]
 have:(ps.filter fun p=>decide (p.1 = k) && q p.1) = ps.filter fun p=>decide (p.1 = k):=by
  apply List.filter_congr
  intro p _
  by_cases z:p.1 = k
  ·rw [z,hk,Bool.and_true]
  ·rw [decide_eq_false z]; rfl
 rw [this]
theorem parts_rename (m:Nat) (f:List Int -> List Int) (inj:∀ a b,f a = f b -> a = b) (up:∀ a b,ltI a b = true -> ltI (f a) (f b) = true) (ps:List (List Int × Row)):partsL m (ps.map fun p=>(f p.1,p.2)) = (partsL m ps).map fun c=>(f c.1,c.2):=by
 have ek:(partsL m (ps.map fun p=>(f p.1,p.2))).map (·.1) = ((partsL m ps).map (·.1)).map f:=by
  refine up_eq (parts_up _ _) ?_ fun k=>?_
  ·rw [List.pairwise_map]
   exact (parts_up m ps).imp fun {a b} h=>up a b h
  ·rw [parts_mem,List.map_map,List.mem_map,List.mem_map]
   constructor
   ·rintro ⟨p,hp,rfl⟩
    exact ⟨p.1,parts_mem.mpr (List.mem_map.mpr ⟨p,hp,rfl⟩),rfl⟩
   ·rintro ⟨k0,hk0,rfl⟩
    obtain ⟨p,hp,rfl⟩:=List.mem_map.mp (parts_mem.mp hk0)
    exact ⟨p,hp,rfl⟩
 obtain ⟨Ks,hK⟩:∃ Ks,Ks = (partsL m ps).map (·.1):=⟨_,rfl⟩
 rw [← hK] at ek
 rw [parts_as m (ps.map fun p=>(f p.1,p.2)),ek,parts_as m ps,← hK,List.map_map,List.map_map]
 apply List.map_congr_left
 intro k _
 show (f k,_) = (f k,_)
 rw [List.filter_map,List.map_map]
 have:(ps.filter ((fun p=>decide (p.1 = f k)) ∘ fun p=>(f p.1,p.2))) = ps.filter fun p=>decide (p.1 = k):=by
  apply List.filter_congr
  intro p _
  show decide (f p.1 = f k) = decide (p.1 = k)
  by_cases z:p.1 = k
  ·rw [z,decide_eq_true rfl,decide_eq_true rfl]
  ·rw [decide_eq_false z,decide_eq_false fun y=>z (inj _ _ y)]
 rw [this]
 rfl
theorem lt_pre:∀ (v a b:List Int),ltI a b = true -> ltI (v ++ a) (v ++ b) = true
 | [],_,_,h=>h
 | x :: v,a,b,h=>by
  show (if x = x then ltI (v ++ a) (v ++ b) else decide (x < x)) = true
  rw [if_pos rfl]
  exact lt_pre v a b h
def kidsP (b:Bk) (so:List Int) (l:Nat) (v:List Int):List (List Int × Row):=partsL b.m ((b.cells.filter fun c=>decide (vals c.1 (so.take l) = v)).map fun c=>(vals c.1 [so.getD l 0],c.2))
theorem vals_len (ks so:List Int):(vals ks so).length = so.length:=by unfold vals; simp
theorem vals_app (ks a b:List Int):vals ks (a ++ b) = vals ks a ++ vals ks b:=by unfold vals; simp
theorem take_snoc {so:List Int} {l:Nat} (h:l < so.length):so.take (l + 1) = so.take l ++ [so.getD l 0]:=by
 rw [List.take_succ_eq_append_getElem h,List.getD_eq_getElem?_getD,List.getElem?_eq_getElem h]
 rfl
theorem kids_eq {b:Bk} {so:List Int} {l:Nat} (hl:l < so.length) {v:List Int} (hv:v.length = l):(partsB b (so.take (l + 1))).filter (fun c=>isKid v c.1) = (kidsP b so l v).map fun c=>(v ++ c.1,c.2):=by
 unfold partsB kidsP
 rw [← parts_filter,← parts_rename b.m (fun k=>v ++ k) (fun a b h=>List.append_cancel_left h) (lt_pre v)]
 congr 1
 rw [List.filter_map,List.map_map]
 have e1:(b.cells.filter ((fun p=>isKid v p.1) ∘ fun c=>(vals c.1 (so.take (l + 1)),c.2))) = b.cells.filter fun c=>decide (vals c.1 (so.take l) = v):=by
  apply List.filter_congr
  intro c _
  show isKid v (vals c.1 (so.take (l + 1))) = _
  have t1:(vals c.1 (so.take l)).length = l:=by rw [vals_len,List.length_take]; omega
  unfold isKid
  rw [take_snoc hl,vals_app,List.length_append,t1,decide_eq_true (by rw [vals_len]; simp [hv]),Bool.true_and,hv,List.take_append_of_le_length (by omega),List.take_of_length_le (by omega)]
 rw [e1]
 apply List.map_congr_left
 intro c hc
 have hc:vals c.1 (so.take l) = v:=of_decide_eq_true (List.mem_filter.mp hc).2
 show (vals c.1 (so.take (l + 1)),c.2) = (v ++ vals c.1 [so.getD l 0],c.2)
 rw [take_snoc hl,vals_app,hc]
theorem sum_zero {α:Type} {F:α -> Int}:∀ {l:List α},(∀ x ∈ l,F x = 0) -> (l.map F).sum = 0
 | [],_=>rfl
 | x :: l,h=>by
  rw [List.map_cons,List.sum_cons,h x List.mem_cons_self,sum_zero fun y hy=>h y (List.mem_cons_of_mem _ hy)]
  rfl
theorem sum_one {v:Int} {k:List Int}:∀ {K:List (List Int)},K.Nodup -> k ∈ K -> (K.map fun x=>if k = x then v else 0).sum = v
 | [],_,h=>by simp at h
 | x :: K,nd,h=>by
  have nd:=List.nodup_cons.mp nd
  rw [List.map_cons,List.sum_cons]
  by_cases z:k = x
  ·rw [if_pos z]
   have:(K.map fun x=>if k = x then v else 0).sum = 0:=sum_zero fun y hy=>if_neg fun e=>nd.1 (by rw [← z,e]; exact hy)
   omega
  ·rw [if_neg z,sum_one nd.2 (by rcases List.mem_cons.mp h with h | h; exact absurd h z; exact h)]
   omega
theorem sum_add2 {α:Type} (F G:α -> Int):∀ l:List α,(l.map fun x=>F x + G x).sum = (l.map F).sum + (l.map G).sum
 | []=>rfl
 | x :: l=>by
  rw [List.map_cons,List.map_cons,List.map_cons,List.sum_cons,List.sum_cons,List.sum_cons,sum_add2 F G l]
  omega
theorem regroupP (F:Row -> Int) {K:List (List Int)} (nd:K.Nodup):∀ (ps:List (List Int × Row)),(∀ p ∈ ps,p.1 ∈ K) -> (K.map fun k=>(((ps.filter fun p=>decide (p.1 = k)).map (·.2)).map F).sum).sum = ((ps.map (·.2)).map F).sum
 | [],_=>sum_zero fun _ _=>rfl
 | p :: ps,h=>by
  have ih:=regroupP F nd ps fun q hq=>h q (List.mem_cons_of_mem _ hq)
  rw [List.map_cons,List.map_cons,List.sum_cons,← ih,← sum_one (v:=F p.2) nd (h p List.mem_cons_self),← sum_add2]
  congr 1
  apply List.map_congr_left
  intro k _
  rw [List.filter_cons]
  by_cases z:p.1 = k
  ·rw [if_pos (decide_eq_true z),if_pos z,List.map_cons,List.map_cons,List.sum_cons]
  ·rw [if_neg (by rw [decide_eq_true_eq]; exact z),if_neg z]
   omega
theorem at_sums {rows:List Row} {n h:Nat} (hh:h < n):at_ (sums rows n) h = sumP (col rows h):=by
 unfold at_ sums
 rw [List.getD_eq_getElem?_getD,List.getElem?_map,List.getElem?_range hh]
 rfl
theorem sums_parts (m:Nat) (ps:List (List Int × Row)):sums ((partsL m ps).map (·.2)) m = sums (ps.map (·.2)) m:=by
 unfold sums
 apply List.map_congr_left
 intro h hh
 have hh:=List.mem_range.mp hh
 have hk:∀ p ∈ ps,p.1 ∈ (partsL m ps).map (·.1):=fun p hp=>parts_mem.mpr (List.mem_map.mpr ⟨p,hp,rfl⟩)
 have key:∀ g:Int × Int -> Int,(∀ cs:List (Int × Int),g (sumP cs) = (cs.map g).sum) -> ((col ((partsL m ps).map (·.2)) h).map g).sum = ((col (ps.map (·.2)) h).map g).sum:=fun g hg=>by
  have:=regroupP (fun r=>g (at_ r h)) (parts_nd m ps) ps hk
  unfold col
  rw [List.map_map,List.map_map (f:=fun r=>at_ r h)]
  refine Eq.trans ?_ this
  conv=>lhs; rw [parts_as m ps]
  rw [List.map_map,List.map_map]
  congr 1
  apply List.map_congr_left
  intro k _
  show g (at_ (sums ((ps.filter fun p=>decide (p.1 = k)).map (·.2)) m) h) = _
  rw [at_sums hh,hg]
  unfold col
  rw [List.map_map]
  rfl
 have k1:=key (·.1) fun cs=>rfl
 have k2:=key (·.2) fun cs=>rfl
 unfold sumP
 rw [k1,k2]
theorem partsB_len {b:Bk} {so:List Int} {c:List Int × Row} (h:c ∈ partsB b so):c.1.length = so.length:=by
 have:c.1 ∈ (partsB b so).map (·.1):=List.mem_map.mpr ⟨c,h,rfl⟩
 unfold partsB at this
 rw [parts_mem,List.map_map,List.mem_map] at this
 obtain ⟨d,_,e⟩:=this
 rw [← e]
 exact vals_len _ _
theorem knots_mem {b:Bk} {so:List Int} {n:Nat} {c:List Int × Row}:c ∈ knotsL b so n ↔ ∃ l,l < n /\ c ∈ partsB b (so.take l):=by
 unfold knotsL
 rw [List.mem_flatMap]
 exact ⟨fun ⟨l,hl,h⟩=>⟨l,List.mem_range.mp hl,h⟩,fun ⟨l,hl,h⟩=>⟨l,List.mem_range.mpr hl,h⟩⟩
theorem lev_len {b:Bk} {so:List Int} {l:Nat} (hl:l <= so.length) {c:List Int × Row} (h:c ∈ partsB b (so.take l)):c.1.length = l:=by
 rw [partsB_len h,List.length_take]
 omega
theorem knots_at {b:Bk} {so:List Int} {c:List Int × Row} (h:c ∈ knotsL b so (so.length + 1)):c.1.length <= so.length /\ c ∈ partsB b (so.take c.1.length):=by
 obtain ⟨l,hl,h⟩:=knots_mem.mp h
 have:=lev_len (by omega) h
 rw [this]
 exact ⟨by omega,h⟩
theorem knots_kids {b:Bk} {so v:List Int} {n:Nat} (hn:n <= so.length + 1):(knotsL b so n).filter (fun c=>isKid v c.1) = if v.length + 1 < n then (partsB b (so.take (v.length + 1))).filter (fun c=>isKid v c.1) else []:=by
 induction n with
 | zero=>rfl
 | succ n ih =>
  rw [knots_succ,List.filter_append,ih (by omega)]
  by_cases z:v.length + 1 = n
  ·subst z
   rw [if_neg (by omega),if_pos (by omega),List.nil_append]
  ·have:(partsB b (so.take n)).filter (fun c=>isKid v c.1) = []:=by
    rw [List.filter_eq_nil_iff]
    intro c hc
    have:=lev_len (by omega) hc
    unfold isKid
    rw [decide_eq_false (by omega)]
    exact Bool.false_ne_true
   rw [this,List.append_nil]
   by_cases y:v.length + 1 < n
   ·rw [if_pos y,if_pos (by omega)]
   ·rw [if_neg y,if_neg (by omega)]
theorem knots_nd {b:Bk} {so:List Int}:∀ n,n <= so.length + 1 -> ((knotsL b so n).map (·.1)).Nodup
 | 0,_=>List.nodup_nil
 | n + 1,h=>by
  rw [knots_succ,List.map_append]
  refine List.nodup_append.mpr ⟨knots_nd n (by omega),parts_nd _ _,fun x hx y hy e=>?_⟩
  obtain ⟨c,hc,rfl⟩:=List.mem_map.mp hx
  obtain ⟨d,hd,rfl⟩:=List.mem_map.mp hy
  obtain ⟨l,hl,hc⟩:=knots_mem.mp hc
  have h1:=lev_len (by omega) hc
  have h2:=lev_len (by omega) hd
  rw [e] at h1
  omega
def kidsT (b:Bk) (so:List Int) (v:List Int):List Row:=(kidsP b so v.length v).map (·.2)
section
variable {b:Bk} {so:List Int}
theorem words_kids {v:List Int} (hv:v.length < so.length) (x y:Nat):wordsOf (knotsL b so (so.length + 1)) x y v = (kidsT b so v).map (sayR x y):=by
 unfold wordsOf kidsT
 rw [knots_kids (Nat.le_refl _),if_pos (by omega),kids_eq hv rfl,List.map_map,List.map_map]
 rfl
theorem kids_sum {c:List Int × Row} (hc:c ∈ partsB b (so.take c.1.length)):sums (kidsT b so c.1) b.m = c.2:=by
 unfold kidsT kidsP
 rw [sums_parts,List.map_map]
 unfold partsB at hc
 have:=parts_row hc
 rw [this,List.filter_map,List.map_map]
 rfl
theorem kids_ne {c:List Int × Row} (hc:c ∈ partsB b (so.take c.1.length)):kidsT b so c.1 ≠ []:=by
 have:c.1 ∈ (partsB b (so.take c.1.length)).map (·.1):=List.mem_map.mpr ⟨c,hc,rfl⟩
 unfold partsB at this
 rw [parts_mem,List.map_map,List.mem_map] at this
 obtain ⟨d,hd,e⟩:=this
 have e:vals d.1 (so.take c.1.length) = c.1:=e
 have hk:vals d.1 [so.getD c.1.length 0] ∈ (kidsP b so c.1.length c.1).map (·.1):=by
  unfold kidsP
  rw [parts_mem,List.map_map,List.mem_map]
  exact ⟨d,List.mem_filter.mpr ⟨hd,decide_eq_true e⟩,rfl⟩
 intro z
 unfold kidsT at z
 have:kidsP b so c.1.length c.1 = []:=List.map_eq_nil_iff.mp z
 rw [this] at hk
 simp at hk
theorem kids_rows (bo:BkOk b) {v:List Int}:(∀ r ∈ kidsT b so v,RowN 200 b.m r) /\ (kidsT b so v).length <= 60:=by
 have hl:((b.cells.filter fun c=>decide (vals c.1 (so.take v.length) = v)).map fun c=>(vals c.1 [so.getD v.length 0],c.2)).length <= 60:=by
  rw [List.length_map]
  exact Nat.le_trans (List.length_filter_le _ _) bo.c60
 refine ⟨fun r hr=>?_,?_⟩
 ·unfold kidsT at hr
  obtain ⟨c,hc,rfl⟩:=List.mem_map.mp hr
  unfold kidsP at hc
  rw [parts_row hc]
  refine sums_n (fun r hr=>?_) ?_
  ·obtain ⟨p,hp,rfl⟩:=List.mem_map.mp hr
   obtain ⟨d,hd,rfl⟩:=List.mem_map.mp (List.mem_filter.mp hp).1
   exact (bo.it d (List.mem_filter.mp hd).1).2.1
  ·rw [List.length_map]
   exact Nat.le_trans (List.length_filter_le _ _) hl
 ·unfold kidsT kidsP
  rw [List.length_map]
  unfold partsL
  rw [List.length_map,(sortI_perm _).length_eq,List.length_map]
  exact Nat.le_trans (grp_ok (C:=fun _=>True) (R:=fun _=>True) _ fun _ _=>⟨trivial,trivial⟩).len hl
theorem flat_key {α:Type} (key:α -> List Int) (f:α -> List (List Int × Int)) (hf:∀ c,∀ p ∈ f c,p.1 = key c):∀ {cs:List α},(cs.map key).Nodup -> ∀ c ∈ cs,(cs.flatMap f).filter (fun p=>decide (p.1 = key c)) = f c
 | [],_,c,hc=>by simp at hc
 | d :: cs,nd,c,hc=>by
  rw [List.map_cons] at nd
  have nd:=List.nodup_cons.mp nd
  rw [List.flatMap_cons,List.filter_append]
  rcases List.mem_cons.mp hc with rfl | hc
  ·have h1:(f c).filter (fun p=>decide (p.1 = key c)) = f c:=List.filter_eq_self.mpr fun p hp=>decide_eq_true (hf c p hp)
   have h2:(cs.flatMap f).filter (fun p=>decide (p.1 = key c)) = []:=by
    rw [List.filter_eq_nil_iff]
    intro p hp z
    obtain ⟨d,hd,hp⟩:=List.mem_flatMap.mp hp
    have z:=of_decide_eq_true z
    rw [hf d p hp] at z
    exact nd.1 (by rw [← z]; exact List.mem_map.mpr ⟨d,hd,rfl⟩)
   rw [h1,h2,List.append_nil]
  ·have h1:(f d).filter (fun p=>decide (p.1 = key c)) = []:=by
    rw [List.filter_eq_nil_iff]
    intro p hp z
    have z:=of_decide_eq_true z
    rw [hf d p hp] at z
    exact nd.1 (by rw [z]; exact List.mem_map.mpr ⟨c,hc,rfl⟩)
   rw [h1,List.nil_append,flat_key key f hf nd.2 c hc]
theorem tu_key (cs:List (List Int × Row)) (x y:Nat) (c:List Int × Row):∀ p ∈ tuOf cs x y c,p.1 = c.1:=fun p hp=>by
 obtain ⟨s,_,hs⟩:=List.mem_flatMap.mp hp
 unfold oneT at hs
 split at hs
 ·rw [List.mem_singleton.mp hs]
 ·simp at hs
theorem told_of {c:List Int × Row} (hc:c ∈ knotsL b so (so.length + 1)) (x y:Nat):(turnsL (knotsL b so (so.length + 1)) x y).filter (fun p=>decide (p.1 = c.1)) = tuOf (knotsL b so (so.length + 1)) x y c:=flat_key (·.1) _ (tu_key _ x y) (knots_nd _ (Nat.le_refl _)) c hc
def dueT (v:List Int) (d:D):List D:=match d with
 | .tup (.str "turned" :: .int s :: _)=>[tkD (v,s)]
 | _=>[]
theorem whole_say {t:List Row} {m:Nat} {r:Row} (e:sums t m = r) {x y:Nat} (hx:x < m) (hy:y < m):wholeS t x y = sayR x y r:=by
 unfold wholeS sayR
 rw [← e,at_sums hx,at_sums hy]
theorem due_is {c:List Int × Row} (hl:c.1.length < so.length) (hc:c ∈ partsB b (so.take c.1.length)) {x y:Nat} (hx:x < b.m) (hy:y < b.m) :
  (tuOf (knotsL b so (so.length + 1)) x y c).map tkD = dueT c.1 (turnD (told (kidsT b so c.1) x y) (wholeS (kidsT b so c.1) x y)):=by
 have e1:=words_kids (b:=b) hl x y
 have e2:=kids_ne hc
 rw [whole_say (kids_sum hc) hx hy]
 unfold tuOf
 rw [e1]
 have e3:told (kidsT b so c.1) x y = (kidsT b so c.1).map (sayR x y):=rfl
 rw [e3]
 have ne:((kidsT b so c.1).map (sayR x y)).isEmpty = false:=by
  rw [List.isEmpty_map]
  cases q:kidsT b so c.1 with
  | nil=>exact absurd q e2
  | cons _ _=>rfl
 have fo:∀ d ∈ (kidsT b so c.1).map (sayR x y),four d:=fun d hd=>by
  obtain ⟨r,_,rfl⟩:=List.mem_map.mp hd
  exact sayR_four _ _ _
 generalize (kidsT b so c.1).map (sayR x y) = ws at ne fo ⊢
 show (oneT ws _ _ 1 ++ (oneT ws _ _ (-1) ++ [])).map tkD = _
 have f4:=sayR_four x y c.2
 generalize sayR x y c.2 = d at f4 ⊢
 have both:ws.all (isS 1) = true -> ws.all (isS (-1)) = false:=fun h=>by
  cases ws with
  | nil=>cases ne
  | cons w t =>
   rw [List.all_cons,Bool.and_eq_true] at h
   have h1:=h.1
   have:isS (-1) w = false:=by
    rcases fo w List.mem_cons_self with rfl | rfl | rfl | rfl
    ·rfl
    ·rfl
    ·exact absurd h1 (by decide)
    ·rfl
   rw [List.all_cons,this]
   rfl
 unfold oneT okT turnD tkT
 rw [ne]
 by_cases h1:ws.all (isS 1) = true
 ·rw [both h1,if_pos h1,h1]
  rcases f4 with rfl | rfl | rfl | rfl <;> rfl
 ·have h1':ws.all (isS 1) = false:=by cases q:ws.all (isS 1) <;> simp_all
  rw [if_neg h1,h1']
  by_cases h2:ws.all (isS (-1)) = true
  ·rw [if_pos h2,h2]
   rcases f4 with rfl | rfl | rfl | rfl <;> rfl
  ·have h2':ws.all (isS (-1)) = false:=by cases q:ws.all (isS (-1)) <;> simp_all
   rw [if_neg h2,h2']
   cases ws.findIdx? openB <;> rfl
theorem all_say {s:Int} {x y:Nat} (hs:s = 1 ∨ s = -1) (lv:∀ c ∈ partsB b (so.take so.length),isS s (sayR x y c.2) = true) (nt:∀ p ∈ turnsL (knotsL b so (so.length + 1)) x y,p.2 ≠ s):∀ k,k <= so.length -> ∀ c ∈ partsB b (so.take (so.length - k)),isS s (sayR x y c.2) = true:=by
 intro k
 induction k with
 | zero=>intro _ c hc; exact lv c hc
 | succ k ih =>
  intro hk c hc
  have ih:=ih (by omega)
  have cl:=lev_len (by omega) hc
  have hc':c ∈ partsB b (so.take c.1.length):=by rw [cl]; exact hc
  have hm:c ∈ knotsL b so (so.length + 1):=knots_mem.mpr ⟨_,by omega,hc⟩
  have e1:=words_kids (b:=b) (so:=so) (v:=c.1) (by omega) x y
  have e2:=kids_ne hc'
  cases q:isS s (sayR x y c.2) with
  | true=>rfl
  | false =>
   exfalso
   have ok:okT (wordsOf (knotsL b so (so.length + 1)) x y c.1) (sayR x y c.2) s = true:=by
    have ne:(wordsOf (knotsL b so (so.length + 1)) x y c.1).isEmpty = false:=by
     rw [e1,List.isEmpty_map]
     cases q:kidsT b so c.1 with
     | nil=>exact absurd q e2
     | cons _ _=>rfl
    have al:(wordsOf (knotsL b so (so.length + 1)) x y c.1).all (isS s) = true:=by
     unfold wordsOf
     rw [knots_kids (Nat.le_refl _),if_pos (by omega),List.all_eq_true]
     intro d hd
     obtain ⟨e,he,rfl⟩:=List.mem_map.mp hd
     have he:=(List.mem_filter.mp he).1
     refine ih e ?_
     rw [show so.length - k = c.1.length + 1 by omega]
     exact he
    unfold okT
    rw [ne,al,q]
    rfl
   refine nt (c.1,s) ?_ rfl
   unfold turnsL
   refine List.mem_flatMap.mpr ⟨c,hm,?_⟩
   unfold tuOf
   refine List.mem_flatMap.mpr ⟨s,by rcases hs with rfl | rfl <;> simp,?_⟩
   unfold oneT
   rw [if_pos ok]
   exact List.mem_singleton.mpr rfl
end
def bkAt (b:Bk) (so v:List Int) (l:Nat) (left:List Int):Bk:=⟨b.m,vals b.marks left,(b.cells.filter fun c=>decide (vals c.1 (so.take l) = v.take l)).map fun c=>(vals c.1 left,c.2)⟩
theorem vals_rng {ks:List Int} {n:Nat} (h:ks.length = n):vals ks (rngI n) = ks:=by
 unfold vals rngI
 rw [List.map_map]
 apply List.ext_getElem?
 intro i
 rw [List.getElem?_map]
 by_cases z:i < n
 ·rw [List.getElem?_range z,List.getElem?_eq_getElem (by omega)]
  show some (ks.getD (i:Int).toNat 0) = _
  rw [Int.toNat_natCast,List.getD_eq_getElem?_getD,List.getElem?_eq_getElem (by omega)]
  rfl
 ·rw [List.getElem?_eq_none (by simpa using z),List.getElem?_eq_none (by omega)]
  rfl
theorem vals_erase (ks left:List Int) (j:Nat):(vals ks left).eraseIdx j = vals ks (left.eraseIdx j):=map_erase _ left j
theorem vals_at {ks left:List Int} {j:Nat} {x:Int} (h:left[j]? = some x):(vals ks left)[j]? = some (ks.getD x.toNat 0):=by
 unfold vals
 rw [List.getElem?_map,h]
 rfl
theorem bkAt_zero {b:Bk} (bo:BkOk b) (so v:List Int):bkAt b so v 0 (rngI b.marks.length) = b:=by
 obtain ⟨m,ms,cs⟩:=b
 unfold bkAt
 rw [vals_rng rfl]
 have e1:(cs.filter fun c=>decide (vals c.1 (so.take 0) = v.take 0)) = cs:=List.filter_eq_self.mpr fun c _=>decide_eq_true (by rw [List.take_zero,List.take_zero]; rfl)
 show Bk.mk m ms ((cs.filter fun c=>decide (vals c.1 (so.take 0) = v.take 0)).map _) = _
 rw [e1]
 congr 1
 conv=>rhs; rw [← List.map_id cs]
 apply List.map_congr_left
 intro c hc
 show (vals c.1 (rngI ms.length),c.2) = c
 rw [vals_rng (bo.it c hc).1]
theorem bkAt_step {b:Bk} {so v left:List Int} {l j:Nat} {x k:Int} (hx:so[l]? = some x) (hk:v[l]? = some k) (hj:left[j]? = some x) :
  (Bk.mk b.m ((vals b.marks left).eraseIdx j) (wcells j k ((b.cells.filter fun c=>decide (vals c.1 (so.take l) = v.take l)).map fun c=>(vals c.1 left,c.2)))) = bkAt b so v (l + 1) (left.eraseIdx j):=by
 unfold bkAt wcells
 rw [vals_erase,List.filter_map,List.map_map,List.filter_filter]
 have e1:(b.cells.filter fun c=>((fun c=>decide (c.1.getD j 0 = k)) ∘ fun c:List Int × Row=>(vals c.1 left,c.2)) c && decide (vals c.1 (so.take l) = v.take l)) = b.cells.filter fun c=>decide (vals c.1 (so.take (l + 1)) = v.take (l + 1)):=by
  apply List.filter_congr
  intro c _
  show (decide ((vals c.1 left).getD j 0 = k) && decide (vals c.1 (so.take l) = v.take l)) = _
  have hl:=(List.getElem?_eq_some_iff.mp hx).1
  have hv:=(List.getElem?_eq_some_iff.mp hk).1
  have g1:(vals c.1 left).getD j 0 = c.1.getD x.toNat 0:=by rw [List.getD_eq_getElem?_getD,vals_at hj]; rfl
  have g2:so.getD l 0 = x:=by rw [List.getD_eq_getElem?_getD,hx]; rfl
  have g3:v.getD l 0 = k:=by rw [List.getD_eq_getElem?_getD,hk]; rfl
  have t1:(vals c.1 (so.take l)).length = l:=by rw [vals_len,List.length_take]; omega
  have t2:(v.take l).length = l:=by rw [List.length_take]; omega
  rw [g1,take_snoc hl,take_snoc hv,vals_app,g2,g3]
  have e:vals c.1 [x] = [c.1.getD x.toNat 0]:=rfl
  rw [e]
  by_cases z1:vals c.1 (so.take l) = v.take l
  ·rw [z1,decide_eq_true rfl,Bool.and_true]
   by_cases z2:c.1.getD x.toNat 0 = k
   ·rw [z2,decide_eq_true rfl,decide_eq_true rfl]
   ·rw [decide_eq_false z2,decide_eq_false fun q=>z2 (by have:=List.append_cancel_left q; simpa using this)]
  ·rw [decide_eq_false z1,Bool.and_false,decide_eq_false fun q=>z1 (List.append_inj q (by omega)).1]
 rw [e1]
 congr 1
 apply List.map_congr_left
 intro c _
 show ((vals c.1 left).eraseIdx j,c.2) = _
 rw [vals_erase]
theorem bkAt_ok {b:Bk} (bo:BkOk b) (so v:List Int) (l:Nat) {left:List Int} (hl:left.length <= 5):BkOk (bkAt b so v l left):=by
 refine ⟨bo.m2,bo.m6,?_,?_,fun c hc=>?_⟩
 ·show (vals b.marks left).length <= 5
  rw [vals_len]
  exact hl
 ·show ((b.cells.filter _).map _).length <= 60
  rw [List.length_map]
  exact Nat.le_trans (List.length_filter_le _ _) bo.c60
 ·obtain ⟨d,hd,rfl⟩:=List.mem_map.mp (show c ∈ (b.cells.filter _).map _ from hc)
  have:=bo.it d (List.mem_filter.mp hd).1
  refine ⟨?_,this.2⟩
  show (vals d.1 left).length = (vals b.marks left).length
  rw [vals_len,vals_len]
theorem bkAt_w {b:Bk} (o:BkOk b):BkW b:=⟨o.mk5,o.c60,fun c hc=>(o.it c hc).1⟩
theorem bkAt_kids {b:Bk} {so v left:List Int} {j:Nat} (hj:left[j]? = some (so.getD v.length 0)):(partsB (bkAt b so v v.length left) [(j:Int)]).map (·.2) = kidsT b so v:=by
 unfold partsB kidsT kidsP bkAt
 show (partsL b.m (((b.cells.filter _).map _).map _)).map _ = _
 rw [List.map_map,List.take_length]
 have e1:((fun c:List Int × Row=>(vals c.1 [(j:Int)],c.2)) ∘ fun c:List Int × Row=>(vals c.1 left,c.2)) = fun c=>(vals c.1 [so.getD v.length 0],c.2):=by
  funext c
  show ([(vals c.1 left).getD (j:Int).toNat 0],c.2) = ([c.1.getD (so.getD v.length 0).toNat 0],c.2)
  rw [Int.toNat_natCast,List.getD_eq_getElem?_getD,vals_at hj]
  rfl
 rw [e1]
theorem first_at {x:Int}:∀ {l:List Int},x ∈ l -> ∃ j:Nat,l[j]? = some x /\ ∀ m,m < j -> l[m]? ≠ some x
 | a :: l,h=>by
  by_cases z:a = x
  ·exact ⟨0,by rw [z]; rfl,fun m hm=>absurd hm (Nat.not_lt_zero m)⟩
  ·obtain ⟨j,h1,h2⟩:=first_at (l:=l) (by rcases List.mem_cons.mp h with h | h; exact absurd h.symm z; exact h)
   refine ⟨j + 1,by simpa using h1,fun m hm=>?_⟩
   cases m with
   | zero=>intro q; exact z (by simpa using q)
   | succ m=>intro q; exact h2 m (by omega) (by simpa using q)
theorem flat_ints (l:List Int):(l.map D.int).all flatD = true:=by
 rw [List.all_map]
 exact List.all_eq_true.mpr fun _ _=>rfl
theorem idx_is {l:List Int} {x:Int} {j:Nat} (h1:l[j]? = some x) (h2:∀ m,m < j -> l[m]? ≠ some x):(∃ z,(l.map D.int)[j]? = some z /\ eqF z (.int x) = true) /\ ∀ m z,m < j -> (l.map D.int)[m]? = some z -> eqF z (.int x) = false:=by
 refine ⟨⟨.int x,by rw [List.getElem?_map,h1]; rfl,by simp [eqF,toV,eqV]⟩,fun m z hm hz=>?_⟩
 rw [List.getElem?_map] at hz
 cases e:l[m]? with
 | none=>rw [e] at hz; cases hz
 | some a =>
  rw [e] at hz
  cases hz
  have:a ≠ x:=fun q=>h2 m hm (by rw [e,q])
  simp [eqF,toV,eqV,this]
def gKids:DSp:=fun ds Q=>∃ (b:Bk) (so v:List Int),ds = [bookD b,intsT so,intsT v] /\ BkOk b /\ BkK b /\ so.Perm (rngI b.marks.length) /\ v.length < so.length /\ (∃ c ∈ b.cells,vals c.1 (so.take v.length) = v) /\ Q (.lst ((kidsT b so v).map rowD))
theorem m__law_kids:MonoS gKids:=fun ds P P' f ⟨b,so,v,h1,h2,h3,h4,h5,h6,h⟩=>⟨b,so,v,h1,h2,h3,h4,h5,h6,f _ h⟩
theorem zipD_ints:∀ (ks ms:List Int),zipD (ks.map D.int) (ms.map D.int) = (ks.zip ms).map fun p=>.tup [.int p.1,.int p.2]
 | [],_=>rfl
 | _ :: _,[]=>rfl
 | k :: ks,m :: ms=>by
  rw [List.map_cons,List.map_cons,zipD,zipD_ints ks ms,List.zip_cons_cons,List.map_cons]
theorem g__law_kids (T:Tx K mg):FnOk P w K mg base CX0 7 T.f__law_kids T.fd__law_kids ["_law_book_here","_law_order_here","_law_values"] (spD K 3 gKids):=by
 refine fnD (k:=6) T.d__law_kids.F sc__law_kids (fun cdv A outer s H E hr=>(dss_cons (ds_own (i:=3) sc__law_kids.nd rfl (by first | exact Or.inl rfl | exact Or.inr rfl) (dl_listR rfl rfl T.z_list rfl T.z_range (da_cons (de_callB cd_len rfl T.z_len PySem.boot_len (da_cons (de_var 1 (pv 1)) da_nil)) da_nil)))
   (dss_mid (ds_for PassesOwn.never rfl (di_zipM rfl T.z_zip (da_cons (de_var 1 (pv 1)) (da_cons (de_var 2 (pv 2)) da_nil))) (dg_tup (n:=2) rfl (dgs_cons (dg_name (i:=4) sc__law_kids.nd rfl (by first | exact Or.inl rfl | exact Or.inr rfl)) (dgs_cons (dg_name (i:=5) sc__law_kids.nd rfl (by first | exact Or.inl rfl | exact Or.inr rfl)) dgs_nil))) (dss_cons (ds_set (i:=0) sc__law_kids.nd rfl (by first | exact Or.inl rfl | exact Or.inr rfl) (de_call (g_within T) m_within (hr.mono (by decide)) rfl T.d_within.m T.d_within.F.kp T.d_within.b (da_cons (de_var 0 (pv 0)) (da_cons (de_look (de_m1 m1_index (de_var 3 (pv 3)) (de_var 4 (pv 4)))) (da_cons (de_var 5 (pv 5)) da_nil)))))
   (dss_one (ds_rem (pv 3) (de_var 4 (pv 4))))))
   (dss_one (ds_ret (de_call (g_table_by T) m_table_by (hr.mono (by decide)) rfl T.d_table_by.m T.d_table_by.F.kp T.d_table_by.b (da_cons (de_var 0 (pv 0)) (da_cons (de_tup (da_cons (de_look (de_m1 m1_index (de_var 3 (pv 3)) (de_ix (de_var 1 (pv 1)) (de_callB cd_len rfl T.z_len PySem.boot_len (da_cons (de_var 2 (pv 2)) da_nil)) (fun _ _=>rfl)))) da_nil)) da_nil)))))))) (fun ds Q hl h=>?_)
 obtain ⟨b,so,v,rfl,bo,bk,hp,hv,⟨c,hc,ec⟩,h⟩:=h
 have mk5:=bo.mk5
 have sl:so.length = b.marks.length:=by rw [hp.length_eq,rngI_len]
 have e0:((so.map D.int).length:Int) = b.marks.length:=by rw [List.length_map,sl]
 have e1:(((so.map D.int).length:Nat):Int).toNat = b.marks.length:=by omega
 refine ⟨⟨by omega,by omega⟩,?_⟩
 rw [e1,rng_ints]
 refine ⟨fun ρ=>∃ (left:List Int),left.Perm (so.drop v.length) /\ ∃ s4 s5:Sl,ρ = [.val (bookD (bkAt b so v v.length left)),.val (intsT so),.val (intsT v),.own (left.map D.int),s4,s5],⟨_,_,rfl,rfl,?_⟩,?_⟩
 ·rw [zipD_ints]
  refine dLoop_pre (fun pre ρ=>∃ (left:List Int),left.Perm (so.drop pre.length) /\ ∃ s4 s5:Sl,ρ = [.val (bookD (bkAt b so v pre.length left)),.val (intsT so),.val (intsT v),.own (left.map D.int),s4,s5]) (fun ρ hN=>?_) (fun pre d post ρ X e hN hX=>?_) _ ⟨rngI b.marks.length,hp.symm,.nil,.nil,by rw [List.length_nil,bkAt_zero bo]; rfl⟩
  ·have:((so.zip v).map fun p=>D.tup [.int p.1,.int p.2]).length = v.length:=by
    rw [List.length_map,List.length_zip]
    omega
   rw [this] at hN
   exact hN
  ·obtain ⟨left,pl,s4,s5,rfl⟩:=hN
   obtain ⟨l,hpl⟩:∃ l,l = pre.length:=⟨_,rfl⟩
   have hd:((so.zip v).map fun p=>D.tup [.int p.1,.int p.2])[l]? = some d:=by
    rw [e,hpl,List.getElem?_append_right (Nat.le_refl _),Nat.sub_self]
    rfl
   rw [List.getElem?_map] at hd
   obtain ⟨⟨x,k⟩,hxk,rfl⟩:=Option.map_eq_some_iff.mp hd
   rw [List.getElem?_zip_eq_some] at hxk
   obtain ⟨hx,hk⟩:=hxk
   have hx:so[l]? = some x:=hx
   have hk:v[l]? = some k:=hk
   have ll:=(List.getElem?_eq_some_iff.mp hx).1
   have lv:=(List.getElem?_eq_some_iff.mp hk).1
   rw [← hpl] at pl ⊢
   have dl:so.drop l = x :: so.drop (l + 1):=by
    rw [List.drop_eq_getElem_cons ll]
    congr 1
    exact (List.getElem?_eq_some_iff.mp hx).2
   have xm:x ∈ left:=pl.mem_iff.mpr (by rw [dl]; exact List.mem_cons_self)
   obtain ⟨j,hj,hno⟩:=first_at xm
   have jl:=(List.getElem?_eq_some_iff.mp hj).1
   have lel:left.length <= 5:=by
    rw [pl.length_eq,List.length_drop]
    omega
   have bo':=bkAt_ok bo so v l lel
   have kr:0 <= k /\ k < b.marks.getD x.toNat 0:=by
    have xr:=rngI_mem.mp (hp.mem_iff.mp (List.mem_of_getElem? hx))
    have kk:=bk c hc
    have g:=kk.2 x.toNat (by rw [kk.1]; omega)
    have:k = c.1.getD x.toNat 0:=by
     have h1:(vals c.1 (so.take v.length))[l]? = some (c.1.getD x.toNat 0):=vals_at (by rw [List.getElem?_take_of_lt lv]; exact hx)
     rw [ec,hk] at h1
     exact Option.some.inj h1
    rw [this]
    exact g
   refine ⟨rfl,fun vs=>⟨trivial,⟨rfl,flat_ints left⟩,j,idx_is hj hno,⟨trivial,rfl⟩,?_⟩⟩
   refine ⟨rfl,bkAt b so v l left,j,b.marks.getD x.toNat 0,k,rfl,bkAt_w bo',vals_at hj,kr,?_⟩
   refine ⟨trivial,left,x,j,rfl,rfl,hj,hno,?_⟩
   refine hX _ ⟨left.eraseIdx j,?_,.val (.int x),.val (.int k),?_⟩
   ·rw [List.length_append,List.length_singleton,← hpl]
    have p1:=erase_perm left j jl
    have ex:left[j] = x:=(List.getElem?_eq_some_iff.mp hj).2
    rw [ex] at p1
    have p2:=p1.trans pl
    rw [dl] at p2
    exact p2.cons_inv
   ·rw [List.length_append,List.length_singleton,← hpl,← bkAt_step hx hk hj]
    rfl
 ·rintro _ ⟨left,pl,s4,s5,rfl⟩
  have xm:so.getD v.length 0 ∈ left:=pl.mem_iff.mpr (by
   rw [List.drop_eq_getElem_cons hv,List.getD_eq_getElem?_getD,List.getElem?_eq_getElem hv]
   exact List.mem_cons_self)
  obtain ⟨j,hj,hno⟩:=first_at xm
  have jl:=(List.getElem?_eq_some_iff.mp hj).1
  have lel:left.length <= 5:=by
   rw [pl.length_eq,List.length_drop]
   omega
  have bo':=bkAt_ok bo so v v.length lel
  have ev:(((v.map D.int).length:Nat):Int) = (v.length:Int):=by rw [List.length_map]
  refine fun vs=>⟨trivial,opt_at (d:=.int (so.getD v.length 0)) (by omega) ?_ ⟨⟨rfl,flat_ints left⟩,j,idx_is hj hno,⟨trivial,rfl⟩,?_⟩⟩
  ·rw [List.getElem?_map,ev,Int.toNat_natCast,List.getD_eq_getElem?_getD,List.getElem?_eq_getElem hv]
   rfl
  refine ⟨sz,rfl,bkAt b so v v.length left,[(j:Int)],rfl,bo',⟨fun y hy=>?_,by simp,by simp⟩,?_⟩
  ·rw [List.mem_singleton.mp hy]
   show 0 <= (j:Int) /\ (j:Int) < ((vals b.marks left).length:Nat)
   rw [vals_len]
   omega
  ·rw [bkAt_kids hj]
   exact h
theorem shp_ints (ks:List Int):shp (intsT ks) = true:=Shp.shp (n:=1) (.tup fun d hd=>by
 obtain ⟨k,_,rfl⟩:=List.mem_map.mp hd
 exact .int)
theorem shp_words {ws:List D} (h:∀ d ∈ ws,four d):shp (.lst ws) = true:=Shp.shp (n:=2) (.lst fun d hd=>by
 rcases h d hd with rfl | rfl | rfl | rfl
 ·exact .non
 ·exact .int
 ·exact .int
 ·exact .int)
theorem shp_rep (s:Int) (n:Nat):shp (.lst (List.replicate n [D.int s]).flatten) = true:=Shp.shp (n:=2) (.lst fun d hd=>by
 obtain ⟨l,h1,h2⟩:=List.mem_flatten.mp hd
 rw [List.eq_of_mem_replicate h1] at h2
 rw [List.mem_singleton.mp h2]
 exact .int)
theorem due_ok {n m:Nat} {r:Row} (o:RowN n m r) (hn:n <= 7000) {a b:Int} (a0:0 <= a) (a1:a < m) (b0:0 <= b) (b1:b < m) {Q:D -> Prop} (q:Q (sayR a.toNat b.toNat r)):gDue [pairD (at_ r a.toNat),pairD (at_ r b.toNat)] Q:=by
 have ca:=(at_get o (h:=a.toNat) (by omega)).2
 have cb:=(at_get o (h:=b.toNat) (by omega)).2
 exact ⟨⟨ca.bt.mono hn,ca.bw.mono hn,cb.bt.mono hn,cb.bw.mono hn⟩,q⟩
def gAdd:DSp:=fun ds Q=>∃ (m:Nat) (t:List Row),ds = [.lst (t.map rowD),.int m] /\ m <= 6 /\ (∀ r ∈ t,RowOk m r) /\ t.length <= 1000 /\ Q (rowD (sums t m))
theorem m__law_added:MonoS gAdd:=fun ds P P' f ⟨m,t,a,b,c,d,h⟩=>⟨m,t,a,b,c,d,f _ h⟩
theorem g__law_added (T:Tx K mg):FnOk P w K mg base CX0 2 T.f__law_added T.fd__law_added ["_law_rows","_law_many"] (spD K 2 gAdd):=by
 refine fnD (k:=1) T.d__law_added.F sc__law_added (fun cdv A outer s H E hr=>(dss_one (ds_ret (de_callTy cd_tuple rfl T.z_tuple rfl (da_cons (de_frz (PCD.pld (dl_comp (N':=["_law_house","_law_rows"]) rfl rfl (by decide +kernel) rfl (.own (.cap (j:=0) rfl (by first | exact Or.inl rfl | exact Or.inr rfl) rfl .nil)) (by decide +kernel) (di_range1 rfl T.z_range (da_cons (de_var 1 (pv 1)) da_nil)) (fun B=>(dg_name (i:=0) (show List.Nodup (α:=PySem.Str) ["_law_house","_law_rows"] by decide +kernel) rfl (by first | exact Or.inl rfl | exact Or.inr rfl))) (fun B=>dts_nil) (fun B=>(de_call (g__law_sum T) m__law_sum (hr.mono (by decide)) rfl T.d__law_sum.m T.d__law_sum.F.kp T.d__law_sum.b (da_cons (de_frz (PCD.pld (dl_comp (N':=["_law_counts","_law_house"]) rfl rfl (by decide +kernel) rfl (.own (.cap (j:=0) rfl (by first | exact Or.inl rfl | exact Or.inr rfl) rfl .nil)) (by decide +kernel) (di_list (de_var 1 (pv 1))) (fun B=>(dg_name (i:=0) (show List.Nodup (α:=PySem.Str) ["_law_counts","_law_house"] by decide +kernel) rfl (by first | exact Or.inl rfl | exact Or.inr rfl))) (fun B=>dts_nil) (fun B=>(de_ix (de_var 0 (pv 0)) (de_var 1 (pv 1)) (fun _ _=>rfl)))))) da_nil)))))) da_nil))))) (fun ds Q hl h=>?_)
 obtain ⟨m,t,rfl,m6,ho,tl,h⟩:=h
 refine ⟨⟨by omega,by omega⟩,?_⟩
 exact coll_lsum m6 ho tl h
theorem knots_head {b:Bk} {so:List Int} (h:b.cells ≠ []):∃ c0 rest,knotsL b so (so.length + 1) = c0 :: rest /\ c0 ∈ partsB b (so.take 0):=by
 have hne:partsB b (so.take 0) ≠ []:=by
  cases q:b.cells with
  | nil=>exact absurd q h
  | cons c t =>
   have:vals c.1 (so.take 0) ∈ (partsB b (so.take 0)).map (·.1):=by
    unfold partsB
    rw [parts_mem,List.map_map,List.mem_map]
    exact ⟨c,by rw [q]; exact List.mem_cons_self,rfl⟩
   intro z
   rw [z] at this
   simp at this
 have e:knotsL b so (so.length + 1) = partsB b (so.take 0) ++ (List.map Nat.succ (List.range so.length)).flatMap (fun l=>partsB b (so.take l)):=by
  unfold knotsL
  rw [List.range_succ_eq_map,List.flatMap_cons]
 cases q:partsB b (so.take 0) with
 | nil=>exact absurd q hne
 | cons c0 t=>exact ⟨c0,_,by rw [e,q]; rfl,by rw [← q,q]; exact List.mem_cons_self⟩
theorem knots_none {b:Bk} {so:List Int} (h:b.cells = []):knotsL b so (so.length + 1) = []:=by
 unfold knotsL
 rw [List.flatMap_eq_nil_iff]
 intro l _
 unfold partsB
 rw [h]
 rfl
theorem turn_four (ws:List D) (d:D):(∃ s z,turnD ws d = .tup [.str "turned",.int s,z]) ∨ (∃ r,turnD ws d = .tup (.str "kept" :: r)) ∨ (∃ r,turnD ws d = .tup (.str "open" :: r)) ∨ (∃ r,turnD ws d = .tup (.str "apart" :: r)):=by
 have tk:∀ s:Int,(∃ s' z,tkT s d = .tup [.str "turned",.int s',z]) ∨ (∃ r,tkT s d = .tup (.str "kept" :: r)):=fun s=>by
  unfold tkT
  split
  ·exact .inr ⟨_,rfl⟩
  ·exact .inl ⟨_,_,rfl⟩
 unfold turnD
 split
 ·rcases tk 1 with h | h
  ·exact .inl h
  ·exact .inr (.inl h)
 ·split
  ·rcases tk (-1) with h | h
   ·exact .inl h
   ·exact .inr (.inl h)
  ·split
   ·exact .inr (.inr (.inl ⟨_,rfl⟩))
   ·exact .inr (.inr (.inr ⟨_,rfl⟩))
theorem Br_t {b:Bool} (h:b = true) {A B:Prop} (a:A):Br b A B:=by rw [h]; exact Br.t a
theorem Br_f {b:Bool} (h:b = false) {A B:Prop} (a:B):Br b A B:=by rw [h]; exact Br.f a
theorem ss_turned:shp (.str (PySem.Str.ofString "turned")) = true:=Shp.shp (n:=0) ⟨rfl,by decide +kernel,Nat.zero_le _⟩
theorem ss_kept:shp (.str (PySem.Str.ofString "kept")) = true:=Shp.shp (n:=0) ⟨rfl,by decide +kernel,Nat.zero_le _⟩
theorem ss_open:shp (.str (PySem.Str.ofString "open")) = true:=Shp.shp (n:=0) ⟨rfl,by decide +kernel,Nat.zero_le _⟩
theorem ss_apart:shp (.str (PySem.Str.ofString "apart")) = true:=Shp.shp (n:=0) ⟨rfl,by decide +kernel,Nat.zero_le _⟩
theorem se_turned:eqD (.str (PySem.Str.ofString "turned")) (.str (PySem.Str.ofString "turned")) = true:=by decide +kernel
theorem se_kept:eqD (.str (PySem.Str.ofString "kept")) (.str (PySem.Str.ofString "turned")) = false:=by decide +kernel
theorem se_open:eqD (.str (PySem.Str.ofString "open")) (.str (PySem.Str.ofString "turned")) = false:=by decide +kernel
theorem se_apart:eqD (.str (PySem.Str.ofString "apart")) (.str (PySem.Str.ofString "turned")) = false:=by decide +kernel
def leafL (cs:List (List Int × Row)) (n x y:Nat):List D:=(cs.filter fun c=>decide (c.1.length = n)).map fun c=>sayR x y c.2
theorem leaf_four {cs:List (List Int × Row)} {n x y:Nat}:∀ d ∈ leafL cs n x y,four d:=fun d hd=>by
 obtain ⟨c,_,rfl⟩:=List.mem_map.mp hd
 exact sayR_four _ _ _
theorem leaf_len {cs:List (List Int × Row)} {n x y:Nat}:(leafL cs n x y).length <= cs.length:=by
 unfold leafL
 rw [List.length_map]
 exact List.length_filter_le _ _
theorem coll_leaf {m:Nat} {cs:List (List Int × Row)} (co:CsOk m cs) {x y:Int} (ab:AbOk m x y) {so:List Int} {s t:Sl} {Q:List D -> Prop} (q:Q (leafL cs so.length x.toNat y.toNat)) :
  dColl (dgTup 2 (dgCons (dgName 0) (dgCons (dgName 1) dgNil))) (dB (dOp (gEq false) (dCB gLen (daCons (dVar 0) daNil)) (dCB gLen (daCons (dVar 4) daNil)))) (dCall 2 gDue (daCons (dOp gIx (dVar 1) (dVar 2)) (daCons (dOp gIx (dVar 1) (dVar 3)) daNil))) (cs.map cellD) [] [s,t,.val (.int x),.val (.int y),.val (intsT so)] Q:=by
 have c6:=co.len
 refine dColl_pre (fun pre acc ρ=>∃ c0 c1:List (List Int × Row),cs = c0 ++ c1 /\ pre = c0.map cellD /\ acc = leafL c0 so.length x.toNat y.toNat /\ ∃ s t,ρ = [s,t,.val (.int x),.val (.int y),.val (intsT so)]) (fun acc ρ hN=>?_) (fun pre d post acc ρ Y e hN hY=>?_) _ ⟨[],cs,rfl,rfl,rfl,_,_,rfl⟩
 ·obtain ⟨c0,c1,e1,e2,rfl,s,t,rfl⟩:=hN
  have:c1 = []:=by
   have:=congrArg List.length e2
   rw [e1] at this
   simp at this
   exact this
  subst this
  rw [List.append_nil] at e1
  subst e1
  exact q
 ·obtain ⟨c0,c1,e1,rfl,rfl,s,t,rfl⟩:=hN
  rw [e1,List.map_append] at e
  have e:=List.append_cancel_left e
  cases c1 with
  | nil=>simp at e
  | cons c c1 =>
   rw [List.map_cons] at e
   injection e with e3 e4
   subst e3
   have ro:=co.rows c (by rw [e1]; simp)
   have l1:(((c.1.map D.int).length:Nat):Int) = c.1.length:=by rw [List.length_map]
   have l2:(((so.map D.int).length:Nat):Int) = so.length:=by rw [List.length_map]
   have ll:=leaf_len (cs:=c0) (n:=so.length) (x:=x.toNat) (y:=y.toNat)
   have cl:c0.length <= 600:=by rw [e1,List.length_append] at c6; omega
   refine ⟨rfl,⟨rfl,rfl⟩,fun z=>?_,fun z=>?_⟩
   ·have z:c.1.length = so.length:=by
     have z:(((c.1.map D.int).length:Nat):Int) = (((so.map D.int).length:Nat):Int):=by simpa [eqD_int] using z
     omega
    refine row_at ro ab.a0 ab.a1 (row_at ro ab.b0 ab.b1 ⟨rfl,due_ok ro (by decide) ab.a0 ab.a1 ab.b0 ab.b1 ⟨Nat.lt_of_le_of_lt (show _ <= 600 by omega) (by decide),hY _ _ ⟨c0 ++ [c],c1,by rw [e1]; simp,by simp,?_,_,_,rfl⟩⟩⟩)
    unfold leafL
    rw [List.filter_append,List.filter_cons_of_pos (by simpa using z),List.map_append]
    rfl
   ·have z:¬ c.1.length = so.length:=by
     have z:¬ (((c.1.map D.int).length:Nat):Int) = (((so.map D.int).length:Nat):Int):=by simpa [eqD_int] using z
     omega
    refine hY _ _ ⟨c0 ++ [c],c1,by rw [e1]; simp,by simp,?_,_,_,rfl⟩
    unfold leafL
    rw [List.filter_append,List.filter_cons_of_neg (by simpa using z)]
    simp
theorem coll_word {ts:List (List Int × Int)} (hl:ts.length <= 2000) {x y:Sl} {Q:List D -> Prop} (q:Q ((ts.map (·.2)).map D.int)):dColl (dgTup 2 (dgCons (dgName 0) (dgCons (dgName 1) dgNil))) dNoTest (dVar 1) (ts.map tkD) [] [x,y] Q:=by
 refine dColl_map (fun d=>match d with | .tup [_,s]=>s | _=>.non) (fun ρ=>∃ x y,ρ = [x,y]) (by rw [List.length_map]; exact Nat.le_trans hl (by decide)) (fun d hd ρ Y Z hN hY=>?_) _ ⟨_,_,rfl⟩ ?_
 ·obtain ⟨x,y,rfl⟩:=hN
  obtain ⟨c,_,rfl⟩:=List.mem_map.mp hd
  exact ⟨rfl,Br.t (hY _ ⟨_,_,rfl⟩)⟩
 ·rw [List.map_map] at q ⊢
  exact q
theorem coll_knot {ts:List (List Int × Int)} (hl:ts.length <= 2000) {v:List Int} {s:Sl} {Q:List D -> Prop} (q:Q ((ts.filter fun p=>decide (p.1 = v)).map tkD)):dColl (dgName 0) (dB (dOp (gEq false) (dOp gIx (dVar 0) (dC (D.int 0))) (dVar 1))) (dVar 0) (ts.map tkD) [] [s,.val (intsT v)] Q:=by
 refine dColl_pre (fun pre acc ρ=>∃ c0 c1:List (List Int × Int),ts = c0 ++ c1 /\ pre = c0.map tkD /\ acc = (c0.filter fun p=>decide (p.1 = v)).map tkD /\ ∃ s,ρ = [s,.val (intsT v)]) (fun acc ρ hN=>?_) (fun pre d post acc ρ Y e hN hY=>?_) _ ⟨[],ts,rfl,rfl,rfl,_,rfl⟩
 ·obtain ⟨c0,c1,e1,e2,rfl,s,rfl⟩:=hN
  have:c1 = []:=by
   have:=congrArg List.length e2
   rw [e1] at this
   simp at this
   exact this
  subst this
  rw [List.append_nil] at e1
  subst e1
  exact q
 ·obtain ⟨c0,c1,e1,rfl,rfl,s,rfl⟩:=hN
  rw [e1,List.map_append] at e
  have e:=List.append_cancel_left e
  cases c1 with
  | nil=>simp at e
  | cons c c1 =>
   rw [List.map_cons] at e
   injection e with e3 e4
   subst e3
   have cl:(c0.filter fun p=>decide (p.1 = v)).length <= 2000:=by
    rw [e1,List.length_append] at hl
    exact Nat.le_trans (List.length_filter_le _ _) (by omega)
   refine ⟨⟨shp_ints _,shp_ints _⟩,fun z=>?_,fun z=>?_⟩
   ·have z:eqD (intsT c.1) (intsT v) = true:=z
    rw [eqD_ints] at z
    refine ⟨?_,hY _ _ ⟨c0 ++ [c],c1,by rw [e1]; simp,by simp,?_,_,rfl⟩⟩
    ·rw [List.length_map]
     exact Nat.lt_of_le_of_lt cl (by decide)
    ·rw [List.filter_append,List.filter_cons_of_pos (by exact z),List.map_append]
     rfl
   ·have z:eqD (intsT c.1) (intsT v) = false:=z
    rw [eqD_ints] at z
    refine hY _ _ ⟨c0 ++ [c],c1,by rw [e1]; simp,by simp,?_,_,rfl⟩
    rw [List.filter_append,List.filter_cons_of_neg (by rw [z]; exact Bool.false_ne_true)]
    simp
theorem shp_row (r:Row):Shp 2 (rowD r):=.tup fun d hd=>by
 obtain ⟨c,_,rfl⟩:=List.mem_map.mp hd
 exact .pair
theorem shp_cells (cs:List (List Int × Row)):∀ d ∈ cs.map cellD,Shp 3 d:=fun d hd=>by
 obtain ⟨c,_,rfl⟩:=List.mem_map.mp hd
 exact .tup fun d hd=>by
  simp only [List.mem_cons,List.not_mem_nil,or_false] at hd
  rcases hd with rfl | rfl
  ·exact .tup fun d hd=>by
    obtain ⟨k,_,rfl⟩:=List.mem_map.mp hd
    exact .int
  ·exact shp_row _
theorem shp_turns (ts:List (List Int × Int)):shp (.lst (ts.map tkD)) = true:=Shp.shp (n:=3) (.lst fun d hd=>by
 obtain ⟨p,_,rfl⟩:=List.mem_map.mp hd
 exact .tup fun d hd=>by
  simp only [List.mem_cons,List.not_mem_nil,or_false] at hd
  rcases hd with rfl | rfl
  ·exact .tup fun d hd=>by
    obtain ⟨k,_,rfl⟩:=List.mem_map.mp hd
    exact .int
  ·exact .int)
theorem g_law (T:Tx K mg):FnOk P w K mg base CX0 8 T.f_law T.fd_law ["_law_script"] (DL.spLaw K):=by
 refine lawD (k:=7) T.d_law.F sc_law rfl (by decide) (fun cdv A outer s H E hr=>ps_set (i:=1) sc_law.nd rfl (by first | exact Or.inl rfl | exact Or.inr rfl) (pe_call (g0__law_pen T) (hr.mono (by decide)) rfl T.d__law_pen.m T.d__law_pen.F.kp T.d__law_pen.b .nil pass0 (pa_cons (pv 0) pa_nil))) (fun cdv A outer s H E hr=>(dss_cons (ds_set (i:=2) sc_law.nd rfl (by first | exact Or.inl rfl | exact Or.inr rfl) (de_call (g__law_book T) m__law_book (hr.mono (by decide)) rfl T.d__law_book.m T.d__law_book.F.kp T.d__law_book.b (da_cons (de_var 1 (pv 1)) (da_cons de_int da_nil))))
   (dss_cons (ds_asgT (de_call (g__law_two T) m__law_two (hr.mono (by decide)) rfl T.d__law_two.m T.d__law_two.F.kp T.d__law_two.b (da_cons (de_var 1 (pv 1)) (da_cons (de_ix (de_var 2 (pv 2)) de_int (fun _ _=>rfl)) da_nil))) (dg_tup (n:=2) rfl (dgs_cons (dg_name (i:=3) sc_law.nd rfl (by first | exact Or.inl rfl | exact Or.inr rfl)) (dgs_cons (dg_name (i:=4) sc_law.nd rfl (by first | exact Or.inl rfl | exact Or.inr rfl)) dgs_nil))))
   (dss_cons (ds_set (i:=2) sc_law.nd rfl (by first | exact Or.inl rfl | exact Or.inr rfl) (de_call (g__law_leaning T) m__law_leaning (hr.mono (by decide)) rfl T.d__law_leaning.m T.d__law_leaning.F.kp T.d__law_leaning.b (da_cons (de_var 1 (pv 1)) (da_cons (de_var 2 (pv 2)) (da_cons (de_var 3 (pv 3)) (da_cons (de_var 4 (pv 4)) da_nil))))))
   (dss_mid (ds_set (i:=5) sc_law.nd rfl (by first | exact Or.inl rfl | exact Or.inr rfl) (de_call (g__law_order T) m__law_order (hr.mono (by decide)) rfl T.d__law_order.m T.d__law_order.F.kp T.d__law_order.b (da_cons (de_var 1 (pv 1)) (da_cons (de_callB cd_len rfl T.z_len PySem.boot_len (da_cons (de_ix (de_var 2 (pv 2)) de_int (fun _ _=>rfl)) da_nil)) da_nil))))
   (dss_cons (ds_set (i:=6) sc_law.nd rfl (by first | exact Or.inl rfl | exact Or.inr rfl) (de_call (g_knots T) m_knots (hr.mono (by decide)) rfl T.d_knots.m T.d_knots.F.kp T.d_knots.b (da_cons (de_var 2 (pv 2)) (da_cons (de_var 5 (pv 5)) da_nil))))
   (dss_mid (ds_set (i:=7) sc_law.nd rfl (by first | exact Or.inl rfl | exact Or.inr rfl) (de_call (g_turned_knots T) m_turned_knots (hr.mono (by decide)) rfl T.d_turned_knots.m T.d_turned_knots.F.kp T.d_turned_knots.b (da_cons (de_var 2 (pv 2)) (da_cons (de_var 5 (pv 5)) (da_cons (de_var 3 (pv 3)) (da_cons (de_var 4 (pv 4)) da_nil))))))
   (dss_cons (ds_if (dt_cmp (od_eq hr) (de_ix (de_var 2 (pv 2)) de_int (fun _ _=>rfl)) (de_tup da_nil) (nomark _)) (dss_one (ds_ret (de_and (de_cmp (od_eq hr) (de_var 6 (pv 6)) (de_frz (dl_lst da_nil)) (nomark _)) (de_one (de_cmp (od_eq hr) (de_var 7 (pv 7)) (de_frz (dl_lst da_nil)) (nomark _)))))) dss_nil)
   (dss_mid (ds_setC (i:=8) sc_law.nd rfl rfl (dl_comp (N':=["_law_values","_law_counts","_law_a","_law_b","_law_order_here"]) rfl rfl (by decide +kernel) rfl (.own (.own (.cap (j:=3) rfl (by first | exact Or.inl rfl | exact Or.inr rfl) rfl (.cap (j:=4) rfl (by first | exact Or.inl rfl | exact Or.inr rfl) rfl (.cap (j:=5) rfl (by first | exact Or.inl rfl | exact Or.inr rfl) rfl .nil))))) (by decide +kernel) (di_list (de_var 6 (pv 6))) (fun B=>(dg_tup (n:=2) rfl (dgs_cons (dg_name (i:=0) (show List.Nodup (α:=PySem.Str) ["_law_values","_law_counts","_law_a","_law_b","_law_order_here"] by decide +kernel) rfl (by first | exact Or.inl rfl | exact Or.inr rfl)) (dgs_cons (dg_name (i:=1) (show List.Nodup (α:=PySem.Str) ["_law_values","_law_counts","_law_a","_law_b","_law_order_here"] by decide +kernel) rfl (by first | exact Or.inl rfl | exact Or.inr rfl)) dgs_nil)))) (fun B=>(dts_one (dt_cmp (od_eq hr) (de_callB cd_len rfl T.z_len PySem.boot_len (da_cons (de_var 0 (pv 0)) da_nil)) (de_callB cd_len rfl T.z_len PySem.boot_len (da_cons (de_var 4 (pv 4)) da_nil)) (nomark _)))) (fun B=>(de_call (g__law_said T) m__law_said (hr.mono (by decide)) rfl T.d__law_said.m T.d__law_said.F.kp T.d__law_said.b (da_cons (de_ix (de_var 1 (pv 1)) (de_var 2 (pv 2)) (fun _ _=>rfl)) (da_cons (de_ix (de_var 1 (pv 1)) (de_var 3 (pv 3)) (fun _ _=>rfl)) da_nil))))))
   (dss_mid (ds_set (i:=9) sc_law.nd rfl (by first | exact Or.inl rfl | exact Or.inr rfl) (de_call (g__law_said T) m__law_said (hr.mono (by decide)) rfl T.d__law_said.m T.d__law_said.F.kp T.d__law_said.b (da_cons (de_ix (de_ix (de_ix (de_var 6 (pv 6)) de_int (fun _ _=>rfl)) de_int (fun _ _=>rfl)) (de_var 3 (pv 3)) (fun _ _=>rfl)) (da_cons (de_ix (de_ix (de_ix (de_var 6 (pv 6)) de_int (fun _ _=>rfl)) de_int (fun _ _=>rfl)) (de_var 4 (pv 4)) (fun _ _=>rfl)) da_nil))))
   (dss_mid (ds_for PassesOwn.never rfl (di_tup (de_tup (da_cons de_int (da_cons (de_un ud_neg de_int) da_nil)))) (dg_name (i:=10) sc_law.nd rfl (by first | exact Or.inl rfl | exact Or.inr rfl)) (dss_one (ds_if (PWD.pt (dw_and (dt_cmp (od_eq hr) (de_var 8 (pv 8)) (de_frz (dl_rep (de_frz (dl_lst (da_cons (de_var 10 (pv 10)) da_nil))) (de_callB cd_len rfl T.z_len PySem.boot_len (da_cons (de_var 8 (pv 8)) da_nil)))) (nomark _)) (dw_and (dt_cmp (od_ne hr) (de_var 9 (pv 9)) (de_var 10 (pv 10)) (nomark _)) (dw_and1 (dt_cmp od_notin (de_var 10 (pv 10)) (de_frz (PCD.pld (dl_comp (N':=["_law_values","_law_word"]) rfl rfl (by decide +kernel) rfl (.own (.own .nil)) (by decide +kernel) (di_list (de_var 7 (pv 7))) (fun B=>(dg_tup (n:=2) rfl (dgs_cons (dg_name (i:=0) (show List.Nodup (α:=PySem.Str) ["_law_values","_law_word"] by decide +kernel) rfl (by first | exact Or.inl rfl | exact Or.inr rfl)) (dgs_cons (dg_name (i:=1) (show List.Nodup (α:=PySem.Str) ["_law_values","_law_word"] by decide +kernel) rfl (by first | exact Or.inl rfl | exact Or.inr rfl)) dgs_nil)))) (fun B=>dts_nil) (fun B=>(de_var 1 (pv 1)))))) rfl))))) (dss_one (ds_ret de_bl)) dss_nil)))
   (dss_mid (ds_for PassesOwn.never rfl (di_list (de_var 6 (pv 6))) (dg_tup (n:=2) rfl (dgs_cons (dg_name (i:=11) sc_law.nd rfl (by first | exact Or.inl rfl | exact Or.inr rfl)) (dgs_cons (dg_name (i:=12) sc_law.nd rfl (by first | exact Or.inl rfl | exact Or.inr rfl)) dgs_nil))) (dss_one (ds_if (dt_cmp od_lt (de_callB cd_len rfl T.z_len PySem.boot_len (da_cons (de_var 11 (pv 11)) da_nil)) (de_callB cd_len rfl T.z_len PySem.boot_len (da_cons (de_var 5 (pv 5)) da_nil)) (nomark _)) (dss_cons (ds_set (i:=13) sc_law.nd rfl (by first | exact Or.inl rfl | exact Or.inr rfl) (de_call (g__law_kids T) m__law_kids (hr.mono (by decide)) rfl T.d__law_kids.m T.d__law_kids.F.kp T.d__law_kids.b (da_cons (de_var 2 (pv 2)) (da_cons (de_var 5 (pv 5)) (da_cons (de_var 11 (pv 11)) da_nil)))))
   (dss_cons (ds_set (i:=14) sc_law.nd rfl (by first | exact Or.inl rfl | exact Or.inr rfl) (de_call (g_turning T) m_turning (hr.mono (by decide)) rfl T.d_turning.m T.d_turning.F.kp T.d_turning.b (da_cons (de_var 13 (pv 13)) (da_cons (de_var 3 (pv 3)) (da_cons (de_var 4 (pv 4)) da_nil)))))
   (dss_cons (ds_set (i:=15) sc_law.nd rfl (by first | exact Or.inl rfl | exact Or.inr rfl) (de_ifExp (dt_cmp (od_eq hr) (de_ix (de_var 14 (pv 14)) de_int (fun _ _=>rfl)) de_str (nomark _)) (de_frz (dl_lst (da_cons (de_tup (da_cons (de_var 11 (pv 11)) (da_cons (de_ix (de_var 14 (pv 14)) de_int (fun _ _=>rfl)) da_nil))) da_nil))) (de_frz (dl_lst da_nil))))
   (dss_one (ds_if (PWD.pt (dw_or (dt_cmp (od_ne hr) (de_frz (PCD.pld (dl_comp (N':=["_law_knot","_law_values"]) rfl rfl (by decide +kernel) rfl (.own (.cap (j:=11) rfl (by first | exact Or.inl rfl | exact Or.inr rfl) rfl .nil)) (by decide +kernel) (di_list (de_var 7 (pv 7))) (fun B=>(dg_name (i:=0) (show List.Nodup (α:=PySem.Str) ["_law_knot","_law_values"] by decide +kernel) rfl (by first | exact Or.inl rfl | exact Or.inr rfl))) (fun B=>(dts_one (dt_cmp (od_eq hr) (de_ix (de_var 0 (pv 0)) de_int (fun _ _=>rfl)) (de_var 1 (pv 1)) (nomark _)))) (fun B=>(de_var 0 (pv 0)))))) (de_var 15 (pv 15)) (nomark _)) (dw_or1 (dt_cmp (od_ne hr) (de_call (g__law_added T) m__law_added (hr.mono (by decide)) rfl T.d__law_added.m T.d__law_added.F.kp T.d__law_added.b (da_cons (de_var 13 (pv 13)) (da_cons (de_ix (de_var 2 (pv 2)) de_int (fun _ _=>rfl)) da_nil))) (de_var 12 (pv 12)) (nomark _))))) (dss_one (ds_ret de_bl)) dss_nil))))) dss_nil)))
   (dss_one (ds_ret de_bl)))))))))))))) ?_
 refine ⟨rfl,⟨by decide,by decide⟩,fun b0 bo0 bk0=>?_⟩
 refine ⟨rfl,b0.m,rfl,⟨bo0.m2,bo0.m6⟩,fun x y ab0=>⟨rfl,rfl,b0,x,y,rfl,bo0,bk0,ab0,fun b bo bk em=>?_⟩⟩
 have ab:AbOk b.m x y:=by rw [em]; exact ab0
 have mk5:=bo.mk5
 refine ⟨fun ρ=>∃ so:List Int,so.Perm (rngI b.marks.length) /\ ρ = [.nil,.val .pen,.val (bookD b),.val (.int x),.val (.int y),.val (intsT so),.nil,.nil,.nil,.nil,.nil,.nil,.nil,.nil,.nil,.nil],⟨rfl,(b.marks.map D.int).length,rfl,by rw [List.length_map]; exact mk5,fun so sp=>⟨so,by rw [List.length_map] at sp; exact sp,rfl⟩⟩,?_⟩
 rintro _ ⟨so,sp,rfl⟩
 have sl:so.length = b.marks.length:=by rw [sp.length_eq,rngI_len]
 have o:SoOk b so:=⟨fun z hz=>rngI_mem.mp (sp.mem_iff.mp hz),sp.nodup_iff.mpr (rngI_nd _),by omega⟩
 have co:=knots_ok bo o
 have c6:=co.len
 refine ⟨rfl,b,so,rfl,bo,o,?_⟩
 refine ⟨fun ρ=>ρ = [.nil,.val .pen,.val (bookD b),.val (.int x),.val (.int y),.val (intsT so),.val (.lst ((knotsL b so (so.length + 1)).map cellD)),.val (.lst ((turnsL (knotsL b so (so.length + 1)) x.toNat y.toNat).map tkD)),.nil,.nil,.nil,.nil,.nil,.nil,.nil,.nil],⟨rfl,b,so,x,y,rfl,bo,o,ab,rfl⟩,?_⟩
 rintro _ rfl
 have tl:=turns_len (knotsL b so (so.length + 1)) (knotsL b so (so.length + 1)) x.toNat y.toNat
 have tl:(turnsL (knotsL b so (so.length + 1)) x.toNat y.toNat).length <= 2000:=by
  have tl:(turnsL (knotsL b so (so.length + 1)) x.toNat y.toNat).length <= _:=tl
  omega
 have sc:shp (.tup (b.cells.map cellD)) = true:=Shp.shp (n:=4) (.tup (shp_cells _))
 refine ⟨sz,⟨sc,rfl⟩,fun z=>?_,fun z=>?_⟩
 ·have cn:b.cells = []:=by
   have z:eqD (.tup (b.cells.map cellD)) (.tup []) = true:=z
   cases q:b.cells with
   | nil=>rfl
   | cons _ _=>rw [q] at z; cases z
  have k0:=knots_none (so:=so) cn
  rw [k0]
  exact ⟨sz,⟨rfl,rfl⟩,Br.t ⟨sz,⟨rfl,rfl⟩,rfl⟩⟩
 have cn:b.cells ≠ []:=fun q=>by
  have z:eqD (.tup (b.cells.map cellD)) (.tup []) = false:=z
  rw [q] at z
  cases z
 obtain ⟨r0,rest,hr0,hroot⟩:=knots_head (so:=so) cn
 obtain ⟨cs,hcs⟩:∃ cs,cs = knotsL b so (so.length + 1):=⟨_,rfl⟩
 obtain ⟨ts,hts⟩:∃ ts,ts = turnsL cs x.toNat y.toNat:=⟨_,rfl⟩
 rw [← hcs] at co c6 tl hr0 ⊢
 rw [← hts] at tl ⊢
 have lf:=leaf_four (cs:=cs) (n:=so.length) (x:=x.toNat) (y:=y.toNat)
 have ll:=leaf_len (cs:=cs) (n:=so.length) (x:=x.toNat) (y:=y.toNat)
 obtain ⟨lv,hlv⟩:∃ lv,lv = leafL cs so.length x.toNat y.toNat:=⟨_,rfl⟩
 refine ⟨fun ρ=>ρ = [.nil,.val .pen,.val (bookD b),.val (.int x),.val (.int y),.val (intsT so),.val (.lst (cs.map cellD)),.val (.lst (ts.map tkD)),.val (.lst lv),.nil,.nil,.nil,.nil,.nil,.nil,.nil],coll_leaf co ab (by rw [← hlv]; rfl),?_⟩
 rintro _ rfl
 have ro0:=co.rows r0 (by rw [hr0]; exact List.mem_cons_self)
 refine ⟨fun ρ=>ρ = [.nil,.val .pen,.val (bookD b),.val (.int x),.val (.int y),.val (intsT so),.val (.lst (cs.map cellD)),.val (.lst (ts.map tkD)),.val (.lst lv),.val (sayR x.toNat y.toNat r0.2),.nil,.nil,.nil,.nil,.nil,.nil],?_,?_⟩
 ·refine opt_at (d:=cellD r0) (Int.le_refl 0) (by rw [hr0]; rfl) (row_at ro0 ab.a0 ab.a1 (opt_at (d:=cellD r0) (Int.le_refl 0) (by rw [hr0]; rfl) (row_at ro0 ab.b0 ab.b1 ⟨rfl,due_ok ro0 (by decide) ab.a0 ab.a1 ab.b0 ab.b1 rfl⟩)))
 rintro _ rfl
 refine ⟨fun ρ=>∃ s10,ρ = [.nil,.val .pen,.val (bookD b),.val (.int x),.val (.int y),.val (intsT so),.val (.lst (cs.map cellD)),.val (.lst (ts.map tkD)),.val (.lst lv),.val (sayR x.toNat y.toNat r0.2),s10,.nil,.nil,.nil,.nil,.nil],?_,?_⟩
 ·refine ⟨sz,?_⟩
  show dLoop _ _ (([1,-1]:List Int).map D.int) _ _
  refine dLoop_ind (fun ρ=>∃ s10,ρ = [.nil,.val .pen,.val (bookD b),.val (.int x),.val (.int y),.val (intsT so),.val (.lst (cs.map cellD)),.val (.lst (ts.map tkD)),.val (.lst lv),.val (sayR x.toNat y.toNat r0.2),s10,.nil,.nil,.nil,.nil,.nil]) (fun ρ h=>h) (fun d hd ρ X hN hX=>?_) _ ⟨_,rfl⟩
  obtain ⟨s10,rfl⟩:=hN
  obtain ⟨s,hs,rfl⟩:=List.mem_map.mp hd
  have hs:s = 1 ∨ s = -1:=by simpa using hs
  have lf':∀ d ∈ lv,four d:=by rw [hlv]; exact lf
  have sw:=shp_words lf'
  have lvl:lv.length <= 600:=by rw [hlv]; omega
  have sl':(([D.int s]:List D).length * ((lv.length:Nat):Int).toNat) <= sizeLine:=by
   rw [Int.toNat_natCast]
   exact Nat.le_trans (show _ <= 600 by rw [List.length_singleton]; omega) (by decide)
  have er:eqD (.lst lv) (.lst (List.replicate ((lv.length:Nat):Int).toNat [D.int s]).flatten) = lv.all (isS s):=by
   rw [Int.toNat_natCast]
   exact eqD_rep s lv lf'
  refine ⟨sz,⟨⟨by omega,by omega⟩,sl'⟩,⟨sw,shp_rep _ _⟩,fun z1=>?_,fun _=>Br.f (hX _ ⟨_,rfl⟩)⟩
  have z1:lv.all (isS s) = true:=by rw [← er]; exact z1
  refine ⟨⟨four_shp (sayR_four _ _ _),rfl⟩,fun z2=>?_,fun _=>Br.f (hX _ ⟨_,rfl⟩)⟩
  have z2:(!eqD (sayR x.toNat y.toNat r0.2) (.int s)) = true:=z2
  rw [four_eq (sayR_four _ _ _)] at z2
  refine coll_word tl ⟨⟨rfl,flat_ints _⟩,fun z3=>?_,fun _=>hX _ ⟨_,rfl⟩⟩
  exfalso
  have z3:(!((ts.map (·.2)).map D.int).any fun y=>eqF y (.int s)) = true:=z3
  have nt:∀ p ∈ turnsL (knotsL b so (so.length + 1)) x.toNat y.toNat,p.2 ≠ s:=fun p hp e=>by
   rw [← hcs,← hts] at hp
   have:(((ts.map (·.2)).map D.int).any fun y=>eqF y (.int s)) = true:=List.any_eq_true.mpr ⟨.int p.2,List.mem_map.mpr ⟨p.2,List.mem_map.mpr ⟨p,hp,rfl⟩,rfl⟩,by simp [eqF,toV,eqV,e]⟩
   rw [this] at z3
   cases z3
  have al:=all_say (b:=b) (so:=so) (x:=x.toNat) (y:=y.toNat) hs (fun c hc=>?_) nt so.length (Nat.le_refl _) r0 (by rw [Nat.sub_self]; exact hroot)
  ·rw [al] at z2
   cases z2
  ·rw [List.all_eq_true] at z1
   refine z1 _ ?_
   rw [hlv]
   unfold leafL
   refine List.mem_map.mpr ⟨c,List.mem_filter.mpr ⟨?_,decide_eq_true (lev_len (Nat.le_refl _) hc)⟩,rfl⟩
   rw [hcs]
   exact knots_mem.mpr ⟨_,by omega,hc⟩
 rintro _ ⟨s10,rfl⟩
 refine ⟨fun ρ=>∃ s11 s12 s13 s14 s15,ρ = [.nil,.val .pen,.val (bookD b),.val (.int x),.val (.int y),.val (intsT so),.val (.lst (cs.map cellD)),.val (.lst (ts.map tkD)),.val (.lst lv),.val (sayR x.toNat y.toNat r0.2),s10,s11,s12,s13,s14,s15],?_,?_⟩
 ·refine dLoop_ind (fun ρ=>∃ s11 s12 s13 s14 s15,ρ = [.nil,.val .pen,.val (bookD b),.val (.int x),.val (.int y),.val (intsT so),.val (.lst (cs.map cellD)),.val (.lst (ts.map tkD)),.val (.lst lv),.val (sayR x.toNat y.toNat r0.2),s10,s11,s12,s13,s14,s15]) (fun ρ h=>h) (fun d hd ρ X hN hX=>?_) _ ⟨_,_,_,_,_,rfl⟩
  obtain ⟨s11,s12,s13,s14,s15,rfl⟩:=hN
  obtain ⟨c,hc,rfl⟩:=List.mem_map.mp hd
  have l1:(((c.1.map D.int).length:Nat):Int) = c.1.length:=by rw [List.length_map]
  have l2:(((so.map D.int).length:Nat):Int) = so.length:=by rw [List.length_map]
  refine ⟨rfl,Br.di (fun z=>?_) (fun _=>hX _ ⟨_,_,_,_,_,rfl⟩)⟩
  have hc':=hc
  rw [hcs] at hc'
  obtain ⟨_,hcl⟩:=knots_at hc'
  have hl:c.1.length < so.length:=by omega
  have hex:∃ d ∈ b.cells,vals d.1 (so.take c.1.length) = c.1:=by
   have:c.1 ∈ (partsB b (so.take c.1.length)).map (·.1):=List.mem_map.mpr ⟨c,hcl,rfl⟩
   unfold partsB at this
   rw [parts_mem,List.map_map,List.mem_map] at this
   exact this
  refine ⟨rfl,b,so,c.1,rfl,bo,bk,sp,hl,hex,?_⟩
  have kr:=kids_rows (b:=b) (so:=so) bo (v:=c.1)
  have kn:=kids_ne hcl
  have ks:=kids_sum hcl
  have du:=due_is (b:=b) (so:=so) hl hcl (x:=x.toNat) (y:=y.toNat) (by have:=ab.a0; have:=ab.a1; omega) (by have:=ab.b0; have:=ab.b1; omega)
  have to:=told_of (b:=b) (so:=so) hc' x.toNat y.toNat
  rw [← hcs] at du to
  rw [← hts] at to
  obtain ⟨kt,hkt⟩:∃ kt,kt = kidsT b so c.1:=⟨_,rfl⟩
  rw [← hkt] at kr kn ks du ⊢
  refine ⟨rfl,b.m,kt,rfl,⟨bo.m2,bo.m6,?_,?_,kr.1⟩,⟨ab.a0,ab.a1,ab.b0,ab.b1,ab.ne⟩,?_⟩
  ·cases q:kt with
   | nil=>exact absurd q kn
   | cons _ _=>simp
  ·exact Nat.le_trans kr.2 (by decide)
  obtain ⟨tn,htn⟩:∃ tn,tn = turnD (told kt x.toNat y.toNat) (wholeS kt x.toNat y.toNat):=⟨_,rfl⟩
  have t4:=turn_four (told kt x.toNat y.toNat) (wholeS kt x.toNat y.toNat)
  rw [← htn] at t4 du ⊢
  have st:=shp_turns (tuOf cs x.toNat y.toNat c)
  have sr:shp (rowD c.2) = true:=(shp_row c.2).shp
  rcases t4 with ⟨s,z,e⟩ | ⟨r,e⟩ | ⟨r,e⟩ | ⟨r,e⟩
  all_goals rw [e] at du ⊢
  ·have du:(tuOf cs x.toNat y.toNat c).map tkD = [tkD (c.1,s)]:=du
   rw [du] at st
   refine ⟨⟨ss_turned,ss_turned⟩,Br_t se_turned ⟨sz,sz,?_⟩⟩
   have ed:D.lst ((ts.filter fun p=>decide (p.1 = c.1)).map tkD) = .lst [tkD (c.1,s)]:=by rw [to,du]
   refine coll_knot tl ⟨⟨shp_to ed st,st⟩,ne_to ed st ⟨rfl,b.m,kt,rfl,bo.m6,kr.1,Nat.le_trans kr.2 (by decide),⟨shp_to (congrArg rowD ks) sr,sr⟩,ne_to (congrArg rowD ks) sr (hX _ ⟨_,_,_,_,_,rfl⟩)⟩⟩
  ·have du:(tuOf cs x.toNat y.toNat c).map tkD = []:=du
   rw [du] at st
   refine opt_at (Int.le_refl 0) rfl ⟨⟨ss_kept,ss_turned⟩,Br_f se_kept ⟨sz,?_⟩⟩
   have ed:D.lst ((ts.filter fun p=>decide (p.1 = c.1)).map tkD) = .lst []:=by rw [to,du]
   refine coll_knot tl ⟨⟨shp_to ed st,st⟩,ne_to ed st ⟨rfl,b.m,kt,rfl,bo.m6,kr.1,Nat.le_trans kr.2 (by decide),⟨shp_to (congrArg rowD ks) sr,sr⟩,ne_to (congrArg rowD ks) sr (hX _ ⟨_,_,_,_,_,rfl⟩)⟩⟩
  ·have du:(tuOf cs x.toNat y.toNat c).map tkD = []:=du
   rw [du] at st
   refine opt_at (Int.le_refl 0) rfl ⟨⟨ss_open,ss_turned⟩,Br_f se_open ⟨sz,?_⟩⟩
   have ed:D.lst ((ts.filter fun p=>decide (p.1 = c.1)).map tkD) = .lst []:=by rw [to,du]
   refine coll_knot tl ⟨⟨shp_to ed st,st⟩,ne_to ed st ⟨rfl,b.m,kt,rfl,bo.m6,kr.1,Nat.le_trans kr.2 (by decide),⟨shp_to (congrArg rowD ks) sr,sr⟩,ne_to (congrArg rowD ks) sr (hX _ ⟨_,_,_,_,_,rfl⟩)⟩⟩
  ·have du:(tuOf cs x.toNat y.toNat c).map tkD = []:=du
   rw [du] at st
   refine opt_at (Int.le_refl 0) rfl ⟨⟨ss_apart,ss_turned⟩,Br_f se_apart ⟨sz,?_⟩⟩
   have ed:D.lst ((ts.filter fun p=>decide (p.1 = c.1)).map tkD) = .lst []:=by rw [to,du]
   refine coll_knot tl ⟨⟨shp_to ed st,st⟩,ne_to ed st ⟨rfl,b.m,kt,rfl,bo.m6,kr.1,Nat.le_trans kr.2 (by decide),⟨shp_to (congrArg rowD ks) sr,sr⟩,ne_to (congrArg rowD ks) sr (hX _ ⟨_,_,_,_,_,rfl⟩)⟩⟩
 ·rintro _ ⟨s11,s12,s13,s14,s15,rfl⟩
  rfl
end
set_option maxHeartbeats 0 in
theorem all_mk {l:PySem.W.OpenLaw} {w:World} {K:PySem.W.Frag} {h:Heap} {mg:Str -> Option Value} {fa f0 f1 f2 f3 f4 f5 f6 f7 f8 f9 f10 f11 f12 f13 f14 f15 f16 f17 f18 f19 f20 f21 f22 f23 f24 f25 f26 f27 f28 f29 f30 f31 f32 f33 f34 f35:Addr} (X:K.In h) (G:h.Ns mainGlobals mg) (hfa:mg "law" = some (.ref fa))
  {od0 an0 od1 an1 od2 an2 od3 an3 od4 an4 od5 an5 od6 an6 od7 an7 od8 an8 od9 an9 od10 an10 od11 an11 od12 an12 od13 an13 od14 an14 od15 an15 od16 an16 od17 an17 od18 an18 od19 an19 od20 an20 od21 an21 od22 an22 od23 an23 od24 an24 od25 an25 od26 an26 od27 an27 od28 an28 od29 an29 od30 an30 od31 an31 od32 an32 od33 an33 od34 an34 od35 an35:Option Addr} {sl0 sl1 sl2 sl3 sl4 sl5 sl6 sl7 sl8 sl9 sl10 sl11 sl12 sl13 sl14 sl15 sl16 sl17 sl18 sl19 sl20 sl21 sl22 sl23 sl24 sl25 sl26 sl27 sl28 sl29 sl30 sl31 sl32 sl33 sl34 sl35:Array (Option Value)} {oc0 kV0 dc0 pm0 cd0 ct0 oc1 kV1 dc1 pm1 cd1 ct1 oc2 kV2 dc2 pm2 cd2 ct2 oc3 kV3 dc3 pm3 cd3 ct3 oc4 kV4 dc4 pm4 cd4 ct4 oc5 kV5 dc5 pm5 cd5 ct5 oc6 kV6 dc6 pm6 cd6 ct6 oc7 kV7 dc7 pm7 cd7 ct7 oc8 kV8 dc8 pm8 cd8 ct8 oc9 kV9 dc9 pm9 cd9 ct9 oc10 kV10 dc10 pm10 cd10 ct10 oc11 kV11 dc11 pm11 cd11 ct11 oc12 kV12 dc12 pm12 cd12 ct12 oc13 kV13 dc13 pm13 cd13 ct13 oc14 kV14 dc14 pm14 cd14 ct14 oc15 kV15 dc15 pm15 cd15 ct15 oc16 kV16 dc16 pm16 cd16 ct16 oc17 kV17 dc17 pm17 cd17 ct17 oc18 kV18 dc18 pm18 cd18 ct18 oc19 kV19 dc19 pm19 cd19 ct19 oc20 kV20 dc20 pm20 cd20 ct20 oc21 kV21 dc21 pm21 cd21 ct21 oc22 kV22 dc22 pm22 cd22 ct22 oc23 kV23 dc23 pm23 cd23 ct23 oc24 kV24 dc24 pm24 cd24 ct24 oc25 kV25 dc25 pm25 cd25 ct25 oc26 kV26 dc26 pm26 cd26 ct26 oc27 kV27 dc27 pm27 cd27 ct27 oc28 kV28 dc28 pm28 cd28 ct28 oc29 kV29 dc29 pm29 cd29 ct29 oc30 kV30 dc30 pm30 cd30 ct30 oc31 kV31 dc31 pm31 cd31 ct31 oc32 kV32 dc32 pm32 cd32 ct32 oc33 kV33 dc33 pm33 cd33 ct33 oc34 kV34 dc34 pm34 cd34 ct34 oc35 kV35 dc35 pm35 cd35 ct35:Value}
  (a0:PySem.W.nsIn K mainGlobals "is_whole" = some (some (.ref f0))) (l0:K.lookup f0 = some ⟨oc0,od0,.func (PySem.W.fnOf "is_whole" "is_whole" (defArgs s_is_whole) (defBody s_is_whole) (defScope s_is_whole) .none kV0 dc0 pm0 an0 cd0 ct0),sl0⟩) (c0:PySem.W.codeIn K cd0 "is_whole" = true) (k0:PySem.W.keepIn K (.ref f0) = true)
  (a1:PySem.W.nsIn K mainGlobals "is_within" = some (some (.ref f1))) (l1:K.lookup f1 = some ⟨oc1,od1,.func (PySem.W.fnOf "is_within" "is_within" (defArgs s_is_within) (defBody s_is_within) (defScope s_is_within) .none kV1 dc1 pm1 an1 cd1 ct1),sl1⟩) (c1:PySem.W.codeIn K cd1 "is_within" = true) (k1:PySem.W.keepIn K (.ref f1) = true)
  (a2:PySem.W.nsIn K mainGlobals "together" = some (some (.ref f2))) (l2:K.lookup f2 = some ⟨oc2,od2,.func (PySem.W.fnOf "together" "together" (defArgs s_together) (defBody s_together) (defScope s_together) .none kV2 dc2 pm2 an2 cd2 ct2),sl2⟩) (c2:PySem.W.codeIn K cd2 "together" = true) (k2:PySem.W.keepIn K (.ref f2) = true)
  (a3:PySem.W.nsIn K mainGlobals "together_by_house" = some (some (.ref f3))) (l3:K.lookup f3 = some ⟨oc3,od3,.func (PySem.W.fnOf "together_by_house" "together_by_house" (defArgs s_together_by_house) (defBody s_together_by_house) (defScope s_together_by_house) .none kV3 dc3 pm3 an3 cd3 ct3),sl3⟩) (c3:PySem.W.codeIn K cd3 "together_by_house" = true) (k3:PySem.W.keepIn K (.ref f3) = true)
  (a4:PySem.W.nsIn K mainGlobals "said" = some (some (.ref f4))) (l4:K.lookup f4 = some ⟨oc4,od4,.func (PySem.W.fnOf "said" "said" (defArgs s_said) (defBody s_said) (defScope s_said) .none kV4 dc4 pm4 an4 cd4 ct4),sl4⟩) (c4:PySem.W.codeIn K cd4 "said" = true) (k4:PySem.W.keepIn K (.ref f4) = true)
  (a5:PySem.W.nsIn K mainGlobals "check_house" = some (some (.ref f5))) (l5:K.lookup f5 = some ⟨oc5,od5,.func (PySem.W.fnOf "check_house" "check_house" (defArgs s_check_house) (defBody s_check_house) (defScope s_check_house) .none kV5 dc5 pm5 an5 cd5 ct5),sl5⟩) (c5:PySem.W.codeIn K cd5 "check_house" = true) (k5:PySem.W.keepIn K (.ref f5) = true)
  (a6:PySem.W.nsIn K mainGlobals "check_pair" = some (some (.ref f6))) (l6:K.lookup f6 = some ⟨oc6,od6,.func (PySem.W.fnOf "check_pair" "check_pair" (defArgs s_check_pair) (defBody s_check_pair) (defScope s_check_pair) .none kV6 dc6 pm6 an6 cd6 ct6),sl6⟩) (c6:PySem.W.codeIn K cd6 "check_pair" = true) (k6:PySem.W.keepIn K (.ref f6) = true)
  (a7:PySem.W.nsIn K mainGlobals "houses_of" = some (some (.ref f7))) (l7:K.lookup f7 = some ⟨oc7,od7,.func (PySem.W.fnOf "houses_of" "houses_of" (defArgs s_houses_of) (defBody s_houses_of) (defScope s_houses_of) .none kV7 dc7 pm7 an7 cd7 ct7),sl7⟩) (c7:PySem.W.codeIn K cd7 "houses_of" = true) (k7:PySem.W.keepIn K (.ref f7) = true)
  (a8:PySem.W.nsIn K mainGlobals "gathered" = some (some (.ref f8))) (l8:K.lookup f8 = some ⟨oc8,od8,.func (PySem.W.fnOf "gathered" "gathered" (defArgs s_gathered) (defBody s_gathered) (defScope s_gathered) .none kV8 dc8 pm8 an8 cd8 ct8),sl8⟩) (c8:PySem.W.codeIn K cd8 "gathered" = true) (k8:PySem.W.keepIn K (.ref f8) = true)
  (a9:PySem.W.nsIn K mainGlobals "is_tried" = some (some (.ref f9))) (l9:K.lookup f9 = some ⟨oc9,od9,.func (PySem.W.fnOf "is_tried" "is_tried" (defArgs s_is_tried) (defBody s_is_tried) (defScope s_is_tried) .none kV9 dc9 pm9 an9 cd9 ct9),sl9⟩) (c9:PySem.W.codeIn K cd9 "is_tried" = true) (k9:PySem.W.keepIn K (.ref f9) = true)
  (a10:PySem.W.nsIn K mainGlobals "parts_by" = some (some (.ref f10))) (l10:K.lookup f10 = some ⟨oc10,od10,.func (PySem.W.fnOf "parts_by" "parts_by" (defArgs s_parts_by) (defBody s_parts_by) (defScope s_parts_by) .none kV10 dc10 pm10 an10 cd10 ct10),sl10⟩) (c10:PySem.W.codeIn K cd10 "parts_by" = true) (k10:PySem.W.keepIn K (.ref f10) = true)
  (a11:PySem.W.nsIn K mainGlobals "within" = some (some (.ref f11))) (l11:K.lookup f11 = some ⟨oc11,od11,.func (PySem.W.fnOf "within" "within" (defArgs s_within) (defBody s_within) (defScope s_within) .none kV11 dc11 pm11 an11 cd11 ct11),sl11⟩) (c11:PySem.W.codeIn K cd11 "within" = true) (k11:PySem.W.keepIn K (.ref f11) = true)
  (a12:PySem.W.nsIn K mainGlobals "table_by" = some (some (.ref f12))) (l12:K.lookup f12 = some ⟨oc12,od12,.func (PySem.W.fnOf "table_by" "table_by" (defArgs s_table_by) (defBody s_table_by) (defScope s_table_by) .none kV12 dc12 pm12 an12 cd12 ct12),sl12⟩) (c12:PySem.W.codeIn K cd12 "table_by" = true) (k12:PySem.W.keepIn K (.ref f12) = true)
  (a13:PySem.W.nsIn K mainGlobals "values_by" = some (some (.ref f13))) (l13:K.lookup f13 = some ⟨oc13,od13,.func (PySem.W.fnOf "values_by" "values_by" (defArgs s_values_by) (defBody s_values_by) (defScope s_values_by) .none kV13 dc13 pm13 an13 cd13 ct13),sl13⟩) (c13:PySem.W.codeIn K cd13 "values_by" = true) (k13:PySem.W.keepIn K (.ref f13) = true)
  (a14:PySem.W.nsIn K mainGlobals "without" = some (some (.ref f14))) (l14:K.lookup f14 = some ⟨oc14,od14,.func (PySem.W.fnOf "without" "without" (defArgs s_without) (defBody s_without) (defScope s_without) .none kV14 dc14 pm14 an14 cd14 ct14),sl14⟩) (c14:PySem.W.codeIn K cd14 "without" = true) (k14:PySem.W.keepIn K (.ref f14) = true)
  (a15:PySem.W.nsIn K mainGlobals "check_mark" = some (some (.ref f15))) (l15:K.lookup f15 = some ⟨oc15,od15,.func (PySem.W.fnOf "check_mark" "check_mark" (defArgs s_check_mark) (defBody s_check_mark) (defScope s_check_mark) .none kV15 dc15 pm15 an15 cd15 ct15),sl15⟩) (c15:PySem.W.codeIn K cd15 "check_mark" = true) (k15:PySem.W.keepIn K (.ref f15) = true)
  (a16:PySem.W.nsIn K mainGlobals "check_marks" = some (some (.ref f16))) (l16:K.lookup f16 = some ⟨oc16,od16,.func (PySem.W.fnOf "check_marks" "check_marks" (defArgs s_check_marks) (defBody s_check_marks) (defScope s_check_marks) .none kV16 dc16 pm16 an16 cd16 ct16),sl16⟩) (c16:PySem.W.codeIn K cd16 "check_marks" = true) (k16:PySem.W.keepIn K (.ref f16) = true)
  (a17:PySem.W.nsIn K mainGlobals "knots" = some (some (.ref f17))) (l17:K.lookup f17 = some ⟨oc17,od17,.func (PySem.W.fnOf "knots" "knots" (defArgs s_knots) (defBody s_knots) (defScope s_knots) .none kV17 dc17 pm17 an17 cd17 ct17),sl17⟩) (c17:PySem.W.codeIn K cd17 "knots" = true) (k17:PySem.W.keepIn K (.ref f17) = true)
  (a18:PySem.W.nsIn K mainGlobals "turned_knots" = some (some (.ref f18))) (l18:K.lookup f18 = some ⟨oc18,od18,.func (PySem.W.fnOf "turned_knots" "turned_knots" (defArgs s_turned_knots) (defBody s_turned_knots) (defScope s_turned_knots) .none kV18 dc18 pm18 an18 cd18 ct18),sl18⟩) (c18:PySem.W.codeIn K cd18 "turned_knots" = true) (k18:PySem.W.keepIn K (.ref f18) = true)
  (a19:PySem.W.nsIn K mainGlobals "says_of_kids" = some (some (.ref f19))) (l19:K.lookup f19 = some ⟨oc19,od19,.func (PySem.W.fnOf "says_of_kids" "says_of_kids" (defArgs s_says_of_kids) (defBody s_says_of_kids) (defScope s_says_of_kids) .none kV19 dc19 pm19 an19 cd19 ct19),sl19⟩) (c19:PySem.W.codeIn K cd19 "says_of_kids" = true) (k19:PySem.W.keepIn K (.ref f19) = true)
  (a20:PySem.W.nsIn K mainGlobals "sums_of" = some (some (.ref f20))) (l20:K.lookup f20 = some ⟨oc20,od20,.func (PySem.W.fnOf "sums_of" "sums_of" (defArgs s_sums_of) (defBody s_sums_of) (defScope s_sums_of) .none kV20 dc20 pm20 an20 cd20 ct20),sl20⟩) (c20:PySem.W.codeIn K cd20 "sums_of" = true) (k20:PySem.W.keepIn K (.ref f20) = true)
  (a21:PySem.W.nsIn K mainGlobals "says" = some (some (.ref f21))) (l21:K.lookup f21 = some ⟨oc21,od21,.func (PySem.W.fnOf "says" "says" (defArgs s_says) (defBody s_says) (defScope s_says) .none kV21 dc21 pm21 an21 cd21 ct21),sl21⟩) (c21:PySem.W.codeIn K cd21 "says" = true) (k21:PySem.W.keepIn K (.ref f21) = true)
  (a22:PySem.W.nsIn K mainGlobals "turning" = some (some (.ref f22))) (l22:K.lookup f22 = some ⟨oc22,od22,.func (PySem.W.fnOf "turning" "turning" (defArgs s_turning) (defBody s_turning) (defScope s_turning) .none kV22 dc22 pm22 an22 cd22 ct22),sl22⟩) (c22:PySem.W.codeIn K cd22 "turning" = true) (k22:PySem.W.keepIn K (.ref f22) = true)
  (a23:PySem.W.nsIn K mainGlobals "turned_or_kept" = some (some (.ref f23))) (l23:K.lookup f23 = some ⟨oc23,od23,.func (PySem.W.fnOf "turned_or_kept" "turned_or_kept" (defArgs s_turned_or_kept) (defBody s_turned_or_kept) (defScope s_turned_or_kept) .none kV23 dc23 pm23 an23 cd23 ct23),sl23⟩) (c23:PySem.W.codeIn K cd23 "turned_or_kept" = true) (k23:PySem.W.keepIn K (.ref f23) = true)
  (a24:PySem.W.nsIn K mainGlobals "_law_pen" = some (some (.ref f24))) (l24:K.lookup f24 = some ⟨oc24,od24,.func (PySem.W.fnOf "_law_pen" "_law_pen" (defArgs s__law_pen) (defBody s__law_pen) (defScope s__law_pen) .none kV24 dc24 pm24 an24 cd24 ct24),sl24⟩) (c24:PySem.W.codeIn K cd24 "_law_pen" = true) (k24:PySem.W.keepIn K (.ref f24) = true)
  (a25:PySem.W.nsIn K mainGlobals "_law_next" = some (some (.ref f25))) (l25:K.lookup f25 = some ⟨oc25,od25,.func (PySem.W.fnOf "_law_next" "_law_next" (defArgs s__law_next) (defBody s__law_next) (defScope s__law_next) .none kV25 dc25 pm25 an25 cd25 ct25),sl25⟩) (c25:PySem.W.codeIn K cd25 "_law_next" = true) (k25:PySem.W.keepIn K (.ref f25) = true)
  (a26:PySem.W.nsIn K mainGlobals "_law_count" = some (some (.ref f26))) (l26:K.lookup f26 = some ⟨oc26,od26,.func (PySem.W.fnOf "_law_count" "_law_count" (defArgs s__law_count) (defBody s__law_count) (defScope s__law_count) .none kV26 dc26 pm26 an26 cd26 ct26),sl26⟩) (c26:PySem.W.codeIn K cd26 "_law_count" = true) (k26:PySem.W.keepIn K (.ref f26) = true)
  (a27:PySem.W.nsIn K mainGlobals "_law_book" = some (some (.ref f27))) (l27:K.lookup f27 = some ⟨oc27,od27,.func (PySem.W.fnOf "_law_book" "_law_book" (defArgs s__law_book) (defBody s__law_book) (defScope s__law_book) .none kV27 dc27 pm27 an27 cd27 ct27),sl27⟩) (c27:PySem.W.codeIn K cd27 "_law_book" = true) (k27:PySem.W.keepIn K (.ref f27) = true)
  (a28:PySem.W.nsIn K mainGlobals "_law_two" = some (some (.ref f28))) (l28:K.lookup f28 = some ⟨oc28,od28,.func (PySem.W.fnOf "_law_two" "_law_two" (defArgs s__law_two) (defBody s__law_two) (defScope s__law_two) .none kV28 dc28 pm28 an28 cd28 ct28),sl28⟩) (c28:PySem.W.codeIn K cd28 "_law_two" = true) (k28:PySem.W.keepIn K (.ref f28) = true)
  (a29:PySem.W.nsIn K mainGlobals "_law_leaning" = some (some (.ref f29))) (l29:K.lookup f29 = some ⟨oc29,od29,.func (PySem.W.fnOf "_law_leaning" "_law_leaning" (defArgs s__law_leaning) (defBody s__law_leaning) (defScope s__law_leaning) .none kV29 dc29 pm29 an29 cd29 ct29),sl29⟩) (c29:PySem.W.codeIn K cd29 "_law_leaning" = true) (k29:PySem.W.keepIn K (.ref f29) = true)
  (a30:PySem.W.nsIn K mainGlobals "_law_sum" = some (some (.ref f30))) (l30:K.lookup f30 = some ⟨oc30,od30,.func (PySem.W.fnOf "_law_sum" "_law_sum" (defArgs s__law_sum) (defBody s__law_sum) (defScope s__law_sum) .none kV30 dc30 pm30 an30 cd30 ct30),sl30⟩) (c30:PySem.W.codeIn K cd30 "_law_sum" = true) (k30:PySem.W.keepIn K (.ref f30) = true)
  (a31:PySem.W.nsIn K mainGlobals "_law_said" = some (some (.ref f31))) (l31:K.lookup f31 = some ⟨oc31,od31,.func (PySem.W.fnOf "_law_said" "_law_said" (defArgs s__law_said) (defBody s__law_said) (defScope s__law_said) .none kV31 dc31 pm31 an31 cd31 ct31),sl31⟩) (c31:PySem.W.codeIn K cd31 "_law_said" = true) (k31:PySem.W.keepIn K (.ref f31) = true)
  (a32:PySem.W.nsIn K mainGlobals "_law_order" = some (some (.ref f32))) (l32:K.lookup f32 = some ⟨oc32,od32,.func (PySem.W.fnOf "_law_order" "_law_order" (defArgs s__law_order) (defBody s__law_order) (defScope s__law_order) .none kV32 dc32 pm32 an32 cd32 ct32),sl32⟩) (c32:PySem.W.codeIn K cd32 "_law_order" = true) (k32:PySem.W.keepIn K (.ref f32) = true)
  (a33:PySem.W.nsIn K mainGlobals "_law_kids" = some (some (.ref f33))) (l33:K.lookup f33 = some ⟨oc33,od33,.func (PySem.W.fnOf "_law_kids" "_law_kids" (defArgs s__law_kids) (defBody s__law_kids) (defScope s__law_kids) .none kV33 dc33 pm33 an33 cd33 ct33),sl33⟩) (c33:PySem.W.codeIn K cd33 "_law_kids" = true) (k33:PySem.W.keepIn K (.ref f33) = true)
  (a34:PySem.W.nsIn K mainGlobals "_law_added" = some (some (.ref f34))) (l34:K.lookup f34 = some ⟨oc34,od34,.func (PySem.W.fnOf "_law_added" "_law_added" (defArgs s__law_added) (defBody s__law_added) (defScope s__law_added) .none kV34 dc34 pm34 an34 cd34 ct34),sl34⟩) (c34:PySem.W.codeIn K cd34 "_law_added" = true) (k34:PySem.W.keepIn K (.ref f34) = true)
  (a35:PySem.W.nsIn K mainGlobals "law" = some (some (.ref f35))) (l35:K.lookup f35 = some ⟨oc35,od35,.func (PySem.W.fnOf "law" "law" (defArgs s_law) (defBody s_law) (defScope s_law) .none kV35 dc35 pm35 an35 cd35 ct35),sl35⟩) (c35:PySem.W.codeIn K cd35 "law" = true) (k35:PySem.W.keepIn K (.ref f35) = true)
  (z0:PySem.W.nsIn K mainGlobals "ValueError" = some none) (z1:PySem.W.nsIn K mainGlobals "sum" = some none) (z2:PySem.W.nsIn K mainGlobals "tuple" = some none) (z3:PySem.W.nsIn K mainGlobals "len" = some none) (z4:PySem.W.nsIn K mainGlobals "any" = some none) (z5:PySem.W.nsIn K mainGlobals "range" = some none) (z6:PySem.W.nsIn K mainGlobals "enumerate" = some none) (z7:PySem.W.nsIn K mainGlobals "list" = some none) (z8:PySem.W.nsIn K mainGlobals "zip" = some none) (z9:PySem.W.nsIn K mainGlobals "isinstance" = some none) (z10:PySem.W.nsIn K mainGlobals "int" = some none) (z11:PySem.W.nsIn K mainGlobals "bool" = some none) (z12:PySem.W.nsIn K mainGlobals "sorted" = some none) (z13:PySem.W.nsIn K mainGlobals "set" = some none)
  :
  ∃ fd:FuncData,(∀ (s:Shared) (v:Value),BindsTo s fd ⟨[v],[]⟩ [("_law_script",v)]) /\ ∀ base:Heap,K.In base -> base.Ns mainGlobals mg -> FnOk l.prog w K mg base CX0 8 fa fd ["_law_script"] (DL.spLaw K):=by
 have e:=hfa.symm.trans (PySem.W.mg_of X G a35)
 cases e
 have F0:=fun_mk (st:=s_is_whole) l0 c0 k0
 have F1:=fun_mk (st:=s_is_within) l1 c1 k1
 have F2:=fun_mk (st:=s_together) l2 c2 k2
 have F3:=fun_mk (st:=s_together_by_house) l3 c3 k3
 have F4:=fun_mk (st:=s_said) l4 c4 k4
 have F5:=fun_mk (st:=s_check_house) l5 c5 k5
 have F6:=fun_mk (st:=s_check_pair) l6 c6 k6
 have F7:=fun_mk (st:=s_houses_of) l7 c7 k7
 have F8:=fun_mk (st:=s_gathered) l8 c8 k8
 have F9:=fun_mk (st:=s_is_tried) l9 c9 k9
 have F10:=fun_mk (st:=s_parts_by) l10 c10 k10
 have F11:=fun_mk (st:=s_within) l11 c11 k11
 have F12:=fun_mk (st:=s_table_by) l12 c12 k12
 have F13:=fun_mk (st:=s_values_by) l13 c13 k13
 have F14:=fun_mk (st:=s_without) l14 c14 k14
 have F15:=fun_mk (st:=s_check_mark) l15 c15 k15
 have F16:=fun_mk (st:=s_check_marks) l16 c16 k16
 have F17:=fun_mk (st:=s_knots) l17 c17 k17
 have F18:=fun_mk (st:=s_turned_knots) l18 c18 k18
 have F19:=fun_mk (st:=s_says_of_kids) l19 c19 k19
 have F20:=fun_mk (st:=s_sums_of) l20 c20 k20
 have F21:=fun_mk (st:=s_says) l21 c21 k21
 have F22:=fun_mk (st:=s_turning) l22 c22 k22
 have F23:=fun_mk (st:=s_turned_or_kept) l23 c23 k23
 have F24:=fun_mk (st:=s__law_pen) l24 c24 k24
 have F25:=fun_mk (st:=s__law_next) l25 c25 k25
 have F26:=fun_mk (st:=s__law_count) l26 c26 k26
 have F27:=fun_mk (st:=s__law_book) l27 c27 k27
 have F28:=fun_mk (st:=s__law_two) l28 c28 k28
 have F29:=fun_mk (st:=s__law_leaning) l29 c29 k29
 have F30:=fun_mk (st:=s__law_sum) l30 c30 k30
 have F31:=fun_mk (st:=s__law_said) l31 c31 k31
 have F32:=fun_mk (st:=s__law_order) l32 c32 k32
 have F33:=fun_mk (st:=s__law_kids) l33 c33 k33
 have F34:=fun_mk (st:=s__law_added) l34 c34 k34
 have F35:=fun_mk (st:=s_law) l35 c35 k35
 let T:Tx K mg:={ f_is_whole:=f0,fd_is_whole:=_,d_is_whole:=⟨F0,PySem.W.mg_of X G a0,F0.binds (ps:=["thing"]) (fun _ _ _ _ _ _ us hl=>match us,hl with | [_],_=>rfl)⟩,f_is_within:=f1,fd_is_within:=_,d_is_within:=⟨F1,PySem.W.mg_of X G a1,F1.binds (ps:=["thing","least","most"]) (fun _ _ _ _ _ _ us hl=>match us,hl with | [_,_,_],_=>rfl)⟩,f_together:=f2,fd_together:=_,d_together:=⟨F2,PySem.W.mg_of X G a2,F2.binds (ps:=["counts"]) (fun _ _ _ _ _ _ us hl=>match us,hl with | [_],_=>rfl)⟩,f_together_by_house:=f3,fd_together_by_house:=_,d_together_by_house:=⟨F3,PySem.W.mg_of X G a3,F3.binds (ps:=["many","rows"]) (fun _ _ _ _ _ _ us hl=>match us,hl with | [_,_],_=>rfl)⟩,f_said:=f4,fd_said:=_,d_said:=⟨F4,PySem.W.mg_of X G a4,F4.binds (ps:=["one","other"]) (fun _ _ _ _ _ _ us hl=>match us,hl with | [_,_],_=>rfl)⟩,f_check_house:=f5,fd_check_house:=_,d_check_house:=⟨F5,PySem.W.mg_of X G a5,F5.binds (ps:=["many","house"]) (fun _ _ _ _ _ _ us hl=>match us,hl with | [_,_],_=>rfl)⟩,f_check_pair:=f6,fd_check_pair:=_,d_check_pair:=⟨F6,PySem.W.mg_of X G a6,F6.binds (ps:=["many","a","b"]) (fun _ _ _ _ _ _ us hl=>match us,hl with | [_,_,_],_=>rfl)⟩,f_houses_of:=f7,fd_houses_of:=_,d_houses_of:=⟨F7,PySem.W.mg_of X G a7,F7.binds (ps:=["table"]) (fun _ _ _ _ _ _ us hl=>match us,hl with | [_],_=>rfl)⟩,f_gathered:=f8,fd_gathered:=_,d_gathered:=⟨F8,PySem.W.mg_of X G a8,F8.binds (ps:=["many","pairs"]) (fun _ _ _ _ _ _ us hl=>match us,hl with | [_,_],_=>rfl)⟩,f_is_tried:=f9,fd_is_tried:=_,d_is_tried:=⟨F9,PySem.W.mg_of X G a9,F9.binds (ps:=["counts"]) (fun _ _ _ _ _ _ us hl=>match us,hl with | [_],_=>rfl)⟩,f_parts_by:=f10,fd_parts_by:=_,d_parts_by:=⟨F10,PySem.W.mg_of X G a10,F10.binds (ps:=["book","some"]) (fun _ _ _ _ _ _ us hl=>match us,hl with | [_,_],_=>rfl)⟩,f_within:=f11,fd_within:=_,d_within:=⟨F11,PySem.W.mg_of X G a11,F11.binds (ps:=["book","mark","kind"]) (fun _ _ _ _ _ _ us hl=>match us,hl with | [_,_,_],_=>rfl)⟩,f_table_by:=f12,fd_table_by:=_,d_table_by:=⟨F12,PySem.W.mg_of X G a12,F12.binds (ps:=["book","some"]) (fun _ _ _ _ _ _ us hl=>match us,hl with | [_,_],_=>rfl)⟩,f_values_by:=f13,fd_values_by:=_,d_values_by:=⟨F13,PySem.W.mg_of X G a13,F13.binds (ps:=["kinds","some"]) (fun _ _ _ _ _ _ us hl=>match us,hl with | [_,_],_=>rfl)⟩,f_without:=f14,fd_without:=_,d_without:=⟨F14,PySem.W.mg_of X G a14,F14.binds (ps:=["things","place"]) (fun _ _ _ _ _ _ us hl=>match us,hl with | [_,_],_=>rfl)⟩,f_check_mark:=f15,fd_check_mark:=_,d_check_mark:=⟨F15,PySem.W.mg_of X G a15,F15.binds (ps:=["book","mark"]) (fun _ _ _ _ _ _ us hl=>match us,hl with | [_,_],_=>rfl)⟩,f_check_marks:=f16,fd_check_marks:=_,d_check_marks:=⟨F16,PySem.W.mg_of X G a16,F16.binds (ps:=["book","some"]) (fun _ _ _ _ _ _ us hl=>match us,hl with | [_,_],_=>rfl)⟩,f_knots:=f17,fd_knots:=_,d_knots:=⟨F17,PySem.W.mg_of X G a17,F17.binds (ps:=["book","order"]) (fun _ _ _ _ _ _ us hl=>match us,hl with | [_,_],_=>rfl)⟩,f_turned_knots:=f18,fd_turned_knots:=_,d_turned_knots:=⟨F18,PySem.W.mg_of X G a18,F18.binds (ps:=["book","order","a","b"]) (fun _ _ _ _ _ _ us hl=>match us,hl with | [_,_,_,_],_=>rfl)⟩,f_says_of_kids:=f19,fd_says_of_kids:=_,d_says_of_kids:=⟨F19,PySem.W.mg_of X G a19,F19.binds (ps:=["found","a","b"]) (fun _ _ _ _ _ _ us hl=>match us,hl with | [_,_,_],_=>rfl)⟩,f_sums_of:=f20,fd_sums_of:=_,d_sums_of:=⟨F20,PySem.W.mg_of X G a20,F20.binds (ps:=["table"]) (fun _ _ _ _ _ _ us hl=>match us,hl with | [_],_=>rfl)⟩,f_says:=f21,fd_says:=_,d_says:=⟨F21,PySem.W.mg_of X G a21,F21.binds (ps:=["table","a","b"]) (fun _ _ _ _ _ _ us hl=>match us,hl with | [_,_,_],_=>rfl)⟩,f_turning:=f22,fd_turning:=_,d_turning:=⟨F22,PySem.W.mg_of X G a22,F22.binds (ps:=["table","a","b"]) (fun _ _ _ _ _ _ us hl=>match us,hl with | [_,_,_],_=>rfl)⟩,f_turned_or_kept:=f23,fd_turned_or_kept:=_,d_turned_or_kept:=⟨F23,PySem.W.mg_of X G a23,F23.binds (ps:=["number","whole"]) (fun _ _ _ _ _ _ us hl=>match us,hl with | [_,_],_=>rfl)⟩,f__law_pen:=f24,fd__law_pen:=_,d__law_pen:=⟨F24,PySem.W.mg_of X G a24,F24.binds (ps:=["_law_script"]) (fun _ _ _ _ _ _ us hl=>match us,hl with | [_],_=>rfl)⟩,f__law_next:=f25,fd__law_next:=_,d__law_next:=⟨F25,PySem.W.mg_of X G a25,F25.binds (ps:=["_law_pen_here","_law_many"]) (fun _ _ _ _ _ _ us hl=>match us,hl with | [_,_],_=>rfl)⟩,f__law_count:=f26,fd__law_count:=_,d__law_count:=⟨F26,PySem.W.mg_of X G a26,F26.binds (ps:=["_law_pen_here"]) (fun _ _ _ _ _ _ us hl=>match us,hl with | [_],_=>rfl)⟩,f__law_book:=f27,fd__law_book:=_,d__law_book:=⟨F27,PySem.W.mg_of X G a27,F27.binds (ps:=["_law_pen_here","_law_most"]) (fun _ _ _ _ _ _ us hl=>match us,hl with | [_,_],_=>rfl)⟩,f__law_two:=f28,fd__law_two:=_,d__law_two:=⟨F28,PySem.W.mg_of X G a28,F28.binds (ps:=["_law_pen_here","_law_many"]) (fun _ _ _ _ _ _ us hl=>match us,hl with | [_,_],_=>rfl)⟩,f__law_leaning:=f29,fd__law_leaning:=_,d__law_leaning:=⟨F29,PySem.W.mg_of X G a29,F29.binds (ps:=["_law_pen_here","_law_book_here","_law_a","_law_b"]) (fun _ _ _ _ _ _ us hl=>match us,hl with | [_,_,_,_],_=>rfl)⟩,f__law_sum:=f30,fd__law_sum:=_,d__law_sum:=⟨F30,PySem.W.mg_of X G a30,F30.binds (ps:=["_law_counts"]) (fun _ _ _ _ _ _ us hl=>match us,hl with | [_],_=>rfl)⟩,f__law_said:=f31,fd__law_said:=_,d__law_said:=⟨F31,PySem.W.mg_of X G a31,F31.binds (ps:=["_law_one","_law_other"]) (fun _ _ _ _ _ _ us hl=>match us,hl with | [_,_],_=>rfl)⟩,f__law_order:=f32,fd__law_order:=_,d__law_order:=⟨F32,PySem.W.mg_of X G a32,F32.binds (ps:=["_law_pen_here","_law_many"]) (fun _ _ _ _ _ _ us hl=>match us,hl with | [_,_],_=>rfl)⟩,f__law_kids:=f33,fd__law_kids:=_,d__law_kids:=⟨F33,PySem.W.mg_of X G a33,F33.binds (ps:=["_law_book_here","_law_order_here","_law_values"]) (fun _ _ _ _ _ _ us hl=>match us,hl with | [_,_,_],_=>rfl)⟩,f__law_added:=f34,fd__law_added:=_,d__law_added:=⟨F34,PySem.W.mg_of X G a34,F34.binds (ps:=["_law_rows","_law_many"]) (fun _ _ _ _ _ _ us hl=>match us,hl with | [_,_],_=>rfl)⟩,f_law:=fa,fd_law:=_,d_law:=⟨F35,PySem.W.mg_of X G a35,F35.binds (ps:=["_law_script"]) (fun _ _ _ _ _ _ us hl=>match us,hl with | [_],_=>rfl)⟩,z_ValueError:=PySem.W.mg_none_of X G z0,z_sum:=PySem.W.mg_none_of X G z1,z_tuple:=PySem.W.mg_none_of X G z2,z_len:=PySem.W.mg_none_of X G z3,z_any:=PySem.W.mg_none_of X G z4,z_range:=PySem.W.mg_none_of X G z5,z_enumerate:=PySem.W.mg_none_of X G z6,z_list:=PySem.W.mg_none_of X G z7,z_zip:=PySem.W.mg_none_of X G z8,z_isinstance:=PySem.W.mg_none_of X G z9,z_int:=PySem.W.mg_none_of X G z10,z_bool:=PySem.W.mg_none_of X G z11,z_sorted:=PySem.W.mg_none_of X G z12,z_set:=PySem.W.mg_none_of X G z13 }
 exact ⟨PySem.W.fnOf "law" "law" (defArgs s_law) (defBody s_law) (defScope s_law) .none kV35 dc35 pm35 an35 cd35 ct35,fun s v=>.of_eq rfl,fun base _ _=>g_law T⟩
end My
theorem PySem.W.Fast.tw8068476171834071914:True:=trivial
theorem PySem.W.Fast.tw5337802743682894054:True:=trivial
theorem PySem.W.Fast.tw7917753201963392495:True:=trivial
theorem PySem.W.Fast.tw14946675311251254138:True:=trivial
theorem PySem.W.Fast.tw5317983741983734853:True:=trivial
theorem PySem.W.Fast.tw13404353351371920633:True:=trivial
theorem PySem.W.Fast.tw13015509272711635577:True:=trivial
theorem PySem.W.Fast.tw11441435599490982129:True:=trivial
theorem PySem.W.Fast.tw16216814016557149134:True:=trivial
theorem PySem.W.Fast.tw17964046485765449386:True:=trivial
theorem PySem.W.Fast.tw17650530328770012757:True:=trivial
theorem PySem.W.Fast.tw15161094782933645841:True:=trivial
open PySem PySem.W PyProof.Rows
set_option maxRecDepth 100000 in
set_option maxHeartbeats 0 in
theorem PySem.Challenge.cw_othersum_k45_whole_a_turned_knot_between_holds : PySem.Challenge.rw_othersum_k45_whole_a_turned_knot_between.Holds := by
  w_on; o_law; k_head; (case hw => w_witness2)
  k_fill
  refine L2.walk_ofK (l := PySem.Challenge.rw_othersum_k45_whole_a_turned_knot_between) (n := 63) (k := 8) (x := "_law_script") (CX := L2.CX0) (sp := DL.spLaw) rfl (by decide) rfl ⟨rfl, by decide, by decide⟩ (fun w h Y => PySem.W.kIn_of Y) ?F DL.law_sp (fun _ _ _ _ z => z)
  case F =>
    intro w mg fa h KX G hmg
    refine' My.all_mk KX G hmg ?a0 ?l0 ?c0 ?k0 ?a1 ?l1 ?c1 ?k1 ?a2 ?l2 ?c2 ?k2 ?a3 ?l3 ?c3 ?k3 ?a4 ?l4 ?c4 ?k4 ?a5 ?l5 ?c5 ?k5 ?a6 ?l6 ?c6 ?k6 ?a7 ?l7 ?c7 ?k7 ?a8 ?l8 ?c8 ?k8 ?a9 ?l9 ?c9 ?k9 ?a10 ?l10 ?c10 ?k10 ?a11 ?l11 ?c11 ?k11 ?a12 ?l12 ?c12 ?k12 ?a13 ?l13 ?c13 ?k13 ?a14 ?l14 ?c14 ?k14 ?a15 ?l15 ?c15 ?k15 ?a16 ?l16 ?c16 ?k16 ?a17 ?l17 ?c17 ?k17 ?a18 ?l18 ?c18 ?k18 ?a19 ?l19 ?c19 ?k19 ?a20 ?l20 ?c20 ?k20 ?a21 ?l21 ?c21 ?k21 ?a22 ?l22 ?c22 ?k22 ?a23 ?l23 ?c23 ?k23 ?a24 ?l24 ?c24 ?k24 ?a25 ?l25 ?c25 ?k25 ?a26 ?l26 ?c26 ?k26 ?a27 ?l27 ?c27 ?k27 ?a28 ?l28 ?c28 ?k28 ?a29 ?l29 ?c29 ?k29 ?a30 ?l30 ?c30 ?k30 ?a31 ?l31 ?c31 ?k31 ?a32 ?l32 ?c32 ?k32 ?a33 ?l33 ?c33 ?k33 ?a34 ?l34 ?c34 ?k34 ?a35 ?l35 ?c35 ?k35 ?z0 ?z1 ?z2 ?z3 ?z4 ?z5 ?z6 ?z7 ?z8 ?z9 ?z10 ?z11 ?z12 ?z13
    (case a0 => k_is)
    (case l0 => k_is)
    (case c0 => k_is)
    (case k0 => k_is)
    (case a1 => k_is)
    (case l1 => k_is)
    (case c1 => k_is)
    (case k1 => k_is)
    (case a2 => k_is)
    (case l2 => k_is)
    (case c2 => k_is)
    (case k2 => k_is)
    (case a3 => k_is)
    (case l3 => k_is)
    (case c3 => k_is)
    (case k3 => k_is)
    (case a4 => k_is)
    (case l4 => k_is)
    (case c4 => k_is)
    (case k4 => k_is)
    (case a5 => k_is)
    (case l5 => k_is)
    (case c5 => k_is)
    (case k5 => k_is)
    (case a6 => k_is)
    (case l6 => k_is)
    (case c6 => k_is)
    (case k6 => k_is)
    (case a7 => k_is)
    (case l7 => k_is)
    (case c7 => k_is)
    (case k7 => k_is)
    (case a8 => k_is)
    (case l8 => k_is)
    (case c8 => k_is)
    (case k8 => k_is)
    (case a9 => k_is)
    (case l9 => k_is)
    (case c9 => k_is)
    (case k9 => k_is)
    (case a10 => k_is)
    (case l10 => k_is)
    (case c10 => k_is)
    (case k10 => k_is)
    (case a11 => k_is)
    (case l11 => k_is)
    (case c11 => k_is)
    (case k11 => k_is)
    (case a12 => k_is)
    (case l12 => k_is)
    (case c12 => k_is)
    (case k12 => k_is)
    (case a13 => k_is)
    (case l13 => k_is)
    (case c13 => k_is)
    (case k13 => k_is)
    (case a14 => k_is)
    (case l14 => k_is)
    (case c14 => k_is)
    (case k14 => k_is)
    (case a15 => k_is)
    (case l15 => k_is)
    (case c15 => k_is)
    (case k15 => k_is)
    (case a16 => k_is)
    (case l16 => k_is)
    (case c16 => k_is)
    (case k16 => k_is)
    (case a17 => k_is)
    (case l17 => k_is)
    (case c17 => k_is)
    (case k17 => k_is)
    (case a18 => k_is)
    (case l18 => k_is)
    (case c18 => k_is)
    (case k18 => k_is)
    (case a19 => k_is)
    (case l19 => k_is)
    (case c19 => k_is)
    (case k19 => k_is)
    (case a20 => k_is)
    (case l20 => k_is)
    (case c20 => k_is)
    (case k20 => k_is)
    (case a21 => k_is)
    (case l21 => k_is)
    (case c21 => k_is)
    (case k21 => k_is)
    (case a22 => k_is)
    (case l22 => k_is)
    (case c22 => k_is)
    (case k22 => k_is)
    (case a23 => k_is)
    (case l23 => k_is)
    (case c23 => k_is)
    (case k23 => k_is)
    (case a24 => k_is)
    (case l24 => k_is)
    (case c24 => k_is)
    (case k24 => k_is)
    (case a25 => k_is)
    (case l25 => k_is)
    (case c25 => k_is)
    (case k25 => k_is)
    (case a26 => k_is)
    (case l26 => k_is)
    (case c26 => k_is)
    (case k26 => k_is)
    (case a27 => k_is)
    (case l27 => k_is)
    (case c27 => k_is)
    (case k27 => k_is)
    (case a28 => k_is)
    (case l28 => k_is)
    (case c28 => k_is)
    (case k28 => k_is)
    (case a29 => k_is)
    (case l29 => k_is)
    (case c29 => k_is)
    (case k29 => k_is)
    (case a30 => k_is)
    (case l30 => k_is)
    (case c30 => k_is)
    (case k30 => k_is)
    (case a31 => k_is)
    (case l31 => k_is)
    (case c31 => k_is)
    (case k31 => k_is)
    (case a32 => k_is)
    (case l32 => k_is)
    (case c32 => k_is)
    (case k32 => k_is)
    (case a33 => k_is)
    (case l33 => k_is)
    (case c33 => k_is)
    (case k33 => k_is)
    (case a34 => k_is)
    (case l34 => k_is)
    (case c34 => k_is)
    (case k34 => k_is)
    (case a35 => k_is)
    (case l35 => k_is)
    (case c35 => k_is)
    (case k35 => k_is)
    (case z0 => k_is)
    (case z1 => k_is)
    (case z2 => k_is)
    (case z3 => k_is)
    (case z4 => k_is)
    (case z5 => k_is)
    (case z6 => k_is)
    (case z7 => k_is)
    (case z8 => k_is)
    (case z9 => k_is)
    (case z10 => k_is)
    (case z11 => k_is)
    (case z12 => k_is)
    (case z13 => k_is)
#print axioms PySem.Challenge.cw_othersum_k45_whole_a_turned_knot_between_holds
