import PyProof.Rows.All
import Wide.All
import OpenK.AllK
import Wide.FinOn
import Lean
import PyProof.EqAt
import PyProof.EqKinds
import PyProof.TupleCall
import PySem.Challenge.RW_othersum_k31_whole_bounds_are_met
noncomputable section
set_option Elab.async false
set_option linter.all false
set_option maxRecDepth 100000
namespace L2
open PySem PySem.Spec PyProof.Rows
abbrev Key:=Sum Int Str
def keyIs:Key -> Value -> Bool
 | .inl k,v=>Value.isInt k v
 | .inr x,v=>Value.isStrOf x v
def keyH (w:World):Key -> Int
 | .inl k=>hashInt k
 | .inr x=>hashStr w x
theorem keyIs_shape:∀ {k:Key} {v:Value},keyIs k v = true -> (∃ i t,k = Sum.inl i /\ v = Value.int i t) ∨ (∃ x t,k = Sum.inr x /\ v = Value.str x t)
 | .inl i,v,h=>by
  obtain ⟨t,e⟩:=Value.isInt_shape (k:=i) (v:=v) h
  exact .inl ⟨i,t,rfl,e⟩
 | .inr x,v,h=>by
  obtain ⟨t,e⟩:=Value.isStrOf_shape (x:=x) (v:=v) h
  exact .inr ⟨x,t,rfl,e⟩
theorem key_ll (a b:Int):decide ((Sum.inl a:Key) = Sum.inl b) = (a == b):=by
 by_cases e:a = b
 ·subst e; simp
 ·have h:¬ (Sum.inl a:Key) = Sum.inl b:=fun q=>e (Sum.inl.inj q)
  rw [decide_eq_false h]
  exact (beq_eq_false_iff_ne.mpr e).symm
theorem key_rr (a b:Str):decide ((Sum.inr a:Key) = Sum.inr b) = decide (a = b):=by
 by_cases e:a = b
 ·subst e; simp
 ·have h:¬ (Sum.inr a:Key) = Sum.inr b:=fun q=>e (Sum.inr.inj q)
  rw [decide_eq_false h,decide_eq_false e]
theorem key_lr (a:Int) (b:Str):decide ((Sum.inl a:Key) = Sum.inr b) = false:=decide_eq_false (fun q=>nomatch q)
theorem key_rl (a:Str) (b:Int):decide ((Sum.inr a:Key) = Sum.inl b) = false:=decide_eq_false (fun q=>nomatch q)
def mixKind (prog:Program) (w:World):PySem.KeyKind prog w Key where
 is:=keyIs
 hash:=keyH w
 inj:=fun v a b ha hb=>by
  rcases keyIs_shape ha with ⟨i,t,rfl,rfl⟩ | ⟨x,t,rfl,rfl⟩
  ·rcases keyIs_shape hb with ⟨j,u,rfl,e⟩ | ⟨y,u,rfl,e⟩
   ·injection e with e1 _; rw [e1]
   ·exact nomatch e
  ·rcases keyIs_shape hb with ⟨j,u,rfl,e⟩ | ⟨y,u,rfl,e⟩
   ·exact nomatch e
   ·injection e with e1 _; rw [e1]
 byValue:=fun k v h=>by
  rcases keyIs_shape h with ⟨i,t,rfl,rfl⟩ | ⟨x,t,rfl,rfl⟩ <;> rfl
 pyHash:=fun hv h=>by
  rcases keyIs_shape hv with ⟨i,t,rfl,rfl⟩ | ⟨x,t,rfl,rfl⟩
  ·exact wpAny_pyHash_int h
  ·exact wpAny_pyHash_str h
 eqBool:=fun hu hv h=>by
  rcases keyIs_shape hu with ⟨i,t,rfl,rfl⟩ | ⟨x,t,rfl,rfl⟩
  ·rcases keyIs_shape hv with ⟨j,u,rfl,rfl⟩ | ⟨y,u,rfl,rfl⟩
   ·rw [key_ll] at h; exact wpAny_eqBool_int h
   ·rw [key_lr] at h; exact SeqAt.EqAt.int_str i t y u _ _ _ _ h
  ·rcases keyIs_shape hv with ⟨j,u,rfl,rfl⟩ | ⟨y,u,rfl,rfl⟩
   ·rw [key_rl] at h; exact SeqAt.EqAt.str_int x t j u _ _ _ _ h
   ·rw [key_rr] at h; exact wpAny_eqBool_str h
 «strs»:=fun k x t v h=>by
  rcases keyIs_shape h with ⟨i,u,rfl,e⟩ | ⟨y,u,rfl,e⟩
  ·exact nomatch e
  ·injection e with e1 _
   subst e1
   cases v <;> rfl
end L2
namespace L2
open PySem PySem.Spec PyProof.Rows
inductive V where
 | non | bl (b:Bool) | int (i:Int) | str (x:Str) | byt (b:Array UInt8) | flt (b:UInt64) | ref (a:Addr) | ty (n:String)
 deriving DecidableEq
def RelV:V -> Value -> Prop
 | .non,u=>u = Value.none
 | .bl b,u=>u = Value.bool b
 | .int i,u=>∃ t,u = Value.int i t
 | .str x,u=>∃ t,u = Value.str x t
 | .byt b,u=>∃ t,u = Value.bytes b t
 | .flt b,u=>∃ t,u = Value.float b t
 | .ref a,u=>u = Value.ref a
 | .ty n,u=>u = Value.type n
abbrev Vals:List V -> List Value -> Prop:=Paired RelV
theorem Vals.length {xs:List V} {us:List Value} (r:Vals xs us):xs.length = us.length:=Paired.length r
theorem Vals.get:∀ {xs:List V} {us:List Value} {i:Nat} {x:V},Vals xs us -> xs[i]? = some x -> ∃ u,us[i]? = some u /\ RelV x u
 | _,_,_,_,.nil,e=>by simp at e
 | _,_,0,_,.cons r _,e=>by simp at e; subst e; exact ⟨_,rfl,r⟩
 | _,_,i + 1,x,.cons _ t,e=>by
  obtain ⟨u,h1,h2⟩:=Vals.get (i:=i) (x:=x) t (by simpa using e)
  exact ⟨u,by simpa using h1,h2⟩
theorem Vals.set {x:V} {u:Value} (r:RelV x u):∀ {xs:List V} {us:List Value} (i:Nat),Vals xs us -> Vals (xs.set i x) (us.set i u)
 | _,_,_,.nil=>.nil
 | _,_,0,.cons _ t=>.cons r t
 | _,_,i + 1,.cons q t=>.cons q (Vals.set r i t)
theorem Vals.append:∀ {xs ys:List V} {us ws:List Value},Vals xs us -> Vals ys ws -> Vals (xs ++ ys) (us ++ ws)
 | _,_,_,_,.nil,s=>s
 | _,_,_,_,.cons r t,s=>.cons r (Vals.append t s)
theorem Vals.take:∀ {xs:List V} {us:List Value} (n:Nat),Vals xs us -> Vals (xs.take n) (us.take n)
 | _,_,0,_=>.nil
 | _,_,_ + 1,.nil=>.nil
 | _,_,n + 1,.cons r t=>.cons r (Vals.take n t)
theorem Vals.drop:∀ {xs:List V} {us:List Value} (n:Nat),Vals xs us -> Vals (xs.drop n) (us.drop n)
 | _,_,0,r=>r
 | _,_,_ + 1,.nil=>.nil
 | _,_,n + 1,.cons _ t=>Vals.drop n t
def RelO:Option V -> Option Value -> Prop
 | some v,some u=>RelV v u
 | none,none=>True
 | _,_=>False
def KV {κ:Type}:List (κ × V) -> List (κ × Value) -> Prop:=Paired fun (p:κ × V) (q:κ × Value)=>p.1 = q.1 /\ RelV p.2 q.2
def kV:Key -> V
 | .inl i=>.int i
 | .inr x=>.str x
inductive HO where
  | lst (xs:List V)
  | tup (xs:List V)
  | dK (kvs:List (Key × V)) | dT (kvs:List (List Key × V))
  | set (S:Int -> Bool) (n:Nat)
  | ins (C dx:Addr) (fs:List (Str × V))
  | own (x:Addr)
  | xd (fs:List (Str × V))
  | met (f x:Addr)
  | rng (lo hi:Int)
  | frz (o:Obj) (u:HO)
  | tbl (ps:Array Value)
  | ext (φ:Heap -> Prop)
abbrev Hp:=Addr -> Option HO
def upd (H:Hp) (a:Addr) (o:HO):Hp:=fun b=>if b = a then some o else H b
theorem upd_same {H:Hp} {a:Addr} {o:HO}:upd H a o a = some o:=by unfold upd; rw [if_pos rfl]
theorem upd_ne {H:Hp} {a b:Addr} {o:HO} (h:b ≠ a):upd H a o b = H b:=by unfold upd; rw [if_neg h]
theorem ne_of {H:Hp} {a b:Addr} {o u:HO} (h:H a = some o) (h':H b = some u) (d:o ≠ u):a ≠ b:=by
 intro e; subst e; rw [h] at h'; exact d (Option.some.inj h')
theorem ne_of_none {H:Hp} {a b:Addr} {o:HO} (h:H a = some o) (h':H b = none):a ≠ b:=by
 intro e; subst e; rw [h] at h'; cases h'
section
variable (P:Program) (w:World)
def ObjOk (H:Hp) (h:Heap) (a:Addr):HO -> Prop
 | .lst xs=>xs.length <= sizeLine /\ ∃ (its:List Value) (n:Nat),Vals xs its /\ h.get? a = some { cls:=.type "list",data:=.seq its.toArray n }
 | .tup xs=>xs.length <= sizeLine /\ ∃ its:List Value,Vals xs its /\ IsTup h a its.toArray
 | .dK kvs=>kvs.length <= sizeLine /\ (a == sysModules) = false /\ ∃ vs,KV kvs vs /\ h.DictOf (mixKind P w) a vs
 | .dT kvs=>kvs.length <= sizeLine /\ (a == sysModules) = false /\ ∃ xs:List (List Key × Addr × Value),
   Paired (fun (p:List Key × V) (q:List Key × Addr × Value)=>p.1 = q.1 /\ H q.2.1 = some (.tup (p.1.map kV)) /\ RelV p.2 q.2.2) kvs xs /\
   ∃ o es ep,h.get? a = some o /\ o.ExactDict /\ o.data = .dict es ep /\ es.toList = xs.map (entryOfKey (tupleKind (mixKind P w))) /\ (xs.map (·.1)).Nodup
 | .set S n=>h.SetOf (intKind P w) a S n
 | .ins C dx fs=>H dx = some (.own a) /\ fs.length <= 1000 /\ dx ≠ a /\ h.get? a = some (PySem.W.instObj C dx) /\
   ∃ mA,h.Ns1 dx mA /\ (∀ f,RelO (fs.lookup f) (mA f)) /\ PySem.Within mA (fs.map (·.1))
 | .own _=>∃ o,h.get? a = some o
 | .xd fs=>∃ mA,h.Ns1 a mA /\ ∀ f,RelO (fs.lookup f) (mA f)
 | .rng lo hi=>∃ t u v,h.get? a = some { cls:=.type "range",data:=.fields #[.int lo t,.int hi u,.int 1 v] }
 | .frz o u=>h.get? a = some o /\ ObjOk H h a u
 | .tbl ps=>h.get? a = some { cls:=.none,data:=.fields ps }
 | .met f x=>h.get? a = some (PySem.W.methodObj (.ref f) (.ref x))
 | .ext φ=>φ h /\ (∃ o,h.get? a = some o) /\ ∀ h1 h2:Heap,φ h1 -> (∀ o,h1.get? a = some o -> h2.get? a = some o) -> φ h2
def HOk (H:Hp) (h:Heap):Prop:=∀ a o,H a = some o -> ObjOk P w H h a o
end
section
variable {P:Program} {w:World} {H H':Hp} {h h':Heap} {a:Addr} {o:HO}
theorem ObjOk.lt (x:ObjOk P w H h a o):a < h.objs.size:=by
 cases o with
 | lst xs=>obtain ⟨_,_,_,_,e⟩:=x; exact Heap.lt_size e
 | tup xs=>obtain ⟨_,_,_,p⟩:=x; exact p.lt
 | dK kvs=>obtain ⟨_,_,_,_,o,_,_,e,_⟩:=x; exact Heap.lt_size e
 | dT kvs=>obtain ⟨_,_,_,_,o,_,_,e,_⟩:=x; exact Heap.lt_size e
 | set S n=>obtain ⟨o,_,_,_,e,_⟩:=x; exact Heap.lt_size e
 | ins C dx fs=>obtain ⟨_,_,_,e,_⟩:=x; exact Heap.lt_size e
 | own y=>obtain ⟨_,e⟩:=x; exact Heap.lt_size e
 | xd fs=>obtain ⟨_,⟨_,_,_,e,_⟩,_⟩:=x; exact Heap.lt_size e
 | rng lo hi=>obtain ⟨_,_,_,e⟩:=x; exact Heap.lt_size e
 | frz ob u=>obtain ⟨e,_⟩:=x; exact Heap.lt_size e
 | tbl ps=>exact Heap.lt_size (show h.get? a = some _ from x)
 | met f y=>exact Heap.lt_size (show h.get? a = some _ from x)
 | ext φ=>obtain ⟨_,⟨_,e⟩,_⟩:=x; exact Heap.lt_size e
theorem Paired.mapP {α β:Type} {F G:α -> β -> Prop}:∀ {l₁:List α} {l₂:List β},Paired F l₁ l₂ -> (∀ a b,F a b -> G a b) -> Paired G l₁ l₂
 | _,_,.nil,_=>.nil
 | _,_,.cons r t,f=>.cons (f _ _ r) (Paired.mapP t f)
theorem ObjOk.stay (x:ObjOk P w H h a o) (k:∀ b u,(b = a ∨ H b = some (.own a)) -> h.get? b = some u -> h'.get? b = some u)
  (ho:∀ b,H b = some (.own a) -> H' b = some (.own a)) (ht:∀ b xs,H b = some (.tup xs) -> H' b = some (.tup xs)):ObjOk P w H' h' a o:=by
 induction o with
 | lst xs=>obtain ⟨z,its,n,r,e⟩:=x; exact ⟨z,its,n,r,k _ _ (.inl rfl) e⟩
 | tup xs=>obtain ⟨z,its,r,ob,e,c⟩:=x; exact ⟨z,its,r,ob,k _ _ (.inl rfl) e,c⟩
 | dK kvs=>obtain ⟨z,y,vs,r,ob,es,ep,e,c⟩:=x; exact ⟨z,y,vs,r,ob,es,ep,k _ _ (.inl rfl) e,c⟩
 | dT kvs =>
  obtain ⟨z,y,xs,r,ob,es,ep,e,c⟩:=x
  exact ⟨z,y,xs,Paired.mapP r fun p q z=>⟨z.1,ht _ _ z.2.1,z.2.2⟩,ob,es,ep,k _ _ (.inl rfl) e,c⟩
 | set S n=>obtain ⟨ob,es,ep,t,e,c⟩:=x; exact ⟨ob,es,ep,t,k _ _ (.inl rfl) e,c⟩
 | ins C dx fs =>
  obtain ⟨d,z,ne,e,mA,⟨od,es,ep,e2,c⟩,r⟩:=x
  exact ⟨ho _ d,z,ne,k _ _ (.inl rfl) e,mA,⟨od,es,ep,k _ _ (.inr d) e2,c⟩,r⟩
 | own y=>obtain ⟨ob,e⟩:=x; exact ⟨ob,k _ _ (.inl rfl) e⟩
 | xd fs=>obtain ⟨mA,⟨od,es,ep,e,c⟩,r⟩:=x; exact ⟨mA,⟨od,es,ep,k _ _ (.inl rfl) e,c⟩,r⟩
 | rng lo hi=>obtain ⟨t,u,v,e⟩:=x; exact ⟨t,u,v,k _ _ (.inl rfl) e⟩
 | frz ob u ih=>obtain ⟨e,q⟩:=x; exact ⟨k _ _ (.inl rfl) e,ih q⟩
 | tbl ps =>
  have e:h.get? a = some { cls:=.none,data:=.fields ps }:=x
  show h'.get? a = some { cls:=.none,data:=.fields ps }
  exact k a _ (.inl rfl) e
 | met f y =>
  have e:h.get? a = some (PySem.W.methodObj (.ref f) (.ref y)):=x
  show h'.get? a = some (PySem.W.methodObj (.ref f) (.ref y))
  exact k a _ (.inl rfl) e
 | ext φ=>obtain ⟨p,⟨o,e⟩,st⟩:=x; exact ⟨st _ _ p fun o q=>k _ _ (.inl rfl) q,⟨o,k _ _ (.inl rfl) e⟩,st⟩
theorem HOk.lt (x:HOk P w H h) (e:H a = some o):a < h.objs.size:=(x a o e).lt
theorem HOk.fresh (x:HOk P w H h) (e:h.objs.size <= a):H a = none:=by
 cases q:H a with
 | none=>rfl
 | some u=>exact absurd (Nat.lt_of_lt_of_le (x.lt q) e) (Nat.lt_irrefl _)
theorem HOk.kept (x:HOk P w H h) (k:∀ b u,h.get? b = some u -> h'.get? b = some u):HOk P w H h':=fun a o e =>
 (x a o e).stay (fun b u _ q=>k b u q) (fun _ q=>q) fun _ _ q=>q
theorem HOk.laid (x:HOk P w H h) (k:∀ b u,h.get? b = some u -> h'.get? b = some u) (hp:h.objs.size <= a) (new:ObjOk P w (upd H a o) h' a o):HOk P w (upd H a o) h':=fun b u e=>by
 have hn:=x.fresh hp
 by_cases hb:b = a
 ·subst hb; rw [upd_same] at e; cases e; exact new
 ·rw [upd_ne hb] at e
  exact (x b u e).stay (fun c v _ q=>k c v q) (fun c q=>by rw [upd_ne (ne_of_none q hn)]; exact q) fun c xs q=>by rw [upd_ne (ne_of_none q hn)]; exact q
end
def Rd (H:Hp) (a:Addr) (u:HO):Prop:=H a = some u ∨ ∃ o,H a = some (.frz o u)
theorem Rd.of {H:Hp} {a:Addr} {u:HO} (h:H a = some u):Rd H a u:=.inl h
theorem Rd.ok {P:Program} {w:World} {H:Hp} {h:Heap} {a:Addr} {u:HO} (r:Rd H a u) (x:HOk P w H h):ObjOk P w H h a u:=by
 rcases r with r | ⟨o,r⟩
 ·exact x a u r
 ·obtain ⟨_,q⟩:=x a _ r
  exact q
def Mut:Option HO -> Prop
 | some (.lst _)=>True
 | some (.dK _)=>True
 | some (.dT _)=>True
 | some (.set _ _)=>True
 | some (.ins _ _ _)=>True
 | some (.ext _)=>True
 | _=>False
section
variable {P:Program} {w:World} {H:Hp} {h h':Heap} {x e:Addr} {o':HO}
theorem HOk.write (ok:HOk P w H h) (mu:Mut (H x)) (he:e = x ∨ H e = some (.own x)) (k:∀ b u,b ≠ e -> h.get? b = some u -> h'.get? b = some u) (heo:∃ u,h'.get? e = some u)
  (new:ObjOk P w (upd H x o') h' x o'):HOk P w (upd H x o') h':=fun b u q=>by
 have nown:∀ c y,H c = some (.own y) -> c ≠ x:=fun c y r z=>by subst z; rw [r] at mu; exact mu
 have ntup:∀ c xs,H c = some (.tup xs) -> c ≠ x:=fun c xs r z=>by subst z; rw [r] at mu; exact mu
 by_cases hb:b = x
 ·subst hb; rw [upd_same] at q; cases q; exact new
 ·rw [upd_ne hb] at q
  by_cases hbe:b = e
  ·have q':H b = some (.own x):=by
    rcases he with z | z
    ·exact absurd (hbe.trans z) hb
    ·rw [hbe]; exact z
   rw [q] at q'; cases q'
   obtain ⟨v,hv⟩:=heo
   exact ⟨v,by rw [hbe]; exact hv⟩
  ·refine (ok b u q).stay (fun c v hc r=>k c v ?_ r) (fun c r=>by rw [upd_ne (nown c b r)]; exact r) fun c xs r=>by rw [upd_ne (ntup c xs r)]; exact r
   rcases hc with rfl | hc
   ·exact hbe
   ·rintro rfl
    rcases he with z | z
    ·exact nown c b hc z
    ·rw [hc] at z; cases z; exact hb rfl
end
structure Un (fs ex:List Addr) (H H':Hp) (h h':Heap):Prop where
 keep:∀ b o,h.get? b = some o -> H b = none -> b ∉ fs -> b ∉ ex -> h'.get? b = some o
 slot:∀ b o,h.get? b = some o -> H b = none -> b ∈ fs -> b ∉ ex -> ∃ sl,h'.get? b = some { o with slots:=sl }
 free:∀ b o,h.get? b = some o -> H b = none -> b ∉ ex -> H' b = none
 there:∀ b o,h.get? b = some o -> b ∉ ex -> ∃ o',h'.get? b = some o'
 tups:∀ b xs,H b = some (.tup xs) -> H' b = some (.tup xs)
 frzs:∀ b o u,H b = some (.frz o u) -> H' b = some (.frz o u)
 tbls:∀ b ps,H b = some (.tbl ps) -> ∃ more,H' b = some (.tbl (ps ++ more))
section
variable {fs fs' ex ex':List Addr} {H H1 H2:Hp} {h h1 h2 h':Heap} {a x e:Addr} {o:HO}
theorem Un.any (u:Un fs ex H H1 h h1) {b:Addr} {ob:Obj} (q:h.get? b = some ob) (n:H b = none) (hx:b ∉ ex):∃ sl,h1.get? b = some { ob with slots:=sl }:=by
 by_cases hb:b ∈ fs
 ·exact u.slot b ob q n hb hx
 ·exact ⟨ob.slots,u.keep b ob q n hb hx⟩
theorem Un.trans (a:Un fs ex H H1 h h1) (b:Un fs ex H1 H2 h1 h2):Un fs ex H H2 h h2 where
 keep:=fun c ob q n hc hx=>b.keep c ob (a.keep c ob q n hc hx) (a.free c ob q n hx) hc hx
 slot:=fun c ob q n hc hx=>by
  obtain ⟨sl,e1⟩:=a.slot c ob q n hc hx
  obtain ⟨sl',e2⟩:=b.slot c _ e1 (a.free c ob q n hx) hc hx
  exact ⟨sl',e2⟩
 free:=fun c ob q n hx=>by
  obtain ⟨o',e1⟩:=a.there c ob q hx
  exact b.free c o' e1 (a.free c ob q n hx) hx
 there:=fun c ob q hx=>by
  obtain ⟨o',e1⟩:=a.there c ob q hx
  exact b.there c o' e1 hx
 tups:=fun c xs q=>b.tups c xs (a.tups c xs q)
 frzs:=fun c ob xs q=>b.frzs c ob xs (a.frzs c ob xs q)
 tbls:=fun c ps q=>by
  obtain ⟨m1,e1⟩:=a.tbls c ps q
  obtain ⟨m2,e2⟩:=b.tbls c _ e1
  exact ⟨m1 ++ m2,by rw [e2,Array.append_assoc]⟩
theorem Un.kept (k:∀ b u,h.get? b = some u -> h'.get? b = some u):Un fs ex H H h h' :=
 ⟨fun b ob q _ _ _=>k b ob q,fun b ob q _ _ _=>⟨ob.slots,k b ob q⟩,fun _ _ _ n _=>n,fun b ob q _=>⟨ob,k b ob q⟩,fun _ _ q=>q,fun _ _ _ q=>q,fun _ ps q=>⟨#[],by rw [q]; simp⟩⟩
theorem Un.refl:Un fs ex H H h h:=Un.kept fun _ _ q=>q
theorem Un.laid (k:∀ b u,h.get? b = some u -> h'.get? b = some u) (hp:h.objs.size <= a) (hn:H a = none):Un fs ex H (upd H a o) h h' where
 keep:=fun b u q _ _ _=>k b u q
 slot:=fun b u q _ _ _=>⟨u.slots,k b u q⟩
 free:=fun b u q n _=>by rw [upd_ne (Nat.ne_of_lt (Nat.lt_of_lt_of_le (Heap.lt_size q) hp))]; exact n
 there:=fun b u q _=>⟨u,k b u q⟩
 tups:=fun b xs q=>by rw [upd_ne (ne_of_none q hn)]; exact q
 frzs:=fun b u xs q=>by rw [upd_ne (ne_of_none q hn)]; exact q
 tbls:=fun b ps q=>⟨#[],by rw [upd_ne (ne_of_none q hn),q]; simp⟩
theorem Un.write (mu:Mut (H x)) (he:e = x ∨ H e = some (.own x)) (k:∀ b u,b ≠ e -> h.get? b = some u -> h'.get? b = some u) (heo:∃ u,h'.get? e = some u):Un fs ex H (upd H x o) h h':=by
 have hx:∀ b,H b = none -> b ≠ x:=fun b n z=>by subst z; rw [n] at mu; exact mu
 have hb:∀ b,H b = none -> b ≠ e:=fun b n z=>by
  subst z
  rcases he with r | r
  ·exact hx b n r
  ·rw [n] at r; cases r
 have hm:∀ b u,H b = some u -> ¬ Mut (some u) -> b ≠ x:=fun b u q nm z=>by subst z; rw [q] at mu; exact nm mu
 refine ⟨fun b u q n _ _=>k b u (hb b n) q,fun b u q n _ _=>⟨u.slots,k b u (hb b n) q⟩,fun b u q n _=>by rw [upd_ne (hx b n)]; exact n,fun b u q _=>?_,
  fun b xs q=>by rw [upd_ne (hm b _ q fun z=>z)]; exact q,fun b u xs q=>by rw [upd_ne (hm b _ q fun z=>z)]; exact q,fun b ps q=>⟨#[],by rw [upd_ne (hm b _ q fun z=>z),q]; simp⟩⟩
 by_cases hbe:b = e
 ·subst hbe; exact heo
 ·exact ⟨u,k b u hbe q⟩
theorem Un.mono (u:Un fs ex H H1 h h1) (hs:∀ b ∈ fs,b ∈ fs') (hx:∀ b ∈ ex,b ∈ ex'):Un fs' ex' H H1 h h1 :=
 ⟨fun b ob q n hb he=>u.keep b ob q n (fun z=>hb (hs b z)) fun z=>he (hx b z),fun _ _ q n _ he=>u.any q n fun z=>he (hx _ z),fun b ob q n he=>u.free b ob q n fun z=>he (hx b z),fun b ob q he=>u.there b ob q fun z=>he (hx b z),u.tups,u.frzs,u.tbls⟩
end
def trk (h:Heap) (H:Hp):List Addr:=(List.range h.objs.size).filter fun a=>(H a).isSome
def hidT (h:Heap) (H:Hp):Heap:=PySem.W.hideAll h (trk h H)
theorem hidT_size (h:Heap) (H:Hp):(hidT h H).objs.size = h.objs.size:=PySem.W.hideAll_size _ _
theorem hidT_get {h:Heap} {H:Hp} {b:Addr} {o:Obj} (e:h.get? b = some o) (n:H b = none):(hidT h H).get? b = some o :=
 PySem.W.hideAll_get _ e fun hm=>by
  have q:(H b).isSome = true:=(List.mem_filter.mp hm).2
  rw [n] at q; simp at q
theorem of_hidT {h:Heap} {H:Hp} {b:Addr} {o:Obj} (e:(hidT h H).get? b = some o):h.get? b = some o /\ H b = none:=by
 have e':h.get? b = some o:=PySem.W.of_hideAll (trk h H) e
 refine ⟨e',?_⟩
 cases q:H b with
 | none=>rfl
 | some x =>
  have hm:b ∈ trk h H:=List.mem_filter.mpr ⟨List.mem_range.mpr (Heap.lt_size e'),by simp [q]⟩
  have z:(hidT h H).get? b = none:=PySem.W.hideAll_none (trk h H) hm
  rw [z] at e; cases e
def allNews (g h:Heap) (L:Addr):List (Addr × Obj):=(List.range h.objs.size).filterMap fun a=>if a = L ∨ (g.get? a).isSome = true then none else (h.get? a).map fun o=>(a,o)
def rest (g h:Heap) (L d:Addr):List (Addr × Obj):=(allNews g h L).filter fun p=>decide (p.1 ≠ d)
end L2
namespace L2
open PySem PySem.Spec PyProof.Rows
structure Mod (K:PySem.W.Frag) (mg:Str -> Option Value) (base:Heap):Prop where
 kin:K.In base
 glob:base.Ns mainGlobals mg
 blt:∃ mb,base.Ns builtinsNs mb /\ ∀ x:Str,x ≠ "__name__" -> mb x = bootBuiltins x
 nolimit:base.NoLimit
structure Cx where
 prog:Program
 w:World
 K:PySem.W.Frag
 mg:Str -> Option Value
 base:Heap
 A:Around
 N:List Str
 s₀:Shared
 H₀:Hp
 env:Env
 outer:List Env
 stack:List Env
 ex:List Addr
 fn:Str -> Bool
 calm:Bool
 pn:List (Addr × Obj)
 xe:Value -> Shared -> Prop
def frs (l:List Env):List Addr:=l.filterMap (·.frame)
abbrev Cx.fs (X:Cx):List Addr:=frs X.outer
def Vis (sc:Scope) (x:Str):Prop:=sc.names.lookup x = some .local ∨ sc.names.lookup x = some .cell ∨ sc.names.lookup x = some .free
def Loc (sc:Scope) (x:Str):Prop:=sc.names.lookup x = some .local ∨ sc.names.lookup x = some .cell
def Look (env:Env) (h:Heap) (m:Str -> Option Value) (x:Str) (u:Value):Prop :=
 (env.kindOf x = some .local /\ m x = some u) ∨ ((env.kindOf x = some .cell ∨ env.kindOf x = some .free) /\ ∃ c,env.cells.lookup x = some c /\ h.IsCell c (some u))
structure Cx.Ok (X:Cx):Prop where
 mod:Mod X.K X.mg X.base
 kind:X.env.scope.kind = .function
 glob:X.env.globals = mainGlobals
 blt:X.env.builtins = builtinsNs
 above:X.s₀.heap.objs.size <= X.env.locals
 inj:∀ x y c,X.env.cells.lookup x = some c -> X.env.cells.lookup y = some c -> x = y
 has:∀ x,(X.env.kindOf x = some .cell ∨ X.env.kindOf x = some .free) -> ∃ c,X.env.cells.lookup x = some c
 cab:∀ x c,X.fn x = true -> X.env.cells.lookup x = some c -> X.s₀.heap.objs.size <= c
 hd:X.calm = true -> X.A.handled = none
 frames:X.A.frames = some X.stack
 stk:X.stack = X.outer ∨ (X.stack = X.env :: X.outer /\ X.env.frame = some X.env.locals)
 exf:∀ b ∈ X.ex,b ≠ X.env.locals /\ ∀ x c,X.env.cells.lookup x = some c -> c ≠ b
 bs:∀ b o,X.base.get? b = some o -> X.s₀.heap.get? b = some o /\ X.H₀ b = none
 bsz:X.base.objs.size <= X.s₀.heap.objs.size
 noex:∀ b o,X.base.get? b = some o -> b ∉ X.ex
 exfs:∀ b ∈ X.ex,b ∉ X.fs
 funs:X.s₀.heap.FunFrames X.base X.outer
 frf:∀ b ∈ X.fs,X.H₀ b = none
structure Inv (X:Cx) (pins:List (Addr × Obj)) (σ:List (Option V)) (H:Hp) (s:Shared):Prop where
 ok:X.Ok
 os:s.os = X.s₀.os
 bare:AllBare s.gens
 base:Un X.fs X.ex X.H₀ H X.s₀.heap s.heap
 loc:∃ m,s.heap.Ns X.env.locals m /\ ∀ (i:Nat) (x:Str) (v:V),X.N[i]? = some x -> σ[i]? = some (some v) -> Vis X.env.scope x -> ∃ u,RelV v u /\ Look X.env s.heap m x u
 cell:∀ x c,X.env.cells.lookup x = some c -> ∃ v,s.heap.IsCell c v
 free:H X.env.locals = none
 freeC:∀ x c,X.env.cells.lookup x = some c -> H c = none
 pin:∀ p ∈ X.pn ++ pins,s.heap.get? p.1 = some p.2 /\ H p.1 = none /\ p.1 ≠ X.env.locals /\ p.1 ∉ X.fs /\ ∀ v,p.2.data ≠ .cell v
 hok:HOk X.prog X.w H s.heap
 len:σ.length = X.N.length
section
variable {X:Cx} {pins:List (Addr × Obj)} {σ:List (Option V)} {H H':Hp} {s:Shared} {h':Heap}
theorem Cx.Ok.nofr (ok:X.Ok) {b:Addr} {o:Obj} (e:X.base.get? b = some o):b ∉ X.fs:=fun hb=>by
 have:=(ok.funs.mem hb).1
 rw [e] at this; cases this
theorem Inv.bs (I:Inv X pins σ H s):∀ b o,X.base.get? b = some o -> s.heap.get? b = some o /\ H b = none:=fun b o e =>
 ⟨I.base.keep b o (I.ok.bs b o e).1 (I.ok.bs b o e).2 (I.ok.nofr e) (I.ok.noex b o e),I.base.free b o (I.ok.bs b o e).1 (I.ok.bs b o e).2 (I.ok.noex b o e)⟩
theorem Inv.bk (I:Inv X pins σ H s):∀ b o,X.base.get? b = some o -> s.heap.get? b = some o:=fun b o e=>(I.bs b o e).1
theorem Inv.mod (I:Inv X pins σ H s):Mod X.K X.mg X.base:=I.ok.mod
theorem Inv.kIn (I:Inv X pins σ H s):X.K.In s.heap:=I.ok.mod.kin.keeps I.bk
theorem Inv.nolimit (I:Inv X pins σ H s):s.heap.NoLimit:=I.ok.mod.nolimit.keeps I.bk
theorem Inv.fr (I:Inv X pins σ H s):∃ m,Fr X.base X.env.locals s.heap m :=
 let ⟨m,hn,_⟩:=I.loc
 ⟨m,hn,I.bk,Nat.le_trans I.ok.bsz I.ok.above⟩
theorem Inv.lt (I:Inv X pins σ H s):X.env.locals < s.heap.objs.size:=let ⟨_,hn,_⟩:=I.loc; hn.lt
theorem Inv.sz (I:Inv X pins σ H s):X.s₀.heap.objs.size <= s.heap.objs.size:=Nat.le_trans I.ok.above (Nat.le_of_lt I.lt)
theorem Inv.nofs (I:Inv X pins σ H s) {a:Addr} (h:s.heap.objs.size <= a):a ∉ X.fs:=fun hb=>by
 obtain ⟨_,o,ho,_⟩:=I.ok.funs.mem hb
 exact absurd (Nat.lt_of_lt_of_le (Heap.lt_size ho) (Nat.le_trans I.sz h)) (Nat.lt_irrefl _)
theorem Inv.cne (I:Inv X pins σ H s):∀ x c,X.env.cells.lookup x = some c -> c ≠ X.env.locals:=fun x c e z=>by
 obtain ⟨v,o,ho,hd⟩:=I.cell x c e
 obtain ⟨m,⟨o',es,ep,ho',hd',_⟩,_⟩:=I.loc
 rw [z,ho'] at ho; cases ho; rw [hd'] at hd; cases hd
theorem Inv.funs (I:Inv X pins σ H s):s.heap.FunFrames X.base X.outer:=by
 have all:∀ (l:List Env),(∀ b ∈ frs l,b ∈ X.fs) -> X.s₀.heap.FunFrames X.base l -> s.heap.FunFrames X.base l:=by
  intro l
  induction l with
  | nil=>intro _ _; trivial
  | cons env r ih =>
   intro hs hl
   obtain ⟨hk,⟨L,o,hf,hn,ho,hd⟩,hr⟩:=hl
   have hL:L ∈ X.fs:=hs L (by unfold frs; rw [List.filterMap_cons,hf]; exact List.mem_cons_self)
   obtain ⟨sl,e⟩:=I.base.slot L o ho (I.ok.frf L hL) hL fun z=>I.ok.exfs L z hL
   exact ⟨hk,⟨L,_,hf,hn,e,hd⟩,ih (fun b hb=>hs b (by unfold frs; rw [List.filterMap_cons,hf]; exact List.mem_cons_of_mem _ hb)) hr⟩
 exact all X.outer (fun _ hb=>hb) I.ok.funs
theorem Inv.stack (I:Inv X pins σ H s):s.heap.FunFrames X.base X.stack:=by
 rcases I.ok.stk with e | ⟨e,hf⟩
 ·rw [e]; exact I.funs
 ·rw [e]
  obtain ⟨m,hn,_⟩:=I.loc
  refine .cons (by rw [I.ok.kind]; decide) hf hn ?_ I.funs
  exact Heap.get?_none_of_le (Nat.le_trans I.ok.bsz I.ok.above)
theorem Inv.stkSub (I:Inv X pins σ H s):∀ b ∈ frs X.stack,b ∈ X.env.locals :: X.fs:=fun b hb=>by
 rcases I.ok.stk with e | ⟨e,hf⟩
 ·rw [e] at hb; exact List.mem_cons_of_mem _ hb
 ·rw [e] at hb
  unfold frs at hb
  rw [List.filterMap_cons,hf] at hb
  exact hb
theorem Inv.stkFree (I:Inv X pins σ H s):∀ b ∈ frs X.stack,H b = none:=fun b hb=>by
 rcases List.mem_cons.mp (I.stkSub b hb) with e | hb
 ·rw [e]; exact I.free
 ·obtain ⟨_,o,ho,_⟩:=I.ok.funs.mem hb
  exact I.base.free b o ho (I.ok.frf b hb) fun z=>I.ok.exfs b z hb
theorem Inv.step {g':Array GenState} {t':Nat} {d':Drawn} {ch:List Addr} (I:Inv X pins σ H s)
  (hch:∀ b ∈ ch,(b ∈ X.ex ∨ X.s₀.heap.objs.size <= b) /\ b ≠ X.env.locals /\ (∀ x c,X.env.cells.lookup x = some c -> c ≠ b) /\ ∀ p ∈ X.pn ++ pins,p.1 ≠ b)
  (keep:∀ b o,b ≠ X.env.locals -> b ∉ X.fs -> b ∉ ch -> s.heap.get? b = some o -> H b = none -> h'.get? b = some o)
  (slot:∀ b o,b ≠ X.env.locals -> b ∈ X.fs -> b ∉ ch -> s.heap.get? b = some o -> H b = none -> ∃ sl,h'.get? b = some { o with slots:=sl }) (free:∀ b o,b ∉ ch -> s.heap.get? b = some o -> H b = none -> H' b = none)
  (there:∀ b o,b ∉ ch -> s.heap.get? b = some o -> ∃ o',h'.get? b = some o')
  (tups:∀ b xs,H b = some (.tup xs) -> H' b = some (.tup xs)) (frzs:∀ b o u,H b = some (.frz o u) -> H' b = some (.frz o u)) (tbls:∀ b ps,H b = some (.tbl ps) -> ∃ more,H' b = some (.tbl (ps ++ more)))
  (ns:∀ m,s.heap.Ns X.env.locals m -> h'.Ns X.env.locals m) (hok:HOk X.prog X.w H' h') (hg:AllBare g') :
  Inv X pins σ H' { s with heap:=h',gens:=g',drawn:=d',toks:=t' }:=by
 have neL:∀ b o,X.s₀.heap.get? b = some o -> b ≠ X.env.locals:=fun b o e=>Nat.ne_of_lt (Nat.lt_of_lt_of_le (Heap.lt_size e) I.ok.above)
 have neC:∀ b o,X.s₀.heap.get? b = some o -> b ∉ X.ex -> b ∉ ch:=fun b o e hx hb=>by
  rcases (hch b hb).1 with z | z
  ·exact hx z
  ·exact absurd (Nat.lt_of_lt_of_le (Heap.lt_size e) z) (Nat.lt_irrefl _)
 have cellK:∀ x c,X.env.cells.lookup x = some c -> ∀ v,s.heap.IsCell c v -> h'.IsCell c v:=fun x c e v ⟨o,ho,hd⟩=>by
  have nch:c ∉ ch:=fun z=>(hch c z).2.2.1 x c e rfl
  by_cases hc:c ∈ X.fs
  ·obtain ⟨sl,q⟩:=slot c o (I.cne x c e) hc nch ho (I.freeC x c e)
   exact ⟨_,q,hd⟩
  ·exact ⟨o,keep c o (I.cne x c e) hc nch ho (I.freeC x c e),hd⟩
 refine ⟨I.ok,I.os,hg,⟨fun b o e n hb hx=>?_,fun b o e n hb hx=>?_,fun b o e n hx=>?_,fun b o e hx=>?_,fun b xs e=>tups b xs (I.base.tups b xs e),fun b o xs e=>frzs b o xs (I.base.frzs b o xs e),fun b ps e=>?_⟩,?_,fun x c e=>?_,?_,fun x c e=>?_,fun p hp=>?_,hok,I.len⟩
 ·exact keep b o (neL b o e) hb (neC b o e hx) (I.base.keep b o e n hb hx) (I.base.free b o e n hx)
 ·obtain ⟨sl,e1⟩:=I.base.slot b o e n hb hx
  obtain ⟨sl',e2⟩:=slot b _ (neL b o e) hb (neC b o e hx) e1 (I.base.free b o e n hx)
  exact ⟨sl',e2⟩
 ·obtain ⟨o',e1⟩:=I.base.there b o e hx
  exact free b o' (neC b o e hx) e1 (I.base.free b o e n hx)
 ·obtain ⟨o',e1⟩:=I.base.there b o e hx
  exact there b o' (neC b o e hx) e1
 ·obtain ⟨m1,e1⟩:=I.base.tbls b ps e
  obtain ⟨m2,e2⟩:=tbls b _ e1
  exact ⟨m1 ++ m2,by rw [e2,Array.append_assoc]⟩
 ·obtain ⟨m,hn,hl⟩:=I.loc
  refine ⟨m,ns m hn,fun i x v e1 e2 e3=>?_⟩
  obtain ⟨u,r,l⟩:=hl i x v e1 e2 e3
  refine ⟨u,r,?_⟩
  rcases l with l | ⟨k,c,e,z⟩
  ·exact .inl l
  ·exact .inr ⟨k,c,e,cellK x c e _ z⟩
 ·obtain ⟨v,z⟩:=I.cell x c e
  exact ⟨v,cellK x c e v z⟩
 ·obtain ⟨m,⟨o,_,_,ho,_⟩,_⟩:=I.loc
  exact free _ o (fun z=>(hch _ z).2.1 rfl) ho I.free
 ·obtain ⟨v,o,ho,hd⟩:=I.cell x c e
  exact free c o (fun z=>(hch c z).2.2.1 x c e rfl) ho (I.freeC x c e)
 ·obtain ⟨e,n,ne,nf,d⟩:=I.pin p hp
  have nch:p.1 ∉ ch:=fun z=>(hch p.1 z).2.2.2 p hp rfl
  exact ⟨keep p.1 p.2 ne nf nch e n,free p.1 p.2 nch e n,ne,nf,d⟩
theorem Inv.un {t':Nat} (I:Inv X pins σ H s) (u:Un X.fs [] H H' s.heap h') (hok:HOk X.prog X.w H' h'):Inv X pins σ H' { s with heap:=h',toks:=t' }:=by
 obtain ⟨m,⟨o,es,ep,ho,r⟩,_⟩:=id I.loc
 obtain ⟨sl,hL⟩:=u.any ho I.free (by simp)
 exact I.step (g':=s.gens) (d':=s.drawn) (ch:=[]) (fun _ z=>nomatch z) (fun b o _ hb _ e n=>u.keep b o e n hb (by simp)) (fun b o _ hb _ e n=>u.slot b o e n hb (by simp)) (fun b o _ e n=>u.free b o e n (by simp)) (fun b o _ e=>u.there b o e (by simp)) u.tups u.frzs u.tbls (fun m' hm=>by
  obtain ⟨o',es',ep',ho',r'⟩:=hm
  rw [ho] at ho'; cases ho'
  exact ⟨_,es',ep',hL,r'⟩) hok I.bare
theorem Inv.call {g':Array GenState} {t':Nat} {d':Drawn} {ch:List Addr} (I:Inv X pins σ H s) (u:Un (frs X.stack) ch H H' s.heap h') (hok:HOk X.prog X.w H' h') (hg:AllBare g')
  (hch:∀ b ∈ ch,(b ∈ X.ex ∨ X.s₀.heap.objs.size <= b) /\ b ≠ X.env.locals /\ (∀ x c,X.env.cells.lookup x = some c -> c ≠ b) /\ ∀ p ∈ X.pn ++ pins,p.1 ≠ b) :
  Inv X pins σ H' { s with heap:=h',gens:=g',drawn:=d',toks:=t' }:=by
 obtain ⟨m,⟨o,es,ep,ho,r⟩,_⟩:=id I.loc
 obtain ⟨sl,hL⟩:=u.any ho I.free fun z=>(hch _ z).2.1 rfl
 exact I.step (ch:=ch) hch (fun b o hL hb hc e n=>u.keep b o e n (fun z=>(List.mem_cons.mp (I.stkSub b z)).elim hL hb) hc) (fun b o _ _ hc e n=>u.any e n hc) (fun b o hc e n=>u.free b o e n hc) (fun b o hc e=>u.there b o e hc) u.tups u.frzs u.tbls (fun m' hm=>by
  obtain ⟨o',es',ep',ho',r'⟩:=hm
  rw [ho] at ho'; cases ho'
  exact ⟨_,es',ep',hL,r'⟩) hok hg
theorem Inv.turned {t':Nat} {it:Addr} (I:Inv X pins σ H s) (k:∀ b o,b ≠ it -> s.heap.get? b = some o -> h'.get? b = some o) (hn:H it = none) (hL:it ≠ X.env.locals)
  (h1:it ∈ X.ex ∨ X.s₀.heap.objs.size <= it) (h2:∀ x c,X.env.cells.lookup x = some c -> c ≠ it) (h3:∀ p ∈ X.pn ++ pins,p.1 ≠ it):Inv X pins σ H { s with heap:=h',toks:=t' }:=by
 have nit:∀ b u,H b = some u -> b ≠ it:=fun b u e z=>by rw [z,hn] at e; cases e
 refine I.step (g':=s.gens) (d':=s.drawn) (ch:=[it]) (fun b hb=>?_) (fun b o _ _ hc e _=>k b o (fun z=>hc (by simp [z])) e) (fun b o _ _ hc e _=>⟨o.slots,k b o (fun z=>hc (by simp [z])) e⟩) (fun _ _ _ _ n=>n)
  (fun b o hc e=>⟨o,k b o (fun z=>hc (by simp [z])) e⟩) (fun _ _ e=>e) (fun _ _ _ e=>e) (fun b ps e=>⟨#[],by rw [e]; simp⟩) (fun m hm=>?_) (fun b u e=>?_) I.bare
 ·have e:b = it:=by simpa using hb
  subst e
  exact ⟨h1,hL,h2,h3⟩
 ·obtain ⟨o,es,ep,ho,r⟩:=hm
  exact ⟨o,es,ep,k _ o (Ne.symm hL) ho,r⟩
 ·refine (I.hok b u e).stay (fun c v hc q=>k c v ?_ q) (fun _ q=>q) fun _ _ q=>q
  rcases hc with z | z
  ·rw [z]; exact nit b u e
  ·exact nit c _ z
theorem Inv.tok (I:Inv X pins σ H s) (t:Nat):Inv X pins σ H { s with toks:=t }:=I.un (h':=s.heap) (t':=t) Un.refl I.hok
theorem Inv.kept {t':Nat} (I:Inv X pins σ H s) (k:∀ b u,s.heap.get? b = some u -> h'.get? b = some u):Inv X pins σ H { s with heap:=h',toks:=t' }:=I.un (Un.kept k) (I.hok.kept k)
theorem Inv.laid {a:Addr} {o:HO} {t':Nat} (I:Inv X pins σ H s) (k:∀ b u,s.heap.get? b = some u -> h'.get? b = some u) (hp:s.heap.objs.size <= a) (new:ObjOk X.prog X.w (upd H a o) h' a o) :
  Inv X pins σ (upd H a o) { s with heap:=h',toks:=t' }:=I.un (Un.laid k hp (I.hok.fresh hp)) (I.hok.laid k hp new)
theorem Inv.write {x e:Addr} {o:HO} {t':Nat} (I:Inv X pins σ H s) (mu:Mut (H x)) (he:e = x ∨ H e = some (.own x)) (k:∀ b u,b ≠ e -> s.heap.get? b = some u -> h'.get? b = some u) (heo:∃ u,h'.get? e = some u)
  (new:ObjOk X.prog X.w (upd H x o) h' x o):Inv X pins σ (upd H x o) { s with heap:=h',toks:=t' }:=I.un (Un.write mu he k heo) (I.hok.write mu he k heo new)
theorem Inv.pins_of {pins':List (Addr × Obj)} (I:Inv X pins σ H s) (h:∀ p ∈ pins',s.heap.get? p.1 = some p.2 /\ H p.1 = none /\ p.1 ≠ X.env.locals /\ p.1 ∉ X.fs /\ ∀ v,p.2.data ≠ .cell v):Inv X pins' σ H s :=
 ⟨I.ok,I.os,I.bare,I.base,I.loc,I.cell,I.free,I.freeC,fun p hp=>(List.mem_append.mp hp).elim (fun z=>I.pin p (List.mem_append_left _ z)) (h p),I.hok,I.len⟩
theorem nodup_ix {N:List Str} (hN:N.Nodup) {i j:Nat} {x:Str} (a:N[i]? = some x) (b:N[j]? = some x):i = j:=by
 obtain ⟨h1,e1⟩:=List.getElem?_eq_some_iff.mp a
 obtain ⟨h2,e2⟩:=List.getElem?_eq_some_iff.mp b
 exact (List.getElem_inj hN).mp (e1.trans e2.symm)
theorem store_ok2 {M:Model} {A:Around} {E:Value -> Shared -> Prop} {i:Nat} {x:Str} {v:V} {u:Value} {Q:Unit -> Shared -> Prop} (I:Inv X pins σ H s) (hN:X.N.Nodup) (hi:X.N[i]? = some x) (hx:Loc X.env.scope x) (r:RelV v u)
  (h:∀ s',Inv X pins (σ.set i (some v)) H s' -> (∃ a,Heap.SameBut a s.heap s'.heap /\ (a = X.env.locals ∨ X.env.cells.lookup x = some a)) -> Q () s') (hf:X.fn x = true ∨ X.env.scope.names.lookup x = some .local:=by first | exact .inl rfl | exact .inr rfl | assumption):wpAny M A (storeName X.env x u) Q E s:=by
 obtain ⟨m,hn,hl⟩:=id I.loc
 have hcls:(X.env.scope.kind == .class || (X.env.scope.kind == .module && X.env.locals != X.env.globals)) = false:=by rw [I.ok.kind]; rfl
 have hiσ:i < σ.length:=by rw [I.len]; exact (List.getElem?_eq_some_iff.mp hi).1
 have cne:=I.cne
 have tracked:∀ {a:Addr} {h':Heap},(∃ o,s.heap.get? a = some o /\ H a = none) -> Heap.SameBut a s.heap h' -> HOk X.prog X.w H h':=fun {a h'} ha hs b ob e=>by
  obtain ⟨_,_,hfree⟩:=ha
  refine (I.hok b ob e).stay (fun c w' hc q=>(hs.2 c ?_).trans q) (fun _ q=>q) fun _ _ q=>q
  rintro rfl
  rcases hc with rfl | hc
  ·rw [hfree] at e; cases e
  ·rw [hfree] at hc; cases hc
 rcases hx with hk | hk
 ·refine wpAny_storeName_local hk hn (fun h' hn' hs=>?_) hcls
  obtain ⟨oL,_,_,hoL,_⟩:=id hn
  refine h _ ⟨I.ok,I.os,I.bare,⟨fun b o e n hb hx=>?_,fun b o e n hb hx=>?_,I.base.free,fun b o e hx=>?_,I.base.tups,I.base.frzs,I.base.tbls⟩,⟨_,hn',fun j y v' e1 e2 e3=>?_⟩,fun y c e=>?_,I.free,I.freeC,fun p hp=>?_,tracked ⟨oL,hoL,I.free⟩ hs,by simpa using I.len⟩ ⟨_,hs,.inl rfl⟩
  ·exact (hs.2 b (Nat.ne_of_lt (Nat.lt_of_lt_of_le (Heap.lt_size e) I.ok.above))).trans (I.base.keep b o e n hb hx)
  ·obtain ⟨sl,e1⟩:=I.base.slot b o e n hb hx
   exact ⟨sl,(hs.2 b (Nat.ne_of_lt (Nat.lt_of_lt_of_le (Heap.lt_size e) I.ok.above))).trans e1⟩
  ·obtain ⟨o',e1⟩:=I.base.there b o e hx
   exact ⟨o',(hs.2 b (Nat.ne_of_lt (Nat.lt_of_lt_of_le (Heap.lt_size e) I.ok.above))).trans e1⟩
  ·by_cases hj:j = i
   ·subst hj
    rw [hi] at e1; cases e1
    rw [List.getElem?_set_self hiσ] at e2
    cases e2
    exact ⟨u,r,.inl ⟨hk,by simp⟩⟩
   ·rw [List.getElem?_set_ne (Ne.symm hj)] at e2
    obtain ⟨u',r',q⟩:=hl j y v' e1 e2 e3
    refine ⟨u',r',?_⟩
    rcases q with ⟨k,e⟩ | ⟨k,c,e,z⟩
    ·refine .inl ⟨k,?_⟩
     have:y ≠ x:=fun e=>hj (nodup_ix hN e1 (e ▸ hi))
     simp [this,e]
    ·exact .inr ⟨k,c,e,z.sameBut hs (cne y c e)⟩
  ·obtain ⟨w',z⟩:=I.cell y c e
   exact ⟨w',z.sameBut hs (cne y c e)⟩
  ·obtain ⟨e,n,ne,nf,d⟩:=I.pin p hp
   exact ⟨(hs.2 p.1 ne).trans e,n,ne,nf,d⟩
 ·have hfn:X.fn x = true:=by
   rcases hf with z | z
   ·exact z
   ·rw [z] at hk; cases hk
  obtain ⟨c,hc⟩:=I.ok.has x (.inl hk)
  obtain ⟨w',z⟩:=I.cell x c hc
  refine wpAny_storeName_cell I.ok.kind hk hc z (fun h' hc' hs=>?_)
  obtain ⟨oc,hoc,hocd⟩:=id z
  refine h { s with heap:=h' } ⟨I.ok,I.os,I.bare,⟨fun b o e n hb hx=>?_,fun b o e n hb hx=>?_,I.base.free,fun b o e hx=>?_,I.base.tups,I.base.frzs,I.base.tbls⟩,⟨m,hn.sameBut hs (Ne.symm (cne x c hc)),fun j y v' e1 e2 e3=>?_⟩,fun y c' e=>?_,I.free,I.freeC,fun p hp=>?_,tracked ⟨oc,hoc,I.freeC x c hc⟩ hs,by simpa using I.len⟩ ⟨c,hs,.inr hc⟩
  ·exact (hs.2 b (Nat.ne_of_lt (Nat.lt_of_lt_of_le (Heap.lt_size e) (I.ok.cab x c hfn hc)))).trans (I.base.keep b o e n hb hx)
  ·obtain ⟨sl,e1⟩:=I.base.slot b o e n hb hx
   exact ⟨sl,(hs.2 b (Nat.ne_of_lt (Nat.lt_of_lt_of_le (Heap.lt_size e) (I.ok.cab x c hfn hc)))).trans e1⟩
  ·obtain ⟨o',e1⟩:=I.base.there b o e hx
   exact ⟨o',(hs.2 b (Nat.ne_of_lt (Nat.lt_of_lt_of_le (Heap.lt_size e) (I.ok.cab x c hfn hc)))).trans e1⟩
  ·by_cases hj:j = i
   ·subst hj
    rw [hi] at e1; cases e1
    rw [List.getElem?_set_self hiσ] at e2
    cases e2
    exact ⟨u,r,.inr ⟨.inl hk,c,hc,hc'⟩⟩
   ·rw [List.getElem?_set_ne (Ne.symm hj)] at e2
    obtain ⟨u',r',q⟩:=hl j y v' e1 e2 e3
    refine ⟨u',r',?_⟩
    rcases q with q | ⟨k,c',e,z'⟩
    ·exact .inl q
    ·refine .inr ⟨k,c',e,z'.sameBut hs ?_⟩
     rintro rfl
     exact hj (nodup_ix hN e1 (I.ok.inj _ _ _ e hc ▸ hi))
  ·by_cases hcc:c' = c
   ·subst hcc; exact ⟨_,hc'⟩
   ·obtain ⟨w2,z2⟩:=I.cell y c' e
    exact ⟨w2,z2.sameBut hs hcc⟩
  ·obtain ⟨e,n,ne,nf,d⟩:=I.pin p hp
   refine ⟨(hs.2 p.1 ?_).trans e,n,ne,nf,d⟩
   intro q
   rw [q,hoc] at e
   have q':oc = p.2:=Option.some.inj e
   exact d w' (by rw [← q']; exact hocd)
theorem store_ok {M:Model} {A:Around} {E:Value -> Shared -> Prop} {i:Nat} {x:Str} {v:V} {u:Value} {Q:Unit -> Shared -> Prop} (I:Inv X pins σ H s) (hN:X.N.Nodup) (hi:X.N[i]? = some x) (hx:Loc X.env.scope x) (r:RelV v u)
  (h:∀ s',Inv X pins (σ.set i (some v)) H s' -> Q () s') (hf:X.fn x = true ∨ X.env.scope.names.lookup x = some .local:=by first | exact .inl rfl | exact .inr rfl | assumption):wpAny M A (storeName X.env x u) Q E s :=
 store_ok2 I hN hi hx r (fun s' I' _=>h s' I') hf
theorem Inv.call' {s':Shared} {ch:List Addr} (I:Inv X pins σ H s) (ho:s'.os = s.os) (u:Un (frs X.stack) ch H H' s.heap s'.heap) (hok:HOk X.prog X.w H' s'.heap) (hg:AllBare s'.gens)
  (hch:∀ b ∈ ch,(b ∈ X.ex ∨ X.s₀.heap.objs.size <= b) /\ b ≠ X.env.locals /\ (∀ x c,X.env.cells.lookup x = some c -> c ≠ b) /\ ∀ p ∈ X.pn ++ pins,p.1 ≠ b):Inv X pins σ H' s':=by
 obtain ⟨h',g',d',t',o'⟩:=s'
 have e:o' = s.os:=ho
 subst e
 exact I.call (g':=g') (t':=t') (d':=d') u hok hg hch
end
abbrev XK:=Value -> Option Addr -> Hp -> Prop
abbrev St:=List (Option V)
abbrev VK:=V -> Hp -> Prop
abbrev TE:=St -> Hp -> VK -> Prop
abbrev TT:=St -> Hp -> (Bool -> Hp -> Prop) -> Prop
abbrev TA:=St -> Hp -> (List V -> Hp -> Prop) -> Prop
structure Ends where
 nx:St -> Hp -> Prop
 rt:VK
 bk:St -> Hp -> Prop:=fun _ _=>False
 ct:St -> Hp -> Prop:=fun _ _=>False
abbrev TS:=Ends -> St -> Hp -> Prop
def EP (X:Cx) (pins:List (Addr × Obj)) (σ:St) (Q:VK) (u:Value) (s':Shared):Prop:=∃ v H',Inv X pins σ H' s' /\ RelV v u /\ Q v H'
def TP (X:Cx) (pins:List (Addr × Obj)) (σ:St) (Q:Bool -> Hp -> Prop) (b:Bool) (s':Shared):Prop:=∃ H',Inv X pins σ H' s' /\ Q b H'
def AP (X:Cx) (pins:List (Addr × Obj)) (σ:St) (Q:List V -> Hp -> Prop) (us:List Value) (s':Shared):Prop:=∃ vs H',Inv X pins σ H' s' /\ Vals vs us /\ Q vs H'
def SP (X:Cx) (pins:List (Addr × Obj)) (D:Ends) (f:Flow) (s':Shared):Prop :=
 match f with
 | .next=>∃ σ' H',Inv X pins σ' H' s' /\ D.nx σ' H'
 | .brk=>∃ σ' H',Inv X pins σ' H' s' /\ D.bk σ' H'
 | .cont=>∃ σ' H',Inv X pins σ' H' s' /\ D.ct σ' H'
 | .ret u=>∃ v σ' H',Inv X pins σ' H' s' /\ RelV v u /\ D.rt v H'
def PE (X:Cx) (e:Expr) (t:TE):Prop :=
 ∀ (pins:List (Addr × Obj)) (s:Shared) (σ:St) (H:Hp) (Q:VK),Inv X pins σ H s -> t σ H Q -> wpAny (model X.prog X.w) X.A (eval e X.env) (EP X pins σ Q) X.xe s
def PT (X:Cx) (e:Expr) (t:TT):Prop :=
 ∀ (pins:List (Addr × Obj)) (s:Shared) (σ:St) (H:Hp) (Q:Bool -> Hp -> Prop),Inv X pins σ H s -> t σ H Q -> wpAny (model X.prog X.w) X.A (isTrue e X.env (eval e X.env)) (TP X pins σ Q) X.xe s
def PW (X:Cx) (e:Expr) (t:TT):Prop :=
 ∀ (whole:Sem Value) (pins:List (Addr × Obj)) (s:Shared) (σ:St) (H:Hp) (Q:Bool -> Hp -> Prop),Inv X pins σ H s -> t σ H Q -> wpAny (model X.prog X.w) X.A (isTrue e X.env whole) (TP X pins σ Q) X.xe s
theorem PW.pt {X:Cx} {e:Expr} {t:TT} (h:PW X e t):PT X e t:=h _
def PA (X:Cx) (es:List Expr) (t:TA):Prop :=
 ∀ (pos:Pos) (pins:List (Addr × Obj)) (s:Shared) (σ:St) (H:Hp) (Q:List V -> Hp -> Prop),Inv X pins σ H s -> t σ H Q -> wpAny (model X.prog X.w) X.A (spliced (backTo pos (starEach es X.env))) (AP X pins σ Q) X.xe s
def PS (X:Cx) (st:Stmt) (t:TS):Prop :=
 ∀ (pins:List (Addr × Obj)) (s:Shared) (σ:St) (H:Hp) (D:Ends),Inv X pins σ H s -> t D σ H -> wpAny (model X.prog X.w) X.A (exec st X.env) (SP X pins D) X.xe s
def PSs (X:Cx) (st:List Stmt) (t:TS):Prop :=
 ∀ (pins:List (Addr × Obj)) (s:Shared) (σ:St) (H:Hp) (D:Ends),Inv X pins σ H s -> t D σ H -> wpAny (model X.prog X.w) X.A (execs st X.env) (SP X pins D) X.xe s
theorem thn {α:Type} {t:Sem α} {Q Q':α -> Shared -> Prop} {M:Model} {A:Around} {E:Value -> Shared -> Prop} {s:Shared} (h:wpAny M A t Q E s) (hQ:∀ a s,Q a s -> Q' a s):wpAny M A t Q' E s:=wpAny_mono h hQ fun _ _ x=>x
end L2
namespace L2
open PySem PySem.Spec PyProof.Rows
section
variable {X:Cx}
def tVar (i:Nat):TE:=fun σ H Q=>∃ v,σ[i]? = some (some v) /\ Q v H
def tC (v:V):TE:=fun _ H Q=>Q v H
theorem pe_var {i:Nat} {x:Str} {pos:Pos} (hN:X.N[i]? = some x) (hv:Vis X.env.scope x) (hd:(x == ("__debug__" : Str)) = false:=by decide) (hcd:(x == ("__classdict__" : Str)) = false:=by decide):PE X (.Name x pos) (tVar i):=by
 intro pins s σ H Q I h
 obtain ⟨v,e,h⟩:=h
 obtain ⟨m,hn,hl⟩:=I.loc
 obtain ⟨u,r,l⟩:=hl i x v hN e hv
 have fin:EP X pins σ Q u s:=⟨v,H,I,r,h⟩
 rcases l with ⟨hk,hm⟩ | ⟨hk,c,hc,hcell⟩
 ·exact wpAny_Name (wpAny_loadName_local I.ok.kind hk hn hm fin) hd
 ·rcases hk with hk | hk
  ·exact wpAny_Name (wpAny_loadName_cell I.ok.kind hk hc hcell fin) hd
  ·exact wpAny_Name (wpAny_loadName_free I.ok.kind hk hc hcell fin hcd) hd
theorem pe_int {i j pos}:PE X (.Constant (.int i) j pos) (tC (.int i)):=fun _ _ _ H _ I h=>wpAny_Constant_int ⟨.int i,H,I.tok _,⟨_,rfl⟩,h⟩
theorem pe_bl {b j pos}:PE X (.Constant (.bool b) j pos) (tC (.bl b)):=fun _ _ _ H _ I h=>Constant_bool ⟨.bl b,H,I,rfl,h⟩
theorem pe_non {j pos}:PE X (.Constant .none j pos) (tC .non):=fun _ _ _ H _ I h=>Constant_none ⟨.non,H,I,rfl,h⟩
theorem pe_str {x j pos}:PE X (.Constant (.str x) j pos) (tC (.str x)):=fun _ _ _ H _ I h=>Calls.Constant_str ⟨.str x,H,I.tok _,⟨_,rfl⟩,h⟩
def Gl (X:Cx) (x:Str):Prop:=X.env.kindOf x = some .globalImplicit
theorem ld_glob {E:Value -> Shared -> Prop} {pins:List (Addr × Obj)} {s:Shared} {σ:St} {H:Hp} {x:Str} {u:Value} {pos:Pos} {Q:Value -> Shared -> Prop} (I:Inv X pins σ H s) (hg:Gl X x) (hm:X.mg x = some u) (h:Q u s)
  (hd:(x == ("__debug__" : Str)) = false:=by decide):wpAny (model X.prog X.w) X.A (eval (.Name x pos) X.env) Q E s :=
 Calls.Name_function_global I.ok.kind hg (Calls.loadGlobal_global (by rw [I.ok.glob]; exact I.mod.glob.keeps I.bk) hm h) hd
theorem ld_blt {E:Value -> Shared -> Prop} {pins:List (Addr × Obj)} {s:Shared} {σ:St} {H:Hp} {x:Str} {u:Value} {pos:Pos} {Q:Value -> Shared -> Prop} (I:Inv X pins σ H s) (hg:Gl X x) (hm:X.mg x = none) (hv:bootBuiltins x = some u) (h:Q u s)
  (hn:x ≠ "__name__":=by decide) (hd:(x == ("__debug__" : Str)) = false:=by decide):wpAny (model X.prog X.w) X.A (eval (.Name x pos) X.env) Q E s:=by
 obtain ⟨mb,h1,h2⟩:=I.mod.blt
 exact Calls.Name_function_global I.ok.kind hg (Calls.loadGlobal_builtin (by rw [I.ok.glob]; exact I.mod.glob.keeps I.bk) hm (by rw [I.ok.blt]; exact h1.keeps I.bk) ((h2 x hn).trans hv) h) hd
theorem pe_bltn {x:Str} {v:V} {u:Value} {pos:Pos} (hg:Gl X x) (hm:X.mg x = none) (hv:bootBuiltins x = some u) (r:RelV v u) (hn:x ≠ "__name__":=by decide) (hd:(x == ("__debug__" : Str)) = false:=by decide):PE X (.Name x pos) (tC v) :=
 fun _ _ _ H _ I h=>ld_blt I hg hm hv ⟨v,H,I,r,h⟩ hn hd
variable {a b:Expr} {ta tb:TE} {pos:Pos}
def tB (t:TE):TT:=fun σ H Q=>t σ H fun x H1=>∃ c,x = .bl c /\ Q c H1
theorem pt_val {e:Expr} {t:TE} (h:PE X e t) (he:∀ whole,isTrue e X.env whole = (do let v ← whole; standAt e.pos; holding [v] (truthy v)):=by intro _; rfl):PT X e (tB t):=by
 intro pins s σ H Q I hw
 refine isTrue_plain (thn (h pins s σ H _ I hw) fun v s1 ⟨x,H1,I1,r1,q1⟩=>?_) (he _)
 obtain ⟨d,rfl,q⟩:=q1
 cases r1
 exact wpAny_truthy_bool ⟨H1,I1,q⟩
variable {tA tB':TT} {rest:List Expr}
def tAnd (t u:TT):TT:=fun σ H Q=>t σ H fun c H1=>if c = true then u σ H1 Q else Q false H1
def tOr (t u:TT):TT:=fun σ H Q=>t σ H fun c H1=>if c = true then Q true H1 else u σ H1 Q
def tNot (t:TT):TT:=fun σ H Q=>t σ H fun c H1=>Q (!c) H1
theorem pw_and1 (ha:PT X a tA):PW X (.BoolOp .And [a] pos) tA:=by
 intro wh pins s σ H Q I h
 refine isTrue_and (thn (ha pins s σ H Q I h) fun c s1 e=>?_)
 cases c with
 | true=>exact isTrue_and_nil e
 | false=>exact e
theorem pw_or1 (ha:PT X a tA):PW X (.BoolOp .Or [a] pos) tA:=by
 intro wh pins s σ H Q I h
 refine isTrue_or (thn (ha pins s σ H Q I h) fun c s1 e=>?_)
 cases c with
 | false=>exact isTrue_or_nil e
 | true=>exact e
theorem pw_and (ha:PT X a tA) (hb:PW X (.BoolOp .And (b :: rest) pos) tB'):PW X (.BoolOp .And (a :: b :: rest) pos) (tAnd tA tB'):=by
 intro wh pins s σ H Q I h
 refine isTrue_and (thn (ha pins s σ H _ I h) fun c s1 ⟨H1,I1,q1⟩=>?_)
 cases c with
 | true=>exact hb wh pins s1 σ H1 Q I1 q1
 | false=>exact ⟨H1,I1,q1⟩
theorem pw_or (ha:PT X a tA) (hb:PW X (.BoolOp .Or (b :: rest) pos) tB'):PW X (.BoolOp .Or (a :: b :: rest) pos) (tOr tA tB'):=by
 intro wh pins s σ H Q I h
 refine isTrue_or (thn (ha pins s σ H _ I h) fun c s1 ⟨H1,I1,q1⟩=>?_)
 cases c with
 | true=>exact ⟨H1,I1,q1⟩
 | false=>exact hb wh pins s1 σ H1 Q I1 q1
theorem pt_not (ha:PT X a tA):PT X (.UnaryOp .Not a pos) (tNot tA):=by
 intro pins s σ H Q I h
 exact isTrue_not (ha pins s σ H (fun c H1=>Q (!c) H1) I h)
def tAndV (ta tb:TE):TE:=fun σ H Q=>ta σ H fun x H1=>∃ c,x = .bl c /\ if c = true then tb σ H1 Q else Q (.bl false) H1
def tNotV (ta:TE):TE:=fun σ H Q=>ta σ H fun x H1=>∃ c,x = .bl c /\ Q (.bl (!c)) H1
theorem pe_one {op} {t:TE} (h:PE X a t):PE X (.BoolOp op [a] pos) t:=fun pins s σ H Q I hw=>BoolOp_one (h pins s σ H Q I hw)
theorem pe_and (ha:PE X a ta) (hb:PE X (.BoolOp .And (b :: rest) pos) tb):PE X (.BoolOp .And (a :: b :: rest) pos) (tAndV ta tb):=by
 intro pins s σ H Q I h
 refine BoolOp_and (thn (ha pins s σ H _ I h) fun v s1 ⟨x,H1,I1,r1,q1⟩=>?_)
 obtain ⟨c,rfl,q1⟩:=q1
 cases r1
 refine wpAny_truthy_bool ?_
 cases c with
 | true=>exact hb pins s1 σ H1 Q I1 q1
 | false=>exact ⟨.bl false,H1,I1,rfl,q1⟩
theorem pe_not (ha:PE X a ta):PE X (.UnaryOp .Not a pos) (tNotV ta):=by
 intro pins s σ H Q I h
 refine UnaryOp_ (thn (ha pins s σ H _ I h) fun v s1 ⟨x,H1,I1,r1,q1⟩=>?_)
 obtain ⟨c,rfl,q1⟩:=q1
 cases r1
 exact not_of (wpAny_truthy_bool ⟨.bl (!c),H1,I1,rfl,q1⟩)
def tIf (t:TT) (ta tb:TE):TE:=fun σ H Q=>t σ H fun c H1=>if c = true then ta σ H1 Q else tb σ H1 Q
theorem pe_ifExp {c:Expr} (hc:PT X c tA) (ha:PE X a ta) (hb:PE X b tb):PE X (.IfExp c a b pos) (tIf tA ta tb):=by
 intro pins s σ H Q I h
 refine wpAny_IfExp (thn (hc pins s σ H _ I h) fun d s1 ⟨H1,I1,q1⟩=>?_)
 cases d with
 | true=>exact ha pins s1 σ H1 Q I1 q1
 | false=>exact hb pins s1 σ H1 Q I1 q1
end
end L2
namespace L2
open PySem PySem.Spec PyProof.Rows
def SqL (K:PySem.W.Frag) (H:Hp) (a:Addr) (xs:List V):Prop :=
 Rd H a (.lst xs) ∨
  ∃ (o:Obj) (its:Array Value) (n:Nat),K.lookup a = some o /\ o.cls = .type "list" /\ o.dict = none /\ o.data = .seq its n /\ its.size <= sizeLine /\ Vals xs its.toList
def SqT (K:PySem.W.Frag) (H:Hp) (a:Addr) (xs:List V):Prop :=
 Rd H a (.tup xs) ∨
  ∃ (o:Obj) (its:Array Value) (n:Nat),K.lookup a = some o /\ o.cls = .type "tuple" /\ o.data = .seq its n /\ its.size <= sizeLine /\ Vals xs its.toList
def absV:Value -> Option V
 | .none=>some .non
 | .bool b=>some (.bl b)
 | .int i _=>some (.int i)
 | .str x _=>some (.str x)
 | .bytes b _=>some (.byt b)
 | .float b _=>some (.flt b)
 | .ref a=>some (.ref a)
 | .type n=>some (.ty n)
 | _=>none
theorem RelV.abs {x:V} {u:Value} (r:RelV x u):absV u = some x:=by
 cases x with
 | non=>cases r; rfl
 | bl _=>cases r; rfl
 | int _=>obtain ⟨t,rfl⟩:=r; rfl
 | str _=>obtain ⟨t,rfl⟩:=r; rfl
 | byt _=>obtain ⟨t,rfl⟩:=r; rfl
 | flt _=>obtain ⟨t,rfl⟩:=r; rfl
 | ref _=>cases r; rfl
 | ty _=>cases r; rfl
theorem RelV.inj {x y:V} {u:Value} (r:RelV x u) (q:RelV y u):x = y:=Option.some.inj (r.abs.symm.trans q.abs)
theorem Vals.inj:∀ {xs ys:List V} {us:List Value},Vals xs us -> Vals ys us -> xs = ys
 | _,_,_,.nil,.nil=>rfl
 | _,_,_,.cons r t,.cons r' t'=>by rw [r.inj r',Vals.inj t t']
section
variable {X:Cx} {pins:List (Addr × Obj)} {σ:St} {H:Hp} {s:Shared} {a:Addr} {xs ys:List V}
theorem SqL.of {K:PySem.W.Frag} (h:H a = some (.lst xs)):SqL K H a xs:=.inl (.inl h)
theorem SqT.of {K:PySem.W.Frag} (h:H a = some (.tup xs)):SqT K H a xs:=.inl (.inl h)
theorem Inv.list (I:Inv X pins σ H s) (h:SqL X.K H a xs):∃ its:List Value,Vals xs its /\ PlainL s.heap a its.toArray /\ xs.length <= sizeLine:=by
 rcases h with h | ⟨o,its,n,hk,hc,hd,hs,hz,r⟩
 ·obtain ⟨z,its,n,r,e⟩:=h.ok I.hok
  exact ⟨its,r,⟨_,n,e,rfl,rfl,rfl⟩,z⟩
 ·refine ⟨its.toList,r,⟨o,n,I.kIn a o hk,hc,hd,by simpa using hs⟩,?_⟩
  have e:=r.length
  simp only [Array.length_toList] at e
  omega
theorem Inv.tuple (I:Inv X pins σ H s) (h:SqT X.K H a xs):∃ its:List Value,Vals xs its /\ IsTup s.heap a its.toArray /\ xs.length <= sizeLine:=by
 rcases h with h | ⟨o,its,n,hk,hc,hs,hz,r⟩
 ·obtain ⟨z,its,r,p⟩:=h.ok I.hok
  exact ⟨its,r,p,z⟩
 ·refine ⟨its.toList,r,⟨o,I.kIn a o hk,hc,n,by simpa using hs⟩,?_⟩
  have e:=r.length
  simp only [Array.length_toList] at e
  omega
theorem Inv.list_inj (I:Inv X pins σ H s) (h:SqL X.K H a xs) (h':SqL X.K H a ys):xs = ys:=by
 obtain ⟨its,r,⟨o,n,e,_,_,d⟩,_⟩:=I.list h
 obtain ⟨its',r',⟨o',n',e',_,_,d'⟩,_⟩:=I.list h'
 rw [e] at e'; cases e'
 rw [d] at d'
 injection d' with d1 _
 have:its = its':=by simpa using congrArg Array.toList d1
 subst this
 exact r.inj r'
theorem Inv.tuple_inj (I:Inv X pins σ H s) (h:SqT X.K H a xs) (h':SqT X.K H a ys):xs = ys:=by
 obtain ⟨its,r,⟨o,e,_,n,d⟩,_⟩:=I.tuple h
 obtain ⟨its',r',⟨o',e',_,n',d'⟩,_⟩:=I.tuple h'
 rw [e] at e'; cases e'
 rw [d] at d'
 injection d' with d1 _
 have:its = its':=by simpa using congrArg Array.toList d1
 subst this
 exact r.inj r'
end
abbrev Cx.wish (X:Cx) (E:Value -> Shared -> Prop):Cx:={ X with xe:=E }
abbrev Cx.nox (X:Cx):Cx:=X.wish fun _ _=>False
theorem Cx.Ok.wish {X:Cx} (ok:X.Ok) (E:Value -> Shared -> Prop):(X.wish E).Ok :=
 ⟨ok.mod,ok.kind,ok.glob,ok.blt,ok.above,ok.inj,ok.has,ok.cab,ok.hd,ok.frames,ok.stk,ok.exf,ok.bs,ok.bsz,ok.noex,ok.exfs,ok.funs,ok.frf⟩
theorem Cx.Ok.unwish {X:Cx} {E:Value -> Shared -> Prop} (ok:(X.wish E).Ok):X.Ok :=
 ⟨ok.mod,ok.kind,ok.glob,ok.blt,ok.above,ok.inj,ok.has,ok.cab,ok.hd,ok.frames,ok.stk,ok.exf,ok.bs,ok.bsz,ok.noex,ok.exfs,ok.funs,ok.frf⟩
section
variable {X:Cx} {pins:List (Addr × Obj)} {σ:St} {H:Hp} {s:Shared} {E:Value -> Shared -> Prop}
theorem Inv.wish (I:Inv X pins σ H s) (E:Value -> Shared -> Prop):Inv (X.wish E) pins σ H s:=⟨I.ok.wish E,I.os,I.bare,I.base,I.loc,I.cell,I.free,I.freeC,I.pin,I.hok,I.len⟩
theorem Inv.unwish (I:Inv (X.wish E) pins σ H s):Inv X pins σ H s:=⟨I.ok.unwish,I.os,I.bare,I.base,I.loc,I.cell,I.free,I.freeC,I.pin,I.hok,I.len⟩
theorem SP.unwish {D:Ends} {f:Flow} {s':Shared} (h:SP (X.wish E) pins D f s'):SP X pins D f s':=by
 cases f with
 | next=>obtain ⟨σ',H',I,q⟩:=h; exact ⟨σ',H',I.unwish,q⟩
 | brk=>obtain ⟨σ',H',I,q⟩:=h; exact ⟨σ',H',I.unwish,q⟩
 | cont=>obtain ⟨σ',H',I,q⟩:=h; exact ⟨σ',H',I.unwish,q⟩
 | ret u=>obtain ⟨v,σ',H',I,r,q⟩:=h; exact ⟨v,σ',H',I.unwish,r,q⟩
theorem PE.nox {e:Expr} {t:TE} (h:PE X.nox e t):PE X e t:=fun pins s σ H Q I hw =>
 wpAny_mono (h pins s σ H Q (I.wish _) hw) (fun _ _ ⟨v,H',I',r,q⟩=>⟨v,H',I'.unwish,r,q⟩) fun _ _ z=>False.elim z
theorem PT.nox {e:Expr} {t:TT} (h:PT X.nox e t):PT X e t:=fun pins s σ H Q I hw =>
 wpAny_mono (h pins s σ H Q (I.wish _) hw) (fun _ _ ⟨H',I',q⟩=>⟨H',I'.unwish,q⟩) fun _ _ z=>False.elim z
theorem PSs.nox {st:List Stmt} {t:TS} (h:PSs X.nox st t):PSs X st t:=fun pins s σ H D I hw =>
 wpAny_mono (h pins s σ H D (I.wish _) hw) (fun _ _ q=>q.unwish) fun _ _ z=>False.elim z
end
section
variable {X:Cx} {st:Stmt} {rest:List Stmt} {t u:TS} {e:Expr} {te:TE} {pos:Pos}
def tNext:TS:=fun D σ H=>D.nx σ H
def tSeq (t u:TS):TS:=fun D σ H=>t { D with nx:=u D } σ H
theorem pss_nil:PSs X [] tNext:=fun _ _ σ H _ I h=>wpAny_execs_nil ⟨σ,H,I,h⟩
theorem pss_cons (h1:PS X st t) (h2:PSs X rest u):PSs X (st :: rest) (tSeq t u):=by
 intro pins s σ H D I h
 refine wpAny_execs_cons (thn (h1 pins s σ H { D with nx:=u D } I h) fun f s1 q=>?_)
 cases f with
 | next =>
  obtain ⟨σ',H',I',q⟩:=q
  exact h2 pins s1 σ' H' D I' q
 | ret v=>exact q
 | brk=>exact q
 | cont=>exact q
theorem pss_one (h1:PS X st t):PSs X [st] t:=by
 intro pins s σ H D I h
 refine wpAny_execs_cons (thn (h1 pins s σ H D I h) fun f s1 q=>?_)
 cases f with
 | next=>exact wpAny_execs_nil q
 | ret v=>exact q
 | brk=>exact q
 | cont=>exact q
theorem Inv.quiet {pins:List (Addr × Obj)} {σ:St} {H:Hp} {s:Shared} (I:Inv X pins σ H s):interactive X.env = false:=by simp [interactive,I.ok.kind]
def tDrop (te:TE):TS:=fun D σ H=>te σ H fun _ H1=>D.nx σ H1
theorem ps_expr (he:PE X e te) (hs:swapsWith e none pos.line X.env = pure false:=by rfl):PS X (.Expr e pos) (tDrop te):=by
 intro pins s σ H D I h
 exact wpAny_Expr_any (thn (he pins s σ H _ I h) fun v s1 ⟨x,H1,I1,r1,q1⟩=>⟨σ,H1,I1,q1⟩) I.quiet hs
def tRet (te:TE):TS:=fun D σ H=>te σ H D.rt
theorem ps_ret (he:PE X e te):PS X (.Return (some e) pos) (tRet te):=by
 intro pins s σ H D I h
 exact wpAny_Return_some (thn (he pins s σ H _ I h) fun v s1 ⟨x,H1,I1,r1,q1⟩=>⟨x,σ,H1,I1,r1,q1⟩)
def tIfS (c:TT) (t u:TS):TS:=fun D σ H=>c σ H fun b H1=>if b = true then t D σ H1 else u D σ H1
theorem ps_if {c:Expr} {a b:List Stmt} {tc:TT} (hc:PT X c tc) (ha:PSs X a t) (hb:PSs X b u):PS X (.If c a b pos) (tIfS tc t u):=by
 intro pins s σ H D I h
 refine wpAny_If (thn (hc pins s σ H _ I h) fun d s1 ⟨H1,I1,q1⟩=>?_)
 cases d with
 | true=>exact ha pins s1 σ H1 D I1 q1
 | false=>exact hb pins s1 σ H1 D I1 q1
def tNever:TS:=fun _ _ _=>False
theorem ps_never:PS X st tNever:=fun _ _ _ _ _ _ h=>h.elim
end
abbrev TG:=V -> St -> Hp -> (St -> Hp -> Prop) -> Prop
abbrev TGs:=List V -> St -> Hp -> (St -> Hp -> Prop) -> Prop
def PG (X:Cx) (target:Expr) (t:TG):Prop :=
 ∀ (pins:List (Addr × Obj)) (s:Shared) (σ:St) (H:Hp) (v:V) (u:Value) (Q:St -> Hp -> Prop),Inv X pins σ H s -> RelV v u -> t v σ H Q ->
  wpAny (model X.prog X.w) X.A (assign target X.env u) (fun _ s'=>∃ σ' H',Inv X pins σ' H' s' /\ Q σ' H') X.xe s
def PGs (X:Cx) (ts:List Expr) (t:TGs):Prop :=
 ∀ (pins:List (Addr × Obj)) (s:Shared) (σ:St) (H:Hp) (vs:List V) (us:List Value) (Q:St -> Hp -> Prop),Inv X pins σ H s -> Vals vs us -> t vs σ H Q ->
  wpAny (model X.prog X.w) X.A (assignInOrder ((assignEach ts X.env).map (·.2)) us) (fun _ s'=>∃ σ' H',Inv X pins σ' H' s' /\ Q σ' H') X.xe s
abbrev TSet:=V -> V -> V -> Hp -> (Hp -> Prop) -> Prop
def PSet (X:Cx) (t:TSet):Prop :=
 ∀ (pins:List (Addr × Obj)) (s:Shared) (σ:St) (H:Hp) (o i v:V) (ov iv u:Value) (Q:Hp -> Prop),Inv X pins σ H s -> RelV o ov -> RelV i iv -> RelV v u -> t o i v H Q ->
  wpAny (model X.prog X.w) X.A (setItem ov iv u) (fun _ s'=>∃ H',Inv X pins σ H' s' /\ Q H') X.xe s
section
variable {X:Cx} {pos:Pos}
def gName (i:Nat):TG:=fun v σ H Q=>Q (σ.set i (some v)) H
theorem pg_name {i:Nat} {x:Str} (hN:X.N.Nodup) (hi:X.N[i]? = some x) (hx:Loc X.env.scope x) (hf:X.fn x = true ∨ X.env.scope.names.lookup x = some .local:=by first | exact .inl rfl | exact .inr rfl | assumption):PG X (.Name x pos) (gName i):=by
 intro pins s σ H v u Q I r h
 exact wpAny_assign_Name (store_ok I hN hi hx r (fun s' I'=>⟨_,H,I',h⟩) hf)
def gNil:TGs:=fun vs σ H Q=>vs = [] /\ Q σ H
def gCons (t:TG) (u:TGs):TGs:=fun vs σ H Q=>∃ v r,vs = v :: r /\ t v σ H fun σ' H'=>u r σ' H' Q
theorem pgs_nil:PGs X [] gNil:=by
 intro pins s σ H vs us Q I r h
 obtain ⟨e,h⟩:=h
 subst e
 cases r
 exact assignInOrder_nil ⟨σ,H,I,h⟩
theorem pgs_cons {e:Expr} {es:List Expr} {t:TG} {u:TGs} (h1:PG X e t) (h2:PGs X es u)
  (hs:(assignEach (e :: es) X.env).map (·.2) = assign e X.env :: (assignEach es X.env).map (·.2):=by rfl):PGs X (e :: es) (gCons t u):=by
 intro pins s σ H vs us Q I r h
 obtain ⟨v,vr,e1,h⟩:=h
 subst e1
 cases r with
 | cons r rr =>
  rw [hs]
  refine assignInOrder_cons (thn (h1 pins s σ H _ _ _ I r h) fun _ s1 ⟨σ1,H1,I1,q1⟩=>?_)
  exact h2 pins s1 σ1 H1 _ _ Q I1 rr q1
def gTup (K:PySem.W.Frag) (n:Nat) (t:TGs):TG:=fun v σ H Q=>∃ a xs,v = .ref a /\ SqT K H a xs /\ xs.length = n /\ t xs σ H Q
theorem pg_tup {es:List Expr} {k:Nat} {t:TGs} {n:Nat} (hc:X.calm = true) (h:PGs X es t)
  (hn:(assignEach es X.env).length = n:=by rfl) (hst:(assignEach es X.env).findIdx? (·.1) = none:=by rfl):PG X (.Tuple es k pos) (gTup X.K n t):=by
 intro pins s σ H v u Q I r hw
 obtain ⟨a,xs,e1,hq,hl,hw⟩:=hw
 subst e1
 cases r
 obtain ⟨its,rv,ht,hz⟩:=I.tuple hq
 refine assign_Tuple_tuple (I.ok.hd hc) ht (by simp [hn,← hl,rv.length]) hst fun h' hx=>?_
 have I1:Inv X pins σ H { s with heap:=h' }:=I.kept (t':=s.toks) fun b o e=>hx b o (Nat.ne_of_lt (Heap.lt_size e)) e
 exact h pins _ σ H xs _ Q I1 (by simpa using rv) hw
def gSub (to ti:TE) (t:TSet):TG:=fun v σ H Q=>to σ H fun o H1=>ti σ H1 fun i H2=>t o i v H2 fun H3=>Q σ H3
theorem pg_sub {o i:Expr} {to ti:TE} {t:TSet} (ho:PE X o to) (hi:PE X i ti) (hs:PSet X t)
  (ha:∀ v,assign (.Subscript o i pos) X.env v = (do
   let ov ← holding [v] (eval o X.env)
   let iv ← holding [v,ov] (eval i X.env)
   standAt pos
   holding [v,ov,iv] (setItem ov iv v)
   release [v,ov,iv] []):=by intro _; rfl):PG X (.Subscript o i pos) (gSub to ti t):=by
 intro pins s σ H v u Q I r h
 rw [ha]
 refine wpAny_bind (wpAny_holding (thn (ho pins s σ H _ I h) fun ov s1 ⟨x,H1,I1,r1,q1⟩=>?_))
 refine wpAny_bind (wpAny_holding (thn (hi pins s1 σ H1 _ I1 q1) fun iv s2 ⟨y,H2,I2,r2,q2⟩=>?_))
 refine wpAny_bind (wpAny_standAt (wpAny_bind (wpAny_holding (thn (hs pins s2 σ H2 x y v ov iv u _ I2 r1 r2 r q2) fun _ s3 ⟨H3,I3,q3⟩=>?_))))
 exact wpAny_release ⟨σ,H3,I3,q3⟩
def tAsg (te:TE) (g:TG):TS:=fun D σ H=>te σ H fun x H1=>g x σ H1 D.nx
theorem ps_asg {tg e:Expr} {te:TE} {g:TG} (he:PE X e te) (hg:PG X tg g) (hs:swapsWithSole [tg] e pos.line X.env = pure false:=by rfl) (hw:swappedStores [tg] e X.env = pure none:=by rfl)
  (h1:(assignEach [tg] X.env).map (·.2) = [assign tg X.env]:=by rfl):PS X (.Assign [tg] e pos) (tAsg te g):=by
 intro pins s σ H D I h
 refine wpAny_Assign_stores (thn (he pins s σ H _ I h) fun v s1 ⟨x,H1,I1,r1,q1⟩=>?_) hs hw
 rw [h1]
 exact thn (hg pins s1 σ H1 x v _ I1 r1 q1) fun _ s2 q=>q
theorem ps_set {i:Nat} {x:Str} {e:Expr} {te:TE} {pos':Pos} (hN:X.N.Nodup) (hi:X.N[i]? = some x) (hx:Loc X.env.scope x) (he:PE X e te) (hs:swapsWith e (some (.Name x pos')) pos.line X.env = pure false:=by rfl) (hf:X.fn x = true ∨ X.env.scope.names.lookup x = some .local:=by first | exact .inl rfl | exact .inr rfl | assumption) :
  PS X (.Assign [.Name x pos'] e pos) (tAsg te (gName i)):=by
 intro pins s σ H D I h
 refine wpAny_Assign_Name (thn (he pins s σ H _ I h) fun v s1 ⟨y,H1,I1,r1,q1⟩=>?_) hs
 exact store_ok I1 hN hi hx r1 (fun s2 I2=>⟨_,H1,I2,q1⟩) hf
def tPar (i j:Nat) (ta:TA):TS:=fun D σ H=>ta σ H fun vs H1=>∃ v w,vs = [v,w] /\ D.nx ((σ.set i (some v)).set j (some w)) H1
theorem ps_par {i j:Nat} {x y:Str} {a b:Expr} {ta:TA} {px py pt:Pos} {kt k2 pt2} (hc:X.calm = true) (hN:X.N.Nodup) (hi:X.N[i]? = some x) (hj:X.N[j]? = some y) (hij:i ≠ j)
  (hx:X.env.scope.names.lookup x = some .local) (hy:X.env.scope.names.lookup y = some .local) (ha:PA X [a,b] ta)
  (hw:swappedStores [.Tuple [.Name x px,.Name y py] kt pt] (.Tuple [a,b] k2 pt2) X.env = pure (some [x,y]))
  (hs:swapsWithSole [.Tuple [.Name x px,.Name y py] kt pt] (.Tuple [a,b] k2 pt2) pos.line X.env = pure false:=by rfl) :
  PS X (.Assign [.Tuple [.Name x px,.Name y py] kt pt] (.Tuple [a,b] k2 pt2) pos) (tPar i j ta):=by
 intro pins s σ H D I h
 rw [exec_Assign_arm]
 refine wpAny_bind (wpAny_standAt ?_)
 rw [hs]
 refine wpAny_bind (wpAny_pure ?_)
 rw [if_neg (by decide)]
 refine wpAny_bind (Tuple_ (thn (ha _ pins s σ H _ I h) fun us s1 ⟨vs,H1,I1,r1,q1⟩=>?_))
 obtain ⟨v,w,e1,q1⟩:=q1
 subst e1
 obtain ⟨u1,u2,rfl,rv,rw'⟩:∃ u1 u2,us = [u1,u2] /\ RelV v u1 /\ RelV w u2:=by
  cases r1 with
  | cons p q =>
   cases q with
   | cons p' q' =>
    cases q'
    exact ⟨_,_,rfl,p,p'⟩
 refine wpAny_newObj_type ?_ (by show 2 <= sizeLine; decide)
 have I2:Inv X pins σ H1 { s1 with heap:=s1.heap.push { cls:=.type "tuple",data:=.seq [u1,u2].toArray } }:=I1.kept (t':=s1.toks) fun b o e=>Heap.get?_push_of_some _ e
 rw [hw]
 refine wpAny_bind (wpAny_pure ?_)
 show wpAny (model X.prog X.w) X.A (do rule "assign.swapped-stores"; let items ← unpackItems (.ref s1.heap.objs.size) 2 none; assignInOrder [fun v=>bindName X.env y v,fun v=>bindName X.env x v] items.reverse; pure Flow.next) _ _ _
 refine wpAny_bind (wpAny_rule (wpAny_bind (unpackItems_tuple (items:=#[u1,u2]) (I.ok.hd hc) (IsTup.new s1.heap _) fun h' hx'=>?_)))
 have I3:=I2.kept (h':=h') (t':=s1.toks) fun b o e=>hx' b o (Nat.ne_of_lt (Heap.lt_size e)) e
 show wpAny _ _ (assignInOrder [fun v=>bindName X.env y v,fun v=>bindName X.env x v] [u2,u1] >>= fun _=>pure Flow.next) _ _ _
 refine wpAny_bind (assignInOrder_cons (wpAny_bindName (store_ok I3 hN hj (.inl hy) rw' (fun s2 I4=>?_) (.inr hy))))
 refine assignInOrder_cons (wpAny_bindName (store_ok I4 hN hi (.inl hx) rv (fun s3 I5=>assignInOrder_nil (wpAny_pure ?_)) (.inr hx)))
 rw [List.set_comm _ _ (Ne.symm hij)] at I5
 exact ⟨_,H1,I5,q1⟩
end
section
variable {X:Cx} {pos:Pos}
def tWhile (c:TT) (tb:TS):TS:=fun D σ H=>∃ W:Nat -> St -> Hp -> Prop,(∃ m,W m σ H) /\ ∀ m σ H,W m σ H ->
 c σ H fun b H1=>if b = true then ∃ N:St -> Hp -> Prop,(∀ σ' H',N σ' H' -> ∃ m',m' < m /\ W m' σ' H') /\ tb { D with nx:=N,ct:=N,bk:=D.nx } σ H1 else D.nx σ H1
theorem ps_while {c:Expr} {body:List Stmt} {tc:TT} {tb:TS} (hp:PassesOwn (model X.prog X.w) X.A X.env X.xe) (hc:PT X c tc) (hb:PSs X body tb):PS X (.While c body [] pos) (tWhile tc tb):=by
 intro pins s σ H D I h
 obtain ⟨W,⟨m0,w0⟩,turn⟩:=h
 refine wpAny_While (codeAny_whileLoop (fun n s'=>∃ σ' H',Inv X pins σ' H' s' /\ W n σ' H') ?_ m0 ⟨σ,H,I,w0⟩)
 rintro n s1 ⟨σ1,H1,I1,w1⟩
 refine wpAny_passesOwn hp (thn (hc pins s1 σ1 H1 _ I1 (turn n σ1 H1 w1)) fun b s2 ⟨H2,I2,q2⟩=>?_)
 cases b with
 | true =>
  obtain ⟨N,hN,q2⟩:=q2
  rw [if_pos rfl]
  refine wpAny_passesOwn hp (thn (hb pins s2 σ1 H2 _ I2 q2) fun f s3 q3=>?_)
  cases f with
  | next =>
   obtain ⟨σ3,H3,I3,n3⟩:=q3
   obtain ⟨m',hm,w3⟩:=hN σ3 H3 n3
   exact ⟨m',hm,σ3,H3,I3,w3⟩
  | cont =>
   obtain ⟨σ3,H3,I3,n3⟩:=q3
   obtain ⟨m',hm,w3⟩:=hN σ3 H3 n3
   exact ⟨m',hm,σ3,H3,I3,w3⟩
  | brk=>exact q3
  | ret v=>exact q3
 | false =>
  rw [if_neg Bool.false_ne_true]
  exact wpAny_execs_nil ⟨σ1,H2,I2,q2⟩
end
structure It where
 go:Nat -> Hp -> Prop
 yld:Nat -> Hp -> V -> Hp -> Prop
 stop:Nat -> Hp -> Prop
def FpOk (X:Cx) (pins:List (Addr × Obj)) (H:Hp) (b:Addr):Prop :=
 H b = none /\ b ≠ X.env.locals /\ b ∉ X.fs /\ (b ∈ X.ex ∨ X.s₀.heap.objs.size <= b) /\ (∀ x c,X.env.cells.lookup x = some c -> c ≠ b) /\ ∀ p ∈ X.pn ++ pins,p.1 ≠ b
theorem Inv.fpOk {X:Cx} {pins:List (Addr × Obj)} {σ:St} {H H':Hp} {s:Shared} {b:Addr} (I:Inv X pins σ H s) (hb:s.heap.objs.size <= b) (hn:H' b = none):FpOk X pins H' b:=by
 refine ⟨hn,Nat.ne_of_gt (Nat.lt_of_lt_of_le I.lt hb),I.nofs hb,.inr (Nat.le_trans I.sz hb),fun x c e z=>?_,fun p hp z=>?_⟩
 ·obtain ⟨v,q⟩:=I.cell x c e
  exact absurd (Nat.lt_of_lt_of_le q.lt (by rw [z]; exact hb)) (Nat.lt_irrefl _)
 ·exact absurd (Nat.lt_of_lt_of_le (Heap.lt_size (I.pin p hp).1) (by rw [z]; exact hb)) (Nat.lt_irrefl _)
structure Turn (P:Program) (w:World) (K:PySem.W.Frag) (tg:Expr) (J:It) (fp:List Addr) (it:Addr) (tn:Nat -> Heap -> Prop):Prop where
 mem:it ∈ fp
 obj:∀ i h,tn i h -> ∀ b ∈ fp,∃ o,h.get? b = some o /\ ∀ v,o.data ≠ .cell v
 keep:∀ i h h',tn i h -> (∀ b ∈ fp,∀ o,h.get? b = some o -> h'.get? b = some o) -> tn i h'
 item:∀ (X:Cx),X.prog = P -> X.w = w -> X.K = K -> X.calm = true -> ∀ (i:Nat) (pins:List (Addr × Obj)) (s:Shared) (σ:St) (H:Hp) (E:Value -> Shared -> Prop),Inv X pins σ H s -> (∀ b ∈ fp,FpOk X pins H b) -> tn i s.heap -> J.go i H ->
  wpAny (model P w) X.A (pyNext (.ref it)) (fun r s1=>∃ u,r = some u /\
   wpAny (model P w) X.A (letOwnedTupleGo tg (.ref it) u) (fun _ s2=>∃ x H',Inv X pins σ H' s2 /\ RelV x u /\ J.yld i H x H' /\ tn (i + 1) s2.heap /\ ∀ b ∈ fp,H' b = none) E s1) E s
 done:∀ (X:Cx),X.prog = P -> X.w = w -> X.K = K -> X.calm = true -> ∀ (i:Nat) (pins:List (Addr × Obj)) (s:Shared) (σ:St) (H:Hp) (E:Value -> Shared -> Prop),Inv X pins σ H s -> (∀ b ∈ fp,FpOk X pins H b) -> tn i s.heap -> J.stop i H ->
  wpAny (model P w) X.A (pyNext (.ref it)) (fun r s1=>r = none /\ Inv X pins σ H s1) E s
 self:∀ (A:Around) (i:Nat) (s:Shared) (Q:Value -> Shared -> Prop) (E:Value -> Shared -> Prop),tn i s.heap -> Q (.ref it) s -> wpAny (model P w) A (pyIter (.ref it)) Q E s
abbrev TI:=St -> Hp -> (It -> Hp -> Prop) -> Prop
def PIE (X:Cx) (pins:List (Addr × Obj)) (σ:St) (tg:Expr) (R:It -> Hp -> Prop) (itv:Value) (s2:Shared):Prop :=
 ∃ (it:Addr) (fp:List Addr) (tn:Nat -> Heap -> Prop) (J:It) (H':Hp),itv = .ref it /\ Inv X pins σ H' s2 /\ Turn X.prog X.w X.K tg J fp it tn /\ tn 0 s2.heap /\ (∀ b ∈ fp,FpOk X pins H' b) /\ R J H'
def PI (X:Cx) (tg iter:Expr) (wi:TI):Prop :=
 ∀ (pins:List (Addr × Obj)) (s:Shared) (σ:St) (H:Hp) (R:It -> Hp -> Prop),Inv X pins σ H s -> wi σ H R ->
  wpAny (model X.prog X.w) X.A (eval iter X.env) (fun v s1=>wpAny (model X.prog X.w) X.A (pyIter v) (PIE X pins σ tg R) X.xe s1) X.xe s
theorem go_of {M:Model} {A:Around} {E:Value -> Shared -> Prop} {s:Shared} {tg:Expr} {it:Addr} {u:Value} {o:Obj} {n:String} {vs:Array Value} {Q:Unit -> Shared -> Prop} (ho:s.heap.get? it = some o) (hc:o.cls = .type n) (hd:o.data = .fields vs)
  (hn:["enumerate","zip","dict_itemiterator","dict_reverseitemiterator","odict_iterator","itertools.zip_longest","itertools.pairwise"].contains n = false) (hQ:Q () s):wpAny M A (letOwnedTupleGo tg (.ref it) u) Q E s:=by
 unfold letOwnedTupleGo
 cases tg <;> first
  | exact wpAny_pure hQ
  | (cases u <;> first
    | exact wpAny_pure hQ
    | (refine wpAny_bind (wpAny_load ho ?_)
       rw [hc,hd]
       show wpAny M A (if (["enumerate","zip","dict_itemiterator","dict_reverseitemiterator","odict_iterator","itertools.zip_longest","itertools.pairwise"].contains n && vs[0]? == some (rawInt _)) = true then _ else _) Q E s
       rw [if_neg (by intro h; rw [hn,Bool.false_and] at h; cases h)]
       exact wpAny_pure hQ))
def Itl (K:PySem.W.Frag) (a:Addr):It :=
 ⟨fun i H=>∃ xs x,SqL K H a xs /\ xs[i]? = some x,fun i H x H'=>H' = H /\ ∀ xs,SqL K H a xs -> xs[i]? = some x,fun i H=>∃ xs,SqL K H a xs /\ xs.length <= i⟩
def Itt (K:PySem.W.Frag) (a:Addr):It :=
 ⟨fun i H=>∃ xs x,SqT K H a xs /\ xs[i]? = some x,fun i H x H'=>H' = H /\ ∀ xs,SqT K H a xs -> xs[i]? = some x,fun i H=>∃ xs,SqT K H a xs /\ xs.length <= i⟩
def Itr (lo:Int) (n:Nat):It:=⟨fun i _=>i < n,fun i H x H'=>H' = H /\ x = .int (lo + i),fun i _=>n <= i⟩
theorem turn_list {P:Program} {w:World} {K:PySem.W.Frag} {tg:Expr} (a it:Addr):Turn P w K tg (Itl K a) [it] it (fun i h=>h.IsListIter it a i) where
 mem:=by simp
 obj:=fun i h st b hb=>by
  have e:b = it:=by simpa using hb
  subst e
  obtain ⟨o,e,c,d⟩:=st
  exact ⟨o,e,fun v z=>by rw [d] at z; cases z⟩
 keep:=fun i h h' st k=>st.at fun o e=>k it (by simp) o e
 item:=by
  intro X hP hw hK hc i pins s σ H E I hf st hg
  subst hP hw hK
  obtain ⟨xs,x,hq,hx⟩:=hg
  obtain ⟨its,rv,p,hz⟩:=I.list hq
  obtain ⟨u,hu,ru⟩:=rv.get hx
  obtain ⟨f0,f1,f2,f3,f4,f5⟩:=hf it (by simp)
  refine wpAny_pyNext_list_item st p.isList (x:=u) (by simpa using hu) fun h' st' sb=>?_
  have I1:Inv X pins σ H { s with heap:=h' }:=I.turned (t':=s.toks) (fun b o hb e=>(sb.2 b hb).trans e) f0 f1 f3 f4 f5
  obtain ⟨o,e,c,d⟩:=id st'
  exact ⟨u,rfl,go_of (s:={ s with heap:=h' }) e c d (by decide) ⟨x,H,I1,ru,⟨rfl,fun ys hy=>by rw [I.list_inj hy hq]; exact hx⟩,st',fun b hb=>(hf b hb).1⟩⟩
 done:=by
  intro X hP hw hK hc i pins s σ H E I hf st hg
  subst hP hw hK
  obtain ⟨xs,hq,hx⟩:=hg
  obtain ⟨its,rv,p,hz⟩:=I.list hq
  obtain ⟨f0,f1,f2,f3,f4,f5⟩:=hf it (by simp)
  have hl:=rv.length
  exact wpAny_pyNext_list_end (I.ok.hd hc) st p.isList (by simp; omega) fun h' eb=>⟨rfl,I.turned (t':=s.toks) (fun b o hb e=>eb b o hb e) f0 f1 f3 f4 f5⟩
 self:=fun _ _ _ _ _ st h=>wpAny_pyIter_listiter st h
theorem turn_tuple {P:Program} {w:World} {K:PySem.W.Frag} {tg:Expr} (a it:Addr):Turn P w K tg (Itt K a) [it] it (fun i h=>h.IsTupleIter it a i) where
 mem:=by simp
 obj:=fun i h st b hb=>by
  have e:b = it:=by simpa using hb
  subst e
  obtain ⟨o,e,c,d⟩:=st
  exact ⟨o,e,fun v z=>by rw [d] at z; cases z⟩
 keep:=fun i h h' st k=>st.at fun o e=>k it (by simp) o e
 item:=by
  intro X hP hw hK hc i pins s σ H E I hf st hg
  subst hP hw hK
  obtain ⟨xs,x,hq,hx⟩:=hg
  obtain ⟨its,rv,p,hz⟩:=I.tuple hq
  obtain ⟨u,hu,ru⟩:=rv.get hx
  obtain ⟨f0,f1,f2,f3,f4,f5⟩:=hf it (by simp)
  refine wpAny_pyNext_tuple_item st (show s.heap.IsTuple a its.toArray from p) (x:=u) (by simpa using hu) fun h' st' sb=>?_
  have I1:Inv X pins σ H { s with heap:=h' }:=I.turned (t':=s.toks) (fun b o hb e=>(sb.2 b hb).trans e) f0 f1 f3 f4 f5
  obtain ⟨o,e,c,d⟩:=id st'
  exact ⟨u,rfl,go_of (s:={ s with heap:=h' }) e c d (by decide) ⟨x,H,I1,ru,⟨rfl,fun ys hy=>by rw [I.tuple_inj hy hq]; exact hx⟩,st',fun b hb=>(hf b hb).1⟩⟩
 done:=by
  intro X hP hw hK hc i pins s σ H E I hf st hg
  subst hP hw hK
  obtain ⟨xs,hq,hx⟩:=hg
  obtain ⟨its,rv,p,hz⟩:=I.tuple hq
  obtain ⟨f0,f1,f2,f3,f4,f5⟩:=hf it (by simp)
  have hl:=rv.length
  exact wpAny_pyNext_tuple_end (I.ok.hd hc) st (show s.heap.IsTuple a its.toArray from p) (by simp; omega) fun h' eb=>⟨rfl,I.turned (t':=s.toks) (fun b o hb e=>eb b o hb e) f0 f1 f3 f4 f5⟩
 self:=fun _ _ _ _ _ st h=>wpAny_pyIter_tupleiter st h
theorem turn_range {P:Program} {w:World} {K:PySem.W.Frag} {tg:Expr} (it:Addr) (lo:Int) (n:Nat):Turn P w K tg (Itr lo n) [it] it (fun i h=>IsRangeIter h it (lo + (i:Nat) * 1) ((n:Int) - (i:Nat)) 1) where
 mem:=by simp
 obj:=fun i h st b hb=>by
  have e:b = it:=by simpa using hb
  subst e
  exact ⟨_,st,fun v z=>by
   have z':Data.fields _ = Data.cell v:=z
   cases z'⟩
 keep:=fun i h h' st k=>k it (by simp) _ st
 item:=by
  intro X hP hw hK hc i pins s σ H E I hf st hg
  subst hP hw hK
  obtain ⟨f0,f1,f2,f3,f4,f5⟩:=hf it (by simp)
  have W:=Walks.range (prog:=X.prog) (w:=X.w) (I.ok.hd hc) it lo 1 n
  refine W.item i s _ _ hg st fun v h' tk hv st' kk=>?_
  obtain ⟨t,rfl⟩:=hv
  have I1:Inv X pins σ H { s with heap:=h',toks:=tk }:=I.turned (fun b o hb e=>kk b o (by simpa using hb) e) f0 f1 f3 f4 f5
  refine ⟨_,rfl,go_of (s:={ s with heap:=h',toks:=tk }) (n:="range_iterator") st' rfl rfl (by decide) ⟨.int (lo + i),H,I1,⟨t,?_⟩,⟨rfl,rfl⟩,st',fun b hb=>(hf b hb).1⟩⟩
  rw [Int.mul_one]
 done:=by
  intro X hP hw hK hc i pins s σ H E I hf st hg
  subst hP hw hK
  obtain ⟨f0,f1,f2,f3,f4,f5⟩:=hf it (by simp)
  exact wpAny_pyNext_range_end (I.ok.hd hc) st (by have:n <= i:=hg; omega) fun h' eb=>⟨rfl,I.turned (t':=s.toks) (fun b o hb e=>eb b o hb e) f0 f1 f3 f4 f5⟩
 self:=fun _ _ _ _ _ st h=>wpAny_pyIter_rangeiter st h
end L2
namespace L2
open PySem PySem.Spec PyProof.Rows
section
variable {X:Cx} {tg:Expr}
def iList (K:PySem.W.Frag) (tl:TE):TI:=fun σ H R=>tl σ H fun x H1=>∃ a,x = .ref a /\ (∃ xs,SqL K H1 a xs) /\ R (Itl K a) H1
def iTup (K:PySem.W.Frag) (tl:TE):TI:=fun σ H R=>tl σ H fun x H1=>∃ a,x = .ref a /\ (∃ xs,SqT K H1 a xs) /\ R (Itt K a) H1
theorem pi_list {l:Expr} {tl:TE} (hl:PE X l tl):PI X tg l (iList X.K tl):=by
 intro pins s σ H R I h
 refine thn (hl pins s σ H _ I h) fun v s1 ⟨x,H1,I1,r1,q1⟩=>?_
 obtain ⟨a,e,⟨xs,hq⟩,q⟩:=q1
 subst e
 cases r1
 obtain ⟨its,rv,p,hz⟩:=I1.list hq
 refine wpAny_pyIter_list p.isList ?_
 refine ⟨s1.heap.objs.size,[s1.heap.objs.size],_,_,H1,rfl,I1.kept (t':=s1.toks) fun b o e=>Heap.get?_push_of_some _ e,turn_list a _,⟨_,Heap.get?_push_size _ rfl,rfl,rfl⟩,fun b hb=>?_,q⟩
 have e:b = s1.heap.objs.size:=by simpa using hb
 subst e
 exact I1.fpOk (Nat.le_refl _) (I1.hok.fresh (Nat.le_refl _))
theorem pi_tup {l:Expr} {tl:TE} (hl:PE X l tl):PI X tg l (iTup X.K tl):=by
 intro pins s σ H R I h
 refine thn (hl pins s σ H _ I h) fun v s1 ⟨x,H1,I1,r1,q1⟩=>?_
 obtain ⟨a,e,⟨xs,hq⟩,q⟩:=q1
 subst e
 cases r1
 obtain ⟨its,rv,p,hz⟩:=I1.tuple hq
 refine wpAny_pyIter_tuple (show s1.heap.IsTuple a its.toArray from p) ?_
 refine ⟨s1.heap.objs.size,[s1.heap.objs.size],_,_,H1,rfl,I1.kept (t':=s1.toks) fun b o e=>Heap.get?_push_of_some _ e,turn_tuple a _,⟨_,Heap.get?_push_size _ rfl,rfl,rfl⟩,fun b hb=>?_,q⟩
 have e:b = s1.heap.objs.size:=by simpa using hb
 subst e
 exact I1.fpOk (Nat.le_refl _) (I1.hok.fresh (Nat.le_refl _))
theorem range_it {pins:List (Addr × Obj)} {σ:St} {H:Hp} {s:Shared} {R:It -> Hp -> Prop} {E:Value -> Shared -> Prop} {lo hi:Int} {t u v:Tok} {tk:Nat} (I:Inv X pins σ H s) (h1 : -(2 ^ 62) <= lo) (h2:lo < 2 ^ 62) (h3 : -(2 ^ 62) <= hi) (h4:hi < 2 ^ 62)
  (q:R (Itr lo (hi - lo).toNat) H):wpAny (model X.prog X.w) X.A (pyIter (.ref s.heap.objs.size)) (PIE X pins σ tg R) E { s with heap:=s.heap.push { cls:=.type "range",data:=.fields #[.int lo t,.int hi u,.int 1 v] },toks:=tk }:=by
 refine wpAny_pyIter_range (IsRange.new ..) (small_one h1 h2 h3 h4) ?_
 have I1:Inv X pins σ H { s with heap:=s.heap.push { cls:=.type "range",data:=.fields #[.int lo t,.int hi u,.int 1 v] },toks:=tk }:=I.kept fun b o e=>Heap.get?_push_of_some _ e
 refine ⟨(s.heap.push { cls:=.type "range",data:=.fields #[.int lo t,.int hi u,.int 1 v] }).objs.size,[(s.heap.push { cls:=.type "range",data:=.fields #[.int lo t,.int hi u,.int 1 v] }).objs.size],_,_,H,rfl,
  I1.kept (t':=tk) fun b o e=>Heap.get?_push_of_some _ e,turn_range _ lo (hi - lo).toNat,?_,fun b hb=>?_,q⟩
 ·have e1:lo + ((0:Nat):Int) * 1 = lo:=by simp
  have e2:(((hi - lo).toNat:Nat):Int) - ((0:Nat):Int) = Builtin.Range.rangeSize lo hi 1:=by rw [rangeSize_one]; split <;> omega
  show IsRangeIter _ _ (lo + ((0:Nat):Int) * 1) ((((hi - lo).toNat:Nat):Int) - ((0:Nat):Int)) 1
  rw [e1,e2]
  exact Heap.get?_push_size _ rfl
 ·have e:b = (s.heap.push { cls:=.type "range",data:=.fields #[.int lo t,.int hi u,.int 1 v] }).objs.size:=by simpa using hb
  subst e
  exact I1.fpOk (Nat.le_refl _) (I1.hok.fresh (Nat.le_refl _))
def iRng1 (ta:TA):TI:=fun σ H R=>ta σ H fun vs H1=>∃ j:Int,vs = [.int j] /\ -(2 ^ 62) <= j /\ j < 2 ^ 62 /\ R (Itr 0 j.toNat) H1
theorem pi_range1 {a:Expr} {ta:TA} {p pos:Pos} (hg:Gl X "range") (hm:X.mg "range" = none) (ha:PA X [a] ta) (hs:starEach [a] X.env = [(false,eval a X.env)]:=by rfl):PI X tg (.Call (.Name "range" p) [a] [] pos) (iRng1 ta):=by
 intro pins s σ H R I h
 refine Call_ (ld_blt I hg hm boot_range (PyProof.Rows.callWith_type1 (thn (ha pos pins s σ H _ I h) fun us s1 ⟨vs,H1,I1,r1,q1⟩=>?_) hs rfl))
 obtain ⟨j,e,q1,q2,q⟩:=q1
 subst e
 cases r1 with
 | cons r rr =>
  cases rr
  obtain ⟨t,rfl⟩:=r
  exact call_range_1 (range_it I1 (by omega) (by omega) q1 q2 (by simpa using q))
def tFor (wi:TI) (g:TG) (tb:TS):TS:=fun D σ H=>wi σ H fun J H1=>∃ W:Nat -> Nat -> St -> Hp -> Prop,(∃ m,W 0 m σ H1) /\ ∀ i m σ H,W i m σ H ->
 (J.stop i H /\ D.nx σ H) ∨ (J.go i H /\ ∃ N:St -> Hp -> Prop,(∀ σ' H',N σ' H' -> ∃ m',m' < m /\ W (i + 1) m' σ' H') /\ ∀ x H',J.yld i H x H' -> g x σ H' fun σ2 H2=>tb { D with nx:=N,ct:=N,bk:=D.nx } σ2 H2)
def pinsAt (fp:List Addr) (h:Heap):List (Addr × Obj):=fp.filterMap fun b=>(h.get? b).map fun o=>(b,o)
theorem mem_pinsAt {fp:List Addr} {h:Heap} {b:Addr} {o:Obj} (hb:b ∈ fp) (e:h.get? b = some o):(b,o) ∈ pinsAt fp h:=List.mem_filterMap.mpr ⟨b,hb,by rw [e]; rfl⟩
theorem of_pinsAt {fp:List Addr} {h:Heap} {p:Addr × Obj} (hp:p ∈ pinsAt fp h):p.1 ∈ fp /\ h.get? p.1 = some p.2:=by
 obtain ⟨b,hb,e⟩:=List.mem_filterMap.mp hp
 cases q:h.get? b with
 | none=>rw [q] at e; cases e
 | some o =>
  rw [q] at e
  have e':(b,o) = p:=Option.some.inj e
  subst e'
  exact ⟨hb,q⟩
theorem Inv.pinned {pins:List (Addr × Obj)} {σ:St} {H:Hp} {s:Shared} {fp:List Addr} (I:Inv X pins σ H s) (hf:∀ b ∈ fp,FpOk X pins H b) (ho:∀ b ∈ fp,∃ o,s.heap.get? b = some o /\ ∀ v,o.data ≠ .cell v):Inv X (pins ++ pinsAt fp s.heap) σ H s :=
 I.pins_of fun p hp=>(List.mem_append.mp hp).elim (fun z=>I.pin p (List.mem_append_right _ z)) fun z=>by
  obtain ⟨hb,e⟩:=of_pinsAt z
  obtain ⟨f0,f1,f2,_⟩:=hf p.1 hb
  obtain ⟨o,e',d⟩:=ho p.1 hb
  rw [e] at e'; cases e'
  exact ⟨e,f0,f1,f2,d⟩
theorem Inv.unpinned {pins pl:List (Addr × Obj)} {σ:St} {H:Hp} {s:Shared} (I:Inv X (pins ++ pl) σ H s):Inv X pins σ H s:=I.pins_of fun p hp=>I.pin p (List.mem_append_right _ (List.mem_append_left _ hp))
theorem ps_for {iter:Expr} {body:List Stmt} {wi:TI} {g:TG} {tb:TS} {pos:Pos} (hp:PassesOwn (model X.prog X.w) X.A X.env X.xe) (hc:X.calm = true) (hi:PI X tg iter wi) (hg:PG X tg g) (hb:PSs X body tb)
  (hs:∀ x,foldedSetIterable iter X.env x = pure x:=by intro _; rfl):PS X (.For tg iter body [] pos) (tFor wi g tb):=by
 intro pins s σ H D I h
 refine wpAny_For (thn (hi pins s σ H _ I h) fun v s1 h1=>thn h1 fun itv s2 h2=>?_) hs
 obtain ⟨it,fp,tn,J,H2,e,I2,T,st2,f2,W,⟨m0,w0⟩,turn⟩:=h2
 subst e
 -- what stays true of the iterator's objects through the loop
 have stat:∀ {H':Hp},(∀ b ∈ fp,H' b = none) -> ∀ b ∈ fp,FpOk X pins H' b:=fun hn b hb=>⟨hn b hb,(f2 b hb).2⟩
 refine codeAny_forLoop_any (fun n s'=>∃ i σ' H',Inv X pins σ' H' s' /\ tn i s'.heap /\ (∀ b ∈ fp,H' b = none) /\ W i n σ' H') ?_ m0 ⟨0,σ,H2,I2,st2,fun b hb=>(f2 b hb).1,w0⟩
 rintro n s3 ⟨i,σ3,H3,I3,st3,fr3,w3⟩
 rcases turn i n σ3 H3 w3 with ⟨stop,qn⟩ | ⟨go,N,hN,step⟩
 ·refine wpAny_passesOwn hp (thn (T.done X rfl rfl rfl hc i pins s3 σ3 H3 X.xe I3 (stat fr3) st3 stop) fun r s4 ⟨hr,I4⟩=>?_)
  subst hr
  exact wpAny_execs_nil ⟨σ3,H3,I4,qn⟩
 ·refine wpAny_passesOwn hp (thn (T.item X rfl rfl rfl hc i pins s3 σ3 H3 X.xe I3 (stat fr3) st3 go) fun r s4 ⟨u,hr,h4⟩=>?_)
  subst hr
  refine wpAny_passesOwn hp (thn h4 fun _ s5 ⟨x,H5,I5,r5,y5,st5,fr5⟩=>?_)
  have I5':=I5.pinned (stat fr5) (T.obj _ _ st5)
  refine wpAny_passesOwn hp (thn (hg _ s5 σ3 H5 x u _ I5' r5 (step x H5 y5)) fun _ s6 ⟨σ6,H6,I6,q6⟩=>?_)
  refine wpAny_passesOwn hp (thn (hb _ s6 σ6 H6 _ I6 q6) fun f s7 q7=>?_)
  have again:∀ {σ7:St} {H7:Hp},Inv X (pins ++ pinsAt fp s5.heap) σ7 H7 s7 -> N σ7 H7 -> ∃ m,m < n /\ ∃ i σ' H',Inv X pins σ' H' s7 /\ tn i s7.heap /\ (∀ b ∈ fp,H' b = none) /\ W i m σ' H':=fun {σ7 H7} I7 n7=>by
   obtain ⟨m',hm,w7⟩:=hN σ7 H7 n7
   refine ⟨m',hm,i + 1,σ7,H7,I7.unpinned,T.keep _ _ _ st5 fun b hb o e=>(I7.pin (b,o) (List.mem_append_right _ (List.mem_append_right _ (mem_pinsAt hb e)))).1,fun b hb=>?_,w7⟩
   obtain ⟨o,e,d⟩:=T.obj _ _ st5 b hb
   exact (I7.pin (b,o) (List.mem_append_right _ (List.mem_append_right _ (mem_pinsAt hb e)))).2.1
  cases f with
  | next=>obtain ⟨σ7,H7,I7,n7⟩:=q7; exact again I7 n7
  | cont=>obtain ⟨σ7,H7,I7,n7⟩:=q7; exact again I7 n7
  | brk=>obtain ⟨σ7,H7,I7,q7⟩:=q7; exact ⟨σ7,H7,I7.unpinned,q7⟩
  | ret v=>obtain ⟨x7,σ7,H7,I7,r7,q7⟩:=q7; exact ⟨x7,σ7,H7,I7.unpinned,r7,q7⟩
end
end L2
namespace L2
open PySem PySem.Spec PyProof.Rows
abbrev R2:=V -> V -> Hp -> VK -> Prop
def OpR (X:Cx) (f:Value -> Value -> Sem Value) (r:R2):Prop :=
 ∀ (pins:List (Addr × Obj)) (s:Shared) (σ:St) (H:Hp) (x y:V) (v u:Value) (Q:VK),Inv X pins σ H s -> RelV x v -> RelV y u -> r x y H Q ->
  wpAny (model X.prog X.w) X.A (f v u) (EP X pins σ Q) X.xe s
def UnR (X:Cx) (f:Value -> Sem Value) (r:V -> Hp -> VK -> Prop):Prop :=
 ∀ (pins:List (Addr × Obj)) (s:Shared) (σ:St) (H:Hp) (x:V) (v:Value) (Q:VK),Inv X pins σ H s -> RelV x v -> r x H Q ->
  wpAny (model X.prog X.w) X.A (f v) (EP X pins σ Q) X.xe s
def CallR (X:Cx) (f:Value) (r:List V -> Hp -> VK -> Prop):Prop :=
 ∀ (pins:List (Addr × Obj)) (s:Shared) (σ:St) (H:Hp) (xs:List V) (us:List Value) (Q:VK),Inv X pins σ H s -> Vals xs us -> r xs H Q ->
  wpAny (model X.prog X.w) X.A (call f us) (EP X pins σ Q) X.xe s
def tOp (r:R2) (ta tb:TE):TE:=fun σ H Q=>ta σ H fun x H1=>tb σ H1 fun y H2=>r x y H2 Q
def tUn (r:V -> Hp -> VK -> Prop) (ta:TE):TE:=fun σ H Q=>ta σ H fun x H1=>r x H1 Q
def rI (C:Int -> Int -> Prop) (g:Int -> Int -> V):R2:=fun x y H Q=>∃ i j,x = .int i /\ y = .int j /\ C i j /\ Q (g i j) H
def rI0 (g:Int -> Int -> V):R2:=fun x y H Q=>∃ i j,x = .int i /\ y = .int j /\ Q (g i j) H
def rU (g:Int -> V):V -> Hp -> VK -> Prop:=fun x H Q=>∃ i,x = .int i /\ Q (g i) H
section
variable {X:Cx} {a b c:Expr} {ta tb tc:TE} {pos:Pos}
theorem binT (ha:PE X a ta) (hb:PE X b tb) {pins:List (Addr × Obj)} {s:Shared} {σ:St} {H:Hp} {R:V -> V -> Hp -> Prop} (I:Inv X pins σ H s)
  (h:ta σ H fun x H1=>tb σ H1 fun y H2=>R x y H2) {Q:Value -> Shared -> Prop} {f:Value -> Value -> Sem Value}
  (hf:∀ v u s2 x y H2,Inv X pins σ H2 s2 -> RelV x v -> RelV y u -> R x y H2 -> wpAny (model X.prog X.w) X.A (f v u) Q X.xe s2) :
  wpAny (model X.prog X.w) X.A (eval a X.env) (fun v s₁=>wpAny (model X.prog X.w) X.A (eval b X.env) (fun u s₂=>wpAny (model X.prog X.w) X.A (f v u) Q X.xe s₂) X.xe s₁) X.xe s:=by
 refine thn (ha pins s σ H _ I h) fun v s1 ⟨x,H1,I1,r1,q1⟩=>?_
 refine thn (hb pins s1 σ H1 _ I1 q1) fun u s2 ⟨y,H2,I2,r2,q2⟩=>?_
 exact hf v u s2 x y H2 I2 r1 r2 q2
theorem pe_op {op:Operator} {r:R2} (ho:OpR X (binaryOp op) r) (ha:PE X a ta) (hb:PE X b tb):PE X (.BinOp a op b pos) (tOp r ta tb):=by
 intro pins s σ H Q I h
 exact wpAny_BinOp (binT ha hb I h fun v u s2 x y H2 I2 rx ry q=>ho pins s2 σ H2 x y v u Q I2 rx ry q)
theorem pe_un {op:UnaryOp} {r:V -> Hp -> VK -> Prop} (ho:UnR X (unaryOp op) r) (ha:PE X a ta):PE X (.UnaryOp op a pos) (tUn r ta):=by
 intro pins s σ H Q I h
 exact UnaryOp_ (thn (ha pins s σ H _ I h) fun v s1 ⟨x,H1,I1,r1,q1⟩=>ho pins s1 σ H1 x v Q I1 r1 q1)
theorem opI {f:Value -> Value -> Sem Value} {C:Int -> Int -> Prop} {g:Int -> Int -> Int}
  (rule:∀ (i j:Int) (t u:Tok) (s:Shared) (Q:Value -> Shared -> Prop) (E:Value -> Shared -> Prop),C i j -> Q (.int (g i j) s.toks) { s with toks:=s.toks + 1 } -> wpAny (model X.prog X.w) X.A (f (.int i t) (.int j u)) Q E s) :
  OpR X f (rI C fun i j=>.int (g i j)):=by
 intro pins s σ H x y v u Q I rx ry h
 obtain ⟨i,j,rfl,rfl,hc,q⟩:=h
 obtain ⟨t,rfl⟩:=rx
 obtain ⟨t',rfl⟩:=ry
 exact rule i j t t' s _ _ hc ⟨.int (g i j),H,I.tok _,⟨_,rfl⟩,q⟩
theorem opI0 {f:Value -> Value -> Sem Value} {g:Int -> Int -> Int}
  (rule:∀ (i j:Int) (t u:Tok) (s:Shared) (Q:Value -> Shared -> Prop) (E:Value -> Shared -> Prop),Q (.int (g i j) s.toks) { s with toks:=s.toks + 1 } -> wpAny (model X.prog X.w) X.A (f (.int i t) (.int j u)) Q E s) :
  OpR X f (rI0 fun i j=>.int (g i j)):=by
 intro pins s σ H x y v u Q I rx ry h
 obtain ⟨i,j,rfl,rfl,q⟩:=h
 obtain ⟨t,rfl⟩:=rx
 obtain ⟨t',rfl⟩:=ry
 exact rule i j t t' s _ _ ⟨.int (g i j),H,I.tok _,⟨_,rfl⟩,q⟩
theorem opB0 {f:Value -> Value -> Sem Value} {g:Int -> Int -> Bool}
  (rule:∀ (i j:Int) (t u:Tok) (s:Shared) (Q:Value -> Shared -> Prop) (E:Value -> Shared -> Prop),Q (.bool (g i j)) s -> wpAny (model X.prog X.w) X.A (f (.int i t) (.int j u)) Q E s) :
  OpR X f (rI0 fun i j=>.bl (g i j)):=by
 intro pins s σ H x y v u Q I rx ry h
 obtain ⟨i,j,rfl,rfl,q⟩:=h
 obtain ⟨t,rfl⟩:=rx
 obtain ⟨t',rfl⟩:=ry
 exact rule i j t t' s _ _ ⟨.bl (g i j),H,I,rfl,q⟩
def CPow (i j:Int):Prop:=0 <= j /\ j <= 1000000 /\ i.natAbs < 2 ^ 64
def CMul (i j:Int):Prop:=(-(2 ^ 64) < i /\ i < 2 ^ 64) ∨ (-(2 ^ 64) < j /\ j < 2 ^ 64)
theorem CMul.ok {i j:Int} (h:CMul i j):IntMulOk i j:=by
 rcases h with ⟨h1,h2⟩ | ⟨h1,h2⟩
 ·exact .of_left (intBits_le_64 h1 h2)
 ·exact .of_right (intBits_le_64 h1 h2)
theorem op_add:OpR X (binaryOp .Add) (rI0 fun i j=>.int (i + j)):=opI0 fun _ _ _ _ _ _ _ q=>add_int q
theorem op_sub:OpR X (binaryOp .Sub) (rI0 fun i j=>.int (i - j)):=opI0 fun _ _ _ _ _ _ _ q=>sub_int q
theorem op_mod:OpR X (binaryOp .Mod) (rI (fun _ j=>0 < j) fun i j=>.int (i % j)):=opI fun i j _ _ _ _ _ hc q=>by
 have h1:(0:Int) < j:=hc
 exact mod_int' (by omega) (by rw [Int.fmod_eq_emod_of_nonneg i (by omega)]; exact q)
theorem op_modN:OpR X (binaryOp .Mod) (rI (fun _ j=>j ≠ 0) fun i j=>.int (i.fmod j)):=opI fun _ _ _ _ _ _ _ hc q=>mod_int' hc q
theorem op_pow:OpR X (binaryOp .Pow) (rI CPow fun i j=>.int (i ^ j.toNat)):=opI fun _ _ _ _ _ _ _ hc q=>pow_int_small hc.1 hc.2.1 hc.2.2 q
theorem unI {f:Value -> Sem Value} {g:Int -> Int}
  (rule:∀ (i:Int) (t:Tok) (s:Shared) (Q:Value -> Shared -> Prop) (E:Value -> Shared -> Prop),Q (.int (g i) s.toks) { s with toks:=s.toks + 1 } -> wpAny (model X.prog X.w) X.A (f (.int i t)) Q E s) :
  UnR X f (rU fun i=>.int (g i)):=by
 intro pins s σ H x v Q I rx h
 obtain ⟨i,rfl,q⟩:=h
 obtain ⟨t,rfl⟩:=rx
 exact rule i t s _ _ ⟨.int (g i),H,I.tok _,⟨_,rfl⟩,q⟩
theorem un_neg:UnR X (unaryOp .USub) (rU fun i=>.int (-i)):=unI fun _ _ _ _ _ q=>neg_int q
end
def scal:V -> V -> Bool
 | .non,.non=>true | .non,.int _=>true | .int _,.non=>true | .non,.bl _=>true | .bl _,.non=>true | .non,.str _=>true | .str _,.non=>true
 | .int _,.int _=>true | .bl _,.bl _=>true | .str _,.str _=>true | .byt _,.byt _=>true
 | .int _,.str _=>true | .str _,.int _=>true | .bl _,.str _=>true | .str _,.bl _=>true
 | _,_=>false
def rEq:R2:=fun x y H Q=>scal x y = true /\ Q (.bl (decide (x = y))) H
theorem dec_int {i j:Int}:decide (V.int i = V.int j) = (i == j):=by
 rw [Bool.eq_iff_iff]
 simp
theorem dec_bl {i j:Bool}:decide (V.bl i = V.bl j) = (i == j):=by
 rw [Bool.eq_iff_iff]
 simp
theorem dec_str {i j:Str}:decide (V.str i = V.str j) = (i == j):=by
 rw [Bool.eq_iff_iff]
 simp
theorem dec_byt {i j:Array UInt8}:decide (V.byt i = V.byt j) = (i.toList == j.toList):=by
 rw [Bool.eq_iff_iff]
 cases i
 cases j
 simp
section
variable {X:Cx} {a b c:Expr} {ta tb tc:TE} {pos:Pos}
theorem fin_bl {pins:List (Addr × Obj)} {σ:St} {H:Hp} {s:Shared} {Q:VK} {k k':Bool} (I:Inv X pins σ H s) (q:Q (.bl k) H) (e:k = k'):EP X pins σ Q (.bool k') s:=by
 subst e
 exact ⟨.bl k,H,I,rfl,q⟩
theorem op_eq:OpR X (compareOp .Eq) rEq:=by
 intro pins s σ H x y v u Q I rx ry h
 obtain ⟨hs,q⟩:=h
 cases x with
 | non =>
  cases rx
  cases y with
  | non=>cases ry; exact PySem.EqNone.eq_none_none (fin_bl I q (by simp))
  | bl j=>cases ry; exact PySem.EqNone.eq_none_bool (fin_bl I q (by simp))
  | int j=>obtain ⟨t',rfl⟩:=ry; exact PySem.EqNone.eq_none_int (fin_bl I q (by simp))
  | str j=>obtain ⟨t',rfl⟩:=ry; exact PySem.EqNone.eq_none_str (fin_bl I q (by simp))
  | _=>exact absurd (show false = true from hs) Bool.false_ne_true
 | bl i =>
  cases rx
  cases y with
  | non=>cases ry; exact PySem.EqNone.eq_bool_none (fin_bl I q (by simp))
  | bl j=>cases ry; exact eq_bool (fin_bl I q dec_bl)
  | str j=>obtain ⟨t',rfl⟩:=ry; exact PySem.EqMixed.eq_bool_str (fin_bl I q (by simp))
  | _=>exact absurd (show false = true from hs) Bool.false_ne_true
 | int i =>
  obtain ⟨t,rfl⟩:=rx
  cases y with
  | non=>cases ry; exact PySem.EqNone.eq_int_none (fin_bl I q (by simp))
  | int j=>obtain ⟨t',rfl⟩:=ry; exact eq_int (fin_bl I q dec_int)
  | str j=>obtain ⟨t',rfl⟩:=ry; exact PySem.EqMixed.eq_int_str (fin_bl I q (by simp))
  | _=>exact absurd (show false = true from hs) Bool.false_ne_true
 | str i =>
  obtain ⟨t,rfl⟩:=rx
  cases y with
  | non=>cases ry; exact PySem.EqNone.eq_str_none (fin_bl I q (by simp))
  | bl j=>cases ry; exact PySem.EqMixed.eq_str_bool (fin_bl I q (by simp))
  | int j=>obtain ⟨t',rfl⟩:=ry; exact PySem.EqMixed.eq_str_int (fin_bl I q (by simp))
  | str j=>obtain ⟨t',rfl⟩:=ry; exact eq_str (fin_bl I q dec_str)
  | _=>exact absurd (show false = true from hs) Bool.false_ne_true
 | byt i =>
  obtain ⟨t,rfl⟩:=rx
  cases y with
  | byt j=>obtain ⟨t',rfl⟩:=ry; exact PySem.W.eq_bytes (fin_bl I q dec_byt)
  | _=>exact absurd (show false = true from hs) Bool.false_ne_true
 | _=>cases y <;> exact absurd (show false = true from hs) Bool.false_ne_true
theorem op_lt:OpR X (compareOp .Lt) (rI0 fun i j=>.bl (decide (i < j))):=opB0 fun _ _ _ _ _ _ _ q=>lt_int q
theorem op_le:OpR X (compareOp .LtE) (rI0 fun i j=>.bl (decide (i <= j))):=opB0 fun _ _ _ _ _ _ _ q=>le_int q
theorem op_gt:OpR X (compareOp .Gt) (rI0 fun i j=>.bl (decide (j < i))):=opB0 fun _ _ _ _ _ _ _ q=>gt_int q
theorem op_ge:OpR X (compareOp .GtE) (rI0 fun i j=>.bl (decide (j <= i))):=opB0 fun _ _ _ _ _ _ _ q=>ge_int q
theorem op_isN:OpR X (compareOp .Is) (fun x y H Q=>y = .non /\ Q (.bl (decide (x = .non))) H):=by
 intro pins s σ H x y v u Q I rx ry h
 obtain ⟨rfl,q⟩:=h
 cases ry
 refine is_none_gen (fin_bl I q ?_)
 cases x <;> first
  | (cases rx; rfl)
  | (obtain ⟨t,rfl⟩:=rx; rfl)
theorem op_notN:OpR X (compareOp .IsNot) (fun x y H Q=>y = .non /\ Q (.bl (!decide (x = .non))) H):=by
 intro pins s σ H x y v u Q I rx ry h
 obtain ⟨rfl,q⟩:=h
 cases ry
 refine isnot_none_gen (fin_bl I q ?_)
 cases x <;> first
  | (cases rx; rfl)
  | (obtain ⟨t,rfl⟩:=rx; rfl)
theorem OpR.or {f:Value -> Value -> Sem Value} {r r':R2} (h:OpR X f r) (h':OpR X f r'):OpR X f (fun x y H Q=>r x y H Q ∨ r' x y H Q):=by
 intro pins s σ H x y v u Q I rx ry q
 rcases q with q | q
 ·exact h pins s σ H x y v u Q I rx ry q
 ·exact h' pins s σ H x y v u Q I rx ry q
theorem nomark (b:Expr) {op:CmpOp} (h:op ≠ .In:=by decide) (h2:op ≠ .NotIn:=by decide):behindInMarks op b = false:=by
 have e1:(op == CmpOp.In) = false:=by cases op <;> first | rfl | exact absurd rfl h
 have e2:(op == CmpOp.NotIn) = false:=by cases op <;> first | rfl | exact absurd rfl h2
 cases b <;> simp [behindInMarks,e1,e2]
theorem pe_cmpR {op:CmpOp} {r:R2} (ho:OpR X (compareOp op) r) (ha:PE X a ta) (hb:PE X b tb) (hm:behindInMarks op b = false):PE X (.Compare a [op] [b] pos) (tOp r ta tb):=by
 intro pins s σ H Q I h
 exact wpAny_Compare1 (binT ha hb I h fun v u s2 x y H2 I2 rx ry q=>ho pins s2 σ H2 x y v u Q I2 rx ry q) hm
def tTest (t:TE):TT:=fun σ H Q=>t σ H fun x H'=>∃ k,x = .bl k /\ Q k H'
theorem pt_cmpR {op:CmpOp} {r:R2} (ho:OpR X (compareOp op) r) (ha:PE X a ta) (hb:PE X b tb) (hm:behindInMarks op b = false):PT X (.Compare a [op] [b] pos) (tTest (tOp r ta tb)):=by
 intro pins s σ H Q I h
 refine wpAny_isTrue_Compare1 (thn (ha pins s σ H _ I h) fun v s1 ⟨x,H1,I1,r1,q1⟩=>thn (hb pins s1 σ H1 _ I1 q1) fun u s2 ⟨y,H2,I2,r2,q2⟩ =>
  thn (ho pins s2 σ H2 x y v u _ I2 r1 r2 q2) fun c s3 ⟨z,H3,I3,r3,k,e,q3⟩=>?_) hm
 subst e
 cases r3
 exact wpAny_truthy_bool ⟨H3,I3,q3⟩
def tChain (r r':R2) (ta tb tc:TE):TE:=fun σ H Q=>ta σ H fun x H1=>tb σ H1 fun y H2=>r x y H2 fun z H3=>∃ k,z = .bl k /\
 (if k = true then tc σ H3 fun w' H4=>r' y w' H4 Q else Q (.bl false) H3)
theorem pe_chain {op op':CmpOp} {r r':R2} (ho:OpR X (compareOp op) r) (ho':OpR X (compareOp op') r') (ha:PE X a ta) (hb:PE X b tb) (hc:PE X c tc)
  (hm:lastMarks [op,op'] [b,c] = false:=by with_unfolding_all rfl):PE X (.Compare a [op,op'] [b,c] pos) (tChain r r' ta tb tc):=by
 intro pins s σ H Q I h
 refine Compare_chain (thn (ha pins s σ H _ I h) fun v s1 ⟨x,H1,I1,r1,q1⟩=>chain_link (thn (hb pins s1 σ H1 _ I1 q1) fun u s2 ⟨y,H2,I2,r2,q2⟩ =>
  thn (ho pins s2 σ H2 x y v u _ I2 r1 r2 q2) fun d s3 ⟨z,H3,I3,r3,k,e,q3⟩=>?_)) hm
 subst e
 cases r3
 refine wpAny_truthy_bool ?_
 cases k with
 | false=>exact ite_ff ⟨.bl false,H3,I3,rfl,q3⟩
 | true=>exact ite_tt (chain_last (thn (hc pins s3 σ H3 _ I3 q3) fun w' s4 ⟨z',H4,I4,r4,q4⟩=>ho' pins s4 σ H4 y z' u w' Q I4 r2 r4 q4))
theorem line63:(sizeLine:Nat) < 2 ^ 63:=by rw [sizeLine_eq]; decide
theorem vals1 {x:V} {us:List Value} (r:Vals [x] us):∃ u,us = [u] /\ RelV x u:=by
 cases r with
 | cons r1 r2=>cases r2; exact ⟨_,rfl,r1⟩
theorem vals2 {x y:V} {us:List Value} (r:Vals [x,y] us):∃ u w',us = [u,w'] /\ RelV x u /\ RelV y w':=by
 cases r with
 | cons r1 r2 =>
  cases r2 with
  | cons r3 r4=>cases r4; exact ⟨_,_,rfl,r1,r3⟩
theorem call_abs:CallR X (.builtin "abs") (fun xs H Q=>∃ i,xs = [.int i] /\ Q (.int (if i < 0 then -i else i)) H):=by
 intro pins s σ H xs us Q I r h
 obtain ⟨i,rfl,q⟩:=h
 obtain ⟨u,rfl,t,rfl⟩:=vals1 r
 exact call_abs_int fun u tk=>⟨.int (if i < 0 then -i else i),H,I.tok _,⟨_,rfl⟩,q⟩
theorem call_int1:CallR X (.type "int") (fun xs H Q=>(∃ i,xs = [.int i] /\ Q (.int i) H) ∨ ∃ k,xs = [.bl k] /\ Q (.int (if k then 1 else 0)) H):=by
 intro pins s σ H xs us Q I r h
 rcases h with ⟨i,rfl,q⟩ | ⟨k,rfl,q⟩
 ·obtain ⟨u,rfl,t,rfl⟩:=vals1 r
  exact call_int_int ⟨.int i,H,I,⟨_,rfl⟩,q⟩
 ·obtain ⟨u,rfl,r1⟩:=vals1 r
  cases r1
  exact call_int_bool ⟨.int (if k then 1 else 0),H,I.tok _,⟨_,rfl⟩,q⟩
end
end L2
namespace L2
open PySem PySem.Spec PyProof.Rows
structure ObjM (h:Heap) (x dx C:Addr) (mA:Str -> Option Value):Prop where
 obj:h.get? x = some (PySem.W.instObj C dx)
 ns:h.Ns1 dx mA
 ne:dx ≠ x
theorem lookIn_ns {h:Heap} {dx:Addr} {mA:Str -> Option Value} (n:h.Ns1 dx mA):∃ od,h.get? dx = some od /\ ∀ name,PySem.W.lookIn name od = some (mA name):=by
 obtain ⟨o,es,ep,ho,hd,hk,_,hm⟩:=n
 refine ⟨o,ho,fun name=>?_⟩
 have e:=hm name
 unfold nsFind findBy at e
 rw [← Array.find?_toList] at e
 unfold PySem.W.lookIn
 rw [hd]
 dsimp only
 split
 ·rename_i y q
  rw [q] at e
  exact congrArg some e
 ·rename_i q
  rw [q] at e
  have a:es.toList.any (·.refKey) = false:=by
   rw [List.any_eq_false]
   intro y hy
   obtain ⟨z,t,hkey⟩:=hk y (Array.mem_toList_iff.mp hy)
   simp [DictEntry.refKey,hkey]
  have a':¬ es.toList.any (·.refKey) = true:=by rw [a]; exact Bool.false_ne_true
  rw [if_neg a']
  exact congrArg some e
theorem ObjM.look {h:Heap} {x dx C:Addr} {mA:Str -> Option Value} (I:ObjM h x dx C mA):∃ od,PySem.W.InstAt h x (PySem.W.instObj C dx) C (some od) /\ ∀ name,PySem.W.lookIn name od = some (mA name) :=
 let ⟨od,ho,hl⟩:=lookIn_ns I.ns
 ⟨od,⟨I.obj,rfl,rfl,ho⟩,hl⟩
section
variable {prog:Program} {w:World} {A:Around} {E:Value -> Shared -> Prop} {s:Shared} {K:PySem.W.Frag} {x dx C f:Addr} {mA:Str -> Option Value} {name:Str} {v:Value}
end
section
variable {P:Program} {w:World} {H H':Hp} {h h':Heap} {a C dx:Addr} {fs fs':List (Str × V)}
theorem ins_get (hok:HOk P w H h) (e:H a = some (.ins C dx fs)):∃ mA,ObjM h a dx C mA /\ (∀ f,RelO (fs.lookup f) (mA f)) /\ PySem.Within mA (fs.map (·.1)) /\ fs.length <= 1000 /\ H dx = some (.own a):=by
 obtain ⟨d,z,ne,ob,mA,n,r,q⟩:=(show ObjOk P w H h a (.ins C dx fs) from hok a _ e)
 exact ⟨mA,⟨ob,n,ne⟩,r,q,z,d⟩
end
structure Cls (K:PySem.W.Frag) (C:Addr):Prop where
 pg:PySem.W.plainGet K C Str.empty = true
 hd:PySem.W.hasDictIn K C = true
 po:PySem.W.plainOver K C = true
 sa:PySem.W.findIn K (.ref C) "__setattr__" = some (some (.builtin "object.__setattr__"))
theorem Cls.get {K:PySem.W.Frag} {C:Addr} (c:Cls K C) (f:Str):PySem.W.plainGet K C f = true:=c.pg
structure Con (K:PySem.W.Frag) (C:Addr) (f:Str) (v:V) (u:Value):Prop where
 at_:PySem.W.findIn K (.ref C) f = some (some u)
 rel:RelV v u
 get:PySem.W.specialIn K u "__get__" = some none
 cp:PySem.W.copiedNames.contains f = false
structure Meth (K:PySem.W.Frag) (C:Addr) (m:Str) (f:Addr):Prop where
 at_:PySem.W.findIn K (.ref C) m = some (some (.ref f))
 fn:PySem.W.isFn K (.ref f) = true
 kp:PySem.W.keepIn K (.ref f) = true
section
variable {X:Cx} {pins:List (Addr × Obj)} {σ:St} {H:Hp} {s:Shared} {a C dx:Addr} {fs:List (Str × V)} {f:Str} {v:V} {A:Around} {E:Value -> Shared -> Prop}
theorem Inv.made (I:Inv X pins σ H s):Inv X pins σ (upd (upd H s.heap.objs.size (.own (s.heap.objs.size + 1))) (s.heap.objs.size + 1) (.ins C s.heap.objs.size []))
  { s with heap:=(s.heap.push PySem.W.emptyDict).push (PySem.W.instObj C s.heap.objs.size) }:=by
 have e1:(s.heap.push PySem.W.emptyDict).get? s.heap.objs.size = some PySem.W.emptyDict:=Heap.get?_push_size s.heap rfl
 have e2:((s.heap.push PySem.W.emptyDict).push (PySem.W.instObj C s.heap.objs.size)).get? (s.heap.objs.size + 1) = some (PySem.W.instObj C s.heap.objs.size):=by
  have:=Heap.get?_push_size (s.heap.push PySem.W.emptyDict) (o:=PySem.W.instObj C s.heap.objs.size) rfl
  rwa [Heap.size_push] at this
 have e3:(s.heap.push PySem.W.emptyDict).Ns s.heap.objs.size (fun _=>none):=⟨PySem.W.emptyDict,#[],_,e1,rfl,(fun e he=>absurd he (by simp)),fun _=>rfl⟩
 have I1:=I.laid (a:=s.heap.objs.size) (o:=.own (s.heap.objs.size + 1)) (h':=s.heap.push PySem.W.emptyDict) (t':=s.toks) (fun b u q=>Heap.get?_push_of_some _ q) (Nat.le_refl _) ⟨_,e1⟩
 refine I1.laid (a:=s.heap.objs.size + 1) (o:=.ins C s.heap.objs.size []) (t':=s.toks) (fun b u q=>Heap.get?_push_of_some _ q) (Nat.le_of_eq (Heap.size_push _ _)) ?_
 have ne:s.heap.objs.size ≠ s.heap.objs.size + 1:=Nat.ne_of_lt (Nat.lt_succ_self _)
 refine ⟨by rw [upd_ne ne,upd_same],Nat.zero_le _,ne,e2,fun _=>none,(Heap.Ns1.of_empty e3).at fun o q=>Heap.get?_push_of_some _ q,fun _=>True.intro,fun y hy=>absurd rfl hy⟩
end
section
variable {X:Cx} {o e value:Expr} {f:Str} {pos pos' tpos:Pos} {ta tv:TE}
end
section
variable {X:Cx} {pins:List (Addr × Obj)} {σ:St} {H:Hp} {s:Shared} {A:Around} {E:Value -> Shared -> Prop} {Q:Value -> Shared -> Prop} {c:Value} {b:Bool}
inductive TyOf (K:PySem.W.Frag) (H:Hp):V -> Value -> Prop where
 | non:TyOf K H .non (.type "NoneType")
 | bl (x:Bool):TyOf K H (.bl x) (.type "bool")
 | int (i:Int):TyOf K H (.int i) (.type "int")
 | str (x:Str):TyOf K H (.str x) (.type "str")
 | flt (x:UInt64):TyOf K H (.flt x) (.type "float")
 | lst {a:Addr} {xs:List V} (e:H a = some (.lst xs)):TyOf K H (.ref a) (.type "list")
 | frz {a:Addr} {o:Obj} {xs:List V} (e:H a = some (.frz o (.lst xs))):TyOf K H (.ref a) (.type "list")
 | tup {a:Addr} {xs:List V} (e:H a = some (.tup xs)):TyOf K H (.ref a) (.type "tuple")
 | dK {a:Addr} {kvs:List (Key × V)} (e:H a = some (.dK kvs)):TyOf K H (.ref a) (.type "dict")
 | dT {a:Addr} {kvs:List (List Key × V)} (e:H a = some (.dT kvs)):TyOf K H (.ref a) (.type "dict")
 | ins {a C dx:Addr} {fs:List (Str × V)} (e:H a = some (.ins C dx fs)) (cl:Cls K C) (ha:PySem.W.findIn K (.ref C) "__class__" = some (some (.builtin "object.__class__")))
   (hn:PySem.W.specialIn K (.builtin "object.__class__") "__get__" = some (some (.builtin "getset_descriptor.__get__"))) (htk:PySem.W.takesIn K (.builtin "object.__class__") = some true)
   (hm:PySem.W.mroIn K C (.type "object") = some true):TyOf K H (.ref a) (.ref C)
theorem isinst_ok {x:V} {u t:Value} (I:Inv X pins σ H s) (rx:RelV x u) (ty:TyOf X.K H x t) (e:PySem.W.kitOne X.K t c = some b) (h:∀ tk,Q (.bool b) { s with toks:=tk }) :
  wpAny (model X.prog X.w) A (call (.builtin "isinstance") [u,c]) Q E s:=by
 cases ty with
 | non=>cases (show u = Value.none from rx); exact PySem.W.kia_one PySem.W.kitx_none I.kIn True.intro e (fun z=>nomatch z) h
 | bl y=>cases (show u = Value.bool y from rx); exact PySem.W.kia_one PySem.W.kitx_bool I.kIn True.intro e (fun z=>nomatch z) h
 | int i=>obtain ⟨t,q⟩:=(show ∃ t,u = Value.int i t from rx); cases q; exact PySem.W.kia_one PySem.W.kitx_int I.kIn True.intro e (fun z=>nomatch z) h
 | str y=>obtain ⟨t,q⟩:=(show ∃ t,u = Value.str y t from rx); cases q; exact PySem.W.kia_one PySem.W.kitx_str I.kIn True.intro e (fun z=>nomatch z) h
 | flt y=>obtain ⟨t,q⟩:=(show ∃ t,u = Value.float y t from rx); cases q; exact PySem.W.kia_one PySem.W.kitx_float I.kIn True.intro e (fun z=>nomatch z) h
 | @lst a xs ea =>
  cases (show u = Value.ref a from rx)
  obtain ⟨_,_,n,_,h1⟩:=(show ObjOk X.prog X.w H s.heap a (.lst xs) from I.hok a _ ea)
  exact PySem.W.kia_one PySem.W.kitx_list I.kIn ⟨_,h1,rfl⟩ e (fun z=>nomatch z) h
 | @frz a ob xs ea =>
  cases (show u = Value.ref a from rx)
  obtain ⟨_,_,_,n,_,h1⟩:=(show ObjOk X.prog X.w H s.heap a (.frz ob (.lst xs)) from I.hok a _ ea)
  exact PySem.W.kia_one PySem.W.kitx_list I.kIn ⟨_,h1,rfl⟩ e (fun z=>nomatch z) h
 | @tup a xs ea =>
  cases (show u = Value.ref a from rx)
  obtain ⟨_,_,_,p⟩:=(show ObjOk X.prog X.w H s.heap a (.tup xs) from I.hok a _ ea)
  obtain ⟨o,h1,h2,_⟩:=p
  exact PySem.W.kia_one PySem.W.kitx_tuple I.kIn ⟨o,h1,h2⟩ e (fun z=>nomatch z) h
 | @dK a kvs ea =>
  cases (show u = Value.ref a from rx)
  obtain ⟨_,_,vs,_,p⟩:=(show ObjOk X.prog X.w H s.heap a (.dK kvs) from I.hok a _ ea)
  obtain ⟨o,es,ep,h1,h2,_⟩:=p
  exact PySem.W.kia_one PySem.W.kitx_dict I.kIn ⟨o,h1,h2.1⟩ e (fun z=>nomatch z) h
 | @dT a kvs ea =>
  cases (show u = Value.ref a from rx)
  obtain ⟨_,_,xs,_,o,es,ep,h1,h2,_⟩:=(show ObjOk X.prog X.w H s.heap a (.dT kvs) from I.hok a _ ea)
  exact PySem.W.kia_one PySem.W.kitx_dict I.kIn ⟨o,h1,h2.1⟩ e (fun z=>nomatch z) h
 | @ins a C dx fs ea cl ha hn htk hm =>
  cases (show u = Value.ref a from rx)
  obtain ⟨mA,O,_⟩:=ins_get I.hok ea
  obtain ⟨od,J,_⟩:=O.look
  exact PySem.W.kia_one (PySem.W.kitx_own (cl.get _) cl.hd ha hn htk hm) I.kIn J e (fun z=>nomatch z) h
end
end L2
namespace L2
open PySem PySem.Spec PyProof.Rows
structure Room (k:Nat) (A:Around):Prop where
 hd:A.handled = none
 dp:A.depth + 3 * k + 5 < recursionLimit
 un:A.units + 16 * k + 200 < cLine
theorem Room.mono {j k:Nat} {A:Around} (r:Room k A) (h:j <= k):Room j A:=⟨r.hd,by have:=r.dp; omega,by have:=r.un; omega⟩
theorem Room.deeper {k:Nat} {A:Around} (r:Room (k + 1) A) (env:Env):Room k (A.deeper env) :=
 ⟨r.hd,by have:=r.dp; show A.depth + 1 + 3 * k + 5 < _; omega,by have:=r.un; show A.units + 3 + 16 * k + 200 < _; omega⟩
theorem Room.in1 {k:Nat} {A:Around} (r:Room (k + 1) A):Room k A.in1 :=
 ⟨r.hd,by have:=r.dp; show A.depth + 3 * k + 5 < _; omega,by have:=r.un; show A.units + 1 + 16 * k + 200 < _; omega⟩
theorem Room.depth {k:Nat} {A:Around} (r:Room k A):A.depth < recursionLimit:=by have:=r.dp; omega
theorem Room.units {k:Nat} {A:Around} (r:Room k A):A.units + 64 < cLine:=by have:=r.un; omega
def tNil:TA:=fun _ H Q=>Q [] H
def tCons (ta:TE) (tr:TA):TA:=fun σ H Q=>ta σ H fun x H1=>tr σ H1 fun xs H2=>Q (x :: xs) H2
section
variable {X:Cx} {e:Expr} {es:List Expr} {te:TE} {t:TA} {pos:Pos}
theorem pa_nil:PA X [] tNil:=fun _ _ _ _ H Q I h=>Calls.spliced_nil ⟨[],H,I,.nil,h⟩
theorem pa_cons (ha:PE X e te) (hr:PA X es t) (hs:starEach (e :: es) X.env = (false,eval e X.env) :: starEach es X.env:=by rfl):PA X (e :: es) (tCons te t):=by
 intro pos pins s σ H Q I h
 rw [hs]
 show wpAny _ _ (spliced ((false,eval e X.env) :: backTo pos (starEach es X.env))) _ _ s
 refine Calls.spliced_cons (thn (ha pins s σ H _ I h) fun u s1 ⟨x,H1,I1,r1,q1⟩=>?_)
 exact thn (hr pos pins s1 σ H1 _ I1 q1) fun us s2 ⟨xs,H2,I2,r2,q2⟩=>⟨x :: xs,H2,I2,.cons r1 r2,q2⟩
def tTup (t:TA):TE:=fun σ H Q=>t σ H fun xs H1=>xs.length <= sizeLine /\ ∀ p,H1 p = none -> Q (.ref p) (upd H1 p (.tup xs))
def tLst (t:TA):TE:=fun σ H Q=>t σ H fun xs H1=>xs.length <= sizeLine /\ ∀ p,H1 p = none -> Q (.ref p) (upd H1 p (.lst xs))
theorem pe_tup {x1} (h:PA X es t):PE X (.Tuple es x1 pos) (tTup t):=by
 intro pins s σ H Q I hq
 refine wpAny_Tuple_spliced (thn (h pos pins s σ H _ I hq) fun us s1 ⟨xs,H1,I1,r,z,q⟩=>⟨by rw [← r.length]; exact z,?_⟩)
 have hf:H1 s1.heap.objs.size = none:=I1.hok.fresh (Nat.le_refl _)
 refine ⟨.ref s1.heap.objs.size,upd H1 s1.heap.objs.size (.tup xs),I1.laid (t':=s1.toks) (fun b u e=>Heap.get?_push_of_some _ e) (Nat.le_refl _) ?_,rfl,q _ hf⟩
 exact ⟨z,us,r,⟨_,Heap.get?_push_size _ rfl,rfl,_,rfl⟩⟩
theorem pe_lst (h:PA X es t):PE X (.List es pos) (tLst t):=by
 intro pins s σ H Q I hq
 refine wpAny_List_spliced (thn (h pos pins s σ H _ I hq) fun us s1 ⟨xs,H1,I1,r,z,q⟩=>⟨by rw [← r.length]; exact z,?_⟩)
 have hf:H1 s1.heap.objs.size = none:=I1.hok.fresh (Nat.le_refl _)
 refine ⟨.ref s1.heap.objs.size,upd H1 s1.heap.objs.size (.lst xs),I1.laid (t':=s1.toks) (fun b u e=>Heap.get?_push_of_some _ e) (Nat.le_refl _) ?_,rfl,q _ hf⟩
 exact ⟨z,us,0,r,Heap.get?_push_size _ rfl⟩
end
abbrev Sp:=List V -> Hp -> VK -> XK -> Prop
abbrev CXT:=List Env -> Hp -> Shared -> XK -> Value -> Shared -> Prop
structure Env0 (P:Program) (w:World) (K:PySem.W.Frag) (mg:Str -> Option Value) (base:Heap) (A:Around) (outer:List Env) (s:Shared) (H:Hp):Prop where
 frames:A.frames = some outer
 mod:Mod K mg base
 bs:∀ b o,base.get? b = some o -> s.heap.get? b = some o /\ H b = none
 bsz:base.objs.size <= s.heap.objs.size
 funs:s.heap.FunFrames base outer
 frf:∀ b ∈ frs outer,H b = none
 hok:HOk P w H s.heap
 bare:AllBare s.gens
def CE (outer:List Env) (P:Program) (w:World) (H:Hp) (s:Shared) (Q:VK) (u:Value) (s':Shared):Prop :=
 ∃ v H',s'.os = s.os /\ AllBare s'.gens /\ Un (frs outer) [] H H' s.heap s'.heap /\ HOk P w H' s'.heap /\ RelV v u /\ Q v H'
def CR (CX:CXT) (outer:List Env) (P:Program) (w:World) (H:Hp) (s:Shared) (Q:VK) (E:XK) (r:Result) (s':Shared):Prop :=
 match r with
 | .ok (.ret u)=>CE outer P w H s Q u s'
 | .ok _=>False
 | .error e=>CX outer H s E e s'
structure FnOk (P:Program) (w:World) (K:PySem.W.Frag) (mg:Str -> Option Value) (base:Heap) (CX:CXT) (k:Nat) (f:Addr) (fd:FuncData) (ps:List Str) (sp:Sp):Prop where
 len:∀ vs H Q E,sp vs H Q E -> vs.length = ps.length
 run:∀ (A:Around) (outer:List Env) (s:Shared) (H:Hp) (args:Args) (us:List Value) (vs:List V) (Q:VK) (E:XK),Room k A -> Env0 P w K mg base A outer s H -> BindsTo s fd args (ps.zip us) -> Vals vs us -> sp vs H Q E ->
  codeAny (model P w) A (.call (.ref f) args) (CR CX outer P w H s Q E) s
theorem FnOk.mono {P:Program} {w:World} {K:PySem.W.Frag} {mg:Str -> Option Value} {base:Heap} {CX:CXT} {j k:Nat} {f:Addr} {fd:FuncData} {ps:List Str} {sp:Sp} (F:FnOk P w K mg base CX j f fd ps sp) (h:j <= k) :
  FnOk P w K mg base CX k f fd ps sp:=⟨F.len,fun A outer s H args us vs Q E hr=>F.run A outer s H args us vs Q E (hr.mono h)⟩
theorem FnOk.imp {P:Program} {w:World} {K:PySem.W.Frag} {mg:Str -> Option Value} {base:Heap} {CX:CXT} {k:Nat} {f:Addr} {fd:FuncData} {ps:List Str} {sp sp':Sp} (F:FnOk P w K mg base CX k f fd ps sp)
  (h:∀ vs H Q E,sp' vs H Q E -> sp vs H Q E):FnOk P w K mg base CX k f fd ps sp' :=
 ⟨fun vs H Q E q=>F.len vs H Q E (h _ _ _ _ q),fun A outer s H args us vs Q E hr he hb hv hs=>F.run A outer s H args us vs Q E hr he hb hv (h _ _ _ _ hs)⟩
theorem Env0.in1 {P:Program} {w:World} {K:PySem.W.Frag} {mg:Str -> Option Value} {base:Heap} {A:Around} {outer:List Env} {s:Shared} {H:Hp} (e:Env0 P w K mg base A outer s H) :
  Env0 P w K mg base A.in1 outer s H:=⟨e.frames,e.mod,e.bs,e.bsz,e.funs,e.frf,e.hok,e.bare⟩
section
variable {X:Cx} {pins:List (Addr × Obj)} {σ:St} {H:Hp} {s s':Shared}
theorem Inv.env0 (I:Inv X pins σ H s):Env0 X.prog X.w X.K X.mg X.base X.A X.stack s H :=
 ⟨I.ok.frames,I.ok.mod,I.bs,Nat.le_trans I.ok.bsz I.sz,I.stack,I.stkFree,I.hok,I.bare⟩
theorem Inv.after {Q:VK} {u:Value} (I:Inv X pins σ H s) (h:CE X.stack X.prog X.w H s Q u s'):EP X pins σ Q u s':=by
 obtain ⟨v,H',os,bare,un,hok,r,q⟩:=h
 obtain ⟨hh,g,d,t,os'⟩:=s'
 obtain rfl:os' = s.os:=os
 exact ⟨v,H',I.call (h':=hh) (g':=g) (d':=d) (t':=t) (ch:=[]) un hok bare (fun b z=>absurd z (by simp)),r,q⟩
end
def tCall (sp:Sp) (dvs:List V) (E:XK) (t:TA):TE:=fun σ H Q=>t σ H fun vs H1=>sp (vs ++ dvs) H1 Q E
def Binds (K:PySem.W.Frag) (fd:FuncData) (ps:List Str) (ds:List Value):Prop :=
 ∀ (s:Shared) (us:List Value),K.In s.heap -> (us ++ ds).length = ps.length -> BindsTo s fd ⟨us,[]⟩ (ps.zip (us ++ ds))
theorem Binds.all {K:PySem.W.Frag} {fd:FuncData} {ps:List Str} (h:∀ us:List Value,us.length = ps.length -> bindArgs fd ⟨us,[]⟩ = pure (ps.zip us)):Binds K fd ps []:=fun s us _ hl=>by
 rw [List.append_nil] at hl ⊢
 exact .of_eq (h us hl)
def Passes (CX:CXT) (X:Cx) (E:XK):Prop:=∀ (pins:List (Addr × Obj)) (σ:St) (H:Hp) (s:Shared) (e:Value) (s':Shared),Inv X pins σ H s -> CX X.stack H s E e s' -> X.xe e s'
section
variable {X:Cx} {CX:CXT} {k:Nat} {f C:Addr} {fd:FuncData} {ps:List Str} {sp:Sp} {dvs:List V} {ds:List Value} {E:XK} {x m:Str} {p pos apos:Pos} {e o:Expr} {es:List Expr} {ta:TE} {t:TA}
theorem run_fn {pins:List (Addr × Obj)} {σ:St} {H:Hp} {s:Shared} {Q:VK} {us:List Value} {vs:List V} (F:FnOk X.prog X.w X.K X.mg X.base CX k f fd ps sp) (hr:Room k X.A) (hb:Binds X.K fd ps ds) (hd:Vals dvs ds) (hx:Passes CX X E)
  (I:Inv X pins σ H s) (r:Vals vs us) (h:sp (vs ++ dvs) H Q E):wpAny (model X.prog X.w) X.A (call (.ref f) us) (EP X pins σ Q) X.xe s:=by
 have r2:Vals (vs ++ dvs) (us ++ ds):=r.append hd
 have hl:(us ++ ds).length = ps.length:=by rw [← r2.length]; exact F.len _ _ _ _ h
 refine wpAny_call (codeAny_mono (F.run X.A X.stack s H ⟨us,[]⟩ (us ++ ds) (vs ++ dvs) Q E hr I.env0 (hb s us I.kIn hl) r2 h) fun r s' hq=>?_)
 cases r with
 | error e=>exact hx pins σ H s e s' I hq
 | ok fl =>
  cases fl with
  | ret u=>exact I.after hq
  | next=>exact False.elim hq
  | brk=>exact False.elim hq
  | cont=>exact False.elim hq
theorem pe_call (F:FnOk X.prog X.w X.K X.mg X.base CX k f fd ps sp) (hr:Room k X.A) (hg:Gl X x) (hm:X.mg x = some (.ref f)) (hk:PySem.W.keepIn X.K (.ref f) = true) (hb:Binds X.K fd ps ds) (hd:Vals dvs ds) (hx:Passes CX X E)
  (ha:PA X (e :: es) t) (hdb:(x == ("__debug__" : Str)) = false:=by decide) (he:starEach (e :: es) X.env = (false,eval e X.env) :: starEach es X.env:=by rfl) (hpl:(backTo pos (starEach es X.env)).any (·.1) = false:=by rfl) :
  PE X (.Call (.Name x p) (e :: es) [] pos) (tCall sp dvs E t):=by
 intro pins s σ H Q I h
 refine wpAny_Call_Name_kw (ld_glob I hg hm ?_ hdb)
 refine PySem.W.callWith_K (h₀:=X.base) I.ok.mod.kin hk (thn (ha pos pins s σ H _ I h) fun us s1 ⟨vs,H1,I1,r,q⟩=>⟨I1.kIn,?_⟩) he hpl
 exact run_fn F hr hb hd hx I1 r q
structure Mk (K:PySem.W.Frag) (C f:Addr):Prop where
 makes:PySem.W.makesIn K C = true
 init:PySem.W.findIn K (.ref C) "__init__" = some (some (.ref f))
 fn:PySem.W.isFn K (.ref f) = true
 kp:PySem.W.keepIn K (.ref C) = true
end
def PK (X:Cx) (kws:List Keyword) (t:TA):Prop :=
 ∀ (pos:Pos) (pins:List (Addr × Obj)) (s:Shared) (σ:St) (H:Hp) (Q:List V -> Hp -> Prop),Inv X pins σ H s -> t σ H Q -> wpAny (model X.prog X.w) X.A (evalAll ((backToKw pos (keywordEach kws X.env)).map (·.2))) (AP X pins σ Q) X.xe s
section
variable {X:Cx} {CX:CXT} {k:Nat} {f C:Addr} {fd:FuncData} {ps ks:List Str} {sp:Sp} {E:XK} {x m:Str} {p pos apos kpos:Pos} {e o:Expr} {es:List Expr} {kws:List Keyword} {te ta:TE} {t tk:TA} {nm:Option Str}
structure KBinds (K:PySem.W.Frag) (fd:FuncData) (ps ks:List Str) (g:List Value -> List Value -> List Value) (gV:List V -> List V -> List V):Prop where
 to:∀ (s:Shared) (us ws:List Value),K.In s.heap -> (g us ws).length = ps.length -> BindsTo s fd ⟨us,ks.zip ws⟩ (ps.zip (g us ws))
 rel:∀ {vs:List V} {us:List Value} {zs:List V} {ws:List Value},Vals vs us -> Vals zs ws -> Vals (gV vs zs) (g us ws)
variable {g:List Value -> List Value -> List Value} {gV:List V -> List V -> List V}
end
structure FnScope (N P:List Str) (sc:Scope):Prop where
 kind:sc.kind = .function
 co:sc.isCoroutine = false
 gen:sc.isGenerator = false
 nd:N.Nodup
 pre:N.take P.length = P
 par:∀ x ∈ P,sc.names.lookup x = some .local ∨ sc.names.lookup x = some .cell
 nofree:∀ y ∈ sc.names,y.2 ≠ .free
theorem bindL_out {kindOf:Str -> Option NameKind} {x:Str}:∀ {binds:List (Str × Value)} {m:Str -> Option Value},(∀ v,(x,v) ∉ binds) -> bindL kindOf binds m x = m x
 | [],_,_=>rfl
 | (n,v) :: r,m,h=>by
  unfold bindL
  rw [bindL_out fun w hw=>h w (List.mem_cons_of_mem _ hw)]
  split
  ·have:x ≠ n:=by rintro rfl; exact h v List.mem_cons_self
   simp [this]
  ·rfl
theorem bindC_out {kindOf:Str -> Option NameKind} {x:Str}:∀ {binds:List (Str × Value)} {m:Str -> Option Value},(∀ v,(x,v) ∉ binds) -> bindC kindOf binds m x = m x
 | [],_,_=>rfl
 | (n,v) :: r,m,h=>by
  unfold bindC
  rw [bindC_out fun w hw=>h w (List.mem_cons_of_mem _ hw)]
  split
  ·rfl
  ·have:x ≠ n:=by rintro rfl; exact h v List.mem_cons_self
   simp [this]
theorem bindL_get {kindOf:Str -> Option NameKind} {x:Str} {v:Value}:∀ {P:List Str} {vs:List Value} {i:Nat} {m:Str -> Option Value},P.Nodup -> P[i]? = some x -> vs[i]? = some v -> kindOf x = some .local ->
  bindL kindOf (P.zip vs) m x = some v
 | [],_,_,_,_,h,_,_=>by simp at h
 | _ :: _,[],_,_,_,_,h,_=>by simp at h
 | p :: P,w :: vs,0,m,nd,h1,h2,hk=>by
  simp at h1 h2; subst h1; subst h2
  show bindL kindOf ((p,w) :: P.zip vs) m p = _
  unfold bindL
  rw [bindL_out fun v hv=>(List.nodup_cons.mp nd).1 (List.of_mem_zip hv).1,if_pos hk]
  simp
 | p :: P,w :: vs,i + 1,m,nd,h1,h2,hk=>by
  show bindL kindOf ((p,w) :: P.zip vs) m x = _
  unfold bindL
  exact bindL_get (i:=i) (List.nodup_cons.mp nd).2 (by simpa using h1) (by simpa using h2) hk
theorem bindC_get {kindOf:Str -> Option NameKind} {x:Str} {v:Value}:∀ {P:List Str} {vs:List Value} {i:Nat} {m:Str -> Option Value},P.Nodup -> P[i]? = some x -> vs[i]? = some v -> kindOf x ≠ some .local ->
  bindC kindOf (P.zip vs) m x = some v
 | [],_,_,_,_,h,_,_=>by simp at h
 | _ :: _,[],_,_,_,_,h,_=>by simp at h
 | p :: P,w :: vs,0,m,nd,h1,h2,hk=>by
  simp at h1 h2; subst h1; subst h2
  show bindC kindOf ((p,w) :: P.zip vs) m p = _
  unfold bindC
  rw [bindC_out fun v hv=>(List.nodup_cons.mp nd).1 (List.of_mem_zip hv).1,if_neg hk]
  simp
 | p :: P,w :: vs,i + 1,m,nd,h1,h2,hk=>by
  show bindC kindOf ((p,w) :: P.zip vs) m x = _
  unfold bindC
  exact bindC_get (i:=i) (List.nodup_cons.mp nd).2 (by simpa using h1) (by simpa using h2) hk
def start (N:List Str) (vs:List V):St:=vs.map some ++ List.replicate (N.length - vs.length) none
def cxOf (CX:CXT) (P:Program) (w:World) (K:PySem.W.Frag) (mg:Str -> Option Value) (base:Heap) (N:List Str) (qual:Str) (scope:Scope) (f:Addr) (cd:Value) (A:Around) (outer:List Env) (s:Shared) (H:Hp) (E:XK):Cx where
 prog:=P
 w:=w
 K:=K
 mg:=mg
 base:=base
 A:=A.deeper (envOfC qual scope s.heap.objs.size f cd)
 N:=N
 s₀:=s
 H₀:=H
 env:=envOfC qual scope s.heap.objs.size f cd
 outer:=outer
 stack:=envOfC qual scope s.heap.objs.size f cd :: outer
 ex:=[]
 calm:=true
 fn:=fun _=>true
 pn:=[]
 xe:=fun e s'=>wpAny (model P w) (A.deeper (envOfC qual scope s.heap.objs.size f cd)) (leaving (envOfC qual scope s.heap.objs.size f cd) e) (fun _ s''=>CX outer H s E e s'') (fun e' s''=>CX outer H s E e' s'') s'
theorem cell_has {sc:Scope} {n:Nat} {x:Str} (h:sc.names.lookup x = some .cell):∃ c,(cellsFrom n sc.names []).lookup x = some c:=by
 have q:=PySem.W.cellsFrom_some sc.names n [] (.inl h)
 exact Option.isSome_iff_exists.mp q
theorem inv_start {CX:CXT} {P:Program} {w:World} {K:PySem.W.Frag} {mg:Str -> Option Value} {base:Heap} {N ps:List Str} {qual:Str} {scope:Scope} {f:Addr} {cd:Value} {A:Around} {outer:List Env} {s s1:Shared} {H:Hp} {E:XK} {us:List Value} {vs:List V}
  (S:FnScope N ps scope) (hd:A.handled = none) (e0:Env0 P w K mg base A outer s H) (hl:vs.length = ps.length) (r:Vals vs us)
  (x:InCallC s s.heap.objs.size (bindL (envOfC qual scope s.heap.objs.size f cd).kindOf (ps.zip us) fun _=>none) (cellsFrom (s.heap.objs.size + 1) scope.names []) (bindC (envOfC qual scope s.heap.objs.size f cd).kindOf (ps.zip us) fun _=>none) s1) :
  Inv (cxOf CX P w K mg base N qual scope f cd A outer s H E) [] (start N vs) H s1:=by
 have hpl:ps.length <= N.length:=by have:=congrArg List.length S.pre; rw [List.length_take] at this; omega
 obtain ⟨h1,tk,rfl,hk⟩:=x.done
 have noA:∀ b:Addr,b ∉ (cxOf CX P w K mg base N qual scope f cd A outer s H E).ex:=fun b z=>absurd (show b ∈ ([]:List Addr) from z) (by simp)
 refine ⟨⟨e0.mod,S.kind,rfl,rfl,Nat.le_refl _,fun y z c h1 h2=>?_,fun y hy=>?_,fun y c _ h=>?_,fun _=>hd,Around.frames_deeper e0.frames,.inr ⟨rfl,rfl⟩,fun b z=>absurd z (noA b),e0.bs,e0.bsz,fun b _ _=>noA b,fun b z=>absurd z (noA b),e0.funs,e0.frf⟩,
  rfl,e0.bare,Un.kept hk,⟨_,x.toInCall.ns,fun i y v h1 h2 h3=>?_⟩,fun y c h=>⟨_,x.cell y c h⟩,e0.hok.fresh (Nat.le_refl _),fun y c h=>?_,fun p hp=>absurd (show p ∈ ([]:List (Addr × Obj)) from hp) (by simp),e0.hok.kept hk,?_⟩
 ·exact name_of_addr x.apart (PySem.mem_of_lookup h1) (PySem.mem_of_lookup h2)
 ·have hy:scope.names.lookup y = some .cell ∨ scope.names.lookup y = some .free:=hy
  rcases hy with hy | hy
  ·exact cell_has hy
  ·exact absurd rfl (S.nofree _ (PySem.mem_of_lookup hy))
 ·exact Nat.le_of_lt (x.above y c (PySem.mem_of_lookup h))
 ·have hi:i < vs.length:=by
   unfold start at h2
   by_cases hi:i < vs.length
   ·exact hi
   ·rw [List.getElem?_append_right (by simpa using hi)] at h2
    rw [List.getElem?_replicate] at h2
    split at h2 <;> cases h2
  have ha:vs[i]? = some v:=by
   unfold start at h2
   rw [List.getElem?_append_left (by simpa using hi),List.getElem?_map] at h2
   cases e:vs[i]? with
   | none=>rw [e] at h2; cases h2
   | some a=>rw [e] at h2; cases h2; rfl
  obtain ⟨u,hu,rv⟩:=r.get ha
  have hp:ps[i]? = some y:=by
   rw [← S.pre,List.getElem?_take_of_lt (by omega)]; exact h1
  have ndP:ps.Nodup:=by rw [← S.pre]; exact S.nd.sublist (List.take_sublist _ _)
  refine ⟨u,rv,?_⟩
  rcases S.par y (List.mem_of_getElem? hp) with k | k
  ·exact .inl ⟨k,bindL_get ndP hp hu k⟩
  ·obtain ⟨c,e⟩:=cell_has (n:=s.heap.objs.size + 1) k
   refine .inr ⟨.inl k,c,e,?_⟩
   have q:=x.cell y c e
   rw [bindC_get ndP hp hu (by show scope.names.lookup y ≠ _; rw [k]; decide)] at q
   exact q
 ·exact e0.hok.fresh (Nat.le_of_lt (x.above y c (PySem.mem_of_lookup h)))
 ·unfold start
  show _ = N.length
  rw [List.length_append,List.length_map,List.length_replicate]
  omega
theorem fn_of {CX:CXT} {P:Program} {w:World} {K:PySem.W.Frag} {mg:Str -> Option Value} {base:Heap} {k:Nat} {f:Addr} {name qual:Str} {params:Arguments} {body:List Stmt} {scope:Scope} {dV kV doc pm cdv ct oc:Value} {an od:Option Addr}
  {osl:Array (Option Value)} {N ps:List Str} {sp:Sp} (lk:K.lookup f = some ⟨oc,od,.func (PySem.W.fnOf name qual params body scope dV kV doc pm an cdv ct),osl⟩) (hcd:PySem.W.codeIn K cdv qual = true) (S:FnScope N ps scope)
  (len:∀ vs H Q E,sp vs H Q E -> vs.length = ps.length)
  (hbody:∀ (A:Around) (outer:List Env) (s:Shared) (H:Hp) (vs:List V) (Q:VK) (E:XK),Room k (A.deeper (envOfC qual scope s.heap.objs.size f cdv)) -> sp vs H Q E ->
   ∃ t,PSs (cxOf CX P w K mg base N qual scope f cdv A outer s H E) body t /\ t { nx:=fun _ H'=>Q .non H',rt:=Q } (start N vs) H) :
  FnOk P w K mg base CX (k + 1) f (PySem.W.fnOf name qual params body scope dV kV doc pm an cdv ct) ps sp:=by
 refine ⟨len,fun A outer s H args us vs Q E hr e0 hb r hsp=>?_⟩
 have hl:=len _ _ _ _ hsp
 have KX:K.In s.heap:=e0.mod.kin.keeps fun b o e=>(e0.bs b o e).1
 have lim:s.heap.NoLimit:=e0.mod.nolimit.keeps fun b o e=>(e0.bs b o e).1
 have hkind:∀ y ∈ ps.zip us,scope.names.lookup y.1 = some .local ∨ (scope.names.lookup y.1 = some .cell /\ ((cellsFrom (s.heap.objs.size + 1) scope.names []).lookup y.1).isSome = true):=fun ⟨n,v⟩ hy=>by
  rcases S.par n (List.of_mem_zip hy).1 with q | q
  ·exact .inl q
  ·exact .inr ⟨q,PySem.W.cellsFrom_some _ _ _ (.inl q)⟩
 refine codeAny_call_function hr.depth (KX _ _ lk) rfl S.co S.gen rfl (PySem.W.codeRec_of KX hcd) (hb _ _ _ _ ?_)
 refine wpAny_newFunctionEnv_cells S.kind hkind fun env he s1 x=>?_
 subst he
 refine ⟨lim.keeps x.toInCall.keep,codeAny_func ?_⟩
 obtain ⟨t,ht,hq⟩:=hbody A outer s H vs Q E (hr.deeper _) hsp
 have I:Inv (cxOf CX P w K mg base N qual scope f cdv A outer s H E) [] (start N vs) H s1:=inv_start S hr.hd e0 hl r x
 refine wpAny_mono (ht [] s1 (start N vs) H _ I hq) (fun fl s' hs=>?_) fun e s' hs=>hs
 have fin:∀ {σ':St} {H':Hp} {v:V} {u:Value},Inv (cxOf CX P w K mg base N qual scope f cdv A outer s H E) [] σ' H' s' -> RelV v u -> Q v H' -> CE outer P w H s Q u s' :=
  fun {σ' H' v u} J rv q=>⟨v,H',J.os,J.bare,J.base,J.hok,rv,q⟩
 cases fl with
 | ret u =>
  obtain ⟨v,σ',H',J,rv,q⟩:=hs
  exact fin J rv q
 | next =>
  obtain ⟨σ',H',J,q⟩:=hs
  exact fin (v:=V.non) (u:=Value.none) J rfl q
 | brk =>
  obtain ⟨_,_,_,q⟩:=hs
  exact False.elim q
 | cont =>
  obtain ⟨_,_,_,q⟩:=hs
  exact False.elim q
end L2
namespace L2
open PySem PySem.Spec PyProof.Rows
section
variable {X:Cx} {x:Str} {p pos:Pos} {e:Expr} {es:List Expr} {t:TA} {id T:String} {r:List V -> Hp -> VK -> Prop}
def tCB (r:List V -> Hp -> VK -> Prop) (t:TA):TE:=fun σ H Q=>t σ H fun vs H1=>r vs H1 Q
theorem pe_callB (hc:CallR X (.builtin id) r) (hg:Gl X x) (hm:X.mg x = none) (hv:bootBuiltins x = some (.builtin id)) (ha:PA X (e :: es) t) (hn:x ≠ "__name__":=by decide) (hdb:(x == ("__debug__" : Str)) = false:=by decide)
  (he:starEach (e :: es) X.env = (false,eval e X.env) :: starEach es X.env:=by rfl) (hpl:(backTo pos (starEach es X.env)).any (·.1) = false:=by rfl):PE X (.Call (.Name x p) (e :: es) [] pos) (tCB r t):=by
 intro pins s σ H Q I h
 refine wpAny_Call_Name_kw (ld_blt I hg hm hv ?_ hn hdb)
 exact PyProof.Rows.callWith_builtin1 (thn (ha pos pins s σ H _ I h) fun us s1 ⟨vs,H1,I1,r1,q1⟩=>hc pins s1 σ H1 vs us Q I1 r1 q1) he hpl
theorem pe_callTy (hc:CallR X (.type T) r) (hg:Gl X x) (hm:X.mg x = none) (hv:bootBuiltins x = some (.type T)) (ha:PA X (e :: es) t) (hn:x ≠ "__name__":=by decide) (hdb:(x == ("__debug__" : Str)) = false:=by decide)
  (he:starEach (e :: es) X.env = (false,eval e X.env) :: starEach es X.env:=by rfl) (hpl:(backTo pos (starEach es X.env)).any (·.1) = false:=by rfl):PE X (.Call (.Name x p) (e :: es) [] pos) (tCB r t):=by
 intro pins s σ H Q I h
 refine wpAny_Call_Name_kw (ld_blt I hg hm hv ?_ hn hdb)
 exact PyProof.Rows.callWith_type1 (thn (ha pos pins s σ H _ I h) fun us s1 ⟨vs,H1,I1,r1,q1⟩=>hc pins s1 σ H1 vs us Q I1 r1 q1) he hpl
end
end L2
namespace HT
open PySem PyProof.Rows
section
open PySem.SeqAt
open PySem.AutoSeq1 (wpAny_loadPart')
open PySem.MeetsSeq PySem.MeetsSeq2 PySem.MeetsSeq3
end
section
variable {prog:Program} {w:World} {A:Around} {E:Value -> Shared -> Prop} {s:Shared}
def sIx (n d:Nat):Option Int -> Nat
 | none=>d
 | some v=>if v < 0 then (v + (n:Int)).toNat else min v.toNat n
end
end HT
namespace L2
open PySem PySem.Spec PyProof.Rows
abbrev TO:=St -> Hp -> (Option Int -> Hp -> Prop) -> Prop
def PO (X:Cx) (e:Option Expr) (t:TO):Prop :=
 ∀ (pins:List (Addr × Obj)) (s:Shared) (σ:St) (H:Hp) (Q:Option Int -> Hp -> Prop),Inv X pins σ H s -> t σ H Q ->
  wpAny (model X.prog X.w) X.A (evalPart e X.env) (fun u s'=>∃ o H',Inv X pins σ H' s' /\ IsPart u o /\ Q o H') X.xe s
def tNoPart:TO:=fun _ H Q=>Q none H
def tPart (t:TE):TO:=fun σ H Q=>t σ H fun x H1=>∃ i,x = .int i /\ Q (some i) H1
theorem intsAre_of {ns:List Int}:∀ {us:List Value},Vals (ns.map V.int) us -> IntsAre us ns:=by
 induction ns with
 | nil=>intro us r; rw [List.map_nil] at r; cases r; exact .nil
 | cons n ns ih =>
  intro us r
  rw [List.map_cons] at r
  cases r with
  | cons r1 r2 =>
   obtain ⟨t,e⟩:=r1
   subst e
   exact .cons n t (ih r2)
section
variable {X:Cx} {e:Expr} {te:TE} {lo hi:Option Expr} {tl th:TO} {pos p2:Pos}
theorem po_none:PO X none tNoPart:=by
 intro pins s σ H Q I h
 rw [evalPart_none]
 exact wpAny_pure ⟨none,H,I,.none,h⟩
theorem po_some (h:PE X e te):PO X (some e) (tPart te):=by
 intro pins s σ H Q I hw
 rw [evalPart_some]
 refine thn (h pins s σ H _ I hw) fun u s1 ⟨x,H1,I1,r1,q1⟩=>?_
 obtain ⟨i,rfl,q⟩:=q1
 obtain ⟨t,rfl⟩:=r1
 exact ⟨some i,H1,I1,.int i t,q⟩
def SlR (X:Cx) (r:V -> Option Int -> Option Int -> Hp -> VK -> Prop):Prop :=
 ∀ (pins:List (Addr × Obj)) (s:Shared) (σ:St) (H:Hp) (x:V) (v vl vu:Value) (lo hi:Option Int) (sl:Addr) (Q:VK),Inv X pins σ H s -> RelV x v -> s.heap.IsSliceOf sl vl vu .none -> IsPart vl lo -> IsPart vu hi -> r x lo hi H Q ->
  ∃ T id,typeLookup (.type T) "__getitem__" = pure (some (.builtin id)) /\ s.TypeIs v T /\ wpAny (model X.prog X.w) X.A (getItem v (.ref sl)) (EP X pins σ Q) X.xe s
theorem SlR.or {r r':V -> Option Int -> Option Int -> Hp -> VK -> Prop} (h:SlR X r) (h':SlR X r'):SlR X (fun x lo hi H Q=>r x lo hi H Q ∨ r' x lo hi H Q):=by
 intro pins s σ H x v vl vu lo hi sl Q I rx hs pl pu q
 rcases q with q | q
 ·exact h pins s σ H x v vl vu lo hi sl Q I rx hs pl pu q
 ·exact h' pins s σ H x v vl vu lo hi sl Q I rx hs pl pu q
def tSl (r:V -> Option Int -> Option Int -> Hp -> VK -> Prop) (te:TE) (tl th:TO):TE:=fun σ H Q=>te σ H fun x H1=>tl σ H1 fun l H2=>th σ H2 fun u H3=>r x l u H3 Q
theorem pe_slice {r:V -> Option Int -> Option Int -> Hp -> VK -> Prop} (hr:SlR X r) (he:PE X e te) (hl:PO X lo tl) (hu:PO X hi th):PE X (.Subscript e (.Slice lo hi none p2) pos) (tSl r te tl th):=by
 intro pins s σ H Q I h
 refine Subscript_ (thn (he pins s σ H _ I h) fun v s1 ⟨x,H1,I1,r1,q1⟩=>?_)
 refine wpAny_Slice (thn (hl pins s1 σ H1 _ I1 q1) fun vl s2 ⟨l,H2,I2,pl,q2⟩=>thn (hu pins s2 σ H2 _ I2 q2) fun vu s3 ⟨u,H3,I3,pu,q3⟩=>?_)
 rw [evalPart_none]
 refine wpAny_pure ?_
 have I4:Inv X pins σ H3 { s3 with heap:=s3.heap.push { cls:=.type "slice",data:=.fields #[vl,vu,.none] } }:=I3.kept (t':=s3.toks) fun b ob q=>Heap.get?_push_of_some _ q
 obtain ⟨T,id,hT,ht,hg⟩:=hr pins { s3 with heap:=s3.heap.push { cls:=.type "slice",data:=.fields #[vl,vu,.none] } } σ H3 x v vl vu l u s3.heap.objs.size Q I4 r1 (Heap.IsSliceOf.new ..) pl pu q3
 show wpAny (model X.prog X.w) X.A (subscriptTail e (.Slice lo hi none p2) v (.ref s3.heap.objs.size)) (EP X pins σ Q) X.xe { s3 with heap:=s3.heap.push { cls:=.type "slice",data:=.fields #[vl,vu,.none] } }
 exact tail_any (ops:=[.ref s3.heap.objs.size,v]) ht hT hg (by with_unfolding_all rfl)
def cutV (xs:List V) (lo hi:Option Int):List V:=(xs.drop (HT.sIx xs.length 0 lo)).take (HT.sIx xs.length xs.length hi - HT.sIx xs.length 0 lo)
theorem cutV_length (xs:List V) (lo hi:Option Int):(cutV xs lo hi).length <= xs.length:=by
 unfold cutV
 rw [List.length_take,List.length_drop]
 omega
end
end L2
namespace L2
open PySem PySem.Spec PyProof.Rows
def ixN (n:Nat) (i:Int):Option Nat:=if 0 <= i then (if i < n then some i.toNat else none) else if -(n:Int) <= i then some (i + n).toNat else none
def atI {α:Type} (xs:List α) (i:Int):Option α:=(ixN xs.length i).bind fun j=>xs[j]?
theorem ixN_seq {n:Nat} {i:Int} {j:Nat} (h:ixN n i = some j):seqIndex? i n = some j /\ j < n /\ -(n:Int) <= i /\ i < n:=by
 unfold ixN at h
 by_cases h0:0 <= i
 ·rw [if_pos h0] at h
  by_cases h1:i < n
  ·rw [if_pos h1] at h
   have e:i.toNat = j:=Option.some.inj h
   exact ⟨by rw [seqIndex_of h0 h1,e],by omega,by omega,h1⟩
  ·rw [if_neg h1] at h; cases h
 ·rw [if_neg h0] at h
  by_cases h1 : -(n:Int) <= i
  ·rw [if_pos h1] at h
   have e:(i + n).toNat = j:=Option.some.inj h
   exact ⟨by rw [seqIndex_neg (by omega) h1,e],by omega,h1,by omega⟩
  ·rw [if_neg h1] at h; cases h
theorem atI_get {α:Type} {xs:List α} {i:Int} {v:α} (h:atI xs i = some v):∃ j,seqIndex? i xs.length = some j /\ xs[j]? = some v /\ j < xs.length /\ -(xs.length:Int) <= i /\ i < xs.length:=by
 unfold atI at h
 cases e:ixN xs.length i with
 | none=>rw [e] at h; cases h
 | some j =>
  rw [e] at h
  obtain ⟨h1,h2,h3,h4⟩:=ixN_seq e
  exact ⟨j,h1,h,h2,h3,h4⟩
theorem atI_nat {α:Type} {xs:List α} {j:Nat} {v:α} (h:xs[j]? = some v):atI xs (j:Int) = some v:=by
 have hj:j < xs.length:=(List.getElem?_eq_some_iff.mp h).1
 have e:ixN xs.length (j:Int) = some j:=by
  unfold ixN
  rw [if_pos (by omega),if_pos (by omega)]; simp
 unfold atI; rw [e]; exact h
def PlainIx (b:Expr):Prop:=∀ o i,subscripted b false o i = operate [o,i] (getItem o i)
def IxR (X:Cx) (r:R2):Prop :=
 ∀ (value slice:Expr) (pins:List (Addr × Obj)) (s:Shared) (σ:St) (H:Hp) (x y:V) (v u:Value) (Q:VK),Inv X pins σ H s -> RelV x v -> RelV y u -> r x y H Q ->
  subscripted slice false v u = operate [v,u] (getItem v u) -> wpAny (model X.prog X.w) X.A (subscriptTail value slice v u) (EP X pins σ Q) X.xe s
def MtR (X:Cx) (id:String) (r:V -> List V -> Hp -> VK -> Prop):Prop :=
 ∀ (pins:List (Addr × Obj)) (s:Shared) (σ:St) (H:Hp) (x:V) (xs:List V) (v:Value) (us:List Value) (Q:VK),Inv X pins σ H s -> RelV x v -> Vals xs us -> r x xs H Q ->
  wpAny (model X.prog X.w) X.A (call (.builtin id) (v :: us)) (EP X pins σ Q) X.xe s
section
variable {X:Cx} {a b:Expr} {ta tb:TE} {pos:Pos}
theorem IxR.or {r r':R2} (h:IxR X r) (h':IxR X r'):IxR X (fun x y H Q=>r x y H Q ∨ r' x y H Q):=by
 intro value slice pins s σ H x y v u Q I rx ry q hs
 rcases q with q | q
 ·exact h value slice pins s σ H x y v u Q I rx ry q hs
 ·exact h' value slice pins s σ H x y v u Q I rx ry q hs
theorem MtR.or {id:String} {r r':V -> List V -> Hp -> VK -> Prop} (h:MtR X id r) (h':MtR X id r'):MtR X id (fun x xs H Q=>r x xs H Q ∨ r' x xs H Q):=by
 intro pins s σ H x xs v us Q I rx rs q
 rcases q with q | q
 ·exact h pins s σ H x xs v us Q I rx rs q
 ·exact h' pins s σ H x xs v us Q I rx rs q
theorem pe_ix {r:R2} (hr:IxR X r) (ha:PE X a ta) (hb:PE X b tb) (hs:PlainIx b):PE X (.Subscript a b pos) (tOp r ta tb):=by
 intro pins s σ H Q I h
 exact Subscript_ (binT ha hb I h fun v u s2 x y H2 I2 rx ry q=>hr a b pins s2 σ H2 x y v u Q I2 rx ry q (hs _ _))
def rIxL (K:PySem.W.Frag):R2:=fun x y H Q=>∃ p xs i v,x = .ref p /\ y = .int i /\ SqL K H p xs /\ atI xs i = some v /\ Q v H
def rIxT (K:PySem.W.Frag):R2:=fun x y H Q=>∃ p xs i v,x = .ref p /\ y = .int i /\ SqT K H p xs /\ atI xs i = some v /\ Q v H
theorem ix_list:IxR X (rIxL X.K):=by
 intro value slice pins s σ H x y v u Q I rx ry h hs
 obtain ⟨p,xs,i,z,rfl,rfl,hq,he,q⟩:=h
 cases rx
 obtain ⟨t,rfl⟩:=ry
 obtain ⟨its,r,pl,hz⟩:=I.list hq
 obtain ⟨j,h1,h2,h3,h4,h5⟩:=atI_get he
 obtain ⟨w,ew,rw'⟩:=r.get h2
 have hl:=r.length
 have hn:=line63
 have fin:EP X pins σ Q w s:=⟨z,H,I,rw',q⟩
 by_cases h0:0 <= i
 ·have hj:i.toNat = j:=by
   rw [seqIndex_of h0 h5] at h1
   exact Option.some.inj h1
  exact item_listR pl.isList h0 (by omega) (by rw [hj]; simpa using ew) fin hs
 ·have hj:(i + (its.toArray.size:Int)).toNat = j:=by
   rw [seqIndex_neg (by omega) h4] at h1
   rw [List.size_toArray,← hl]
   exact Option.some.inj h1
  exact subscriptTail_builtinR (x:=w) pl.isList.typeIs slot_list_getitem.lookup
   (wpAny_getItem_list_neg (Q:=fun r s'=>r = w /\ EP X pins σ Q r s') pl.isList (by omega) (by rw [List.size_toArray] <;> omega) (by omega) (by rw [hj]; simpa using ew) ⟨rfl,fin⟩) hs
theorem ix_tup:IxR X (rIxT X.K):=by
 intro value slice pins s σ H x y v u Q I rx ry h hs
 obtain ⟨p,xs,i,z,rfl,rfl,hq,he,q⟩:=h
 cases rx
 obtain ⟨t,rfl⟩:=ry
 obtain ⟨its,r,pl,hz⟩:=I.tuple hq
 obtain ⟨j,h1,h2,h3,h4,h5⟩:=atI_get he
 obtain ⟨w,ew,rw'⟩:=r.get h2
 have hl:=r.length
 have hn:=line63
 have fin:EP X pins σ Q w s:=⟨z,H,I,rw',q⟩
 exact subscriptTail_builtinR (x:=w) pl.typeIs slot_tuple_getitem.lookup
  (getItem_tuple (j:=j) (Q:=fun r s'=>r = w /\ EP X pins σ Q r s') pl (by omega) (by omega) (by rw [List.size_toArray,← hl]; exact h1) (by simpa using ew) ⟨rfl,fin⟩) hs
theorem mapSeq_set (its:List Value) (n j:Nat) (u:Value):Obj.mapSeq (·.setIfInBounds j u) { cls:=.type "list",data:=.seq its.toArray n } = { cls:=.type "list",data:=.seq (its.set j u).toArray n }:=by
 simp [Obj.mapSeq]
theorem Inv.lst {pins:List (Addr × Obj)} {σ:St} {H:Hp} {s:Shared} {p:Addr} {xs:List V} (I:Inv X pins σ H s) (h:H p = some (.lst xs)) :
  ∃ (its:List Value) (n:Nat),Vals xs its /\ s.heap.get? p = some { cls:=.type "list",data:=.seq its.toArray n } /\ xs.length <= sizeLine:=by
 obtain ⟨z,its,n,r,e⟩:=I.hok p _ h
 exact ⟨its,n,r,e,z⟩
theorem Inv.lstUpd {pins:List (Addr × Obj)} {σ:St} {H:Hp} {s:Shared} {p:Addr} {xs ys:List V} {its its':List Value} {n n':Nat} {f:Obj -> Obj} (I:Inv X pins σ H s) (h:H p = some (.lst xs))
  (ho:s.heap.get? p = some { cls:=.type "list",data:=.seq its.toArray n }) (hf:f { cls:=.type "list",data:=.seq its.toArray n } = { cls:=.type "list",data:=.seq its'.toArray n' }) (r:Vals ys its') (hz:ys.length <= sizeLine) (t:Nat) :
  Inv X pins σ (upd H p (.lst ys)) { s with heap:=s.heap.update p f,toks:=t }:=by
 have e:(s.heap.update p f).get? p = some { cls:=.type "list",data:=.seq its'.toArray n' }:=by
  rw [Heap.get?_update_self f ho (by rw [hf] <;> rfl),hf]
 refine I.write (x:=p) (e:=p) (by rw [h]; trivial) (.inl rfl) (fun b u hb q=>(Heap.get?_update_other _ _ (Ne.symm hb)).trans q) ⟨_,e⟩ ?_
 exact ⟨hz,its',n',r,e⟩
def rSetL:V -> V -> V -> Hp -> (Hp -> Prop) -> Prop:=fun o i v H Q=>∃ p xs k j,o = .ref p /\ i = .int k /\ H p = some (.lst xs) /\ ixN xs.length k = some j /\ Q (upd H p (.lst (xs.set j v)))
theorem set_list:PSet X rSetL:=by
 intro pins s σ H o i v ov iv u Q I ro ri rv h
 obtain ⟨p,xs,k,j,rfl,rfl,hp,hj,q⟩:=h
 cases ro
 obtain ⟨t,rfl⟩:=ri
 obtain ⟨its,n,r,ho,hz⟩:=I.lst hp
 obtain ⟨h1,h2,h3,h4⟩:=ixN_seq hj
 have hl:=r.length
 have hn:=line63
 have I':Inv X pins σ (upd H p (.lst (xs.set j v))) { s with heap:=s.heap.update p (Obj.mapSeq (·.setIfInBounds j u)) } :=
  I.lstUpd hp ho (mapSeq_set its n j u) (r.set rv j) (by rw [List.length_set]; exact hz) s.toks
 by_cases h0:0 <= k
 ·have hk:k.toNat = j:=by
   rw [seqIndex_of h0 h4] at h1
   exact Option.some.inj h1
  exact PySem.W.ki_setAt ho h0 (by omega) (by rw [List.size_toArray,← hl]; exact h4) (by rw [hk]; exact ⟨_,I',q⟩)
 ·have hk:(k + (its.toArray.size:Int)).toNat = j:=by
   rw [seqIndex_neg (by omega) h3] at h1
   rw [List.size_toArray,← hl]
   exact Option.some.inj h1
  exact PySem.W.ki_setBack ho (by omega) (by rw [List.size_toArray,← hl]; exact h3) (by omega) (by rw [hk]; exact ⟨_,I',q⟩)
theorem slice_bounds (lo hi:Option Int) (n:Nat):(sliceBounds lo hi none n).1 = ((HT.sIx n 0 lo:Nat):Int) /\ (sliceBounds lo hi none n).2.1 = ((HT.sIx n n hi:Nat):Int) /\ (sliceBounds lo hi none n).2.2 = 1:=by
 refine ⟨?_,?_,rfl⟩
 ·cases lo with
  | none=>simp [sliceBounds,HT.sIx]
  | some i =>
   simp only [sliceBounds,HT.sIx,Option.getD_none,show (1:Int) > 0 by decide,if_true]
   by_cases h:i < 0
   ·simp only [h,if_true] <;> omega
   ·simp only [h,if_false] <;> omega
 ·cases hi with
  | none=>simp [sliceBounds,HT.sIx]
  | some i =>
   simp only [sliceBounds,HT.sIx,Option.getD_none,show (1:Int) > 0 by decide,if_true]
   by_cases h:i < 0
   ·simp only [h,if_true] <;> omega
   ·simp only [h,if_false] <;> omega
theorem slicePick_cut (its:List Value) (lo hi:Option Int):slicePick its.toArray lo hi none = ((its.drop (HT.sIx its.length 0 lo)).take (HT.sIx its.length its.length hi - HT.sIx its.length 0 lo)).toArray:=by
 obtain ⟨h1,h2,h3⟩:=slice_bounds lo hi its.toArray.size
 unfold slicePick
 rw [h1,h2,h3]
 simp only [sliceRange_one,pick_run,List.size_toArray] <;> rfl
def rSlL (K:PySem.W.Frag):V -> Option Int -> Option Int -> Hp -> VK -> Prop:=fun x lo hi H Q=>∃ a xs,x = .ref a /\ SqL K H a xs /\ ∀ p,H p = none -> Q (.ref p) (upd H p (.lst (cutV xs lo hi)))
theorem sl_list:SlR X (rSlL X.K):=by
 intro pins s σ H x v vl vu lo hi sl Q I rx hs pl pu h
 obtain ⟨a,xs,rfl,hx,q⟩:=h
 cases rx
 obtain ⟨its,r,ht,hz⟩:=I.list hx
 have hlen:=r.length
 refine ⟨"list",_,slot_list_getitem.lookup,ht.isList.typeIs,?_⟩
 refine wpAny_getItem_list_slice ht.isList hs pl pu .none (by simp) ?_ (by rw [List.size_toArray] <;> omega)
 rw [slicePick_cut,← hlen]
 refine ⟨.ref s.heap.objs.size,_,I.laid (t':=s.toks) (o:=.lst (cutV xs lo hi)) (fun b ob q=>Heap.get?_push_of_some _ q) (Nat.le_refl _) ?_,rfl,q _ (I.hok.fresh (Nat.le_refl _))⟩
 exact ⟨Nat.le_trans (cutV_length xs lo hi) hz,_,0,(r.drop (HT.sIx xs.length 0 lo)).take (HT.sIx xs.length xs.length hi - HT.sIx xs.length 0 lo),Heap.get?_push_size _ rfl⟩
theorem call_len_seq:CallR X (.builtin "len") (fun xs H Q=>∃ p ys,xs = [.ref p] /\ (SqL X.K H p ys ∨ SqT X.K H p ys) /\ Q (.int ys.length) H):=by
 intro pins s σ H xs us Q I r h
 obtain ⟨p,ys,rfl,hq,q⟩:=h
 obtain ⟨u,rfl,rx⟩:=vals1 r
 cases rx
 have hn:=line63
 rcases hq with hq | hq
 ·obtain ⟨its,r',pl,hz⟩:=I.list hq
  have hlen:=r'.length
  exact Calls.call_len_list pl.isList (by simp only [List.size_toArray] <;> omega) ⟨.int ys.length,H,I.tok _,⟨s.toks + 1,by rw [List.size_toArray,hlen]⟩,q⟩
 ·obtain ⟨its,r',pl,hz⟩:=I.tuple hq
  have hlen:=r'.length
  exact len_tuple pl (by simp only [List.size_toArray] <;> omega) ⟨.int ys.length,H,I.tok _,⟨s.toks + 1,by rw [List.size_toArray,hlen]⟩,q⟩
theorem CallR.or {f:Value} {r r':List V -> Hp -> VK -> Prop} (h:CallR X f r) (h':CallR X f r'):CallR X f (fun xs H Q=>r xs H Q ∨ r' xs H Q):=by
 intro pins s σ H xs us Q I rs q
 rcases q with q | q
 ·exact h pins s σ H xs us Q I rs q
 ·exact h' pins s σ H xs us Q I rs q
theorem call_tuple_of:CallR X (.type "tuple") (fun xs H Q=>∃ p ys,xs = [.ref p] /\ ((SqL X.K H p ys /\ ∀ l,H l = none -> Q (.ref l) (upd H l (.tup ys))) ∨ (SqT X.K H p ys /\ Q (.ref p) H))):=by
 intro pins s σ H xs us Q I r h
 obtain ⟨p,ys,rfl,h⟩:=h
 obtain ⟨u,rfl,rx⟩:=vals1 r
 cases rx
 rcases h with ⟨hq,q⟩ | ⟨hq,q⟩
 ·obtain ⟨its,r',pl,hz⟩:=I.list hq
  have hlen:=r'.length
  refine call_tuple_list pl.isList (fun h' kp=>?_) (by simp only [List.size_toArray] <;> omega)
  have I1:Inv X pins σ H { s with heap:=h' }:=I.kept (t':=s.toks) kp
  have I2:Inv X pins σ (upd H h'.objs.size (.tup ys)) { s with heap:=h'.push { cls:=.type "tuple",data:=.seq its.toArray } } :=
   I1.laid (t':=s.toks) (fun b o e=>Heap.get?_push_of_some _ e) (Nat.le_refl _) (show ObjOk X.prog X.w _ _ _ (.tup ys) from ⟨hz,its,r',IsTup.new _ _⟩)
  exact ⟨.ref h'.objs.size,_,I2,rfl,q _ (I1.hok.fresh (Nat.le_refl _))⟩
 ·obtain ⟨its,r',pl,hz⟩:=I.tuple hq
  exact call_tuple_same pl ⟨.ref p,H,I,rfl,q⟩
def tyV (K:PySem.W.Frag) (T:String) (x:V) (H:Hp):Prop:=match x with
 | .str _=>T = "str"
 | .int _=>T = "int"
 | .ref p=>(T = "list" /\ ∃ xs,SqL K H p xs) ∨ (T = "tuple" /\ ∃ o,K.lookup p = some o /\ o.cls = .type "tuple" /\ o.dict = none) ∨
   (T = "dict" /\ ((∃ kvs,H p = some (.dK kvs)) ∨ ∃ kvs,H p = some (.dT kvs))) ∨ (T = "set" /\ ∃ S n,H p = some (.set S n))
 | _=>False
theorem tyV_is {pins:List (Addr × Obj)} {σ:St} {H:Hp} {s:Shared} {T:String} {x:V} {v:Value} (I:Inv X pins σ H s) (r:RelV x v) (ty:tyV X.K T x H) :
  s.TypeIs v T /\ ∀ a,v = .ref a -> ∃ ob,s.heap.get? a = some ob /\ ob.dict = none:=by
 cases x with
 | str z =>
  obtain ⟨t,rfl⟩:=r
  cases (show T = "str" from ty)
  exact ⟨typeIs_str s z t,fun _ e=>nomatch e⟩
 | int i =>
  obtain ⟨t,rfl⟩:=r
  cases (show T = "int" from ty)
  exact ⟨typeIs_int s i t,fun _ e=>nomatch e⟩
 | ref p =>
  cases r
  rcases ty with ⟨rfl,xs,hq⟩ | ⟨rfl,o,hk,hc,hd⟩ | ⟨rfl,hk⟩ | ⟨rfl,S,n,hk⟩
  ·obtain ⟨its,_,pl,_⟩:=I.list hq
   refine ⟨pl.isList.typeIs,fun a e=>?_⟩
   cases e
   obtain ⟨o,n,e,c,hd,_⟩:=pl
   exact ⟨o,e,hd⟩
  ·refine ⟨⟨o,I.kIn p o hk,hc⟩,fun a e=>?_⟩
   cases e
   exact ⟨o,I.kIn _ o hk,hd⟩
  ·have z:∃ o,s.heap.get? p = some o /\ o.ExactDict:=by
    rcases hk with ⟨kvs,hk⟩ | ⟨kvs,hk⟩
    ·obtain ⟨_,_,_,_,o,_,_,e,ex,_⟩:=I.hok p _ hk
     exact ⟨o,e,ex⟩
    ·obtain ⟨_,_,_,_,o,_,_,e,ex,_⟩:=I.hok p _ hk
     exact ⟨o,e,ex⟩
   obtain ⟨o,e,ex⟩:=z
   refine ⟨⟨o,e,ex.1⟩,fun a e2=>?_⟩
   cases e2
   exact ⟨o,e,ex.2.1⟩
  ·obtain ⟨o,_,_,_,e,ex,_⟩:=I.hok p _ hk
   refine ⟨⟨o,e,ex.1⟩,fun a e2=>?_⟩
   cases e2
   exact ⟨o,e,ex.2.1⟩
 | _=>exact False.elim ty
def tBM (K:PySem.W.Frag) (T:String) (r:V -> List V -> Hp -> VK -> Prop) (to:TE) (t:TA):TE:=fun σ H Q=>to σ H fun x H1=>tyV K T x H1 /\ t σ H1 fun xs H2=>r x xs H2 Q
variable {o e:Expr} {es:List Expr} {to:TE} {t:TA} {name:Str} {apos cpos:Pos} {T id:String} {r:V -> List V -> Hp -> VK -> Prop}
theorem pe_bm (pa:PlainAttrs T) (slot:Slot T name id) (hty:typeOf (.builtin id) = pure (.type "method_descriptor")) (hm:MtR X id r) (ho:PE X o to) (ha:PA X (e :: es) t)
  (hbase:attributeBase o name X.env (eval o X.env) = eval o X.env:=by rfl)
  (hfew:((backTo cpos (starEach (e :: es) X.env)).all (fun x=>!x.1) && (backToKw cpos (keywordEach [] X.env)).all (fun x=>x.1.isSome)
   && decide ((e :: es).length + ([]:List Keyword).length + (if ([]:List Keyword).isEmpty then 0 else 1) < 30)) = true:=by rfl)
  (hline:(apos.endLine == cpos.line) = true:=by rfl) (hs:starEach (e :: es) X.env = (false,eval e X.env) :: starEach es X.env:=by rfl) (hplain:(backTo cpos (starEach es X.env)).any (·.1) = false:=by rfl) :
  PE X (.Call (.Attribute o name apos) (e :: es) [] cpos) (tBM X.K T r to t):=by
 intro pins s σ H Q I h
 refine wpAny_Call_method_late hbase hfew hline rfl (thn (ho pins s σ H _ I h) fun v s1 ⟨x,H1,I1,r1,ty,q1⟩=>?_)
 obtain ⟨h1,h2⟩:=tyV_is I1 r1 ty
 refine ⟨T,id,pa,slot,hty,h1,h2,?_⟩
 have hA:=ha cpos pins s1 σ H1 _ I1 q1
 rw [hs] at hA ⊢
 refine Calls.callWith_builtin (by show (false || (backTo cpos (starEach es X.env)).any (·.1)) = false; rw [hplain] <;> rfl) (Calls.evalArgs_plain ?_)
 exact thn hA fun us s2 ⟨vs,H2,I2,r2,q2⟩=>hm pins s2 σ H2 x vs v us Q I2 r1 r2 q2
end
end L2
namespace L2
open PySem PySem.Spec PyProof.Rows
def MtM (X:Cx) (id:String) (r:V -> List V -> Hp -> VK -> Prop):Prop :=
 ∀ (pins:List (Addr × Obj)) (s:Shared) (σ:St) (H:Hp) (x:V) (xs:List V) (v:Value) (us:List Value) (Q:VK),Inv X pins σ H s -> RelV x v -> Vals xs us -> r x xs H Q ->
  wpAny (model X.prog X.w) X.A (call (.builtin id) (v :: us)) (EP X pins σ Q) X.xe s
theorem Vals.one:∀ {x:V} {us:List Value},Vals [x] us -> ∃ u,us = [u] /\ RelV x u
 | _,_,.cons r .nil=>⟨_,rfl,r⟩
theorem Vals.two:∀ {x y:V} {us:List Value},Vals [x,y] us -> ∃ u v,us = [u,v] /\ RelV x u /\ RelV y v
 | _,_,_,.cons r (.cons q .nil)=>⟨_,_,rfl,r,q⟩
theorem Vals.zero:∀ {us:List Value},Vals [] us -> us = []
 | _,.nil=>rfl
theorem Vals.reverse {xs:List V} {us:List Value} (h:Vals xs us):Vals xs.reverse us.reverse:=by
 induction h with
 | nil=>exact .nil
 | cons r t ih=>rw [List.reverse_cons,List.reverse_cons]; exact Vals.append ih (.cons r .nil)
section
variable {X:Cx} {pins:List (Addr × Obj)} {σ:St} {H:Hp} {s:Shared} {l b:Addr} {xs ys zs:List V}
theorem Inv.lset {its its':List Value} {n:Nat} {f:Array Value -> Array Value} {t':Nat} (I:Inv X pins σ H s) (hH:H l = some (.lst xs))
  (e:s.heap.get? l = some { cls:=.type "list",data:=.seq its.toArray n }) (hf:f its.toArray = its'.toArray) (hv:Vals ys its') (hz:ys.length <= sizeLine) :
  Inv X pins σ (upd H l (.lst ys)) { s with heap:=s.heap.update l (Obj.mapSeq f),toks:=t' }:=by
 have q:=PySem.IsL.update e f
 rw [hf] at q
 refine I.write (x:=l) (e:=l) (by rw [hH]; exact trivial) (.inl rfl) (fun b' u hb hu=>(Heap.get?_update_other s.heap (Obj.mapSeq f) (Ne.symm hb)).trans hu) ⟨_,q⟩ ?_
 exact ⟨hz,its',_,hv,q⟩
theorem Inv.lnew {its:List Value} {t':Nat} (I:Inv X pins σ H s) (hv:Vals ys its) (hz:ys.length <= sizeLine) :
  Inv X pins σ (upd H s.heap.objs.size (.lst ys)) { s with heap:=s.heap.push { cls:=.type "list",data:=.seq its.toArray },toks:=t' } :=
 I.laid (fun _ _ q=>Heap.get?_push_of_some _ q) (Nat.le_refl _) ⟨hz,its,0,hv,Heap.get?_push_size _ rfl⟩
theorem Inv.fresh (I:Inv X pins σ H s):H s.heap.objs.size = none:=I.hok.fresh (Nat.le_refl _)
theorem Inv.lstM (I:Inv X pins σ H s) (hH:H l = some (.lst xs)):xs.length <= sizeLine /\ ∃ (its:List Value) (n:Nat),Vals xs its /\ xs.length = its.length /\ s.heap.get? l = some { cls:=.type "list",data:=.seq its.toArray n }:=by
 obtain ⟨z,its,n,r,e⟩:=I.hok l _ hH
 exact ⟨z,its,n,r,r.length,e⟩
end
section
variable {X:Cx}
def rAppend:V -> List V -> Hp -> VK -> Prop:=fun x vs H Q=>∃ l xs y,x = .ref l /\ vs = [y] /\ H l = some (.lst xs) /\ xs.length < sizeLine /\ Q .non (upd H l (.lst (xs ++ [y])))
theorem mt_append:MtM X "list.append" rAppend:=by
 intro pins s σ H x vs v us Q I rx rv h
 obtain ⟨l,xs,y,rfl,rfl,hH,hz,q⟩:=h
 cases rx
 obtain ⟨u,rfl,ru⟩:=rv.one
 obtain ⟨z,its,n,r,hl,e⟩:=I.lstM hH
 refine call_meets F.slot_list_append ⟨_,e,rfl⟩ F.entry_list_append (F.args_list_append_2 _ _) (PySem.list_append l its.toArray n u (by rw [List.size_toArray]; omega)) ⟨e,?_⟩
 refine ⟨.non,_,I.lset (its':=its ++ [u]) hH e (by simp) (r.append (.cons ru .nil)) ?_,rfl,q⟩
 rw [List.length_append,List.length_singleton]
 omega
def rCat:R2:=fun x y H Q=>∃ l b xs zs,x = .ref l /\ y = .ref b /\ H l = some (.lst xs) /\ H b = some (.lst zs) /\ xs.length + zs.length <= sizeLine /\ ∀ p,H p = none -> Q (.ref p) (upd H p (.lst (xs ++ zs)))
theorem op_cat:OpR X (binaryOp .Add) rCat:=by
 intro pins s σ H x y v u Q I rx ry h
 obtain ⟨l,b,xs,zs,rfl,rfl,hH,hB,hz,q⟩:=h
 cases rx
 cases ry
 obtain ⟨z,its,n,r,hl,e⟩:=I.lstM hH
 obtain ⟨z2,its2,n2,r2,hl2,e2⟩:=I.lstM hB
 refine PySem.P.add_list e e2 ?_ (by rw [List.size_toArray,List.size_toArray]; omega)
 have ea:its.toArray ++ its2.toArray = (its ++ its2).toArray:=by simp
 rw [ea]
 exact ⟨.ref _,_,I.lnew (t':=s.toks) (r.append r2) (by rw [List.length_append]; omega),rfl,q _ I.fresh⟩
end
section
variable {prog:Program} {w:World} {A:Around} {E:Value -> Shared -> Prop} {s:Shared}
end
section
variable {X:Cx}
end
end L2
namespace L2
open PySem PySem.Spec PyProof.Rows
section
variable {κ:Type} [DecidableEq κ]
def valV (kvs:List (κ × V)) (k:κ):Option V:=(kvs.find? fun kv=>decide (kv.1 = k)).map (·.2)
def putK (kvs:List (κ × V)) (k:κ) (v:V):List (κ × V) :=
 if (kvs.any fun kv=>decide (kv.1 = k)) = true then kvs.map (fun kv=>if kv.1 = k then (kv.1,v) else kv) else kvs ++ [(k,v)]
def dropK (kvs:List (κ × V)) (k:κ):List (κ × V):=kvs.filter fun kv=>decide (kv.1 ≠ k)
theorem valV_pos {p:κ × V} {r:List (κ × V)} {k:κ} (e:p.1 = k):valV (p :: r) k = some p.2:=by simp [valV,List.find?_cons,e]
theorem valV_neg {p:κ × V} {r:List (κ × V)} {k:κ} (e:¬ p.1 = k):valV (p :: r) k = valV r k:=by simp [valV,List.find?_cons,e]
theorem valV_any (k:κ):∀ kvs:List (κ × V),(kvs.any fun kv=>decide (kv.1 = k)) = (valV kvs k).isSome
 | []=>rfl
 | p :: r=>by
  rw [List.any_cons]
  by_cases e:p.1 = k
  ·simp only [valV_pos e,decide_eq_true e,Bool.true_or,Option.isSome_some]
  ·rw [valV_neg e,decide_eq_false e,Bool.false_or]; exact valV_any k r
theorem RelO.isSome_eq {o:Option V} {u:Option Value} (r:RelO o u):o.isSome = u.isSome:=by
 cases o with
 | none=>cases u with
  | none=>rfl
  | some _=>exact (show False from r).elim
 | some _=>cases u with
  | none=>exact (show False from r).elim
  | some _=>rfl
theorem RelO.getD {o:Option V} {u:Option Value} {d:V} {d':Value} (r:RelO o u) (rd:RelV d d'):RelV (o.getD d) (u.getD d'):=by
 cases o with
 | none=>cases u with
  | none=>exact rd
  | some _=>exact (show False from r).elim
 | some _=>cases u with
  | none=>exact (show False from r).elim
  | some _=>exact r
theorem KV.val {kvs:List (κ × V)} {vs:List (κ × Value)} (r:KV kvs vs) (k:κ):RelO (valV kvs k) (valueAt vs k):=by
 unfold KV at r
 induction r with
 | nil=>exact True.intro
 | @cons p q ps qs h t ih =>
  obtain ⟨h1,h2⟩:=h
  by_cases e:p.1 = k
  ·have e':q.1 = k:=h1.symm.trans e
   have b:valueAt (q :: qs) k = some q.2:=by simp [valueAt,List.find?_cons,e']
   rw [valV_pos e,b]; exact h2
  ·have e':¬ q.1 = k:=fun z=>e (h1.trans z)
   have b:valueAt (q :: qs) k = valueAt qs k:=by simp [valueAt,List.find?_cons,e']
   rw [valV_neg e,b]; exact ih
theorem KV.any {kvs:List (κ × V)} {vs:List (κ × Value)} (r:KV kvs vs) (k:κ):(kvs.any fun kv=>decide (kv.1 = k)) = vs.any fun kv=>decide (kv.1 = k):=by
 unfold KV at r
 induction r with
 | nil=>rfl
 | cons h t ih=>rw [List.any_cons,List.any_cons,ih,h.1]
theorem KV.repl {kvs:List (κ × V)} {vs:List (κ × Value)} (r:KV kvs vs) (k:κ) {y:V} {u:Value} (ry:RelV y u) :
  KV (kvs.map fun kv=>if kv.1 = k then (kv.1,y) else kv) (vs.map fun kv=>if kv.1 = k then (kv.1,u) else kv):=by
 unfold KV at r ⊢
 induction r with
 | nil=>exact .nil
 | @cons p q ps qs h t ih =>
  rw [List.map_cons,List.map_cons]
  refine .cons ?_ ih
  obtain ⟨h1,h2⟩:=h
  by_cases e:p.1 = k
  ·rw [if_pos e,if_pos (h1.symm.trans e)]; exact ⟨h1,ry⟩
  ·rw [if_neg e,if_neg (fun z=>e (h1.trans z))]; exact ⟨h1,h2⟩
theorem KV.put {kvs:List (κ × V)} {vs:List (κ × Value)} (r:KV kvs vs) (k:κ) {y:V} {u:Value} (ry:RelV y u):KV (putK kvs k y) (stored vs k u):=by
 unfold putK stored
 rw [r.any k]
 by_cases e:(vs.any fun kv=>decide (kv.1 = k)) = true
 ·rw [if_pos e,if_pos e]; exact r.repl k ry
 ·rw [if_neg e,if_neg e]; exact Paired.snoc r ⟨rfl,ry⟩
theorem KV.drop {kvs:List (κ × V)} {vs:List (κ × Value)} (r:KV kvs vs) (k:κ):KV (dropK kvs k) (without vs k):=by
 unfold KV at r ⊢
 unfold dropK without
 induction r with
 | nil=>exact .nil
 | @cons p q ps qs h t ih =>
  obtain ⟨h1,h2⟩:=h
  rw [List.filter_cons,List.filter_cons]
  by_cases e:p.1 = k
  ·have a:¬ decide (p.1 ≠ k) = true:=by simp [e]
   have b:¬ decide (q.1 ≠ k) = true:=by simp [h1.symm.trans e]
   rw [if_neg a,if_neg b]; exact ih
  ·have e':¬ q.1 = k:=fun z=>e (h1.trans z)
   have a:decide (p.1 ≠ k) = true:=by simp [e]
   have b:decide (q.1 ≠ k) = true:=by simp [e']
   rw [if_pos a,if_pos b]; exact .cons ⟨h1,h2⟩ ih
theorem KV.keys {kvs:List (κ × V)} {vs:List (κ × Value)} (r:KV kvs vs):kvs.map (·.1) = vs.map (·.1):=by
 unfold KV at r
 induction r with
 | nil=>rfl
 | cons h t ih=>rw [List.map_cons,List.map_cons,ih,h.1]
theorem KV.length {kvs:List (κ × V)} {vs:List (κ × Value)} (r:KV kvs vs):kvs.length = vs.length:=Paired.length r
end
abbrev KT (H:Hp):List (List Key × V) -> List (List Key × Addr × Value) -> Prop:=Paired fun p q=>p.1 = q.1 /\ H q.2.1 = some (.tup (p.1.map kV)) /\ RelV p.2 q.2.2
theorem KT.val {H:Hp} {kvs:List (List Key × V)} {xs:List (List Key × Addr × Value)} (r:KT H kvs xs) (k:List Key):RelO (valV kvs k) ((atKey xs k).map (·.2)):=by
 induction r with
 | nil=>exact True.intro
 | @cons p q ps qs h t ih =>
  obtain ⟨h1,_,h2⟩:=h
  by_cases e:p.1 = k
  ·have e':q.1 = k:=h1.symm.trans e
   have b:atKey (q :: qs) k = some q.2:=by simp [atKey,List.find?_cons,e']
   rw [valV_pos e,b]; exact h2
  ·have e':¬ q.1 = k:=fun z=>e (h1.trans z)
   have b:atKey (q :: qs) k = atKey qs k:=by simp [atKey,List.find?_cons,e']
   rw [valV_neg e,b]; exact ih
theorem KT.repl {H:Hp} {kvs:List (List Key × V)} {xs:List (List Key × Addr × Value)} (r:KT H kvs xs) (k:List Key) {y:V} {u:Value} (ry:RelV y u) :
  KT H (kvs.map fun kv=>if kv.1 = k then (kv.1,y) else kv) (xs.map (putAt k u)):=by
 induction r with
 | nil=>exact .nil
 | @cons p q ps qs h t ih =>
  rw [List.map_cons,List.map_cons]
  refine .cons ?_ ih
  obtain ⟨h1,h2,h3⟩:=h
  unfold putAt
  by_cases e:p.1 = k
  ·rw [if_pos e,if_pos (h1.symm.trans e)]; exact ⟨h1,h2,ry⟩
  ·rw [if_neg e,if_neg (fun z=>e (h1.trans z))]; exact ⟨h1,h2,h3⟩
theorem KT.put {H:Hp} {kvs:List (List Key × V)} {xs:List (List Key × Addr × Value)} (r:KT H kvs xs) (k:List Key) {b:Addr} {y:V} {u:Value} (hb:H b = some (.tup (k.map kV))) (ry:RelV y u) :
  KT H (putK kvs k y) (storedH xs k b u):=by
 have e:(kvs.any fun kv=>decide (kv.1 = k)) = (atKey xs k).isSome:=by
  rw [valV_any,(r.val k).isSome_eq,Option.isSome_map]
 unfold putK storedH
 rw [e]
 by_cases q:(atKey xs k).isSome = true
 ·rw [if_pos q,if_pos q]; exact r.repl k ry
 ·rw [if_neg q,if_neg q]; exact Paired.snoc r ⟨rfl,hb,ry⟩
theorem KT.keeps {H H':Hp} {kvs:List (List Key × V)} {xs:List (List Key × Addr × Value)} (r:KT H kvs xs) (ht:∀ b ys,H b = some (.tup ys) -> H' b = some (.tup ys)):KT H' kvs xs :=
 Paired.mapP r fun _ _ z=>⟨z.1,ht _ _ z.2.1,z.2.2⟩
section
variable {P:Program} {w:World} {H:Hp} {h:Heap} {a:Addr}
end
def DGet (H:Hp) (a:Addr) (y:V) (r:Option V):Prop :=
 (∃ kvs k,Rd H a (.dK kvs) /\ y = kV k /\ r = valV kvs k) ∨ ∃ kvs k b,Rd H a (.dT kvs) /\ y = .ref b /\ H b = some (.tup (k.map kV)) /\ r = valV kvs k
def DPut (H:Hp) (a:Addr) (y v:V) (H':Hp):Prop :=
 (∃ kvs k,H a = some (.dK kvs) /\ y = kV k /\ kvs.length < sizeLine /\ H' = upd H a (.dK (putK kvs k v))) ∨
 ∃ kvs k b,H a = some (.dT kvs) /\ y = .ref b /\ H b = some (.tup (k.map kV)) /\ kvs.length < sizeLine /\ H' = upd H a (.dT (putK kvs k v))
theorem DGet.k {H:Hp} {a:Addr} {kvs:List (Key × V)} {k:Key} (e:H a = some (.dK kvs)):DGet H a (kV k) (valV kvs k):=.inl ⟨kvs,k,.inl e,rfl,rfl⟩
theorem DGet.t {H:Hp} {a b:Addr} {kvs:List (List Key × V)} {k:List Key} (e:H a = some (.dT kvs)) (eb:H b = some (.tup (k.map kV))):DGet H a (.ref b) (valV kvs k):=.inr ⟨kvs,k,b,.inl e,rfl,eb,rfl⟩
theorem DPut.k {H:Hp} {a:Addr} {kvs:List (Key × V)} {k:Key} {v:V} (e:H a = some (.dK kvs)) (hl:kvs.length < sizeLine):DPut H a (kV k) v (upd H a (.dK (putK kvs k v))):=.inl ⟨kvs,k,e,rfl,hl,rfl⟩
theorem DPut.t {H:Hp} {a b:Addr} {kvs:List (List Key × V)} {k:List Key} {v:V} (e:H a = some (.dT kvs)) (eb:H b = some (.tup (k.map kV))) (hl:kvs.length < sizeLine) :
  DPut H a (.ref b) v (upd H a (.dT (putK kvs k v))):=.inr ⟨kvs,k,b,e,rfl,eb,hl,rfl⟩
section
variable {X:Cx} {pins:List (Addr × Obj)} {σ:St} {H:Hp} {s:Shared} {a:Addr} {y v:V} {u r:Value} {o:Option V} {A:Around} {E:Value -> Shared -> Prop}
theorem Inv.big (I:Inv X pins σ H s):sysModules < s.heap.objs.size:=by
 have h:mainGlobals < s.heap.objs.size:=(I.mod.glob.keeps I.bk).lt
 exact Nat.lt_trans (by decide) h
end
section
variable {X:Cx} {pins:List (Addr × Obj)} {σ:St} {H:Hp} {s:Shared} {a:Addr} {kvs:List (Key × V)} {k:Key} {u:Value} {A:Around} {E:Value -> Shared -> Prop}
end
section
variable {X:Cx} {o i e value:Expr} {pos pos' tpos:Pos} {td ty tv:TE}
end
section
variable {X:Cx} {pos:Pos}
end
structure M1 (X:Cx) (o:Expr) (m:Str) (apos:Pos) (e:Expr) (cpos:Pos):Prop where
 base:attributeBase o m X.env (eval o X.env) = eval o X.env
 few:((backTo cpos (starEach [e] X.env)).all (fun x=>!x.1) && (backToKw cpos (keywordEach [] X.env)).all (fun x=>x.1.isSome)
  && decide (([e]:List Expr).length + ([]:List Keyword).length + (if ([]:List Keyword).isEmpty then 0 else 1) < 30)) = true
 line:(apos.endLine == cpos.line) = true
 trees:backTo cpos (starEach [e] X.env) = [(false,eval e X.env)]
structure M2 (X:Cx) (o:Expr) (m:Str) (apos:Pos) (e f:Expr) (cpos:Pos):Prop where
 base:attributeBase o m X.env (eval o X.env) = eval o X.env
 few:((backTo cpos (starEach [e,f] X.env)).all (fun x=>!x.1) && (backToKw cpos (keywordEach [] X.env)).all (fun x=>x.1.isSome)
  && decide (([e,f]:List Expr).length + ([]:List Keyword).length + (if ([]:List Keyword).isEmpty then 0 else 1) < 30)) = true
 line:(apos.endLine == cpos.line) = true
 trees:backTo cpos (starEach [e,f] X.env) = [(false,eval e X.env),(false,eval f X.env)]
section
variable {X:Cx} {pins:List (Addr × Obj)} {σ:St} {H:Hp} {s:Shared} {a:Addr} {y d:V} {u r:Value} {o:Option V} {A:Around} {E:Value -> Shared -> Prop}
end
section
variable {X:Cx} {o e f:Expr} {apos cpos:Pos} {td ty tx:TE}
end
section
variable {X:Cx} {pins:List (Addr × Obj)} {σ:St} {H:Hp} {s:Shared} {a:Addr} {kvs:List (Key × V)} {A:Around} {E:Value -> Shared -> Prop}
end
section
variable {X:Cx} {pins:List (Addr × Obj)} {σ:St} {H:Hp} {s:Shared} {a:Addr} {y:V} {u:Value} {A:Around} {E:Value -> Shared -> Prop}
end
end L2
namespace Att
open PySem PySem.W PySem.Calls PyProof.Rows
theorem ints_of_wellAll {P:Params} {h:Heap}:∀ (ns:List Int) (vs:List Value),WellAll P h vs (ns.map WData.int) -> IntsAre vs ns:=by
 intro ns
 induction ns with
 | nil =>
  intro vs w
  rw [List.map_nil] at w
  cases w
  exact .nil
 | cons n ns ih =>
  intro vs w
  rw [List.map_cons] at w
  cases w with
  | cons a b =>
   cases a
   exact .cons _ _ (ih _ b)
theorem script_of {l:OpenLaw} {n:Nat} (hn:l.most = some n) {P:Params} {h:Heap} {args:List WData} {vals:List Value}
  (hpre:l.row.toRowW.claim.pre args = true) (hwl:WellAll P h vals args) :
  ∃ a vs ns,vals = [Value.ref a] /\ args = [WData.list (ns.map WData.int)] /\ h.get? a = some { cls:=.type "list",data:=.seq vs.toArray } /\ IntsAre vs ns /\ ns.length <= n:=by
 have hsh:WShape.hasAll [] args [.list .int] = true:=(pre_splitW hpre).1
 have hc:l.pre.holds [] { args:=args } = true:=(pre_splitW hpre).2
 obtain ⟨d,r,rfl,h1,h2⟩:=hasAllW_cons hsh
 obtain rfl:=hasAllW_nil h2
 obtain ⟨xs,rfl,h3⟩:=hasW_list h1
 obtain ⟨ns,rfl⟩:=items_int h3
 have hlen:ns.length <= n:=by
  unfold OpenLaw.pre at hc
  have h4:(WTm.not (.lt (.lit (.int (n:Int))) (.len (.arg 0)))).holds [] { args:=[.list (ns.map .int)] } = true:=by
   have h4:=(holds_andW hc).1
   rw [hn] at h4
   exact h4
  have h5:=condW_of h4 (w_not (w_lt w_lit (w_len_list (w_arg rfl))))
  rw [List.length_map] at h5
  refine Nat.le_of_not_lt fun q=>?_
  have q':(n:Int) < ((ns.length:Nat):Int):=by omega
  first
   | (rw [decide_eq_true q'] at h5; exact absurd h5 (by decide))
   | (simp at h5; omega)
 cases hwl with
 | cons w1 w2 =>
  cases w2
  cases w1 with
  | list ho hall=>exact ⟨_,_,ns,rfl,rfl,ho,ints_of_wellAll ns _ hall,hlen⟩
theorem post_true (l:OpenLaw) (args:List WData):l.row.toRowW.claim.post args (.bool true) args = true :=
 postW_of (r:=l.row.toRowW) (X:=(true == true))
  (show WShape.has [] (.bool true) .bool = true by first | rfl | decide | simp [WShape.has,WShape.arms,WShape.armsAll])
  (show (WTm.eq .res (.lit (.bool true))).value [] { args:=args,res:=some (.bool true),after:=args } = some (.bool (true == true)) from w_eq_bool (w_res rfl) w_lit) rfl
theorem attach_call {l:OpenLaw} {n:Nat} {q:Program} {loose:List Str} {XP:(Str -> Option Value) -> Heap -> Prop} {YP:World -> Heap -> Prop} {d:DefRec}
  (hn:l.most = some n) (hdf:d.params.defaults = [])
  (call:∀ (w:World) (s₀ s₁:Shared) (mg mb:Str -> Option Value) (fa:Addr) (o:Obj) (pm cd doc:Value) (a:Addr) (vs:List Value) (ns:List Int),
   Ground q loose [] XP w s₀ mg mb s₁.heap -> YP w s₁.heap ->
   s₁.heap.get? fa = some o -> o.data = .func (docDef d.name d.params d.body d.scope pm cd doc) -> s₁.heap.CodeRec cd d.name -> mg d.name = some (.ref fa) ->
   s₁.heap.get? a = some { cls:=.type "list",data:=.seq vs.toArray } -> IntsAre vs ns -> ns.length <= n -> s₁.gens = #[] ->
   codeAny (model l.prog w) callerA (.call (.ref fa) ⟨[.ref a],[]⟩) (fun r s'=>r = .ok (.ret (.bool true)) /\ OldK s₁.heap s'.heap /\ s'.os = s₁.os /\ AllBare s'.gens) s₁) :
  WalkO q loose XP YP l.row.toRowW d [] (fun f vs=>PySem.call f vs):=by
 intro w s₀ s₁ mg mb G Y fa o pm cd doc dV kV ho hd hcd hD hmg hg args vals as hpre hlay hrd hwl hlo
 obtain rfl:dV = .none:=Dflts.none hD hdf
 obtain rfl:kV = .none:=Dflts.noKw hD
 obtain ⟨a,vs,ns,rfl,rfl,hobj,hints,hlen⟩:=script_of hn hpre hwl
 refine enter_call (codeAny_mono (call w s₀ s₁ mg mb fa o pm cd doc a vs ns G Y ho (fd_plain hd) hcd hmg hobj hints hlen hg) fun r s' hq=>?_)
 obtain ⟨rfl,h2,h3,h4⟩:=hq
 exact ⟨.inl ⟨.bool true,.bool true,[],rfl,fun _=>rfl,.bool true,post_true l _,fun _=>⟨List.Pairwise.nil,fun _ hm=>(nomatch hm)⟩⟩,h2,h3,h4⟩
section
variable {prog:Program} {w:World} {A:Around} {E:Value -> Shared -> Prop} {s:Shared} {K:Frag}
end
end Att
namespace L2
open PySem PySem.Spec PyProof.Rows
theorem vals_ints:∀ {vs:List Value} {ns:List Int},IntsAre vs ns -> Vals (ns.map V.int) vs
 | _,_,.nil=>.nil
 | _,_,.cons n t h=>.cons ⟨t,rfl⟩ (vals_ints h)
def Only (H:Hp):Prop:=∀ b,H b = none ∨ ∃ o xs,H b = some (.frz o (.lst xs))
theorem law_call {P:Program} {w:World} {K:PySem.W.Frag} {mg mb:Str -> Option Value} {CX:CXT} {k:Nat} {fa a:Addr} {fd:FuncData} {x:Str} {sp:Sp} {s₁:Shared} {vs:List Value} {ns:List Int}
  (KX:K.In s₁.heap) (hns:s₁.heap.Ns mainGlobals mg) (hb:s₁.heap.Ns builtinsNs mb) (hbb:∀ x:Str,x ≠ "__name__" -> mb x = bootBuiltins x) (hlim:s₁.heap.NoLimit) (hg:s₁.gens = #[])
  (ha:s₁.heap.get? a = some { cls:=.type "list",data:=.seq vs.toArray }) (hi:IntsAre vs ns) (hl:ns.length <= sizeLine) (hr:Room k callerA)
  (F:∀ base:Heap,K.In base -> base.Ns mainGlobals mg -> FnOk P w K mg base CX k fa fd [x] sp) (hbind:∀ (s:Shared) (u:Value),BindsTo s fd ⟨[u],[]⟩ [(x,u)])
  (hsp:∀ H:Hp,Only H -> SqL K H a (ns.map V.int) -> sp [.ref a] H (fun v _=>v = .bl true) fun _ _ _=>False)
  (hCX:∀ H e s',CX [] H s₁ (fun _ _ _=>False) e s' -> False) :
  codeAny (model P w) callerA (.call (.ref fa) ⟨[.ref a],[]⟩) (fun r s'=>r = .ok (.ret (.bool true)) /\ OldK s₁.heap s'.heap /\ s'.os = s₁.os /\ AllBare s'.gens) s₁:=by
 have rv:=vals_ints hi
 have lenV:=hi.length
 -- from an abstract heap in which nothing but the script may be tracked
 have core:∀ H:Hp,Only H -> SqL K H a (ns.map V.int) -> HOk P w H s₁.heap -> (∀ b,H b ≠ none -> b = a) -> (H a ≠ none -> K.lookup a = none) ->
   codeAny (model P w) callerA (.call (.ref fa) ⟨[.ref a],[]⟩) (fun r s'=>r = .ok (.ret (.bool true)) /\ OldK s₁.heap s'.heap /\ s'.os = s₁.os /\ AllBare s'.gens) s₁:=by
  intro H hO hS hok hA hK
  have base_of:∀ {b:Addr} {o:Obj},s₁.heap.get? b = some o -> H b = none -> (hidT s₁.heap H).get? b = some o:=fun e n=>hidT_get e n
  have noA:∀ {b:Addr} {o:Obj} {es:Array DictEntry} {ep:Nat},s₁.heap.get? b = some o -> o.data = .dict es ep -> H b = none:=fun {b o es ep} e d=>by
   cases q:H b with
   | none=>rfl
   | some u =>
    have e':b = a:=hA b (by rw [q]; simp)
    subst e'
    rw [ha] at e; cases e
    have d':Data.seq vs.toArray _ = Data.dict es ep:=d
    cases d'
  have nsK:∀ {b:Addr} {m:Str -> Option Value},s₁.heap.Ns b m -> (hidT s₁.heap H).Ns b m:=fun {b m} ⟨o,es,ep,e,d,r⟩=>⟨o,es,ep,base_of e (noA e d),d,r⟩
  have hKb:K.In (hidT s₁.heap H):=fun b o e=>base_of (KX b o e) (by
   cases q:H b with
   | none=>rfl
   | some u =>
    have e':b = a:=hA b (by rw [q]; simp)
    subst e'
    rw [hK (by rw [q]; simp)] at e; cases e)
  have hM:Mod K mg (hidT s₁.heap H):=⟨hKb,nsK hns,⟨mb,nsK hb,hbb⟩,let ⟨mc,h1,h2⟩:=hlim; ⟨mc,nsK h1,h2⟩⟩
  have e0:Env0 P w K mg (hidT s₁.heap H) callerA [] s₁ H:=⟨rfl,hM,fun b o e=>of_hidT e,Nat.le_of_eq (hidT_size _ _),trivial,fun b hb=>absurd (show b ∈ ([]:List Addr) from hb) (by simp),hok,.of_eq hg⟩
  refine codeAny_mono ((F _ hKb (nsK hns)).run callerA [] s₁ H ⟨[.ref a],[]⟩ [.ref a] [.ref a] _ _ hr e0 (hbind s₁ (.ref a)) (.cons rfl .nil) (hsp H hO hS)) fun r s' h=>?_
  cases r with
  | error e=>exact (hCX H e s' h).elim
  | ok fl =>
   cases fl with
   | next=>exact False.elim h
   | brk=>exact False.elim h
   | cont=>exact False.elim h
   | ret u =>
    obtain ⟨v,H',os,bare,un,hok',r',q⟩:=h
    have q':v = .bl true:=q
    subst q'
    obtain rfl:u = Value.bool true:=r'
    refine ⟨rfl,OldK.of_keep fun b o e=>?_,os,bare⟩
    cases q:H b with
    | none=>exact un.keep b o e q (by intro z; exact absurd (show b ∈ ([]:List Addr) from z) (by simp)) (by simp)
    | some u =>
     rcases hO b with z | ⟨ob,xs,z⟩
     ·rw [q] at z; cases z
     ·have z2:=un.frzs b ob _ z
      obtain ⟨e1,_⟩:=hok b _ z
      obtain ⟨e2,_⟩:=hok' b _ z2
      rw [e] at e1; cases e1
      exact e2
 cases hk:K.lookup a with
 | some o =>
  -- the script is one of the module's own objects
  have e:=KX a o hk
  rw [ha] at e
  cases e
  refine core (fun _=>none) (fun _=>.inl rfl) (.inr ⟨_,vs.toArray,_,hk,rfl,rfl,rfl,by rw [List.size_toArray,lenV]; exact hl,by simpa using rv⟩) (fun b u z=>by have z':(none:Option HO) = some u:=z; cases z') (fun b z=>absurd rfl z) fun z=>absurd rfl z
 | none =>
  refine core (fun b=>if b = a then some (.frz { cls:=.type "list",data:=.seq vs.toArray } (.lst (ns.map V.int))) else none) (fun b=>?_) (.inl (.inr ⟨{ cls:=.type "list",data:=.seq vs.toArray },if_pos rfl⟩)) (fun b u z=>?_) (fun b z=>?_) fun _=>hk
  ·by_cases hb:b = a
   ·exact .inr ⟨_,_,if_pos hb⟩
   ·exact .inl (if_neg hb)
  ·by_cases hb:b = a
   ·have z':=(if_pos hb).symm.trans z
    cases z'
    subst hb
    exact ⟨ha,by rw [List.length_map]; exact hl,vs,_,rv,ha⟩
   ·have z':=(if_neg hb).symm.trans z
    cases z'
  ·by_cases hb:b = a
   ·exact hb
   ·exact absurd (if_neg hb) z
end L2
namespace L2
open PySem PySem.Spec PyProof.Rows
abbrev KOf {K:PySem.W.Frag} {h:Heap} (_:K.In h):PySem.W.Frag:=K
theorem walk_of {l:PySem.W.OpenLaw} {n k:Nat} {q:Program} {loose:List Str} {XP:(Str -> Option Value) -> Heap -> Prop} {YP:World -> Heap -> Prop} {d:DefRec} {K:Params -> PySem.W.Frag} {CX:World -> CXT} {sp:World -> Sp} {x:Str}
  (hn:l.most = some n) (hn2:n <= sizeLine) (hdf:d.params.defaults = []) (hr:Room k callerA)
  (hY:∀ (w:World) (h:Heap),YP w h -> (K w.params).In h)
  (F:∀ (w:World) (mg:Str -> Option Value) (fa:Addr) (h:Heap),(K w.params).In h -> h.Ns mainGlobals mg -> mg d.name = some (.ref fa) ->
   ∃ fd:FuncData,(∀ (s:Shared) (u:Value),BindsTo s fd ⟨[u],[]⟩ [(x,u)]) /\
    ∀ base:Heap,(K w.params).In base -> base.Ns mainGlobals mg -> FnOk l.prog w (K w.params) mg base (CX w) k fa fd [x] (sp w))
  (hsp:∀ (w:World) (H:Hp) (a:Addr) (ns:List Int),ns.length <= n -> Only H -> SqL (K w.params) H a (ns.map V.int) -> sp w [.ref a] H (fun v _=>v = .bl true) fun _ _ _=>False)
  (hCX:∀ (w:World) (H:Hp) (s:Shared) (e:Value) (s':Shared),CX w [] H s (fun _ _ _=>False) e s' -> False) :
  PySem.W.WalkO q loose XP YP l.row.toRowW d [] (fun f vs=>PySem.call f vs):=by
 refine Att.attach_call hn hdf fun w s₀ s₁ mg mb fa o pm cd doc a vs ns G Y ho hd hcd hmg hobj hints hlen hg=>?_
 have KX:=hY w _ Y
 obtain ⟨fd,hb,hF⟩:=F w mg fa _ KX G.T.g hmg
 exact law_call KX G.T.g G.T.b G.T.builtins G.T.nolimit hg hobj hints (Nat.le_trans hlen hn2) hr hF hb (fun H hO hS=>hsp w H a ns hlen hO hS) fun H e s'=>hCX w H s₁ e s'
theorem walk_ofK {l:PySem.W.OpenLaw} {n k:Nat} {q:Program} {loose:List Str} {XP:(Str -> Option Value) -> Heap -> Prop} {YP:World -> Heap -> Prop} {d:DefRec} {K:Params -> PySem.W.Frag} {CX:CXT} {sp:PySem.W.Frag -> Sp} {x:Str}
  (hn:l.most = some n) (hn2:n <= sizeLine) (hdf:d.params.defaults = []) (hr:Room k callerA)
  (hY:∀ (w:World) (h:Heap),YP w h -> (K w.params).In h)
  (F:∀ (w:World) (mg:Str -> Option Value) (fa:Addr) (h:Heap),(K w.params).In h -> h.Ns mainGlobals mg -> mg d.name = some (.ref fa) ->
   ∃ fd:FuncData,(∀ (s:Shared) (u:Value),BindsTo s fd ⟨[u],[]⟩ [(x,u)]) /\
    ∀ base:Heap,(K w.params).In base -> base.Ns mainGlobals mg -> FnOk l.prog w (K w.params) mg base CX k fa fd [x] (sp (K w.params)))
  (hsp:∀ (K:PySem.W.Frag) (H:Hp) (a:Addr) (ns:List Int),ns.length <= n -> Only H -> SqL K H a (ns.map V.int) -> sp K [.ref a] H (fun v _=>v = .bl true) fun _ _ _=>False)
  (hCX:∀ (H:Hp) (s:Shared) (e:Value) (s':Shared),CX [] H s (fun _ _ _=>False) e s' -> False) :
  PySem.W.WalkO q loose XP YP l.row.toRowW d [] (fun f vs=>PySem.call f vs) :=
 walk_of (K:=K) (CX:=fun _=>CX) (sp:=fun w=>sp (K w.params)) hn hn2 hdf hr hY F (fun w H a ns h1 h2 h3=>hsp (K w.params) H a ns h1 h2 h3) fun _ H s e s'=>hCX H s e s'
end L2
/- THE LAST THEOREM (shape; LID,My.* are yours):
  My.Adr: a structure of the addresses that your layer names (classes,functions); My.Txt K t: a structure (Prop) of the equations over K;
  My.txt_mk:{K} {implicit addresses ..} (e1:nsIn K mainGlobals "law" = some (some (.ref f))) (e2:K.lookup f = some ⟨oc,od,.func (fnOf "law" "law" params body scope dV kV doc pm an cdv ct),sl⟩) (e3:codeIn K cdv "law" = true) .. : ∃ t,My.Txt K t
set_option maxRecDepth 100000 in
set_option maxHeartbeats 0 in
theorem PySem.Challenge.cw_LID_holds:PySem.Challenge.rw_LID.Holds:=by
 w_on; o_law; k_head; (case hw=>w_witness2)
 k_fill
 refine L2.walk_of (l:=PySem.Challenge.rw_LID) (n:=63) (k:=40) (x:="script") (CX:=fun w=>..) (sp:=fun _=>My.sp_law) rfl (by decide) rfl ⟨rfl,by decide,by decide⟩ (fun w h Y=>PySem.W.kIn_of Y) ?F ?S ?C
 case F =>
  intro w mg fa h KX G hmg
  have T:∃ t,My.Txt (L2.KOf KX) t:=by
   dsimp only [L2.KOf]                          -- K must stand as «<heap const> w.params» for k_is
   refine' My.txt_mk ?e1 ?e2 ?e3 ..
   (case e1=>PySem.W.k_is)                    -- in the order: a name -> its address -> its object -> its parts
   (case e2=>PySem.W.k_is)
   ..
  obtain ⟨t,T⟩:=T
  have e0:=hmg.symm.trans (PySem.W.mg_of KX G T.law)
  cases e0                                       -- fa is the law's own address
  exact ⟨_,fun s u=>.of_eq rfl,fun base kb nb=>My.law_fn T kb nb⟩     -- if «.of_eq rfl» comes too early: refine' ⟨_,?b,fun base kb nb=>My.law_fn T kb nb⟩; exact fun s u=>.of_eq rfl
 case S=>exact fun w H a ns hl hO hS=>..
 case C=>exact ..
(the tactic k_is has no namespace: write k_is) -/
namespace L2
open PySem PySem.Spec PyProof.Rows
def defArgs (s:Stmt):Arguments:=match s with
 | .FunctionDef _ a _ _ _ _ _ _ _ _=>a
 | _=>{ posonlyargs:=[],args:=[],vararg:=none,kwonlyargs:=[],kw_defaults:=[],kwarg:=none,defaults:=[] }
def defBody (s:Stmt):List Stmt:=match s with
 | .FunctionDef _ _ b _ _ _ _ _ _ _=>b
 | _=>[]
def defScope (s:Stmt):Scope:=match s with
 | .FunctionDef _ _ _ _ _ _ sc _ _ _=>sc
 | _=>{ kind:=.function,names:=[],isGenerator:=false,isCoroutine:=false }
abbrev CX0:CXT:=fun _ _ _ _ _ _=>False
abbrev E0:XK:=fun _ _ _=>False
theorem pass0 {X:Cx}:Passes CX0 X E0:=fun _ _ _ _ _ _ _ h=>h.elim
structure Fun (K:PySem.W.Frag) (x qual:Str) (st:Stmt) (f:Addr) (fd:FuncData):Prop where
 ex:∃ (oc:Value) (od:Option Addr) (kV doc pm:Value) (an:Option Addr) (cdv ct:Value) (osl:Array (Option Value)),
  fd = PySem.W.fnOf x qual (defArgs st) (defBody st) (defScope st) .none kV doc pm an cdv ct /\ K.lookup f = some ⟨oc,od,.func fd,osl⟩ /\ PySem.W.codeIn K cdv qual = true
 kp:PySem.W.keepIn K (.ref f) = true
section
variable {P:Program} {w:World} {K:PySem.W.Frag} {mg:Str -> Option Value} {base:Heap}
theorem Fun.ok {x qual:Str} {st:Stmt} {f:Addr} {fd:FuncData} {N ps:List Str} {k:Nat} {sp:Sp} (F:Fun K x qual st f fd) (S:FnScope N ps (defScope st)) (len:∀ vs H Q E,sp vs H Q E -> vs.length = ps.length)
  (hbody:∀ (cdv:Value) (A:Around) (outer:List Env) (s:Shared) (H:Hp) (vs:List V) (Q:VK) (E:XK),Room k (A.deeper (envOfC qual (defScope st) s.heap.objs.size f cdv)) -> sp vs H Q E ->
   ∃ t,PSs (cxOf CX0 P w K mg base N qual (defScope st) f cdv A outer s H E).nox (defBody st) t /\ t { nx:=fun _ H'=>Q .non H',rt:=Q } (start N vs) H):FnOk P w K mg base CX0 (k + 1) f fd ps sp:=by
 obtain ⟨oc,od,kV,doc,pm,an,cdv,ct,osl,rfl,lk,hcd⟩:=F.ex
 refine fn_of lk hcd S len fun A outer s H vs Q E hr hsp=>?_
 obtain ⟨t,h,q⟩:=hbody cdv A outer s H vs Q E hr hsp
 exact ⟨t,h.nox,q⟩
theorem Fun.binds {x qual:Str} {st:Stmt} {f:Addr} {fd:FuncData} {ps:List Str} (F:Fun K x qual st f fd)
  (h:∀ (kV doc pm:Value) (an:Option Addr) (cdv ct:Value) (us:List Value),us.length = ps.length -> bindArgs (PySem.W.fnOf x qual (defArgs st) (defBody st) (defScope st) .none kV doc pm an cdv ct) ⟨us,[]⟩ = pure (ps.zip us)):Binds K fd ps []:=by
 obtain ⟨oc,od,kV,doc,pm,an,cdv,ct,osl,rfl,lk,hcd⟩:=F.ex
 exact .all (h kV doc pm an cdv ct)
theorem fun_mk {x qual:Str} {st:Stmt} {f:Addr} {oc:Value} {od an:Option Addr} {osl:Array (Option Value)} {kV doc pm cdv ct:Value} (l:K.lookup f = some ⟨oc,od,.func (PySem.W.fnOf x qual (defArgs st) (defBody st) (defScope st) .none kV doc pm an cdv ct),osl⟩)
  (c:PySem.W.codeIn K cdv qual = true) (k:PySem.W.keepIn K (.ref f) = true):Fun K x qual st f (PySem.W.fnOf x qual (defArgs st) (defBody st) (defScope st) .none kV doc pm an cdv ct):=⟨⟨oc,od,kV,doc,pm,an,cdv,ct,osl,rfl,l,c⟩,k⟩
end
section
variable {X:Cx}
theorem pv (i:Nat) {x:Str} {pos:Pos} (hN:X.N[i]? = some x:=by rfl) (hv:Vis X.env.scope x:=by first | exact Or.inl rfl | exact Or.inr (Or.inl rfl) | exact Or.inr (Or.inr rfl)) (hd:(x == ("__debug__" : Str)) = false:=by decide)
  (hcd:(x == ("__classdict__" : Str)) = false:=by decide):PE X (.Name x pos) (tVar i):=pe_var hN hv hd hcd
end
theorem iteF {A B:Prop} (h:B):if false = true then A else B:=by
 rw [if_neg Bool.false_ne_true]
 exact h
theorem iteT {A B:Prop} (h:A):if true = true then A else B:=by
 rw [if_pos rfl]
 exact h
theorem ite2 {c A B:Prop} [Decidable c] (h1:c -> A) (h2:¬ c -> B):if c then A else B:=by
 by_cases h:c
 ·rw [if_pos h]
  exact h1 h
 ·rw [if_neg h]
  exact h2 h
def Same (H H':Hp):Prop:=∀ b o,H b = some o -> H' b = some o
theorem Same.refl (H:Hp):Same H H:=fun _ _ h=>h
theorem Same.trans {H H1 H2:Hp} (a:Same H H1) (b:Same H1 H2):Same H H2:=fun c o h=>b c o (a c o h)
theorem Same.free {H H':Hp} (e:Same H H') {l:Addr} (h:H' l = Option.none):H l = Option.none:=by
 cases q:H l with
 | none=>rfl
 | some o =>
  rw [e l o q] at h
  cases h
theorem Same.seq {K:PySem.W.Frag} {H H':Hp} {a:Addr} {xs:List V} (e:Same H H') (h:SqL K H a xs):SqL K H' a xs:=by
 rcases h with (h | ⟨o,h⟩) | h
 ·exact .inl (.inl (e _ _ h))
 ·exact .inl (.inr ⟨o,e _ _ h⟩)
 ·exact .inr h
end L2
namespace L2
open PySem PySem.Spec PyProof.Rows
section
variable {X:Cx}
end
section
variable {κ:Type} [DecidableEq κ]
end
end L2
namespace L2
open PySem PySem.Spec PyProof.Rows
section
variable {X:Cx} {pos:Pos}
def gLs (K:PySem.W.Frag) (n:Nat) (t:TGs):TG:=fun v σ H Q=>∃ a xs,v = .ref a /\ SqL K H a xs /\ xs.length = n /\ t xs σ H Q
theorem pg_ls {es:List Expr} {k:Nat} {t:TGs} {n:Nat} (hc:X.calm = true) (h:PGs X es t)
  (hn:(assignEach es X.env).length = n:=by rfl) (hst:(assignEach es X.env).findIdx? (·.1) = none:=by rfl):PG X (.Tuple es k pos) (gLs X.K n t):=by
 intro pins s σ H v u Q I r hw
 obtain ⟨a,xs,e1,hq,hl,hw⟩:=hw
 subst e1
 cases r
 obtain ⟨its,rv,pl,hz⟩:=I.list hq
 rw [assign_Tuple]
 refine wpAny_bind (wpAny_standAt ?_)
 unfold unpack
 rw [show (assignEach es X.env).length = its.toArray.size by simp [hn,← hl,rv.length],hst]
 refine wpAny_bind (wpAny_holding (PySem.W.kun_itemsOf (I.ok.hd hc) pl.isList fun h' hx=>?_))
 have I1:Inv X pins σ H { s with heap:=h' }:=I.kept (t':=s.toks) fun b o e=>hx b o (Nat.ne_of_lt (Heap.lt_size e)) e
 exact h pins _ σ H xs _ Q I1 (by simpa using rv) hw
def knV (H:Hp):V -> Prop
 | .non=>True | .bl _=>True | .int _=>True | .str _=>True
 | .ref a=>(∃ xs,H a = some (.lst xs)) ∨ (∃ o xs,H a = some (.frz o (.lst xs))) ∨ (∃ xs,H a = some (.tup xs)) ∨ (∃ kvs,H a = some (.dK kvs)) ∨ (∃ kvs,H a = some (.dT kvs))
 | _=>False
def isIntV:V -> Bool
 | .int _=>true | .bl _=>true | _=>false
def isBlV:V -> Bool
 | .bl _=>true | _=>false
theorem kit_ty {K:PySem.W.Frag} {t T:String} {b:Bool}
  (h:(if (Value.type t == Value.type T) = true then some true else if PySem.W.kitMeta T = true then (PySem.fastBuiltinMro t).map (·.contains (.type T)) else none) = some b):PySem.W.kitOne K (.type t) (.type T) = some b:=h
theorem isinst_any {T:String} {f:Hp -> V -> Bool}
  (hn:∀ (H:Hp),PySem.W.kitOne X.K (.type "NoneType") (.type T) = some (f H .non)) (hb:∀ (H:Hp) c,PySem.W.kitOne X.K (.type "bool") (.type T) = some (f H (.bl c)))
  (hi:∀ (H:Hp) i,PySem.W.kitOne X.K (.type "int") (.type T) = some (f H (.int i))) (hs:∀ (H:Hp) x,PySem.W.kitOne X.K (.type "str") (.type T) = some (f H (.str x)))
  (hl:∀ (H:Hp) a xs,H a = some (.lst xs) -> PySem.W.kitOne X.K (.type "list") (.type T) = some (f H (.ref a)))
  (hf:∀ (H:Hp) a o xs,H a = some (.frz o (.lst xs)) -> PySem.W.kitOne X.K (.type "list") (.type T) = some (f H (.ref a)))
  (ht:∀ (H:Hp) a xs,H a = some (.tup xs) -> PySem.W.kitOne X.K (.type "tuple") (.type T) = some (f H (.ref a)))
  (hd:∀ (H:Hp) a kvs,H a = some (.dK kvs) -> PySem.W.kitOne X.K (.type "dict") (.type T) = some (f H (.ref a)))
  (hd':∀ (H:Hp) a kvs,H a = some (.dT kvs) -> PySem.W.kitOne X.K (.type "dict") (.type T) = some (f H (.ref a))) :
  CallR X (.builtin "isinstance") (fun xs H Q=>∃ x,xs = [x,.ty T] /\ knV H x /\ Q (.bl (f H x)) H):=by
 intro pins s σ H xs us Q I r h
 obtain ⟨x,rfl,kn,q⟩:=h
 obtain ⟨u1,u2,rfl,r1,r2⟩:=vals2 r
 cases r2
 have fin:∀ t,TyOf X.K H x t -> PySem.W.kitOne X.K t (.type T) = some (f H x) -> wpAny (model X.prog X.w) X.A (call (.builtin "isinstance") [u1,.type T]) (EP X pins σ Q) X.xe s :=
  fun t ty e=>isinst_ok I r1 ty e fun tk=>⟨.bl (f H x),H,I.tok tk,rfl,q⟩
 cases x with
 | non=>exact fin _ .non (hn H)
 | bl c=>exact fin _ (.bl c) (hb H c)
 | int i=>exact fin _ (.int i) (hi H i)
 | str y=>exact fin _ (.str y) (hs H y)
 | ref a =>
  rcases kn with ⟨ys,e⟩ | ⟨o,ys,e⟩ | ⟨ys,e⟩ | ⟨ys,e⟩ | ⟨ys,e⟩
  ·exact fin _ (.lst e) (hl H a ys e)
  ·exact fin _ (.frz e) (hf H a o ys e)
  ·exact fin _ (.tup e) (ht H a ys e)
  ·exact fin _ (.dK e) (hd H a ys e)
  ·exact fin _ (.dT e) (hd' H a ys e)
 | _=>exact kn.elim
theorem kt_NoneType_int {K:PySem.W.Frag}:PySem.W.kitOne K (.type "NoneType") (.type "int") = some false:=kit_ty (by decide +kernel)
theorem kt_bool_int {K:PySem.W.Frag}:PySem.W.kitOne K (.type "bool") (.type "int") = some true:=kit_ty (by decide +kernel)
theorem kt_int_int {K:PySem.W.Frag}:PySem.W.kitOne K (.type "int") (.type "int") = some true:=kit_ty (by decide +kernel)
theorem kt_str_int {K:PySem.W.Frag}:PySem.W.kitOne K (.type "str") (.type "int") = some false:=kit_ty (by decide +kernel)
theorem kt_list_int {K:PySem.W.Frag}:PySem.W.kitOne K (.type "list") (.type "int") = some false:=kit_ty (by decide +kernel)
theorem kt_tuple_int {K:PySem.W.Frag}:PySem.W.kitOne K (.type "tuple") (.type "int") = some false:=kit_ty (by decide +kernel)
theorem kt_dict_int {K:PySem.W.Frag}:PySem.W.kitOne K (.type "dict") (.type "int") = some false:=kit_ty (by decide +kernel)
theorem kt_NoneType_bool {K:PySem.W.Frag}:PySem.W.kitOne K (.type "NoneType") (.type "bool") = some false:=kit_ty (by decide +kernel)
theorem kt_bool_bool {K:PySem.W.Frag}:PySem.W.kitOne K (.type "bool") (.type "bool") = some true:=kit_ty (by decide +kernel)
theorem kt_int_bool {K:PySem.W.Frag}:PySem.W.kitOne K (.type "int") (.type "bool") = some false:=kit_ty (by decide +kernel)
theorem kt_str_bool {K:PySem.W.Frag}:PySem.W.kitOne K (.type "str") (.type "bool") = some false:=kit_ty (by decide +kernel)
theorem kt_list_bool {K:PySem.W.Frag}:PySem.W.kitOne K (.type "list") (.type "bool") = some false:=kit_ty (by decide +kernel)
theorem kt_tuple_bool {K:PySem.W.Frag}:PySem.W.kitOne K (.type "tuple") (.type "bool") = some false:=kit_ty (by decide +kernel)
theorem kt_dict_bool {K:PySem.W.Frag}:PySem.W.kitOne K (.type "dict") (.type "bool") = some false:=kit_ty (by decide +kernel)
theorem call_is_int:CallR X (.builtin "isinstance") (fun xs H Q=>∃ x,xs = [x,.ty "int"] /\ knV H x /\ Q (.bl (isIntV x)) H) :=
 isinst_any (f:=fun _ x=>isIntV x) (fun _=>kt_NoneType_int) (fun _ _=>kt_bool_int) (fun _ _=>kt_int_int) (fun _ _=>kt_str_int) (fun _ _ _ _=>kt_list_int) (fun _ _ _ _ _=>kt_list_int) (fun _ _ _ _=>kt_tuple_int) (fun _ _ _ _=>kt_dict_int) (fun _ _ _ _=>kt_dict_int)
theorem call_is_bool:CallR X (.builtin "isinstance") (fun xs H Q=>∃ x,xs = [x,.ty "bool"] /\ knV H x /\ Q (.bl (isBlV x)) H) :=
 isinst_any (f:=fun _ x=>isBlV x) (fun _=>kt_NoneType_bool) (fun _ _=>kt_bool_bool) (fun _ _=>kt_int_bool) (fun _ _=>kt_str_bool) (fun _ _ _ _=>kt_list_bool) (fun _ _ _ _ _=>kt_list_bool) (fun _ _ _ _=>kt_tuple_bool) (fun _ _ _ _=>kt_dict_bool) (fun _ _ _ _=>kt_dict_bool)
def Big (i:Int):Prop:=i.natAbs.log2 < 8000
theorem big_of {i:Int} (h:i.natAbs < 2 ^ 8000):Big i:=by
 unfold Big
 rcases Nat.eq_zero_or_pos i.natAbs with h0 | hp
 ·rw [h0]; decide
 ·exact (Nat.log2_lt (Nat.ne_of_gt hp)).mpr h
theorem Big.bits {i:Int} (h:Big i):Builtin.Int.intBits i <= 8000:=by
 unfold Builtin.Int.intBits
 unfold Big at h
 split
 ·exact Nat.zero_le _
 ·omega
def CMulB (i j:Int):Prop:=(-(2 ^ 64) < i /\ i < 2 ^ 64) ∨ (-(2 ^ 64) < j /\ j < 2 ^ 64) ∨ (Big i /\ Big j)
theorem CMulB.ok {i j:Int} (h:CMulB i j):IntMulOk i j:=by
 rcases h with ⟨h1,h2⟩ | ⟨h1,h2⟩ | ⟨h1,h2⟩
 ·exact .of_left (intBits_le_64 h1 h2)
 ·exact .of_right (intBits_le_64 h1 h2)
 ·have b1:=h1.bits
  have b2:=h2.bits
  unfold IntMulOk
  have:Builtin.Int.intTooBig (Builtin.Int.intBits i + Builtin.Int.intBits j) = false:=by
   unfold Builtin.Int.intTooBig
   refine decide_eq_false ?_
   have e:bitsLine = 134217728:=by decide
   rw [e]
   omega
  rw [this]
  simp
theorem op_mulB:OpR X (binaryOp .Mult) (rI CMulB fun i j=>.int (i * j)):=opI fun _ _ _ _ _ _ _ hc q=>mul_int q hc.ok
def CDivP (_ j:Int):Prop:=0 < j /\ Big j
theorem op_fdivB:OpR X (binaryOp .FloorDiv) (rI CDivP fun i j=>.int (i / j)):=opI fun i j _ _ _ _ _ hc q=>by
 have h1:(0:Int) < j:=hc.1
 exact floordiv_int (by omega) (by rw [Int.fdiv_eq_ediv_of_nonneg i (by omega)]; exact q) (.inl (PyProof.noPylong_of_log2 (Nat.lt_trans hc.2 (by decide))))
def CDivZ (_ j:Int):Prop:=j ≠ 0 /\ Big j
theorem op_fdivZ:OpR X (binaryOp .FloorDiv) (rI CDivZ fun i j=>.int (i.fdiv j)):=opI fun i j _ _ _ _ _ hc q =>
 floordiv_int hc.1 q (.inl (PyProof.noPylong_of_log2 (Nat.lt_trans hc.2 (by decide))))
end
structure Df (K:PySem.W.Frag) (mg:Str -> Option Value) (x:Str) (st:Stmt) (ps:List Str) (f:Addr) (fd:FuncData):Prop where
 F:Fun K x x st f fd
 m:mg x = some (.ref f)
 b:Binds K fd ps []
def SBut (p:Addr) (H H':Hp):Prop:=∀ b o,b ≠ p -> H b = some o -> H' b = some o
theorem SBut.refl {p:Addr} {H:Hp}:SBut p H H:=fun _ _ _ e=>e
theorem SBut.trans {p:Addr} {H H1 H2:Hp} (x:SBut p H H1) (y:SBut p H1 H2):SBut p H H2:=fun b o n e=>y b o n (x b o n e)
theorem SBut.upd {p:Addr} {H:Hp} {o:HO}:SBut p H (upd H p o):=fun b u n e=>by rw [upd_ne n]; exact e
theorem SBut.new {p q:Addr} {H:Hp} {o:HO} (h:H q = none):SBut p H (L2.upd H q o):=fun b u n e=>by rw [upd_ne (ne_of_none e h)]; exact e
theorem Same.but {p:Addr} {H H':Hp} (h:Same H H'):SBut p H H':=fun b o _ e=>h b o e
theorem same_new {q:Addr} {H:Hp} {o:HO} (h:H q = none):Same H (upd H q o):=fun b u e=>by rw [upd_ne (ne_of_none e h)]; exact e
theorem upd_old {H:Hp} {p q:Addr} {o u:HO} (h:H p = none) (e:H q = some u):upd H p o q = some u:=by rw [upd_ne (ne_of_none e h)]; exact e
def Scr (K:PySem.W.Frag) (H:Hp) (a:Addr) (ns:List Int):Prop:=(∃ o,H a = some (.frz o (.lst (ns.map V.int)))) ∨ ∀ H',SqL K H' a (ns.map V.int)
theorem Scr.sq {K:PySem.W.Frag} {H:Hp} {a:Addr} {ns:List Int} (h:Scr K H a ns):SqL K H a (ns.map V.int):=by
 rcases h with ⟨o,h⟩ | h
 ·exact .inl (.inr ⟨o,h⟩)
 ·exact h H
theorem scr_of {K:PySem.W.Frag} {H:Hp} {a:Addr} {ns:List Int} (h1:Only H) (h:SqL K H a (ns.map V.int)):Scr K H a ns:=by
 rcases h with (h | ⟨o,h⟩) | h
 ·rcases h1 a with z | ⟨o,xs,z⟩
  ·rw [z] at h; cases h
  ·rw [z] at h; cases h
 ·exact .inl ⟨o,h⟩
 ·exact .inr fun H'=>.inr h
structure Pen (K:PySem.W.Frag) (H:Hp) (p a:Addr) (ns:List Int) (t l:Int):Prop where
 lst:H p = some (.lst [.ref a,.int t,.int l])
 scr:Scr K H a ns
 t0:0 <= t
theorem Pen.put {K:PySem.W.Frag} {H:Hp} {p a:Addr} {ns:List Int} {t l t' l':Int} (h:Pen K H p a ns t l) (h0:0 <= t'):Pen K (upd H p (.lst [.ref a,.int t',.int l'])) p a ns t' l':=by
 refine ⟨upd_same,?_,h0⟩
 rcases h.scr with ⟨o,e⟩ | e
 ·refine .inl ⟨o,?_⟩
  rw [upd_ne (ne_of e h.lst (by intro z; cases z))]
  exact e
 ·exact .inr e
theorem Pen.same {K:PySem.W.Frag} {H H':Hp} {p a:Addr} {ns:List Int} {t l:Int} (h:Pen K H p a ns t l) (s:Same H H'):Pen K H' p a ns t l:=by
 refine ⟨s _ _ h.lst,?_,h.t0⟩
 rcases h.scr with ⟨o,e⟩ | e
 ·exact .inl ⟨o,s _ _ e⟩
 ·exact .inr e
theorem scr_at {ns:List Int} {i:Int} (h0:0 <= i) (h:i < (ns.length:Int)):atI (ns.map V.int) i = some (.int (ns.getD i.toNat 0)):=by
 obtain ⟨j,rfl⟩:=Int.eq_ofNat_of_zero_le h0
 have hj:j < ns.length:=by omega
 refine atI_nat ?_
 simp [List.getElem?_map,hj]
end L2
namespace L2
open PySem PySem.Spec PyProof.Rows
section
variable {X:Cx} {pos:Pos}
def rIxTH:R2:=fun x y H Q=>∃ p xs i v,x = .ref p /\ y = .int i /\ H p = some (.tup xs) /\ atI xs i = some v /\ Q v H
def rIxLH:R2:=fun x y H Q=>∃ p xs i v,x = .ref p /\ y = .int i /\ H p = some (.lst xs) /\ atI xs i = some v /\ Q v H
theorem ix_tupH:IxR X rIxTH:=fun value slice pins s σ H x y v u Q I rx ry ⟨p,xs,i,z,e1,e2,h,e3,q⟩ hs=>ix_tup value slice pins s σ H x y v u Q I rx ry ⟨p,xs,i,z,e1,e2,SqT.of h,e3,q⟩ hs
theorem ix_listH:IxR X rIxLH:=fun value slice pins s σ H x y v u Q I rx ry ⟨p,xs,i,z,e1,e2,h,e3,q⟩ hs=>ix_list value slice pins s σ H x y v u Q I rx ry ⟨p,xs,i,z,e1,e2,SqL.of h,e3,q⟩ hs
def lenO:Option HO -> Option Nat
 | some (.lst xs)=>some xs.length | some (.tup xs)=>some xs.length | _=>none
def rLenH:List V -> Hp -> VK -> Prop:=fun xs H Q=>∃ p n,xs = [.ref p] /\ lenO (H p) = some n /\ Q (.int n) H
theorem call_lenH:CallR X (.builtin "len") rLenH:=by
 intro pins s σ H xs us Q I r h
 obtain ⟨p,n,rfl,e,q⟩:=h
 cases o:H p with
 | none=>rw [o] at e; cases e
 | some ob =>
  rw [o] at e
  cases ob with
  | lst ys=>cases e; exact call_len_seq pins s σ H _ us Q I r ⟨p,ys,rfl,.inl (SqL.of o),q⟩
  | tup ys=>cases e; exact call_len_seq pins s σ H _ us Q I r ⟨p,ys,rfl,.inr (SqT.of o),q⟩
  | _=>cases e
def gLsH (n:Nat) (t:TGs):TG:=fun v σ H Q=>∃ a xs,v = .ref a /\ H a = some (.lst xs) /\ xs.length = n /\ t xs σ H Q
theorem pg_lsH {es:List Expr} {k:Nat} {t:TGs} {n:Nat} (hc:X.calm = true) (h:PGs X es t)
  (hn:(assignEach es X.env).length = n:=by rfl) (hst:(assignEach es X.env).findIdx? (·.1) = none:=by rfl):PG X (.Tuple es k pos) (gLsH n t) :=
 fun pins s σ H v u Q I r ⟨a,xs,e1,e2,e3,q⟩=>pg_ls hc h hn hst pins s σ H v u Q I r ⟨a,xs,e1,SqL.of e2,e3,q⟩
def gTupH (n:Nat) (t:TGs):TG:=fun v σ H Q=>∃ a xs,v = .ref a /\ H a = some (.tup xs) /\ xs.length = n /\ t xs σ H Q
theorem pg_tupH {es:List Expr} {k:Nat} {t:TGs} {n:Nat} (hc:X.calm = true) (h:PGs X es t)
  (hn:(assignEach es X.env).length = n:=by rfl) (hst:(assignEach es X.env).findIdx? (·.1) = none:=by rfl):PG X (.Tuple es k pos) (gTupH n t) :=
 fun pins s σ H v u Q I r ⟨a,xs,e1,e2,e3,q⟩=>pg_tup hc h hn hst pins s σ H v u Q I r ⟨a,xs,e1,SqT.of e2,e3,q⟩
end
end L2
namespace L2
open PySem PySem.Spec PyProof.Rows
def sp_next (K:PySem.W.Frag):Sp:=fun vs H Q _=>∃ (p a:Addr) (ns:List Int) (t l m:Int),vs = [.ref p,.int m] /\ Pen K H p a ns t l /\ 1 <= m /\ m <= 10 ^ 60 /\
 ∀ (r t' l':Int) (H':Hp),0 <= r -> r < m -> Pen K H' p a ns t' l' -> SBut p H H' -> Q (.int r) H'
def sp_pen (K:PySem.W.Frag):Sp:=fun vs H Q _=>∃ (a:Addr) (ns:List Int),vs = [.ref a] /\ Scr K H a ns /\ ∀ (p:Addr) (H':Hp),H p = none -> Pen K H' p a ns 0 0 -> Same H H' -> Q (.ref p) H'
theorem mul_mod {x d y:Int} (h0:0 < d) (h:d <= 18446744073709551616):CMulB (x % d) y:=by
 have h1:=Int.emod_nonneg x (show d ≠ 0 by omega)
 have h2:=Int.emod_lt_of_pos x h0
 exact .inl ⟨by omega,by omega⟩
theorem mul_l {c y:Int} (h : -18446744073709551616 < c /\ c < 18446744073709551616:=by decide):CMulB c y:=.inl h
theorem mul_r {c y:Int} (h : -18446744073709551616 < c /\ c < 18446744073709551616:=by decide):CMulB y c:=.inr (.inl h)
theorem mpos {c:Int} (h:0 < c:=by decide):0 < c:=h
theorem big_ten {c:Int} (h0:0 <= c) (h:c <= 10 ^ 60):Big c:=big_of (Nat.lt_of_lt_of_le (Nat.lt_of_le_of_lt (show c.natAbs <= 10 ^ 60 by omega) (show 10 ^ 60 < 2 ^ 200 by decide)) (Nat.pow_le_pow_right (by decide) (by decide)))
theorem big_small {c:Int} (h0:0 <= c) (h:c <= 18446744073709551616):Big c:=big_of (Nat.lt_of_lt_of_le (Nat.lt_of_le_of_lt (show c.natAbs <= 18446744073709551616 by omega) (show 18446744073709551616 < 2 ^ 65 by decide)) (Nat.pow_le_pow_right (by decide) (by decide)))
end L2
namespace Ra
structure Low (a b x y:Int):Prop where
 pos:0 < y
 cop:Int.gcd x y = 1
 eq:x * b = a * y
theorem dvd_of_cop {x y z:Int} (h:Int.gcd x y = 1) (hd:y ∣ x * z):y ∣ z:=by
 have h1:Nat.Coprime y.natAbs x.natAbs:=by
  show Nat.gcd y.natAbs x.natAbs = 1
  rw [Nat.gcd_comm]; exact h
 have h2:y.natAbs ∣ x.natAbs * z.natAbs:=by
  rw [← Int.natAbs_mul]; exact Int.natAbs_dvd_natAbs.mpr hd
 exact Int.natAbs_dvd_natAbs.mp (h1.dvd_of_dvd_mul_left h2)
theorem Low.uniq {a b x y x' y':Int} (hb:b ≠ 0) (h:Low a b x y) (h':Low a b x' y'):x = x' /\ y = y':=by
 have e:x * y' = x' * y:=by
  have e1:b * (x * y') = b * (x' * y):=by
   have:=h.eq; have:=h'.eq; grind
  exact Int.eq_of_mul_eq_mul_left hb e1
 have d1:y ∣ y':=dvd_of_cop h.cop ⟨x',by grind⟩
 have d2:y' ∣ y:=dvd_of_cop h'.cop ⟨x,by grind⟩
 have ey:y = y':=Int.dvd_antisymm (Int.le_of_lt h.pos) (Int.le_of_lt h'.pos) d1 d2
 subst ey
 exact ⟨Int.eq_of_mul_eq_mul_right (Int.ne_of_gt h.pos) e,rfl⟩
theorem low_of {a b d:Int} (hb:b ≠ 0) (hd:d = if b < 0 then -((Int.gcd a b:Nat):Int) else ((Int.gcd a b:Nat):Int)):Low a b (a.fdiv d) (b.fdiv d):=by
 have hg:0 < Int.gcd a b:=Int.gcd_pos_of_ne_zero_right a hb
 obtain ⟨a',ha⟩:((Int.gcd a b:Nat):Int) ∣ a:=Int.gcd_dvd_left ..
 obtain ⟨b',hb'⟩:((Int.gcd a b:Nat):Int) ∣ b:=Int.gcd_dvd_right ..
 have hc:Int.gcd a' b' = 1:=by
  have e:Int.gcd a b = Int.gcd a b * Int.gcd a' b':=by
   have e0:=Int.gcd_mul_left ((Int.gcd a b:Nat):Int) a' b'
   rw [← ha,← hb'] at e0
   simpa using e0
  have:Int.gcd a b * 1 = Int.gcd a b * Int.gcd a' b':=by omega
  exact (Nat.eq_of_mul_eq_mul_left hg this).symm
 generalize hG:((Int.gcd a b:Nat):Int) = G at *
 have hG0:0 < G:=by omega
 by_cases hn:b < 0
 ·rw [if_pos hn] at hd
  have ea:a = d * (-a'):=by rw [hd,ha]; grind
  have eb:b = d * (-b'):=by rw [hd,hb']; grind
  have hd0:d ≠ 0:=by omega
  have e1:a.fdiv d = -a':=by rw [ea,Int.mul_fdiv_cancel_left _ hd0]
  have e2:b.fdiv d = -b':=by rw [eb,Int.mul_fdiv_cancel_left _ hd0]
  rw [e1,e2]
  refine ⟨?_,by rw [Int.gcd_neg,Int.neg_gcd]; exact hc,?_⟩
  ·have:G * b' < 0:=by rw [← hb']; exact hn
   have:=Int.neg_of_mul_neg_right this (by omega)
   omega
  ·rw [ha,hb']; grind
 ·rw [if_neg hn] at hd
  have hd0:d ≠ 0:=by omega
  have e1:a.fdiv d = a':=by rw [hd,ha,Int.mul_fdiv_cancel_left _ (by omega)]
  have e2:b.fdiv d = b':=by rw [hd,hb',Int.mul_fdiv_cancel_left _ (by omega)]
  rw [e1,e2]
  refine ⟨?_,hc,?_⟩
  ·have:0 < G * b':=by rw [← hb']; omega
   exact Int.pos_of_mul_pos_right this (by omega)
  ·rw [ha,hb']; grind
theorem gcd_step {a b:Int} (hb:b ≠ 0):Int.gcd b (a.fmod b) = Int.gcd a b:=by
 have e:a = b * a.fdiv b + a.fmod b:=(Int.mul_fdiv_add_fmod a b).symm
 conv=>rhs; rw [e]
 rw [Int.gcd_mul_left_add_left,Int.gcd_comm]
theorem fmod_less {a b:Int} (hb:b ≠ 0):(a.fmod b).natAbs < b.natAbs:=by
 rcases Int.lt_or_gt_of_ne hb with h | h
 ·have h2:=Int.fmod_nonneg_of_pos (-a) (b:=-b) (by omega)
  have h3:=Int.fmod_lt_of_pos (-a) (b:=-b) (by omega)
  have h4:(-a).fmod (-b) = -(a.fmod b):=by
   rw [Int.neg_fmod_neg]
  omega
 ·have h2:=Int.fmod_nonneg_of_pos a h
  have h3:=Int.fmod_lt_of_pos a h
  omega
theorem gcd_zero {a:Int}:(if a < 0 then -a else a) = ((Int.gcd a 0:Nat):Int):=by
 rw [Int.gcd_zero_right]
 split <;> omega
theorem Low.le {a b x y:Int} (hb:b ≠ 0) (h:Low a b x y):x.natAbs <= a.natAbs /\ y.natAbs <= b.natAbs:=by
 have d1:y ∣ b:=dvd_of_cop h.cop ⟨a,by have:=h.eq; grind⟩
 have hy:y.natAbs <= b.natAbs:=Nat.le_of_dvd (Int.natAbs_pos.mpr hb) (Int.natAbs_dvd_natAbs.mpr d1)
 refine ⟨?_,hy⟩
 by_cases ha:a = 0
 ·have e:=h.eq
  rw [ha,Int.zero_mul] at e
  rcases Int.mul_eq_zero.mp e with z | z
  ·rw [z]; exact Nat.zero_le _
  ·exact absurd z hb
 ·have d2:x ∣ a:=dvd_of_cop (x:=y) (by rw [Int.gcd_comm]; exact h.cop) ⟨b,by have:=h.eq; grind⟩
  exact Nat.le_of_dvd (Int.natAbs_pos.mpr ha) (Int.natAbs_dvd_natAbs.mpr d2)
end Ra
namespace L2
open PySem PySem.Spec PyProof.Rows
def closeL (cells:List (Str × Addr)):List (Str × NameKind) -> List (Str × Addr) -> Option (List (Str × Addr))
 | [],cs=>some cs
 | (n,k) :: r,cs=>if k == .free then (match cells.lookup n with
  | some c=>closeL cells r ((n,c) :: cs)
  | none=>none) else closeL cells r cs
theorem closureFor_of {scope:Scope} {env:Env} {cl:List (Str × Addr)} (h:closeL env.cells scope.names [] = some cl):closureFor scope env = pure cl:=by
 simp only [closureFor]
 generalize ([]:List (Str × Addr)) = cs at h ⊢
 generalize scope.names = l at h ⊢
 induction l generalizing cs with
 | nil=>cases h; rfl
 | cons a r ih =>
  obtain ⟨n,k⟩:=a
  unfold closeL at h
  rw [List.forIn_cons]
  by_cases hk:(k == NameKind.free) = true
  ·rw [if_pos hk] at h
   cases e:env.cells.lookup n with
   | none=>rw [e] at h; cases h
   | some c =>
    rw [e] at h
    have:=ih _ h
    simp only [hk,if_true,cellOf,e,pure_bind]
    exact this
  ·rw [if_neg hk] at h
   have:=ih _ h
   simp only [hk,Bool.false_eq_true,if_false,pure_bind]
   exact this
theorem closeL_sub {cells cl:List (Str × Addr)}:∀ {l:List (Str × NameKind)} {cs:List (Str × Addr)},closeL cells l cs = some cl -> (∀ y c,cs.lookup y = some c -> cells.lookup y = some c) -> ∀ y c,cl.lookup y = some c -> cells.lookup y = some c
 | [],cs,h,hs,y,c,e=>by cases h; exact hs y c e
 | (n,k) :: r,cs,h,hs,y,c,e=>by
  unfold closeL at h
  by_cases hk:(k == NameKind.free) = true
  ·rw [if_pos hk] at h
   cases q:cells.lookup n with
   | none=>rw [q] at h; cases h
   | some c' =>
    rw [q] at h
    refine closeL_sub h (fun z d hz=>?_) y c e
    by_cases hzn:(z == n) = true
    ·rw [List.lookup_cons,hzn] at hz
     cases hz
     rw [eq_of_beq hzn]; exact q
    ·rw [List.lookup_cons,(Bool.not_eq_true _).mp hzn] at hz
     exact hs z d hz
  ·rw [if_neg hk] at h
   exact closeL_sub h hs y c e
theorem closeL_has {cells cl:List (Str × Addr)}:∀ {l:List (Str × NameKind)} {cs:List (Str × Addr)},closeL cells l cs = some cl -> ∀ y,((y,NameKind.free) ∈ l ∨ ∃ c,cs.lookup y = some c) -> ∃ c,cl.lookup y = some c
 | [],cs,h,y,e=>by
  cases h
  rcases e with e | e
  ·simp at e
  ·exact e
 | (n,k) :: r,cs,h,y,e=>by
  unfold closeL at h
  by_cases hk:(k == NameKind.free) = true
  ·rw [if_pos hk] at h
   cases q:cells.lookup n with
   | none=>rw [q] at h; cases h
   | some c' =>
    rw [q] at h
    refine closeL_has h y ?_
    rcases e with e | ⟨c,e⟩
    ·rcases List.mem_cons.mp e with e | e
     ·cases e
      exact .inr ⟨c',by rw [List.lookup_cons,beq_self_eq_true]⟩
     ·exact .inl e
    ·by_cases hyn:(y == n) = true
     ·exact .inr ⟨c',by rw [List.lookup_cons,hyn]⟩
     ·exact .inr ⟨c,by rw [List.lookup_cons,(Bool.not_eq_true _).mp hyn]; exact e⟩
  ·rw [if_neg hk] at h
   refine closeL_has h y ?_
   rcases e with e | e
   ·rcases List.mem_cons.mp e with e | e
    ·cases e
     exact absurd rfl hk
    ·exact .inl e
   ·exact .inr e
inductive Cap (X:Cx) (scope:Scope):List Str -> List (Option Nat) -> Prop where
 | nil:Cap X scope [] []
 | own {x:Str} {N:List Str} {js:List (Option Nat)} (h:Cap X scope N js):Cap X scope (x :: N) (none :: js)
 | cap {x:Str} {j:Nat} {N:List Str} {js:List (Option Nat)} (h1:X.N[j]? = some x) (h2:X.env.kindOf x = some .cell ∨ X.env.kindOf x = some .free)
   (h3:scope.names.lookup x = some .free) (h:Cap X scope N js):Cap X scope (x :: N) (some j :: js)
def sub1 (σ:St):Option Nat -> Option V
 | none=>none
 | some j=>(σ[j]?).join
def sub (js:List (Option Nat)) (σ:St):St:=js.map (sub1 σ)
theorem Cap.len {X:Cx} {scope:Scope} {N:List Str} {js:List (Option Nat)} (h:Cap X scope N js):js.length = N.length:=by induction h <;> simp [*]
theorem Cap.at {X:Cx} {scope:Scope} {N:List Str} {js:List (Option Nat)} (h:Cap X scope N js):∀ {i:Nat} {x:Str} {σ:St} {v:V},N[i]? = some x -> (sub js σ)[i]? = some (some v) ->
  ∃ j:Nat,X.N[j]? = some x /\ σ[j]? = some (some v) /\ (X.env.kindOf x = some .cell ∨ X.env.kindOf x = some .free) /\ scope.names.lookup x = some .free:=by
 induction h with
 | nil=>intro i x σ v h; simp at h
 | own h ih =>
  intro i x σ v h1 h2
  cases i with
  | zero=>simp [sub,sub1] at h2
  | succ i=>exact ih (by simpa using h1) (by simpa [sub] using h2)
 | @cap x j N js k1 k2 k3 h ih =>
  intro i y σ v h1 h2
  cases i with
  | zero =>
   simp at h1
   subst h1
   simp [sub,sub1] at h2
   refine ⟨j,k1,?_,k2,k3⟩
   cases q:σ[j]? with
   | none=>rw [q] at h2; simp at h2
   | some o=>rw [q] at h2; simp at h2; rw [h2]
  | succ i=>exact ih (by simpa using h1) (by simpa [sub] using h2)
def cxComp (X:Cx) (scope:Scope) (cl:List (Str × Addr)) (C:Addr) (N':List Str) (s₃:Shared) (H₃:Hp) (fp:List Addr) (pins:List (Addr × Obj)):Cx :=
 { X with N:=N',s₀:=s₃,H₀:=H₃,env:=compEnvC scope cl C X.env,outer:=X.stack,ex:=fp,fn:=fun y=>scope.names.lookup y == some .cell,pn:=X.pn ++ pins,xe:=fun _ _=>False }
structure Blk where
 C:Addr
 s3:Shared
 H3:Hp
 fp:List Addr
 pins:List (Addr × Obj)
abbrev cxB (X:Cx) (scope:Scope) (cl:List (Str × Addr)) (N':List Str) (B:Blk):Cx:=cxComp X scope (cellsFrom (B.C + 1) scope.names cl) B.C N' B.s3 B.H3 B.fp B.pins
def PTs (X:Cx) (ifs:List Expr) (t:TT):Prop :=
 ∀ (pins:List (Addr × Obj)) (s:Shared) (σ:St) (H:Hp) (Q:Bool -> Hp -> Prop),Inv X pins σ H s -> t σ H Q ->
  wpAny (model X.prog X.w) X.A (forIn ifs true fun c r=>if r = true then do let ok ← isTrue c X.env (eval c X.env); pure (ForInStep.yield ok) else pure (ForInStep.yield r)) (TP X pins σ Q) X.xe s
def tNoTest:TT:=fun _ H Q=>Q true H
theorem pts_nil {X:Cx}:PTs X [] tNoTest:=fun _ _ _ H _ I h=>wpAny_tests_nil ⟨H,I,h⟩
theorem pts_one {X:Cx} {c:Expr} {t:TT} (h:PT X c t):PTs X [c] t:=fun pins s σ H Q I q=>wpAny_tests_one (h pins s σ H Q I q)
def tComp (wi:TI) (js:List (Option Nat)) (g:Blk -> TG) (tc:Blk -> TT) (te:Blk -> TE):TE:=fun σ H Q=>wi σ H fun J H1=>∀ (B:Blk) D,H1 D = none -> ∃ W:Nat -> Nat -> St -> Hp -> Prop,(∃ m,W 0 m (sub js σ) (upd H1 D (.lst []))) /\ ∀ i m σ' H',W i m σ' H' ->
 (J.stop i H' /\ Q (.ref D) H') ∨ (J.go i H' /\ ∃ N:St -> Hp -> Prop,(∀ σ2 H2,N σ2 H2 -> ∃ m',m' < m /\ W (i + 1) m' σ2 H2) /\ ∀ y H2,J.yld i H' y H2 -> g B y σ' H2 fun σ3 H3=>tc B σ3 H3 fun b H4 =>
  if b = true then te B σ3 H4 fun v H5=>∃ ys,H5 D = some (.lst ys) /\ ys.length < sizeLine /\ N σ3 (upd H5 D (.lst (ys ++ [v]))) else N σ3 H4)
theorem relabel_free {scope:Scope} {env:Env} {y:Str} (h:(relabel scope env).names.lookup y = some .cell ∨ (relabel scope env).names.lookup y = some .free):(y,NameKind.free) ∈ scope.names ∨ (y,NameKind.cell) ∈ scope.names:=by
 have key:∀ k,(y,k) ∈ (relabel scope env).names -> (k = .cell ∨ k = .free) -> (y,NameKind.free) ∈ scope.names ∨ (y,NameKind.cell) ∈ scope.names:=by
  intro k hm hk
  obtain ⟨⟨n,q⟩,hn,e⟩:=List.mem_map.mp hm
  dsimp only at e
  split at e
  ·rename_i c
   simp only [Bool.and_eq_true] at c
   have:q = .free:=eq_of_beq c.1.1
   subst this
   cases e
   exact .inl hn
  ·cases e
   rcases hk with rfl | rfl
   ·exact .inr hn
   ·exact .inl hn
 rcases h with h | h
 ·exact key _ (PySem.mem_of_lookup h) (.inl rfl)
 ·exact key _ (PySem.mem_of_lookup h) (.inr rfl)
theorem relabel_of_free {scope:Scope} {env:Env} {y:Str} (h:scope.names.lookup y = some .free):(relabel scope env).names.lookup y = some .cell ∨ (relabel scope env).names.lookup y = some .free:=by
 show (List.lookup y (scope.names.map _)) = _ ∨ (List.lookup y (scope.names.map _)) = _
 generalize scope.names = l at h
 induction l with
 | nil=>simp at h
 | cons a r ih =>
  obtain ⟨n,k⟩:=a
  rw [List.lookup_cons] at h
  rw [List.map_cons]
  cases e:y == n with
  | true =>
   rw [e] at h
   cases h
   dsimp only
   split
   ·left; rw [List.lookup_cons,e]
   ·right; rw [List.lookup_cons,e]
  | false =>
   rw [e] at h
   dsimp only
   split <;> (rw [List.lookup_cons,e]; exact ih h)
theorem cellsFrom_app:∀ (names:List (Str × NameKind)) (n:Nat) (acc:List (Str × Addr)),cellsFrom n names acc = cellsFrom n names [] ++ acc
 | [],_,_=>rfl
 | (x,k) :: r,n,acc=>by
  unfold cellsFrom
  split
  ·rw [cellsFrom_app r (n + 1) ((x,n) :: acc),cellsFrom_app r (n + 1) [(x,n)],List.append_assoc]; rfl
  ·exact cellsFrom_app r n acc
theorem cellsFrom_kind:∀ (names:List (Str × NameKind)) (n:Nat) (y:Str) (c:Addr),(y,c) ∈ cellsFrom n names [] -> (y,NameKind.cell) ∈ names
 | [],_,_,_,h=>(nomatch h)
 | (x,k) :: r,n,y,c,h=>by
  unfold cellsFrom at h
  split at h
  ·rename_i hk
   rw [cellsFrom_app] at h
   rcases List.mem_append.mp h with h | h
   ·exact List.mem_cons_of_mem _ (cellsFrom_kind r _ y c h)
   ·have e:=List.mem_singleton.mp h
    cases e
    rw [show k = .cell from eq_of_beq hk]
    exact List.mem_cons_self
  ·exact List.mem_cons_of_mem _ (cellsFrom_kind r _ y c h)
theorem lookup_of_mem:∀ {l:List (Str × Addr)} {y:Str} {c:Addr},(y,c) ∈ l -> ∃ d,l.lookup y = some d
 | (x,k) :: r,y,c,h=>by
  rw [List.lookup_cons]
  cases e:y == x with
  | true=>exact ⟨_,rfl⟩
  | false =>
   rcases List.mem_cons.mp h with h | h
   ·cases h; simp at e
   ·exact lookup_of_mem h
theorem cellsFrom_has:∀ (names:List (Str × NameKind)) (n:Nat) (y:Str),(y,NameKind.cell) ∈ names -> ∃ c,(y,c) ∈ cellsFrom n names []
 | (x,k) :: r,n,y,h=>by
  unfold cellsFrom
  split
  ·rw [cellsFrom_app]
   rcases List.mem_cons.mp h with h | h
   ·cases h
    exact ⟨n,List.mem_append_right _ (List.mem_singleton.mpr rfl)⟩
   ·obtain ⟨c,q⟩:=cellsFrom_has r (n + 1) y h
    exact ⟨c,List.mem_append_left _ q⟩
  ·rename_i hk
   rcases List.mem_cons.mp h with h | h
   ·cases h; exact absurd rfl hk
   ·exact cellsFrom_has r n y h
theorem lookup_app {l r:List (Str × Addr)} {y:Str} {c:Addr} (h:(l ++ r).lookup y = some c):l.lookup y = some c ∨ (l.lookup y = none /\ r.lookup y = some c):=by
 rw [List.lookup_append] at h
 cases e:l.lookup y with
 | none=>rw [e] at h; exact .inr ⟨rfl,h⟩
 | some d=>rw [e] at h; exact .inl h
theorem lookup_appl {l r:List (Str × Addr)} {y:Str} {c:Addr} (h:l.lookup y = some c):(l ++ r).lookup y = some c:=by rw [List.lookup_append,h]; rfl
theorem lookup_appr {l r:List (Str × Addr)} {y:Str} (h:l.lookup y = none):(l ++ r).lookup y = r.lookup y:=by rw [List.lookup_append,h]; rfl
theorem wpAny_newCompEnv {M:Model} {A:Around} {E:Value -> Shared -> Prop} {s:Shared} {scope:Scope} {globals:Addr} {cl:List (Str × Addr)} {qual:Str} {outer:Env} {Q:Env -> Shared -> Prop}
  (h:∀ h₁:Heap,h₁.Ns s.heap.objs.size (fun _=>none) -> (∀ b o,s.heap.get? b = some o -> h₁.get? b = some o) -> CellsOk h₁ (s.heap.objs.size + 1) (cellsFrom (s.heap.objs.size + 1) scope.names []) ->
   Q (newEnv scope s.heap.objs.size globals (cellsFrom (s.heap.objs.size + 1) scope.names cl) qual none .none (some outer) builtinsNs) { s with heap:=h₁ }) :
  wpAny M A (newFunctionEnv scope globals cl [] qual none .none (some outer)) Q E s:=by
 simp only [newFunctionEnv,Option.isSome_some,if_true]
 refine wpAny_bind (wpAny_alloc ?_)
 refine wpAny_bind (wpAny_layCells _ (fun name kind cells=>by cases hkc:kind == NameKind.cell <;> simp [hkc]) _ _ _ _ ?_)
 have ok:=cellsFrom_ok scope.names (s.heap.push { cls:=.type "dict",data:=.dict #[] }) (s.heap.objs.size + 1) [] ⟨fun _ _ hm=>(nomatch hm),List.Pairwise.nil⟩ (by rw [Heap.size_push]; exact Nat.le_refl _)
 rw [Heap.size_push] at ok
 rw [show ({ s with heap:=s.heap.push { cls:=.type "dict",data:=.dict #[] } }:Shared).heap.objs.size = s.heap.objs.size + 1 from Heap.size_push ..]
 rw [List.forIn_nil]
 exact wpAny_bind (wpAny_pure (wpAny_pure (h _ ((Heap.Ns.new s.heap (.type "dict")).keeps (pushCells_keeps _ _)) (fun b o e=>pushCells_keeps _ _ b o (Heap.get?_push_of_some _ e)) ok)))
section
variable {X:Cx} {pins:List (Addr × Obj)} {σ:St} {H:Hp} {s:Shared} {scope:Scope} {cl:List (Str × Addr)} {N':List Str} {js:List (Option Nat)}
theorem inv_comp {fp:List Addr} {h₁:Heap} (I:Inv X pins σ H s) (hclo:closeL X.env.cells scope.names [] = some cl) (hdis:∀ y ∈ scope.names,y.2 = .free -> (y.1,NameKind.cell) ∉ scope.names) (hkind:scope.kind = .function) (cap:Cap X scope N' js)
  (hf:∀ b ∈ fp,FpOk X pins H b) (ho:∀ b ∈ fp,∃ o,s.heap.get? b = some o)
  (hns:h₁.Ns s.heap.objs.size (fun _=>none)) (hk:∀ b o,s.heap.get? b = some o -> h₁.get? b = some o) (cok:CellsOk h₁ (s.heap.objs.size + 1) (cellsFrom (s.heap.objs.size + 1) scope.names [])) {t':Nat} :
  Inv (cxComp X scope (cellsFrom (s.heap.objs.size + 1) scope.names cl) s.heap.objs.size N' s H fp pins) [] (sub js σ) H { s with heap:=h₁,toks:=t' }:=by
 have sb:=closeL_sub hclo (fun y c e=>by simp at e)
 rw [cellsFrom_app]
 generalize hnw:cellsFrom (s.heap.objs.size + 1) scope.names [] = nw at cok ⊢
 have nk:∀ y c,(y,c) ∈ nw -> (y,NameKind.cell) ∈ scope.names:=fun y c h=>by rw [← hnw] at h; exact cellsFrom_kind _ _ y c h
 have nh:∀ y,(y,NameKind.cell) ∈ scope.names -> ∃ c,nw.lookup y = some c:=fun y h=>by
  obtain ⟨c,q⟩:=cellsFrom_has scope.names (s.heap.objs.size + 1) y h
  rw [hnw] at q
  exact lookup_of_mem q
 have ng:∀ y c,nw.lookup y = some c -> h₁.IsCell c none /\ s.heap.objs.size + 1 <= c:=fun y c h=>cok.empty y c (PySem.mem_of_lookup h)
 have old:∀ y c,cl.lookup y = some c -> c < s.heap.objs.size:=fun y c h=>by
  obtain ⟨v,o,q1,q2⟩:=I.cell y c (sb y c h)
  exact Heap.lt_size q1
 have nf:∀ y,(y,NameKind.free) ∈ scope.names -> nw.lookup y = none:=fun y h=>by
  cases e:nw.lookup y with
  | none=>rfl
  | some c=>exact absurd (nk y c (PySem.mem_of_lookup e)) (hdis _ h rfl)
 refine ⟨⟨I.ok.mod,hkind,I.ok.glob,I.ok.blt,Nat.le_refl _,fun y z c h1 h2=>?_,fun y hy=>?_,fun y c z h=>?_,I.ok.hd,I.ok.frames,.inl rfl,fun b hb=>⟨?_,fun y c h=>?_⟩,I.bs,Nat.le_trans I.ok.bsz I.sz,fun b o e hb=>?_,fun b hb=>?_,I.stack,I.stkFree⟩,
  rfl,I.bare,Un.kept hk,⟨_,hns,fun i y v h1 h2 h3=>?_⟩,fun y c h=>?_,I.hok.fresh (Nat.le_refl _),fun y c h=>?_,fun p hp=>?_,I.hok.kept hk,?_⟩
 ·rcases lookup_app h1 with a | ⟨_,a⟩ <;> rcases lookup_app h2 with b | ⟨_,b⟩
  ·exact name_of_addr cok.apart (PySem.mem_of_lookup a) (PySem.mem_of_lookup b)
  ·exact absurd (Nat.lt_of_lt_of_le (old z c b) (Nat.le_of_succ_le (ng y c a).2)) (Nat.lt_irrefl _)
  ·exact absurd (Nat.lt_of_lt_of_le (old y c a) (Nat.le_of_succ_le (ng z c b).2)) (Nat.lt_irrefl _)
  ·exact I.ok.inj y z c (sb y c a) (sb z c b)
 ·show ∃ c,(nw ++ cl).lookup y = some c
  rcases relabel_free hy with q | q
  ·obtain ⟨c,e⟩:=closeL_has hclo y (.inl q)
   exact ⟨c,by rw [lookup_appr (nf y q)]; exact e⟩
  ·obtain ⟨c,e⟩:=nh y q
   exact ⟨c,lookup_appl e⟩
 ·have z:(y,NameKind.cell) ∈ scope.names:=PySem.mem_of_lookup (eq_of_beq z)
  obtain ⟨d,e⟩:=nh y z
  have h:(nw ++ cl).lookup y = some c:=h
  rw [lookup_appl e] at h
  have h:d = c:=Option.some.inj h
  rw [← h]
  exact Nat.le_of_succ_le (ng y d e).2
 ·obtain ⟨o,e⟩:=ho b hb
  exact Nat.ne_of_lt (Heap.lt_size e)
 ·rcases lookup_app h with a | ⟨_,a⟩
  ·obtain ⟨o,e⟩:=ho b hb
   rintro rfl
   exact absurd (Nat.lt_of_lt_of_le (Heap.lt_size e) (Nat.le_of_succ_le (ng y c a).2)) (Nat.lt_irrefl _)
  ·exact (hf b hb).2.2.2.2.1 y c (sb y c a)
 ·have fb:=hf b hb
  rcases fb.2.2.2.1 with z | z
  ·exact I.ok.noex b o e z
  ·have h1:b < X.base.objs.size:=Heap.lt_size e
   exact absurd (Nat.lt_of_lt_of_le h1 (Nat.le_trans I.ok.bsz z)) (Nat.lt_irrefl _)
 ·intro z
  have:=I.stkSub b z
  rcases List.mem_cons.mp this with z | z
  ·exact (hf b hb).2.1 z
  ·exact (hf b hb).2.2.1 z
 ·obtain ⟨j,k1,k2,k3,k4⟩:=cap.at h1 h2
  obtain ⟨m,hm,hl⟩:=I.loc
  have vis:Vis X.env.scope y:=by
   rcases k3 with k | k
   ·exact .inr (.inl k)
   ·exact .inr (.inr k)
  obtain ⟨u,r,lk⟩:=hl j y v k1 k2 vis
  refine ⟨u,r,.inr ⟨relabel_of_free k4,?_⟩⟩
  have q4:(y,NameKind.free) ∈ scope.names:=PySem.mem_of_lookup k4
  rcases lk with ⟨k5,_⟩ | ⟨_,c,e1,e2⟩
  ·rcases k3 with k | k <;> (rw [k] at k5; cases k5)
  ·obtain ⟨c',e3⟩:=closeL_has hclo y (.inl q4)
   have:=sb y c' e3
   rw [e1] at this
   cases this
   refine ⟨c,by show (nw ++ cl).lookup y = some c; rw [lookup_appr (nf y q4)]; exact e3,?_⟩
   obtain ⟨o,q1,q2⟩:=e2
   exact ⟨o,hk _ _ q1,q2⟩
 ·rcases lookup_app h with a | ⟨_,a⟩
  ·exact ⟨_,(ng y c a).1⟩
  ·obtain ⟨v,o,q1,q2⟩:=I.cell y c (sb y c a)
   exact ⟨v,o,hk _ _ q1,q2⟩
 ·rcases lookup_app h with a | ⟨_,a⟩
  ·exact I.hok.fresh (Nat.le_of_succ_le (ng y c a).2)
  ·exact I.freeC y c (sb y c a)
 ·have hp:p ∈ X.pn ++ pins:=by simpa [cxComp] using hp
  obtain ⟨q1,q2,q3,q4,q5⟩:=I.pin p hp
  refine ⟨hk _ _ q1,q2,Nat.ne_of_lt (Heap.lt_size q1),fun z=>?_,q5⟩
  have:=I.stkSub p.1 z
  rcases List.mem_cons.mp this with z | z
  ·exact q3 z
  ·exact q4 z
 ·simp [sub,cap.len]; rfl
theorem un_but {fs ex:List Addr} {H:Hp} {h h':Heap} {C:Addr} (hC:C ∈ ex) (hs:Heap.SameBut C h h'):Un fs ex H H h h' where
 keep:=fun b o e _ _ nx=>by rw [hs.2 b (by rintro rfl; exact nx hC)]; exact e
 slot:=fun b o e _ _ nx=>⟨o.slots,by rw [hs.2 b (by rintro rfl; exact nx hC)]; exact e⟩
 free:=fun b o _ n _=>n
 there:=fun b o e nx=>⟨o,by rw [hs.2 b (by rintro rfl; exact nx hC)]; exact e⟩
 tups:=fun _ _ h=>h
 frzs:=fun _ _ _ h=>h
 tbls:=fun b ps h=>⟨#[],by simpa using h⟩
theorem Inv.but {C:Addr} {h':Heap} (I:Inv X pins σ H s) (f:FpOk X pins H C) (hs:Heap.SameBut C s.heap h'):Inv X pins σ H { s with heap:=h' }:=by
 refine I.call' (s':={ s with heap:=h' }) (ch:=[C]) rfl (un_but List.mem_cons_self hs) ?_ I.bare (fun b hb=>?_)
 ·intro a o e
  refine ObjOk.stay (I.hok a o e) (fun b u hb q=>?_) (fun _ h=>h) (fun _ _ h=>h)
  show h'.get? b = some u
  rw [hs.2 b]
  ·exact q
  ·rintro rfl
   rcases hb with rfl | hb
   ·rw [f.1] at e; cases e
   ·rw [f.1] at hb; cases hb
 ·have:b = C:=by simpa using hb
  subst this
  exact ⟨f.2.2.2.1,f.2.1,f.2.2.2.2.1,f.2.2.2.2.2⟩
variable {elt iter:Expr} {x:Str} {px pos:Pos} {ifs:List Expr} {wi:TI} {g:TG} {tc:TT} {te:TE} {Q:VK} {gB:Blk -> TG} {tcB:Blk -> TT} {teB:Blk -> TE}
theorem comp_loop {prog:Program} {w:World} {A:Around} {R:Result -> Shared -> Prop} {e tg it0:Expr} {cs:List Expr} {sc:Scope} {ps:Pos} {itv av:Value} {cenv:Env} {z:Shared} (J:Nat -> Shared -> Prop)
  (turn:∀ k z,J k z -> wpAny (model prog w) A (pyNext itv) (fun r z1=>match r with
   | none=>R (.ok .next) z1
   | some u=>wpAny (model prog w) A (letOwnedTupleGo tg itv u) (fun _ z2=>wpAny (model prog w) A (assign tg cenv u) (fun _ z3 =>
     wpAny (model prog w) A (forIn cs true fun c r=>if r = true then do let ok ← isTrue c cenv (eval c cenv); pure (ForInStep.yield ok) else pure (ForInStep.yield r)) (fun b z4 =>
      if b = true then wpAny (model prog w) A (eval e cenv) (fun y z5 =>
       wpAny (model prog w) A (call (.builtin "list.append") [av,y]) (fun _ z6=>∃ m,m < k /\ J m z6) (fun _ _=>False) z5) (fun _ _=>False) z4
      else ∃ m,m < k /\ J m z4) (fun _ _=>False) z3) (fun _ _=>False) z2) (fun _ _=>False) z1) (fun _ _=>False) z)
  (k:Nat) (h:J k z):codeAny (model prog w) A (.compLoop (.ListComp e [⟨tg,it0,cs,0⟩] sc ps) 0 itv av cenv) R z:=by
 have no:∀ {α:Type} {m:Sem α} {P:α -> Shared -> Prop} {E:Value -> Shared -> Prop} {z:Shared},wpAny (model prog w) A m P (fun _ _=>False) z -> wpAny (model prog w) A m P E z:=fun h=>wpAny_mono h (fun _ _ q=>q) fun _ _ q=>q.elim
 refine codeAny_loop rfl J (fun k z hJ=>?_) k h
 show wpAny _ A ((compTurn (.ListComp e [⟨tg,it0,cs,0⟩] sc ps) 0 itv av cenv).onRaise (fun x=>do noteFrame x cenv; theTreesLotGoes x)) _ _ z
 refine wpAny_noted ?_
 rw [compTurn_list]
 refine wpAny_bind (wpAny_standAt (wpAny_bind (no (thn (turn k z hJ) fun r z1 q1=>?_))))
 cases r with
 | none=>exact wpAny_pure q1
 | some u =>
  refine wpAny_bind (no (thn q1 fun _ z2 q2=>wpAny_bind (no (thn q2 fun _ z3 q3=>wpAny_bind (no (thn q3 fun b z4 q4=>?_))))))
  cases b with
  | false=>exact wpAny_pure ⟨rfl,q4⟩
  | true=>exact wpAny_bind (wpAny_bind (no (thn q4 fun y z5 q5=>wpAny_bind (no (thn q5 fun _ z6 q6=>wpAny_pure (wpAny_pure ⟨rfl,q6⟩))))))
theorem comp_block {RR:Value -> Addr -> Result -> Shared -> Prop} {s3:Shared} {H3:Hp} {D it:Addr} {fp:List Addr} {tn:Nat -> Heap -> Prop} {J:It} {W:Nat -> Nat -> St -> Hp -> Prop} {m0 t':Nat} {h₁:Heap} {tg:Expr}
  (hc:X.calm = true) (hclo:closeL X.env.cells scope.names [] = some cl) (hdis:∀ y ∈ scope.names,y.2 = .free -> (y.1,NameKind.cell) ∉ scope.names) (hkind:scope.kind = .function) (cap:Cap X scope N' js)
  (hb:PG (cxComp X scope (cellsFrom (s3.heap.objs.size + 1) scope.names cl) s3.heap.objs.size N' s3 H3 fp pins) tg g /\ PTs (cxComp X scope (cellsFrom (s3.heap.objs.size + 1) scope.names cl) s3.heap.objs.size N' s3 H3 fp pins) ifs tc /\ PE (cxComp X scope (cellsFrom (s3.heap.objs.size + 1) scope.names cl) s3.heap.objs.size N' s3 H3 fp pins) elt te)
  (I3:Inv X pins σ H3 s3) (T:Turn X.prog X.w X.K tg J fp it tn) (st3:tn 0 s3.heap) (f3:∀ b ∈ fp,FpOk X pins H3 b) (w0:W 0 m0 (sub js σ) H3)
  (turn:∀ i m σ' H',W i m σ' H' -> (J.stop i H' /\ Q (.ref D) H') ∨ (J.go i H' /\ ∃ N:St -> Hp -> Prop,(∀ σ2 H2,N σ2 H2 -> ∃ m',m' < m /\ W (i + 1) m' σ2 H2) /\ ∀ y H2,J.yld i H' y H2 -> g y σ' H2 fun σ3 H3=>tc σ3 H3 fun b H4 =>
   if b = true then te σ3 H4 fun v H5=>∃ ys,H5 D = some (.lst ys) /\ ys.length < sizeLine /\ N σ3 (upd H5 D (.lst (ys ++ [v]))) else N σ3 H4))
  (hns:h₁.Ns s3.heap.objs.size (fun _=>none)) (hk:∀ b o,s3.heap.get? b = some o -> h₁.get? b = some o) (cok:CellsOk h₁ (s3.heap.objs.size + 1) (cellsFrom (s3.heap.objs.size + 1) scope.names []))
  (hR:∀ s' H' m,Inv X pins σ H' s' -> FpOk X pins H' s3.heap.objs.size -> s'.heap.Ns s3.heap.objs.size m -> Q (.ref D) H' -> RR (.ref D) s3.heap.objs.size (.ok .next) s') :
  codeAny (model X.prog X.w) X.A (.compStart (.ListComp elt [⟨tg,iter,ifs,0⟩] scope pos) 0 (.ref it) (.ref D) (compEnvC scope (cellsFrom (s3.heap.objs.size + 1) scope.names cl) s3.heap.objs.size X.env)) (RR (.ref D) s3.heap.objs.size) { s3 with heap:=h₁,toks:=t' }:=by
 have ob3:∀ b ∈ fp,∃ o,s3.heap.get? b = some o:=fun b hb=>let ⟨o,e,_⟩:=T.obj _ _ st3 b hb; ⟨o,e⟩
 have I0:Inv (cxComp X scope (cellsFrom (s3.heap.objs.size + 1) scope.names cl) s3.heap.objs.size N' s3 H3 fp pins) [] (sub js σ) H3 { s3 with heap:=h₁,toks:=t' }:=inv_comp I3 hclo hdis hkind cap f3 ob3 hns hk cok
 have tn0:tn 0 h₁:=T.keep _ _ _ st3 fun b _ o e=>hk b o e
 have hC:FpOk X pins H3 s3.heap.objs.size:=I3.fpOk (Nat.le_refl _) (I3.hok.fresh (Nat.le_refl _))
 obtain ⟨bg,bt,be⟩:=hb
 have stat:∀ {H':Hp},(∀ b ∈ fp,H' b = none) -> ∀ b ∈ fp,FpOk (cxComp X scope (cellsFrom (s3.heap.objs.size + 1) scope.names cl) s3.heap.objs.size N' s3 H3 fp pins) [] H' b:=fun {H'} hn b hb=>by
  obtain ⟨o,e⟩:=ob3 b hb
  refine ⟨hn b hb,Nat.ne_of_lt (Heap.lt_size e),I0.ok.exfs b hb,.inl hb,fun y c h=>(I0.ok.exf b hb).2 y c h,fun p hp=>?_⟩
  exact (f3 b hb).2.2.2.2.2 p (by simpa [cxComp] using hp)
 have loop:codeAny (model X.prog X.w) X.A (.compLoop (.ListComp elt [⟨tg,iter,ifs,0⟩] scope pos) 0 (.ref it) (.ref D) (compEnvC scope (cellsFrom (s3.heap.objs.size + 1) scope.names cl) s3.heap.objs.size X.env)) (RR (.ref D) s3.heap.objs.size) { s3 with heap:=h₁,toks:=t' }:=by
  refine comp_loop (fun n s'=>∃ i σ' H',Inv (cxComp X scope (cellsFrom (s3.heap.objs.size + 1) scope.names cl) s3.heap.objs.size N' s3 H3 fp pins) [] σ' H' s' /\ tn i s'.heap /\ (∀ b ∈ fp,H' b = none) /\ W i n σ' H') (fun n s4 hJ=>?_) m0 ⟨0,sub js σ,H3,I0,tn0,fun b hb=>(f3 b hb).1,w0⟩
  obtain ⟨i,σ4,H4,I4,st4,fr4,w4⟩:=hJ
  rcases turn i n σ4 H4 w4 with ⟨stop,q⟩ | ⟨go,N,hN,step⟩
  ·refine thn (T.done (cxComp X scope (cellsFrom (s3.heap.objs.size + 1) scope.names cl) s3.heap.objs.size N' s3 H3 fp pins) rfl rfl rfl hc i [] s4 σ4 H4 _ I4 (stat fr4) st4 stop) fun r s5 ⟨hr,I5⟩=>?_
   subst hr
   have u:Un (frs X.stack) fp H3 H4 s3.heap s5.heap:=I5.base
   have free:H4 s3.heap.objs.size = none:=I5.free
   have back:Inv X pins σ H4 s5:=by
    refine I3.call' (s':=s5) (ch:=s3.heap.objs.size :: fp) I5.os (u.mono (fun _ h=>h) fun b h=>List.mem_cons_of_mem _ h) I5.hok I5.bare (fun b hb=>?_)
    rcases List.mem_cons.mp hb with rfl | hb
    ·exact ⟨hC.2.2.2.1,hC.2.1,hC.2.2.2.2.1,hC.2.2.2.2.2⟩
    ·have:=f3 b hb
     exact ⟨this.2.2.2.1,this.2.1,this.2.2.2.2.1,this.2.2.2.2.2⟩
   obtain ⟨m,hm,_⟩:=I5.loc
   exact hR s5 H4 m back ⟨free,hC.2⟩ hm q
  ·refine thn (T.item (cxComp X scope (cellsFrom (s3.heap.objs.size + 1) scope.names cl) s3.heap.objs.size N' s3 H3 fp pins) rfl rfl rfl hc i [] s4 σ4 H4 _ I4 (stat fr4) st4 go) fun r s5 ⟨u,hr,h5⟩=>?_
   subst hr
   refine thn h5 fun _ s6 ⟨y,H6,I6,r6,y6,st6,fr6⟩=>?_
   have I6':=I6.pinned (stat fr6) (T.obj _ _ st6)
   refine thn (bg _ s6 σ4 H6 y u _ I6' r6 (step y H6 y6)) fun _ s7 ⟨σ7,H7,I7,q7⟩=>?_
   refine thn (bt _ s7 σ7 H7 _ I7 q7) fun b s8 ⟨H8,I8,q8⟩=>?_
   have again:∀ {H':Hp} {s':Shared},Inv (cxComp X scope (cellsFrom (s3.heap.objs.size + 1) scope.names cl) s3.heap.objs.size N' s3 H3 fp pins) ([] ++ pinsAt fp s6.heap) σ7 H' s' -> N σ7 H' -> ∃ m,m < n /\ ∃ i σ' H',Inv (cxComp X scope (cellsFrom (s3.heap.objs.size + 1) scope.names cl) s3.heap.objs.size N' s3 H3 fp pins) [] σ' H' s' /\ tn i s'.heap /\ (∀ b ∈ fp,H' b = none) /\ W i m σ' H':=fun {H' s'} I9 n9=>by
    obtain ⟨m',hm,w9⟩:=hN σ7 H' n9
    refine ⟨m',hm,i + 1,σ7,H',I9.unpinned,T.keep _ _ _ st6 fun b hb o e=>(I9.pin (b,o) (List.mem_append_right _ (List.mem_append_right _ (mem_pinsAt hb e)))).1,fun b hb=>?_,w9⟩
    obtain ⟨o,e,d⟩:=T.obj _ _ st6 b hb
    exact (I9.pin (b,o) (List.mem_append_right _ (List.mem_append_right _ (mem_pinsAt hb e)))).2.1
   cases b with
   | false=>exact iteF (again I8 q8)
   | true =>
    refine iteT (thn (be _ s8 σ7 H8 _ I8 q8) fun yv s9 ⟨v9,H9,I9,r9,ys,hD,hl,n9⟩=>?_)
    exact thn (mt_append _ s9 σ7 H9 (.ref D) [v9] (.ref D) [yv] (fun _ H'=>H' = upd H9 D (.lst (ys ++ [v9]))) I9 rfl (.cons r9 .nil) ⟨D,ys,v9,rfl,rfl,hD,hl,rfl⟩) fun _ s10 ⟨_,H10,I10,_,e10⟩=>by
     subst e10
     exact again I10 n9
 exact codeAny_compStart_list loop (T.self _ 0 _ _ _ tn0 loop)
theorem comp_run {RR:Value -> Addr -> Result -> Shared -> Prop} {tg:Expr} (hc:X.calm = true) (hclo:closeL X.env.cells scope.names [] = some cl) (hdis:∀ y ∈ scope.names,y.2 = .free -> (y.1,NameKind.cell) ∉ scope.names) (hkind:scope.kind = .function) (cap:Cap X scope N' js)
  (hi:PI X tg iter wi)
  (hb:∀ B:Blk,PG (cxB X scope cl N' B) tg (gB B) /\ PTs (cxB X scope cl N' B) ifs (tcB B) /\ PE (cxB X scope cl N' B) elt (teB B))
  (I:Inv X pins σ H s) (h:tComp wi js gB tcB teB σ H Q)
  (hR:∀ D C s' H' m,Inv X pins σ H' s' -> FpOk X pins H' C -> s'.heap.Ns C m -> Q (.ref D) H' -> RR (.ref D) C (.ok .next) s') :
  wpAny (model X.prog X.w) X.A (eval iter X.env) (fun v s1=>wpAny (model X.prog X.w) X.A (pyIter v) (fun it s2=>wpAny (model X.prog X.w) X.A (newList []) (fun acc s3 =>
   wpAny (model X.prog X.w) X.A (newFunctionEnv scope X.env.globals cl [] X.env.qual none .none (some X.env)) (fun cenv s4 =>
    codeAny (model X.prog X.w) X.A (.compStart (.ListComp elt [⟨tg,iter,ifs,0⟩] scope pos) 0 it acc { cenv with scope:=relabel scope X.env }) (RR acc cenv.locals) s4) X.xe s3) X.xe s2) X.xe s1) X.xe s:=by
 refine thn (hi pins s σ H _ I h) fun v s1 h1=>thn h1 fun itv s2 h2=>?_
 obtain ⟨it,fp,tn,J,H2,e,I2,T,st2,f2,h2⟩:=h2
 subst e
 have hD0:H2 s2.heap.objs.size = none:=I2.hok.fresh (Nat.le_refl _)
 obtain ⟨W,⟨m0,w0⟩,turn⟩:=h2 ⟨(s2.heap.push { cls:=.type "list",data:=.seq ([]:List Value).toArray }).objs.size,{ s2 with heap:=s2.heap.push { cls:=.type "list",data:=.seq ([]:List Value).toArray } },upd H2 s2.heap.objs.size (.lst []),fp,pins⟩ s2.heap.objs.size hD0
 refine wpAny_newObj_type (wpAny_newCompEnv (fun h₁ hns₁ hk₁ cok₁=>?_))
 have I3:Inv X pins σ (upd H2 s2.heap.objs.size (.lst [])) { s2 with heap:=s2.heap.push { cls:=.type "list",data:=.seq ([]:List Value).toArray } }:=I2.lnew .nil (Nat.zero_le _)
 refine comp_block (s3:={ s2 with heap:=s2.heap.push { cls:=.type "list",data:=.seq ([]:List Value).toArray } }) (cl:=cl) (fp:=fp) hc hclo hdis hkind cap (hb ⟨(s2.heap.push { cls:=.type "list",data:=.seq ([]:List Value).toArray }).objs.size,{ s2 with heap:=s2.heap.push { cls:=.type "list",data:=.seq ([]:List Value).toArray } },upd H2 s2.heap.objs.size (.lst []),fp,pins⟩) I3 T ?_ (fun b hb=>?_) w0 turn hns₁ hk₁ cok₁ (fun s' H' m=>hR _ _ s' H' m)
 ·exact T.keep _ _ _ st2 fun b _ o e=>Heap.get?_push_of_some _ e
 ·have:=f2 b hb
  obtain ⟨o,e,_⟩:=T.obj _ _ st2 b hb
  exact ⟨by show upd H2 s2.heap.objs.size (.lst []) b = none; rw [upd_ne (Nat.ne_of_lt (Heap.lt_size e))]; exact this.1,this.2⟩
theorem pe_comp {tg:Expr} (hc:X.calm = true) (hclo:closeL X.env.cells scope.names [] = some cl) (hdis:∀ y ∈ scope.names,y.2 = .free -> (y.1,NameKind.cell) ∉ scope.names) (hkind:scope.kind = .function) (cap:Cap X scope N' js)
  (hnames:∀ y ∈ scope.names,y.2 = .local -> scope.names.lookup y.1 = some .local) (hi:PI X tg iter wi)
  (hb:∀ B:Blk,PG (cxB X scope cl N' B) tg (gB B) /\ PTs (cxB X scope cl N' B) ifs (tcB B) /\ PE (cxB X scope cl N' B) elt (teB B))
  (hs:∀ v,foldedSetIterable iter X.env v = pure v:=by intro _; rfl):PE X (.ListComp elt [⟨tg,iter,ifs,0⟩] scope pos) (tComp wi js gB tcB teB):=by
 intro pins s σ H Q I h
 rw [eval_ListComp]
 refine wpAny_comprehension_free (use:=none) rfl hs (closureFor_of hclo) hkind hnames (comp_run (RR:=fun acc C=>compPost (model X.prog X.w) X.A X.xe none (EP X pins σ Q) acc C) hc hclo hdis hkind cap hi hb I h ?_)
 intro D C s' H' m I' f hm q
 exact ⟨m,hm,fun h' hs'=>⟨.ref D,H',I'.but f hs',rfl,q⟩⟩
theorem ps_comp {tg:Expr} {i:Nat} {y:Str} {py spos:Pos} (hN:X.N.Nodup) (hy:X.N[i]? = some y) (hl:X.env.scope.names.lookup y = some .local) (hc:X.calm = true) (hclo:closeL X.env.cells scope.names [] = some cl) (hdis:∀ y ∈ scope.names,y.2 = .free -> (y.1,NameKind.cell) ∉ scope.names) (hkind:scope.kind = .function) (cap:Cap X scope N' js)
  (hnames:∀ y ∈ scope.names,y.2 = .local -> scope.names.lookup y.1 = some .local) (hi:PI X tg iter wi)
  (hb:∀ B:Blk,PG (cxB X scope cl N' B) tg (gB B) /\ PTs (cxB X scope cl N' B) ifs (tcB B) /\ PE (cxB X scope cl N' B) elt (teB B))
  (hsw:swapsWith (.ListComp elt [⟨tg,iter,ifs,0⟩] scope pos) (some (.Name y py)) spos.line X.env = pure true:=by rfl)
  (hs:∀ v,foldedSetIterable iter X.env v = pure v:=by intro _; rfl):PS X (.Assign [.Name y py] (.ListComp elt [⟨tg,iter,ifs,0⟩] scope pos) spos) (tAsg (tComp wi js gB tcB teB) (gName i)):=by
 intro pins s σ H D I h
 rw [exec_Assign_Name_used _ _ _ _ hsw]
 refine wpAny_bind (wpAny_standAt (wpAny_bind ?_))
 show wpAny _ X.A (do let _ ← comprehension (.ListComp elt [⟨tg,iter,ifs,0⟩] scope pos) scope X.env _ (newList []) false (eval iter X.env) (some (assign (.Name y py) X.env))) _ _ s
 refine wpAny_bind (thn (wpAny_comprehension_free (use:=some (assign (.Name y py) X.env)) (Q:=fun _ s'=>SP X pins D .next s') rfl hs (closureFor_of hclo) hkind hnames
  (comp_run (RR:=fun acc C=>compPost (model X.prog X.w) X.A X.xe (some (assign (.Name y py) X.env)) (fun _ s'=>SP X pins D .next s') acc C) hc hclo hdis hkind cap hi hb I h ?_)) fun _ s' q=>wpAny_pure (wpAny_pure q))
 intro Dl C s' H' m I' f hm q
 show wpAny _ X.A (assign (.Name y py) X.env (.ref Dl)) _ _ _
 refine wpAny_assign_Name (store_ok2 I' hN hy (.inl hl) (v:=.ref Dl) rfl (fun s2 I2 hch=>?_) (.inr hl))
 obtain ⟨a,hsb,ha⟩:=hch
 have hCa:C ≠ a:=by
  rcases ha with rfl | ha
  ·exact f.2.1
  ·exact fun z=>f.2.2.2.2.1 y a ha z.symm
 refine ⟨m,hm.sameBut hsb hCa,fun h' hs'=>⟨_,H',I2.but f hs',q⟩⟩
end
end L2
namespace L2
open PySem PySem.Spec PyProof.Rows
def DictAt (e:Addr) (dd:Option Addr) (h:Heap):Prop:=∃ o,h.get? e = some o /\ o.dict = dd
def Tame {α:Type}:Sem α -> Prop
 | .pure _=>True
 | .raise _=>True
 | .unsupported _=>True
 | .finish _=>True
 | .rule _ k=>Tame (k ())
 | .at _ k=>Tame (k ())
 | .load _ _ k=>∀ o,Tame (k o)
 | .update _ _ f k=>(∀ o,(f o).dict = o.dict /\ (f o).isFreed = o.isFreed) /\ Tame (k ())
 | .alloc _ k=>∀ a,Tame (k a)
 | .loadIfAlive _ k=>∀ o,Tame (k o)
 | .point _ k=>Tame (k ())
 | .register _ _=>True
 | .fresh k=>∀ t,Tame (k t)
 | .ask k=>∀ x,Tame (k x)
 | .choose _ _ k=>∀ x,Tame (k x)
 | .os _ _ k=>∀ x,Tame (k x)
 | .call _ _ _ _ _=>False
 | .handled _ k=>∀ x,Tame (k x)
 | .newGen _ k=>∀ x,Tame (k x)
 | .genState _ k=>∀ x,Tame (k x)
 | .resume _ _ _ _=>False
 | .yield _ _ _ _=>True
 | .stack k=>∀ x,Tame (k x)
 | .fork _ _=>True
 | .thread k=>∀ x,Tame (k x)
 | .await _ _ _ _ _=>True
theorem tame_bind {α β:Type} {m:Sem α} {f:α -> Sem β} (h:Tame m) (hf:∀ a,Tame (f a)):Tame (m >>= f):=by
 show Tame (m.bind f)
 induction m with
 | pure a=>exact hf a
 | raise | unsupported | finish | register | yield | fork | await=>exact trivial
 | call | resume=>exact h.elim
 | rule _ k ih | «at» _ k ih | point _ k ih=>exact ih _ h
 | load _ _ k ih | alloc _ k ih | loadIfAlive _ k ih | fresh k ih | ask k ih | choose _ _ k ih | os _ _ k ih | handled _ k ih | newGen _ k ih | genState _ k ih | stack k ih | thread k ih=>exact fun x=>ih x (h x)
 | update a _ g k ih=>exact ⟨h.1,ih _ h.2⟩
theorem DictAt.push {e:Addr} {dd:Option Addr} {h:Heap} {o:Obj} (x:DictAt e dd h):DictAt e dd (h.push o):=let ⟨u,a,b⟩:=x; ⟨u,Heap.get?_push_of_some _ a,b⟩
theorem DictAt.upd {e a:Addr} {dd:Option Addr} {h:Heap} {f:Obj -> Obj} (x:DictAt e dd h) (hf:∀ o,(f o).dict = o.dict /\ (f o).isFreed = o.isFreed):DictAt e dd (h.update a f):=by
 obtain ⟨u,q,b⟩:=x
 by_cases z:a = e
 ·subst z
  exact ⟨f u,Heap.get?_update_self f q (by rw [(hf u).2]; exact (Heap.get?_some_iff.mp q).2),by rw [(hf u).1]; exact b⟩
 ·exact ⟨u,by rw [Heap.get?_update_other _ _ z]; exact q,b⟩
theorem wp_dict {α:Type} {M:Model} {Γ:PySem.Ctx} {t:Sem α} {e:Addr} {dd:Option Addr} {Q:α -> Pos -> Shared -> Prop} {E:Value -> Pos -> Shared -> Prop} (ht:Tame t):∀ {p:Pos} {s:Shared},DictAt e dd s.heap -> Sem.wp M Γ t Q E p s ->
  Sem.wp M Γ t (fun a p' s'=>Q a p' s' /\ DictAt e dd s'.heap) (fun v p' s'=>E v p' s' /\ DictAt e dd s'.heap) p s:=by
 induction t with
 | pure | raise=>exact fun hd h=>⟨h,hd⟩
 | unsupported | finish | yield | fork | await | register=>exact fun _ h=>h
 | call | resume=>exact ht.elim
 | rule _ k ih | «at» _ k ih | point _ k ih=>exact fun hd h=>ih _ ht hd h
 | alloc _ k ih=>exact fun hd h=>ih _ (ht _) hd.push h
 | loadIfAlive _ k ih | fresh k ih | ask k ih | os _ _ k ih | handled _ k ih | newGen _ k ih | stack k ih | thread k ih=>exact fun hd h=>ih _ (ht _) hd h
 | load a _ k ih | genState a k ih=>exact fun hd ⟨o,ho,h⟩=>⟨o,ho,ih _ (ht _) hd h⟩
 | choose _ _ k ih=>exact fun hd ⟨a,h⟩=>⟨a,ih _ (ht _) hd h⟩
 | update a _ f k ih=>exact fun hd ⟨a,h⟩=>⟨a,ih _ ht.2 (hd.upd ht.1) h⟩
theorem wpAny_dict {α:Type} {M:Model} {A:Around} {t:Sem α} {e:Addr} {dd:Option Addr} {Q:α -> Shared -> Prop} {E:Value -> Shared -> Prop} {s:Shared} (ht:Tame t) (hd:DictAt e dd s.heap) (h:wpAny M A t Q E s) :
  wpAny M A t (fun a s'=>Q a s' /\ DictAt e dd s'.heap) (fun v s'=>E v s' /\ DictAt e dd s'.heap) s:=fun Γ p hΓ=>wp_dict ht hd (h Γ p hΓ)
theorem wpAny_thenD {α:Type} {M:Model} {A:Around} {t:Sem α} {e:Addr} {dd:Option Addr} {Q:α -> Shared -> Prop} {E:Value -> Shared -> Prop} {s:Shared} (ht:Tame t) (hd:DictAt e dd s.heap)
  (h:wpAny M A t (fun a s'=>DictAt e dd s'.heap -> Q a s') E s):wpAny M A t Q E s :=
 wpAny_mono (wpAny_dict ht hd h) (fun _ _ q=>q.1 q.2) fun _ _ q=>q.1
section
theorem tame_ite {α:Type} {c:Prop} [Decidable c] {a b:Sem α} (h1:Tame a) (h2:Tame b):Tame (if c then a else b):=by split <;> assumption
theorem tame_field {v:Value} {i:Nat}:Tame (field v i):=by
 unfold field
 refine tame_bind ?_ fun xs=>?_
 ·unfold fieldsOf
  split
  ·exact fun o=>by dsimp only [Bind.bind,Sem.bind]; split <;> exact trivial
  ·exact trivial
 ·split <;> exact trivial
theorem isFreed_mapFields (f:Array Value -> Array Value) (o:Obj):(Obj.mapFields f o).dict = o.dict /\ (Obj.mapFields f o).isFreed = o.isFreed:=by
 obtain ⟨c,d,dt,sl⟩:=o
 cases dt <;> exact ⟨rfl,rfl⟩
theorem tame_setField {v x:Value} {i:Nat}:Tame (setField v i x):=by
 unfold setField
 split
 ·unfold updateField
  refine tame_bind (fun o=>trivial) fun o=>?_
  split
  ·exact tame_ite ⟨isFreed_mapFields _,trivial⟩ trivial
  ·exact trivial
 ·exact trivial
theorem tame_setFlight {e:Value} {f:Option Addr}:Tame (setFlight e f):=by
 unfold setFlight
 exact tame_bind tame_field fun tb=>tame_ite tame_setField trivial
theorem tame_newFields {ty:String} {vs:List Value}:Tame (newFields ty vs):=by
 unfold newFields newObj
 dsimp only
 have h:Tame (newObjAsIs (.type ty) (.fields vs.toArray)):=by
  unfold newObjAsIs
  exact fun a=>trivial
 exact tame_ite trivial h
theorem tame_isImport {env:Env} {outer:List Env}:Tame (behindIsImport env outer):=by
 unfold behindIsImport
 refine tame_ite trivial (tame_ite trivial (tame_bind tame_field fun _=>trivial))
theorem tame_back {env:Env} {b:Bool}:∀ l:List Env,Tame (keptBack env b l)
 | []=>by
  unfold keptBack underTheClaimsCaller
  exact tame_ite trivial (fun _=>trivial)
 | c :: _=>trivial
theorem tame_ready:∀ l:List Env,Tame (readyFrames l)
 | []=>trivial
 | env :: outer=>by
  have ih:=tame_ready outer
  unfold readyFrames
  split
  ·refine tame_bind (fun o=>trivial) fun o=>?_
   refine tame_ite trivial (tame_bind tame_isImport fun b=>tame_bind (tame_back _) fun back=>?_)
   exact tame_bind (m:=update _ _) ⟨fun o=>⟨rfl,by obtain ⟨c,d,dt,sl⟩:=o; cases dt <;> rfl⟩,trivial⟩ fun _=>ih
  ·exact trivial
theorem tame_frameObj:∀ l:List Env,Tame (frameObject l)
 | []=>trivial
 | e :: l=>by
  unfold frameObject
  exact tame_bind (tame_ready _) fun _=>trivial
theorem tame_frameOf {env:Env}:Tame (PySem.frameOf env):=by
 unfold PySem.frameOf PySem.frameEnvs
 refine tame_bind (tame_bind (fun x=>trivial) fun x=>trivial) fun r=>tame_bind (tame_frameObj _) fun o=>?_
 split <;> exact trivial
theorem tame_entryPlace {f:Addr} {b:Bool}:Tame (entryPlaceOf f b):=by
 unfold entryPlaceOf
 refine tame_bind (fun x=>trivial) fun acts=>?_
 split <;> exact trivial
theorem tame_noteFrame {e:Value} {env:Env}:Tame (noteFrame e env):=by
 have hn:∀ (f:Addr) (head:Value),Tame (do let a ← PySem.frameOf env; let pl ← entryPlaceOf f (head != .none); let b ← EntryCells.newEntry head a .none (rawInt f) .none pl; setField e 1 b):=fun f head =>
  tame_bind tame_frameOf fun _=>tame_bind tame_entryPlace fun _=>tame_bind tame_newFields fun _=>tame_setField
 unfold noteFrame
 split
 ·rename_i f _
  refine tame_bind tame_field fun head=>?_
  refine tame_ite ?_ (hn f head)
  refine tame_bind tame_field fun v=>tame_ite trivial (tame_bind tame_setField fun _=>hn f head)
 ·exact trivial
theorem tame_leaving {e:Value} {env:Env}:Tame (leaving env e):=tame_bind tame_noteFrame fun _=>tame_setFlight
end
end L2
namespace L2
open PySem PySem.Spec PyProof.Rows
section
variable {P:Program} {w:World} {H:Hp} {h:Heap} {a:Addr} {o:HO}
theorem ObjOk.there (x:ObjOk P w H h a o):∃ u,h.get? a = some u:=by
 cases o with
 | lst xs=>obtain ⟨_,_,_,_,e⟩:=x; exact ⟨_,e⟩
 | tup xs=>obtain ⟨_,_,_,_,e,_⟩:=x; exact ⟨_,e⟩
 | dK kvs=>obtain ⟨_,_,_,_,o,_,_,e,_⟩:=x; exact ⟨_,e⟩
 | dT kvs=>obtain ⟨_,_,_,_,o,_,_,e,_⟩:=x; exact ⟨_,e⟩
 | set S n=>obtain ⟨o,_,_,_,e,_⟩:=x; exact ⟨_,e⟩
 | ins C dx fs=>obtain ⟨_,_,_,e,_⟩:=x; exact ⟨_,e⟩
 | own y=>exact x
 | xd fs=>obtain ⟨_,⟨_,_,_,e,_⟩,_⟩:=x; exact ⟨_,e⟩
 | rng lo hi=>obtain ⟨_,_,_,e⟩:=x; exact ⟨_,e⟩
 | frz ob u=>obtain ⟨e,_⟩:=x; exact ⟨_,e⟩
 | tbl ps=>exact ⟨_,show h.get? a = some _ from x⟩
 | met f y=>exact ⟨_,show h.get? a = some _ from x⟩
 | ext φ=>exact x.2.1
end
structure Cry (X:Cx) (H:Hp) (B:Heap):Prop where
 old:∀ b o,X.s₀.heap.get? b = some o -> b ∉ X.fs -> b ∉ X.ex -> ∃ o',B.get? b = some o'
 trk:∀ b o,H b = some o -> ∃ o',B.get? b = some o'
 pin:∀ p ∈ X.pn,∃ o',B.get? p.1 = some o'
section
variable {X:Cx} {pins:List (Addr × Obj)} {σ:St} {H H':Hp} {s s':Shared} {B h':Heap}
theorem Inv.nopin (I:Inv X pins σ H s):Inv X [] σ H s :=
 ⟨I.ok,I.os,I.bare,I.base,I.loc,I.cell,I.free,I.freeC,fun p hp=>I.pin p (by rw [List.append_nil] at hp; exact List.mem_append_left _ hp),I.hok,I.len⟩
theorem stay_eq {h:Heap} {b:Addr} {o:Obj} (k:B.StaysIn h) (k':B.StaysIn h') (hb:∃ o',B.get? b = some o') (e:h.get? b = some o):h'.get? b = some o:=by
 obtain ⟨o',q⟩:=hb
 have:=k b o' q
 rw [e] at this; cases this
 exact k' b _ q
theorem Inv.fly (I:Inv X [] σ H s) (c:Cry X H B) (k:B.StaysIn s.heap) (k':B.StaysIn h') (u:s.heap.UpToSlots h'):Inv X [] σ H { s with heap:=h' }:=by
 have cellK:∀ c v,s.heap.IsCell c v -> h'.IsCell c v:=fun c v ⟨o,ho,hd⟩=>by
  obtain ⟨sl,q⟩:=u c o ho fun vs q=>by rw [hd] at q; cases q
  exact ⟨_,q,hd⟩
 have frk:∀ b o,X.s₀.heap.get? b = some o -> b ∈ X.fs -> ∃ sl,h'.get? b = some { o with slots:=sl }:=fun b o e hb=>by
  obtain ⟨_,o',ho',hd⟩:=I.ok.funs.mem hb
  rw [e] at ho'; cases ho'
  obtain ⟨sl,e1⟩:=I.base.slot b o e (I.ok.frf b hb) hb fun z=>I.ok.exfs b z hb
  obtain ⟨sl',e2⟩:=u b _ e1 hd
  exact ⟨sl',e2⟩
 refine ⟨I.ok,I.os,I.bare,⟨fun b o e n hb hx=>?_,fun b o e n hb hx=>frk b o e hb,I.base.free,fun b o e hx=>?_,I.base.tups,I.base.frzs,I.base.tbls⟩,?_,fun x c e=>?_,I.free,I.freeC,fun p hp=>?_,fun b o e=>?_,I.len⟩
 ·exact stay_eq k k' (c.old b o e hb hx) (I.base.keep b o e n hb hx)
 ·by_cases hb:b ∈ X.fs
  ·obtain ⟨sl,q⟩:=frk b o e hb; exact ⟨_,q⟩
  ·obtain ⟨o',q⟩:=c.old b o e hb hx
   exact ⟨o',k' b o' q⟩
 ·obtain ⟨m,hn,hl⟩:=I.loc
  refine ⟨m,u.ns hn,fun i x v e1 e2 e3=>?_⟩
  obtain ⟨y,r,l⟩:=hl i x v e1 e2 e3
  refine ⟨y,r,?_⟩
  rcases l with l | ⟨kk,c,e,z⟩
  ·exact .inl l
  ·exact .inr ⟨kk,c,e,cellK c _ z⟩
 ·obtain ⟨v,z⟩:=I.cell x c e
  exact ⟨v,cellK c v z⟩
 ·obtain ⟨e,r⟩:=I.pin p hp
  rw [List.append_nil] at hp
  exact ⟨stay_eq k k' (c.pin p hp) e,r⟩
 ·refine (I.hok b o e).stay (fun d v hd q=>stay_eq k k' ?_ q) (fun _ q=>q) fun _ _ q=>q
  rcases hd with rfl | hd
  ·exact c.trk d _ e
  ·exact c.trk d _ hd
end
def Ph (B:Heap) (l:List Env) (L ea C:Addr) (h:Heap):Prop :=
 (∃ a0,Heap.FlyingW B l ea (.ref C) a0 h) ∨ (∃ a0,Heap.HeldW B l ea (.ref C) a0 L h) ∨
 (B.StaysIn h /\ B.get? ea = none /\ h.FunFrames B l /\ ∃ oe vs a0,h.get? ea = some oe /\ oe.cls = .ref C /\ oe.data = .fields vs /\ vs[1]? = some .none /\ vs[0]? = some a0)
theorem Ph.stays {B h:Heap} {l:List Env} {L ea C:Addr} (x:Ph B l L ea C h):B.StaysIn h:=by
 rcases x with ⟨_,x⟩ | ⟨_,x⟩ | x
 ·exact x.1
 ·exact x.1
 ·exact x.1
theorem Ph.new {B h:Heap} {l:List Env} {L ea C:Addr} (x:Ph B l L ea C h):B.get? ea = none:=by
 rcases x with ⟨_,x⟩ | ⟨_,x⟩ | x
 ·exact x.2.1
 ·exact x.2.1
 ·exact x.2.1
theorem Ph.frames {B h:Heap} {l:List Env} {L ea C:Addr} (x:Ph B l L ea C h):h.FunFrames B l:=by
 rcases x with ⟨_,x⟩ | ⟨_,x⟩ | x
 ·exact x.2.2.1
 ·exact x.2.2.1
 ·exact x.2.2.1
def XF (X:Cx) (W:St -> XK) (e:Value) (s':Shared):Prop :=
 ∃ ea C dd B σ H,e = .ref ea /\ (Ph B X.stack X.env.locals ea C s'.heap /\ DictAt ea dd s'.heap) /\ Cry X H B /\ Inv X [] σ H s' /\ W σ (.ref C) dd H
def CXE (P:Program) (w:World):CXT:=fun outer H s E e s' =>
 ∃ ea C dd B H' a0,e = .ref ea /\ (Heap.FlyingW B outer ea (.ref C) a0 s'.heap /\ DictAt ea dd s'.heap) /\ Un (frs outer) [] H H' s.heap s'.heap /\ HOk P w H' s'.heap /\
  (∀ b o,s.heap.get? b = some o -> b ∉ frs outer -> ∃ o',B.get? b = some o') /\ (∀ b o,H' b = some o -> ∃ o',B.get? b = some o') /\ s'.os = s.os /\ AllBare s'.gens /\ E (.ref C) dd H'
section
variable {X:Cx} {pins:List (Addr × Obj)} {σ:St} {H H':Hp} {s s':Shared} {B h':Heap} {W:St -> XK} {e:Value}
theorem XF.mono {W':St -> XK} (x:XF X W e s') (k:∀ σ C dd H,W σ C dd H -> W' σ C dd H):XF X W' e s' :=
 let ⟨ea,C,dd,B,σ,H,a,b,c,d,f⟩:=x; ⟨ea,C,dd,B,σ,H,a,b,c,d,k _ _ _ _ f⟩
theorem Inv.offstack (I:Inv X pins σ H s) {b:Addr} (h1:b ≠ X.env.locals) (h2:b ∉ X.fs):b ∉ frs X.stack:=fun z=>by
 rcases List.mem_cons.mp (I.stkSub b z) with q | q
 ·exact h1 q
 ·exact h2 q
theorem Inv.oldNe (I:Inv X pins σ H s) {b:Addr} {o:Obj} (e:X.s₀.heap.get? b = some o):b ≠ X.env.locals:=Nat.ne_of_lt (Nat.lt_of_lt_of_le (Heap.lt_size e) I.ok.above)
theorem xf_call {E:XK} (I:Inv X pins σ H s) (h:CXE X.prog X.w X.stack H s E e s') (hE:∀ C dd H',E C dd H' -> W σ C dd H'):XF X W e s':=by
 obtain ⟨ea,C,dd,B,H',a0,rfl,⟨fl,fd⟩,un,hok,hold,htrk,os,bare,q⟩:=h
 obtain ⟨hh,g,d,t,os'⟩:=s'
 obtain rfl:os' = s.os:=os
 refine ⟨ea,C,dd,B,σ,H',rfl,⟨.inl ⟨a0,fl⟩,fd⟩,⟨fun b o e hb hx=>?_,htrk,fun p hp=>?_⟩,I.nopin.call (h':=hh) (g':=g) (d':=d) (t':=t) (ch:=[]) un hok bare (fun b z=>absurd z (by simp)),hE _ _ _ q⟩
 ·obtain ⟨o',e'⟩:=I.base.there b o e hx
  exact hold b o' e' (I.offstack (I.oldNe e) hb)
 ·obtain ⟨e1,_,e3,e4,_⟩:=I.pin p (List.mem_append_left _ hp)
  exact hold p.1 p.2 e1 (I.offstack e3 e4)
theorem xf_made {ea C:Addr} {vs:List Value} (I:Inv X pins σ H s) (hx:Heap.MadeExcOf s.heap h' ea (.ref C) vs) (q:W σ (.ref C) none H):XF X W (.ref ea) { s with heap:=h' }:=by
 have hin:∀ env ∈ X.stack,∀ b,env.frame = some b -> b ∈ frs X.stack:=fun env he b hb=>List.mem_filterMap.mpr ⟨env,he,hb⟩
 have hB:∀ b o,s.heap.get? b = some o -> b ∉ frs X.stack -> (PySem.W.hideAll s.heap (frs X.stack)).get? b = some o:=fun b o e n=>PySem.W.hideAll_get _ e n
 obtain ⟨t,he,_,_⟩:=hx.there
 refine ⟨ea,C,none,PySem.W.hideAll s.heap (frs X.stack),σ,H,rfl,⟨.inr (.inr ⟨fun b o e=>hx.keeps b o (PySem.W.of_hideAll _ e),?_,?_,_,_,_,he,rfl,rfl,rfl,rfl⟩),_,he,rfl⟩,⟨fun b o e hb hx=>?_,fun b o e=>?_,fun p hp=>?_⟩,?_,q⟩
 ·cases z:(PySem.W.hideAll s.heap (frs X.stack)).get? ea with
  | none=>rfl
  | some o=>have:=PySem.W.of_hideAll _ z; rw [hx.new] at this; cases this
 ·exact (PySem.W.funFrames_hide I.stack hin).of_keeps fun b o e _=>⟨o,hx.keeps b o e,rfl⟩
 ·obtain ⟨o',e'⟩:=I.base.there b o e hx
  exact ⟨o',hB b o' e' (I.offstack (I.oldNe e) hb)⟩
 ·obtain ⟨u,e'⟩:=(I.hok b o e).there
  exact ⟨u,hB b u e' fun z=>by rw [I.stkFree b z] at e; cases e⟩
 ·obtain ⟨e1,_,e3,e4,_⟩:=I.pin p (List.mem_append_left _ hp)
  exact ⟨p.2,hB p.1 p.2 e1 (I.offstack e3 e4)⟩
 ·exact I.nopin.kept (t':=s.toks) fun b o e=>hx.keeps b o e
end
end L2
namespace L2
open PySem PySem.Spec PyProof.Rows
section
variable {X:Cx} {pins:List (Addr × Obj)} {σ:St} {H H':Hp} {s s':Shared} {B h':Heap} {W:St -> XK} {e:Value}
theorem xf_leave {P:Program} {w:World} {K:PySem.W.Frag} {mg:Str -> Option Value} {base:Heap} {N:List Str} {qual:Str} {scope:Scope} {f:Addr} {cd:Value} {A:Around} {outer:List Env} {E:XK}
  (x:XF (cxOf (CXE P w) P w K mg base N qual scope f cd A outer s H E) (fun _=>E) e s'):(cxOf (CXE P w) P w K mg base N qual scope f cd A outer s H E).xe e s':=by
 obtain ⟨ea,C,dd,B,σ,H',rfl,⟨ph,pd⟩,cry,I,q⟩:=x
 have fin:∀ a0 h'',Heap.FlyingW B outer ea (.ref C) a0 h'' -> s'.heap.UpToSlots h'' -> DictAt ea dd h'' -> CXE P w outer H s E (.ref ea) { s' with heap:=h'' }:=fun a0 h'' fl u d=>by
  have J:=I.fly cry ph.stays fl.1 u
  exact ⟨ea,C,dd,B,H',a0,rfl,⟨fl,d⟩,J.base,J.hok,fun b o e n=>cry.old b o e n (fun z=>absurd (show b ∈ ([]:List Addr) from z) (by simp)),cry.trk,J.os,J.bare,q⟩
 have hfr:(A.deeper (envOfC qual scope s.heap.objs.size f cd)).frames = some (envOfC qual scope s.heap.objs.size f cd :: outer):=I.ok.frames
 show wpAny (model P w) (A.deeper (envOfC qual scope s.heap.objs.size f cd)) (leaving (envOfC qual scope s.heap.objs.size f cd) (.ref ea)) (fun _ s''=>CXE P w outer H s E (.ref ea) s'') (fun e' s''=>CXE P w outer H s E e' s'') s'
 refine wpAny_thenD tame_leaving pd ?_
 rcases ph with ⟨a0,fl⟩ | ⟨a0,hh⟩ | ⟨k1,k2,k3,oe,vs,a0,e1,e2,e3,e4,e5⟩
 ·exact wpAny_leaves_onW hfr rfl fl fun h'' k u d=>fin a0 h'' k u d
 ·unfold leaving
  refine wpAny_bind (wpAny_noteFrame_againW rfl hh.2.2.2 ?_)
  refine wpAny_landsW hh fun h'' fl u d=>?_
  obtain ⟨k1,k2,⟨_,_,k3⟩,k4⟩:=fl
  exact fin a0 h'' ⟨k1,k2,k3,k4⟩ u d
 ·refine wpAny_leaving_firstW (a0:=a0) hfr k3 rfl e1 k1 k2 e3 e4 e5 fun h'' hL d=>?_
  obtain ⟨l1,⟨_,_,l2⟩,l3,l4⟩:=hL
  rw [e2] at l3
  exact fin a0 h'' ⟨l1,k2,l2,l3⟩ l4 d
theorem setFlight_held {M:Model} {A:Around} {E:Value -> Shared -> Prop} {l:List Env} {ea L:Addr} {cls a0 fl:Value} {Q:Unit -> Shared -> Prop} (hkb:B.StaysIn s.heap) (hen:B.get? ea = none) (hl:s.heap.FunFrames B l) (ht:s.heap.TracedAtW B ea cls a0 fl)
  (h:∀ h',Heap.HeldW B l ea cls a0 L h' -> s.heap.UpToSlots h' -> Q () { s with heap:=h' }):wpAny M A (setFlight (.ref ea) (some L)) Q E s:=by
 obtain ⟨oe,vs,T,oT,ts,he,hcls,hd,h1,hnT,hTe,hT,hdT,h3⟩:=ht
 have hsz3:3 < ts.size:=(Array.getElem?_eq_some_iff.mp h3).1
 have other:∀ b,b ≠ T -> (s.heap.update T (Obj.mapFields (·.setIfInBounds 3 ((some L).elim Value.none fun f=>rawInt f)))).get? b = s.heap.get? b :=
  fun b hb=>Heap.get?_update_other _ _ (Ne.symm hb)
 have noRecord:∀ b o,s.heap.get? b = some o -> (∀ vs,o.data ≠ .fields vs) -> b ≠ T:=fun b o hb hnf q=>by
  rw [q,hT] at hb; injection hb with hb; subst hb; exact hnf ts hdT
 unfold setFlight
 refine wpAny_bind (wpAny_field he hd h1 ?_)
 rw [if_pos (show (Value.ref T != Value.none) = true from by simp)]
 refine wpAny_setField hT hdT hsz3 (h _ ⟨fun b o hbo=>(other b fun q=>by rw [q,hnT] at hbo; cases hbo).trans (hkb b o hbo),hen,
  hl.of_keeps fun b o hb hnf=>⟨o,(other b (noRecord b o hb hnf)).trans hb,rfl⟩,?_⟩ fun b o hb hnf=>⟨o.slots,(other b (noRecord b o hb hnf)).trans hb⟩)
 exact ⟨oe,vs,T,_,_,(other ea (Ne.symm hTe)).trans he,hcls,hd,h1,hnT,hTe,Heap.get?_update_self _ hT (Obj.isFreed_of_fields (Obj.data_mapFields hdT _)),Obj.data_mapFields hdT _,by simp [hsz3]⟩
theorem ph_noted {M:Model} {A:Around} {E:Value -> Shared -> Prop} {env:Env} {outer:List Env} {L ea C:Addr} {Q:Unit -> Shared -> Prop} (hfr:A.frames = some (env :: outer)) (hf:env.frame = some L) (ph:Ph B (env :: outer) L ea C s.heap)
  (h:∀ h' a0,Heap.HeldW B (env :: outer) ea (.ref C) a0 L h' -> s.heap.UpToSlots h' -> Q () { s with heap:=h' }):wpAny M A (noteFrame (.ref ea) env) Q E s:=by
 rcases ph with ⟨a0,fl⟩ | ⟨a0,hh⟩ | ⟨k1,k2,k3,oe,vs,a0,e1,e2,e3,e4,e5⟩
 ·exact wpAny_looks_onW hfr hf fl fun h' k u=>h h' a0 k u
 ·exact wpAny_noteFrame_againW hf hh.2.2.2 (h s.heap a0 hh (.refl _))
 ·unfold noteFrame
  simp only [hf]
  refine wpAny_bind (wpAny_field e1 e3 e4 ?_)
  rw [if_neg (by decide)]
  refine wpAny_entryW hfr k3 hf e1 k1 k2 e3 (Array.getElem?_eq_some_iff.mp e4).1 e5 fun h' hN=>?_
  obtain ⟨l1,l2,l3,l4⟩:=hN
  rw [e2] at l3
  exact h h' a0 ⟨l1,k2,l2,l3⟩ l4
end
def tCallE (sp:Sp) (dvs:List V) (W:St -> XK) (t:TA):TE:=fun σ H Q=>t σ H fun vs H1=>sp (vs ++ dvs) H1 Q (W σ)
section
variable {X:Cx} {k:Nat} {f C:Addr} {fd:FuncData} {ps:List Str} {sp:Sp} {dvs:List V} {ds:List Value} {W:St -> XK} {x m:Str} {p pos apos:Pos} {e o:Expr} {es:List Expr} {ta:TE} {t:TA}
theorem run_fnE {pins:List (Addr × Obj)} {σ:St} {H:Hp} {s:Shared} {Q:VK} {us:List Value} {vs:List V} (F:FnOk X.prog X.w X.K X.mg X.base (CXE X.prog X.w) k f fd ps sp) (hr:Room k X.A) (hb:Binds X.K fd ps ds) (hd:Vals dvs ds)
  (hx:∀ e s',XF X W e s' -> X.xe e s') (I:Inv X pins σ H s) (r:Vals vs us) (h:sp (vs ++ dvs) H Q (W σ)):wpAny (model X.prog X.w) X.A (call (.ref f) us) (EP X pins σ Q) X.xe s:=by
 have r2:Vals (vs ++ dvs) (us ++ ds):=r.append hd
 have hl:(us ++ ds).length = ps.length:=by rw [← r2.length]; exact F.len _ _ _ _ h
 refine wpAny_call (codeAny_mono (F.run X.A X.stack s H ⟨us,[]⟩ (us ++ ds) (vs ++ dvs) Q (W σ) hr I.env0 (hb s us I.kIn hl) r2 h) fun r s' hq=>?_)
 cases r with
 | error e=>exact hx e s' (xf_call I hq fun _ _ _ q=>q)
 | ok fl =>
  cases fl with
  | ret u=>exact I.after hq
  | next=>exact False.elim hq
  | brk=>exact False.elim hq
  | cont=>exact False.elim hq
end
structure Exc (K:PySem.W.Frag) (C:Addr):Prop where
 q:PySem.W.excIn K C [.type "ValueError",.type "Exception",.type "BaseException",.type "object"] "ValueError.__new__" = true
section
variable {X:Cx} {W:St -> XK} {C:Addr} {x:Str} {np cpos pos:Pos} {e:Expr} {es:List Expr} {t:TA}
def tRaise (C:Addr) (W:St -> XK) (t:TA):TS:=fun _ σ H=>t σ H fun vs H1=>vs.length <= sizeLine /\ W σ (.ref C) none H1
theorem exc_obj {K:PySem.W.Frag} {h:Heap} (k:K.In h) (c:Exc K C):∃ bm N nm q bs hdct sn sub ab col dd k0 k1 k2 k3 k5,∃ mN:Str -> Option Value,h.get? C = some (excClassObj nm q C N bs bm hdct sn sub ab col dd k0 k1 k2 k3 k5 "ValueError.__new__") /\ h.Ns N mN /\ mN "__init__" = none /\ OwnTail h [.type "ValueError",.type "Exception",.type "BaseException",.type "object"] bm:=by
 have q:=c.q
 unfold PySem.W.excIn at q
 split at q
 ·rename_i dd cd sl ho
  split at q
  ·rename_i C' bm k0 k1 k2 k3 n k5 hm hs
   simp only [Bool.and_eq_true,beq_iff_eq,Bool.not_eq_true'] at q
   obtain ⟨⟨⟨⟨⟨rfl,rfl⟩,hdel⟩,ht⟩,hok⟩,hni⟩:=q
   obtain ⟨nm,bs,mro,ns,qn,hd,sn,sub,ab,col,del⟩:=cd
   dsimp only at hm hdel hok hni
   subst hm hdel
   have hsl:sl = #[k0,k1,k2,k3,some (.builtin "ValueError.__new__"),k5]:=by
    obtain ⟨l⟩:=sl
    simp only at hs
    rw [hs]
   subst hsl
   exact ⟨bm,ns,nm,qn,bs,hd,sn,sub,ab,col,dd,k0,k1,k2,k3,k5,_,k _ _ ho,.of_isNs (PySem.W.isNs_of_in k hok),PySem.W.nsMap_none_of_in k hok hni,PySem.W.tail_of_in k ht⟩
  ·cases q
 ·cases q
theorem ps_raise (c:Exc X.K C) (hc:X.calm = true) (hg:Gl X x) (hm:X.mg x = some (.ref C)) (hx:∀ e s',XF X W e s' -> X.xe e s') (ha:PA X (e :: es) t)
  (he:starEach (e :: es) X.env = (false,eval e X.env) :: starEach es X.env:=by rfl) (hplain:(backTo cpos (starEach es X.env)).any (·.1) = false:=by rfl)
  (hd:(x == ("__debug__" : Str)) = false:=by decide):PS X (.Raise (some (.Call (.Name x np) (e :: es) [] cpos)) none pos) (tRaise C W t):=by
 intro pins s σ H D I h
 obtain ⟨bm,N,nm,q,bs,hdct,sn,sub,ab,col,dd,k0,k1,k2,k3,k5,mN,hC,hN,hni,T⟩:=exc_obj I.mod.kin c
 have FB:=PySem.F.excBase_ValueError
 refine wpAny_Raise_call_subU (C:=C) (nm:=nm) (q:=q) (N:=N) (bs:=bs) (bm:=bm) (hdct:=hdct) (sn:=sn) (sub:=sub) (ab:=ab) (col:=col) (dd:=dd) (k0:=k0) (k1:=k1) (k2:=k2) (k3:=k3) (k5:=k5)
  FB (by decide) FB (mN:=mN) (T.hasType FB.hasBase) (I.ok.hd hc) (by rw [he]; show (false || (backTo cpos (starEach es X.env)).any (·.1)) = false; rw [hplain]; rfl) hni (ld_glob I hg hm ⟨rfl,?_⟩ hd)
 have h2:=ha cpos pins s σ H _ I h
 rw [he] at h2 ⊢
 refine Calls.evalArgs_plain (wpAny_mono h2 (fun us s2 ⟨vs,H1,I1,r,z,q⟩=>⟨rfl,by rw [← r.length]; exact z,I1.bk _ _ hC,hN.keeps I1.bk,T.keeps I1.bk,fun h' ea hm=>hx _ _ (xf_made I1 hm q)⟩) fun _ _ y=>y)
end
end L2
namespace L2
open PySem PySem.Spec PyProof.Rows
abbrev Cx.pinned (X:Cx) (l:List (Addr × Obj)):Cx:={ X with pn:=l }
abbrev Cx.caught (X:Cx) (ea:Addr):Cx:={ X with A:=X.A.mark (some (.ref ea)),calm:=false,xe:=fun _ _=>False }
def excA (C:Addr) (dd:Option Addr) (ea:Addr):HO:=.ext fun h=>∃ o,h.get? ea = some o /\ o.cls = .ref C /\ o.dict = dd /\ ∃ vs,o.data = .fields vs
abbrev excO (C ea:Addr):HO:=excA C none ea
section
variable {X:Cx} {pins:List (Addr × Obj)} {σ:St} {H H':Hp} {s s':Shared} {B h':Heap} {W:St -> XK} {e:Value}
theorem Cx.Ok.pinned {l:List (Addr × Obj)} (ok:X.Ok):(X.pinned l).Ok :=
 ⟨ok.mod,ok.kind,ok.glob,ok.blt,ok.above,ok.inj,ok.has,ok.cab,ok.hd,ok.frames,ok.stk,ok.exf,ok.bs,ok.bsz,ok.noex,ok.exfs,ok.funs,ok.frf⟩
theorem Cx.Ok.unpinned {l:List (Addr × Obj)} (ok:(X.pinned l).Ok):X.Ok :=
 ⟨ok.mod,ok.kind,ok.glob,ok.blt,ok.above,ok.inj,ok.has,ok.cab,ok.hd,ok.frames,ok.stk,ok.exf,ok.bs,ok.bsz,ok.noex,ok.exfs,ok.funs,ok.frf⟩
theorem Inv.toPn (I:Inv X pins σ H s):Inv (X.pinned (X.pn ++ pins)) [] σ H s :=
 ⟨I.ok.pinned,I.os,I.bare,I.base,I.loc,I.cell,I.free,I.freeC,fun p hp=>I.pin p (by rw [List.append_nil] at hp; exact hp),I.hok,I.len⟩
theorem Inv.ofPn (I:Inv (X.pinned (X.pn ++ pins)) [] σ H s):Inv X pins σ H s :=
 ⟨I.ok.unpinned,I.os,I.bare,I.base,I.loc,I.cell,I.free,I.freeC,fun p hp=>I.pin p (by rw [List.append_nil]; exact hp),I.hok,I.len⟩
theorem Inv.caught {ea:Addr} (I:Inv X pins σ H s):Inv (X.caught ea) pins σ H s :=
 ⟨⟨I.ok.mod,I.ok.kind,I.ok.glob,I.ok.blt,I.ok.above,I.ok.inj,I.ok.has,I.ok.cab,fun z=>(by cases z),I.ok.frames,I.ok.stk,I.ok.exf,I.ok.bs,I.ok.bsz,I.ok.noex,I.ok.exfs,I.ok.funs,I.ok.frf⟩,I.os,I.bare,I.base,I.loc,I.cell,I.free,I.freeC,I.pin,I.hok,I.len⟩
theorem Inv.uncaught {ea:Addr} (ok:X.Ok) (I:Inv (X.caught ea) pins σ H s):Inv X pins σ H s :=
 ⟨ok,I.os,I.bare,I.base,I.loc,I.cell,I.free,I.freeC,I.pin,I.hok,I.len⟩
theorem Inv.track {ea C:Addr} {dd:Option Addr} {oe:Obj} {vs:Array Value} (I:Inv X [] σ H s) (c:Cry X H B) (hn:B.get? ea = none) (he:s.heap.get? ea = some oe) (hc:oe.cls = .ref C) (hd:oe.data = .fields vs) (hdd:oe.dict = dd) (hex:X.ex = []) :
  H ea = none /\ Inv X [] σ (upd H ea (excA C dd ea)) s:=by
 have hne:H ea = none:=by
  cases q:H ea with
  | none=>rfl
  | some o=>obtain ⟨o',z⟩:=c.trk ea o q; rw [hn] at z; cases z
 have h0:∀ b o,X.s₀.heap.get? b = some o -> b ≠ ea:=by
  rintro b o e rfl
  by_cases hb:b ∈ X.fs
  ·obtain ⟨_,o',ho',hnf⟩:=I.ok.funs.mem hb
   rw [e] at ho'; cases ho'
   obtain ⟨sl,e1⟩:=I.base.slot b o e (I.ok.frf b hb) hb fun z=>I.ok.exfs b z hb
   rw [he] at e1
   cases e1
   exact hnf _ hd
  ·obtain ⟨o',z⟩:=c.old b o e hb (by rw [hex]; simp)
   rw [hn] at z; cases z
 have tr:∀ b o,H b = some o -> upd H ea (excA C dd ea) b = some o:=fun b o q=>by rw [upd_ne (ne_of_none q hne)]; exact q
 refine ⟨hne,I.ok,I.os,I.bare,⟨I.base.keep,I.base.slot,fun b o e n hx=>?_,I.base.there,fun b xs q=>tr _ _ (I.base.tups b xs q),fun b o u q=>tr _ _ (I.base.frzs b o u q),fun b ps q=>?_⟩,I.loc,I.cell,?_,fun x d q=>?_,fun p hp=>?_,fun b o q=>?_,I.len⟩
 ·rw [upd_ne (h0 b o e)]; exact I.base.free b o e n hx
 ·obtain ⟨m,z⟩:=I.base.tbls b ps q
  exact ⟨m,tr _ _ z⟩
 ·have:X.env.locals ≠ ea:=by
   intro z
   obtain ⟨m,⟨o,es,ep,ho,hdd,_⟩,_⟩:=I.loc
   rw [z,he] at ho; cases ho
   rw [hd] at hdd; cases hdd
  rw [upd_ne this]; exact I.free
 ·have:d ≠ ea:=by
   intro z
   obtain ⟨v,o,ho,hdd⟩:=I.cell x d q
   rw [z,he] at ho; cases ho
   rw [hd] at hdd; cases hdd
  rw [upd_ne this]; exact I.freeC x d q
 ·obtain ⟨e1,e2,r⟩:=I.pin p hp
  have:p.1 ≠ ea:=by
   intro z
   rw [List.append_nil] at hp
   obtain ⟨o',q⟩:=c.pin p hp
   rw [z,hn] at q; cases q
  exact ⟨e1,by rw [upd_ne this]; exact e2,r⟩
 ·by_cases z:b = ea
  ·subst z
   rw [upd_same] at q; cases q
   exact ⟨⟨oe,he,hc,hdd,_,hd⟩,⟨oe,he⟩,fun h1 h2 ⟨o,e1,e2⟩ k=>⟨o,k o e1,e2⟩⟩
  ·rw [upd_ne z] at q
   exact (I.hok b o q).stay (fun _ _ _ q=>q) (fun d q=>tr _ _ q) fun d xs q=>tr _ _ q
end
section
variable {X:Cx} {body suite:List Stmt} {b0:Stmt} {n x:Str} {np hpos pos:Pos} {C0:Addr} {i:Nat} {Wo:St -> XK}
end
end L2
namespace L2
open PySem PySem.Spec PyProof.Rows
open PySem.W (Looks)
structure ExK (K:PySem.W.Frag) (D:Addr):Prop where
 ga:PySem.W.findIn K (.ref D) "__getattribute__" = some (some (.builtin "BaseException.__getattribute__"))
 gt:PySem.W.findIn K (.ref D) "__getattr__" = some none
 sub:PySem.W.subIn K (.ref D) (.type "BaseException") = some true
 ha:PySem.W.findIn K (.ref D) "__class__" = some (some (.builtin "object.__class__"))
 hn:PySem.W.specialIn K (.builtin "object.__class__") "__get__" = some (some (.builtin "getset_descriptor.__get__"))
 htk:PySem.W.takesIn K (.builtin "object.__class__") = some true
 mro:PySem.W.mroIn K D (.type "object") = some true
 cls:(PySem.W.clsIn K D).isSome = true
def IsOf (x D:Addr) (h:Heap):Prop:=∃ o,h.get? x = some o /\ o.cls = .ref D
theorem IsOf.type {x D:Addr} {h:Heap} {M:Model} (I:IsOf x D h):Looks M h (typeOf (.ref x)) (.ref D):=by
 obtain ⟨o,e,c⟩:=I
 exact c ▸ (PySem.W.Looks.ld e).andThen .now
section
variable {prog:Program} {w:World} {A:Around} {E:Value -> Shared -> Prop} {s:Shared} {K:PySem.W.Frag} {x D:Addr}
open PySem.W PySem.Calls Builtin Builtin.ObjectAttr Builtin.Getset_descriptor in
end
end L2
namespace L2
open PySem PySem.Spec PyProof.Rows
open PySem.W (Looks)
def onlyExc:List Value -> Bool
 | .ref _ :: r=>onlyExc r
 | l=>l == [.type "ValueError",.type "Exception",.type "BaseException",.type "object"]
def excOver (K:PySem.W.Frag) (C:Addr):Bool:=(PySem.W.clsIn K C).any fun cd=>onlyExc cd.mro
section
variable {prog:Program} {w:World} {A:Around} {E:Value -> Shared -> Prop} {s:Shared} {K:PySem.W.Frag} {x dx C:Addr} {mA:Str -> Option Value} {name:Str} {v:Value}
open PySem.W in
end
structure ExA (K:PySem.W.Frag) (C:Addr):Prop extends ExK K C where
 sa:PySem.W.findIn K (.ref C) "__setattr__" = some (some (.builtin "object.__setattr__"))
 ov:excOver K C = true
 hd:PySem.W.hasDictIn K C = true
def exD (fs:List (Str × V)) (dx:Addr):HO:=.ext fun h=>∃ mA,h.Ns1 dx mA /\ (∀ f,RelO (fs.lookup f) (mA f)) /\ PySem.Within mA (fs.map (·.1)) /\ fs.length <= 1000
section
variable {X:Cx} {pins:List (Addr × Obj)} {σ:St} {H:Hp} {s:Shared} {a C dx:Addr} {fs:List (Str × V)} {f:Str} {v:V} {A:Around} {E:Value -> Shared -> Prop}
end
section
variable {X:Cx} {o e value:Expr} {f:Str} {pos pos' tpos:Pos} {ta tv:TE}
end
def excInI (K:PySem.W.Frag) (C fI:Addr) (bmB:List Value) (newId:String):Bool:=match K.lookup C with
 | some ⟨.type "type",_,.cls cd,sl⟩=>(match cd.mro,sl.toList with
  | .ref C' :: bm,[_,_,_,_,some (.builtin n),_]=>C' == C && n == newId && !cd.hasDel && PySem.W.tailIn K bmB bm && PySem.W.nsOkIn K cd.ns && PySem.W.nsIn K cd.ns "__init__" == some (some (.ref fI))
  | _,_=>false)
 | _=>false
structure ExcI (K:PySem.W.Frag) (C fI:Addr):Prop extends ExA K C where
 q:excInI K C fI [.type "ValueError",.type "Exception",.type "BaseException",.type "object"] "ValueError.__new__" = true
 fi:PySem.W.findIn K (.ref C) "__init__" = some (some (.ref fI))
 fn:PySem.W.typeIn K (.ref fI) = some (.type "function")
 kp:PySem.W.keepIn K (.ref C) = true
section
variable {K:PySem.W.Frag} {C fI:Addr}
section
variable {prog:Program} {w:World} {A:Around} {E:Value -> Shared -> Prop} {s:Shared}
end
end
end L2
namespace L2
open PySem PySem.Spec PyProof.Rows
section
variable {X:Cx} {pins:List (Addr × Obj)} {σ:St} {H G:Hp} {s s':Shared} {a:Addr} {W:St -> XK}
end
section
variable {X:Cx} {W:St -> XK} {k:Nat} {C f:Addr} {fd:FuncData} {ps:List Str} {a1 a2 x:Str} {np cpos pos:Pos} {e:Expr} {es:List Expr} {t:TA}
end
end L2
namespace DL
open PySem PySem.Spec L2
open PyProof.Rows hiding St
inductive D where
 | non | bl (b:Bool) | int (i:Int) | str (x:Str) | ty (n:String) | tup (ds:List D) | lst (ds:List D)
 | dK (ks:List Key) (ds:List D) | dT (ks:List (List Key)) (ds:List D) | pen | exc (C:Addr) | cls (C:Addr) | exa (C:Addr) (fs:List (Str × V))
inductive O where
 | val (d:D) | lst (os:List O) | dct (ks:List (List Key)) (os:List O) | tup (os:List O) | dck (ks:List Key) (os:List O)
inductive Sl where
 | nil | val (d:D) | own (ds:List D) | obj (o:O) | pin (v:V) (d:D)
section
variable (K:PySem.W.Frag) (pp:Option Addr) (M:List Addr) (H:Hp)
mutual
def Rep:D -> V -> Prop
 | .non,v=>v = .non
 | .bl b,v=>v = .bl b
 | .int i,v=>v = .int i
 | .str x,v=>v = .str x
 | .ty n,v=>v = .ty n
 | .tup ds,v=>∃ a xs,v = .ref a /\ H a = some (.tup xs) /\ Reps ds xs
 | .lst ds,v=>∃ a xs,v = .ref a /\ a ∉ M /\ pp ≠ some a /\ H a = some (.lst xs) /\ Reps ds xs
 | .dK ks ds,v=>∃ a kvs,v = .ref a /\ a ∉ M /\ pp ≠ some a /\ H a = some (.dK kvs) /\ kvs.map (·.1) = ks /\ Reps ds (kvs.map (·.2))
 | .dT ks ds,v=>∃ a kvs,v = .ref a /\ a ∉ M /\ pp ≠ some a /\ H a = some (.dT kvs) /\ kvs.map (·.1) = ks /\ Reps ds (kvs.map (·.2))
 | .pen,v=>∃ p,v = .ref p /\ pp = some p /\ ∃ a ns t l,Pen K H p a ns t l
 | .exc C,v=>∃ a,v = .ref a /\ a ∉ M /\ pp ≠ some a /\ H a = some (excO C a)
 | .cls C,v=>v = .ref C
 | .exa C fs,v=>∃ a dx,v = .ref a /\ a ∉ M /\ pp ≠ some a /\ H a = some (excA C (some dx) a) /\ dx ∉ M /\ pp ≠ some dx /\ H dx = some (exD fs dx)
def Reps:List D -> List V -> Prop
 | [],xs=>xs = []
 | d :: ds,xs=>∃ x r,xs = x :: r /\ Rep d x /\ Reps ds r
end
end
section
variable {K:PySem.W.Frag} {pp:Option Addr} {M M' M'':List Addr} {H H' H'':Hp}
class TB where
 tb:List (Addr × Str)
instance (priority:=low) TB.none:TB:=⟨[]⟩
def Tabs [TB] (H:Hp):Prop:=∀ P ql,TB.tb.lookup P = some ql -> ∃ ps,H P = some (.tbl ps) /\ TriplesOk ps.toList /\
 ∀ pos cv,codeAmong pos ps.toList = some cv -> ∃ c oc u vs t,cv = .ref c /\ H c = some (.frz oc u) /\ oc.data = .fields vs /\ vs[1]? = some (.str ql t)
def TF (o:HO):Prop:=(∃ ps,o = .tbl ps) ∨ ∃ ob u,o = .frz ob u
theorem Tabs.of [TB] {H H':Hp} (h:Tabs H) (k:∀ b o,H b = some o -> TF o -> H' b = some o):Tabs H':=fun P ql hq =>
 let ⟨ps,e1,e2,e3⟩:=h P ql hq
 ⟨ps,k _ _ e1 (.inl ⟨_,rfl⟩),e2,fun pos cv e=>let ⟨c,oc,u,vs,t,f1,f2,f3⟩:=e3 pos cv e; ⟨c,oc,u,vs,t,f1,k _ _ f2 (.inr ⟨_,_,rfl⟩),f3⟩⟩
theorem Tabs.upd [TB] {H:Hp} {l:Addr} {o o':HO} (h:Tabs H) (hl:H l = some o) (ht:¬ TF o):Tabs (upd H l o') :=
 h.of fun b x e tf=>by
  rw [upd_ne]
  ·exact e
  ·rintro rfl
   rw [hl] at e; cases e
   exact ht tf
theorem Tabs.new [TB] {H:Hp} {l:Addr} {o':HO} (h:Tabs H) (hl:H l = none):Tabs (L2.upd H l o') :=
 h.of fun b x e _=>upd_old hl e
theorem ntf_lst {xs:List V}:¬ TF (.lst xs):=by rintro (⟨_,e⟩ | ⟨_,_,e⟩) <;> cases e
def NT (o:HO):Prop:=∀ ps,o ≠ .tbl ps
def NP (pp:Option Addr) (a:Addr) (o:HO):Prop:=pp ≠ some a /\ NT o
theorem np {pp:Option Addr} {a:Addr} {o:HO} (h:pp ≠ some a) (t:NT o:=by intro _ z; cases z):NP pp a o:=⟨h,t⟩
structure Mv [TB] (K:PySem.W.Frag) (pp:Option Addr) (M:List Addr) (H:Hp) (M':List Addr) (H':Hp):Prop where
 tup:∀ a xs,H a = some (.tup xs) -> H' a = some (.tup xs)
 oth:∀ a o,H a = some o -> a ∉ M -> NP pp a o -> H' a = some o /\ a ∉ M'
 pen:∀ p,pp = some p -> (∃ a ns t l,Pen K H p a ns t l) -> ∃ a ns t l,Pen K H' p a ns t l
 tb:Tabs H -> Tabs H'
variable [TB]
theorem Mv.lst (m:Mv K pp M H M' H') (a:Addr) (xs:List V) (h:H a = some (.lst xs)) (n:a ∉ M) (q:pp ≠ some a):H' a = some (.lst xs) /\ a ∉ M':=m.oth a _ h n (np q)
theorem Mv.refl:Mv K pp M H M H:=⟨fun _ _ h=>h,fun _ _ h n _=>⟨h,n⟩,fun _ _ h=>h,fun h=>h⟩
theorem Mv.trans (x:Mv K pp M H M' H') (y:Mv K pp M' H' M'' H''):Mv K pp M H M'' H'' :=
 ⟨fun a xs h=>y.tup a xs (x.tup a xs h),fun a xs h n q=>y.oth a xs (x.oth a xs h n q).1 (x.oth a xs h n q).2 q,fun p e h=>y.pen p e (x.pen p e h),fun h=>y.tb (x.tb h)⟩
mutual
theorem Rep.mv (m:Mv K pp M H M' H'):∀ (d:D) (v:V),Rep K pp M H d v -> Rep K pp M' H' d v
 | .non,_,h=>by simp only [Rep] at h ⊢; exact h
 | .bl _,_,h=>by simp only [Rep] at h ⊢; exact h
 | .int _,_,h=>by simp only [Rep] at h ⊢; exact h
 | .str _,_,h=>by simp only [Rep] at h ⊢; exact h
 | .ty _,_,h=>by simp only [Rep] at h ⊢; exact h
 | .tup ds,_,h=>by
  simp only [Rep] at h ⊢
  obtain ⟨a,xs,e,h1,h2⟩:=h
  exact ⟨a,xs,e,m.tup a xs h1,Reps.mv m ds xs h2⟩
 | .lst ds,_,h=>by
  simp only [Rep] at h ⊢
  obtain ⟨a,xs,e,h0,hp,h1,h2⟩:=h
  exact ⟨a,xs,e,(m.lst a xs h1 h0 hp).2,hp,(m.lst a xs h1 h0 hp).1,Reps.mv m ds xs h2⟩
 | .dK ks ds,_,h=>by
  simp only [Rep] at h ⊢
  obtain ⟨a,xs,e,h0,hp,h1,h2,h3⟩:=h
  exact ⟨a,xs,e,(m.oth a _ h1 h0 (np hp)).2,hp,(m.oth a _ h1 h0 (np hp)).1,h2,Reps.mv m ds _ h3⟩
 | .dT ks ds,_,h=>by
  simp only [Rep] at h ⊢
  obtain ⟨a,xs,e,h0,hp,h1,h2,h3⟩:=h
  exact ⟨a,xs,e,(m.oth a _ h1 h0 (np hp)).2,hp,(m.oth a _ h1 h0 (np hp)).1,h2,Reps.mv m ds _ h3⟩
 | .pen,_,h=>by
  simp only [Rep] at h ⊢
  obtain ⟨p,e,e2,h⟩:=h
  exact ⟨p,e,e2,m.pen p e2 h⟩
 | .exc C,_,h=>by
  simp only [Rep] at h ⊢
  obtain ⟨a,e,h0,hp,h1⟩:=h
  exact ⟨a,e,(m.oth a _ h1 h0 (np hp)).2,hp,(m.oth a _ h1 h0 (np hp)).1⟩
 | .cls _,_,h=>by simp only [Rep] at h ⊢; exact h
 | .exa C fs,_,h=>by
  simp only [Rep] at h ⊢
  obtain ⟨a,dx,e,h0,hp,h1,h2,h3,h4⟩:=h
  exact ⟨a,dx,e,(m.oth a _ h1 h0 (np hp)).2,hp,(m.oth a _ h1 h0 (np hp)).1,(m.oth dx _ h4 h2 (np h3)).2,h3,(m.oth dx _ h4 h2 (np h3)).1⟩
theorem Reps.mv (m:Mv K pp M H M' H'):∀ (ds:List D) (xs:List V),Reps K pp M H ds xs -> Reps K pp M' H' ds xs
 | [],_,h=>by simp only [Reps] at h ⊢; exact h
 | d :: ds,_,h=>by
  simp only [Reps] at h ⊢
  obtain ⟨x,r,e,h1,h2⟩:=h
  exact ⟨x,r,e,Rep.mv m d x h1,Reps.mv m ds r h2⟩
end
theorem Reps.length:∀ {ds:List D} {xs:List V},Reps K pp M H ds xs -> ds.length = xs.length
 | [],_,h=>by simp only [Reps] at h; subst h; rfl
 | _ :: _,_,h=>by
  simp only [Reps] at h
  obtain ⟨x,r,rfl,_,h2⟩:=h
  simp [Reps.length h2]
theorem Reps.get:∀ {ds:List D} {xs:List V} {i:Nat} {x:V},Reps K pp M H ds xs -> xs[i]? = some x -> ∃ d,ds[i]? = some d /\ Rep K pp M H d x
 | [],_,_,_,h,e=>by simp only [Reps] at h; subst h; simp at e
 | d :: ds,_,0,x,h,e=>by
  simp only [Reps] at h
  obtain ⟨y,r,rfl,h1,h2⟩:=h
  simp at e; subst e
  exact ⟨d,rfl,h1⟩
 | d :: ds,_,i + 1,x,h,e=>by
  simp only [Reps] at h
  obtain ⟨y,r,rfl,h1,h2⟩:=h
  obtain ⟨d',e1,e2⟩:=Reps.get (i:=i) h2 (by simpa using e)
  exact ⟨d',by simpa using e1,e2⟩
theorem Reps.get':∀ {ds:List D} {xs:List V} {i:Nat} {d:D},Reps K pp M H ds xs -> ds[i]? = some d -> ∃ x,xs[i]? = some x /\ Rep K pp M H d x
 | [],_,_,_,h,e=>by simp at e
 | d :: ds,_,0,x,h,e=>by
  simp only [Reps] at h
  obtain ⟨y,r,rfl,h1,h2⟩:=h
  simp at e; subst e
  exact ⟨y,rfl,h1⟩
 | d :: ds,_,i + 1,x,h,e=>by
  simp only [Reps] at h
  obtain ⟨y,r,rfl,h1,h2⟩:=h
  obtain ⟨d',e1,e2⟩:=Reps.get' (i:=i) h2 (by simpa using e)
  exact ⟨d',by simpa using e1,e2⟩
theorem Reps.append:∀ {ds es:List D} {xs ys:List V},Reps K pp M H ds xs -> Reps K pp M H es ys -> Reps K pp M H (ds ++ es) (xs ++ ys)
 | [],_,_,_,h,q=>by simp only [Reps] at h; subst h; exact q
 | d :: ds,_,_,_,h,q=>by
  simp only [Reps] at h
  obtain ⟨y,r,rfl,h1,h2⟩:=h
  simp only [List.cons_append,Reps]
  exact ⟨y,_,rfl,h1,Reps.append h2 q⟩
theorem Reps.drop:∀ {ds:List D} {xs:List V} (n:Nat),Reps K pp M H ds xs -> Reps K pp M H (ds.drop n) (xs.drop n)
 | _,_,0,h=>h
 | [],_,n + 1,h=>by simp only [Reps] at h; subst h; simp [Reps]
 | d :: ds,_,n + 1,h=>by
  simp only [Reps] at h
  obtain ⟨y,r,rfl,h1,h2⟩:=h
  exact Reps.drop n h2
theorem Reps.take:∀ {ds:List D} {xs:List V} (n:Nat),Reps K pp M H ds xs -> Reps K pp M H (ds.take n) (xs.take n)
 | _,_,0,h=>by simp [Reps]
 | [],_,n + 1,h=>by simp only [Reps] at h; subst h; simp [Reps]
 | d :: ds,_,n + 1,h=>by
  simp only [Reps] at h
  obtain ⟨y,r,rfl,h1,h2⟩:=h
  simp only [List.take_succ_cons,Reps]
  exact ⟨y,_,rfl,h1,Reps.take n h2⟩
theorem Reps.set {d:D} {x:V} (hd:Rep K pp M H d x):∀ {ds:List D} {xs:List V} (n:Nat),Reps K pp M H ds xs -> Reps K pp M H (ds.set n d) (xs.set n x)
 | [],_,n,h=>by simp only [Reps] at h; subst h; simp [Reps]
 | e :: ds,_,0,h=>by
  simp only [Reps] at h
  obtain ⟨y,r,rfl,h1,h2⟩:=h
  simp only [List.set_cons_zero,Reps]
  exact ⟨x,r,rfl,hd,h2⟩
 | e :: ds,_,n + 1,h=>by
  simp only [Reps] at h
  obtain ⟨y,r,rfl,h1,h2⟩:=h
  simp only [List.set_cons_succ,Reps]
  exact ⟨y,_,rfl,h1,Reps.set hd n h2⟩
theorem Reps.one {d:D} {x:V} (h:Rep K pp M H d x):Reps K pp M H [d] [x]:=by simp only [Reps]; exact ⟨x,[],rfl,h,rfl⟩
theorem Reps.nil:Reps K pp M H [] []:=by simp only [Reps]
theorem Reps.cons {d:D} {x:V} {ds:List D} {xs:List V} (h:Rep K pp M H d x) (q:Reps K pp M H ds xs):Reps K pp M H (d :: ds) (x :: xs):=by simp only [Reps]; exact ⟨x,xs,rfl,h,q⟩
def NW (pp:Option Addr) (b:Addr) (o:HO):Prop:=(pp = some b -> ∀ xs,o ≠ .lst xs) /\ NT o
theorem nw {pp:Option Addr} {b:Addr} {o:HO} (h:pp ≠ some b) (t:NT o:=by intro _ z; cases z):NW pp b o:=⟨fun z=>absurd z h,t⟩
structure SameQ (K:PySem.W.Frag) (pp:Option Addr) (H H':Hp):Prop where
 keep:∀ b o,H b = some o -> NW pp b o -> H' b = some o
 pen:∀ p,pp = some p -> (∃ a ns t l,Pen K H p a ns t l) -> ∃ a ns t l,Pen K H' p a ns t l
 live:∀ b,H b ≠ none -> H' b ≠ none
structure SameP (K:PySem.W.Frag) (pp:Option Addr) (H H':Hp):Prop extends SameQ K pp H H' where
 tb:Tabs H -> Tabs H'
theorem SameQ.refl:SameQ K pp H H:=⟨fun _ _ h _=>h,fun _ _ h=>h,fun _ h=>h⟩
theorem SameP.refl:SameP K pp H H:=⟨.refl,fun h=>h⟩
theorem SameQ.trans (x:SameQ K pp H H') (y:SameQ K pp H' H''):SameQ K pp H H'' :=
 ⟨fun b o h n=>y.keep b o (x.keep b o h n) n,fun p e h=>y.pen p e (x.pen p e h),fun b h=>y.live b (x.live b h)⟩
theorem SameP.trans (x:SameP K pp H H') (y:SameP K pp H' H''):SameP K pp H H'':=⟨x.toSameQ.trans y.toSameQ,fun h=>y.tb (x.tb h)⟩
theorem SameP.of (s:Same H H'):SameP K pp H H':=⟨⟨fun b o h _=>s b o h,fun _ _ ⟨a,ns,t,l,h⟩=>⟨a,ns,t,l,h.same s⟩,fun b h e=>by
 cases q:H b with
 | none=>exact h q
 | some o=>rw [s b o q] at e; cases e⟩,fun h=>h.of fun b o e _=>s b o e⟩
theorem SameP.new {l:Addr} {o:HO} (h:H l = none):SameP K pp H (upd H l o):=.of (same_new h)
theorem SameP.mv (s:SameP K pp H H'):Mv K pp M H M H' :=
 ⟨fun a xs h=>s.keep a _ h ⟨fun _ _ z=>(by cases z),fun _ z=>(by cases z)⟩,fun a xs h n q=>⟨s.keep a _ h ⟨fun z=>absurd z q.1,q.2⟩,n⟩,s.pen,s.tb⟩
theorem Mv.new {l:Addr} {o:HO} (h:H l = none):Mv K pp M H M (upd H l o):=(SameP.new h).mv
theorem Mv.newOwn {l:Addr} {o:HO} (h:H l = none):Mv K pp M H (l :: M) (upd H l o) :=
 ⟨fun a xs e=>upd_old h e,fun a xs e n q=>⟨upd_old h e,by
  intro z
  rcases List.mem_cons.mp z with rfl | z
  ·rw [h] at e; cases e
  ·exact n z⟩,(SameP.new h).pen,fun t=>t.new h⟩
theorem Mv.less {l:List Addr} (h:∀ a ∈ l,a ∈ M):Mv K pp M H l H:=⟨fun _ _ h=>h,fun a xs e n _=>⟨e,fun z=>n (h a z)⟩,fun _ _ h=>h,fun h=>h⟩
theorem pen_upd {p l:Addr} {xs ys:List V} (hl:H l = some (.lst xs)) (hp:p ≠ l):(∃ a ns t k,Pen K H p a ns t k) -> ∃ a ns t k,Pen K (upd H l (.lst ys)) p a ns t k:=by
 rintro ⟨a,ns,t,k,h⟩
 refine ⟨a,ns,t,k,?_,?_,h.t0⟩
 ·rw [upd_ne hp]; exact h.lst
 ·rcases h.scr with ⟨o,e⟩ | e
  ·refine .inl ⟨o,?_⟩
   rw [upd_ne (ne_of e hl (by intro z; cases z))]; exact e
  ·exact .inr e
theorem Mv.write {l:Addr} {xs ys:List V} (hl:H l = some (.lst xs)) (hm:l ∈ M) (hp:pp ≠ some l):Mv K pp M H M (upd H l (.lst ys)) :=
 ⟨fun a zs e=>by rw [upd_ne (ne_of e hl (by intro z; cases z))]; exact e,
  fun a zs e n q=>⟨by rw [upd_ne (by rintro rfl; exact n hm)]; exact e,n⟩,
  fun p e h=>pen_upd hl (by rintro rfl; exact hp e) h,fun t=>t.upd hl ntf_lst⟩
end
section
variable (K:PySem.W.Frag) (pp:Option Addr) (M:List Addr) (H:Hp)
mutual
def RO:O -> V -> List Addr -> Prop
 | .val d,v,A=>A = [] /\ Rep K pp M H d v
 | .lst os,v,A=>∃ a xs B,v = .ref a /\ H a = some (.lst xs) /\ A = a :: B /\ ROs os xs B
 | .dct ks os,v,A=>∃ a kvs B,v = .ref a /\ H a = some (.dT kvs) /\ kvs.map (·.1) = ks /\ A = a :: B /\ ROs os (kvs.map (·.2)) B
 | .tup os,v,A=>∃ a xs,v = .ref a /\ H a = some (.tup xs) /\ ROs os xs A
 | .dck ks os,v,A=>∃ a kvs B,v = .ref a /\ H a = some (.dK kvs) /\ kvs.map (·.1) = ks /\ A = a :: B /\ ROs os (kvs.map (·.2)) B
def ROs:List O -> List V -> List Addr -> Prop
 | [],xs,A=>xs = [] /\ A = []
 | o :: os,xs,A=>∃ x r B C,xs = x :: r /\ A = B ++ C /\ RO o x B /\ ROs os r C
end
end
section
variable {K:PySem.W.Frag} {pp:Option Addr} {M M':List Addr} {H H':Hp} [TB]
mutual
theorem RO.mv (m:Mv K pp M H M' H'):∀ (q:O) (v:V) (A:List Addr),(∀ a ∈ A,∀ o,H a = some o -> NT o -> H' a = some o) -> RO K pp M H q v A -> RO K pp M' H' q v A
 | .val d,v,A,_,h=>by
  simp only [RO] at h ⊢
  exact ⟨h.1,Rep.mv m d v h.2⟩
 | .lst os,v,A,k,h=>by
  simp only [RO] at h ⊢
  obtain ⟨a,xs,B,e,ha,rfl,r⟩:=h
  exact ⟨a,xs,B,e,k a List.mem_cons_self _ ha (by intro _ z; cases z),rfl,ROs.mv m os xs B (fun b hb=>k b (List.mem_cons_of_mem _ hb)) r⟩
 | .dct ks os,v,A,k,h=>by
  simp only [RO] at h ⊢
  obtain ⟨a,kvs,B,e,ha,e2,rfl,r⟩:=h
  exact ⟨a,kvs,B,e,k a List.mem_cons_self _ ha (by intro _ z; cases z),e2,rfl,ROs.mv m os _ B (fun b hb=>k b (List.mem_cons_of_mem _ hb)) r⟩
 | .tup os,v,A,k,h=>by
  simp only [RO] at h ⊢
  obtain ⟨a,xs,e,ha,r⟩:=h
  exact ⟨a,xs,e,m.tup a xs ha,ROs.mv m os xs A k r⟩
 | .dck ks os,v,A,k,h=>by
  simp only [RO] at h ⊢
  obtain ⟨a,kvs,B,e,ha,e2,rfl,r⟩:=h
  exact ⟨a,kvs,B,e,k a List.mem_cons_self _ ha (by intro _ z; cases z),e2,rfl,ROs.mv m os _ B (fun b hb=>k b (List.mem_cons_of_mem _ hb)) r⟩
theorem ROs.mv (m:Mv K pp M H M' H'):∀ (os:List O) (xs:List V) (A:List Addr),(∀ a ∈ A,∀ o,H a = some o -> NT o -> H' a = some o) -> ROs K pp M H os xs A -> ROs K pp M' H' os xs A
 | [],xs,A,_,h=>by simp only [ROs] at h ⊢; exact h
 | o :: os,xs,A,k,h=>by
  simp only [ROs] at h ⊢
  obtain ⟨x,r,B,C,e,rfl,h1,h2⟩:=h
  exact ⟨x,r,B,C,e,rfl,RO.mv m o x B (fun b hb=>k b (List.mem_append.mpr (.inl hb))) h1,ROs.mv m os r C (fun b hb=>k b (List.mem_append.mpr (.inr hb))) h2⟩
end
mutual
def fzO:O -> D
 | .val d=>d
 | .lst os=>.lst (fzOs os)
 | .dct ks os=>.dT ks (fzOs os)
 | .tup os=>.tup (fzOs os)
 | .dck ks os=>.dK ks (fzOs os)
def fzOs:List O -> List D
 | []=>[]
 | o :: os=>fzO o :: fzOs os
end
mutual
theorem RO.fz (m:Mv K pp M H M' H):∀ (q:O) (v:V) (A:List Addr),(∀ a ∈ A,a ∉ M' /\ pp ≠ some a) -> RO K pp M H q v A -> Rep K pp M' H (fzO q) v
 | .val d,v,A,_,h=>by
  simp only [RO] at h
  simp only [fzO]
  exact Rep.mv m d v h.2
 | .lst os,v,A,k,h=>by
  simp only [RO] at h
  simp only [fzO,Rep]
  obtain ⟨a,xs,B,e,ha,rfl,r⟩:=h
  exact ⟨a,xs,e,(k a List.mem_cons_self).1,(k a List.mem_cons_self).2,ha,ROs.fz m os xs B (fun b hb=>k b (List.mem_cons_of_mem _ hb)) r⟩
 | .dct ks os,v,A,k,h=>by
  simp only [RO] at h
  simp only [fzO,Rep]
  obtain ⟨a,kvs,B,e,ha,e2,rfl,r⟩:=h
  exact ⟨a,kvs,e,(k a List.mem_cons_self).1,(k a List.mem_cons_self).2,ha,e2,ROs.fz m os _ B (fun b hb=>k b (List.mem_cons_of_mem _ hb)) r⟩
 | .tup os,v,A,k,h=>by
  simp only [RO] at h
  simp only [fzO,Rep]
  obtain ⟨a,xs,e,ha,r⟩:=h
  exact ⟨a,xs,e,ha,ROs.fz m os xs A k r⟩
 | .dck ks os,v,A,k,h=>by
  simp only [RO] at h
  simp only [fzO,Rep]
  obtain ⟨a,kvs,B,e,ha,e2,rfl,r⟩:=h
  exact ⟨a,kvs,e,(k a List.mem_cons_self).1,(k a List.mem_cons_self).2,ha,e2,ROs.fz m os _ B (fun b hb=>k b (List.mem_cons_of_mem _ hb)) r⟩
theorem ROs.fz (m:Mv K pp M H M' H):∀ (os:List O) (xs:List V) (A:List Addr),(∀ a ∈ A,a ∉ M' /\ pp ≠ some a) -> ROs K pp M H os xs A -> Reps K pp M' H (fzOs os) xs
 | [],xs,A,_,h=>by simp only [ROs] at h; simp only [fzOs,Reps]; exact h.1
 | o :: os,xs,A,k,h=>by
  simp only [ROs] at h
  simp only [fzOs,Reps]
  obtain ⟨x,r,B,C,e,rfl,h1,h2⟩:=h
  exact ⟨x,r,e,RO.fz m o x B (fun b hb=>k b (List.mem_append.mpr (.inl hb))) h1,ROs.fz m os r C (fun b hb=>k b (List.mem_append.mpr (.inr hb))) h2⟩
end
end
structure Fx where
 pp:Option Addr
 M0:List Addr
 H0:Hp
abbrev DS:=List Sl
variable [TB]
class Frm where
 L:PySem.W.Frag -> Fx -> List Addr -> Hp -> Prop
 W:DS -> Addr -> Prop
 cl:∀ K (F:Fx) M H M' H',L K F M H -> Mv K F.pp M H M' H' -> L K F M' H'
instance (priority:=low) Frm.free:Frm:=⟨fun _ _ _ _=>True,fun _ _=>False,fun _ _ _ _ _ _ h _=>h⟩
variable [Frm]
structure Lv0 (pp:Option Addr) (M:List Addr) (H:Hp):Prop where
 m:∀ a ∈ M,H a ≠ none
 p:∀ p,pp = some p -> H p ≠ none
structure Lv (pp:Option Addr) (M:List Addr) (H:Hp):Prop extends Lv0 pp M H where
 t:Tabs H
theorem Lv0.sameQ {K:PySem.W.Frag} {pp:Option Addr} {M:List Addr} {H H':Hp} (l:Lv0 pp M H) (s:SameQ K pp H H'):Lv0 pp M H' :=
 ⟨fun a ha=>s.live a (l.m a ha),fun p e=>s.live p (l.p p e)⟩
theorem Lv.sameP {K:PySem.W.Frag} {pp:Option Addr} {M:List Addr} {H H':Hp} (l:Lv pp M H) (s:SameP K pp H H'):Lv pp M H':=⟨l.toLv0.sameQ s.toSameQ,s.tb l.t⟩
theorem Lv0.fresh {pp:Option Addr} {M:List Addr} {H:Hp} {a:Addr} (l:Lv0 pp M H) (h:H a = none):a ∉ M /\ pp ≠ some a:=⟨fun z=>l.m a z h,fun z=>l.p a z h⟩
structure Lk (K:PySem.W.Frag) (F:Fx) (M:List Addr) (H:Hp):Prop where
 l:Frm.L K F M H
 t:Tabs H
theorem Lk.cl {K:PySem.W.Frag} {F:Fx} {M M':List Addr} {H H':Hp} (h:Lk K F M H) (m:Mv K F.pp M H M' H'):Lk K F M' H':=⟨Frm.cl _ _ _ _ _ _ h.l m,m.tb h.t⟩
section
variable (K:PySem.W.Frag) (F:Fx) (M:List Addr) (H:Hp)
def RSl:Sl -> Option V -> Prop
 | .nil,_=>True
 | .val d,o=>∃ v,o = some v /\ Rep K F.pp M H d v
 | .own ds,o=>∃ l xs,o = some (.ref l) /\ l ∈ M /\ F.H0 l = none /\ F.pp ≠ some l /\ H l = some (.lst xs) /\ Reps K F.pp M H ds xs
 | .obj _,o=>∃ v,o = some v
 | .pin w d,o=>∃ v,o = some v /\ v = w /\ Rep K F.pp M H d v
def Ow:Sl -> Option V -> List Addr -> Prop
 | .own _,o,A=>∃ l,o = some (.ref l) /\ A = [l]
 | .obj q,o,A=>A.Nodup /\ ∃ v,o = some v /\ RO K F.pp M H q v A
 | _,_,_=>True
def OwF (σ:St) (ρ:DS):Prop:=∃ As:Nat -> List Addr,(∀ (i:Nat) s o,ρ[i]? = some s -> σ[i]? = some o -> Ow K F M H s o (As i)) /\ (∀ i,∀ a ∈ As i,a ∈ M /\ F.H0 a = none /\ F.pp ≠ some a) /\ ∀ i j,i ≠ j -> ∀ a ∈ As i,a ∉ As j
structure RSt (σ:St) (ρ:DS):Prop where
 len:σ.length = ρ.length
 sl:∀ (i:Nat) s o,ρ[i]? = some s -> σ[i]? = some o -> RSl K F M H s o
 ow:OwF K F M H σ ρ
 sub:∀ a ∈ F.M0,a ∈ M
 same:SameQ K F.pp F.H0 H
 old:∀ a ∈ F.M0,F.H0 a ≠ none
 liv0:Lv0 F.pp M H
 lk:Lk K F M H
end
section
variable {K:PySem.W.Frag} {F:Fx} {M M':List Addr} {H H':Hp} {σ:St} {ρ:DS}
theorem RSt.liv (r:RSt K F M H σ ρ):Lv F.pp M H:=⟨r.liv0,r.lk.t⟩
theorem RSt.sameT (r:RSt K F M H σ ρ):SameP K F.pp F.H0 H:=⟨r.same,fun _=>r.lk.t⟩
omit [Frm] in
theorem Ow.mv {s:Sl} {o:Option V} {A:List Addr} (m:Mv K F.pp M H M' H') (k:∀ a ∈ A,∀ x,H a = some x -> NT x -> H' a = some x) (h:Ow K F M H s o A):Ow K F M' H' s o A:=by
 cases s with
 | nil=>trivial
 | val d=>trivial
 | pin w d=>trivial
 | own ds=>exact h
 | obj q =>
  obtain ⟨nd,v,e,h⟩:=h
  exact ⟨nd,v,e,RO.mv m q v A k h⟩
omit [Frm] in
theorem OwF.keep (h:OwF K F M H σ ρ) (m:Mv K F.pp M H M' H') (k:∀ a,a ∈ M -> F.pp ≠ some a -> F.H0 a = none -> a ∈ M' /\ ∀ x,H a = some x -> NT x -> H' a = some x):OwF K F M' H' σ ρ:=by
 obtain ⟨As,h1,h2,h3⟩:=h
 refine ⟨As,fun i s o e1 e2=>(h1 i s o e1 e2).mv m fun a ha=>(k a (h2 i a ha).1 (h2 i a ha).2.2 (h2 i a ha).2.1).2,fun i a ha=>⟨(k a (h2 i a ha).1 (h2 i a ha).2.2 (h2 i a ha).2.1).1,(h2 i a ha).2⟩,h3⟩
omit [Frm] in
theorem OwF.step {σ':St} {ρ':DS} (h:OwF K F M H σ ρ) (m:Mv K F.pp M H M' H') (i:Nat) (hσ:∀ j,j ≠ i -> σ'[j]? = σ[j]?) (hρ:∀ j,j ≠ i -> ρ'[j]? = ρ[j]?)
  (k:∀ A,(∀ s o,ρ[i]? = some s -> σ[i]? = some o -> Ow K F M H s o A) -> (∀ a ∈ A,a ∈ M /\ F.H0 a = none /\ F.pp ≠ some a) -> ∃ B,(∀ s o,ρ'[i]? = some s -> σ'[i]? = some o -> Ow K F M' H' s o B) /\
   (∀ b ∈ B,b ∈ M' /\ F.H0 b = none /\ F.pp ≠ some b /\ (b ∈ A ∨ b ∉ M)) /\ ∀ a,a ∈ M -> F.pp ≠ some a -> F.H0 a = none -> a ∉ A -> a ∈ M' /\ ∀ x,H a = some x -> NT x -> H' a = some x):OwF K F M' H' σ' ρ':=by
 obtain ⟨As,h1,h2,h3⟩:=h
 obtain ⟨B,k1,k2,k3⟩:=k (As i) (h1 i) (h2 i)
 have old:∀ j,j ≠ i -> ∀ a ∈ As j,a ∈ M' /\ ∀ x,H a = some x -> NT x -> H' a = some x:=fun j e a ha=>k3 a (h2 j a ha).1 (h2 j a ha).2.2 (h2 j a ha).2.1 (h3 j i e a ha)
 refine ⟨fun j=>if j = i then B else As j,fun j s o e1 e2=>?_,fun j a ha=>?_,fun j l e a ha hb=>?_⟩
 ·show Ow K F M' H' s o (if j = i then B else As j)
  by_cases e:j = i
  ·subst e
   rw [if_pos rfl]
   exact k1 s o e1 e2
  ·rw [if_neg e]
   rw [hρ j e] at e1
   rw [hσ j e] at e2
   exact (h1 j s o e1 e2).mv m fun a ha=>(old j e a ha).2
 ·replace ha:a ∈ (if j = i then B else As j):=ha
  by_cases e:j = i
  ·subst e
   rw [if_pos rfl] at ha
   exact ⟨(k2 a ha).1,(k2 a ha).2.1,(k2 a ha).2.2.1⟩
  ·rw [if_neg e] at ha
   exact ⟨(old j e a ha).1,(h2 j a ha).2⟩
 ·replace ha:a ∈ (if j = i then B else As j):=ha
  replace hb:a ∈ (if l = i then B else As l):=hb
  by_cases e1:j = i
  ·subst e1
   rw [if_pos rfl] at ha
   rw [if_neg (Ne.symm e)] at hb
   rcases (k2 a ha).2.2.2 with z | z
   ·exact h3 j l e a z hb
   ·exact z (h2 l a hb).1
  ·rw [if_neg e1] at ha
   by_cases e2:l = i
   ·subst e2
    rw [if_pos rfl] at hb
    rcases (k2 a hb).2.2.2 with z | z
    ·exact h3 j l e a ha z
    ·exact z (h2 j a ha).1
   ·rw [if_neg e2] at hb
    exact h3 j l e a ha hb
omit [Frm] in
theorem OwF.none (h:∀ (i:Nat) s,ρ[i]? = some s -> (∀ ds,s ≠ .own ds) /\ ∀ q,s ≠ .obj q):OwF K F M H σ ρ:=by
 refine ⟨fun _=>[],fun i s o e1 _=>?_,fun _ _ h=>(by simp at h),fun _ _ _ _ h=>(by simp at h)⟩
 cases s with
 | nil=>trivial
 | val d=>trivial
 | pin w d=>trivial
 | own ds=>exact absurd rfl ((h i _ e1).1 ds)
 | obj q=>exact absurd rfl ((h i _ e1).2 q)
theorem RSt.own (r:RSt K F M H σ ρ) (i j:Nat) (ds es:List D) (a:Addr) (h1:ρ[i]? = some (.own ds)) (h2:ρ[j]? = some (.own es)) (h3:σ[i]? = some (some (.ref a))) (h4:σ[j]? = some (some (.ref a))):i = j:=by
 obtain ⟨As,k1,k2,k3⟩:=r.ow
 obtain ⟨l,e,e2⟩:=k1 i _ _ h1 h3
 cases e
 obtain ⟨l,e,e3⟩:=k1 j _ _ h2 h4
 cases e
 by_cases z:i = j
 ·exact z
 ·exact absurd (by rw [e3]; simp) (k3 i j z a (by rw [e2]; simp))
omit [Frm] in
theorem SameP.ow (s:SameP K F.pp H H') (a:Addr) (_:a ∈ M) (p:F.pp ≠ some a) (_:F.H0 a = none):a ∈ M /\ ∀ x,H a = some x -> NT x -> H' a = some x:=⟨‹_›,fun x e n=>s.keep a x e (nw p n)⟩
theorem RSt.sameP (r:RSt K F M H σ ρ) (s:SameP K F.pp H H'):RSt K F M H' σ ρ:=by
 refine ⟨r.len,fun i q o h1 h2=>?_,r.ow.keep s.mv fun a h1 h2 h3=>s.ow a h1 h2 h3,r.sub,r.same.trans s.toSameQ,r.old,r.liv0.sameQ s.toSameQ,r.lk.cl s.mv⟩
 have:=r.sl i q o h1 h2
 cases q with
 | nil=>trivial
 | val d=>obtain ⟨v,e,h⟩:=this; exact ⟨v,e,h.mv s.mv⟩
 | pin w d=>obtain ⟨v,e,ew,h⟩:=this; exact ⟨v,e,ew,h.mv s.mv⟩
 | own ds =>
  obtain ⟨l,xs,e,hm,h0,hp,hl,hr⟩:=this
  exact ⟨l,xs,e,hm,h0,hp,s.keep l _ hl (nw hp),hr.mv s.mv⟩
 | obj q=>exact this
theorem RSt.at (r:RSt K F M H σ ρ) {i:Nat} {s:Sl} (h:ρ[i]? = some s):∃ o,σ[i]? = some o /\ RSl K F M H s o:=by
 have hi:i < σ.length:=by rw [r.len]; exact (List.getElem?_eq_some_iff.mp h).1
 exact ⟨σ[i],by simp [hi],r.sl i s _ h (by simp [hi])⟩
omit [Frm] in
theorem OwF.drop {σ':St} {ρ':DS} (h:OwF K F M H σ ρ) (i:Nat) (hσ:∀ j,j ≠ i -> σ'[j]? = σ[j]?) (hρ:∀ j,j ≠ i -> ρ'[j]? = ρ[j]?) (hn:∀ s,ρ'[i]? = some s -> (∀ ds,s ≠ .own ds) /\ ∀ q,s ≠ .obj q):OwF K F M H σ' ρ' :=
 h.step .refl i hσ hρ fun A _ _=>⟨[],fun s o e _=>(by
  cases s with
  | nil=>trivial
  | val d=>trivial
  | pin w d=>trivial
  | own ds=>exact absurd rfl ((hn _ e).1 ds)
  | obj q=>exact absurd rfl ((hn _ e).2 q)),fun _ h=>(by simp at h),fun a ha _ _ _=>⟨ha,fun _ e _=>e⟩⟩
omit [Frm] in
theorem set_self {α:Type} {l:List α} {i:Nat} {x y:α} (h:(l.set i x)[i]? = some y):y = x:=by
 have hi:i < l.length:=by have:=(List.getElem?_eq_some_iff.mp h).1; simpa using this
 simp [hi] at h
 exact h.symm
theorem RSt.set (r:RSt K F M H σ ρ) {d:D} {v:V} (h:Rep K F.pp M H d v) (i:Nat):RSt K F M H (σ.set i (some v)) (ρ.set i (.val d)):=by
 refine ⟨by simp [r.len],fun j s o h1 h2=>?_,r.ow.drop i (fun j e=>List.getElem?_set_ne (Ne.symm e)) (fun j e=>List.getElem?_set_ne (Ne.symm e)) (fun s e=>?_),r.sub,r.same,r.old,r.liv0,r.lk⟩
 ·by_cases e:i = j
  ·subst e
   rw [set_self h1,set_self h2]
   exact ⟨v,rfl,h⟩
  ·rw [List.getElem?_set_ne e] at h1 h2
   exact r.sl j s o h1 h2
 ·rw [set_self e]
  exact ⟨fun ds z=>(by cases z),fun q z=>(by cases z)⟩
end
end DL
namespace DL
open PySem PySem.Spec L2
open PyProof.Rows hiding St
variable [TB]
variable [Frm]
abbrev DE:=DS -> (D -> DS -> Prop) -> Prop
abbrev DT:=DS -> (Bool -> DS -> Prop) -> Prop
abbrev DA:=DS -> (List D -> DS -> Prop) -> Prop
structure DEnds where
 nx:DS -> Prop
 rt:D -> Prop
 bk:DS -> Prop:=fun _=>False
 ct:DS -> Prop:=fun _=>False
abbrev DTS:=DEnds -> DS -> Prop
def slot:DS -> Nat -> Sl
 | [],_=>.nil
 | s :: _,0=>s
 | _ :: r,n + 1=>slot r n
theorem slot_get:∀ {ρ:DS} {i:Nat} {s:Sl},slot ρ i = s -> s ≠ .nil -> ρ[i]? = some s
 | [],_,_,h,n=>absurd h.symm n
 | _ :: _,0,_,h,_=>by subst h; rfl
 | _ :: r,i + 1,s,h,n=>by simpa using slot_get (ρ:=r) (i:=i) h n
section
variable {X:Cx} {F:Fx}
structure PED (X:Cx) (e:Expr) (t:DE):Prop where
 mono:∀ ρ P P',(∀ d ρ',P d ρ' -> P' d ρ') -> t ρ P -> t ρ P'
 run:∃ T:TE,PE X e T /\ ∀ {F:Fx} M H σ ρ (Q:VK),RSt X.K F M H σ ρ ->
  (t ρ fun d ρ'=>∀ M' H' v,Mv X.K F.pp M H M' H' -> RSt X.K F M' H' σ ρ' -> Rep X.K F.pp M' H' d v -> Q v H') -> T σ H Q
structure PTD (X:Cx) (e:Expr) (t:DT):Prop where
 mono:∀ ρ P P',(∀ b ρ',P b ρ' -> P' b ρ') -> t ρ P -> t ρ P'
 run:∃ T:TT,PT X e T /\ ∀ {F:Fx} M H σ ρ (Q:Bool -> Hp -> Prop),RSt X.K F M H σ ρ ->
  (t ρ fun b ρ'=>∀ M' H',Mv X.K F.pp M H M' H' -> RSt X.K F M' H' σ ρ' -> Q b H') -> T σ H Q
structure PWD (X:Cx) (e:Expr) (t:DT):Prop where
 mono:∀ ρ P P',(∀ b ρ',P b ρ' -> P' b ρ') -> t ρ P -> t ρ P'
 run:∃ T:TT,PW X e T /\ ∀ {F:Fx} M H σ ρ (Q:Bool -> Hp -> Prop),RSt X.K F M H σ ρ ->
  (t ρ fun b ρ'=>∀ M' H',Mv X.K F.pp M H M' H' -> RSt X.K F M' H' σ ρ' -> Q b H') -> T σ H Q
structure PAD (X:Cx) (es:List Expr) (t:DA):Prop where
 mono:∀ ρ P P',(∀ d ρ',P d ρ' -> P' d ρ') -> t ρ P -> t ρ P'
 run:∃ T:TA,PA X es T /\ ∀ {F:Fx} M H σ ρ (Q:List V -> Hp -> Prop),RSt X.K F M H σ ρ ->
  (t ρ fun ds ρ'=>∀ M' H' vs,Mv X.K F.pp M H M' H' -> RSt X.K F M' H' σ ρ' -> Reps X.K F.pp M' H' ds vs -> Q vs H') -> T σ H Q
abbrev dC (d:D):DE:=fun ρ Q=>Q d ρ
theorem PED.con {e:Expr} {d:D} {v:V} (h:PE X e (tC v)) (r:∀ pp M H,Rep X.K pp M H d v):PED X e (dC d) :=
 ⟨fun _ _ _ f h=>f _ _ h,_,h,fun {F} M H _ _ _ rs q=>q M H v .refl rs (r _ M H)⟩
theorem de_int {i j pos}:PED X (.Constant (.int i) j pos) (dC (.int i)):=.con pe_int fun _ _ _=>by simp only [Rep]
theorem de_bl {i j pos}:PED X (.Constant (.bool i) j pos) (dC (.bl i)):=.con pe_bl fun _ _ _=>by simp only [Rep]
theorem de_non {j pos}:PED X (.Constant .none j pos) (dC .non):=.con pe_non fun _ _ _=>by simp only [Rep]
theorem de_str {i j pos}:PED X (.Constant (.str i) j pos) (dC (.str i)):=.con pe_str fun _ _ _=>by simp only [Rep]
theorem de_ty {x:Str} {n:String} {pos:Pos} (hg:Gl X x) (hm:X.mg x = none) (hv:bootBuiltins x = some (.type n)) (hn:x ≠ "__name__":=by decide) (hd:(x == ("__debug__" : Str)) = false:=by decide):PED X (.Name x pos) (dC (.ty n)) :=
 .con (pe_bltn (v:=.ty n) hg hm hv rfl hn hd) fun _ _ _=>by simp only [Rep]
def dVarS (i:Nat) (ρ:DS) (Q:D -> DS -> Prop):Sl -> Prop
 | .val d=>Q d ρ
 | .own ds=>Q (.lst ds) (ρ.set i (.val (.lst ds)))
 | .obj q=>Q (fzO q) (ρ.set i (.val (fzO q)))
 | .pin _ d=>Q d ρ
 | .nil=>False
abbrev dVar (i:Nat):DE:=fun ρ Q=>dVarS i ρ Q (slot ρ i)
theorem RSt.freeze {K:PySem.W.Frag} {M:List Addr} {H:Hp} {σ:St} {ρ:DS} {i:Nat} {ds:List D} (r:RSt K F M H σ ρ) (h:ρ[i]? = some (.own ds)) :
  ∃ M' v,σ[i]? = some (some v) /\ Mv K F.pp M H M' H /\ RSt K F M' H σ (ρ.set i (.val (.lst ds))) /\ Rep K F.pp M' H (.lst ds) v:=by
 obtain ⟨o,ho,l,xs,rfl,hm,h0,hp,hl,hr⟩:=r.at h
 have m:Mv K F.pp M H (M.filter fun a=>decide (a ≠ l)) H:=.less fun a ha=>(List.mem_filter.mp ha).1
 have rl:Rep K F.pp (M.filter fun a=>decide (a ≠ l)) H (.lst ds) (.ref l):=by
  simp only [Rep]
  exact ⟨l,xs,rfl,by simp,hp,hl,hr.mv m⟩
 refine ⟨_,_,ho,m,⟨by simp [r.len],fun j s o h1 h2=>?_,r.ow.step m i (fun _ _=>rfl) (fun j e=>List.getElem?_set_ne (Ne.symm e)) (fun A hA _=>⟨[],fun s o e _=>?_,fun _ h=>(by simp at h),fun a ha _ _ hn=>⟨?_,fun _ e _=>e⟩⟩),fun a ha=>?_,r.same,r.old,?_,r.lk.cl m⟩,rl⟩
 ·by_cases e:i = j
  ·subst e
   rw [ho] at h2
   rw [set_self h1]
   cases h2
   exact ⟨_,rfl,rl⟩
  ·rw [List.getElem?_set_ne e] at h1
   have q:=r.sl j s o h1 h2
   cases s with
   | nil=>trivial
   | val d=>obtain ⟨v,e,q⟩:=q; exact ⟨v,e,q.mv m⟩
   | pin w d=>obtain ⟨v,e,ew,q⟩:=q; exact ⟨v,e,ew,q.mv m⟩
   | own es =>
    obtain ⟨l',ys,rfl,hm',h0',hp',hl',hr'⟩:=q
    refine ⟨l',ys,rfl,List.mem_filter.mpr ⟨hm',?_⟩,h0',hp',hl',hr'.mv m⟩
    by_cases z:l' = l
    ·subst z
     exact absurd (r.own i j _ _ _ h h1 ho h2) e
    ·simpa using z
   | obj q=>exact ‹_›
 ·rw [set_self e]
  trivial
 ·obtain ⟨l2,e2,e3⟩:=hA _ _ h ho
  cases e2
  refine List.mem_filter.mpr ⟨ha,?_⟩
  by_cases z:a = l
  ·subst z
   exact absurd (by rw [e3]; simp) hn
  ·simpa using z
 ·refine List.mem_filter.mpr ⟨r.sub a ha,?_⟩
  by_cases z:a = l
  ·subst z
   exact absurd h0 (r.old a ha)
  ·simpa using z
 ·exact ⟨fun a ha=>r.liv.m a (List.mem_filter.mp ha).1,r.liv.p⟩
theorem RSt.freezeO {K:PySem.W.Frag} {M:List Addr} {H:Hp} {σ:St} {ρ:DS} {i:Nat} {q:O} (r:RSt K F M H σ ρ) (h:ρ[i]? = some (.obj q)) :
  ∃ M' v,σ[i]? = some (some v) /\ Mv K F.pp M H M' H /\ RSt K F M' H σ (ρ.set i (.val (fzO q))) /\ Rep K F.pp M' H (fzO q) v:=by
 obtain ⟨As,k1,k2,k3⟩:=r.ow
 obtain ⟨o,ho,_⟩:=r.at h
 obtain ⟨nd,v,rfl,hq⟩:=k1 i _ _ h ho
 have m:Mv K F.pp M H (M.filter fun a=>decide (a ∉ As i)) H:=.less fun a ha=>(List.mem_filter.mp ha).1
 have rl:Rep K F.pp (M.filter fun a=>decide (a ∉ As i)) H (fzO q) v:=RO.fz m q v (As i) (fun a ha=>⟨fun z=>absurd ha (by simpa using (List.mem_filter.mp z).2),(k2 i a ha).2.2⟩) hq
 refine ⟨_,_,ho,m,⟨by simp [r.len],fun j s o h1 h2=>?_,⟨fun j=>if j = i then [] else As j,fun j s o e1 e2=>?_,fun j a ha=>?_,fun j l e a ha hb=>?_⟩,fun a ha=>?_,r.same,r.old,?_,r.lk.cl m⟩,rl⟩
 ·by_cases e:i = j
  ·subst e
   rw [ho] at h2
   rw [set_self h1]
   cases h2
   exact ⟨_,rfl,rl⟩
  ·rw [List.getElem?_set_ne e] at h1
   have q':=r.sl j s o h1 h2
   cases s with
   | nil=>trivial
   | val d=>obtain ⟨v,e,q⟩:=q'; exact ⟨v,e,q.mv m⟩
   | pin w d=>obtain ⟨v,e,ew,q⟩:=q'; exact ⟨v,e,ew,q.mv m⟩
   | own es =>
    obtain ⟨l',ys,rfl,hm',h0',hp',hl',hr'⟩:=q'
    refine ⟨l',ys,rfl,List.mem_filter.mpr ⟨hm',?_⟩,h0',hp',hl',hr'.mv m⟩
    obtain ⟨l2,e2,e3⟩:=k1 j _ _ h1 h2
    cases e2
    simpa using k3 j i (Ne.symm e) l' (by rw [e3]; simp)
   | obj q=>exact ‹_›
 ·show Ow K F _ H s o (if j = i then [] else As j)
  by_cases e:j = i
  ·subst e
   rw [set_self e1]
   trivial
  ·rw [if_neg e]
   rw [List.getElem?_set_ne (Ne.symm e)] at e1
   exact (k1 j s o e1 e2).mv m fun a _ x z _=>z
 ·replace ha:a ∈ (if j = i then [] else As j):=ha
  by_cases e:j = i
  ·rw [if_pos e] at ha; simp at ha
  ·rw [if_neg e] at ha
   exact ⟨List.mem_filter.mpr ⟨(k2 j a ha).1,by simpa using k3 j i e a ha⟩,(k2 j a ha).2⟩
 ·replace ha:a ∈ (if j = i then [] else As j):=ha
  replace hb:a ∈ (if l = i then [] else As l):=hb
  by_cases e1:j = i
  ·rw [if_pos e1] at ha; simp at ha
  ·by_cases e2:l = i
   ·rw [if_pos e2] at hb; simp at hb
   ·rw [if_neg e1] at ha
    rw [if_neg e2] at hb
    exact k3 j l e a ha hb
 ·refine List.mem_filter.mpr ⟨r.sub a ha,?_⟩
  have:a ∉ As i:=fun z=>r.old a ha (k2 i a z).2.1
  simpa using this
 ·exact ⟨fun a ha=>r.liv.m a (List.mem_filter.mp ha).1,r.liv.p⟩
theorem de_var (i:Nat) {e:Expr} (h:PE X e (tVar i)):PED X e (dVar i):=by
 refine ⟨fun ρ P P' f h=>?_,_,h,fun {F} M H σ ρ Q rs h=>?_⟩
 ·unfold dVar at h ⊢
  cases e:slot ρ i with
  | nil=>rw [e] at h; exact h
  | val d=>rw [e] at h; exact f _ _ h
  | own ds=>rw [e] at h; exact f _ _ h
  | obj q=>rw [e] at h; exact f _ _ h
  | pin w d=>rw [e] at h; exact f _ _ h
 ·unfold dVar at h
  cases e:slot ρ i with
  | nil=>rw [e] at h; exact h.elim
  | val d =>
   rw [e] at h
   obtain ⟨o,ho,v,rfl,r⟩:=rs.at (slot_get e (by intro z; cases z))
   exact ⟨v,ho,h M H v .refl rs r⟩
  | pin w d =>
   rw [e] at h
   obtain ⟨o,ho,v,rfl,_,r⟩:=rs.at (slot_get e (by intro z; cases z))
   exact ⟨v,ho,h M H v .refl rs r⟩
  | own ds =>
   rw [e] at h
   obtain ⟨M',v,ho,m,rs',r⟩:=rs.freeze (slot_get e (by intro z; cases z))
   exact ⟨v,ho,h M' H v m rs' r⟩
  | obj q =>
   rw [e] at h
   obtain ⟨M',v,ho,m,rs',r⟩:=rs.freezeO (slot_get e (by intro z; cases z))
   exact ⟨v,ho,h M' H v m rs' r⟩
structure OpD (X:Cx) (f:Value -> Value -> Sem Value) (g:D -> D -> (D -> Prop) -> Prop):Prop where
 mono:∀ x y P P',(∀ d,P d -> P' d) -> g x y P -> g x y P'
 run:∃ r:R2,OpR X f r /\ ∀ {pp:Option Addr} M H x y v u (Q:VK),Lv pp M H -> Rep X.K pp M H x v -> Rep X.K pp M H y u ->
  g x y (fun d=>∀ H' w,SameP X.K pp H H' -> Rep X.K pp M H' d w -> Q w H') -> r v u H Q
abbrev dOp (g:D -> D -> (D -> Prop) -> Prop) (ta tb:DE):DE:=fun ρ Q=>ta ρ fun x ρ1=>tb ρ1 fun y ρ2=>g x y fun d=>Q d ρ2
variable {a b c:Expr} {ta tb tc:DE} {pos:Pos} {g g':D -> D -> (D -> Prop) -> Prop}
theorem dOp_mono {g:D -> D -> (D -> Prop) -> Prop} (hg:∀ x y P P',(∀ d,P d -> P' d) -> g x y P -> g x y P') (ha:PED X a ta) (hb:PED X b tb):∀ ρ P P',(∀ d ρ',P d ρ' -> P' d ρ') -> dOp g ta tb ρ P -> dOp g ta tb ρ P' :=
 fun ρ _ _ f h=>ha.mono _ _ _ (fun _ _ h=>hb.mono _ _ _ (fun _ _ h=>hg _ _ _ _ (fun _ h=>f _ _ h) h) h) h
theorem dOp_run {g:D -> D -> (D -> Prop) -> Prop} {r:R2} {Ta Tb:TE} (hg:∀ M H x y v u (Q:VK),Lv F.pp M H -> Rep X.K F.pp M H x v -> Rep X.K F.pp M H y u ->
   g x y (fun d=>∀ H' w,SameP X.K F.pp H H' -> Rep X.K F.pp M H' d w -> Q w H') -> r v u H Q)
  (hgm:∀ x y P P',(∀ d,P d -> P' d) -> g x y P -> g x y P') (ha:PED X a ta) (hb:PED X b tb)
  (ra:∀ M H σ ρ (Q:VK),RSt X.K F M H σ ρ -> (ta ρ fun d ρ'=>∀ M' H' v,Mv X.K F.pp M H M' H' -> RSt X.K F M' H' σ ρ' -> Rep X.K F.pp M' H' d v -> Q v H') -> Ta σ H Q)
  (rb:∀ M H σ ρ (Q:VK),RSt X.K F M H σ ρ -> (tb ρ fun d ρ'=>∀ M' H' v,Mv X.K F.pp M H M' H' -> RSt X.K F M' H' σ ρ' -> Rep X.K F.pp M' H' d v -> Q v H') -> Tb σ H Q)
  {M:List Addr} {H:Hp} {σ:St} {ρ:DS} {Q:VK} (rs:RSt X.K F M H σ ρ)
  (h:dOp g ta tb ρ fun d ρ'=>∀ M' H' v,Mv X.K F.pp M H M' H' -> RSt X.K F M' H' σ ρ' -> Rep X.K F.pp M' H' d v -> Q v H'):tOp r Ta Tb σ H Q:=by
 refine ra M H σ ρ _ rs (ha.mono _ _ _ (fun x ρ1 h M1 H1 v m1 rs1 r1=>?_) h)
 refine rb M1 H1 σ ρ1 _ rs1 (hb.mono _ _ _ (fun y ρ2 h M2 H2 u m2 rs2 r2=>?_) h)
 refine hg M2 H2 x y v u _ rs2.liv (r1.mv m2) r2 (hgm _ _ _ _ (fun d h H' w s r=>?_) h)
 exact h M2 H' w ((m1.trans m2).trans s.mv) (rs2.sameP s) r
theorem de_op {op:Operator} (ho:OpD X (binaryOp op) g) (ha:PED X a ta) (hb:PED X b tb):PED X (.BinOp a op b pos) (dOp g ta tb):=by
 obtain ⟨r,hr,hg⟩:=ho.run
 obtain ⟨Ta,pa,ra⟩:=ha.run
 obtain ⟨Tb,pb,rb⟩:=hb.run
 exact ⟨dOp_mono ho.mono ha hb,_,pe_op hr pa pb,fun {F} M H σ ρ Q rs h=>dOp_run hg ho.mono ha hb ra rb rs h⟩
theorem de_cmp {op:CmpOp} (ho:OpD X (compareOp op) g) (ha:PED X a ta) (hb:PED X b tb) (hm:behindInMarks op b = false):PED X (.Compare a [op] [b] pos) (dOp g ta tb):=by
 obtain ⟨r,hr,hg⟩:=ho.run
 obtain ⟨Ta,pa,ra⟩:=ha.run
 obtain ⟨Tb,pb,rb⟩:=hb.run
 exact ⟨dOp_mono ho.mono ha hb,_,pe_cmpR hr pa pb hm,fun {F} M H σ ρ Q rs h=>dOp_run hg ho.mono ha hb ra rb rs h⟩
def blD:D -> (Bool -> Prop) -> Prop
 | .bl b,P=>P b
 | _,_=>False
theorem blD_mono {d:D} {P P':Bool -> Prop} (f:∀ b,P b -> P' b) (h:blD d P):blD d P':=by cases d <;> first | exact h | exact f _ h
abbrev dB (t:DE):DT:=fun ρ Q=>t ρ fun d ρ'=>blD d fun b=>Q b ρ'
theorem blD_rep {K:PySem.W.Frag} {pp:Option Addr} {M:List Addr} {H:Hp} {d:D} {v:V} {P:Bool -> Prop} (r:Rep K pp M H d v) (h:blD d P):∃ k,v = .bl k /\ P k:=by
 cases d <;> first | exact h.elim | (simp only [Rep] at r; exact ⟨_,r,h⟩)
theorem dB_mono (ha:PED X a ta):∀ ρ P P',(∀ b ρ',P b ρ' -> P' b ρ') -> dB ta ρ P -> dB ta ρ P':=fun _ _ _ f h=>ha.mono _ _ _ (fun _ _ h=>blD_mono (fun _ h=>f _ _ h) h) h
theorem dt_cmp {op:CmpOp} (ho:OpD X (compareOp op) g) (ha:PED X a ta) (hb:PED X b tb) (hm:behindInMarks op b = false):PTD X (.Compare a [op] [b] pos) (dB (dOp g ta tb)):=by
 obtain ⟨r,hr,hg⟩:=ho.run
 obtain ⟨Ta,pa,ra⟩:=ha.run
 obtain ⟨Tb,pb,rb⟩:=hb.run
 refine ⟨dB_mono (X:=X) (a:=.Compare a [op] [b] pos) (de_cmp ho ha hb hm),_,pt_cmpR hr pa pb hm,fun {F} M H σ ρ Q rs h=>?_⟩
 refine dOp_run hg ho.mono ha hb ra rb rs (dOp_mono ho.mono ha hb _ _ _ (fun d ρ' h M' H' v m rs' r=>?_) h)
 obtain ⟨k,e,h⟩:=blD_rep r h
 exact ⟨k,e,h M' H' m rs'⟩
theorem dt_val {e:Expr} {t:DE} (h:PED X e t) (he:∀ whole,isTrue e X.env whole = (do let v ← whole; standAt e.pos; holding [v] (truthy v)):=by intro _; rfl):PTD X e (dB t):=by
 obtain ⟨T,p,r⟩:=h.run
 refine ⟨dB_mono h,_,pt_val p he,fun {F} M H σ ρ Q rs q=>?_⟩
 refine r M H σ ρ _ rs (h.mono _ _ _ (fun d ρ' h M' H' v m rs' r=>?_) q)
 obtain ⟨k,e,h⟩:=blD_rep r h
 exact ⟨k,e,h M' H' m rs'⟩
structure Br (b:Bool) (A B:Prop):Prop where
 yes:b = true -> A
 no:b = false -> B
theorem Br.t {A B:Prop} (h:A):Br true A B:=⟨fun _=>h,fun e=>nomatch e⟩
theorem Br.f {A B:Prop} (h:B):Br false A B:=⟨(fun e=>nomatch e),fun _=>h⟩
abbrev dNot (t:DT):DT:=fun ρ Q=>t ρ fun b ρ'=>Q (!b) ρ'
abbrev dAnd (t u:DT):DT:=fun ρ Q=>t ρ fun b ρ'=>Br b (u ρ' Q) (Q false ρ')
abbrev dOr (t u:DT):DT:=fun ρ Q=>t ρ fun b ρ'=>Br b (Q true ρ') (u ρ' Q)
variable {tA tB:DT} {rest:List Expr}
theorem dt_not (h:PTD X a tA):PTD X (.UnaryOp .Not a pos) (dNot tA):=by
 obtain ⟨T,p,r⟩:=h.run
 exact ⟨fun _ _ _ f q=>h.mono _ _ _ (fun _ _ q=>f _ _ q) q,_,pt_not p,fun {F} M H σ ρ Q rs q=>r M H σ ρ _ rs q⟩
theorem PWD.pt {e:Expr} {t:DT} (h:PWD X e t):PTD X e t:=by
 obtain ⟨T,p,r⟩:=h.run
 exact ⟨h.mono,T,p.pt,r⟩
theorem dw_and1 (h:PTD X a tA):PWD X (.BoolOp .And [a] pos) tA:=by
 obtain ⟨T,p,r⟩:=h.run
 exact ⟨h.mono,T,pw_and1 p,r⟩
theorem dw_or1 (h:PTD X a tA):PWD X (.BoolOp .Or [a] pos) tA:=by
 obtain ⟨T,p,r⟩:=h.run
 exact ⟨h.mono,T,pw_or1 p,r⟩
theorem dw_and (ha:PTD X a tA) (hb:PWD X (.BoolOp .And (b :: rest) pos) tB):PWD X (.BoolOp .And (a :: b :: rest) pos) (dAnd tA tB):=by
 obtain ⟨T,p,r⟩:=ha.run
 obtain ⟨U,q,s⟩:=hb.run
 refine ⟨fun _ _ _ f h=>ha.mono _ _ _ (fun _ _ h=>⟨fun e=>hb.mono _ _ _ f (h.yes e),fun e=>f _ _ (h.no e)⟩) h,_,pw_and p q,fun {F} M H σ ρ Q rs h=>?_⟩
 refine r M H σ ρ _ rs (ha.mono _ _ _ (fun c ρ1 h M1 H1 m1 rs1=>?_) h)
 cases c with
 | true=>exact iteT (s M1 H1 σ ρ1 _ rs1 (hb.mono _ _ _ (fun c ρ2 h M2 H2 m2 rs2=>h M2 H2 (m1.trans m2) rs2) (h.yes rfl)))
 | false=>exact iteF (h.no rfl M1 H1 m1 rs1)
theorem dw_or (ha:PTD X a tA) (hb:PWD X (.BoolOp .Or (b :: rest) pos) tB):PWD X (.BoolOp .Or (a :: b :: rest) pos) (dOr tA tB):=by
 obtain ⟨T,p,r⟩:=ha.run
 obtain ⟨U,q,s⟩:=hb.run
 refine ⟨fun _ _ _ f h=>ha.mono _ _ _ (fun _ _ h=>⟨fun e=>f _ _ (h.yes e),fun e=>hb.mono _ _ _ f (h.no e)⟩) h,_,pw_or p q,fun {F} M H σ ρ Q rs h=>?_⟩
 refine r M H σ ρ _ rs (ha.mono _ _ _ (fun c ρ1 h M1 H1 m1 rs1=>?_) h)
 cases c with
 | true=>exact iteT (h.yes rfl M1 H1 m1 rs1)
 | false=>exact iteF (s M1 H1 σ ρ1 _ rs1 (hb.mono _ _ _ (fun c ρ2 h M2 H2 m2 rs2=>h M2 H2 (m1.trans m2) rs2) (h.no rfl)))
abbrev dNotV (t:DE):DE:=fun ρ Q=>t ρ fun d ρ'=>blD d fun b=>Q (.bl (!b)) ρ'
abbrev dAndV (t u:DE):DE:=fun ρ Q=>t ρ fun d ρ'=>blD d fun b=>Br b (u ρ' Q) (Q (.bl false) ρ')
theorem rep_bl {K:PySem.W.Frag} {pp:Option Addr} {M:List Addr} {H:Hp} {b:Bool}:Rep K pp M H (.bl b) (.bl b):=by simp only [Rep]
theorem rep_int {K:PySem.W.Frag} {pp:Option Addr} {M:List Addr} {H:Hp} {b:Int}:Rep K pp M H (.int b) (.int b):=by simp only [Rep]
theorem de_one {op} {t:DE} (h:PED X a t):PED X (.BoolOp op [a] pos) t:=by
 obtain ⟨T,p,r⟩:=h.run
 exact ⟨h.mono,T,pe_one p,r⟩
theorem de_not (h:PED X a ta):PED X (.UnaryOp .Not a pos) (dNotV ta):=by
 obtain ⟨T,p,r⟩:=h.run
 refine ⟨fun _ _ _ f q=>h.mono _ _ _ (fun _ _ q=>blD_mono (fun _ q=>f _ _ q) q) q,_,pe_not p,fun {F} M H σ ρ Q rs q=>r M H σ ρ _ rs (h.mono _ _ _ (fun d ρ' q M' H' v m rs' r=>?_) q)⟩
 obtain ⟨k,e,q⟩:=blD_rep r q
 exact ⟨k,e,q M' H' _ m rs' rep_bl⟩
theorem de_and (ha:PED X a ta) (hb:PED X (.BoolOp .And (b :: rest) pos) tb):PED X (.BoolOp .And (a :: b :: rest) pos) (dAndV ta tb):=by
 obtain ⟨T,p,r⟩:=ha.run
 obtain ⟨U,q,s⟩:=hb.run
 refine ⟨fun _ _ _ f h=>ha.mono _ _ _ (fun _ _ h=>blD_mono (fun _ h=>⟨fun e=>hb.mono _ _ _ f (h.yes e),fun e=>f _ _ (h.no e)⟩) h) h,_,pe_and p q,fun {F} M H σ ρ Q rs h=>?_⟩
 refine r M H σ ρ _ rs (ha.mono _ _ _ (fun d ρ1 h M1 H1 v m1 rs1 r1=>?_) h)
 obtain ⟨c,e,h⟩:=blD_rep r1 h
 refine ⟨c,e,?_⟩
 cases c with
 | true=>exact iteT (s M1 H1 σ ρ1 _ rs1 (hb.mono _ _ _ (fun c ρ2 h M2 H2 v m2 rs2=>h M2 H2 v (m1.trans m2) rs2) (h.yes rfl)))
 | false=>exact iteF (h.no rfl M1 H1 _ m1 rs1 rep_bl)
abbrev dIf (t:DT) (ta tb:DE):DE:=fun ρ Q=>t ρ fun b ρ'=>Br b (ta ρ' Q) (tb ρ' Q)
theorem de_ifExp {c:Expr} (hc:PTD X c tA) (ha:PED X a ta) (hb:PED X b tb):PED X (.IfExp c a b pos) (dIf tA ta tb):=by
 obtain ⟨T,p,r⟩:=hc.run
 obtain ⟨U,q,s⟩:=ha.run
 obtain ⟨U',q',s'⟩:=hb.run
 refine ⟨fun _ _ _ f h=>hc.mono _ _ _ (fun _ _ h=>⟨fun e=>ha.mono _ _ _ f (h.yes e),fun e=>hb.mono _ _ _ f (h.no e)⟩) h,_,pe_ifExp p q q',fun {F} M H σ ρ Q rs h=>?_⟩
 refine r M H σ ρ _ rs (hc.mono _ _ _ (fun c ρ1 h M1 H1 m1 rs1=>?_) h)
 cases c with
 | true=>exact iteT (s M1 H1 σ ρ1 _ rs1 (ha.mono _ _ _ (fun c ρ2 h M2 H2 v m2 rs2=>h M2 H2 v (m1.trans m2) rs2) (h.yes rfl)))
 | false=>exact iteF (s' M1 H1 σ ρ1 _ rs1 (hb.mono _ _ _ (fun c ρ2 h M2 H2 v m2 rs2=>h M2 H2 v (m1.trans m2) rs2) (h.no rfl)))
abbrev dChain (g g':D -> D -> (D -> Prop) -> Prop) (ta tb tc:DE):DE:=fun ρ Q=>ta ρ fun x ρ1=>tb ρ1 fun y ρ2=>g x y fun d=>blD d fun k=>Br k (tc ρ2 fun z ρ3=>g' y z fun d=>Q d ρ3) (Q (.bl false) ρ2)
theorem dChain_mono (ho:∀ x y P P',(∀ d,P d -> P' d) -> g x y P -> g x y P') (ho':∀ x y P P',(∀ d,P d -> P' d) -> g' x y P -> g' x y P') (ha:PED X a ta) (hb:PED X b tb) (hc:PED X c tc) :
  ∀ ρ P P',(∀ d ρ',P d ρ' -> P' d ρ') -> dChain g g' ta tb tc ρ P -> dChain g g' ta tb tc ρ P' :=
 fun _ _ _ f h=>ha.mono _ _ _ (fun _ _ h=>hb.mono _ _ _ (fun _ _ h=>ho _ _ _ _ (fun _ h=>blD_mono (fun _ h=>⟨fun e=>hc.mono _ _ _ (fun _ _ h=>ho' _ _ _ _ (fun _ h=>f _ _ h) h) (h.yes e),fun e=>f _ _ (h.no e)⟩) h) h) h) h
theorem dChain_run {op op':CmpOp} (ho:OpD X (compareOp op) g) (ho':OpD X (compareOp op') g') (ha:PED X a ta) (hb:PED X b tb) (hc:PED X c tc)  :
  ∃ (r r':R2) (Ta Tb Tc:TE),OpR X (compareOp op) r /\ OpR X (compareOp op') r' /\ PE X a Ta /\ PE X b Tb /\ PE X c Tc /\ ∀ {F:Fx} M H σ ρ (Q:VK),RSt X.K F M H σ ρ ->
  (dChain g g' ta tb tc ρ fun d ρ'=>∀ M' H' v,Mv X.K F.pp M H M' H' -> RSt X.K F M' H' σ ρ' -> Rep X.K F.pp M' H' d v -> Q v H') -> tChain r r' Ta Tb Tc σ H Q:=by
 obtain ⟨r,hr,hg⟩:=ho.run
 obtain ⟨r',hr',hg'⟩:=ho'.run
 obtain ⟨Ta,pa,ra⟩:=ha.run
 obtain ⟨Tb,pb,rb⟩:=hb.run
 obtain ⟨Tc,pc,rc⟩:=hc.run
 refine ⟨r,r',Ta,Tb,Tc,hr,hr',pa,pb,pc,fun {F} M H σ ρ Q rs h=>?_⟩
 refine ra M H σ ρ _ rs (ha.mono _ _ _ (fun x ρ1 h M1 H1 v m1 rs1 r1=>?_) h)
 refine rb M1 H1 σ ρ1 _ rs1 (hb.mono _ _ _ (fun y ρ2 h M2 H2 u m2 rs2 r2=>?_) h)
 refine hg M2 H2 x y v u _ rs2.liv (r1.mv m2) r2 (ho.mono _ _ _ _ (fun d h H' w s r=>?_) h)
 obtain ⟨k,e,h⟩:=blD_rep r h
 refine ⟨k,e,?_⟩
 have rs3:=rs2.sameP s
 have m3:Mv X.K F.pp M H M2 H':=(m1.trans m2).trans s.mv
 cases k with
 | false=>exact iteF (h.no rfl M2 H' _ m3 rs3 rep_bl)
 | true =>
  refine iteT (rc M2 H' σ ρ2 _ rs3 (hc.mono _ _ _ (fun z ρ3 h M4 H4 w' m4 rs4 r4=>?_) (h.yes rfl)))
  refine hg' M4 H4 y z u w' _ rs4.liv ((r2.mv s.mv).mv m4) r4 (ho'.mono _ _ _ _ (fun d h H5 w s r=>?_) h)
  exact h M4 H5 w ((m3.trans m4).trans s.mv) (rs4.sameP s) r
theorem de_chain {op op':CmpOp} (ho:OpD X (compareOp op) g) (ho':OpD X (compareOp op') g') (ha:PED X a ta) (hb:PED X b tb) (hc:PED X c tc)
  (hm:lastMarks [op,op'] [b,c] = false:=by with_unfolding_all rfl):PED X (.Compare a [op,op'] [b,c] pos) (dChain g g' ta tb tc):=by
 obtain ⟨r,r',Ta,Tb,Tc,hr,hr',pa,pb,pc,h⟩:=dChain_run ho ho' ha hb hc
 exact ⟨dChain_mono ho.mono ho'.mono ha hb hc,_,pe_chain hr hr' pa pb pc hm,h⟩
variable {tL:DA} {es:List Expr} {e:Expr}
abbrev daNil:DA:=fun ρ Q=>Q [] ρ
abbrev daCons (t:DE) (u:DA):DA:=fun ρ Q=>t ρ fun x ρ1=>u ρ1 fun xs ρ2=>Q (x :: xs) ρ2
theorem da_nil:PAD X [] daNil:=⟨fun _ _ _ f h=>f _ _ h,_,pa_nil,fun {F} M H _ _ _ rs h=>h M H [] .refl rs .nil⟩
theorem da_cons (ha:PED X e ta) (hr:PAD X es tL) (hs:starEach (e :: es) X.env = (false,eval e X.env) :: starEach es X.env:=by rfl):PAD X (e :: es) (daCons ta tL):=by
 obtain ⟨T,p,r⟩:=ha.run
 obtain ⟨U,q,s⟩:=hr.run
 refine ⟨fun _ _ _ f h=>ha.mono _ _ _ (fun _ _ h=>hr.mono _ _ _ (fun _ _ h=>f _ _ h) h) h,_,pa_cons p q hs,fun {F} M H σ ρ Q rs h=>?_⟩
 refine r M H σ ρ _ rs (ha.mono _ _ _ (fun x ρ1 h M1 H1 v m1 rs1 r1=>?_) h)
 exact s M1 H1 σ ρ1 _ rs1 (hr.mono _ _ _ (fun ds ρ2 h M2 H2 vs m2 rs2 r2=>h M2 H2 (v :: vs) (m1.trans m2) rs2 (.cons (r1.mv m2) r2)) h)
abbrev dTup (t:DA):DE:=fun ρ Q=>t ρ fun xs ρ1=>xs.length <= sizeLine /\ Q (.tup xs) ρ1
theorem de_tup {x1} (h:PAD X es tL):PED X (.Tuple es x1 pos) (dTup tL):=by
 obtain ⟨T,p,r⟩:=h.run
 refine ⟨fun _ _ _ f q=>h.mono _ _ _ (fun _ _ q=>⟨q.1,f _ _ q.2⟩) q,_,pe_tup p,fun {F} M H σ ρ Q rs q=>?_⟩
 refine r M H σ ρ _ rs (h.mono _ _ _ (fun ds ρ1 q M1 H1 vs m1 rs1 r1=>?_) q)
 refine ⟨by rw [← r1.length]; exact q.1,fun l hl=>?_⟩
 refine q.2 M1 _ _ (m1.trans (.new hl)) (rs1.sameP (.new hl)) ?_
 simp only [Rep]
 exact ⟨l,vs,rfl,upd_same,r1.mv (.new hl)⟩
structure PLD (X:Cx) (e:Expr) (t:DA):Prop where
 mono:∀ ρ P P',(∀ d ρ',P d ρ' -> P' d ρ') -> t ρ P -> t ρ P'
 run:∃ T:TE,PE X e T /\ ∀ {F:Fx} M H σ ρ (Q:VK),RSt X.K F M H σ ρ ->
  (t ρ fun ds ρ'=>∀ M' H1 H' l xs,Mv X.K F.pp M H M' H1 -> RSt X.K F M' H1 σ ρ' -> H1 l = none -> H' = upd H1 l (.lst xs) -> Reps X.K F.pp M' H1 ds xs -> Q (.ref l) H') -> T σ H Q
abbrev dLst (t:DA):DA:=fun ρ Q=>t ρ fun xs ρ1=>xs.length <= sizeLine /\ Q xs ρ1
theorem dl_lst (h:PAD X es tL):PLD X (.List es pos) (dLst tL):=by
 obtain ⟨T,p,r⟩:=h.run
 refine ⟨fun _ _ _ f q=>h.mono _ _ _ (fun _ _ q=>⟨q.1,f _ _ q.2⟩) q,_,pe_lst p,fun {F} M H σ ρ Q rs q=>?_⟩
 refine r M H σ ρ _ rs (h.mono _ _ _ (fun ds ρ1 q M1 H1 vs m1 rs1 r1=>?_) q)
 exact ⟨by rw [← r1.length]; exact q.1,fun l hl=>q.2 M1 H1 _ l vs m1 rs1 hl rfl r1⟩
abbrev dFrz (t:DA):DE:=fun ρ Q=>t ρ fun xs ρ1=>Q (.lst xs) ρ1
theorem de_frz (h:PLD X e tL):PED X e (dFrz tL):=by
 obtain ⟨T,p,r⟩:=h.run
 refine ⟨fun _ _ _ f q=>h.mono _ _ _ (fun _ _ q=>f _ _ q) q,T,p,fun {F} M H σ ρ Q rs q=>?_⟩
 refine r M H σ ρ _ rs (h.mono _ _ _ (fun ds ρ1 q M1 H1 H' l xs m1 rs1 hl e r1=>?_) q)
 subst e
 refine q M1 _ _ (m1.trans (.new hl)) (rs1.sameP (.new hl)) ?_
 simp only [Rep]
 exact ⟨l,xs,rfl,(rs1.liv.fresh hl).1,(rs1.liv.fresh hl).2,upd_same,r1.mv (.new hl)⟩
end
end DL
namespace DL
open PySem PySem.Spec L2
open PyProof.Rows hiding St
variable [TB]
variable [Frm]
abbrev DSp:=List D -> (D -> Prop) -> Prop
def spD (K:PySem.W.Frag) (n:Nat) (g:DSp):Sp:=fun vs H Q _=>∃ pp M ds,Lv pp M H /\ Reps K pp M H ds vs /\ ds.length = n /\ g ds (fun d=>∀ H' v,SameP K pp H H' -> Rep K pp M H' d v -> Q v H')
def MonoS (g:DSp):Prop:=∀ ds P P',(∀ d,P d -> P' d) -> g ds P -> g ds P'
structure CallD (X:Cx) (f:Value) (g:DSp):Prop where
 mono:MonoS g
 run:∃ r:List V -> Hp -> VK -> Prop,CallR X f r /\ ∀ {pp:Option Addr} M H ds vs (Q:VK),Lv pp M H -> Reps X.K pp M H ds vs -> g ds (fun d=>∀ H' w,SameP X.K pp H H' -> Rep X.K pp M H' d w -> Q w H') -> r vs H Q
abbrev dCB (g:DSp) (t:DA):DE:=fun ρ Q=>t ρ fun ds ρ1=>g ds fun d=>Q d ρ1
abbrev dCall (n:Nat) (g:DSp) (t:DA):DE:=fun ρ Q=>t ρ fun ds ρ1=>ds.length = n /\ g ds fun d=>Q d ρ1
section
variable {X:Cx} {F:Fx} {x:Str} {p pos:Pos} {e:Expr} {es:List Expr} {t:DA} {id T:String} {g:DSp}
theorem de_callB (hc:CallD X (.builtin id) g) (hg:Gl X x) (hm:X.mg x = none) (hv:bootBuiltins x = some (.builtin id)) (ha:PAD X (e :: es) t) (hn:x ≠ "__name__":=by decide) (hdb:(x == ("__debug__" : Str)) = false:=by decide)
  (he:starEach (e :: es) X.env = (false,eval e X.env) :: starEach es X.env:=by rfl) (hpl:(backTo pos (starEach es X.env)).any (·.1) = false:=by rfl):PED X (.Call (.Name x p) (e :: es) [] pos) (dCB g t):=by
 obtain ⟨r,hr,h⟩:=hc.run
 obtain ⟨T,pa,ra⟩:=ha.run
 refine ⟨fun _ _ _ f q=>ha.mono _ _ _ (fun _ _ q=>hc.mono _ _ _ (fun _ q=>f _ _ q) q) q,_,pe_callB hr hg hm hv pa hn hdb he hpl,fun {F} M H σ ρ Q rs q=>?_⟩
 refine ra M H σ ρ _ rs (ha.mono _ _ _ (fun ds ρ1 q M1 H1 vs m1 rs1 r1=>?_) q)
 exact h M1 H1 ds vs _ rs1.liv r1 (hc.mono _ _ _ (fun d q H' w s r=>q M1 H' w (m1.trans s.mv) (rs1.sameP s) r) q)
theorem de_callTy (hc:CallD X (.type T) g) (hg:Gl X x) (hm:X.mg x = none) (hv:bootBuiltins x = some (.type T)) (ha:PAD X (e :: es) t) (hn:x ≠ "__name__":=by decide) (hdb:(x == ("__debug__" : Str)) = false:=by decide)
  (he:starEach (e :: es) X.env = (false,eval e X.env) :: starEach es X.env:=by rfl) (hpl:(backTo pos (starEach es X.env)).any (·.1) = false:=by rfl):PED X (.Call (.Name x p) (e :: es) [] pos) (dCB g t):=by
 obtain ⟨r,hr,h⟩:=hc.run
 obtain ⟨T,pa,ra⟩:=ha.run
 refine ⟨fun _ _ _ f q=>ha.mono _ _ _ (fun _ _ q=>hc.mono _ _ _ (fun _ q=>f _ _ q) q) q,_,pe_callTy hr hg hm hv pa hn hdb he hpl,fun {F} M H σ ρ Q rs q=>?_⟩
 refine ra M H σ ρ _ rs (ha.mono _ _ _ (fun ds ρ1 q M1 H1 vs m1 rs1 r1=>?_) q)
 exact h M1 H1 ds vs _ rs1.liv r1 (hc.mono _ _ _ (fun d q H' w s r=>q M1 H' w (m1.trans s.mv) (rs1.sameP s) r) q)
theorem de_call {k n:Nat} {f:Addr} {fd:FuncData} {ps:List Str} (Fn:FnOk X.prog X.w X.K X.mg X.base CX0 k f fd ps (spD X.K n g)) (gm:MonoS g) (hr:Room k X.A) (hg:Gl X x) (hm:X.mg x = some (.ref f)) (hk:PySem.W.keepIn X.K (.ref f) = true) (hb:Binds X.K fd ps [])
  (ha:PAD X (e :: es) t) (hdb:(x == ("__debug__" : Str)) = false:=by decide) (he:starEach (e :: es) X.env = (false,eval e X.env) :: starEach es X.env:=by rfl) (hpl:(backTo pos (starEach es X.env)).any (·.1) = false:=by rfl) :
  PED X (.Call (.Name x p) (e :: es) [] pos) (dCall n g t):=by
 obtain ⟨T,pa,ra⟩:=ha.run
 refine ⟨fun _ _ _ f q=>ha.mono _ _ _ (fun _ _ q=>⟨q.1,gm _ _ _ (fun _ q=>f _ _ q) q.2⟩) q,_,pe_call Fn hr hg hm hk hb .nil pass0 pa hdb he hpl,fun {F} M H σ ρ Q rs q=>?_⟩
 refine ra M H σ ρ _ rs (ha.mono _ _ _ (fun ds ρ1 q M1 H1 vs m1 rs1 r1=>?_) q)
 rw [List.append_nil]
 exact ⟨F.pp,M1,ds,rs1.liv,r1,q.1,gm _ _ _ (fun d q H' w s r=>q M1 H' w (m1.trans s.mv) (rs1.sameP s) r) q.2⟩
end
structure EO (K:PySem.W.Frag) (F:Fx) (M:List Addr) (H:Hp) (E:DEnds) (D:Ends):Prop where
 nx:∀ M' H' σ' ρ',Mv K F.pp M H M' H' -> RSt K F M' H' σ' ρ' -> E.nx ρ' -> D.nx σ' H'
 bk:∀ M' H' σ' ρ',Mv K F.pp M H M' H' -> RSt K F M' H' σ' ρ' -> E.bk ρ' -> D.bk σ' H'
 ct:∀ M' H' σ' ρ',Mv K F.pp M H M' H' -> RSt K F M' H' σ' ρ' -> E.ct ρ' -> D.ct σ' H'
 rt:∀ M' H' σ' ρ' d v,Mv K F.pp M H M' H' -> RSt K F M' H' σ' ρ' -> Rep K F.pp M' H' d v -> E.rt d -> D.rt v H'
theorem EO.mv {K:PySem.W.Frag} {F:Fx} {M M1:List Addr} {H H1:Hp} {E:DEnds} {D:Ends} (o:EO K F M H E D) (m:Mv K F.pp M H M1 H1):EO K F M1 H1 E D :=
 ⟨fun _ _ _ _ m'=>o.nx _ _ _ _ (m.trans m'),fun _ _ _ _ m'=>o.bk _ _ _ _ (m.trans m'),fun _ _ _ _ m'=>o.ct _ _ _ _ (m.trans m'),fun _ _ _ _ _ _ m'=>o.rt _ _ _ _ _ _ (m.trans m')⟩
def PSD (X:Cx) (st:Stmt) (t:DTS):Prop:=∃ T:TS,PS X st T /\ ∀ {F:Fx} M H σ ρ (E:DEnds) (D:Ends),RSt X.K F M H σ ρ -> EO X.K F M H E D -> t E ρ -> T D σ H
def PSsD (X:Cx) (st:List Stmt) (t:DTS):Prop:=∃ T:TS,PSs X st T /\ ∀ {F:Fx} M H σ ρ (E:DEnds) (D:Ends),RSt X.K F M H σ ρ -> EO X.K F M H E D -> t E ρ -> T D σ H
section
variable {X:Cx} {F:Fx} {st:Stmt} {rest a b:List Stmt} {t u:DTS} {e c:Expr} {te:DE} {tc:DT} {tl:DA} {pos:Pos}
abbrev dNext:DTS:=fun E ρ=>E.nx ρ
abbrev dSeq (t u:DTS):DTS:=fun E ρ=>t { E with nx:=u E } ρ
abbrev dMid (t u:DTS):DTS:=fun E ρ=>∃ N:DS -> Prop,t { E with nx:=N } ρ /\ ∀ ρ',N ρ' -> u E ρ'
theorem dss_nil:PSsD X [] dNext:=⟨_,pss_nil,fun {F} M H σ ρ E D rs o h=>o.nx M H σ ρ .refl rs h⟩
theorem dss_one (h:PSD X st t):PSsD X [st] t:=by
 obtain ⟨T,p,r⟩:=h
 exact ⟨T,pss_one p,r⟩
theorem dss_cons (h1:PSD X st t) (h2:PSsD X rest u):PSsD X (st :: rest) (dSeq t u):=by
 obtain ⟨T,p,r⟩:=h1
 obtain ⟨U,q,s⟩:=h2
 refine ⟨_,pss_cons p q,fun {F} M H σ ρ E D rs o h=>r M H σ ρ { E with nx:=u E } { D with nx:=U D } rs ⟨fun M' H' σ' ρ' m rs' h=>?_,o.bk,o.ct,o.rt⟩ h⟩
 exact s M' H' σ' ρ' E D rs' (o.mv m) h
theorem dss_mid (h1:PSD X st t) (h2:PSsD X rest u):PSsD X (st :: rest) (dMid t u):=by
 obtain ⟨T,p,r⟩:=h1
 obtain ⟨U,q,s⟩:=h2
 refine ⟨_,pss_cons p q,fun {F} M H σ ρ E D rs o h=>?_⟩
 obtain ⟨N,h,hn⟩:=h
 refine r M H σ ρ { E with nx:=N } { D with nx:=U D } rs ⟨fun M' H' σ' ρ' m rs' h=>?_,o.bk,o.ct,o.rt⟩ h
 exact s M' H' σ' ρ' E D rs' (o.mv m) (hn _ h)
abbrev dNever:DTS:=fun _ _=>False
theorem ds_never:PSD X st dNever:=⟨_,ps_never,fun _ _ _ _ _ _ _ _ h=>h⟩
abbrev dRet (te:DE):DTS:=fun E ρ=>te ρ fun d _=>E.rt d
theorem ds_ret (h:PED X e te):PSD X (.Return (some e) pos) (dRet te):=by
 obtain ⟨T,p,r⟩:=h.run
 refine ⟨_,ps_ret p,fun {F} M H σ ρ E D rs o q=>r M H σ ρ _ rs (h.mono _ _ _ (fun d ρ' q M' H' v m rs' r'=>?_) q)⟩
 exact o.rt M' H' σ ρ' d v m rs' r' q
abbrev dDrop (te:DE):DTS:=fun E ρ=>te ρ fun _ ρ'=>E.nx ρ'
theorem ds_expr (h:PED X e te) (hs:swapsWith e none pos.line X.env = pure false:=by rfl):PSD X (.Expr e pos) (dDrop te):=by
 obtain ⟨T,p,r⟩:=h.run
 refine ⟨_,ps_expr p hs,fun {F} M H σ ρ E D rs o q=>r M H σ ρ _ rs (h.mono _ _ _ (fun d ρ' q M' H' v m rs' r'=>?_) q)⟩
 exact o.nx M' H' σ ρ' m rs' q
abbrev dIfS (c:DT) (t u:DTS):DTS:=fun E ρ=>c ρ fun b ρ'=>Br b (t E ρ') (u E ρ')
theorem ds_if (hc:PTD X c tc) (ha:PSsD X a t) (hb:PSsD X b u):PSD X (.If c a b pos) (dIfS tc t u):=by
 obtain ⟨T,p,r⟩:=hc.run
 obtain ⟨U,q,s⟩:=ha
 obtain ⟨U',q',s'⟩:=hb
 refine ⟨_,ps_if p q q',fun {F} M H σ ρ E D rs o h=>r M H σ ρ _ rs (hc.mono _ _ _ (fun k ρ1 h M1 H1 m1 rs1=>?_) h)⟩
 cases k with
 | true=>exact iteT (s M1 H1 σ ρ1 E D rs1 (o.mv m1) (h.yes rfl))
 | false=>exact iteF (s' M1 H1 σ ρ1 E D rs1 (o.mv m1) (h.no rfl))
abbrev dSet (i:Nat) (te:DE):DTS:=fun E ρ=>te ρ fun d ρ'=>E.nx (ρ'.set i (.val d))
theorem ds_set {i:Nat} {x:Str} {pos':Pos} (hN:X.N.Nodup) (hi:X.N[i]? = some x) (hx:Loc X.env.scope x) (h:PED X e te) (hs:swapsWith e (some (.Name x pos')) pos.line X.env = pure false:=by rfl) (hf:X.fn x = true ∨ X.env.scope.names.lookup x = some .local:=by first | exact .inl rfl | exact .inr rfl | assumption) :
  PSD X (.Assign [.Name x pos'] e pos) (dSet i te):=by
 obtain ⟨T,p,r⟩:=h.run
 refine ⟨_,ps_set hN hi hx p hs hf,fun {F} M H σ ρ E D rs o q=>r M H σ ρ _ rs (h.mono _ _ _ (fun d ρ' q M' H' v m rs' r'=>?_) q)⟩
 exact o.nx M' H' _ _ m (rs'.set r' i) q
abbrev dOwn (i:Nat) (t:DA):DTS:=fun E ρ=>t ρ fun ds ρ'=>E.nx (ρ'.set i (.own ds))
theorem RSt.newOwn {K:PySem.W.Frag} {M:List Addr} {H:Hp} {σ:St} {ρ:DS} {l:Addr} {xs:List V} {ds:List D} (r:RSt K F M H σ ρ) (hl:H l = none) (hd:Reps K F.pp M H ds xs) (i:Nat) :
  RSt K F (l :: M) (upd H l (.lst xs)) (σ.set i (some (.ref l))) (ρ.set i (.own ds)):=by
 have m:Mv K F.pp M H (l :: M) (upd H l (.lst xs)):=.newOwn hl
 have s:SameP K F.pp H (upd H l (.lst xs)):=.new hl
 have h0:F.H0 l = none:=by
  cases e:F.H0 l with
  | none=>rfl
  | some o=>exact absurd hl (r.same.live l (by rw [e]; intro z; cases z))
 refine ⟨by simp [r.len],fun j q o h1 h2=>?_,r.ow.step m i (fun j e=>List.getElem?_set_ne (Ne.symm e)) (fun j e=>List.getElem?_set_ne (Ne.symm e)) (fun A _ _=>⟨[l],fun s o e1 e2=>?_,fun b hb=>?_,fun a ha hp h0' _=>⟨List.mem_cons_of_mem _ ha,fun x e _=>upd_old hl e⟩⟩),fun a ha=>List.mem_cons_of_mem _ (r.sub a ha),r.same.trans s.toSameQ,r.old,?_,r.lk.cl m⟩
 ·by_cases e:i = j
  ·subst e
   rw [set_self h1,set_self h2]
   exact ⟨l,xs,rfl,List.mem_cons_self,h0,(r.liv.fresh hl).2,upd_same,hd.mv m⟩
  ·rw [List.getElem?_set_ne e] at h1 h2
   have q':=r.sl j q o h1 h2
   cases q with
   | nil=>trivial
   | val d=>obtain ⟨v,e,q⟩:=q'; exact ⟨v,e,q.mv m⟩
   | pin w d=>obtain ⟨v,e,ew,q⟩:=q'; exact ⟨v,e,ew,q.mv m⟩
   | own es =>
    obtain ⟨l',ys,rfl,hm',h0',hp',hl',hr'⟩:=q'
    exact ⟨l',ys,rfl,List.mem_cons_of_mem _ hm',h0',hp',upd_old hl hl',hr'.mv m⟩
   | obj q=>exact q'
 ·rw [set_self e1,set_self e2]
  exact ⟨l,rfl,rfl⟩
 ·rw [List.mem_singleton.mp hb]
  exact ⟨List.mem_cons_self,h0,(r.liv.fresh hl).2,.inr (r.liv.fresh hl).1⟩
 ·refine ⟨fun a ha=>?_,fun p e=>s.live p (r.liv.p p e)⟩
  rcases List.mem_cons.mp ha with rfl | ha
  ·rw [upd_same]; intro z; cases z
  ·exact s.live a (r.liv.m a ha)
theorem ds_own {i:Nat} {x:Str} {pos':Pos} (hN:X.N.Nodup) (hi:X.N[i]? = some x) (hx:Loc X.env.scope x) (h:PLD X e tl) (hs:swapsWith e (some (.Name x pos')) pos.line X.env = pure false:=by rfl) (hf:X.fn x = true ∨ X.env.scope.names.lookup x = some .local:=by first | exact .inl rfl | exact .inr rfl | assumption) :
  PSD X (.Assign [.Name x pos'] e pos) (dOwn i tl):=by
 obtain ⟨T,p,r⟩:=h.run
 refine ⟨_,ps_set hN hi hx p hs hf,fun {F} M H σ ρ E D rs o q=>r M H σ ρ _ rs (h.mono _ _ _ (fun ds ρ' q M' H1 H' l xs m rs' hl e r'=>?_) q)⟩
 subst e
 exact o.nx _ _ _ _ (m.trans (.newOwn hl)) (rs'.newOwn hl r' i) q
abbrev DG:=D -> DS -> (DS -> Prop) -> Prop
structure PGD (X:Cx) (tg:Expr) (g:DG):Prop where
 mono:∀ d ρ P P',(∀ ρ',P ρ' -> P' ρ') -> g d ρ P -> g d ρ P'
 run:∃ G:TG,PG X tg G /\ ∀ {F:Fx} M H σ ρ d v (Q:St -> Hp -> Prop),RSt X.K F M H σ ρ -> Rep X.K F.pp M H d v -> (g d ρ fun ρ'=>∀ M' H' σ',Mv X.K F.pp M H M' H' -> RSt X.K F M' H' σ' ρ' -> Q σ' H') -> G v σ H Q
abbrev dgName (i:Nat):DG:=fun d ρ Q=>Q (ρ.set i (.val d))
theorem dg_name {i:Nat} {x:Str} (hN:X.N.Nodup) (hi:X.N[i]? = some x) (hx:Loc X.env.scope x) (hf:X.fn x = true ∨ X.env.scope.names.lookup x = some .local:=by first | exact .inl rfl | exact .inr rfl | assumption):PGD X (.Name x pos) (dgName i) :=
 ⟨fun _ _ _ _ f h=>f _ h,_,pg_name hN hi hx hf,fun {F} M H σ ρ d v Q rs r h=>h M H _ .refl (rs.set r i)⟩
abbrev DGs:=List D -> DS -> (DS -> Prop) -> Prop
structure PGsD (X:Cx) (tg:List Expr) (g:DGs):Prop where
 mono:∀ d ρ P P',(∀ ρ',P ρ' -> P' ρ') -> g d ρ P -> g d ρ P'
 run:∃ G:TGs,PGs X tg G /\ ∀ {F:Fx} M H σ ρ ds vs (Q:St -> Hp -> Prop),RSt X.K F M H σ ρ -> Reps X.K F.pp M H ds vs -> (g ds ρ fun ρ'=>∀ M' H' σ',Mv X.K F.pp M H M' H' -> RSt X.K F M' H' σ' ρ' -> Q σ' H') -> G vs σ H Q
def dgNil:DGs:=fun ds ρ Q=>match ds with
 | []=>Q ρ
 | _=>False
def dgCons (g:DG) (u:DGs):DGs:=fun ds ρ Q=>match ds with
 | d :: r=>g d ρ fun ρ'=>u r ρ' Q
 | []=>False
theorem dgs_nil:PGsD X [] dgNil:=by
 refine ⟨fun ds _ _ _ f h=>?_,_,pgs_nil,fun {F} M H σ ρ ds vs Q rs r h=>?_⟩
 ·cases ds with
  | nil=>exact f _ h
  | cons=>exact h
 ·cases ds with
  | nil=>simp only [Reps] at r; exact ⟨r,h M H σ .refl rs⟩
  | cons=>exact h.elim
theorem dgs_cons {e:Expr} {es:List Expr} {g:DG} {u:DGs} (h1:PGD X e g) (h2:PGsD X es u)
  (hs:(assignEach (e :: es) X.env).map (·.2) = assign e X.env :: (assignEach es X.env).map (·.2):=by rfl):PGsD X (e :: es) (dgCons g u):=by
 obtain ⟨G,p,r⟩:=h1.run
 obtain ⟨G',p',r'⟩:=h2.run
 refine ⟨fun ds _ _ _ f h=>?_,_,pgs_cons p p' hs,fun {F} M H σ ρ ds vs Q rs rd h=>?_⟩
 ·cases ds with
  | nil=>exact h
  | cons=>exact h1.mono _ _ _ _ (fun _ h=>h2.mono _ _ _ _ f h) h
 ·cases ds with
  | nil=>exact h.elim
  | cons d ds =>
   simp only [Reps] at rd
   obtain ⟨v,vr,rfl,rd,rr⟩:=rd
   refine ⟨v,vr,rfl,r M H σ ρ d v _ rs rd (h1.mono _ _ _ _ (fun ρ' h M1 H1 σ1 m1 rs1=>?_) h)⟩
   exact r' M1 H1 σ1 ρ' ds vr _ rs1 (rr.mv m1) (h2.mono _ _ _ _ (fun ρ2 h M2 H2 σ2 m2 rs2=>h M2 H2 σ2 (m1.trans m2) rs2) h)
def dgTup (n:Nat) (g:DGs):DG:=fun d ρ Q=>match d with
 | .tup ds=>ds.length = n /\ g ds ρ Q
 | _=>False
theorem dg_tup {es:List Expr} {k:Nat} {g:DGs} {n:Nat} (hc:X.calm = true) (h:PGsD X es g)
  (hn:(assignEach es X.env).length = n:=by rfl) (hst:(assignEach es X.env).findIdx? (·.1) = none:=by rfl):PGD X (.Tuple es k pos) (dgTup n g):=by
 obtain ⟨G,p,r⟩:=h.run
 refine ⟨fun d _ _ _ f q=>?_,_,pg_tupH hc p hn hst,fun {F} M H σ ρ d v Q rs rd q=>?_⟩
 ·cases d <;> first | exact q.elim | exact ⟨q.1,h.mono _ _ _ _ f q.2⟩
 ·cases d with
  | tup ds =>
   simp only [Rep] at rd
   obtain ⟨a,xs,rfl,ha,rd⟩:=rd
   exact ⟨a,xs,rfl,ha,by rw [← rd.length]; exact q.1,r M H σ ρ ds xs _ rs rd q.2⟩
  | _=>exact q.elim
def dLoop (g:DG) (b:DTS):List D -> DEnds -> DS -> Prop
 | [],E,ρ=>E.nx ρ
 | d :: r,E,ρ=>g d ρ fun ρ1=>b { E with nx:=fun ρ'=>dLoop g b r E ρ',ct:=fun ρ'=>dLoop g b r E ρ',bk:=E.nx } ρ1
structure ItOkV (K:PySem.W.Frag) (pp:Option Addr) (J:It) (M:List Addr) (H:Hp) (vs:List V):Prop where
 yld:∀ M2 H2,Mv K pp M H M2 H2 -> ∀ i x H3,i < vs.length -> J.yld i H2 x H3 -> H3 = H2 /\ vs[i]? = some x
 go:∀ M2 H2,Mv K pp M H M2 H2 -> ∀ i,i < vs.length -> J.go i H2
 stop:∀ M2 H2,Mv K pp M H M2 H2 -> ∀ i,vs.length <= i -> J.stop i H2
structure ItOk (K:PySem.W.Frag) (pp:Option Addr) (J:It) (M:List Addr) (H:Hp) (ds:List D):Prop where
 yld:∀ M2 H2,Mv K pp M H M2 H2 -> ∀ i d x H3,ds[i]? = some d -> J.yld i H2 x H3 -> SameP K pp H2 H3 /\ Rep K pp M2 H3 d x
 go:∀ M2 H2,Mv K pp M H M2 H2 -> ∀ i,i < ds.length -> J.go i H2
 stop:∀ M2 H2,Mv K pp M H M2 H2 -> ∀ i,ds.length <= i -> J.stop i H2
theorem ItOkV.of {K:PySem.W.Frag} {pp:Option Addr} {J:It} {M:List Addr} {H:Hp} {vs:List V} {ds:List D} (o:ItOkV K pp J M H vs) (rd:Reps K pp M H ds vs):ItOk K pp J M H ds where
 yld:=fun M2 H2 m i d x H3 e y=>by
  obtain ⟨v,e1,r⟩:=rd.get' e
  obtain ⟨rfl,e2⟩:=o.yld M2 H2 m i x H3 (List.getElem?_eq_some_iff.mp e1).1 y
  rw [e1] at e2
  cases e2
  exact ⟨.refl,r.mv m⟩
 go:=fun M2 H2 m i h=>o.go M2 H2 m i (by rw [← rd.length]; exact h)
 stop:=fun M2 H2 m i h=>o.stop M2 H2 m i (by rw [← rd.length]; exact h)
structure PID (X:Cx) (tg iter:Expr) (t:DA):Prop where
 mono:∀ ρ P P',(∀ d ρ',P d ρ' -> P' d ρ') -> t ρ P -> t ρ P'
 run:∃ wi:TI,PI X tg iter wi /\ ∀ {F:Fx} M H σ ρ (R:It -> Hp -> Prop),RSt X.K F M H σ ρ ->
  (t ρ fun ds ρ'=>∀ M' H' J,Mv X.K F.pp M H M' H' -> RSt X.K F M' H' σ ρ' -> ItOk X.K F.pp J M' H' ds -> R J H') -> wi σ H R
abbrev dFor (t:DA) (g:DG) (b:DTS):DTS:=fun E ρ=>t ρ fun ds ρ'=>dLoop g b ds E ρ'
theorem ds_for {tg iter:Expr} {body:List Stmt} {t:DA} {g:DG} {tb:DTS} {pos:Pos} (hp:PassesOwn (model X.prog X.w) X.A X.env X.xe) (hc:X.calm = true) (hi:PID X tg iter t) (hg:PGD X tg g) (hb:PSsD X body tb)
  (hs:∀ x,foldedSetIterable iter X.env x = pure x:=by intro _; rfl):PSD X (.For tg iter body [] pos) (dFor t g tb):=by
 obtain ⟨wi,pi,ri⟩:=hi.run
 obtain ⟨G,pg,rg⟩:=hg.run
 obtain ⟨T,p,r⟩:=hb
 refine ⟨_,ps_for hp hc pi pg p hs,fun {F} M H σ ρ E D rs o h=>ri M H σ ρ _ rs (hi.mono _ _ _ (fun ds ρ1 h M1 H1 J m1 rs1 ok=>?_) h)⟩
 refine ⟨fun i m σ2 H2=>∃ M2 ρ2,m = ds.length - i /\ i <= ds.length /\ Mv X.K F.pp M1 H1 M2 H2 /\ RSt X.K F M2 H2 σ2 ρ2 /\ dLoop g tb (ds.drop i) E ρ2,⟨ds.length,M1,ρ1,rfl,Nat.zero_le _,.refl,rs1,h⟩,?_⟩
 rintro i m σ2 H2 ⟨M2,ρ2,rfl,hi2,m2,rs2,h2⟩
 by_cases hlt:i < ds.length
 ·have e1:ds[i]? = some ds[i]:=by simp [hlt]
  rw [List.drop_eq_getElem_cons hlt] at h2
  refine .inr ⟨ok.go M2 H2 m2 i hlt,fun σ' H'=>∃ M' ρ',Mv X.K F.pp M1 H1 M' H' /\ RSt X.K F M' H' σ' ρ' /\ dLoop g tb (ds.drop (i + 1)) E ρ',fun σ' H' ⟨M',ρ',mm,rs',h'⟩=>⟨ds.length - (i + 1),by omega,M',ρ',rfl,hlt,mm,rs',h'⟩,fun x H3 y=>?_⟩
  obtain ⟨sp,rx⟩:=ok.yld M2 H2 m2 i _ x H3 e1 y
  have m23:=m2.trans (sp.mv (M:=M2))
  refine rg M2 H3 σ2 ρ2 _ _ _ (rs2.sameP sp) rx (hg.mono _ _ _ _ (fun ρ3 h3 M3 H3 σ3 m3 rs3=>?_) h2)
  refine r M3 H3 σ3 ρ3 _ _ rs3 ⟨fun M4 H4 σ4 ρ4 m4 rs4 h4=>⟨M4,ρ4,(m23.trans m3).trans m4,rs4,h4⟩,fun M4 H4 σ4 ρ4 m4 rs4 h4=>?_,fun M4 H4 σ4 ρ4 m4 rs4 h4=>⟨M4,ρ4,(m23.trans m3).trans m4,rs4,h4⟩,fun M4 H4 σ4 ρ4 d' v m4 rs4 r4 h4=>?_⟩ h3
  ·exact o.nx M4 H4 σ4 ρ4 (((m1.trans m23).trans m3).trans m4) rs4 h4
  ·exact o.rt M4 H4 σ4 ρ4 d' v (((m1.trans m23).trans m3).trans m4) rs4 r4 h4
 ·have e:i = ds.length:=by omega
  refine .inl ⟨ok.stop M2 H2 m2 i (by omega),?_⟩
  have hd:ds.drop i = []:=by rw [List.drop_eq_nil_iff]; omega
  rw [hd] at h2
  exact o.nx M2 H2 σ2 ρ2 (m1.trans m2) rs2 h2
abbrev diSeq (te:DE):DA:=fun ρ Q=>te ρ fun d ρ'=>match d with
 | .lst ds=>Q ds ρ'
 | _=>False
abbrev diTup (te:DE):DA:=fun ρ Q=>te ρ fun d ρ'=>match d with
 | .tup ds=>Q ds ρ'
 | _=>False
theorem di_list {tg l:Expr} (hl:PED X l te):PID X tg l (diSeq te):=by
 obtain ⟨T,p,r⟩:=hl.run
 refine ⟨fun _ _ _ f h=>hl.mono _ _ _ (fun d _ h=>?_) h,_,pi_list p,fun {F} M H σ ρ R rs h=>r M H σ ρ _ rs (hl.mono _ _ _ (fun d ρ' h M' H' v m rs' rd=>?_) h)⟩
 ·cases d <;> first | exact h.elim | exact f _ _ h
 ·cases d with
  | lst ds =>
   simp only [Rep] at rd
   obtain ⟨a,xs,rfl,hm,hp,ha,rd⟩:=rd
   refine ⟨a,rfl,⟨xs,SqL.of ha⟩,h M' H' _ m rs' (ItOkV.of (vs:=xs) ⟨fun M2 H2 m2 i x H3 _ y=>?_,fun M2 H2 m2 i hi=>?_,fun M2 H2 m2 i hi=>?_⟩ rd)⟩
   ·exact ⟨y.1,y.2 xs (SqL.of (m2.lst a xs ha hm hp).1)⟩
   ·exact ⟨xs,xs[i],SqL.of (m2.lst a xs ha hm hp).1,by simp [hi]⟩
   ·exact ⟨xs,SqL.of (m2.lst a xs ha hm hp).1,hi⟩
  | _=>exact h.elim
theorem di_tup {tg l:Expr} (hl:PED X l te):PID X tg l (diTup te):=by
 obtain ⟨T,p,r⟩:=hl.run
 refine ⟨fun _ _ _ f h=>hl.mono _ _ _ (fun d _ h=>?_) h,_,pi_tup p,fun {F} M H σ ρ R rs h=>r M H σ ρ _ rs (hl.mono _ _ _ (fun d ρ' h M' H' v m rs' rd=>?_) h)⟩
 ·cases d <;> first | exact h.elim | exact f _ _ h
 ·cases d with
  | tup ds =>
   simp only [Rep] at rd
   obtain ⟨a,xs,rfl,ha,rd⟩:=rd
   refine ⟨a,rfl,⟨xs,SqT.of ha⟩,h M' H' _ m rs' (ItOkV.of (vs:=xs) ⟨fun M2 H2 m2 i x H3 _ y=>?_,fun M2 H2 m2 i hi=>?_,fun M2 H2 m2 i hi=>?_⟩ rd)⟩
   ·exact ⟨y.1,y.2 xs (SqT.of (m2.tup a xs ha))⟩
   ·exact ⟨xs,xs[i],SqT.of (m2.tup a xs ha),by simp [hi]⟩
   ·exact ⟨xs,SqT.of (m2.tup a xs ha),hi⟩
  | _=>exact h.elim
def intsD (lo:Int):Nat -> List D
 | 0=>[]
 | n + 1=>.int lo :: intsD (lo + 1) n
theorem reps_intsD {K:PySem.W.Frag} {pp:Option Addr} {M:List Addr} {H:Hp}:∀ (n:Nat) (lo:Int),Reps K pp M H (intsD lo n) ((List.range n).map fun (i:Nat)=>V.int (lo + i))
 | 0,_=>by simp [intsD,Reps]
 | n + 1,lo=>by
  rw [List.range_succ_eq_map,List.map_cons,intsD]
  refine .cons (by simp [Rep]) ?_
  have:=reps_intsD (K:=K) (pp:=pp) (M:=M) (H:=H) n (lo + 1)
  rw [List.map_map]
  refine (congrArg (Reps K pp M H (intsD (lo + 1) n)) (List.map_congr_left fun i _=>?_)).mp this
  simp only [Function.comp]
  congr 1
  omega
abbrev diR1 (t:DA):DA:=fun ρ Q=>t ρ fun ds ρ'=>match ds with
 | [.int j]=>(-(2 ^ 62) <= j /\ j < 2 ^ 62) /\ Q (intsD 0 j.toNat) ρ'
 | _=>False
theorem itOk_range {K:PySem.W.Frag} {pp:Option Addr} {M:List Addr} {H:Hp} {lo:Int} {n:Nat}:ItOkV K pp (Itr lo n) M H ((List.range n).map fun (i:Nat)=>V.int (lo + i)) where
 yld:=fun M2 H2 _ i x H3 hi y=>by
  obtain ⟨e1,e2⟩:=y
  refine ⟨e1,?_⟩
  have hi':i < n:=by simpa using hi
  simp [hi',e2]
 go:=fun _ _ _ i hi=>by show i < n; simpa using hi
 stop:=fun _ _ _ i hi=>by show n <= i; simpa using hi
variable {es:List Expr} {ea eb:Expr}
theorem di_range1 {tg:Expr} {p:Pos} (hg:Gl X "range") (hm:X.mg "range" = none) (ha:PAD X [ea] tl) (hs:starEach [ea] X.env = [(false,eval ea X.env)]:=by rfl):PID X tg (.Call (.Name "range" p) [ea] [] pos) (diR1 tl):=by
 obtain ⟨T,pa,r⟩:=ha.run
 refine ⟨fun _ _ _ f h=>ha.mono _ _ _ (fun d _ h=>?_) h,_,pi_range1 hg hm pa hs,fun {F} M H σ ρ R rs h=>r M H σ ρ _ rs (ha.mono _ _ _ (fun d ρ' h M' H' v m rs' rd=>?_) h)⟩
 ·split at h
  ·exact ⟨h.1,f _ _ h.2⟩
  ·exact h.elim
 ·split at h
  ·rename_i j
   simp only [Reps,Rep] at rd
   obtain ⟨x,r,rfl,rfl,rfl⟩:=rd
   exact ⟨j,rfl,h.1.1,h.1.2,h.2 M' H' _ m rs' (itOk_range.of (reps_intsD _ _))⟩
  ·exact h.elim
def dWhileN (c:DT) (b:DTS):Nat -> DEnds -> DS -> Prop
 | 0,_,_=>False
 | n + 1,E,ρ=>c ρ fun k ρ'=>Br k (b { E with nx:=fun ρ2=>dWhileN c b n E ρ2,ct:=fun ρ2=>dWhileN c b n E ρ2,bk:=E.nx } ρ') (E.nx ρ')
abbrev dWhile (c:DT) (b:DTS):DTS:=fun E ρ=>∃ n,dWhileN c b n E ρ
theorem ds_while {body:List Stmt} {tb:DTS} (hp:PassesOwn (model X.prog X.w) X.A X.env X.xe) (hc:PTD X c tc) (hb:PSsD X body tb):PSD X (.While c body [] pos) (dWhile tc tb):=by
 obtain ⟨C,pc,rc⟩:=hc.run
 obtain ⟨T,p,r⟩:=hb
 refine ⟨_,ps_while hp pc p,fun {F} M H σ ρ E D rs o h=>?_⟩
 obtain ⟨n,h⟩:=h
 refine ⟨fun m σ2 H2=>∃ M2 ρ2,Mv X.K F.pp M H M2 H2 /\ RSt X.K F M2 H2 σ2 ρ2 /\ dWhileN tc tb m E ρ2,⟨n,M,ρ,.refl,rs,h⟩,?_⟩
 rintro m σ2 H2 ⟨M2,ρ2,m2,rs2,h2⟩
 cases m with
 | zero=>exact h2.elim
 | succ m =>
  refine rc M2 H2 σ2 ρ2 _ rs2 (hc.mono _ _ _ (fun k ρ3 h3 M3 H3 m3 rs3=>?_) h2)
  cases k with
  | false=>exact iteF (o.nx M3 H3 σ2 ρ3 (m2.trans m3) rs3 (h3.no rfl))
  | true =>
   refine iteT ⟨fun σ' H'=>∃ M' ρ',Mv X.K F.pp M H M' H' /\ RSt X.K F M' H' σ' ρ' /\ dWhileN tc tb m E ρ',fun σ' H' h'=>⟨m,Nat.lt_succ_self _,h'⟩,?_⟩
   refine r M3 H3 σ2 ρ3 { E with nx:=fun ρ2=>dWhileN tc tb m E ρ2,ct:=fun ρ2=>dWhileN tc tb m E ρ2,bk:=E.nx } _ rs3 ⟨fun M4 H4 σ4 ρ4 m4 rs4 h4=>⟨M4,ρ4,(m2.trans m3).trans m4,rs4,h4⟩,fun M4 H4 σ4 ρ4 m4 rs4 h4=>o.nx M4 H4 σ4 ρ4 ((m2.trans m3).trans m4) rs4 h4,fun M4 H4 σ4 ρ4 m4 rs4 h4=>⟨M4,ρ4,(m2.trans m3).trans m4,rs4,h4⟩,fun M4 H4 σ4 ρ4 d' v m4 rs4 r4 h4=>o.rt M4 H4 σ4 ρ4 d' v ((m2.trans m3).trans m4) rs4 r4 h4⟩ (h3.yes rfl)
end
end DL
namespace DL
open PySem PySem.Spec L2
open PyProof.Rows hiding St
variable [TB]
variable [Frm]
def dstart (n:Nat) (ds:List D):DS:=ds.map .val ++ List.replicate (n - ds.length) .nil
theorem reps_start {K:PySem.W.Frag} {F:Fx} {M:List Addr} {H:Hp}:∀ {ds:List D} {vs:List V},Reps K F.pp M H ds vs -> ∀ (i:Nat) s o,(ds.map Sl.val)[i]? = some s -> (vs.map some)[i]? = some o -> RSl K F M H s o
 | [],_,_,_,_,_,h1,_=>by simp at h1
 | d :: ds,_,h,0,s,o,h1,h2=>by
  simp only [Reps] at h
  obtain ⟨x,r,rfl,h,_⟩:=h
  simp at h1 h2
  subst h1 h2
  exact ⟨x,rfl,h⟩
 | d :: ds,_,h,i + 1,s,o,h1,h2=>by
  simp only [Reps] at h
  obtain ⟨x,r,rfl,_,h⟩:=h
  exact reps_start h i s o (by simpa using h1) (by simpa using h2)
theorem val_not_own {ds:List D} {n i:Nat} {es:List D} (h:(ds.map Sl.val ++ List.replicate n Sl.nil)[i]? = some (.own es)):False:=by
 have:=List.mem_of_getElem? h
 rcases List.mem_append.mp this with h | h
 ·obtain ⟨d,_,e⟩:=List.mem_map.mp h; cases e
 ·have:=List.eq_of_mem_replicate h; cases this
theorem val_not_obj {ds:List D} {n i:Nat} {q:O} (h:(ds.map Sl.val ++ List.replicate n Sl.nil)[i]? = some (.obj q)):False:=by
 have:=List.mem_of_getElem? h
 rcases List.mem_append.mp this with h | h
 ·obtain ⟨d,_,e⟩:=List.mem_map.mp h; cases e
 ·have:=List.eq_of_mem_replicate h; cases this
theorem rst_start {K:PySem.W.Frag} {pp:Option Addr} {M:List Addr} {H:Hp} {ds:List D} {vs:List V} {N:List Str} (lv:Lv pp M H) (r:Reps K pp M H ds vs) (lk:Frm.L K ⟨pp,M,H⟩ M H):RSt K ⟨pp,M,H⟩ M H (L2.start N vs) (dstart N.length ds):=by
 have hl:=r.length
 refine ⟨by simp [L2.start,dstart,hl],fun i s o h1 h2=>?_,OwF.none (fun i s e=>⟨fun ds z=>(val_not_own (z ▸ e)).elim,fun q z=>(val_not_obj (z ▸ e)).elim⟩),fun a h=>h,.refl,lv.m,lv.toLv0,⟨lk,lv.t⟩⟩
 unfold dstart at h1
 unfold L2.start at h2
 by_cases hi:i < ds.length
 ·rw [List.getElem?_append_left (by simpa using hi)] at h1
  rw [List.getElem?_append_left (by simpa [← hl] using hi)] at h2
  exact reps_start (F:=⟨pp,M,H⟩) r i s o h1 h2
 ·rw [List.getElem?_append_right (by simp; omega)] at h1
  have:=List.eq_of_mem_replicate (List.mem_of_getElem? h1)
  subst this
  trivial
omit [Frm] in
theorem fnD {P:Program} {w:World} {K:PySem.W.Frag} {mg:Str -> Option Value} {base:Heap} {x qual:Str} {st:Stmt} {f:Addr} {fd:FuncData} {N ps:List Str} {k:Nat} {g:DSp} {t:DTS} (Fn:Fun K x qual st f fd) (S:FnScope N ps (defScope st))
  (hb:∀ (cdv:Value) (A:Around) (outer:List Env) (s:Shared) (H:Hp) (E:XK),Room k (A.deeper (envOfC qual (defScope st) s.heap.objs.size f cdv)) -> @PSsD _ Frm.free (cxOf CX0 P w K mg base N qual (defScope st) f cdv A outer s H E).nox (defBody st) t)
  (hg:∀ ds Q,ds.length = ps.length -> g ds Q -> t { nx:=fun _=>Q .non,rt:=Q } (dstart N.length ds)):FnOk P w K mg base CX0 (k + 1) f fd ps (spD K ps.length g):=by
 refine Fn.ok S (fun vs H Q E h=>?_) (fun cdv A outer s H vs Q E hr h=>?_)
 ·obtain ⟨pp,M,ds,_,r,e,_⟩:=h
  rw [← r.length,e]
 ·obtain ⟨pp,M,ds,lv,r,e,h⟩:=h
  obtain ⟨T,p,run⟩:=hb cdv A outer s H E hr
  refine ⟨T,p,run M H _ _ _ _ (rst_start lv r trivial) ⟨fun M' H' σ' ρ' m rs q=>?_,fun _ _ _ _ _ _ q=>q,fun _ _ _ _ _ _ q=>q,fun M' H' σ' ρ' d v m rs rd q=>?_⟩ (hg ds _ e h)⟩
  ·exact q H' .non rs.sameT (by simp only [Rep])
  ·exact q H' v rs.sameT (rd.mv (.less rs.sub))
section
variable {X:Cx} {pp:Option Addr}
def g2I (C:Int -> Int -> Prop) (f:Int -> Int -> D):D -> D -> (D -> Prop) -> Prop
 | .int i,.int j,P=>C i j /\ P (f i j)
 | _,_,_=>False
def g2I0 (f:Int -> Int -> D):D -> D -> (D -> Prop) -> Prop
 | .int i,.int j,P=>P (f i j)
 | _,_,_=>False
theorem OpD.ofI {f:Value -> Value -> Sem Value} {C:Int -> Int -> Prop} {h:Int -> Int -> V} {h':Int -> Int -> D} (o:OpR X f (rI C h)) (e:∀ pp M H i j,Rep X.K pp M H (h' i j) (h i j)):OpD X f (g2I C h'):=by
 refine ⟨fun x y P P' f h=>?_,_,o,fun {pp} M H x y v u Q _ rx ry h=>?_⟩
 ·cases x <;> cases y <;> first | exact h.elim | exact ⟨h.1,f _ h.2⟩
 ·cases x <;> first | exact h.elim | skip
  cases y <;> first | exact h.elim | skip
  simp only [Rep] at rx ry
  exact ⟨_,_,rx,ry,h.1,h.2 H _ .refl (e _ M H _ _)⟩
theorem OpD.ofI0 {f:Value -> Value -> Sem Value} {h:Int -> Int -> V} {h':Int -> Int -> D} (o:OpR X f (rI0 h)) (e:∀ pp M H i j,Rep X.K pp M H (h' i j) (h i j)):OpD X f (g2I0 h'):=by
 refine ⟨fun x y P P' f h=>?_,_,o,fun {pp} M H x y v u Q _ rx ry h=>?_⟩
 ·cases x <;> cases y <;> first | exact h.elim | exact f _ h
 ·cases x <;> first | exact h.elim | skip
  cases y <;> first | exact h.elim | skip
  simp only [Rep] at rx ry
  exact ⟨_,_,rx,ry,h H _ .refl (e _ M H _ _)⟩
theorem od_add:OpD X (binaryOp .Add) (g2I0 fun i j=>.int (i + j)):=.ofI0 op_add fun _ _ _ _ _=>rep_int
theorem od_sub:OpD X (binaryOp .Sub) (g2I0 fun i j=>.int (i - j)):=.ofI0 op_sub fun _ _ _ _ _=>rep_int
theorem od_mul:OpD X (binaryOp .Mult) (g2I CMulB fun i j=>.int (i * j)):=.ofI op_mulB fun _ _ _ _ _=>rep_int
theorem od_mod:OpD X (binaryOp .Mod) (g2I (fun _ j=>0 < j) fun i j=>.int (i % j)):=.ofI op_mod fun _ _ _ _ _=>rep_int
theorem od_modN:OpD X (binaryOp .Mod) (g2I (fun _ j=>j ≠ 0) fun i j=>.int (i.fmod j)):=.ofI op_modN fun _ _ _ _ _=>rep_int
theorem od_fdiv:OpD X (binaryOp .FloorDiv) (g2I CDivP fun i j=>.int (i / j)):=.ofI op_fdivB fun _ _ _ _ _=>rep_int
theorem od_fdivZ:OpD X (binaryOp .FloorDiv) (g2I CDivZ fun i j=>.int (i.fdiv j)):=.ofI op_fdivZ fun _ _ _ _ _=>rep_int
theorem od_pow:OpD X (binaryOp .Pow) (g2I CPow fun i j=>.int (i ^ j.toNat)):=.ofI op_pow fun _ _ _ _ _=>rep_int
theorem od_lt:OpD X (compareOp .Lt) (g2I0 fun i j=>.bl (decide (i < j))):=.ofI0 op_lt fun _ _ _ _ _=>rep_bl
theorem od_le:OpD X (compareOp .LtE) (g2I0 fun i j=>.bl (decide (i <= j))):=.ofI0 op_le fun _ _ _ _ _=>rep_bl
theorem od_gt:OpD X (compareOp .Gt) (g2I0 fun i j=>.bl (decide (j < i))):=.ofI0 op_gt fun _ _ _ _ _=>rep_bl
def isNon:D -> Bool
 | .non=>true
 | _=>false
theorem isNon_rep {K:PySem.W.Frag} {M:List Addr} {H:Hp} {d:D} {v:V} (r:Rep K pp M H d v):decide (v = .non) = isNon d:=by
 cases d <;> simp only [Rep] at r
 case non=>subst r; rfl
 case bl=>subst r; rfl
 case int=>subst r; rfl
 case str=>subst r; rfl
 case ty=>subst r; rfl
 case tup=>obtain ⟨a,xs,rfl,_⟩:=r; rfl
 case lst=>obtain ⟨a,xs,rfl,_⟩:=r; rfl
 case dK=>obtain ⟨a,xs,rfl,_⟩:=r; rfl
 case dT=>obtain ⟨a,xs,rfl,_⟩:=r; rfl
 case pen=>obtain ⟨a,rfl,_⟩:=r; rfl
 case exc=>obtain ⟨a,rfl,_⟩:=r; rfl
 case exa=>obtain ⟨a,dx,rfl,_⟩:=r; rfl
 case cls=>subst r; rfl
def gIsN (n:Bool):D -> D -> (D -> Prop) -> Prop
 | x,.non,P=>P (.bl (if n then !isNon x else isNon x))
 | _,_,_=>False
theorem od_isN:OpD X (compareOp .Is) (gIsN false):=by
 refine ⟨fun x y P P' f h=>?_,_,op_isN,fun {pp} M H x y v u Q _ rx ry h=>?_⟩
 ·cases y <;> first | exact h.elim | exact f _ h
 ·cases y <;> first | exact h.elim | skip
  simp only [Rep] at ry
  exact ⟨ry,h H _ .refl (by rw [isNon_rep rx]; exact rep_bl)⟩
theorem od_notN:OpD X (compareOp .IsNot) (gIsN true):=by
 refine ⟨fun x y P P' f h=>?_,_,op_notN,fun {pp} M H x y v u Q _ rx ry h=>?_⟩
 ·cases y <;> first | exact h.elim | exact f _ h
 ·cases y <;> first | exact h.elim | skip
  simp only [Rep] at ry
  exact ⟨ry,h H _ .refl (by rw [isNon_rep rx]; exact rep_bl)⟩
structure UnD (X:Cx) (f:Value -> Sem Value) (g:D -> (D -> Prop) -> Prop):Prop where
 mono:∀ x P P',(∀ d,P d -> P' d) -> g x P -> g x P'
 run:∃ r,UnR X f r /\ ∀ {pp:Option Addr} M H x v (Q:VK),Lv pp M H -> Rep X.K pp M H x v -> g x (fun d=>∀ H' w,SameP X.K pp H H' -> Rep X.K pp M H' d w -> Q w H') -> r v H Q
abbrev dUn (g:D -> (D -> Prop) -> Prop) (ta:DE):DE:=fun ρ Q=>ta ρ fun x ρ1=>g x fun d=>Q d ρ1
theorem de_un {op:UnaryOp} {g:D -> (D -> Prop) -> Prop} {a:Expr} {ta:DE} {pos:Pos} (ho:UnD X (unaryOp op) g) (ha:PED X a ta):PED X (.UnaryOp op a pos) (dUn g ta):=by
 obtain ⟨r,hr,hg⟩:=ho.run
 obtain ⟨Ta,pa,ra⟩:=ha.run
 refine ⟨fun _ _ _ f h=>ha.mono _ _ _ (fun _ _ h=>ho.mono _ _ _ (fun _ h=>f _ _ h) h) h,_,pe_un hr pa,fun {F} M H σ ρ Q rs h=>ra M H σ ρ _ rs (ha.mono _ _ _ (fun x ρ1 h M1 H1 v m1 rs1 r1=>?_) h)⟩
 exact hg M1 H1 x v _ rs1.liv r1 (ho.mono _ _ _ (fun d h H' w s r=>h M1 H' w (m1.trans s.mv) (rs1.sameP s) r) h)
def gNeg:D -> (D -> Prop) -> Prop
 | .int i,P=>P (.int (-i))
 | _,_=>False
theorem ud_neg:UnD X (unaryOp .USub) gNeg:=by
 refine ⟨fun x P P' f h=>?_,_,un_neg,fun {pp} M H x v Q _ rx h=>?_⟩
 ·cases x <;> first | exact h.elim | exact f _ h
 ·cases x <;> first | exact h.elim | skip
  simp only [Rep] at rx
  exact ⟨_,rx,h H _ .refl rep_int⟩
def isIntD:D -> Bool
 | .int _=>true
 | .bl _=>true
 | _=>false
def isBoolD:D -> Bool
 | .bl _=>true
 | _=>false
def flesh:D -> Bool
 | .pen=>false
 | .exc _=>false
 | .exa _ _=>false
 | .cls _=>false
 | .ty _=>false
 | _=>true
theorem kn_rep {K:PySem.W.Frag} {M:List Addr} {H:Hp} {d:D} {v:V} (r:Rep K pp M H d v) (f:flesh d = true):knV H v:=by
 cases d <;> first | cases f | skip
 all_goals simp only [Rep] at r
 case non=>subst r; trivial
 case bl=>subst r; trivial
 case int=>subst r; trivial
 case str=>subst r; trivial
 case tup=>obtain ⟨a,xs,rfl,h,_⟩:=r; exact .inr (.inr (.inl ⟨xs,h⟩))
 case lst=>obtain ⟨a,xs,rfl,_,_,h,_⟩:=r; exact .inl ⟨xs,h⟩
 case dK=>obtain ⟨a,xs,rfl,_,_,h,_⟩:=r; exact .inr (.inr (.inr (.inl ⟨xs,h⟩)))
 case dT=>obtain ⟨a,xs,rfl,_,_,h,_⟩:=r; exact .inr (.inr (.inr (.inr ⟨xs,h⟩)))
def gIs (T:String) (f:D -> Bool):DSp:=fun ds P=>match ds with
 | [d,.ty T']=>T' = T /\ flesh d = true /\ P (.bl (f d))
 | _=>False
theorem CallD.isOf {T:String} {f:Hp -> V -> Bool} {fD:D -> Bool} (hc:CallR X (.builtin "isinstance") (fun xs H Q=>∃ x,xs = [x,.ty T] /\ knV H x /\ Q (.bl (f H x)) H))
  (e:∀ pp M H d v,Rep X.K pp M H d v -> flesh d = true -> f H v = fD d):CallD X (.builtin "isinstance") (gIs T fD):=by
 refine ⟨fun ds P P' f h=>?_,_,hc,fun {pp} M H ds vs Q _ r h=>?_⟩
 ·unfold gIs at h ⊢; split at h
  ·exact ⟨h.1,h.2.1,f _ h.2.2⟩
  ·exact h.elim
 ·unfold gIs at h; split at h
  case h_2=>exact h.elim
  ·rename_i d T'
   obtain ⟨e1,e2,h⟩:=h
   simp only [Reps] at r
   obtain ⟨x,r,rfl,rx,y,r',rfl,ry,rfl⟩:=r
   simp only [Rep] at ry
   subst ry e1
   exact ⟨x,rfl,kn_rep rx e2,h H _ .refl (by rw [e _ M H d x rx e2]; exact rep_bl)⟩
theorem cd_is_int:CallD X (.builtin "isinstance") (gIs "int" isIntD):=.isOf call_is_int fun pp M H d v r _=>by
 cases d <;> simp only [Rep] at r
 case non=>subst r; rfl
 case bl=>subst r; rfl
 case int=>subst r; rfl
 case str=>subst r; rfl
 case ty=>subst r; rfl
 case tup=>obtain ⟨a,xs,rfl,_⟩:=r; rfl
 case lst=>obtain ⟨a,xs,rfl,_⟩:=r; rfl
 case dK=>obtain ⟨a,xs,rfl,_⟩:=r; rfl
 case dT=>obtain ⟨a,xs,rfl,_⟩:=r; rfl
 case pen=>obtain ⟨a,rfl,_⟩:=r; rfl
 case exc=>obtain ⟨a,rfl,_⟩:=r; rfl
 case exa=>obtain ⟨a,dx,rfl,_⟩:=r; rfl
 case cls=>subst r; rfl
theorem cd_is_bool:CallD X (.builtin "isinstance") (gIs "bool" isBoolD):=.isOf call_is_bool fun pp M H d v r _=>by
 cases d <;> simp only [Rep] at r
 case non=>subst r; rfl
 case bl=>subst r; rfl
 case int=>subst r; rfl
 case str=>subst r; rfl
 case ty=>subst r; rfl
 case tup=>obtain ⟨a,xs,rfl,_⟩:=r; rfl
 case lst=>obtain ⟨a,xs,rfl,_⟩:=r; rfl
 case dK=>obtain ⟨a,xs,rfl,_⟩:=r; rfl
 case dT=>obtain ⟨a,xs,rfl,_⟩:=r; rfl
 case pen=>obtain ⟨a,rfl,_⟩:=r; rfl
 case exc=>obtain ⟨a,rfl,_⟩:=r; rfl
 case exa=>obtain ⟨a,dx,rfl,_⟩:=r; rfl
 case cls=>subst r; rfl
def gLen:DSp:=fun ds P=>match ds with
 | [.tup xs]=>P (.int xs.length)
 | [.lst xs]=>P (.int xs.length)
 | _=>False
theorem cd_len:CallD X (.builtin "len") gLen:=by
 refine ⟨fun ds P P' f h=>?_,_,call_lenH,fun {pp} M H ds vs Q _ r h=>?_⟩
 ·unfold gLen at h ⊢; split at h
  ·exact f _ h
  ·exact f _ h
  ·exact h.elim
 ·unfold gLen at h; split at h
  case h_3=>exact h.elim
  ·simp only [Reps,Rep] at r
   obtain ⟨x,r,rfl,⟨a,ys,rfl,ha,ry⟩,rfl⟩:=r
   exact ⟨a,ys.length,rfl,by rw [ha]; rfl,h H _ .refl (by rw [← ry.length]; exact rep_int)⟩
  ·simp only [Reps,Rep] at r
   obtain ⟨x,r,rfl,⟨a,ys,rfl,_,_,ha,ry⟩,rfl⟩:=r
   exact ⟨a,ys.length,rfl,by rw [ha]; rfl,h H _ .refl (by rw [← ry.length]; exact rep_int)⟩
def gAbs:DSp:=fun ds P=>match ds with
 | [.int i]=>P (.int (if i < 0 then -i else i))
 | _=>False
theorem cd_abs:CallD X (.builtin "abs") gAbs:=by
 refine ⟨fun ds P P' f h=>?_,_,call_abs,fun {pp} M H ds vs Q _ r h=>?_⟩
 ·unfold gAbs at h ⊢; split at h
  ·exact f _ h
  ·exact h.elim
 ·unfold gAbs at h; split at h
  case h_2=>exact h.elim
  ·rename_i i
   simp only [Reps,Rep] at r
   obtain ⟨x,r,rfl,rfl,rfl⟩:=r
   exact ⟨i,rfl,h H _ .refl rep_int⟩
def gInt1:DSp:=fun ds P=>match ds with
 | [.int i]=>P (.int i)
 | [.bl b]=>P (.int (if b then 1 else 0))
 | _=>False
theorem cd_int:CallD X (.type "int") gInt1:=by
 refine ⟨fun ds P P' f h=>?_,_,call_int1,fun {pp} M H ds vs Q _ r h=>?_⟩
 ·unfold gInt1 at h ⊢; split at h
  ·exact f _ h
  ·exact f _ h
  ·exact h.elim
 ·unfold gInt1 at h; split at h
  case h_3=>exact h.elim
  ·rename_i i
   simp only [Reps,Rep] at r
   obtain ⟨x,r,rfl,rfl,rfl⟩:=r
   exact .inl ⟨i,rfl,h H _ .refl rep_int⟩
  ·rename_i i
   simp only [Reps,Rep] at r
   obtain ⟨x,r,rfl,rfl,rfl⟩:=r
   exact .inr ⟨i,rfl,h H _ .refl rep_int⟩
def gTupOf:DSp:=fun ds P=>match ds with
 | [.tup xs]=>P (.tup xs)
 | [.lst xs]=>P (.tup xs)
 | _=>False
theorem cd_tuple:CallD X (.type "tuple") gTupOf:=by
 refine ⟨fun ds P P' f h=>?_,_,call_tuple_of,fun {pp} M H ds vs Q _ r h=>?_⟩
 ·unfold gTupOf at h ⊢; split at h
  ·exact f _ h
  ·exact f _ h
  ·exact h.elim
 ·unfold gTupOf at h; split at h
  case h_3=>exact h.elim
  ·simp only [Reps] at r
   obtain ⟨x,r,rfl,rx,rfl⟩:=r
   have rx':=rx
   simp only [Rep] at rx
   obtain ⟨a,ys,rfl,ha,ry⟩:=rx
   exact ⟨a,ys,rfl,.inr ⟨SqT.of ha,h H _ .refl rx'⟩⟩
  ·simp only [Reps,Rep] at r
   obtain ⟨x,r,rfl,⟨a,ys,rfl,_,_,ha,ry⟩,rfl⟩:=r
   refine ⟨a,ys,rfl,.inl ⟨SqL.of ha,fun l hl=>h _ _ (.new hl) ?_⟩⟩
   simp only [Rep]
   exact ⟨l,ys,rfl,upd_same,ry.mv (.new hl)⟩
def opt (o:Option D) (P:D -> Prop):Prop:=match o with
 | some d=>P d
 | none=>False
theorem opt_mono {o:Option D} {P P':D -> Prop} (f:∀ d,P d -> P' d) (h:opt o P):opt o P':=by cases o <;> first | exact h.elim | exact f _ h
theorem opt_some {o:Option D} {P:D -> Prop} (h:opt o P):∃ d,o = some d /\ P d:=by cases o <;> first | exact h.elim | exact ⟨_,rfl,h⟩
def gIx:D -> D -> (D -> Prop) -> Prop
 | .tup xs,.int i,P=>opt (atI xs i) P
 | .lst xs,.int i,P=>opt (atI xs i) P
 | _,_,_=>False
theorem atI_rep {K:PySem.W.Frag} {M:List Addr} {H:Hp} {ds:List D} {xs:List V} {i:Int} {d:D} (r:Reps K pp M H ds xs) (h:atI ds i = some d):∃ v,atI xs i = some v /\ Rep K pp M H d v:=by
 unfold atI at h ⊢
 rw [r.length] at h
 cases q:ixN xs.length i with
 | none=>rw [q] at h; cases h
 | some j =>
  rw [q] at h
  obtain ⟨v,e1,e2⟩:=r.get' (i:=j) h
  exact ⟨v,e1,e2⟩
theorem de_ix {a b:Expr} {ta tb:DE} {pos:Pos} (ha:PED X a ta) (hb:PED X b tb) (hs:PlainIx b):PED X (.Subscript a b pos) (dOp gIx ta tb):=by
 have gm:∀ x y P P',(∀ d,P d -> P' d) -> gIx x y P -> gIx x y P':=fun x y P P' f h=>by
  cases x <;> first | exact h.elim | skip
  all_goals cases y <;> first | exact h.elim | exact opt_mono f h
 obtain ⟨Ta,pa,ra⟩:=ha.run
 obtain ⟨Tb,pb,rb⟩:=hb.run
 refine ⟨dOp_mono gm ha hb,_,pe_ix (IxR.or ix_tupH ix_listH) pa pb hs,fun {F} M H σ ρ Q rs h=>dOp_run (fun M H x y v u Q _ rx ry h=>?_) gm ha hb ra rb rs h⟩
 cases x <;> first | exact h.elim | skip
 all_goals cases y <;> first | exact h.elim | skip
 all_goals
  obtain ⟨d,e,h⟩:=opt_some h
  simp only [Rep] at rx ry
 ·obtain ⟨p,xs,rfl,hp,r⟩:=rx
  obtain ⟨z,e2,rz⟩:=atI_rep r e
  exact .inl ⟨p,xs,_,z,rfl,ry,hp,e2,h H z .refl rz⟩
 ·obtain ⟨p,xs,rfl,_,_,hp,r⟩:=rx
  obtain ⟨z,e2,rz⟩:=atI_rep r e
  exact .inr ⟨p,xs,_,z,rfl,ry,hp,e2,h H z .refl rz⟩
end
end DL
namespace DL
open PySem PySem.Spec L2
open PyProof.Rows hiding St
variable [TB]
variable [Frm]
section
variable {X:Cx} {F:Fx}
abbrev dPar (i j:Nat) (t:DA):DTS:=fun E ρ=>t ρ fun ds ρ'=>match ds with
 | [x,y]=>E.nx ((ρ'.set i (.val x)).set j (.val y))
 | _=>False
theorem ds_par {i j:Nat} {x y:Str} {a b:Expr} {t:DA} {px py pt pos:Pos} {kt k2 pt2} (hc:X.calm = true) (hN:X.N.Nodup) (hi:X.N[i]? = some x) (hj:X.N[j]? = some y) (hij:i ≠ j)
  (hx:X.env.scope.names.lookup x = some .local) (hy:X.env.scope.names.lookup y = some .local) (ha:PAD X [a,b] t)
  (hw:swappedStores [.Tuple [.Name x px,.Name y py] kt pt] (.Tuple [a,b] k2 pt2) X.env = pure (some [x,y]))
  (hs:swapsWithSole [.Tuple [.Name x px,.Name y py] kt pt] (.Tuple [a,b] k2 pt2) pos.line X.env = pure false:=by rfl) :
  PSD X (.Assign [.Tuple [.Name x px,.Name y py] kt pt] (.Tuple [a,b] k2 pt2) pos) (dPar i j t):=by
 obtain ⟨T,p,r⟩:=ha.run
 refine ⟨_,ps_par hc hN hi hj hij hx hy p hw hs,fun {F} M H σ ρ E D rs o h=>r M H σ ρ _ rs (ha.mono _ _ _ (fun ds ρ' h M' H' vs m rs' rd=>?_) h)⟩
 split at h
 case h_2=>exact h.elim
 ·simp only [Reps] at rd
  obtain ⟨v,_,rfl,r1,w,_,rfl,r2,rfl⟩:=rd
  exact ⟨v,w,rfl,o.nx M' H' _ _ m ((rs'.set r1 i).set r2 j) h⟩
def dAppS (i:Nat) (E:DEnds) (ρ:DS) (d:D):Sl -> Prop
 | .own ds=>ds.length < sizeLine /\ E.nx (ρ.set i (.own (ds ++ [d])))
 | _=>False
def isOwn:Sl -> Prop
 | .own _=>True
 | _=>False
abbrev dApp (i:Nat) (te:DE):DTS:=fun E ρ=>isOwn (slot ρ i) /\ te ρ fun d ρ'=>dAppS i E ρ' d (slot ρ' i)
theorem RSt.write {K:PySem.W.Frag} {M:List Addr} {H:Hp} {σ:St} {ρ:DS} {l:Addr} {ys:List V} {ds es:List D} {i:Nat} (r:RSt K F M H σ ρ) (h:ρ[i]? = some (.own ds)) (hl:σ[i]? = some (some (.ref l))) (hd:Reps K F.pp M H es ys) :
  Mv K F.pp M H M (upd H l (.lst ys)) /\ RSt K F M (upd H l (.lst ys)) σ (ρ.set i (.own es)):=by
 obtain ⟨l',xs,e,hm,h0,hp,hl',hr⟩:=r.sl i _ _ h hl
 cases e
 have m:Mv K F.pp M H M (upd H l (.lst ys)):=.write hl' hm hp
 refine ⟨m,⟨by simp [r.len],fun j q o h1 h2=>?_,r.ow.step m i (fun _ _=>rfl) (fun j e=>List.getElem?_set_ne (Ne.symm e)) (fun A hA hB=>⟨A,fun s o e1 e2=>?_,fun b hb=>⟨(hB b hb).1,(hB b hb).2.1,(hB b hb).2.2,.inl hb⟩,fun a ha _ _ hn=>⟨ha,fun x e _=>?_⟩⟩),r.sub,?_,r.old,?_,r.lk.cl m⟩⟩
 ·by_cases e:i = j
  ·subst e
   rw [hl] at h2
   rw [set_self h1]
   cases h2
   exact ⟨l,ys,rfl,hm,h0,hp,upd_same,hd.mv m⟩
  ·rw [List.getElem?_set_ne e] at h1
   have q':=r.sl j q o h1 h2
   cases q with
   | nil=>trivial
   | val d=>obtain ⟨v,e,q⟩:=q'; exact ⟨v,e,q.mv m⟩
   | pin w d=>obtain ⟨v,e,ew,q⟩:=q'; exact ⟨v,e,ew,q.mv m⟩
   | own es =>
    obtain ⟨l',zs,rfl,hm',h0',hp',hl'',hr'⟩:=q'
    refine ⟨l',zs,rfl,hm',h0',hp',?_,hr'.mv m⟩
    rw [upd_ne]
    ·exact hl''
    ·rintro rfl
     exact e (r.own i j _ _ _ h h1 hl h2)
   | obj q=>exact q'
 ·rw [set_self e1]
  exact hA _ _ h e2
 ·obtain ⟨l2,e2,e3⟩:=hA _ _ h hl
  cases e2
  rw [upd_ne (by rintro rfl; exact hn (by rw [e3]; simp))]
  exact e
 ·refine ⟨fun b o e n=>?_,fun p e h=>m.pen p e (r.same.pen p e h),fun b e=>?_⟩
  ·rw [upd_ne (by rintro rfl; rw [h0] at e; cases e)]
   exact r.same.keep b o e n
  ·by_cases z:b = l
   ·subst z; rw [upd_same]; intro z; cases z
   ·rw [upd_ne z]; exact r.same.live b e
 ·refine ⟨fun a ha=>?_,fun p e=>?_⟩
  ·by_cases z:a = l
   ·subst z; rw [upd_same]; intro z; cases z
   ·rw [upd_ne z]; exact r.liv.m a ha
  ·by_cases z:p = l
   ·subst z; rw [upd_same]; intro z; cases z
   ·rw [upd_ne z]; exact r.liv.p p e
theorem ds_app {i:Nat} {o e:Expr} {apos cpos pos:Pos} {te:DE} (ho:PE X o (tVar i)) (he:PED X e te)
  (hbase:attributeBase o "append" X.env (eval o X.env) = eval o X.env:=by rfl)
  (hfew:((backTo cpos (starEach [e] X.env)).all (fun x=>!x.1) && (backToKw cpos (keywordEach [] X.env)).all (fun x=>x.1.isSome)
   && decide ([e].length + ([]:List Keyword).length + (if ([]:List Keyword).isEmpty then 0 else 1) < 30)) = true:=by rfl)
  (hline:(apos.endLine == cpos.line) = true:=by rfl) (hst:starEach [e] X.env = (false,eval e X.env) :: starEach [] X.env:=by rfl) (hpl:(backTo cpos (starEach [] X.env)).any (·.1) = false:=by rfl)
  (hs:swapsWith (.Call (.Attribute o "append" apos) [e] [] cpos) none pos.line X.env = pure false:=by rfl):PSD X (.Expr (.Call (.Attribute o "append" apos) [e] [] cpos) pos) (dApp i te):=by
 have hm:PE X (.Call (.Attribute o "append" apos) [e] [] cpos) (tBM X.K "list" rAppend (tVar i) (tCons (Classical.choose he.run) tNil)):=pe_bm PySem.F.plainAttrs_list PySem.F.slot_list_append PySem.F.type_list_append mt_append ho (pa_cons (Classical.choose_spec he.run).1 pa_nil hst) hbase hfew hline hst hpl
 obtain ⟨_,r⟩:=Classical.choose_spec he.run
 refine ⟨_,ps_expr hm hs,fun {F} M H σ ρ E D rs oo h=>?_⟩
 obtain ⟨h0,h⟩:=h
 cases q:slot ρ i with
 | nil=>rw [q] at h0; exact h0.elim
 | val d=>rw [q] at h0; exact h0.elim
 | pin w d=>rw [q] at h0; exact h0.elim
 | obj z=>rw [q] at h0; exact h0.elim
 | own ds =>
  obtain ⟨oo1,ho1,l,xs,rfl,hm1,h01,hp1,hl1,hr1⟩:=rs.at (slot_get q (by intro z; cases z))
  refine ⟨.ref l,ho1,.inl ⟨rfl,xs,SqL.of hl1⟩,?_⟩
  refine r M H σ ρ _ rs (he.mono _ _ _ (fun d ρ' h M' H' v m rs' rd=>?_) h)
  cases q':slot ρ' i with
  | nil=>rw [q'] at h; exact h.elim
  | val d=>rw [q'] at h; exact h.elim
  | pin w d=>rw [q'] at h; exact h.elim
  | obj z=>rw [q'] at h; exact h.elim
  | own ds' =>
   rw [q'] at h
   have g1:=slot_get q' (by intro z; cases z)
   obtain ⟨l',xs',e',hm',h0',hp',hl',hr'⟩:=rs'.sl i _ _ g1 ho1
   cases e'
   obtain ⟨m2,rs2⟩:=rs'.write g1 ho1 (hr'.append (.one rd))
   exact ⟨l,xs',v,rfl,rfl,hl',by rw [← hr'.length]; exact h.1,oo.nx M' _ _ _ (m.trans m2) rs2 h.2⟩
end
def gNext:DSp:=fun ds P=>match ds with
 | [.pen,.int m]=>(1 <= m /\ m <= 10 ^ 60) /\ ∀ r,0 <= r -> r < m -> P (.int r)
 | _=>False
theorem mono_next:MonoS gNext:=fun ds P P' f h=>by
 unfold gNext at h ⊢
 split at h
 ·exact ⟨h.1,fun r h0 h1=>f _ (h.2 r h0 h1)⟩
 ·exact h.elim
theorem next_of {P:Program} {w:World} {K:PySem.W.Frag} {mg:Str -> Option Value} {base:Heap} {k:Nat} {f:Addr} {fd:FuncData} {ps:List Str} (h:FnOk P w K mg base CX0 k f fd ps (sp_next K)):FnOk P w K mg base CX0 k f fd ps (spD K 2 gNext) :=
 h.imp fun vs H Q E h=>by
  obtain ⟨pp,M,ds,lv,r,e,h⟩:=h
  unfold gNext at h
  split at h
  case h_2=>exact h.elim
  ·rename_i m
   obtain ⟨⟨m1,m2⟩,h⟩:=h
   simp only [Reps,Rep] at r
   obtain ⟨x,_,rfl,⟨p,rfl,ep,a,ns,t,l,pen⟩,y,_,rfl,rfl,rfl⟩:=r
   refine ⟨p,a,ns,t,l,m,rfl,pen,m1,m2,fun r t' l' H' h0 h1 pen' sb=>h r h0 h1 H' _ ⟨⟨fun b o hb n=>?_,fun q e _=>?_,fun b hb=>?_⟩,fun tb=>tb.of fun b o e tf=>sb b o (by rintro rfl; rw [pen.lst] at e; cases e; exact ntf_lst tf) e⟩ rep_int⟩
   ·by_cases z:b = p
    ·subst z
     rw [pen.lst] at hb
     cases hb
     exact absurd rfl (n.1 ep _)
    ·exact sb b o z hb
   ·rw [ep] at e; cases e
    exact ⟨a,ns,t',l',pen'⟩
   ·by_cases z:b = p
    ·subst z; rw [pen'.lst]; intro z; cases z
    ·cases q:H b with
     | none=>exact absurd q hb
     | some o=>rw [sb b o z q]; intro z; cases z
def spLaw (K:PySem.W.Frag):Sp:=fun vs H Q _=>∃ a ns,vs = [.ref a] /\ Scr K H a ns /\ Tabs H /\ ∀ H',Q (.bl true) H'
omit [TB] [Frm] in
theorem law_sp (K:PySem.W.Frag) (H:Hp) (a:Addr) (ns:List Int) (_:ns.length <= 63) (h1:Only H) (h:SqL K H a (ns.map V.int)) : @spLaw TB.none K [.ref a] H (fun v _=>v = .bl true) fun _ _ _=>False :=
 ⟨a,ns,rfl,scr_of h1 h,fun _ _ e=>(by cases e),fun _=>rfl⟩
omit [Frm] in
theorem lawD {P:Program} {w:World} {K:PySem.W.Frag} {mg:Str -> Option Value} {base:Heap} {st:Stmt} {f:Addr} {fd:FuncData} {N:List Str} {x:Str} {k:Nat} {t:DTS} {s1:Stmt} {rest:List Stmt} (Fn:Fun K "law" "law" st f fd) (S:FnScope N [x] (defScope st)) (hs:defBody st = s1 :: rest) (hN:2 <= N.length)
  (h1:∀ (cdv:Value) (A:Around) (outer:List Env) (s:Shared) (H:Hp) (E:XK),Room k (A.deeper (envOfC "law" (defScope st) s.heap.objs.size f cdv)) -> PS (cxOf CX0 P w K mg base N "law" (defScope st) f cdv A outer s H E).nox s1 (tAsg (tCall (sp_pen K) [] E0 (tCons (tVar 0) tNil)) (gName 1)))
  (hb:∀ (cdv:Value) (A:Around) (outer:List Env) (s:Shared) (H:Hp) (E:XK),Room k (A.deeper (envOfC "law" (defScope st) s.heap.objs.size f cdv)) -> @PSsD _ Frm.free (cxOf CX0 P w K mg base N "law" (defScope st) f cdv A outer s H E).nox rest t)
  (hg:t { nx:=fun _=>False,rt:=fun d=>d = .bl true } (.nil :: .val .pen :: List.replicate (N.length - 2) .nil)):FnOk P w K mg base CX0 (k + 1) f fd [x] (spLaw K):=by
 refine Fn.ok S (fun vs H Q E h=>?_) (fun cdv A outer s H vs Q E hr h=>?_)
 ·obtain ⟨a,ns,rfl,_⟩:=h
  rfl
 ·obtain ⟨a,ns,rfl,hs',hT,h⟩:=h
  rw [hs]
  refine ⟨_,pss_cons (u:=fun D σ H'=>∃ p:Addr,@RSt _ Frm.free K ⟨some p,[],H'⟩ [] H' σ (.nil :: .val .pen :: List.replicate (N.length - 2) .nil) /\ ∀ H'',D.rt (.bl true) H'') (h1 cdv A outer s H E hr) ?_,?_⟩
  ·intro pins s' σ H' D I ⟨p,rs,q⟩
   obtain ⟨T,pT,run⟩:=hb cdv A outer s H E hr
   refine pT pins s' σ H' D I (run [] H' σ _ { nx:=fun _=>False,rt:=fun d=>d = .bl true } D rs ⟨fun _ _ _ _ _ _ q=>q.elim,fun _ _ _ _ _ _ q=>q.elim,fun _ _ _ _ _ _ q=>q.elim,fun M2 H2 σ2 ρ2 d v _ _ rd e=>?_⟩ hg)
   subst e
   simp only [Rep] at rd
   subst rd
   exact q H2
  ·refine ⟨.ref a,?_,a,ns,rfl,hs',fun p H' hp pen sm=>⟨p,⟨?_,fun i s o e1 e2=>?_,OwF.none (fun i s e1=>?_),fun a z=>by simp at z,.refl,fun a z=>by simp at z,⟨fun a z=>by simp at z,fun q e=>?_⟩,⟨trivial,hT.of fun b o e _=>sm b o e⟩⟩,h⟩⟩
   ·simp [L2.start]
   ·simp [L2.start]; omega
   ·match i,e1 with
    | 0,e1=>simp at e1; subst e1; trivial
    | 1,e1 =>
     simp at e1
     subst e1
     have hi:1 < (L2.start N [V.ref a]).length:=by simp [L2.start]; omega
     simp [hi] at e2
     subst e2
     refine ⟨_,rfl,?_⟩
     simp only [Rep]
     exact ⟨p,rfl,rfl,a,ns,0,0,pen⟩
    | i + 2,e1 =>
     have:=List.eq_of_mem_replicate (List.mem_of_getElem? (by simpa using e1))
     subst this
     trivial
   ·have:=List.mem_of_getElem? e1
    simp at this
    rcases this with rfl | rfl | ⟨_,rfl⟩ <;> exact ⟨fun ds z=>(by cases z),fun q z=>(by cases z)⟩
   ·cases e
    rw [pen.lst]; intro z; cases z
end DL
namespace DL
open PySem PySem.Spec L2
open PyProof.Rows hiding St
variable [TB]
variable [Frm]
mutual
def toPy:D -> PyData
 | .non=>.none
 | .bl b=>.bool b
 | .int i=>.int i
 | .str x=>.str x
 | .tup ds=>.tuple (toPys ds)
 | .lst ds=>.list (toPys ds)
 | .ty _=>.none
 | .dK _ _=>.none
 | .dT _ _=>.none
 | .pen=>.none
 | .exc _=>.none
 | .exa _ _=>.none
 | .cls _=>.none
def toPys:List D -> List PyData
 | []=>[]
 | d :: ds=>toPy d :: toPys ds
def pln:D -> Bool
 | .pen=>false
 | .exc _=>false
 | .exa _ _=>false
 | .cls _=>false
 | .ty _=>false
 | .dK _ _=>false
 | .dT _ _=>false
 | .tup ds=>plns ds
 | .lst ds=>plns ds
 | _=>true
def plns:List D -> Bool
 | []=>true
 | d :: ds=>pln d && plns ds
end
def eqD (x y:D):Bool:=PyData.eqv (toPy x) (toPy y)
def shp (d:D):Bool:=pln d && SeqAt.shaped (toPy d)
mutual
theorem reads_of {P:Program} {w:World} {K:PySem.W.Frag} {pp:Option Addr} {M:List Addr} {H:Hp} {h:Heap} (ok:HOk P w H h):∀ (d:D) (v:V) (u:Value),pln d = true -> Rep K pp M H d v -> RelV v u -> ∃ as,Reads h u (toPy d) as
 | .non,_,_,_,r,q=>by simp only [Rep] at r; subst r; cases q; exact ⟨_,.none⟩
 | .bl b,_,_,_,r,q=>by simp only [Rep] at r; subst r; cases q; exact ⟨_,.bool b⟩
 | .int i,_,_,_,r,q=>by simp only [Rep] at r; subst r; obtain ⟨t,rfl⟩:=q; exact ⟨_,.int i t⟩
 | .str x,_,_,_,r,q=>by simp only [Rep] at r; subst r; obtain ⟨t,rfl⟩:=q; exact ⟨_,.str x t⟩
 | .tup ds,_,_,p,r,q=>by
  simp only [Rep] at r
  obtain ⟨a,xs,rfl,ha,r⟩:=r
  cases q
  obtain ⟨_,its,vs,o,ho,hc,n,hd⟩:=ok a _ ha
  obtain ⟨as,z⟩:=readss_of ok ds xs its (by simpa only [pln] using p) r vs
  exact ⟨_,by rw [toPy]; exact .tuple ho hc hd (by simpa using z)⟩
 | .lst ds,_,_,p,r,q=>by
  simp only [Rep] at r
  obtain ⟨a,xs,rfl,_,_,ha,r⟩:=r
  cases q
  obtain ⟨_,its,n,vs,ho⟩:=ok a _ ha
  obtain ⟨as,z⟩:=readss_of ok ds xs its (by simpa only [pln] using p) r vs
  exact ⟨_,by rw [toPy]; exact .list ho rfl rfl (by simpa using z)⟩
 | .ty _,_,_,p,_,_=>by simp [pln] at p
 | .dK _ _,_,_,p,_,_=>by simp [pln] at p
 | .dT _ _,_,_,p,_,_=>by simp [pln] at p
 | .pen,_,_,p,_,_=>by simp [pln] at p
 | .exc _,_,_,p,_,_=>by simp [pln] at p
 | .exa _ _,_,_,p,_,_=>by simp [pln] at p
 | .cls _,_,_,p,_,_=>by simp [pln] at p
theorem readss_of {P:Program} {w:World} {K:PySem.W.Frag} {pp:Option Addr} {M:List Addr} {H:Hp} {h:Heap} (ok:HOk P w H h):∀ (ds:List D) (vs:List V) (us:List Value),plns ds = true -> Reps K pp M H ds vs -> Vals vs us -> ∃ as,ReadsAll h us (toPys ds) as
 | [],_,_,_,r,q=>by simp only [Reps] at r; subst r; cases q; exact ⟨_,.nil⟩
 | d :: ds,_,_,p,r,q=>by
  simp only [Reps] at r
  obtain ⟨x,r',rfl,r1,r2⟩:=r
  simp only [plns,Bool.and_eq_true] at p
  cases q with
  | cons q1 q2 =>
   obtain ⟨as,z1⟩:=reads_of ok d _ _ p.1 r1 q1
   obtain ⟨bs,z2⟩:=readss_of ok ds _ _ p.2 r2 q2
   exact ⟨_,by rw [toPys]; exact .cons z1 z2⟩
end
section
variable {X:Cx} {pp:Option Addr} {k:Nat}
def rEqD (K:PySem.W.Frag) (n:Bool):R2:=fun x y H Q=>∃ pp M dx dy,Rep K pp M H dx x /\ Rep K pp M H dy y /\ shp dx = true /\ shp dy = true /\ Q (.bl (if n then !eqD dx dy else eqD dx dy)) H
theorem op_eqD (hr:Room k X.A):OpR X (compareOp .Eq) (rEqD X.K false):=by
 intro pins s σ H x y v u Q I rx ry h
 obtain ⟨pp,M,dx,dy,r1,r2,s1,s2,q⟩:=h
 unfold shp at s1 s2
 rw [Bool.and_eq_true] at s1 s2
 obtain ⟨as,z1⟩:=reads_of I.hok dx x v s1.1 r1 rx
 obtain ⟨bs,z2⟩:=reads_of I.hok dy y u s2.1 r2 ry
 exact SeqAt.compareEq_shaped z1 z2 s1.2 s2.2 (by have:=hr.un; omega) (fin_bl I q rfl)
theorem op_neD (hr:Room k X.A):OpR X (compareOp .NotEq) (rEqD X.K true):=by
 intro pins s σ H x y v u Q I rx ry h
 obtain ⟨pp,M,dx,dy,r1,r2,s1,s2,q⟩:=h
 unfold shp at s1 s2
 rw [Bool.and_eq_true] at s1 s2
 obtain ⟨as,z1⟩:=reads_of I.hok dx x v s1.1 r1 rx
 obtain ⟨bs,z2⟩:=reads_of I.hok dy y u s2.1 r2 ry
 exact SeqAt.compareNe_shaped z1 z2 s1.2 s2.2 (by have:=hr.un; omega) (fin_bl I q rfl)
def gEq (n:Bool):D -> D -> (D -> Prop) -> Prop:=fun x y P=>(shp x = true /\ shp y = true) /\ P (.bl (if n then !eqD x y else eqD x y))
theorem od_eq (hr:Room k X.A):OpD X (compareOp .Eq) (gEq false) :=
 ⟨fun _ _ _ _ f h=>⟨h.1,f _ h.2⟩,_,op_eqD hr,fun {pp} M H x y v u Q _ rx ry h=>⟨pp,M,x,y,rx,ry,h.1.1,h.1.2,h.2 H _ .refl rep_bl⟩⟩
theorem od_ne (hr:Room k X.A):OpD X (compareOp .NotEq) (gEq true) :=
 ⟨fun _ _ _ _ f h=>⟨h.1,f _ h.2⟩,_,op_neD hr,fun {pp} M H x y v u Q _ rx ry h=>⟨pp,M,x,y,rx,ry,h.1.1,h.1.2,h.2 H _ .refl rep_bl⟩⟩
end
end DL
namespace DL
open PySem PySem.Spec L2
open PyProof.Rows hiding St
variable [TB]
variable [Frm]
section
variable {X:Cx} {F:Fx} {pp:Option Addr}
abbrev DO:=DS -> (Option Int -> DS -> Prop) -> Prop
structure POD (X:Cx) (e:Option Expr) (t:DO):Prop where
 mono:∀ ρ P P',(∀ b ρ',P b ρ' -> P' b ρ') -> t ρ P -> t ρ P'
 run:∃ T:TO,PO X e T /\ ∀ {F:Fx} M H σ ρ (Q:Option Int -> Hp -> Prop),RSt X.K F M H σ ρ ->
  (t ρ fun o ρ'=>∀ M' H',Mv X.K F.pp M H M' H' -> RSt X.K F M' H' σ ρ' -> Q o H') -> T σ H Q
abbrev doNone:DO:=fun ρ Q=>Q none ρ
abbrev doSome (te:DE):DO:=fun ρ Q=>te ρ fun d ρ'=>match d with
 | .int i=>Q (some i) ρ'
 | _=>False
theorem do_none:POD X none doNone:=⟨fun _ _ _ f h=>f _ _ h,_,po_none,fun {F} M H σ ρ Q rs h=>h M H .refl rs⟩
theorem do_some {e:Expr} {te:DE} (he:PED X e te):POD X (some e) (doSome te):=by
 obtain ⟨T,p,r⟩:=he.run
 refine ⟨fun _ _ _ f h=>he.mono _ _ _ (fun d _ h=>?_) h,_,po_some p,fun {F} M H σ ρ Q rs h=>r M H σ ρ _ rs (he.mono _ _ _ (fun d ρ' h M' H' v m rs' rd=>?_) h)⟩
 ·cases d <;> first | exact h.elim | exact f _ _ h
 ·cases d <;> first | exact h.elim | skip
  simp only [Rep] at rd
  exact ⟨_,rd,h M' H' m rs'⟩
def cutD (xs:List D) (lo hi:Option Int):List D:=(xs.drop (HT.sIx xs.length 0 lo)).take (HT.sIx xs.length xs.length hi - HT.sIx xs.length 0 lo)
theorem Reps.cut {K:PySem.W.Frag} {M:List Addr} {H:Hp} {ds:List D} {xs:List V} (lo hi:Option Int) (r:Reps K pp M H ds xs):Reps K pp M H (cutD ds lo hi) (cutV xs lo hi):=by
 unfold cutD cutV
 rw [r.length]
 exact (r.drop _).take _
end
end DL
namespace DL
open PySem PySem.Spec L2
open PyProof.Rows hiding St
variable [TB]
variable [Frm]
theorem dLoop_ind {g:DG} {b:DTS} {E:DEnds} {ds:List D} (N:DS -> Prop) (hn:∀ ρ,N ρ -> E.nx ρ)
  (hs:∀ d ∈ ds,∀ (ρ:DS) (X:DS -> Prop),N ρ -> (∀ ρ',N ρ' -> X ρ') -> g d ρ fun ρ1=>b { E with nx:=X,ct:=X,bk:=E.nx } ρ1):∀ ρ,N ρ -> dLoop g b ds E ρ:=by
 induction ds with
 | nil=>exact hn
 | cons d r ih=>exact fun ρ h=>hs d List.mem_cons_self ρ _ h (ih fun d hd=>hs d (List.mem_cons_of_mem _ hd))
theorem dLoop_pre {g:DG} {b:DTS} {E:DEnds} {ds:List D} (N:List D -> DS -> Prop) (hn:∀ ρ,N ds ρ -> E.nx ρ)
  (hs:∀ (pre:List D) (d:D) (post:List D) (ρ:DS) (X:DS -> Prop),ds = pre ++ d :: post -> N pre ρ -> (∀ ρ',N (pre ++ [d]) ρ' -> X ρ') -> g d ρ fun ρ1=>b { E with nx:=X,ct:=X,bk:=E.nx } ρ1) (ρ:DS) (h:N [] ρ):dLoop g b ds E ρ:=by
 have key:∀ (post pre:List D),ds = pre ++ post -> ∀ ρ,N pre ρ -> dLoop g b post E ρ:=by
  intro post
  induction post with
  | nil=>intro pre e ρ h; rw [List.append_nil] at e; subst e; exact hn ρ h
  | cons d r ih=>intro pre e ρ h; exact hs pre d r ρ _ e h (ih (pre ++ [d]) (by rw [e,List.append_assoc]; rfl))
 exact key ds [] rfl ρ h
theorem dWhile_ind {c:DT} {b:DTS} {E:DEnds} (N:DS -> Prop) (μ:DS -> Nat)
  (hs:∀ (ρ:DS) (X:DS -> Prop),N ρ -> (∀ ρ',N ρ' -> μ ρ' < μ ρ -> X ρ') -> c ρ fun k ρ'=>Br k (b { E with nx:=X,ct:=X,bk:=E.nx } ρ') (E.nx ρ')) (ρ:DS) (h:N ρ):dWhile c b E ρ:=by
 have key:∀ n ρ,N ρ -> μ ρ < n -> dWhileN c b n E ρ:=by
  intro n
  induction n with
  | zero=>intro ρ _ h; exact absurd h (Nat.not_lt_zero _)
  | succ n ih=>intro ρ h hl; exact hs ρ _ h fun ρ' h' hl'=>ih ρ' h' (by omega)
 exact ⟨_,key _ ρ h (Nat.lt_succ_self _)⟩
theorem atI_lt {α:Type} {xs:List α} {r:Int} (h0:0 <= r) (h1:r < xs.length):∃ d,atI xs r = some d /\ xs[r.toNat]? = some d:=by
 obtain ⟨j,rfl⟩:=Int.eq_ofNat_of_zero_le h0
 have hj:j < xs.length:=by omega
 exact ⟨xs[j],atI_nat (by simp [hj]),by simp [hj]⟩
theorem opt_mem {xs:List D} {r:Int} {Q:D -> Prop} (h0:0 <= r) (h1:r < xs.length) (h:∀ d ∈ xs,Q d):opt (atI xs r) Q:=by
 obtain ⟨d,e,e2⟩:=atI_lt h0 h1
 rw [e]
 exact h d (List.mem_of_getElem? e2)
theorem opt_at {xs:List D} {r:Int} {d:D} {Q:D -> Prop} (h0:0 <= r) (e:xs[r.toNat]? = some d) (h:Q d):opt (atI xs r) Q:=by
 obtain ⟨j,rfl⟩:=Int.eq_ofNat_of_zero_le h0
 rw [atI_nat (show xs[j]? = some d from e)]
 exact h
theorem cpow {i j:Int} (h:0 <= j /\ j <= 1000000 /\ i.natAbs < 2 ^ 64:=by decide):CPow i j:=h
theorem sz {n:Nat} (h:Nat.ble n 1000 = true:=by rfl):n <= sizeLine:=Nat.le_trans (Nat.le_of_ble_eq_true h) (by decide)
theorem eqD_int {i j:Int}:eqD (.int i) (.int j) = decide (i = j):=by
 show (i == j) = _
 by_cases h:i = j <;> simp [h]
end DL
namespace DL
open PySem PySem.Spec L2
open PyProof.Rows hiding St
variable [TB]
variable [Frm]
def Bd (n:Nat) (i:Int):Prop:=i.natAbs < 2 ^ n
theorem Bd.mono {m n:Nat} {i:Int} (h:Bd m i) (l:m <= n):Bd n i:=Nat.lt_of_lt_of_le h (Nat.pow_le_pow_right (by decide) l)
theorem Bd.mul {m n:Nat} {i j:Int} (h:Bd m i) (q:Bd n j):Bd (m + n) (i * j):=by
 unfold Bd at *
 rw [Int.natAbs_mul,Nat.pow_add]
 exact Nat.mul_lt_mul'' h q
theorem Bd.add {m n:Nat} {i j:Int} (h:Bd m i) (q:Bd n j):Bd (max m n + 1) (i + j):=by
 have h1:=h.mono (Nat.le_max_left m n)
 have h2:=q.mono (Nat.le_max_right m n)
 unfold Bd at *
 rw [Nat.pow_succ]
 omega
theorem Bd.sub {m n:Nat} {i j:Int} (h:Bd m i) (q:Bd n j):Bd (max m n + 1) (i - j):=by
 have h1:=h.mono (Nat.le_max_left m n)
 have h2:=q.mono (Nat.le_max_right m n)
 unfold Bd at *
 rw [Nat.pow_succ]
 omega
theorem Bd.le {m:Nat} {i j:Int} (h:Bd m j) (l:i.natAbs <= j.natAbs):Bd m i:=Nat.lt_of_le_of_lt l h
theorem Bd.big {m:Nat} {i:Int} (h:Bd m i) (l:m <= 8000):Big i:=big_of (h.mono l)
theorem Bd.cmul {m n:Nat} {i j:Int} (h:Bd m i) (q:Bd n j) (l:m <= 8000:=by decide) (l':n <= 8000:=by decide):CMulB i j:=.inr (.inr ⟨h.big l,q.big l'⟩)
theorem bd_lit {i:Int} {n:Nat} (h:i.natAbs < 2 ^ n:=by decide):Bd n i:=h
end DL
namespace DL
open PySem PySem.Spec L2
open PyProof.Rows hiding St
variable [TB]
variable [Frm]
def gGcd:DSp:=fun ds Q=>match ds with
 | [.int a,.int b]=>Q (.int (Int.gcd a b:Nat))
 | _=>False
theorem mono_gcd:MonoS gGcd:=fun ds P P' f h=>by
 unfold gGcd at h ⊢
 split at h
 ·exact f _ h
 ·exact h.elim
def gRatio:DSp:=fun ds Q=>match ds with
 | [.int a,.int b]=>(b ≠ 0 /\ Bd 7000 a /\ Bd 7000 b) /\ ∀ x y,Ra.Low a b x y -> Q (.tup [.int x,.int y])
 | _=>False
theorem mono_ratio:MonoS gRatio:=fun ds P P' f h=>by
 unfold gRatio at h ⊢
 split at h
 ·exact ⟨h.1,fun x y l=>f _ (h.2 x y l)⟩
 ·exact h.elim
def gRR (t b:Int -> Int -> Int -> Int -> Int):DSp:=fun ds Q=>match ds with
 | [.tup [.int a,.int b'],.tup [.int c,.int d]]=>(b a b' c d ≠ 0 /\ Bd 3000 a /\ Bd 3000 b' /\ Bd 3000 c /\ Bd 3000 d) /\ ∀ x y,Ra.Low (t a b' c d) (b a b' c d) x y -> Q (.tup [.int x,.int y])
 | _=>False
theorem mono_rr {t b:Int -> Int -> Int -> Int -> Int}:MonoS (gRR t b):=fun ds P P' f h=>by
 unfold gRR at h ⊢
 split at h
 ·exact ⟨h.1,fun x y l=>f _ (h.2 x y l)⟩
 ·exact h.elim
def gPlus:DSp:=gRR (fun a b c d=>a * d + c * b) (fun _ b _ d=>b * d)
def gMinus:DSp:=gRR (fun a b c d=>a * d - c * b) (fun _ b _ d=>b * d)
def gTimes:DSp:=gRR (fun a _ c _=>a * c) (fun _ b _ d=>b * d)
def gOver:DSp:=gRR (fun a _ _ d=>a * d) (fun _ b c _=>b * c)
def gLess:DSp:=fun ds Q=>match ds with
 | [.tup [.int a,.int b],.tup [.int c,.int d]]=>(Bd 7000 a /\ Bd 7000 b /\ Bd 7000 c /\ Bd 7000 d) /\ Q (.bl (decide (a * d < c * b)))
 | _=>False
theorem mono_less:MonoS gLess:=fun ds P P' f h=>by
 unfold gLess at h ⊢
 split at h
 ·exact ⟨h.1,f _ h.2⟩
 ·exact h.elim
end DL
namespace DL
open PySem PySem.Spec L2
open PyProof.Rows hiding St
variable [TB]
def cleanS:Sl -> Sl
 | .own _=>.nil
 | .obj _=>.nil
 | s=>s
theorem cleanS_free (s:Sl):(∀ ds,cleanS s ≠ .own ds) /\ ∀ q,cleanS s ≠ .obj q:=by
 cases s <;> exact ⟨fun ds z=>(by cases z),fun q z=>(by cases z)⟩
def clean (ρ:DS):DS:=ρ.map cleanS
def subD1 (ρ:DS):Option Nat -> Sl
 | none=>.nil
 | some j=>cleanS (slot ρ j)
def subD (js:List (Option Nat)) (ρ:DS):DS:=js.map (subD1 ρ)
def dColl (g:DG) (tc:DT) (te:DE):List D -> List D -> DS -> (List D -> Prop) -> Prop
 | [],acc,_,Q=>Q acc
 | d :: r,acc,ρ,Q=>g d ρ fun ρ1=>tc ρ1 fun b ρ2=>Br b (te ρ2 fun y ρ3=>acc.length < sizeLine /\ dColl g tc te r (acc ++ [y]) (clean ρ3) Q) (dColl g tc te r acc (clean ρ2) Q)
abbrev dComp (t:DA) (js:List (Option Nat)) (g:DG) (tc:DT) (te:DE):DA:=fun ρ Q=>t ρ fun ds ρ1=>dColl g tc te ds [] (subD js ρ1) fun ys=>Q ys ρ1
def delH (H:Hp) (a:Addr):Hp:=fun b=>if b = a then none else H b
theorem delH_same {H:Hp} {a:Addr}:delH H a a = none:=by simp [delH]
theorem delH_ne {H:Hp} {a b:Addr} (h:b ≠ a):delH H a b = H b:=by simp [delH,h]
theorem Tabs.del {H:Hp} {l:Addr} {o:HO} (h:Tabs H) (hl:H l = some o) (ht:¬ TF o):Tabs (delH H l) :=
 h.of fun b x e tf=>by
  rw [delH_ne]
  ·exact e
  ·rintro rfl
   rw [hl] at e; cases e
   exact ht tf
theorem upd_delH {H:Hp} {a:Addr} {o:HO} (h:H a = some o):upd (delH H a) a o = H:=by
 funext b
 by_cases e:b = a
 ·subst e; rw [upd_same,h]
 ·rw [upd_ne e,delH_ne e]
section
variable {X:Cx} {F:Fx} {K:PySem.W.Frag} {pp:Option Addr}
theorem RSt.rebase {M:List Addr} {H:Hp} {σ:St} {ρ:DS} (r:RSt K F M H σ ρ):RSt K ⟨F.pp,M,H⟩ M H σ (clean ρ):=by
 refine ⟨by simp [clean,r.len],fun i s o h1 h2=>?_,OwF.none (fun i s h1=>?_),fun a h=>h,.refl,r.liv.m,r.liv0,⟨trivial,r.lk.t⟩⟩
 ·simp only [clean,List.getElem?_map] at h1
  cases q:ρ[i]? with
  | none=>rw [q] at h1; cases h1
  | some s' =>
   rw [q] at h1
   cases h1
   have:=r.sl i s' o q h2
   cases s' with
   | nil=>trivial
   | val d=>exact this
   | pin w d=>exact this
   | own ds=>trivial
   | obj q=>trivial
 ·simp only [clean,List.getElem?_map] at h1
  cases q:ρ[i]? with
  | none=>rw [q] at h1; cases h1
  | some s' =>
   rw [q] at h1
   cases h1
   exact cleanS_free s'
theorem RSt.writeFree {M:List Addr} {H:Hp} {σ:St} {ρ:DS} {D:Addr} {xs ys:List V} (r:RSt K ⟨F.pp,M,H⟩ M H σ (clean ρ)) (hD:D ∈ M) (hp:F.pp ≠ some D) (h:H D = some (.lst xs)) :
  RSt K ⟨F.pp,M,upd H D (.lst ys)⟩ M (upd H D (.lst ys)) σ (clean ρ):=by
 have m:Mv K F.pp M H M (upd H D (.lst ys)):=.write h hD hp
 have lv:Lv0 F.pp M (upd H D (.lst ys)):=by
  refine ⟨fun a ha=>?_,fun p e=>?_⟩
  ·by_cases z:a = D
   ·subst z; rw [upd_same]; intro z; cases z
   ·rw [upd_ne z]; exact r.liv.m a ha
  ·by_cases z:p = D
   ·subst z; rw [upd_same]; intro z; cases z
   ·rw [upd_ne z]; exact r.liv.p p e
 refine ⟨r.len,fun i s o h1 h2=>?_,OwF.none (fun i s h1=>?_),fun a h=>h,.refl,lv.m,lv,⟨trivial,m.tb r.lk.t⟩⟩
 rotate_left
 ·simp only [clean,List.getElem?_map] at h1
  cases q:ρ[i]? with
  | none=>rw [q] at h1; cases h1
  | some s' =>
   rw [q] at h1
   cases h1
   exact cleanS_free s'
 have q:=r.sl i s o h1 h2
 cases s with
 | nil=>trivial
 | val d=>obtain ⟨v,e,q⟩:=q; exact ⟨v,e,q.mv m⟩
 | pin w d=>obtain ⟨v,e,ew,q⟩:=q; exact ⟨v,e,ew,q.mv m⟩
 | obj z=>exact q
 | own ds =>
  exfalso
  simp only [clean,List.getElem?_map] at h1
  cases q:ρ[i]? with
  | none=>rw [q] at h1; cases h1
  | some s'=>rw [q] at h1; cases s' <;> cases h1
theorem clean_clean (ρ:DS):clean (clean ρ) = clean ρ:=by
 simp only [clean,List.map_map]
 refine List.map_congr_left fun s _=>?_
 cases s <;> rfl
theorem subD_clean (js:List (Option Nat)) (ρ:DS):clean (subD js ρ) = subD js ρ:=by
 simp only [clean,subD,List.map_map]
 refine List.map_congr_left fun o _=>?_
 cases o with
 | none=>rfl
 | some j=>simp only [Function.comp,subD1]; cases slot ρ j <;> rfl
theorem RSt.block {M:List Addr} {H:Hp} {σ:St} {ρ:DS} {D:Addr} (r:RSt K F M H σ ρ) (js:List (Option Nat)) (hD:H D = none) :
  RSt K ⟨F.pp,D :: M,upd H D (.lst [])⟩ (D :: M) (upd H D (.lst [])) (L2.sub js σ) (subD js ρ):=by
 have m:Mv K F.pp M H (D :: M) (upd H D (.lst [])):=.newOwn hD
 have lv:Lv0 F.pp (D :: M) (upd H D (.lst [])):=by
  refine ⟨fun a ha=>?_,fun p e=>(SameP.new (K:=K) (pp:=F.pp) hD).live p (r.liv.p p e)⟩
  rcases List.mem_cons.mp ha with rfl | ha
  ·rw [upd_same]; intro z; cases z
  ·exact (SameP.new (K:=K) (pp:=F.pp) hD).live a (r.liv.m a ha)
 refine ⟨by simp [L2.sub,subD],fun i s o h1 h2=>?_,OwF.none (fun i s h1=>?_),fun a h=>h,.refl,lv.m,lv,⟨trivial,m.tb r.lk.t⟩⟩
 ·simp only [subD,List.getElem?_map] at h1
  simp only [L2.sub,List.getElem?_map] at h2
  cases q:js[i]? with
  | none=>rw [q] at h1; cases h1
  | some jo =>
   rw [q] at h1 h2
   cases h1
   cases h2
   cases jo with
   | none=>trivial
   | some j =>
    show RSl K _ _ _ (cleanS (slot ρ j)) _
    cases e:slot ρ j with
    | nil=>trivial
    | own ds=>trivial
    | obj q=>trivial
    | val d =>
     obtain ⟨o,ho,v,rfl,hr⟩:=r.at (slot_get e (by intro z; cases z))
     exact ⟨v,by simp [sub1,ho],hr.mv m⟩
    | pin w d =>
     obtain ⟨o,ho,v,rfl,ew,hr⟩:=r.at (slot_get e (by intro z; cases z))
     exact ⟨v,by simp [sub1,ho],ew,hr.mv m⟩
 ·simp only [subD,List.getElem?_map] at h1
  cases q:js[i]? with
  | none=>rw [q] at h1; cases h1
  | some jo =>
   rw [q] at h1
   cases jo with
   | none=>cases h1; exact ⟨fun ds z=>(by cases z),fun q z=>(by cases z)⟩
   | some j =>
    cases h1
    exact cleanS_free (slot ρ j)
structure PTsD (X:Cx) (ifs:List Expr) (t:DT):Prop where
 mono:∀ ρ P P',(∀ b ρ',P b ρ' -> P' b ρ') -> t ρ P -> t ρ P'
 run:∃ T:TT,PTs X ifs T /\ ∀ {F:Fx} M H σ ρ (Q:Bool -> Hp -> Prop),RSt X.K F M H σ ρ ->
  (t ρ fun b ρ'=>∀ M' H',Mv X.K F.pp M H M' H' -> RSt X.K F M' H' σ ρ' -> Q b H') -> T σ H Q
abbrev dNoTest:DT:=fun ρ Q=>Q true ρ
theorem dts_nil:PTsD X [] dNoTest:=⟨fun _ _ _ f h=>f _ _ h,_,pts_nil,fun {F} M H σ ρ Q rs h=>h M H .refl rs⟩
theorem dts_one {c:Expr} {t:DT} (h:PTD X c t):PTsD X [c] t:=by
 obtain ⟨T,p,r⟩:=h.run
 exact ⟨h.mono,T,pts_one p,r⟩
structure PCD (X:Cx) (e:Expr) (t:DA):Prop where
 mono:∀ ρ P P',(∀ d ρ',P d ρ' -> P' d ρ') -> t ρ P -> t ρ P'
 run:∃ T:TE,PE X e T /\ (∀ (i:Nat) (y:Str) (py spos:Pos),X.N.Nodup -> X.N[i]? = some y -> X.env.scope.names.lookup y = some .local -> swapsWith e (some (.Name y py)) spos.line X.env = pure true -> PS X (.Assign [.Name y py] e spos) (tAsg T (gName i))) /\
  ∀ {F:Fx} M H σ ρ (Q:VK),RSt X.K F M H σ ρ ->
  (t ρ fun ds ρ'=>∀ M' H1 H' l xs,Mv X.K F.pp M H M' H1 -> RSt X.K F M' H1 σ ρ' -> H1 l = none -> H' = upd H1 l (.lst xs) -> Reps X.K F.pp M' H1 ds xs -> Q (.ref l) H') -> T σ H Q
theorem PCD.pld {e:Expr} {t:DA} (h:PCD X e t):PLD X e t:=by
 obtain ⟨T,p,_,r⟩:=h.run
 exact ⟨h.mono,T,p,r⟩
theorem dColl_mono {g:DG} {tc:DT} {te:DE} (hg:∀ d ρ P P',(∀ ρ',P ρ' -> P' ρ') -> g d ρ P -> g d ρ P') (hc:∀ ρ P P',(∀ b ρ',P b ρ' -> P' b ρ') -> tc ρ P -> tc ρ P') (he:∀ ρ P P',(∀ d ρ',P d ρ' -> P' d ρ') -> te ρ P -> te ρ P') {Q Q':List D -> Prop} (f:∀ ys,Q ys -> Q' ys) :
  ∀ (ds acc:List D) (ρ:DS),dColl g tc te ds acc ρ Q -> dColl g tc te ds acc ρ Q'
 | [],acc,ρ,h=>f _ h
 | d :: r,acc,ρ,h=>hg _ _ _ _ (fun ρ1 h=>hc _ _ _ (fun b ρ2 h=>⟨fun e=>he _ _ _ (fun y ρ3 h=>⟨h.1,dColl_mono hg hc he f r _ _ h.2⟩) (h.yes e),fun e=>dColl_mono hg hc he f r _ _ (h.no e)⟩) h) h
theorem dl_comp {tg elt iter:Expr} {ifs:List Expr} {scope:Scope} {cl:List (Str × Addr)} {N':List Str} {js:List (Option Nat)} {pos:Pos} {t:DA} {g:DG} {tc:DT} {te:DE}
  (hc:X.calm = true) (hclo:closeL X.env.cells scope.names [] = some cl) (hdis:∀ y ∈ scope.names,y.2 = .free -> (y.1,NameKind.cell) ∉ scope.names) (hkind:scope.kind = .function) (cap:Cap X scope N' js)
  (hnames:∀ y ∈ scope.names,y.2 = .local -> scope.names.lookup y.1 = some .local) (hi:PID X tg iter t)
  (hg:∀ B:Blk,PGD (cxB X scope cl N' B) tg g) (ht:∀ B:Blk,PTsD (cxB X scope cl N' B) ifs tc) (he:∀ B:Blk,PED (cxB X scope cl N' B) elt te)
  (hs:∀ v,foldedSetIterable iter X.env v = pure v:=by intro _; rfl):PCD X (.ListComp elt [⟨tg,iter,ifs,0⟩] scope pos) (dComp t js g tc te):=by
 obtain ⟨wi,pi,ri⟩:=hi.run
 have hb:∀ B:Blk,PG (cxB X scope cl N' B) tg (Classical.choose (hg B).run) /\ PTs (cxB X scope cl N' B) ifs (Classical.choose (ht B).run) /\ PE (cxB X scope cl N' B) elt (Classical.choose (he B).run):=fun B =>
  ⟨(Classical.choose_spec (hg B).run).1,(Classical.choose_spec (ht B).run).1,(Classical.choose_spec (he B).run).1⟩
 let B0:Blk:=⟨0,X.s₀,X.H₀,[],[]⟩
 refine ⟨fun _ _ _ f h=>hi.mono _ _ _ (fun ds ρ1 h=>dColl_mono (hg B0).mono (ht B0).mono (he B0).mono (fun ys h=>f _ _ h) _ _ _ h) h,_,pe_comp hc hclo hdis hkind cap hnames pi hb hs,fun i y py spos hN hy hl hsw=>ps_comp hN hy hl hc hclo hdis hkind cap hnames pi hb hsw hs,fun {F} M H σ ρ Q rs h=>?_⟩
 refine ri M H σ ρ _ rs (hi.mono _ _ _ (fun ds ρ1 h M1 H1 J m1 rs1 ok=>?_) h)
 intro B Dl hD
 obtain ⟨_,rg⟩:=Classical.choose_spec (hg B).run
 obtain ⟨_,rt⟩:=Classical.choose_spec (ht B).run
 obtain ⟨_,re⟩:=Classical.choose_spec (he B).run
 have fr:=rs1.liv.fresh hD
 have m3:Mv X.K F.pp M1 H1 (Dl :: M1) (upd H1 Dl (.lst [])):=.newOwn hD
 refine ⟨fun i m σ' H'=>∃ M' ρ' acc ys,m = ds.length - i /\ i <= ds.length /\ Mv X.K F.pp M1 H1 M' H' /\ SameP X.K F.pp H1 H' /\ RSt X.K ⟨F.pp,M',H'⟩ M' H' σ' (clean ρ') /\ Dl ∈ M' /\ (∀ a ∈ M1,a ∈ M') /\ H' Dl = some (.lst ys) /\ Reps X.K F.pp M' H' acc ys /\
  dColl g tc te (ds.drop i) acc (clean ρ') fun ys=>∀ M' H1 H' l xs,Mv X.K F.pp M H M' H1 -> RSt X.K F M' H1 σ ρ1 -> H1 l = none -> H' = upd H1 l (.lst xs) -> Reps X.K F.pp M' H1 ys xs -> Q (.ref l) H',
  ⟨ds.length,Dl :: M1,subD js ρ1,[],[],rfl,Nat.zero_le _,m3,.new hD,by rw [subD_clean]; exact rs1.block js hD,List.mem_cons_self,fun a ha=>List.mem_cons_of_mem _ ha,upd_same,.nil,by rw [subD_clean]; exact h⟩,?_⟩
 rintro i m σ' H' ⟨M',ρ',acc,ys,rfl,hil,mv,sm,rs',hDm,hsub,hDl,ra,hcoll⟩
 by_cases hlt:i < ds.length
 ·have e1:ds[i]? = some ds[i]:=by simp [hlt]
  rw [List.drop_eq_getElem_cons hlt] at hcoll
  refine .inr ⟨ok.go M' H' mv i hlt,fun σ2 H2=>∃ M2 ρ2 acc ys,Mv X.K F.pp M1 H1 M2 H2 /\ SameP X.K F.pp H1 H2 /\ RSt X.K ⟨F.pp,M2,H2⟩ M2 H2 σ2 (clean ρ2) /\ Dl ∈ M2 /\ (∀ a ∈ M1,a ∈ M2) /\ H2 Dl = some (.lst ys) /\ Reps X.K F.pp M2 H2 acc ys /\
   dColl g tc te (ds.drop (i + 1)) acc (clean ρ2) fun ys=>∀ M' H1 H' l xs,Mv X.K F.pp M H M' H1 -> RSt X.K F M' H1 σ ρ1 -> H1 l = none -> H' = upd H1 l (.lst xs) -> Reps X.K F.pp M' H1 ys xs -> Q (.ref l) H',
   fun σ2 H2 ⟨M2,ρ2,acc,ys,a1,a2,a3,a4,a5,a6,a7,a8⟩=>⟨ds.length - (i + 1),by omega,M2,ρ2,acc,ys,rfl,hlt,a1,a2,a3,a4,a5,a6,a7,a8⟩,fun y H2 yl=>?_⟩
  obtain ⟨sp,rx⟩:=ok.yld M' H' mv i _ y H2 e1 yl
  have rs'':RSt X.K ⟨F.pp,M',H2⟩ M' H2 σ' (clean ρ'):=by
   have:=(rs'.sameP sp).rebase
   rw [clean_clean] at this
   exact this
  have mv2:=mv.trans (sp.mv (M:=M'))
  have sm2:=sm.trans sp
  have ra2:=ra.mv (sp.mv (M:=M'))
  have hDl2:H2 Dl = some (.lst ys):=sp.keep Dl _ hDl (nw fr.2)
  refine rg M' H2 σ' (clean ρ') _ _ _ rs'' rx ((hg B).mono _ _ _ _ (fun ρ3 h3 M3 H3 σ3 m3 rs3=>?_) hcoll)
  refine rt M3 H3 σ3 ρ3 _ rs3 ((ht B).mono _ _ _ (fun b ρ4 h4 M4 H4 m4 rs4=>?_) h3)
  -- what stands behind a step within this turn
  have keep:∀ {M5:List Addr} {H5:Hp} {σ5:St} {ρ5:DS},Mv X.K F.pp M' H2 M5 H5 -> RSt X.K ⟨F.pp,M',H2⟩ M5 H5 σ5 ρ5 -> Mv X.K F.pp M1 H1 M5 H5 /\ SameP X.K F.pp H1 H5 /\ RSt X.K ⟨F.pp,M5,H5⟩ M5 H5 σ5 (clean ρ5) /\ Dl ∈ M5 /\ (∀ a ∈ M1,a ∈ M5) /\ H5 Dl = some (.lst ys) /\ Reps X.K F.pp M5 H5 acc ys:=fun mm rr =>
   ⟨mv2.trans mm,sm2.trans rr.sameT,rr.rebase,rr.sub _ hDm,fun a ha=>rr.sub _ (hsub a ha),rr.same.keep Dl _ hDl2 (nw fr.2),ra2.mv mm⟩
  cases b with
  | false =>
   refine iteF ?_
   obtain ⟨a1,a2,a3,a4,a5,a6,a7⟩:=keep (m3.trans m4) rs4
   exact ⟨M4,ρ4,acc,ys,a1,a2,a3,a4,a5,a6,a7,h4.no rfl⟩
  | true =>
   refine iteT (re M4 H4 σ3 ρ4 _ rs4 ((he B).mono _ _ _ (fun y ρ5 h5 M5 H5 v m5 rs5 r5=>?_) (h4.yes rfl)))
   obtain ⟨a1,a2,a3,a4,a5,a6,a7⟩:=keep ((m3.trans m4).trans m5) rs5
   have mw:Mv X.K F.pp M5 H5 M5 (upd H5 Dl (.lst (ys ++ [v]))):=.write a6 a4 fr.2
   refine ⟨ys,a6,by rw [← a7.length]; exact h5.1,M5,ρ5,acc ++ [y],ys ++ [v],a1.trans mw,?_,a3.writeFree a4 fr.2 a6,a4,a5,upd_same,(a7.append (.one r5)).mv mw,h5.2⟩
   refine ⟨⟨fun b o e n=>?_,fun p e hp=>mw.pen p e (a2.pen p e hp),fun b hb=>?_⟩,fun tb=>mw.tb (a2.tb tb)⟩
   ·rw [upd_ne (by rintro rfl; rw [hD] at e; cases e)]
    exact a2.keep b o e n
   ·by_cases z:b = Dl
    ·subst z; rw [upd_same]; intro z; cases z
    ·rw [upd_ne z]; exact a2.live b hb
 ·have e:i = ds.length:=by omega
  refine .inl ⟨ok.stop M' H' mv i (by omega),?_⟩
  have hd:ds.drop i = []:=by rw [List.drop_eq_nil_iff]; omega
  rw [hd] at hcoll
  have sd:SameP X.K F.pp H1 (delH H' Dl):=by
   refine ⟨⟨fun b o e n=>?_,fun p e hp=>?_,fun b hb=>?_⟩,fun tb=>(sm.tb tb).del hDl ntf_lst⟩
   ·rw [delH_ne (by rintro rfl; rw [hD] at e; cases e)]
    exact sm.keep b o e n
   ·obtain ⟨a,ns,t,l,pn⟩:=sm.pen p e hp
    have np:p ≠ Dl:=by rintro rfl; exact fr.2 e
    refine ⟨a,ns,t,l,by rw [delH_ne np]; exact pn.lst,?_,pn.t0⟩
    rcases pn.scr with ⟨o,q⟩ | q
    ·exact .inl ⟨o,by rw [delH_ne (ne_of q hDl (by intro z; cases z))]; exact q⟩
    ·exact .inr q
   ·rw [delH_ne (by rintro rfl; exact hb hD)]
    exact sm.live b hb
  have md:Mv X.K F.pp M' H' M1 (delH H' Dl):=by
   refine ⟨fun a xs q=>by rw [delH_ne (ne_of q hDl (by intro z; cases z))]; exact q,fun a o q n p=>⟨by rw [delH_ne (by rintro rfl; exact n hDm)]; exact q,fun z=>n (hsub a z)⟩,fun p e hp=>?_,fun tb=>tb.del hDl ntf_lst⟩
   obtain ⟨a,ns,t,l,pn⟩:=hp
   have np:p ≠ Dl:=by rintro rfl; exact fr.2 e
   refine ⟨a,ns,t,l,by rw [delH_ne np]; exact pn.lst,?_,pn.t0⟩
   rcases pn.scr with ⟨o,q⟩ | q
   ·exact .inl ⟨o,by rw [delH_ne (ne_of q hDl (by intro z; cases z))]; exact q⟩
   ·exact .inr q
  exact hcoll M1 (delH H' Dl) H' Dl ys (m1.trans sd.mv) (rs1.sameP sd) delH_same (upd_delH hDl).symm (ra.mv md)
theorem ds_setC {e:Expr} {t:DA} {i:Nat} {y:Str} {py pos:Pos} (hN:X.N.Nodup) (hy:X.N[i]? = some y) (hl:X.env.scope.names.lookup y = some .local) (h:PCD X e t) (hsw:swapsWith e (some (.Name y py)) pos.line X.env = pure true:=by rfl):PSD X (.Assign [.Name y py] e pos) (dSet i (dFrz t)):=by
 obtain ⟨T,_,p,r⟩:=h.run
 refine ⟨_,p i y py pos hN hy hl hsw,fun {F} M H σ ρ E D rs o q=>r M H σ ρ _ rs (h.mono _ _ _ (fun ds ρ1 q M1 H1 H' l xs m1 rs1 hl e r1=>?_) q)⟩
 subst e
 refine o.nx M1 _ _ _ (m1.trans (.new hl)) ((rs1.sameP (.new hl)).set ?_ i) q
 simp only [Rep]
 exact ⟨l,xs,rfl,(rs1.liv.fresh hl).1,(rs1.liv.fresh hl).2,upd_same,r1.mv (.new hl)⟩
end
end DL
namespace L2
open PySem PySem.Spec PyProof.Rows
section
variable {X:Cx} {tg:Expr}
theorem call_sum (hc:X.calm = true):CallR X (.builtin "sum") (fun xs H Q=>∃ (p:Addr) (ns:List Int),xs = [.ref p] /\ SqL X.K H p (ns.map V.int) /\ Q (.int ns.sum) H):=by
 intro pins s σ H xs us Q I r h
 obtain ⟨p,ns,rfl,hl,q⟩:=h
 obtain ⟨u,rfl,e⟩:=vals1 r
 cases e
 obtain ⟨its,rv,pl,_⟩:=I.list hl
 have hi:IntsAre its ns:=intsAre_of rv
 obtain ⟨ps,e⟩:=hi.allInts.items
 have il:=pl.isList
 rw [e] at il
 refine sum_intListG (I.ok.hd hc) il fun h' tk t' hk=>⟨.int ns.sum,H,I.kept hk,⟨t',?_⟩,q⟩
 have e2:numsOf its = ns:=hi.numsOf
 have e3:=nums_intItems ps
 rw [← e] at e3
 have e4:ps.toList.map (·.1) = ns:=by rw [← e3,← e2]
 rw [preSum_eq,List.take_of_length_le (by simp),e4]
def iSeq (K:PySem.W.Frag) (tl:TE):TI:=fun σ H R=>tl σ H fun x H1=>(∃ a,x = .ref a /\ (∃ xs,SqL K H1 a xs) /\ R (Itl K a) H1) ∨ (∃ a,x = .ref a /\ (∃ xs,SqT K H1 a xs) /\ R (Itt K a) H1)
theorem pi_seq {l:Expr} {tl:TE} (hl:PE X l tl):PI X tg l (iSeq X.K tl):=by
 intro pins s σ H R I h
 refine thn (hl pins s σ H _ I h) fun v s1 ⟨x,H1,I1,r1,q1⟩=>?_
 rcases q1 with ⟨a,rfl,⟨xs,hq⟩,q⟩ | ⟨a,rfl,⟨xs,hq⟩,q⟩
 ·cases r1
  obtain ⟨its,rv,p,hz⟩:=I1.list hq
  refine wpAny_pyIter_list p.isList ⟨s1.heap.objs.size,[s1.heap.objs.size],_,_,H1,rfl,I1.kept (t':=s1.toks) (fun b o e=>Heap.get?_push_of_some _ e),turn_list a _,⟨_,Heap.get?_push_size _ rfl,rfl,rfl⟩,fun b hb=>?_,q⟩
  rw [show b = s1.heap.objs.size by simpa using hb]
  exact I1.fpOk (Nat.le_refl _) (I1.hok.fresh (Nat.le_refl _))
 ·cases r1
  obtain ⟨its,rv,p,hz⟩:=I1.tuple hq
  refine wpAny_pyIter_tuple (show s1.heap.IsTuple a its.toArray from p) ⟨s1.heap.objs.size,[s1.heap.objs.size],_,_,H1,rfl,I1.kept (t':=s1.toks) (fun b o e=>Heap.get?_push_of_some _ e),turn_tuple a _,⟨_,Heap.get?_push_size _ rfl,rfl,rfl⟩,fun b hb=>?_,q⟩
  rw [show b = s1.heap.objs.size by simpa using hb]
  exact I1.fpOk (Nat.le_refl _) (I1.hok.fresh (Nat.le_refl _))
end
end L2
namespace DL
open PySem PySem.Spec L2
open PyProof.Rows hiding St
variable [TB]
variable [Frm]
section
variable {X:Cx}
def intsOf:List D -> Option (List Int)
 | []=>some []
 | .int i :: r=>(intsOf r).map (i :: ·)
 | _=>none
theorem intsOf_map:∀ ns:List Int,intsOf (ns.map D.int) = some ns
 | []=>rfl
 | n :: r=>by simp [intsOf,intsOf_map r]
theorem intsOf_eq:∀ {ds:List D} {ns:List Int},intsOf ds = some ns -> ds = ns.map D.int
 | [],ns,h=>by cases h; rfl
 | .int i :: r,ns,h=>by
  simp only [intsOf,Option.map_eq_some_iff] at h
  obtain ⟨ms,h,rfl⟩:=h
  rw [intsOf_eq h]; rfl
theorem reps_ints {K:PySem.W.Frag} {pp:Option Addr} {M:List Addr} {H:Hp}:∀ {ns:List Int} {xs:List V},Reps K pp M H (ns.map D.int) xs -> xs = ns.map V.int
 | [],xs,h=>by simpa only [List.map_nil,Reps] using h
 | n :: r,xs,h=>by
  simp only [List.map_cons,Reps,Rep] at h
  obtain ⟨x,t,rfl,rfl,h⟩:=h
  rw [reps_ints h]; rfl
def gSum:DSp:=fun ds P=>match ds with
 | [.lst xs]=>match intsOf xs with
  | some ns=>P (.int ns.sum)
  | none=>False
 | _=>False
theorem gSum_of {ns:List Int} {P:D -> Prop} (h:P (.int ns.sum)):gSum [.lst (ns.map D.int)] P:=by
 unfold gSum
 simp only [intsOf_map]
 exact h
theorem gSum_inv {ds:List D} {P:D -> Prop} (h:gSum ds P):∃ ns:List Int,ds = [.lst (ns.map D.int)] /\ P (.int ns.sum):=by
 unfold gSum at h
 split at h
 ·rename_i xs
  cases e:intsOf xs with
  | none=>rw [e] at h; exact h.elim
  | some ns =>
   rw [e] at h
   exact ⟨ns,by rw [intsOf_eq e],h⟩
 ·exact h.elim
theorem cd_sum (hc:X.calm = true:=by rfl):CallD X (.builtin "sum") gSum:=by
 refine ⟨fun ds P P' f h=>?_,_,call_sum hc,fun {pp} M H ds vs Q _ r h=>?_⟩
 ·obtain ⟨ns,rfl,h2⟩:=gSum_inv h
  exact gSum_of (f _ h2)
 ·obtain ⟨ns,rfl,h2⟩:=gSum_inv h
  simp only [Reps,Rep] at r
  obtain ⟨x,_,rfl,⟨a,ys,rfl,_,_,ha,ry⟩,rfl⟩:=r
  refine ⟨a,ns,rfl,SqL.of (by rw [ha,reps_ints ry]),h2 H _ .refl rep_int⟩
abbrev diAny (te:DE):DA:=fun ρ Q=>te ρ fun d ρ'=>match d with
 | .lst ds=>Q ds ρ'
 | .tup ds=>Q ds ρ'
 | _=>False
theorem di_any {tg l:Expr} {te:DE} (hl:PED X l te):PID X tg l (diAny te):=by
 obtain ⟨T,p,r⟩:=hl.run
 refine ⟨fun _ _ _ f h=>hl.mono _ _ _ (fun d _ h=>?_) h,_,pi_seq p,fun {F} M H σ ρ R rs h=>r M H σ ρ _ rs (hl.mono _ _ _ (fun d ρ' h M' H' v m rs' rd=>?_) h)⟩
 ·cases d <;> first | exact h.elim | exact f _ _ h
 ·cases d <;> first | exact h.elim | skip
  all_goals simp only [Rep] at rd
  case tup ds =>
   obtain ⟨a,xs,rfl,ha,rd⟩:=rd
   refine .inr ⟨a,rfl,⟨xs,SqT.of ha⟩,h M' H' _ m rs' (ItOkV.of (vs:=xs) ⟨fun M2 H2 m2 i x H3 _ y=>?_,fun M2 H2 m2 i hi=>?_,fun M2 H2 m2 i hi=>?_⟩ rd)⟩
   ·exact ⟨y.1,y.2 xs (SqT.of (m2.tup a xs ha))⟩
   ·exact ⟨xs,xs[i],SqT.of (m2.tup a xs ha),by simp [hi]⟩
   ·exact ⟨xs,SqT.of (m2.tup a xs ha),hi⟩
  case lst ds =>
   obtain ⟨a,xs,rfl,hm,hp,ha,rd⟩:=rd
   refine .inl ⟨a,rfl,⟨xs,SqL.of ha⟩,h M' H' _ m rs' (ItOkV.of (vs:=xs) ⟨fun M2 H2 m2 i x H3 _ y=>?_,fun M2 H2 m2 i hi=>?_,fun M2 H2 m2 i hi=>?_⟩ rd)⟩
   ·exact ⟨y.1,y.2 xs (SqL.of (m2.lst a xs ha hm hp).1)⟩
   ·exact ⟨xs,xs[i],SqL.of (m2.lst a xs ha hm hp).1,by simp [hi]⟩
   ·exact ⟨xs,SqL.of (m2.lst a xs ha hm hp).1,hi⟩
end
theorem dColl_pre {g:DG} {tc:DT} {te:DE} {ds:List D} {Q:List D -> Prop} (N:List D -> List D -> DS -> Prop) (hn:∀ acc ρ,N ds acc ρ -> Q acc)
  (hs:∀ (pre:List D) (d:D) (post acc:List D) (ρ:DS) (Y:List D -> DS -> Prop),ds = pre ++ d :: post -> N pre acc ρ -> (∀ acc' ρ',N (pre ++ [d]) acc' (clean ρ') -> Y acc' ρ') ->
   g d ρ fun ρ1=>tc ρ1 fun b ρ2=>Br b (te ρ2 fun y ρ3=>acc.length < sizeLine /\ Y (acc ++ [y]) ρ3) (Y acc ρ2)) (ρ:DS) (h:N [] [] ρ):dColl g tc te ds [] ρ Q:=by
 have key:∀ (post pre acc:List D),ds = pre ++ post -> ∀ ρ,N pre acc ρ -> dColl g tc te post acc ρ Q:=by
  intro post
  induction post with
  | nil=>intro pre acc e ρ h; rw [List.append_nil] at e; subst e; exact hn acc ρ h
  | cons d r ih=>intro pre acc e ρ h; exact hs pre d r acc ρ (fun acc' ρ'=>dColl g tc te r acc' (clean ρ') Q) e h (fun acc' ρ' h'=>ih (pre ++ [d]) acc' (by rw [e,List.append_assoc]; rfl) _ h')
 exact key ds [] [] rfl ρ h
theorem dColl_map {g:DG} {te:DE} {ds:List D} {Q:List D -> Prop} (f:D -> D) (N:DS -> Prop) (hl:ds.length <= sizeLine)
  (hs:∀ d ∈ ds,∀ (ρ:DS) (Y:D -> DS -> Prop) (Z:DS -> Prop),N ρ -> (∀ ρ',N (clean ρ') -> Y (f d) ρ') -> g d ρ fun ρ1=>dNoTest ρ1 fun b ρ2=>Br b (te ρ2 Y) (Z ρ2)) (ρ:DS) (h:N ρ) (hq:Q (ds.map f)):dColl g dNoTest te ds [] ρ Q:=by
 refine dColl_pre (fun pre acc ρ=>acc = pre.map f /\ N ρ) (fun acc ρ h=>by rw [h.1]; exact hq) (fun pre d post acc ρ Y e hN hY=>?_) ρ ⟨rfl,h⟩
 obtain ⟨rfl,hN⟩:=hN
 have hlt:(pre.map f).length < sizeLine:=by
  rw [List.length_map]
  have:ds.length = pre.length + (post.length + 1):=by rw [e]; simp
  omega
 refine hs d (by rw [e]; simp) ρ (fun y ρ3=>(pre.map f).length < sizeLine /\ Y (pre.map f ++ [y]) ρ3) (fun ρ2=>Y (pre.map f) ρ2) hN fun ρ' h'=>⟨hlt,hY _ ρ' ⟨by simp,h'⟩⟩
end DL
namespace DL
open PySem PySem.Spec L2
open PyProof.Rows hiding St
variable [TB]
variable [Frm]
structure Shp (n:Nat) (d:D):Prop where
 p:pln d = true
 c:(toPy d).canLay0 = true
 d:(toPy d).depth <= n
theorem Shp.mono {m n:Nat} {d:D} (h:Shp m d) (l:m <= n):Shp n d:=⟨h.p,h.c,Nat.le_trans h.d l⟩
theorem Shp.shp {n:Nat} {d:D} (h:Shp n d) (l:n <= 64:=by decide):shp d = true:=by
 unfold DL.shp SeqAt.shaped
 rw [h.p,h.c,decide_eq_true (Nat.le_trans h.d l)]; rfl
theorem Shp.int {i:Int} {n:Nat}:Shp n (.int i):=⟨rfl,rfl,Nat.zero_le _⟩
theorem Shp.bl {i:Bool} {n:Nat}:Shp n (.bl i):=⟨rfl,rfl,Nat.zero_le _⟩
theorem Shp.non {n:Nat}:Shp n .non:=⟨rfl,rfl,Nat.zero_le _⟩
theorem shp_all {n:Nat}:∀ {ds:List D},(∀ d ∈ ds,Shp n d) -> plns ds = true /\ PyData.canLayAll0 (toPys ds) = true /\ PyData.depthAll (toPys ds) <= n
 | [],_=>⟨rfl,rfl,Nat.zero_le _⟩
 | d :: ds,h=>by
  obtain ⟨a,b,c⟩:=shp_all (ds:=ds) fun x hx=>h x (List.mem_cons_of_mem _ hx)
  have q:=h d List.mem_cons_self
  refine ⟨by simp only [plns,q.p,a,Bool.and_self],by simp only [toPys,PyData.canLayAll0,q.c,b,Bool.and_self],?_⟩
  simp only [toPys,PyData.depthAll]
  exact Nat.max_le.mpr ⟨q.d,c⟩
theorem Shp.tup {n:Nat} {ds:List D} (h:∀ d ∈ ds,Shp n d):Shp (n + 1) (.tup ds):=by
 obtain ⟨a,b,c⟩:=shp_all h
 exact ⟨by simp only [pln,a],by simp only [toPy,PyData.canLay0,b],by simp only [toPy,PyData.depth]; omega⟩
theorem Shp.lst {n:Nat} {ds:List D} (h:∀ d ∈ ds,Shp n d):Shp (n + 1) (.lst ds):=by
 obtain ⟨a,b,c⟩:=shp_all h
 exact ⟨by simp only [pln,a],by simp only [toPy,PyData.canLay0,b],by simp only [toPy,PyData.depth]; omega⟩
theorem eqD_self {d:D} (h:shp d = true):eqD d d = true:=by
 unfold shp at h
 rw [Bool.and_eq_true] at h
 exact SeqAt.eqv_refl _ (SeqAt.canLay_of_shaped h.2)
theorem Shp.pair {n:Nat} {i j:Int}:Shp (n + 1) (.tup [.int i,.int j]):=.tup fun d hd=>by
 simp only [List.mem_cons,List.not_mem_nil,or_false] at hd
 rcases hd with rfl | rfl <;> exact .int
end DL
namespace DL
open PySem PySem.Spec L2
open PyProof.Rows hiding St
variable [TB]
def WL [Frm] (K:PySem.W.Frag):St -> XK:=fun σ C od H=>∃ F M ρ Ca,(C = .ref Ca /\ od = none) /\ RSt K F M H σ ρ /\ Frm.W ρ Ca
def Xk [Frm] (X:Cx):Prop:=∀ e s',XF X (WL X.K) e s' -> X.xe e s'
theorem xk_free {X:Cx} : @Xk _ Frm.free X:=fun _ _ ⟨_,_,_,_,_,_,_,_,_,_,_,_,_,_,_,_,w⟩=>w.elim
theorem xf_unwish {X:Cx} {E:Value -> Shared -> Prop} {W:St -> XK} {e:Value} {s':Shared} (h:XF (X.wish E) W e s'):XF X W e s' :=
 let ⟨ea,C,dd,B,σ,H,a,b,c,d,f⟩:=h
 ⟨ea,C,dd,B,σ,H,a,b,⟨c.old,c.trk,c.pin⟩,d.unwish,f⟩
theorem xk_wish [Frm] {X:Cx}:Xk (X.wish (XF X (WL X.K))):=fun _ _ h=>xf_unwish h
abbrev DSpE:=List D -> (D -> Prop) -> (Addr -> Prop) -> Prop
def spDE (K:PySem.W.Frag) (n:Nat) (g:DSpE):Sp:=fun vs H Q E=>∃ pp M ds,Lv pp M H /\ Reps K pp M H ds vs /\ ds.length = n /\ g ds (fun d=>∀ H' v,SameP K pp H H' -> Rep K pp M H' d v -> Q v H') (fun C=>∀ H',SameP K pp H H' -> E (.ref C) none H')
def MonoE (g:DSpE):Prop:=∀ ds P P' W W',(∀ d,P d -> P' d) -> (∀ C,W C -> W' C) -> g ds P W -> g ds P' W'
abbrev dCallE (n:Nat) (g:DSpE) (W:DS -> Addr -> Prop) (t:DA):DE:=fun ρ Q=>t ρ fun ds ρ1=>ds.length = n /\ g ds (fun d=>Q d ρ1) (W ρ1)
abbrev dRaise (C:Addr) (W:DS -> Addr -> Prop) (t:DA):DTS:=fun _ ρ=>t ρ fun ds ρ1=>ds.length <= 1000 /\ W ρ1 C
section
variable [Frm] {X:Cx} {x:Str} {p pos np cpos:Pos} {e:Expr} {es:List Expr} {t:DA} {g:DSpE} {W:DS -> Addr -> Prop}
theorem de_callE {k n:Nat} {f:Addr} {fd:FuncData} {ps:List Str} (Fn:FnOk X.prog X.w X.K X.mg X.base (CXE X.prog X.w) k f fd ps (spDE X.K n g)) (gm:MonoE g) (hx:Xk X) (hW:W = Frm.W) (hr:Room k X.A) (hg:Gl X x) (hm:X.mg x = some (.ref f)) (hk:PySem.W.keepIn X.K (.ref f) = true) (hb:Binds X.K fd ps [])
  (ha:PAD X (e :: es) t) (hdb:(x == ("__debug__" : Str)) = false:=by decide) (he:starEach (e :: es) X.env = (false,eval e X.env) :: starEach es X.env:=by rfl) (hpl:(backTo pos (starEach es X.env)).any (·.1) = false:=by rfl) :
  PED X (.Call (.Name x p) (e :: es) [] pos) (dCallE n g W t):=by
 subst hW
 obtain ⟨T,pa,ra⟩:=ha.run
 refine ⟨fun _ _ _ f q=>ha.mono _ _ _ (fun _ _ q=>⟨q.1,gm _ _ _ _ _ (fun _ q=>f _ _ q) (fun _ q=>q) q.2⟩) q,tCallE (spDE X.K n g) [] (WL X.K) T,fun pins s σ H Q I h=>?_,fun {F} M H σ ρ Q rs q=>?_⟩
 ·refine wpAny_Call_Name_kw (ld_glob I hg hm ?_ hdb)
  refine PySem.W.callWith_K (h₀:=X.base) I.ok.mod.kin hk (thn (pa pos pins s σ H _ I h) fun us s1 ⟨vs,H1,I1,r,q⟩=>⟨I1.kIn,?_⟩) he hpl
  exact run_fnE Fn hr hb .nil hx I1 r q
 ·refine ra M H σ ρ _ rs (ha.mono _ _ _ (fun ds ρ1 q M1 H1 vs m1 rs1 r1=>?_) q)
  rw [List.append_nil]
  exact ⟨F.pp,M1,ds,rs1.liv,r1,q.1,gm _ _ _ _ _ (fun d q H' w s r=>q M1 H' w (m1.trans s.mv) (rs1.sameP s) r) (fun C w H' s=>⟨F,M1,ρ1,C,⟨rfl,rfl⟩,rs1.sameP s,w⟩) q.2⟩
theorem ds_raise {C:Addr} (c:Exc X.K C) (hc:X.calm = true) (hg:Gl X x) (hm:X.mg x = some (.ref C)) (hx:Xk X) (hW:W = Frm.W) (ha:PAD X (e :: es) t)
  (he:starEach (e :: es) X.env = (false,eval e X.env) :: starEach es X.env:=by rfl) (hplain:(backTo cpos (starEach es X.env)).any (·.1) = false:=by rfl)
  (hd:(x == ("__debug__" : Str)) = false:=by decide):PSD X (.Raise (some (.Call (.Name x np) (e :: es) [] cpos)) none pos) (dRaise C W t):=by
 subst hW
 obtain ⟨T,pa,ra⟩:=ha.run
 refine ⟨_,ps_raise c hc hg hm hx pa he hplain hd,fun {F} M H σ ρ E D rs o q=>?_⟩
 refine ra M H σ ρ _ rs (ha.mono _ _ _ (fun ds ρ1 q M1 H1 vs m1 rs1 r1=>?_) q)
 refine ⟨?_,F,M1,ρ1,C,⟨rfl,rfl⟩,rs1,q.2⟩
 rw [← r1.length]
 exact Nat.le_trans q.1 (by decide)
end
theorem fnDE {P:Program} {w:World} {K:PySem.W.Frag} {mg:Str -> Option Value} {base:Heap} {x qual:Str} {st:Stmt} {f:Addr} {fd:FuncData} {N ps:List Str} {k:Nat} {g:DSpE} {t:(DS -> Addr -> Prop) -> DTS} (Fn:Fun K x qual st f fd) (S:FnScope N ps (defScope st))
  (hb:∀ (fr:Frm) (W:DS -> Addr -> Prop) (hW:W = fr.W) (cdv:Value) (A:Around) (outer:List Env) (s:Shared) (H:Hp) (E:XK),Room k (A.deeper (envOfC qual (defScope st) s.heap.objs.size f cdv)) ->
   PSsD ((cxOf (CXE P w) P w K mg base N qual (defScope st) f cdv A outer s H E).wish (XF (cxOf (CXE P w) P w K mg base N qual (defScope st) f cdv A outer s H E) (WL K))) (defBody st) (t W))
  (hg:∀ ds Q W,ds.length = ps.length -> g ds Q W -> t (fun _ C=>W C) { nx:=fun _=>Q .non,rt:=Q } (dstart N.length ds)):FnOk P w K mg base (CXE P w) (k + 1) f fd ps (spDE K ps.length g):=by
 obtain ⟨oc,od,kV,doc,pm,an,cdv,ct,osl,rfl,lk,hcd⟩:=Fn.ex
 refine fn_of lk hcd S (fun vs H Q E h=>?_) fun A outer s H vs Q E hr h=>?_
 ·obtain ⟨pp,M,ds,_,r,e,_⟩:=h
  rw [← r.length,e]
 ·obtain ⟨pp,M,ds,lv,r,e,h⟩:=h
  let fr:Frm:=⟨fun _ F _ _=>F = ⟨pp,M,H⟩,fun _ C=>∀ H',SameP K pp H H' -> E (.ref C) none H',fun _ _ _ _ _ _ h _=>h⟩
  obtain ⟨T,p,run⟩:=hb fr _ rfl cdv A outer s H E hr
  refine ⟨T,fun pins s1 σ1 H1 D I q=>wpAny_mono (p pins s1 σ1 H1 D (I.wish _) q) (fun _ _ q=>q.unwish) fun e s' z=>xf_leave (z.mono fun σ' C dd H' ⟨F,M',ρ,Ca,⟨e1,e0⟩,rs,w⟩=>?_),run M H _ _ _ _ (rst_start lv r rfl) ⟨fun M' H' σ' ρ' m rs q=>?_,fun _ _ _ _ _ _ q=>q,fun _ _ _ _ _ _ q=>q,fun M' H' σ' ρ' d v m rs rd q=>?_⟩ (hg ds _ _ e h)⟩
  ·subst e1 e0
   have e2:F = ⟨pp,M,H⟩:=rs.lk.l
   subst e2
   exact w H' rs.sameT
  ·exact q H' .non rs.sameT (by simp only [Rep])
  ·exact q H' v rs.sameT (rd.mv (.less rs.sub))
section
variable [fr0:Frm] {X:Cx} {body suite:List Stmt} {b0:Stmt} {n x:Str} {np hpos pos:Pos} {C0:Addr} {i:Nat} {tb:(DS -> Addr -> Prop) -> DTS} {th:DTS} {K:PySem.W.Frag}
theorem relink {fr1 fr2:Frm} {K:PySem.W.Frag} {F:Fx} {M:List Addr} {H:Hp} {σ:St} {ρ:DS} (r : @RSt _ fr1 K F M H σ ρ) (l:fr2.L K F M H) : @RSt _ fr2 K F M H σ ρ:=by
 obtain ⟨a,b,c,d,e,f,g,lt⟩:=r
 exact @RSt.mk _ fr2 K F M H σ ρ a b c d e f g (@Lk.mk _ fr2 K F M H l (@Lk.t _ fr1 K F M H lt))
theorem link_of {fr1:Frm} {K:PySem.W.Frag} {F:Fx} {M:List Addr} {H:Hp} {σ:St} {ρ:DS} (r : @RSt _ fr1 K F M H σ ρ):fr1.L K F M H:=by
 obtain ⟨_,_,_,_,_,_,_,l⟩:=r
 exact @Lk.l _ fr1 K F M H l
theorem eo_of {fr1 fr2:Frm} {K:PySem.W.Frag} {F:Fx} {M:List Addr} {H:Hp} {E:DEnds} {D:Ends} (o : @EO _ fr1 K F M H E D) (h:∀ M' H' σ' ρ',@RSt _ fr2 K F M' H' σ' ρ' -> @RSt _ fr1 K F M' H' σ' ρ') : @EO _ fr2 K F M H E D:=by
 obtain ⟨nx,bk,ct,rt⟩:=o
 exact @EO.mk _ fr2 K F M H E D (fun _ _ _ _ m r q=>nx _ _ _ _ m (h _ _ _ _ r) q) (fun _ _ _ _ m r q=>bk _ _ _ _ m (h _ _ _ _ r) q) (fun _ _ _ _ m r q=>ct _ _ _ _ m (h _ _ _ _ r) q) (fun _ _ _ _ _ _ m r d q=>rt _ _ _ _ _ _ m (h _ _ _ _ r) d q)
@[reducible] def frTry (F:Fx) (M:List Addr) (H:Hp) (W:DS -> Addr -> Prop):Frm :=
 ⟨fun K' F' M' H'=>F' = F /\ Mv K' F.pp M H M' H',W,fun K' F' M1 H1 M2 H2 h m=>⟨h.1,h.2.trans (by rw [h.1] at m; exact m)⟩⟩
end
section
variable [Frm] {X:Cx} {x:Str} {pos:Pos}
end
end DL
namespace L2
open PySem PySem.Spec PyProof.Rows
section
variable {X:Cx} {tg:Expr}
end
end L2
namespace DL
open PySem PySem.Spec L2
open PyProof.Rows hiding St
variable [TB]
variable [Frm]
section
variable {X:Cx}
end
omit [Frm] in
theorem Br.dn {p:Prop} [Decidable p] {A B:Prop} (h:¬p) (b:B):Br (decide p) A B:=⟨fun z=>absurd (of_decide_eq_true z) h,fun _=>b⟩
omit [Frm] in
theorem Br.dt {p:Prop} [Decidable p] {A B:Prop} (h:p) (a:A):Br (decide p) A B:=⟨fun _=>a,fun z=>absurd h (of_decide_eq_false z)⟩
omit [Frm] in
theorem Br.di {p:Prop} [Decidable p] {A B:Prop} (a:p -> A) (b:¬p -> B):Br (decide p) A B:=⟨fun z=>a (of_decide_eq_true z),fun z=>b (of_decide_eq_false z)⟩
theorem dLoop_up {g:DG} {b:DTS} {E:DEnds} (N:Int -> DS -> Prop):∀ (n:Nat) (lo:Int),(∀ ρ,N (lo + n) ρ -> E.nx ρ) ->
  (∀ (k:Int) (ρ:DS) (X:DS -> Prop),lo <= k -> k < lo + n -> N k ρ -> (∀ ρ',N (k + 1) ρ' -> X ρ') -> g (.int k) ρ fun ρ1=>b { E with nx:=X,ct:=X,bk:=E.nx } ρ1) -> ∀ ρ,N lo ρ -> dLoop g b (intsD lo n) E ρ
 | 0,lo,hn,_,ρ,h=>hn ρ (by simpa using h)
 | n + 1,lo,hn,hs,ρ,h=>hs lo ρ _ (Int.le_refl _) (by omega) h fun ρ' h'=>dLoop_up N n (lo + 1) (fun ρ h=>hn ρ (by rw [show lo + ((n + 1:Nat):Int) = lo + 1 + (n:Int) by omega]; exact h)) (fun k ρ X h1 h2=>hs k ρ X (by omega) (by omega)) ρ' h'
end DL
namespace L2
open PySem PySem.Spec PyProof.Rows
section
variable {X:Cx} {pins:List (Addr × Obj)} {σ:St} {H:Hp} {s:Shared} {h':Heap}
theorem Inv.turnedN {ch:List Addr} {T:Addr} {o:HO} {t':Nat} (I:Inv X pins σ H s) (hf:∀ b ∈ ch,FpOk X pins H b) (k:∀ b u,b ∉ ch -> s.heap.get? b = some u -> h'.get? b = some u) (hT:s.heap.objs.size <= T)
  (new:ObjOk X.prog X.w (upd H T o) h' T o):Inv X pins σ (upd H T o) { s with heap:=h',toks:=t' }:=by
 have hn:=I.hok.fresh hT
 refine I.call' (s':={ s with heap:=h',toks:=t' }) (ch:=ch) rfl ⟨fun b u q _ _ hx=>k b u hx q,fun b u q _ _ hx=>⟨u.slots,k b u hx q⟩,fun b u q n _=>?_,fun b u q hx=>⟨u,k b u hx q⟩,fun b xs e=>?_,fun b p u e=>?_,fun b ps e=>⟨#[],?_⟩⟩ (fun a q e=>?_) I.bare
  (fun b hb=>⟨(hf b hb).2.2.2.1,(hf b hb).2.1,(hf b hb).2.2.2.2.1,(hf b hb).2.2.2.2.2⟩)
 ·rw [upd_ne (Nat.ne_of_lt (Nat.lt_of_lt_of_le (Heap.lt_size q) hT))]; exact n
 ·rw [upd_ne (by rintro rfl; rw [hn] at e; cases e)]; exact e
 ·rw [upd_ne (by rintro rfl; rw [hn] at e; cases e)]; exact e
 ·rw [upd_ne (by rintro rfl; rw [hn] at e; cases e)]; simpa using e
 ·by_cases z:a = T
  ·subst z
   rw [upd_same] at e
   cases e
   exact new
  ·rw [upd_ne z] at e
   refine ObjOk.stay (I.hok a q e) (fun b u hb q'=>k b u (fun hc=>?_) q') (fun b hb=>?_) (fun b xs hb=>?_)
   ·have:=(hf b hc).1
    rcases hb with rfl | hb
    ·rw [this] at e; cases e
    ·rw [this] at hb; cases hb
   ·rw [upd_ne (by rintro rfl; rw [hn] at hb; cases hb)]; exact hb
   ·rw [upd_ne (by rintro rfl; rw [hn] at hb; cases hb)]; exact hb
theorem Inv.turnedL {ch:List Addr} {t':Nat} (I:Inv X pins σ H s) (hf:∀ b ∈ ch,FpOk X pins H b) (k:∀ b u,b ∉ ch -> s.heap.get? b = some u -> h'.get? b = some u):Inv X pins σ H { s with heap:=h',toks:=t' }:=by
 refine I.call' (s':={ s with heap:=h',toks:=t' }) (ch:=ch) rfl ⟨fun b u q _ _ hx=>k b u hx q,fun b u q _ _ hx=>⟨u.slots,k b u hx q⟩,fun b u q n _=>n,fun b u q hx=>⟨u,k b u hx q⟩,fun b xs e=>e,fun b p u e=>e,fun b ps e=>⟨#[],by simpa using e⟩⟩ (fun a q e=>?_) I.bare
  (fun b hb=>⟨(hf b hb).2.2.2.1,(hf b hb).2.1,(hf b hb).2.2.2.2.1,(hf b hb).2.2.2.2.2⟩)
 refine ObjOk.stay (I.hok a q e) (fun b u hb q'=>k b u (fun hc=>?_) q') (fun b hb=>hb) (fun b xs hb=>hb)
 have:=(hf b hc).1
 rcases hb with rfl | hb
 ·rw [this] at e; cases e
 ·rw [this] at hb; cases hb
end
def Ite (K:PySem.W.Frag) (a:Addr):It :=
 ⟨fun i H=>∃ xs x,SqL K H a xs /\ xs[i]? = some x,fun i H x H'=>∃ T y,H T = none /\ x = .ref T /\ (∀ xs,SqL K H a xs -> xs[i]? = some y) /\ H' = upd H T (.tup [.int i,y]),fun i H=>∃ xs,SqL K H a xs /\ xs.length <= i⟩
theorem not_list {h:Heap} {a b:Addr} {its:Array Value} {o:Obj} {n:String} (hl:h.IsList a its) (ho:h.get? b = some o) (hc:o.cls = .type n) (hn:n ≠ "list"):a ≠ b:=by
 rintro rfl
 obtain ⟨o',e,c,_⟩:=hl
 rw [ho] at e
 cases e
 rw [hc] at c
 cases c
 exact hn rfl
theorem turn_enum {P:Program} {w:World} {K:PySem.W.Frag} {elts:List Expr} {k:Nat} {tp:Pos} (a e it:Addr) (hei:e ≠ it):Turn P w K (.Tuple elts k tp) (Ite K a) [e,it] e (fun i h=>(∃ old,IsEnum h e it i old) /\ h.IsListIter it a i) where
 mem:=by simp
 obj:=fun i h st b hb=>by
  obtain ⟨⟨old,he⟩,ho⟩:=st
  rcases List.mem_cons.mp hb with rfl | hb
  ·exact ⟨_,he,fun v z=>by
    have z':Data.fields _ = Data.cell v:=z
    cases z'⟩
  ·have:b = it:=by simpa using hb
   subst this
   obtain ⟨o,eo,c,d⟩:=ho
   exact ⟨o,eo,fun v z=>by rw [d] at z; cases z⟩
 keep:=fun i h h' st k=>⟨let ⟨old,he⟩:=st.1; ⟨old,k e (by simp) _ he⟩,st.2.at fun o x=>k it (by simp) o x⟩
 item:=by
  intro X hP hw hK hc i pins s σ H E I hf st hg
  subst hP hw hK
  obtain ⟨xs,x,hq,hx⟩:=hg
  obtain ⟨its,rv,p,hz⟩:=I.list hq
  obtain ⟨u,hu,ru⟩:=rv.get hx
  obtain ⟨⟨old,he⟩,hit⟩:=st
  have hae:a ≠ e:=not_list p.isList he rfl (by decide)
  have hai:a ≠ it:=by
   obtain ⟨o,eo,c,d⟩:=id hit
   exact not_list p.isList eo c (by decide)
  have W:=WalksT.enumerate (prog:=X.prog) (w:=X.w) (I.ok.hd hc) e it a hei hae hai its.toArray
  have hi:i < its.toArray.size:=by
   have:=(List.getElem?_eq_some_iff.mp hu).1
   simpa using this
  refine W.item i s _ _ hi ⟨⟨old,he⟩,hit,p.isList⟩ fun T vals h1 tk hP hT hIs hMid hk=>?_
  obtain ⟨t,z,hz',rfl⟩:=hP
  have ezu:z = u:=by
   have:its.toArray[i]? = some u:=by simpa using hu
   rw [this] at hz'
   cases hz'
   rfl
  subst ezu
  have ap:=W.apart i T h1 hMid
  refine ⟨_,rfl,W.go elts k tp i T { s with heap:=h1,toks:=tk } _ _ hMid fun h2 st2 hk2=>?_⟩
  obtain ⟨st21,st22,_⟩:=st2
  have I2:Inv X pins σ (upd H T (.tup [.int i,x])) { s with heap:=h2,toks:=tk }:=by
   refine I.turnedN (ch:=[e,it]) hf (fun b o hb q=>hk2 b o hb (hk b o hb q)) hT ⟨?_,[.int i t,z],.cons ⟨t,rfl⟩ (.cons ru .nil),?_⟩
   ·show 2 <= sizeLine
    decide
   ·obtain ⟨o,eo,r⟩:=hIs
    exact ⟨o,hk2 T o ap eo,r⟩
  refine ⟨.ref T,_,I2,rfl,⟨T,x,I.hok.fresh hT,rfl,fun ys hy=>by rw [I.list_inj hy hq]; exact hx,rfl⟩,⟨by simpa using st21,st22⟩,fun b hb=>?_⟩
  have fb:=hf b hb
  rw [upd_ne]
  ·exact fb.1
  ·rintro rfl
   exact ap hb
 done:=by
  intro X hP hw hK hc i pins s σ H E I hf st hg
  subst hP hw hK
  obtain ⟨xs,hq,hx⟩:=hg
  obtain ⟨its,rv,p,hz⟩:=I.list hq
  obtain ⟨⟨old,he⟩,hit⟩:=st
  have hl:=rv.length
  refine wpAny_pyNext_enum_end (I.ok.hd hc) he hit p.isList (by simp; omega) fun h1 hx1=>⟨rfl,?_⟩
  exact I.turnedL (t':=s.toks) (ch:=[e,it]) hf fun b o hb q=>hx1 b o (fun z=>hb (by simp [z])) q
 self:=fun _ _ _ _ _ st h=>let ⟨_,he⟩:=st.1; wpAny_pyIter_enum he h
theorem boot_enum:bootBuiltins "enumerate" = some (.type "enumerate"):=by decide +kernel
theorem boot_zip:bootBuiltins "zip" = some (.type "zip"):=by decide +kernel
section
variable {X:Cx}
def iEnum (K:PySem.W.Frag) (ta:TA):TI:=fun σ H R=>ta σ H fun vs H1=>∃ a,vs = [.ref a] /\ (∃ xs,SqL K H1 a xs) /\ R (Ite K a) H1
theorem pi_enum {l:Expr} {ta:TA} {p pos tp:Pos} {elts:List Expr} {k:Nat} (hg:Gl X "enumerate") (hm:X.mg "enumerate" = none) (ha:PA X [l] ta) (he:starEach [l] X.env = (false,eval l X.env) :: starEach [] X.env:=by rfl) (hpl:(backTo pos (starEach [] X.env)).any (·.1) = false:=by rfl) :
  PI X (.Tuple elts k tp) (.Call (.Name "enumerate" p) [l] [] pos) (iEnum X.K ta):=by
 intro pins s σ H R I h
 refine Call_ (ld_blt I hg hm boot_enum (PyProof.Rows.callWith_type1 (thn (ha pos pins s σ H _ I h) fun us s1 ⟨vs,H1,I1,r1,q1⟩=>?_) he hpl))
 obtain ⟨a,e,⟨xs,hq⟩,q⟩:=q1
 subst e
 obtain ⟨u,rfl,ru⟩:=r1.one
 cases ru
 obtain ⟨its,rv,pl,hz⟩:=I1.list hq
 refine call_enumerate_list pl.isList fun h1 hE hit hsz hk=>?_
 refine wpAny_pyIter_enum hE ?_
 have ne:s1.heap.objs.size + 1 ≠ s1.heap.objs.size:=by omega
 refine ⟨_,[s1.heap.objs.size + 1,s1.heap.objs.size],_,Ite X.K a,H1,rfl,I1.kept (t':=s1.toks) hk,turn_enum a _ _ ne,⟨⟨_,hE⟩,hit⟩,fun b hb=>?_,q⟩
 rcases List.mem_cons.mp hb with rfl | hb
 ·exact I1.fpOk (Nat.le_succ _) (I1.hok.fresh (Nat.le_succ _))
 ·have:b = s1.heap.objs.size:=by simpa using hb
  subst this
  exact I1.fpOk (Nat.le_refl _) (I1.hok.fresh (Nat.le_refl _))
end
def Itz (K:PySem.W.Frag) (a b:Addr):It :=
 ⟨fun i H=>∃ xs ys x y,SqL K H a xs /\ SqL K H b ys /\ xs[i]? = some x /\ ys[i]? = some y,fun i H v H'=>∃ T x y,H T = none /\ v = .ref T /\ (∀ xs,SqL K H a xs -> xs[i]? = some x) /\ (∀ ys,SqL K H b ys -> ys[i]? = some y) /\ H' = upd H T (.tup [x,y]),
  fun i H=>∃ xs ys,SqL K H a xs /\ SqL K H b ys /\ (xs.length <= i ∨ ys.length <= i)⟩
structure ZipOwn (z TI TO i1 i2:Addr):Prop where
 TIz:TI ≠ z
 TOz:TO ≠ z
 i1z:i1 ≠ z
 i2z:i2 ≠ z
 TITO:TI ≠ TO
 TIi1:TI ≠ i1
 TIi2:TI ≠ i2
 TOi1:TO ≠ i1
 TOi2:TO ≠ i2
 i12:i1 ≠ i2
theorem zipOwn (n:Nat):ZipOwn (n + 4) (n + 2) (n + 3) n (n + 1):=by
 constructor <;> (intro h; have h:(_:Nat) = (_:Nat):=h; omega)
theorem zip_apart {h:Heap} {z TI TO i1 i2 l1 l2:Addr} {f0 u v:Value} {k1 k2:Nat} {xs ys:Array Value} (D:ZipOwn z TI TO i1 i2) (hz:IsZip h z TI TO f0) (hO:IsPair h TO u v) (h1:h.IsListIter i1 l1 k1) (h2:h.IsListIter i2 l2 k2) (hl1:h.IsList l1 xs) (hl2:h.IsList l2 ys):ZipApart z TI TO i1 i2 l1 l2:=by
 obtain ⟨o1,e1,c1,_⟩:=h1
 obtain ⟨o2,e2,c2,_⟩:=h2
 exact ⟨D.TIz,D.TOz,D.i1z,D.i2z,D.TITO,D.TIi1,D.TIi2,D.TOi1,D.TOi2,D.i12,not_list hl1 hz rfl (by decide),not_list hl1 hO rfl (by decide),not_list hl1 e1 c1 (by decide),not_list hl1 e2 c2 (by decide),
  not_list hl2 hz rfl (by decide),not_list hl2 hO rfl (by decide),not_list hl2 e1 c1 (by decide),not_list hl2 e2 c2 (by decide)⟩
theorem turn_zip {P:Program} {w:World} {K:PySem.W.Frag} {elts:List Expr} {k:Nat} {tp:Pos} (a b z TI TO i1 i2:Addr) (D:ZipOwn z TI TO i1 i2):Turn P w K (.Tuple elts k tp) (Itz K a b) [z,TI,TO,i1,i2] z
  (fun i h=>IsZip h z TI TO .none /\ IsPair h TI (.ref i1) (.ref i2) /\ (∃ u v,IsPair h TO u v) /\ h.IsListIter i1 a i /\ h.IsListIter i2 b i) where
 mem:=by simp
 obj:=fun i h st c hc=>by
  obtain ⟨hz,hI,⟨u,v,hO⟩,⟨o1,e1,c1,d1⟩,⟨o2,e2,c2,d2⟩⟩:=st
  simp only [List.mem_cons,List.not_mem_nil,or_false] at hc
  rcases hc with rfl | rfl | rfl | rfl | rfl
  ·exact ⟨_,hz,fun v z=>by have z':Data.fields _ = Data.cell v:=z; cases z'⟩
  ·exact ⟨_,hI,fun v z=>by have z':Data.seq _ _ = Data.cell v:=z; cases z'⟩
  ·exact ⟨_,hO,fun v z=>by have z':Data.seq _ _ = Data.cell v:=z; cases z'⟩
  ·exact ⟨o1,e1,fun v z=>by rw [d1] at z; cases z⟩
  ·exact ⟨o2,e2,fun v z=>by rw [d2] at z; cases z⟩
 keep:=fun i h h' st kk=>by
  obtain ⟨hz,hI,⟨u,v,hO⟩,h1,h2⟩:=st
  exact ⟨kk z (by simp) _ hz,kk TI (by simp) _ hI,⟨u,v,kk TO (by simp) _ hO⟩,h1.at fun o e=>kk i1 (by simp) o e,h2.at fun o e=>kk i2 (by simp) o e⟩
 item:=by
  intro X hP hw hK hc i pins s σ H E I hf st hg
  subst hP hw hK
  obtain ⟨xs,ys,x,y,hq,hq',hx,hy⟩:=hg
  obtain ⟨its,rv,p,hzz⟩:=I.list hq
  obtain ⟨its',rv',p',hzz'⟩:=I.list hq'
  obtain ⟨u,hu,ru⟩:=rv.get hx
  obtain ⟨u',hu',ru'⟩:=rv'.get hy
  obtain ⟨hz,hI,⟨p1,p2,hO⟩,h1,h2⟩:=st
  have W:=WalksT.zip2 (prog:=X.prog) (w:=X.w) (I.ok.hd hc) z TI TO i1 i2 a b (zip_apart D hz hO h1 h2 p.isList p'.isList) its.toArray its'.toArray
  have hi:i < min its.toArray.size its'.toArray.size:=by
   have a1:=(List.getElem?_eq_some_iff.mp hu).1
   have a2:=(List.getElem?_eq_some_iff.mp hu').1
   simp only [List.size_toArray]
   omega
  refine W.item i s _ _ hi ⟨hz,hI,⟨p1,p2,hO⟩,h1,h2,p.isList,p'.isList⟩ fun T vals h3 tk hP hT hIs hMid hk=>?_
  obtain ⟨v,v',hv,hv',rfl⟩:=hP
  have e1:v = u:=by
   have:its.toArray[i]? = some u:=by simpa using hu
   rw [this] at hv; cases hv; rfl
  have e2:v' = u':=by
   have:its'.toArray[i]? = some u':=by simpa using hu'
   rw [this] at hv'; cases hv'; rfl
  subst e1 e2
  have ap:=W.apart i T h3 hMid
  have hTI:T ≠ TI:=fun e=>by
   subst e
   exact absurd (Nat.lt_of_lt_of_le (Heap.lt_size hI) hT) (Nat.lt_irrefl _)
  refine ⟨_,rfl,W.go elts k tp i T { s with heap:=h3,toks:=tk } _ _ hMid fun h4 st4 hk4=>?_⟩
  obtain ⟨a1,a2,a3,a4,a5,_,_⟩:=st4
  have wr:∀ c,c ∉ [z,TI,TO,i1,i2] -> c ∉ [z,TO,i1,i2]:=fun c hc hc'=>hc (by
   simp only [List.mem_cons,List.not_mem_nil,or_false] at hc' ⊢
   rcases hc' with h | h | h | h <;> simp [h])
  have I2:Inv X pins σ (upd H T (.tup [x,y])) { s with heap:=h4,toks:=tk }:=by
   refine I.turnedN (ch:=[z,TI,TO,i1,i2]) hf (fun c o hb q=>hk4 c o (wr c hb) (hk c o (wr c hb) q)) hT ⟨?_,[v,v'],.cons ru (.cons ru' .nil),?_⟩
   ·show 2 <= sizeLine
    decide
   ·obtain ⟨o,eo,r⟩:=hIs
    exact ⟨o,hk4 T o ap eo,r⟩
  refine ⟨.ref T,_,I2,rfl,⟨T,x,y,I.hok.fresh hT,rfl,fun zs hz=>by rw [I.list_inj hz hq]; exact hx,fun zs hz=>by rw [I.list_inj hz hq']; exact hy,rfl⟩,⟨a1,a2,a3,a4,a5⟩,fun c hb=>?_⟩
  have fb:=hf c hb
  rw [upd_ne]
  ·exact fb.1
  ·rintro rfl
   refine ap ?_
   simp only [List.mem_cons,List.not_mem_nil,or_false] at hb ⊢
   rcases hb with h | h | h | h | h
   ·exact .inl h
   ·exact absurd h hTI
   ·exact .inr (.inl h)
   ·exact .inr (.inr (.inl h))
   ·exact .inr (.inr (.inr h))
 done:=by
  intro X hP hw hK hc i pins s σ H E I hf st hg
  subst hP hw hK
  obtain ⟨xs,ys,hq,hq',hl⟩:=hg
  obtain ⟨its,rv,p,hzz⟩:=I.list hq
  obtain ⟨its',rv',p',hzz'⟩:=I.list hq'
  obtain ⟨hz,hI,⟨p1,p2,hO⟩,h1,h2⟩:=st
  have l1:=rv.length
  have l2:=rv'.length
  refine wpAny_pyNext_zip_end (I.ok.hd hc) (zip_apart D hz hO h1 h2 p.isList p'.isList) hz hI hO h1 h2 p.isList p'.isList ?_ fun h3 hk=>⟨rfl,?_⟩
  ·rcases hl with h | h
   ·exact .inl (by simp; omega)
   ·exact .inr (by simp; omega)
  ·exact I.turnedL (t':=s.toks) (ch:=[z,TI,TO,i1,i2]) hf fun c o hb q=>hk c o (fun e=>hb (by simp [e])) (fun e=>hb (by simp [e])) (fun e=>hb (by simp [e])) (fun e=>hb (by simp [e])) q
 self:=fun _ _ _ _ _ st h=>wpAny_pyIter_zip st.1 h
section
variable {X:Cx}
def iZip (K:PySem.W.Frag) (ta:TA):TI:=fun σ H R=>ta σ H fun vs H1=>∃ a b,vs = [.ref a,.ref b] /\ (∃ xs,SqL K H1 a xs) /\ (∃ xs,SqL K H1 b xs) /\ R (Itz K a b) H1
theorem pi_zip {l l':Expr} {ta:TA} {p pos tp:Pos} {elts:List Expr} {k:Nat} (hg:Gl X "zip") (hm:X.mg "zip" = none) (ha:PA X [l,l'] ta) (he:starEach [l,l'] X.env = (false,eval l X.env) :: starEach [l'] X.env:=by rfl) (hpl:(backTo pos (starEach [l'] X.env)).any (·.1) = false:=by rfl) :
  PI X (.Tuple elts k tp) (.Call (.Name "zip" p) [l,l'] [] pos) (iZip X.K ta):=by
 intro pins s σ H R I h
 refine Call_ (ld_blt I hg hm boot_zip (PyProof.Rows.callWith_type1 (thn (ha pos pins s σ H _ I h) fun us s1 ⟨vs,H1,I1,r1,q1⟩=>?_) he hpl))
 obtain ⟨a,b,e,⟨xs,hq⟩,⟨ys,hq'⟩,q⟩:=q1
 subst e
 obtain ⟨u,u',rfl,ru,ru'⟩:=r1.two
 cases ru
 cases ru'
 obtain ⟨its,rv,pl,hz⟩:=I1.list hq
 obtain ⟨its',rv',pl',hz'⟩:=I1.list hq'
 refine call_zip_2 pl.isList pl'.isList fun h1 a1 a2 a3 a4 a5 a6 hk=>?_
 refine wpAny_pyIter_zip a1 ?_
 refine ⟨_,[s1.heap.objs.size + 4,s1.heap.objs.size + 2,s1.heap.objs.size + 3,s1.heap.objs.size,s1.heap.objs.size + 1],_,Itz X.K a b,H1,rfl,I1.kept (t':=s1.toks) hk,turn_zip a b _ _ _ _ _ (zipOwn _),⟨a1,a2,⟨_,_,a3⟩,a4,a5⟩,fun c hb=>?_,q⟩
 have this:s1.heap.objs.size <= c:=by
  simp only [List.mem_cons,List.not_mem_nil,or_false] at hb
  rcases hb with rfl | rfl | rfl | rfl | rfl
  ·exact Nat.le_add_right _ _
  ·exact Nat.le_add_right _ _
  ·exact Nat.le_add_right _ _
  ·exact Nat.le_refl _
  ·exact Nat.le_add_right _ _
 exact I1.fpOk this (I1.hok.fresh this)
end
end L2
namespace DL
open PySem PySem.Spec L2
open PyProof.Rows hiding St
variable [TB]
variable [Frm]
section
variable {X:Cx} {F:Fx}
def enumD (k:Nat):List D -> List D
 | []=>[]
 | d :: r=>.tup [.int k,d] :: enumD (k + 1) r
omit [Frm] in
theorem enumD_length:∀ (ds:List D) (k:Nat),(enumD k ds).length = ds.length
 | [],_=>rfl
 | _ :: r,k=>by simp [enumD,enumD_length r]
omit [Frm] in
theorem enumD_get:∀ (ds:List D) (k i:Nat) (d:D),(enumD k ds)[i]? = some d -> ∃ e,ds[i]? = some e /\ d = .tup [.int ((k + i:Nat):Int),e]
 | [],_,i,d,h=>by simp [enumD] at h
 | e :: r,k,0,d,h=>by
  simp [enumD] at h
  exact ⟨e,rfl,h.symm⟩
 | e :: r,k,i + 1,d,h=>by
  simp only [enumD,List.getElem?_cons_succ] at h ⊢
  obtain ⟨e',h1,h2⟩:=enumD_get r (k + 1) i d h
  exact ⟨e',h1,by rw [h2]; congr 3; congr 1; omega⟩
def zipD:List D -> List D -> List D
 | x :: xs,y :: ys=>.tup [x,y] :: zipD xs ys
 | _,_=>[]
omit [Frm] in
theorem zipD_length:∀ (xs ys:List D),(zipD xs ys).length = min xs.length ys.length
 | [],_=>by simp [zipD]
 | _ :: _,[]=>by simp [zipD]
 | _ :: xs,_ :: ys=>by simp [zipD,zipD_length xs ys]
omit [Frm] in
theorem zipD_get:∀ (xs ys:List D) (i:Nat) (d:D),(zipD xs ys)[i]? = some d -> ∃ x y,xs[i]? = some x /\ ys[i]? = some y /\ d = .tup [x,y]
 | [],_,i,d,h=>by simp [zipD] at h
 | _ :: _,[],i,d,h=>by simp [zipD] at h
 | x :: xs,y :: ys,0,d,h=>by
  simp [zipD] at h
  exact ⟨x,y,rfl,rfl,h.symm⟩
 | x :: xs,y :: ys,i + 1,d,h=>by
  simp only [zipD,List.getElem?_cons_succ] at h ⊢
  exact zipD_get xs ys i d h
abbrev diEnum (t:DA):DA:=fun ρ Q=>t ρ fun ds ρ'=>match ds with
 | [.lst xs]=>Q (enumD 0 xs) ρ'
 | _=>False
theorem di_enum {l:Expr} {tl:DA} {p pos tp:Pos} {elts:List Expr} {k:Nat} (hg:Gl X "enumerate") (hm:X.mg "enumerate" = none) (ha:PAD X [l] tl) (he:starEach [l] X.env = (false,eval l X.env) :: starEach [] X.env:=by rfl) (hpl:(backTo pos (starEach [] X.env)).any (·.1) = false:=by rfl) :
  PID X (.Tuple elts k tp) (.Call (.Name "enumerate" p) [l] [] pos) (diEnum tl):=by
 obtain ⟨T,pa,r⟩:=ha.run
 refine ⟨fun _ _ _ f h=>ha.mono _ _ _ (fun d _ h=>?_) h,_,pi_enum hg hm pa he hpl,fun {F} M H σ ρ R rs h=>r M H σ ρ _ rs (ha.mono _ _ _ (fun d ρ' h M' H' v m rs' rd=>?_) h)⟩
 ·split at h
  ·exact f _ _ h
  ·exact h.elim
 ·split at h
  case h_2=>exact h.elim
  rename_i ds
  simp only [Reps,Rep] at rd
  obtain ⟨x,r0,rfl,⟨a,xs,rfl,hm,hp,ha,rd⟩,rfl⟩:=rd
  refine ⟨a,rfl,⟨xs,SqL.of ha⟩,h M' H' _ m rs' ⟨fun M2 H2 m2 i d y H3 e yl=>?_,fun M2 H2 m2 i hi=>?_,fun M2 H2 m2 i hi=>?_⟩⟩
  ·obtain ⟨T,z,hT,rfl,hz,rfl⟩:=yl
   obtain ⟨d',hd',rfl⟩:=enumD_get ds 0 i d e
   obtain ⟨v',hv',rv'⟩:=rd.get' hd'
   have:=hz xs (SqL.of (m2.lst a xs ha hm hp).1)
   rw [hv'] at this
   cases this
   refine ⟨.new hT,?_⟩
   simp only [Rep]
   exact ⟨T,_,rfl,upd_same,.cons (by rw [Nat.zero_add]; exact rep_int) (.one ((rv'.mv m2).mv (.new hT)))⟩
  ·have hi':i < xs.length:=by rw [← rd.length,← enumD_length ds 0]; exact hi
   exact ⟨xs,xs[i],SqL.of (m2.lst a xs ha hm hp).1,by simp [hi']⟩
  ·exact ⟨xs,SqL.of (m2.lst a xs ha hm hp).1,by rw [← rd.length,← enumD_length ds 0]; exact hi⟩
abbrev diZip (t:DA):DA:=fun ρ Q=>t ρ fun ds ρ'=>match ds with
 | [.lst xs,.lst ys]=>Q (zipD xs ys) ρ'
 | _=>False
theorem di_zip {l l':Expr} {tl:DA} {p pos tp:Pos} {elts:List Expr} {k:Nat} (hg:Gl X "zip") (hm:X.mg "zip" = none) (ha:PAD X [l,l'] tl) (he:starEach [l,l'] X.env = (false,eval l X.env) :: starEach [l'] X.env:=by rfl) (hpl:(backTo pos (starEach [l'] X.env)).any (·.1) = false:=by rfl) :
  PID X (.Tuple elts k tp) (.Call (.Name "zip" p) [l,l'] [] pos) (diZip tl):=by
 obtain ⟨T,pa,r⟩:=ha.run
 refine ⟨fun _ _ _ f h=>ha.mono _ _ _ (fun d _ h=>?_) h,_,pi_zip hg hm pa he hpl,fun {F} M H σ ρ R rs h=>r M H σ ρ _ rs (ha.mono _ _ _ (fun d ρ' h M' H' v m rs' rd=>?_) h)⟩
 ·split at h
  ·exact f _ _ h
  ·exact h.elim
 ·split at h
  case h_2=>exact h.elim
  rename_i ds ds'
  simp only [Reps,Rep] at rd
  obtain ⟨x,r0,rfl,⟨a,xs,rfl,hm,hp,ha,rd⟩,x',r0',rfl,⟨b,ys,rfl,hm',hp',hb,rd'⟩,rfl⟩:=rd
  have L:=zipD_length ds ds'
  refine ⟨a,b,rfl,⟨xs,SqL.of ha⟩,⟨ys,SqL.of hb⟩,h M' H' _ m rs' ⟨fun M2 H2 m2 i d y H3 e yl=>?_,fun M2 H2 m2 i hi=>?_,fun M2 H2 m2 i hi=>?_⟩⟩
  ·obtain ⟨T,z,z',hT,rfl,hz,hz',rfl⟩:=yl
   obtain ⟨d1,d2,hd1,hd2,rfl⟩:=zipD_get ds ds' i d e
   obtain ⟨v1,hv1,rv1⟩:=rd.get' hd1
   obtain ⟨v2,hv2,rv2⟩:=rd'.get' hd2
   have:=hz xs (SqL.of (m2.lst a xs ha hm hp).1)
   rw [hv1] at this
   cases this
   have:=hz' ys (SqL.of (m2.lst b ys hb hm' hp').1)
   rw [hv2] at this
   cases this
   refine ⟨.new hT,?_⟩
   simp only [Rep]
   exact ⟨T,_,rfl,upd_same,.cons ((rv1.mv m2).mv (.new hT)) (.one ((rv2.mv m2).mv (.new hT)))⟩
  ·rw [L,rd.length,rd'.length] at hi
   have h1:i < xs.length:=by omega
   have h2:i < ys.length:=by omega
   exact ⟨xs,ys,xs[i],ys[i],SqL.of (m2.lst a xs ha hm hp).1,SqL.of (m2.lst b ys hb hm' hp').1,by simp [h1],by simp [h2]⟩
  ·rw [L,rd.length,rd'.length] at hi
   exact ⟨xs,ys,SqL.of (m2.lst a xs ha hm hp).1,SqL.of (m2.lst b ys hb hm' hp').1,by omega⟩
end
end DL
namespace DL
open PySem PySem.Spec L2
open PyProof.Rows hiding St
variable [TB]
abbrev DTN:=(D -> Prop) -> (List D -> Prop) -> DS -> Prop
section
variable [Frm]
structure EN (K:PySem.W.Frag) (F:Fx) (M:List Addr) (H:Hp) (Q:D -> Prop) (L:List D -> Prop) (D:Ends):Prop where
 rt:∀ M' H' σ' ρ' d v,Mv K F.pp M H M' H' -> RSt K F M' H' σ' ρ' -> Rep K F.pp M' H' d v -> Q d -> D.rt v H'
 nx:∀ M' H' σ' ρ',Mv K F.pp M H M' H' -> RSt K F M' H' σ' ρ' -> Q .non -> D.nx σ' H'
 nw:∀ M' H' ds l xs,SameP K F.pp F.H0 H' -> (∀ a ∈ F.M0,a ∈ M') -> F.H0 l = none -> F.pp ≠ some l -> l ∈ M' -> H' l = some (.lst xs) -> Reps K F.pp M' H' ds xs -> L ds -> D.rt (.ref l) H'
theorem EN.mv {K:PySem.W.Frag} {F:Fx} {M M1:List Addr} {H H1:Hp} {Q:DL.D -> Prop} {L:List DL.D -> Prop} {D:Ends} (o:EN K F M H Q L D) (m:Mv K F.pp M H M1 H1):EN K F M1 H1 Q L D :=
 ⟨fun _ _ _ _ _ _ m'=>o.rt _ _ _ _ _ _ (m.trans m'),fun _ _ _ _ m'=>o.nx _ _ _ _ (m.trans m'),o.nw⟩
def PSsN (X:Cx) (st:List Stmt) (t:DTN):Prop:=∃ T:TS,PSs X st T /\ ∀ {F:Fx} M H σ ρ (Q:D -> Prop) (L:List D -> Prop) (D:Ends),RSt X.K F M H σ ρ -> EN X.K F M H Q L D -> t Q L ρ -> T D σ H
variable {X:Cx} {st:Stmt} {rest:List Stmt} {t:DTS} {u:DTN} {e:Expr} {tl:DA} {pos:Pos}
theorem psn_ret (h:PLD X e tl):PSsN X [.Return (some e) pos] (fun _ L ρ=>tl ρ fun ds _=>L ds):=by
 obtain ⟨T,p,r⟩:=h.run
 refine ⟨_,pss_one (ps_ret p),fun {F} M H σ ρ Q L D rs en q=>r M H σ ρ _ rs (h.mono _ _ _ (fun ds ρ' q M' H1 H' l xs m rs' hl e r'=>?_) q)⟩
 subst e
 have h0:F.H0 l = none:=by
  cases e:F.H0 l with
  | none=>rfl
  | some o=>exact absurd hl (rs'.same.live l (by rw [e]; intro z; cases z))
 exact en.nw (l :: M') _ ds l xs (rs'.sameT.trans (.new hl)) (fun a ha=>List.mem_cons_of_mem _ (rs'.sub a ha)) h0 (rs'.liv.fresh hl).2 List.mem_cons_self upd_same (r'.mv (.newOwn hl)) q
theorem psn_cons (h1:PSD X st t) (h2:PSsN X rest u):PSsN X (st :: rest) (fun Q L ρ=>t { nx:=u Q L,rt:=Q } ρ):=by
 obtain ⟨T,p,r⟩:=h1
 obtain ⟨U,q,s⟩:=h2
 refine ⟨_,pss_cons p q,fun {F} M H σ ρ Q L D rs en h=>r M H σ ρ { nx:=u Q L,rt:=Q } { D with nx:=U D } rs ⟨fun M' H' σ' ρ' m rs' h=>?_,fun _ _ _ _ _ _ q=>q.elim,fun _ _ _ _ _ _ q=>q.elim,en.rt⟩ h⟩
 exact s M' H' σ' ρ' Q L D rs' (en.mv m) h
end
abbrev DSpN:=List D -> (D -> Prop) -> (List D -> Prop) -> Prop
def spDN (K:PySem.W.Frag) (n:Nat) (g:DSpN):Sp:=fun vs H Q _=>∃ pp M ds,Lv pp M H /\ Reps K pp M H ds vs /\ ds.length = n /\ g ds (fun d=>∀ H' v,SameP K pp H H' -> Rep K pp M H' d v -> Q v H')
 (fun es=>∀ M' H' l xs,SameP K pp H H' -> (∀ a ∈ M,a ∈ M') -> H l = none -> pp ≠ some l -> l ∈ M' -> H' l = some (.lst xs) -> Reps K pp M' H' es xs -> Q (.ref l) H')
def MonoN (g:DSpN):Prop:=∀ ds P P' L L',(∀ d,P d -> P' d) -> (∀ es,L es -> L' es) -> g ds P L -> g ds P' L'
theorem fnDN {P:Program} {w:World} {K:PySem.W.Frag} {mg:Str -> Option Value} {base:Heap} {x qual:Str} {st:Stmt} {f:Addr} {fd:FuncData} {N ps:List Str} {k:Nat} {g:DSpN} {t:DTN} (Fn:Fun K x qual st f fd) (S:FnScope N ps (defScope st))
  (hb:∀ (cdv:Value) (A:Around) (outer:List Env) (s:Shared) (H:Hp) (E:XK),Room k (A.deeper (envOfC qual (defScope st) s.heap.objs.size f cdv)) -> @PSsN _ Frm.free (cxOf CX0 P w K mg base N qual (defScope st) f cdv A outer s H E).nox (defBody st) t)
  (hg:∀ ds Q L,ds.length = ps.length -> g ds Q L -> t Q L (dstart N.length ds)):FnOk P w K mg base CX0 (k + 1) f fd ps (spDN K ps.length g):=by
 refine Fn.ok S (fun vs H Q E h=>?_) (fun cdv A outer s H vs Q E hr h=>?_)
 ·obtain ⟨pp,M,ds,_,r,e,_⟩:=h
  rw [← r.length,e]
 ·obtain ⟨pp,M,ds,lv,r,e,h⟩:=h
  obtain ⟨T,p,run⟩:=hb cdv A outer s H E hr
  refine ⟨T,p,run M H _ _ _ _ _ (rst_start lv r trivial) ⟨fun M' H' σ' ρ' d v m rs rd q=>?_,fun M' H' σ' ρ' m rs q=>?_,fun M' H' es l xs s sub h0 hp hm hl rr q=>?_⟩ (hg ds _ _ e h)⟩
  ·exact q H' v rs.sameT (rd.mv (.less rs.sub))
  ·exact q H' .non rs.sameT (by simp only [Rep])
  ·exact q M' H' l xs s sub h0 hp hm hl rr
theorem FnOk.asD {P:Program} {w:World} {K:PySem.W.Frag} {mg:Str -> Option Value} {base:Heap} {k n:Nat} {f:Addr} {fd:FuncData} {ps:List Str} {g:DSpN} {g':DSp} (h:FnOk P w K mg base CX0 k f fd ps (spDN K n g)) (hg:∀ ds Q,g' ds Q -> g ds Q (fun es=>Q (.lst es))) (gm:MonoN g):FnOk P w K mg base CX0 k f fd ps (spD K n g') :=
 h.imp fun vs H Q E h=>by
  obtain ⟨pp,M,ds,lv,r,e,h⟩:=h
  refine ⟨pp,M,ds,lv,r,e,gm _ _ _ _ _ (fun d q=>q) (fun es q M' H' l xs s sub hl hp hm hH rr=>q H' _ s ?_) (hg _ _ h)⟩
  simp only [Rep]
  exact ⟨l,xs,rfl,(lv.fresh hl).1,hp,hH,rr.mv (.less sub)⟩
section
variable [Frm] {X:Cx}
end
end DL
namespace DL
open PySem PySem.Spec L2
open PyProof.Rows hiding St
variable [TB]
variable [Frm]
section
variable {K:PySem.W.Frag} {F:Fx} {M M0 M':List Addr} {H H':Hp} {σ:St} {ρ:DS} {i:Nat} {ds:List D} {v:V}
end
section
variable {X:Cx} {e:Expr}
end
end DL
namespace DL
open PySem PySem.Spec L2
open PyProof.Rows hiding St
variable [TB]
variable [Frm]
end DL
namespace L2
open PySem PySem.Spec PyProof.Rows
section
variable {prog:Program} {w:World} {A:Around} {E:Value -> Shared -> Prop} {s:Shared}
end
section
variable {X:Cx} {e st:Expr} {te:TE} {tk:TO} {pos p2:Pos}
end
end L2
namespace PySem
end PySem
namespace L2
open PySem PySem.Spec PyProof.Rows
section
variable {X:Cx}
end
end L2
namespace DL
open PySem PySem.Spec L2
open PyProof.Rows hiding St
variable [TB]
variable [Frm]
section
variable {X:Cx} {pp:Option Addr}
omit [Frm] in
theorem Reps.reverse {K:PySem.W.Frag} {M:List Addr} {H:Hp}:∀ {ds:List D} {xs:List V},Reps K pp M H ds xs -> Reps K pp M H ds.reverse xs.reverse
 | [],xs,r=>by
  simp only [Reps] at r
  subst r
  exact .nil
 | d :: ds,xs,r=>by
  simp only [Reps] at r
  obtain ⟨x,r',rfl,hd,hr⟩:=r
  rw [List.reverse_cons,List.reverse_cons]
  exact (Reps.reverse hr).append (.one hd)
end
end DL
namespace DL
open PySem PySem.Spec L2
open PyProof.Rows hiding St
variable [TB]
variable [Frm]
section
variable {X:Cx} {pp:Option Addr}
end
end DL
namespace L2
open PySem PySem.Spec PyProof.Rows
section
variable {X:Cx}
end
end L2
namespace DL
open PySem PySem.Spec L2
open PyProof.Rows hiding St
variable [TB]
section
variable {K:PySem.W.Frag} {pp:Option Addr} {M:List Addr} {H:Hp}
end
variable [Frm]
section
variable {X:Cx}
structure M1D (X:Cx) (name:Str) (id:String) (g:D -> D -> (D -> Prop) -> Prop):Prop where
 mono:∀ x y P P',(∀ d,P d -> P' d) -> g x y P -> g x y P'
 slot:Slot "list" name id
 ty:typeOf (.builtin id) = pure (.type "method_descriptor")
 run:∃ r,MtR X id r /\ ∀ {pp:Option Addr} M H x y v u (Q:VK),Rep X.K pp M H x v -> Rep X.K pp M H y u -> g x y (fun d=>∀ w,Rep X.K pp M H d w -> Q w H) -> r v [u] H Q
end
end DL
namespace DL
open PySem PySem.Spec L2
open PyProof.Rows hiding St
variable [TB]
variable [Frm]
theorem dLoop_enum {g:DG} {b:DTS} {E:DEnds} {ds:List D} (N:Nat -> DS -> Prop) (hn:∀ ρ,N ds.length ρ -> E.nx ρ)
  (hs:∀ (i:Nat) (d:D) (ρ:DS) (X:DS -> Prop),ds[i]? = some d -> N i ρ -> (∀ ρ',N (i + 1) ρ' -> X ρ') -> g (.tup [.int i,d]) ρ fun ρ1=>b { E with nx:=X,ct:=X,bk:=E.nx } ρ1) (ρ:DS) (h:N 0 ρ):dLoop g b (enumD 0 ds) E ρ:=by
 have key:∀ (post:List D) (k:Nat),k <= ds.length -> ds.drop k = post -> ∀ ρ,N k ρ -> dLoop g b (enumD k post) E ρ:=by
  intro post
  induction post with
  | nil =>
   intro k hk e ρ h
   have h1:ds.length <= k:=List.drop_eq_nil_iff.mp e
   have z:k = ds.length:=Nat.le_antisymm hk h1
   subst z
   exact hn ρ h
  | cons d r ih =>
   intro k hk e ρ h
   have hd:ds[k]? = some d:=by
    have:=congrArg (fun l=>l[0]?) e
    simpa using this
   refine hs k d ρ _ hd h (ih (k + 1) (List.getElem?_eq_some_iff.mp hd).1 ?_)
   rw [← List.drop_drop,e]
   rfl
 exact key ds 0 (Nat.zero_le _) rfl ρ h
end DL
namespace L2
open PySem PySem.Spec PyProof.Rows
section
variable {prog:Program} {w:World} {A:Around} {E:Value -> Shared -> Prop} {s:Shared}
end
end L2
namespace DL
open PySem PySem.Spec L2
open PyProof.Rows hiding St
variable [TB]
section
variable [Frm]
variable {X:Cx} {F:Fx} {pp:Option Addr}
abbrev dSlL (te:DE) (tl th:DO):DA:=fun ρ Q=>te ρ fun x ρ1=>tl ρ1 fun lo ρ2=>th ρ2 fun hi ρ3=>match x with
 | .lst xs=>Q (cutD xs lo hi) ρ3
 | _=>False
theorem dl_slL {e:Expr} {lo hi:Option Expr} {te:DE} {tl th:DO} {pos p2:Pos} (he:PED X e te) (hl:POD X lo tl) (hh:POD X hi th):PLD X (.Subscript e (.Slice lo hi none p2) pos) (dSlL te tl th):=by
 obtain ⟨T,p,r⟩:=he.run
 obtain ⟨Tl,pl,rl⟩:=hl.run
 obtain ⟨Th,ph,rh⟩:=hh.run
 refine ⟨fun _ _ _ f h=>he.mono _ _ _ (fun x _ h=>hl.mono _ _ _ (fun _ _ h=>hh.mono _ _ _ (fun _ _ h=>?_) h) h) h,_,pe_slice sl_list p pl ph,fun {F} M H σ ρ Q rs h=>?_⟩
 ·cases x <;> first | exact h.elim | exact f _ _ h
 refine r M H σ ρ _ rs (he.mono _ _ _ (fun x ρ1 h M1 H1 v m1 rs1 r1=>?_) h)
 refine rl M1 H1 σ ρ1 _ rs1 (hl.mono _ _ _ (fun lo ρ2 h M2 H2 m2 rs2=>?_) h)
 refine rh M2 H2 σ ρ2 _ rs2 (hh.mono _ _ _ (fun hi ρ3 h M3 H3 m3 rs3=>?_) h)
 have r3:=(r1.mv m2).mv m3
 cases x <;> first | exact h.elim | skip
 simp only [Rep] at r3
 obtain ⟨a,xs,rfl,_,_,ha,rx⟩:=r3
 exact ⟨a,xs,rfl,SqL.of ha,fun l hl=>h M3 H3 _ l _ ((m1.trans m2).trans m3) rs3 hl rfl (rx.cut lo hi)⟩
abbrev dCatL (ta tb:DE):DA:=fun ρ Q=>ta ρ fun x ρ1=>tb ρ1 fun y ρ2=>match x,y with
 | .lst xs,.lst ys=>xs.length + ys.length <= sizeLine /\ Q (xs ++ ys) ρ2
 | _,_=>False
theorem dl_cat {a b:Expr} {ta tb:DE} {pos:Pos} (ha:PED X a ta) (hb:PED X b tb):PLD X (.BinOp a .Add b pos) (dCatL ta tb):=by
 obtain ⟨Ta,pa,ra⟩:=ha.run
 obtain ⟨Tb,pb,rb⟩:=hb.run
 refine ⟨fun _ _ _ f h=>ha.mono _ _ _ (fun x _ h=>hb.mono _ _ _ (fun y _ h=>?_) h) h,_,pe_op op_cat pa pb,fun {F} M H σ ρ Q rs h=>?_⟩
 ·cases x <;> first | exact h.elim | skip
  cases y <;> first | exact h.elim | exact ⟨h.1,f _ _ h.2⟩
 refine ra M H σ ρ _ rs (ha.mono _ _ _ (fun x ρ1 h M1 H1 v m1 rs1 r1=>?_) h)
 refine rb M1 H1 σ ρ1 _ rs1 (hb.mono _ _ _ (fun y ρ2 h M2 H2 u m2 rs2 r2=>?_) h)
 have r1:=r1.mv m2
 cases x <;> first | exact h.elim | skip
 cases y <;> first | exact h.elim | skip
 simp only [Rep] at r1 r2
 obtain ⟨l,xs,rfl,_,_,hl,rx⟩:=r1
 obtain ⟨l',ys,rfl,_,_,hl',ry⟩:=r2
 exact ⟨l,l',xs,ys,rfl,rfl,hl,hl',by rw [← rx.length,← ry.length]; exact h.1,fun p hp=>h.2 M2 H2 _ p _ (m1.trans m2) rs2 hp rfl (rx.append ry)⟩
end
end DL
namespace L2
open PySem PySem.Spec PyProof.Rows
abbrev IsZipN (h:Heap) (z TI TO:Addr) (f0 f1:Value):Prop :=
 h.get? z = some { cls:=.type "zip",dict:=none,data:=.fields #[f0,f1,.bool false,.ref TI,.ref TO],slots:=#[] }
abbrev IsTupR (h:Heap) (T:Addr) (xs:Array Value):Prop:=h.get? T = some { cls:=.type "tuple",data:=.seq xs }
def OwnF (f:Value):Prop:=f = .none ∨ ∃ a:Int,f = .int a 0
abbrev itsL (n m:Nat):List Value:=(List.range m).map fun j=>Value.ref (n + j)
def ItsAt (h:Heap) (n:Nat) (src:List (Addr × Array Value)) (k c:Nat):Prop:=∀ (j:Nat) (p:Addr × Array Value),src[j]? = some p -> h.IsListIter (n + j) p.1 (if j < c then k + 1 else k)
def SrcAt (h:Heap) (n:Nat) (src:List (Addr × Array Value)):Prop:=∀ (j:Nat) (p:Addr × Array Value),src[j]? = some p -> p.1 < n /\ h.IsList p.1 p.2
structure ZipSt (h:Heap) (n:Nat) (src:List (Addr × Array Value)) (k:Nat):Prop where
 zip:∃ f0 f1,OwnF f0 /\ IsZipN h (n + src.length + 2) (n + src.length) (n + src.length + 1) f0 f1
 ti:IsTupR h (n + src.length) (itsL n src.length).toArray
 to:∃ ws:Array Value,ws.size = src.length /\ IsTupR h (n + src.length + 1) ws
 its:ItsAt h n src k 0
 ls:SrcAt h n src
 ne:src ≠ []
def KeptZ (n m:Nat) (h h':Heap):Prop:=∀ (b:Nat) o,b < n ∨ b = n + m ∨ n + m + 2 < b -> h.get? b = some o -> h'.get? b = some o
section
variable {prog:Program} {w:World} {A:Around} {E:Value -> Shared -> Prop} {s:Shared}
theorem wpAny_loadIfAlive {a:Addr} {Q:Option Obj -> Shared -> Prop} (h:Q (s.heap.get? a) s):wpAny (model prog w) A (loadIfAlive a) Q E s :=
 fun Γ p _=>by
  show Sem.wp _ Γ (.loadIfAlive a .pure) _ _ p s
  rw [Sem.wp_loadIfAlive]
  exact h
theorem own_free {z TI TO:Addr} {f0 f1:Value} {Q:Bool -> Shared -> Prop} (hf:OwnF f0) (hz:IsZipN s.heap z TI TO f0 f1) (q1:Q true s)
  (q2:∀ h' f1',IsZipN h' z TI TO f0 f1' -> Heap.SameBut z s.heap h' -> Q false { s with heap:=h' }) :
  wpAny (model prog w) A (Builtin.SmallTypes.ownedTupleIsFree (.ref z)) Q E s:=by
 unfold Builtin.SmallTypes.ownedTupleIsFree
 refine wpAny_bind (wpAny_field hz rfl (x:=f0) rfl ?_)
 rcases hf with rfl | ⟨a,rfl⟩
 ·exact wpAny_pure q1
 ·show wpAny _ _ (loadIfAlive a.toNat >>= _) _ _ _
  refine wpAny_bind (wpAny_loadIfAlive ?_)
  cases e:s.heap.get? a.toNat with
  | none=>exact wpAny_pure q1
  | some o =>
   show wpAny _ _ (field (.ref z) 1 >>= _) _ _ _
   refine wpAny_bind (wpAny_field hz rfl (x:=f1) rfl ?_)
   by_cases hb:(f1 != .bool true) = true
   ·rw [if_pos hb]
    refine wpAny_bind (wpAny_setField_rec hz (by simp) fun h' hz' hs=>wpAny_pure (q2 h' (.bool true) ?_ hs))
    exact hz'
   ·rw [if_neg hb]
    refine wpAny_bind (wpAny_pure ?_)
    exact wpAny_pure (q2 s.heap f1 hz (Heap.SameBut.refl ..))
end
end L2
namespace L2
open PySem PySem.Spec PyProof.Rows
structure ZipLp (h0:Heap) (n:Nat) (src:List (Addr × Array Value)) (k c:Nat) (h:Heap):Prop where
 ti:IsTupR h (n + src.length) (itsL n src.length).toArray
 its:ItsAt h n src k c
 ls:SrcAt h n src
 kept:KeptZ n src.length h0 h
 sz:h.objs.size = h0.objs.size
theorem at_lt {α:Type} {l:List α} {j:Nat} {p:α} (h:l[j]? = some p):j < l.length:=(List.getElem?_eq_some_iff.mp h).1
section
variable {h0 h h':Heap} {n k c:Nat} {src:List (Addr × Array Value)}
theorem ZipLp.same {a:Nat} (L:ZipLp h0 n src k c h) (hs:Heap.SameBut a h h') (ha:a = n + src.length + 1 ∨ a = n + src.length + 2):ZipLp h0 n src k c h' where
 ti:=hs.extBut _ _ (by intro e; have e:(_:Nat) = (_:Nat):=e; omega) L.ti
 its:=fun j p hj=>(L.its j p hj).extBut hs.extBut (by have:=at_lt hj; intro e; have e:(_:Nat) = (_:Nat):=e; omega)
 ls:=fun j p hj=>⟨(L.ls j p hj).1,(L.ls j p hj).2.extBut hs.extBut (Nat.ne_of_lt (Nat.lt_of_lt_of_le (L.ls j p hj).1 (show n <= a by omega)))⟩
 kept:=fun b o hb e=>hs.extBut _ _ (by intro e; have e:(_:Nat) = (_:Nat):=e; omega) (L.kept b o hb e)
 sz:=hs.1.trans L.sz
theorem ZipLp.next {p:Addr × Array Value} (L:ZipLp h0 n src k c h) (hc:src[c]? = some p) (hit:h'.IsListIter (n + c) p.1 (k + 1)) (hs:Heap.SameBut (n + c) h h'):ZipLp h0 n src k (c + 1) h':=by
 have lt:=at_lt hc
 refine ⟨hs.extBut _ _ (by intro e; have e:(_:Nat) = (_:Nat):=e; omega) L.ti,fun j q hj=>?_,fun j q hj=>⟨(L.ls j q hj).1,(L.ls j q hj).2.extBut hs.extBut (Nat.ne_of_lt (Nat.lt_of_lt_of_le (L.ls j q hj).1 (Nat.le_add_right n c)))⟩,fun b o hb e=>hs.extBut _ _ (by intro e; have e:(_:Nat) = (_:Nat):=e; omega) (L.kept b o hb e),hs.1.trans L.sz⟩
 by_cases z:j = c
 ·subst z
  rw [hc] at hj
  cases hj
  rw [if_pos (by omega)]
  exact hit
 ·have:=(L.its j q hj).extBut hs.extBut (by intro e; have e:(_:Nat) = (_:Nat):=e; omega)
  by_cases y:j < c
  ·rw [if_pos y] at this
   rw [if_pos (by omega)]
   exact this
  ·rw [if_neg y] at this
   rw [if_neg (by omega)]
   exact this
theorem KeptZ.step {a:Nat} (L:ZipLp h0 n src k c h) (hs:Heap.ExtBut a h h') (ha:(n <= a /\ a < n + src.length) ∨ a = n + src.length + 1 ∨ a = n + src.length + 2):KeptZ n src.length h0 h' :=
 fun b o hb e=>hs _ _ (by intro e; have e:(_:Nat) = (_:Nat):=e; omega) (L.kept b o hb e)
end
section
variable {prog:Program} {w:World} {A:Around} {E:Value -> Shared -> Prop} {s:Shared}
theorem wpAny_updateSeq_tup {T:Addr} {ws:Array Value} {x:Value} {k:Nat} {Q:Unit -> Shared -> Prop} (hT:IsTupR s.heap T ws) (hz:ws.size <= sizeLine)
  (h:∀ h',IsTupR h' T (ws.setIfInBounds k x) -> Heap.SameBut T s.heap h' -> Q () { s with heap:=h' }) :
  wpAny (model prog w) A (updateSeq T (·.setIfInBounds k x)) Q E s:=by
 refine wpAny_updateSeq hT rfl (h _ ?_ (Heap.SameBut.update ..)) hz (by simp; omega)
 show Heap.get? _ _ = _
 rw [Heap.get?_update_self _ hT rfl]
 simp [Obj.mapSeq]
theorem drop_at {α:Type} {l:List α} {c:Nat} {x:α} {r:List α} (h:l.drop c = x :: r):l[c]? = some x /\ l.drop (c + 1) = r:=by
 have hc:c < l.length:=by
  rcases Nat.lt_or_ge c l.length with h' | h'
  ·exact h'
  ·rw [List.drop_eq_nil_of_le h'] at h; cases h
 rw [List.drop_eq_getElem_cons hc] at h
 cases h
 exact ⟨by simp,rfl⟩
theorem itsL_at {n m c:Nat} (h:c < m):(itsL n m)[c]? = some (.ref (n + c)):=by
 unfold itsL
 rw [List.getElem?_map,List.getElem?_range h]
 rfl
def Told (src:List (Addr × Array Value)) (k c:Nat) (vs:List Value):Prop:=vs.length = c /\ ∀ (j:Nat) (p:Addr × Array Value),j < c -> src[j]? = some p -> p.2[k]? = vs[j]?
theorem Told.push {src:List (Addr × Array Value)} {k c:Nat} {vs:List Value} {p:Addr × Array Value} {v:Value} (t:Told src k c vs) (hc:src[c]? = some p) (hv:p.2[k]? = some v):Told src k (c + 1) (vs ++ [v]):=by
 refine ⟨by simp [t.1],fun j q hj hq=>?_⟩
 by_cases z:j = c
 ·subst z
  rw [hc] at hq
  cases hq
  rw [hv,List.getElem?_append_right (by rw [t.1]; exact Nat.le_refl _),t.1]
  simp
 ·rw [t.2 j q (by omega) hq,List.getElem?_append_left (by rw [t.1]; omega)]
set_option maxHeartbeats 1000000 in
theorem zipN_next {n k:Nat} {src:List (Addr × Array Value)} {Q:Value -> Shared -> Prop} (hh:A.handled = none) (hsz:src.length <= sizeLine) (hs:ZipSt s.heap n src k)
  (hQ:∀ vs h',Told src k src.length vs -> ZipSt h' n src (k + 1) -> IsTupR h' s.heap.objs.size vs.toArray -> h'.objs.size = s.heap.objs.size + 1 -> KeptZ n src.length s.heap h' -> Q (.ref s.heap.objs.size) { s with heap:=h' })
  (hE:(∃ (j:Nat) (p:Addr × Array Value),src[j]? = some p /\ p.2[k]? = none) -> ∀ h' e,KeptZ n src.length s.heap h' -> (∃ o,h'.get? e = some o /\ o.cls = .type "StopIteration") -> E (.ref e) { s with heap:=h' }) :
  wpAny (model prog w) A (Builtin.«zip.__next__» ⟨[.ref (n + src.length + 2)],[]⟩) (fun fin s'=>∃ v,fin = .done (.ret v) /\ Q v s') E s:=by
 obtain ⟨⟨f0,f1,hf,hz⟩,hTI,⟨ws,hws,hTO⟩,hit,hls,hne⟩:=hs
 show wpAny _ _ (field (.ref (n + src.length + 2)) 2 >>= _) _ _ _
 refine wpAny_bind (wpAny_field hz rfl (x:=.bool false) rfl ?_)
 show wpAny _ _ (field (.ref (n + src.length + 2)) 3 >>= _) _ _ _
 refine wpAny_bind (wpAny_field hz rfl (x:=.ref (n + src.length)) rfl ?_)
 refine wpAny_bind (wpAny_seqItems hTI rfl ?_)
 have hem:((itsL n src.length).toArray.isEmpty) = false:=by
  cases src with
  | nil=>exact absurd rfl hne
  | cons a l=>simp [itsL]
 simp only [hem,Bool.false_eq_true,if_false]
 refine wpAny_bind (own_free hf hz ?_ fun h1 f1' hz1 hs1=>?_)
 ·simp only [if_true]
  refine wpAny_bind (wpAny_rule ?_)
  refine wpAny_bind (wpAny_field hz rfl (x:=.ref (n + src.length + 1)) rfl ?_)
  refine wpAny_bind (wpAny_setField_rec hz (by simp) fun h₁ hz₁ hs₁=>?_)
  replace hz₁:IsZipN h₁ (n + src.length + 2) (n + src.length) (n + src.length + 1) .ellipsis f1:=hz₁
  have L0:ZipLp s.heap n src k 0 s.heap:=⟨hTI,hit,hls,fun _ _ _ e=>e,rfl⟩
  have L1:=L0.same hs₁ (.inr rfl)
  have hTO₁:IsTupR h₁ (n + src.length + 1) ws:=hs₁.extBut _ _ (by intro e; have e:(_:Nat) = (_:Nat):=e; omega) hTO
  refine wpAny_bind (wpAny_forIn_list _ (fun rest b s'=>∃ c h ws vs,rest = ((itsL n src.length).toArray.toList.zipIdx).drop c /\ c <= src.length /\ b = (none,()) /\ s' = { s with heap:=h } /\ IsZipN h (n + src.length + 2) (n + src.length) (n + src.length + 1) .ellipsis f1 /\ ZipLp s.heap n src k c h /\ Told src k c vs /\ ws.size = src.length /\ IsTupR h (n + src.length + 1) ws /\ ∀ j,j < c -> ws[j]? = vs[j]?) _ ?turn ?fin _ _ ⟨0,h₁,ws,[],rfl,Nat.zero_le _,rfl,rfl,hz₁,L1,⟨rfl,fun j p hj=>absurd hj (Nat.not_lt_zero _)⟩,hws,hTO₁,fun j hj=>absurd hj (Nat.not_lt_zero _)⟩)
  case turn =>
   rintro x rest b s' ⟨c,h,ws,vs,hr,hc,rfl,rfl,hz,L,ht,hws,hTO,hw⟩
   obtain ⟨hx,hr2⟩:=drop_at hr.symm
   have hc:c < src.length:=by
    have:=at_lt hx
    simpa using this
   rw [List.toList_toArray,List.getElem?_zipIdx,itsL_at hc] at hx
   simp only [Option.map_some,Nat.zero_add,Option.some.injEq] at hx
   subst hx
   have hp:src[c]? = some src[c]:=by simp [hc]
   have hi:=L.its c _ hp
   rw [if_neg (Nat.lt_irrefl _)] at hi
   have hl:=(L.ls c _ hp).2
   refine wpAny_bind (wpAny_onRaise ?_)
   show wpAny _ _ (Builtin.SmallTypes.nextOf (.ref (n + c)) >>= _) _ _ _
   cases ev:(src[c]).2[k]? with
   | none =>
    refine wpAny_bind (wpAny_nextOf_list_end hh hi hl ev fun h₂ e hs₂ he=>?_)
    obtain ⟨oe,hoe,hce⟩:=he
    have hz₂:IsZipN h₂ (n + src.length + 2) (n + src.length) (n + src.length + 1) .ellipsis f1:=hs₂ _ _ (by intro e; have e:(_:Nat) = (_:Nat):=e; omega) hz
    have hez:e ≠ n + src.length + 2:=fun x=>by subst x; rw [hz₂] at hoe; cases hoe; simp at hce
    refine wpAny_setField_rec hz₂ (by simp) fun h₃ _ hs₃=>hE ⟨c,_,hp,ev⟩ h₃ e (fun b o hb x=>hs₃.extBut _ _ (by intro e; have e:(_:Nat) = (_:Nat):=e; omega) (KeptZ.step L hs₂ (.inl ⟨Nat.le_add_right _ _,by omega⟩) b o hb x)) ⟨oe,hs₃.extBut _ _ hez hoe,hce⟩
   | some v =>
    refine wpAny_bind (wpAny_nextOf_list_item hi hl ev fun h₂ hi₂ hs₂=>wpAny_pure ?_)
    have hTO₂:IsTupR h₂ (n + src.length + 1) ws:=hs₂.extBut _ _ (by intro e; have e:(_:Nat) = (_:Nat):=e; omega) hTO
    have hz₂:IsZipN h₂ (n + src.length + 2) (n + src.length) (n + src.length + 1) .ellipsis f1:=hs₂.extBut _ _ (by intro e; have e:(_:Nat) = (_:Nat):=e; omega) hz
    refine wpAny_bind (wpAny_seqItems hTO₂ rfl ?_)
    refine wpAny_bind (wpAny_updateSeq_tup hTO₂ (by omega) fun h₃ hTO₃ hs₃=>?_)
    refine wpAny_bind (wpAny_letGo (wpAny_pure ?_))
    refine ⟨c + 1,h₃,_,vs ++ [v],hr2.symm,hc,rfl,rfl,hs₃.extBut _ _ (by intro e; have e:(_:Nat) = (_:Nat):=e; omega) hz₂,(L.next hp hi₂ hs₂).same hs₃ (.inl rfl),ht.push hp ev,by simp [hws],hTO₃,fun j hj=>?_⟩
    rw [Array.getElem?_setIfInBounds]
    by_cases z:c = j
    ·subst z
     rw [if_pos rfl,if_pos (by omega),List.getElem?_append_right (by rw [ht.1]; exact Nat.le_refl _),ht.1]
     simp
    ·rw [if_neg z,hw j (by omega),List.getElem?_append_left (by rw [ht.1]; omega)]
  case fin =>
   rintro b s' ⟨c,h,ws,vs,hr,hc,rfl,rfl,hz,L,ht,hws,hTO,hw⟩
   have hc:c = src.length:=by
    have:=congrArg List.length hr
    simp at this
    omega
   subst hc
   refine wpAny_bind (wpAny_seqItems hTO rfl ?_)
   have ews:ws = vs.toArray:=by
    have:ws.toList = vs:=List.ext_getElem? fun j=>by
     rw [Array.getElem?_toList]
     by_cases z:j < src.length
     ·exact hw j z
     ·rw [Array.getElem?_eq_none (by omega),List.getElem?_eq_none (by rw [ht.1]; omega)]
    rw [← this]
   subst ews
   refine wpAny_bind (wpAny_newTuple ?_ (by simp [ht.1]; exact hsz))
   show wpAny _ _ (Builtin.SmallTypes.ownedTupleHandOut (.ref (n + src.length + 2)) (.ref h.objs.size) >>= _) _ _ _
   refine wpAny_bind ?_
   unfold Builtin.SmallTypes.ownedTupleHandOut
   have hzlt:n + src.length + 2 < h.objs.size:=Heap.lt_size hz
   have hz₆:IsZipN (h.push { cls:=.type "tuple",data:=.seq vs.toArray.toList.toArray }) (n + src.length + 2) (n + src.length) (n + src.length + 1) .ellipsis f1:=Heap.get?_push_of_some _ hz
   refine wpAny_bind (wpAny_setField_rec hz₆ (by simp) fun h₇ hz₇ hs₇=>?_)
   replace hz₇:IsZipN h₇ (n + src.length + 2) (n + src.length) (n + src.length + 1) (rawInt h.objs.size) f1:=hz₇
   refine wpAny_setField_rec hz₇ (by simp) fun h₈ hz₈ hs₈=>?_
   replace hz₈:IsZipN h₈ (n + src.length + 2) (n + src.length) (n + src.length + 1) (rawInt h.objs.size) (.bool false):=hz₈
   have up:∀ c o,c ≠ n + src.length + 2 -> h.get? c = some o -> h₈.get? c = some o:=fun c o c1 e=>hs₈.extBut _ _ c1 (hs₇.extBut _ _ c1 (Heap.get?_push_of_some _ e))
   have hT₈:IsTupR h₈ h.objs.size vs.toArray:=hs₈.extBut _ _ (Nat.ne_of_gt hzlt) (hs₇.extBut _ _ (Nat.ne_of_gt hzlt) (Heap.get?_push_size _ rfl))
   have hz8:h₈.objs.size = h.objs.size + 1:=by rw [hs₈.1,hs₇.1,Heap.size_push]
   have esz:=L.sz
   rw [esz] at hT₈ hz8
   refine wpAny_pure ⟨_,rfl,?_⟩
   show Q (.ref h.objs.size) _
   rw [esz]
   refine hQ vs h₈ ht ⟨⟨_,_,.inr ⟨_,rfl⟩,hz₈⟩,up _ _ (by intro e; have e:(_:Nat) = (_:Nat):=e; omega) L.ti,⟨_,hws,up _ _ (by intro e; have e:(_:Nat) = (_:Nat):=e; omega) hTO⟩,fun j p hj=>?_,fun j p hj=>⟨(L.ls j p hj).1,(L.ls j p hj).2.at fun o e=>up _ o (Nat.ne_of_lt (Nat.lt_of_lt_of_le (L.ls j p hj).1 (show n <= n + src.length + 2 by omega))) e⟩,hne⟩ hT₈ hz8 fun b o hb e=>up b o (by intro e; have e:(_:Nat) = (_:Nat):=e; omega) (L.kept b o hb e)
   have:=at_lt hj
   have h1:=(L.its j p hj).at fun o e=>up _ o (by intro e; have e:(_:Nat) = (_:Nat):=e; omega) e
   rw [if_pos this] at h1
   rw [if_neg (Nat.not_lt_zero _)]
   exact h1
 ·simp only [Bool.false_eq_true,if_false]
  have L0:ZipLp s.heap n src k 0 s.heap:=⟨hTI,hit,hls,fun _ _ _ e=>e,rfl⟩
  have L1:=L0.same hs1 (.inr rfl)
  have hTO₁:IsTupR h1 (n + src.length + 1) ws:=hs1.extBut _ _ (by intro e; have e:(_:Nat) = (_:Nat):=e; omega) hTO
  refine wpAny_bind (wpAny_forIn_array' _ (fun rest b s'=>∃ c h vs,rest = ((itsL n src.length).toArray.toList).drop c /\ c <= src.length /\ b = (none,vs.toArray) /\ s' = { s with heap:=h } /\ IsZipN h (n + src.length + 2) (n + src.length) (n + src.length + 1) f0 f1' /\ ZipLp s.heap n src k c h /\ Told src k c vs /\ IsTupR h (n + src.length + 1) ws) _ ?turn2 ?fin2 _ _ ⟨0,h1,[],rfl,Nat.zero_le _,rfl,rfl,hz1,L1,⟨rfl,fun j p hj=>absurd hj (Nat.not_lt_zero _)⟩,hTO₁⟩)
  case turn2 =>
   rintro x rest b s' ⟨c,h,vs,hr,hc,rfl,rfl,hz,L,ht,hTO⟩
   obtain ⟨hx,hr2⟩:=drop_at hr.symm
   have hc:c < src.length:=by
    have:=at_lt hx
    simpa using this
   rw [List.toList_toArray,itsL_at hc] at hx
   cases hx
   have hp:src[c]? = some src[c]:=by simp [hc]
   have hi:=L.its c _ hp
   rw [if_neg (Nat.lt_irrefl _)] at hi
   have hl:=(L.ls c _ hp).2
   refine wpAny_bind (wpAny_holding ?_)
   show wpAny _ _ (Builtin.SmallTypes.nextOf (.ref (n + c)) >>= _) _ _ _
   cases ev:(src[c]).2[k]? with
   | none =>
    refine wpAny_bind (wpAny_nextOf_list_end hh hi hl ev fun h₂ e hs₂ he=>?_)
    exact hE ⟨c,_,hp,ev⟩ h₂ e (KeptZ.step L hs₂ (.inl ⟨Nat.le_add_right _ _,by omega⟩)) he
   | some v =>
    refine wpAny_bind (wpAny_nextOf_list_item hi hl ev fun h₂ hi₂ hs₂=>wpAny_pure ?_)
    refine wpAny_pure ⟨c + 1,h₂,vs ++ [v],hr2.symm,hc,by simp,rfl,hs₂.extBut _ _ (by intro e; have e:(_:Nat) = (_:Nat):=e; omega) hz,L.next hp hi₂ hs₂,ht.push hp ev,hs₂.extBut _ _ (by intro e; have e:(_:Nat) = (_:Nat):=e; omega) hTO⟩
  case fin2 =>
   rintro b s' ⟨c,h,vs,hr,hc,rfl,rfl,hz,L,ht,hTO⟩
   have hc:c = src.length:=by
    have:=congrArg List.length hr
    simp at this
    omega
   subst hc
   refine wpAny_bind (wpAny_newTuple ?_ (by simp [ht.1]; exact hsz))
   have hT₈:IsTupR (h.push { cls:=.type "tuple",data:=.seq vs.toArray.toList.toArray }) h.objs.size vs.toArray:=Heap.get?_push_size _ rfl
   have up:∀ c o,h.get? c = some o -> (h.push { cls:=.type "tuple",data:=.seq vs.toArray.toList.toArray }).get? c = some o:=fun c o e=>Heap.get?_push_of_some _ e
   have hz8:(h.push { cls:=.type "tuple",data:=.seq vs.toArray.toList.toArray }).objs.size = h.objs.size + 1:=Heap.size_push ..
   have esz:=L.sz
   rw [esz] at hT₈ hz8
   refine wpAny_pure ⟨_,rfl,?_⟩
   show Q (.ref h.objs.size) _
   rw [esz]
   refine hQ vs _ ht ⟨⟨_,_,hf,up _ _ hz⟩,up _ _ L.ti,⟨_,hws,up _ _ hTO⟩,fun j p hj=>?_,fun j p hj=>⟨(L.ls j p hj).1,(L.ls j p hj).2.at fun o e=>up _ o e⟩,hne⟩ hT₈ hz8 fun b o hb e=>up b o (L.kept b o hb e)
   have:=at_lt hj
   have h1:=(L.its j p hj).at fun o e=>up _ o e
   rw [if_pos this] at h1
   rw [if_neg (Nat.not_lt_zero _)]
   exact h1
end
end L2
namespace PySem
namespace F
theorem typeCall_zip_3 (a b c:Value):checkTypeCall "zip" ⟨[a,b,c],[]⟩ = pure ():=by kernel_rfl
theorem newCall_zip_3 (a b c:Value):checkBuiltinCall "zip.__new__" ⟨[.type "zip",a,b,c],[]⟩ = pure ():=by kernel_rfl
theorem args_object_init_4 (a b c d:Value):argsOk "object.__init__" ⟨[a,b,c,d],[]⟩:=by
 unfold argsOk; rw [signature?_of (id:="object.__init__") (n:=['_','_','t','i','n','i','_','_']) (o:=['t','c','e','j','b','o']) (by kernel_rfl) owner_object]; kernel_rfl
theorem typeCall_zip_4 (a b c d:Value):checkTypeCall "zip" ⟨[a,b,c,d],[]⟩ = pure ():=by kernel_rfl
theorem newCall_zip_4 (a b c d:Value):checkBuiltinCall "zip.__new__" ⟨[.type "zip",a,b,c,d],[]⟩ = pure ():=by kernel_rfl
theorem args_object_init_5 (a b c d e:Value):argsOk "object.__init__" ⟨[a,b,c,d,e],[]⟩:=by
 unfold argsOk; rw [signature?_of (id:="object.__init__") (n:=['_','_','t','i','n','i','_','_']) (o:=['t','c','e','j','b','o']) (by kernel_rfl) owner_object]; kernel_rfl
end F
end PySem
namespace L2
open PySem PySem.Spec PyProof.Rows
abbrev liO (l:Addr):Obj:={ cls:=.type "list_iterator",data:=.fields #[.ref l,.int 0 0] }
abbrev tuO (xs:List Value):Obj:={ cls:=.type "tuple",data:=.seq xs.toArray }
abbrev ziO (TI TO:Addr):Obj:={ cls:=.type "zip",data:=.fields #[.none,.bool false,.bool false,.ref TI,.ref TO] }
abbrev z3H (h:Heap) (l1 l2 l3:Addr):Heap:=((h.push (liO l1)).push (liO l2)).push (liO l3)
abbrev z3T (h:Heap) (l1 l2 l3:Addr):Heap:=(z3H h l1 l2 l3).push (tuO [.ref h.objs.size,.ref (h.push (liO l1)).objs.size,.ref ((h.push (liO l1)).push (liO l2)).objs.size])
abbrev z3U (h:Heap) (l1 l2 l3:Addr):Heap:=(z3T h l1 l2 l3).push (tuO [.none,.none,.none])
abbrev z3Z (h:Heap) (l1 l2 l3:Addr):Heap:=(z3U h l1 l2 l3).push (ziO (z3H h l1 l2 l3).objs.size (z3T h l1 l2 l3).objs.size)
set_option maxHeartbeats 0 in
theorem meets_zip_new3 (l1 l2 l3:Addr) (xs ys zs:Array Value) :
  Meets (Builtin.«zip.__new__» ⟨[.type "zip",.ref l1,.ref l2,.ref l3],[]⟩) (fun _ R s=>s.heap.IsList l1 xs /\ s.heap.IsList l2 ys /\ s.heap.IsList l3 zs /\
   R (.ok (.ret (.ref (z3U s.heap l1 l2 l3).objs.size))) { s with heap:=z3Z s.heap l1 l2 l3 }) :=
 .of_wp fun prog w A R s h=>by
  obtain ⟨hp,g,d,tk,os⟩:=s; obtain ⟨hl1,hl2,hl3,h⟩:=h
  have hsub:=sub_zip
  have hL1:Heap.IsList (Shared.heap ⟨hp,g,d,tk,os⟩) l1 xs:=hl1
  have hL2:Heap.IsList (Shared.heap ⟨hp.push { cls:=.type "list_iterator",data:=.fields #[.ref l1,.int 0 0] },g,d,tk,os⟩) l2 ys:=Heap.IsList.push hl2 _
  have hL3:Heap.IsList (Shared.heap ⟨(hp.push { cls:=.type "list_iterator",data:=.fields #[.ref l1,.int 0 0] }).push { cls:=.type "list_iterator",data:=.fields #[.ref l2,.int 0 0] },g,d,tk,os⟩) l3 zs:=Heap.IsList.push (Heap.IsList.push hl3 _) _
  wp_walk using wpAny_pyIter_list hL1,wpAny_pyIter_list hL2,wpAny_pyIter_list hL3
  exact ⟨_,rfl,h⟩
abbrev z4H (h:Heap) (l1 l2 l3 l4:Addr):Heap:=(z3H h l1 l2 l3).push (liO l4)
abbrev z4T (h:Heap) (l1 l2 l3 l4:Addr):Heap:=(z4H h l1 l2 l3 l4).push (tuO [.ref h.objs.size,.ref (h.push (liO l1)).objs.size,.ref ((h.push (liO l1)).push (liO l2)).objs.size,.ref (z3H h l1 l2 l3).objs.size])
abbrev z4U (h:Heap) (l1 l2 l3 l4:Addr):Heap:=(z4T h l1 l2 l3 l4).push (tuO [.none,.none,.none,.none])
abbrev z4Z (h:Heap) (l1 l2 l3 l4:Addr):Heap:=(z4U h l1 l2 l3 l4).push (ziO (z4H h l1 l2 l3 l4).objs.size (z4T h l1 l2 l3 l4).objs.size)
set_option maxHeartbeats 0 in
theorem meets_zip_new4 (l1 l2 l3 l4:Addr) (xs ys zs us:Array Value) :
  Meets (Builtin.«zip.__new__» ⟨[.type "zip",.ref l1,.ref l2,.ref l3,.ref l4],[]⟩) (fun _ R s=>s.heap.IsList l1 xs /\ s.heap.IsList l2 ys /\ s.heap.IsList l3 zs /\ s.heap.IsList l4 us /\
   R (.ok (.ret (.ref (z4U s.heap l1 l2 l3 l4).objs.size))) { s with heap:=z4Z s.heap l1 l2 l3 l4 }) :=
 .of_wp fun prog w A R s h=>by
  obtain ⟨hp,g,d,tk,os⟩:=s; obtain ⟨hl1,hl2,hl3,hl4,h⟩:=h
  have hsub:=sub_zip
  have hL1:Heap.IsList (Shared.heap ⟨hp,g,d,tk,os⟩) l1 xs:=hl1
  have hL2:Heap.IsList (Shared.heap ⟨hp.push { cls:=.type "list_iterator",data:=.fields #[.ref l1,.int 0 0] },g,d,tk,os⟩) l2 ys:=Heap.IsList.push hl2 _
  have hL3:Heap.IsList (Shared.heap ⟨(hp.push { cls:=.type "list_iterator",data:=.fields #[.ref l1,.int 0 0] }).push { cls:=.type "list_iterator",data:=.fields #[.ref l2,.int 0 0] },g,d,tk,os⟩) l3 zs:=Heap.IsList.push (Heap.IsList.push hl3 _) _
  have hL4:Heap.IsList (Shared.heap ⟨((hp.push { cls:=.type "list_iterator",data:=.fields #[.ref l1,.int 0 0] }).push { cls:=.type "list_iterator",data:=.fields #[.ref l2,.int 0 0] }).push { cls:=.type "list_iterator",data:=.fields #[.ref l3,.int 0 0] },g,d,tk,os⟩) l4 us:=Heap.IsList.push (Heap.IsList.push (Heap.IsList.push hl4 _) _) _
  wp_walk using wpAny_pyIter_list hL1,wpAny_pyIter_list hL2,wpAny_pyIter_list hL3,wpAny_pyIter_list hL4
  exact ⟨_,rfl,h⟩
def ZipCame (s:Shared) (src:List (Addr × Array Value)) (Q:Value -> Shared -> Prop):Prop :=
 ∀ h',ZipSt h' s.heap.objs.size src 0 -> h'.objs.size = s.heap.objs.size + src.length + 3 -> (∀ c o,s.heap.get? c = some o -> h'.get? c = some o) -> Q (.ref (s.heap.objs.size + src.length + 2)) { s with heap:=h' }
section
variable {prog:Program} {w:World} {A:Around} {E:Value -> Shared -> Prop} {s:Shared}
theorem call_zipN2 {p1 p2:Addr × Array Value} {Q:Value -> Shared -> Prop} (h1:s.heap.IsList p1.1 p1.2) (h2:s.heap.IsList p2.1 p2.2) (h:ZipCame s [p1,p2] Q) :
  wpAny (model prog w) A (call (.type "zip") [.ref p1.1,.ref p2.1]) Q E s:=by
 refine call_zip_2 h1 h2 fun h' a1 a2 a3 a4 a5 a6 hk=>?_
 have lt:∀ {l xs},s.heap.IsList l xs -> l < s.heap.objs.size:=fun ⟨o,e,_⟩=>Heap.lt_size e
 refine h h' ⟨⟨_,_,.inl rfl,a1⟩,a2,⟨_,rfl,a3⟩,fun j p hj=>?_,fun j p hj=>?_,by simp⟩ a6 hk
 ·rw [if_neg (Nat.not_lt_zero _)]
  rcases j with _ | _ | j
  ·simp at hj; subst hj; exact a4
  ·simp at hj; subst hj; exact a5
  ·simp at hj
 ·rcases j with _ | _ | j
  ·simp at hj; subst hj; exact ⟨lt h1,h1.at fun o e=>hk _ o e⟩
  ·simp at hj; subst hj; exact ⟨lt h2,h2.at fun o e=>hk _ o e⟩
  ·simp at hj
theorem call_zipN3 {p1 p2 p3:Addr × Array Value} {Q:Value -> Shared -> Prop} (h1:s.heap.IsList p1.1 p1.2) (h2:s.heap.IsList p2.1 p2.2) (h3:s.heap.IsList p3.1 p3.2) (h:ZipCame s [p1,p2,p3] Q) :
  wpAny (model prog w) A (call (.type "zip") [.ref p1.1,.ref p2.1,.ref p3.1]) Q E s:=by
 refine callType_new F.called_zip (by decide) (F.typeCall_zip_3 _ _ _) (F.newCall_zip_3 _ _ _) (fun obj=>F.args_object_init_4 obj _ _ _) F.entry_zip_new
  (meets_zip_new3 p1.1 p2.1 p3.1 p1.2 p2.2 p3.2) ⟨h1,h2,h3,?_⟩
 have lt:∀ {l xs},s.heap.IsList l xs -> l < s.heap.objs.size:=fun ⟨o,e,_⟩=>Heap.lt_size e
 have z1:(s.heap.push (liO p1.1)).objs.size = s.heap.objs.size + 1:=Heap.size_push ..
 have z2:((s.heap.push (liO p1.1)).push (liO p2.1)).objs.size = s.heap.objs.size + 2:=by rw [Heap.size_push,z1]
 have z3:(z3H s.heap p1.1 p2.1 p3.1).objs.size = s.heap.objs.size + 3:=by rw [Heap.size_push,z2]
 have z4:(z3T s.heap p1.1 p2.1 p3.1).objs.size = s.heap.objs.size + 4:=by rw [Heap.size_push,z3]
 have z5:(z3U s.heap p1.1 p2.1 p3.1).objs.size = s.heap.objs.size + 5:=by rw [Heap.size_push,z4]
 have z6:(z3Z s.heap p1.1 p2.1 p3.1).objs.size = s.heap.objs.size + 6:=by rw [Heap.size_push,z5]
 have up:∀ c o,(z3H s.heap p1.1 p2.1 p3.1).get? c = some o -> (z3Z s.heap p1.1 p2.1 p3.1).get? c = some o:=fun c o e=>Heap.get?_push_of_some _ (Heap.get?_push_of_some _ (Heap.get?_push_of_some _ e))
 have g6:(z3Z s.heap p1.1 p2.1 p3.1).get? (z3U s.heap p1.1 p2.1 p3.1).objs.size = some _:=Heap.get?_push_size _ rfl
 have g5:(z3Z s.heap p1.1 p2.1 p3.1).get? (z3T s.heap p1.1 p2.1 p3.1).objs.size = some _:=Heap.get?_push_of_some _ (Heap.get?_push_size _ rfl)
 have g4:(z3Z s.heap p1.1 p2.1 p3.1).get? (z3H s.heap p1.1 p2.1 p3.1).objs.size = some _:=Heap.get?_push_of_some _ (Heap.get?_push_of_some _ (Heap.get?_push_size _ rfl))
 have g3:(z3Z s.heap p1.1 p2.1 p3.1).get? ((s.heap.push (liO p1.1)).push (liO p2.1)).objs.size = some _:=up _ _ (Heap.get?_push_size _ rfl)
 have g2:(z3Z s.heap p1.1 p2.1 p3.1).get? (s.heap.push (liO p1.1)).objs.size = some _:=up _ _ (Heap.get?_push_of_some _ (Heap.get?_push_size _ rfl))
 have g1:(z3Z s.heap p1.1 p2.1 p3.1).get? s.heap.objs.size = some _:=up _ _ (Heap.get?_push_of_some _ (Heap.get?_push_of_some _ (Heap.get?_push_size _ rfl)))
 have kp:∀ c o,s.heap.get? c = some o -> (z3Z s.heap p1.1 p2.1 p3.1).get? c = some o:=fun c o x=>up _ _ (Heap.get?_push_of_some _ (Heap.get?_push_of_some _ (Heap.get?_push_of_some _ x)))
 show _ /\ _
 rw [z3,z4,z5] at g6
 rw [z1,z2,z3] at g4
 rw [z4] at g5
 rw [z2] at g3
 rw [z1] at g2
 rw [z5]
 refine ⟨⟨_,g6,rfl⟩,h _ ⟨⟨_,_,.inl rfl,g6⟩,g4,⟨_,rfl,g5⟩,fun j p hj=>?_,fun j p hj=>?_,by simp⟩ z6 kp⟩
 ·rw [if_neg (Nat.not_lt_zero _)]
  rcases j with _ | _ | _ | j
  ·simp at hj; subst hj; exact ⟨_,g1,rfl,rfl⟩
  ·simp at hj; subst hj; exact ⟨_,g2,rfl,rfl⟩
  ·simp at hj; subst hj; exact ⟨_,g3,rfl,rfl⟩
  ·simp at hj
 ·rcases j with _ | _ | _ | j
  ·simp at hj; subst hj; exact ⟨lt h1,h1.at fun o e=>kp _ o e⟩
  ·simp at hj; subst hj; exact ⟨lt h2,h2.at fun o e=>kp _ o e⟩
  ·simp at hj; subst hj; exact ⟨lt h3,h3.at fun o e=>kp _ o e⟩
  ·simp at hj
theorem call_zipN4 {p1 p2 p3 p4:Addr × Array Value} {Q:Value -> Shared -> Prop} (h1:s.heap.IsList p1.1 p1.2) (h2:s.heap.IsList p2.1 p2.2) (h3:s.heap.IsList p3.1 p3.2) (h4:s.heap.IsList p4.1 p4.2) (h:ZipCame s [p1,p2,p3,p4] Q) :
  wpAny (model prog w) A (call (.type "zip") [.ref p1.1,.ref p2.1,.ref p3.1,.ref p4.1]) Q E s:=by
 refine callType_new F.called_zip (by decide) (F.typeCall_zip_4 _ _ _ _) (F.newCall_zip_4 _ _ _ _) (fun obj=>F.args_object_init_5 obj _ _ _ _) F.entry_zip_new
  (meets_zip_new4 p1.1 p2.1 p3.1 p4.1 p1.2 p2.2 p3.2 p4.2) ⟨h1,h2,h3,h4,?_⟩
 have lt:∀ {l xs},s.heap.IsList l xs -> l < s.heap.objs.size:=fun ⟨o,e,_⟩=>Heap.lt_size e
 have z1:(s.heap.push (liO p1.1)).objs.size = s.heap.objs.size + 1:=Heap.size_push ..
 have z2:((s.heap.push (liO p1.1)).push (liO p2.1)).objs.size = s.heap.objs.size + 2:=by rw [Heap.size_push,z1]
 have z3:(z3H s.heap p1.1 p2.1 p3.1).objs.size = s.heap.objs.size + 3:=by rw [Heap.size_push,z2]
 have z3':(z4H s.heap p1.1 p2.1 p3.1 p4.1).objs.size = s.heap.objs.size + 4:=by rw [Heap.size_push,z3]
 have z4:(z4T s.heap p1.1 p2.1 p3.1 p4.1).objs.size = s.heap.objs.size + 5:=by rw [Heap.size_push,z3']
 have z5:(z4U s.heap p1.1 p2.1 p3.1 p4.1).objs.size = s.heap.objs.size + 6:=by rw [Heap.size_push,z4]
 have z6:(z4Z s.heap p1.1 p2.1 p3.1 p4.1).objs.size = s.heap.objs.size + 7:=by rw [Heap.size_push,z5]
 have up:∀ c o,(z4H s.heap p1.1 p2.1 p3.1 p4.1).get? c = some o -> (z4Z s.heap p1.1 p2.1 p3.1 p4.1).get? c = some o:=fun c o e=>Heap.get?_push_of_some _ (Heap.get?_push_of_some _ (Heap.get?_push_of_some _ e))
 have g6:(z4Z s.heap p1.1 p2.1 p3.1 p4.1).get? (z4U s.heap p1.1 p2.1 p3.1 p4.1).objs.size = some _:=Heap.get?_push_size _ rfl
 have g5:(z4Z s.heap p1.1 p2.1 p3.1 p4.1).get? (z4T s.heap p1.1 p2.1 p3.1 p4.1).objs.size = some _:=Heap.get?_push_of_some _ (Heap.get?_push_size _ rfl)
 have g4:(z4Z s.heap p1.1 p2.1 p3.1 p4.1).get? (z4H s.heap p1.1 p2.1 p3.1 p4.1).objs.size = some _:=Heap.get?_push_of_some _ (Heap.get?_push_of_some _ (Heap.get?_push_size _ rfl))
 have g3':(z4Z s.heap p1.1 p2.1 p3.1 p4.1).get? (z3H s.heap p1.1 p2.1 p3.1).objs.size = some _:=up _ _ (Heap.get?_push_size _ rfl)
 have g3:(z4Z s.heap p1.1 p2.1 p3.1 p4.1).get? ((s.heap.push (liO p1.1)).push (liO p2.1)).objs.size = some _:=up _ _ (Heap.get?_push_of_some _ (Heap.get?_push_size _ rfl))
 have g2:(z4Z s.heap p1.1 p2.1 p3.1 p4.1).get? (s.heap.push (liO p1.1)).objs.size = some _:=up _ _ (Heap.get?_push_of_some _ (Heap.get?_push_of_some _ (Heap.get?_push_size _ rfl)))
 have g1:(z4Z s.heap p1.1 p2.1 p3.1 p4.1).get? s.heap.objs.size = some _:=up _ _ (Heap.get?_push_of_some _ (Heap.get?_push_of_some _ (Heap.get?_push_of_some _ (Heap.get?_push_size _ rfl))))
 have kp:∀ c o,s.heap.get? c = some o -> (z4Z s.heap p1.1 p2.1 p3.1 p4.1).get? c = some o:=fun c o x=>up _ _ (Heap.get?_push_of_some _ (Heap.get?_push_of_some _ (Heap.get?_push_of_some _ (Heap.get?_push_of_some _ x))))
 show _ /\ _
 rw [z3',z4,z5] at g6
 rw [z1,z2,z3,z3'] at g4
 rw [z4] at g5
 rw [z3] at g3'
 rw [z2] at g3
 rw [z1] at g2
 rw [z5]
 refine ⟨⟨_,g6,rfl⟩,h _ ⟨⟨_,_,.inl rfl,g6⟩,g4,⟨_,rfl,g5⟩,fun j p hj=>?_,fun j p hj=>?_,by simp⟩ z6 kp⟩
 ·rw [if_neg (Nat.not_lt_zero _)]
  rcases j with _ | _ | _ | _ | j
  ·simp at hj; subst hj; exact ⟨_,g1,rfl,rfl⟩
  ·simp at hj; subst hj; exact ⟨_,g2,rfl,rfl⟩
  ·simp at hj; subst hj; exact ⟨_,g3,rfl,rfl⟩
  ·simp at hj; subst hj; exact ⟨_,g3',rfl,rfl⟩
  ·simp at hj
 ·rcases j with _ | _ | _ | _ | j
  ·simp at hj; subst hj; exact ⟨lt h1,h1.at fun o e=>kp _ o e⟩
  ·simp at hj; subst hj; exact ⟨lt h2,h2.at fun o e=>kp _ o e⟩
  ·simp at hj; subst hj; exact ⟨lt h3,h3.at fun o e=>kp _ o e⟩
  ·simp at hj; subst hj; exact ⟨lt h4,h4.at fun o e=>kp _ o e⟩
  ·simp at hj
end
end L2
namespace L2
open PySem PySem.Spec PyProof.Rows
section
variable {X:Cx} {pins:List (Addr × Obj)} {σ:St} {H:Hp} {s:Shared} {h':Heap}
theorem Inv.trackF {a:Addr} {o:HO} (I:Inv X pins σ H s) (hf:FpOk X pins H a) (new:ObjOk X.prog X.w (upd H a o) s.heap a o):Inv X pins σ (upd H a o) s:=by
 obtain ⟨hn,hl,hfs,hs,hc,hp⟩:=hf
 have tr:∀ b q,H b = some q -> upd H a o b = some q:=fun b q e=>by rw [upd_ne (ne_of_none e hn)]; exact e
 refine ⟨I.ok,I.os,I.bare,⟨I.base.keep,I.base.slot,fun b q e n hx=>?_,I.base.there,fun b xs q=>tr _ _ (I.base.tups b xs q),fun b o u q=>tr _ _ (I.base.frzs b o u q),fun b ps q=>?_⟩,I.loc,I.cell,?_,fun x d q=>?_,fun p hq=>?_,fun b q e=>?_,I.len⟩
 ·have:b ≠ a:=by
   rintro rfl
   rcases hs with h | h
   ·exact hx h
   ·exact absurd (Nat.lt_of_lt_of_le (Heap.lt_size e) h) (Nat.lt_irrefl _)
  rw [upd_ne this]; exact I.base.free b q e n hx
 ·obtain ⟨m,z⟩:=I.base.tbls b ps q
  exact ⟨m,tr _ _ z⟩
 ·rw [upd_ne (Ne.symm hl)]; exact I.free
 ·rw [upd_ne (hc x d q)]; exact I.freeC x d q
 ·obtain ⟨e1,e2,r⟩:=I.pin p hq
  exact ⟨e1,by rw [upd_ne (hp p hq)]; exact e2,r⟩
 ·by_cases z:b = a
  ·subst z
   rw [upd_same] at e; cases e
   exact new
  ·rw [upd_ne z] at e
   exact (I.hok b q e).stay (fun _ _ _ q=>q) (fun d q=>tr _ _ q) fun d xs q=>tr _ _ q
theorem FpOk.upd {a b:Addr} {o:HO} (f:FpOk X pins H b) (hne:b ≠ a):FpOk X pins (upd H a o) b:=⟨by rw [upd_ne hne]; exact f.1,f.2⟩
end
inductive Laid:Hp -> List (List V) -> List Addr -> Hp -> Prop
 | nil {H:Hp}:Laid H [] [] H
 | snoc {H H1:Hp} {rows:List (List V)} {Ts:List Addr} {r:List V} {T:Addr}:Laid H rows Ts H1 -> H1 T = none -> Laid H (rows ++ [r]) (Ts ++ [T]) (upd H1 T (.tup r))
def RowAt (xss:List (List V)) (i:Nat) (r:List V):Prop:=r.length = xss.length /\ ∀ (j:Nat) xs,xss[j]? = some xs -> xs[i]? = r[j]?
def RowsOf (xss:List (List V)) (rows:List (List V)):Prop:=(∀ (i:Nat) r,rows[i]? = some r -> RowAt xss i r) /\ ∃ xs ∈ xss,xs.length <= rows.length
def SrcV (xss:List (List V)) (src:List (Addr × Array Value)):Prop:=xss.length = src.length /\ ∀ (j:Nat) xs (p:Addr × Array Value),xss[j]? = some xs -> src[j]? = some p -> Vals xs p.2.toList
theorem Vals.got:∀ {xs:List V} {us:List Value} {i:Nat} {u:Value},Vals xs us -> us[i]? = some u -> ∃ x,xs[i]? = some x /\ RelV x u:=fun {xs us i u} r e=>by
 have hi:i < us.length:=at_lt e
 have hx:xs[i]? = some (xs[i]'(by rw [r.length]; exact hi)):=by simp
 obtain ⟨u',e',ru⟩:=r.get hx
 rw [e] at e'
 cases e'
 exact ⟨_,hx,ru⟩
theorem told_row' {i:Nat}:∀ {xss:List (List V)} {src:List (Addr × Array Value)} {vs:List Value},SrcV xss src -> vs.length = src.length -> (∀ (j:Nat) (p:Addr × Array Value),src[j]? = some p -> p.2[i]? = vs[j]?) -> ∃ r,RowAt xss i r /\ Vals r vs
 | [],src,vs,hv,hl,_=>by
  have h0:src = []:=List.length_eq_zero_iff.mp (by rw [← hv.1]; rfl)
  subst h0
  have h1:vs = []:=List.length_eq_zero_iff.mp (by rw [hl]; rfl)
  subst h1
  exact ⟨[],⟨rfl,fun j xs h=>by simp at h⟩,.nil⟩
 | xs :: xss,[],vs,hv,hl,_=>absurd hv.1 (by simp)
 | xs :: xss,p :: src,[],hv,hl,_=>absurd hl (by simp)
 | xs :: xss,p :: src,v :: vs,hv,hl,h=>by
  obtain ⟨r,hr,rv⟩:=told_row' (xss:=xss) (src:=src) (vs:=vs) (i:=i) ⟨by simpa using hv.1,fun j xs p h1 h2=>hv.2 (j + 1) xs p (by simpa using h1) (by simpa using h2)⟩ (by simpa using hl) fun j p hj=>by
   have:=h (j + 1) p (by simpa using hj)
   simpa using this
  have h0:=h 0 p rfl
  have h0:p.2[i]? = some v:=by simpa using h0
  obtain ⟨x,hx,rx⟩:=(hv.2 0 xs p rfl rfl).got (u:=v) (i:=i) (by rw [Array.getElem?_toList]; exact h0)
  refine ⟨x :: r,⟨by simp [hr.1],fun j ys hj=>?_⟩,.cons rx rv⟩
  cases j with
  | zero=>simp at hj; subst hj; simpa using hx
  | succ j=>simpa using hr.2 j ys (by simpa using hj)
theorem told_row {xss:List (List V)} {src:List (Addr × Array Value)} {i:Nat} {vs:List Value} (hv:SrcV xss src) (ht:Told src i src.length vs):∃ r,RowAt xss i r /\ Vals r vs :=
 told_row' hv ht.1 fun j p hj=>ht.2 j p (at_lt hj) hj
theorem ended {xss:List (List V)} {src:List (Addr × Array Value)} {i:Nat} (hv:SrcV xss src) (h:∃ (j:Nat) (p:Addr × Array Value),src[j]? = some p /\ p.2[i]? = none):∃ xs ∈ xss,xs.length <= i:=by
 obtain ⟨j,p,hj,hp⟩:=h
 have lt:j < xss.length:=by rw [hv.1]; exact at_lt hj
 have hx:xss[j]? = some xss[j]:=by simp [lt]
 have r:=hv.2 j _ p hx hj
 refine ⟨xss[j],List.getElem_mem lt,?_⟩
 have e:xss[j].length = p.2.size:=by have:=r.length; simpa using this
 have hp:=Array.getElem?_eq_none_iff.mp hp
 rw [e]
 exact hp
theorem wpAny_pyNext_zipN {prog:Program} {w:World} {A:Around} {E:Value -> Shared -> Prop} {s:Shared} {n k:Nat} {src:List (Addr × Array Value)} {Q:Option Value -> Shared -> Prop} (hh:A.handled = none) (hsz:src.length <= sizeLine) (hs:ZipSt s.heap n src k)
  (hQ:∀ vs h',Told src k src.length vs -> ZipSt h' n src (k + 1) -> IsTupR h' s.heap.objs.size vs.toArray -> h'.objs.size = s.heap.objs.size + 1 -> KeptZ n src.length s.heap h' -> Q (some (.ref s.heap.objs.size)) { s with heap:=h' })
  (hE:(∃ (j:Nat) (p:Addr × Array Value),src[j]? = some p /\ p.2[k]? = none) -> ∀ h',KeptZ n src.length s.heap h' -> Q none { s with heap:=h' }) :
  wpAny (model prog w) A (pyNext (.ref (n + src.length + 2))) Q E s:=by
 obtain ⟨f0,f1,_,hz⟩:=hs.zip
 have hT:s.TypeIs (.ref (n + src.length + 2)) "zip":=⟨_,hz,rfl⟩
 unfold pyNext
 refine wpAny_bind (wpAny_attempt (wpAny_callSpecial?_slot (name:=Str.ofString "__next__") hT F.slot_zip_next
  (wpAny_call_entry F.slot_zip_next hT F.entry_zip_next (zipN_next hh hsz hs (fun vs h' a1 a2 a3 a4 a5=>wpAny_pure (hQ vs h' a1 a2 a3 a4 a5)) fun a h' e hk he=>?_) (F.args_zip_next_1 _))))
 obtain ⟨o,ho,hc⟩:=he
 refine wpAny_bind (wpAny_isInstance (T:="StopIteration") (b:=true) ⟨o,ho,hc⟩ isSubtype_stop ?_)
 exact wpAny_pure (hE a _ hk)
section
variable {X:Cx}
def ownZ (n m S:Nat):List Addr:=S :: (List.range (m + 3)).map (n + ·)
theorem ownZ_mem {n m S b:Nat}:b ∈ ownZ n m S ↔ b = S ∨ n <= b /\ b < n + m + 3:=by
 unfold ownZ
 simp only [List.mem_cons,List.mem_map,List.mem_range]
 constructor
 ·rintro (h | ⟨a,h1,h2⟩)
  ·exact .inl h
  ·exact .inr ⟨by omega,by omega⟩
 ·rintro (h | ⟨h1,h2⟩)
  ·exact .inl h
  ·exact .inr ⟨b - n,by omega,by omega⟩
theorem ownZ_not {n m S b:Nat} (h:b ∉ ownZ n m S):b ≠ S /\ (b < n ∨ n + m + 2 < b):=by
 have h1:¬ (b = S):=fun z=>h (ownZ_mem.mpr (.inl z))
 have h2:¬ (n <= b /\ b < n + m + 3):=fun z=>h (ownZ_mem.mpr (.inr z))
 exact ⟨h1,by omega⟩
theorem keptZ_of {n m b:Nat} (h:b < n ∨ n + m + 2 < b):b < n ∨ b = n + m ∨ n + m + 2 < b:=h.imp_right .inr
theorem ZipSt.keep {h h':Heap} {n k:Nat} {src:List (Addr × Array Value)} (z:ZipSt h n src k) (kk:∀ (b:Nat) o,b < n + src.length + 3 -> h.get? b = some o -> h'.get? b = some o):ZipSt h' n src k:=by
 obtain ⟨⟨f0,f1,hf,hz⟩,hTI,⟨ws,hws,hTO⟩,hit,hls,hne⟩:=z
 exact ⟨⟨f0,f1,hf,kk _ _ (by omega) hz⟩,kk _ _ (by omega) hTI,⟨ws,hws,kk _ _ (by omega) hTO⟩,fun j p hj=>(hit j p hj).at fun o e=>kk _ o (by have:=at_lt hj; omega) e,fun j p hj=>⟨(hls j p hj).1,(hls j p hj).2.at fun o e=>kk _ o (Nat.lt_of_lt_of_le (hls j p hj).1 (by omega)) e⟩,hne⟩
theorem Laid.len {H H':Hp} {rows:List (List V)} {Ts:List Addr} (l:Laid H rows Ts H'):Ts.length = rows.length:=by
 induction l with
 | nil=>rfl
 | snoc _ _ ih=>simp [ih]
theorem zip_loop {n S:Nat} {src:List (Addr × Array Value)} {xss:List (List V)} {pins:List (Addr × Obj)} {σ:St} {H0:Hp} {A:Around} {R:Result -> Shared -> Prop} {res:Value} (hh:A.handled = none) (hsz:src.length <= sizeLine) (hv:SrcV xss src)
  (hS:n + src.length + 3 <= S)
  (hR:∀ s' rows Ts H' c,RowsOf xss rows -> Laid H0 rows Ts H' -> Inv X pins σ H' s' -> FpOk X pins H' S -> Ts.length <= sizeLine -> s'.heap.get? S = some { cls:=.type "list",dict:=none,data:=.seq (Ts.map Value.ref).toArray c,slots:=#[] } -> R (.ok (.ret res)) s') :
  ∀ (m i:Nat) (s:Shared) (H:Hp) (rows:List (List V)) (Ts:List Addr) (c:Nat),(∀ xs ∈ xss,xs.length <= i + m) -> i <= sizeLine -> (∀ xs ∈ xss,xs.length <= sizeLine) -> rows.length = i -> (∀ (j:Nat) r,rows[j]? = some r -> RowAt xss j r) -> Laid H0 rows Ts H -> Inv X pins σ H s -> (∀ b ∈ ownZ n src.length S,FpOk X pins H b) -> ZipSt s.heap n src i ->
   s.heap.get? S = some { cls:=.type "list",dict:=none,data:=.seq (Ts.map Value.ref).toArray c,slots:=#[] } ->
   codeAny (model X.prog X.w) A (.builtin "list.extend.loop" ⟨[.ref S,.ref (n + src.length + 2),res],[]⟩) R s:=by
 have fin:∀ (i:Nat) (s:Shared) (H:Hp) (rows:List (List V)) (Ts:List Addr) (c:Nat),i <= sizeLine -> rows.length = i -> (∀ (j:Nat) r,rows[j]? = some r -> RowAt xss j r) -> Laid H0 rows Ts H -> Inv X pins σ H s -> (∀ b ∈ ownZ n src.length S,FpOk X pins H b) ->
   s.heap.get? S = some { cls:=.type "list",dict:=none,data:=.seq (Ts.map Value.ref).toArray c,slots:=#[] } -> (∃ (j:Nat) (p:Addr × Array Value),src[j]? = some p /\ p.2[i]? = none) -> ∀ h',KeptZ n src.length s.heap h' -> R (.ok (.ret res)) { s with heap:=h' }:=by
  intro i s H rows Ts c hi hrow hrows L I hf hS' he h' hk
  refine hR _ rows Ts H c ⟨hrows,?_⟩ L (I.turnedL (t':=s.toks) (ch:=ownZ n src.length S) hf fun b u hb q=>hk b u ?_ q) (hf S (ownZ_mem.mpr (.inl rfl))) (by rw [L.len]; omega) (hk S _ (by omega) hS')
  ·obtain ⟨xs,h1,h2⟩:=ended hv he
   exact ⟨xs,h1,by omega⟩
  ·exact keptZ_of (ownZ_not hb).2
 intro m
 induction m with
 | zero =>
  intro i s H rows Ts c hm hi hb hrow hrows L I hf hz hS'
  refine codeAny_builtin F.entry_extend_loop ?_
  rw [Around.under_plainId F.plain_extend_loop _]
  show wpAny _ A.in1 (pyNext (.ref _) >>= _) _ _ s
  refine wpAny_bind (wpAny_pyNext_zipN hh hsz hz (fun vs h' ht _ _ _ _=>?_) (fun he h' hk=>wpAny_pure (fin i s H rows Ts c hi hrow hrows L I hf hS' he h' hk)))
  exfalso
  obtain ⟨r,⟨hr1,hr2⟩,_⟩:=told_row hv ht
  have hne:=hz.ne
  have h0:0 < src.length:=List.length_pos_iff.mpr hne
  have lt:0 < xss.length:=by rw [hv.1]; exact h0
  have:=hr2 0 xss[0] (by simp [lt])
  have hl:=hm xss[0] (List.getElem_mem lt)
  rw [List.getElem?_eq_none (by omega)] at this
  rw [List.getElem?_eq_getElem (by omega)] at this
  cases this
 | succ m ih =>
  intro i s H rows Ts c hm hi hb hrow hrows L I hf hz hS'
  refine codeAny_builtin F.entry_extend_loop ?_
  rw [Around.under_plainId F.plain_extend_loop _]
  show wpAny _ A.in1 (pyNext (.ref _) >>= _) _ _ s
  refine wpAny_bind (wpAny_pyNext_zipN hh hsz hz (fun vs h' ht hz' hT' hs' hk=>?_) (fun he h' hk=>wpAny_pure (fin i s H rows Ts c hi hrow hrows L I hf hS' he h' hk)))
  obtain ⟨r,hr,rv⟩:=told_row hv ht
  have hi1:i < sizeLine:=by
   have h0:0 < src.length:=List.length_pos_iff.mpr hz.ne
   have lt:0 < xss.length:=by rw [hv.1]; exact h0
   have:=hr.2 0 xss[0] (by simp [lt])
   have hl:=hb xss[0] (List.getElem_mem lt)
   rcases Nat.lt_or_ge i xss[0].length with z | z
   ·omega
   ·rw [List.getElem?_eq_none z,List.getElem?_eq_getElem (by rw [hr.1]; exact lt)] at this
    cases this
  have hSlt:S < s.heap.objs.size:=Heap.lt_size hS'
  have hS'':=hk S _ (by omega) hS'
  have lT:=L.len
  have eTs:((Ts ++ [s.heap.objs.size]).map Value.ref).toArray = (Ts.map Value.ref).toArray.push (.ref s.heap.objs.size):=by simp
  have hS3:=Heap.get?_update_self (Obj.mapSeq (·.push (Value.ref s.heap.objs.size))) hS'' rfl
  obtain ⟨c3,hS4⟩:∃ c3,(h'.update S (Obj.mapSeq (·.push (Value.ref s.heap.objs.size)))).get? S = some { cls:=.type "list",dict:=none,data:=.seq ((Ts ++ [s.heap.objs.size]).map Value.ref).toArray c3,slots:=#[] }:=⟨_,by rw [eTs]; exact hS3⟩
  show wpAny _ A.in1 (updateSeq S (·.push (.ref s.heap.objs.size)) >>= _) _ _ _
  refine wpAny_bind (wpAny_updateSeq hS'' rfl (wpAny_pure ⟨plainId_quiet F.plain_extend_loop _,ih (i + 1) _ (upd H s.heap.objs.size (.tup r)) (rows ++ [r]) (Ts ++ [s.heap.objs.size]) c3 (fun xs hx=>by have:=hm xs hx; omega) hi1 hb (by simp [hrow]) (fun j r' hj=>?_) (.snoc L (I.hok.fresh (Nat.le_refl _))) ?_ (fun b hb=>?_) (hz'.keep fun b o hb e=>?_) hS4⟩) (by simp; omega) (by simp; omega))
  ·rcases Nat.lt_or_ge j rows.length with z | z
   ·rw [List.getElem?_append_left z] at hj
    exact hrows j r' hj
   ·rw [List.getElem?_append_right z] at hj
    have:j = rows.length:=by
     have:=at_lt hj
     simp at this
     omega
    subst this
    simp at hj
    subst hj
    rw [hrow]
    exact hr
  ·refine I.turnedN (t':=s.toks) (ch:=ownZ n src.length S) hf (fun b o hb q=>?_) (Nat.le_refl _) ⟨?_,vs,rv,?_⟩
   ·exact (Heap.get?_update_other _ _ (Ne.symm (ownZ_not hb).1)).trans (hk b o (keptZ_of (ownZ_not hb).2) q)
   ·rw [hr.1,hv.1]; exact hsz
   ·exact ⟨_,(Heap.get?_update_other _ _ (by intro e; have e:(_:Nat) = (_:Nat):=e; omega)).trans hT',rfl,_,rfl⟩
  ·have:=ownZ_mem.mp hb
   exact (hf b hb).upd (by intro e; have e:(_:Nat) = (_:Nat):=e; omega)
  ·exact (Heap.get?_update_other _ _ (by intro e; have e:(_:Nat) = (_:Nat):=e; omega)).trans e
end
end L2
namespace PySem
namespace F
theorem zip_no_len:typeLookup (.type "zip") "__len__" = pure none:=by rw [typeLookup_type,builtinLookup_eq_fast]; kernel_rfl
theorem zip_no_hint:typeLookup (.type "zip") "__length_hint__" = pure none:=by rw [typeLookup_type,builtinLookup_eq_fast]; kernel_rfl
end F
end PySem
namespace L2
open PySem PySem.Spec PyProof.Rows
section
variable {X:Cx}
def ListZ (xss:List (List V)) (H:Hp) (Q:VK):Prop:=∀ (rows:List (List V)) (Ts:List Addr) (H':Hp) (l:Addr),RowsOf xss rows -> Laid H rows Ts H' -> H' l = none -> Ts.length <= sizeLine -> Q (.ref l) (upd H' l (.lst (Ts.map V.ref)))
theorem refs_vals:∀ (Ts:List Addr),Vals (Ts.map V.ref) (Ts.map Value.ref)
 | []=>.nil
 | T :: Ts=>.cons rfl (refs_vals Ts)
theorem list_zip {n:Nat} {src:List (Addr × Array Value)} {xss:List (List V)} {pins:List (Addr × Obj)} {σ:St} {H:Hp} {s:Shared} {Q:VK} (hh:X.A.handled = none) (hsz:src.length <= sizeLine) (hv:SrcV xss src) (hb:∀ xs ∈ xss,xs.length <= sizeLine)
  (I:Inv X pins σ H s) (hf:∀ b:Nat,n <= b -> FpOk X pins H b) (hz:ZipSt s.heap n src 0) (hq:ListZ xss H Q) :
  wpAny (model X.prog X.w) X.A (call (.type "list") [.ref (n + src.length + 2)]) (EP X pins σ Q) X.xe s:=by
 obtain ⟨f0,f1,hf0,hzz⟩:=hz.zip
 have hzlt:n + src.length + 2 < s.heap.objs.size:=Heap.lt_size hzz
 refine callType_codes (Q₁:=fun obj s₁=>obj = .ref s.heap.objs.size /\ s₁ = { s with heap:=s.heap.push { cls:=.type "list",data:=.seq #[] } }) F.called_list (F.typeCall_list_1 _) F.entry_list_init
  (code_list_new _ ⟨rfl,rfl⟩) fun obj s₁ h₁=>?_
 obtain ⟨rfl,rfl⟩:=h₁
 have hS:(s.heap.push { cls:=.type "list",data:=.seq #[] }).get? s.heap.objs.size = some { cls:=.type "list",data:=.seq #[] }:=Heap.get?_push_size _ rfl
 refine ⟨⟨_,hS,rfl⟩,F.args_list_init_2 _ _,?_⟩
 generalize hR:(wants (fun r s₂=>r = Value.none /\ EP X pins σ Q (.ref s.heap.objs.size) s₂) X.xe) = R
 show wpAny _ _ (do let old ← Builtin.List.listItems (.ref s.heap.objs.size); Builtin.List.listUpdate (.ref s.heap.objs.size) (fun _=>#[]); letGo old.toList.reverse; Builtin.List.listExtendWith (.ref s.heap.objs.size) (.ref (n + src.length + 2)) .none) _ _ _
 refine wpAny_bind ?_
 unfold Builtin.List.listItems
 refine wpAny_bind (wpAny_seqItems hS rfl (wpAny_pure ?_))
 show wpAny _ _ (updateSeq s.heap.objs.size (fun _=>#[]) >>= fun _=>letGo (#[]:Array Value).toList.reverse >>= fun _=>Builtin.List.listExtendWith (.ref s.heap.objs.size) (.ref (n + src.length + 2)) .none) _ _ _
 refine wpAny_bind (wpAny_updateSeq hS rfl ?_)
 have hS₂:=Heap.get?_update_self (Obj.mapSeq (fun _=>(#[]:Array Value))) hS rfl
 have o2:∀ b o,s.heap.get? b = some o -> ((s.heap.push { cls:=.type "list",data:=.seq #[] }).update s.heap.objs.size (Obj.mapSeq (fun _=>(#[]:Array Value)))).get? b = some o :=
  fun b o e=>(Heap.get?_update_other _ _ (Nat.ne_of_gt (Heap.lt_size e))).trans (Heap.get?_push_of_some _ e)
 refine wpAny_bind (wpAny_letGo ?_)
 generalize hh2:(s.heap.push { cls:=.type "list",data:=.seq #[] }).update s.heap.objs.size (Obj.mapSeq (fun _=>(#[]:Array Value))) = h2 at hS₂ o2 ⊢
 have hz2:IsZipN h2 (n + src.length + 2) (n + src.length) (n + src.length + 1) f0 f1:=o2 _ _ hzz
 have hT:Shared.TypeIs { s with heap:=h2 } (.ref (n + src.length + 2)) "zip":=⟨_,hz2,rfl⟩
 have hne:s.heap.objs.size ≠ n + src.length + 2:=Nat.ne_of_gt hzlt
 unfold Builtin.List.listExtendWith
 refine wpAny_bind (wpAny_typeOf hT ?_)
 have h1:Builtin.List.listSameRef (.ref s.heap.objs.size) (.ref (n + src.length + 2)) = false:=by simp [Builtin.List.listSameRef,hne]
 have h2':(Value.type "zip" == Value.type "list") = false:=by decide
 have h3:(Value.type "zip" == Value.type "tuple") = false:=by decide
 simp only [h1,h2',h3,Bool.or_false,Bool.false_eq_true,if_false]
 have hT0:Shared.TypeIs { s with heap:=h2 } (.ref (n + src.length + 2)) "zip":=hT
 refine wpAny_bind (wpAny_pyIter_slot hT F.slot_zip_iter (wpAny_call_entry F.slot_zip_iter hT F.entry_zip_iter ?_ (F.args_zip_iter_1 _)))
 show wpAny _ _ (ret (.ref (n + src.length + 2))) _ _ _
 refine wpAny_pure ⟨_,rfl,"zip",_,hT,F.slot_zip_next.lookup,?_⟩
 refine wpAny_bind (wpAny_holding ?_)
 unfold Builtin.List.listLengthHint
 refine wpAny_bind (wpAny_specialOf hT F.zip_no_len ?_)
 show wpAny _ _ (specialOf (Value.ref (n + src.length + 2)) (Str.ofString "__length_hint__") >>= _) _ _ _
 refine wpAny_bind (wpAny_specialOf hT F.zip_no_hint ?_)
 refine wpAny_pure ?_
 show wpAny _ _ (rule "list.extend.makes-room" >>= fun _=>Builtin.List.listTouch (.ref s.heap.objs.size) >>= fun _ =>
  again (.builtin "list.extend.loop" ⟨[.ref s.heap.objs.size,.ref (n + src.length + 2),.none],[]⟩)) _ _ _
 refine wpAny_bind (wpAny_rule ?_)
 refine wpAny_bind ?_
 show wpAny _ _ (updateSeq s.heap.objs.size (·.push .none) >>= fun _=>updateSeq s.heap.objs.size (·.pop)) _ _ _
 refine wpAny_bind (wpAny_updateSeq hS₂ rfl ?_)
 have hS₃:=Heap.get?_update_self (Obj.mapSeq (·.push Value.none)) hS₂ rfl
 refine wpAny_updateSeq (hz:=by seq_fits) hS₃ rfl ?_
 have hS₄:=Heap.get?_update_self (Obj.mapSeq (·.pop)) hS₃ rfl
 have o4:∀ b o,s.heap.get? b = some o -> ((h2.update s.heap.objs.size (Obj.mapSeq (·.push Value.none))).update s.heap.objs.size (Obj.mapSeq (·.pop))).get? b = some o :=
  fun b o e=>(Heap.get?_update_other _ _ (Nat.ne_of_gt (Heap.lt_size e))).trans ((Heap.get?_update_other _ _ (Nat.ne_of_gt (Heap.lt_size e))).trans (o2 b o e))
 generalize (h2.update s.heap.objs.size (Obj.mapSeq (·.push Value.none))).update s.heap.objs.size (Obj.mapSeq (·.pop)) = h4 at hS₄ o4 ⊢
 have hS₅:∃ c,h4.get? s.heap.objs.size = some { cls:=.type "list",dict:=none,data:=.seq (([]:List Addr).map Value.ref).toArray c,slots:=#[] }:=⟨_,hS₄⟩
 obtain ⟨c5,hS₅⟩:=hS₅
 have I4:Inv X pins σ H { s with heap:=h4 }:=I.kept (t':=s.toks) o4
 refine wpAny_pure ⟨plainId_quiet F.plain_extend_loop _,zip_loop (A:=X.A.in1) (R:=R) (X:=X) (pins:=pins) (σ:=σ) (H0:=H) (xss:=xss) hh hsz hv (by omega) (fun s' rows Ts H' c hr L I' hf' hl hS'=>?_) sizeLine 0 { s with heap:=h4 } H [] [] c5 (fun xs hx=>by have:=hb xs hx; omega) (Nat.zero_le _) hb rfl (fun j r hj=>by simp at hj) .nil I4 (fun b hb=>?_) (hz.keep fun b o _ e=>o4 b o e) hS₅⟩
 ·subst hR
  refine ⟨rfl,.ref s.heap.objs.size,upd H' s.heap.objs.size (.lst (Ts.map V.ref)),I'.trackF hf' ⟨by simpa using hl,Ts.map Value.ref,c,refs_vals Ts,hS'⟩,rfl,hq rows Ts H' _ hr L hf'.1 hl⟩
 ·rcases ownZ_mem.mp hb with h | h
  ·exact hf b (by omega)
  ·exact hf b h.1
end
end L2
namespace L2
open PySem PySem.Spec PyProof.Rows
section
variable {X:Cx}
theorem zip_src {K:PySem.W.Frag} {pins:List (Addr × Obj)} {σ:St} {H:Hp} {s:Shared} (hK:X.K = K) (I:Inv X pins σ H s):∀ {as:List Addr} {xss:List (List V)},as.length = xss.length -> (∀ (j:Nat) a xs,as[j]? = some a -> xss[j]? = some xs -> SqL K H a xs) ->
  ∃ src:List (Addr × Array Value),src.map (·.1) = as /\ SrcV xss src /\ (∀ p ∈ src,s.heap.IsList p.1 p.2) /\ ∀ xs ∈ xss,xs.length <= sizeLine
 | [],xss,hl,_=>by
  have h0:xss = []:=List.length_eq_zero_iff.mp (by rw [← hl]; rfl)
  subst h0
  exact ⟨[],rfl,⟨rfl,fun j xs p h=>by simp at h⟩,fun p hp=>by simp at hp,fun xs hx=>by simp at hx⟩
 | a :: as,[],hl,_=>absurd hl (by simp)
 | a :: as,xs :: xss,hl,h=>by
  subst hK
  obtain ⟨src,h1,h2,h3,h4⟩:=zip_src rfl I (as:=as) (xss:=xss) (by simpa using hl) fun j a xs ha hx=>h (j + 1) a xs (by simpa using ha) (by simpa using hx)
  obtain ⟨its,rv,pl,hz⟩:=I.list (h 0 a xs rfl rfl)
  refine ⟨(a,its.toArray) :: src,by simp [h1],⟨by simp [h2.1],fun j ys p hy hp=>?_⟩,fun p hp=>?_,fun ys hy=>?_⟩
  ·cases j with
   | zero=>simp at hy hp; subst hy hp; simpa using rv
   | succ j=>exact h2.2 j ys p (by simpa using hy) (by simpa using hp)
  ·rcases List.mem_cons.mp hp with rfl | hp
   ·exact pl.isList
   ·exact h3 p hp
  ·rcases List.mem_cons.mp hy with rfl | hy
   ·exact hz
   ·exact h4 ys hy
theorem call_zipN {prog:Program} {w:World} {A:Around} {E:Value -> Shared -> Prop} {s:Shared} {Q:Value -> Shared -> Prop}:∀ {src:List (Addr × Array Value)},2 <= src.length -> src.length <= 4 -> (∀ p ∈ src,s.heap.IsList p.1 p.2) -> ZipCame s src Q -> wpAny (model prog w) A (call (.type "zip") (src.map fun p=>Value.ref p.1)) Q E s
 | [p1,p2],_,_,hl,h=>call_zipN2 (hl p1 (by simp)) (hl p2 (by simp)) h
 | [p1,p2,p3],_,_,hl,h=>call_zipN3 (hl p1 (by simp)) (hl p2 (by simp)) (hl p3 (by simp)) h
 | [p1,p2,p3,p4],_,_,hl,h=>call_zipN4 (hl p1 (by simp)) (hl p2 (by simp)) (hl p3 (by simp)) (hl p4 (by simp)) h
 | [],h,_,_,_=>absurd h (by decide)
 | [_],h,_,_,_=>absurd h (by simp)
 | _ :: _ :: _ :: _ :: _ :: _,_,h,_,_=>absurd h (by simp)
theorem vals_refs:∀ {as:List Addr} {us:List Value},Vals (as.map V.ref) us -> us = as.map Value.ref
 | [],us,h=>by cases h; rfl
 | a :: as,_,h=>by
  cases h with
  | cons r rs=>cases r; rw [vals_refs rs]; rfl
def Lists (K:PySem.W.Frag) (vs:List V) (H:Hp) (as:List Addr) (xss:List (List V)):Prop:=vs = as.map V.ref /\ (2 <= as.length /\ as.length <= 4) /\ as.length = xss.length /\ ∀ (j:Nat) a xs,as[j]? = some a -> xss[j]? = some xs -> SqL K H a xs
def tListZ (K:PySem.W.Frag) (ta:TA):TE:=fun σ H Q=>ta σ H fun vs H1=>∃ (as:List Addr) (xss:List (List V)),Lists K vs H1 as xss /\ ListZ xss H1 Q
theorem boot_list_ty:bootBuiltins "list" = some (.type "list"):=by decide +kernel
theorem pe_listzip {l:Expr} {es:List Expr} {ta:TA} {p p' pos pos':Pos} (hc:X.calm = true) (hgl:Gl X "list") (hml:X.mg "list" = none) (hg:Gl X "zip") (hm:X.mg "zip" = none) (ha:PA X (l :: es) ta)
  (he:starEach (l :: es) X.env = (false,eval l X.env) :: starEach es X.env:=by rfl) (hpl:(backTo pos' (starEach es X.env)).any (·.1) = false:=by rfl)
  (hs:starEach [.Call (.Name "zip" p') (l :: es) [] pos'] X.env = (false,eval (.Call (.Name "zip" p') (l :: es) [] pos') X.env) :: starEach [] X.env:=by rfl) (hpl0:(backTo pos (starEach [] X.env)).any (·.1) = false:=by rfl) :
  PE X (.Call (.Name "list" p) [.Call (.Name "zip" p') (l :: es) [] pos'] [] pos) (tListZ X.K ta):=by
 intro pins s σ H Q I h
 refine wpAny_Call_Name_kw (ld_blt I hgl hml boot_list_ty ?_ (by decide) (by decide))
 refine PyProof.Rows.callWith_type1 ?_ hs hpl0
 rw [hs]
 show wpAny _ _ (spliced ((false,eval (.Call (.Name "zip" p') (l :: es) [] pos') X.env) :: backTo pos (starEach [] X.env))) _ _ s
 refine Calls.spliced_cons ?_
 refine wpAny_Call_Name_kw (ld_blt I hg hm boot_zip ?_ (by decide) (by decide))
 refine PyProof.Rows.callWith_type1 (thn (ha pos' pins s σ H _ I h) fun us s1 ⟨vs,H1,I1,r1,as,xss,⟨e,⟨h2,h4⟩,hlen,hsq⟩,q⟩=>?_) he hpl
 subst e
 have eu:=vals_refs r1
 subst eu
 obtain ⟨src,hsa,hv,hl,hb⟩:=zip_src rfl I1 hlen hsq
 have hls:src.length = as.length:=by rw [← hsa,List.length_map]
 have hmap:as.map Value.ref = src.map fun p=>Value.ref p.1:=by rw [← hsa,List.map_map]; rfl
 rw [hmap]
 refine call_zipN (by omega) (by omega) hl fun h' hz hz' hk=>?_
 have I2:Inv X pins σ H1 { s1 with heap:=h' }:=I1.kept (t':=s1.toks) hk
 have fp:∀ b:Nat,s1.heap.objs.size <= b -> FpOk X pins H1 b:=fun b hb=>I1.fpOk hb (I1.hok.fresh hb)
 refine Calls.spliced_nil ?_
 exact list_zip (X:=X) (I.ok.hd hc) (Nat.le_trans (show src.length <= 4 by omega) (by decide)) hv hb I2 fp hz q
end
end L2
namespace DL
open PySem PySem.Spec PyProof.Rows L2
variable [TB]
variable [Frm]
omit [Frm] in
theorem Reps.of {K:PySem.W.Frag} {pp:Option Addr} {M:List Addr} {H:Hp}:∀ {ds:List D} {xs:List V},ds.length = xs.length -> (∀ (i:Nat) d v,ds[i]? = some d -> xs[i]? = some v -> Rep K pp M H d v) -> Reps K pp M H ds xs
 | [],[],_,_=>.nil
 | [],_ :: _,h,_=>absurd h (by simp)
 | _ :: _,[],h,_=>absurd h (by simp)
 | d :: ds,x :: xs,hl,h=>.cons (h 0 d x rfl rfl) (Reps.of (by simpa using hl) fun i d v hd hv=>h (i + 1) d v (by simpa using hd) (by simpa using hv))
def zip3D:List D -> List D -> List D -> List D
 | x :: xs,y :: ys,z :: zs=>.tup [x,y,z] :: zip3D xs ys zs
 | _,_,_=>[]
def zip4D:List D -> List D -> List D -> List D -> List D
 | x :: xs,y :: ys,z :: zs,u :: us=>.tup [x,y,z,u] :: zip4D xs ys zs us
 | _,_,_,_=>[]
omit [Frm] in
theorem zip3D_length:∀ (xs ys zs:List D),(zip3D xs ys zs).length = min xs.length (min ys.length zs.length)
 | [],_,_=>by simp [zip3D]
 | _ :: _,[],_=>by simp [zip3D]
 | _ :: _,_ :: _,[]=>by simp [zip3D]
 | _ :: xs,_ :: ys,_ :: zs=>by simp [zip3D,zip3D_length xs ys zs]
omit [Frm] in
theorem zip3D_get:∀ (xs ys zs:List D) (i:Nat) (d:D),(zip3D xs ys zs)[i]? = some d -> ∃ x y z,xs[i]? = some x /\ ys[i]? = some y /\ zs[i]? = some z /\ d = .tup [x,y,z]
 | [],_,_,i,d,h=>by simp [zip3D] at h
 | _ :: _,[],_,i,d,h=>by simp [zip3D] at h
 | _ :: _,_ :: _,[],i,d,h=>by simp [zip3D] at h
 | x :: xs,y :: ys,z :: zs,0,d,h=>by
  simp [zip3D] at h
  exact ⟨x,y,z,rfl,rfl,rfl,h.symm⟩
 | x :: xs,y :: ys,z :: zs,i + 1,d,h=>by
  simp [zip3D] at h
  simpa using zip3D_get xs ys zs i d h
omit [Frm] in
theorem zip4D_length:∀ (xs ys zs us:List D),(zip4D xs ys zs us).length = min xs.length (min ys.length (min zs.length us.length))
 | [],_,_,_=>by simp [zip4D]
 | _ :: _,[],_,_=>by simp [zip4D]
 | _ :: _,_ :: _,[],_=>by simp [zip4D]
 | _ :: _,_ :: _,_ :: _,[]=>by simp [zip4D]
 | _ :: xs,_ :: ys,_ :: zs,_ :: us=>by simp [zip4D,zip4D_length xs ys zs us]
omit [Frm] in
theorem zip4D_get:∀ (xs ys zs us:List D) (i:Nat) (d:D),(zip4D xs ys zs us)[i]? = some d -> ∃ x y z u,xs[i]? = some x /\ ys[i]? = some y /\ zs[i]? = some z /\ us[i]? = some u /\ d = .tup [x,y,z,u]
 | [],_,_,_,i,d,h=>by simp [zip4D] at h
 | _ :: _,[],_,_,i,d,h=>by simp [zip4D] at h
 | _ :: _,_ :: _,[],_,i,d,h=>by simp [zip4D] at h
 | _ :: _,_ :: _,_ :: _,[],i,d,h=>by simp [zip4D] at h
 | x :: xs,y :: ys,z :: zs,u :: us,0,d,h=>by
  simp [zip4D] at h
  exact ⟨x,y,z,u,rfl,rfl,rfl,rfl,h.symm⟩
 | x :: xs,y :: ys,z :: zs,u :: us,i + 1,d,h=>by
  simp [zip4D] at h
  simpa using zip4D_get xs ys zs us i d h
omit [Frm] in
theorem laid_at {H H':Hp} {rows:List (List V)} {Ts:List Addr} (l:Laid H rows Ts H'):Same H H' /\ ∀ (i:Nat) T r,Ts[i]? = some T -> rows[i]? = some r -> H' T = some (.tup r):=by
 induction l with
 | nil=>exact ⟨fun _ _ h=>h,fun i T r h=>by simp at h⟩
 | @snoc H1 rows Ts r T l hn ih =>
  have s1:Same H1 (upd H1 T (.tup r)):=same_new hn
  refine ⟨fun b o h=>s1 b o (ih.1 b o h),fun i T' r' hT hr=>?_⟩
  have ln:=l.len
  rcases Nat.lt_or_ge i Ts.length with z | z
  ·rw [List.getElem?_append_left z] at hT
   rw [List.getElem?_append_left (by omega)] at hr
   exact s1 _ _ (ih.2 i T' r' hT hr)
  ·have hi:i = Ts.length:=by
    have:=at_lt hT
    simp at this
    omega
   subst hi
   rw [List.getElem?_append_right (Nat.le_refl _)] at hT
   rw [List.getElem?_append_right (by omega),ln] at hr
   simp at hT hr
   subst hT hr
   exact upd_same
def IsRows (dss:List (List D)) (zs:List D):Prop:=(∃ l ∈ dss,zs.length = l.length) /\ (∀ l ∈ dss,zs.length <= l.length) /\ ∀ (i:Nat) d,zs[i]? = some d -> ∃ r:List D,d = .tup r /\ r.length = dss.length /\ ∀ (j:Nat) l,dss[j]? = some l -> l[i]? = r[j]?
omit [Frm] in
theorem rows_reps {K:PySem.W.Frag} {pp:Option Addr} {M:List Addr} {H H':Hp} {dss:List (List D)} {xss rows:List (List V)} {Ts:List Addr} {zs:List D} (hz:IsRows dss zs) (hl:dss.length = xss.length) (hr:∀ (j:Nat) ds xs,dss[j]? = some ds -> xss[j]? = some xs -> Reps K pp M H ds xs)
  (ho:RowsOf xss rows) (l:Laid H rows Ts H'):Reps K pp M H' zs (Ts.map V.ref):=by
 obtain ⟨⟨l0,hl0,e0⟩,hle,hrow⟩:=hz
 obtain ⟨hro,xs0,hx0,e1⟩:=ho
 obtain ⟨sm,hat⟩:=laid_at l
 have mv:Mv K pp M H M H':=(SameP.of sm).mv
 have lens:∀ (j:Nat) ds xs,dss[j]? = some ds -> xss[j]? = some xs -> ds.length = xs.length:=fun j ds xs h1 h2=>(hr j ds xs h1 h2).length
 have n1:zs.length <= rows.length:=by
  obtain ⟨j,hj⟩:=List.mem_iff_getElem?.mp hx0
  have lt:j < dss.length:=by rw [hl]; exact at_lt hj
  have:=lens j dss[j] xs0 (by simp [lt]) hj
  have:=hle dss[j] (List.getElem_mem lt)
  omega
 have n2:rows.length <= zs.length:=by
  obtain ⟨j,hj⟩:=List.mem_iff_getElem?.mp hl0
  have lt:j < xss.length:=by rw [← hl]; exact at_lt hj
  have h2:=lens j l0 xss[j] hj (by simp [lt])
  rcases Nat.eq_zero_or_pos rows.length with z | z
  ·omega
  ·have hlast:rows[rows.length - 1]? = some (rows[rows.length - 1]'(by omega)):=by simp
   obtain ⟨q1,q2⟩:=hro _ _ hlast
   have:=q2 j xss[j] (by simp [lt])
   rw [List.getElem?_eq_getElem (l:=rows[rows.length - 1]) (i:=j) (by rw [q1]; exact lt)] at this
   have:=at_lt this
   omega
 refine Reps.of (by rw [List.length_map,l.len]; omega) fun i d v hd hv=>?_
 rw [List.getElem?_map] at hv
 have hiT:i < Ts.length:=by rw [l.len]; have:=at_lt hd; omega
 rw [List.getElem?_eq_getElem hiT] at hv
 simp at hv
 subst hv
 have hir:i < rows.length:=by rw [← l.len]; exact hiT
 have hri:rows[i]? = some rows[i]:=by simp [hir]
 obtain ⟨r,rfl,r1,r2⟩:=hrow i d hd
 obtain ⟨q1,q2⟩:=hro i _ hri
 simp only [Rep]
 refine ⟨Ts[i],rows[i],rfl,hat i _ _ (by simp [hiT]) hri,Reps.of (by rw [r1,q1,hl]) fun j d v hd hv=>?_⟩
 have lt:j < dss.length:=by rw [← r1]; exact at_lt hd
 have lt':j < xss.length:=by rw [← hl]; exact lt
 have a1:=r2 j dss[j] (by simp [lt])
 have a2:=q2 j xss[j] (by simp [lt'])
 rw [hd] at a1
 rw [hv] at a2
 obtain ⟨v',e,rv⟩:=(hr j dss[j] xss[j] (by simp [lt]) (by simp [lt'])).get' a1
 rw [a2] at e
 cases e
 exact rv.mv mv
omit [Frm] in
theorem isRows2 (xs ys:List D):IsRows [xs,ys] (zipD xs ys):=by
 have L:=zipD_length xs ys
 refine ⟨?_,fun l hl=>?_,fun i d h=>?_⟩
 ·rcases Nat.le_total xs.length ys.length with z | z
  ·exact ⟨xs,by simp,by omega⟩
  ·exact ⟨ys,by simp,by omega⟩
 ·simp only [List.mem_cons,List.not_mem_nil,or_false] at hl
  rcases hl with rfl | rfl <;> omega
 ·obtain ⟨x,y,h1,h2,rfl⟩:=zipD_get xs ys i d h
  refine ⟨_,rfl,rfl,fun j l hj=>?_⟩
  rcases j with _ | _ | j <;> simp at hj <;> (subst hj; simpa)
omit [Frm] in
theorem isRows3 (xs ys zs:List D):IsRows [xs,ys,zs] (zip3D xs ys zs):=by
 have L:=zip3D_length xs ys zs
 refine ⟨?_,fun l hl=>?_,fun i d h=>?_⟩
 ·by_cases a:xs.length <= ys.length /\ xs.length <= zs.length
  ·exact ⟨xs,by simp,by omega⟩
  ·by_cases b:ys.length <= zs.length
   ·exact ⟨ys,by simp,by omega⟩
   ·exact ⟨zs,by simp,by omega⟩
 ·simp only [List.mem_cons,List.not_mem_nil,or_false] at hl
  rcases hl with rfl | rfl | rfl <;> omega
 ·obtain ⟨x,y,z,h1,h2,h3,rfl⟩:=zip3D_get xs ys zs i d h
  refine ⟨_,rfl,rfl,fun j l hj=>?_⟩
  rcases j with _ | _ | _ | j <;> simp at hj <;> (subst hj; simpa)
omit [Frm] in
theorem isRows4 (xs ys zs us:List D):IsRows [xs,ys,zs,us] (zip4D xs ys zs us):=by
 have L:=zip4D_length xs ys zs us
 refine ⟨?_,fun l hl=>?_,fun i d h=>?_⟩
 ·by_cases a:xs.length <= ys.length /\ xs.length <= zs.length /\ xs.length <= us.length
  ·exact ⟨xs,by simp,by omega⟩
  ·by_cases b:ys.length <= zs.length /\ ys.length <= us.length
   ·exact ⟨ys,by simp,by omega⟩
   ·by_cases c:zs.length <= us.length
    ·exact ⟨zs,by simp,by omega⟩
    ·exact ⟨us,by simp,by omega⟩
 ·simp only [List.mem_cons,List.not_mem_nil,or_false] at hl
  rcases hl with rfl | rfl | rfl | rfl <;> omega
 ·obtain ⟨x,y,z,u,h1,h2,h3,h4,rfl⟩:=zip4D_get xs ys zs us i d h
  refine ⟨_,rfl,rfl,fun j l hj=>?_⟩
  rcases j with _ | _ | _ | _ | j <;> simp at hj <;> (subst hj; simpa)
section
variable {X:Cx}
abbrev dListZ (t:DA):DA:=fun ρ Q=>t ρ fun ds ρ'=>match ds with
 | [.lst xs,.lst ys]=>Q (zipD xs ys) ρ'
 | [.lst xs,.lst ys,.lst zs]=>Q (zip3D xs ys zs) ρ'
 | [.lst xs,.lst ys,.lst zs,.lst us]=>Q (zip4D xs ys zs us) ρ'
 | _=>False
omit [Frm] in
theorem lists_of {K:PySem.W.Frag} {pp:Option Addr} {M:List Addr} {H:Hp}:∀ {dss:List (List D)} {vs:List V},Reps K pp M H (dss.map D.lst) vs -> ∃ (as:List Addr) (xss:List (List V)),vs = as.map V.ref /\ as.length = dss.length /\ as.length = xss.length /\ (∀ (j:Nat) a xs,as[j]? = some a -> xss[j]? = some xs -> SqL K H a xs) /\ ∀ (j:Nat) ds xs,dss[j]? = some ds -> xss[j]? = some xs -> Reps K pp M H ds xs
 | [],vs,h=>by
  simp only [List.map_nil,Reps] at h
  subst h
  exact ⟨[],[],rfl,rfl,rfl,fun j a xs h=>by simp at h,fun j a xs h=>by simp at h⟩
 | ds :: dss,vs,h=>by
  simp only [List.map_cons,Reps] at h
  obtain ⟨x,vs,rfl,hx,h⟩:=h
  obtain ⟨as,xss,rfl,h1,h2,h3,h4⟩:=lists_of h
  simp only [Rep] at hx
  obtain ⟨a,xs,rfl,_,_,ha,ry⟩:=hx
  refine ⟨a :: as,xs :: xss,rfl,by simp [h1],by simp [h2],fun j b ys hb hy=>?_,fun j b ys hb hy=>?_⟩
  ·cases j with
   | zero=>simp at hb hy; subst hb hy; exact SqL.of ha
   | succ j=>exact h3 j b ys (by simpa using hb) (by simpa using hy)
  ·cases j with
   | zero=>simp at hb hy; subst hb hy; exact ry
   | succ j=>exact h4 j b ys (by simpa using hb) (by simpa using hy)
theorem dl_listZ {l:Expr} {es:List Expr} {tl:DA} {p p' pos pos':Pos} (hc:X.calm = true) (hgl:Gl X "list") (hml:X.mg "list" = none) (hg:Gl X "zip") (hm:X.mg "zip" = none) (ha:PAD X (l :: es) tl)
  (he:starEach (l :: es) X.env = (false,eval l X.env) :: starEach es X.env:=by rfl) (hpl:(backTo pos' (starEach es X.env)).any (·.1) = false:=by rfl)
  (hs:starEach [.Call (.Name "zip" p') (l :: es) [] pos'] X.env = (false,eval (.Call (.Name "zip" p') (l :: es) [] pos') X.env) :: starEach [] X.env:=by rfl) (hpl0:(backTo pos (starEach [] X.env)).any (·.1) = false:=by rfl) :
  PLD X (.Call (.Name "list" p) [.Call (.Name "zip" p') (l :: es) [] pos'] [] pos) (dListZ tl):=by
 obtain ⟨T,pa,ra⟩:=ha.run
 refine ⟨fun _ _ _ f h=>ha.mono _ _ _ (fun d _ h=>?_) h,_,pe_listzip hc hgl hml hg hm pa he hpl hs hpl0,fun {F} M H σ ρ Q rs h=>ra M H σ ρ _ rs (ha.mono _ _ _ (fun d ρ1 h M1 H1 v m1 rs1 r1=>?_) h)⟩
 ·split at h
  ·exact f _ _ h
  ·exact f _ _ h
  ·exact f _ _ h
  ·exact h.elim
 ·have main:∀ (dss:List (List D)) (zs:List D),2 <= dss.length -> dss.length <= 4 -> IsRows dss zs -> Reps X.K F.pp M1 H1 (dss.map D.lst) v -> (∀ M' H2 H' l xs,Mv X.K F.pp M H M' H2 -> RSt X.K F M' H2 σ ρ1 -> H2 l = none -> H' = upd H2 l (.lst xs) -> Reps X.K F.pp M' H2 zs xs -> Q (.ref l) H') -> ∃ (as:List Addr) (xss:List (List V)),Lists X.K v H1 as xss /\ ListZ xss H1 Q:=by
   intro dss zs g2 g4 hz hr q
   obtain ⟨as,xss,e,l1,l2,sq,rp⟩:=lists_of hr
   refine ⟨as,xss,⟨e,⟨by omega,by omega⟩,l2,sq⟩,fun rows Ts H' l ho ld hn _=>?_⟩
   exact q M1 H' _ l _ (m1.trans (SameP.of (laid_at ld).1).mv) (rs1.sameP (SameP.of (laid_at ld).1)) hn rfl (rows_reps hz (by omega) rp ho ld)
  split at h
  ·exact main [_,_] _ (by simp) (by simp) (isRows2 _ _) r1 h
  ·exact main [_,_,_] _ (by simp) (by simp) (isRows3 _ _ _) r1 h
  ·exact main [_,_,_,_] _ (by simp) (by simp) (isRows4 _ _ _ _) r1 h
  ·exact h.elim
end
end DL
namespace L2
open PySem PySem.Spec PyProof.Rows
section
variable {X:Cx}
end
end L2
namespace DL
open PySem PySem.Spec L2
open PyProof.Rows hiding St
variable [TB]
variable [Frm]
section
variable {X:Cx}
end
end DL
namespace L2
open PySem PySem.Spec PyProof.Rows
section
variable {prog:Program} {w:World} {A:Around} {E:Value -> Shared -> Prop} {s:Shared}
end
structure ZipTn (n:Nat) (as:List Addr) (k:Nat) (h:Heap):Prop where
 zip:∃ f0 f1,OwnF f0 /\ IsZipN h (n + as.length + 2) (n + as.length) (n + as.length + 1) f0 f1
 ti:IsTupR h (n + as.length) (itsL n as.length).toArray
 to:∃ ws:Array Value,ws.size = as.length /\ IsTupR h (n + as.length + 1) ws
 its:∀ (j:Nat) (a:Addr),as[j]? = some a -> h.IsListIter (n + j) a k
theorem ZipTn.st {n k:Nat} {as:List Addr} {h:Heap} {src:List (Addr × Array Value)} (t:ZipTn n as k h) (hs:src.map (·.1) = as) (hl:∀ p ∈ src,h.IsList p.1 p.2) (hlt:∀ a ∈ as,a < n) (hne:as ≠ []):ZipSt h n src k:=by
 have hlen:src.length = as.length:=by rw [← hs,List.length_map]
 obtain ⟨z,ti,to,its⟩:=t
 have at_:∀ (j:Nat) (p:Addr × Array Value),src[j]? = some p -> as[j]? = some p.1:=fun j p hp=>by rw [← hs,List.getElem?_map,hp]; rfl
 refine ⟨by rw [hlen]; exact z,by rw [hlen]; exact ti,by rw [hlen]; exact to,fun j p hp=>?_,fun j p hp=>⟨hlt p.1 (List.mem_of_getElem? (at_ j p hp)),hl p (List.mem_of_getElem? hp)⟩,fun e=>hne (by rw [← hs,e]; rfl)⟩
 rw [if_neg (Nat.not_lt_zero _)]
 exact its j p.1 (at_ j p hp)
theorem ZipSt.tn {n k:Nat} {as:List Addr} {h:Heap} {src:List (Addr × Array Value)} (z:ZipSt h n src k) (hs:src.map (·.1) = as):ZipTn n as k h:=by
 have hlen:src.length = as.length:=by rw [← hs,List.length_map]
 refine ⟨by rw [← hlen]; exact z.zip,by rw [← hlen]; exact z.ti,by rw [← hlen]; exact z.to,fun j a ha=>?_⟩
 have hj:j < src.length:=by rw [hlen]; exact at_lt ha
 have hp:src[j]? = some src[j]:=by simp [hj]
 have:=z.its j _ hp
 rw [if_neg (Nat.not_lt_zero _)] at this
 have e:(src[j]).1 = a:=by
  have:as[j]? = some (src[j]).1:=by rw [← hs,List.getElem?_map,hp]; rfl
  rw [ha] at this
  exact (Option.some.inj this).symm
 rw [← e]
 exact this
section
variable {X:Cx}
end
end L2
namespace DL
open PySem PySem.Spec PyProof.Rows L2
variable [TB]
variable [Frm]
section
variable {X:Cx}
end
end DL
namespace DL
open PySem PySem.Spec L2
open PyProof.Rows hiding St
variable [TB]
variable [Frm]
mutual
def flD:D -> Prop
 | .non=>True
 | .bl _=>True
 | .int _=>True
 | .str _=>True
 | .ty _=>True
 | .cls _=>True
 | .tup ds=>flDs ds
 | _=>False
def flDs:List D -> Prop
 | []=>True
 | d :: r=>flD d /\ flDs r
end
omit [Frm] in
mutual
theorem Rep.flat {K:PySem.W.Frag} {pp:Option Addr} {M M':List Addr} {H:Hp}:∀ (d:D) (v:V),flD d -> Rep K pp M H d v -> Rep K pp M' H d v
 | .non,_,_,h=>by simp only [Rep] at h ⊢; exact h
 | .bl _,_,_,h=>by simp only [Rep] at h ⊢; exact h
 | .int _,_,_,h=>by simp only [Rep] at h ⊢; exact h
 | .str _,_,_,h=>by simp only [Rep] at h ⊢; exact h
 | .ty _,_,_,h=>by simp only [Rep] at h ⊢; exact h
 | .cls _,_,_,h=>by simp only [Rep] at h ⊢; exact h
 | .tup ds,_,f,h=>by
  simp only [Rep] at h ⊢
  simp only [flD] at f
  obtain ⟨a,xs,e,ha,r⟩:=h
  exact ⟨a,xs,e,ha,Reps.flat ds xs f r⟩
 | .lst _,_,f,_=>by simp only [flD] at f
 | .dK _ _,_,f,_=>by simp only [flD] at f
 | .dT _ _,_,f,_=>by simp only [flD] at f
 | .pen,_,f,_=>by simp only [flD] at f
 | .exc _,_,f,_=>by simp only [flD] at f
 | .exa _ _,_,f,_=>by simp only [flD] at f
theorem Reps.flat {K:PySem.W.Frag} {pp:Option Addr} {M M':List Addr} {H:Hp}:∀ (ds:List D) (xs:List V),flDs ds -> Reps K pp M H ds xs -> Reps K pp M' H ds xs
 | [],xs,_,h=>by simp only [Reps] at h ⊢; exact h
 | d :: ds,xs,f,h=>by
  simp only [Reps] at h ⊢
  simp only [flDs] at f
  obtain ⟨x,r,e,h1,h2⟩:=h
  exact ⟨x,r,e,Rep.flat d x f.1 h1,Reps.flat ds r f.2 h2⟩
end
def pinS (v:V):Sl -> Sl
 | .nil=>.nil
 | .val d=>.pin v d
 | .own ds=>.pin v (.lst ds)
 | .obj q=>.pin v (fzO q)
 | .pin w d=>.pin w d
def pinL (vs:Nat -> V):Nat -> DS -> DS
 | _,[]=>[]
 | n,s :: r=>pinS (vs n) s :: pinL vs (n + 1) r
inductive Unp (vs:Nat -> V):Nat -> DS -> DS -> DS -> Prop
 | nil {n}:Unp vs n [] [] []
 | keep {n s r r' r2}:Unp vs (n + 1) r r' r2 -> Unp vs n (s :: r) (pinS (vs n) s :: r') (s :: r2)
 | drop {n s s' r r' r2}:Unp vs (n + 1) r r' r2 -> Unp vs n (s :: r) (s' :: r') (.nil :: r2)
 | flat {n s d r r' r2}:flD d -> Unp vs (n + 1) r r' r2 -> Unp vs n (s :: r) (.val d :: r') (.val d :: r2)
 | ownF {n s ds r r' r2}:flDs ds -> Unp vs (n + 1) r r' r2 -> Unp vs n (s :: r) (.own ds :: r') (.own ds :: r2)
omit [Frm] in
theorem pinL_get (vs:Nat -> V):∀ (ρ:DS) (n i:Nat),(pinL vs n ρ)[i]? = (ρ[i]?).map (pinS (vs (n + i)))
 | [],_,_=>by simp [pinL]
 | s :: r,n,0=>by simp [pinL]
 | s :: r,n,i + 1=>by
  simp only [pinL,List.getElem?_cons_succ]
  rw [pinL_get vs r (n + 1) i,show n + 1 + i = n + (i + 1) by omega]
omit [Frm] in
theorem pinL_len (vs:Nat -> V):∀ (ρ:DS) (n:Nat),(pinL vs n ρ).length = ρ.length
 | [],_=>rfl
 | s :: r,n=>by simp [pinL,pinL_len vs r (n + 1)]
omit [Frm] in
theorem Unp.self (vs:Nat -> V):∀ (ρ:DS) (n:Nat),Unp vs n ρ (pinL vs n ρ) ρ
 | [],_=>.nil
 | _ :: r,n=>.keep (Unp.self vs r (n + 1))
omit [Frm] in
theorem Unp.len {vs:Nat -> V} {n:Nat} {a b c:DS} (h:Unp vs n a b c):b.length = c.length /\ c.length = a.length:=by
 induction h with
 | nil=>exact ⟨rfl,rfl⟩
 | keep _ ih=>simp [ih.1,ih.2]
 | drop _ ih=>simp [ih.1,ih.2]
 | flat _ _ ih=>simp [ih.1,ih.2]
 | ownF _ _ ih=>simp [ih.1,ih.2]
omit [Frm] in
theorem Unp.get {vs:Nat -> V} {n:Nat} {a b c:DS} (h:Unp vs n a b c):∀ (i:Nat) (s:Sl),c[i]? = some s -> s = .nil ∨ (a[i]? = some s /\ b[i]? = some (pinS (vs (n + i)) s)) ∨ (∃ d,s = .val d /\ flD d /\ b[i]? = some (.val d)) ∨ ∃ ds,s = .own ds /\ flDs ds /\ b[i]? = some (.own ds):=by
 induction h with
 | nil=>intro i s e; simp at e
 | @keep n s0 r r' r2 _ ih =>
  intro i s e
  cases i with
  | zero=>simp at e; subst e; exact .inr (.inl ⟨by simp,by simp⟩)
  | succ i =>
   have:=ih i s (by simpa using e)
   rw [show n + 1 + i = n + (i + 1) by omega] at this
   simpa using this
 | @drop n s0 s' r r' r2 _ ih =>
  intro i s e
  cases i with
  | zero=>simp at e; exact .inl e.symm
  | succ i =>
   have:=ih i s (by simpa using e)
   rw [show n + 1 + i = n + (i + 1) by omega] at this
   simpa using this
 | @flat n s0 d r r' r2 f _ ih =>
  intro i s e
  cases i with
  | zero=>simp at e; exact .inr (.inr (.inl ⟨d,e.symm,f,by simp⟩))
  | succ i =>
   have:=ih i s (by simpa using e)
   rw [show n + 1 + i = n + (i + 1) by omega] at this
   simpa using this
 | @ownF n s0 ds r r' r2 f _ ih =>
  intro i s e
  cases i with
  | zero=>simp at e; exact .inr (.inr (.inr ⟨ds,e.symm,f,by simp⟩))
  | succ i =>
   have:=ih i s (by simpa using e)
   rw [show n + 1 + i = n + (i + 1) by omega] at this
   simpa using this
section
variable {K:PySem.W.Frag} {F:Fx} {M:List Addr} {H:Hp} {σ:St} {ρ:DS}
omit [TB] [Frm] in
mutual
theorem RO.nt {pp:Option Addr}:∀ (q:O) (v:V) (A:List Addr),RO K pp M H q v A -> ∀ a ∈ A,∀ ps,H a ≠ some (.tbl ps)
 | .val d,v,A,h,a,ha=>by simp only [RO] at h; rw [h.1] at ha; simp at ha
 | .lst os,v,A,h,a,ha=>by
  simp only [RO] at h
  obtain ⟨b,xs,B,e,hb,rfl,r⟩:=h
  rcases List.mem_cons.mp ha with rfl | ha
  ·rw [hb]; intro _ z; cases z
  ·exact ROs.nt os xs B r a ha
 | .dct ks os,v,A,h,a,ha=>by
  simp only [RO] at h
  obtain ⟨b,kvs,B,e,hb,e2,rfl,r⟩:=h
  rcases List.mem_cons.mp ha with rfl | ha
  ·rw [hb]; intro _ z; cases z
  ·exact ROs.nt os _ B r a ha
 | .tup os,v,A,h,a,ha=>by
  simp only [RO] at h
  obtain ⟨b,xs,e,hb,r⟩:=h
  exact ROs.nt os xs A r a ha
 | .dck ks os,v,A,h,a,ha=>by
  simp only [RO] at h
  obtain ⟨b,kvs,B,e,hb,e2,rfl,r⟩:=h
  rcases List.mem_cons.mp ha with rfl | ha
  ·rw [hb]; intro _ z; cases z
  ·exact ROs.nt os _ B r a ha
theorem ROs.nt {pp:Option Addr}:∀ (os:List O) (xs:List V) (A:List Addr),ROs K pp M H os xs A -> ∀ a ∈ A,∀ ps,H a ≠ some (.tbl ps)
 | [],xs,A,h,a,ha=>by simp only [ROs] at h; rw [h.2] at ha; simp at ha
 | o :: os,xs,A,h,a,ha=>by
  simp only [ROs] at h
  obtain ⟨x,r,B,C,e,rfl,h1,h2⟩:=h
  rcases List.mem_append.mp ha with ha | ha
  ·exact RO.nt o x B h1 a ha
  ·exact ROs.nt os r C h2 a ha
end
open Classical in
theorem RSt.owN (r:RSt K F M H σ ρ):∃ As:Nat -> List Addr,(∀ (i:Nat) s o,ρ[i]? = some s -> σ[i]? = some o -> Ow K F M H s o (As i)) /\ (∀ i,∀ a ∈ As i,a ∈ M /\ F.H0 a = none /\ F.pp ≠ some a) /\ (∀ i j,i ≠ j -> ∀ a ∈ As i,a ∉ As j) /\ ∀ i,∀ a ∈ As i,∀ ps,H a ≠ some (.tbl ps):=by
 obtain ⟨As,k1,k2,k3⟩:=r.ow
 refine ⟨fun i=>(As i).filter fun a=>decide (∀ ps,H a ≠ some (.tbl ps)),fun i s o e1 e2=>?_,fun i a ha=>k2 i a (List.mem_filter.mp ha).1,fun i j e a ha hb=>k3 i j e a (List.mem_filter.mp ha).1 (List.mem_filter.mp hb).1,fun i a ha=>by simpa using (List.mem_filter.mp ha).2⟩
 have q:=k1 i s o e1 e2
 cases s with
 | nil=>trivial
 | val d=>trivial
 | pin w d=>trivial
 | own ds =>
  obtain ⟨l,rfl,e⟩:=q
  obtain ⟨l',xs,e',_,_,_,hl,_⟩:=r.sl i _ _ e1 e2
  cases e'
  refine ⟨l,rfl,?_⟩
  show (As i).filter _ = [l]
  rw [e,List.filter_eq_self]
  intro a ha
  simp at ha; subst ha
  simp [hl]
 | obj b =>
  obtain ⟨nd,v,rfl,hq⟩:=q
  have e:(As i).filter (fun a=>decide (∀ ps,H a ≠ some (.tbl ps))) = As i:=by
   rw [List.filter_eq_self]
   intro a ha
   simpa using RO.nt b v (As i) hq a ha
  show Ow K F M H _ _ ((As i).filter _)
  rw [e]
  exact ⟨nd,v,rfl,hq⟩
open Classical in
theorem RSt.look (r:RSt K F M H σ ρ) (vs:Nat -> V) (hv:∀ (i:Nat) v,σ[i]? = some (some v) -> vs i = v) :
  ∃ M0,Mv K F.pp M H M0 H /\ RSt K F M0 H σ (pinL vs 0 ρ) /\ (∀ M' H' σ' ρ' ρ2,Mv K F.pp M0 H M' H' -> RSt K F M' H' σ' ρ' -> Unp vs 0 ρ ρ' ρ2 -> ∃ M2,Mv K F.pp M H M2 H' /\ RSt K F M2 H' σ' ρ2) /\
   ∃ As:Nat -> List Addr,(∀ (i:Nat) s o,ρ[i]? = some s -> σ[i]? = some o -> Ow K F M H s o (As i)) /\ ∀ M' H',Mv K F.pp M0 H M' H' -> ∀ i,i < ρ.length -> ∀ a ∈ As i,∀ x,H a = some x -> NT x -> H' a = some x:=by
 obtain ⟨As,k1,k2,k3,k4⟩:=r.owN
 obtain ⟨A,hA⟩:∃ A:List Addr,∀ a,a ∈ A ↔ ∃ i,i < ρ.length /\ a ∈ As i:=⟨(List.range ρ.length).flatMap As,fun a=>by simp⟩
 have inA:∀ (i:Nat) s,ρ[i]? = some s -> ∀ a ∈ As i,a ∈ A:=fun i s e a ha=>(hA a).mpr ⟨i,(List.getElem?_eq_some_iff.mp e).1,ha⟩
 have ofA:∀ a ∈ A,a ∈ M /\ F.H0 a = none /\ F.pp ≠ some a:=fun a ha=>by
  obtain ⟨i,_,h⟩:=(hA a).mp ha
  exact k2 i a h
 have ntA:∀ a ∈ A,∀ ps,H a ≠ some (.tbl ps):=fun a ha=>by
  obtain ⟨i,_,h⟩:=(hA a).mp ha
  exact k4 i a h
 have m0:Mv K F.pp M H (M.filter fun a=>decide (a ∉ A)) H:=.less fun a ha=>(List.mem_filter.mp ha).1
 have n0:∀ a ∈ A,a ∉ M.filter fun a=>decide (a ∉ A):=fun a ha z=>absurd ha (by simpa using (List.mem_filter.mp z).2)
 have z0:∀ i:Nat,vs (0 + i) = vs i:=fun i=>by rw [Nat.zero_add]
 refine ⟨_,m0,⟨by rw [pinL_len,r.len],fun i s o h1 h2=>?_,OwF.none (fun i s h1=>?_),fun a ha=>?_,r.same,r.old,⟨fun a ha=>r.liv.m a (List.mem_filter.mp ha).1,r.liv.p⟩,r.lk.cl m0⟩,?_,As,k1,fun M' H' m i hi a ha x e nt=>(m.oth a x e (n0 a ((hA a).mpr ⟨i,hi,ha⟩)) ⟨(k2 i a ha).2.2,nt⟩).1⟩
 ·rw [pinL_get] at h1
  obtain ⟨s0,e0,rfl⟩:=Option.map_eq_some_iff.mp h1
  rw [z0]
  have q:=r.sl i s0 o e0 h2
  cases s0 with
  | nil=>trivial
  | val d=>obtain ⟨v,rfl,q⟩:=q; exact ⟨v,rfl,(hv i v h2).symm,q.mv m0⟩
  | pin w d=>obtain ⟨v,e,ew,q⟩:=q; exact ⟨v,e,ew,q.mv m0⟩
  | own ds =>
   obtain ⟨l,xs,rfl,hm,h0,hp,hl,hr⟩:=q
   have hlA:l ∈ A:=by
    obtain ⟨l2,e2,e3⟩:=k1 i _ _ e0 h2
    cases e2
    exact inA i _ e0 l (by rw [e3]; simp)
   refine ⟨.ref l,rfl,(hv i _ h2).symm,?_⟩
   simp only [Rep]
   exact ⟨l,xs,rfl,n0 l hlA,hp,hl,hr.mv m0⟩
  | obj b =>
   obtain ⟨nd,v,rfl,hq⟩:=k1 i _ _ e0 h2
   exact ⟨v,rfl,(hv i v h2).symm,RO.fz m0 b v (As i) (fun a ha=>⟨n0 a (inA i _ e0 a ha),(k2 i a ha).2.2⟩) hq⟩
 ·rw [pinL_get] at h1
  obtain ⟨s0,e0,rfl⟩:=Option.map_eq_some_iff.mp h1
  cases s0 <;> exact ⟨fun ds z=>(by cases z),fun q z=>(by cases z)⟩
 ·refine List.mem_filter.mpr ⟨r.sub a ha,?_⟩
  have:a ∉ A:=fun z=>r.old a ha (ofA a z).2.1
  simpa using this
 ·intro M' H' σ' ρ' ρ2 m r' u
  have mm:=m0.trans m
  have m2:Mv K F.pp M H (A ++ M') H':=by
   refine ⟨mm.tup,fun a o e n p=>?_,mm.pen,mm.tb⟩
   obtain ⟨q1,q2⟩:=mm.oth a o e n p
   refine ⟨q1,fun z=>?_⟩
   rcases List.mem_append.mp z with z | z
   ·exact n (ofA a z).1
   ·exact q2 z
  have kp:∀ a ∈ A,∀ x,H a = some x -> NT x -> H' a = some x:=fun a ha x e nt=>(m.oth a x e (n0 a ha) ⟨(ofA a ha).2.2,nt⟩).1
  obtain ⟨ul,ul2⟩:=u.len
  have key:∀ (i:Nat) s o,ρ[i]? = some s -> ρ'[i]? = some (pinS (vs (0 + i)) s) -> s ≠ .nil -> σ'[i]? = some o -> σ[i]? = some o:=fun i s o e1 e2 hn h2=>by
   obtain ⟨o0,ho0,q0⟩:=r.at e1
   have q1:=r'.sl i _ _ e2 h2
   rw [z0] at q1
   rw [ho0]
   cases s with
   | nil=>exact absurd rfl hn
   | val d =>
    obtain ⟨v,rfl,q⟩:=q0
    obtain ⟨v',rfl,e,_⟩:=q1
    rw [e,hv i v ho0]
   | pin w d =>
    obtain ⟨v,rfl,e',q⟩:=q0
    obtain ⟨v',rfl,e,_⟩:=q1
    rw [e,e']
   | own ds =>
    obtain ⟨l,xs,rfl,hm,h0,hp,hl,hr⟩:=q0
    obtain ⟨v',rfl,e,_⟩:=q1
    rw [e,hv i _ ho0]
   | obj q =>
    obtain ⟨v,rfl⟩:=q0
    obtain ⟨v',rfl,e,_⟩:=q1
    rw [e,hv i v ho0]
  obtain ⟨Bs,b1,b2,b3⟩:=r'.ow
  have dj:∀ a ∈ A,a ∉ M':=fun a ha=>by
   cases e:H a with
   | none=>exact absurd e (r.liv.m a (ofA a ha).1)
   | some x=>exact (m.oth a x e (n0 a ha) ⟨(ofA a ha).2.2,fun ps q=>ntA a ha ps (by rw [e,q])⟩).2
  let nw:Nat -> Prop:=fun i=>∃ ds,ρ2[i]? = some (.own ds) /\ ρ'[i]? = some (.own ds)
  have inC:∀ i a,a ∈ (if nw i then Bs i else if i < ρ.length then As i else []) -> (nw i /\ a ∈ Bs i) ∨ (¬ nw i /\ i < ρ.length /\ a ∈ As i):=fun i a ha=>by
   by_cases h:nw i
   ·rw [if_pos h] at ha; exact .inl ⟨h,ha⟩
   ·rw [if_neg h] at ha
    by_cases e:i < ρ.length
    ·rw [if_pos e] at ha; exact .inr ⟨h,e,ha⟩
    ·rw [if_neg e] at ha; simp at ha
  refine ⟨A ++ M',m2,⟨by rw [r'.len,ul],fun i s o h1 h2=>?_,⟨fun i=>if nw i then Bs i else if i < ρ.length then As i else [],fun i s o h1 h2=>?_,fun i a ha=>?_,fun i j e a ha hb=>?_⟩,fun a ha=>List.mem_append.mpr (.inr (r'.sub a ha)),r'.same,r.old,⟨fun a ha=>?_,r'.liv.p⟩,r.lk.cl m2⟩⟩
  ·rcases u.get i s h1 with rfl | ⟨e1,e2⟩ | ⟨d,rfl,f,e2⟩ | ⟨ds,rfl,f,e2⟩
   ·trivial
   ·by_cases hn:s = .nil
    ·subst hn; trivial
    have h3:=key i s o e1 e2 hn h2
    have q0:=r.sl i s o e1 h3
    cases s with
    | nil=>trivial
    | val d=>obtain ⟨v,e,q⟩:=q0; exact ⟨v,e,q.mv m2⟩
    | pin w d=>obtain ⟨v,e,ew,q⟩:=q0; exact ⟨v,e,ew,q.mv m2⟩
    | own ds =>
     obtain ⟨l,xs,rfl,hm,h0,hp,hl,hr⟩:=q0
     have hlA:l ∈ A:=by
      obtain ⟨l2,e2,e3⟩:=k1 i _ _ e1 h3
      cases e2
      exact inA i _ e1 l (by rw [e3]; simp)
     exact ⟨l,xs,rfl,List.mem_append.mpr (.inl hlA),h0,hp,kp l hlA _ hl (by intro _ z; cases z),hr.mv m2⟩
    | obj q=>exact q0
   ·obtain ⟨v,e,q⟩:=r'.sl i _ _ e2 h2
    exact ⟨v,e,q.flat _ _ f⟩
   ·obtain ⟨l,xs,e,hm,h0,hp,hl,hr⟩:=r'.sl i _ _ e2 h2
    exact ⟨l,xs,e,List.mem_append.mpr (.inr hm),h0,hp,hl,Reps.flat ds xs f hr⟩
  ·show Ow K F _ H' s o (if nw i then Bs i else if i < ρ.length then As i else [])
   rcases u.get i s h1 with rfl | ⟨e1,e2⟩ | ⟨d,rfl,f,e2⟩ | ⟨ds,rfl,f,e2⟩
   ·trivial
   ·by_cases hn:s = .nil
    ·subst hn; trivial
    have h3:=key i s o e1 e2 hn h2
    have nn:¬ nw i:=fun ⟨ds,z1,z2⟩=>by
     rw [h1] at z1
     cases z1
     rw [e2] at z2
     cases z2
    rw [if_neg nn,if_pos (List.getElem?_eq_some_iff.mp e1).1]
    exact (k1 i s o e1 h3).mv m2 fun a ha=>kp a (inA i s e1 a ha)
   ·trivial
   ·have nn:nw i:=⟨ds,h1,e2⟩
    rw [if_pos nn]
    exact b1 i _ o e2 h2
  ·rcases inC i a ha with ⟨_,ha⟩ | ⟨_,e,ha⟩
   ·have:=b2 i a ha
    exact ⟨List.mem_append.mpr (.inr this.1),this.2⟩
   ·exact ⟨List.mem_append.mpr (.inl ((hA a).mpr ⟨i,e,ha⟩)),(k2 i a ha).2⟩
  ·rcases inC i a ha with ⟨_,ha⟩ | ⟨_,e1,ha⟩ <;> rcases inC j a hb with ⟨_,hb⟩ | ⟨_,e2,hb⟩
   ·exact b3 i j e a ha hb
   ·exact dj a ((hA a).mpr ⟨j,e2,hb⟩) (b2 i a ha).1
   ·exact dj a ((hA a).mpr ⟨i,e1,ha⟩) (b2 j a hb).1
   ·exact k3 i j e a ha hb
  ·rcases List.mem_append.mp ha with ha | ha
   ·intro z
    have:=r.liv.m a (ofA a ha).1
    cases e:H a with
    | none=>exact this e
    | some x=>rw [kp a ha x e (fun ps q=>ntA a ha ps (by rw [e,q]))] at z; cases z
   ·exact r'.liv.m a ha
end
section
variable {X:Cx} {e:Expr} {st:Stmt}
end
section
variable {K:PySem.W.Frag} {pp:Option Addr} {M:List Addr} {H:Hp}
omit [Frm] in
mutual
theorem RO.live:∀ (q:O) (v:V) (A:List Addr),RO K pp M H q v A -> ∀ a ∈ A,H a ≠ none
 | .val d,v,A,h,a,ha=>by simp only [RO] at h; rw [h.1] at ha; simp at ha
 | .lst os,v,A,h,a,ha=>by
  simp only [RO] at h
  obtain ⟨b,xs,B,e,hb,rfl,r⟩:=h
  rcases List.mem_cons.mp ha with rfl | ha
  ·rw [hb]; intro z; cases z
  ·exact ROs.live os xs B r a ha
 | .dct ks os,v,A,h,a,ha=>by
  simp only [RO] at h
  obtain ⟨b,kvs,B,e,hb,e2,rfl,r⟩:=h
  rcases List.mem_cons.mp ha with rfl | ha
  ·rw [hb]; intro z; cases z
  ·exact ROs.live os _ B r a ha
 | .tup os,v,A,h,a,ha=>by
  simp only [RO] at h
  obtain ⟨b,xs,e,hb,r⟩:=h
  exact ROs.live os xs A r a ha
 | .dck ks os,v,A,h,a,ha=>by
  simp only [RO] at h
  obtain ⟨b,kvs,B,e,hb,e2,rfl,r⟩:=h
  rcases List.mem_cons.mp ha with rfl | ha
  ·rw [hb]; intro z; cases z
  ·exact ROs.live os _ B r a ha
theorem ROs.live:∀ (os:List O) (xs:List V) (A:List Addr),ROs K pp M H os xs A -> ∀ a ∈ A,H a ≠ none
 | [],xs,A,h,a,ha=>by simp only [ROs] at h; rw [h.2] at ha; simp at ha
 | o :: os,xs,A,h,a,ha=>by
  simp only [ROs] at h
  obtain ⟨x,r,B,C,e,rfl,h1,h2⟩:=h
  rcases List.mem_append.mp ha with ha | ha
  ·exact RO.live o x B h1 a ha
  ·exact ROs.live os r C h2 a ha
end
omit [Frm] in
theorem ROs.vals:∀ {ds:List D} {xs:List V},Reps K pp M H ds xs -> ROs K pp M H (ds.map O.val) xs []
 | [],xs,h=>by simp only [Reps] at h; simp only [List.map_nil,ROs]; exact ⟨h,trivial⟩
 | d :: ds,xs,h=>by
  simp only [Reps] at h
  obtain ⟨x,r,rfl,h1,h2⟩:=h
  simp only [List.map_cons,ROs,RO]
  exact ⟨x,r,[],[],rfl,rfl,⟨rfl,h1⟩,ROs.vals h2⟩
omit [Frm] in
theorem ROs.put {o:O}:∀ {os:List O} {xs:List V} {A:List Addr} (n:Nat),ROs K pp M H os xs A -> A.Nodup -> os[n]? = some o ->
  ∃ x B,xs[n]? = some x /\ RO K pp M H o x B /\ B.Nodup /\ (∀ a ∈ B,a ∈ A) /\ ∀ {M':List Addr} {H':Hp} o' x' B',Mv K pp M H M' H' -> (∀ a ∈ A,a ∉ B -> ∀ z,H a = some z -> H' a = some z) ->
   RO K pp M' H' o' x' B' -> B'.Nodup -> (∀ b ∈ B',b ∈ B ∨ b ∉ A) -> ∃ A',A'.Nodup /\ (∀ a ∈ A',a ∈ A ∨ a ∈ B') /\ ROs K pp M' H' (os.set n o') (xs.set n x') A'
 | [],xs,A,n,h,nd,e=>by simp at e
 | o0 :: os,xs,A,0,h,nd,e=>by
  simp only [ROs] at h
  obtain ⟨x,r,B,C,rfl,rfl,h1,h2⟩:=h
  simp at e
  subst e
  obtain ⟨n1,n2,n3⟩:=List.nodup_append.mp nd
  refine ⟨x,B,rfl,h1,n1,fun a ha=>List.mem_append.mpr (.inl ha),fun {M' H'} o' x' B' m k r' nb hb=>⟨B' ++ C,?_,fun a ha=>?_,?_⟩⟩
  ·refine List.nodup_append.mpr ⟨nb,n2,fun a ha b hc z=>?_⟩
   subst z
   rcases hb a ha with z | z
   ·exact n3 a z a hc rfl
   ·exact z (List.mem_append.mpr (.inr hc))
  ·rcases List.mem_append.mp ha with ha | ha
   ·exact .inr ha
   ·exact .inl (List.mem_append.mpr (.inr ha))
  ·simp only [List.set_cons_zero,ROs]
   exact ⟨x',r,B',C,rfl,rfl,r',ROs.mv m os r C (fun a ha z e _=>k a (List.mem_append.mpr (.inr ha)) (fun y=>n3 a y a ha rfl) z e) h2⟩
 | o0 :: os,xs,A,n + 1,h,nd,e=>by
  simp only [ROs] at h
  obtain ⟨x0,r,B0,C,rfl,rfl,h1,h2⟩:=h
  obtain ⟨n1,n2,n3⟩:=List.nodup_append.mp nd
  obtain ⟨x,B,ex,hB,nB,sB,f⟩:=ROs.put n h2 n2 (by simpa using e)
  refine ⟨x,B,by simpa using ex,hB,nB,fun a ha=>List.mem_append.mpr (.inr (sB a ha)),fun {M' H'} o' x' B' m k r' nb hb=>?_⟩
  obtain ⟨C',c1,c2,c3⟩:=f o' x' B' m (fun a ha hn z e=>k a (List.mem_append.mpr (.inr ha)) hn z e) r' nb (fun b hb'=>(hb b hb').imp id fun z y=>z (List.mem_append.mpr (.inr y)))
  refine ⟨B0 ++ C',?_,fun a ha=>?_,?_⟩
  ·refine List.nodup_append.mpr ⟨n1,c1,fun a ha b hc z=>?_⟩
   subst z
   rcases c2 a hc with z | z
   ·exact n3 a ha a z rfl
   ·rcases hb a z with y | y
    ·exact n3 a ha a (sB a y) rfl
    ·exact y (List.mem_append.mpr (.inl ha))
  ·rcases List.mem_append.mp ha with ha | ha
   ·exact .inl (List.mem_append.mpr (.inl ha))
   ·exact (c2 a ha).imp (fun z=>List.mem_append.mpr (.inr z)) id
  ·simp only [List.set_cons_succ,ROs]
   exact ⟨x0,_,B0,C',rfl,rfl,RO.mv m o0 x0 B0 (fun a ha z e _=>k a (List.mem_append.mpr (.inl ha)) (fun y=>n3 a ha a (sB a y) rfl) z e) h1,c3⟩
end
section
variable {K:PySem.W.Frag} {F:Fx} {M:List Addr} {H:Hp} {σ:St} {ρ:DS} {i:Nat} {q q':O} {l:Addr} {xs ys:List V}
theorem RSt.newObj {M1:List Addr} {H1 H':Hp} {A:List Addr} {v:V} (r:RSt K F M1 H1 σ ρ) (s:SameP K F.pp H1 H') (hn:A.Nodup) (hA:∀ a ∈ A,H1 a = none /\ F.pp ≠ some a) (ro:RO K F.pp (A ++ M1) H' q v A) (i:Nat) :
  Mv K F.pp M1 H1 (A ++ M1) H' /\ RSt K F (A ++ M1) H' (σ.set i (some v)) (ρ.set i (.obj q)):=by
 have m1:Mv K F.pp M1 H1 M1 H':=s.mv
 have m:Mv K F.pp M1 H1 (A ++ M1) H':=by
  refine ⟨m1.tup,fun a o e n p=>⟨(m1.oth a o e n p).1,fun z=>?_⟩,m1.pen,m1.tb⟩
  rcases List.mem_append.mp z with z | z
  ·rw [(hA a z).1] at e; cases e
  ·exact n z
 have f0:∀ a ∈ A,F.H0 a = none:=fun a ha=>by
  cases e:F.H0 a with
  | none=>rfl
  | some o=>exact absurd (hA a ha).1 (r.same.live a (by rw [e]; intro z; cases z))
 refine ⟨m,⟨by simp [r.len],fun j t o h1 h2=>?_,r.ow.step m i (fun j e=>List.getElem?_set_ne (Ne.symm e)) (fun j e=>List.getElem?_set_ne (Ne.symm e)) (fun A0 _ _=>⟨A,fun t o e1 e2=>?_,fun b hb=>⟨List.mem_append.mpr (.inl hb),f0 b hb,(hA b hb).2,.inr fun z=>r.liv.m b z (hA b hb).1⟩,fun a ha p0 z0 _=>⟨List.mem_append.mpr (.inr ha),(s.ow (M:=M1) a ha p0 z0).2⟩⟩),fun a ha=>List.mem_append.mpr (.inr (r.sub a ha)),r.same.trans s.toSameQ,r.old,⟨fun a ha=>?_,fun p e=>s.live p (r.liv.p p e)⟩,r.lk.cl m⟩⟩
 ·by_cases e:i = j
  ·subst e
   rw [set_self h1,set_self h2]
   exact ⟨v,rfl⟩
  ·rw [List.getElem?_set_ne e] at h1 h2
   have q':=r.sl j t o h1 h2
   cases t with
   | nil=>trivial
   | val d=>obtain ⟨v,e,q⟩:=q'; exact ⟨v,e,q.mv m⟩
   | pin w d=>obtain ⟨v,e,ew,q⟩:=q'; exact ⟨v,e,ew,q.mv m⟩
   | own es =>
    obtain ⟨l',zs,rfl,hm',h0',hp',hl'',hr'⟩:=q'
    exact ⟨l',zs,rfl,List.mem_append.mpr (.inr hm'),h0',hp',(s.ow (M:=M1) l' hm' hp' h0').2 _ hl'' (by intro _ z; cases z),hr'.mv m⟩
   | obj q=>exact q'
 ·rw [set_self e1,set_self e2]
  exact ⟨hn,v,rfl,ro⟩
 ·rcases List.mem_append.mp ha with ha | ha
  ·exact RO.live q v A ro a ha
  ·exact s.live a (r.liv.m a ha)
end
abbrev DTB:=(D -> Prop) -> (O -> Prop) -> DS -> Prop
section
structure EB (K:PySem.W.Frag) (F:Fx) (M:List Addr) (H:Hp) (Q:D -> Prop) (L:O -> Prop) (D:Ends):Prop where
 rt:∀ M' H' σ' ρ' d v,Mv K F.pp M H M' H' -> RSt K F M' H' σ' ρ' -> Rep K F.pp M' H' d v -> Q d -> D.rt v H'
 nx:∀ M' H' σ' ρ',Mv K F.pp M H M' H' -> RSt K F M' H' σ' ρ' -> Q .non -> D.nx σ' H'
 nw:∀ M' H' q v A,SameP K F.pp F.H0 H' -> (∀ a ∈ F.M0,a ∈ M') -> A.Nodup -> (∀ a ∈ A,a ∈ M' /\ F.H0 a = none /\ F.pp ≠ some a) -> RO K F.pp M' H' q v A -> L q -> D.rt v H'
theorem EB.mv {K:PySem.W.Frag} {F:Fx} {M M1:List Addr} {H H1:Hp} {Q:DL.D -> Prop} {L:O -> Prop} {D:Ends} (o:EB K F M H Q L D) (m:Mv K F.pp M H M1 H1):EB K F M1 H1 Q L D :=
 ⟨fun _ _ _ _ _ _ m'=>o.rt _ _ _ _ _ _ (m.trans m'),fun _ _ _ _ m'=>o.nx _ _ _ _ (m.trans m'),o.nw⟩
variable {X:Cx} {st:Stmt} {rest:List Stmt} {t:DTS} {u:DTB} {e:Expr} {te:DE} {pos:Pos}
end
section
variable {X:Cx}
omit [Frm] in
theorem atI_nat {α:Type} {xs:List α} {n:Nat} {x:α} (h:xs[n]? = some x):atI xs (n:Int) = some x:=by
 have hn:n < xs.length:=(List.getElem?_eq_some_iff.mp h).1
 unfold atI ixN
 rw [if_pos (by omega),if_pos (by omega)]
 simpa using h
end
end DL
namespace L2
open PySem PySem.Spec PyProof.Rows
section
variable {X:Cx}
end
end L2
namespace DL
open PySem PySem.Spec L2
open PyProof.Rows hiding St
variable [TB]
variable [Frm]
section
variable {X:Cx}
end
section
variable {X:Cx}
omit [Frm] in
theorem ROs.snoc {K:PySem.W.Frag} {pp:Option Addr} {M:List Addr} {H:Hp} {d:D} {v:V} (h:Rep K pp M H d v):∀ {os:List O} {xs:List V} {A:List Addr},ROs K pp M H os xs A -> ROs K pp M H (os ++ [.val d]) (xs ++ [v]) A
 | [],xs,A,q=>by
  simp only [ROs] at q
  obtain ⟨rfl,rfl⟩:=q
  simp only [List.nil_append,ROs,RO]
  exact ⟨v,[],[],[],rfl,rfl,⟨rfl,h⟩,rfl,rfl⟩
 | o :: os,xs,A,q=>by
  simp only [ROs] at q
  obtain ⟨x,r,B,C,rfl,rfl,h1,h2⟩:=q
  simp only [List.cons_append,ROs]
  exact ⟨x,r ++ [v],B,C,rfl,rfl,h1,ROs.snoc h h2⟩
omit [Frm] in
theorem ROs.length {K:PySem.W.Frag} {pp:Option Addr} {M:List Addr} {H:Hp}:∀ {os:List O} {xs:List V} {A:List Addr},ROs K pp M H os xs A -> os.length = xs.length
 | [],xs,A,q=>by simp only [ROs] at q; rw [q.1]; rfl
 | o :: os,xs,A,q=>by
  simp only [ROs] at q
  obtain ⟨x,r,B,C,rfl,rfl,h1,h2⟩:=q
  simp [ROs.length h2]
end
end DL
namespace PySem
section
variable {prog:Program} {w:World} {K:Type} [DecidableEq K] {knd:HeapKind prog w K} {A:Around} {E:Value -> Shared -> Prop} {z:Shared}
end
end PySem
namespace L2
open PySem PySem.Spec PyProof.Rows
section
variable {X:Cx}
end
end L2
namespace L2
open PySem PySem.Spec PyProof.Rows PySem.W
def kRun {α:Type} (c:Nat -> Nat -> Bool):KasT α -> α
 | .ret a=>a
 | .ask i j k=>kRun c (k (c i j))
def KGood {α:Type} (N:Nat) (P:α -> Prop):KasT α -> Prop
 | .ret a=>P a
 | .ask i j k=>(i < N /\ j < N) /\ ∀ b,KGood N P (k b)
theorem KGood.bind {α β:Type} {N:Nat} {P:α -> Prop} {R:β -> Prop} {f:α -> KasT β} (hf:∀ a,P a -> KGood N R (f a)):∀ (t:KasT α),KGood N P t -> KGood N R (t.bind f)
 | .ret a,h=>hf a h
 | .ask i j k,h=>⟨h.1,fun b=>KGood.bind hf (k b) (h.2 b)⟩
theorem KGood.end {α:Type} {N:Nat} {P:α -> Prop} (c:Nat -> Nat -> Bool):∀ (t:KasT α),KGood N P t -> P (kRun c t)
 | .ret a,h=>h
 | .ask i j k,h=>KGood.end c (k (c i j)) (h.2 _)
theorem KGood.wp {α:Type} {N:Nat} {P:α -> Prop} {c:Nat -> Nat -> Bool} {cmp:Nat -> Nat -> (Bool -> Shared -> Prop) -> Shared -> Prop} {s:Shared}
  (hc:∀ i j (C:Bool -> Shared -> Prop),i < N -> j < N -> C (c i j) s -> cmp i j C s):∀ (t:KasT α) (Q:α -> Shared -> Prop),KGood N P t -> Q (kRun c t) s -> t.kasWp cmp Q s
 | .ret a,Q,_,q=>q
 | .ask i j k,Q,h,q=>hc i j _ h.1.1 h.1.2 (KGood.wp hc (k (c i j)) Q (h.2 _) q)
def PmN (N:Nat) (p:Array Nat):Prop:=p.toList.Perm (List.range N)
section
variable {N:Nat} {p:Array Nat}
theorem PmN.lt (h:PmN N p) (h0:0 < N) (i:Nat):p.getD i 0 < N:=by
 by_cases hi:i < p.size
 ·have e:p.getD i 0 = p[i]:=by simp [Array.getD,hi]
  have hm:p[i] ∈ p.toList:=Array.mem_toList_iff.mpr (Array.getElem_mem hi)
  rw [e]
  exact List.mem_range.mp (h.mem_iff.mp hm)
 ·have e:p.getD i 0 = 0:=by simp [Array.getD,hi]
  rw [e]
  exact h0
end
def isI (k:Key) (u:Value):Prop:=∃ i t,k = .inl i /\ u = Value.int i t
def TupI (h:Heap) (k:List Key) (v:Value):Prop:=∃ a o xs n,v = .ref a /\ h.get? a = some o /\ o.cls = .type "tuple" /\ o.data = .seq xs n /\ Paired isI k xs.toList
section
variable {prog:Program} {w:World} {A:Around} {E:Value -> Shared -> Prop} {s:Shared} {b fin:Bool} {Q:Bool -> Shared -> Prop}
end
def RawD (d:Addr) (es:Array DictEntry) (ep:Nat) (h:Heap):Prop:=∃ o,h.get? d = some o /\ o.ExactDict /\ o.data = .dict es ep
theorem RawD.type {d:Addr} {es:Array DictEntry} {ep:Nat} {s:Shared} (h:RawD d es ep s.heap):s.TypeIs (.ref d) "dict":=let ⟨o,e,x,_⟩:=h; ⟨o,e,x.1⟩
theorem RawD.keep {d:Addr} {es:Array DictEntry} {ep:Nat} {h h':Heap} (r:RawD d es ep h) (k:∀ o,h.get? d = some o -> h'.get? d = some o):RawD d es ep h':=let ⟨o,e,x⟩:=r; ⟨o,k o e,x⟩
section
variable {prog:Program} {w:World} {A:Around} {E:Value -> Shared -> Prop} {s:Shared} {d it:Addr} {es:Array DictEntry} {ep i:Nat}
end
end L2
namespace L2
open PySem PySem.Spec PyProof.Rows PySem.W
section
variable {prog:Program} {w:World} {A:Around} {E:Value -> Shared -> Prop} {s:Shared}
theorem TupI.keep {h h':Heap} {k:List Key} {v:Value} {a:Addr} {xs:Array Value} {n:Nat} (t:TupI h k v) (ha:h.get? a = some (seqObj "list" xs n)) (kp:∀ b o,b ≠ a -> h.get? b = some o -> h'.get? b = some o):TupI h' k v:=by
 obtain ⟨b,o,ys,m,rfl,e,c,d,p⟩:=t
 refine ⟨b,o,ys,m,rfl,kp b o ?_ e,c,d,p⟩
 rintro rfl
 rw [ha] at e
 cases e
 simp [seqObj] at c
end
end L2
namespace L2
open PySem PySem.Spec PyProof.Rows PySem.W
section
variable {X:Cx}
end
end L2
namespace PySem
section
variable {prog:Program} {w:World} {A:Around} {E:Value -> Shared -> Prop} {s:Shared}
end
end PySem
namespace DL
open PySem PySem.Spec L2
open PyProof.Rows hiding St
variable [TB]
section
variable {K:PySem.W.Frag} {pp:Option Addr} {M:List Addr} {H:Hp}
end
section
variable {α β:Type}
def putA (ps:List (List Key × α)) (k:List Key) (x:α):List (List Key × α) :=
 if (ps.any fun p=>decide (p.1 = k)) = true then ps.map (fun p=>if p.1 = k then (p.1,x) else p) else ps ++ [(k,x)]
abbrev PK (R:α -> β -> Prop):List (List Key × α) -> List (List Key × β) -> Prop:=Paired fun p q=>p.1 = q.1 /\ R p.2 q.2
theorem PK.any {R:α -> β -> Prop} {ps:List (List Key × α)} {qs:List (List Key × β)} (h:PK R ps qs) (k:List Key):(ps.any fun p=>decide (p.1 = k)) = qs.any fun p=>decide (p.1 = k):=by
 induction h with
 | nil=>rfl
 | @cons p q ps qs h _ ih=>simp only [List.any_cons,ih,h.1]
theorem PK.put {R:α -> β -> Prop} {ps:List (List Key × α)} {qs:List (List Key × β)} (h:PK R ps qs) (k:List Key) {x:α} {y:β} (r:R x y):PK R (putA ps k x) (putA qs k y):=by
 unfold putA
 rw [h.any k]
 by_cases e:(qs.any fun p=>decide (p.1 = k)) = true
 ·rw [if_pos e,if_pos e]
  clear e
  induction h with
  | nil=>exact .nil
  | @cons p q ps qs h _ ih =>
   rw [List.map_cons,List.map_cons]
   refine .cons ?_ ih
   by_cases e:p.1 = k
   ·rw [if_pos e,if_pos (h.1.symm.trans e)]; exact ⟨h.1,r⟩
   ·rw [if_neg e,if_neg (fun z=>e (h.1.trans z))]; exact h
 ·rw [if_neg e,if_neg e]
  exact Paired.snoc h ⟨rfl,r⟩
theorem PK.keys {R:α -> β -> Prop} {ps:List (List Key × α)} {qs:List (List Key × β)} (h:PK R ps qs):ps.map (·.1) = qs.map (·.1):=by
 induction h with
 | nil=>rfl
 | cons h _ ih=>simp only [List.map_cons,ih,h.1]
end
section
variable {K:PySem.W.Frag} {pp:Option Addr} {M M':List Addr} {H H':Hp}
theorem PK.imp {α β:Type} {R S:α -> β -> Prop} {ps:List (List Key × α)} {qs:List (List Key × β)} (h:PK R ps qs) (f:∀ a b,R a b -> S a b):PK S ps qs:=by
 induction h with
 | nil=>exact .nil
 | cons h _ ih=>exact .cons ⟨h.1,f _ _ h.2⟩ ih
def PL (K:PySem.W.Frag) (pp:Option Addr) (M:List Addr) (H:Hp):List (List Key × List D) -> List (List Key × V) -> List Addr -> Prop
 | [],kvs,ls=>kvs = [] /\ ls = []
 | p :: ps,kvs,ls=>∃ l xs r t,kvs = (p.1,.ref l) :: r /\ ls = l :: t /\ H l = some (.lst xs) /\ Reps K pp M H p.2 xs /\ PL K pp M H ps r t
end
end DL
namespace DL
open PySem PySem.Spec L2
open PyProof.Rows hiding St
variable [TB]
variable [Frm]
section
variable {K:PySem.W.Frag} {F:Fx} {M M':List Addr} {H H':Hp} {σ:St} {ρ:DS} {i:Nat} {q q':O}
theorem Lv0.upd {pp:Option Addr} {l:Addr} {o:HO} (h:Lv0 pp M H):Lv0 pp M (L2.upd H l o):=by
 refine ⟨fun a ha=>?_,fun p e=>?_⟩
 ·by_cases z:a = l
  ·subst z; rw [upd_same]; intro z; cases z
  ·rw [upd_ne z]; exact h.m a ha
 ·by_cases z:p = l
  ·subst z; rw [upd_same]; intro z; cases z
  ·rw [upd_ne z]; exact h.p p e
end
section
variable {X:Cx}
end
end DL
namespace L2
open PySem PySem.Spec PyProof.Rows
section
variable {X:Cx}
end
end L2
namespace DL
open PySem PySem.Spec L2
open PyProof.Rows hiding St
variable [TB]
variable [Frm]
section
variable {X:Cx}
end
section
variable {K:PySem.W.Frag} {pp:Option Addr} {M M':List Addr} {H H':Hp}
omit [Frm] in
theorem PL.mv (m:Mv K pp M H M' H'):∀ {kls:List (List Key × List D)} {kvs:List (List Key × V)} {ls:List Addr},(∀ b ∈ ls,∀ o,H b = some o -> H' b = some o) -> PL K pp M H kls kvs ls -> PL K pp M' H' kls kvs ls
 | [],kvs,ls,_,h=>h
 | p :: ps,kvs,ls,kp,h=>by
  obtain ⟨l,xs,r,t,rfl,rfl,hl,h1,h2⟩:=h
  exact ⟨l,xs,r,t,rfl,rfl,kp l List.mem_cons_self _ hl,h1.mv m,PL.mv m (fun b hb=>kp b (List.mem_cons_of_mem _ hb)) h2⟩
omit [Frm] in
theorem PL.snoc {k:List Key} {es:List D} {l:Addr} {xs:List V} (hl:H l = some (.lst xs)) (hr:Reps K pp M H es xs):∀ {kls:List (List Key × List D)} {kvs:List (List Key × V)} {ls:List Addr},PL K pp M H kls kvs ls -> PL K pp M H (kls ++ [(k,es)]) (kvs ++ [(k,.ref l)]) (ls ++ [l])
 | [],kvs,ls,h=>by
  obtain ⟨rfl,rfl⟩:=h
  exact ⟨l,xs,[],[],rfl,rfl,hl,hr,rfl,rfl⟩
 | p :: ps,kvs,ls,h=>by
  obtain ⟨l',xs',r,t,rfl,rfl,hl',h1,h2⟩:=h
  exact ⟨l',xs',r ++ [(k,.ref l)],t ++ [l],rfl,rfl,hl',h1,PL.snoc hl hr h2⟩
def addL1 (k:List Key) (d:D):List (List Key × List D) -> List (List Key × List D)
 | []=>[(k,[d])]
 | p :: r=>if p.1 = k then (p.1,p.2 ++ [d]) :: r else p :: addL1 k d r
omit [Frm] in
theorem PL.add (k:List Key) (d:D):∀ {kls:List (List Key × List D)} {kvs:List (List Key × V)} {ls:List Addr},PL K pp M H kls kvs ls -> ls.Nodup ->
  (valV kvs k = none /\ addL1 k d kls = kls ++ [(k,[d])]) ∨ ∃ l0 xs,valV kvs k = some (.ref l0) /\ l0 ∈ ls /\ H l0 = some (.lst xs) /\ (∃ p ∈ kls,p.1 = k /\ p.2.length = xs.length) /\
   ∀ {M':List Addr} {H':Hp} {v:V},Mv K pp M H M' H' -> Rep K pp M' H' d v -> H' l0 = some (.lst (xs ++ [v])) -> (∀ b ∈ ls,b ≠ l0 -> ∀ o,H b = some o -> H' b = some o) -> PL K pp M' H' (addL1 k d kls) kvs ls
 | [],kvs,ls,h,_=>by
  obtain ⟨rfl,rfl⟩:=h
  exact .inl ⟨rfl,rfl⟩
 | p :: ps,kvs,ls,h,nd=>by
  obtain ⟨l,xs,r,t,rfl,rfl,hl,h1,h2⟩:=h
  obtain ⟨n1,n2⟩:=List.nodup_cons.mp nd
  by_cases e:p.1 = k
  ·refine .inr ⟨l,xs,valV_pos (p:=(p.1,V.ref l)) e,List.mem_cons_self,hl,⟨p,List.mem_cons_self,e,h1.length⟩,fun {M' H' v} m rd hv kp=>?_⟩
   unfold addL1
   rw [if_pos e]
   exact ⟨l,_,r,t,rfl,rfl,hv,(h1.mv m).append (.one rd),PL.mv m (fun b hb=>kp b (List.mem_cons_of_mem _ hb) (by rintro rfl; exact n1 hb)) h2⟩
  ·rcases PL.add k d h2 n2 with ⟨a1,a2⟩ | ⟨l0,ys,a1,a2,a3,⟨p',a4,a5⟩,f⟩
   ·refine .inl ⟨by rw [valV_neg (p:=(p.1,V.ref l)) e]; exact a1,?_⟩
    unfold addL1
    rw [if_neg e,a2]
    rfl
   ·refine .inr ⟨l0,ys,by rw [valV_neg (p:=(p.1,V.ref l)) e]; exact a1,List.mem_cons_of_mem _ a2,a3,⟨p',List.mem_cons_of_mem _ a4,a5⟩,fun {M' H' v} m rd hv kp=>?_⟩
    unfold addL1
    rw [if_neg e]
    exact ⟨l,xs,r,t,rfl,rfl,kp l List.mem_cons_self (by rintro rfl; exact n1 a2) _ hl,h1.mv m,f m rd hv fun b hb=>kp b (List.mem_cons_of_mem _ hb)⟩
end
section
variable {X:Cx}
omit [Frm] in
theorem PL.len {K:PySem.W.Frag} {pp:Option Addr} {M:List Addr} {H:Hp}:∀ {kls:List (List Key × List D)} {kvs:List (List Key × V)} {ls:List Addr},PL K pp M H kls kvs ls -> kls.length = kvs.length
 | [],kvs,ls,h=>by rw [h.1]; rfl
 | p :: ps,kvs,ls,h=>by
  obtain ⟨l,xs,r,t,rfl,rfl,hl,h1,h2⟩:=h
  simp [PL.len h2]
end
end DL
namespace DL
open PySem PySem.Spec L2
open PyProof.Rows hiding St
variable [TB]
variable [Frm]
section
variable {K:PySem.W.Frag} {F:Fx} {M:List Addr} {H:Hp} {σ:St} {ρ:DS} {i:Nat}
end
section
variable {X:Cx}
end
end DL
namespace DL
open PySem PySem.Spec L2
open PyProof.Rows hiding St
variable [TB]
variable [Frm] {X:Cx} {st:Stmt}
end DL
namespace DL
open PySem PySem.Spec L2
open PyProof.Rows hiding St
variable [TB]
section
variable {P:Program} {w:World} {K:PySem.W.Frag} {mg:Str -> Option Value} {base:Heap} {k:Nat} {f:Addr} {fd:FuncData} {ps:List Str} {n:Nat}
theorem FnOk.asE {g:DSp} (F:FnOk P w K mg base CX0 k f fd ps (spD K n g)):FnOk P w K mg base (CXE P w) k f fd ps (spDE K n fun ds Q _=>g ds Q):=by
 refine ⟨fun vs H Q E q=>F.len vs H Q E q,fun A outer s H args us vs Q E hr he hb hv hs=>codeAny_mono (F.run A outer s H args us vs Q E hr he hb hv hs) fun r s' hq=>?_⟩
 cases r with
 | ok v=>cases v <;> exact hq
 | error e=>exact False.elim hq
theorem FnOk.orE {g1 g2:DSpE} (F:FnOk P w K mg base (CXE P w) k f fd ps (spDE K n g1)) (G:FnOk P w K mg base (CXE P w) k f fd ps (spDE K n g2)):FnOk P w K mg base (CXE P w) k f fd ps (spDE K n fun ds Q W=>g1 ds Q W ∨ g2 ds Q W):=by
 refine ⟨fun vs H Q E ⟨pp,M,ds,lv,r,e,h⟩=>?_,fun A outer s H args us vs Q E hr he hb hv ⟨pp,M,ds,lv,r,e,h⟩=>?_⟩
 ·rcases h with h | h
  ·exact F.len vs H Q E ⟨pp,M,ds,lv,r,e,h⟩
  ·exact G.len vs H Q E ⟨pp,M,ds,lv,r,e,h⟩
 ·rcases h with h | h
  ·exact F.run A outer s H args us vs Q E hr he hb hv ⟨pp,M,ds,lv,r,e,h⟩
  ·exact G.run A outer s H args us vs Q E hr he hb hv ⟨pp,M,ds,lv,r,e,h⟩
theorem MonoE.ofS {g:DSp} (m:MonoS g):MonoE fun ds Q _=>g ds Q:=fun ds P P' _ _ f _ h=>m ds P P' f h
theorem MonoE.or {g1 g2:DSpE} (m1:MonoE g1) (m2:MonoE g2):MonoE fun ds Q W=>g1 ds Q W ∨ g2 ds Q W:=fun ds P P' W W' f fw h=>h.imp (m1 ds P P' W W' f fw) (m2 ds P P' W W' f fw)
end
end DL
namespace DL
open PySem PySem.Spec L2
open PyProof.Rows hiding St
variable [TB]
section
variable {X:Cx}
end
end DL
namespace L2
open PySem PySem.Spec PyProof.Rows PySem.W
structure StrO (N:Nat) (c:Nat -> Nat -> Bool):Prop where
 tr:∀ i j k,i < N -> j < N -> k < N -> c i j = true -> c j k = true -> c i k = true
 as:∀ i j,i < N -> j < N -> c i j = true -> c j i = false
 to:∀ i j,i < N -> j < N -> i ≠ j -> c i j = false -> c j i = true
section
variable {N:Nat} {c:Nat -> Nat -> Bool} {p:Array Nat}
theorem PmN.size (h:PmN N p):p.size = N:=by
 have:=h.length_eq
 simpa using this
theorem PmN.ne (h:PmN N p) {i j:Nat} (hi:i < N) (hj:j < N) (e:i ≠ j):p.getD i 0 ≠ p.getD j 0:=by
 have nd:p.toList.Nodup:=h.nodup_iff.mpr List.nodup_range
 have s:=h.size
 have e1:p.getD i 0 = p.toList[i]'(by simpa [s] using hi):=by simp [Array.getD,s,hi]
 have e2:p.getD j 0 = p.toList[j]'(by simpa [s] using hj):=by simp [Array.getD,s,hj]
 rw [e1,e2]
 intro z
 exact e ((List.getElem_inj nd).mp z)
def Asc (c:Nat -> Nat -> Bool) (p:Array Nat) (n:Nat):Prop:=∀ i j,i < j -> j < n -> c (p.getD i 0) (p.getD j 0) = true
def Dsc (c:Nat -> Nat -> Bool) (p:Array Nat) (n:Nat):Prop:=∀ i j,i < j -> j < n -> c (p.getD j 0) (p.getD i 0) = true
theorem Asc.step (O:StrO N c) (h:PmN N p) {n:Nat} (hn:1 <= n) (hN:n < N) (a:Asc c p n) (e:c (p.getD n 0) (p.getD (n - 1) 0) = false):Asc c p (n + 1):=by
 have h0:0 < N:=by omega
 have last:c (p.getD (n - 1) 0) (p.getD n 0) = true:=O.to _ _ (h.lt h0 _) (h.lt h0 _) (h.ne hN (by omega) (by omega)) e
 intro i j hij hj
 by_cases z:j = n
 ·subst z
  by_cases y:i = j - 1
  ·subst y; exact last
  ·exact O.tr _ _ _ (h.lt h0 _) (h.lt h0 _) (h.lt h0 _) (a i (j - 1) (by omega) (by omega)) last
 ·exact a i j hij (by omega)
theorem Dsc.step (O:StrO N c) (h:PmN N p) {n:Nat} (hn:1 <= n) (hN:n < N) (a:Dsc c p n) (last:c (p.getD n 0) (p.getD (n - 1) 0) = true):Dsc c p (n + 1):=by
 have h0:0 < N:=by omega
 intro i j hij hj
 by_cases z:j = n
 ·subst z
  by_cases y:i = j - 1
  ·subst y; exact last
  ·exact O.tr _ _ _ (h.lt h0 _) (h.lt h0 _) (h.lt h0 _) last (a i (j - 1) (by omega) (by omega))
 ·exact a i j hij (by omega)
end
end L2
namespace L2
open PySem PySem.Spec PyProof.Rows
def IterX:Bool -> Heap -> Addr -> Addr -> Nat -> Prop
 | true,h,i,a,k=>h.IsTupleIter i a k
 | false,h,i,a,k=>h.IsListIter i a k
def SeqX:Bool -> Heap -> Addr -> Array Value -> Prop
 | true,h,a,xs=>h.IsTuple a xs
 | false,h,a,xs=>h.IsList a xs
theorem IterX.extBut {t:Bool} {h h':Heap} {i a b:Addr} {k:Nat} (x:IterX t h i a k) (hs:Heap.ExtBut b h h') (e:i ≠ b):IterX t h' i a k:=by
 cases t with
 | true=>exact Heap.IsTupleIter.extBut x hs e
 | false=>exact Heap.IsListIter.extBut x hs e
theorem IterX.at {t:Bool} {h h':Heap} {i a:Addr} {k:Nat} (x:IterX t h i a k) (e:∀ o,h.get? i = some o -> h'.get? i = some o):IterX t h' i a k:=by
 cases t with
 | true=>exact Heap.IsTupleIter.at x e
 | false=>exact Heap.IsListIter.at x e
theorem IterX.cell {t:Bool} {h:Heap} {i a:Addr} {k:Nat} (x:IterX t h i a k):∃ o,h.get? i = some o /\ ∀ v,o.data ≠ .cell v:=by
 cases t with
 | true=>obtain ⟨o,e,_,d⟩:=(show h.IsTupleIter i a k from x); exact ⟨o,e,fun v z=>by rw [d] at z; cases z⟩
 | false=>obtain ⟨o,e,_,d⟩:=(show h.IsListIter i a k from x); exact ⟨o,e,fun v z=>by rw [d] at z; cases z⟩
theorem SeqX.extBut {t:Bool} {h h':Heap} {a b:Addr} {xs:Array Value} (x:SeqX t h a xs) (hs:Heap.ExtBut b h h') (e:a ≠ b):SeqX t h' a xs:=by
 cases t with
 | true=>exact Heap.IsTuple.extBut x hs e
 | false=>exact Heap.IsList.extBut x hs e
theorem SeqX.at {t:Bool} {h h':Heap} {a:Addr} {xs:Array Value} (x:SeqX t h a xs) (e:∀ o,h.get? a = some o -> h'.get? a = some o):SeqX t h' a xs:=by
 cases t with
 | true=>obtain ⟨o,ho,r⟩:=(show h.IsTuple a xs from x); exact ⟨o,e o ho,r⟩
 | false=>exact Heap.IsList.at x e
theorem SeqX.lt {t:Bool} {h:Heap} {a:Addr} {xs:Array Value} (x:SeqX t h a xs):a < h.objs.size:=by
 cases t with
 | true=>obtain ⟨o,ho,_⟩:=(show h.IsTuple a xs from x); exact Heap.lt_size ho
 | false=>obtain ⟨o,ho,_⟩:=(show h.IsList a xs from x); exact Heap.lt_size ho
section
variable {prog:Program} {w:World} {A:Around} {E:Value -> Shared -> Prop} {s:Shared}
end
end L2
namespace L2
open PySem PySem.Spec PyProof.Rows
section
variable {tk:Addr -> Bool}
def ItsAtM (tk:Addr -> Bool) (h:Heap) (n:Nat) (src:List (Addr × Array Value)) (k c:Nat):Prop:=∀ (j:Nat) (p:Addr × Array Value),src[j]? = some p -> IterX (tk p.1) h (n + j) p.1 (if j < c then k + 1 else k)
def SrcAtM (tk:Addr -> Bool) (h:Heap) (n:Nat) (src:List (Addr × Array Value)):Prop:=∀ (j:Nat) (p:Addr × Array Value),src[j]? = some p -> p.1 < n /\ SeqX (tk p.1) h p.1 p.2
structure ZipStM (tk:Addr -> Bool) (h:Heap) (n:Nat) (src:List (Addr × Array Value)) (k:Nat):Prop where
 zip:∃ f0 f1,OwnF f0 /\ IsZipN h (n + src.length + 2) (n + src.length) (n + src.length + 1) f0 f1
 ti:IsTupR h (n + src.length) (itsL n src.length).toArray
 to:∃ ws:Array Value,ws.size = src.length /\ IsTupR h (n + src.length + 1) ws
 its:ItsAtM tk h n src k 0
 ls:SrcAtM tk h n src
 ne:src ≠ []
structure ZipLpM (tk:Addr -> Bool) (h0:Heap) (n:Nat) (src:List (Addr × Array Value)) (k c:Nat) (h:Heap):Prop where
 ti:IsTupR h (n + src.length) (itsL n src.length).toArray
 its:ItsAtM tk h n src k c
 ls:SrcAtM tk h n src
 kept:KeptZ n src.length h0 h
 sz:h.objs.size = h0.objs.size
section
variable {h0 h h':Heap} {n k c:Nat} {src:List (Addr × Array Value)}
theorem ZipLpM.same {a:Nat} (L:ZipLpM tk h0 n src k c h) (hs:Heap.SameBut a h h') (ha:a = n + src.length + 1 ∨ a = n + src.length + 2):ZipLpM tk h0 n src k c h' where
 ti:=hs.extBut _ _ (by intro e; have e:(_:Nat) = (_:Nat):=e; omega) L.ti
 its:=fun j p hj=>(L.its j p hj).extBut hs.extBut (by have:=at_lt hj; intro e; have e:(_:Nat) = (_:Nat):=e; omega)
 ls:=fun j p hj=>⟨(L.ls j p hj).1,(L.ls j p hj).2.extBut hs.extBut (Nat.ne_of_lt (Nat.lt_of_lt_of_le (L.ls j p hj).1 (show n <= a by omega)))⟩
 kept:=fun b o hb e=>hs.extBut _ _ (by intro e; have e:(_:Nat) = (_:Nat):=e; omega) (L.kept b o hb e)
 sz:=hs.1.trans L.sz
theorem ZipLpM.next {p:Addr × Array Value} (L:ZipLpM tk h0 n src k c h) (hc:src[c]? = some p) (hit:IterX (tk p.1) h' (n + c) p.1 (k + 1)) (hs:Heap.SameBut (n + c) h h'):ZipLpM tk h0 n src k (c + 1) h':=by
 have lt:=at_lt hc
 refine ⟨hs.extBut _ _ (by intro e; have e:(_:Nat) = (_:Nat):=e; omega) L.ti,fun j q hj=>?_,fun j q hj=>⟨(L.ls j q hj).1,(L.ls j q hj).2.extBut hs.extBut (Nat.ne_of_lt (Nat.lt_of_lt_of_le (L.ls j q hj).1 (Nat.le_add_right n c)))⟩,fun b o hb e=>hs.extBut _ _ (by intro e; have e:(_:Nat) = (_:Nat):=e; omega) (L.kept b o hb e),hs.1.trans L.sz⟩
 by_cases z:j = c
 ·subst z
  rw [hc] at hj
  cases hj
  rw [if_pos (by omega)]
  exact hit
 ·have:=(L.its j q hj).extBut hs.extBut (by intro e; have e:(_:Nat) = (_:Nat):=e; omega)
  by_cases y:j < c
  ·rw [if_pos y] at this
   rw [if_pos (by omega)]
   exact this
  ·rw [if_neg y] at this
   rw [if_neg (by omega)]
   exact this
end
section
variable {prog:Program} {w:World} {A:Around} {E:Value -> Shared -> Prop} {s:Shared}
end
def SqX (tk:Addr -> Bool) (K:PySem.W.Frag) (H:Hp) (a:Addr) (xs:List V):Prop:=if tk a = true then SqT K H a xs else SqL K H a xs
theorem SqX.inj {X:Cx} {pins:List (Addr × Obj)} {σ:St} {H:Hp} {s:Shared} (I:Inv X pins σ H s) {a:Addr} {xs ys:List V} (h1:SqX tk X.K H a xs) (h2:SqX tk X.K H a ys):xs = ys:=by
 unfold SqX at h1 h2
 cases e:tk a with
 | true=>rw [if_pos e] at h1 h2; exact I.tuple_inj h1 h2
 | false=>rw [if_neg (by rw [e]; intro z; cases z)] at h1 h2; exact I.list_inj h1 h2
theorem SqX.at {X:Cx} {pins:List (Addr × Obj)} {σ:St} {H:Hp} {s:Shared} (I:Inv X pins σ H s) {a:Addr} {xs:List V} (h:SqX tk X.K H a xs):∃ its:List Value,Vals xs its /\ SeqX (tk a) s.heap a its.toArray /\ xs.length <= sizeLine:=by
 unfold SqX at h
 cases e:tk a with
 | true =>
  rw [if_pos e] at h
  obtain ⟨its,rv,p,hz⟩:=I.tuple h
  exact ⟨its,rv,p,hz⟩
 | false =>
  rw [if_neg (by rw [e]; intro z; cases z)] at h
  obtain ⟨its,rv,p,hz⟩:=I.list h
  exact ⟨its,rv,p.isList,hz⟩
abbrev itO (t:Bool) (l:Addr):Obj:={ cls:=.type (match t with | true=>"tuple_iterator" | false=>"list_iterator"),data:=.fields #[.ref l,.int 0 0] }
theorem SeqX.push {t:Bool} {h:Heap} {a:Addr} {xs:Array Value} (x:SeqX t h a xs) (o:Obj):SeqX t (h.push o) a xs:=x.at fun o e=>Heap.get?_push_of_some _ e
section
variable {prog:Program} {w:World} {A:Around} {E:Value -> Shared -> Prop} {s:Shared}
theorem IterX.new {t:Bool} {h:Heap} {i a:Addr} (e:h.get? i = some (itO t a)):IterX t h i a 0:=by
 cases t with
 | true=>exact ⟨_,e,rfl,rfl⟩
 | false=>exact ⟨_,e,rfl,rfl⟩
end
structure ZipTnM (tk:Addr -> Bool) (n:Nat) (as:List Addr) (k:Nat) (h:Heap):Prop where
 zip:∃ f0 f1,OwnF f0 /\ IsZipN h (n + as.length + 2) (n + as.length) (n + as.length + 1) f0 f1
 ti:IsTupR h (n + as.length) (itsL n as.length).toArray
 to:∃ ws:Array Value,ws.size = as.length /\ IsTupR h (n + as.length + 1) ws
 its:∀ (j:Nat) (a:Addr),as[j]? = some a -> IterX (tk a) h (n + j) a k
theorem ZipTnM.st {n k:Nat} {as:List Addr} {h:Heap} {src:List (Addr × Array Value)} (t:ZipTnM tk n as k h) (hs:src.map (·.1) = as) (hl:∀ p ∈ src,SeqX (tk p.1) h p.1 p.2) (hlt:∀ a ∈ as,a < n) (hne:as ≠ []):ZipStM tk h n src k:=by
 have hlen:src.length = as.length:=by rw [← hs,List.length_map]
 obtain ⟨z,ti,to,its⟩:=t
 have at_:∀ (j:Nat) (p:Addr × Array Value),src[j]? = some p -> as[j]? = some p.1:=fun j p hp=>by rw [← hs,List.getElem?_map,hp]; rfl
 refine ⟨by rw [hlen]; exact z,by rw [hlen]; exact ti,by rw [hlen]; exact to,fun j p hp=>?_,fun j p hp=>⟨hlt p.1 (List.mem_of_getElem? (at_ j p hp)),hl p (List.mem_of_getElem? hp)⟩,fun e=>hne (by rw [← hs,e]; rfl)⟩
 rw [if_neg (Nat.not_lt_zero _)]
 exact its j p.1 (at_ j p hp)
theorem ZipStM.tn {n k:Nat} {as:List Addr} {h:Heap} {src:List (Addr × Array Value)} (z:ZipStM tk h n src k) (hs:src.map (·.1) = as):ZipTnM tk n as k h:=by
 have hlen:src.length = as.length:=by rw [← hs,List.length_map]
 refine ⟨by rw [← hlen]; exact z.zip,by rw [← hlen]; exact z.ti,by rw [← hlen]; exact z.to,fun j a ha=>?_⟩
 have hj:j < src.length:=by rw [hlen]; exact at_lt ha
 have hp:src[j]? = some src[j]:=by simp [hj]
 have:=z.its j _ hp
 rw [if_neg (Nat.not_lt_zero _)] at this
 have e:(src[j]).1 = a:=by
  have:as[j]? = some (src[j]).1:=by rw [← hs,List.getElem?_map,hp]; rfl
  rw [ha] at this
  exact (Option.some.inj this).symm
 rw [← e]
 exact this
end
section
variable {X:Cx}
end
end L2
namespace DL
open PySem PySem.Spec PyProof.Rows L2
variable [TB]
variable [Frm]
section
variable {X:Cx}
end
end DL
namespace DL
open PySem PySem.Spec L2
open PyProof.Rows hiding St
variable [TB]
section
variable [Frm] {X:Cx}
end
end DL
namespace L2
open PySem PySem.Spec PyProof.Rows
open AutoSeq1 (wpAny_loadPart')
section
variable {prog:Program} {w:World} {A:Around} {E:Value -> Shared -> Prop} {s:Shared}
end
section
variable {prog:Program} {w:World} {A:Around} {E:Value -> Shared -> Prop} {s:Shared}
end
section
variable {X:Cx}
end
end L2
namespace DL
open PySem PySem.Spec L2
open PyProof.Rows hiding St
variable [TB]
section
variable [Frm] {X:Cx}
end
end DL
namespace DL
open PySem PySem.Spec L2
open PyProof.Rows hiding St
variable [TB]
section
variable [Frm] {X:Cx}
end
end DL
namespace DL
open PySem PySem.Spec L2
open PyProof.Rows hiding St
variable [TB]
abbrev XI:=Addr -> Addr × List (Str × V)
section
variable [Frm] {X:Cx} {xi:XI} {x:Str} {p pos np cpos:Pos} {e:Expr} {es:List Expr} {t:DA} {g:DSpE} {W:DS -> Addr -> Prop}
end
section
variable {xi:XI} {P:Program} {w:World} {K:PySem.W.Frag} {mg:Str -> Option Value} {base:Heap} {k:Nat} {f:Addr} {fd:FuncData} {ps:List Str} {n:Nat}
end
section
variable [fr0:Frm] {xi:XI} {X:Cx} {body suite:List Stmt} {b0:Stmt} {n x:Str} {np hpos pos:Pos} {C0:Addr} {i:Nat} {tb:(DS -> Addr -> Prop) -> DTS} {th:DTS} {K:PySem.W.Frag}
end
section
variable [Frm] {X:Cx}
end
end DL
namespace L2
open PySem PySem.Spec PyProof.Rows
section
variable {prog:Program} {w:World} {A:Around} {E:Value -> Shared -> Prop} {s:Shared}
end
section
variable {X:Cx}
end
end L2
namespace DL
open PySem PySem.Spec L2
open PyProof.Rows hiding St
variable [TB]
section
variable {X:Cx}
end
end DL
namespace DL
open PySem PySem.Spec L2
open PyProof.Rows hiding St
variable [TB]
section
variable [Frm] {X:Cx}
end
end DL
namespace L2
open PySem PySem.Spec PyProof.Rows
open AutoSeq1 (wpAny_loadPart')
section
variable {prog:Program} {w:World} {A:Around} {E:Value -> Shared -> Prop} {s:Shared}
end
section
variable {X:Cx}
end
end L2
namespace DL
open PySem PySem.Spec L2
open PyProof.Rows hiding St
variable [TB]
section
variable [Frm] {X:Cx}
end
end DL
namespace L2
open PySem PySem.Spec PyProof.Rows
section
variable {X:Cx}
end
end L2
namespace DL
open PySem PySem.Spec L2
open PyProof.Rows hiding St
variable [TB]
section
variable [Frm] {X:Cx}
end
end DL
namespace DL
open PySem PySem.Spec L2
open PyProof.Rows hiding St
variable [TB]
section
variable {X:Cx}
end
end DL
namespace L2
open PySem PySem.Spec PyProof.Rows
structure Cells (scope:Scope) (cl:List (Str × Addr)) (N:List Str) (vs:List V) (H:Hp) (h:Heap):Prop where
 inj:∀ x y c,cl.lookup x = some c -> cl.lookup y = some c -> x = y
 has:∀ x,(scope.names.lookup x = some .cell ∨ scope.names.lookup x = some .free) -> ∃ c,cl.lookup x = some c
 cell:∀ x c,cl.lookup x = some c -> ∃ v,h.IsCell c v
 free:∀ x c,cl.lookup x = some c -> H c = none
 len:N.length = vs.length
 val:∀ (i:Nat) x v,N[i]? = some x -> vs[i]? = some v -> ∃ u c,RelV v u /\ scope.names.lookup x = some .free /\ cl.lookup x = some c /\ h.IsCell c (some u)
section
variable {P:Program} {w:World} {K:PySem.W.Frag} {mg:Str -> Option Value} {base:Heap} {N:List Str} {qual:Str} {scope:Scope} {f:Addr} {cd:Value} {cl:List (Str × Addr)} {A:Around} {outer:List Env} {s:Shared} {H:Hp} {E:XK} {vs:List V}
structure LamSc (params:Arguments) (scope:Scope):Prop where
 kind:scope.kind = .function
 co:scope.isCoroutine = false
 gen:scope.isGenerator = false
 noc:∀ x ∈ scope.names,x.2 ≠ .cell
 par:∀ name qual body cl pm cdv ct,bindArgs (PySem.W.kla_fn name qual params body scope cl pm cdv ct) ⟨[],[]⟩ = pure []
end
structure LamMade (P:Addr) (qual:Str) (H H':Hp):Prop where
 keep:∀ b o,H b = some o -> b ≠ P -> H' b = some o
 tab:∃ ps more,H P = some (.tbl ps) /\ H' P = some (.tbl (ps ++ more)) /\ TriplesOk (ps ++ more).toList /\
  ∀ pos cv,codeAmong pos (ps ++ more).toList = some cv -> codeAmong pos ps.toList = some cv ∨ ∃ c oc u vs t,cv = .ref c /\ H' c = some (.frz oc u) /\ oc.data = .fields vs /\ vs[1]? = some (.str qual t)
abbrev frzO (o:Obj) (a:Addr):HO:=.frz o (.ext fun h=>h.get? a = some o)
def CodeH (H:Hp) (c:Addr) (qual:Str):Prop:=∃ oc u vs t,H c = some (.frz oc u) /\ oc.data = .fields vs /\ vs[1]? = some (.str qual t)
section
variable {X:Cx}
end
end L2
namespace DL
open PySem PySem.Spec L2
open PyProof.Rows hiding St
variable [TB]
section
variable {P:Program} {w:World} {K:PySem.W.Frag} {mg:Str -> Option Value} {base:Heap} {N:List Str} {qual:Str} {scope:Scope} {f c':Addr} {cl:List (Str × Addr)} {A:Around} {outer:List Env} {s:Shared} {H:Hp} {E:XK} {vs:List V}
end
structure LamAt (X:Cx) (k:Nat) (fa c':Addr) (qual:Str) (params:Arguments) (body:Expr) (scope:Scope) (cl:List (Str × Addr)) (N2:List Str) (vs:List V):Prop where
 S:LamSc params scope
 room:Room (k + 1) X.A
 ob:∃ pm ctv,X.H₀ fa = some (frzO (PySem.W.kla_obj "<lambda>" qual params body scope cl pm c' ctv) fa)
 ex:X.ex = []
 code:CodeH X.H₀ c' qual
 cells:Cells scope cl N2 vs X.H₀ X.s₀.heap
end DL
namespace DL
open PySem PySem.Spec L2
open PyProof.Rows hiding St
variable [TB]
structure Catcher (K:PySem.W.Frag) (mg:Str -> Option Value) (cn a hn n xn:Str) (st:Stmt) (f C0:Addr) (fd:FuncData):Prop where
 F:Fun K cn cn st f fd
 m:mg cn = some (.ref f)
 b:Binds K fd [a] []
 body:∃ p1 j p2 p3 p4 p5 p6 np p7 p8 p9 hpos tpos p10 p11,defBody st = [.Assign [.Name hn p1] (.Constant .none j p2) p3,.Try [.Expr (.Call (.Name a p4) [] [] p5) p6] [.ExceptHandler (some (.Name xn np)) (some n) [.Assign [.Name hn p7] (.Name n p8) p9] hpos] [] [] tpos,.Return (some (.Name hn p10)) p11]
 kind:(defScope st).kind = .function
 co:(defScope st).isCoroutine = false
 gen:(defScope st).isGenerator = false
 nofree:∀ y ∈ (defScope st).names,y.2 ≠ .free
 la:(defScope st).names.lookup a = some .local
 lh:(defScope st).names.lookup hn = some .local
 ln:(defScope st).names.lookup n = some .local
 lx:(defScope st).names.lookup xn = some .globalImplicit
 nd:[a,hn,n].Nodup
 mx:mg xn = some (.ref C0)
 db:(xn == ("__debug__" : Str)) = false /\ (a == ("__debug__" : Str)) = false /\ (a == ("__classdict__" : Str)) = false /\ (hn == ("__debug__" : Str)) = false /\ (hn == ("__classdict__" : Str)) = false /\ (n == ("__debug__" : Str)) = false /\ (n == ("__classdict__" : Str)) = false
structure Ghosts (gn:List Str) (l:Nat) (scope:Scope) (l3:List Str):Prop where
 nd:(l3 ++ gn).Nodup
 len:gn.length = l
 no:∀ x ∈ gn,scope.names.lookup x = none
section
variable {X:Cx} {k:Nat} {cn a hn n xn qual:Str} {st:Stmt} {f C0 fa c':Addr} {fd:FuncData} {gn N2:List Str} {params:Arguments} {body:Expr} {scope:Scope} {cl:List (Str × Addr)} {vs:List V} {ds:List D} {te:(DS -> Addr -> Prop) -> DE}
structure LamIn (X:Cx) (scope:Scope) (cl:List (Str × Addr)) (N2:List Str) (js:List Nat):Prop where
 clo:closureFor scope X.env = pure cl
 sub:∀ x c,cl.lookup x = some c -> X.env.cells.lookup x = some c
 all:∀ x,scope.names.lookup x = some .free -> x ∈ N2
 len:N2.length = js.length
 nam:∀ (j:Nat) x,N2[j]? = some x -> ∃ i,js[j]? = some i /\ X.N[i]? = some x /\ X.env.kindOf x = some .cell /\ scope.names.lookup x = some .free /\ ∃ c,cl.lookup x = some c
theorem LamIn.cells {js:List Nat} (li:LamIn X scope cl N2 js) (SL:LamSc params scope) {pins:List (Addr × Obj)} {σ:St} {H:Hp} {s:Shared} (I:Inv X pins σ H s) (e:js.map (fun i=>σ[i]?) = vs.map fun v=>some (some v)):Cells scope cl N2 vs H s.heap:=by
 have hl:js.length = vs.length:=by have:=congrArg List.length e; simpa using this
 refine ⟨fun x y c h1 h2=>I.ok.inj x y c (li.sub x c h1) (li.sub y c h2),fun x h=>?_,fun x c h=>I.cell x c (li.sub x c h),fun x c h=>I.freeC x c (li.sub x c h),li.len.trans hl,fun j x v h1 h2=>?_⟩
 ·rcases h with h | h
  ·exact absurd rfl (SL.noc _ (PySem.mem_of_lookup h))
  ·obtain ⟨j,hj⟩:=List.getElem?_of_mem (li.all x h)
   obtain ⟨_,_,_,_,_,q⟩:=li.nam j x hj
   exact q
 ·obtain ⟨i,e1,e2,e3,e4,c,e5⟩:=li.nam j x h1
  have ei:σ[i]? = some (some v):=by
   have:=congrArg (fun l=>l[j]?) e
   simp only [List.getElem?_map,e1,h2,Option.map_some] at this
   exact Option.some.inj this
  obtain ⟨m,hn,hl⟩:=I.loc
  obtain ⟨u,rv,lo⟩:=hl i x v e2 ei (.inr (.inl e3))
  refine ⟨u,c,rv,e4,e5,?_⟩
  rcases lo with ⟨z,_⟩ | ⟨_,c2,e6,e7⟩
  ·rw [e3] at z; cases z
  ·have:=li.sub x c e5
   rw [e6] at this; cases this
   exact e7
end
end DL
namespace L2
open PySem PySem.Spec PyProof.Rows
end L2
namespace DL
open PySem PySem.Spec L2
open PyProof.Rows hiding St
section
variable [TB]
end
end DL
namespace DL
open PySem PySem.Spec L2
open PyProof.Rows hiding St
variable [TB]
end DL
namespace DL
open PySem PySem.Spec L2
open PyProof.Rows hiding St
inductive Nams (X:Cx) (scope:Scope) (cl:List (Str × Addr)):List Str -> List Nat -> Prop
 | nil:Nams X scope cl [] []
 | cons {x:Str} {i:Nat} {c:Addr} {xs:List Str} {is:List Nat} (hN:X.N[i]? = some x) (hk:X.env.kindOf x = some .cell) (hs:scope.names.lookup x = some .free) (hc:cl.lookup x = some c) (r:Nams X scope cl xs is):Nams X scope cl (x :: xs) (i :: is)
theorem Nams.len {X:Cx} {scope:Scope} {cl:List (Str × Addr)} {N2:List Str} {js:List Nat} (h:Nams X scope cl N2 js):N2.length = js.length:=by
 induction h with
 | nil=>rfl
 | cons _ _ _ _ _ ih=>simp [ih]
theorem Nams.at {X:Cx} {scope:Scope} {cl:List (Str × Addr)} {N2:List Str} {js:List Nat} (h:Nams X scope cl N2 js):∀ (j:Nat) x,N2[j]? = some x -> ∃ i,js[j]? = some i /\ X.N[i]? = some x /\ X.env.kindOf x = some .cell /\ scope.names.lookup x = some .free /\ ∃ c,cl.lookup x = some c:=by
 induction h with
 | nil=>intro j x h; simp at h
 | cons hN hk hs hc _ ih =>
  intro j y h
  cases j with
  | zero=>simp at h; subst h; exact ⟨_,rfl,hN,hk,hs,_,hc⟩
  | succ j =>
   obtain ⟨i,e,r⟩:=ih j y (by simpa using h)
   exact ⟨i,by simpa using e,r⟩
section
variable [TB]
end
end DL
namespace DL
open PySem PySem.Spec L2
open PyProof.Rows hiding St
variable [TB]
section
variable {P:Program} {w:World} {K:PySem.W.Frag} {mg:Str -> Option Value} {base:Heap} {N:List Str} {qual:Str} {scope:Scope} {f c':Addr} {cl:List (Str × Addr)} {A:Around} {outer:List Env} {s:Shared} {H:Hp} {E:XK} {vs:List V}
end
section
variable {X:Cx} {k:Nat} {cn a hn n xn qual:Str} {st:Stmt} {f C0 fa c':Addr} {fd:FuncData} {gn N2:List Str} {params:Arguments} {body:Expr} {scope:Scope} {cl:List (Str × Addr)} {vs:List V} {ds:List D} {te:(DS -> Addr -> Prop) -> DE}
end
end DL
namespace DL
open PySem PySem.Spec L2
open PyProof.Rows hiding St
variable [TB]
section
variable [Frm] {X:Cx}
end
end DL
namespace L2
open PySem PySem.Spec PyProof.Rows
section
variable {X:Cx}
end
end L2
namespace DL
open PySem PySem.Spec L2
open PyProof.Rows hiding St
variable [TB]
section
variable [Frm] {X:Cx}
end
end DL
namespace DL
open PySem PySem.Spec L2
open PyProof.Rows hiding St
variable [TB]
section
variable [Frm] {X:Cx}
end
end DL
namespace DL
open PySem PySem.Spec L2
open PyProof.Rows hiding St
variable [TB]
section
variable {K:PySem.W.Frag} {pp:Option Addr} {M M':List Addr} {H H':Hp}
end
section
variable {X:Cx}
end
section
variable [Frm] {X:Cx}
end
end DL
namespace DL
open PySem PySem.Spec L2
open PyProof.Rows hiding St
variable [TB]
def Gs (H:Hp):List (List Int) -> List Addr -> Prop
 | [],ls=>ls = []
 | g :: gs,ls=>∃ l r,ls = l :: r /\ H l = some (.lst (g.map V.int)) /\ Gs H gs r
section
variable {K:PySem.W.Frag} {pp:Option Addr} {M M':List Addr} {H H':Hp}
theorem Gs.keep:∀ {gs:List (List Int)} {ls:List Addr},Gs H gs ls -> (∀ l ∈ ls,∀ x,H l = some x -> H' l = some x) -> Gs H' gs ls
 | [],ls,h,_=>h
 | g :: gs,ls,h,k=>by
  obtain ⟨l,r,rfl,hl,h⟩:=h
  exact ⟨l,r,rfl,k l List.mem_cons_self _ hl,h.keep fun b hb=>k b (List.mem_cons_of_mem _ hb)⟩
theorem Gs.snoc:∀ {gs:List (List Int)} {ls:List Addr} {g:List Int} {l:Addr},Gs H gs ls -> H l = some (.lst (g.map V.int)) -> Gs H (gs ++ [g]) (ls ++ [l])
 | [],ls,g,l,h,hl=>by
  have h:ls = []:=h
  subst h
  exact ⟨l,[],rfl,hl,rfl⟩
 | g' :: gs,ls,g,l,h,hl=>by
  obtain ⟨l',r,rfl,hl',h⟩:=h
  exact ⟨l',r ++ [l],rfl,hl',h.snoc hl⟩
theorem Gs.last:∀ {gs:List (List Int)} {ls:List Addr} {g:List Int},Gs H (gs ++ [g]) ls -> ∃ r l,ls = r ++ [l] /\ Gs H gs r /\ H l = some (.lst (g.map V.int))
 | [],ls,g,h=>by
  obtain ⟨l,r,rfl,hl,h⟩:=h
  have h:r = []:=h
  subst h
  exact ⟨[],l,rfl,rfl,hl⟩
 | g' :: gs,ls,g,h=>by
  obtain ⟨l',r,rfl,hl',h⟩:=h
  obtain ⟨r',l,rfl,h1,h2⟩:=Gs.last h
  exact ⟨l' :: r',l,rfl,⟨l',r',rfl,hl',h1⟩,h2⟩
theorem Gs.length:∀ {gs:List (List Int)} {ls:List Addr},Gs H gs ls -> ls.length = gs.length
 | [],ls,h=>by have h:ls = []:=h; subst h; rfl
 | g :: gs,ls,h=>by
  obtain ⟨l,r,rfl,_,h⟩:=h
  simp [h.length]
end
section
variable [Frm] {X:Cx}
end
section
variable {X:Cx} {k:Nat}
end
end DL
namespace DL
open PySem PySem.Spec L2
open PyProof.Rows hiding St
variable [TB]
section
variable {K:PySem.W.Frag} {pp:Option Addr} {M M':List Addr} {H H' H1 H5:Hp}
theorem Mv.more {A:List Addr} (m:Mv K pp M H M H') (hA:∀ a ∈ A,H a = none):Mv K pp M H (A ++ M) H' :=
 ⟨m.tup,fun a o e n q=>⟨(m.oth a o e n q).1,fun z=>(List.mem_append.mp z).elim (fun z=>by rw [hA a z] at e; cases e) (fun z=>n z)⟩,m.pen,m.tb⟩
theorem Gs.mem:∀ {gs:List (List Int)} {ls:List Addr},Gs H gs ls -> ∀ l ∈ ls,∃ g:List Int,H l = some (.lst (g.map V.int))
 | [],ls,h,l,hl=>by have h:ls = []:=h; subst h; simp at hl
 | g :: gs,ls,h,l,hl=>by
  obtain ⟨l',r,rfl,h1,h2⟩:=h
  rcases List.mem_cons.mp hl with rfl | hl
  ·exact ⟨g,h1⟩
  ·exact h2.mem l hl
end
section
variable [Frm] {X:Cx}
end
end DL
namespace DL
open PySem PySem.Spec L2
open PyProof.Rows hiding St
variable [TB]
variable [Frm]
section
variable {K:PySem.W.Frag} {F:Fx} {pp:Option Addr} {M:List Addr} {H H1:Hp} {σ:St} {ρ:DS} {i:Nat}
omit [Frm] in
theorem ROs.len:∀ {os:List O} {xs:List V} {B:List Addr},ROs K pp M H os xs B -> xs.length = os.length
 | [],xs,B,h=>by simp only [ROs] at h; rw [h.1]; rfl
 | o :: os,xs,B,h=>by
  simp only [ROs] at h
  obtain ⟨x,r,_,_,rfl,_,_,h⟩:=h
  rw [List.length_cons,List.length_cons,ROs.len h]
end
section
variable {X:Cx}
end
section
variable {K:PySem.W.Frag} {F:Fx} {M:List Addr} {H:Hp} {σ:St} {ρ:DS} {i n:Nat}
end
section
variable {X:Cx}
end
section
variable {K:PySem.W.Frag} {pp:Option Addr} {M M':List Addr} {H H' H'':Hp}
def Rws (K:PySem.W.Frag) (pp:Option Addr) (M:List Addr) (H H':Hp):List (D × D × List D) -> List Addr -> List Addr -> Prop
 | [],ts,ls=>ts = [] /\ ls = []
 | r :: rs,ts,ls=>∃ t tr l lr v1 v2 zs,ts = t :: tr /\ ls = l :: lr /\ H' t = some (.tup [v1,v2,.ref l]) /\ H' l = some (.lst zs) /\ Rep K pp M H r.1 v1 /\ Rep K pp M H r.2.1 v2 /\ Reps K pp M H r.2.2 zs /\ Rws K pp M H H' rs tr lr
omit [Frm] in
theorem Rws.keep:∀ {rs:List (D × D × List D)} {ts ls:List Addr},Rws K pp M H H' rs ts ls -> (∀ b x,H' b = some x -> b ∈ ts ∨ b ∈ ls -> H'' b = some x) -> Rws K pp M H H'' rs ts ls
 | [],ts,ls,h,_=>h
 | r :: rs,ts,ls,h,k=>by
  obtain ⟨t,tr,l,lr,v1,v2,zs,rfl,rfl,h1,h2,h3,h4,h5,h6⟩:=h
  exact ⟨t,tr,l,lr,v1,v2,zs,rfl,rfl,k t _ h1 (.inl List.mem_cons_self),k l _ h2 (.inr List.mem_cons_self),h3,h4,h5,h6.keep fun b x e z=>k b x e (z.imp (List.mem_cons_of_mem _) (List.mem_cons_of_mem _))⟩
omit [Frm] in
theorem Rws.snoc {r:D × D × List D} {t l:Addr} {v1 v2:V} {zs:List V} (h1:H' t = some (.tup [v1,v2,.ref l])) (h2:H' l = some (.lst zs)) (h3:Rep K pp M H r.1 v1) (h4:Rep K pp M H r.2.1 v2) (h5:Reps K pp M H r.2.2 zs):∀ {rs:List (D × D × List D)} {ts ls:List Addr},Rws K pp M H H' rs ts ls -> Rws K pp M H H' (rs ++ [r]) (ts ++ [t]) (ls ++ [l])
 | [],ts,ls,h=>by
  obtain ⟨rfl,rfl⟩:=h
  exact ⟨t,[],l,[],v1,v2,zs,rfl,rfl,h1,h2,h3,h4,h5,rfl,rfl⟩
 | q :: rs,ts,ls,h=>by
  obtain ⟨t',tr,l',lr,w1,w2,ws,rfl,rfl,k1,k2,k3,k4,k5,k6⟩:=h
  exact ⟨t',tr ++ [t],l',lr ++ [l],w1,w2,ws,rfl,rfl,k1,k2,k3,k4,k5,Rws.snoc h1 h2 h3 h4 h5 k6⟩
omit [Frm] in
theorem Rws.live:∀ {rs:List (D × D × List D)} {ts ls:List Addr},Rws K pp M H H' rs ts ls -> (∀ b,b ∈ ts ∨ b ∈ ls -> H' b ≠ none) /\ ts.length = rs.length
 | [],ts,ls,h=>by
  obtain ⟨rfl,rfl⟩:=h
  exact ⟨fun b hb=>by simp at hb,rfl⟩
 | r :: rs,ts,ls,h=>by
  obtain ⟨t,tr,l,lr,v1,v2,zs,rfl,rfl,h1,h2,h3,h4,h5,h6⟩:=h
  obtain ⟨k1,k2⟩:=h6.live
  refine ⟨fun b hb=>?_,by simp [k2]⟩
  rcases hb with hb | hb
  ·rcases List.mem_cons.mp hb with rfl | hb
   ·rw [h1]; intro z; cases z
   ·exact k1 b (.inl hb)
  ·rcases List.mem_cons.mp hb with rfl | hb
   ·rw [h2]; intro z; cases z
   ·exact k1 b (.inr hb)
end
section
variable {X:Cx}
end
end DL
namespace L2
open PySem PySem.Spec PyProof.Rows
section
variable {P:Program} {w:World} {K:PySem.W.Frag} {mg:Str -> Option Value} {base:Heap} {N:List Str} {qual:Str} {scope:Scope} {f:Addr} {cd:Value} {cl:List (Str × Addr)} {A:Around} {outer:List Env} {s:Shared} {H:Hp} {E:XK} {vs:List V}
structure LamSc1 (x:Str) (params:Arguments) (scope:Scope):Prop where
 kind:scope.kind = .function
 co:scope.isCoroutine = false
 gen:scope.isGenerator = false
 noc:∀ x ∈ scope.names,x.2 ≠ .cell
 loc:scope.names.lookup x = some .local
 par:∀ name qual body cl pm cdv ct u,bindArgs (PySem.W.kla_fn name qual params body scope cl pm cdv ct) ⟨[u],[]⟩ = pure [(x,u)]
end
end L2
namespace L2
open PySem PySem.Spec PyProof.Rows PySem.W
section
variable {prog:Program} {w:World} {A:Around} {E:Value -> Shared -> Prop} {s:Shared} {a kS:Addr} {keys:Array Value} {vs:List Value} {kz:List Int} {e e1:Nat} {P:PySem.Fin -> Shared -> Prop}
end
end L2
namespace L2
open PySem PySem.Spec PyProof.Rows PySem.W
section
variable {X:Cx} {pins:List (Addr × Obj)} {σ:St} {H:Hp} {s:Shared} {l fa:Addr} {xs:List V} {kz:List Int} {R:Hp -> Prop} {Q:VK}
end
end L2
namespace DL
open PySem PySem.Spec L2
open PyProof.Rows hiding St
variable [TB]
section
variable {P:Program} {w:World} {K:PySem.W.Frag} {mg:Str -> Option Value} {base:Heap} {N:List Str} {qual:Str} {scope:Scope} {f c':Addr} {cl:List (Str × Addr)} {A:Around} {outer:List Env} {s:Shared} {H:Hp} {E:XK} {vs:List V}
end
section
variable {X:Cx} {k:Nat} {qual:Str} {fa c':Addr} {N2:List Str} {params:Arguments} {body:Expr} {scope:Scope} {cl:List (Str × Addr)} {vs:List V} {te:DE}
end
end DL
namespace L2
open PySem PySem.Spec PyProof.Rows PySem.W
section
variable {X:Cx}
end
end L2
namespace DL
open PySem PySem.Spec L2
open PyProof.Rows hiding St
variable [TB]
variable [Frm]
section
variable {X:Cx}
end
end DL
namespace L2
open PySem PySem.Spec PyProof.Rows
def tTryN (X:Cx) (body suite:List Stmt) (C0:Addr) (Wo:St -> XK):TS:=fun D σ H =>
 ∃ W:St -> XK,(∀ pn,∃ tb,PSs ((X.pinned pn).wish (XF (X.pinned pn) W)) body tb /\ tb D σ H) /\
  ∀ σ' C dd H',W σ' C dd H' -> (PySem.W.exmOne X.K C (.ref C0) = some true /\ ∀ ea Ca,C = .ref Ca -> H' ea = none -> ∃ th,PSs (X.caught ea) suite th /\ th D σ' (upd H' ea (excA Ca dd ea))) ∨
  (PySem.W.exmOne X.K C (.ref C0) = some false /\ Wo σ' C dd H')
section
variable {X:Cx} {body suite:List Stmt} {b0:Stmt} {x:Str} {np hpos pos:Pos} {C0:Addr} {Wo:St -> XK}
theorem ps_tryN (hs:X.stack = X.env :: X.outer) (hf:X.env.frame = some X.env.locals) (hex:X.ex = []) (hg:Gl X x) (hm:X.mg x = some (.ref C0))
  (hx:∀ e s',XF X Wo e s' -> X.xe e s') (hdb:(x == ("__debug__" : Str)) = false:=by decide) :
  PS X (.Try body [.ExceptHandler (some (.Name x np)) none (b0 :: suite) hpos] [] [] pos) (tTryN X body (b0 :: suite) C0 Wo):=by
 intro pins s σ H D I h
 obtain ⟨W,hb,hW⟩:=h
 obtain ⟨tb,pb,qb⟩:=hb (X.pn ++ pins)
 refine wpAny_Try_except (wpAny_mono (pb [] s σ H D (I.toPn.wish _) qb) (fun f s1 hq=>?_) fun e s1 hq=>?_)
 ·have hq:=hq.unwish
  cases f with
  | next=>obtain ⟨σ',H',I',q⟩:=hq; exact pss_nil pins s1 σ' H' D I'.ofPn q
  | brk=>obtain ⟨σ',H',I',q⟩:=hq; exact ⟨σ',H',I'.ofPn,q⟩
  | cont=>obtain ⟨σ',H',I',q⟩:=hq; exact ⟨σ',H',I'.ofPn,q⟩
  | ret u=>obtain ⟨v,σ',H',I',r,q⟩:=hq; exact ⟨v,σ',H',I'.ofPn,r,q⟩
 ·obtain ⟨ea,C,dd,B,σ',H',rfl,⟨ph,pd⟩,cry,I',q⟩:=hq
  have hfr:X.A.frames = some (X.env :: X.outer):=by rw [← hs]; exact I'.ok.frames
  have ph':Ph B (X.env :: X.outer) X.env.locals ea C s1.heap:=by rw [← hs]; exact ph
  refine wpAny_thenD tame_noteFrame pd (ph_noted hfr hf ph' fun h1 a0 hh1 u1 d1=>?_)
  refine wpAny_thenD tame_setFlight d1 (wpAny_landsW hh1 fun h2 fl2 u2 d2=>?_)
  have I1:=I'.fly cry ph.stays hh1.1 u1
  have I2:=I1.fly cry hh1.1 fl2.1 u2
  obtain ⟨ob,hob,hobc⟩:=fl2.there
  have LT:PySem.W.Looks (model X.prog X.w) h2 (typeOf (.ref ea)) (.ref C):=by
   rw [← hobc]
   exact (PySem.W.Looks.ld hob).andThen .now
  refine wpAny_handleBy_cons (codeAny_handlers_test (ld_glob (I2.caught (ea:=ea)) hg hm ?_ hdb)) (by intro q; cases q)
  rcases hW _ _ _ _ q with ⟨ex,q⟩ | ⟨ex,q⟩
  ·refine (PySem.W.exm_one I2.kIn LT ex).here ?_
   refine codeAny_handlers_suite ?_
   refine wpAny_thenD tame_setFlight d2 (lands_againW fl2 fun h3 fl3 u3 d3=>?_)
   have I3:=I2.fly cry fl2.1 fl3.1 u3
   obtain ⟨oe,vs,e1,e2,e3,_⟩:=fl3.first
   obtain ⟨od,e4,e5⟩:=d3
   rw [show h3.get? ea = some oe from e1] at e4
   cases e4
   obtain ⟨hn,I4⟩:=I3.track cry fl3.2.1 e1 e2 e3 e5 hex
   obtain ⟨th,ph2,qh⟩:=q ea C rfl hn
   refine wpAny_mono (ph2 pins _ _ _ _ I4.ofPn.caught qh) (fun f s6 hq=>?_) fun _ _ z=>z.elim
   cases f with
   | next=>obtain ⟨σ6,H6,I6,q6⟩:=hq; exact ⟨_,_,I6.uncaught I.ok,q6⟩
   | brk=>obtain ⟨σ6,H6,I6,q6⟩:=hq; exact ⟨_,_,I6.uncaught I.ok,q6⟩
   | cont=>obtain ⟨σ6,H6,I6,q6⟩:=hq; exact ⟨_,_,I6.uncaught I.ok,q6⟩
   | ret u=>obtain ⟨v,σ6,H6,I6,r,q6⟩:=hq; exact ⟨v,_,_,I6.uncaught I.ok,r,q6⟩
  ·refine (PySem.W.exm_one I2.kIn LT ex).here ?_
   refine wpAny_handleBy_nil ?_
   obtain ⟨f1,f2,f3,oe,vs,T,oT,ts,he,hcls,hd,h1,hnT,hTe,hT,hdT,h3⟩:=id fl2
   unfold PySem.passOn
   refine wpAny_bind (wpAny_field he hd h1 ?_)
   rw [if_neg (show ¬ ((Value.ref T == Value.none) = true) from by simp),hf]
   have fin:∀ h4,Heap.HeldW B (X.env :: X.outer) ea (.ref C) a0 X.env.locals h4 -> h2.UpToSlots h4 -> DictAt ea dd h4 -> X.xe (.ref ea) { s1 with heap:=h4 }:=fun h4 hh4 u4 d4=>by
    have I4:=I2.fly cry fl2.1 hh4.1 u4
    exact hx _ _ ⟨ea,C,dd,B,σ',H',rfl,⟨.inr (.inl ⟨a0,by rw [hs]; exact hh4⟩),d4⟩,⟨cry.old,cry.trk,fun p hp=>cry.pin p (List.mem_append_left _ hp)⟩,I4.ofPn.nopin,q⟩
   first
    | exact wpAny_bind (wpAny_pure (wpAny_bind (wpAny_thenD tame_setFlight d2 (setFlight_held f1 f2 f3 fl2.2.2.2.at fun h4 hh4 u4 d4=>wpAny_throw (fin h4 hh4 u4 d4)))))
    | exact wpAny_bind (wpAny_thenD tame_setFlight d2 (setFlight_held f1 f2 f3 fl2.2.2.2.at fun h4 hh4 u4 d4=>wpAny_throw (fin h4 hh4 u4 d4)))
end
end L2
namespace DL
open PySem PySem.Spec L2
open PyProof.Rows hiding St
variable [TB]
section
variable [fr0:Frm] {X:Cx} {body suite:List Stmt} {b0:Stmt} {x:Str} {np hpos pos:Pos} {C0:Addr} {tb:(DS -> Addr -> Prop) -> DTS} {th:DTS} {K:PySem.W.Frag}
abbrev dTryN (K:PySem.W.Frag) (C0:Addr) (tb:(DS -> Addr -> Prop) -> DTS) (th:DTS) (Wo:DS -> Addr -> Prop):DTS:=fun E ρ =>
 tb (fun ρ1 C=>(PySem.W.exmOne K (.ref C) (.ref C0) = some true /\ th E ρ1) ∨ (PySem.W.exmOne K (.ref C) (.ref C0) = some false /\ Wo ρ1 C)) E ρ
theorem ds_tryN (hK:K = X.K) (hs:X.stack = X.env :: X.outer) (hf:X.env.frame = some X.env.locals) (hex:X.ex = []) (hg:Gl X x) (hm:X.mg x = some (.ref C0)) (hx:Xk X)
  (hb:∀ (fr:Frm) (W:DS -> Addr -> Prop) (hW:W = fr.W) pn,@PSsD _ fr ((X.pinned pn).wish (XF (X.pinned pn) (@WL _ fr X.K))) body (tb W)) (hh:∀ ea,PSsD (X.caught ea) (b0 :: suite) th) (hdb:(x == ("__debug__" : Str)) = false:=by decide) :
  PSD X (.Try body [.ExceptHandler (some (.Name x np)) none (b0 :: suite) hpos] [] [] pos) (dTryN K C0 tb th Frm.W):=by
 subst hK
 refine ⟨_,ps_tryN hs hf hex hg hm hx hdb,fun {F} M H σ ρ E D rs o q=>?_⟩
 have back:∀ {Wd M' H' σ' ρ'},@RSt _ (frTry F M H Wd) X.K F M' H' σ' ρ' -> Mv X.K F.pp M H M' H' /\ @RSt _ fr0 X.K F M' H' σ' ρ':=fun {Wd M' H' σ' ρ'} r=>⟨(link_of r).2,relink r (rs.lk.cl (link_of r).2).l⟩
 refine ⟨@WL _ (frTry F M H fun ρ1 C=>(PySem.W.exmOne X.K (.ref C) (.ref C0) = some true /\ th E ρ1) ∨ (PySem.W.exmOne X.K (.ref C) (.ref C0) = some false /\ fr0.W ρ1 C)) X.K,fun pn=>?_,fun σ' C dd H' hw=>?_⟩
 ·obtain ⟨T,p,run⟩:=hb (frTry F M H _) _ rfl pn
  exact ⟨T,p,run M H σ ρ E D (relink rs ⟨rfl,.refl⟩) (eo_of o fun M' H' σ' ρ' r=>(back r).2) q⟩
 ·obtain ⟨F',M',ρ',Ca,⟨rfl,rfl⟩,r,w⟩:=hw
  have e:F' = F:=(link_of r).1
  subst e
  obtain ⟨m,r⟩:=back r
  rcases w with ⟨ex,w⟩ | ⟨ex,w⟩
  ·refine .inl ⟨ex,fun ea Ca' e hn=>?_⟩
   cases e
   obtain ⟨T,p,run⟩:=hh ea
   have m2:Mv X.K F'.pp M H M' (upd H' ea (excO Ca ea)):=m.trans (.new hn)
   have r2:RSt X.K F' M' (upd H' ea (excO Ca ea)) σ' ρ':=r.sameP (.new hn)
   exact ⟨T,p,run M' _ _ _ E _ r2 ⟨fun M1 H1 σ1 ρ1 m1 r1 q=>o.nx M1 H1 σ1 ρ1 (m2.trans m1) r1 q,fun M1 H1 σ1 ρ1 m1 r1 q=>o.bk M1 H1 σ1 ρ1 (m2.trans m1) r1 q,
    fun M1 H1 σ1 ρ1 m1 r1 q=>o.ct M1 H1 σ1 ρ1 (m2.trans m1) r1 q,fun M1 H1 σ1 ρ1 d v m1 r1 rd q=>o.rt _ _ _ _ _ _ (m2.trans m1) r1 rd q⟩ w⟩
  ·exact .inr ⟨ex,F',M',ρ',Ca,⟨rfl,rfl⟩,r,w⟩
end
end DL
namespace My
open PySem L2
def top (i:Nat):Stmt:=PySem.Challenge.pw_othersum_k31_whole_bounds_are_met.main.body.getD i (.Pass ⟨0,0,0,0⟩)
abbrev s_greatest_divisor:Stmt:=top 7
theorem sc_greatest_divisor:FnScope ["one","other","rest"] ["one","other"] (defScope s_greatest_divisor):=⟨rfl,rfl,rfl,by decide +kernel,rfl,by decide +kernel,by decide +kernel⟩
abbrev s_ratio_of:Stmt:=top 8
theorem sc_ratio_of:FnScope ["top","bottom","divisor"] ["top","bottom"] (defScope s_ratio_of):=⟨rfl,rfl,rfl,by decide +kernel,rfl,by decide +kernel,by decide +kernel⟩
abbrev s_plus:Stmt:=top 9
theorem sc_plus:FnScope ["one","other"] ["one","other"] (defScope s_plus):=⟨rfl,rfl,rfl,by decide +kernel,rfl,by decide +kernel,by decide +kernel⟩
abbrev s_minus:Stmt:=top 10
theorem sc_minus:FnScope ["one","other"] ["one","other"] (defScope s_minus):=⟨rfl,rfl,rfl,by decide +kernel,rfl,by decide +kernel,by decide +kernel⟩
abbrev s_times:Stmt:=top 11
theorem sc_times:FnScope ["one","other"] ["one","other"] (defScope s_times):=⟨rfl,rfl,rfl,by decide +kernel,rfl,by decide +kernel,by decide +kernel⟩
abbrev s_over:Stmt:=top 12
theorem sc_over:FnScope ["one","other"] ["one","other"] (defScope s_over):=⟨rfl,rfl,rfl,by decide +kernel,rfl,by decide +kernel,by decide +kernel⟩
abbrev s_less:Stmt:=top 13
theorem sc_less:FnScope ["one","other"] ["one","other"] (defScope s_less):=⟨rfl,rfl,rfl,by decide +kernel,rfl,by decide +kernel,by decide +kernel⟩
abbrev s_total:Stmt:=top 14
theorem sc_total:FnScope ["ratios","half"] ["ratios"] (defScope s_total):=⟨rfl,rfl,rfl,by decide +kernel,rfl,by decide +kernel,by decide +kernel⟩
abbrev s_lesser:Stmt:=top 15
theorem sc_lesser:FnScope ["one","other"] ["one","other"] (defScope s_lesser):=⟨rfl,rfl,rfl,by decide +kernel,rfl,by decide +kernel,by decide +kernel⟩
abbrev s_common_bottom:Stmt:=top 16
theorem sc_common_bottom:FnScope ["ratios","bottom","ratio"] ["ratios"] (defScope s_common_bottom):=⟨rfl,rfl,rfl,by decide +kernel,rfl,by decide +kernel,by decide +kernel⟩
abbrev s_top_over:Stmt:=top 17
theorem sc_top_over:FnScope ["ratio","bottom"] ["ratio","bottom"] (defScope s_top_over):=⟨rfl,rfl,rfl,by decide +kernel,rfl,by decide +kernel,by decide +kernel⟩
abbrev s_is_whole:Stmt:=top 19
theorem sc_is_whole:FnScope ["thing"] ["thing"] (defScope s_is_whole):=⟨rfl,rfl,rfl,by decide +kernel,rfl,by decide +kernel,by decide +kernel⟩
abbrev s_is_within:Stmt:=top 20
theorem sc_is_within:FnScope ["thing","least","most"] ["thing","least","most"] (defScope s_is_within):=⟨rfl,rfl,rfl,by decide +kernel,rfl,by decide +kernel,by decide +kernel⟩
abbrev s_together:Stmt:=top 21
theorem sc_together:FnScope ["counts","tried","well"] ["counts"] (defScope s_together):=⟨rfl,rfl,rfl,by decide +kernel,rfl,by decide +kernel,by decide +kernel⟩
abbrev s_together_by_house:Stmt:=top 22
theorem sc_together_by_house:FnScope ["many","rows"] ["many","rows"] (defScope s_together_by_house):=⟨rfl,rfl,rfl,by decide +kernel,rfl,by decide +kernel,by decide +kernel⟩
abbrev s_share_of:Stmt:=top 23
theorem sc_share_of:FnScope ["count"] ["count"] (defScope s_share_of):=⟨rfl,rfl,rfl,by decide +kernel,rfl,by decide +kernel,by decide +kernel⟩
abbrev s_said:Stmt:=top 24
theorem sc_said:FnScope ["one","other","first","second"] ["one","other"] (defScope s_said):=⟨rfl,rfl,rfl,by decide +kernel,rfl,by decide +kernel,by decide +kernel⟩
abbrev s_check_house:Stmt:=top 26
theorem sc_check_house:FnScope ["many","house"] ["many","house"] (defScope s_check_house):=⟨rfl,rfl,rfl,by decide +kernel,rfl,by decide +kernel,by decide +kernel⟩
abbrev s_check_pair:Stmt:=top 27
theorem sc_check_pair:FnScope ["many","a","b"] ["many","a","b"] (defScope s_check_pair):=⟨rfl,rfl,rfl,by decide +kernel,rfl,by decide +kernel,by decide +kernel⟩
abbrev s_houses_of:Stmt:=top 28
theorem sc_houses_of:FnScope ["table"] ["table"] (defScope s_houses_of):=⟨rfl,rfl,rfl,by decide +kernel,rfl,by decide +kernel,by decide +kernel⟩
abbrev s_sums_of:Stmt:=top 30
theorem sc_sums_of:FnScope ["table"] ["table"] (defScope s_sums_of):=⟨rfl,rfl,rfl,by decide +kernel,rfl,by decide +kernel,by decide +kernel⟩
abbrev s_says:Stmt:=top 31
theorem sc_says:FnScope ["table","a","b"] ["table","a","b"] (defScope s_says):=⟨rfl,rfl,rfl,by decide +kernel,rfl,by decide +kernel,by decide +kernel⟩
abbrev s_weights_of:Stmt:=top 33
theorem sc_weights_of:FnScope ["table","house","tried"] ["table","house"] (defScope s_weights_of):=⟨rfl,rfl,rfl,by decide +kernel,rfl,by decide +kernel,by decide +kernel⟩
abbrev s_ends_of:Stmt:=top 34
theorem sc_ends_of:FnScope ["table","house"] ["table","house"] (defScope s_ends_of):=⟨rfl,rfl,rfl,by decide +kernel,rfl,by decide +kernel,by decide +kernel⟩
abbrev s_whole_count:Stmt:=top 35
theorem sc_whole_count:FnScope ["table","house","count"] ["table","house"] (defScope s_whole_count):=⟨rfl,rfl,rfl,by decide +kernel,rfl,by decide +kernel,by decide +kernel⟩
abbrev s_whole_gap:Stmt:=top 36
theorem sc_whole_gap:FnScope ["table","a","b"] ["table","a","b"] (defScope s_whole_gap):=⟨rfl,rfl,rfl,by decide +kernel,rfl,by decide +kernel,by decide +kernel⟩
abbrev s_shares_in:Stmt:=top 37
theorem sc_shares_in:FnScope ["table","house"] ["table","house"] (defScope s_shares_in):=⟨rfl,rfl,rfl,by decide +kernel,rfl,by decide +kernel,by decide +kernel⟩
abbrev s_ends_among:Stmt:=top 38
theorem sc_ends_among:FnScope ["ratios","places","least","greatest","place"] ["ratios"] (defScope s_ends_among):=⟨rfl,rfl,rfl,by decide +kernel,rfl,by decide +kernel,by decide +kernel⟩
abbrev s_uneven:Stmt:=top 40
theorem sc_uneven:FnScope ["table","a","b","weights","others","parts"] ["table","a","b"] (defScope s_uneven):=⟨rfl,rfl,rfl,by decide +kernel,rfl,by decide +kernel,by decide +kernel⟩
abbrev s_apart:Stmt:=top 41
theorem sc_apart:FnScope ["table","house","ends"] ["table","house"] (defScope s_apart):=⟨rfl,rfl,rfl,by decide +kernel,rfl,by decide +kernel,by decide +kernel⟩
abbrev s_leads:Stmt:=top 42
theorem sc_leads:FnScope ["table","a","b","told","share","other"] ["table","a","b"] (defScope s_leads):=⟨rfl,rfl,rfl,by decide +kernel,rfl,by decide +kernel,by decide +kernel⟩
abbrev s_gap:Stmt:=top 43
theorem sc_gap:FnScope ["table","a","b","ends","slack"] ["table","a","b"] (defScope s_gap):=⟨rfl,rfl,rfl,by decide +kernel,rfl,by decide +kernel,by decide +kernel⟩
abbrev s_check_same_parts:Stmt:=top 44
theorem sc_check_same_parts:FnScope ["table","a","b","part","counts"] ["table","a","b"] (defScope s_check_same_parts):=⟨rfl,rfl,rfl,by decide +kernel,rfl,by decide +kernel,by decide +kernel⟩
abbrev s_meeting:Stmt:=top 46
theorem sc_meeting:FnScope ["lead","apart","uneven","weight","ones","others"] ["lead","apart","uneven"] (defScope s_meeting):=⟨rfl,rfl,rfl,by decide +kernel,rfl,by decide +kernel,by decide +kernel⟩
abbrev s_laid:Stmt:=top 47
theorem sc_laid:FnScope ["one","other","uneven","share","lead","spread","weight","low","high","ones","others"] ["one","other","uneven"] (defScope s_laid):=⟨rfl,rfl,rfl,by decide +kernel,rfl,by decide +kernel,by decide +kernel⟩
abbrev s_high_weight:Stmt:=top 48
theorem sc_high_weight:FnScope ["share","spread","uneven","most","least"] ["share","spread","uneven"] (defScope s_high_weight):=⟨rfl,rfl,rfl,by decide +kernel,rfl,by decide +kernel,by decide +kernel⟩
abbrev s_half:Stmt:=top 49
theorem sc_half:FnScope ["ratio"] ["ratio"] (defScope s_half):=⟨rfl,rfl,rfl,by decide +kernel,rfl,by decide +kernel,by decide +kernel⟩
abbrev s_counts_by:Stmt:=top 50
theorem sc_counts_by:FnScope ["weight","share","other","weights","wells","tried"] ["weight","share","other"] (defScope s_counts_by):=⟨rfl,rfl,rfl,by decide +kernel,rfl,by decide +kernel,by decide +kernel⟩
abbrev s__law_pen:Stmt:=top 52
theorem sc__law_pen:FnScope ["_law_script"] ["_law_script"] (defScope s__law_pen):=⟨rfl,rfl,rfl,by decide +kernel,rfl,by decide +kernel,by decide +kernel⟩
abbrev s__law_next:Stmt:=top 53
theorem sc__law_next:FnScope ["_law_pen_here","_law_many","_law_script","_law_turn","_law_left","_law_cell","_law_number"] ["_law_pen_here","_law_many"] (defScope s__law_next):=⟨rfl,rfl,rfl,by decide +kernel,rfl,by decide +kernel,by decide +kernel⟩
abbrev s__law_low:Stmt:=top 54
theorem sc__law_low:FnScope ["_law_top","_law_bottom","_law_one","_law_other"] ["_law_top","_law_bottom"] (defScope s__law_low):=⟨rfl,rfl,rfl,by decide +kernel,rfl,by decide +kernel,by decide +kernel⟩
abbrev s__law_table:Stmt:=top 55
theorem sc__law_table:FnScope ["_law_pen_here","_law_many","_law_raised","_law_table_here","_law_k","_law_part","_law_house","_law_tried","_law_well"] ["_law_pen_here","_law_many"] (defScope s__law_table):=⟨rfl,rfl,rfl,by decide +kernel,rfl,by decide +kernel,by decide +kernel⟩
abbrev s__law_told:Stmt:=top 56
theorem sc__law_told:FnScope ["_law_lead","_law_span","_law_odds"] ["_law_lead","_law_span","_law_odds"] (defScope s__law_told):=⟨rfl,rfl,rfl,by decide +kernel,rfl,by decide +kernel,by decide +kernel⟩
abbrev s__law_laid:Stmt:=top 57
theorem sc__law_laid:FnScope ["_law_one","_law_other","_law_odds"] ["_law_one","_law_other","_law_odds"] (defScope s__law_laid):=⟨rfl,rfl,rfl,by decide +kernel,rfl,by decide +kernel,by decide +kernel⟩
abbrev s__law_met:Stmt:=top 58
theorem sc__law_met:FnScope ["_law_table_here","_law_a","_law_b","_law_lead","_law_odds","_law_one","_law_other","_law_span","_law_made","_law_whole","_law_found"] ["_law_table_here","_law_a","_law_b"] (defScope s__law_met):=⟨rfl,rfl,rfl,by decide +kernel,rfl,by decide +kernel,by decide +kernel⟩
abbrev s__law_laid_right:Stmt:=top 59
theorem sc__law_laid_right:FnScope ["_law_one","_law_other","_law_lead","_law_odds","_law_made","_law_amid"] ["_law_one","_law_other"] (defScope s__law_laid_right):=⟨rfl,rfl,rfl,by decide +kernel,rfl,by decide +kernel,by decide +kernel⟩
abbrev s_law:Stmt:=top 60
theorem sc_law:FnScope ["_law_script","_law_pen_here","_law_many","_law_table_here","_law_whole","_law_a","_law_b"] ["_law_script"] (defScope s_law):=⟨rfl,rfl,rfl,by decide +kernel,rfl,by decide +kernel,by decide +kernel⟩
set_option genInjectivity false in
set_option genSizeOf false in
structure Tx (K:PySem.W.Frag) (mg:Str -> Option Value) where
 f_greatest_divisor:Addr
 fd_greatest_divisor:FuncData
 d_greatest_divisor:Df K mg "greatest_divisor" s_greatest_divisor ["one","other"] f_greatest_divisor fd_greatest_divisor
 f_ratio_of:Addr
 fd_ratio_of:FuncData
 d_ratio_of:Df K mg "ratio_of" s_ratio_of ["top","bottom"] f_ratio_of fd_ratio_of
 f_plus:Addr
 fd_plus:FuncData
 d_plus:Df K mg "plus" s_plus ["one","other"] f_plus fd_plus
 f_minus:Addr
 fd_minus:FuncData
 d_minus:Df K mg "minus" s_minus ["one","other"] f_minus fd_minus
 f_times:Addr
 fd_times:FuncData
 d_times:Df K mg "times" s_times ["one","other"] f_times fd_times
 f_over:Addr
 fd_over:FuncData
 d_over:Df K mg "over" s_over ["one","other"] f_over fd_over
 f_less:Addr
 fd_less:FuncData
 d_less:Df K mg "less" s_less ["one","other"] f_less fd_less
 f_total:Addr
 fd_total:FuncData
 d_total:Df K mg "total" s_total ["ratios"] f_total fd_total
 f_lesser:Addr
 fd_lesser:FuncData
 d_lesser:Df K mg "lesser" s_lesser ["one","other"] f_lesser fd_lesser
 f_common_bottom:Addr
 fd_common_bottom:FuncData
 d_common_bottom:Df K mg "common_bottom" s_common_bottom ["ratios"] f_common_bottom fd_common_bottom
 f_top_over:Addr
 fd_top_over:FuncData
 d_top_over:Df K mg "top_over" s_top_over ["ratio","bottom"] f_top_over fd_top_over
 f_is_whole:Addr
 fd_is_whole:FuncData
 d_is_whole:Df K mg "is_whole" s_is_whole ["thing"] f_is_whole fd_is_whole
 f_is_within:Addr
 fd_is_within:FuncData
 d_is_within:Df K mg "is_within" s_is_within ["thing","least","most"] f_is_within fd_is_within
 f_together:Addr
 fd_together:FuncData
 d_together:Df K mg "together" s_together ["counts"] f_together fd_together
 f_together_by_house:Addr
 fd_together_by_house:FuncData
 d_together_by_house:Df K mg "together_by_house" s_together_by_house ["many","rows"] f_together_by_house fd_together_by_house
 f_share_of:Addr
 fd_share_of:FuncData
 d_share_of:Df K mg "share_of" s_share_of ["count"] f_share_of fd_share_of
 f_said:Addr
 fd_said:FuncData
 d_said:Df K mg "said" s_said ["one","other"] f_said fd_said
 f_check_house:Addr
 fd_check_house:FuncData
 d_check_house:Df K mg "check_house" s_check_house ["many","house"] f_check_house fd_check_house
 f_check_pair:Addr
 fd_check_pair:FuncData
 d_check_pair:Df K mg "check_pair" s_check_pair ["many","a","b"] f_check_pair fd_check_pair
 f_houses_of:Addr
 fd_houses_of:FuncData
 d_houses_of:Df K mg "houses_of" s_houses_of ["table"] f_houses_of fd_houses_of
 f_sums_of:Addr
 fd_sums_of:FuncData
 d_sums_of:Df K mg "sums_of" s_sums_of ["table"] f_sums_of fd_sums_of
 f_says:Addr
 fd_says:FuncData
 d_says:Df K mg "says" s_says ["table","a","b"] f_says fd_says
 f_weights_of:Addr
 fd_weights_of:FuncData
 d_weights_of:Df K mg "weights_of" s_weights_of ["table","house"] f_weights_of fd_weights_of
 f_ends_of:Addr
 fd_ends_of:FuncData
 d_ends_of:Df K mg "ends_of" s_ends_of ["table","house"] f_ends_of fd_ends_of
 f_whole_count:Addr
 fd_whole_count:FuncData
 d_whole_count:Df K mg "whole_count" s_whole_count ["table","house"] f_whole_count fd_whole_count
 f_whole_gap:Addr
 fd_whole_gap:FuncData
 d_whole_gap:Df K mg "whole_gap" s_whole_gap ["table","a","b"] f_whole_gap fd_whole_gap
 f_shares_in:Addr
 fd_shares_in:FuncData
 d_shares_in:Df K mg "shares_in" s_shares_in ["table","house"] f_shares_in fd_shares_in
 f_ends_among:Addr
 fd_ends_among:FuncData
 d_ends_among:Df K mg "ends_among" s_ends_among ["ratios"] f_ends_among fd_ends_among
 f_uneven:Addr
 fd_uneven:FuncData
 d_uneven:Df K mg "uneven" s_uneven ["table","a","b"] f_uneven fd_uneven
 f_apart:Addr
 fd_apart:FuncData
 d_apart:Df K mg "apart" s_apart ["table","house"] f_apart fd_apart
 f_leads:Addr
 fd_leads:FuncData
 d_leads:Df K mg "leads" s_leads ["table","a","b"] f_leads fd_leads
 f_gap:Addr
 fd_gap:FuncData
 d_gap:Df K mg "gap" s_gap ["table","a","b"] f_gap fd_gap
 f_check_same_parts:Addr
 fd_check_same_parts:FuncData
 d_check_same_parts:Df K mg "check_same_parts" s_check_same_parts ["table","a","b"] f_check_same_parts fd_check_same_parts
 f_meeting:Addr
 fd_meeting:FuncData
 d_meeting:Df K mg "meeting" s_meeting ["lead","apart","uneven"] f_meeting fd_meeting
 f_laid:Addr
 fd_laid:FuncData
 d_laid:Df K mg "laid" s_laid ["one","other","uneven"] f_laid fd_laid
 f_high_weight:Addr
 fd_high_weight:FuncData
 d_high_weight:Df K mg "high_weight" s_high_weight ["share","spread","uneven"] f_high_weight fd_high_weight
 f_half:Addr
 fd_half:FuncData
 d_half:Df K mg "half" s_half ["ratio"] f_half fd_half
 f_counts_by:Addr
 fd_counts_by:FuncData
 d_counts_by:Df K mg "counts_by" s_counts_by ["weight","share","other"] f_counts_by fd_counts_by
 f__law_pen:Addr
 fd__law_pen:FuncData
 d__law_pen:Df K mg "_law_pen" s__law_pen ["_law_script"] f__law_pen fd__law_pen
 f__law_next:Addr
 fd__law_next:FuncData
 d__law_next:Df K mg "_law_next" s__law_next ["_law_pen_here","_law_many"] f__law_next fd__law_next
 f__law_low:Addr
 fd__law_low:FuncData
 d__law_low:Df K mg "_law_low" s__law_low ["_law_top","_law_bottom"] f__law_low fd__law_low
 f__law_table:Addr
 fd__law_table:FuncData
 d__law_table:Df K mg "_law_table" s__law_table ["_law_pen_here","_law_many"] f__law_table fd__law_table
 f__law_told:Addr
 fd__law_told:FuncData
 d__law_told:Df K mg "_law_told" s__law_told ["_law_lead","_law_span","_law_odds"] f__law_told fd__law_told
 f__law_laid:Addr
 fd__law_laid:FuncData
 d__law_laid:Df K mg "_law_laid" s__law_laid ["_law_one","_law_other","_law_odds"] f__law_laid fd__law_laid
 f__law_met:Addr
 fd__law_met:FuncData
 d__law_met:Df K mg "_law_met" s__law_met ["_law_table_here","_law_a","_law_b"] f__law_met fd__law_met
 f__law_laid_right:Addr
 fd__law_laid_right:FuncData
 d__law_laid_right:Df K mg "_law_laid_right" s__law_laid_right ["_law_one","_law_other"] f__law_laid_right fd__law_laid_right
 f_law:Addr
 fd_law:FuncData
 d_law:Df K mg "law" s_law ["_law_script"] f_law fd_law
 z_ValueError:mg "ValueError" = none
 z_abs:mg "abs" = none
 z_sum:mg "sum" = none
 z_tuple:mg "tuple" = none
 z_len:mg "len" = none
 z_zip:mg "zip" = none
 z_enumerate:mg "enumerate" = none
 z_list:mg "list" = none
 z_range:mg "range" = none
 z_isinstance:mg "isinstance" = none
 z_int:mg "int" = none
 z_bool:mg "bool" = none
 c_NoTable:Addr
 cm_NoTable:mg "NoTable" = some (.ref c_NoTable)
 ce_NoTable:Exc K c_NoTable
 cx_NoTable:ExK K c_NoTable
 k_exNoTable:PySem.W.exmOne K (.ref c_NoTable) (.ref c_NoTable) = some true
open DL
section
variable {P:Program} {w:World} {K:PySem.W.Frag} {mg:Str -> Option Value} {base:Heap}
theorem g0__law_pen (T:Tx K mg):FnOk P w K mg base CX0 1 T.f__law_pen T.fd__law_pen ["_law_script"] (sp_pen K):=by
 refine T.d__law_pen.F.ok sc__law_pen (fun vs H Q E h=>?_) (fun cdv A outer s H vs Q E hr h=>?_)
 ·obtain ⟨a,ns,rfl,_⟩:=h
  rfl
 ·obtain ⟨a,ns,rfl,hs,k⟩:=h
  refine ⟨_,(pss_one (ps_ret (pe_lst (pa_cons (pv 0) (pa_cons pe_int (pa_cons pe_int pa_nil)))))),?_⟩
  refine ⟨_,rfl,(by show (3:Nat) <= sizeLine; decide),fun p hp=>?_⟩
  refine k p _ hp ⟨upd_same,?_,Int.le_refl 0⟩ (same_new hp)
  rcases hs with ⟨o,e⟩ | e
  ·exact .inl ⟨o,upd_old hp e⟩
  ·exact .inr e
theorem g0__law_next (T:Tx K mg):FnOk P w K mg base CX0 1 T.f__law_next T.fd__law_next ["_law_pen_here","_law_many"] (sp_next K):=by
 refine T.d__law_next.F.ok sc__law_next (fun vs H Q E h=>?_) (fun cdv A outer s H vs Q E hr h=>?_)
 ·obtain ⟨p,a,ns,t,l,m,rfl,_⟩:=h
  rfl
 ·obtain ⟨p,a,ns,t,l,m,rfl,pen,m1,m2,k⟩:=h
  refine ⟨_,(pss_cons (ps_asg (pv 0) (pg_lsH rfl (pgs_cons (pg_name (i:=2) sc__law_next.nd rfl (Or.inl rfl)) (pgs_cons (pg_name (i:=3) sc__law_next.nd rfl (Or.inl rfl)) (pgs_cons (pg_name (i:=4) sc__law_next.nd rfl (Or.inl rfl)) pgs_nil)))))
   (pss_cons (ps_if (pt_cmpR op_eq (pv 4) pe_int (nomark _)) (pss_cons (ps_asg (pe_op op_add (pv 3) pe_int) (pg_sub (pv 0) pe_int set_list))
   (pss_cons (ps_if (PW.pt (pw_or (pt_cmpR op_ge (pv 3) (pe_callB call_len_seq rfl T.z_len PySem.boot_len (pa_cons (pv 2) pa_nil)) (nomark _)) (pw_or1 (pt_cmpR op_lt (pe_ix ix_list (pv 2) (pv 3) (fun _ _=>rfl)) (pe_op op_pow pe_int pe_int) (nomark _))))) (pss_cons (ps_set (i:=5) sc__law_next.nd rfl (Or.inl rfl) pe_int)
   (pss_cons (ps_if (pt_cmpR op_gt (pe_callB call_len_seq rfl T.z_len PySem.boot_len (pa_cons (pv 2) pa_nil)) pe_int (nomark _)) (pss_one (ps_set (i:=5) sc__law_next.nd rfl (Or.inl rfl) (pe_op op_mod (pe_ix ix_list (pv 2) (pe_op op_mod (pv 3) (pe_callB call_len_seq rfl T.z_len PySem.boot_len (pa_cons (pv 2) pa_nil))) (fun _ _=>rfl)) pe_int))) pss_nil)
   (pss_cons (ps_set (i:=6) sc__law_next.nd rfl (Or.inl rfl) (pe_op op_mod (pe_op op_mulB (pe_op op_add (pe_op op_add (pv 5) (pe_op op_mulB pe_int (pv 3))) pe_int) pe_int) pe_int))
   (pss_cons (ps_set (i:=6) sc__law_next.nd rfl (Or.inl rfl) (pe_op op_mod (pe_op op_add (pe_op op_add (pe_op op_mulB (pv 6) (pv 6)) (pe_op op_mulB pe_int (pv 3))) pe_int) pe_int))
   (pss_one (ps_ret (pe_op op_mod (pe_op op_fdivB (pe_op op_mod (pe_op op_mulB (pv 6) (pe_op op_add (pv 6) pe_int)) pe_int) pe_int) (pv 1)))))))) pss_nil)
   (pss_one (ps_set (i:=4) sc__law_next.nd rfl (Or.inl rfl) (pe_ix ix_list (pv 2) (pv 3) (fun _ _=>rfl)))))) pss_nil)
   (pss_cons (ps_asg (pe_op op_fdivB (pv 4) (pv 1)) (pg_sub (pv 0) pe_int set_list))
   (pss_one (ps_ret (pe_op op_mod (pv 4) (pv 1))))))),?_⟩
  have ht:=pen.t0
  have hm:(0:Int) < m:=by omega
  -- the pen's three parts
  refine ⟨_,rfl,p,_,rfl,pen.lst,rfl,_,_,rfl,_,_,rfl,_,_,rfl,rfl,?_⟩
  -- if left == 0
  refine ⟨_,rfl,rfl,_,rfl,?_⟩
  refine ite2 (fun hl=>?_) (fun hl=>?_)
  ·-- pen[1] = turn + 1
   refine ⟨_,rfl,_,_,rfl,rfl,_,rfl,p,_,1,1,rfl,rfl,pen.lst,rfl,?_⟩
   have pen1:Pen K (upd H p (.lst [.ref a,.int (t + 1),.int l])) p a ns (t + 1) l:=pen.put (by omega)
   have sq:=pen1.scr.sq
   -- if turn >= len(script) or script[turn] < 10 ** 18
   refine ⟨_,rfl,_,rfl,a,_,rfl,.inl sq,_,_,rfl,rfl,_,rfl,?_⟩
   refine ite2 (fun h1=>iteT ?_) (fun h1=>⟨_,rfl,_,rfl,a,_,t,_,rfl,rfl,sq,scr_at ht (by simp only [decide_eq_true_eq,List.length_map] at h1; omega),_,_,rfl,rfl,⟨by decide,by decide,by decide⟩,_,_,rfl,rfl,_,rfl,ite2 (fun h2=>?_) (fun h2=>?_)⟩)
   rotate_left 2
   ·-- left = script[turn]; pen[2] = left // many; return left % many
    simp only [decide_eq_true_eq,List.length_map] at h1
    refine ⟨_,rfl,_,rfl,a,_,t,_,rfl,rfl,sq,scr_at ht (by omega),?_⟩
    refine ⟨_,rfl,_,rfl,_,_,rfl,rfl,⟨hm,big_ten (by omega) (by omega)⟩,_,rfl,p,_,2,2,rfl,rfl,pen1.lst,rfl,?_⟩
    refine ⟨_,rfl,_,rfl,_,_,rfl,rfl,hm,?_⟩
    exact k _ (t + 1) _ _ (Int.emod_nonneg _ (by omega)) (Int.emod_lt_of_pos _ hm) (pen1.put (by omega)) (SBut.upd.trans SBut.upd)
   all_goals
    -- cell = ..; if len(script) > 0: cell = script[turn % len(script)] % ..
    refine ⟨_,rfl,a,_,rfl,.inl sq,_,_,rfl,rfl,_,rfl,?_⟩
    refine ite2 (fun h3=>?_) (fun h3=>?_)
    ·simp only [decide_eq_true_eq,List.length_map] at h3
     refine ⟨_,rfl,_,rfl,_,rfl,a,_,rfl,.inl sq,_,_,rfl,rfl,(by show (0:Int) < ((ns.map V.int).length:Int); rw [List.length_map]; omega),a,_,_,_,rfl,rfl,sq,scr_at (by rw [List.length_map]; exact Int.emod_nonneg _ (by omega)) (by rw [List.length_map]; exact Int.emod_lt_of_pos _ (by omega)),_,_,rfl,rfl,mpos,?_⟩
     refine ⟨_,rfl,_,rfl,_,_,rfl,rfl,mul_l,_,_,rfl,rfl,_,_,rfl,rfl,_,_,rfl,rfl,mul_r,_,_,rfl,rfl,mpos,?_⟩
     refine ⟨_,rfl,_,rfl,_,_,rfl,rfl,mul_mod (by decide) (by decide),_,rfl,_,_,rfl,rfl,mul_l,_,_,rfl,rfl,_,_,rfl,rfl,_,_,rfl,rfl,mpos,?_⟩
     refine ⟨_,rfl,_,rfl,_,_,rfl,rfl,_,_,rfl,rfl,mul_mod (by decide) (by decide),_,_,rfl,rfl,mpos,_,_,rfl,rfl,⟨by decide,big_small (by decide) (by decide)⟩,_,rfl,_,_,rfl,rfl,hm,?_⟩
     exact k _ (t + 1) _ _ (Int.emod_nonneg _ (by omega)) (Int.emod_lt_of_pos _ hm) pen1 SBut.upd
    ·refine ⟨_,rfl,_,rfl,_,_,rfl,rfl,mul_l,_,_,rfl,rfl,_,_,rfl,rfl,_,_,rfl,rfl,mul_r,_,_,rfl,rfl,mpos,?_⟩
     refine ⟨_,rfl,_,rfl,_,_,rfl,rfl,mul_mod (by decide) (by decide),_,rfl,_,_,rfl,rfl,mul_l,_,_,rfl,rfl,_,_,rfl,rfl,_,_,rfl,rfl,mpos,?_⟩
     refine ⟨_,rfl,_,rfl,_,_,rfl,rfl,_,_,rfl,rfl,mul_mod (by decide) (by decide),_,_,rfl,rfl,mpos,_,_,rfl,rfl,⟨by decide,big_small (by decide) (by decide)⟩,_,rfl,_,_,rfl,rfl,hm,?_⟩
     exact k _ (t + 1) _ _ (Int.emod_nonneg _ (by omega)) (Int.emod_lt_of_pos _ hm) pen1 SBut.upd
  ·-- pen[2] = left // many; return left % many
   refine ⟨_,rfl,_,rfl,_,_,rfl,rfl,⟨hm,big_ten (by omega) (by omega)⟩,_,rfl,p,_,2,2,rfl,rfl,pen.lst,rfl,?_⟩
   refine ⟨_,rfl,_,rfl,_,_,rfl,rfl,hm,?_⟩
   exact k _ t _ _ (Int.emod_nonneg _ (by omega)) (Int.emod_lt_of_pos _ hm) (pen.put ht) SBut.upd
theorem g__law_next (T:Tx K mg):FnOk P w K mg base CX0 1 T.f__law_next T.fd__law_next ["_law_pen_here","_law_many"] (spD K 2 gNext):=next_of (g0__law_next T)
theorem m__law_next:MonoS gNext:=mono_next
theorem m_greatest_divisor:MonoS gGcd:=mono_gcd
def muG (ρ:DS):Nat:=match slot ρ 1 with
 | .val (.int y)=>y.natAbs
 | _=>0
theorem g_greatest_divisor (T:Tx K mg):FnOk P w K mg base CX0 1 T.f_greatest_divisor T.fd_greatest_divisor ["one","other"] (spD K 2 gGcd):=by
 refine fnD (k:=0) T.d_greatest_divisor.F sc_greatest_divisor (fun cdv A outer s H E hr=>(dss_mid (ds_while PassesOwn.never (dt_cmp (od_ne hr) (de_var 1 (pv 1)) de_int (nomark _)) (dss_cons (ds_set (i:=2) sc_greatest_divisor.nd rfl (by first | exact Or.inl rfl | exact Or.inr rfl) (de_op od_modN (de_var 0 (pv 0)) (de_var 1 (pv 1))))
   (dss_cons (ds_set (i:=0) sc_greatest_divisor.nd rfl (by first | exact Or.inl rfl | exact Or.inr rfl) (de_var 1 (pv 1)))
   (dss_one (ds_set (i:=1) sc_greatest_divisor.nd rfl (by first | exact Or.inl rfl | exact Or.inr rfl) (de_var 2 (pv 2)))))))
   (dss_one (ds_ret (de_callB cd_abs rfl T.z_abs rfl (da_cons (de_var 0 (pv 0)) da_nil)))))) (fun ds Q hl h=>?_)
 unfold gGcd at h
 split at h
 case h_2=>exact h.elim
 rename_i a b
 refine ⟨fun ρ=>∃ (x:Int) (s:Sl),ρ = [.val (.int x),.val (.int 0),s] /\ Int.gcd x 0 = Int.gcd a b,?_,?_⟩
 ·refine dWhile_ind (fun ρ=>∃ (x y:Int) (s:Sl),ρ = [.val (.int x),.val (.int y),s] /\ Int.gcd x y = Int.gcd a b) muG (fun ρ X hN hX=>?_) _ ⟨a,b,_,rfl,rfl⟩
  obtain ⟨x,y,s,rfl,e⟩:=hN
  refine ⟨⟨rfl,rfl⟩,fun hy=>?_,fun hy=>?_⟩
  ·have hy:y ≠ 0:=by simpa [eqD_int] using hy
   exact ⟨hy,hX _ ⟨y,x.fmod y,_,rfl,by rw [Ra.gcd_step hy,e]⟩ (Ra.fmod_less hy)⟩
  ·have hy:y = 0:=by simpa [eqD_int] using hy
   subst hy
   exact ⟨x,s,rfl,e⟩
 ·rintro _ ⟨x,s,rfl,e⟩
  show Q (.int (if x < 0 then -x else x))
  rw [Ra.gcd_zero,e]
  exact h
theorem m_ratio_of:MonoS gRatio:=mono_ratio
theorem g_ratio_of (T:Tx K mg):FnOk P w K mg base CX0 2 T.f_ratio_of T.fd_ratio_of ["top","bottom"] (spD K 2 gRatio):=by
 refine fnD (k:=1) T.d_ratio_of.F sc_ratio_of (fun cdv A outer s H E hr=>(dss_cons (ds_if (dt_cmp (od_eq hr) (de_var 1 (pv 1)) de_int (nomark _)) (dss_one ds_never) dss_nil)
   (dss_cons (ds_set (i:=2) sc_ratio_of.nd rfl (by first | exact Or.inl rfl | exact Or.inr rfl) (de_call (g_greatest_divisor T) m_greatest_divisor (hr.mono (by decide)) rfl T.d_greatest_divisor.m T.d_greatest_divisor.F.kp T.d_greatest_divisor.b (da_cons (de_var 0 (pv 0)) (da_cons (de_var 1 (pv 1)) da_nil))))
   (dss_mid (ds_if (dt_cmp od_lt (de_var 1 (pv 1)) de_int (nomark _)) (dss_one (ds_set (i:=2) sc_ratio_of.nd rfl (by first | exact Or.inl rfl | exact Or.inr rfl) (de_un ud_neg (de_var 2 (pv 2))))) dss_nil)
   (dss_one (ds_ret (de_tup (da_cons (de_op od_fdivZ (de_var 0 (pv 0)) (de_var 2 (pv 2))) (da_cons (de_op od_fdivZ (de_var 1 (pv 1)) (de_var 2 (pv 2))) da_nil))))))))) (fun ds Q hl h=>?_)
 unfold gRatio at h
 split at h
 case h_2=>exact h.elim
 rename_i a b
 obtain ⟨⟨hb,ba,bb⟩,h⟩:=h
 refine ⟨⟨rfl,rfl⟩,fun e=>?_,fun _=>?_⟩
 ·exact hb (by simpa [eqD_int] using e)
 refine ⟨rfl,?_⟩
 refine ⟨fun ρ=>∃ d:Int,d = (if b < 0 then -((Int.gcd a b:Nat):Int) else ((Int.gcd a b:Nat):Int)) /\ ρ = [.val (.int a),.val (.int b),.val (.int d)],⟨fun e=>?_,fun e=>?_⟩,?_⟩
 ·have e:b < 0:=by simpa using e
  exact ⟨_,by rw [if_pos e],rfl⟩
 ·have e:¬ b < 0:=by simpa using e
  exact ⟨_,by rw [if_neg e],rfl⟩
 ·rintro _ ⟨d,hd,rfl⟩
  have hg:0 < Int.gcd a b:=Int.gcd_pos_of_ne_zero_right a hb
  have hgb:Int.gcd a b <= b.natAbs:=Nat.le_of_dvd (Int.natAbs_pos.mpr hb) (Int.gcd_dvd_natAbs_right a b)
  have hd0:d ≠ 0:=by rw [hd]; split <;> omega
  have hdb:Big d:=(bb.le (i:=d) (by rw [hd]; split <;> omega)).big (by decide)
  exact ⟨⟨hd0,hdb⟩,⟨hd0,hdb⟩,sz,h _ _ (Ra.low_of hb hd)⟩
theorem m_plus:MonoS gPlus:=mono_rr
theorem g_plus (T:Tx K mg):FnOk P w K mg base CX0 3 T.f_plus T.fd_plus ["one","other"] (spD K 2 gPlus):=by
 refine fnD (k:=2) T.d_plus.F sc_plus (fun cdv A outer s H E hr=>(dss_one (ds_ret (de_call (g_ratio_of T) m_ratio_of (hr.mono (by decide)) rfl T.d_ratio_of.m T.d_ratio_of.F.kp T.d_ratio_of.b (da_cons (de_op od_add (de_op od_mul (de_ix (de_var 0 (pv 0)) de_int (fun _ _=>rfl)) (de_ix (de_var 1 (pv 1)) de_int (fun _ _=>rfl))) (de_op od_mul (de_ix (de_var 1 (pv 1)) de_int (fun _ _=>rfl)) (de_ix (de_var 0 (pv 0)) de_int (fun _ _=>rfl)))) (da_cons (de_op od_mul (de_ix (de_var 0 (pv 0)) de_int (fun _ _=>rfl)) (de_ix (de_var 1 (pv 1)) de_int (fun _ _=>rfl))) da_nil)))))) (fun ds Q hl h=>?_)
 unfold gPlus gRR at h
 split at h
 case h_2=>exact h.elim
 rename_i a b c d
 obtain ⟨⟨hb,b1,b2,b3,b4⟩,h⟩:=h
 exact ⟨b1.cmul b4,b3.cmul b2,b2.cmul b4,rfl,⟨hb,((b1.mul b4).add (b3.mul b2)).mono (by decide),(b2.mul b4).mono (by decide)⟩,h⟩
theorem m_minus:MonoS gMinus:=mono_rr
theorem g_minus (T:Tx K mg):FnOk P w K mg base CX0 3 T.f_minus T.fd_minus ["one","other"] (spD K 2 gMinus):=by
 refine fnD (k:=2) T.d_minus.F sc_minus (fun cdv A outer s H E hr=>(dss_one (ds_ret (de_call (g_ratio_of T) m_ratio_of (hr.mono (by decide)) rfl T.d_ratio_of.m T.d_ratio_of.F.kp T.d_ratio_of.b (da_cons (de_op od_sub (de_op od_mul (de_ix (de_var 0 (pv 0)) de_int (fun _ _=>rfl)) (de_ix (de_var 1 (pv 1)) de_int (fun _ _=>rfl))) (de_op od_mul (de_ix (de_var 1 (pv 1)) de_int (fun _ _=>rfl)) (de_ix (de_var 0 (pv 0)) de_int (fun _ _=>rfl)))) (da_cons (de_op od_mul (de_ix (de_var 0 (pv 0)) de_int (fun _ _=>rfl)) (de_ix (de_var 1 (pv 1)) de_int (fun _ _=>rfl))) da_nil)))))) (fun ds Q hl h=>?_)
 unfold gMinus gRR at h
 split at h
 case h_2=>exact h.elim
 rename_i a b c d
 obtain ⟨⟨hb,b1,b2,b3,b4⟩,h⟩:=h
 exact ⟨b1.cmul b4,b3.cmul b2,b2.cmul b4,rfl,⟨hb,((b1.mul b4).sub (b3.mul b2)).mono (by decide),(b2.mul b4).mono (by decide)⟩,h⟩
theorem m_times:MonoS gTimes:=mono_rr
theorem g_times (T:Tx K mg):FnOk P w K mg base CX0 3 T.f_times T.fd_times ["one","other"] (spD K 2 gTimes):=by
 refine fnD (k:=2) T.d_times.F sc_times (fun cdv A outer s H E hr=>(dss_one (ds_ret (de_call (g_ratio_of T) m_ratio_of (hr.mono (by decide)) rfl T.d_ratio_of.m T.d_ratio_of.F.kp T.d_ratio_of.b (da_cons (de_op od_mul (de_ix (de_var 0 (pv 0)) de_int (fun _ _=>rfl)) (de_ix (de_var 1 (pv 1)) de_int (fun _ _=>rfl))) (da_cons (de_op od_mul (de_ix (de_var 0 (pv 0)) de_int (fun _ _=>rfl)) (de_ix (de_var 1 (pv 1)) de_int (fun _ _=>rfl))) da_nil)))))) (fun ds Q hl h=>?_)
 unfold gTimes gRR at h
 split at h
 case h_2=>exact h.elim
 rename_i a b c d
 obtain ⟨⟨hb,b1,b2,b3,b4⟩,h⟩:=h
 exact ⟨b1.cmul b3,b2.cmul b4,rfl,⟨hb,(b1.mul b3).mono (by decide),(b2.mul b4).mono (by decide)⟩,h⟩
theorem m_over:MonoS gOver:=mono_rr
theorem g_over (T:Tx K mg):FnOk P w K mg base CX0 3 T.f_over T.fd_over ["one","other"] (spD K 2 gOver):=by
 refine fnD (k:=2) T.d_over.F sc_over (fun cdv A outer s H E hr=>(dss_one (ds_ret (de_call (g_ratio_of T) m_ratio_of (hr.mono (by decide)) rfl T.d_ratio_of.m T.d_ratio_of.F.kp T.d_ratio_of.b (da_cons (de_op od_mul (de_ix (de_var 0 (pv 0)) de_int (fun _ _=>rfl)) (de_ix (de_var 1 (pv 1)) de_int (fun _ _=>rfl))) (da_cons (de_op od_mul (de_ix (de_var 0 (pv 0)) de_int (fun _ _=>rfl)) (de_ix (de_var 1 (pv 1)) de_int (fun _ _=>rfl))) da_nil)))))) (fun ds Q hl h=>?_)
 unfold gOver gRR at h
 split at h
 case h_2=>exact h.elim
 rename_i a b c d
 obtain ⟨⟨hb,b1,b2,b3,b4⟩,h⟩:=h
 exact ⟨b1.cmul b4,b2.cmul b3,rfl,⟨hb,(b1.mul b4).mono (by decide),(b2.mul b3).mono (by decide)⟩,h⟩
theorem m_less:MonoS gLess:=mono_less
theorem g_less (T:Tx K mg):FnOk P w K mg base CX0 1 T.f_less T.fd_less ["one","other"] (spD K 2 gLess):=by
 refine fnD (k:=0) T.d_less.F sc_less (fun cdv A outer s H E hr=>(dss_one (ds_ret (de_cmp od_lt (de_op od_mul (de_ix (de_var 0 (pv 0)) de_int (fun _ _=>rfl)) (de_ix (de_var 1 (pv 1)) de_int (fun _ _=>rfl))) (de_op od_mul (de_ix (de_var 1 (pv 1)) de_int (fun _ _=>rfl)) (de_ix (de_var 0 (pv 0)) de_int (fun _ _=>rfl))) (nomark _))))) (fun ds Q hl h=>?_)
 unfold gLess at h
 split at h
 case h_2=>exact h.elim
 rename_i a b c d
 obtain ⟨⟨b1,b2,b3,b4⟩,h⟩:=h
 exact ⟨b1.cmul b4,b3.cmul b2,h⟩
def wholeD:D -> Bool
 | .int _=>true
 | _=>false
def gW:DSp:=fun ds Q=>match ds with
 | [d]=>flesh d = true /\ Q (.bl (wholeD d))
 | _=>False
theorem m_is_whole:MonoS gW:=fun ds P P' f h=>by
 unfold gW at h ⊢
 split at h
 ·exact ⟨h.1,f _ h.2⟩
 ·exact h.elim
theorem g_is_whole (T:Tx K mg):FnOk P w K mg base CX0 1 T.f_is_whole T.fd_is_whole ["thing"] (spD K 1 gW):=by
 refine fnD (k:=0) T.d_is_whole.F sc_is_whole (fun cdv A outer s H E hr=>(dss_one (ds_ret (de_and (de_callB cd_is_int rfl T.z_isinstance rfl (da_cons (de_var 0 (pv 0)) (da_cons (de_ty (n:="int") rfl T.z_int rfl) da_nil))) (de_one (de_not (de_callB cd_is_bool rfl T.z_isinstance rfl (da_cons (de_var 0 (pv 0)) (da_cons (de_ty (n:="bool") rfl T.z_bool rfl) da_nil))))))))) (fun ds Q hl h=>?_)
 unfold gW at h
 split at h
 case h_2=>exact h.elim
 rename_i d
 obtain ⟨h1,h⟩:=h
 refine ⟨rfl,h1,?_⟩
 cases d with
 | int i=>exact Br.t ⟨rfl,h1,h⟩
 | bl i=>exact Br.t ⟨rfl,h1,h⟩
 | _=>exact Br.f h
def pairD (c:Int × Int):D:=.tup [.int c.1,.int c.2]
def gTog:DSp:=fun ds Q=>match ds with
 | [.lst xs]=>∃ cs:List (Int × Int),xs = cs.map pairD /\ cs.length <= 1000 /\ Q (.tup [.int (cs.map (·.1)).sum,.int (cs.map (·.2)).sum])
 | [.tup xs]=>∃ cs:List (Int × Int),xs = cs.map pairD /\ cs.length <= 1000 /\ Q (.tup [.int (cs.map (·.1)).sum,.int (cs.map (·.2)).sum])
 | _=>False
theorem m_together:MonoS gTog:=fun ds P P' f h=>by
 unfold gTog at h ⊢
 split at h
 ·obtain ⟨cs,a,b,h⟩:=h
  exact ⟨cs,a,b,f _ h⟩
 ·obtain ⟨cs,a,b,h⟩:=h
  exact ⟨cs,a,b,f _ h⟩
 ·exact h.elim
theorem firsts (cs:List (Int × Int)):(cs.map pairD).map (fun d=>match d with | .tup (x :: _)=>x | _=>.non) = (cs.map (·.1)).map D.int:=by
 rw [List.map_map,List.map_map]; rfl
theorem seconds (cs:List (Int × Int)):(cs.map pairD).map (fun d=>match d with | .tup [_,x]=>x | _=>.non) = (cs.map (·.2)).map D.int:=by
 rw [List.map_map,List.map_map]; rfl
theorem coll0 {cs:List (Int × Int)} {s:Sl} {Q:List D -> Prop} (hc:cs.length <= 1000) (hq:Q ((cs.map (·.1)).map D.int)):dColl (dgName 0) dNoTest (dOp gIx (dVar 0) (dC (.int 0))) (cs.map pairD) [] [s] Q:=by
 refine dColl_map (fun d=>match d with | .tup (x :: _)=>x | _=>.non) (fun ρ=>∃ s,ρ = [s]) ?_ (fun d hd ρ Y Z hN hY=>?_) _ ⟨_,rfl⟩ ?_
 ·rw [List.length_map]; exact Nat.le_trans hc (by decide)
 ·obtain ⟨s,rfl⟩:=hN
  obtain ⟨c,_,rfl⟩:=List.mem_map.mp hd
  exact Br.t (hY _ ⟨_,rfl⟩)
 ·rw [firsts]; exact hq
theorem coll1 {cs:List (Int × Int)} {s:Sl} {Q:List D -> Prop} (hc:cs.length <= 1000) (hq:Q ((cs.map (·.2)).map D.int)):dColl (dgName 0) dNoTest (dOp gIx (dVar 0) (dC (.int 1))) (cs.map pairD) [] [s] Q:=by
 refine dColl_map (fun d=>match d with | .tup [_,x]=>x | _=>.non) (fun ρ=>∃ s,ρ = [s]) ?_ (fun d hd ρ Y Z hN hY=>?_) _ ⟨_,rfl⟩ ?_
 ·rw [List.length_map]; exact Nat.le_trans hc (by decide)
 ·obtain ⟨s,rfl⟩:=hN
  obtain ⟨c,_,rfl⟩:=List.mem_map.mp hd
  exact Br.t (hY _ ⟨_,rfl⟩)
 ·rw [seconds]; exact hq
theorem g_together (T:Tx K mg):FnOk P w K mg base CX0 1 T.f_together T.fd_together ["counts"] (spD K 1 gTog):=by
 refine fnD (k:=0) T.d_together.F sc_together (fun cdv A outer s H E hr=>(dss_cons (ds_set (i:=1) sc_together.nd rfl (by first | exact Or.inl rfl | exact Or.inr rfl) (de_callB cd_sum rfl T.z_sum PyProof.Rows.boot_sum (da_cons (de_frz (PCD.pld (dl_comp (N':=["count"]) rfl rfl (by decide +kernel) rfl (.own .nil) (by decide +kernel) (di_any (de_var 0 (pv 0))) (fun B=>(dg_name (i:=0) (show List.Nodup (α:=PySem.Str) ["count"] by decide +kernel) rfl (by first | exact Or.inl rfl | exact Or.inr rfl))) (fun B=>dts_nil) (fun B=>(de_ix (de_var 0 (pv 0)) de_int (fun _ _=>rfl)))))) da_nil)))
   (dss_cons (ds_set (i:=2) sc_together.nd rfl (by first | exact Or.inl rfl | exact Or.inr rfl) (de_callB cd_sum rfl T.z_sum PyProof.Rows.boot_sum (da_cons (de_frz (PCD.pld (dl_comp (N':=["count"]) rfl rfl (by decide +kernel) rfl (.own .nil) (by decide +kernel) (di_any (de_var 0 (pv 0))) (fun B=>(dg_name (i:=0) (show List.Nodup (α:=PySem.Str) ["count"] by decide +kernel) rfl (by first | exact Or.inl rfl | exact Or.inr rfl))) (fun B=>dts_nil) (fun B=>(de_ix (de_var 0 (pv 0)) de_int (fun _ _=>rfl)))))) da_nil)))
   (dss_one (ds_ret (de_tup (da_cons (de_var 1 (pv 1)) (da_cons (de_var 2 (pv 2)) da_nil)))))))) (fun ds Q hl h=>?_)
 unfold gTog at h
 split at h
 case h_3=>exact h.elim
 all_goals
  obtain ⟨cs,rfl,hc,h⟩:=h
  refine coll0 hc (gSum_of ?_)
  refine coll1 hc (gSum_of ?_)
  exact ⟨sz,h⟩
def gShare:DSp:=fun ds Q=>match ds with
 | [.tup [.int t,.int w]]=>(Bd 7000 t /\ Bd 7000 w) /\ (t = 0 -> Q .non) /\ (t ≠ 0 -> ∀ x y,Ra.Low w t x y -> Q (.tup [.int x,.int y]))
 | _=>False
theorem m_share_of:MonoS gShare:=fun ds P P' f h=>by
 unfold gShare at h ⊢
 split at h
 ·exact ⟨h.1,fun e=>f _ (h.2.1 e),fun e x y l=>f _ (h.2.2 e x y l)⟩
 ·exact h.elim
theorem g_share_of (T:Tx K mg):FnOk P w K mg base CX0 3 T.f_share_of T.fd_share_of ["count"] (spD K 1 gShare):=by
 refine fnD (k:=2) T.d_share_of.F sc_share_of (fun cdv A outer s H E hr=>(dss_cons (ds_if (dt_cmp (od_eq hr) (de_ix (de_var 0 (pv 0)) de_int (fun _ _=>rfl)) de_int (nomark _)) (dss_one (ds_ret de_non)) dss_nil)
   (dss_one (ds_ret (de_call (g_ratio_of T) m_ratio_of (hr.mono (by decide)) rfl T.d_ratio_of.m T.d_ratio_of.F.kp T.d_ratio_of.b (da_cons (de_ix (de_var 0 (pv 0)) de_int (fun _ _=>rfl)) (da_cons (de_ix (de_var 0 (pv 0)) de_int (fun _ _=>rfl)) da_nil))))))) (fun ds Q hl h=>?_)
 unfold gShare at h
 split at h
 case h_2=>exact h.elim
 rename_i t w
 obtain ⟨⟨b1,b2⟩,h0,h1⟩:=h
 refine ⟨⟨rfl,rfl⟩,fun e=>?_,fun e=>?_⟩
 ·exact h0 (by simpa [eqD_int] using e)
 ·have e:t ≠ 0:=by simpa [eqD_int] using e
  exact ⟨rfl,⟨e,b2,b1⟩,h1 e⟩
def saidD (t w t' w':Int):D:=if t = 0 ∨ t' = 0 then .non else if t * w' < w * t' then .int 1 else if w * t' < t * w' then .int (-1) else .int 0
def gSaid:DSp:=fun ds Q=>match ds with
 | [.tup [.int t,.int w],.tup [.int t',.int w']]=>(Bd 7000 t /\ Bd 7000 w /\ Bd 7000 t' /\ Bd 7000 w') /\ Q (saidD t w t' w')
 | _=>False
theorem m_said:MonoS gSaid:=fun ds P P' f h=>by
 unfold gSaid at h ⊢
 split at h
 ·exact ⟨h.1,f _ h.2⟩
 ·exact h.elim
theorem g_said (T:Tx K mg):FnOk P w K mg base CX0 1 T.f_said T.fd_said ["one","other"] (spD K 2 gSaid):=by
 refine fnD (k:=0) T.d_said.F sc_said (fun cdv A outer s H E hr=>(dss_cons (ds_if (PWD.pt (dw_or (dt_cmp (od_eq hr) (de_ix (de_var 0 (pv 0)) de_int (fun _ _=>rfl)) de_int (nomark _)) (dw_or1 (dt_cmp (od_eq hr) (de_ix (de_var 1 (pv 1)) de_int (fun _ _=>rfl)) de_int (nomark _))))) (dss_one (ds_ret de_non)) dss_nil)
   (dss_cons (ds_set (i:=2) sc_said.nd rfl (by first | exact Or.inl rfl | exact Or.inr rfl) (de_op od_mul (de_ix (de_var 0 (pv 0)) de_int (fun _ _=>rfl)) (de_ix (de_var 1 (pv 1)) de_int (fun _ _=>rfl))))
   (dss_cons (ds_set (i:=3) sc_said.nd rfl (by first | exact Or.inl rfl | exact Or.inr rfl) (de_op od_mul (de_ix (de_var 1 (pv 1)) de_int (fun _ _=>rfl)) (de_ix (de_var 0 (pv 0)) de_int (fun _ _=>rfl))))
   (dss_cons (ds_if (dt_cmp od_gt (de_var 2 (pv 2)) (de_var 3 (pv 3)) (nomark _)) (dss_one (ds_ret de_int)) dss_nil)
   (dss_cons (ds_if (dt_cmp od_lt (de_var 2 (pv 2)) (de_var 3 (pv 3)) (nomark _)) (dss_one (ds_ret (de_un ud_neg de_int))) dss_nil)
   (dss_one (ds_ret de_int)))))))) (fun ds Q hl h=>?_)
 unfold gSaid at h
 split at h
 case h_2=>exact h.elim
 rename_i t w t' w'
 obtain ⟨⟨b1,b2,b3,b4⟩,h⟩:=h
 unfold saidD at h
 refine ⟨⟨rfl,rfl⟩,fun e=>Br.t ?_,fun e=>⟨⟨rfl,rfl⟩,fun e'=>?_,fun e'=>?_⟩⟩
 ·have e:t = 0:=by simpa [eqD_int] using e
  rw [if_pos (.inl e)] at h
  exact h
 ·have e':t' = 0:=by simpa [eqD_int] using e'
  rw [if_pos (.inr e')] at h
  exact h
 ·have e:t ≠ 0:=by simpa [eqD_int] using e
  have e':t' ≠ 0:=by simpa [eqD_int] using e'
  rw [if_neg (by simp [e,e'])] at h
  refine ⟨b2.cmul b3,b4.cmul b1,⟨fun c=>?_,fun c=>⟨fun c'=>?_,fun c'=>?_⟩⟩⟩
  ·have c:w' * t < w * t':=by simpa using c
   rw [if_pos (by rw [Int.mul_comm t w']; exact c)] at h
   exact h
  ·have c:¬ w' * t < w * t':=by simpa using c
   have c':w * t' < w' * t:=by simpa using c'
   rw [if_neg (by rw [Int.mul_comm t w']; exact c),if_pos (by rw [Int.mul_comm t w']; exact c')] at h
   exact h
  ·have c:¬ w' * t < w * t':=by simpa using c
   have c':¬ w * t' < w' * t:=by simpa using c'
   rw [if_neg (by rw [Int.mul_comm t w']; exact c),if_neg (by rw [Int.mul_comm t w']; exact c')] at h
   exact h
structure Cnt (n:Nat) (t w:Int):Prop where
 lo:0 <= w
 hi:w <= t
 bt:Bd n t
 bw:Bd n w
theorem Cnt.mono {m n:Nat} {t w:Int} (h:Cnt m t w) (l:m <= n):Cnt n t w:=⟨h.lo,h.hi,h.bt.mono l,h.bw.mono l⟩
theorem cnt_of {n:Nat} {t w:Int} (lo:0 <= w) (hi:w <= t) (b:Bd n t):Cnt n t w:=⟨lo,hi,b,b.le (by omega)⟩
abbrev Row:=List (Int × Int)
def rowD (r:Row):D:=.tup (r.map pairD)
def RowN (n m:Nat) (r:Row):Prop:=r.length = m /\ ∀ c ∈ r,Cnt n c.1 c.2
abbrev RowOk (m:Nat) (r:Row):Prop:=RowN 256 m r
theorem RowN.up {n m:Nat} {r:Row} (o:RowN n m r) (h:n <= 256:=by decide):RowOk m r:=⟨o.1,fun c hc=>(o.2 c hc).mono h⟩
structure Tbl (m:Nat) (t:List Row):Prop where
 m2:2 <= m
 m6:m <= 6
 p1:1 <= t.length
 p60:t.length <= 100
 rows:∀ r ∈ t,RowOk m r
def at_ (r:Row) (h:Nat):Int × Int:=r.getD h (0,0)
def col (t:List Row) (h:Nat):List (Int × Int):=t.map fun r=>at_ r h
def sumP (cs:List (Int × Int)):Int × Int:=((cs.map (·.1)).sum,(cs.map (·.2)).sum)
def sums (t:List Row) (m:Nat):Row:=(List.range m).map fun h=>sumP (col t h)
theorem at_get {n m:Nat} {r:Row} (o:RowN n m r) {h:Nat} (hh:h < m):r[h]? = some (at_ r h) /\ Cnt n (at_ r h).1 (at_ r h).2:=by
 have hl:h < r.length:=by rw [o.1]; exact hh
 have e:r[h]? = some (at_ r h):=by
  unfold at_
  rw [List.getD_eq_getElem?_getD]
  simp [hl]
 exact ⟨e,o.2 _ (List.mem_of_getElem? e)⟩
theorem row_at {n m:Nat} {r:Row} (o:RowN n m r) {h:Int} {Q:D -> Prop} (h0:0 <= h) (h1:h < m) (q:Q (pairD (at_ r h.toNat))):opt (atI (r.map pairD) h) Q:=by
 refine opt_at h0 ?_ q
 rw [List.getElem?_map,(at_get o (h:=h.toNat) (by omega)).1]
 rfl
def gWith:DSp:=fun ds Q=>match ds with
 | [.int x,.int lo,.int hi]=>(lo <= x /\ x <= hi) /\ Q (.bl true)
 | _=>False
theorem m_is_within:MonoS gWith:=fun ds P P' f h=>by
 unfold gWith at h ⊢
 split at h
 ·exact ⟨h.1,f _ h.2⟩
 ·exact h.elim
theorem g_is_within (T:Tx K mg):FnOk P w K mg base CX0 2 T.f_is_within T.fd_is_within ["thing","least","most"] (spD K 3 gWith):=by
 refine fnD (k:=1) T.d_is_within.F sc_is_within (fun cdv A outer s H E hr=>(dss_one (ds_ret (de_and (de_call (g_is_whole T) m_is_whole (hr.mono (by decide)) rfl T.d_is_whole.m T.d_is_whole.F.kp T.d_is_whole.b (da_cons (de_var 0 (pv 0)) da_nil)) (de_one (de_chain od_le od_le (de_var 1 (pv 1)) (de_var 0 (pv 0)) (de_var 2 (pv 2)))))))) (fun ds Q hl h=>?_)
 unfold gWith at h
 split at h
 case h_2=>exact h.elim
 rename_i x lo hi
 obtain ⟨⟨h1,h2⟩,h⟩:=h
 have h':Q (.bl (decide (x <= hi))):=by rw [decide_eq_true h2]; exact h
 exact ⟨rfl,rfl,Br.t (Br.dt h1 h')⟩
def gChH:DSp:=fun ds Q=>match ds with
 | [.int m,.int h]=>(0 <= h /\ h < m) /\ Q .non
 | _=>False
theorem m_check_house:MonoS gChH:=fun ds P P' f h=>by
 unfold gChH at h ⊢
 split at h
 ·exact ⟨h.1,f _ h.2⟩
 ·exact h.elim
theorem g_check_house (T:Tx K mg):FnOk P w K mg base CX0 3 T.f_check_house T.fd_check_house ["many","house"] (spD K 2 gChH):=by
 refine fnD (k:=2) T.d_check_house.F sc_check_house (fun cdv A outer s H E hr=>(dss_one (ds_if (dt_not (dt_val (de_call (g_is_within T) m_is_within (hr.mono (by decide)) rfl T.d_is_within.m T.d_is_within.F.kp T.d_is_within.b (da_cons (de_var 1 (pv 1)) (da_cons de_int (da_cons (de_op od_sub (de_var 0 (pv 0)) de_int) da_nil)))))) (dss_one ds_never) dss_nil))) (fun ds Q hl h=>?_)
 unfold gChH at h
 split at h
 case h_2=>exact h.elim
 obtain ⟨⟨h1,h2⟩,h⟩:=h
 exact ⟨rfl,⟨h1,by omega⟩,Br.f h⟩
def gHs:DSp:=fun ds Q=>match ds with
 | [.lst (.tup xs :: _)]=>Q (.int xs.length)
 | _=>False
theorem m_houses_of:MonoS gHs:=fun ds P P' f h=>by
 unfold gHs at h ⊢
 split at h
 ·exact f _ h
 ·exact h.elim
theorem g_houses_of (T:Tx K mg):FnOk P w K mg base CX0 1 T.f_houses_of T.fd_houses_of ["table"] (spD K 1 gHs):=by
 refine fnD (k:=0) T.d_houses_of.F sc_houses_of (fun cdv A outer s H E hr=>(dss_one (ds_ret (de_callB cd_len rfl T.z_len PySem.boot_len (da_cons (de_ix (de_var 0 (pv 0)) de_int (fun _ _=>rfl)) da_nil))))) (fun ds Q hl h=>?_)
 unfold gHs at h
 split at h
 case h_2=>exact h.elim
 rename_i xs r
 exact opt_at (Int.le_refl 0) rfl h
theorem tbl_houses {m:Nat} {t:List Row} (o:Tbl m t) {Q:D -> Prop} (q:Q (.int m)):gHs [.lst (t.map rowD)] Q:=by
 cases t with
 | nil=>have:=o.p1; simp at this
 | cons r rest =>
  have:=(o.rows r List.mem_cons_self).1
  show Q (.int ((r.map pairD).length:Nat))
  rw [List.length_map,this]
  exact q
theorem coll_col {m:Nat} {t:List Row} (ho:∀ r ∈ t,RowOk m r) (hl:t.length <= 1000) {h:Int} (h0:0 <= h) (h1:h < m) {s:Sl} {Q:List D -> Prop} (q:Q ((col t h.toNat).map pairD)) :
  dColl (dgName 0) dNoTest (dOp gIx (dVar 0) (dVar 1)) (t.map rowD) [] [s,.val (.int h)] Q:=by
 refine dColl_pre (fun pre acc ρ=>∃ t0 t1:List Row,t = t0 ++ t1 /\ pre = t0.map rowD /\ acc = (col t0 h.toNat).map pairD /\ ∃ s,ρ = [s,.val (.int h)]) (fun acc ρ hN=>?_) (fun pre d post acc ρ Y e hN hY=>?_) _ ⟨[],t,rfl,rfl,rfl,_,rfl⟩
 ·obtain ⟨t0,t1,rfl,e,rfl,_⟩:=hN
  have:t1 = []:=by
   have:=congrArg List.length e
   simp at this
   exact this
  subst this
  simpa using q
 ·obtain ⟨t0,t1,rfl,rfl,rfl,s,rfl⟩:=hN
  rw [List.map_append] at e
  have e:=List.append_cancel_left e
  cases t1 with
  | nil=>simp at e
  | cons r t1 =>
   rw [List.map_cons] at e
   injection e with e1 e2
   subst e1
   have o:=ho r (by simp)
   refine Br.t (row_at o h0 h1 ⟨?_,hY _ _ ⟨t0 ++ [r],t1,by simp,by simp,by simp [col],_,rfl⟩⟩)
   rw [List.length_map]
   unfold col
   rw [List.length_map]
   have:t0.length <= 1000:=by rw [List.length_append] at hl; omega
   exact Nat.lt_of_le_of_lt this (by decide)
def gTbh:DSp:=fun ds Q=>match ds with
 | [.int m,.lst xs]=>∃ (n:Nat) (t:List Row),m = n /\ xs = t.map rowD /\ (n <= 6 /\ t.length <= 1000 /\ ∀ r ∈ t,RowOk n r) /\ Q (rowD (sums t n))
 | _=>False
theorem m_together_by_house:MonoS gTbh:=fun ds P P' f h=>by
 unfold gTbh at h ⊢
 split at h
 ·obtain ⟨n,t,a,b,c,h⟩:=h
  exact ⟨n,t,a,b,c,f _ h⟩
 ·exact h.elim
theorem intsD_map:∀ (n:Nat) (lo:Int),intsD lo n = (List.range n).map fun (i:Nat)=>D.int (lo + i)
 | 0,_=>rfl
 | n + 1,lo=>by
  rw [List.range_succ_eq_map,List.map_cons,List.map_map,intsD,intsD_map n (lo + 1)]
  congr 1
  ·simp
  ·apply List.map_congr_left
   intro i _
   simp only [Function.comp]
   congr 1
   omega
theorem g_together_by_house (T:Tx K mg):FnOk P w K mg base CX0 2 T.f_together_by_house T.fd_together_by_house ["many","rows"] (spD K 2 gTbh):=by
 refine fnD (k:=1) T.d_together_by_house.F sc_together_by_house (fun cdv A outer s H E hr=>(dss_one (ds_ret (de_callTy cd_tuple rfl T.z_tuple rfl (da_cons (de_frz (PCD.pld (dl_comp (N':=["house","rows"]) rfl rfl (by decide +kernel) rfl (.own (.cap (j:=1) rfl (by first | exact Or.inl rfl | exact Or.inr rfl) rfl .nil)) (by decide +kernel) (di_range1 rfl T.z_range (da_cons (de_var 0 (pv 0)) da_nil)) (fun B=>(dg_name (i:=0) (show List.Nodup (α:=PySem.Str) ["house","rows"] by decide +kernel) rfl (by first | exact Or.inl rfl | exact Or.inr rfl))) (fun B=>dts_nil) (fun B=>(de_call (g_together T) m_together (hr.mono (by decide)) rfl T.d_together.m T.d_together.F.kp T.d_together.b (da_cons (de_frz (PCD.pld (dl_comp (N':=["row","house"]) rfl rfl (by decide +kernel) rfl (.own (.cap (j:=0) rfl (by first | exact Or.inl rfl | exact Or.inr rfl) rfl .nil)) (by decide +kernel) (di_any (de_var 1 (pv 1))) (fun B=>(dg_name (i:=0) (show List.Nodup (α:=PySem.Str) ["row","house"] by decide +kernel) rfl (by first | exact Or.inl rfl | exact Or.inr rfl))) (fun B=>dts_nil) (fun B=>(de_ix (de_var 0 (pv 0)) (de_var 1 (pv 1)) (fun _ _=>rfl)))))) da_nil)))))) da_nil))))) (fun ds Q hl h=>?_)
 unfold gTbh at h
 split at h
 case h_2=>exact h.elim
 obtain ⟨n,t,rfl,rfl,⟨h6,h1000,ho⟩,h⟩:=h
 refine ⟨⟨by omega,by omega⟩,?_⟩
 rw [Int.toNat_natCast]
 refine dColl_map (fun d=>match d with | .int i=>pairD (sumP (col t i.toNat)) | _=>.non) (fun ρ=>∃ s,ρ = [s,.val (.lst (t.map rowD))]) ?_ (fun d hd ρ Y Z hN hY=>?_) _ ⟨_,rfl⟩ ?_
 ·rw [intsD_map,List.length_map,List.length_range]
  exact Nat.le_trans h6 (by decide)
 ·obtain ⟨s,rfl⟩:=hN
  rw [intsD_map] at hd
  obtain ⟨i,hi,rfl⟩:=List.mem_map.mp hd
  have hi:=List.mem_range.mp hi
  refine Br.t (coll_col ho h1000 (by omega) (by omega) ⟨rfl,col t (0 + (i:Int)).toNat,rfl,?_,hY _ ⟨_,rfl⟩⟩)
  unfold col
  rw [List.length_map]
  exact h1000
 ·show Q (.tup (List.map _ (intsD 0 n)))
  have e:(intsD 0 n).map (fun d=>match d with | .int i=>pairD (sumP (col t i.toNat)) | _=>.non) = (sums t n).map pairD:=by
   rw [intsD_map,List.map_map]
   unfold sums
   rw [List.map_map]
   apply List.map_congr_left
   intro i _
   show pairD (sumP (col t (0 + (i:Int)).toNat)) = pairD (sumP (col t i))
   congr 3
   omega
  rw [e]
  exact h
def gSums:DSp:=fun ds Q=>match ds with
 | [.lst xs]=>∃ (n:Nat) (t:List Row),xs = t.map rowD /\ Tbl n t /\ Q (rowD (sums t n))
 | _=>False
theorem m_sums_of:MonoS gSums:=fun ds P P' f h=>by
 unfold gSums at h ⊢
 split at h
 ·obtain ⟨n,t,a,b,h⟩:=h
  exact ⟨n,t,a,b,f _ h⟩
 ·exact h.elim
theorem g_sums_of (T:Tx K mg):FnOk P w K mg base CX0 3 T.f_sums_of T.fd_sums_of ["table"] (spD K 1 gSums):=by
 refine fnD (k:=2) T.d_sums_of.F sc_sums_of (fun cdv A outer s H E hr=>(dss_one (ds_ret (de_call (g_together_by_house T) m_together_by_house (hr.mono (by decide)) rfl T.d_together_by_house.m T.d_together_by_house.F.kp T.d_together_by_house.b (da_cons (de_call (g_houses_of T) m_houses_of (hr.mono (by decide)) rfl T.d_houses_of.m T.d_houses_of.F.kp T.d_houses_of.b (da_cons (de_var 0 (pv 0)) da_nil)) (da_cons (de_var 0 (pv 0)) da_nil)))))) (fun ds Q hl h=>?_)
 unfold gSums at h
 split at h
 case h_2=>exact h.elim
 obtain ⟨n,t,rfl,o,h⟩:=h
 refine ⟨rfl,tbl_houses o ⟨rfl,n,t,rfl,rfl,⟨o.m6,Nat.le_trans o.p60 (by decide),o.rows⟩,h⟩⟩
def gChP:DSp:=fun ds Q=>match ds with
 | [.int m,.int a,.int b]=>(0 <= a /\ a < m /\ 0 <= b /\ b < m /\ a ≠ b) /\ Q .non
 | _=>False
theorem m_check_pair:MonoS gChP:=fun ds P P' f h=>by
 unfold gChP at h ⊢
 split at h
 ·exact ⟨h.1,f _ h.2⟩
 ·exact h.elim
theorem g_check_pair (T:Tx K mg):FnOk P w K mg base CX0 4 T.f_check_pair T.fd_check_pair ["many","a","b"] (spD K 3 gChP):=by
 refine fnD (k:=3) T.d_check_pair.F sc_check_pair (fun cdv A outer s H E hr=>(dss_cons (ds_expr (de_call (g_check_house T) m_check_house (hr.mono (by decide)) rfl T.d_check_house.m T.d_check_house.F.kp T.d_check_house.b (da_cons (de_var 0 (pv 0)) (da_cons (de_var 1 (pv 1)) da_nil))))
   (dss_cons (ds_expr (de_call (g_check_house T) m_check_house (hr.mono (by decide)) rfl T.d_check_house.m T.d_check_house.F.kp T.d_check_house.b (da_cons (de_var 0 (pv 0)) (da_cons (de_var 2 (pv 2)) da_nil))))
   (dss_one (ds_if (dt_cmp (od_eq hr) (de_var 1 (pv 1)) (de_var 2 (pv 2)) (nomark _)) (dss_one ds_never) dss_nil))))) (fun ds Q hl h=>?_)
 unfold gChP at h
 split at h
 case h_2=>exact h.elim
 obtain ⟨⟨h1,h2,h3,h4,h5⟩,h⟩:=h
 refine ⟨rfl,⟨h1,h2⟩,rfl,⟨h3,h4⟩,⟨rfl,rfl⟩,fun z=>?_,fun _=>h⟩
 exact absurd (by simpa [eqD_int] using z) h5
def saidR (a b:Nat) (r:Row):D:=saidD (at_ r a).1 (at_ r a).2 (at_ r b).1 (at_ r b).2
theorem coll_said {g:DSp} (hg:∀ (c d:Int × Int) (Q:D -> Prop),Cnt 256 c.1 c.2 -> Cnt 256 d.1 d.2 -> Q (saidD c.1 c.2 d.1 d.2) -> g [pairD c,pairD d] Q) {m:Nat} {t:List Row} (ho:∀ r ∈ t,RowOk m r) (hl:t.length <= 1000) {a b:Int} (a0:0 <= a) (a1:a < m) (b0:0 <= b) (b1:b < m) {s:Sl} {Q:List D -> Prop} (q:Q (t.map (saidR a.toNat b.toNat))) :
  dColl (dgName 0) dNoTest (dCall 2 g (daCons (dOp gIx (dVar 0) (dVar 1)) (daCons (dOp gIx (dVar 0) (dVar 2)) daNil))) (t.map rowD) [] [s,.val (.int a),.val (.int b)] Q:=by
 refine dColl_pre (fun pre acc ρ=>∃ t0 t1:List Row,t = t0 ++ t1 /\ pre = t0.map rowD /\ acc = t0.map (saidR a.toNat b.toNat) /\ ∃ s,ρ = [s,.val (.int a),.val (.int b)]) (fun acc ρ hN=>?_) (fun pre d post acc ρ Y e hN hY=>?_) _ ⟨[],t,rfl,rfl,rfl,_,rfl⟩
 ·obtain ⟨t0,t1,rfl,e,rfl,_⟩:=hN
  have:t1 = []:=by
   have:=congrArg List.length e
   simp at this
   exact this
  subst this
  simpa using q
 ·obtain ⟨t0,t1,rfl,rfl,rfl,s,rfl⟩:=hN
  rw [List.map_append] at e
  have e:=List.append_cancel_left e
  cases t1 with
  | nil=>simp at e
  | cons r t1 =>
   rw [List.map_cons] at e
   injection e with e1 e2
   subst e1
   have o:=ho r (by simp)
   refine Br.t (row_at o a0 a1 (row_at o b0 b1 ⟨rfl,hg _ _ _ (at_get o (by omega)).2 (at_get o (by omega)).2 ⟨?_,hY _ _ ⟨t0 ++ [r],t1,by simp,by simp,by simp [saidR],_,rfl⟩⟩⟩))
   rw [List.length_map]
   have:t0.length <= 1000:=by rw [List.length_append] at hl; omega
   exact Nat.lt_of_le_of_lt this (by decide)
theorem said_ok (c d:Int × Int) (Q:D -> Prop) (hc:Cnt 256 c.1 c.2) (hd:Cnt 256 d.1 d.2) (q:Q (saidD c.1 c.2 d.1 d.2)):gSaid [pairD c,pairD d] Q :=
 ⟨⟨hc.bt.mono (by decide),hc.bw.mono (by decide),hd.bt.mono (by decide),hd.bw.mono (by decide)⟩,q⟩
def gSays:DSpN:=fun ds _ L=>match ds with
 | [.lst xs,.int a,.int b]=>∃ (n:Nat) (t:List Row),xs = t.map rowD /\ Tbl n t /\ (0 <= a /\ a < n /\ 0 <= b /\ b < n /\ a ≠ b) /\ L (t.map (saidR a.toNat b.toNat))
 | _=>False
theorem mN_says:MonoN gSays:=fun ds P P' L L' f fl h=>by
 unfold gSays at h ⊢
 split at h
 ·obtain ⟨n,t,a,b,c,h⟩:=h
  exact ⟨n,t,a,b,c,fl _ h⟩
 ·exact h.elim
theorem gN_says (T:Tx K mg):FnOk P w K mg base CX0 5 T.f_says T.fd_says ["table","a","b"] (spDN K 3 gSays):=by
 refine fnDN (k:=4) T.d_says.F sc_says (fun cdv A outer s H E hr=>(psn_cons (ds_expr (de_call (g_check_pair T) m_check_pair (hr.mono (by decide)) rfl T.d_check_pair.m T.d_check_pair.F.kp T.d_check_pair.b (da_cons (de_call (g_houses_of T) m_houses_of (hr.mono (by decide)) rfl T.d_houses_of.m T.d_houses_of.F.kp T.d_houses_of.b (da_cons (de_var 0 (pv 0)) da_nil)) (da_cons (de_var 1 (pv 1)) (da_cons (de_var 2 (pv 2)) da_nil)))))
   (psn_ret (PCD.pld (dl_comp (N':=["part","a","b"]) rfl rfl (by decide +kernel) rfl (.own (.cap (j:=1) rfl (by first | exact Or.inl rfl | exact Or.inr rfl) rfl (.cap (j:=2) rfl (by first | exact Or.inl rfl | exact Or.inr rfl) rfl .nil))) (by decide +kernel) (di_list (de_var 0 (pv 0))) (fun B=>(dg_name (i:=0) (show List.Nodup (α:=PySem.Str) ["part","a","b"] by decide +kernel) rfl (by first | exact Or.inl rfl | exact Or.inr rfl))) (fun B=>dts_nil) (fun B=>(de_call (g_said T) m_said (hr.mono (by decide)) rfl T.d_said.m T.d_said.F.kp T.d_said.b (da_cons (de_ix (de_var 0 (pv 0)) (de_var 1 (pv 1)) (fun _ _=>rfl)) (da_cons (de_ix (de_var 0 (pv 0)) (de_var 2 (pv 2)) (fun _ _=>rfl)) da_nil))))))))) (fun ds Q L hl h=>?_)
 unfold gSays at h
 split at h
 case h_2=>exact h.elim
 obtain ⟨n,t,rfl,o,⟨a0,a1,b0,b1,ab⟩,h⟩:=h
 refine ⟨rfl,tbl_houses o ⟨rfl,⟨a0,a1,b0,b1,ab⟩,?_⟩⟩
 exact coll_said said_ok o.rows (Nat.le_trans o.p60 (by decide)) a0 a1 b0 b1 h
theorem sum_bd {n:Nat}:∀ {ns:List Int},(∀ i ∈ ns,Bd n i) -> ∀ {k:Nat},ns.length <= 2 ^ k -> Bd (n + k) ns.sum:=by
 have key:∀ ns:List Int,(∀ i ∈ ns,Bd n i) -> ns.sum.natAbs <= ns.length * (2 ^ n - 1):=by
  intro ns
  induction ns with
  | nil=>intro _; simp
  | cons a r ih =>
   intro h
   have h1:=ih fun i hi=>h i (List.mem_cons_of_mem _ hi)
   have h2:a.natAbs < 2 ^ n:=h a List.mem_cons_self
   rw [List.sum_cons,List.length_cons,Nat.succ_mul]
   have:=Int.natAbs_add_le a r.sum
   omega
 intro ns h k hk
 have h1:=key ns h
 unfold Bd
 have h2:ns.length * (2 ^ n - 1) <= 2 ^ k * (2 ^ n - 1):=Nat.mul_le_mul_right _ hk
 have h3:2 ^ k * (2 ^ n - 1) < 2 ^ k * 2 ^ n:=Nat.mul_lt_mul_of_pos_left (by have:=Nat.two_pow_pos n; omega) (Nat.two_pow_pos k)
 rw [← Nat.pow_add,Nat.add_comm k n] at h3
 omega
theorem whole_cnt {m:Nat} {t:List Row} (o:Tbl m t) {h:Nat} (hh:h < m):0 <= (sumP (col t h)).2 /\ (sumP (col t h)).2 <= (sumP (col t h)).1 /\ Bd 300 (sumP (col t h)).1 /\ Bd 300 (sumP (col t h)).2:=by
 have hc:∀ c ∈ col t h,Cnt 256 c.1 c.2:=fun c hc=>by
  obtain ⟨r,hr,rfl⟩:=List.mem_map.mp hc
  exact (at_get (o.rows r hr) hh).2
 have hl:(col t h).length <= 2 ^ 10:=by
  unfold col
  rw [List.length_map]
  exact Nat.le_trans o.p60 (by decide)
 have s1:0 <= ((col t h).map (·.2)).sum /\ ((col t h).map (·.2)).sum <= ((col t h).map (·.1)).sum:=by
  generalize col t h = cs at hc
  induction cs with
  | nil=>simp
  | cons c r ih =>
   have:=ih fun d hd=>hc d (List.mem_cons_of_mem _ hd)
   have h1:=(hc c List.mem_cons_self).lo
   have h2:=(hc c List.mem_cons_self).hi
   simp only [List.map_cons,List.sum_cons]
   omega
 refine ⟨s1.1,s1.2,(sum_bd (n:=256) (k:=10) (fun i hi=>?_) (by rw [List.length_map]; exact hl)).mono (by decide),(sum_bd (n:=256) (k:=10) (fun i hi=>?_) (by rw [List.length_map]; exact hl)).mono (by decide)⟩
 ·obtain ⟨c,hc',rfl⟩:=List.mem_map.mp hi
  exact (hc c hc').bt
 ·obtain ⟨c,hc',rfl⟩:=List.mem_map.mp hi
  exact (hc c hc').bw
theorem sums_at {m:Nat} {t:List Row} {h:Int} {Q:D -> Prop} (h0:0 <= h) (h1:h < m) (q:Q (pairD (sumP (col t h.toNat)))):opt (atI ((sums t m).map pairD) h) Q:=by
 refine opt_at h0 ?_ q
 unfold sums
 rw [List.getElem?_map,List.getElem?_map,List.getElem?_range (by omega)]
 rfl
def lowP (a b:Int):Int × Int:=(a.fdiv (if b < 0 then -((Int.gcd a b:Nat):Int) else ((Int.gcd a b:Nat):Int)),b.fdiv (if b < 0 then -((Int.gcd a b:Nat):Int) else ((Int.gcd a b:Nat):Int)))
theorem lowP_low {a b:Int} (hb:b ≠ 0):Ra.Low a b (lowP a b).1 (lowP a b).2:=Ra.low_of hb rfl
theorem low_eq {a b x y:Int} (hb:b ≠ 0) (l:Ra.Low a b x y):x = (lowP a b).1 /\ y = (lowP a b).2:=l.uniq hb (lowP_low hb)
def ratD (a b:Int):D:=.tup [.int (lowP a b).1,.int (lowP a b).2]
theorem rat_of {a b:Int} (hb:b ≠ 0) {Q:D -> Prop} (q:Q (ratD a b)):∀ x y,Ra.Low a b x y -> Q (.tup [.int x,.int y]):=fun x y l=>by
 obtain ⟨e1,e2⟩:=low_eq hb l
 rw [e1,e2]
 exact q
def shareD (c:Int × Int):D:=if c.1 = 0 then .non else ratD c.2 c.1
theorem share_ok {c:Int × Int} {Q:D -> Prop} {n:Nat} (hn:n <= 7000) (bt:Bd n c.1) (bw:Bd n c.2) (q:Q (shareD c)):gShare [pairD c] Q:=by
 refine ⟨⟨bt.mono hn,bw.mono hn⟩,fun e=>?_,fun e=>rat_of e ?_⟩
 ·unfold shareD at q; rw [if_pos e] at q; exact q
 ·unfold shareD at q; rw [if_neg e] at q; exact q
def gWC:DSp:=fun ds Q=>match ds with
 | [.lst xs,.int h]=>∃ (n:Nat) (t:List Row),xs = t.map rowD /\ Tbl n t /\ (0 <= h /\ h < n) /\ (sumP (col t h.toNat)).1 ≠ 0 /\ Q (pairD (sumP (col t h.toNat)))
 | _=>False
theorem m_whole_count:MonoS gWC:=fun ds P P' f h=>by
 unfold gWC at h ⊢
 split at h
 ·obtain ⟨n,t,a,b,c,d,h⟩:=h
  exact ⟨n,t,a,b,c,d,f _ h⟩
 ·exact h.elim
theorem g_whole_count (T:Tx K mg):FnOk P w K mg base CX0 4 T.f_whole_count T.fd_whole_count ["table","house"] (spD K 2 gWC):=by
 refine fnD (k:=3) T.d_whole_count.F sc_whole_count (fun cdv A outer s H E hr=>(dss_cons (ds_expr (de_call (g_check_house T) m_check_house (hr.mono (by decide)) rfl T.d_check_house.m T.d_check_house.F.kp T.d_check_house.b (da_cons (de_call (g_houses_of T) m_houses_of (hr.mono (by decide)) rfl T.d_houses_of.m T.d_houses_of.F.kp T.d_houses_of.b (da_cons (de_var 0 (pv 0)) da_nil)) (da_cons (de_var 1 (pv 1)) da_nil))))
   (dss_cons (ds_set (i:=2) sc_whole_count.nd rfl (by first | exact Or.inl rfl | exact Or.inr rfl) (de_ix (de_call (g_sums_of T) m_sums_of (hr.mono (by decide)) rfl T.d_sums_of.m T.d_sums_of.F.kp T.d_sums_of.b (da_cons (de_var 0 (pv 0)) da_nil)) (de_var 1 (pv 1)) (fun _ _=>rfl)))
   (dss_cons (ds_if (dt_cmp (od_eq hr) (de_ix (de_var 2 (pv 2)) de_int (fun _ _=>rfl)) de_int (nomark _)) (dss_one ds_never) dss_nil)
   (dss_one (ds_ret (de_var 2 (pv 2)))))))) (fun ds Q hl h=>?_)
 unfold gWC at h
 split at h
 case h_2=>exact h.elim
 obtain ⟨n,t,rfl,o,⟨h0,h1⟩,hs,h⟩:=h
 refine ⟨rfl,tbl_houses o ⟨rfl,⟨h0,h1⟩,rfl,n,t,rfl,o,sums_at h0 h1 ⟨⟨rfl,rfl⟩,fun z=>?_,fun _=>h⟩⟩⟩
 exact absurd (by simpa [eqD_int] using z) hs
theorem coll_share {m:Nat} {t:List Row} (ho:∀ r ∈ t,RowOk m r) (hl:t.length <= 1000) {h:Int} (h0:0 <= h) (h1:h < m) {s:Sl} {Q:List D -> Prop} (q:Q ((col t h.toNat).map shareD)) :
  dColl (dgName 0) dNoTest (dCall 1 gShare (daCons (dOp gIx (dVar 0) (dVar 1)) daNil)) (t.map rowD) [] [s,.val (.int h)] Q:=by
 refine dColl_pre (fun pre acc ρ=>∃ t0 t1:List Row,t = t0 ++ t1 /\ pre = t0.map rowD /\ acc = (col t0 h.toNat).map shareD /\ ∃ s,ρ = [s,.val (.int h)]) (fun acc ρ hN=>?_) (fun pre d post acc ρ Y e hN hY=>?_) _ ⟨[],t,rfl,rfl,rfl,_,rfl⟩
 ·obtain ⟨t0,t1,rfl,e,rfl,_⟩:=hN
  have:t1 = []:=by
   have:=congrArg List.length e
   simp at this
   exact this
  subst this
  simpa using q
 ·obtain ⟨t0,t1,rfl,rfl,rfl,s,rfl⟩:=hN
  rw [List.map_append] at e
  have e:=List.append_cancel_left e
  cases t1 with
  | nil=>simp at e
  | cons r t1 =>
   rw [List.map_cons] at e
   injection e with e1 e2
   subst e1
   have o:=ho r (by simp)
   have c:=(at_get o (h:=h.toNat) (by omega)).2
   refine Br.t (row_at o h0 h1 ⟨rfl,share_ok (n:=256) (by decide) c.bt c.bw ⟨?_,hY _ _ ⟨t0 ++ [r],t1,by simp,by simp,by simp [col],_,rfl⟩⟩⟩)
   rw [List.length_map]
   unfold col
   rw [List.length_map]
   have:t0.length <= 1000:=by rw [List.length_append] at hl; omega
   exact Nat.lt_of_le_of_lt this (by decide)
def gShIn:DSp:=fun ds Q=>match ds with
 | [.lst xs,.int h]=>∃ (n:Nat) (t:List Row),xs = t.map rowD /\ Tbl n t /\ (0 <= h /\ h < n) /\ Q (.lst ((col t h.toNat).map shareD))
 | _=>False
theorem m_shares_in:MonoS gShIn:=fun ds P P' f h=>by
 unfold gShIn at h ⊢
 split at h
 ·obtain ⟨n,t,a,b,c,h⟩:=h
  exact ⟨n,t,a,b,c,f _ h⟩
 ·exact h.elim
theorem g_shares_in (T:Tx K mg):FnOk P w K mg base CX0 4 T.f_shares_in T.fd_shares_in ["table","house"] (spD K 2 gShIn):=by
 refine fnD (k:=3) T.d_shares_in.F sc_shares_in (fun cdv A outer s H E hr=>(dss_one (ds_ret (de_frz (PCD.pld (dl_comp (N':=["part","house"]) rfl rfl (by decide +kernel) rfl (.own (.cap (j:=1) rfl (by first | exact Or.inl rfl | exact Or.inr rfl) rfl .nil)) (by decide +kernel) (di_list (de_var 0 (pv 0))) (fun B=>(dg_name (i:=0) (show List.Nodup (α:=PySem.Str) ["part","house"] by decide +kernel) rfl (by first | exact Or.inl rfl | exact Or.inr rfl))) (fun B=>dts_nil) (fun B=>(de_call (g_share_of T) m_share_of (hr.mono (by decide)) rfl T.d_share_of.m T.d_share_of.F.kp T.d_share_of.b (da_cons (de_ix (de_var 0 (pv 0)) (de_var 1 (pv 1)) (fun _ _=>rfl)) da_nil))))))))) (fun ds Q hl h=>?_)
 unfold gShIn at h
 split at h
 case h_2=>exact h.elim
 obtain ⟨n,t,rfl,o,⟨h0,h1⟩,h⟩:=h
 exact coll_share o.rows (Nat.le_trans o.p60 (by decide)) h0 h1 h
namespace Rq
theorem cast_ne {b:Int} (hb:b ≠ 0):(b:Rat) ≠ 0:=fun h=>hb (Rat.intCast_inj.mp (by simpa using h))
theorem cross {a b c d:Int} (hb:b ≠ 0) (hd:d ≠ 0):(a:Rat) / b = (c:Rat) / d ↔ a * d = c * b:=by
 have hb':=cast_ne hb
 have hd':=cast_ne hd
 constructor
 ·intro h
  have:(a:Rat) * d = c * b:=by grind
  have:((a * d:Int):Rat) = ((c * b:Int):Rat):=by rw [Rat.intCast_mul,Rat.intCast_mul]; exact this
  exact Rat.intCast_inj.mp this
 ·intro h
  have:((a * d:Int):Rat) = ((c * b:Int):Rat):=by rw [h]
  rw [Rat.intCast_mul,Rat.intCast_mul] at this
  grind
theorem self (q:Rat):(q.num:Rat) / ((q.den:Int):Rat) = q:=by
 rw [← Rat.divInt_eq_div]; exact Rat.num_divInt_den q
theorem den_pos (q:Rat):(0:Int) < (q.den:Int):=by have:=q.den_pos; omega
theorem den_ne (q:Rat):(q.den:Int) ≠ 0:=by have:=den_pos q; omega
theorem lowQ {a b:Int} (hb:b ≠ 0):Ra.Low a b ((a:Rat) / b).num (((a:Rat) / b).den:Int):=by
 refine ⟨den_pos _,?_,?_⟩
 ·exact ((a:Rat) / b).reduced
 ·exact (cross (den_ne _) hb).mp (self ((a:Rat) / b))
theorem low {a b x y:Int} (hb:b ≠ 0) (l:Ra.Low a b x y):x = ((a:Rat) / b).num /\ y = (((a:Rat) / b).den:Int):=l.uniq hb (lowQ hb)
theorem add_eq (p q:Rat):((p.num * (q.den:Int) + q.num * (p.den:Int):Int):Rat) / (((p.den:Int) * (q.den:Int):Int):Rat) = p + q:=by
 have hp:=self p
 have hq:=self q
 have dp:=cast_ne (den_ne p)
 have dq:=cast_ne (den_ne q)
 rw [Rat.intCast_add,Rat.intCast_mul,Rat.intCast_mul,Rat.intCast_mul]
 grind
theorem sub_eq (p q:Rat):((p.num * (q.den:Int) - q.num * (p.den:Int):Int):Rat) / (((p.den:Int) * (q.den:Int):Int):Rat) = p - q:=by
 have hp:=self p
 have hq:=self q
 have dp:=cast_ne (den_ne p)
 have dq:=cast_ne (den_ne q)
 rw [Rat.intCast_sub,Rat.intCast_mul,Rat.intCast_mul,Rat.intCast_mul]
 grind
theorem mul_eq (p q:Rat):((p.num * q.num:Int):Rat) / (((p.den:Int) * (q.den:Int):Int):Rat) = p * q:=by
 have hp:=self p
 have hq:=self q
 have dp:=cast_ne (den_ne p)
 have dq:=cast_ne (den_ne q)
 rw [Rat.intCast_mul,Rat.intCast_mul]
 grind
theorem num_ne {q:Rat} (h:q ≠ 0):q.num ≠ 0:=fun z=>h (Rat.num_eq_zero.mp z)
theorem div_eq (p q:Rat) (h:q ≠ 0):((p.num * (q.den:Int):Int):Rat) / (((p.den:Int) * q.num:Int):Rat) = p / q:=by
 have hp:=self p
 have hq:=self q
 have dp:=cast_ne (den_ne p)
 have dq:=cast_ne (den_ne q)
 have nq:=cast_ne (num_ne h)
 rw [Rat.intCast_mul,Rat.intCast_mul]
 grind
structure QB (n:Nat) (q:Rat):Prop where
 nu:Bd n q.num
 de:Bd n (q.den:Int)
theorem QB.mono {m n:Nat} {q:Rat} (h:QB m q) (l:m <= n):QB n q:=⟨h.nu.mono l,h.de.mono l⟩
theorem QB.of {n:Nat} {a b:Int} (hb:b ≠ 0) (ba:Bd n a) (bb:Bd n b):QB n ((a:Rat) / b):=⟨ba.le ((lowQ hb).le hb).1,bb.le ((lowQ hb).le hb).2⟩
theorem pp_ne (p q:Rat):((p.den:Int) * (q.den:Int)) ≠ 0:=Int.mul_ne_zero (den_ne p) (den_ne q)
theorem QB.add {m n:Nat} {p q:Rat} (h:QB m p) (k:QB n q):QB (m + n + 1) (p + q):=by
 rw [← add_eq]
 exact QB.of (pp_ne p q) (((h.nu.mul k.de).add (k.nu.mul h.de)).mono (by omega)) ((h.de.mul k.de).mono (by omega))
theorem QB.sub {m n:Nat} {p q:Rat} (h:QB m p) (k:QB n q):QB (m + n + 1) (p - q):=by
 rw [← sub_eq]
 exact QB.of (pp_ne p q) (((h.nu.mul k.de).sub (k.nu.mul h.de)).mono (by omega)) ((h.de.mul k.de).mono (by omega))
theorem QB.mul {m n:Nat} {p q:Rat} (h:QB m p) (k:QB n q):QB (m + n) (p * q):=by
 rw [← mul_eq]
 exact QB.of (pp_ne p q) (h.nu.mul k.nu) (h.de.mul k.de)
theorem QB.div {m n:Nat} {p q:Rat} (h:QB m p) (k:QB n q) (hq:q ≠ 0):QB (m + n) (p / q):=by
 rw [← div_eq p q hq]
 exact QB.of (Int.mul_ne_zero (den_ne p) (num_ne hq)) (h.nu.mul k.de) (h.de.mul k.nu)
end Rq
open Rq
def ratQ (q:Rat):D:=.tup [.int q.num,.int (q.den:Int)]
theorem shp_ratQ (q:Rat):shp (ratQ q) = true:=Shp.shp (n:=1) .pair
theorem low_ratQ {a b:Int} (hb:b ≠ 0) {Q:D -> Prop} (q:Q (ratQ ((a:Rat) / b))):∀ x y,Ra.Low a b x y -> Q (.tup [.int x,.int y]):=fun x y l=>by
 obtain ⟨e1,e2⟩:=Rq.low hb l
 rw [e1,e2]
 exact q
theorem plusQ {p q:Rat} (h:QB 3000 p) (k:QB 3000 q) {Q:D -> Prop} (r:Q (ratQ (p + q))):gPlus [ratQ p,ratQ q] Q :=
 ⟨⟨pp_ne p q,h.nu,h.de,k.nu,k.de⟩,low_ratQ (pp_ne p q) (by rw [add_eq]; exact r)⟩
theorem minusQ {p q:Rat} (h:QB 3000 p) (k:QB 3000 q) {Q:D -> Prop} (r:Q (ratQ (p - q))):gMinus [ratQ p,ratQ q] Q :=
 ⟨⟨pp_ne p q,h.nu,h.de,k.nu,k.de⟩,low_ratQ (pp_ne p q) (by rw [sub_eq]; exact r)⟩
theorem timesQ {p q:Rat} (h:QB 3000 p) (k:QB 3000 q) {Q:D -> Prop} (r:Q (ratQ (p * q))):gTimes [ratQ p,ratQ q] Q :=
 ⟨⟨pp_ne p q,h.nu,h.de,k.nu,k.de⟩,low_ratQ (pp_ne p q) (by rw [mul_eq]; exact r)⟩
theorem overQ {p q:Rat} (h:QB 3000 p) (k:QB 3000 q) (hq:q ≠ 0) {Q:D -> Prop} (r:Q (ratQ (p / q))):gOver [ratQ p,ratQ q] Q :=
 ⟨⟨Int.mul_ne_zero (den_ne p) (num_ne hq),h.nu,h.de,k.nu,k.de⟩,low_ratQ (Int.mul_ne_zero (den_ne p) (num_ne hq)) (by rw [div_eq p q hq]; exact r)⟩
theorem lessQ {p q:Rat} (h:QB 7000 p) (k:QB 7000 q) {Q:D -> Prop} (r:Q (.bl (decide (p < q)))):gLess [ratQ p,ratQ q] Q:=by
 refine ⟨⟨h.nu,h.de,k.nu,k.de⟩,?_⟩
 have e:decide (p.num * (q.den:Int) < q.num * (p.den:Int)) = decide (p < q):=decide_eq_decide.mpr (Rat.lt_iff p q).symm
 rw [e]
 exact r
def gTot:Nat -> DSp
 | 0=>fun _ _=>False
 | n + 1=>fun ds Q=>∃ qs:List Rat,ds = [.lst (qs.map ratQ)] /\ qs.length <= 2 ^ n /\ (∀ l,l <:+: qs -> QB 3000 l.sum) /\ Q (ratQ qs.sum)
theorem m_tot:∀ n,MonoS (gTot n)
 | 0=>fun ds P P' f h=>h
 | n + 1=>fun ds P P' f h=>by
  obtain ⟨qs,a,b,c,h⟩:=h
  exact ⟨qs,a,b,c,f _ h⟩
theorem cut_lo (qs:List Rat) (h:Nat) (hh:h <= qs.length):cutD (qs.map ratQ) none (some (h:Int)) = (qs.take h).map ratQ:=by
 have e1:HT.sIx (qs.map ratQ).length 0 none = 0:=rfl
 have e2:HT.sIx (qs.map ratQ).length (qs.map ratQ).length (some (h:Int)) = h:=by
  rw [List.length_map]
  unfold HT.sIx
  simp
  rw [if_neg (by omega)]
  omega
 unfold cutD
 rw [e1,e2,List.drop_zero,Nat.sub_zero,List.map_take]
theorem cut_hi (qs:List Rat) (h:Nat) (hh:h <= qs.length):cutD (qs.map ratQ) (some (h:Int)) none = (qs.drop h).map ratQ:=by
 have e1:HT.sIx (qs.map ratQ).length 0 (some (h:Int)) = h:=by
  rw [List.length_map]
  unfold HT.sIx
  simp
  rw [if_neg (by omega)]
  omega
 have e2:HT.sIx (qs.map ratQ).length (qs.map ratQ).length none = (qs.map ratQ).length:=rfl
 unfold cutD
 rw [e1,e2,List.map_drop]
 apply List.take_of_length_le
 rw [List.length_drop]
 exact Nat.le_refl _
theorem sum_app:∀ a b:List Rat,(a ++ b).sum = a.sum + b.sum
 | [],b=>by rw [List.nil_append,List.sum_nil,Rat.zero_add]
 | x :: a,b=>by rw [List.cons_append,List.sum_cons,List.sum_cons,sum_app a b,Rat.add_assoc]
theorem g_tot (T:Tx K mg):∀ n:Nat,FnOk P w K mg base CX0 (n + 3) T.f_total T.fd_total ["ratios"] (spD K 1 (gTot n))
 | 0=>⟨fun vs H Q E h=>by obtain ⟨_,_,_,_,_,_,h⟩:=h; exact h.elim,fun A outer s H args us vs Q E _ _ _ _ h=>by obtain ⟨_,_,_,_,_,_,h⟩:=h; exact h.elim⟩
 | n + 1=>by
  have g_total:=fun (_:Tx K mg)=>g_tot T n
  have m_total:=m_tot n
  refine fnD (k:=n + 3) T.d_total.F sc_total (fun cdv A outer s H E hr=>(dss_cons (ds_if (dt_cmp (od_eq hr) (de_callB cd_len rfl T.z_len PySem.boot_len (da_cons (de_var 0 (pv 0)) da_nil)) de_int (nomark _)) (dss_one (ds_ret (de_tup (da_cons de_int (da_cons de_int da_nil))))) dss_nil)
   (dss_cons (ds_if (dt_cmp (od_eq hr) (de_callB cd_len rfl T.z_len PySem.boot_len (da_cons (de_var 0 (pv 0)) da_nil)) de_int (nomark _)) (dss_one (ds_ret (de_ix (de_var 0 (pv 0)) de_int (fun _ _=>rfl)))) dss_nil)
   (dss_cons (ds_set (i:=1) sc_total.nd rfl (by first | exact Or.inl rfl | exact Or.inr rfl) (de_op od_fdiv (de_callB cd_len rfl T.z_len PySem.boot_len (da_cons (de_var 0 (pv 0)) da_nil)) de_int))
   (dss_one (ds_ret (de_call (g_plus T) m_plus (hr.mono (by omega)) rfl T.d_plus.m T.d_plus.F.kp T.d_plus.b (da_cons (de_call (g_total T) m_total (hr.mono (by omega)) rfl T.d_total.m T.d_total.F.kp T.d_total.b (da_cons (de_frz (dl_slL (de_var 0 (pv 0)) do_none (do_some (de_var 1 (pv 1))))) da_nil)) (da_cons (de_call (g_total T) m_total (hr.mono (by omega)) rfl T.d_total.m T.d_total.F.kp T.d_total.b (da_cons (de_frz (dl_slL (de_var 0 (pv 0)) (do_some (de_var 1 (pv 1))) do_none)) da_nil)) da_nil))))))))) (fun ds Q hl h=>?_)
  obtain ⟨qs,rfl,hn,hb,h⟩:=h
  have hlm:(qs.map ratQ).length = qs.length:=List.length_map ..
  refine ⟨⟨rfl,rfl⟩,fun z=>?_,fun z=>⟨⟨rfl,rfl⟩,fun z1=>?_,fun z1=>?_⟩⟩
  ·have z:((qs.map ratQ).length:Int) = 0:=by simpa [eqD_int] using z
   have:qs = []:=List.length_eq_zero_iff.mp (by omega)
   subst this
   exact ⟨sz,h⟩
  ·have z1:((qs.map ratQ).length:Int) = 1:=by simpa [eqD_int] using z1
   obtain ⟨q,rfl⟩:∃ q,qs = [q]:=List.length_eq_one_iff.mp (by omega)
   rw [List.sum_cons,List.sum_nil,Rat.add_zero] at h
   show opt (atI [ratQ q] 0) Q
   exact opt_at (d:=ratQ q) (Int.le_refl 0) rfl h
  ·have z:((qs.map ratQ).length:Int) ≠ 0:=by simpa [eqD_int] using z
   have z1:((qs.map ratQ).length:Int) ≠ 1:=by simpa [eqD_int] using z1
   have hl2:2 <= qs.length:=by omega
   refine ⟨⟨by decide,big_small (by decide) (by decide)⟩,?_⟩
   have eh:((qs.map ratQ).length:Int) / 2 = ((qs.length / 2:Nat):Int):=by omega
   dsimp only
   rw [eh]
   generalize hq:qs.length / 2 = hf
   have c1:=cut_lo qs hf (by omega)
   have c2:=cut_hi qs hf (by omega)
   cases n with
   | zero=>simp at hn; omega
   | succ n =>
    have pw:2 ^ (n + 1) = 2 * 2 ^ n:=by rw [Nat.pow_succ]; omega
    have p1:qs.take hf <:+: qs:=(List.take_prefix hf qs).isInfix
    have p2:qs.drop hf <:+: qs:=(List.drop_suffix hf qs).isInfix
    refine ⟨rfl,qs.take hf,congrArg (fun x=>[D.lst x]) c1,by rw [List.length_take]; omega,fun l hl=>hb l (hl.trans p1),?_⟩
    refine ⟨rfl,qs.drop hf,congrArg (fun x=>[D.lst x]) c2,by rw [List.length_drop]; omega,fun l hl=>hb l (hl.trans p2),?_⟩
    refine ⟨rfl,plusQ (hb _ p1) (hb _ p2) ?_⟩
    rw [← sum_app,List.take_append_drop]
    exact h
def optQ:Option Rat -> D
 | none=>.non
 | some q=>ratQ q
def oq (xs:List (Option Rat)) (k:Nat):Option Rat:=xs.getD k none
def vq (xs:List (Option Rat)) (k:Nat):Rat:=(oq xs k).getD 0
def plq (xs:List (Option Rat)) (n:Nat):List Nat:=(List.range n).filter fun k=>(oq xs k).isSome
def stepq (xs:List (Option Rat)) (st:Nat × Nat) (k:Nat):Nat × Nat:=(if vq xs k < vq xs st.1 then k else st.1,if vq xs st.2 < vq xs k then k else st.2)
def endsq (xs:List (Option Rat)):Nat × Nat:=match plq xs xs.length with
 | []=>(0,0)
 | p :: ps=>(p :: ps).foldl (stepq xs) (p,p)
def endsqD (xs:List (Option Rat)):D:=.tup [ratQ (vq xs (endsq xs).1),.int (endsq xs).1,ratQ (vq xs (endsq xs).2),.int (endsq xs).2]
theorem plq_succ (xs:List (Option Rat)) (n:Nat):plq xs (n + 1) = plq xs n ++ (if (oq xs n).isSome = true then [n] else []):=by
 unfold plq
 rw [List.range_succ,List.filter_append,List.filter_cons,List.filter_nil]
theorem oq_get {xs:List (Option Rat)} {k:Nat} (h:k < xs.length):xs[k]? = some (oq xs k):=by
 unfold oq
 rw [List.getD_eq_getElem?_getD]
 simp [h]
theorem plq_mem {xs:List (Option Rat)} {n k:Nat} (h:k ∈ plq xs n):k < n /\ oq xs k = some (vq xs k):=by
 unfold plq at h
 rw [List.mem_filter,List.mem_range] at h
 refine ⟨h.1,?_⟩
 unfold vq
 cases e:oq xs k with
 | none=>rw [e] at h; exact absurd h.2 (by simp)
 | some q=>rfl
theorem mem_plq {xs:List (Option Rat)} {n k:Nat} (h:k < n) (hs:(oq xs k).isSome = true):k ∈ plq xs n:=by
 unfold plq
 rw [List.mem_filter,List.mem_range]
 exact ⟨h,hs⟩
theorem endsq_all (xs:List (Option Rat)) (hne:plq xs xs.length ≠ []):((endsq xs).1 ∈ plq xs xs.length /\ (endsq xs).2 ∈ plq xs xs.length) /\ ∀ k ∈ plq xs xs.length,vq xs (endsq xs).1 <= vq xs k /\ vq xs k <= vq xs (endsq xs).2:=by
 have key:∀ (ks:List Nat) (st:Nat × Nat),((ks.foldl (stepq xs) st).1 ∈ ks ∨ (ks.foldl (stepq xs) st).1 = st.1) /\ ((ks.foldl (stepq xs) st).2 ∈ ks ∨ (ks.foldl (stepq xs) st).2 = st.2) /\ vq xs (ks.foldl (stepq xs) st).1 <= vq xs st.1 /\ vq xs st.2 <= vq xs (ks.foldl (stepq xs) st).2 /\ ∀ k ∈ ks,vq xs (ks.foldl (stepq xs) st).1 <= vq xs k /\ vq xs k <= vq xs (ks.foldl (stepq xs) st).2:=by
  intro ks
  induction ks with
  | nil=>intro st; exact ⟨.inr rfl,.inr rfl,Rat.le_refl,Rat.le_refl,fun k hk=>by simp at hk⟩
  | cons k r ih =>
   intro st
   rw [List.foldl_cons]
   obtain ⟨i1,i2,i3,i4,i5⟩:=ih (stepq xs st k)
   have s1:vq xs (stepq xs st k).1 <= vq xs st.1 /\ vq xs (stepq xs st k).1 <= vq xs k /\ ((stepq xs st k).1 = k ∨ (stepq xs st k).1 = st.1):=by
    unfold stepq
    dsimp only
    split
    ·exact ⟨by grind,Rat.le_refl,.inl rfl⟩
    ·exact ⟨Rat.le_refl,by grind,.inr rfl⟩
   have s2:vq xs st.2 <= vq xs (stepq xs st k).2 /\ vq xs k <= vq xs (stepq xs st k).2 /\ ((stepq xs st k).2 = k ∨ (stepq xs st k).2 = st.2):=by
    unfold stepq
    dsimp only
    split
    ·exact ⟨by grind,Rat.le_refl,.inl rfl⟩
    ·exact ⟨Rat.le_refl,by grind,.inr rfl⟩
   refine ⟨?_,?_,Rat.le_trans i3 s1.1,Rat.le_trans s2.1 i4,fun x hx=>?_⟩
   ·rcases i1 with i1 | i1
    ·exact .inl (List.mem_cons_of_mem _ i1)
    ·rw [i1]
     rcases s1.2.2 with e | e
     ·exact .inl (by rw [e]; exact List.mem_cons_self)
     ·exact .inr e
   ·rcases i2 with i2 | i2
    ·exact .inl (List.mem_cons_of_mem _ i2)
    ·rw [i2]
     rcases s2.2.2 with e | e
     ·exact .inl (by rw [e]; exact List.mem_cons_self)
     ·exact .inr e
   ·rcases List.mem_cons.mp hx with rfl | hx
    ·exact ⟨Rat.le_trans i3 s1.2.1,Rat.le_trans s2.2.1 i4⟩
    ·exact i5 x hx
 unfold endsq
 generalize hp:plq xs xs.length = ps at hne
 cases ps with
 | nil=>exact absurd rfl hne
 | cons p ps =>
  have k:=key (p :: ps) (p,p)
  refine ⟨⟨?_,?_⟩,k.2.2.2.2⟩
  ·rcases k.1 with e | e
   ·exact e
   ·dsimp only at e ⊢; rw [e]; exact List.mem_cons_self
  ·rcases k.2.1 with e | e
   ·exact e
   ·dsimp only at e ⊢; rw [e]; exact List.mem_cons_self
def gEQ:DSp:=fun ds Q=>∃ xs:List (Option Rat),ds = [.lst (xs.map optQ)] /\ (∀ q,some q ∈ xs -> QB 7000 q) /\ xs.length <= 1000 /\ plq xs xs.length ≠ [] /\ Q (endsqD xs)
theorem m_ends_among:MonoS gEQ:=fun ds P P' f h=>by
 obtain ⟨cs,a,b,c,d,h⟩:=h
 exact ⟨cs,a,b,c,d,f _ h⟩
theorem plq_B {xs:List (Option Rat)} (hb:∀ q,some q ∈ xs -> QB 7000 q) {k:Nat} (hk:k ∈ plq xs xs.length):QB 7000 (vq xs k):=by
 obtain ⟨h1,h2⟩:=plq_mem hk
 have:=oq_get h1
 rw [h2] at this
 exact hb _ (List.mem_of_getElem? this)
theorem oq_at {xs:List (Option Rat)} {k:Nat} (hk:k ∈ plq xs xs.length) {Q:D -> Prop} (q:Q (ratQ (vq xs k))):opt (atI (xs.map optQ) (k:Int)) Q:=by
 obtain ⟨h1,h2⟩:=plq_mem hk
 refine opt_at (d:=ratQ (vq xs k)) (by omega) ?_ q
 rw [Int.toNat_natCast,List.getElem?_map,oq_get h1,h2]
 rfl
theorem coll_plq {xs:List (Option Rat)} (hl:xs.length <= 1000) {x y:Sl} {Q:List D -> Prop} (q:Q ((plq xs xs.length).map fun (k:Nat)=>D.int k)) :
  dColl (dgTup 2 (dgCons (dgName 0) (dgCons (dgName 1) dgNil))) (dB (dOp (gIsN true) (dVar 1) (dC .non))) (dVar 0) (enumD 0 (xs.map optQ)) [] [x,y] Q:=by
 refine dColl_pre (fun pre acc ρ=>acc = (plq xs pre.length).map (fun (k:Nat)=>D.int k) /\ ∃ x y,ρ = [x,y]) (fun acc ρ hN=>?_) (fun pre d post acc ρ Y e hN hY=>?_) _ ⟨rfl,_,_,rfl⟩
 ·rw [hN.1,enumD_length,List.length_map]
  exact q
 ·obtain ⟨rfl,x,y,rfl⟩:=hN
  have hlen:=congrArg List.length e
  rw [enumD_length,List.length_map,List.length_append,List.length_cons] at hlen
  have hg:(enumD 0 (xs.map optQ))[pre.length]? = some d:=by
   rw [e,List.getElem?_append_right (Nat.le_refl _),Nat.sub_self]
   rfl
  obtain ⟨d',hd',rfl⟩:=enumD_get _ _ _ _ hg
  have hp:pre.length < xs.length:=by omega
  have ed:d' = optQ (oq xs pre.length):=by
   rw [List.getElem?_map,oq_get hp] at hd'
   cases hd'
   rfl
  subst ed
  have hl2:∀ m:Nat,(plq xs m).length <= m:=fun m=>by
   unfold plq
   have:=List.length_filter_le (fun k=>(oq xs k).isSome) (List.range m)
   simpa using this
  have lt:((plq xs pre.length).map (fun (k:Nat)=>D.int k)).length < sizeLine:=by
   rw [List.length_map]
   exact Nat.lt_of_le_of_lt (show (plq xs pre.length).length <= 1000 by have:=hl2 pre.length; omega) (by decide)
  have ez:((0 + pre.length:Nat):Int) = (pre.length:Int):=by omega
  have es:=plq_succ xs pre.length
  cases eo:oq xs pre.length with
  | none =>
   rw [eo] at es
   refine ⟨rfl,Br.f (hY _ _ ⟨?_,_,_,rfl⟩)⟩
   rw [List.length_append,List.length_singleton,es]
   simp
  | some v =>
   rw [eo] at es
   refine ⟨rfl,Br.t ⟨lt,hY _ _ ⟨?_,_,_,rfl⟩⟩⟩
   rw [List.length_append,List.length_singleton,es,List.map_append,ez]
   rfl
theorem g_ends_among (T:Tx K mg):FnOk P w K mg base CX0 2 T.f_ends_among T.fd_ends_among ["ratios"] (spD K 1 gEQ):=by
 refine fnD (k:=1) T.d_ends_among.F sc_ends_among (fun cdv A outer s H E hr=>(dss_cons (ds_setC (i:=1) sc_ends_among.nd rfl rfl (dl_comp (N':=["place","ratio"]) rfl rfl (by decide +kernel) rfl (.own (.own .nil)) (by decide +kernel) (di_enum rfl T.z_enumerate (da_cons (de_var 0 (pv 0)) da_nil)) (fun B=>(dg_tup (n:=2) rfl (dgs_cons (dg_name (i:=0) (show List.Nodup (α:=PySem.Str) ["place","ratio"] by decide +kernel) rfl (by first | exact Or.inl rfl | exact Or.inr rfl)) (dgs_cons (dg_name (i:=1) (show List.Nodup (α:=PySem.Str) ["place","ratio"] by decide +kernel) rfl (by first | exact Or.inl rfl | exact Or.inr rfl)) dgs_nil)))) (fun B=>(dts_one (dt_cmp od_notN (de_var 1 (pv 1)) de_non (nomark _)))) (fun B=>(de_var 0 (pv 0)))))
   (dss_cons (ds_set (i:=2) sc_ends_among.nd rfl (by first | exact Or.inl rfl | exact Or.inr rfl) (de_ix (de_var 1 (pv 1)) de_int (fun _ _=>rfl)))
   (dss_cons (ds_set (i:=3) sc_ends_among.nd rfl (by first | exact Or.inl rfl | exact Or.inr rfl) (de_ix (de_var 1 (pv 1)) de_int (fun _ _=>rfl)))
   (dss_mid (ds_for PassesOwn.never rfl (di_list (de_var 1 (pv 1))) (dg_name (i:=4) sc_ends_among.nd rfl (by first | exact Or.inl rfl | exact Or.inr rfl)) (dss_mid (ds_if (dt_val (de_call (g_less T) m_less (hr.mono (by decide)) rfl T.d_less.m T.d_less.F.kp T.d_less.b (da_cons (de_ix (de_var 0 (pv 0)) (de_var 4 (pv 4)) (fun _ _=>rfl)) (da_cons (de_ix (de_var 0 (pv 0)) (de_var 2 (pv 2)) (fun _ _=>rfl)) da_nil)))) (dss_one (ds_set (i:=2) sc_ends_among.nd rfl (by first | exact Or.inl rfl | exact Or.inr rfl) (de_var 4 (pv 4)))) dss_nil)
   (dss_one (ds_if (dt_val (de_call (g_less T) m_less (hr.mono (by decide)) rfl T.d_less.m T.d_less.F.kp T.d_less.b (da_cons (de_ix (de_var 0 (pv 0)) (de_var 3 (pv 3)) (fun _ _=>rfl)) (da_cons (de_ix (de_var 0 (pv 0)) (de_var 4 (pv 4)) (fun _ _=>rfl)) da_nil)))) (dss_one (ds_set (i:=3) sc_ends_among.nd rfl (by first | exact Or.inl rfl | exact Or.inr rfl) (de_var 4 (pv 4)))) dss_nil))))
   (dss_one (ds_ret (de_tup (da_cons (de_ix (de_var 0 (pv 0)) (de_var 2 (pv 2)) (fun _ _=>rfl)) (da_cons (de_var 2 (pv 2)) (da_cons (de_ix (de_var 0 (pv 0)) (de_var 3 (pv 3)) (fun _ _=>rfl)) (da_cons (de_var 3 (pv 3)) da_nil)))))))))))) (fun ds Q hl h=>?_)
 obtain ⟨xs,rfl,ho,hlen,hne,h⟩:=h
 refine coll_plq hlen ?_
 have mm:=(endsq_all xs hne).1
 generalize hps:plq xs xs.length = ps at hne
 obtain ⟨p,rest,rfl⟩:∃ p rest,ps = p :: rest:=by
  cases ps with
  | nil=>exact absurd rfl hne
  | cons p rest=>exact ⟨p,rest,rfl⟩
 have mem:∀ k ∈ p :: rest,k ∈ plq xs xs.length:=fun k hk=>by rw [hps]; exact hk
 refine opt_at (d:=D.int (p:Int)) (Int.le_refl 0) rfl (opt_at (d:=D.int (p:Int)) (Int.le_refl 0) rfl ?_)
 have eI:endsq xs = (p :: rest).foldl (stepq xs) (p,p):=by unfold endsq; rw [hps]
 refine ⟨fun ρ=>∃ s:Sl,ρ = [.val (.lst (xs.map optQ)),.val (.lst ((p :: rest).map fun (k:Nat)=>D.int k)),.val (.int (endsq xs).1),.val (.int (endsq xs).2),s],?_,?_⟩
 ·refine dLoop_pre (fun pre ρ=>∃ ks ks':List Nat,p :: rest = ks ++ ks' /\ pre = ks.map (fun (k:Nat)=>D.int k) /\ (ks.foldl (stepq xs) (p,p)).1 ∈ p :: rest /\ (ks.foldl (stepq xs) (p,p)).2 ∈ p :: rest /\ ∃ s:Sl,ρ = [.val (.lst (xs.map optQ)),.val (.lst ((p :: rest).map fun (k:Nat)=>D.int k)),.val (.int (ks.foldl (stepq xs) (p,p)).1),.val (.int (ks.foldl (stepq xs) (p,p)).2),s]) (fun ρ hN=>?_) (fun pre d post ρ X e hN hX=>?_) _ ⟨[],p :: rest,rfl,rfl,List.mem_cons_self,List.mem_cons_self,_,rfl⟩
  ·obtain ⟨ks,ks',e1,e2,_,_,s,rfl⟩:=hN
   have:ks' = []:=by
    have:=congrArg List.length e2
    have h2:=congrArg List.length e1
    simp only [List.length_map,List.length_append] at this h2
    exact List.length_eq_zero_iff.mp (by omega)
   subst this
   rw [List.append_nil] at e1
   rw [eI,e1]
   exact ⟨s,rfl⟩
  ·obtain ⟨ks,ks',e1,rfl,m1,m2,s,rfl⟩:=hN
   rw [e1,List.map_append] at e
   have e:=List.append_cancel_left e
   cases ks' with
   | nil=>simp at e
   | cons k ks' =>
    rw [List.map_cons] at e
    injection e with e3 e4
    subst e3
    have mk:k ∈ p :: rest:=by rw [e1]; simp
    have fs:(ks ++ [k]).foldl (stepq xs) (p,p) = stepq xs (ks.foldl (stepq xs) (p,p)) k:=by rw [List.foldl_append]; rfl
    generalize ks.foldl (stepq xs) (p,p) = st at m1 m2 fs
    have bk:=plq_B ho (mem k mk)
    have b1:=plq_B ho (mem _ m1)
    have b2:=plq_B ho (mem _ m2)
    have hm:∀ {x y:Nat} {c:Prop} [Decidable c],x ∈ p :: rest -> y ∈ p :: rest -> (if c then x else y) ∈ p :: rest:=fun hx hy=>by split <;> assumption
    have hX':X [.val (.lst (xs.map optQ)),.val (.lst ((p :: rest).map fun (k:Nat)=>D.int k)),.val (.int (stepq xs st k).1),.val (.int (stepq xs st k).2),.val (.int (k:Int))]:=by
     refine hX _ ⟨ks ++ [k],ks',by rw [e1]; simp,by simp,?_,?_,.val (.int (k:Int)),?_⟩
     ·rw [fs]; exact hm mk m1
     ·rw [fs]; exact hm mk m2
     ·rw [fs]
    refine ⟨fun ρ=>ρ = [.val (.lst (xs.map optQ)),.val (.lst ((p :: rest).map fun (k:Nat)=>D.int k)),.val (.int (stepq xs st k).1),.val (.int st.2),.val (.int (k:Int))],oq_at (mem k mk) (oq_at (mem _ m1) ⟨rfl,lessQ bk b1 (Br.di (fun z=>?_) (fun z=>?_))⟩),?_⟩
    ·show _ = _
     unfold stepq
     rw [if_pos z]
     rfl
    ·show _ = _
     unfold stepq
     rw [if_neg z]
     rfl
    ·rintro _ rfl
     refine oq_at (mem _ m2) (oq_at (mem k mk) ⟨rfl,lessQ b2 bk (Br.di (fun z=>?_) (fun z=>?_))⟩)
     ·have e4:(stepq xs st k).2 = k:=by unfold stepq; rw [if_pos z]
      rw [e4] at hX'
      exact hX'
     ·have e4:(stepq xs st k).2 = st.2:=by unfold stepq; rw [if_neg z]
      rw [e4] at hX'
      exact hX'
 ·rintro _ ⟨s,rfl⟩
  exact oq_at mm.1 (oq_at mm.2 ⟨sz,h⟩)
def shQ (c:Int × Int):Rat:=(c.2:Rat) / (c.1:Rat)
def shO (c:Int × Int):Option Rat:=if c.1 = 0 then none else some (shQ c)
theorem ratD_eq {a b:Int} (hb:b ≠ 0):ratD a b = ratQ ((a:Rat) / b):=by
 obtain ⟨e1,e2⟩:=Rq.low hb (lowP_low (a:=a) hb)
 unfold ratD ratQ
 rw [e1,e2]
theorem shareD_eq (c:Int × Int):shareD c = optQ (shO c):=by
 unfold shareD shO
 split
 ·rfl
 ·rename_i h; exact ratD_eq h
theorem shareD_map (cs:Row):cs.map shareD = (cs.map shO).map optQ:=by
 rw [List.map_map]
 exact List.map_congr_left fun c _=>shareD_eq c
theorem shQ_B {n:Nat} {c:Int × Int} (h:Cnt n c.1 c.2) (h0:c.1 ≠ 0):QB n (shQ c):=QB.of h0 h.bw h.bt
theorem shO_B {n:Nat} {cs:Row} (hc:∀ c ∈ cs,Cnt n c.1 c.2):∀ q,some q ∈ cs.map shO -> QB n q:=fun q hq=>by
 obtain ⟨c,hm,e⟩:=List.mem_map.mp hq
 unfold shO at e
 split at e
 ·cases e
 ·rename_i h0
  cases e
  exact shQ_B (hc c hm) h0
theorem col_cnt {n:Nat} {t:List Row} (o:Tbl n t) {h:Nat} (hh:h < n):∀ c ∈ col t h,Cnt 256 c.1 c.2:=fun c hc=>by
 obtain ⟨r,hr,rfl⟩:=List.mem_map.mp hc
 exact (at_get (o.rows r hr) hh).2
theorem col_len {n:Nat} {t:List Row} (o:Tbl n t) {h:Nat}:(col t h).length <= 1000:=by
 unfold col
 rw [List.length_map]
 exact Nat.le_trans o.p60 (by decide)
theorem plq_ne {cs:Row} (hs:(sumP cs).1 ≠ 0):plq (cs.map shO) (cs.map shO).length ≠ []:=fun z=>by
 apply hs
 have mem0:∀ c ∈ cs,c.1 = 0:=fun c hc=>Classical.byContradiction fun h=>by
  obtain ⟨k,hk,e⟩:=List.mem_iff_getElem.mp hc
  have:k ∈ plq (cs.map shO) (cs.map shO).length:=by
   refine mem_plq (by rw [List.length_map]; exact hk) ?_
   unfold oq
   rw [List.getD_eq_getElem?_getD,List.getElem?_map,List.getElem?_eq_getElem hk,e]
   show (shO c).isSome = true
   unfold shO
   rw [if_neg h]
   rfl
  rw [z] at this
  simp at this
 show (cs.map (·.1)).sum = 0
 clear z hs
 induction cs with
 | nil=>rfl
 | cons c r ih =>
  rw [List.map_cons,List.sum_cons,mem0 c List.mem_cons_self,ih fun d hd=>mem0 d (List.mem_cons_of_mem _ hd)]
  rfl
def colO (t:List Row) (h:Int):List (Option Rat):=(col t h.toNat).map shO
def gEO:DSp:=fun ds Q=>match ds with
 | [.lst xs,.int h]=>∃ (n:Nat) (t:List Row),xs = t.map rowD /\ Tbl n t /\ (0 <= h /\ h < n) /\ (sumP (col t h.toNat)).1 ≠ 0 /\ Q (endsqD (colO t h))
 | _=>False
theorem m_ends_of:MonoS gEO:=fun ds P P' f h=>by
 unfold gEO at h ⊢
 split at h
 ·obtain ⟨n,t,a,b,c,d,h⟩:=h
  exact ⟨n,t,a,b,c,d,f _ h⟩
 ·exact h.elim
theorem g_ends_of (T:Tx K mg):FnOk P w K mg base CX0 5 T.f_ends_of T.fd_ends_of ["table","house"] (spD K 2 gEO):=by
 refine fnD (k:=4) T.d_ends_of.F sc_ends_of (fun cdv A outer s H E hr=>(dss_cons (ds_expr (de_call (g_whole_count T) m_whole_count (hr.mono (by decide)) rfl T.d_whole_count.m T.d_whole_count.F.kp T.d_whole_count.b (da_cons (de_var 0 (pv 0)) (da_cons (de_var 1 (pv 1)) da_nil))))
   (dss_one (ds_ret (de_call (g_ends_among T) m_ends_among (hr.mono (by decide)) rfl T.d_ends_among.m T.d_ends_among.F.kp T.d_ends_among.b (da_cons (de_call (g_shares_in T) m_shares_in (hr.mono (by decide)) rfl T.d_shares_in.m T.d_shares_in.F.kp T.d_shares_in.b (da_cons (de_var 0 (pv 0)) (da_cons (de_var 1 (pv 1)) da_nil))) da_nil)))))) (fun ds Q hl h=>?_)
 unfold gEO at h
 split at h
 case h_2=>exact h.elim
 obtain ⟨n,t,rfl,o,⟨h0,h1⟩,hs,h⟩:=h
 refine ⟨rfl,n,t,rfl,o,⟨h0,h1⟩,hs,rfl,n,t,rfl,o,⟨h0,h1⟩,rfl,_,by rw [shareD_map],fun q hq=>(shO_B (col_cnt o (by omega)) q hq).mono (by decide),?_,plq_ne hs,h⟩
 rw [List.length_map]
 exact col_len o
def spanQ (xs:List (Option Rat)):Rat:=vq xs (endsq xs).2 - vq xs (endsq xs).1
def gApart:DSp:=fun ds Q=>match ds with
 | [.lst xs,.int h]=>∃ (n:Nat) (t:List Row),xs = t.map rowD /\ Tbl n t /\ (0 <= h /\ h < n) /\ (sumP (col t h.toNat)).1 ≠ 0 /\ Q (ratQ (spanQ (colO t h)))
 | _=>False
theorem m_apart:MonoS gApart:=fun ds P P' f h=>by
 unfold gApart at h ⊢
 split at h
 ·obtain ⟨n,t,a,b,c,d,h⟩:=h
  exact ⟨n,t,a,b,c,d,f _ h⟩
 ·exact h.elim
theorem ends_QB {n:Nat} {xs:List (Option Rat)} (hb:∀ q,some q ∈ xs -> QB n q) (hne:plq xs xs.length ≠ []):QB n (vq xs (endsq xs).1) /\ QB n (vq xs (endsq xs).2):=by
 have key:∀ k ∈ plq xs xs.length,QB n (vq xs k):=fun k hk=>by
  obtain ⟨h1,h2⟩:=plq_mem hk
  have:=oq_get h1
  rw [h2] at this
  exact hb _ (List.mem_of_getElem? this)
 have mm:=(endsq_all xs hne).1
 exact ⟨key _ mm.1,key _ mm.2⟩
theorem g_apart (T:Tx K mg):FnOk P w K mg base CX0 6 T.f_apart T.fd_apart ["table","house"] (spD K 2 gApart):=by
 refine fnD (k:=5) T.d_apart.F sc_apart (fun cdv A outer s H E hr=>(dss_cons (ds_set (i:=2) sc_apart.nd rfl (by first | exact Or.inl rfl | exact Or.inr rfl) (de_call (g_ends_of T) m_ends_of (hr.mono (by decide)) rfl T.d_ends_of.m T.d_ends_of.F.kp T.d_ends_of.b (da_cons (de_var 0 (pv 0)) (da_cons (de_var 1 (pv 1)) da_nil))))
   (dss_one (ds_ret (de_call (g_minus T) m_minus (hr.mono (by decide)) rfl T.d_minus.m T.d_minus.F.kp T.d_minus.b (da_cons (de_ix (de_var 2 (pv 2)) de_int (fun _ _=>rfl)) (da_cons (de_ix (de_var 2 (pv 2)) de_int (fun _ _=>rfl)) da_nil))))))) (fun ds Q hl h=>?_)
 unfold gApart at h
 split at h
 case h_2=>exact h.elim
 obtain ⟨n,t,rfl,o,⟨h0,h1⟩,hs,h⟩:=h
 have eb:=ends_QB (shO_B (col_cnt o (h:=_) (by omega))) (plq_ne hs)
 exact ⟨rfl,n,t,rfl,o,⟨h0,h1⟩,hs,rfl,minusQ (eb.2.mono (by decide)) (eb.1.mono (by decide)) h⟩
def lsr (p q:Rat):Rat:=if q < p then q else p
def gLsr:DSp:=fun ds Q=>∃ p q:Rat,ds = [ratQ p,ratQ q] /\ QB 7000 p /\ QB 7000 q /\ Q (ratQ (lsr p q))
theorem m_lesser:MonoS gLsr:=fun ds P P' f h=>by
 obtain ⟨a,b,c,d,e,h⟩:=h
 exact ⟨a,b,c,d,e,f _ h⟩
theorem g_lesser (T:Tx K mg):FnOk P w K mg base CX0 2 T.f_lesser T.fd_lesser ["one","other"] (spD K 2 gLsr):=by
 refine fnD (k:=1) T.d_lesser.F sc_lesser (fun cdv A outer s H E hr=>(dss_one (ds_ret (de_ifExp (dt_val (de_call (g_less T) m_less (hr.mono (by decide)) rfl T.d_less.m T.d_less.F.kp T.d_less.b (da_cons (de_var 1 (pv 1)) (da_cons (de_var 0 (pv 0)) da_nil)))) (de_var 1 (pv 1)) (de_var 0 (pv 0)))))) (fun ds Q hl h=>?_)
 obtain ⟨p,q,rfl,bp,bq,h⟩:=h
 unfold lsr at h
 refine ⟨rfl,lessQ bq bp (Br.di (fun z=>?_) (fun z=>?_))⟩
 ·rw [if_pos z] at h
  exact h
 ·rw [if_neg z] at h
  exact h
theorem dLoop_zip {g:DG} {b:DTS} {E:DEnds} {xs ys:List D} (N:Nat -> DS -> Prop) (hn:∀ ρ,N (min xs.length ys.length) ρ -> E.nx ρ)
  (hs:∀ (i:Nat) (x y:D) (ρ:DS) (X:DS -> Prop),xs[i]? = some x -> ys[i]? = some y -> N i ρ -> (∀ ρ',N (i + 1) ρ' -> X ρ') -> g (.tup [x,y]) ρ fun ρ1=>b { E with nx:=X,ct:=X,bk:=E.nx } ρ1) (ρ:DS) (h:N 0 ρ):dLoop g b (zipD xs ys) E ρ:=by
 refine dLoop_pre (fun pre ρ=>N pre.length ρ) (fun ρ hN=>hn ρ (by rw [zipD_length] at hN; exact hN)) (fun pre d post ρ X e hN hX=>?_) _ h
 have hg:(zipD xs ys)[pre.length]? = some d:=by
  rw [e,List.getElem?_append_right (Nat.le_refl _),Nat.sub_self]
  rfl
 obtain ⟨x,y,hx,hy,rfl⟩:=zipD_get _ _ _ _ hg
 exact hs _ x y ρ X hx hy hN fun ρ' h'=>hX ρ' (by rw [List.length_append]; exact h')
def wts (cs:Row):List Rat:=cs.map fun c=>(c.1:Rat) / ((sumP cs).1:Rat)
def gWts:DSp:=fun ds Q=>match ds with
 | [.lst xs,.int h]=>∃ (n:Nat) (t:List Row),xs = t.map rowD /\ Tbl n t /\ (0 <= h /\ h < n) /\ (sumP (col t h.toNat)).1 ≠ 0 /\ Q (.lst ((wts (col t h.toNat)).map ratQ))
 | _=>False
theorem m_weights_of:MonoS gWts:=fun ds P P' f h=>by
 unfold gWts at h ⊢
 split at h
 ·obtain ⟨n,t,a,b,c,d,h⟩:=h
  exact ⟨n,t,a,b,c,d,f _ h⟩
 ·exact h.elim
theorem g_weights_of (T:Tx K mg):FnOk P w K mg base CX0 5 T.f_weights_of T.fd_weights_of ["table","house"] (spD K 2 gWts):=by
 refine fnD (k:=4) T.d_weights_of.F sc_weights_of (fun cdv A outer s H E hr=>(dss_cons (ds_set (i:=2) sc_weights_of.nd rfl (by first | exact Or.inl rfl | exact Or.inr rfl) (de_ix (de_call (g_whole_count T) m_whole_count (hr.mono (by decide)) rfl T.d_whole_count.m T.d_whole_count.F.kp T.d_whole_count.b (da_cons (de_var 0 (pv 0)) (da_cons (de_var 1 (pv 1)) da_nil))) de_int (fun _ _=>rfl)))
   (dss_one (ds_ret (de_frz (PCD.pld (dl_comp (N':=["part","house","tried"]) rfl rfl (by decide +kernel) rfl (.own (.cap (j:=1) rfl (by first | exact Or.inl rfl | exact Or.inr rfl) rfl (.cap (j:=2) rfl (by first | exact Or.inl rfl | exact Or.inr rfl) rfl .nil))) (by decide +kernel) (di_list (de_var 0 (pv 0))) (fun B=>(dg_name (i:=0) (show List.Nodup (α:=PySem.Str) ["part","house","tried"] by decide +kernel) rfl (by first | exact Or.inl rfl | exact Or.inr rfl))) (fun B=>dts_nil) (fun B=>(de_call (g_ratio_of T) m_ratio_of (hr.mono (by decide)) rfl T.d_ratio_of.m T.d_ratio_of.F.kp T.d_ratio_of.b (da_cons (de_ix (de_ix (de_var 0 (pv 0)) (de_var 1 (pv 1)) (fun _ _=>rfl)) de_int (fun _ _=>rfl)) (da_cons (de_var 2 (pv 2)) da_nil))))))))))) (fun ds Q hl h=>?_)
 unfold gWts at h
 split at h
 case h_2=>exact h.elim
 rename_i hh
 obtain ⟨n,t,rfl,o,⟨h0,h1⟩,hs,h⟩:=h
 have wc:=whole_cnt o (h:=hh.toNat) (by omega)
 refine ⟨rfl,n,t,rfl,o,⟨h0,h1⟩,hs,?_⟩
 obtain ⟨W,hW⟩:∃ W,(sumP (col t hh.toNat)).1 = W:=⟨_,rfl⟩
 rw [hW] at hs wc
 refine dColl_pre (fun pre acc ρ=>∃ t0 t1:List Row,t = t0 ++ t1 /\ pre = t0.map rowD /\ acc = ((col t0 hh.toNat).map fun c=>((c.1:Rat) / (W:Rat))).map ratQ /\ ∃ s,ρ = [s,.val (.int hh),.val (.int W)]) (fun acc ρ hN=>?_) (fun pre d post acc ρ Y e hN hY=>?_) _ ⟨[],t,rfl,rfl,rfl,.nil,by rw [← hW]; rfl⟩
 ·obtain ⟨t0,t1,rfl,e,rfl,_⟩:=hN
  have:t1 = []:=by
   have:=congrArg List.length e
   simp at this
   exact this
  subst this
  rw [List.append_nil] at h hW
  unfold wts at h
  rw [hW] at h
  exact h
 ·obtain ⟨t0,t1,rfl,rfl,rfl,s,rfl⟩:=hN
  rw [List.map_append] at e
  have e:=List.append_cancel_left e
  cases t1 with
  | nil=>simp at e
  | cons r t1 =>
   rw [List.map_cons] at e
   injection e with e1 e2
   subst e1
   have ro:=o.rows r (by simp)
   have c:=(at_get ro (h:=hh.toNat) (by omega)).2
   refine Br.t (row_at ro h0 h1 ⟨rfl,⟨hs,c.bt.mono (by decide),wc.2.2.1.mono (by decide)⟩,fun x y l=>?_⟩)
   obtain ⟨e1,e2⟩:=Rq.low hs l
   rw [e1,e2]
   refine ⟨?_,hY _ _ ⟨t0 ++ [r],t1,by simp,by simp,by simp [col,ratQ],_,rfl⟩⟩
   rw [List.length_map,List.length_map]
   unfold col
   rw [List.length_map]
   have p60:=o.p60
   have:t0.length <= 1000:=by rw [List.length_append] at p60; omega
   exact Nat.lt_of_le_of_lt this (by decide)
def wQ (t:List Row) (h:Int):Rat:=shQ (sumP (col t h.toNat))
theorem wQ_B {n:Nat} {t:List Row} (o:Tbl n t) {h:Int} (h0:0 <= h) (h1:h < n) (hs:(sumP (col t h.toNat)).1 ≠ 0):QB 300 (wQ t h):=by
 have w:=whole_cnt o (h:=h.toNat) (by omega)
 exact QB.of hs w.2.2.2 w.2.2.1
theorem shareQ {c:Int × Int} {Q:D -> Prop} {n:Nat} (hn:n <= 7000) (bt:Bd n c.1) (bw:Bd n c.2) (h0:c.1 ≠ 0) (q:Q (ratQ (shQ c))):gShare [pairD c] Q :=
 share_ok hn bt bw (by rw [shareD_eq]; unfold shO; rw [if_neg h0]; exact q)
def gGap:DSp:=fun ds Q=>match ds with
 | [.lst xs,.int a,.int b]=>∃ (n:Nat) (t:List Row),xs = t.map rowD /\ Tbl n t /\ (0 <= a /\ a < n) /\ (0 <= b /\ b < n) /\ (sumP (col t a.toNat)).1 ≠ 0 /\ (sumP (col t b.toNat)).1 ≠ 0 /\ Q (ratQ (wQ t a - wQ t b))
 | _=>False
theorem m_whole_gap:MonoS gGap:=fun ds P P' f h=>by
 unfold gGap at h ⊢
 split at h
 ·obtain ⟨n,t,a,b,c,d,e,g,h⟩:=h
  exact ⟨n,t,a,b,c,d,e,g,f _ h⟩
 ·exact h.elim
theorem g_whole_gap (T:Tx K mg):FnOk P w K mg base CX0 5 T.f_whole_gap T.fd_whole_gap ["table","a","b"] (spD K 3 gGap):=by
 refine fnD (k:=4) T.d_whole_gap.F sc_whole_gap (fun cdv A outer s H E hr=>(dss_one (ds_ret (de_call (g_minus T) m_minus (hr.mono (by decide)) rfl T.d_minus.m T.d_minus.F.kp T.d_minus.b (da_cons (de_call (g_share_of T) m_share_of (hr.mono (by decide)) rfl T.d_share_of.m T.d_share_of.F.kp T.d_share_of.b (da_cons (de_call (g_whole_count T) m_whole_count (hr.mono (by decide)) rfl T.d_whole_count.m T.d_whole_count.F.kp T.d_whole_count.b (da_cons (de_var 0 (pv 0)) (da_cons (de_var 1 (pv 1)) da_nil))) da_nil)) (da_cons (de_call (g_share_of T) m_share_of (hr.mono (by decide)) rfl T.d_share_of.m T.d_share_of.F.kp T.d_share_of.b (da_cons (de_call (g_whole_count T) m_whole_count (hr.mono (by decide)) rfl T.d_whole_count.m T.d_whole_count.F.kp T.d_whole_count.b (da_cons (de_var 0 (pv 0)) (da_cons (de_var 2 (pv 2)) da_nil))) da_nil)) da_nil)))))) (fun ds Q hl h=>?_)
 unfold gGap at h
 split at h
 case h_2=>exact h.elim
 rename_i a b
 obtain ⟨n,t,rfl,o,⟨a0,a1⟩,⟨b0,b1⟩,ha,hb,h⟩:=h
 have wa:=whole_cnt o (h:=a.toNat) (by omega)
 have wb:=whole_cnt o (h:=b.toNat) (by omega)
 exact ⟨rfl,n,t,rfl,o,⟨a0,a1⟩,ha,rfl,shareQ (n:=300) (by decide) wa.2.2.1 wa.2.2.2 ha ⟨rfl,n,t,rfl,o,⟨b0,b1⟩,hb,rfl,shareQ (n:=300) (by decide) wb.2.2.1 wb.2.2.2 hb ⟨rfl,minusQ ((wQ_B o a0 a1 ha).mono (by decide)) ((wQ_B o b0 b1 hb).mono (by decide)) h⟩⟩⟩
structure Two (n:Nat) (t:List Row) (a b:Int):Prop where
 o:Tbl n t
 a0:0 <= a
 a1:a < n
 b0:0 <= b
 b1:b < n
 ab:a ≠ b
 ha:(sumP (col t a.toNat)).1 ≠ 0
 hb:(sumP (col t b.toNat)).1 ≠ 0
 like:∀ r ∈ t,(at_ r a.toNat).1 = 0 ↔ (at_ r b.toNat).1 = 0
def gCSP:DSp:=fun ds Q=>match ds with
 | [.lst xs,.int a,.int b]=>∃ (n:Nat) (t:List Row),xs = t.map rowD /\ Two n t a b /\ Q .non
 | _=>False
theorem m_check_same_parts:MonoS gCSP:=fun ds P P' f h=>by
 unfold gCSP at h ⊢
 split at h
 ·obtain ⟨n,t,a,b,h⟩:=h
  exact ⟨n,t,a,b,f _ h⟩
 ·exact h.elim
theorem g_check_same_parts (T:Tx K mg):FnOk P w K mg base CX0 5 T.f_check_same_parts T.fd_check_same_parts ["table","a","b"] (spD K 3 gCSP):=by
 refine fnD (k:=4) T.d_check_same_parts.F sc_check_same_parts (fun cdv A outer s H E hr=>(dss_cons (ds_expr (de_call (g_check_pair T) m_check_pair (hr.mono (by decide)) rfl T.d_check_pair.m T.d_check_pair.F.kp T.d_check_pair.b (da_cons (de_call (g_houses_of T) m_houses_of (hr.mono (by decide)) rfl T.d_houses_of.m T.d_houses_of.F.kp T.d_houses_of.b (da_cons (de_var 0 (pv 0)) da_nil)) (da_cons (de_var 1 (pv 1)) (da_cons (de_var 2 (pv 2)) da_nil)))))
   (dss_cons (ds_expr (de_call (g_whole_count T) m_whole_count (hr.mono (by decide)) rfl T.d_whole_count.m T.d_whole_count.F.kp T.d_whole_count.b (da_cons (de_var 0 (pv 0)) (da_cons (de_var 1 (pv 1)) da_nil))))
   (dss_cons (ds_expr (de_call (g_whole_count T) m_whole_count (hr.mono (by decide)) rfl T.d_whole_count.m T.d_whole_count.F.kp T.d_whole_count.b (da_cons (de_var 0 (pv 0)) (da_cons (de_var 2 (pv 2)) da_nil))))
   (dss_one (ds_for PassesOwn.never rfl (di_enum rfl T.z_enumerate (da_cons (de_var 0 (pv 0)) da_nil)) (dg_tup (n:=2) rfl (dgs_cons (dg_name (i:=3) sc_check_same_parts.nd rfl (by first | exact Or.inl rfl | exact Or.inr rfl)) (dgs_cons (dg_name (i:=4) sc_check_same_parts.nd rfl (by first | exact Or.inl rfl | exact Or.inr rfl)) dgs_nil))) (dss_cons (ds_if (PWD.pt (dw_and (dt_cmp (od_eq hr) (de_ix (de_ix (de_var 4 (pv 4)) (de_var 1 (pv 1)) (fun _ _=>rfl)) de_int (fun _ _=>rfl)) de_int (nomark _)) (dw_and1 (dt_cmp od_gt (de_ix (de_ix (de_var 4 (pv 4)) (de_var 2 (pv 2)) (fun _ _=>rfl)) de_int (fun _ _=>rfl)) de_int (nomark _))))) (dss_one ds_never) dss_nil)
   (dss_one (ds_if (PWD.pt (dw_and (dt_cmp (od_eq hr) (de_ix (de_ix (de_var 4 (pv 4)) (de_var 2 (pv 2)) (fun _ _=>rfl)) de_int (fun _ _=>rfl)) de_int (nomark _)) (dw_and1 (dt_cmp od_gt (de_ix (de_ix (de_var 4 (pv 4)) (de_var 1 (pv 1)) (fun _ _=>rfl)) de_int (fun _ _=>rfl)) de_int (nomark _))))) (dss_one ds_never) dss_nil))))))))) (fun ds Q hl h=>?_)
 unfold gCSP at h
 split at h
 case h_2=>exact h.elim
 rename_i a b
 obtain ⟨n,t,rfl,w,h⟩:=h
 refine ⟨rfl,tbl_houses w.o ⟨rfl,⟨w.a0,w.a1,w.b0,w.b1,w.ab⟩,rfl,n,t,rfl,w.o,⟨w.a0,w.a1⟩,w.ha,rfl,n,t,rfl,w.o,⟨w.b0,w.b1⟩,w.hb,?_⟩⟩
 refine dLoop_enum (fun _ ρ=>∃ x y:Sl,ρ = [.val (.lst (t.map rowD)),.val (.int a),.val (.int b),x,y]) (fun ρ _=>h) (fun i d ρ X hd hN hX=>?_) _ ⟨_,_,rfl⟩
 obtain ⟨x,y,rfl⟩:=hN
 rw [List.getElem?_map] at hd
 obtain ⟨r,hr,rfl⟩:=Option.map_eq_some_iff.mp hd
 have hm:=List.mem_of_getElem? hr
 have ro:=w.o.rows r hm
 have lk:=w.like r hm
 have ca:=(at_get ro (h:=a.toNat) (by have:=w.a0; have:=w.a1; omega)).2
 have cb:=(at_get ro (h:=b.toNat) (by have:=w.b0; have:=w.b1; omega)).2
 have pa:=ca.lo
 have pb:=cb.lo
 have qa:=ca.hi
 have qb:=cb.hi
 refine ⟨rfl,row_at ro w.a0 w.a1 ⟨⟨rfl,rfl⟩,fun z=>?_,fun z=>?_⟩⟩
 ·have z:(at_ r a.toNat).1 = 0:=by simpa [eqD_int] using z
  refine row_at ro w.b0 w.b1 (Br.dn (by have:=lk.mp z; omega) (row_at ro w.b0 w.b1 ⟨⟨rfl,rfl⟩,fun _=>row_at ro w.a0 w.a1 (Br.dn (by omega) (hX _ ⟨_,_,rfl⟩)),fun _=>Br.f (hX _ ⟨_,_,rfl⟩)⟩))
 ·have z:(at_ r a.toNat).1 ≠ 0:=by simpa [eqD_int] using z
  refine Br.f (row_at ro w.b0 w.b1 ⟨⟨rfl,rfl⟩,fun y=>?_,fun _=>Br.f (hX _ ⟨_,_,rfl⟩)⟩)
  have y:(at_ r b.toNat).1 = 0:=by simpa [eqD_int] using y
  exact absurd (lk.mpr y) z
def leadO:Option Rat -> Option Rat -> Option Rat
 | some p,some q=>some (p - q)
 | _,_=>none
def leadsO (t:List Row) (a b:Int):List (Option Rat):=List.zipWith leadO (colO t a) (colO t b)
def gLeads:DSp:=fun ds Q=>match ds with
 | [.lst xs,.int a,.int b]=>∃ (n:Nat) (t:List Row),xs = t.map rowD /\ Two n t a b /\ Q (endsqD (leadsO t a b))
 | _=>False
theorem m_leads:MonoS gLeads:=fun ds P P' f h=>by
 unfold gLeads at h ⊢
 split at h
 ·obtain ⟨n,t,a,b,h⟩:=h
  exact ⟨n,t,a,b,f _ h⟩
 ·exact h.elim
theorem leadsO_B {k:Nat} {t:List Row} {a b:Int} (ca:∀ c ∈ col t a.toNat,Cnt k c.1 c.2) (cb:∀ c ∈ col t b.toNat,Cnt k c.1 c.2):∀ q,some q ∈ leadsO t a b -> QB (k + k + 1) q:=fun q hq=>by
 obtain ⟨i,hi⟩:=List.mem_iff_getElem?.mp hq
 unfold leadsO at hi
 rw [List.getElem?_zipWith] at hi
 cases ea:(colO t a)[i]? with
 | none=>rw [ea] at hi; cases hi
 | some p =>
  cases eb:(colO t b)[i]? with
  | none=>rw [ea,eb] at hi; cases hi
  | some r =>
   rw [ea,eb] at hi
   have e:leadO p r = some q:=by simpa using hi
   cases p with
   | none=>cases e
   | some p =>
    cases r with
    | none=>cases e
    | some r =>
     cases e
     exact (shO_B ca p (List.mem_of_getElem? ea)).sub (shO_B cb r (List.mem_of_getElem? eb))
theorem two_oq {n:Nat} {t:List Row} {a b:Int} (w:Two n t a b) (i:Nat):oq (colO t a) i = none ↔ oq (colO t b) i = none:=by
 unfold oq colO col
 rw [List.getD_eq_getElem?_getD,List.getD_eq_getElem?_getD,List.map_map,List.map_map,List.getElem?_map,List.getElem?_map]
 cases e:t[i]? with
 | none=>simp
 | some r =>
  have:=w.like r (List.mem_of_getElem? e)
  simp only [Option.map_some,Option.getD_some,Function.comp,shO]
  by_cases z:(at_ r a.toNat).1 = 0
  ·rw [if_pos z,if_pos (this.mp z)]
  ·rw [if_neg z,if_neg (fun y=>z (this.mpr y))]
   simp
theorem colO_len (t:List Row) (h:Int):(colO t h).length = t.length:=by unfold colO col; simp
theorem leads_oq (t:List Row) (a b:Int) (i:Nat):oq (leadsO t a b) i = leadO (oq (colO t a) i) (oq (colO t b) i):=by
 unfold oq leadsO
 rw [List.getD_eq_getElem?_getD,List.getD_eq_getElem?_getD,List.getD_eq_getElem?_getD,List.getElem?_zipWith]
 by_cases h:i < t.length
 ·rw [List.getElem?_eq_getElem (l:=colO t a) (by rw [colO_len]; exact h),List.getElem?_eq_getElem (l:=colO t b) (by rw [colO_len]; exact h)]
  rfl
 ·rw [List.getElem?_eq_none (l:=colO t a) (by rw [colO_len]; omega),List.getElem?_eq_none (l:=colO t b) (by rw [colO_len]; omega)]
  rfl
theorem leads_plq {n:Nat} {t:List Row} {a b:Int} (w:Two n t a b):plq (leadsO t a b) (leadsO t a b).length = plq (colO t a) (colO t a).length:=by
 have hl:(leadsO t a b).length = (colO t a).length:=by unfold leadsO; rw [List.length_zipWith,colO_len,colO_len]; omega
 rw [hl]
 unfold plq
 apply List.filter_congr
 intro i _
 rw [leads_oq]
 have:=two_oq w i
 cases ea:oq (colO t a) i with
 | none=>rfl
 | some p =>
  cases eb:oq (colO t b) i with
  | none=>rw [this.mpr eb] at ea; cases ea
  | some q=>rfl
theorem leads_ne {n:Nat} {t:List Row} {a b:Int} (w:Two n t a b):plq (leadsO t a b) (leadsO t a b).length ≠ []:=by
 rw [leads_plq w]
 exact plq_ne w.ha
theorem g_leads (T:Tx K mg):FnOk P w K mg base CX0 6 T.f_leads T.fd_leads ["table","a","b"] (spD K 3 gLeads):=by
 refine fnD (k:=5) T.d_leads.F sc_leads (fun cdv A outer s H E hr=>(dss_cons (ds_expr (de_call (g_check_same_parts T) m_check_same_parts (hr.mono (by decide)) rfl T.d_check_same_parts.m T.d_check_same_parts.F.kp T.d_check_same_parts.b (da_cons (de_var 0 (pv 0)) (da_cons (de_var 1 (pv 1)) (da_cons (de_var 2 (pv 2)) da_nil)))))
   (dss_cons (ds_own (i:=3) sc_leads.nd rfl (by first | exact Or.inl rfl | exact Or.inr rfl) (dl_lst da_nil))
   (dss_mid (ds_for PassesOwn.never rfl (di_zip rfl T.z_zip (da_cons (de_call (g_shares_in T) m_shares_in (hr.mono (by decide)) rfl T.d_shares_in.m T.d_shares_in.F.kp T.d_shares_in.b (da_cons (de_var 0 (pv 0)) (da_cons (de_var 1 (pv 1)) da_nil))) (da_cons (de_call (g_shares_in T) m_shares_in (hr.mono (by decide)) rfl T.d_shares_in.m T.d_shares_in.F.kp T.d_shares_in.b (da_cons (de_var 0 (pv 0)) (da_cons (de_var 2 (pv 2)) da_nil))) da_nil))) (dg_tup (n:=2) rfl (dgs_cons (dg_name (i:=4) sc_leads.nd rfl (by first | exact Or.inl rfl | exact Or.inr rfl)) (dgs_cons (dg_name (i:=5) sc_leads.nd rfl (by first | exact Or.inl rfl | exact Or.inr rfl)) dgs_nil))) (dss_one (ds_app (pv 3) (de_ifExp (dt_cmp od_isN (de_var 4 (pv 4)) de_non (nomark _)) de_non (de_call (g_minus T) m_minus (hr.mono (by decide)) rfl T.d_minus.m T.d_minus.F.kp T.d_minus.b (da_cons (de_var 4 (pv 4)) (da_cons (de_var 5 (pv 5)) da_nil)))))))
   (dss_one (ds_ret (de_call (g_ends_among T) m_ends_among (hr.mono (by decide)) rfl T.d_ends_among.m T.d_ends_among.F.kp T.d_ends_among.b (da_cons (de_var 3 (pv 3)) da_nil)))))))) (fun ds Q hl h=>?_)
 unfold gLeads at h
 split at h
 case h_2=>exact h.elim
 rename_i a b
 obtain ⟨n,t,rfl,w,h⟩:=h
 refine ⟨rfl,n,t,rfl,w,sz,?_⟩
 have ca:=col_cnt w.o (h:=a.toNat) (by have:=w.a0; have:=w.a1; omega)
 have cb:=col_cnt w.o (h:=b.toNat) (by have:=w.b0; have:=w.b1; omega)
 have la:(colO t a).length = t.length:=by unfold colO col; simp
 have lb:(colO t b).length = t.length:=by unfold colO col; simp
 have l60:=w.o.p60
 have ba:∀ q,some q ∈ colO t a -> QB 256 q:=shO_B ca
 have bb:∀ q,some q ∈ colO t b -> QB 256 q:=shO_B cb
 have lk:∀ i:Nat,(oq (colO t a) i = none ↔ oq (colO t b) i = none):=fun i=>by
  unfold oq colO col
  rw [List.getD_eq_getElem?_getD,List.getD_eq_getElem?_getD,List.map_map,List.map_map,List.getElem?_map,List.getElem?_map]
  cases e:t[i]? with
  | none=>simp
  | some r =>
   have:=w.like r (List.mem_of_getElem? e)
   simp only [Option.map_some,Option.getD_some,Function.comp,shO]
   by_cases z:(at_ r a.toNat).1 = 0
   ·rw [if_pos z,if_pos (this.mp z)]
   ·rw [if_neg z,if_neg (fun y=>z (this.mpr y))]
    simp
 refine ⟨fun ρ=>∃ x y:Sl,ρ = [.val (.lst (t.map rowD)),.val (.int a),.val (.int b),.own ((leadsO t a b).map optQ),x,y],?_,?_⟩
 ·refine ⟨rfl,n,t,rfl,w.o,⟨w.a0,w.a1⟩,rfl,n,t,rfl,w.o,⟨w.b0,w.b1⟩,?_⟩
  rw [shareD_map,shareD_map]
  refine dLoop_zip (fun i ρ=>∃ x y:Sl,ρ = [.val (.lst (t.map rowD)),.val (.int a),.val (.int b),.own (((leadsO t a b).take i).map optQ),x,y]) (fun ρ hN=>?_) (fun i x y ρ X hx hy hN hX=>?_) _ ⟨_,_,rfl⟩
  ·obtain ⟨x,y,rfl⟩:=hN
   refine ⟨x,y,?_⟩
   rw [List.take_of_length_le]
   unfold leadsO
   rw [List.length_zipWith]
   simp only [colO,List.length_map]
   exact Nat.le_refl _
  ·obtain ⟨u,v,rfl⟩:=hN
   rw [List.getElem?_map] at hx hy
   obtain ⟨p,hp,rfl⟩:=Option.map_eq_some_iff.mp hx
   obtain ⟨q,hq,rfl⟩:=Option.map_eq_some_iff.mp hy
   have hp:(colO t a)[i]? = some p:=hp
   have hq:(colO t b)[i]? = some q:=hq
   have hl:(leadsO t a b)[i]? = some (leadO p q):=by unfold leadsO; rw [List.getElem?_zipWith,hp,hq]
   have ht:(leadsO t a b).take (i + 1) = (leadsO t a b).take i ++ [leadO p q]:=by rw [List.take_succ,hl]; rfl
   have lki:=lk i
   unfold oq at lki
   rw [List.getD_eq_getElem?_getD,List.getD_eq_getElem?_getD,hp,hq] at lki
   have len:(((leadsO t a b).take i).map optQ).length < sizeLine:=by
    rw [List.length_map,List.length_take]
    have:(leadsO t a b).length <= 100:=by unfold leadsO; rw [List.length_zipWith]; omega
    exact Nat.lt_of_le_of_lt (show _ <= 100 by omega) (by decide)
   have nx:=hX [.val (.lst (t.map rowD)),.val (.int a),.val (.int b),.own (((leadsO t a b).take i).map optQ ++ [optQ (leadO p q)]),.val (optQ p),.val (optQ q)] ⟨_,_,by rw [ht,List.map_append]; rfl⟩
   cases p with
   | none=>exact ⟨rfl,trivial,Br.t ⟨len,nx⟩⟩
   | some p =>
    cases q with
    | none=>exact absurd (lki.mpr rfl) (by simp)
    | some q =>
     exact ⟨rfl,trivial,Br.f ⟨rfl,minusQ ((ba p (List.mem_of_getElem? hp)).mono (by decide)) ((bb q (List.mem_of_getElem? hq)).mono (by decide)) ⟨len,nx⟩⟩⟩
 ·rintro _ ⟨x,y,rfl⟩
  have lb:=leadsO_B ca cb (t:=t) (a:=a) (b:=b)
  refine ⟨rfl,_,rfl,fun q hq=>(lb q hq).mono (by decide),?_,leads_ne w,h⟩
  unfold leadsO
  rw [List.length_zipWith]
  omega
def upl (x y:List Rat) (n:Nat):List Nat:=(List.range n).filter fun k=>decide (y.getD k 0 < x.getD k 0)
def unvQ (x y:List Rat):Rat:=((upl x y x.length).map fun k=>x.getD k 0 - y.getD k 0).sum
def unvD (x y:List Rat):D:=.tup [ratQ (unvQ x y),.lst ((upl x y x.length).map fun (k:Nat)=>D.int k)]
def gUnv:DSp:=fun ds Q=>match ds with
 | [.lst xs,.int a,.int b]=>∃ (n:Nat) (t:List Row),xs = t.map rowD /\ t.length <= 64 /\ Two n t a b /\ Q (unvD (wts (col t a.toNat)) (wts (col t b.toNat)))
 | _=>False
theorem m_uneven:MonoS gUnv:=fun ds P P' f h=>by
 unfold gUnv at h ⊢
 split at h
 ·obtain ⟨n,t,a,b,c,h⟩:=h
  exact ⟨n,t,a,b,c,f _ h⟩
 ·exact h.elim
theorem sum_over {n:Nat} {N:Int} (hN:N ≠ 0):∀ {l:List Rat},(∀ q ∈ l,∃ z:Int,Bd n z /\ q = (z:Rat) / N) -> ∃ zs:List Int,zs.length = l.length /\ (∀ z ∈ zs,Bd n z) /\ l.sum = (zs.sum:Rat) / N
 | [],_=>⟨[],rfl,fun z hz=>by simp at hz,by simp [Rat.div_def]⟩
 | q :: l,h=>by
  obtain ⟨z,bz,e⟩:=h q List.mem_cons_self
  obtain ⟨zs,e1,e2,e3⟩:=sum_over hN (l:=l) fun q hq=>h q (List.mem_cons_of_mem _ hq)
  refine ⟨z :: zs,by simp [e1],fun y hy=>?_,?_⟩
  ·rcases List.mem_cons.mp hy with rfl | hy
   ·exact bz
   ·exact e2 y hy
  ·have hN':=Rq.cast_ne hN
   rw [List.sum_cons,List.sum_cons,e3,e,Rat.intCast_add]
   grind
theorem infix_B {m n k:Nat} {N:Int} (hN:N ≠ 0) (bN:Bd m N) {qs:List Rat} (h:∀ q ∈ qs,∃ z:Int,Bd n z /\ q = (z:Rat) / N) (hl:qs.length <= 2 ^ k) (hm:m <= 3000:=by decide) (hk:n + k <= 3000:=by decide):∀ l,l <:+: qs -> QB 3000 l.sum:=fun l hi=>by
 obtain ⟨zs,e1,e2,e3⟩:=sum_over hN (l:=l) fun q hq=>h q (hi.subset hq)
 rw [e3]
 exact QB.of hN ((sum_bd e2 (by rw [e1]; exact Nat.le_trans hi.length_le hl)).mono hk) (bN.mono hm)
theorem wts_len (t:List Row) (h:Nat):(wts (col t h)).length = t.length:=by unfold wts col; simp
theorem wts_at {t:List Row} {h k:Nat} (hk:k < t.length):∃ c ∈ col t h,(wts (col t h)).getD k 0 = (c.1:Rat) / ((sumP (col t h)).1:Rat):=by
 have hl:k < (col t h).length:=by unfold col; rw [List.length_map]; exact hk
 refine ⟨(col t h)[k],List.getElem_mem hl,?_⟩
 unfold wts
 rw [List.getD_eq_getElem?_getD,List.getElem?_map,List.getElem?_eq_getElem hl]
 rfl
theorem rq_at {qs:List Rat} {k:Nat} (hk:k < qs.length) {Q:D -> Prop} (q:Q (ratQ (qs.getD k 0))):opt (atI (qs.map ratQ) (k:Int)) Q:=by
 refine opt_at (d:=ratQ (qs.getD k 0)) (by omega) ?_ q
 rw [Int.toNat_natCast,List.getElem?_map,List.getD_eq_getElem?_getD,List.getElem?_eq_getElem hk]
 rfl
theorem upl_succ (x y:List Rat) (n:Nat):upl x y (n + 1) = upl x y n ++ (if y.getD n 0 < x.getD n 0 then [n] else []):=by
 unfold upl
 rw [List.range_succ,List.filter_append,List.filter_cons,List.filter_nil]
 by_cases h:y.getD n 0 < x.getD n 0
 ·rw [if_pos h,if_pos (decide_eq_true h)]
 ·rw [if_neg h,if_neg (by rw [decide_eq_false h]; exact Bool.false_ne_true)]
theorem upl_mem {x y:List Rat} {n k:Nat} (h:k ∈ upl x y n):k < n:=by
 unfold upl at h
 rw [List.mem_filter,List.mem_range] at h
 exact h.1
theorem upl_len (x y:List Rat) (n:Nat):(upl x y n).length <= n:=by
 unfold upl
 have:=List.length_filter_le (fun k=>decide (y.getD k 0 < x.getD k 0)) (List.range n)
 simpa using this
theorem g_total (T:Tx K mg):FnOk P w K mg base CX0 10 T.f_total T.fd_total ["ratios"] (spD K 1 (gTot 7)):=g_tot T 7
theorem m_total:MonoS (gTot 7):=m_tot 7
theorem g_uneven (T:Tx K mg):FnOk P w K mg base CX0 11 T.f_uneven T.fd_uneven ["table","a","b"] (spD K 3 gUnv):=by
 refine fnD (k:=10) T.d_uneven.F sc_uneven (fun cdv A outer s H E hr=>(dss_cons (ds_expr (de_call (g_check_pair T) m_check_pair (hr.mono (by decide)) rfl T.d_check_pair.m T.d_check_pair.F.kp T.d_check_pair.b (da_cons (de_call (g_houses_of T) m_houses_of (hr.mono (by decide)) rfl T.d_houses_of.m T.d_houses_of.F.kp T.d_houses_of.b (da_cons (de_var 0 (pv 0)) da_nil)) (da_cons (de_var 1 (pv 1)) (da_cons (de_var 2 (pv 2)) da_nil)))))
   (dss_cons (ds_set (i:=3) sc_uneven.nd rfl (by first | exact Or.inl rfl | exact Or.inr rfl) (de_call (g_weights_of T) m_weights_of (hr.mono (by decide)) rfl T.d_weights_of.m T.d_weights_of.F.kp T.d_weights_of.b (da_cons (de_var 0 (pv 0)) (da_cons (de_var 1 (pv 1)) da_nil))))
   (dss_cons (ds_set (i:=4) sc_uneven.nd rfl (by first | exact Or.inl rfl | exact Or.inr rfl) (de_call (g_weights_of T) m_weights_of (hr.mono (by decide)) rfl T.d_weights_of.m T.d_weights_of.F.kp T.d_weights_of.b (da_cons (de_var 0 (pv 0)) (da_cons (de_var 2 (pv 2)) da_nil))))
   (dss_cons (ds_setC (i:=5) sc_uneven.nd rfl rfl (dl_comp (N':=["part","others","weights"]) rfl rfl (by decide +kernel) rfl (.own (.cap (j:=4) rfl (by first | exact Or.inl rfl | exact Or.inr rfl) rfl (.cap (j:=3) rfl (by first | exact Or.inl rfl | exact Or.inr rfl) rfl .nil))) (by decide +kernel) (di_range1 rfl T.z_range (da_cons (de_callB cd_len rfl T.z_len PySem.boot_len (da_cons (de_var 0 (pv 0)) da_nil)) da_nil)) (fun B=>(dg_name (i:=0) (show List.Nodup (α:=PySem.Str) ["part","others","weights"] by decide +kernel) rfl (by first | exact Or.inl rfl | exact Or.inr rfl))) (fun B=>(dts_one (dt_val (de_call (g_less T) m_less (hr.mono (by decide)) rfl T.d_less.m T.d_less.F.kp T.d_less.b (da_cons (de_ix (de_var 1 (pv 1)) (de_var 0 (pv 0)) (fun _ _=>rfl)) (da_cons (de_ix (de_var 2 (pv 2)) (de_var 0 (pv 0)) (fun _ _=>rfl)) da_nil)))))) (fun B=>(de_var 0 (pv 0)))))
   (dss_one (ds_ret (de_tup (da_cons (de_call (g_total T) m_total (hr.mono (by decide)) rfl T.d_total.m T.d_total.F.kp T.d_total.b (da_cons (de_frz (PCD.pld (dl_comp (N':=["part","weights","others"]) rfl rfl (by decide +kernel) rfl (.own (.cap (j:=3) rfl (by first | exact Or.inl rfl | exact Or.inr rfl) rfl (.cap (j:=4) rfl (by first | exact Or.inl rfl | exact Or.inr rfl) rfl .nil))) (by decide +kernel) (di_list (de_var 5 (pv 5))) (fun B=>(dg_name (i:=0) (show List.Nodup (α:=PySem.Str) ["part","weights","others"] by decide +kernel) rfl (by first | exact Or.inl rfl | exact Or.inr rfl))) (fun B=>dts_nil) (fun B=>(de_call (g_minus T) m_minus (hr.mono (by decide)) rfl T.d_minus.m T.d_minus.F.kp T.d_minus.b (da_cons (de_ix (de_var 1 (pv 1)) (de_var 0 (pv 0)) (fun _ _=>rfl)) (da_cons (de_ix (de_var 2 (pv 2)) (de_var 0 (pv 0)) (fun _ _=>rfl)) da_nil))))))) da_nil)) (da_cons (de_var 5 (pv 5)) da_nil)))))))))) (fun ds Q hl h=>?_)
 unfold gUnv at h
 split at h
 case h_2=>exact h.elim
 rename_i a b
 obtain ⟨n,t,rfl,l64,w,h⟩:=h
 refine ⟨rfl,tbl_houses w.o ⟨rfl,⟨w.a0,w.a1,w.b0,w.b1,w.ab⟩,rfl,n,t,rfl,w.o,⟨w.a0,w.a1⟩,w.ha,rfl,n,t,rfl,w.o,⟨w.b0,w.b1⟩,w.hb,?_⟩⟩
 have hl:((t.map rowD).length:Int) = t.length:=by rw [List.length_map]
 refine ⟨⟨by omega,by omega⟩,?_⟩
 have ca:=whole_cnt w.o (h:=a.toNat) (by have:=w.a0; have:=w.a1; omega)
 have cb:=whole_cnt w.o (h:=b.toNat) (by have:=w.b0; have:=w.b1; omega)
 have la:=wts_len t a.toNat
 have lb:=wts_len t b.toNat
 have ka:=col_cnt w.o (h:=a.toNat) (by have:=w.a0; have:=w.a1; omega)
 have kb:=col_cnt w.o (h:=b.toNat) (by have:=w.b0; have:=w.b1; omega)
 have qa:∀ k,k < t.length -> QB 300 ((wts (col t a.toNat)).getD k 0):=fun k hk=>by
  obtain ⟨c,hc,e⟩:=wts_at (t:=t) (h:=a.toNat) hk
  rw [e]
  exact QB.of w.ha ((ka c hc).bt.mono (by decide)) ca.2.2.1
 have qb:∀ k,k < t.length -> QB 300 ((wts (col t b.toNat)).getD k 0):=fun k hk=>by
  obtain ⟨c,hc,e⟩:=wts_at (t:=t) (h:=b.toNat) hk
  rw [e]
  exact QB.of w.hb ((kb c hc).bt.mono (by decide)) cb.2.2.1
 have hN:(sumP (col t a.toNat)).1 * (sumP (col t b.toNat)).1 ≠ 0:=Int.mul_ne_zero w.ha w.hb
 have hd:∀ k,k < t.length -> ∃ z:Int,Bd 557 z /\ (wts (col t a.toNat)).getD k 0 - (wts (col t b.toNat)).getD k 0 = (z:Rat) / ((sumP (col t a.toNat)).1 * (sumP (col t b.toNat)).1:Int):=fun k hk=>by
  obtain ⟨c,hc,e⟩:=wts_at (t:=t) (h:=a.toNat) hk
  obtain ⟨d,hd,e'⟩:=wts_at (t:=t) (h:=b.toNat) hk
  refine ⟨c.1 * (sumP (col t b.toNat)).1 - d.1 * (sumP (col t a.toNat)).1,(((ka c hc).bt.mul cb.2.2.1).sub ((kb d hd).bt.mul ca.2.2.1)).mono (by decide),?_⟩
  rw [e,e',Rat.intCast_sub,Rat.intCast_mul,Rat.intCast_mul,Rat.intCast_mul]
  have n1:=Rq.cast_ne w.ha
  have n2:=Rq.cast_ne w.hb
  grind
 unfold unvD unvQ at h
 rw [la] at h
 generalize wts (col t a.toNat) = x at la qa hd h
 generalize wts (col t b.toNat) = y at lb qb hd h
 have e0:((t.map rowD).length:Int).toNat = t.length:=by omega
 refine dColl_pre (fun pre acc ρ=>acc = (upl x y pre.length).map (fun (k:Nat)=>D.int k) /\ ∃ s,ρ = [s,.val (.lst (y.map ratQ)),.val (.lst (x.map ratQ))]) (fun acc ρ hN=>?_) (fun pre d post acc ρ Y e hN hY=>?_) _ ⟨rfl,_,rfl⟩
 rotate_left
 ·obtain ⟨rfl,s,rfl⟩:=hN
  have hlen:=congrArg List.length e
  rw [intsD_map,List.length_map,List.length_range,List.length_append,List.length_cons] at hlen
  have hg:(intsD 0 ((t.map rowD).length:Int).toNat)[pre.length]? = some d:=by
   rw [e,List.getElem?_append_right (Nat.le_refl _),Nat.sub_self]
   rfl
  have hp:pre.length < t.length:=by omega
  rw [intsD_map,List.getElem?_map,List.getElem?_range (by omega)] at hg
  have ed:d = .int (pre.length:Int):=by
   have:D.int (0 + (pre.length:Int)) = d:=by simpa using hg
   rw [← this]
   congr 1
   omega
  subst ed
  have es:=upl_succ x y pre.length
  refine rq_at (by omega) (rq_at (by omega) ⟨rfl,lessQ ((qb _ hp).mono (by decide)) ((qa _ hp).mono (by decide)) (Br.di (fun z=>⟨?_,hY _ _ ⟨?_,_,rfl⟩⟩) (fun z=>hY _ _ ⟨?_,_,rfl⟩))⟩)
  ·rw [List.length_map]
   have:=upl_len x y pre.length
   exact Nat.lt_of_le_of_lt (show (upl x y pre.length).length <= 100 by omega) (by decide)
  ·rw [List.length_append,List.length_singleton,es,if_pos z,List.map_append]
   rfl
  ·rw [List.length_append,List.length_singleton,es,if_neg z,List.append_nil]
 obtain ⟨rfl,_⟩:=hN
 rw [intsD_map,List.length_map,List.length_range,e0]
 have ul:=upl_len x y t.length
 refine dColl_map (fun d=>match d with | .int i=>ratQ (x.getD i.toNat 0 - y.getD i.toNat 0) | _=>.non) (fun ρ=>∃ s,ρ = [s,.val (.lst (x.map ratQ)),.val (.lst (y.map ratQ))]) ?_ (fun d hd ρ Y Z hN hY=>?_) _ ⟨_,rfl⟩ ?_
 ·rw [List.length_map]
  exact Nat.le_trans (show (upl x y t.length).length <= 100 by omega) (by decide)
 ·obtain ⟨s,rfl⟩:=hN
  obtain ⟨k,hk,rfl⟩:=List.mem_map.mp hd
  have hk:=upl_mem hk
  refine Br.t (rq_at (by omega) (rq_at (by omega) ⟨rfl,minusQ ((qa _ hk).mono (by decide)) ((qb _ hk).mono (by decide)) ?_⟩))
  exact hY _ ⟨_,rfl⟩
 ·have e3:((upl x y t.length).map fun (k:Nat)=>D.int k).map (fun d=>match d with | .int i=>ratQ (x.getD i.toNat 0 - y.getD i.toNat 0) | _=>.non) = ((upl x y t.length).map fun k=>x.getD k 0 - y.getD k 0).map ratQ:=by
   rw [List.map_map,List.map_map]
   rfl
  rw [e3]
  refine ⟨rfl,_,rfl,?_,infix_B (m:=600) (n:=557) (k:=6) hN ((ca.2.2.1.mul cb.2.2.1).mono (by decide)) (fun q hq=>?_) ?_,⟨sz,h⟩⟩
  ·rw [List.length_map]
   exact Nat.le_trans ul l64
  ·obtain ⟨k,hk,rfl⟩:=List.mem_map.mp hq
   exact hd k (upl_mem hk)
  ·rw [List.length_map]
   exact Nat.le_trans ul l64
theorem wts_dif {n:Nat} {t:List Row} {a b:Int} (w:Two n t a b):∀ k,k < t.length -> ∃ z:Int,Bd 557 z /\ (wts (col t a.toNat)).getD k 0 - (wts (col t b.toNat)).getD k 0 = (z:Rat) / ((sumP (col t a.toNat)).1 * (sumP (col t b.toNat)).1:Int):=fun k hk=>by
 have ca:=whole_cnt w.o (h:=a.toNat) (by have:=w.a0; have:=w.a1; omega)
 have cb:=whole_cnt w.o (h:=b.toNat) (by have:=w.b0; have:=w.b1; omega)
 have ka:=col_cnt w.o (h:=a.toNat) (by have:=w.a0; have:=w.a1; omega)
 have kb:=col_cnt w.o (h:=b.toNat) (by have:=w.b0; have:=w.b1; omega)
 obtain ⟨c,hc,e⟩:=wts_at (t:=t) (h:=a.toNat) hk
 obtain ⟨d,hd,e'⟩:=wts_at (t:=t) (h:=b.toNat) hk
 refine ⟨c.1 * (sumP (col t b.toNat)).1 - d.1 * (sumP (col t a.toNat)).1,(((ka c hc).bt.mul cb.2.2.1).sub ((kb d hd).bt.mul ca.2.2.1)).mono (by decide),?_⟩
 rw [e,e',Rat.intCast_sub,Rat.intCast_mul,Rat.intCast_mul,Rat.intCast_mul]
 have n1:=Rq.cast_ne w.ha
 have n2:=Rq.cast_ne w.hb
 grind
theorem unv_B {n:Nat} {t:List Row} {a b:Int} (w:Two n t a b) (l64:t.length <= 64):QB 700 (unvQ (wts (col t a.toNat)) (wts (col t b.toNat))):=by
 have ca:=whole_cnt w.o (h:=a.toNat) (by have:=w.a0; have:=w.a1; omega)
 have cb:=whole_cnt w.o (h:=b.toNat) (by have:=w.b0; have:=w.b1; omega)
 have hN:(sumP (col t a.toNat)).1 * (sumP (col t b.toNat)).1 ≠ 0:=Int.mul_ne_zero w.ha w.hb
 unfold unvQ
 have la:=wts_len t a.toNat
 obtain ⟨zs,e1,e2,e3⟩:=sum_over (n:=557) hN (l:=((upl (wts (col t a.toNat)) (wts (col t b.toNat)) (wts (col t a.toNat)).length).map fun k=>(wts (col t a.toNat)).getD k 0 - (wts (col t b.toNat)).getD k 0)) fun q hq=>by
  obtain ⟨k,hk,rfl⟩:=List.mem_map.mp hq
  have:=upl_mem hk
  exact wts_dif w k (by omega)
 rw [e3]
 refine QB.of hN ((sum_bd (k:=6) e2 ?_).mono (by decide)) ((ca.2.2.1.mul cb.2.2.1).mono (by decide))
 rw [e1,List.length_map]
 have:=upl_len (wts (col t a.toNat)) (wts (col t b.toNat)) (wts (col t a.toNat)).length
 exact Nat.le_trans this (by omega)
def slackQ (t:List Row) (a b:Int):Rat:=unvQ (wts (col t a.toNat)) (wts (col t b.toNat)) * lsr (spanQ (colO t a)) (spanQ (colO t b))
def lowQ27 (t:List Row) (a b:Int):Rat:=vq (leadsO t a b) (endsq (leadsO t a b)).1 - slackQ t a b
def highQ27 (t:List Row) (a b:Int):Rat:=vq (leadsO t a b) (endsq (leadsO t a b)).2 + slackQ t a b
def gapD (t:List Row) (a b:Int):D:=.tup [ratQ (lowQ27 t a b),ratQ (wQ t a - wQ t b),ratQ (highQ27 t a b)]
def gGp:DSp:=fun ds Q=>match ds with
 | [.lst xs,.int a,.int b]=>∃ (n:Nat) (t:List Row),xs = t.map rowD /\ t.length <= 64 /\ Two n t a b /\ Q (gapD t a b)
 | _=>False
theorem m_gap:MonoS gGp:=fun ds P P' f h=>by
 unfold gGp at h ⊢
 split at h
 ·obtain ⟨n,t,a,b,c,h⟩:=h
  exact ⟨n,t,a,b,c,f _ h⟩
 ·exact h.elim
theorem lsr_B {n:Nat} {p q:Rat} (h:QB n p) (k:QB n q):QB n (lsr p q):=by
 unfold lsr
 split <;> assumption
theorem g_gap (T:Tx K mg):FnOk P w K mg base CX0 12 T.f_gap T.fd_gap ["table","a","b"] (spD K 3 gGp):=by
 refine fnD (k:=11) T.d_gap.F sc_gap (fun cdv A outer s H E hr=>(dss_cons (ds_set (i:=3) sc_gap.nd rfl (by first | exact Or.inl rfl | exact Or.inr rfl) (de_call (g_leads T) m_leads (hr.mono (by decide)) rfl T.d_leads.m T.d_leads.F.kp T.d_leads.b (da_cons (de_var 0 (pv 0)) (da_cons (de_var 1 (pv 1)) (da_cons (de_var 2 (pv 2)) da_nil)))))
   (dss_cons (ds_set (i:=4) sc_gap.nd rfl (by first | exact Or.inl rfl | exact Or.inr rfl) (de_call (g_times T) m_times (hr.mono (by decide)) rfl T.d_times.m T.d_times.F.kp T.d_times.b (da_cons (de_ix (de_call (g_uneven T) m_uneven (hr.mono (by decide)) rfl T.d_uneven.m T.d_uneven.F.kp T.d_uneven.b (da_cons (de_var 0 (pv 0)) (da_cons (de_var 1 (pv 1)) (da_cons (de_var 2 (pv 2)) da_nil)))) de_int (fun _ _=>rfl)) (da_cons (de_call (g_lesser T) m_lesser (hr.mono (by decide)) rfl T.d_lesser.m T.d_lesser.F.kp T.d_lesser.b (da_cons (de_call (g_apart T) m_apart (hr.mono (by decide)) rfl T.d_apart.m T.d_apart.F.kp T.d_apart.b (da_cons (de_var 0 (pv 0)) (da_cons (de_var 1 (pv 1)) da_nil))) (da_cons (de_call (g_apart T) m_apart (hr.mono (by decide)) rfl T.d_apart.m T.d_apart.F.kp T.d_apart.b (da_cons (de_var 0 (pv 0)) (da_cons (de_var 2 (pv 2)) da_nil))) da_nil))) da_nil))))
   (dss_one (ds_ret (de_tup (da_cons (de_call (g_minus T) m_minus (hr.mono (by decide)) rfl T.d_minus.m T.d_minus.F.kp T.d_minus.b (da_cons (de_ix (de_var 3 (pv 3)) de_int (fun _ _=>rfl)) (da_cons (de_var 4 (pv 4)) da_nil))) (da_cons (de_call (g_whole_gap T) m_whole_gap (hr.mono (by decide)) rfl T.d_whole_gap.m T.d_whole_gap.F.kp T.d_whole_gap.b (da_cons (de_var 0 (pv 0)) (da_cons (de_var 1 (pv 1)) (da_cons (de_var 2 (pv 2)) da_nil)))) (da_cons (de_call (g_plus T) m_plus (hr.mono (by decide)) rfl T.d_plus.m T.d_plus.F.kp T.d_plus.b (da_cons (de_ix (de_var 3 (pv 3)) de_int (fun _ _=>rfl)) (da_cons (de_var 4 (pv 4)) da_nil))) da_nil))))))))) (fun ds Q hl h=>?_)
 unfold gGp at h
 split at h
 case h_2=>exact h.elim
 rename_i a b
 obtain ⟨n,t,rfl,l64,w,h⟩:=h
 have ka:=col_cnt w.o (h:=a.toNat) (by have:=w.a0; have:=w.a1; omega)
 have kb:=col_cnt w.o (h:=b.toNat) (by have:=w.b0; have:=w.b1; omega)
 have eb:=ends_QB (leadsO_B ka kb) (leads_ne w)
 have sa:=ends_QB (shO_B ka) (plq_ne w.ha)
 have sb:=ends_QB (shO_B kb) (plq_ne w.hb)
 have pa:QB 513 (spanQ (colO t a)):=sa.2.sub sa.1
 have pb:QB 513 (spanQ (colO t b)):=sb.2.sub sb.1
 have ub:=unv_B w l64
 have sl:QB 1213 (slackQ t a b):=ub.mul (lsr_B pa pb)
 refine ⟨rfl,n,t,rfl,w,rfl,n,t,rfl,l64,w,rfl,n,t,rfl,w.o,⟨w.a0,w.a1⟩,w.ha,rfl,n,t,rfl,w.o,⟨w.b0,w.b1⟩,w.hb,rfl,_,_,rfl,pa.mono (by decide),pb.mono (by decide),?_⟩
 refine ⟨rfl,timesQ (ub.mono (by decide)) ((lsr_B pa pb).mono (by decide)) ?_⟩
 refine ⟨rfl,minusQ (eb.1.mono (by decide)) (sl.mono (by decide)) ⟨rfl,n,t,rfl,w.o,⟨w.a0,w.a1⟩,⟨w.b0,w.b1⟩,w.ha,w.hb,rfl,plusQ (eb.2.mono (by decide)) (sl.mono (by decide)) ⟨sz,h⟩⟩⟩
namespace Gm
def pos (z:Rat):Rat:=if 0 < z then z else 0
variable {α:Type}
def sm (l:List α) (f:α -> Rat):Rat:=(l.map f).sum
theorem sm_nil (f:α -> Rat):sm [] f = 0:=rfl
theorem sm_cons (r:α) (l:List α) (f:α -> Rat):sm (r :: l) f = f r + sm l f:=by unfold sm; rw [List.map_cons,List.sum_cons]
theorem one_low {x y p q m lo hi:Rat} (x0:0 <= x) (y0:0 <= y) (h1:lo <= p) (h2:p <= hi) (h3:m <= p - q):m * y - pos (y - x) * (hi - lo) + lo * (x - y) <= x * p - y * q:=by
 have e:x * p - y * q = y * (p - q) + (x - y) * p:=by grind
 have a1:m * y <= y * (p - q):=by
  have:=Rat.mul_le_mul_of_nonneg_left h3 y0
  grind
 have a2:lo * (x - y) - pos (y - x) * (hi - lo) <= (x - y) * p:=by
  unfold pos
  split
  ·rename_i h
   have:(y - x) * (p - lo) <= (y - x) * (hi - lo):=Rat.mul_le_mul_of_nonneg_left (by grind) (by grind)
   grind
  ·rename_i h
   have:0 <= (x - y) * (p - lo):=Rat.mul_nonneg (by grind) (by grind)
   grind
 grind
theorem one_low' {x y p q m lo hi:Rat} (x0:0 <= x) (y0:0 <= y) (h1:lo <= q) (h2:q <= hi) (h3:m <= p - q):m * x - pos (y - x) * (hi - lo) + lo * (x - y) <= x * p - y * q:=by
 have a1:m * x <= x * (p - q):=by
  have:=Rat.mul_le_mul_of_nonneg_left h3 x0
  grind
 have a2:lo * (x - y) - pos (y - x) * (hi - lo) <= (x - y) * q:=by
  unfold pos
  split
  ·rename_i h
   have:(y - x) * (q - lo) <= (y - x) * (hi - lo):=Rat.mul_le_mul_of_nonneg_left (by grind) (by grind)
   grind
  ·rename_i h
   have:0 <= (x - y) * (q - lo):=Rat.mul_nonneg (by grind) (by grind)
   grind
 grind
theorem all_low {l:List α} {x y p q:α -> Rat} {m lo hi:Rat} (h:∀ r ∈ l,0 <= x r /\ 0 <= y r /\ (x r = 0 /\ y r = 0 ∨ lo <= p r /\ p r <= hi /\ m <= p r - q r)) :
  m * sm l y - sm l (fun r=>pos (y r - x r)) * (hi - lo) + lo * (sm l x - sm l y) <= sm l (fun r=>x r * p r) - sm l (fun r=>y r * q r):=by
 induction l with
 | nil=>simp only [sm_nil]; grind
 | cons r l ih =>
  have i:=ih fun r hr=>h r (List.mem_cons_of_mem _ hr)
  obtain ⟨x0,y0,hr⟩:=h r List.mem_cons_self
  have s:m * y r - pos (y r - x r) * (hi - lo) + lo * (x r - y r) <= x r * p r - y r * q r:=by
   rcases hr with ⟨e1,e2⟩ | ⟨h1,h2,h3⟩
   ·rw [e1,e2]
    have:pos (0 - 0) = 0:=by decide +kernel
    rw [this]
    grind
   ·exact one_low x0 y0 h1 h2 h3
  simp only [sm_cons]
  grind
theorem all_low' {l:List α} {x y p q:α -> Rat} {m lo hi:Rat} (h:∀ r ∈ l,0 <= x r /\ 0 <= y r /\ (x r = 0 /\ y r = 0 ∨ lo <= q r /\ q r <= hi /\ m <= p r - q r)) :
  m * sm l x - sm l (fun r=>pos (y r - x r)) * (hi - lo) + lo * (sm l x - sm l y) <= sm l (fun r=>x r * p r) - sm l (fun r=>y r * q r):=by
 induction l with
 | nil=>simp only [sm_nil]; grind
 | cons r l ih =>
  have i:=ih fun r hr=>h r (List.mem_cons_of_mem _ hr)
  obtain ⟨x0,y0,hr⟩:=h r List.mem_cons_self
  have s:m * x r - pos (y r - x r) * (hi - lo) + lo * (x r - y r) <= x r * p r - y r * q r:=by
   rcases hr with ⟨e1,e2⟩ | ⟨h1,h2,h3⟩
   ·rw [e1,e2]
    have:pos (0 - 0) = 0:=by decide +kernel
    rw [this]
    grind
   ·exact one_low' x0 y0 h1 h2 h3
  simp only [sm_cons]
  grind
theorem pos_swap {l:List α} {x y:α -> Rat} (h:sm l x = sm l y):sm l (fun r=>pos (x r - y r)) = sm l (fun r=>pos (y r - x r)):=by
 have key:∀ l:List α,sm l (fun r=>pos (x r - y r)) - sm l (fun r=>pos (y r - x r)) = sm l x - sm l y:=by
  intro l
  induction l with
  | nil=>simp only [sm_nil]
  | cons r l ih =>
   simp only [sm_cons]
   have:pos (x r - y r) - pos (y r - x r) = x r - y r:=by
    unfold pos
    split <;> split <;> grind
   grind
 have:=key l
 grind
theorem low_le {l:List α} {x y p q:α -> Rat} {m loa hia lob hib:Rat} (h:∀ r ∈ l,0 <= x r /\ 0 <= y r /\ (x r = 0 /\ y r = 0 ∨ (loa <= p r /\ p r <= hia) /\ (lob <= q r /\ q r <= hib) /\ m <= p r - q r)) (hx:sm l x = 1) (hy:sm l y = 1) :
  m - sm l (fun r=>pos (x r - y r)) * (if hib - lob < hia - loa then hib - lob else hia - loa) <= sm l (fun r=>x r * p r) - sm l (fun r=>y r * q r):=by
 have s:=pos_swap (l:=l) (x:=x) (y:=y) (by rw [hx,hy])
 have a:=all_low (l:=l) (x:=x) (y:=y) (p:=p) (q:=q) (m:=m) (lo:=loa) (hi:=hia) fun r hr=>by
  obtain ⟨a,b,c⟩:=h r hr
  exact ⟨a,b,c.imp id fun z=>⟨z.1.1,z.1.2,z.2.2⟩⟩
 have b:=all_low' (l:=l) (x:=x) (y:=y) (p:=p) (q:=q) (m:=m) (lo:=lob) (hi:=hib) fun r hr=>by
  obtain ⟨a,b,c⟩:=h r hr
  exact ⟨a,b,c.imp id fun z=>⟨z.2.1.1,z.2.1.2,z.2.2⟩⟩
 rw [hx,hy,← s] at a b
 split <;> grind
end Gm
open Gm
def xr (t:List Row) (h:Int) (r:Row):Rat:=((at_ r h.toNat).1:Rat) / ((sumP (col t h.toNat)).1:Rat)
def pr (h:Int) (r:Row):Rat:=shQ (at_ r h.toNat)
theorem sm_div {α:Type} {N:Int} (hN:N ≠ 0) (f:α -> Int):∀ l:List α,sm l (fun r=>(f r:Rat) / (N:Rat)) = (((l.map f).sum:Int):Rat) / (N:Rat)
 | []=>by rw [sm_nil]; simp [Rat.div_def]
 | r :: l=>by
  have hN':=Rq.cast_ne hN
  rw [sm_cons,sm_div hN f l,List.map_cons,List.sum_cons,Rat.intCast_add]
  grind
theorem sm_congr {α:Type} {l:List α} {f g:α -> Rat} (h:∀ r ∈ l,f r = g r):sm l f = sm l g:=by
 unfold sm
 rw [List.map_congr_left h]
theorem col_map (t:List Row) (h:Nat) (f:Int × Int -> Int):((col t h).map f).sum = (t.map fun r=>f (at_ r h)).sum:=by
 unfold col
 rw [List.map_map]
 rfl
theorem sm_x {t:List Row} {h:Int} (hs:(sumP (col t h.toNat)).1 ≠ 0):sm t (xr t h) = 1:=by
 have e:sm t (xr t h) = sm t (fun r=>((at_ r h.toNat).1:Rat) / ((sumP (col t h.toNat)).1:Rat)):=rfl
 rw [e,sm_div hs (fun r:Row=>(at_ r h.toNat).1)]
 have e2:(sumP (col t h.toNat)).1 = (t.map fun r=>(at_ r h.toNat).1).sum:=col_map t h.toNat (·.1)
 rw [← e2]
 have:=Rq.cast_ne hs
 grind
theorem xp_eq {n:Nat} {t:List Row} (o:Tbl n t) {h:Int} (h0:0 <= h) (h1:h < n) {r:Row} (hr:r ∈ t):xr t h r * pr h r = ((at_ r h.toNat).2:Rat) / ((sumP (col t h.toNat)).1:Rat):=by
 have c:=(at_get (o.rows r hr) (h:=h.toNat) (by omega)).2
 unfold xr pr shQ
 by_cases z:(at_ r h.toNat).1 = 0
 ·have:(at_ r h.toNat).2 = 0:=by have:=c.lo; have:=c.hi; omega
  rw [z,this]
  simp [Rat.div_def]
 ·have:=Rq.cast_ne z
  grind
theorem sm_xp {n:Nat} {t:List Row} (o:Tbl n t) {h:Int} (h0:0 <= h) (h1:h < n) (hs:(sumP (col t h.toNat)).1 ≠ 0):sm t (fun r=>xr t h r * pr h r) = wQ t h:=by
 rw [sm_congr (g:=fun r=>((at_ r h.toNat).2:Rat) / ((sumP (col t h.toNat)).1:Rat)) fun r hr=>xp_eq o h0 h1 hr,sm_div hs (fun r:Row=>(at_ r h.toNat).2)]
 have e2:(sumP (col t h.toNat)).2 = (t.map fun r=>(at_ r h.toNat).2).sum:=col_map t h.toNat (·.2)
 rw [← e2]
 rfl
theorem wts_get {t:List Row} {h:Int} {k:Nat} {r:Row} (hk:t[k]? = some r):(wts (col t h.toNat)).getD k 0 = xr t h r:=by
 unfold wts xr
 rw [List.getD_eq_getElem?_getD,List.getElem?_map]
 show (Option.map _ ((t.map fun r=>at_ r h.toNat)[k]?)).getD 0 = _
 rw [List.getElem?_map,hk]
 rfl
theorem sum_filter (c:Nat -> Bool) (g:Nat -> Rat):∀ n:Nat,(((List.range n).filter c).map g).sum = ((List.range n).map fun k=>if c k = true then g k else 0).sum
 | 0=>rfl
 | n + 1=>by
  rw [List.range_succ,List.filter_append,List.map_append,List.map_append,sum_app,sum_app,sum_filter c g n,List.filter_cons,List.filter_nil]
  congr 1
  split
  ·rename_i h; rw [List.map_cons,List.map_cons,if_pos h]; rfl
  ·rename_i h
   rw [List.map_cons,if_neg h,List.map_nil,List.map_nil,List.sum_cons,List.sum_nil,Rat.add_zero]
theorem range_map {t:List Row} {f:Nat -> Rat} {g:Row -> Rat} (h:∀ k r,t[k]? = some r -> f k = g r):(List.range t.length).map f = t.map g:=by
 apply List.ext_getElem?
 intro k
 rw [List.getElem?_map,List.getElem?_map]
 by_cases hk:k < t.length
 ·rw [List.getElem?_range hk,List.getElem?_eq_getElem hk]
  show some (f k) = some (g t[k])
  rw [h k t[k] (List.getElem?_eq_getElem hk)]
 ·rw [List.getElem?_eq_none (by rw [List.length_range]; omega),List.getElem?_eq_none (by omega)]
  rfl
theorem unv_eq (t:List Row) (a b:Int):unvQ (wts (col t a.toNat)) (wts (col t b.toNat)) = sm t (fun r=>pos (xr t a r - xr t b r)):=by
 unfold unvQ upl sm
 rw [sum_filter,wts_len]
 congr 1
 refine range_map fun k r hk=>?_
 rw [wts_get hk,wts_get hk]
 unfold pos
 by_cases z:xr t b r < xr t a r
 ·rw [if_pos (decide_eq_true z),if_pos (by grind)]
 ·rw [if_neg (by rw [decide_eq_false z]; exact Bool.false_ne_true),if_neg (by grind)]
theorem oq_row {t:List Row} {h:Int} {k:Nat} {r:Row} (hk:t[k]? = some r):oq (colO t h) k = shO (at_ r h.toNat):=by
 unfold oq colO col
 rw [List.getD_eq_getElem?_getD,List.map_map,List.getElem?_map,hk]
 rfl
theorem xr_nonneg {n:Nat} {t:List Row} (o:Tbl n t) {h:Int} (h0:0 <= h) (h1:h < n) {r:Row} (hr:r ∈ t):0 <= xr t h r:=by
 have c:=(at_get (o.rows r hr) (h:=h.toNat) (by omega)).2
 have w:=whole_cnt o (h:=h.toNat) (by omega)
 have hc:(0:Rat) <= ((at_ r h.toNat).1:Rat):=Rat.intCast_nonneg.mpr (by have:=c.lo; have:=c.hi; omega)
 have hw:(0:Rat) <= ((sumP (col t h.toNat)).1:Rat):=Rat.intCast_nonneg.mpr (by have:=w.1; have:=w.2.1; omega)
 unfold xr
 generalize ((at_ r h.toNat).1:Rat) = u at hc
 generalize ((sumP (col t h.toNat)).1:Rat) = v at hw
 by_cases z:v = 0
 ·rw [z]
  simp [Rat.div_def]
 ·refine Rat.not_lt.mp fun h=>?_
  rw [Rat.div_lt_iff (by grind)] at h
  grind
theorem row_facts {n:Nat} {t:List Row} {a b:Int} (w:Two n t a b) {r:Row} (hr:r ∈ t):0 <= xr t a r /\ 0 <= xr t b r /\ (xr t a r = 0 /\ xr t b r = 0 ∨ (vq (colO t a) (endsq (colO t a)).1 <= pr a r /\ pr a r <= vq (colO t a) (endsq (colO t a)).2) /\ (vq (colO t b) (endsq (colO t b)).1 <= pr b r /\ pr b r <= vq (colO t b) (endsq (colO t b)).2) /\ (vq (leadsO t a b) (endsq (leadsO t a b)).1 <= pr a r - pr b r /\ pr a r - pr b r <= vq (leadsO t a b) (endsq (leadsO t a b)).2)):=by
 refine ⟨xr_nonneg w.o w.a0 w.a1 hr,xr_nonneg w.o w.b0 w.b1 hr,?_⟩
 have lk:=w.like r hr
 by_cases z:(at_ r a.toNat).1 = 0
 ·left
  unfold xr
  rw [z,lk.mp z]
  simp [Rat.div_def]
 ·right
  have z':(at_ r b.toNat).1 ≠ 0:=fun y=>z (lk.mpr y)
  obtain ⟨k,hk⟩:=List.mem_iff_getElem?.mp hr
  have hkl:k < t.length:=by
   rcases Nat.lt_or_ge k t.length with h | h
   ·exact h
   ·rw [List.getElem?_eq_none h] at hk; cases hk
  have oa:oq (colO t a) k = some (pr a r):=by rw [oq_row hk]; unfold shO pr; rw [if_neg z]
  have ob:oq (colO t b) k = some (pr b r):=by rw [oq_row hk]; unfold shO pr; rw [if_neg z']
  have ol:oq (leadsO t a b) k = some (pr a r - pr b r):=by rw [leads_oq,oa,ob]; rfl
  have va:vq (colO t a) k = pr a r:=by unfold vq; rw [oa]; rfl
  have vb:vq (colO t b) k = pr b r:=by unfold vq; rw [ob]; rfl
  have vl:vq (leadsO t a b) k = pr a r - pr b r:=by unfold vq; rw [ol]; rfl
  have ma:k ∈ plq (colO t a) (colO t a).length:=mem_plq (by rw [colO_len]; exact hkl) (by rw [oa]; rfl)
  have mb:k ∈ plq (colO t b) (colO t b).length:=mem_plq (by rw [colO_len]; exact hkl) (by rw [ob]; rfl)
  have ml:k ∈ plq (leadsO t a b) (leadsO t a b).length:=by rw [leads_plq w]; exact ma
  have ea:=(endsq_all (colO t a) (plq_ne w.ha)).2 k ma
  have eb:=(endsq_all (colO t b) (plq_ne w.hb)).2 k mb
  have el:=(endsq_all (leadsO t a b) (leads_ne w)).2 k ml
  rw [va] at ea
  rw [vb] at eb
  rw [vl] at el
  exact ⟨ea,eb,el⟩
theorem gap_low {n:Nat} {t:List Row} {a b:Int} (w:Two n t a b):lowQ27 t a b <= wQ t a - wQ t b:=by
 have h:=low_le (l:=t) (x:=xr t a) (y:=xr t b) (p:=pr a) (q:=pr b) (m:=vq (leadsO t a b) (endsq (leadsO t a b)).1) (loa:=vq (colO t a) (endsq (colO t a)).1) (hia:=vq (colO t a) (endsq (colO t a)).2) (lob:=vq (colO t b) (endsq (colO t b)).1) (hib:=vq (colO t b) (endsq (colO t b)).2) (fun r hr=>by
  obtain ⟨x0,y0,c⟩:=row_facts w hr
  exact ⟨x0,y0,c.imp id fun z=>⟨z.1,z.2.1,z.2.2.1⟩⟩) (sm_x w.ha) (sm_x w.hb)
 rw [sm_xp w.o w.a0 w.a1 w.ha,sm_xp w.o w.b0 w.b1 w.hb,← unv_eq] at h
 exact h
theorem fpos {a b:Int} (ha:0 < a) (hb:0 < b):(0:Rat) < (a:Rat) / (b:Rat):=by
 have h1:(0:Rat) < a:=by have:=Rat.intCast_lt_intCast.mpr ha; simpa using this
 have h2:(0:Rat) < b:=by have:=Rat.intCast_lt_intCast.mpr hb; simpa using this
 exact (Rat.lt_div_iff h2).mpr (by rw [Rat.zero_mul]; exact h1)
theorem flt {a b:Int} (hb:0 < b) (h:a < b):(a:Rat) / (b:Rat) < 1:=by
 have h2:(0:Rat) < b:=by have:=Rat.intCast_lt_intCast.mpr hb; simpa using this
 have h3:(a:Rat) < b:=Rat.intCast_lt_intCast.mpr h
 exact (Rat.div_lt_iff h2).mpr (by rw [Rat.one_mul]; exact h3)
def gLow:DSp:=fun ds Q=>match ds with
 | [.int a,.int b]=>(0 < b /\ Bd 3000 a /\ Bd 3000 b) /\ Q (ratQ ((a:Rat) / (b:Rat)))
 | _=>False
theorem m__law_low:MonoS gLow:=fun ds P P' f h=>by
 unfold gLow at h ⊢
 split at h
 ·exact ⟨h.1,f _ h.2⟩
 ·exact h.elim
def muR (ρ:DS):Nat:=match slot ρ 3 with
 | .val (.int y)=>y.natAbs
 | _=>0
theorem gcd_absl {a b:Int}:Int.gcd (if a < 0 then -a else a) b = Int.gcd a b:=by
 split
 ·rw [Int.neg_gcd]
 ·rfl
theorem g__law_low (T:Tx K mg):FnOk P w K mg base CX0 1 T.f__law_low T.fd__law_low ["_law_top","_law_bottom"] (spD K 2 gLow):=by
 refine fnD (k:=0) T.d__law_low.F sc__law_low (fun cdv A outer s H E hr=>(dss_cons (ds_set (i:=2) sc__law_low.nd rfl (by first | exact Or.inl rfl | exact Or.inr rfl) (de_callB cd_abs rfl T.z_abs rfl (da_cons (de_var 0 (pv 0)) da_nil)))
   (dss_cons (ds_set (i:=3) sc__law_low.nd rfl (by first | exact Or.inl rfl | exact Or.inr rfl) (de_var 1 (pv 1)))
   (dss_mid (ds_while PassesOwn.never (dt_cmp od_gt (de_var 3 (pv 3)) de_int (nomark _)) (dss_one (ds_par rfl sc__law_low.nd (i:=2) (j:=3) rfl rfl (by decide) rfl rfl (da_cons (de_var 3 (pv 3)) (da_cons (de_op od_mod (de_var 2 (pv 2)) (de_var 3 (pv 3))) da_nil)) rfl)))
   (dss_one (ds_ret (de_tup (da_cons (de_op od_fdiv (de_var 0 (pv 0)) (de_var 2 (pv 2))) (da_cons (de_op od_fdiv (de_var 1 (pv 1)) (de_var 2 (pv 2))) da_nil))))))))) (fun ds Q hl h=>?_)
 unfold gLow at h
 split at h
 case h_2=>exact h.elim
 rename_i a b
 obtain ⟨⟨hb,ba,bb⟩,h⟩:=h
 refine ⟨fun ρ=>ρ = [.val (.int a),.val (.int b),.val (.int (Int.gcd a b:Nat)),.val (.int 0)],?_,?_⟩
 ·refine dWhile_ind (fun ρ=>∃ (x y:Int),ρ = [.val (.int a),.val (.int b),.val (.int x),.val (.int y)] /\ 0 <= x /\ 0 <= y /\ Int.gcd x y = Int.gcd a b) muR (fun ρ X hN hX=>?_) _ ⟨_,_,rfl,by split <;> omega,by omega,gcd_absl⟩
  obtain ⟨x,y,rfl,hx,hy,e⟩:=hN
  refine ⟨fun c=>?_,fun c=>?_⟩
  ·have c:0 < y:=by simpa using c
   have c':y ≠ 0:=by omega
   have em:x % y = x.fmod y:=(Int.fmod_eq_emod_of_nonneg x hy).symm
   refine ⟨c,hX _ ⟨y,x % y,rfl,hy,Int.emod_nonneg _ c',?_⟩ ?_⟩
   ·rw [em,Ra.gcd_step c',e]
   ·show (x % y).natAbs < y.natAbs
    rw [em]; exact Ra.fmod_less c'
  ·have c:¬ 0 < y:=by simpa using c
   have:y = 0:=by omega
   subst this
   rw [Int.gcd_zero_right] at e
   have:x = ((Int.gcd a b:Nat):Int):=by omega
   rw [this]
 ·rintro _ rfl
  have hg:0 < Int.gcd a b:=Int.gcd_pos_of_ne_zero_right a (by omega)
  have hgb:Big ((Int.gcd a b:Nat):Int):=(bb.le (i:=((Int.gcd a b:Nat):Int)) (by rw [Int.natAbs_natCast]; exact Nat.le_of_dvd (Int.natAbs_pos.mpr (by omega)) (Int.gcd_dvd_natAbs_right a b))).big (by decide)
  have g0:(0:Int) < ((Int.gcd a b:Nat):Int):=by omega
  have lw:=Ra.low_of (a:=a) (b:=b) (d:=((Int.gcd a b:Nat):Int)) (by omega) (by rw [if_neg (by omega)])
  rw [Int.fdiv_eq_ediv_of_nonneg _ (by omega),Int.fdiv_eq_ediv_of_nonneg _ (by omega)] at lw
  exact ⟨⟨g0,hgb⟩,⟨g0,hgb⟩,sz,low_ratQ (by omega) h _ _ lw⟩
def Ct (c:Int × Int):Prop:=1 <= c.1 /\ 0 <= c.2 /\ c.2 <= c.1
theorem num_pos {q:Rat} (h:0 < q):0 < q.num:=by
 have:=(Rat.lt_iff 0 q).mp h
 simpa using this
structure IsL (ps:List Rat) (L:Int):Prop where
 pos:0 < L
 dv:∀ q ∈ ps,(q.den:Int) ∣ L
 least:∀ M:Int,(∀ q ∈ ps,(q.den:Int) ∣ M) -> L ∣ M
theorem IsL.step {ps:List Rat} {L:Int} (h:IsL ps L) (q:Rat):IsL (ps ++ [q]) (L * ((q.den:Int) / ((Int.gcd L (q.den:Int):Nat):Int))):=by
 have hd:=den_pos q
 have hg:0 < Int.gcd L (q.den:Int):=Int.gcd_pos_of_ne_zero_right L (by omega)
 have g1:((Int.gcd L (q.den:Int):Nat):Int) ∣ L:=Int.gcd_dvd_left ..
 have g2:((Int.gcd L (q.den:Int):Nat):Int) ∣ (q.den:Int):=Int.gcd_dvd_right ..
 obtain ⟨c,hc⟩:=id g2
 have hgi:(0:Int) < ((Int.gcd L (q.den:Int):Nat):Int):=by omega
 have h1:(q.den:Int) / ((Int.gcd L (q.den:Int):Nat):Int) = c:=Int.ediv_eq_of_eq_mul_right (by omega) hc
 have hcp:0 < c:=by
  rcases Int.lt_or_le 0 c with z | z
  ·exact z
  ·have:((Int.gcd L (q.den:Int):Nat):Int) * c <= 0:=Int.mul_nonpos_of_nonneg_of_nonpos (by omega) z
   omega
 have e:L * c = ((Int.lcm L (q.den:Int):Nat):Int):=by
  have h2:=Int.gcd_mul_lcm L (q.den:Int)
  have h3:((Int.gcd L (q.den:Int):Nat):Int) * ((Int.lcm L (q.den:Int):Nat):Int) = L * (q.den:Int):=by
   have:((Int.gcd L (q.den:Int) * Int.lcm L (q.den:Int):Nat):Int) = ((L.natAbs * (q.den:Int).natAbs:Nat):Int):=by rw [h2]
   rw [Int.natCast_mul,Int.natCast_mul,Int.natAbs_of_nonneg (by have:=h.pos; omega),Int.natAbs_of_nonneg (by omega)] at this
   exact this
  apply Int.eq_of_mul_eq_mul_left (a:=((Int.gcd L (q.den:Int):Nat):Int)) (by omega)
  rw [h3,Int.mul_left_comm,← hc]
 rw [h1]
 refine ⟨Int.mul_pos h.pos hcp,fun p hp=>?_,fun M hM=>?_⟩
 ·rw [e]
  rcases List.mem_append.mp hp with hp | hp
  ·exact Int.dvd_trans (h.dv p hp) (Int.dvd_lcm_left ..)
  ·rw [List.mem_singleton.mp hp]; exact Int.dvd_lcm_right ..
 ·rw [e]
  exact Int.coe_lcm_dvd (h.least M fun p hp=>hM p (by simp [hp])) (hM q (by simp))
theorem top_val {q:Rat} {L:Int} (h:(q.den:Int) ∣ L):((q.num * (L / (q.den:Int)):Int):Rat) = q * (L:Rat):=by
 obtain ⟨c,rfl⟩:=h
 rw [Int.mul_ediv_cancel_left c (den_ne q),Rat.intCast_mul,Rat.intCast_mul]
 have hq:=self q
 have dq:=cast_ne (den_ne q)
 grind
theorem castpos {a:Int} (h:(0:Rat) < a):0 < a:=by
 have:((0:Int):Rat) < (a:Rat):=by simpa using h
 exact Rat.intCast_lt_intCast.mp this
theorem castle {a b:Int} (h:(a:Rat) <= b):a <= b:=Rat.intCast_le_intCast.mp h
theorem pos_mul {a b:Rat} (ha:0 < a) (hb:0 < b):0 < a * b:=Rat.mul_pos ha hb
theorem le_mul {a b c:Rat} (hc:0 <= c) (h:a <= b):a * c <= b * c:=Rat.mul_le_mul_of_nonneg_right h hc
theorem dvq {x y q:Rat} (hy:y ≠ 0) (e:x = q * y):x / y = q:=by grind
theorem mne {x y:Rat} (hx:x ≠ 0) (hy:y ≠ 0):x * y ≠ 0:=by
 intro h
 rcases Rat.mul_eq_zero.mp h with h | h
 ·exact hx h
 ·exact hy h
theorem ratQ_eq {p q:Rat} (h:ratQ p = ratQ q):p = q:=by
 unfold ratQ at h
 simp at h
 rw [← self p,← self q,h.1,h.2]
theorem ratQs_inj {xs ys:List Rat} (h:xs.map ratQ = ys.map ratQ):xs = ys:=(List.map_inj_right (f:=ratQ) fun _ _ h=>ratQ_eq h).mp h
theorem dvd_cop {a b c:Int} (h:a ∣ b * c) (g:Int.gcd a b = 1):a ∣ c:=by
 have h1:a.natAbs ∣ b.natAbs * c.natAbs:=by rw [← Int.natAbs_mul]; exact Int.natAbs_dvd_natAbs.mpr h
 exact Int.natAbs_dvd_natAbs.mp (Nat.Coprime.dvd_of_dvd_mul_left g h1)
def gCB:DSp:=fun ds Q=>match ds with
 | [.lst xs]=>∃ qs:List Rat,xs = qs.map ratQ /\ qs.length <= 4 /\ (∀ q ∈ qs,QB 1500 q) /\ ∀ L:Int,IsL qs L -> Q (.int L)
 | _=>False
theorem m_common_bottom:MonoS gCB:=fun ds P P' f h=>by
 unfold gCB at h ⊢
 split at h
 ·obtain ⟨a,b,c,d,h⟩:=h
  exact ⟨a,b,c,d,fun L o=>f _ (h L o)⟩
 ·exact h.elim
theorem g_common_bottom (T:Tx K mg):FnOk P w K mg base CX0 2 T.f_common_bottom T.fd_common_bottom ["ratios"] (spD K 1 gCB):=by
 refine fnD (k:=1) T.d_common_bottom.F sc_common_bottom (fun cdv A outer s H E hr=>(dss_cons (ds_set (i:=1) sc_common_bottom.nd rfl (by first | exact Or.inl rfl | exact Or.inr rfl) de_int)
   (dss_mid (ds_for PassesOwn.never rfl (di_list (de_var 0 (pv 0))) (dg_name (i:=2) sc_common_bottom.nd rfl (by first | exact Or.inl rfl | exact Or.inr rfl)) (dss_one (ds_set (i:=1) sc_common_bottom.nd rfl (by first | exact Or.inl rfl | exact Or.inr rfl) (de_op od_mul (de_var 1 (pv 1)) (de_op od_fdiv (de_ix (de_var 2 (pv 2)) de_int (fun _ _=>rfl)) (de_call (g_greatest_divisor T) m_greatest_divisor (hr.mono (by decide)) rfl T.d_greatest_divisor.m T.d_greatest_divisor.F.kp T.d_greatest_divisor.b (da_cons (de_var 1 (pv 1)) (da_cons (de_ix (de_var 2 (pv 2)) de_int (fun _ _=>rfl)) da_nil))))))))
   (dss_one (ds_ret (de_var 1 (pv 1))))))) (fun ds Q hl h=>?_)
 unfold gCB at h
 split at h
 case h_2=>exact h.elim
 obtain ⟨qs,rfl,l8,hb,h⟩:=h
 refine ⟨fun ρ=>∃ (L:Int) (s:Sl),IsL qs L /\ ρ = [.val (.lst (qs.map ratQ)),.val (.int L),s],?_,?_⟩
 ·refine dLoop_pre (fun pre ρ=>∃ (ps:List Rat) (L:Int) (s:Sl),pre = ps.map ratQ /\ IsL ps L /\ Bd (1500 * ps.length + 1) L /\ ρ = [.val (.lst (qs.map ratQ)),.val (.int L),s]) (fun ρ hN=>?_) (fun pre d post ρ X e hN hX=>?_) _ ⟨[],1,_,rfl,⟨by decide,fun q hq=>by simp at hq,fun M _=>Int.one_dvd M⟩,bd_lit,rfl⟩
  ·obtain ⟨ps,L,s,e,o,_,rfl⟩:=hN
   have e2:=ratQs_inj e
   subst e2
   exact ⟨L,s,o,rfl⟩
  ·obtain ⟨ps,L,s,rfl,o,bL,rfl⟩:=hN
   have hd:d ∈ qs.map ratQ:=by rw [e]; simp
   obtain ⟨q,hq,rfl⟩:=List.mem_map.mp hd
   have hl:(qs.map ratQ).length = (ps.map ratQ).length + (post.length + 1):=by rw [e]; simp
   rw [List.length_map,List.length_map] at hl
   have bq:=hb q hq
   have hd0:=den_pos q
   have hg:0 < Int.gcd L (q.den:Int):=Int.gcd_pos_of_ne_zero_right L (by omega)
   have hgl:Int.gcd L (q.den:Int) <= (q.den:Int).natAbs:=Nat.le_of_dvd (Int.natAbs_pos.mpr (by omega)) (Int.gcd_dvd_natAbs_right ..)
   have bg:Big ((Int.gcd L (q.den:Int):Nat):Int):=(bq.de.le (i:=((Int.gcd L (q.den:Int):Nat):Int)) (by rw [Int.natAbs_natCast]; exact hgl)).big (by decide)
   have bd:Bd 1500 ((q.den:Int) / ((Int.gcd L (q.den:Int):Nat):Int)):=bq.de.le (Int.natAbs_ediv_le_natAbs ..)
   refine ⟨rfl,⟨by omega,bg⟩,(bL.mono (by omega):Bd 6500 L).cmul (bd.mono (by decide):Bd 3000 _),hX _ ⟨ps ++ [q],_,_,by simp,o.step q,((bL.mul bd).mono (by simp; omega)),rfl⟩⟩
 ·rintro _ ⟨L,s,o,rfl⟩
  exact h L o
def gTop:DSp:=fun ds Q=>∃ (q:Rat) (L:Int),ds = [ratQ q,.int L] /\ QB 1500 q /\ Bd 2500 L /\ (q.den:Int) ∣ L /\ ∀ n:Int,(n:Rat) = q * (L:Rat) -> Q (.int n)
theorem m_top_over:MonoS gTop:=fun ds P P' f h=>by
 obtain ⟨a,b,c,d,e,g,h⟩:=h
 exact ⟨a,b,c,d,e,g,fun n o=>f _ (h n o)⟩
theorem g_top_over (T:Tx K mg):FnOk P w K mg base CX0 1 T.f_top_over T.fd_top_over ["ratio","bottom"] (spD K 2 gTop):=by
 refine fnD (k:=0) T.d_top_over.F sc_top_over (fun cdv A outer s H E hr=>(dss_one (ds_ret (de_op od_mul (de_ix (de_var 0 (pv 0)) de_int (fun _ _=>rfl)) (de_op od_fdiv (de_var 1 (pv 1)) (de_ix (de_var 0 (pv 0)) de_int (fun _ _=>rfl))))))) (fun ds Q hl h=>?_)
 obtain ⟨q,L,rfl,bq,bL,dv,h⟩:=h
 have hd:=den_pos q
 have bd:Bd 2500 (L / (q.den:Int)):=bL.le (Int.natAbs_ediv_le_natAbs ..)
 exact ⟨⟨by omega,bq.de.big (by decide)⟩,(bq.nu.mono (by decide):Bd 3000 _).cmul (bd.mono (by decide):Bd 3000 _),h _ (top_val dv)⟩
def gHalf:DSp:=fun ds Q=>∃ q:Rat,ds = [ratQ q] /\ QB 2000 q /\ Q (ratQ (q * (1 / 2)))
theorem m_half:MonoS gHalf:=fun ds P P' f h=>by
 obtain ⟨a,b,c,h⟩:=h
 exact ⟨a,b,c,f _ h⟩
theorem half_val:((1:Rat) / 2).num = 1 /\ ((1:Rat) / 2).den = 2:=by decide +kernel
theorem ratQ_half:ratQ (1 / 2) = .tup [.int 1,.int 2]:=by
 unfold ratQ
 rw [half_val.1,half_val.2]
 rfl
theorem ratQ_one:ratQ 1 = .tup [.int 1,.int 1]:=rfl
theorem ratQ_zero:ratQ 0 = .tup [.int 0,.int 1]:=rfl
theorem QB0:QB 1 (0:Rat):=⟨by show Int.natAbs 0 < 2 ^ 1; decide,by show Int.natAbs 1 < 2 ^ 1; decide⟩
theorem QB1:QB 1 (1:Rat):=⟨by show Int.natAbs 1 < 2 ^ 1; decide,by show Int.natAbs 1 < 2 ^ 1; decide⟩
theorem QBh:QB 2 ((1:Rat) / 2):=⟨by rw [half_val.1]; exact bd_lit,by rw [half_val.2]; exact bd_lit⟩
theorem g_half (T:Tx K mg):FnOk P w K mg base CX0 4 T.f_half T.fd_half ["ratio"] (spD K 1 gHalf):=by
 refine fnD (k:=3) T.d_half.F sc_half (fun cdv A outer s H E hr=>(dss_one (ds_ret (de_call (g_times T) m_times (hr.mono (by decide)) rfl T.d_times.m T.d_times.F.kp T.d_times.b (da_cons (de_var 0 (pv 0)) (da_cons (de_tup (da_cons de_int (da_cons de_int da_nil))) da_nil)))))) (fun ds Q hl h=>?_)
 obtain ⟨q,rfl,bq,h⟩:=h
 refine ⟨sz,rfl,?_⟩
 rw [← ratQ_half]
 exact timesQ (bq.mono (by decide)) (QBh.mono (by decide)) h
theorem den_dvd {q:Rat} {D n:Int} (h:q * (D:Rat) = (n:Rat)):(q.den:Int) ∣ D:=by
 have hq:=self q
 have dq:=cast_ne (den_ne q)
 have e:((q.num * D:Int):Rat) = ((n * (q.den:Int):Int):Rat):=by
  rw [Rat.intCast_mul,Rat.intCast_mul]
  grind
 have e:=Rat.intCast_inj.mp e
 have dv:(q.den:Int) ∣ q.num * D:=⟨n,by rw [e,Int.mul_comm]⟩
 exact dvd_cop dv (by rw [Int.gcd_comm]; exact q.reduced)
theorem bd_dvd {n:Nat} {L M:Int} (h:L ∣ M) (hM:M ≠ 0) (b:Bd n M):Bd n L:=b.le (Nat.le_of_dvd (Int.natAbs_pos.mpr hM) (Int.natAbs_dvd_natAbs.mpr h))
structure CB (w s o:Rat) (N:Int):Prop where
 pos:0 < N
 bd:Bd 250 N
 n1:∃ n:Int,w * (N:Rat) = n
 n2:∃ n:Int,(1 - w) * (N:Rat) = n
 n3:∃ n:Int,w * s * (N:Rat) = n
 n4:∃ n:Int,(1 - w) * o * (N:Rat) = n
structure Least (w s o:Rat) (t0 w0 t1 w1:Int):Prop where
 ex:∃ L:Int,0 < L /\ (t0:Rat) = w * (L:Rat) /\ (w0:Rat) = w * s * (L:Rat) /\ (t1:Rat) = (1 - w) * (L:Rat) /\ (w1:Rat) = (1 - w) * o * (L:Rat)
 b0:Bd 250 t0
 b1:Bd 250 t1
theorem part_bd {n:Nat} {q:Rat} {L t:Int} (h0:0 <= q) (h1:q <= 1) (hL:0 < L) (bL:Bd n L) (e:(t:Rat) = q * (L:Rat)):Bd n t:=by
 have L0:(0:Rat) <= L:=Rat.intCast_nonneg.mpr (by omega)
 have a:(0:Rat) <= (t:Rat):=by rw [e]; exact Rat.mul_nonneg h0 L0
 have b:(t:Rat) <= (L:Rat):=by
  rw [e]
  have:=Rat.mul_le_mul_of_nonneg_right h1 L0
  rw [Rat.one_mul] at this
  exact this
 have a':0 <= t:=Rat.intCast_nonneg.mp a
 have b':t <= L:=Rat.intCast_le_intCast.mp b
 exact bL.le (by omega)
def gCnts:DSp:=fun ds Q=>∃ (w s o:Rat) (N:Int),ds = [ratQ w,ratQ s,ratQ o] /\ QB 400 w /\ QB 630 s /\ QB 500 o /\ (0 <= w /\ w <= 1) /\ CB w s o N /\ ∀ t0 w0 t1 w1:Int,Least w s o t0 w0 t1 w1 -> Q (.lst [pairD (t0,w0),pairD (t1,w1)])
theorem m_counts_by:MonoS gCnts:=fun ds P P' f h=>by
 obtain ⟨a,b,c,N,d,e,g,i,j,k,h⟩:=h
 exact ⟨a,b,c,N,d,e,g,i,j,k,fun _ _ _ _ o=>f _ (h _ _ _ _ o)⟩
theorem g_counts_by (T:Tx K mg):FnOk P w K mg base CX0 4 T.f_counts_by T.fd_counts_by ["weight","share","other"] (spD K 3 gCnts):=by
 refine fnD (k:=3) T.d_counts_by.F sc_counts_by (fun cdv A outer s H E hr=>(dss_cons (ds_set (i:=3) sc_counts_by.nd rfl (by first | exact Or.inl rfl | exact Or.inr rfl) (de_frz (dl_lst (da_cons (de_var 0 (pv 0)) (da_cons (de_call (g_minus T) m_minus (hr.mono (by decide)) rfl T.d_minus.m T.d_minus.F.kp T.d_minus.b (da_cons (de_tup (da_cons de_int (da_cons de_int da_nil))) (da_cons (de_var 0 (pv 0)) da_nil))) da_nil)))))
   (dss_cons (ds_set (i:=4) sc_counts_by.nd rfl (by first | exact Or.inl rfl | exact Or.inr rfl) (de_frz (dl_lst (da_cons (de_call (g_times T) m_times (hr.mono (by decide)) rfl T.d_times.m T.d_times.F.kp T.d_times.b (da_cons (de_ix (de_var 3 (pv 3)) de_int (fun _ _=>rfl)) (da_cons (de_var 1 (pv 1)) da_nil))) (da_cons (de_call (g_times T) m_times (hr.mono (by decide)) rfl T.d_times.m T.d_times.F.kp T.d_times.b (da_cons (de_ix (de_var 3 (pv 3)) de_int (fun _ _=>rfl)) (da_cons (de_var 2 (pv 2)) da_nil))) da_nil)))))
   (dss_cons (ds_set (i:=5) sc_counts_by.nd rfl (by first | exact Or.inl rfl | exact Or.inr rfl) (de_call (g_common_bottom T) m_common_bottom (hr.mono (by decide)) rfl T.d_common_bottom.m T.d_common_bottom.F.kp T.d_common_bottom.b (da_cons (de_frz (dl_cat (de_var 3 (pv 3)) (de_var 4 (pv 4)))) da_nil)))
   (dss_one (ds_ret (de_frz (PCD.pld (dl_comp (N':=["part","weights","tried","wells"]) rfl rfl (by decide +kernel) rfl (.own (.cap (j:=3) rfl (by first | exact Or.inl rfl | exact Or.inr rfl) rfl (.cap (j:=5) rfl (by first | exact Or.inl rfl | exact Or.inr rfl) rfl (.cap (j:=4) rfl (by first | exact Or.inl rfl | exact Or.inr rfl) rfl .nil)))) (by decide +kernel) (di_tup (de_tup (da_cons de_int (da_cons de_int da_nil)))) (fun B=>(dg_name (i:=0) (show List.Nodup (α:=PySem.Str) ["part","weights","tried","wells"] by decide +kernel) rfl (by first | exact Or.inl rfl | exact Or.inr rfl))) (fun B=>dts_nil) (fun B=>(de_tup (da_cons (de_call (g_top_over T) m_top_over (hr.mono (by decide)) rfl T.d_top_over.m T.d_top_over.F.kp T.d_top_over.b (da_cons (de_ix (de_var 1 (pv 1)) (de_var 0 (pv 0)) (fun _ _=>rfl)) (da_cons (de_var 2 (pv 2)) da_nil))) (da_cons (de_call (g_top_over T) m_top_over (hr.mono (by decide)) rfl T.d_top_over.m T.d_top_over.F.kp T.d_top_over.b (da_cons (de_ix (de_var 3 (pv 3)) (de_var 0 (pv 0)) (fun _ _=>rfl)) (da_cons (de_var 2 (pv 2)) da_nil))) da_nil))))))))))))) (fun ds Q hl h=>?_)
 obtain ⟨w,s,o,N,rfl,bw,bs,bo,⟨w0,w1⟩,cb,h⟩:=h
 have b1:=QB1
 have bw':QB 402 (1 - w):=b1.sub bw
 have bws:QB 1030 (w * s):=bw.mul bs
 have bwo:QB 902 ((1 - w) * o):=bw'.mul bo
 refine ⟨sz,rfl,?_⟩
 rw [← ratQ_one]
 refine minusQ (b1.mono (by decide)) (bw.mono (by decide)) ⟨sz,?_⟩
 refine ⟨rfl,timesQ (bw.mono (by decide)) (bs.mono (by decide)) ⟨rfl,timesQ (bw'.mono (by decide)) (bo.mono (by decide)) ⟨sz,?_⟩⟩⟩
 refine ⟨sz,rfl,[w,1 - w,w * s,(1 - w) * o],rfl,by simp,fun q hq=>?_,fun L oL=>?_⟩
 ·simp only [List.mem_cons,List.not_mem_nil,or_false] at hq
  rcases hq with rfl | rfl | rfl | rfl
  ·exact bw.mono (by decide)
  ·exact bw'.mono (by decide)
  ·exact bws.mono (by decide)
  ·exact bwo.mono (by decide)
 have bL:Bd 250 L:=by
  refine bd_dvd (oL.least N fun q hq=>?_) (by have:=cb.pos; omega) cb.bd
  simp only [List.mem_cons,List.not_mem_nil,or_false] at hq
  obtain ⟨n1,e1⟩:=cb.n1
  obtain ⟨n2,e2⟩:=cb.n2
  obtain ⟨n3,e3⟩:=cb.n3
  obtain ⟨n4,e4⟩:=cb.n4
  rcases hq with rfl | rfl | rfl | rfl
  ·exact den_dvd e1
  ·exact den_dvd e2
  ·exact den_dvd e3
  ·exact den_dvd e4
 have d0:=oL.dv w (by simp)
 have d1:=oL.dv (1 - w) (by simp)
 have d2:=oL.dv (w * s) (by simp)
 have d3:=oL.dv ((1 - w) * o) (by simp)
 have bL':Bd 2500 L:=bL.mono (by decide)
 refine ⟨sz,Br.t ⟨rfl,w,L,rfl,bw.mono (by decide),bL',d0,fun t0 e0=>⟨rfl,w * s,L,rfl,bws.mono (by decide),bL',d2,fun w0 f0=>⟨sz,sz,Br.t ⟨rfl,1 - w,L,rfl,bw'.mono (by decide),bL',d1,fun t1 e1=>⟨rfl,(1 - w) * o,L,rfl,bwo.mono (by decide),bL',d3,fun w1 f1=>⟨sz,sz,?_⟩⟩⟩⟩⟩⟩⟩
 exact h t0 w0 t1 w1 ⟨⟨L,oL.pos,e0,f0,e1,f1⟩,part_bd (by grind) (by grind) oL.pos bL e0,part_bd (by grind) (by grind) oL.pos bL e1⟩
structure Met (l p u:Rat) (a0 b0 a1 b1 c0 d0 c1 d1:Int):Prop where
 la:∃ L:Int,0 < L /\ (a0:Rat) = (1 - (1 - u) * (1 / 2)) * L /\ (b0:Rat) = (1 - (1 - u) * (1 / 2)) * l * L /\ (a1:Rat) = (1 - (1 - (1 - u) * (1 / 2))) * L /\ (b1:Rat) = (1 - (1 - (1 - u) * (1 / 2))) * (l + p) * L
 lc:∃ L:Int,0 < L /\ (c0:Rat) = ((1 - u) * (1 / 2)) * L /\ (d0:Rat) = ((1 - u) * (1 / 2)) * 0 * L /\ (c1:Rat) = (1 - (1 - u) * (1 / 2)) * L /\ (d1:Rat) = (1 - (1 - u) * (1 / 2)) * p * L
theorem Met.facts {l p u:Rat} {a0 b0 a1 b1 c0 d0 c1 d1:Int} (m:Met l p u a0 b0 a1 b1 c0 d0 c1 d1) (hl:0 < l) (hp:0 < p) (hs:l + p <= 1) (hu:0 < u) (hu1:u < 1) :
  (0 < a0 /\ 0 < a1 /\ 0 < c0 /\ 0 < c1) /\ (0 <= b0 /\ b0 <= a0) /\ (0 <= b1 /\ b1 <= a1) /\ (0 <= d0 /\ d0 <= c0) /\ (0 <= d1 /\ d1 <= c1):=by
 obtain ⟨⟨L,L0,e1,e2,e3,e4⟩,⟨N,N0,f1,f2,f3,f4⟩⟩:=m
 have L0':(0:Rat) < L:=by have:=Rat.intCast_lt_intCast.mpr L0; simpa using this
 have N0':(0:Rat) < N:=by have:=Rat.intCast_lt_intCast.mpr N0; simpa using this
 have w1:(0:Rat) < 1 - (1 - u) * (1 / 2):=by grind
 have w2:(0:Rat) < (1 - u) * (1 / 2):=by grind
 have w3:(0:Rat) < 1 - (1 - (1 - u) * (1 / 2)):=by grind
 have p1:=pos_mul w1 L0'
 have p3:=pos_mul w3 L0'
 have q1:=pos_mul w1 N0'
 have q2:=pos_mul w2 N0'
 have r1:(b0:Rat) = l * ((1 - (1 - u) * (1 / 2)) * L):=by rw [e2]; grind
 have r2:(b1:Rat) = (l + p) * ((1 - (1 - (1 - u) * (1 / 2))) * L):=by rw [e4]; grind
 have r3:(d1:Rat) = p * ((1 - (1 - u) * (1 / 2)) * N):=by rw [f4]; grind
 have r4:(d0:Rat) = 0:=by rw [f2]; grind
 have d00:d0 = 0:=Rat.intCast_inj.mp (by simpa using r4)
 refine ⟨⟨castpos (by rw [e1]; exact p1),castpos (by rw [e3]; exact p3),castpos (by rw [f1]; exact q2),castpos (by rw [f3]; exact q1)⟩,⟨?_,?_⟩,⟨?_,?_⟩,⟨by omega,?_⟩,⟨?_,?_⟩⟩
 ·have:=pos_mul hl p1
  rw [← r1] at this
  have:=castpos this
  omega
 ·apply castle
  rw [r1,e1]
  have:=le_mul (a:=l) (b:=1) (Rat.le_of_lt p1) (by grind)
  grind
 ·have:=pos_mul (show 0 < l + p by grind) p3
  rw [← r2] at this
  have:=castpos this
  omega
 ·apply castle
  rw [r2,e3]
  have:=le_mul (a:=l + p) (b:=1) (Rat.le_of_lt p3) hs
  grind
 ·have:0 < c0:=castpos (by rw [f1]; exact q2)
  omega
 ·have:=pos_mul hp q1
  rw [← r3] at this
  have:=castpos this
  omega
 ·apply castle
  rw [r3,f3]
  have:=le_mul (a:=p) (b:=1) (Rat.le_of_lt q1) (by grind)
  grind
theorem num_eq (q:Rat):(q.num:Rat) = q * ((q.den:Int):Rat):=by
 have hq:=self q
 have dq:=cast_ne (den_ne q)
 grind
theorem meet_N {l p u:Rat} (bl:QB 53 l) (bp:QB 53 p) (bu:QB 53 u):0 < 2 * ((u.den:Int) * ((l.den:Int) * (p.den:Int))) /\ Bd 250 (2 * ((u.den:Int) * ((l.den:Int) * (p.den:Int)))):=by
 refine ⟨Int.mul_pos (by decide) (Int.mul_pos (den_pos u) (Int.mul_pos (den_pos l) (den_pos p))),?_⟩
 exact ((bd_lit:Bd 2 (2:Int)).mul (bu.de.mul (bl.de.mul bp.de))).mono (by decide)
theorem meet_cb1 {l p u:Rat} (bl:QB 53 l) (bp:QB 53 p) (bu:QB 53 u):CB (1 - (1 - u) * (1 / 2)) l (l + p) (2 * ((u.den:Int) * ((l.den:Int) * (p.den:Int)))):=by
 have hu:=num_eq u
 have hl:=num_eq l
 have hp:=num_eq p
 obtain ⟨n0,nb⟩:=meet_N bl bp bu
 refine ⟨n0,nb,⟨((u.den:Int) + u.num) * ((l.den:Int) * (p.den:Int)),?_⟩,⟨((u.den:Int) - u.num) * ((l.den:Int) * (p.den:Int)),?_⟩,⟨((u.den:Int) + u.num) * (l.num * (p.den:Int)),?_⟩,⟨((u.den:Int) - u.num) * (l.num * (p.den:Int) + p.num * (l.den:Int)),?_⟩⟩ <;>
  simp only [Rat.intCast_mul,Rat.intCast_sub,Rat.intCast_add,hu,hl,hp,Rat.intCast_ofNat] <;> grind
theorem meet_cb2 {l p u:Rat} (bl:QB 53 l) (bp:QB 53 p) (bu:QB 53 u):CB ((1 - u) * (1 / 2)) 0 p (2 * ((u.den:Int) * ((l.den:Int) * (p.den:Int)))):=by
 have hu:=num_eq u
 have hl:=num_eq l
 have hp:=num_eq p
 obtain ⟨n0,nb⟩:=meet_N bl bp bu
 refine ⟨n0,nb,⟨((u.den:Int) - u.num) * ((l.den:Int) * (p.den:Int)),?_⟩,⟨((u.den:Int) + u.num) * ((l.den:Int) * (p.den:Int)),?_⟩,⟨0,?_⟩,⟨((u.den:Int) + u.num) * ((l.den:Int) * p.num),?_⟩⟩ <;>
  simp only [Rat.intCast_mul,Rat.intCast_sub,Rat.intCast_add,hu,hl,hp,Rat.intCast_ofNat] <;> grind
def gMeet:DSp:=fun ds Q=>∃ l p u:Rat,ds = [ratQ l,ratQ p,ratQ u] /\ (0 < l /\ 0 < p /\ l + p <= 1 /\ 0 < u /\ u < 1) /\ QB 53 l /\ QB 53 p /\ QB 53 u /\
 ∀ a0 b0 a1 b1 c0 d0 c1 d1:Int,Met l p u a0 b0 a1 b1 c0 d0 c1 d1 -> (Bd 250 a0 /\ Bd 250 a1 /\ Bd 250 c0 /\ Bd 250 c1) -> Q (.lst [.tup [pairD (a0,b0),pairD (c0,d0)],.tup [pairD (a1,b1),pairD (c1,d1)]])
theorem m_meeting:MonoS gMeet:=fun ds P P' f h=>by
 obtain ⟨a,b,c,d,e,g,i,j,h⟩:=h
 exact ⟨a,b,c,d,e,g,i,j,fun _ _ _ _ _ _ _ _ o z=>f _ (h _ _ _ _ _ _ _ _ o z)⟩
theorem g_meeting (T:Tx K mg):FnOk P w K mg base CX0 5 T.f_meeting T.fd_meeting ["lead","apart","uneven"] (spD K 3 gMeet):=by
 refine fnD (k:=4) T.d_meeting.F sc_meeting (fun cdv A outer s H E hr=>(dss_cons (ds_if (PWD.pt (dw_or (dt_not (dt_val (de_call (g_less T) m_less (hr.mono (by decide)) rfl T.d_less.m T.d_less.F.kp T.d_less.b (da_cons (de_tup (da_cons de_int (da_cons de_int da_nil))) (da_cons (de_var 0 (pv 0)) da_nil))))) (dw_or (dt_not (dt_val (de_call (g_less T) m_less (hr.mono (by decide)) rfl T.d_less.m T.d_less.F.kp T.d_less.b (da_cons (de_tup (da_cons de_int (da_cons de_int da_nil))) (da_cons (de_var 1 (pv 1)) da_nil))))) (dw_or1 (dt_val (de_call (g_less T) m_less (hr.mono (by decide)) rfl T.d_less.m T.d_less.F.kp T.d_less.b (da_cons (de_tup (da_cons de_int (da_cons de_int da_nil))) (da_cons (de_call (g_plus T) m_plus (hr.mono (by decide)) rfl T.d_plus.m T.d_plus.F.kp T.d_plus.b (da_cons (de_var 0 (pv 0)) (da_cons (de_var 1 (pv 1)) da_nil))) da_nil)))))))) (dss_one ds_never) dss_nil)
   (dss_cons (ds_if (PWD.pt (dw_or (dt_not (dt_val (de_call (g_less T) m_less (hr.mono (by decide)) rfl T.d_less.m T.d_less.F.kp T.d_less.b (da_cons (de_tup (da_cons de_int (da_cons de_int da_nil))) (da_cons (de_var 2 (pv 2)) da_nil))))) (dw_or1 (dt_not (dt_val (de_call (g_less T) m_less (hr.mono (by decide)) rfl T.d_less.m T.d_less.F.kp T.d_less.b (da_cons (de_var 2 (pv 2)) (da_cons (de_tup (da_cons de_int (da_cons de_int da_nil))) da_nil)))))))) (dss_one ds_never) dss_nil)
   (dss_cons (ds_set (i:=3) sc_meeting.nd rfl (by first | exact Or.inl rfl | exact Or.inr rfl) (de_call (g_half T) m_half (hr.mono (by decide)) rfl T.d_half.m T.d_half.F.kp T.d_half.b (da_cons (de_call (g_minus T) m_minus (hr.mono (by decide)) rfl T.d_minus.m T.d_minus.F.kp T.d_minus.b (da_cons (de_tup (da_cons de_int (da_cons de_int da_nil))) (da_cons (de_var 2 (pv 2)) da_nil))) da_nil)))
   (dss_cons (ds_set (i:=4) sc_meeting.nd rfl (by first | exact Or.inl rfl | exact Or.inr rfl) (de_call (g_counts_by T) m_counts_by (hr.mono (by decide)) rfl T.d_counts_by.m T.d_counts_by.F.kp T.d_counts_by.b (da_cons (de_call (g_minus T) m_minus (hr.mono (by decide)) rfl T.d_minus.m T.d_minus.F.kp T.d_minus.b (da_cons (de_tup (da_cons de_int (da_cons de_int da_nil))) (da_cons (de_var 3 (pv 3)) da_nil))) (da_cons (de_var 0 (pv 0)) (da_cons (de_call (g_plus T) m_plus (hr.mono (by decide)) rfl T.d_plus.m T.d_plus.F.kp T.d_plus.b (da_cons (de_var 0 (pv 0)) (da_cons (de_var 1 (pv 1)) da_nil))) da_nil)))))
   (dss_cons (ds_set (i:=5) sc_meeting.nd rfl (by first | exact Or.inl rfl | exact Or.inr rfl) (de_call (g_counts_by T) m_counts_by (hr.mono (by decide)) rfl T.d_counts_by.m T.d_counts_by.F.kp T.d_counts_by.b (da_cons (de_var 3 (pv 3)) (da_cons (de_tup (da_cons de_int (da_cons de_int da_nil))) (da_cons (de_var 1 (pv 1)) da_nil)))))
   (dss_one (ds_ret (de_frz (dl_listZ rfl rfl T.z_list rfl T.z_zip (da_cons (de_var 4 (pv 4)) (da_cons (de_var 5 (pv 5)) da_nil)))))))))))) (fun ds Q hl h=>?_)
 obtain ⟨l,p,u,rfl,⟨l0,p0,lp,u0,u1⟩,bl,bp,bu,h⟩:=h
 have b0:=QB0
 have b1:=QB1
 have blp:QB 107 (l + p):=bl.add bp
 have b1u:QB 55 (1 - u):=b1.sub bu
 have bwt:QB 57 ((1 - u) * (1 / 2)):=b1u.mul QBh
 have b1w:QB 59 (1 - (1 - u) * (1 / 2)):=b1.sub bwt
 refine ⟨sz,rfl,?_⟩
 rw [← ratQ_zero]
 refine lessQ (b0.mono (by decide)) (bl.mono (by decide)) ?_
 rw [decide_eq_true l0]
 refine Br.f ⟨sz,rfl,?_⟩
 rw [← ratQ_zero]
 refine lessQ (b0.mono (by decide)) (bp.mono (by decide)) ?_
 rw [decide_eq_true p0]
 refine Br.f ⟨sz,rfl,plusQ (bl.mono (by decide)) (bp.mono (by decide)) ⟨rfl,?_⟩⟩
 rw [← ratQ_one]
 refine lessQ (b1.mono (by decide)) (blp.mono (by decide)) ?_
 rw [decide_eq_false (by grind)]
 refine Br.f ⟨sz,rfl,?_⟩
 rw [← ratQ_zero]
 refine lessQ (b0.mono (by decide)) (bu.mono (by decide)) ?_
 rw [decide_eq_true u0]
 refine Br.f ⟨sz,rfl,?_⟩
 rw [← ratQ_one]
 refine lessQ (bu.mono (by decide)) (b1.mono (by decide)) ?_
 rw [decide_eq_true u1]
 refine Br.f ⟨sz,rfl,?_⟩
 rw [← ratQ_one]
 refine minusQ (b1.mono (by decide)) (bu.mono (by decide)) ⟨rfl,1 - u,rfl,b1u.mono (by decide),sz,rfl,?_⟩
 rw [← ratQ_one]
 refine minusQ (b1.mono (by decide)) (bwt.mono (by decide)) ⟨rfl,plusQ (bl.mono (by decide)) (bp.mono (by decide)) ⟨rfl,1 - (1 - u) * (1 / 2),l,l + p,_,rfl,b1w.mono (by decide),bl.mono (by decide),blp.mono (by decide),⟨by grind,by grind⟩,meet_cb1 bl bp bu,fun a0 b0' a1 b1' m1=>⟨sz,?_⟩⟩⟩
 rw [← ratQ_zero]
 refine ⟨rfl,(1 - u) * (1 / 2),0,p,_,rfl,bwt.mono (by decide),b0.mono (by decide),bp.mono (by decide),⟨by grind,by grind⟩,meet_cb2 bl bp bu,fun c0 d0 c1 d1 m2=>?_⟩
 exact h a0 b0' a1 b1' c0 d0 c1 d1 ⟨m1.ex,m2.ex⟩ ⟨m1.b0,m1.b1,m2.b0,m2.b1⟩
theorem ldiv {s sp u l:Rat} (hsp:sp = l / u) (hu:0 < u) (hl:0 < l):sp * u = l /\ 0 < sp:=by
 have e:sp * u = l:=by rw [hsp]; grind
 refine ⟨e,?_⟩
 rw [hsp]
 exact (Rat.lt_div_iff hu).mpr (by rw [Rat.zero_mul]; exact hl)
def lst0 (s sp u:Rat):Rat:=1 - (1 - s) / sp
def lst1 (s sp u:Rat):Rat:=if lst0 s sp u < u then u else lst0 s sp u
def wtQ (s sp u:Rat):Rat:=(lst1 s sp u + lsr 1 (s / sp)) * (1 / 2)
theorem wt_facts {s sp u l:Rat} (hs:l < s) (hl:0 < l) (s1:s < 1) (lu:l <= u) (u1:u < 1) (hsp:sp = l / u) :
  u < wtQ s sp u /\ wtQ s sp u < 1 /\ 0 <= s - wtQ s sp u * sp /\ s - wtQ s sp u * sp + sp <= 1:=by
 have hu:0 < u:=by grind
 obtain ⟨e,p⟩:=ldiv (s:=s) hsp hu hl
 have ne:sp ≠ 0:=by grind
 -- the two bounds times sp
 have x1:(s / sp) * sp = s:=by grind
 have x2:((1 - s) / sp) * sp = 1 - s:=by grind
 generalize hA:s / sp = A at *
 generalize hB:(1 - s) / sp = B at *
 have sp1:sp <= 1:=by
  refine Rat.not_lt.mp fun z=>?_
  have:=Rat.mul_lt_mul_of_pos_right z hu
  rw [Rat.one_mul,e] at this
  grind
 have uA:u < A:=by
  refine Rat.not_le.mp fun z=>?_
  have:=Rat.mul_le_mul_of_nonneg_right z (Rat.le_of_lt p)
  rw [x1,Rat.mul_comm u sp,e] at this
  grind
 have B0:0 < B:=by
  refine Rat.not_le.mp fun z=>?_
  have:=Rat.mul_le_mul_of_nonneg_right z (Rat.le_of_lt p)
  rw [x2,Rat.zero_mul] at this
  grind
 have AB:1 - B <= A:=by
  refine Rat.not_lt.mp fun z=>?_
  have:=Rat.mul_lt_mul_of_pos_right z p
  have e2:(1 - B) * sp = sp - (1 - s):=by grind
  rw [x1,e2] at this
  grind
 have hmost:lsr 1 A <= 1 /\ lsr 1 A <= A /\ (lsr 1 A = 1 ∨ lsr 1 A = A):=by
  unfold lsr
  split
  ·exact ⟨by grind,by grind,.inr rfl⟩
  ·exact ⟨by grind,by grind,.inl rfl⟩
 have h0:lst0 s sp u = 1 - B:=by unfold lst0; rw [hB]
 have hleast:u <= lst1 s sp u /\ 1 - B <= lst1 s sp u /\ (lst1 s sp u = u ∨ lst1 s sp u = 1 - B):=by
  unfold lst1
  rw [h0]
  split
  ·exact ⟨by grind,by grind,.inl rfl⟩
  ·exact ⟨by grind,by grind,.inr rfl⟩
 have hw:wtQ s sp u = (lst1 s sp u + lsr 1 A) * (1 / 2):=by unfold wtQ; rw [hA]
 generalize lst1 s sp u = le at *
 generalize lsr 1 A = mo at *
 rw [hw]
 have lm:le <= mo:=by
  rcases hleast.2.2 with h | h <;> rcases hmost.2.2 with k | k <;> grind
 have um:u < mo:=by rcases hmost.2.2 with k | k <;> grind
 have l1:le < 1:=by rcases hleast.2.2 with h | h <;> grind
 have w1:(le + mo) * (1 / 2) <= A:=by grind
 have w2:1 - B <= (le + mo) * (1 / 2):=by grind
 refine ⟨by grind,by grind,?_,?_⟩
 ·have:=Rat.mul_le_mul_of_nonneg_right w1 (Rat.le_of_lt p)
  rw [x1] at this
  grind
 ·have:=Rat.mul_le_mul_of_nonneg_right w2 (Rat.le_of_lt p)
  have e2:(1 - B) * sp = sp - (1 - s):=by grind
  rw [e2] at this
  grind
theorem Least.ct {w s o:Rat} {t0 w0 t1 w1:Int} (h:Least w s o t0 w0 t1 w1) (h0:0 < w) (h1:w < 1) (s0:0 <= s) (s1:s <= 1) (o0:0 <= o) (o1:o <= 1):Ct (t0,w0) /\ Ct (t1,w1):=by
 obtain ⟨L,L0,e1,e2,e3,e4⟩:=h.ex
 have L0':(0:Rat) < L:=by have:=Rat.intCast_lt_intCast.mpr L0; simpa using this
 have p1:=pos_mul h0 L0'
 have p2:=pos_mul (show (0:Rat) < 1 - w by grind) L0'
 have key:∀ (t x:Int) (q z:Rat),(t:Rat) = z -> (x:Rat) = q * z -> 0 < z -> 0 <= q -> q <= 1 -> Ct (t,x):=fun t x q z et ex hz q0 q1=>by
  refine ⟨?_,?_,?_⟩
  ·have:=castpos (a:=t) (by rw [et]; exact hz)
   show 1 <= t
   omega
  ·show 0 <= x
   apply castle
   rw [ex]
   have:=le_mul (a:=0) (b:=q) (Rat.le_of_lt hz) q0
   simpa using this
  ·show x <= t
   apply castle
   rw [ex,et]
   have:=le_mul (a:=q) (b:=1) (Rat.le_of_lt hz) q1
   rw [Rat.one_mul] at this
   exact this
 exact ⟨key t0 w0 s _ e1 (by rw [e2]; grind) p1 s0 s1,key t1 w1 o _ e3 (by rw [e4]; grind) p2 o0 o1⟩
theorem int_eq {a b:Int} (h:(a:Rat) = (b:Rat)):a = b:=Rat.intCast_inj.mp h
theorem Least.same {w v s o:Rat} {a0 b0 a1 b1 c0 d0 c1 d1:Int} (h:Least w s o a0 b0 a1 b1) (k:Least v s o c0 d0 c1 d1):b0 * c0 = d0 * a0 /\ b1 * c1 = d1 * a1:=by
 obtain ⟨L,L0,e1,e2,e3,e4⟩:=h.ex
 obtain ⟨N,N0,f1,f2,f3,f4⟩:=k.ex
 constructor
 ·apply int_eq
  simp only [Rat.intCast_mul]
  rw [e1,e2,f1,f2]
  grind
 ·apply int_eq
  simp only [Rat.intCast_mul]
  rw [e3,e4,f3,f4]
  grind
theorem Least.whole {w s o q:Rat} {a0 b0 a1 b1 t x:Int} (h:Least w s o a0 b0 a1 b1) (e:w * s + (1 - w) * o = q) (ht:t ≠ 0) (hq:q = (x:Rat) / (t:Rat)):(b0 + b1) * t = x * (a0 + a1):=by
 obtain ⟨L,L0,e1,e2,e3,e4⟩:=h.ex
 have ht':=cast_ne ht
 apply int_eq
 simp only [Rat.intCast_mul,Rat.intCast_add]
 rw [e1,e2,e3,e4]
 have h1:(x:Rat) = q * t:=by rw [hq]; grind
 rw [h1,← e]
 grind
def gHW:DSp:=fun ds Q=>∃ s sp u:Rat,ds = [ratQ s,ratQ sp,ratQ u] /\ sp ≠ 0 /\ QB 31 s /\ QB 131 sp /\ QB 68 u /\ Q (ratQ (wtQ s sp u))
theorem m_high_weight:MonoS gHW:=fun ds P P' f h=>by
 obtain ⟨a,b,c,d,e,g,i,j,h⟩:=h
 exact ⟨a,b,c,d,e,g,i,j,f _ h⟩
theorem lst_B {s sp u:Rat} (ne:sp ≠ 0) (bs:QB 31 s) (bp:QB 131 sp) (bu:QB 68 u):QB 166 (lst0 s sp u) /\ QB 166 (lst1 s sp u):=by
 have h0:QB 166 (lst0 s sp u):=QB1.sub ((QB1.sub bs).div bp ne)
 refine ⟨h0,?_⟩
 unfold lst1
 split
 ·exact bu.mono (by decide)
 ·exact h0
theorem wt_B {s sp u:Rat} (ne:sp ≠ 0) (bs:QB 31 s) (bp:QB 131 sp) (bu:QB 68 u):QB 331 (wtQ s sp u):=by
 have h1:QB 162 (lsr 1 (s / sp)):=lsr_B (QB1.mono (by decide)) (bs.div bp ne)
 exact (((lst_B ne bs bp bu).2.add h1).mul QBh).mono (by decide)
theorem g_high_weight (T:Tx K mg):FnOk P w K mg base CX0 5 T.f_high_weight T.fd_high_weight ["share","spread","uneven"] (spD K 3 gHW):=by
 refine fnD (k:=4) T.d_high_weight.F sc_high_weight (fun cdv A outer s H E hr=>(dss_cons (ds_set (i:=3) sc_high_weight.nd rfl (by first | exact Or.inl rfl | exact Or.inr rfl) (de_call (g_lesser T) m_lesser (hr.mono (by decide)) rfl T.d_lesser.m T.d_lesser.F.kp T.d_lesser.b (da_cons (de_tup (da_cons de_int (da_cons de_int da_nil))) (da_cons (de_call (g_over T) m_over (hr.mono (by decide)) rfl T.d_over.m T.d_over.F.kp T.d_over.b (da_cons (de_var 0 (pv 0)) (da_cons (de_var 1 (pv 1)) da_nil))) da_nil))))
   (dss_cons (ds_set (i:=4) sc_high_weight.nd rfl (by first | exact Or.inl rfl | exact Or.inr rfl) (de_call (g_minus T) m_minus (hr.mono (by decide)) rfl T.d_minus.m T.d_minus.F.kp T.d_minus.b (da_cons (de_tup (da_cons de_int (da_cons de_int da_nil))) (da_cons (de_call (g_over T) m_over (hr.mono (by decide)) rfl T.d_over.m T.d_over.F.kp T.d_over.b (da_cons (de_call (g_minus T) m_minus (hr.mono (by decide)) rfl T.d_minus.m T.d_minus.F.kp T.d_minus.b (da_cons (de_tup (da_cons de_int (da_cons de_int da_nil))) (da_cons (de_var 0 (pv 0)) da_nil))) (da_cons (de_var 1 (pv 1)) da_nil))) da_nil))))
   (dss_mid (ds_if (dt_val (de_call (g_less T) m_less (hr.mono (by decide)) rfl T.d_less.m T.d_less.F.kp T.d_less.b (da_cons (de_var 4 (pv 4)) (da_cons (de_var 2 (pv 2)) da_nil)))) (dss_one (ds_set (i:=4) sc_high_weight.nd rfl (by first | exact Or.inl rfl | exact Or.inr rfl) (de_var 2 (pv 2)))) dss_nil)
   (dss_one (ds_ret (de_call (g_half T) m_half (hr.mono (by decide)) rfl T.d_half.m T.d_half.F.kp T.d_half.b (da_cons (de_call (g_plus T) m_plus (hr.mono (by decide)) rfl T.d_plus.m T.d_plus.F.kp T.d_plus.b (da_cons (de_var 4 (pv 4)) (da_cons (de_var 3 (pv 3)) da_nil))) da_nil)))))))) (fun ds Q hl h=>?_)
 obtain ⟨s,sp,u,rfl,ne,bs,bp,bu,h⟩:=h
 have b1s:QB 33 (1 - s):=QB1.sub bs
 have bd:QB 164 ((1 - s) / sp):=b1s.div bp ne
 have bA:QB 162 (s / sp):=bs.div bp ne
 have bm:QB 162 (lsr 1 (s / sp)):=lsr_B (QB1.mono (by decide)) bA
 refine ⟨sz,rfl,overQ (bs.mono (by decide)) (bp.mono (by decide)) ne ?_⟩
 rw [← ratQ_one]
 refine ⟨rfl,1,s / sp,rfl,QB1.mono (by decide),bA.mono (by decide),?_⟩
 refine ⟨sz,sz,rfl,?_⟩
 rw [← ratQ_one]
 refine minusQ (QB1.mono (by decide)) (bs.mono (by decide)) ⟨rfl,overQ (b1s.mono (by decide)) (bp.mono (by decide)) ne ⟨rfl,minusQ (QB1.mono (by decide)) (bd.mono (by decide)) ?_⟩⟩
 have bl:=lst_B ne bs bp bu
 refine ⟨fun ρ=>ρ = [.val (ratQ s),.val (ratQ sp),.val (ratQ u),.val (ratQ (lsr 1 (s / sp))),.val (ratQ (lst1 s sp u))],?_,?_⟩
 ·refine ⟨rfl,lessQ (bl.1.mono (by decide)) (bu.mono (by decide)) (Br.di (fun z=>?_) (fun z=>?_))⟩
  ·show _ = _
   have z:lst0 s sp u < u:=z
   unfold lst1
   rw [if_pos z]
   rfl
  ·show _ = _
   have z:¬ lst0 s sp u < u:=z
   unfold lst1
   rw [if_neg z]
   rfl
 rintro _ rfl
 exact ⟨rfl,plusQ (bl.2.mono (by decide)) (bm.mono (by decide)) ⟨rfl,_,rfl,((bl.2.add bm).mono (by decide)),h⟩⟩
theorem wt_int {s sp u x U c:Rat} (ne:sp ≠ 0) {y a1 a2 a3:Int} (e1:u * (x * U) = (a1:Rat)) (e2:(s / sp) * (x * U) = (a2:Rat)) (e3:((1 - s) / sp) * (x * U) = (a3:Rat)) (e4:x * U = (y:Rat)):∃ W:Int,wtQ s sp u * (2 * (x * U)) = (W:Rat):=by
 have h1:∃ n:Int,lst1 s sp u * (x * U) = (n:Rat):=by
  unfold lst1
  split
  ·exact ⟨a1,e1⟩
  ·refine ⟨y - a3,?_⟩
   unfold lst0
   rw [Rat.intCast_sub,← e3,← e4]
   grind
 have h2:∃ n:Int,lsr 1 (s / sp) * (x * U) = (n:Rat):=by
  unfold lsr
  split
  ·exact ⟨a2,e2⟩
  ·exact ⟨y,by rw [Rat.one_mul]; exact e4⟩
 obtain ⟨n1,h1⟩:=h1
 obtain ⟨n2,h2⟩:=h2
 refine ⟨n1 + n2,?_⟩
 unfold wtQ
 rw [Rat.intCast_add,← h1,← h2]
 grind
theorem laid_cb {t1 w1 t2 w2:Int} {s s2 u:Rat} (p1:0 < t1) (p2:0 < t2) (b1:Bd 25 t1) (b2:Bd 25 w1) (b3:Bd 25 t2) (b4:Bd 25 w2) (hs:s = (w1:Rat) / (t1:Rat)) (hs2:s2 = (w2:Rat) / (t2:Rat)) (bu:QB 52 u) (lead:0 < s - s2) (u0:0 < u) :
  CB (wtQ s ((s - s2) / u) u) (s - wtQ s ((s - s2) / u) u * ((s - s2) / u) + (s - s2) / u) (s - wtQ s ((s - s2) / u) u * ((s - s2) / u)) ((2 * ((w1 * t2 - w2 * t1) * (u.den:Int))) * (2 * (t1 * t2 * u.num))) /\
  CB (wtQ s ((s - s2) / u) u - u) (s - wtQ s ((s - s2) / u) u * ((s - s2) / u) + (s - s2) / u) (s - wtQ s ((s - s2) / u) u * ((s - s2) / u)) ((2 * ((w1 * t2 - w2 * t1) * (u.den:Int))) * (2 * (t1 * t2 * u.num))):=by
 have T1:=cast_ne (show t1 ≠ 0 by omega)
 have T2:=cast_ne (show t2 ≠ 0 by omega)
 have hu:=num_eq u
 have une:u ≠ 0:=by grind
 have es:s * (t1:Rat) = (w1:Rat):=by rw [hs]; grind
 have es2:s2 * (t2:Rat) = (w2:Rat):=by rw [hs2]; grind
 have esp:((s - s2) / u) * u = s - s2:=by grind
 have ne:(s - s2) / u ≠ 0:=fun z=>by rw [z,Rat.zero_mul] at esp; grind
 have ex:((w1 * t2 - w2 * t1:Int):Rat) = (s - s2) * ((t1:Rat) * (t2:Rat)):=by
  rw [Rat.intCast_sub,Rat.intCast_mul,Rat.intCast_mul,← es,← es2]
  grind
 have T1p:(0:Rat) < t1:=by have:=Rat.intCast_lt_intCast.mpr p1; simpa using this
 have T2p:(0:Rat) < t2:=by have:=Rat.intCast_lt_intCast.mpr p2; simpa using this
 have xp:0 < w1 * t2 - w2 * t1:=castpos (by rw [ex]; exact pos_mul lead (pos_mul T1p T2p))
 have yp:=num_pos u0
 have dp:=den_pos u
 have bN:Bd 250 ((2 * ((w1 * t2 - w2 * t1) * (u.den:Int))) * (2 * (t1 * t2 * u.num))) :=
  (((bd_lit:Bd 2 (2:Int)).mul (((b2.mul b3).sub (b4.mul b1)).mul bu.de)).mul ((bd_lit:Bd 2 (2:Int)).mul ((b1.mul b3).mul bu.nu))).mono (by decide)
 have pN:0 < (2 * ((w1 * t2 - w2 * t1) * (u.den:Int))) * (2 * (t1 * t2 * u.num)):=Int.mul_pos (Int.mul_pos (by decide) (Int.mul_pos xp dp)) (Int.mul_pos (by decide) (Int.mul_pos (Int.mul_pos p1 p2) yp))
 have A1:(s / ((s - s2) / u)) * ((s - s2) / u) = s:=by grind
 have B1:((1 - s) / ((s - s2) / u)) * ((s - s2) / u) = 1 - s:=by grind
 have hW:∃ W:Int,wtQ s ((s - s2) / u) u * (2 * (((w1 * t2 - w2 * t1:Int):Rat) * ((u.den:Int):Rat))) = (W:Rat):=by
  refine wt_int (y:=(w1 * t2 - w2 * t1) * (u.den:Int)) (a1:=(w1 * t2 - w2 * t1) * u.num) (a2:=w1 * t2 * u.num) (a3:=(t1 - w1) * t2 * u.num) (c:=0) ne ?_ ?_ ?_ ?_
  ·rw [Rat.intCast_mul,hu]; grind
  ·simp only [Rat.intCast_mul]
   rw [ex,hu,← es]
   generalize s / ((s - s2) / u) = A at *
   generalize (s - s2) / u = sp at *
   rw [← esp]
   have:A * (sp * u * ((t1:Rat) * t2) * ((u.den:Int):Rat)) = (A * sp) * (u * ((t1:Rat) * t2) * ((u.den:Int):Rat)):=by grind
   rw [this,A1]
   grind
  ·simp only [Rat.intCast_mul,Rat.intCast_sub t1 w1]
   rw [ex,hu,← es]
   generalize (1 - s) / ((s - s2) / u) = B at *
   generalize (s - s2) / u = sp at *
   rw [← esp]
   have:B * (sp * u * ((t1:Rat) * t2) * ((u.den:Int):Rat)) = (B * sp) * (u * ((t1:Rat) * t2) * ((u.den:Int):Rat)):=by grind
   rw [this,B1]
   grind
  ·rw [Rat.intCast_mul]
 obtain ⟨W,hW⟩:=hW
 generalize wtQ s ((s - s2) / u) u = wt at *
 generalize hx:w1 * t2 - w2 * t1 = x at *
 generalize (s - s2) / u = sp at *
 have k1:sp * ((t1:Rat) * t2 * u) = (x:Rat):=by rw [ex,← esp]; grind
 have hN:(((2 * (x * (u.den:Int))) * (2 * (t1 * t2 * u.num)):Int):Rat) = (2 * ((x:Rat) * ((u.den:Int):Rat))) * (2 * ((t1:Rat) * t2 * (u * ((u.den:Int):Rat)))):=by
  simp only [Rat.intCast_mul,hu]
  rfl
 have lo:(s - wt * sp) * (2 * ((t1:Rat) * t2 * (u * ((u.den:Int):Rat)))) = ((2 * (w1 * t2 * u.num) - W:Int):Rat):=by
  simp only [Rat.intCast_mul,Rat.intCast_sub,hu]
  rw [← hW,← k1,← es]
  show _ = 2 * _ - _
  grind
 have hi:(s - wt * sp + sp) * (2 * ((t1:Rat) * t2 * (u * ((u.den:Int):Rat)))) = ((2 * (w1 * t2 * u.num) - W + 2 * (x * (u.den:Int)):Int):Rat):=by
  rw [Rat.intCast_add,← lo]
  simp only [Rat.intCast_mul]
  rw [← k1]
  show _ = _ + 2 * _
  grind
 have fin:∀ (v:Rat) (V:Int),v * (2 * ((x:Rat) * ((u.den:Int):Rat))) = (V:Rat) -> CB v (s - wt * sp + sp) (s - wt * sp) ((2 * (x * (u.den:Int))) * (2 * (t1 * t2 * u.num))):=fun v V hV=>by
  have hx2:((2 * (x * (u.den:Int)):Int):Rat) = 2 * ((x:Rat) * ((u.den:Int):Rat)):=by simp only [Rat.intCast_mul]; rfl
  have hL2:((2 * (t1 * t2 * u.num):Int):Rat) = 2 * ((t1:Rat) * t2 * (u * ((u.den:Int):Rat))):=by simp only [Rat.intCast_mul,hu]; rfl
  refine ⟨pN,bN,⟨V * (2 * (t1 * t2 * u.num)),?_⟩,⟨(2 * (x * (u.den:Int)) - V) * (2 * (t1 * t2 * u.num)),?_⟩,⟨V * (2 * (w1 * t2 * u.num) - W + 2 * (x * (u.den:Int))),?_⟩,⟨(2 * (x * (u.den:Int)) - V) * (2 * (w1 * t2 * u.num) - W),?_⟩⟩
  ·rw [hN,Rat.intCast_mul V,← hV,hL2]; grind
  ·rw [hN,Rat.intCast_mul (_ - V),Rat.intCast_sub _ V,← hV,hL2,hx2]; grind
  ·rw [hN,Rat.intCast_mul V,← hV,← hi]; grind
  ·rw [hN,Rat.intCast_mul (_ - V),Rat.intCast_sub _ V,← hV,← lo,hx2]; grind
 refine ⟨fin wt W hW,fin (wt - u) (W - 2 * (x * u.num)) ?_⟩
 rw [Rat.intCast_sub,← hW]
 simp only [Rat.intCast_mul,hu]
 show _ = _ - 2 * _
 grind
structure Asked (t1 w1 t2 w2:Int) (u:Rat):Prop where
 t1p:0 < t1
 t2p:0 < t2
 w1t:w1 < t1
 w2p:0 < w2
 b1:Bd 25 t1
 b2:Bd 25 w1
 b3:Bd 25 t2
 b4:Bd 25 w2
 lead:(0:Rat) < (w1:Rat) / (t1:Rat) - (w2:Rat) / (t2:Rat)
 lu:(w1:Rat) / (t1:Rat) - (w2:Rat) / (t2:Rat) <= u
 u1:u < 1
 bu:QB 52 u
structure Lay (s1 s2 u w sp lo hi:Rat):Prop where
 hw:u < w /\ w < 1
 h0:0 <= lo
 h1:hi <= 1
 sp0:0 < sp
 ehi:hi = lo + sp
 e1:w * hi + (1 - w) * lo = s1
 e2:(w - u) * hi + (1 - (w - u)) * lo = s2
def gLaid:DSp:=fun ds Q=>∃ (t1 w1 t2 w2:Int) (u:Rat),ds = [pairD (t1,w1),pairD (t2,w2),ratQ u] /\ Asked t1 w1 t2 w2 u /\
 ∀ (w sp lo hi:Rat) (a0 b0 a1 b1 c0 d0 c1 d1:Int),Lay ((w1:Rat) / (t1:Rat)) ((w2:Rat) / (t2:Rat)) u w sp lo hi -> Least w hi lo a0 b0 a1 b1 -> Least (w - u) hi lo c0 d0 c1 d1 -> Q (.lst [.tup [pairD (a0,b0),pairD (c0,d0)],.tup [pairD (a1,b1),pairD (c1,d1)]])
theorem m_laid:MonoS gLaid:=fun ds P P' f h=>by
 obtain ⟨t1,w1,t2,w2,u,e,a,h⟩:=h
 exact ⟨t1,w1,t2,w2,u,e,a,fun w sp lo hi a0 b0 a1 b1 c0 d0 c1 d1 y z v=>f _ (h w sp lo hi a0 b0 a1 b1 c0 d0 c1 d1 y z v)⟩
theorem shareL {t w:Int} (ht:t ≠ 0) (b1:Bd 25 t) (b2:Bd 25 w) {Q:D -> Prop} (q:Q (ratQ ((w:Rat) / (t:Rat)))):gShare [.tup [.int t,.int w]] Q :=
 ⟨⟨b1.mono (by decide),b2.mono (by decide)⟩,fun e=>absurd e ht,fun _=>low_ratQ ht q⟩
theorem g_laid (T:Tx K mg):FnOk P w K mg base CX0 6 T.f_laid T.fd_laid ["one","other","uneven"] (spD K 3 gLaid):=by
 refine fnD (k:=5) T.d_laid.F sc_laid (fun cdv A outer s H E hr=>(dss_cons (ds_if (PWD.pt (dw_or (dt_cmp (od_eq hr) (de_ix (de_var 0 (pv 0)) de_int (fun _ _=>rfl)) de_int (nomark _)) (dw_or1 (dt_cmp (od_eq hr) (de_ix (de_var 1 (pv 1)) de_int (fun _ _=>rfl)) de_int (nomark _))))) (dss_one ds_never) dss_nil)
   (dss_cons (ds_set (i:=3) sc_laid.nd rfl (by first | exact Or.inl rfl | exact Or.inr rfl) (de_call (g_share_of T) m_share_of (hr.mono (by decide)) rfl T.d_share_of.m T.d_share_of.F.kp T.d_share_of.b (da_cons (de_var 0 (pv 0)) da_nil)))
   (dss_cons (ds_set (i:=4) sc_laid.nd rfl (by first | exact Or.inl rfl | exact Or.inr rfl) (de_call (g_minus T) m_minus (hr.mono (by decide)) rfl T.d_minus.m T.d_minus.F.kp T.d_minus.b (da_cons (de_var 3 (pv 3)) (da_cons (de_call (g_share_of T) m_share_of (hr.mono (by decide)) rfl T.d_share_of.m T.d_share_of.F.kp T.d_share_of.b (da_cons (de_var 1 (pv 1)) da_nil)) da_nil))))
   (dss_cons (ds_if (PWD.pt (dw_or (dt_not (dt_val (de_call (g_less T) m_less (hr.mono (by decide)) rfl T.d_less.m T.d_less.F.kp T.d_less.b (da_cons (de_var 4 (pv 4)) (da_cons (de_var 3 (pv 3)) da_nil))))) (dw_or (dt_not (dt_val (de_call (g_less T) m_less (hr.mono (by decide)) rfl T.d_less.m T.d_less.F.kp T.d_less.b (da_cons (de_tup (da_cons de_int (da_cons de_int da_nil))) (da_cons (de_var 4 (pv 4)) da_nil))))) (dw_or1 (dt_not (dt_val (de_call (g_less T) m_less (hr.mono (by decide)) rfl T.d_less.m T.d_less.F.kp T.d_less.b (da_cons (de_var 3 (pv 3)) (da_cons (de_tup (da_cons de_int (da_cons de_int da_nil))) da_nil))))))))) (dss_one ds_never) dss_nil)
   (dss_cons (ds_if (PWD.pt (dw_or (dt_val (de_call (g_less T) m_less (hr.mono (by decide)) rfl T.d_less.m T.d_less.F.kp T.d_less.b (da_cons (de_var 2 (pv 2)) (da_cons (de_var 4 (pv 4)) da_nil)))) (dw_or1 (dt_not (dt_val (de_call (g_less T) m_less (hr.mono (by decide)) rfl T.d_less.m T.d_less.F.kp T.d_less.b (da_cons (de_var 2 (pv 2)) (da_cons (de_tup (da_cons de_int (da_cons de_int da_nil))) da_nil)))))))) (dss_one ds_never) dss_nil)
   (dss_mid (ds_set (i:=5) sc_laid.nd rfl (by first | exact Or.inl rfl | exact Or.inr rfl) (de_call (g_over T) m_over (hr.mono (by decide)) rfl T.d_over.m T.d_over.F.kp T.d_over.b (da_cons (de_var 4 (pv 4)) (da_cons (de_var 2 (pv 2)) da_nil))))
   (dss_mid (ds_set (i:=6) sc_laid.nd rfl (by first | exact Or.inl rfl | exact Or.inr rfl) (de_call (g_high_weight T) m_high_weight (hr.mono (by decide)) rfl T.d_high_weight.m T.d_high_weight.F.kp T.d_high_weight.b (da_cons (de_var 3 (pv 3)) (da_cons (de_var 5 (pv 5)) (da_cons (de_var 2 (pv 2)) da_nil)))))
   (dss_cons (ds_set (i:=7) sc_laid.nd rfl (by first | exact Or.inl rfl | exact Or.inr rfl) (de_call (g_minus T) m_minus (hr.mono (by decide)) rfl T.d_minus.m T.d_minus.F.kp T.d_minus.b (da_cons (de_var 3 (pv 3)) (da_cons (de_call (g_times T) m_times (hr.mono (by decide)) rfl T.d_times.m T.d_times.F.kp T.d_times.b (da_cons (de_var 6 (pv 6)) (da_cons (de_var 5 (pv 5)) da_nil))) da_nil))))
   (dss_mid (ds_set (i:=8) sc_laid.nd rfl (by first | exact Or.inl rfl | exact Or.inr rfl) (de_call (g_plus T) m_plus (hr.mono (by decide)) rfl T.d_plus.m T.d_plus.F.kp T.d_plus.b (da_cons (de_var 7 (pv 7)) (da_cons (de_var 5 (pv 5)) da_nil))))
   (dss_cons (ds_set (i:=9) sc_laid.nd rfl (by first | exact Or.inl rfl | exact Or.inr rfl) (de_call (g_counts_by T) m_counts_by (hr.mono (by decide)) rfl T.d_counts_by.m T.d_counts_by.F.kp T.d_counts_by.b (da_cons (de_var 6 (pv 6)) (da_cons (de_var 8 (pv 8)) (da_cons (de_var 7 (pv 7)) da_nil)))))
   (dss_cons (ds_set (i:=10) sc_laid.nd rfl (by first | exact Or.inl rfl | exact Or.inr rfl) (de_call (g_counts_by T) m_counts_by (hr.mono (by decide)) rfl T.d_counts_by.m T.d_counts_by.F.kp T.d_counts_by.b (da_cons (de_call (g_minus T) m_minus (hr.mono (by decide)) rfl T.d_minus.m T.d_minus.F.kp T.d_minus.b (da_cons (de_var 6 (pv 6)) (da_cons (de_var 2 (pv 2)) da_nil))) (da_cons (de_var 8 (pv 8)) (da_cons (de_var 7 (pv 7)) da_nil)))))
   (dss_one (ds_ret (de_frz (dl_listZ rfl rfl T.z_list rfl T.z_zip (da_cons (de_var 9 (pv 9)) (da_cons (de_var 10 (pv 10)) da_nil)))))))))))))))))) (fun ds Q hl h=>?_)
 obtain ⟨t1,w1,t2,w2,u,rfl,A,h⟩:=h
 have n1:t1 ≠ 0:=by have:=A.t1p; omega
 have n2:t2 ≠ 0:=by have:=A.t2p; omega
 have bs:QB 25 ((w1:Rat) / (t1:Rat)):=QB.of n1 A.b2 A.b1
 have bs2:QB 25 ((w2:Rat) / (t2:Rat)):=QB.of n2 A.b4 A.b3
 have s1:(w1:Rat) / (t1:Rat) < 1:=flt A.t1p A.w1t
 have s2:(0:Rat) < (w2:Rat) / (t2:Rat):=fpos A.w2p A.t2p
 have lead:=A.lead
 have lu:=A.lu
 have bl:QB 51 ((w1:Rat) / (t1:Rat) - (w2:Rat) / (t2:Rat)):=bs.sub bs2
 refine ⟨⟨rfl,rfl⟩,fun e=>absurd (by simpa [eqD_int] using e) n1,fun _=>⟨⟨rfl,rfl⟩,fun e=>absurd (by simpa [eqD_int] using e) n2,fun _=>?_⟩⟩
 refine ⟨rfl,shareL n1 A.b1 A.b2 ⟨rfl,shareL n2 A.b3 A.b4 ⟨rfl,minusQ (bs.mono (by decide)) (bs2.mono (by decide)) ?_⟩⟩⟩
 have bu:=A.bu
 have u1:=A.u1
 generalize hS1:(w1:Rat) / (t1:Rat) = S1 at *
 generalize hS2:(w2:Rat) / (t2:Rat) = S2 at *
 have u0:0 < u:=by grind
 have une:u ≠ 0:=by grind
 refine ⟨rfl,lessQ (bl.mono (by decide)) (bs.mono (by decide)) ?_⟩
 rw [decide_eq_true (show S1 - S2 < S1 by grind)]
 refine Br.f ⟨sz,rfl,?_⟩
 rw [← ratQ_zero]
 refine lessQ (QB0.mono (by decide)) (bl.mono (by decide)) ?_
 rw [decide_eq_true lead]
 refine Br.f ⟨sz,rfl,?_⟩
 rw [← ratQ_one]
 refine lessQ (bs.mono (by decide)) (QB1.mono (by decide)) ?_
 rw [decide_eq_true s1]
 refine Br.f ⟨rfl,lessQ (bu.mono (by decide)) (bl.mono (by decide)) ?_⟩
 rw [decide_eq_false (show ¬ u < S1 - S2 by grind)]
 refine Br.f ⟨sz,rfl,?_⟩
 rw [← ratQ_one]
 refine lessQ (bu.mono (by decide)) (QB1.mono (by decide)) ?_
 rw [decide_eq_true u1]
 refine Br.f ?_
 have bsp:QB 103 ((S1 - S2) / u):=bl.div bu une
 refine ⟨fun ρ=>ρ = [.val (pairD (t1,w1)),.val (pairD (t2,w2)),.val (ratQ u),.val (ratQ S1),.val (ratQ (S1 - S2)),.val (ratQ ((S1 - S2) / u)),.nil,.nil,.nil,.nil,.nil],⟨rfl,overQ (bl.mono (by decide)) (bu.mono (by decide)) une rfl⟩,?_⟩
 rintro _ rfl
 have wf:=wt_facts (s:=S1) (l:=S1 - S2) (u:=u) (sp:=(S1 - S2) / u) (by grind) lead s1 lu u1 rfl
 have ld:=ldiv (s:=S1) (sp:=(S1 - S2) / u) rfl u0 lead
 have cbs:=laid_cb (t1:=t1) (w1:=w1) (t2:=t2) (w2:=w2) (s:=S1) (s2:=S2) (u:=u) A.t1p A.t2p A.b1 A.b2 A.b3 A.b4 hS1.symm hS2.symm bu lead u0
 generalize (S1 - S2) / u = sp at *
 have ne:sp ≠ 0:=by grind
 have bw:=wt_B ne (bs.mono (by decide)) (bsp.mono (by decide)) (bu.mono (by decide))
 refine ⟨fun ρ=>ρ = [.val (pairD (t1,w1)),.val (pairD (t2,w2)),.val (ratQ u),.val (ratQ S1),.val (ratQ (S1 - S2)),.val (ratQ sp),.val (ratQ (wtQ S1 sp u)),.nil,.nil,.nil,.nil],⟨rfl,S1,sp,u,rfl,ne,bs.mono (by decide),bsp.mono (by decide),bu.mono (by decide),rfl⟩,?_⟩
 rintro _ rfl
 generalize wtQ S1 sp u = wt at *
 have bws:QB 434 (wt * sp):=bw.mul bsp
 have blo:QB 460 (S1 - wt * sp):=bs.sub bws
 have bhi:QB 564 (S1 - wt * sp + sp):=blo.add bsp
 have bwu:QB 384 (wt - u):=bw.sub bu
 refine ⟨rfl,timesQ (bw.mono (by decide)) (bsp.mono (by decide)) ⟨rfl,minusQ (bs.mono (by decide)) (bws.mono (by decide)) ?_⟩⟩
 refine ⟨fun ρ=>ρ = [.val (pairD (t1,w1)),.val (pairD (t2,w2)),.val (ratQ u),.val (ratQ S1),.val (ratQ (S1 - S2)),.val (ratQ sp),.val (ratQ wt),.val (ratQ (S1 - wt * sp)),.val (ratQ (S1 - wt * sp + sp)),.nil,.nil],⟨rfl,plusQ (blo.mono (by decide)) (bsp.mono (by decide)) rfl⟩,?_⟩
 rintro _ rfl
 refine ⟨rfl,wt,S1 - wt * sp + sp,S1 - wt * sp,_,rfl,bw.mono (by decide),bhi.mono (by decide),blo.mono (by decide),⟨by grind,by grind⟩,cbs.1,fun a0 b0 a1 b1 m1=>?_⟩
 refine ⟨rfl,minusQ (bw.mono (by decide)) (bu.mono (by decide)) ⟨rfl,wt - u,S1 - wt * sp + sp,S1 - wt * sp,_,rfl,bwu.mono (by decide),bhi.mono (by decide),blo.mono (by decide),⟨by grind,by grind⟩,cbs.2,fun c0 d0 c1 d1 m2=>?_⟩⟩
 exact h wt sp (S1 - wt * sp) (S1 - wt * sp + sp) a0 b0 a1 b1 c0 d0 c1 d1 ⟨⟨wf.1,wf.2.1⟩,wf.2.2.1,wf.2.2.2,ld.2,rfl,by grind,by grind⟩ m1 m2
def MB (l p u:Rat):Prop:=¬ 0 < l ∨ ¬ 0 < p ∨ 1 < l + p ∨ ¬ 0 < u ∨ ¬ u < 1
def gMtB (c:Addr):DSpE:=fun ds _ W=>∃ l p u:Rat,ds = [ratQ l,ratQ p,ratQ u] /\ QB 100 l /\ QB 100 p /\ QB 100 u /\ MB l p u /\ W c
theorem mb_meeting {c:Addr}:MonoE (gMtB c):=fun ds P P' W W' f fw ⟨l,p,u,a,b,d,e,g,h⟩=>⟨l,p,u,a,b,d,e,g,fw _ h⟩
theorem gb_meeting (T:Tx K mg):FnOk P w K mg base (CXE P w) 5 T.f_meeting T.fd_meeting ["lead","apart","uneven"] (spDE K 3 (gMtB T.c_NoTable)):=by
 refine fnDE (k:=4) T.d_meeting.F sc_meeting (fun fr W hW cdv A outer s H E hr=>(dss_cons (ds_if (PWD.pt (dw_or (dt_not (dt_val (de_call (g_less T) m_less (hr.mono (by decide)) rfl T.d_less.m T.d_less.F.kp T.d_less.b (da_cons (de_tup (da_cons de_int (da_cons de_int da_nil))) (da_cons (de_var 0 (pv 0)) da_nil))))) (dw_or (dt_not (dt_val (de_call (g_less T) m_less (hr.mono (by decide)) rfl T.d_less.m T.d_less.F.kp T.d_less.b (da_cons (de_tup (da_cons de_int (da_cons de_int da_nil))) (da_cons (de_var 1 (pv 1)) da_nil))))) (dw_or1 (dt_val (de_call (g_less T) m_less (hr.mono (by decide)) rfl T.d_less.m T.d_less.F.kp T.d_less.b (da_cons (de_tup (da_cons de_int (da_cons de_int da_nil))) (da_cons (de_call (g_plus T) m_plus (hr.mono (by decide)) rfl T.d_plus.m T.d_plus.F.kp T.d_plus.b (da_cons (de_var 0 (pv 0)) (da_cons (de_var 1 (pv 1)) da_nil))) da_nil)))))))) (dss_one (ds_raise T.ce_NoTable rfl rfl T.cm_NoTable xk_wish hW (da_cons de_str da_nil))) dss_nil)
   (dss_cons (ds_if (PWD.pt (dw_or (dt_not (dt_val (de_call (g_less T) m_less (hr.mono (by decide)) rfl T.d_less.m T.d_less.F.kp T.d_less.b (da_cons (de_tup (da_cons de_int (da_cons de_int da_nil))) (da_cons (de_var 2 (pv 2)) da_nil))))) (dw_or1 (dt_not (dt_val (de_call (g_less T) m_less (hr.mono (by decide)) rfl T.d_less.m T.d_less.F.kp T.d_less.b (da_cons (de_var 2 (pv 2)) (da_cons (de_tup (da_cons de_int (da_cons de_int da_nil))) da_nil)))))))) (dss_one (ds_raise T.ce_NoTable rfl rfl T.cm_NoTable xk_wish hW (da_cons de_str da_nil))) dss_nil)
   (dss_cons ds_never
   (dss_cons ds_never
   (dss_cons ds_never
   (dss_one ds_never))))))) (fun ds Q W hl h=>?_)
 obtain ⟨l,p,u,rfl,bl,bp,bu,bad,h⟩:=h
 have b0:=QB0
 have b1:=QB1
 have blp:QB 201 (l + p):=bl.add bp
 refine ⟨sz,rfl,?_⟩
 rw [← ratQ_zero]
 refine lessQ (b0.mono (by decide)) (bl.mono (by decide)) ?_
 by_cases l0:0 < l
 ·rw [decide_eq_true l0]
  refine Br.f ⟨sz,rfl,?_⟩
  rw [← ratQ_zero]
  refine lessQ (b0.mono (by decide)) (bp.mono (by decide)) ?_
  by_cases p0:0 < p
  ·rw [decide_eq_true p0]
   refine Br.f ⟨sz,rfl,plusQ (bl.mono (by decide)) (bp.mono (by decide)) ⟨rfl,?_⟩⟩
   rw [← ratQ_one]
   refine lessQ (b1.mono (by decide)) (blp.mono (by decide)) ?_
   by_cases lp:1 < l + p
   ·rw [decide_eq_true lp]
    exact Br.t ⟨by decide,h⟩
   ·rw [decide_eq_false lp]
    refine Br.f ⟨sz,rfl,?_⟩
    rw [← ratQ_zero]
    refine lessQ (b0.mono (by decide)) (bu.mono (by decide)) ?_
    by_cases u0:0 < u
    ·rw [decide_eq_true u0]
     refine Br.f ⟨sz,rfl,?_⟩
     rw [← ratQ_one]
     refine lessQ (bu.mono (by decide)) (b1.mono (by decide)) ?_
     by_cases u1:u < 1
     ·rcases bad with z | z | z | z | z
      ·exact absurd l0 z
      ·exact absurd p0 z
      ·exact absurd z lp
      ·exact absurd u0 z
      ·exact absurd u1 z
     ·rw [decide_eq_false u1]
      exact Br.t ⟨by decide,h⟩
    ·rw [decide_eq_false u0]
     exact Br.t (Br.t ⟨by decide,h⟩)
  ·rw [decide_eq_false p0]
   exact Br.t (Br.t ⟨by decide,h⟩)
 ·rw [decide_eq_false l0]
  exact Br.t (Br.t ⟨by decide,h⟩)
def gMtE (c:Addr):DSpE:=fun ds Q W=>gMeet ds Q ∨ gMtB c ds Q W
theorem mE_meeting {c:Addr}:MonoE (gMtE c):=MonoE.or (MonoE.ofS m_meeting) mb_meeting
theorem gE_meeting (T:Tx K mg):FnOk P w K mg base (CXE P w) 5 T.f_meeting T.fd_meeting ["lead","apart","uneven"] (spDE K 3 (gMtE T.c_NoTable)):=DL.FnOk.orE (DL.FnOk.asE (g_meeting T)) (gb_meeting T)
def sQ (c:Int × Int):Rat:=(c.2:Rat) / (c.1:Rat)
theorem share_q {c:Int × Int} {Q:D -> Prop} {n:Nat} (hn:n <= 7000) (bt:Bd n c.1) (bw:Bd n c.2) (h0:c.1 ≠ 0) (q:Q (ratQ (sQ c))):gShare [pairD c] Q :=
 ⟨⟨bt.mono hn,bw.mono hn⟩,fun e=>absurd e h0,fun _=>low_ratQ h0 q⟩
def LB (c d:Int × Int) (u:Rat):Prop:=c.1 = 0 ∨ d.1 = 0 ∨ ¬ sQ c - sQ d < sQ c ∨ ¬ 0 < sQ c - sQ d ∨ ¬ sQ c < 1 ∨ u < sQ c - sQ d ∨ ¬ u < 1
def gLdB (k:Addr):DSpE:=fun ds _ W=>∃ (c d:Int × Int) (u:Rat),ds = [pairD c,pairD d,ratQ u] /\ (Bd 100 c.1 /\ Bd 100 c.2) /\ (Bd 100 d.1 /\ Bd 100 d.2) /\ QB 100 u /\ LB c d u /\ W k
theorem mb_laid {k:Addr}:MonoE (gLdB k):=fun ds P P' W W' f fw ⟨c,d,u,a,b,e,g,i,h⟩=>⟨c,d,u,a,b,e,g,i,fw _ h⟩
theorem gb_laid (T:Tx K mg):FnOk P w K mg base (CXE P w) 6 T.f_laid T.fd_laid ["one","other","uneven"] (spDE K 3 (gLdB T.c_NoTable)):=by
 refine fnDE (k:=5) T.d_laid.F sc_laid (fun fr W hW cdv A outer s H E hr=>(dss_cons (ds_if (PWD.pt (dw_or (dt_cmp (od_eq hr) (de_ix (de_var 0 (pv 0)) de_int (fun _ _=>rfl)) de_int (nomark _)) (dw_or1 (dt_cmp (od_eq hr) (de_ix (de_var 1 (pv 1)) de_int (fun _ _=>rfl)) de_int (nomark _))))) (dss_one (ds_raise T.ce_NoTable rfl rfl T.cm_NoTable xk_wish hW (da_cons de_str da_nil))) dss_nil)
   (dss_cons (ds_set (i:=3) sc_laid.nd rfl (by first | exact Or.inl rfl | exact Or.inr rfl) (de_call (g_share_of T) m_share_of (hr.mono (by decide)) rfl T.d_share_of.m T.d_share_of.F.kp T.d_share_of.b (da_cons (de_var 0 (pv 0)) da_nil)))
   (dss_cons (ds_set (i:=4) sc_laid.nd rfl (by first | exact Or.inl rfl | exact Or.inr rfl) (de_call (g_minus T) m_minus (hr.mono (by decide)) rfl T.d_minus.m T.d_minus.F.kp T.d_minus.b (da_cons (de_var 3 (pv 3)) (da_cons (de_call (g_share_of T) m_share_of (hr.mono (by decide)) rfl T.d_share_of.m T.d_share_of.F.kp T.d_share_of.b (da_cons (de_var 1 (pv 1)) da_nil)) da_nil))))
   (dss_cons (ds_if (PWD.pt (dw_or (dt_not (dt_val (de_call (g_less T) m_less (hr.mono (by decide)) rfl T.d_less.m T.d_less.F.kp T.d_less.b (da_cons (de_var 4 (pv 4)) (da_cons (de_var 3 (pv 3)) da_nil))))) (dw_or (dt_not (dt_val (de_call (g_less T) m_less (hr.mono (by decide)) rfl T.d_less.m T.d_less.F.kp T.d_less.b (da_cons (de_tup (da_cons de_int (da_cons de_int da_nil))) (da_cons (de_var 4 (pv 4)) da_nil))))) (dw_or1 (dt_not (dt_val (de_call (g_less T) m_less (hr.mono (by decide)) rfl T.d_less.m T.d_less.F.kp T.d_less.b (da_cons (de_var 3 (pv 3)) (da_cons (de_tup (da_cons de_int (da_cons de_int da_nil))) da_nil))))))))) (dss_one (ds_raise T.ce_NoTable rfl rfl T.cm_NoTable xk_wish hW (da_cons de_str da_nil))) dss_nil)
   (dss_cons (ds_if (PWD.pt (dw_or (dt_val (de_call (g_less T) m_less (hr.mono (by decide)) rfl T.d_less.m T.d_less.F.kp T.d_less.b (da_cons (de_var 2 (pv 2)) (da_cons (de_var 4 (pv 4)) da_nil)))) (dw_or1 (dt_not (dt_val (de_call (g_less T) m_less (hr.mono (by decide)) rfl T.d_less.m T.d_less.F.kp T.d_less.b (da_cons (de_var 2 (pv 2)) (da_cons (de_tup (da_cons de_int (da_cons de_int da_nil))) da_nil)))))))) (dss_one (ds_raise T.ce_NoTable rfl rfl T.cm_NoTable xk_wish hW (da_cons de_str da_nil))) dss_nil)
   (dss_mid ds_never
   (dss_mid ds_never
   (dss_cons ds_never
   (dss_mid ds_never
   (dss_cons ds_never
   (dss_cons ds_never
   (dss_one ds_never))))))))))))) (fun ds Q W hl h=>?_)
 obtain ⟨c,d,u,rfl,⟨bc1,bc2⟩,⟨bd1,bd2⟩,bu,bad,h⟩:=h
 have b0:=QB0
 have b1:=QB1
 refine ⟨⟨rfl,rfl⟩,fun z=>Br.t ⟨by decide,h⟩,fun z=>⟨⟨rfl,rfl⟩,fun z'=>⟨by decide,h⟩,fun z'=>?_⟩⟩
 have c0:c.1 ≠ 0:=by simpa [eqD_int] using z
 have d0:d.1 ≠ 0:=by simpa [eqD_int] using z'
 have bsc:QB 100 (sQ c):=QB.of c0 bc2 bc1
 have bsd:QB 100 (sQ d):=QB.of d0 bd2 bd1
 have bl:QB 201 (sQ c - sQ d):=bsc.sub bsd
 refine ⟨rfl,share_q (n:=100) (by decide) bc1 bc2 c0 ⟨rfl,share_q (n:=100) (by decide) bd1 bd2 d0 ⟨rfl,minusQ (bsc.mono (by decide)) (bsd.mono (by decide)) ⟨rfl,lessQ (bl.mono (by decide)) (bsc.mono (by decide)) ?_⟩⟩⟩⟩
 by_cases x1:sQ c - sQ d < sQ c
 ·rw [decide_eq_true x1]
  refine Br.f ⟨sz,rfl,?_⟩
  rw [← ratQ_zero]
  refine lessQ (b0.mono (by decide)) (bl.mono (by decide)) ?_
  by_cases x2:0 < sQ c - sQ d
  ·rw [decide_eq_true x2]
   refine Br.f ⟨sz,rfl,?_⟩
   rw [← ratQ_one]
   refine lessQ (bsc.mono (by decide)) (b1.mono (by decide)) ?_
   by_cases x3:sQ c < 1
   ·rw [decide_eq_true x3]
    refine Br.f ⟨rfl,lessQ (bu.mono (by decide)) (bl.mono (by decide)) ?_⟩
    by_cases x4:u < sQ c - sQ d
    ·rw [decide_eq_true x4]
     exact Br.t (Br.t ⟨by decide,h⟩)
    ·rw [decide_eq_false x4]
     refine Br.f ⟨sz,rfl,?_⟩
     rw [← ratQ_one]
     refine lessQ (bu.mono (by decide)) (b1.mono (by decide)) ?_
     by_cases x5:u < 1
     ·rcases bad with z | z | z | z | z | z | z
      ·exact absurd z c0
      ·exact absurd z d0
      ·exact absurd x1 z
      ·exact absurd x2 z
      ·exact absurd x3 z
      ·exact absurd z x4
      ·exact absurd x5 z
     ·rw [decide_eq_false x5]
      exact Br.t ⟨by decide,h⟩
   ·rw [decide_eq_false x3]
    exact Br.t ⟨by decide,h⟩
  ·rw [decide_eq_false x2]
   exact Br.t (Br.t ⟨by decide,h⟩)
 ·rw [decide_eq_false x1]
  exact Br.t (Br.t ⟨by decide,h⟩)
def gLdE (k:Addr):DSpE:=fun ds Q W=>gLaid ds Q ∨ gLdB k ds Q W
theorem mE_laid {k:Addr}:MonoE (gLdE k):=MonoE.or (MonoE.ofS m_laid) mb_laid
theorem gE_laid (T:Tx K mg):FnOk P w K mg base (CXE P w) 6 T.f_laid T.fd_laid ["one","other","uneven"] (spDE K 3 (gLdE T.c_NoTable)):=DL.FnOk.orE (DL.FnOk.asE (g_laid T)) (gb_laid T)
def gSaysD:DSp:=fun ds Q=>gSays ds Q fun es=>Q (.lst es)
theorem m_says:MonoS gSaysD:=fun ds P P' f h=>mN_says ds _ _ _ _ (fun d q=>f d q) (fun es q=>f _ q) h
theorem g_says (T:Tx K mg):FnOk P w K mg base CX0 5 T.f_says T.fd_says ["table","a","b"] (spD K 3 gSaysD):=DL.FnOk.asD (gN_says T) (fun ds Q h=>h) mN_says
def LE (w s o:Rat) (t0 w0 t1 w1:Int):Prop:=∃ L:Int,0 < L /\ (t0:Rat) = w * (L:Rat) /\ (w0:Rat) = w * s * (L:Rat) /\ (t1:Rat) = (1 - w) * (L:Rat) /\ (w1:Rat) = (1 - w) * o * (L:Rat)
theorem LE.ct {w s o:Rat} {t0 w0 t1 w1:Int} (h:LE w s o t0 w0 t1 w1) (h0:0 < w) (h1:w < 1) (s0:0 <= s) (s1:s <= 1) (o0:0 <= o) (o1:o <= 1):Ct (t0,w0) /\ Ct (t1,w1):=by
 obtain ⟨L,L0,e1,e2,e3,e4⟩:=h
 have L0':(0:Rat) < L:=by have:=Rat.intCast_lt_intCast.mpr L0; simpa using this
 have p1:=pos_mul h0 L0'
 have p2:=pos_mul (show (0:Rat) < 1 - w by grind) L0'
 have key:∀ (t x:Int) (q z:Rat),(t:Rat) = z -> (x:Rat) = q * z -> 0 < z -> 0 <= q -> q <= 1 -> Ct (t,x):=fun t x q z et ex hz q0 q1=>by
  refine ⟨?_,?_,?_⟩
  ·have:=castpos (a:=t) (by rw [et]; exact hz)
   show 1 <= t
   omega
  ·show 0 <= x
   apply castle
   rw [ex]
   have:=le_mul (a:=0) (b:=q) (Rat.le_of_lt hz) q0
   simpa using this
  ·show x <= t
   apply castle
   rw [ex,et]
   have:=le_mul (a:=q) (b:=1) (Rat.le_of_lt hz) q1
   rw [Rat.one_mul] at this
   exact this
 exact ⟨key t0 w0 s _ e1 (by rw [e2]; grind) p1 s0 s1,key t1 w1 o _ e3 (by rw [e4]; grind) p2 o0 o1⟩
theorem LE.sh {w s o:Rat} {t0 w0 t1 w1:Int} (h:LE w s o t0 w0 t1 w1) (h0:0 < w) (h1:w < 1):(w0:Rat) / (t0:Rat) = s /\ (w1:Rat) / (t1:Rat) = o /\ (t0:Rat) / ((t0 + t1:Int):Rat) = w /\ (t1:Rat) / ((t0 + t1:Int):Rat) = 1 - w /\ ((w0 + w1:Int):Rat) / ((t0 + t1:Int):Rat) = w * s + (1 - w) * o:=by
 obtain ⟨L,L0,e1,e2,e3,e4⟩:=h
 have L0':(L:Rat) ≠ 0:=cast_ne (by omega)
 have n1:=mne (show w ≠ 0 by grind) L0'
 have n2:=mne (show 1 - w ≠ 0 by grind) L0'
 have et:((t0 + t1:Int):Rat) = (L:Rat):=by rw [Rat.intCast_add,e1,e3]; grind
 refine ⟨?_,?_,?_,?_,?_⟩
 ·rw [e1,e2]; exact dvq n1 (by grind)
 ·rw [e3,e4]; exact dvq n2 (by grind)
 ·rw [et,e1]; exact dvq L0' rfl
 ·rw [et,e3]; exact dvq L0' rfl
 ·rw [et,Rat.intCast_add,e2,e4]; exact dvq L0' (by grind)
def t2 (a0 b0 a1 b1 c0 d0 c1 d1:Int):List Row:=[[(a0,b0),(c0,d0)],[(a1,b1),(c1,d1)]]
structure Md (v s o v' s' o':Rat) (a0 b0 a1 b1 c0 d0 c1 d1:Int):Prop where
 la:LE v s o a0 b0 a1 b1
 lc:LE v' s' o' c0 d0 c1 d1
 v0:0 < v
 v1:v < 1
 v0':0 < v'
 v1':v' < 1
 s0:0 <= s
 s1:s <= 1
 o0:0 <= o
 o1:o <= 1
 s0':0 <= s'
 s1':s' <= 1
 o0':0 <= o'
 o1':o' <= 1
 ba0:Bd 250 a0
 ba1:Bd 250 a1
 bc0:Bd 250 c0
 bc1:Bd 250 c1
section
variable {v s o v' s' o':Rat} {a0 b0 a1 b1 c0 d0 c1 d1:Int}
theorem Md.two (m:Md v s o v' s' o' a0 b0 a1 b1 c0 d0 c1 d1):Two 2 (t2 a0 b0 a1 b1 c0 d0 c1 d1) 0 1:=by
 have k1:=m.la.ct m.v0 m.v1 m.s0 m.s1 m.o0 m.o1
 have k2:=m.lc.ct m.v0' m.v1' m.s0' m.s1' m.o0' m.o1'
 unfold Ct at k1 k2
 dsimp only at k1 k2
 have cn:∀ {t w:Int},(1 <= t /\ 0 <= w /\ w <= t) -> Bd 250 t -> Cnt 256 t w:=fun h b=>cnt_of h.2.1 h.2.2 (b.mono (by decide))
 refine ⟨⟨by decide,by decide,by simp [t2],by simp [t2],fun r hr=>?_⟩,by decide,by decide,by decide,by decide,by decide,?_,?_,fun r hr=>?_⟩
 ·simp only [t2,List.mem_cons,List.not_mem_nil,or_false] at hr
  rcases hr with rfl | rfl
  ·refine ⟨rfl,fun c hc=>?_⟩
   simp only [List.mem_cons,List.not_mem_nil,or_false] at hc
   rcases hc with rfl | rfl
   ·exact cn k1.1 m.ba0
   ·exact cn k2.1 m.bc0
  ·refine ⟨rfl,fun c hc=>?_⟩
   simp only [List.mem_cons,List.not_mem_nil,or_false] at hc
   rcases hc with rfl | rfl
   ·exact cn k1.2 m.ba1
   ·exact cn k2.2 m.bc1
 ·show a0 + (a1 + 0) ≠ 0
  omega
 ·show c0 + (c1 + 0) ≠ 0
  omega
 ·simp only [t2,List.mem_cons,List.not_mem_nil,or_false] at hr
  rcases hr with rfl | rfl
  ·show a0 = 0 ↔ c0 = 0
   omega
  ·show a1 = 0 ↔ c1 = 0
   omega
theorem Md.cols (m:Md v s o v' s' o' a0 b0 a1 b1 c0 d0 c1 d1):colO (t2 a0 b0 a1 b1 c0 d0 c1 d1) 0 = [some s,some o] /\ colO (t2 a0 b0 a1 b1 c0 d0 c1 d1) 1 = [some s',some o']:=by
 have k1:=m.la.ct m.v0 m.v1 m.s0 m.s1 m.o0 m.o1
 have k2:=m.lc.ct m.v0' m.v1' m.s0' m.s1' m.o0' m.o1'
 unfold Ct at k1 k2
 dsimp only at k1 k2
 have h1:=m.la.sh m.v0 m.v1
 have h2:=m.lc.sh m.v0' m.v1'
 have one:∀ {t w:Int} {q:Rat},1 <= t -> (w:Rat) / (t:Rat) = q -> shO (t,w) = some q:=fun h e=>by
  unfold shO shQ
  rw [if_neg (by dsimp only; omega)]
  exact congrArg some e
 constructor
 ·show [shO (a0,b0),shO (a1,b1)] = _
  rw [one k1.1.1 h1.1,one k1.2.1 h1.2.1]
 ·show [shO (c0,d0),shO (c1,d1)] = _
  rw [one k2.1.1 h2.1,one k2.2.1 h2.2.1]
theorem Md.lds (m:Md v s o v' s' o' a0 b0 a1 b1 c0 d0 c1 d1):leadsO (t2 a0 b0 a1 b1 c0 d0 c1 d1) 0 1 = [some (s - s'),some (o - o')]:=by
 unfold leadsO
 rw [m.cols.1,m.cols.2]
 rfl
theorem Md.wq (m:Md v s o v' s' o' a0 b0 a1 b1 c0 d0 c1 d1):wQ (t2 a0 b0 a1 b1 c0 d0 c1 d1) 0 = v * s + (1 - v) * o /\ wQ (t2 a0 b0 a1 b1 c0 d0 c1 d1) 1 = v' * s' + (1 - v') * o':=by
 have h1:=(m.la.sh m.v0 m.v1).2.2.2.2
 have h2:=(m.lc.sh m.v0' m.v1').2.2.2.2
 constructor
 ·show ((b0 + (b1 + 0):Int):Rat) / ((a0 + (a1 + 0):Int):Rat) = _
  rw [Int.add_zero,Int.add_zero]
  exact h1
 ·show ((d0 + (d1 + 0):Int):Rat) / ((c0 + (c1 + 0):Int):Rat) = _
  rw [Int.add_zero,Int.add_zero]
  exact h2
theorem Md.unv (m:Md v s o v' s' o' a0 b0 a1 b1 c0 d0 c1 d1) (h:v' <= v):unvQ (wts (col (t2 a0 b0 a1 b1 c0 d0 c1 d1) (0:Int).toNat)) (wts (col (t2 a0 b0 a1 b1 c0 d0 c1 d1) (1:Int).toNat)) = v - v':=by
 rw [unv_eq]
 have h1:=m.la.sh m.v0 m.v1
 have h2:=m.lc.sh m.v0' m.v1'
 show pos ((a0:Rat) / ((a0 + (a1 + 0):Int):Rat) - (c0:Rat) / ((c0 + (c1 + 0):Int):Rat)) + (pos ((a1:Rat) / ((a0 + (a1 + 0):Int):Rat) - (c1:Rat) / ((c0 + (c1 + 0):Int):Rat)) + 0) = _
 rw [Int.add_zero,Int.add_zero,h1.2.2.1,h1.2.2.2.1,h2.2.2.1,h2.2.2.2.1]
 unfold pos
 split <;> split <;> grind
end
theorem ends2 {x y:Rat} (h:x <= y):vq [some x,some y] (endsq [some x,some y]).1 = x /\ vq [some x,some y] (endsq [some x,some y]).2 = y:=by
 have p:plq [some x,some y] [some x,some y].length = [0,1]:=rfl
 have e:=endsq_all [some x,some y] (by rw [p]; simp)
 rw [p] at e
 have m0:=e.2 0 (by simp)
 have m1:=e.2 1 (by simp)
 have v0:vq [some x,some y] 0 = x:=rfl
 have v1:vq [some x,some y] 1 = y:=rfl
 rw [v0] at m0
 rw [v1] at m1
 obtain ⟨⟨i1,i2⟩,_⟩:=e
 simp only [List.mem_cons,List.not_mem_nil,or_false] at i1 i2
 constructor
 ·rcases i1 with i | i
  ·rw [i,v0]
  ·rw [i,v1] at m0 ⊢
   grind
 ·rcases i2 with i | i
  ·rw [i,v0] at m1 ⊢
   grind
  ·rw [i,v1]
theorem met_md {l p u:Rat} {a0 b0 a1 b1 c0 d0 c1 d1:Int} (m:Met l p u a0 b0 a1 b1 c0 d0 c1 d1) (h:0 < l /\ 0 < p /\ l + p <= 1 /\ 0 < u /\ u < 1) (b:Bd 250 a0 /\ Bd 250 a1 /\ Bd 250 c0 /\ Bd 250 c1):Md (1 - (1 - u) * (1 / 2)) l (l + p) ((1 - u) * (1 / 2)) 0 p a0 b0 a1 b1 c0 d0 c1 d1:=by
 obtain ⟨h1,h2,h3,h4,h5⟩:=h
 exact ⟨m.la,m.lc,by grind,by grind,by grind,by grind,by grind,by grind,by grind,by grind,by grind,by grind,by grind,by grind,b.1,b.2.1,b.2.2.1,b.2.2.2⟩
theorem met_gap {l p u:Rat} {a0 b0 a1 b1 c0 d0 c1 d1:Int} (m:Md (1 - (1 - u) * (1 / 2)) l (l + p) ((1 - u) * (1 / 2)) 0 p a0 b0 a1 b1 c0 d0 c1 d1) (h:0 < l /\ 0 < p /\ l + p <= 1 /\ 0 < u /\ u < 1):∃ hi:Rat,gapD (t2 a0 b0 a1 b1 c0 d0 c1 d1) 0 1 = .tup [ratQ (l - u * p),ratQ (l - u * p),ratQ hi]:=by
 obtain ⟨h1,h2,h3,h4,h5⟩:=h
 refine ⟨highQ27 (t2 a0 b0 a1 b1 c0 d0 c1 d1) 0 1,?_⟩
 have e1:wQ (t2 a0 b0 a1 b1 c0 d0 c1 d1) 0 - wQ (t2 a0 b0 a1 b1 c0 d0 c1 d1) 1 = l - u * p:=by
  rw [m.wq.1,m.wq.2]
  grind
 have e2:lowQ27 (t2 a0 b0 a1 b1 c0 d0 c1 d1) 0 1 = l - u * p:=by
  unfold lowQ27 slackQ spanQ
  rw [m.unv (by grind),m.lds,m.cols.1,m.cols.2]
  have x1:(l - 0:Rat) <= l + p - p:=by grind
  rw [(ends2 x1).1,(ends2 (show l <= l + p by grind)).1,(ends2 (show l <= l + p by grind)).2,(ends2 (show (0:Rat) <= p by grind)).1,(ends2 (show (0:Rat) <= p by grind)).2]
  unfold lsr
  split <;> grind
 unfold gapD
 rw [e1,e2]
theorem md_lay {s1 s2 u w sp lo hi:Rat} {a0 b0 a1 b1 c0 d0 c1 d1:Int} (y:Lay s1 s2 u w sp lo hi) (u0:0 < u) (l1:Least w hi lo a0 b0 a1 b1) (l2:Least (w - u) hi lo c0 d0 c1 d1):Md w hi lo (w - u) hi lo a0 b0 a1 b1 c0 d0 c1 d1:=by
 obtain ⟨⟨w0,w1⟩,h0,h1,s0,e1,e2,e3⟩:=y
 exact ⟨l1.ex,l2.ex,by grind,by grind,by grind,by grind,by grind,by grind,by grind,by grind,by grind,by grind,by grind,by grind,l1.b0,l1.b1,l2.b0,l2.b1⟩
theorem lay_leads {w lo hi w':Rat} {a0 b0 a1 b1 c0 d0 c1 d1:Int} (m:Md w hi lo w' hi lo a0 b0 a1 b1 c0 d0 c1 d1):endsqD (leadsO (t2 a0 b0 a1 b1 c0 d0 c1 d1) 0 1) = .tup [.tup [.int 0,.int 1],.int 0,.tup [.int 0,.int 1],.int 0]:=by
 rw [m.lds]
 have:hi - hi = 0:=by grind
 rw [this]
 have:lo - lo = 0:=by grind
 rw [this]
 have:endsq [some 0,some 0] = (0,0):=by decide +kernel
 unfold endsqD
 rw [this]
 rfl
def TblF (m:Nat) (t:List Row):Prop:=(1 <= t.length /\ t.length <= 20) /\ ∀ r ∈ t,RowN 20 m r /\ ∀ c ∈ r,1 <= c.1
theorem TblF.tbl {m:Nat} {t:List Row} (o:TblF m t) (m2:2 <= m) (m4:m <= 4):Tbl m t:=⟨m2,by omega,o.1.1,by have:=o.1.2; omega,fun r hr=>(o.2 r hr).1.up⟩
theorem TblF.cell {m:Nat} {t:List Row} (o:TblF m t) {h:Nat} (hh:h < m) {r:Row} (hr:r ∈ t):1 <= (at_ r h).1 /\ Cnt 20 (at_ r h).1 (at_ r h).2:=by
 have g:=at_get (o.2 r hr).1 hh
 exact ⟨(o.2 r hr).2 _ (List.mem_of_getElem? g.1),g.2⟩
theorem TblF.colc {m:Nat} {t:List Row} (o:TblF m t) {h:Nat} (hh:h < m):∀ c ∈ col t h,1 <= c.1 /\ Cnt 20 c.1 c.2:=fun c hc=>by
 obtain ⟨r,hr,rfl⟩:=List.mem_map.mp hc
 exact o.cell hh hr
theorem TblF.sum {m:Nat} {t:List Row} (o:TblF m t) {h:Nat} (hh:h < m):0 < (sumP (col t h)).1 /\ 0 <= (sumP (col t h)).2 /\ (sumP (col t h)).2 <= (sumP (col t h)).1 /\ Bd 25 (sumP (col t h)).1 /\ Bd 25 (sumP (col t h)).2:=by
 have hc:=o.colc hh
 have hl:(col t h).length <= 2 ^ 5:=by
  unfold col
  rw [List.length_map]
  exact Nat.le_trans o.1.2 (by decide)
 have ne:(col t h) ≠ []:=fun z=>by
  have:(col t h).length = 0:=by rw [z]; rfl
  unfold col at this
  rw [List.length_map] at this
  have:=o.1.1
  omega
 generalize col t h = cs at hc hl ne
 have key:∀ cs:List (Int × Int),(∀ c ∈ cs,1 <= c.1 /\ Cnt 20 c.1 c.2) -> (cs.length:Int) <= (sumP cs).1 /\ 0 <= (sumP cs).2 /\ (sumP cs).2 <= (sumP cs).1:=by
  intro cs
  induction cs with
  | nil=>intro _; exact ⟨by simp [sumP],by simp [sumP],by simp [sumP]⟩
  | cons c r ih =>
   intro h
   have i:=ih fun d hd=>h d (List.mem_cons_of_mem _ hd)
   have k:=h c List.mem_cons_self
   have lo:=k.2.lo
   have hi:=k.2.hi
   have e1:(sumP (c :: r)).1 = c.1 + (sumP r).1:=by simp [sumP]
   have e2:(sumP (c :: r)).2 = c.2 + (sumP r).2:=by simp [sumP]
   rw [e1,e2,List.length_cons]
   refine ⟨?_,?_,?_⟩ <;> omega
 have k:=key cs hc
 have:0 < cs.length:=List.length_pos_iff.mpr ne
 refine ⟨by omega,k.2.1,k.2.2,?_,?_⟩
 ·exact sum_bd (n:=20) (k:=5) (fun i hi=>by obtain ⟨c,hc',rfl⟩:=List.mem_map.mp hi; exact (hc c hc').2.bt) (by rw [List.length_map]; exact hl)
 ·exact sum_bd (n:=20) (k:=5) (fun i hi=>by obtain ⟨c,hc',rfl⟩:=List.mem_map.mp hi; exact (hc c hc').2.bw) (by rw [List.length_map]; exact hl)
theorem TblF.two {m:Nat} {t:List Row} (o:TblF m t) (m2:2 <= m) (m4:m <= 4) {a b:Int} (a0:0 <= a) (a1:a < m) (b0:0 <= b) (b1:b < m) (ab:a ≠ b):Two m t a b:=by
 refine ⟨o.tbl m2 m4,a0,a1,b0,b1,ab,?_,?_,fun r hr=>?_⟩
 ·have:=(o.sum (h:=a.toNat) (by omega)).1; omega
 ·have:=(o.sum (h:=b.toNat) (by omega)).1; omega
 ·have h1:=(o.cell (h:=a.toNat) (by omega) hr).1
  have h2:=(o.cell (h:=b.toNat) (by omega) hr).1
  omega
theorem sh01 {c:Int × Int} {n:Nat} (h1:1 <= c.1) (h:Cnt n c.1 c.2):0 <= shQ c /\ shQ c <= 1:=by
 have p:(0:Rat) < c.1:=by have:=Rat.intCast_lt_intCast.mpr (show 0 < c.1 by omega); simpa using this
 have q:(0:Rat) <= c.2:=Rat.intCast_nonneg.mpr h.lo
 have r:(c.2:Rat) <= c.1:=Rat.intCast_le_intCast.mpr h.hi
 unfold shQ
 constructor
 ·refine Rat.not_lt.mp fun z=>?_
  rw [Rat.div_lt_iff p] at z
  grind
 ·refine Rat.not_lt.mp fun z=>?_
  rw [Rat.lt_div_iff p] at z
  grind
theorem sm_lt {l:List Row} {f g:Row -> Rat} (h:∀ r ∈ l,f r < g r) (ne:l ≠ []):sm l f < sm l g:=by
 have le:∀ l:List Row,(∀ r ∈ l,f r < g r) -> sm l f <= sm l g:=by
  intro l
  induction l with
  | nil=>intro _; exact Rat.le_refl
  | cons r l ih =>
   intro h
   have i:=ih fun x hx=>h x (List.mem_cons_of_mem _ hx)
   have k:=h r List.mem_cons_self
   rw [sm_cons,sm_cons]
   grind
 cases l with
 | nil=>exact absurd rfl ne
 | cons r l =>
  have i:=le l fun x hx=>h x (List.mem_cons_of_mem _ hx)
  have k:=h r List.mem_cons_self
  rw [sm_cons,sm_cons]
  grind
theorem sm_nn {l:List Row} {f:Row -> Rat} (h:∀ r ∈ l,0 <= f r):0 <= sm l f:=by
 induction l with
 | nil=>exact Rat.le_refl
 | cons r l ih =>
  have i:=ih fun x hx=>h x (List.mem_cons_of_mem _ hx)
  have k:=h r List.mem_cons_self
  rw [sm_cons]
  grind
theorem frac_B {n:Nat} {q:Rat} {Z N:Int} (hN:0 < N) (bN:Bd n N) (e:q = (Z:Rat) / (N:Rat)) (h0:0 <= q) (h1:q <= 1):QB n q:=by
 have np:(0:Rat) < N:=by have:=Rat.intCast_lt_intCast.mpr hN; simpa using this
 have ez:(Z:Rat) = q * (N:Rat):=by rw [e]; grind
 rw [e]
 exact QB.of (by omega) (part_bd h0 h1 hN bN ez) bN
structure Tw (t:List Row) (a b:Int) (l pA pB u:Rat):Prop where
 bl:QB 53 l
 bA:QB 53 pA
 bB:QB 53 pB
 bu:QB 53 u
 A0:0 <= pA
 B0:0 <= pB
 u0:0 <= u
 u1:u < 1
 lp:l + lsr pA pB <= 1
 gp:l - u * lsr pA pB <= wQ t a - wQ t b
theorem TblF.tw {m:Nat} {t:List Row} (o:TblF m t) (m2:2 <= m) (m4:m <= 4) {a b:Int} (a0:0 <= a) (a1:a < m) (b0:0 <= b) (b1:b < m) (ab:a ≠ b) :
  Tw t a b (vq (leadsO t a b) (endsq (leadsO t a b)).1) (spanQ (colO t a)) (spanQ (colO t b)) (unvQ (wts (col t a.toNat)) (wts (col t b.toNat))):=by
 have w:=o.two m2 m4 a0 a1 b0 b1 ab
 have ca:=o.colc (h:=a.toNat) (by omega)
 have cb:=o.colc (h:=b.toNat) (by omega)
 have qa:=ends_QB (shO_B fun c hc=>(ca c hc).2) (plq_ne w.ha)
 have qb:=ends_QB (shO_B fun c hc=>(cb c hc).2) (plq_ne w.hb)
 have ql:=ends_QB (leadsO_B (fun c hc=>(ca c hc).2) (fun c hc=>(cb c hc).2)) (leads_ne w)
 have ea:=endsq_all (colO t a) (plq_ne w.ha)
 have eb:=endsq_all (colO t b) (plq_ne w.hb)
 have sa:=o.sum (h:=a.toNat) (by omega)
 have sb:=o.sum (h:=b.toNat) (by omega)
 have tne:t ≠ []:=fun z=>by have:=o.1.1; rw [z] at this; simp at this
 have row:∀ k ∈ plq (colO t b) (colO t b).length,∃ r ∈ t,vq (colO t b) k = pr b r:=fun k hk=>by
  have hk':=plq_mem hk
  rw [colO_len] at hk'
  have hr:t[k]? = some t[k]:=List.getElem?_eq_getElem hk'.1
  refine ⟨t[k],List.getElem_mem _,?_⟩
  have:=oq_row (h:=b) hr
  unfold vq
  rw [this]
  unfold shO pr
  rw [if_neg (by have:=(o.cell (h:=b.toNat) (by omega) (List.mem_of_getElem? hr)).1; omega)]
  rfl
 have xpos:∀ (h:Int),0 <= h -> h < m -> ∀ r ∈ t,0 < xr t h r:=fun h h0 h1 r hr=>by
  have c:=(o.cell (h:=h.toNat) (by omega) hr).1
  have s:=(o.sum (h:=h.toNat) (by omega)).1
  exact fpos (by omega) s
 have u1:unvQ (wts (col t a.toNat)) (wts (col t b.toNat)) < 1:=by
  rw [unv_eq,← sm_x w.ha]
  refine sm_lt (fun r hr=>?_) tne
  have h1:=xpos a a0 a1 r hr
  have h2:=xpos b b0 b1 r hr
  unfold pos
  split <;> grind
 have u0:0 <= unvQ (wts (col t a.toNat)) (wts (col t b.toNat)):=by
  rw [unv_eq]
  refine sm_nn fun r hr=>?_
  unfold pos
  split <;> grind
 have A0:0 <= spanQ (colO t a):=by
  have:=ea.2 _ ea.1.1
  unfold spanQ
  grind
 have B0:0 <= spanQ (colO t b):=by
  have:=eb.2 _ eb.1.1
  unfold spanQ
  grind
 refine ⟨ql.1.mono (by decide),(qa.2.sub qa.1).mono (by decide),(qb.2.sub qb.1).mono (by decide),?_,A0,B0,u0,u1,?_,gap_low w⟩
 ·have hN:(sumP (col t a.toNat)).1 * (sumP (col t b.toNat)).1 ≠ 0:=Int.mul_ne_zero w.ha w.hb
  have pN:0 < (sumP (col t a.toNat)).1 * (sumP (col t b.toNat)).1:=Int.mul_pos sa.1 sb.1
  have la:=wts_len t a.toNat
  obtain ⟨zs,e1,e2,e3⟩:=sum_over (n:=557) hN (l:=((upl (wts (col t a.toNat)) (wts (col t b.toNat)) (wts (col t a.toNat)).length).map fun k=>(wts (col t a.toNat)).getD k 0 - (wts (col t b.toNat)).getD k 0)) fun q hq=>by
   obtain ⟨k,hk,rfl⟩:=List.mem_map.mp hq
   have:=upl_mem hk
   exact wts_dif w k (by omega)
  exact (frac_B pN (sa.2.2.2.1.mul sb.2.2.2.1) e3 u0 (Rat.le_of_lt u1)).mono (by decide)
 ·obtain ⟨r,hr,er⟩:=row _ eb.1.2
  obtain ⟨r',hr',er'⟩:=row _ eb.1.1
  have f:=row_facts w hr
  have x:=xpos a a0 a1 r hr
  have c1:=o.cell (h:=a.toNat) (by omega) hr
  have c2:=o.cell (h:=b.toNat) (by omega) hr'
  have s1:=(sh01 c1.1 c1.2).2
  have s2:=(sh01 c2.1 c2.2).1
  have s1:pr a r <= 1:=s1
  have s2:0 <= pr b r':=s2
  rcases f.2.2 with ⟨z,_⟩ | ⟨_,_,⟨z,_⟩⟩
  ·grind
  ·have:spanQ (colO t b) = pr b r - pr b r':=by unfold spanQ; rw [er,er']
   have:lsr (spanQ (colO t a)) (spanQ (colO t b)) <= spanQ (colO t b):=by
    unfold lsr
    split <;> grind
   grind
def gTable31:DSp:=fun ds Q=>∃ m:Int,ds = [.pen,.int m] /\ (2 <= m /\ m <= 4) /\ ∀ t,TblF m.toNat t -> Q (.lst (t.map rowD))
theorem m__law_table:MonoS gTable31:=fun ds P P' f ⟨m,a,b,h⟩=>⟨m,a,b,fun t o=>f _ (h t o)⟩
theorem in_ints {ns:List Int} {k:Int} {Q:D -> Prop} {lo hi:Int} (k0:0 <= k) (k1:k < ns.length) (hb:∀ n ∈ ns,lo <= n /\ n <= hi) (q:∀ n,lo <= n -> n <= hi -> Q (.int n)):opt (atI (ns.map D.int) k) Q:=by
 refine opt_mem k0 (by rw [List.length_map]; exact k1) fun d hd=>?_
 obtain ⟨n,hn,rfl⟩:=List.mem_map.mp hd
 exact q n (hb n hn).1 (hb n hn).2
theorem pkb {bb:Bool} {x y lo hi:Int} {Q:D -> Prop} (hx:lo <= x /\ x <= hi) (hy:lo <= y /\ y <= hi) (q:∀ n:Int,lo <= n -> n <= hi -> Q (.int n)):gInt1 [.bl bb] (fun d=>gIx (.lst [.int x,.int y]) d Q):=by
 cases bb
 ·exact q x hx.1 hx.2
 ·exact q y hy.1 hy.2
theorem g__law_table (T:Tx K mg):FnOk P w K mg base CX0 2 T.f__law_table T.fd__law_table ["_law_pen_here","_law_many"] (spD K 2 gTable31):=by
 refine fnD (k:=1) T.d__law_table.F sc__law_table (fun cdv A outer s H E hr=>(dss_cons (ds_set (i:=2) sc__law_table.nd rfl (by first | exact Or.inl rfl | exact Or.inr rfl) (de_call (g__law_next T) m__law_next (hr.mono (by decide)) rfl T.d__law_next.m T.d__law_next.F.kp T.d__law_next.b (da_cons (de_var 0 (pv 0)) (da_cons de_int da_nil))))
   (dss_cons (ds_own (i:=3) sc__law_table.nd rfl (by first | exact Or.inl rfl | exact Or.inr rfl) (dl_lst da_nil))
   (dss_mid (ds_for PassesOwn.never rfl (di_range1 rfl T.z_range (da_cons (de_op od_add de_int (de_call (g__law_next T) m__law_next (hr.mono (by decide)) rfl T.d__law_next.m T.d__law_next.F.kp T.d__law_next.b (da_cons (de_var 0 (pv 0)) (da_cons (de_ix (de_frz (dl_lst (da_cons de_int (da_cons de_int da_nil)))) (de_call (g__law_next T) m__law_next (hr.mono (by decide)) rfl T.d__law_next.m T.d__law_next.F.kp T.d__law_next.b (da_cons (de_var 0 (pv 0)) (da_cons de_int da_nil))) (fun _ _=>rfl)) da_nil)))) da_nil)) (dg_name (i:=4) sc__law_table.nd rfl (by first | exact Or.inl rfl | exact Or.inr rfl)) (dss_cons (ds_own (i:=5) sc__law_table.nd rfl (by first | exact Or.inl rfl | exact Or.inr rfl) (dl_lst da_nil))
   (dss_mid (ds_for PassesOwn.never rfl (di_range1 rfl T.z_range (da_cons (de_var 1 (pv 1)) da_nil)) (dg_name (i:=6) sc__law_table.nd rfl (by first | exact Or.inl rfl | exact Or.inr rfl)) (dss_cons (ds_set (i:=7) sc__law_table.nd rfl (by first | exact Or.inl rfl | exact Or.inr rfl) (de_op od_add de_int (de_call (g__law_next T) m__law_next (hr.mono (by decide)) rfl T.d__law_next.m T.d__law_next.F.kp T.d__law_next.b (da_cons (de_var 0 (pv 0)) (da_cons (de_ix (de_frz (dl_lst (da_cons de_int (da_cons (de_op od_pow de_int de_int) da_nil)))) (de_callTy cd_int rfl T.z_int rfl (da_cons (de_cmp (od_eq hr) (de_call (g__law_next T) m__law_next (hr.mono (by decide)) rfl T.d__law_next.m T.d__law_next.F.kp T.d__law_next.b (da_cons (de_var 0 (pv 0)) (da_cons de_int da_nil))) de_int (nomark _)) da_nil)) (fun _ _=>rfl)) da_nil)))))
   (dss_cons (ds_set (i:=8) sc__law_table.nd rfl (by first | exact Or.inl rfl | exact Or.inr rfl) (de_call (g__law_next T) m__law_next (hr.mono (by decide)) rfl T.d__law_next.m T.d__law_next.F.kp T.d__law_next.b (da_cons (de_var 0 (pv 0)) (da_cons (de_op od_add (de_var 7 (pv 7)) de_int) da_nil))))
   (dss_mid (ds_if (dt_cmp (od_eq hr) (de_var 2 (pv 2)) de_int (nomark _)) (dss_one (ds_set (i:=8) sc__law_table.nd rfl (by first | exact Or.inl rfl | exact Or.inr rfl) (de_ix (de_frz (dl_lst (da_cons (de_op od_add (de_op od_fdiv (de_var 7 (pv 7)) de_int) (de_call (g__law_next T) m__law_next (hr.mono (by decide)) rfl T.d__law_next.m T.d__law_next.F.kp T.d__law_next.b (da_cons (de_var 0 (pv 0)) (da_cons (de_op od_add (de_op od_fdiv (de_var 7 (pv 7)) de_int) de_int) da_nil)))) (da_cons (de_call (g__law_next T) m__law_next (hr.mono (by decide)) rfl T.d__law_next.m T.d__law_next.F.kp T.d__law_next.b (da_cons (de_var 0 (pv 0)) (da_cons (de_op od_fdiv (de_var 7 (pv 7)) de_int) da_nil))) da_nil)))) (de_callTy cd_int rfl T.z_int rfl (da_cons (de_cmp od_gt (de_var 6 (pv 6)) de_int (nomark _)) da_nil)) (fun _ _=>rfl)))) dss_nil)
   (dss_one (ds_app (pv 5) (de_tup (da_cons (de_var 7 (pv 7)) (da_cons (de_var 8 (pv 8)) da_nil)))))))))
   (dss_one (ds_app (pv 3) (de_callTy cd_tuple rfl T.z_tuple rfl (da_cons (de_var 5 (pv 5)) da_nil)))))))
   (dss_one (ds_ret (de_var 3 (pv 3)))))))) (fun ds Q hl h=>?_)
 obtain ⟨m,rfl,⟨m2,m4⟩,h⟩:=h
 refine ⟨rfl,⟨by decide,by decide⟩,fun rs _ _=>⟨sz,?_⟩⟩
 have f2:∀ n ∈ ([9,20]:List Int),1 <= n /\ n <= 20:=by decide
 refine ⟨fun ρ=>∃ t:List Row,TblF m.toNat t /\ ∃ a b c d e:Sl,ρ = [.val .pen,.val (.int m),.val (.int rs),.own (t.map rowD),a,b,c,d,e],?_,?_⟩
 ·refine ⟨sz,rfl,⟨by decide,by decide⟩,fun k k0 k1=>in_ints (ns:=[9,20]) k0 k1 f2 fun n n1 n2=>⟨rfl,⟨n1,by omega⟩,fun pp p0 p1=>⟨⟨by omega,by omega⟩,?_⟩⟩⟩
  refine dLoop_up (fun k ρ=>∃ t:List Row,(t.length:Int) = k /\ (∀ r ∈ t,RowN 20 m.toNat r /\ ∀ c ∈ r,1 <= c.1) /\ ∃ a b c d e:Sl,ρ = [.val .pen,.val (.int m),.val (.int rs),.own (t.map rowD),a,b,c,d,e]) _ _ ?_ ?_ _ ⟨[],by simp,fun r hr=>by simp at hr,_,_,_,_,_,rfl⟩
  ·rintro ρ ⟨t,h1,h2,a,b,c,d,e,rfl⟩
   exact ⟨t,⟨⟨by omega,by omega⟩,h2⟩,a,b,c,d,e,rfl⟩
  ·rintro i ρ X i0 i1 ⟨t,h1,h2,a,b,c,d,e,rfl⟩ hX
   refine ⟨sz,fun ρ=>∃ r:Row,RowN 20 m.toNat r /\ (∀ c ∈ r,1 <= c.1) /\ ∃ x6 x7 x8:Sl,ρ = [.val .pen,.val (.int m),.val (.int rs),.own (t.map rowD),.val (.int i),.own (r.map pairD),x6,x7,x8],?_,?_⟩
   ·refine ⟨⟨by omega,by omega⟩,?_⟩
    refine dLoop_up (fun i' ρ=>∃ r:Row,(r.length:Int) = i' /\ (∀ c ∈ r,Cnt 20 c.1 c.2) /\ (∀ c ∈ r,1 <= c.1) /\ ∃ x6 x7 x8:Sl,ρ = [.val .pen,.val (.int m),.val (.int rs),.own (t.map rowD),.val (.int i),.own (r.map pairD),x6,x7,x8]) _ _ ?_ ?_ _ ⟨[],rfl,fun c hc=>by simp at hc,fun c hc=>by simp at hc,_,_,_,rfl⟩
    ·rintro ρ ⟨r,r1,r2,r3,x6,x7,x8,rfl⟩
     exact ⟨r,⟨by omega,r2⟩,r3,x6,x7,x8,rfl⟩
    ·rintro i' ρ X' i0' i1' ⟨r,r1,r2,r3,x6,x7,x8,rfl⟩ hX'
     have f3:∀ n ∈ ([9,1000000]:List Int),1 <= n /\ n <= 1000000:=by decide
     refine ⟨cpow,sz,rfl,⟨by decide,by decide⟩,fun q q0 q1=>⟨⟨rfl,rfl⟩,?_⟩⟩
     refine pkb (lo:=1) (hi:=1000000) (by decide) (by decide) fun n n1 n2=>?_
     refine ⟨rfl,⟨n1,by omega⟩,fun tr t0 t1=>?_⟩
     refine ⟨rfl,⟨by omega,by omega⟩,fun wl w0 w1=>?_⟩
     refine ⟨fun ρ=>∃ wl:Int,0 <= wl /\ wl <= 2 + tr /\ ρ = [.val .pen,.val (.int m),.val (.int rs),.own (t.map rowD),.val (.int i),.own (r.map pairD),.val (.int i'),.val (.int (2 + tr)),.val (.int wl)],⟨⟨rfl,rfl⟩,fun _=>?_,fun _=>⟨wl,w0,by omega,rfl⟩⟩,?_⟩
     ·refine ⟨⟨by decide,big_small (by decide) (by decide)⟩,⟨by decide,big_small (by decide) (by decide)⟩,rfl,⟨by omega,by omega⟩,fun x x0 x1=>⟨⟨by decide,big_small (by decide) (by decide)⟩,rfl,⟨by omega,by omega⟩,fun y y0 y1=>⟨sz,?_⟩⟩⟩
      exact pkb (lo:=0) (hi:=2 + tr) ⟨by omega,by omega⟩ ⟨by omega,by omega⟩ fun n n0 n1=>⟨n,n0,n1,rfl⟩
     ·rintro _ ⟨wl,w0,w1,rfl⟩
      refine ⟨trivial,sz,?_,hX' _ ⟨r ++ [(2 + tr,wl)],by simp; omega,fun c hc=>?_,fun c hc=>?_,_,_,_,by rw [List.map_append]; rfl⟩⟩
      ·rw [List.length_map]
       exact Nat.lt_of_le_of_lt (show r.length <= 100 by omega) (by decide)
      ·rcases List.mem_append.mp hc with hc | hc
       ·exact r2 c hc
       ·rw [List.mem_singleton.mp hc]
        exact cnt_of w0 (by omega) (show (2 + tr).natAbs < 2 ^ 20 by omega)
      ·rcases List.mem_append.mp hc with hc | hc
       ·exact r3 c hc
       ·rw [List.mem_singleton.mp hc]
        show 1 <= 2 + tr
        omega
   ·rintro _ ⟨r,r2,r3,x6,x7,x8,rfl⟩
    refine ⟨trivial,?_,hX _ ⟨t ++ [r],by simp; omega,fun r' hr'=>?_,_,_,_,_,_,by rw [List.map_append]; rfl⟩⟩
    ·rw [List.length_map]
     exact Nat.lt_of_le_of_lt (show t.length <= 100 by omega) (by decide)
    ·rcases List.mem_append.mp hr' with hr' | hr'
     ·exact h2 r' hr'
     ·rw [List.mem_singleton.mp hr']
      exact ⟨r2,r3⟩
 ·rintro _ ⟨t,o,a,b,c,d,e,rfl⟩
  exact h t o
def MGood (l p u:Rat):Prop:=0 < l /\ 0 < p /\ l + p <= 1 /\ 0 < u /\ u < 1
def gTold:DSp:=fun ds Q=>∃ l p u:Rat,ds = [ratQ l,ratQ p,ratQ u] /\ (QB 53 l /\ QB 53 p /\ QB 53 u) /\
 ((MGood l p u /\ ∀ a0 b0 a1 b1 c0 d0 c1 d1:Int,Md (1 - (1 - u) * (1 / 2)) l (l + p) ((1 - u) * (1 / 2)) 0 p a0 b0 a1 b1 c0 d0 c1 d1 -> Q (.lst ((t2 a0 b0 a1 b1 c0 d0 c1 d1).map rowD))) ∨ (MB l p u /\ Q .non))
theorem m__law_told:MonoS gTold:=fun ds P P' f ⟨l,p,u,e,b,h⟩=>⟨l,p,u,e,b,h.imp (fun ⟨g,h⟩=>⟨g,fun _ _ _ _ _ _ _ _ m=>f _ (h _ _ _ _ _ _ _ _ m)⟩) (fun ⟨g,h⟩=>⟨g,f _ h⟩)⟩
theorem g__law_told (T:Tx K mg):FnOk P w K mg base CX0 6 T.f__law_told T.fd__law_told ["_law_lead","_law_span","_law_odds"] (spD K 3 gTold):=by
 refine fnD (k:=5) T.d__law_told.F sc__law_told (fun cdv A outer s H E hr=>(dss_one (ds_tryN (X:=(cxOf CX0 P w K mg base ["_law_lead","_law_span","_law_odds"] "_law_told" (defScope s__law_told) T.f__law_told cdv A outer s H E).nox) (K:=K) (x:="NoTable") rfl rfl rfl rfl rfl T.cm_NoTable xk_free (fun fr W hW pn=>(dss_one (ds_ret (de_callE (x:="meeting") (gE_meeting T) mE_meeting xk_wish hW (hr.mono (by decide)) rfl T.d_meeting.m T.d_meeting.F.kp T.d_meeting.b (da_cons (de_var 0 (pv 0)) (da_cons (de_var 1 (pv 1)) (da_cons (de_var 2 (pv 2)) da_nil))))))) (fun ea=>(dss_one (ds_ret de_non)))))) (fun ds Q hl h=>?_)
 obtain ⟨l,p,u,rfl,⟨bl,bp,bu⟩,⟨g,h⟩ | ⟨g,h⟩⟩:=h
 ·exact ⟨rfl,.inl ⟨l,p,u,rfl,g,bl,bp,bu,fun a0 b0 a1 b1 c0 d0 c1 d1 m b=>h _ _ _ _ _ _ _ _ (met_md m g b)⟩⟩
 ·exact ⟨rfl,.inr ⟨l,p,u,rfl,bl.mono (by decide),bp.mono (by decide),bu.mono (by decide),g,.inl ⟨T.k_exNoTable,h⟩⟩⟩
def gLaidL:DSp:=fun ds Q=>∃ (t1 w1 t2' w2:Int) (u:Rat),ds = [pairD (t1,w1),pairD (t2',w2),ratQ u] /\
 ((Asked t1 w1 t2' w2 u /\ ∀ (w sp lo hi:Rat) (a0 b0 a1 b1 c0 d0 c1 d1:Int),Lay ((w1:Rat) / (t1:Rat)) ((w2:Rat) / (t2':Rat)) u w sp lo hi -> Md w hi lo (w - u) hi lo a0 b0 a1 b1 c0 d0 c1 d1 -> Q (.lst ((t2 a0 b0 a1 b1 c0 d0 c1 d1).map rowD)))
  ∨ (((Bd 100 t1 /\ Bd 100 w1) /\ (Bd 100 t2' /\ Bd 100 w2) /\ QB 100 u /\ LB (t1,w1) (t2',w2) u) /\ Q .non))
theorem m__law_laid:MonoS gLaidL:=fun ds P P' f ⟨a,b,c,d,u,e,h⟩=>⟨a,b,c,d,u,e,h.imp (fun ⟨g,h⟩=>⟨g,fun _ _ _ _ _ _ _ _ _ _ _ _ y m=>f _ (h _ _ _ _ _ _ _ _ _ _ _ _ y m)⟩) (fun ⟨g,h⟩=>⟨g,f _ h⟩)⟩
theorem Asked.u0 {t1 w1 t2 w2:Int} {u:Rat} (a:Asked t1 w1 t2 w2 u):0 < u:=by
 have:=a.lead
 have:=a.lu
 grind
theorem g__law_laid (T:Tx K mg):FnOk P w K mg base CX0 7 T.f__law_laid T.fd__law_laid ["_law_one","_law_other","_law_odds"] (spD K 3 gLaidL):=by
 refine fnD (k:=6) T.d__law_laid.F sc__law_laid (fun cdv A outer s H E hr=>(dss_one (ds_tryN (X:=(cxOf CX0 P w K mg base ["_law_one","_law_other","_law_odds"] "_law_laid" (defScope s__law_laid) T.f__law_laid cdv A outer s H E).nox) (K:=K) (x:="NoTable") rfl rfl rfl rfl rfl T.cm_NoTable xk_free (fun fr W hW pn=>(dss_one (ds_ret (de_callE (x:="laid") (gE_laid T) mE_laid xk_wish hW (hr.mono (by decide)) rfl T.d_laid.m T.d_laid.F.kp T.d_laid.b (da_cons (de_var 0 (pv 0)) (da_cons (de_var 1 (pv 1)) (da_cons (de_var 2 (pv 2)) da_nil))))))) (fun ea=>(dss_one (ds_ret de_non)))))) (fun ds Q hl h=>?_)
 obtain ⟨t1,w1,t2',w2,u,rfl,⟨g,h⟩ | ⟨⟨g1,g2,g3,g4⟩,h⟩⟩:=h
 ·exact ⟨rfl,.inl ⟨t1,w1,t2',w2,u,rfl,g,fun w sp lo hi a0 b0 a1 b1 c0 d0 c1 d1 y l1 l2=>h w sp lo hi _ _ _ _ _ _ _ _ y (md_lay y g.u0 l1 l2)⟩⟩
 ·exact ⟨rfl,.inr ⟨(t1,w1),(t2',w2),u,rfl,g1,g2,g3,g4,.inl ⟨T.k_exNoTable,h⟩⟩⟩
structure Ex31 (t:List Row) (a b:Int) (l pA pB u:Rat):Prop where
 lD:∃ i0 l1 i1,endsqD (leadsO t a b) = .tup [ratQ l,.int i0,ratQ l1,.int i1]
 uD:∃ ks,unvD (wts (col t a.toNat)) (wts (col t b.toNat)) = .tup [ratQ u,ks]
 aD:spanQ (colO t a) = pA
 bD:spanQ (colO t b) = pB
 gD:∃ g hi,gapD t a b = .tup [ratQ (l - u * lsr pA pB),g,hi]
theorem TblF.ex {m:Nat} {t:List Row} (o:TblF m t) (m2:2 <= m) (m4:m <= 4) {a b:Int} (a0:0 <= a) (a1:a < m) (b0:0 <= b) (b1:b < m) (ab:a ≠ b):∃ l pA pB u,Ex31 t a b l pA pB u /\ Tw t a b l pA pB u :=
 ⟨_,_,_,_,⟨⟨_,_,_,rfl⟩,⟨_,rfl⟩,rfl,rfl,⟨_,_,rfl⟩⟩,o.tw m2 m4 a0 a1 b0 b1 ab⟩
theorem pick2 {p q:Rat} {Q:D -> Prop} (h:Q (ratQ (lsr p q))):gInt1 [.bl (decide (q.num * (p.den:Int) < p.num * (q.den:Int)))] (fun d=>gIx (.lst [ratQ p,ratQ q]) d Q):=by
 have e:decide (q.num * (p.den:Int) < p.num * (q.den:Int)) = decide (q < p):=decide_eq_decide.mpr (Rat.lt_iff _ _).symm
 rw [e]
 unfold lsr at h
 by_cases z:q < p
 ·rw [decide_eq_true z]
  rw [if_pos z] at h
  exact h
 ·rw [decide_eq_false z]
  rw [if_neg z] at h
  exact h
theorem num_zero {q:Rat}:q.num = 0 ↔ q = 0:=Rat.num_eq_zero
theorem num_low {q:Rat} (h:¬ q.num < 1):0 < q:=by
 have h:0 < q.num:=by omega
 exact (Rat.lt_iff 0 q).mpr (by simpa using h)
theorem wq_cross {n:Nat} {t:List Row} (o:TblF n t) {a b:Int} (a0:0 <= a) (a1:a < n) (b0:0 <= b) (b1:b < n) (h:0 < wQ t a - wQ t b):(sumP (col t b.toNat)).2 * (sumP (col t a.toNat)).1 < (sumP (col t a.toNat)).2 * (sumP (col t b.toNat)).1:=by
 have sa:=(o.sum (h:=a.toNat) (by omega)).1
 have sb:=(o.sum (h:=b.toNat) (by omega)).1
 have pa:(0:Rat) < ((sumP (col t a.toNat)).1:Rat):=by have:=Rat.intCast_lt_intCast.mpr sa; simpa using this
 have pb:(0:Rat) < ((sumP (col t b.toNat)).1:Rat):=by have:=Rat.intCast_lt_intCast.mpr sb; simpa using this
 unfold wQ shQ at h
 generalize (sumP (col t a.toNat)).1 = A at *
 generalize (sumP (col t b.toNat)).1 = B at *
 generalize (sumP (col t a.toNat)).2 = X at *
 generalize (sumP (col t b.toNat)).2 = Y at *
 apply Rat.intCast_lt_intCast.mp
 rw [Rat.intCast_mul,Rat.intCast_mul]
 have e1:(X:Rat) / A * A = X:=by grind
 have e2:(Y:Rat) / B * B = Y:=by grind
 have:=pos_mul h (pos_mul pa pb)
 generalize (X:Rat) / A = x at *
 generalize (Y:Rat) / B = y at *
 rw [← e1,← e2]
 grind
theorem md_says {v s o v' s' o':Rat} {a0 b0 a1 b1 c0 d0 c1 d1:Int} (m:Md v s o v' s' o' a0 b0 a1 b1 c0 d0 c1 d1) (h1:s' < s) (h2:o' < o):(t2 a0 b0 a1 b1 c0 d0 c1 d1).map (saidR (0:Int).toNat (1:Int).toNat) = [.int 1,.int 1]:=by
 have k1:=m.la.ct m.v0 m.v1 m.s0 m.s1 m.o0 m.o1
 have k2:=m.lc.ct m.v0' m.v1' m.s0' m.s1' m.o0' m.o1'
 unfold Ct at k1 k2
 dsimp only at k1 k2
 have g1:=m.la.sh m.v0 m.v1
 have g2:=m.lc.sh m.v0' m.v1'
 have one:∀ {t w t' w':Int} {q q':Rat},1 <= t -> 1 <= t' -> (w:Rat) / (t:Rat) = q -> (w':Rat) / (t':Rat) = q' -> q' < q -> saidD t w t' w' = .int 1:=fun {t w t' w' q q'} ht ht' e e' hq=>by
  have T:(0:Rat) < t:=by have:=Rat.intCast_lt_intCast.mpr (show 0 < t by omega); simpa using this
  have T':(0:Rat) < t':=by have:=Rat.intCast_lt_intCast.mpr (show 0 < t' by omega); simpa using this
  have ew:(w:Rat) = q * t:=by rw [← e]; grind
  have ew':(w':Rat) = q' * t':=by rw [← e']; grind
  have lt:t * w' < w * t':=by
   apply Rat.intCast_lt_intCast.mp
   rw [Rat.intCast_mul,Rat.intCast_mul,ew,ew']
   have:=Rat.mul_lt_mul_of_pos_right hq (pos_mul T T')
   grind
  unfold saidD
  rw [if_neg (by omega),if_pos lt]
 show [saidD a0 b0 c0 d0,saidD a1 b1 c1 d1] = _
 rw [one k1.1.1 k2.1.1 g1.1 g2.1 h1,one k1.2.1 k2.2.1 g1.2.1 g2.2.1 h2]
def gMet31:DSp:=fun ds Q=>∃ (n:Nat) (t:List Row) (a b:Int),ds = [.lst (t.map rowD),.int a,.int b] /\ TblF n t /\ (2 <= n /\ n <= 4) /\ (0 <= a /\ a < n) /\ (0 <= b /\ b < n) /\ a ≠ b /\ Q (.bl true)
theorem m__law_met:MonoS gMet31:=fun ds P P' f ⟨n,t,a,b,c,d,e,g,i,j,h⟩=>⟨n,t,a,b,c,d,e,g,i,j,f _ h⟩
theorem g__law_met (T:Tx K mg):FnOk P w K mg base CX0 13 T.f__law_met T.fd__law_met ["_law_table_here","_law_a","_law_b"] (spD K 3 gMet31):=by
 refine fnD (k:=12) T.d__law_met.F sc__law_met (fun cdv A outer s H E hr=>(dss_cons (ds_set (i:=3) sc__law_met.nd rfl (by first | exact Or.inl rfl | exact Or.inr rfl) (de_ix (de_call (g_leads T) m_leads (hr.mono (by decide)) rfl T.d_leads.m T.d_leads.F.kp T.d_leads.b (da_cons (de_var 0 (pv 0)) (da_cons (de_var 1 (pv 1)) (da_cons (de_var 2 (pv 2)) da_nil)))) de_int (fun _ _=>rfl)))
   (dss_cons (ds_if (dt_cmp od_lt (de_ix (de_var 3 (pv 3)) de_int (fun _ _=>rfl)) de_int (nomark _)) (dss_one (ds_ret de_bl)) dss_nil)
   (dss_mid (ds_set (i:=4) sc__law_met.nd rfl (by first | exact Or.inl rfl | exact Or.inr rfl) (de_ix (de_call (g_uneven T) m_uneven (hr.mono (by decide)) rfl T.d_uneven.m T.d_uneven.F.kp T.d_uneven.b (da_cons (de_var 0 (pv 0)) (da_cons (de_var 1 (pv 1)) (da_cons (de_var 2 (pv 2)) da_nil)))) de_int (fun _ _=>rfl)))
   (dss_cons (ds_set (i:=5) sc__law_met.nd rfl (by first | exact Or.inl rfl | exact Or.inr rfl) (de_call (g_apart T) m_apart (hr.mono (by decide)) rfl T.d_apart.m T.d_apart.F.kp T.d_apart.b (da_cons (de_var 0 (pv 0)) (da_cons (de_var 1 (pv 1)) da_nil))))
   (dss_cons (ds_set (i:=6) sc__law_met.nd rfl (by first | exact Or.inl rfl | exact Or.inr rfl) (de_call (g_apart T) m_apart (hr.mono (by decide)) rfl T.d_apart.m T.d_apart.F.kp T.d_apart.b (da_cons (de_var 0 (pv 0)) (da_cons (de_var 2 (pv 2)) da_nil))))
   (dss_cons (ds_set (i:=7) sc__law_met.nd rfl (by first | exact Or.inl rfl | exact Or.inr rfl) (de_ix (de_frz (dl_lst (da_cons (de_var 5 (pv 5)) (da_cons (de_var 6 (pv 6)) da_nil)))) (de_callTy cd_int rfl T.z_int rfl (da_cons (de_cmp od_lt (de_op od_mul (de_ix (de_var 6 (pv 6)) de_int (fun _ _=>rfl)) (de_ix (de_var 5 (pv 5)) de_int (fun _ _=>rfl))) (de_op od_mul (de_ix (de_var 5 (pv 5)) de_int (fun _ _=>rfl)) (de_ix (de_var 6 (pv 6)) de_int (fun _ _=>rfl))) (nomark _)) da_nil)) (fun _ _=>rfl)))
   (dss_mid (ds_set (i:=8) sc__law_met.nd rfl (by first | exact Or.inl rfl | exact Or.inr rfl) (de_call (g__law_told T) m__law_told (hr.mono (by decide)) rfl T.d__law_told.m T.d__law_told.F.kp T.d__law_told.b (da_cons (de_var 3 (pv 3)) (da_cons (de_var 7 (pv 7)) (da_cons (de_var 4 (pv 4)) da_nil)))))
   (dss_cons (ds_if (PWD.pt (dw_or (dt_cmp (od_eq hr) (de_ix (de_var 4 (pv 4)) de_int (fun _ _=>rfl)) de_int (nomark _)) (dw_or1 (dt_cmp (od_eq hr) (de_ix (de_var 7 (pv 7)) de_int (fun _ _=>rfl)) de_int (nomark _))))) (dss_cons (ds_set (i:=9) sc__law_met.nd rfl (by first | exact Or.inl rfl | exact Or.inr rfl) (de_call (g_sums_of T) m_sums_of (hr.mono (by decide)) rfl T.d_sums_of.m T.d_sums_of.F.kp T.d_sums_of.b (da_cons (de_var 0 (pv 0)) da_nil)))
   (dss_one (ds_ret (de_and (de_cmp od_isN (de_var 8 (pv 8)) de_non (nomark _)) (de_one (de_cmp od_gt (de_op od_mul (de_ix (de_ix (de_var 9 (pv 9)) (de_var 1 (pv 1)) (fun _ _=>rfl)) de_int (fun _ _=>rfl)) (de_ix (de_ix (de_var 9 (pv 9)) (de_var 2 (pv 2)) (fun _ _=>rfl)) de_int (fun _ _=>rfl))) (de_op od_mul (de_ix (de_ix (de_var 9 (pv 9)) (de_var 2 (pv 2)) (fun _ _=>rfl)) de_int (fun _ _=>rfl)) (de_ix (de_ix (de_var 9 (pv 9)) (de_var 1 (pv 1)) (fun _ _=>rfl)) de_int (fun _ _=>rfl))) (nomark _))))))) dss_nil)
   (dss_cons (ds_if (dt_cmp od_isN (de_var 8 (pv 8)) de_non (nomark _)) (dss_one (ds_ret de_bl)) dss_nil)
   (dss_cons (ds_set (i:=10) sc__law_met.nd rfl (by first | exact Or.inl rfl | exact Or.inr rfl) (de_call (g_gap T) m_gap (hr.mono (by decide)) rfl T.d_gap.m T.d_gap.F.kp T.d_gap.b (da_cons (de_var 8 (pv 8)) (da_cons de_int (da_cons de_int da_nil)))))
   (dss_one (ds_ret (de_and (de_chain (od_eq hr) (od_eq hr) (de_ix (de_var 10 (pv 10)) de_int (fun _ _=>rfl)) (de_ix (de_var 10 (pv 10)) de_int (fun _ _=>rfl)) (de_ix (de_call (g_gap T) m_gap (hr.mono (by decide)) rfl T.d_gap.m T.d_gap.F.kp T.d_gap.b (da_cons (de_var 0 (pv 0)) (da_cons (de_var 1 (pv 1)) (da_cons (de_var 2 (pv 2)) da_nil)))) de_int (fun _ _=>rfl))) (de_one (de_cmp (od_eq hr) (de_call (g_says T) m_says (hr.mono (by decide)) rfl T.d_says.m T.d_says.F.kp T.d_says.b (da_cons (de_var 8 (pv 8)) (da_cons de_int (da_cons de_int da_nil)))) (de_frz (dl_lst (da_cons de_int (da_cons de_int da_nil)))) (nomark _))))))))))))))))) (fun ds Q hl h=>?_)
 obtain ⟨n,t,a,b,rfl,o,⟨n2,n4⟩,⟨a0,a1⟩,⟨b0,b1⟩,ab,h⟩:=h
 have w:=o.two n2 n4 a0 a1 b0 b1 ab
 obtain ⟨l,pA,pB,u,E,G⟩:=o.ex n2 n4 a0 a1 b0 b1 ab
 obtain ⟨i0,l1,i1,lD⟩:=E.lD
 obtain ⟨ks,uD⟩:=E.uD
 obtain ⟨wg,hi,gD⟩:=E.gD
 have l64:t.length <= 64:=by have:=o.1.2; omega
 refine ⟨rfl,n,t,rfl,w,?_⟩
 rw [lD]
 refine Br.di (fun z=>h) (fun z=>?_)
 have l0:=num_low z
 refine ⟨fun ρ=>ρ = [.val (.lst (t.map rowD)),.val (.int a),.val (.int b),.val (ratQ l),.val (ratQ u),.nil,.nil,.nil,.nil,.nil,.nil],⟨rfl,n,t,rfl,l64,w,?_⟩,?_⟩
 ·rw [uD]
  rfl
 rintro _ rfl
 refine ⟨rfl,n,t,rfl,w.o,⟨w.a0,w.a1⟩,w.ha,rfl,n,t,rfl,w.o,⟨w.b0,w.b1⟩,w.hb,?_⟩
 rw [E.aD,E.bD]
 refine ⟨sz,(G.bB.nu.mono (by decide):Bd 3000 _).cmul (G.bA.de.mono (by decide):Bd 3000 _),(G.bA.nu.mono (by decide):Bd 3000 _).cmul (G.bB.de.mono (by decide):Bd 3000 _),?_⟩
 refine pick2 ?_
 have bs:=lsr_B G.bA G.bB
 have lp:=G.lp
 have gp:=G.gp
 have s0:0 <= lsr pA pB:=by
  have:=G.A0
  have:=G.B0
  unfold lsr
  split <;> grind
 have u0:=G.u0
 have u1:=G.u1
 have sp:t.length <= 100:=by omega
 generalize lsr pA pB = p at *
 have cases':MGood l p u ∨ MB l p u:=by
  by_cases z1:0 < p
  ·by_cases z2:0 < u
   ·exact .inl ⟨l0,z1,lp,z2,u1⟩
   ·exact .inr (.inr (.inr (.inr (.inl z2))))
  ·exact .inr (.inr (.inl z1))
 refine ⟨fun ρ=>∃ made:D,ρ = [.val (.lst (t.map rowD)),.val (.int a),.val (.int b),.val (ratQ l),.val (ratQ u),.val (ratQ pA),.val (ratQ pB),.val (ratQ p),.val made,.nil,.nil] /\ ((MGood l p u /\ ∃ a0 b0 a1 b1 c0 d0 c1 d1:Int,Md (1 - (1 - u) * (1 / 2)) l (l + p) ((1 - u) * (1 / 2)) 0 p a0 b0 a1 b1 c0 d0 c1 d1 /\ made = .lst ((t2 a0 b0 a1 b1 c0 d0 c1 d1).map rowD)) ∨ (MB l p u /\ made = .non)),⟨rfl,l,p,u,rfl,⟨G.bl,bs,G.bu⟩,?_⟩,?_⟩
 ·rcases cases' with c | c
  ·exact .inl ⟨c,fun _ _ _ _ _ _ _ _ m=>⟨_,rfl,.inl ⟨c,_,_,_,_,_,_,_,_,m,rfl⟩⟩⟩
  ·exact .inr ⟨c,_,rfl,.inr ⟨c,rfl⟩⟩
 rintro _ ⟨made,rfl,c⟩
 have none:u = 0 ∨ p = 0 -> made = .non:=fun z=>by
  rcases c with ⟨⟨_,c1,_,c2,_⟩,_⟩ | ⟨_,c⟩
  ·exfalso
   have key:∀ x:Rat,x = 0 -> 0 < x -> False:=fun x e h=>by grind
   rcases z with z | z
   ·exact key _ z c2
   ·exact key _ z c1
  ·exact c
 have whole:u = 0 ∨ p = 0 -> 0 < wQ t a - wQ t b:=fun z=>by
  have:u * p = 0:=by rcases z with z | z <;> (rw [z]; grind)
  grind
 refine ⟨⟨rfl,rfl⟩,fun e=>?_,fun e=>⟨⟨rfl,rfl⟩,fun e'=>?_,fun e'=>?_⟩⟩
 rotate_left 2
 ·have hu:u ≠ 0:=fun z=>by
   have e:¬ u.num = 0:=by simpa [eqD_int] using e
   exact e (num_zero.mpr z)
  have hp:p ≠ 0:=fun z=>by
   have e:¬ p.num = 0:=by simpa [eqD_int] using e'
   exact e (num_zero.mpr z)
  have mg:MGood l p u:=⟨l0,by grind,lp,by grind,u1⟩
  have c':∃ a0 b0 a1 b1 c0 d0 c1 d1:Int,Md (1 - (1 - u) * (1 / 2)) l (l + p) ((1 - u) * (1 / 2)) 0 p a0 b0 a1 b1 c0 d0 c1 d1 /\ made = .lst ((t2 a0 b0 a1 b1 c0 d0 c1 d1).map rowD):=by
   rcases c with c | ⟨c,_⟩
   ·exact c.2
   ·obtain ⟨g1,g2,g3,g4,g5⟩:=mg
    rcases c with z | z | z | z | z
    ·exact absurd g1 z
    ·exact absurd g2 z
    ·exact absurd g3 (Rat.not_le.mpr z)
    ·exact absurd g4 z
    ·exact absurd g5 z
  obtain ⟨x0,y0,x1,y1,x2,y2,x3,y3,m,rfl⟩:=c'
  obtain ⟨hi',gE⟩:=met_gap m mg
  refine Br.f ⟨rfl,2,t2 x0 y0 x1 y1 x2 y2 x3 y3,rfl,by simp [t2],m.two,?_⟩
  rw [gE]
  refine ⟨⟨shp_ratQ _,shp_ratQ _⟩,?_⟩
  show Br (eqD (ratQ (l - u * p)) (ratQ (l - u * p))) _ _
  rw [eqD_self (shp_ratQ _)]
  refine Br.t ⟨rfl,n,t,rfl,l64,w,?_⟩
  rw [gD]
  refine ⟨⟨shp_ratQ _,shp_ratQ _⟩,?_⟩
  show Br (eqD (ratQ (l - u * p)) (ratQ (l - u * p))) _ _
  rw [eqD_self (shp_ratQ _)]
  refine Br.t ⟨rfl,2,t2 x0 y0 x1 y1 x2 y2 x3 y3,rfl,m.two.o,⟨by decide,by decide,by decide,by decide,by decide⟩,?_⟩
  have sd:(t2 x0 y0 x1 y1 x2 y2 x3 y3).map (saidR (0:Int).toNat (1:Int).toNat) = [.int 1,.int 1]:=md_says m (by grind) (by grind)
  rw [sd]
  have sh:shp (.lst [.int 1,.int 1]) = true:=by decide
  refine ⟨sz,⟨sh,sh⟩,?_⟩
  show Q (.bl (eqD (.lst [.int 1,.int 1]) (.lst [.int 1,.int 1])))
  rw [eqD_self sh]
  exact h
 all_goals
  have z:u = 0 ∨ p = 0:=by first | exact .inl (num_zero.mp (by simpa [eqD_int] using e)) | exact .inr (num_zero.mp (by simpa [eqD_int] using e'))
  have hm:=none z
  subst hm
  have cr:=wq_cross o a0 a1 b0 b1 (whole z)
  have ca:=o.sum (h:=a.toNat) (by omega)
  have cb:=o.sum (h:=b.toNat) (by omega)
  first
   | refine Br.t ⟨rfl,n,t,rfl,w.o,Br.t (sums_at a0 a1 (sums_at b0 b1 ⟨ca.2.2.2.2.cmul cb.2.2.2.1,sums_at b0 b1 (sums_at a0 a1 ⟨cb.2.2.2.2.cmul ca.2.2.2.1,?_⟩)⟩))⟩
   | refine ⟨rfl,n,t,rfl,w.o,Br.t (sums_at a0 a1 (sums_at b0 b1 ⟨ca.2.2.2.2.cmul cb.2.2.2.1,sums_at b0 b1 (sums_at a0 a1 ⟨cb.2.2.2.2.cmul ca.2.2.2.1,?_⟩)⟩))⟩
  show Q (.bl (decide _))
  rw [decide_eq_true cr]
  exact h
def Cw (t w:Int):Prop:=0 < t /\ 0 <= w /\ w <= t /\ Bd 25 t /\ Bd 25 w
def gLR31:DSp:=fun ds Q=>∃ t1 w1 t2' w2:Int,ds = [.tup [.int t1,.int w1],.tup [.int t2',.int w2]] /\ Cw t1 w1 /\ Cw t2' w2 /\ Q (.bl true)
theorem m__law_laid_right:MonoS gLR31:=fun ds P P' f ⟨a,b,c,d,e,g,i,h⟩=>⟨a,b,c,d,e,g,i,f _ h⟩
theorem lead_frac {t1 w1 t2 w2:Int} (p1:0 < t1) (p2:0 < t2):(w1:Rat) / (t1:Rat) - (w2:Rat) / (t2:Rat) = ((w1 * t2 - w2 * t1:Int):Rat) / ((t1 * t2:Int):Rat):=by
 have T1:=cast_ne (show t1 ≠ 0 by omega)
 have T2:=cast_ne (show t2 ≠ 0 by omega)
 rw [Rat.intCast_sub,Rat.intCast_mul,Rat.intCast_mul,Rat.intCast_mul]
 grind
theorem fr_le {a b c d:Int} (hb:0 < b) (hd:0 < d) (h:a * d <= c * b):(a:Rat) / (b:Rat) <= (c:Rat) / (d:Rat):=by
 have B:(0:Rat) < b:=by have:=Rat.intCast_lt_intCast.mpr hb; simpa using this
 have Dp:(0:Rat) < d:=by have:=Rat.intCast_lt_intCast.mpr hd; simpa using this
 have h':(a:Rat) * d <= c * b:=by have:=Rat.intCast_le_intCast.mpr h; simpa [Rat.intCast_mul] using this
 refine Rat.not_lt.mp fun z=>?_
 rw [Rat.lt_div_iff B] at z
 have:=Rat.mul_lt_mul_of_pos_right z Dp
 have e:(c:Rat) / d * b * d = c * b:=by grind
 rw [e] at this
 grind
theorem fr_lt {a b c d:Int} (hb:0 < b) (hd:0 < d) (h:a * d < c * b):(a:Rat) / (b:Rat) < (c:Rat) / (d:Rat):=by
 have le:=fr_le hb hd (Int.le_of_lt h)
 have ne:(a:Rat) / (b:Rat) ≠ (c:Rat) / (d:Rat):=fun z=>by
  have:=(cross (by omega) (by omega)).mp z
  omega
 grind
theorem g__law_laid_right (T:Tx K mg):FnOk P w K mg base CX0 13 T.f__law_laid_right T.fd__law_laid_right ["_law_one","_law_other"] (spD K 2 gLR31):=by
 refine fnD (k:=12) T.d__law_laid_right.F sc__law_laid_right (fun cdv A outer s H E hr=>(dss_mid (ds_set (i:=2) sc__law_laid_right.nd rfl (by first | exact Or.inl rfl | exact Or.inr rfl) (de_tup (da_cons (de_op od_sub (de_op od_mul (de_ix (de_var 0 (pv 0)) de_int (fun _ _=>rfl)) (de_ix (de_var 1 (pv 1)) de_int (fun _ _=>rfl))) (de_op od_mul (de_ix (de_var 1 (pv 1)) de_int (fun _ _=>rfl)) (de_ix (de_var 0 (pv 0)) de_int (fun _ _=>rfl)))) (da_cons (de_op od_mul (de_ix (de_var 0 (pv 0)) de_int (fun _ _=>rfl)) (de_ix (de_var 1 (pv 1)) de_int (fun _ _=>rfl))) da_nil))))
   (dss_cons (ds_if (PWD.pt (dw_or (dt_cmp od_le (de_ix (de_var 2 (pv 2)) de_int (fun _ _=>rfl)) de_int (nomark _)) (dw_or (dt_cmp (od_eq hr) (de_ix (de_var 0 (pv 0)) de_int (fun _ _=>rfl)) (de_ix (de_var 0 (pv 0)) de_int (fun _ _=>rfl)) (nomark _)) (dw_or1 (dt_cmp (od_eq hr) (de_ix (de_var 1 (pv 1)) de_int (fun _ _=>rfl)) de_int (nomark _)))))) (dss_one (ds_ret de_bl)) dss_nil)
   (dss_mid (ds_for PassesOwn.never rfl (di_list (de_frz (dl_lst (da_cons (de_call (g__law_low T) m__law_low (hr.mono (by decide)) rfl T.d__law_low.m T.d__law_low.F.kp T.d__law_low.b (da_cons (de_ix (de_var 2 (pv 2)) de_int (fun _ _=>rfl)) (da_cons (de_ix (de_var 2 (pv 2)) de_int (fun _ _=>rfl)) da_nil))) (da_cons (de_call (g__law_low T) m__law_low (hr.mono (by decide)) rfl T.d__law_low.m T.d__law_low.F.kp T.d__law_low.b (da_cons (de_op od_add (de_ix (de_var 2 (pv 2)) de_int (fun _ _=>rfl)) (de_ix (de_var 2 (pv 2)) de_int (fun _ _=>rfl))) (da_cons (de_op od_mul de_int (de_ix (de_var 2 (pv 2)) de_int (fun _ _=>rfl))) da_nil))) da_nil))))) (dg_name (i:=3) sc__law_laid_right.nd rfl (by first | exact Or.inl rfl | exact Or.inr rfl)) (dss_cons (ds_set (i:=4) sc__law_laid_right.nd rfl (by first | exact Or.inl rfl | exact Or.inr rfl) (de_call (g__law_laid T) m__law_laid (hr.mono (by decide)) rfl T.d__law_laid.m T.d__law_laid.F.kp T.d__law_laid.b (da_cons (de_var 0 (pv 0)) (da_cons (de_var 1 (pv 1)) (da_cons (de_var 3 (pv 3)) da_nil)))))
   (dss_cons (ds_if (PWD.pt (dw_or (dt_cmp od_isN (de_var 4 (pv 4)) de_non (nomark _)) (dw_or1 (dt_cmp (od_ne hr) (de_call (g_leads T) m_leads (hr.mono (by decide)) rfl T.d_leads.m T.d_leads.F.kp T.d_leads.b (da_cons (de_var 4 (pv 4)) (da_cons de_int (da_cons de_int da_nil)))) (de_tup (da_cons (de_tup (da_cons de_int (da_cons de_int da_nil))) (da_cons de_int (da_cons (de_tup (da_cons de_int (da_cons de_int da_nil))) (da_cons de_int da_nil))))) (nomark _))))) (dss_one (ds_ret de_bl)) dss_nil)
   (dss_cons (ds_set (i:=5) sc__law_laid_right.nd rfl (by first | exact Or.inl rfl | exact Or.inr rfl) (de_ix (de_call (g_gap T) m_gap (hr.mono (by decide)) rfl T.d_gap.m T.d_gap.F.kp T.d_gap.b (da_cons (de_var 4 (pv 4)) (da_cons de_int (da_cons de_int da_nil)))) de_int (fun _ _=>rfl)))
   (dss_cons (ds_if (PWD.pt (dw_or (dt_cmp (od_ne hr) (de_var 5 (pv 5)) (de_call (g__law_low T) m__law_low (hr.mono (by decide)) rfl T.d__law_low.m T.d__law_low.F.kp T.d__law_low.b (da_cons (de_ix (de_var 2 (pv 2)) de_int (fun _ _=>rfl)) (da_cons (de_ix (de_var 2 (pv 2)) de_int (fun _ _=>rfl)) da_nil))) (nomark _)) (dw_or1 (dt_cmp od_gt (de_op od_mul (de_ix (de_var 5 (pv 5)) de_int (fun _ _=>rfl)) (de_ix (de_var 3 (pv 3)) de_int (fun _ _=>rfl))) (de_op od_mul (de_ix (de_var 3 (pv 3)) de_int (fun _ _=>rfl)) (de_ix (de_var 5 (pv 5)) de_int (fun _ _=>rfl))) (nomark _))))) (dss_one (ds_ret de_bl)) dss_nil)
   (dss_one (ds_if (dt_cmp (od_ne hr) (de_ix (de_call (g_uneven T) m_uneven (hr.mono (by decide)) rfl T.d_uneven.m T.d_uneven.F.kp T.d_uneven.b (da_cons (de_var 4 (pv 4)) (da_cons de_int (da_cons de_int da_nil)))) de_int (fun _ _=>rfl)) (de_var 3 (pv 3)) (nomark _)) (dss_one (ds_ret de_bl)) dss_nil)))))))
   (dss_one (ds_ret (de_cmp od_isN (de_call (g__law_laid T) m__law_laid (hr.mono (by decide)) rfl T.d__law_laid.m T.d__law_laid.F.kp T.d__law_laid.b (da_cons (de_var 0 (pv 0)) (da_cons (de_var 1 (pv 1)) (da_cons (de_call (g__law_low T) m__law_low (hr.mono (by decide)) rfl T.d__law_low.m T.d__law_low.F.kp T.d__law_low.b (da_cons (de_op od_sub (de_op od_mul (de_ix (de_var 2 (pv 2)) de_int (fun _ _=>rfl)) (de_op od_pow de_int de_int)) de_int) (da_cons (de_op od_mul (de_ix (de_var 2 (pv 2)) de_int (fun _ _=>rfl)) (de_op od_pow de_int de_int)) da_nil))) da_nil)))) de_non (nomark _)))))))) (fun ds Q hl h=>?_)
 obtain ⟨t1,w1,t2',w2,rfl,⟨p1,q1,r1,b1,b2⟩,⟨p2,q2,r2,b3,b4⟩,h⟩:=h
 refine ⟨fun ρ=>ρ = [.val (.tup [.int t1,.int w1]),.val (.tup [.int t2',.int w2]),.val (.tup [.int (w1 * t2' - w2 * t1),.int (t1 * t2')]),.nil,.nil,.nil],⟨b2.cmul b3,b4.cmul b1,b1.cmul b3,sz,rfl⟩,?_⟩
 rintro _ rfl
 refine Br.di (fun _=>Br.t h) (fun z=>⟨⟨rfl,rfl⟩,fun _=>Br.t h,fun e=>⟨⟨rfl,rfl⟩,fun _=>h,fun e'=>?_⟩⟩)
 have z:0 < w1 * t2' - w2 * t1:=by omega
 have e:w1 ≠ t1:=by simpa [eqD_int] using e
 have e':w2 ≠ 0:=by simpa [eqD_int] using e'
 have pL:0 < t1 * t2':=Int.mul_pos p1 p2
 have bL:Bd 50 (t1 * t2'):=b1.mul b3
 have lf:=lead_frac (w1:=w1) (w2:=w2) p1 p2
 have s1:(w1:Rat) / (t1:Rat) < 1:=flt p1 (by omega)
 have s2:(0:Rat) < (w2:Rat) / (t2':Rat):=fpos (by omega) p2
 have bx:Bd 51 (w1 * t2' - w2 * t1):=(b2.mul b3).sub (b4.mul b1)
 have lead0:(0:Rat) < (w1:Rat) / (t1:Rat) - (w2:Rat) / (t2':Rat):=by rw [lf]; exact fpos z pL
 generalize hx:w1 * t2' - w2 * t1 = x at *
 generalize hL:t1 * t2' = L at *
 have xL:x < L:=by
  have h1:(x:Rat) / (L:Rat) < 1:=by rw [← lf]; grind
  have LR:(0:Rat) < L:=by have:=Rat.intCast_lt_intCast.mpr pL; simpa using this
  rw [Rat.div_lt_iff LR,Rat.one_mul] at h1
  exact Rat.intCast_lt_intCast.mp h1
 refine ⟨fun ρ=>∃ s3 s4 s5:Sl,ρ = [.val (.tup [.int t1,.int w1]),.val (.tup [.int t2',.int w2]),.val (.tup [.int x,.int L]),s3,s4,s5],?_,?_⟩
 ·refine ⟨rfl,⟨pL,bx.mono (by decide),bL.mono (by decide)⟩,?_⟩
  have b2L:Bd 52 (2 * L):=(bd_lit:Bd 2 (2:Int)).mul bL
  refine ⟨(bd_lit:Bd 2 (2:Int)).cmul bL,rfl,⟨by omega,(bx.add bL).mono (by decide),b2L.mono (by decide)⟩,⟨sz,?_⟩⟩
  have ask:∀ u:Rat,QB 52 u -> (x:Rat) / (L:Rat) <= u -> u < 1 -> Asked t1 w1 t2' w2 u:=fun u bu h1 h2=>⟨p1,p2,by omega,by omega,b1,b2,b3,b4,lead0,by rw [lf]; exact h1,h2,bu⟩
  refine dLoop_ind _ (fun ρ h=>h) (fun d hd ρ X hN hX=>?_) _ ⟨_,_,_,rfl⟩
  obtain ⟨s3,s4,s5,rfl⟩:=hN
  have hu:∃ u:Rat,d = ratQ u /\ QB 52 u /\ (x:Rat) / (L:Rat) <= u /\ u < 1:=by
   simp only [List.mem_cons,List.not_mem_nil,or_false] at hd
   rcases hd with rfl | rfl
   ·exact ⟨_,rfl,(QB.of (by omega) bx (bL.mono (by decide))).mono (by decide),Rat.le_refl,flt pL xL⟩
   ·have x2:x + L < 2 * L:=by omega
    refine ⟨_,rfl,(QB.of (by omega) ((bx.add bL).mono (by decide)) b2L).mono (by decide),fr_le pL (by omega) ?_,flt (by omega) x2⟩
    have h1:=Int.mul_lt_mul_of_pos_right xL pL
    have h2:x * (2 * L) = x * L + x * L:=by rw [Int.mul_comm 2 L,← Int.mul_assoc]; omega
    have h3:(x + L) * L = x * L + L * L:=Int.add_mul ..
    omega
  obtain ⟨u,rfl,bu,lu,u1⟩:=hu
  refine ⟨rfl,t1,w1,t2',w2,u,rfl,.inl ⟨ask u bu lu u1,fun w sp lo hi a0 b0 a1 b1 c0 d0 c1 d1 y m=>?_⟩⟩
  have u0:0 < u:=(ask u bu lu u1).u0
  have um:=m.unv (by grind)
  have tw:=m.two
  refine Br.f ⟨rfl,2,t2 a0 b0 a1 b1 c0 d0 c1 d1,rfl,tw,?_⟩
  rw [lay_leads m]
  have sh:shp (.tup [.tup [.int 0,.int 1],.int 0,.tup [.int 0,.int 1],.int 0]) = true:=by decide
  refine ⟨sz,sz,sz,⟨sh,sh⟩,?_⟩
  show Br (!eqD (.tup [.tup [.int 0,.int 1],.int 0,.tup [.int 0,.int 1],.int 0]) (.tup [.tup [.int 0,.int 1],.int 0,.tup [.int 0,.int 1],.int 0])) _ _
  rw [eqD_self sh]
  refine Br.f ⟨rfl,2,t2 a0 b0 a1 b1 c0 d0 c1 d1,rfl,by simp [t2],tw,?_⟩
  have wg:wQ (t2 a0 b0 a1 b1 c0 d0 c1 d1) 0 - wQ (t2 a0 b0 a1 b1 c0 d0 c1 d1) 1 = (x:Rat) / (L:Rat):=by
   rw [m.wq.1,m.wq.2,y.e1,y.e2,lf]
  have gE:∃ l' h',gapD (t2 a0 b0 a1 b1 c0 d0 c1 d1) 0 1 = .tup [l',ratQ ((x:Rat) / (L:Rat)),h']:=⟨_,_,by unfold gapD; rw [wg]⟩
  obtain ⟨l',h',gE⟩:=gE
  rw [gE]
  refine ⟨rfl,⟨pL,bx.mono (by decide),bL.mono (by decide)⟩,⟨shp_ratQ _,shp_ratQ _⟩,?_⟩
  show Br (!eqD (ratQ ((x:Rat) / (L:Rat))) (ratQ ((x:Rat) / (L:Rat)))) _ _
  rw [eqD_self (shp_ratQ _)]
  have bq:QB 52 ((x:Rat) / (L:Rat)):=(QB.of (by omega) bx (bL.mono (by decide))).mono (by decide)
  generalize (x:Rat) / (L:Rat) = q at *
  refine Br.f ⟨bq.nu.cmul bu.de,bu.nu.cmul bq.de,Br.dn ?_ ⟨rfl,2,t2 a0 b0 a1 b1 c0 d0 c1 d1,rfl,by simp [t2],tw,?_⟩⟩
  ·have:=(Rat.le_iff q u).mp lu
   omega
  have uE:∃ ks,unvD (wts (col (t2 a0 b0 a1 b1 c0 d0 c1 d1) (0:Int).toNat)) (wts (col (t2 a0 b0 a1 b1 c0 d0 c1 d1) (1:Int).toNat)) = .tup [ratQ u,ks]:=⟨_,by
   unfold unvD
   rw [um]
   have:w - (w - u) = u:=by grind
   rw [this]⟩
  obtain ⟨ks,uE⟩:=uE
  rw [uE]
  refine ⟨⟨shp_ratQ _,shp_ratQ _⟩,?_⟩
  show Br (!eqD (ratQ u) (ratQ u)) _ _
  rw [eqD_self (shp_ratQ _)]
  exact Br.f (hX _ ⟨_,_,_,rfl⟩)
 ·rintro _ ⟨s3,s4,s5,rfl⟩
  have c1:CMulB x (10 ^ Int.toNat 6):=(bx.mono (by decide):Bd 60 x).cmul (bd_lit:Bd 20 (1000000:Int))
  have c2:CMulB L (10 ^ Int.toNat 6):=(bL.mono (by decide):Bd 60 L).cmul (bd_lit:Bd 20 (1000000:Int))
  have b6:Bd 20 (1000000:Int):=bd_lit
  have e6:(10:Int) ^ Int.toNat 6 = 1000000:=by decide
  have bt:Bd 72 (x * 10 ^ Int.toNat 6 - 1):=by rw [e6]; exact (bx.mul b6).sub (bd_lit:Bd 1 (1:Int))
  have bb:Bd 70 (L * 10 ^ Int.toNat 6):=by rw [e6]; exact bL.mul b6
  have pB:0 < L * 10 ^ Int.toNat 6:=by rw [e6]; omega
  refine ⟨cpow,c1,cpow,c2,rfl,⟨pB,bt.mono (by decide),bb.mono (by decide)⟩,⟨rfl,t1,w1,t2',w2,_,rfl,.inr ⟨⟨⟨b1.mono (by decide),b2.mono (by decide)⟩,⟨b3.mono (by decide),b4.mono (by decide)⟩,(QB.of (by omega) bt (bb.mono (by decide))).mono (by decide),.inr (.inr (.inr (.inr (.inr (.inl ?_)))))⟩,h⟩⟩⟩
  show _ < (w1:Rat) / (t1:Rat) - (w2:Rat) / (t2':Rat)
  rw [lf]
  refine fr_lt pB pL ?_
  rw [e6]
  have:(x * 1000000 - 1) * L = x * (L * 1000000) - L:=by
   rw [Int.sub_mul,Int.one_mul,Int.mul_assoc,Int.mul_comm 1000000 L]
  omega
theorem g_law (T:Tx K mg):FnOk P w K mg base CX0 14 T.f_law T.fd_law ["_law_script"] (DL.spLaw K):=by
 refine lawD (k:=13) T.d_law.F sc_law rfl (by decide) (fun cdv A outer s H E hr=>ps_set (i:=1) sc_law.nd rfl (Or.inl rfl) (pe_call (g0__law_pen T) (hr.mono (by decide)) rfl T.d__law_pen.m T.d__law_pen.F.kp T.d__law_pen.b .nil pass0 (pa_cons (pv 0) pa_nil))) (fun cdv A outer s H E hr=>(dss_cons (ds_set (i:=2) sc_law.nd rfl (by first | exact Or.inl rfl | exact Or.inr rfl) (de_op od_add de_int (de_call (g__law_next T) m__law_next (hr.mono (by decide)) rfl T.d__law_next.m T.d__law_next.F.kp T.d__law_next.b (da_cons (de_var 1 (pv 1)) (da_cons de_int da_nil)))))
   (dss_cons (ds_set (i:=3) sc_law.nd rfl (by first | exact Or.inl rfl | exact Or.inr rfl) (de_call (g__law_table T) m__law_table (hr.mono (by decide)) rfl T.d__law_table.m T.d__law_table.F.kp T.d__law_table.b (da_cons (de_var 1 (pv 1)) (da_cons (de_var 2 (pv 2)) da_nil))))
   (dss_cons (ds_set (i:=4) sc_law.nd rfl (by first | exact Or.inl rfl | exact Or.inr rfl) (de_call (g_sums_of T) m_sums_of (hr.mono (by decide)) rfl T.d_sums_of.m T.d_sums_of.F.kp T.d_sums_of.b (da_cons (de_var 3 (pv 3)) da_nil)))
   (dss_mid (ds_for PassesOwn.never rfl (di_range1 rfl T.z_range (da_cons (de_var 2 (pv 2)) da_nil)) (dg_name (i:=5) sc_law.nd rfl (by first | exact Or.inl rfl | exact Or.inr rfl)) (dss_one (ds_for PassesOwn.never rfl (di_range1 rfl T.z_range (da_cons (de_var 2 (pv 2)) da_nil)) (dg_name (i:=6) sc_law.nd rfl (by first | exact Or.inl rfl | exact Or.inr rfl)) (dss_cons (ds_if (PWD.pt (dw_and (dt_cmp (od_ne hr) (de_var 5 (pv 5)) (de_var 6 (pv 6)) (nomark _)) (dw_and1 (dt_not (dt_val (de_call (g__law_met T) m__law_met (hr.mono (by decide)) rfl T.d__law_met.m T.d__law_met.F.kp T.d__law_met.b (da_cons (de_var 3 (pv 3)) (da_cons (de_var 5 (pv 5)) (da_cons (de_var 6 (pv 6)) da_nil))))))))) (dss_one (ds_ret de_bl)) dss_nil)
   (dss_one (ds_if (PWD.pt (dw_and (dt_cmp (od_ne hr) (de_var 5 (pv 5)) (de_var 6 (pv 6)) (nomark _)) (dw_and1 (dt_not (dt_val (de_call (g__law_laid_right T) m__law_laid_right (hr.mono (by decide)) rfl T.d__law_laid_right.m T.d__law_laid_right.F.kp T.d__law_laid_right.b (da_cons (de_ix (de_var 4 (pv 4)) (de_var 5 (pv 5)) (fun _ _=>rfl)) (da_cons (de_ix (de_var 4 (pv 4)) (de_var 6 (pv 6)) (fun _ _=>rfl)) da_nil)))))))) (dss_one (ds_ret de_bl)) dss_nil))))))
   (dss_one (ds_ret de_bl))))))) ?_
 refine ⟨rfl,⟨by decide,by decide⟩,fun k k0 k1=>⟨rfl,2 + k,rfl,⟨by omega,by omega⟩,fun t o=>⟨rfl,(2 + k).toNat,t,rfl,o.tbl (by omega) (by omega),?_⟩⟩⟩
 refine ⟨fun ρ=>∃ s s':Sl,ρ = [.nil,.val .pen,.val (.int (2 + k)),.val (.lst (t.map rowD)),.val (rowD (sums t (2 + k).toNat)),s,s'],?_,?_⟩
 ·refine ⟨⟨by omega,by omega⟩,dLoop_up (fun _ ρ=>∃ s s':Sl,ρ = [.nil,.val .pen,.val (.int (2 + k)),.val (.lst (t.map rowD)),.val (rowD (sums t (2 + k).toNat)),s,s']) _ _ (fun ρ h=>h) ?_ _ ⟨_,_,rfl⟩⟩
  rintro a ρ X a0 a1 ⟨s,s',rfl⟩ hX
  refine ⟨⟨by omega,by omega⟩,dLoop_up (fun _ ρ=>∃ s':Sl,ρ = [.nil,.val .pen,.val (.int (2 + k)),.val (.lst (t.map rowD)),.val (rowD (sums t (2 + k).toNat)),.val (.int a),s']) _ _ ?_ ?_ _ ⟨_,rfl⟩⟩
  ·rintro ρ ⟨s',rfl⟩
   exact hX _ ⟨_,_,rfl⟩
  rintro b ρ X' b0 b1 ⟨s',rfl⟩ hX'
  have ha:=o.sum (h:=a.toNat) (by omega)
  have hb:=o.sum (h:=b.toNat) (by omega)
  refine ⟨⟨rfl,rfl⟩,fun c=>?_,fun c=>Br.f ⟨⟨rfl,rfl⟩,fun c'=>?_,fun c'=>Br.f (hX' _ ⟨_,rfl⟩)⟩⟩
  ·have c:a ≠ b:=by simpa [eqD_int] using c
   refine ⟨rfl,(2 + k).toNat,t,a,b,rfl,o,⟨by omega,by omega⟩,⟨a0,by omega⟩,⟨b0,by omega⟩,c,Br.f ?_⟩
   refine ⟨⟨rfl,rfl⟩,fun _=>?_,fun c'=>Br.f (hX' _ ⟨_,rfl⟩)⟩
   exact sums_at a0 (by omega) (sums_at b0 (by omega) ⟨rfl,_,_,_,_,rfl,⟨ha.1,ha.2.1,ha.2.2.1,ha.2.2.2.1,ha.2.2.2.2⟩,⟨hb.1,hb.2.1,hb.2.2.1,hb.2.2.2.1,hb.2.2.2.2⟩,Br.f (hX' _ ⟨_,rfl⟩)⟩)
  ·have c:¬ a ≠ b:=by simpa [eqD_int] using c
   have c':a ≠ b:=by simpa [eqD_int] using c'
   exact absurd c' c
 ·rintro _ ⟨s,s',rfl⟩
  exact rfl
end
set_option maxHeartbeats 0 in
theorem all_mk {l:PySem.W.OpenLaw} {w:World} {K:PySem.W.Frag} {h:Heap} {mg:Str -> Option Value} {fa f0 f1 f2 f3 f4 f5 f6 f7 f8 f9 f10 f11 f12 f13 f14 f15 f16 f17 f18 f19 f20 f21 f22 f23 f24 f25 f26 f27 f28 f29 f30 f31 f32 f33 f34 f35 f36 f37 f38 f39 f40 f41 f42 f43 f44 f45 f46:Addr} (X:K.In h) (G:h.Ns mainGlobals mg) (hfa:mg "law" = some (.ref fa))
  {od0 an0 od1 an1 od2 an2 od3 an3 od4 an4 od5 an5 od6 an6 od7 an7 od8 an8 od9 an9 od10 an10 od11 an11 od12 an12 od13 an13 od14 an14 od15 an15 od16 an16 od17 an17 od18 an18 od19 an19 od20 an20 od21 an21 od22 an22 od23 an23 od24 an24 od25 an25 od26 an26 od27 an27 od28 an28 od29 an29 od30 an30 od31 an31 od32 an32 od33 an33 od34 an34 od35 an35 od36 an36 od37 an37 od38 an38 od39 an39 od40 an40 od41 an41 od42 an42 od43 an43 od44 an44 od45 an45 od46 an46:Option Addr} {sl0 sl1 sl2 sl3 sl4 sl5 sl6 sl7 sl8 sl9 sl10 sl11 sl12 sl13 sl14 sl15 sl16 sl17 sl18 sl19 sl20 sl21 sl22 sl23 sl24 sl25 sl26 sl27 sl28 sl29 sl30 sl31 sl32 sl33 sl34 sl35 sl36 sl37 sl38 sl39 sl40 sl41 sl42 sl43 sl44 sl45 sl46:Array (Option Value)} {oc0 kV0 dc0 pm0 cd0 ct0 oc1 kV1 dc1 pm1 cd1 ct1 oc2 kV2 dc2 pm2 cd2 ct2 oc3 kV3 dc3 pm3 cd3 ct3 oc4 kV4 dc4 pm4 cd4 ct4 oc5 kV5 dc5 pm5 cd5 ct5 oc6 kV6 dc6 pm6 cd6 ct6 oc7 kV7 dc7 pm7 cd7 ct7 oc8 kV8 dc8 pm8 cd8 ct8 oc9 kV9 dc9 pm9 cd9 ct9 oc10 kV10 dc10 pm10 cd10 ct10 oc11 kV11 dc11 pm11 cd11 ct11 oc12 kV12 dc12 pm12 cd12 ct12 oc13 kV13 dc13 pm13 cd13 ct13 oc14 kV14 dc14 pm14 cd14 ct14 oc15 kV15 dc15 pm15 cd15 ct15 oc16 kV16 dc16 pm16 cd16 ct16 oc17 kV17 dc17 pm17 cd17 ct17 oc18 kV18 dc18 pm18 cd18 ct18 oc19 kV19 dc19 pm19 cd19 ct19 oc20 kV20 dc20 pm20 cd20 ct20 oc21 kV21 dc21 pm21 cd21 ct21 oc22 kV22 dc22 pm22 cd22 ct22 oc23 kV23 dc23 pm23 cd23 ct23 oc24 kV24 dc24 pm24 cd24 ct24 oc25 kV25 dc25 pm25 cd25 ct25 oc26 kV26 dc26 pm26 cd26 ct26 oc27 kV27 dc27 pm27 cd27 ct27 oc28 kV28 dc28 pm28 cd28 ct28 oc29 kV29 dc29 pm29 cd29 ct29 oc30 kV30 dc30 pm30 cd30 ct30 oc31 kV31 dc31 pm31 cd31 ct31 oc32 kV32 dc32 pm32 cd32 ct32 oc33 kV33 dc33 pm33 cd33 ct33 oc34 kV34 dc34 pm34 cd34 ct34 oc35 kV35 dc35 pm35 cd35 ct35 oc36 kV36 dc36 pm36 cd36 ct36 oc37 kV37 dc37 pm37 cd37 ct37 oc38 kV38 dc38 pm38 cd38 ct38 oc39 kV39 dc39 pm39 cd39 ct39 oc40 kV40 dc40 pm40 cd40 ct40 oc41 kV41 dc41 pm41 cd41 ct41 oc42 kV42 dc42 pm42 cd42 ct42 oc43 kV43 dc43 pm43 cd43 ct43 oc44 kV44 dc44 pm44 cd44 ct44 oc45 kV45 dc45 pm45 cd45 ct45 oc46 kV46 dc46 pm46 cd46 ct46:Value}
  (a0:PySem.W.nsIn K mainGlobals "greatest_divisor" = some (some (.ref f0))) (l0:K.lookup f0 = some ⟨oc0,od0,.func (PySem.W.fnOf "greatest_divisor" "greatest_divisor" (defArgs s_greatest_divisor) (defBody s_greatest_divisor) (defScope s_greatest_divisor) .none kV0 dc0 pm0 an0 cd0 ct0),sl0⟩) (c0:PySem.W.codeIn K cd0 "greatest_divisor" = true) (k0:PySem.W.keepIn K (.ref f0) = true)
  (a1:PySem.W.nsIn K mainGlobals "ratio_of" = some (some (.ref f1))) (l1:K.lookup f1 = some ⟨oc1,od1,.func (PySem.W.fnOf "ratio_of" "ratio_of" (defArgs s_ratio_of) (defBody s_ratio_of) (defScope s_ratio_of) .none kV1 dc1 pm1 an1 cd1 ct1),sl1⟩) (c1:PySem.W.codeIn K cd1 "ratio_of" = true) (k1:PySem.W.keepIn K (.ref f1) = true)
  (a2:PySem.W.nsIn K mainGlobals "plus" = some (some (.ref f2))) (l2:K.lookup f2 = some ⟨oc2,od2,.func (PySem.W.fnOf "plus" "plus" (defArgs s_plus) (defBody s_plus) (defScope s_plus) .none kV2 dc2 pm2 an2 cd2 ct2),sl2⟩) (c2:PySem.W.codeIn K cd2 "plus" = true) (k2:PySem.W.keepIn K (.ref f2) = true)
  (a3:PySem.W.nsIn K mainGlobals "minus" = some (some (.ref f3))) (l3:K.lookup f3 = some ⟨oc3,od3,.func (PySem.W.fnOf "minus" "minus" (defArgs s_minus) (defBody s_minus) (defScope s_minus) .none kV3 dc3 pm3 an3 cd3 ct3),sl3⟩) (c3:PySem.W.codeIn K cd3 "minus" = true) (k3:PySem.W.keepIn K (.ref f3) = true)
  (a4:PySem.W.nsIn K mainGlobals "times" = some (some (.ref f4))) (l4:K.lookup f4 = some ⟨oc4,od4,.func (PySem.W.fnOf "times" "times" (defArgs s_times) (defBody s_times) (defScope s_times) .none kV4 dc4 pm4 an4 cd4 ct4),sl4⟩) (c4:PySem.W.codeIn K cd4 "times" = true) (k4:PySem.W.keepIn K (.ref f4) = true)
  (a5:PySem.W.nsIn K mainGlobals "over" = some (some (.ref f5))) (l5:K.lookup f5 = some ⟨oc5,od5,.func (PySem.W.fnOf "over" "over" (defArgs s_over) (defBody s_over) (defScope s_over) .none kV5 dc5 pm5 an5 cd5 ct5),sl5⟩) (c5:PySem.W.codeIn K cd5 "over" = true) (k5:PySem.W.keepIn K (.ref f5) = true)
  (a6:PySem.W.nsIn K mainGlobals "less" = some (some (.ref f6))) (l6:K.lookup f6 = some ⟨oc6,od6,.func (PySem.W.fnOf "less" "less" (defArgs s_less) (defBody s_less) (defScope s_less) .none kV6 dc6 pm6 an6 cd6 ct6),sl6⟩) (c6:PySem.W.codeIn K cd6 "less" = true) (k6:PySem.W.keepIn K (.ref f6) = true)
  (a7:PySem.W.nsIn K mainGlobals "total" = some (some (.ref f7))) (l7:K.lookup f7 = some ⟨oc7,od7,.func (PySem.W.fnOf "total" "total" (defArgs s_total) (defBody s_total) (defScope s_total) .none kV7 dc7 pm7 an7 cd7 ct7),sl7⟩) (c7:PySem.W.codeIn K cd7 "total" = true) (k7:PySem.W.keepIn K (.ref f7) = true)
  (a8:PySem.W.nsIn K mainGlobals "lesser" = some (some (.ref f8))) (l8:K.lookup f8 = some ⟨oc8,od8,.func (PySem.W.fnOf "lesser" "lesser" (defArgs s_lesser) (defBody s_lesser) (defScope s_lesser) .none kV8 dc8 pm8 an8 cd8 ct8),sl8⟩) (c8:PySem.W.codeIn K cd8 "lesser" = true) (k8:PySem.W.keepIn K (.ref f8) = true)
  (a9:PySem.W.nsIn K mainGlobals "common_bottom" = some (some (.ref f9))) (l9:K.lookup f9 = some ⟨oc9,od9,.func (PySem.W.fnOf "common_bottom" "common_bottom" (defArgs s_common_bottom) (defBody s_common_bottom) (defScope s_common_bottom) .none kV9 dc9 pm9 an9 cd9 ct9),sl9⟩) (c9:PySem.W.codeIn K cd9 "common_bottom" = true) (k9:PySem.W.keepIn K (.ref f9) = true)
  (a10:PySem.W.nsIn K mainGlobals "top_over" = some (some (.ref f10))) (l10:K.lookup f10 = some ⟨oc10,od10,.func (PySem.W.fnOf "top_over" "top_over" (defArgs s_top_over) (defBody s_top_over) (defScope s_top_over) .none kV10 dc10 pm10 an10 cd10 ct10),sl10⟩) (c10:PySem.W.codeIn K cd10 "top_over" = true) (k10:PySem.W.keepIn K (.ref f10) = true)
  (a11:PySem.W.nsIn K mainGlobals "is_whole" = some (some (.ref f11))) (l11:K.lookup f11 = some ⟨oc11,od11,.func (PySem.W.fnOf "is_whole" "is_whole" (defArgs s_is_whole) (defBody s_is_whole) (defScope s_is_whole) .none kV11 dc11 pm11 an11 cd11 ct11),sl11⟩) (c11:PySem.W.codeIn K cd11 "is_whole" = true) (k11:PySem.W.keepIn K (.ref f11) = true)
  (a12:PySem.W.nsIn K mainGlobals "is_within" = some (some (.ref f12))) (l12:K.lookup f12 = some ⟨oc12,od12,.func (PySem.W.fnOf "is_within" "is_within" (defArgs s_is_within) (defBody s_is_within) (defScope s_is_within) .none kV12 dc12 pm12 an12 cd12 ct12),sl12⟩) (c12:PySem.W.codeIn K cd12 "is_within" = true) (k12:PySem.W.keepIn K (.ref f12) = true)
  (a13:PySem.W.nsIn K mainGlobals "together" = some (some (.ref f13))) (l13:K.lookup f13 = some ⟨oc13,od13,.func (PySem.W.fnOf "together" "together" (defArgs s_together) (defBody s_together) (defScope s_together) .none kV13 dc13 pm13 an13 cd13 ct13),sl13⟩) (c13:PySem.W.codeIn K cd13 "together" = true) (k13:PySem.W.keepIn K (.ref f13) = true)
  (a14:PySem.W.nsIn K mainGlobals "together_by_house" = some (some (.ref f14))) (l14:K.lookup f14 = some ⟨oc14,od14,.func (PySem.W.fnOf "together_by_house" "together_by_house" (defArgs s_together_by_house) (defBody s_together_by_house) (defScope s_together_by_house) .none kV14 dc14 pm14 an14 cd14 ct14),sl14⟩) (c14:PySem.W.codeIn K cd14 "together_by_house" = true) (k14:PySem.W.keepIn K (.ref f14) = true)
  (a15:PySem.W.nsIn K mainGlobals "share_of" = some (some (.ref f15))) (l15:K.lookup f15 = some ⟨oc15,od15,.func (PySem.W.fnOf "share_of" "share_of" (defArgs s_share_of) (defBody s_share_of) (defScope s_share_of) .none kV15 dc15 pm15 an15 cd15 ct15),sl15⟩) (c15:PySem.W.codeIn K cd15 "share_of" = true) (k15:PySem.W.keepIn K (.ref f15) = true)
  (a16:PySem.W.nsIn K mainGlobals "said" = some (some (.ref f16))) (l16:K.lookup f16 = some ⟨oc16,od16,.func (PySem.W.fnOf "said" "said" (defArgs s_said) (defBody s_said) (defScope s_said) .none kV16 dc16 pm16 an16 cd16 ct16),sl16⟩) (c16:PySem.W.codeIn K cd16 "said" = true) (k16:PySem.W.keepIn K (.ref f16) = true)
  (a17:PySem.W.nsIn K mainGlobals "check_house" = some (some (.ref f17))) (l17:K.lookup f17 = some ⟨oc17,od17,.func (PySem.W.fnOf "check_house" "check_house" (defArgs s_check_house) (defBody s_check_house) (defScope s_check_house) .none kV17 dc17 pm17 an17 cd17 ct17),sl17⟩) (c17:PySem.W.codeIn K cd17 "check_house" = true) (k17:PySem.W.keepIn K (.ref f17) = true)
  (a18:PySem.W.nsIn K mainGlobals "check_pair" = some (some (.ref f18))) (l18:K.lookup f18 = some ⟨oc18,od18,.func (PySem.W.fnOf "check_pair" "check_pair" (defArgs s_check_pair) (defBody s_check_pair) (defScope s_check_pair) .none kV18 dc18 pm18 an18 cd18 ct18),sl18⟩) (c18:PySem.W.codeIn K cd18 "check_pair" = true) (k18:PySem.W.keepIn K (.ref f18) = true)
  (a19:PySem.W.nsIn K mainGlobals "houses_of" = some (some (.ref f19))) (l19:K.lookup f19 = some ⟨oc19,od19,.func (PySem.W.fnOf "houses_of" "houses_of" (defArgs s_houses_of) (defBody s_houses_of) (defScope s_houses_of) .none kV19 dc19 pm19 an19 cd19 ct19),sl19⟩) (c19:PySem.W.codeIn K cd19 "houses_of" = true) (k19:PySem.W.keepIn K (.ref f19) = true)
  (a20:PySem.W.nsIn K mainGlobals "sums_of" = some (some (.ref f20))) (l20:K.lookup f20 = some ⟨oc20,od20,.func (PySem.W.fnOf "sums_of" "sums_of" (defArgs s_sums_of) (defBody s_sums_of) (defScope s_sums_of) .none kV20 dc20 pm20 an20 cd20 ct20),sl20⟩) (c20:PySem.W.codeIn K cd20 "sums_of" = true) (k20:PySem.W.keepIn K (.ref f20) = true)
  (a21:PySem.W.nsIn K mainGlobals "says" = some (some (.ref f21))) (l21:K.lookup f21 = some ⟨oc21,od21,.func (PySem.W.fnOf "says" "says" (defArgs s_says) (defBody s_says) (defScope s_says) .none kV21 dc21 pm21 an21 cd21 ct21),sl21⟩) (c21:PySem.W.codeIn K cd21 "says" = true) (k21:PySem.W.keepIn K (.ref f21) = true)
  (a22:PySem.W.nsIn K mainGlobals "weights_of" = some (some (.ref f22))) (l22:K.lookup f22 = some ⟨oc22,od22,.func (PySem.W.fnOf "weights_of" "weights_of" (defArgs s_weights_of) (defBody s_weights_of) (defScope s_weights_of) .none kV22 dc22 pm22 an22 cd22 ct22),sl22⟩) (c22:PySem.W.codeIn K cd22 "weights_of" = true) (k22:PySem.W.keepIn K (.ref f22) = true)
  (a23:PySem.W.nsIn K mainGlobals "ends_of" = some (some (.ref f23))) (l23:K.lookup f23 = some ⟨oc23,od23,.func (PySem.W.fnOf "ends_of" "ends_of" (defArgs s_ends_of) (defBody s_ends_of) (defScope s_ends_of) .none kV23 dc23 pm23 an23 cd23 ct23),sl23⟩) (c23:PySem.W.codeIn K cd23 "ends_of" = true) (k23:PySem.W.keepIn K (.ref f23) = true)
  (a24:PySem.W.nsIn K mainGlobals "whole_count" = some (some (.ref f24))) (l24:K.lookup f24 = some ⟨oc24,od24,.func (PySem.W.fnOf "whole_count" "whole_count" (defArgs s_whole_count) (defBody s_whole_count) (defScope s_whole_count) .none kV24 dc24 pm24 an24 cd24 ct24),sl24⟩) (c24:PySem.W.codeIn K cd24 "whole_count" = true) (k24:PySem.W.keepIn K (.ref f24) = true)
  (a25:PySem.W.nsIn K mainGlobals "whole_gap" = some (some (.ref f25))) (l25:K.lookup f25 = some ⟨oc25,od25,.func (PySem.W.fnOf "whole_gap" "whole_gap" (defArgs s_whole_gap) (defBody s_whole_gap) (defScope s_whole_gap) .none kV25 dc25 pm25 an25 cd25 ct25),sl25⟩) (c25:PySem.W.codeIn K cd25 "whole_gap" = true) (k25:PySem.W.keepIn K (.ref f25) = true)
  (a26:PySem.W.nsIn K mainGlobals "shares_in" = some (some (.ref f26))) (l26:K.lookup f26 = some ⟨oc26,od26,.func (PySem.W.fnOf "shares_in" "shares_in" (defArgs s_shares_in) (defBody s_shares_in) (defScope s_shares_in) .none kV26 dc26 pm26 an26 cd26 ct26),sl26⟩) (c26:PySem.W.codeIn K cd26 "shares_in" = true) (k26:PySem.W.keepIn K (.ref f26) = true)
  (a27:PySem.W.nsIn K mainGlobals "ends_among" = some (some (.ref f27))) (l27:K.lookup f27 = some ⟨oc27,od27,.func (PySem.W.fnOf "ends_among" "ends_among" (defArgs s_ends_among) (defBody s_ends_among) (defScope s_ends_among) .none kV27 dc27 pm27 an27 cd27 ct27),sl27⟩) (c27:PySem.W.codeIn K cd27 "ends_among" = true) (k27:PySem.W.keepIn K (.ref f27) = true)
  (a28:PySem.W.nsIn K mainGlobals "uneven" = some (some (.ref f28))) (l28:K.lookup f28 = some ⟨oc28,od28,.func (PySem.W.fnOf "uneven" "uneven" (defArgs s_uneven) (defBody s_uneven) (defScope s_uneven) .none kV28 dc28 pm28 an28 cd28 ct28),sl28⟩) (c28:PySem.W.codeIn K cd28 "uneven" = true) (k28:PySem.W.keepIn K (.ref f28) = true)
  (a29:PySem.W.nsIn K mainGlobals "apart" = some (some (.ref f29))) (l29:K.lookup f29 = some ⟨oc29,od29,.func (PySem.W.fnOf "apart" "apart" (defArgs s_apart) (defBody s_apart) (defScope s_apart) .none kV29 dc29 pm29 an29 cd29 ct29),sl29⟩) (c29:PySem.W.codeIn K cd29 "apart" = true) (k29:PySem.W.keepIn K (.ref f29) = true)
  (a30:PySem.W.nsIn K mainGlobals "leads" = some (some (.ref f30))) (l30:K.lookup f30 = some ⟨oc30,od30,.func (PySem.W.fnOf "leads" "leads" (defArgs s_leads) (defBody s_leads) (defScope s_leads) .none kV30 dc30 pm30 an30 cd30 ct30),sl30⟩) (c30:PySem.W.codeIn K cd30 "leads" = true) (k30:PySem.W.keepIn K (.ref f30) = true)
  (a31:PySem.W.nsIn K mainGlobals "gap" = some (some (.ref f31))) (l31:K.lookup f31 = some ⟨oc31,od31,.func (PySem.W.fnOf "gap" "gap" (defArgs s_gap) (defBody s_gap) (defScope s_gap) .none kV31 dc31 pm31 an31 cd31 ct31),sl31⟩) (c31:PySem.W.codeIn K cd31 "gap" = true) (k31:PySem.W.keepIn K (.ref f31) = true)
  (a32:PySem.W.nsIn K mainGlobals "check_same_parts" = some (some (.ref f32))) (l32:K.lookup f32 = some ⟨oc32,od32,.func (PySem.W.fnOf "check_same_parts" "check_same_parts" (defArgs s_check_same_parts) (defBody s_check_same_parts) (defScope s_check_same_parts) .none kV32 dc32 pm32 an32 cd32 ct32),sl32⟩) (c32:PySem.W.codeIn K cd32 "check_same_parts" = true) (k32:PySem.W.keepIn K (.ref f32) = true)
  (a33:PySem.W.nsIn K mainGlobals "meeting" = some (some (.ref f33))) (l33:K.lookup f33 = some ⟨oc33,od33,.func (PySem.W.fnOf "meeting" "meeting" (defArgs s_meeting) (defBody s_meeting) (defScope s_meeting) .none kV33 dc33 pm33 an33 cd33 ct33),sl33⟩) (c33:PySem.W.codeIn K cd33 "meeting" = true) (k33:PySem.W.keepIn K (.ref f33) = true)
  (a34:PySem.W.nsIn K mainGlobals "laid" = some (some (.ref f34))) (l34:K.lookup f34 = some ⟨oc34,od34,.func (PySem.W.fnOf "laid" "laid" (defArgs s_laid) (defBody s_laid) (defScope s_laid) .none kV34 dc34 pm34 an34 cd34 ct34),sl34⟩) (c34:PySem.W.codeIn K cd34 "laid" = true) (k34:PySem.W.keepIn K (.ref f34) = true)
  (a35:PySem.W.nsIn K mainGlobals "high_weight" = some (some (.ref f35))) (l35:K.lookup f35 = some ⟨oc35,od35,.func (PySem.W.fnOf "high_weight" "high_weight" (defArgs s_high_weight) (defBody s_high_weight) (defScope s_high_weight) .none kV35 dc35 pm35 an35 cd35 ct35),sl35⟩) (c35:PySem.W.codeIn K cd35 "high_weight" = true) (k35:PySem.W.keepIn K (.ref f35) = true)
  (a36:PySem.W.nsIn K mainGlobals "half" = some (some (.ref f36))) (l36:K.lookup f36 = some ⟨oc36,od36,.func (PySem.W.fnOf "half" "half" (defArgs s_half) (defBody s_half) (defScope s_half) .none kV36 dc36 pm36 an36 cd36 ct36),sl36⟩) (c36:PySem.W.codeIn K cd36 "half" = true) (k36:PySem.W.keepIn K (.ref f36) = true)
  (a37:PySem.W.nsIn K mainGlobals "counts_by" = some (some (.ref f37))) (l37:K.lookup f37 = some ⟨oc37,od37,.func (PySem.W.fnOf "counts_by" "counts_by" (defArgs s_counts_by) (defBody s_counts_by) (defScope s_counts_by) .none kV37 dc37 pm37 an37 cd37 ct37),sl37⟩) (c37:PySem.W.codeIn K cd37 "counts_by" = true) (k37:PySem.W.keepIn K (.ref f37) = true)
  (a38:PySem.W.nsIn K mainGlobals "_law_pen" = some (some (.ref f38))) (l38:K.lookup f38 = some ⟨oc38,od38,.func (PySem.W.fnOf "_law_pen" "_law_pen" (defArgs s__law_pen) (defBody s__law_pen) (defScope s__law_pen) .none kV38 dc38 pm38 an38 cd38 ct38),sl38⟩) (c38:PySem.W.codeIn K cd38 "_law_pen" = true) (k38:PySem.W.keepIn K (.ref f38) = true)
  (a39:PySem.W.nsIn K mainGlobals "_law_next" = some (some (.ref f39))) (l39:K.lookup f39 = some ⟨oc39,od39,.func (PySem.W.fnOf "_law_next" "_law_next" (defArgs s__law_next) (defBody s__law_next) (defScope s__law_next) .none kV39 dc39 pm39 an39 cd39 ct39),sl39⟩) (c39:PySem.W.codeIn K cd39 "_law_next" = true) (k39:PySem.W.keepIn K (.ref f39) = true)
  (a40:PySem.W.nsIn K mainGlobals "_law_low" = some (some (.ref f40))) (l40:K.lookup f40 = some ⟨oc40,od40,.func (PySem.W.fnOf "_law_low" "_law_low" (defArgs s__law_low) (defBody s__law_low) (defScope s__law_low) .none kV40 dc40 pm40 an40 cd40 ct40),sl40⟩) (c40:PySem.W.codeIn K cd40 "_law_low" = true) (k40:PySem.W.keepIn K (.ref f40) = true)
  (a41:PySem.W.nsIn K mainGlobals "_law_table" = some (some (.ref f41))) (l41:K.lookup f41 = some ⟨oc41,od41,.func (PySem.W.fnOf "_law_table" "_law_table" (defArgs s__law_table) (defBody s__law_table) (defScope s__law_table) .none kV41 dc41 pm41 an41 cd41 ct41),sl41⟩) (c41:PySem.W.codeIn K cd41 "_law_table" = true) (k41:PySem.W.keepIn K (.ref f41) = true)
  (a42:PySem.W.nsIn K mainGlobals "_law_told" = some (some (.ref f42))) (l42:K.lookup f42 = some ⟨oc42,od42,.func (PySem.W.fnOf "_law_told" "_law_told" (defArgs s__law_told) (defBody s__law_told) (defScope s__law_told) .none kV42 dc42 pm42 an42 cd42 ct42),sl42⟩) (c42:PySem.W.codeIn K cd42 "_law_told" = true) (k42:PySem.W.keepIn K (.ref f42) = true)
  (a43:PySem.W.nsIn K mainGlobals "_law_laid" = some (some (.ref f43))) (l43:K.lookup f43 = some ⟨oc43,od43,.func (PySem.W.fnOf "_law_laid" "_law_laid" (defArgs s__law_laid) (defBody s__law_laid) (defScope s__law_laid) .none kV43 dc43 pm43 an43 cd43 ct43),sl43⟩) (c43:PySem.W.codeIn K cd43 "_law_laid" = true) (k43:PySem.W.keepIn K (.ref f43) = true)
  (a44:PySem.W.nsIn K mainGlobals "_law_met" = some (some (.ref f44))) (l44:K.lookup f44 = some ⟨oc44,od44,.func (PySem.W.fnOf "_law_met" "_law_met" (defArgs s__law_met) (defBody s__law_met) (defScope s__law_met) .none kV44 dc44 pm44 an44 cd44 ct44),sl44⟩) (c44:PySem.W.codeIn K cd44 "_law_met" = true) (k44:PySem.W.keepIn K (.ref f44) = true)
  (a45:PySem.W.nsIn K mainGlobals "_law_laid_right" = some (some (.ref f45))) (l45:K.lookup f45 = some ⟨oc45,od45,.func (PySem.W.fnOf "_law_laid_right" "_law_laid_right" (defArgs s__law_laid_right) (defBody s__law_laid_right) (defScope s__law_laid_right) .none kV45 dc45 pm45 an45 cd45 ct45),sl45⟩) (c45:PySem.W.codeIn K cd45 "_law_laid_right" = true) (k45:PySem.W.keepIn K (.ref f45) = true)
  (a46:PySem.W.nsIn K mainGlobals "law" = some (some (.ref f46))) (l46:K.lookup f46 = some ⟨oc46,od46,.func (PySem.W.fnOf "law" "law" (defArgs s_law) (defBody s_law) (defScope s_law) .none kV46 dc46 pm46 an46 cd46 ct46),sl46⟩) (c46:PySem.W.codeIn K cd46 "law" = true) (k46:PySem.W.keepIn K (.ref f46) = true)
  (z0:PySem.W.nsIn K mainGlobals "ValueError" = some none) (z1:PySem.W.nsIn K mainGlobals "abs" = some none) (z2:PySem.W.nsIn K mainGlobals "sum" = some none) (z3:PySem.W.nsIn K mainGlobals "tuple" = some none) (z4:PySem.W.nsIn K mainGlobals "len" = some none) (z5:PySem.W.nsIn K mainGlobals "zip" = some none) (z6:PySem.W.nsIn K mainGlobals "enumerate" = some none) (z7:PySem.W.nsIn K mainGlobals "list" = some none) (z8:PySem.W.nsIn K mainGlobals "range" = some none) (z9:PySem.W.nsIn K mainGlobals "isinstance" = some none) (z10:PySem.W.nsIn K mainGlobals "int" = some none) (z11:PySem.W.nsIn K mainGlobals "bool" = some none)
  {c_NoTable:Addr}
  (b_NoTable:PySem.W.nsIn K mainGlobals "NoTable" = some (some (.ref c_NoTable)))
  (e_NoTable:PySem.W.excIn K c_NoTable [.type "ValueError",.type "Exception",.type "BaseException",.type "object"] "ValueError.__new__" = true)
  (x0_NoTable:PySem.W.findIn K (.ref c_NoTable) "__getattribute__" = some (some (.builtin "BaseException.__getattribute__")))
  (x1_NoTable:PySem.W.findIn K (.ref c_NoTable) "__getattr__" = some none)
  (x2_NoTable:PySem.W.subIn K (.ref c_NoTable) (.type "BaseException") = some true)
  (x3_NoTable:PySem.W.findIn K (.ref c_NoTable) "__class__" = some (some (.builtin "object.__class__")))
  (x4_NoTable:PySem.W.specialIn K (.builtin "object.__class__") "__get__" = some (some (.builtin "getset_descriptor.__get__")))
  (x5_NoTable:PySem.W.takesIn K (.builtin "object.__class__") = some true)
  (x6_NoTable:PySem.W.mroIn K c_NoTable (.type "object") = some true)
  (x7_NoTable:(PySem.W.clsIn K c_NoTable).isSome = true)
  (k_exNoTable:PySem.W.exmOne K (.ref c_NoTable) (.ref c_NoTable) = some true)
  :
  ∃ fd:FuncData,(∀ (s:Shared) (v:Value),BindsTo s fd ⟨[v],[]⟩ [("_law_script",v)]) /\ ∀ base:Heap,K.In base -> base.Ns mainGlobals mg -> FnOk l.prog w K mg base CX0 14 fa fd ["_law_script"] (DL.spLaw K):=by
 have e:=hfa.symm.trans (PySem.W.mg_of X G a46)
 cases e
 have F0:=fun_mk (st:=s_greatest_divisor) l0 c0 k0
 have F1:=fun_mk (st:=s_ratio_of) l1 c1 k1
 have F2:=fun_mk (st:=s_plus) l2 c2 k2
 have F3:=fun_mk (st:=s_minus) l3 c3 k3
 have F4:=fun_mk (st:=s_times) l4 c4 k4
 have F5:=fun_mk (st:=s_over) l5 c5 k5
 have F6:=fun_mk (st:=s_less) l6 c6 k6
 have F7:=fun_mk (st:=s_total) l7 c7 k7
 have F8:=fun_mk (st:=s_lesser) l8 c8 k8
 have F9:=fun_mk (st:=s_common_bottom) l9 c9 k9
 have F10:=fun_mk (st:=s_top_over) l10 c10 k10
 have F11:=fun_mk (st:=s_is_whole) l11 c11 k11
 have F12:=fun_mk (st:=s_is_within) l12 c12 k12
 have F13:=fun_mk (st:=s_together) l13 c13 k13
 have F14:=fun_mk (st:=s_together_by_house) l14 c14 k14
 have F15:=fun_mk (st:=s_share_of) l15 c15 k15
 have F16:=fun_mk (st:=s_said) l16 c16 k16
 have F17:=fun_mk (st:=s_check_house) l17 c17 k17
 have F18:=fun_mk (st:=s_check_pair) l18 c18 k18
 have F19:=fun_mk (st:=s_houses_of) l19 c19 k19
 have F20:=fun_mk (st:=s_sums_of) l20 c20 k20
 have F21:=fun_mk (st:=s_says) l21 c21 k21
 have F22:=fun_mk (st:=s_weights_of) l22 c22 k22
 have F23:=fun_mk (st:=s_ends_of) l23 c23 k23
 have F24:=fun_mk (st:=s_whole_count) l24 c24 k24
 have F25:=fun_mk (st:=s_whole_gap) l25 c25 k25
 have F26:=fun_mk (st:=s_shares_in) l26 c26 k26
 have F27:=fun_mk (st:=s_ends_among) l27 c27 k27
 have F28:=fun_mk (st:=s_uneven) l28 c28 k28
 have F29:=fun_mk (st:=s_apart) l29 c29 k29
 have F30:=fun_mk (st:=s_leads) l30 c30 k30
 have F31:=fun_mk (st:=s_gap) l31 c31 k31
 have F32:=fun_mk (st:=s_check_same_parts) l32 c32 k32
 have F33:=fun_mk (st:=s_meeting) l33 c33 k33
 have F34:=fun_mk (st:=s_laid) l34 c34 k34
 have F35:=fun_mk (st:=s_high_weight) l35 c35 k35
 have F36:=fun_mk (st:=s_half) l36 c36 k36
 have F37:=fun_mk (st:=s_counts_by) l37 c37 k37
 have F38:=fun_mk (st:=s__law_pen) l38 c38 k38
 have F39:=fun_mk (st:=s__law_next) l39 c39 k39
 have F40:=fun_mk (st:=s__law_low) l40 c40 k40
 have F41:=fun_mk (st:=s__law_table) l41 c41 k41
 have F42:=fun_mk (st:=s__law_told) l42 c42 k42
 have F43:=fun_mk (st:=s__law_laid) l43 c43 k43
 have F44:=fun_mk (st:=s__law_met) l44 c44 k44
 have F45:=fun_mk (st:=s__law_laid_right) l45 c45 k45
 have F46:=fun_mk (st:=s_law) l46 c46 k46
 let T:Tx K mg:={ f_greatest_divisor:=f0,fd_greatest_divisor:=_,d_greatest_divisor:=⟨F0,PySem.W.mg_of X G a0,F0.binds (ps:=["one","other"]) (fun _ _ _ _ _ _ us hl=>match us,hl with | [_,_],_=>rfl)⟩,f_ratio_of:=f1,fd_ratio_of:=_,d_ratio_of:=⟨F1,PySem.W.mg_of X G a1,F1.binds (ps:=["top","bottom"]) (fun _ _ _ _ _ _ us hl=>match us,hl with | [_,_],_=>rfl)⟩,f_plus:=f2,fd_plus:=_,d_plus:=⟨F2,PySem.W.mg_of X G a2,F2.binds (ps:=["one","other"]) (fun _ _ _ _ _ _ us hl=>match us,hl with | [_,_],_=>rfl)⟩,f_minus:=f3,fd_minus:=_,d_minus:=⟨F3,PySem.W.mg_of X G a3,F3.binds (ps:=["one","other"]) (fun _ _ _ _ _ _ us hl=>match us,hl with | [_,_],_=>rfl)⟩,f_times:=f4,fd_times:=_,d_times:=⟨F4,PySem.W.mg_of X G a4,F4.binds (ps:=["one","other"]) (fun _ _ _ _ _ _ us hl=>match us,hl with | [_,_],_=>rfl)⟩,f_over:=f5,fd_over:=_,d_over:=⟨F5,PySem.W.mg_of X G a5,F5.binds (ps:=["one","other"]) (fun _ _ _ _ _ _ us hl=>match us,hl with | [_,_],_=>rfl)⟩,f_less:=f6,fd_less:=_,d_less:=⟨F6,PySem.W.mg_of X G a6,F6.binds (ps:=["one","other"]) (fun _ _ _ _ _ _ us hl=>match us,hl with | [_,_],_=>rfl)⟩,f_total:=f7,fd_total:=_,d_total:=⟨F7,PySem.W.mg_of X G a7,F7.binds (ps:=["ratios"]) (fun _ _ _ _ _ _ us hl=>match us,hl with | [_],_=>rfl)⟩,f_lesser:=f8,fd_lesser:=_,d_lesser:=⟨F8,PySem.W.mg_of X G a8,F8.binds (ps:=["one","other"]) (fun _ _ _ _ _ _ us hl=>match us,hl with | [_,_],_=>rfl)⟩,f_common_bottom:=f9,fd_common_bottom:=_,d_common_bottom:=⟨F9,PySem.W.mg_of X G a9,F9.binds (ps:=["ratios"]) (fun _ _ _ _ _ _ us hl=>match us,hl with | [_],_=>rfl)⟩,f_top_over:=f10,fd_top_over:=_,d_top_over:=⟨F10,PySem.W.mg_of X G a10,F10.binds (ps:=["ratio","bottom"]) (fun _ _ _ _ _ _ us hl=>match us,hl with | [_,_],_=>rfl)⟩,f_is_whole:=f11,fd_is_whole:=_,d_is_whole:=⟨F11,PySem.W.mg_of X G a11,F11.binds (ps:=["thing"]) (fun _ _ _ _ _ _ us hl=>match us,hl with | [_],_=>rfl)⟩,f_is_within:=f12,fd_is_within:=_,d_is_within:=⟨F12,PySem.W.mg_of X G a12,F12.binds (ps:=["thing","least","most"]) (fun _ _ _ _ _ _ us hl=>match us,hl with | [_,_,_],_=>rfl)⟩,f_together:=f13,fd_together:=_,d_together:=⟨F13,PySem.W.mg_of X G a13,F13.binds (ps:=["counts"]) (fun _ _ _ _ _ _ us hl=>match us,hl with | [_],_=>rfl)⟩,f_together_by_house:=f14,fd_together_by_house:=_,d_together_by_house:=⟨F14,PySem.W.mg_of X G a14,F14.binds (ps:=["many","rows"]) (fun _ _ _ _ _ _ us hl=>match us,hl with | [_,_],_=>rfl)⟩,f_share_of:=f15,fd_share_of:=_,d_share_of:=⟨F15,PySem.W.mg_of X G a15,F15.binds (ps:=["count"]) (fun _ _ _ _ _ _ us hl=>match us,hl with | [_],_=>rfl)⟩,f_said:=f16,fd_said:=_,d_said:=⟨F16,PySem.W.mg_of X G a16,F16.binds (ps:=["one","other"]) (fun _ _ _ _ _ _ us hl=>match us,hl with | [_,_],_=>rfl)⟩,f_check_house:=f17,fd_check_house:=_,d_check_house:=⟨F17,PySem.W.mg_of X G a17,F17.binds (ps:=["many","house"]) (fun _ _ _ _ _ _ us hl=>match us,hl with | [_,_],_=>rfl)⟩,f_check_pair:=f18,fd_check_pair:=_,d_check_pair:=⟨F18,PySem.W.mg_of X G a18,F18.binds (ps:=["many","a","b"]) (fun _ _ _ _ _ _ us hl=>match us,hl with | [_,_,_],_=>rfl)⟩,f_houses_of:=f19,fd_houses_of:=_,d_houses_of:=⟨F19,PySem.W.mg_of X G a19,F19.binds (ps:=["table"]) (fun _ _ _ _ _ _ us hl=>match us,hl with | [_],_=>rfl)⟩,f_sums_of:=f20,fd_sums_of:=_,d_sums_of:=⟨F20,PySem.W.mg_of X G a20,F20.binds (ps:=["table"]) (fun _ _ _ _ _ _ us hl=>match us,hl with | [_],_=>rfl)⟩,f_says:=f21,fd_says:=_,d_says:=⟨F21,PySem.W.mg_of X G a21,F21.binds (ps:=["table","a","b"]) (fun _ _ _ _ _ _ us hl=>match us,hl with | [_,_,_],_=>rfl)⟩,f_weights_of:=f22,fd_weights_of:=_,d_weights_of:=⟨F22,PySem.W.mg_of X G a22,F22.binds (ps:=["table","house"]) (fun _ _ _ _ _ _ us hl=>match us,hl with | [_,_],_=>rfl)⟩,f_ends_of:=f23,fd_ends_of:=_,d_ends_of:=⟨F23,PySem.W.mg_of X G a23,F23.binds (ps:=["table","house"]) (fun _ _ _ _ _ _ us hl=>match us,hl with | [_,_],_=>rfl)⟩,f_whole_count:=f24,fd_whole_count:=_,d_whole_count:=⟨F24,PySem.W.mg_of X G a24,F24.binds (ps:=["table","house"]) (fun _ _ _ _ _ _ us hl=>match us,hl with | [_,_],_=>rfl)⟩,f_whole_gap:=f25,fd_whole_gap:=_,d_whole_gap:=⟨F25,PySem.W.mg_of X G a25,F25.binds (ps:=["table","a","b"]) (fun _ _ _ _ _ _ us hl=>match us,hl with | [_,_,_],_=>rfl)⟩,f_shares_in:=f26,fd_shares_in:=_,d_shares_in:=⟨F26,PySem.W.mg_of X G a26,F26.binds (ps:=["table","house"]) (fun _ _ _ _ _ _ us hl=>match us,hl with | [_,_],_=>rfl)⟩,f_ends_among:=f27,fd_ends_among:=_,d_ends_among:=⟨F27,PySem.W.mg_of X G a27,F27.binds (ps:=["ratios"]) (fun _ _ _ _ _ _ us hl=>match us,hl with | [_],_=>rfl)⟩,f_uneven:=f28,fd_uneven:=_,d_uneven:=⟨F28,PySem.W.mg_of X G a28,F28.binds (ps:=["table","a","b"]) (fun _ _ _ _ _ _ us hl=>match us,hl with | [_,_,_],_=>rfl)⟩,f_apart:=f29,fd_apart:=_,d_apart:=⟨F29,PySem.W.mg_of X G a29,F29.binds (ps:=["table","house"]) (fun _ _ _ _ _ _ us hl=>match us,hl with | [_,_],_=>rfl)⟩,f_leads:=f30,fd_leads:=_,d_leads:=⟨F30,PySem.W.mg_of X G a30,F30.binds (ps:=["table","a","b"]) (fun _ _ _ _ _ _ us hl=>match us,hl with | [_,_,_],_=>rfl)⟩,f_gap:=f31,fd_gap:=_,d_gap:=⟨F31,PySem.W.mg_of X G a31,F31.binds (ps:=["table","a","b"]) (fun _ _ _ _ _ _ us hl=>match us,hl with | [_,_,_],_=>rfl)⟩,f_check_same_parts:=f32,fd_check_same_parts:=_,d_check_same_parts:=⟨F32,PySem.W.mg_of X G a32,F32.binds (ps:=["table","a","b"]) (fun _ _ _ _ _ _ us hl=>match us,hl with | [_,_,_],_=>rfl)⟩,f_meeting:=f33,fd_meeting:=_,d_meeting:=⟨F33,PySem.W.mg_of X G a33,F33.binds (ps:=["lead","apart","uneven"]) (fun _ _ _ _ _ _ us hl=>match us,hl with | [_,_,_],_=>rfl)⟩,f_laid:=f34,fd_laid:=_,d_laid:=⟨F34,PySem.W.mg_of X G a34,F34.binds (ps:=["one","other","uneven"]) (fun _ _ _ _ _ _ us hl=>match us,hl with | [_,_,_],_=>rfl)⟩,f_high_weight:=f35,fd_high_weight:=_,d_high_weight:=⟨F35,PySem.W.mg_of X G a35,F35.binds (ps:=["share","spread","uneven"]) (fun _ _ _ _ _ _ us hl=>match us,hl with | [_,_,_],_=>rfl)⟩,f_half:=f36,fd_half:=_,d_half:=⟨F36,PySem.W.mg_of X G a36,F36.binds (ps:=["ratio"]) (fun _ _ _ _ _ _ us hl=>match us,hl with | [_],_=>rfl)⟩,f_counts_by:=f37,fd_counts_by:=_,d_counts_by:=⟨F37,PySem.W.mg_of X G a37,F37.binds (ps:=["weight","share","other"]) (fun _ _ _ _ _ _ us hl=>match us,hl with | [_,_,_],_=>rfl)⟩,f__law_pen:=f38,fd__law_pen:=_,d__law_pen:=⟨F38,PySem.W.mg_of X G a38,F38.binds (ps:=["_law_script"]) (fun _ _ _ _ _ _ us hl=>match us,hl with | [_],_=>rfl)⟩,f__law_next:=f39,fd__law_next:=_,d__law_next:=⟨F39,PySem.W.mg_of X G a39,F39.binds (ps:=["_law_pen_here","_law_many"]) (fun _ _ _ _ _ _ us hl=>match us,hl with | [_,_],_=>rfl)⟩,f__law_low:=f40,fd__law_low:=_,d__law_low:=⟨F40,PySem.W.mg_of X G a40,F40.binds (ps:=["_law_top","_law_bottom"]) (fun _ _ _ _ _ _ us hl=>match us,hl with | [_,_],_=>rfl)⟩,f__law_table:=f41,fd__law_table:=_,d__law_table:=⟨F41,PySem.W.mg_of X G a41,F41.binds (ps:=["_law_pen_here","_law_many"]) (fun _ _ _ _ _ _ us hl=>match us,hl with | [_,_],_=>rfl)⟩,f__law_told:=f42,fd__law_told:=_,d__law_told:=⟨F42,PySem.W.mg_of X G a42,F42.binds (ps:=["_law_lead","_law_span","_law_odds"]) (fun _ _ _ _ _ _ us hl=>match us,hl with | [_,_,_],_=>rfl)⟩,f__law_laid:=f43,fd__law_laid:=_,d__law_laid:=⟨F43,PySem.W.mg_of X G a43,F43.binds (ps:=["_law_one","_law_other","_law_odds"]) (fun _ _ _ _ _ _ us hl=>match us,hl with | [_,_,_],_=>rfl)⟩,f__law_met:=f44,fd__law_met:=_,d__law_met:=⟨F44,PySem.W.mg_of X G a44,F44.binds (ps:=["_law_table_here","_law_a","_law_b"]) (fun _ _ _ _ _ _ us hl=>match us,hl with | [_,_,_],_=>rfl)⟩,f__law_laid_right:=f45,fd__law_laid_right:=_,d__law_laid_right:=⟨F45,PySem.W.mg_of X G a45,F45.binds (ps:=["_law_one","_law_other"]) (fun _ _ _ _ _ _ us hl=>match us,hl with | [_,_],_=>rfl)⟩,f_law:=fa,fd_law:=_,d_law:=⟨F46,PySem.W.mg_of X G a46,F46.binds (ps:=["_law_script"]) (fun _ _ _ _ _ _ us hl=>match us,hl with | [_],_=>rfl)⟩,z_ValueError:=PySem.W.mg_none_of X G z0,z_abs:=PySem.W.mg_none_of X G z1,z_sum:=PySem.W.mg_none_of X G z2,z_tuple:=PySem.W.mg_none_of X G z3,z_len:=PySem.W.mg_none_of X G z4,z_zip:=PySem.W.mg_none_of X G z5,z_enumerate:=PySem.W.mg_none_of X G z6,z_list:=PySem.W.mg_none_of X G z7,z_range:=PySem.W.mg_none_of X G z8,z_isinstance:=PySem.W.mg_none_of X G z9,z_int:=PySem.W.mg_none_of X G z10,z_bool:=PySem.W.mg_none_of X G z11,c_NoTable:=c_NoTable,cm_NoTable:=PySem.W.mg_of X G b_NoTable,ce_NoTable:=⟨e_NoTable⟩,cx_NoTable:=⟨x0_NoTable,x1_NoTable,x2_NoTable,x3_NoTable,x4_NoTable,x5_NoTable,x6_NoTable,x7_NoTable⟩,k_exNoTable:=k_exNoTable }
 exact ⟨PySem.W.fnOf "law" "law" (defArgs s_law) (defBody s_law) (defScope s_law) .none kV46 dc46 pm46 an46 cd46 ct46,fun s v=>.of_eq rfl,fun base _ _=>g_law T⟩
end My
theorem PySem.W.Fast.tw14093630277556780204:True:=trivial
theorem PySem.W.Fast.tw5493834996160326848:True:=trivial
theorem PySem.W.Fast.tw945358650512753577:True:=trivial
theorem PySem.W.Fast.tw3145667729887146661:True:=trivial
theorem PySem.W.Fast.tw12514246785765911365:True:=trivial
theorem PySem.W.Fast.tw4602639744302235285:True:=trivial
theorem PySem.W.Fast.tw7529785495601124378:True:=trivial
theorem PySem.W.Fast.tw1066814967011520351:True:=trivial
theorem PySem.W.Fast.tw11672728353183990900:True:=trivial
theorem PySem.W.Fast.tw5996565112320335496:True:=trivial
theorem PySem.W.Fast.tw7924969741171136011:True:=trivial
theorem PySem.W.Fast.tw8439345989442754102:True:=trivial
theorem PySem.W.Fast.tw7271392784439244636:True:=trivial
theorem PySem.W.Fast.tw12519415405465136353:True:=trivial
theorem PySem.W.Fast.tw3717073924609477483:True:=trivial
theorem PySem.W.Fast.tw6856282412930243907:True:=trivial
open PySem PySem.W PyProof.Rows
set_option maxRecDepth 100000 in
set_option maxHeartbeats 0 in
theorem PySem.Challenge.cw_othersum_k31_whole_bounds_are_met_holds : PySem.Challenge.rw_othersum_k31_whole_bounds_are_met.Holds := by
  w_on; o_law; k_head; (case hw => w_witness2)
  k_fill
  refine L2.walk_ofK (l := PySem.Challenge.rw_othersum_k31_whole_bounds_are_met) (n := 63) (k := 14) (x := "_law_script") (CX := L2.CX0) (sp := DL.spLaw) rfl (by decide) rfl ⟨rfl, by decide, by decide⟩ (fun w h Y => PySem.W.kIn_of Y) ?F DL.law_sp (fun _ _ _ _ z => z)
  case F =>
    intro w mg fa h KX G hmg
    refine' My.all_mk KX G hmg ?a0 ?l0 ?c0 ?k0 ?a1 ?l1 ?c1 ?k1 ?a2 ?l2 ?c2 ?k2 ?a3 ?l3 ?c3 ?k3 ?a4 ?l4 ?c4 ?k4 ?a5 ?l5 ?c5 ?k5 ?a6 ?l6 ?c6 ?k6 ?a7 ?l7 ?c7 ?k7 ?a8 ?l8 ?c8 ?k8 ?a9 ?l9 ?c9 ?k9 ?a10 ?l10 ?c10 ?k10 ?a11 ?l11 ?c11 ?k11 ?a12 ?l12 ?c12 ?k12 ?a13 ?l13 ?c13 ?k13 ?a14 ?l14 ?c14 ?k14 ?a15 ?l15 ?c15 ?k15 ?a16 ?l16 ?c16 ?k16 ?a17 ?l17 ?c17 ?k17 ?a18 ?l18 ?c18 ?k18 ?a19 ?l19 ?c19 ?k19 ?a20 ?l20 ?c20 ?k20 ?a21 ?l21 ?c21 ?k21 ?a22 ?l22 ?c22 ?k22 ?a23 ?l23 ?c23 ?k23 ?a24 ?l24 ?c24 ?k24 ?a25 ?l25 ?c25 ?k25 ?a26 ?l26 ?c26 ?k26 ?a27 ?l27 ?c27 ?k27 ?a28 ?l28 ?c28 ?k28 ?a29 ?l29 ?c29 ?k29 ?a30 ?l30 ?c30 ?k30 ?a31 ?l31 ?c31 ?k31 ?a32 ?l32 ?c32 ?k32 ?a33 ?l33 ?c33 ?k33 ?a34 ?l34 ?c34 ?k34 ?a35 ?l35 ?c35 ?k35 ?a36 ?l36 ?c36 ?k36 ?a37 ?l37 ?c37 ?k37 ?a38 ?l38 ?c38 ?k38 ?a39 ?l39 ?c39 ?k39 ?a40 ?l40 ?c40 ?k40 ?a41 ?l41 ?c41 ?k41 ?a42 ?l42 ?c42 ?k42 ?a43 ?l43 ?c43 ?k43 ?a44 ?l44 ?c44 ?k44 ?a45 ?l45 ?c45 ?k45 ?a46 ?l46 ?c46 ?k46 ?z0 ?z1 ?z2 ?z3 ?z4 ?z5 ?z6 ?z7 ?z8 ?z9 ?z10 ?z11 ?b_NoTable ?e_NoTable ?x0_NoTable ?x1_NoTable ?x2_NoTable ?x3_NoTable ?x4_NoTable ?x5_NoTable ?x6_NoTable ?x7_NoTable ?k_exNoTable
    (case a0 => k_is)
    (case l0 => k_is)
    (case c0 => k_is)
    (case k0 => k_is)
    (case a1 => k_is)
    (case l1 => k_is)
    (case c1 => k_is)
    (case k1 => k_is)
    (case a2 => k_is)
    (case l2 => k_is)
    (case c2 => k_is)
    (case k2 => k_is)
    (case a3 => k_is)
    (case l3 => k_is)
    (case c3 => k_is)
    (case k3 => k_is)
    (case a4 => k_is)
    (case l4 => k_is)
    (case c4 => k_is)
    (case k4 => k_is)
    (case a5 => k_is)
    (case l5 => k_is)
    (case c5 => k_is)
    (case k5 => k_is)
    (case a6 => k_is)
    (case l6 => k_is)
    (case c6 => k_is)
    (case k6 => k_is)
    (case a7 => k_is)
    (case l7 => k_is)
    (case c7 => k_is)
    (case k7 => k_is)
    (case a8 => k_is)
    (case l8 => k_is)
    (case c8 => k_is)
    (case k8 => k_is)
    (case a9 => k_is)
    (case l9 => k_is)
    (case c9 => k_is)
    (case k9 => k_is)
    (case a10 => k_is)
    (case l10 => k_is)
    (case c10 => k_is)
    (case k10 => k_is)
    (case a11 => k_is)
    (case l11 => k_is)
    (case c11 => k_is)
    (case k11 => k_is)
    (case a12 => k_is)
    (case l12 => k_is)
    (case c12 => k_is)
    (case k12 => k_is)
    (case a13 => k_is)
    (case l13 => k_is)
    (case c13 => k_is)
    (case k13 => k_is)
    (case a14 => k_is)
    (case l14 => k_is)
    (case c14 => k_is)
    (case k14 => k_is)
    (case a15 => k_is)
    (case l15 => k_is)
    (case c15 => k_is)
    (case k15 => k_is)
    (case a16 => k_is)
    (case l16 => k_is)
    (case c16 => k_is)
    (case k16 => k_is)
    (case a17 => k_is)
    (case l17 => k_is)
    (case c17 => k_is)
    (case k17 => k_is)
    (case a18 => k_is)
    (case l18 => k_is)
    (case c18 => k_is)
    (case k18 => k_is)
    (case a19 => k_is)
    (case l19 => k_is)
    (case c19 => k_is)
    (case k19 => k_is)
    (case a20 => k_is)
    (case l20 => k_is)
    (case c20 => k_is)
    (case k20 => k_is)
    (case a21 => k_is)
    (case l21 => k_is)
    (case c21 => k_is)
    (case k21 => k_is)
    (case a22 => k_is)
    (case l22 => k_is)
    (case c22 => k_is)
    (case k22 => k_is)
    (case a23 => k_is)
    (case l23 => k_is)
    (case c23 => k_is)
    (case k23 => k_is)
    (case a24 => k_is)
    (case l24 => k_is)
    (case c24 => k_is)
    (case k24 => k_is)
    (case a25 => k_is)
    (case l25 => k_is)
    (case c25 => k_is)
    (case k25 => k_is)
    (case a26 => k_is)
    (case l26 => k_is)
    (case c26 => k_is)
    (case k26 => k_is)
    (case a27 => k_is)
    (case l27 => k_is)
    (case c27 => k_is)
    (case k27 => k_is)
    (case a28 => k_is)
    (case l28 => k_is)
    (case c28 => k_is)
    (case k28 => k_is)
    (case a29 => k_is)
    (case l29 => k_is)
    (case c29 => k_is)
    (case k29 => k_is)
    (case a30 => k_is)
    (case l30 => k_is)
    (case c30 => k_is)
    (case k30 => k_is)
    (case a31 => k_is)
    (case l31 => k_is)
    (case c31 => k_is)
    (case k31 => k_is)
    (case a32 => k_is)
    (case l32 => k_is)
    (case c32 => k_is)
    (case k32 => k_is)
    (case a33 => k_is)
    (case l33 => k_is)
    (case c33 => k_is)
    (case k33 => k_is)
    (case a34 => k_is)
    (case l34 => k_is)
    (case c34 => k_is)
    (case k34 => k_is)
    (case a35 => k_is)
    (case l35 => k_is)
    (case c35 => k_is)
    (case k35 => k_is)
    (case a36 => k_is)
    (case l36 => k_is)
    (case c36 => k_is)
    (case k36 => k_is)
    (case a37 => k_is)
    (case l37 => k_is)
    (case c37 => k_is)
    (case k37 => k_is)
    (case a38 => k_is)
    (case l38 => k_is)
    (case c38 => k_is)
    (case k38 => k_is)
    (case a39 => k_is)
    (case l39 => k_is)
    (case c39 => k_is)
    (case k39 => k_is)
    (case a40 => k_is)
    (case l40 => k_is)
    (case c40 => k_is)
    (case k40 => k_is)
    (case a41 => k_is)
    (case l41 => k_is)
    (case c41 => k_is)
    (case k41 => k_is)
    (case a42 => k_is)
    (case l42 => k_is)
    (case c42 => k_is)
    (case k42 => k_is)
    (case a43 => k_is)
    (case l43 => k_is)
    (case c43 => k_is)
    (case k43 => k_is)
    (case a44 => k_is)
    (case l44 => k_is)
    (case c44 => k_is)
    (case k44 => k_is)
    (case a45 => k_is)
    (case l45 => k_is)
    (case c45 => k_is)
    (case k45 => k_is)
    (case a46 => k_is)
    (case l46 => k_is)
    (case c46 => k_is)
    (case k46 => k_is)
    (case z0 => k_is)
    (case z1 => k_is)
    (case z2 => k_is)
    (case z3 => k_is)
    (case z4 => k_is)
    (case z5 => k_is)
    (case z6 => k_is)
    (case z7 => k_is)
    (case z8 => k_is)
    (case z9 => k_is)
    (case z10 => k_is)
    (case z11 => k_is)
    (case b_NoTable => k_is)
    (case e_NoTable => k_exc)
    (case x0_NoTable => k_is)
    (case x1_NoTable => k_is)
    (case x2_NoTable => k_is)
    (case x3_NoTable => k_is)
    (case x4_NoTable => k_is)
    (case x5_NoTable => k_is)
    (case x6_NoTable => k_is)
    (case x7_NoTable => kernel_rfl)
    (case k_exNoTable => first | kit_is | kernel_rfl)
#print axioms PySem.Challenge.cw_othersum_k31_whole_bounds_are_met_holds
