import PyProof.Rows.All
import Wide.All
import OpenK.AllK
import Wide.FinOn
import Lean
import PyProof.EqAt
import PyProof.EqKinds
import PyProof.TupleCall
import PySem.Challenge.RW_othersum_k22_firsts_along_a_way
noncomputable section
set_option Elab.async false
set_option linter.all false
set_option maxRecDepth 100000
namespace L2
open PySem PySem.Spec PyProof.Rows

abbrev Key := Sum Int Str
def keyIs : Key → Value → Bool
  | .inl k, v => Value.isInt k v
  | .inr x, v => Value.isStrOf x v
def keyH (w : World) : Key → Int
  | .inl k => hashInt k
  | .inr x => hashStr w x
theorem keyIs_shape : ∀ {k : Key} {v : Value}, keyIs k v = true → (∃ i t, k = Sum.inl i ∧ v = Value.int i t) ∨ (∃ x t, k = Sum.inr x ∧ v = Value.str x t)
  | .inl i, v, h => by
    obtain ⟨t, e⟩ := Value.isInt_shape (k := i) (v := v) h
    exact .inl ⟨i, t, rfl, e⟩
  | .inr x, v, h => by
    obtain ⟨t, e⟩ := Value.isStrOf_shape (x := x) (v := v) h
    exact .inr ⟨x, t, rfl, e⟩
theorem key_ll (a b : Int) : decide ((Sum.inl a : Key) = Sum.inl b) = (a == b) := by
  by_cases e : a = b
  · subst e; simp
  · have h : ¬ (Sum.inl a : Key) = Sum.inl b := fun q => e (Sum.inl.inj q)
    rw [decide_eq_false h]
    exact (beq_eq_false_iff_ne.mpr e).symm
theorem key_rr (a b : Str) : decide ((Sum.inr a : Key) = Sum.inr b) = decide (a = b) := by
  by_cases e : a = b
  · subst e; simp
  · have h : ¬ (Sum.inr a : Key) = Sum.inr b := fun q => e (Sum.inr.inj q)
    rw [decide_eq_false h, decide_eq_false e]
theorem key_lr (a : Int) (b : Str) : decide ((Sum.inl a : Key) = Sum.inr b) = false := decide_eq_false (fun q => nomatch q)
theorem key_rl (a : Str) (b : Int) : decide ((Sum.inr a : Key) = Sum.inl b) = false := decide_eq_false (fun q => nomatch q)

def mixKind (prog : Program) (w : World) : PySem.KeyKind prog w Key where
  is := keyIs
  hash := keyH w
  inj := fun v a b ha hb => by
    rcases keyIs_shape ha with ⟨i, t, rfl, rfl⟩ | ⟨x, t, rfl, rfl⟩
    · rcases keyIs_shape hb with ⟨j, u, rfl, e⟩ | ⟨y, u, rfl, e⟩
      · injection e with e1 _; rw [e1]
      · exact nomatch e
    · rcases keyIs_shape hb with ⟨j, u, rfl, e⟩ | ⟨y, u, rfl, e⟩
      · exact nomatch e
      · injection e with e1 _; rw [e1]
  byValue := fun k v h => by
    rcases keyIs_shape h with ⟨i, t, rfl, rfl⟩ | ⟨x, t, rfl, rfl⟩ <;> rfl
  pyHash := fun hv h => by
    rcases keyIs_shape hv with ⟨i, t, rfl, rfl⟩ | ⟨x, t, rfl, rfl⟩
    · exact wpAny_pyHash_int h
    · exact wpAny_pyHash_str h
  eqBool := fun hu hv h => by
    rcases keyIs_shape hu with ⟨i, t, rfl, rfl⟩ | ⟨x, t, rfl, rfl⟩
    · rcases keyIs_shape hv with ⟨j, u, rfl, rfl⟩ | ⟨y, u, rfl, rfl⟩
      · rw [key_ll] at h; exact wpAny_eqBool_int h
      · rw [key_lr] at h; exact SeqAt.EqAt.int_str i t y u _ _ _ _ h
    · rcases keyIs_shape hv with ⟨j, u, rfl, rfl⟩ | ⟨y, u, rfl, rfl⟩
      · rw [key_rl] at h; exact SeqAt.EqAt.str_int x t j u _ _ _ _ h
      · rw [key_rr] at h; exact wpAny_eqBool_str h
  «strs» := fun k x t v h => by
    rcases keyIs_shape h with ⟨i, u, rfl, e⟩ | ⟨y, u, rfl, e⟩
    · exact nomatch e
    · injection e with e1 _
      subst e1
      cases v <;> rfl

end L2

namespace L2
open PySem PySem.Spec PyProof.Rows

inductive V where
  | non | bl (b : Bool) | int (i : Int) | str (x : Str) | byt (b : Array UInt8) | flt (b : UInt64) | ref (a : Addr) | ty (n : String)
  deriving DecidableEq

def RelV : V → Value → Prop
  | .non, u => u = Value.none
  | .bl b, u => u = Value.bool b
  | .int i, u => ∃ t, u = Value.int i t
  | .str x, u => ∃ t, u = Value.str x t
  | .byt b, u => ∃ t, u = Value.bytes b t
  | .flt b, u => ∃ t, u = Value.float b t
  | .ref a, u => u = Value.ref a
  | .ty n, u => u = Value.type n

abbrev Vals : List V → List Value → Prop := Paired RelV
theorem Vals.length {xs : List V} {us : List Value} (r : Vals xs us) : xs.length = us.length := Paired.length r
theorem Vals.get : ∀ {xs : List V} {us : List Value} {i : Nat} {x : V}, Vals xs us → xs[i]? = some x → ∃ u, us[i]? = some u ∧ RelV x u
  | _, _, _, _, .nil, e => by simp at e
  | _, _, 0, _, .cons r _, e => by simp at e; subst e; exact ⟨_, rfl, r⟩
  | _, _, i + 1, x, .cons _ t, e => by
    obtain ⟨u, h1, h2⟩ := Vals.get (i := i) (x := x) t (by simpa using e)
    exact ⟨u, by simpa using h1, h2⟩
theorem Vals.set {x : V} {u : Value} (r : RelV x u) : ∀ {xs : List V} {us : List Value} (i : Nat), Vals xs us → Vals (xs.set i x) (us.set i u)
  | _, _, _, .nil => .nil
  | _, _, 0, .cons _ t => .cons r t
  | _, _, i + 1, .cons q t => .cons q (Vals.set r i t)
theorem Vals.append : ∀ {xs ys : List V} {us ws : List Value}, Vals xs us → Vals ys ws → Vals (xs ++ ys) (us ++ ws)
  | _, _, _, _, .nil, s => s
  | _, _, _, _, .cons r t, s => .cons r (Vals.append t s)
theorem Vals.take : ∀ {xs : List V} {us : List Value} (n : Nat), Vals xs us → Vals (xs.take n) (us.take n)
  | _, _, 0, _ => .nil
  | _, _, _ + 1, .nil => .nil
  | _, _, n + 1, .cons r t => .cons r (Vals.take n t)
theorem Vals.drop : ∀ {xs : List V} {us : List Value} (n : Nat), Vals xs us → Vals (xs.drop n) (us.drop n)
  | _, _, 0, r => r
  | _, _, _ + 1, .nil => .nil
  | _, _, n + 1, .cons _ t => Vals.drop n t
def RelO : Option V → Option Value → Prop
  | some v, some u => RelV v u
  | none, none => True
  | _, _ => False
def KV {κ : Type} : List (κ × V) → List (κ × Value) → Prop := Paired fun (p : κ × V) (q : κ × Value) => p.1 = q.1 ∧ RelV p.2 q.2

def kV : Key → V
  | .inl i => .int i
  | .inr x => .str x

inductive HO where
    | lst (xs : List V)
    | tup (xs : List V)
    | dK (kvs : List (Key × V)) | dT (kvs : List (List Key × V))
    | set (S : Int → Bool) (n : Nat)
    | ins (C dx : Addr) (fs : List (Str × V))
    | own (x : Addr)
    | xd (fs : List (Str × V))
    | met (f x : Addr)
    | rng (lo hi : Int)
    | frz (o : Obj) (u : HO)
    | tbl (ps : Array Value)
    | ext (φ : Heap → Prop)

abbrev Hp := Addr → Option HO
def upd (H : Hp) (a : Addr) (o : HO) : Hp := fun b => if b = a then some o else H b
theorem upd_same {H : Hp} {a : Addr} {o : HO} : upd H a o a = some o := by unfold upd; rw [if_pos rfl]
theorem upd_ne {H : Hp} {a b : Addr} {o : HO} (h : b ≠ a) : upd H a o b = H b := by unfold upd; rw [if_neg h]
theorem ne_of {H : Hp} {a b : Addr} {o u : HO} (h : H a = some o) (h' : H b = some u) (d : o ≠ u) : a ≠ b := by
  intro e; subst e; rw [h] at h'; exact d (Option.some.inj h')
theorem ne_of_none {H : Hp} {a b : Addr} {o : HO} (h : H a = some o) (h' : H b = none) : a ≠ b := by
  intro e; subst e; rw [h] at h'; cases h'

section
variable (P : Program) (w : World)
def ObjOk (H : Hp) (h : Heap) (a : Addr) : HO → Prop
  | .lst xs => xs.length ≤ sizeLine ∧ ∃ (its : List Value) (n : Nat), Vals xs its ∧ h.get? a = some { cls := .type "list", data := .seq its.toArray n }
  | .tup xs => xs.length ≤ sizeLine ∧ ∃ its : List Value, Vals xs its ∧ IsTup h a its.toArray
  | .dK kvs => kvs.length ≤ sizeLine ∧ (a == sysModules) = false ∧ ∃ vs, KV kvs vs ∧ h.DictOf (mixKind P w) a vs
  | .dT kvs => kvs.length ≤ sizeLine ∧ (a == sysModules) = false ∧ ∃ xs : List (List Key × Addr × Value),
      Paired (fun (p : List Key × V) (q : List Key × Addr × Value) => p.1 = q.1 ∧ H q.2.1 = some (.tup (p.1.map kV)) ∧ RelV p.2 q.2.2) kvs xs ∧
      ∃ o es ep, h.get? a = some o ∧ o.ExactDict ∧ o.data = .dict es ep ∧ es.toList = xs.map (entryOfKey (tupleKind (mixKind P w))) ∧ (xs.map (·.1)).Nodup
  | .set S n => h.SetOf (intKind P w) a S n
  | .ins C dx fs => H dx = some (.own a) ∧ fs.length ≤ 1000 ∧ dx ≠ a ∧ h.get? a = some (PySem.W.instObj C dx) ∧
      ∃ mA, h.Ns1 dx mA ∧ (∀ f, RelO (fs.lookup f) (mA f)) ∧ PySem.Within mA (fs.map (·.1))
  | .own _ => ∃ o, h.get? a = some o
  | .xd fs => ∃ mA, h.Ns1 a mA ∧ ∀ f, RelO (fs.lookup f) (mA f)
  | .rng lo hi => ∃ t u v, h.get? a = some { cls := .type "range", data := .fields #[.int lo t, .int hi u, .int 1 v] }
  | .frz o u => h.get? a = some o ∧ ObjOk H h a u
  | .tbl ps => h.get? a = some { cls := .none, data := .fields ps }
  | .met f x => h.get? a = some (PySem.W.methodObj (.ref f) (.ref x))
  | .ext φ => φ h ∧ (∃ o, h.get? a = some o) ∧ ∀ h1 h2 : Heap, φ h1 → (∀ o, h1.get? a = some o → h2.get? a = some o) → φ h2
def HOk (H : Hp) (h : Heap) : Prop := ∀ a o, H a = some o → ObjOk P w H h a o
end

section
variable {P : Program} {w : World} {H H' : Hp} {h h' : Heap} {a : Addr} {o : HO}
theorem ObjOk.lt (x : ObjOk P w H h a o) : a < h.objs.size := by
  cases o with
  | lst xs => obtain ⟨_, _, _, _, e⟩ := x; exact Heap.lt_size e
  | tup xs => obtain ⟨_, _, _, p⟩ := x; exact p.lt
  | dK kvs => obtain ⟨_, _, _, _, o, _, _, e, _⟩ := x; exact Heap.lt_size e
  | dT kvs => obtain ⟨_, _, _, _, o, _, _, e, _⟩ := x; exact Heap.lt_size e
  | set S n => obtain ⟨o, _, _, _, e, _⟩ := x; exact Heap.lt_size e
  | ins C dx fs => obtain ⟨_, _, _, e, _⟩ := x; exact Heap.lt_size e
  | own y => obtain ⟨_, e⟩ := x; exact Heap.lt_size e
  | xd fs => obtain ⟨_, ⟨_, _, _, e, _⟩, _⟩ := x; exact Heap.lt_size e
  | rng lo hi => obtain ⟨_, _, _, e⟩ := x; exact Heap.lt_size e
  | frz ob u => obtain ⟨e, _⟩ := x; exact Heap.lt_size e
  | tbl ps => exact Heap.lt_size (show h.get? a = some _ from x)
  | met f y => exact Heap.lt_size (show h.get? a = some _ from x)
  | ext φ => obtain ⟨_, ⟨_, e⟩, _⟩ := x; exact Heap.lt_size e
theorem Paired.mapP {α β : Type} {F G : α → β → Prop} : ∀ {l₁ : List α} {l₂ : List β}, Paired F l₁ l₂ → (∀ a b, F a b → G a b) → Paired G l₁ l₂
  | _, _, .nil, _ => .nil
  | _, _, .cons r t, f => .cons (f _ _ r) (Paired.mapP t f)
theorem ObjOk.stay (x : ObjOk P w H h a o) (k : ∀ b u, (b = a ∨ H b = some (.own a)) → h.get? b = some u → h'.get? b = some u)
    (ho : ∀ b, H b = some (.own a) → H' b = some (.own a)) (ht : ∀ b xs, H b = some (.tup xs) → H' b = some (.tup xs)) : ObjOk P w H' h' a o := by
  induction o with
  | lst xs => obtain ⟨z, its, n, r, e⟩ := x; exact ⟨z, its, n, r, k _ _ (.inl rfl) e⟩
  | tup xs => obtain ⟨z, its, r, ob, e, c⟩ := x; exact ⟨z, its, r, ob, k _ _ (.inl rfl) e, c⟩
  | dK kvs => obtain ⟨z, y, vs, r, ob, es, ep, e, c⟩ := x; exact ⟨z, y, vs, r, ob, es, ep, k _ _ (.inl rfl) e, c⟩
  | dT kvs =>
    obtain ⟨z, y, xs, r, ob, es, ep, e, c⟩ := x
    exact ⟨z, y, xs, Paired.mapP r fun p q z => ⟨z.1, ht _ _ z.2.1, z.2.2⟩, ob, es, ep, k _ _ (.inl rfl) e, c⟩
  | set S n => obtain ⟨ob, es, ep, t, e, c⟩ := x; exact ⟨ob, es, ep, t, k _ _ (.inl rfl) e, c⟩
  | ins C dx fs =>
    obtain ⟨d, z, ne, e, mA, ⟨od, es, ep, e2, c⟩, r⟩ := x
    exact ⟨ho _ d, z, ne, k _ _ (.inl rfl) e, mA, ⟨od, es, ep, k _ _ (.inr d) e2, c⟩, r⟩
  | own y => obtain ⟨ob, e⟩ := x; exact ⟨ob, k _ _ (.inl rfl) e⟩
  | xd fs => obtain ⟨mA, ⟨od, es, ep, e, c⟩, r⟩ := x; exact ⟨mA, ⟨od, es, ep, k _ _ (.inl rfl) e, c⟩, r⟩
  | rng lo hi => obtain ⟨t, u, v, e⟩ := x; exact ⟨t, u, v, k _ _ (.inl rfl) e⟩
  | frz ob u ih => obtain ⟨e, q⟩ := x; exact ⟨k _ _ (.inl rfl) e, ih q⟩
  | tbl ps =>
    have e : h.get? a = some { cls := .none, data := .fields ps } := x
    show h'.get? a = some { cls := .none, data := .fields ps }
    exact k a _ (.inl rfl) e
  | met f y =>
    have e : h.get? a = some (PySem.W.methodObj (.ref f) (.ref y)) := x
    show h'.get? a = some (PySem.W.methodObj (.ref f) (.ref y))
    exact k a _ (.inl rfl) e
  | ext φ => obtain ⟨p, ⟨o, e⟩, st⟩ := x; exact ⟨st _ _ p fun o q => k _ _ (.inl rfl) q, ⟨o, k _ _ (.inl rfl) e⟩, st⟩
theorem HOk.lt (x : HOk P w H h) (e : H a = some o) : a < h.objs.size := (x a o e).lt
theorem HOk.fresh (x : HOk P w H h) (e : h.objs.size ≤ a) : H a = none := by
  cases q : H a with
  | none => rfl
  | some u => exact absurd (Nat.lt_of_lt_of_le (x.lt q) e) (Nat.lt_irrefl _)
theorem HOk.kept (x : HOk P w H h) (k : ∀ b u, h.get? b = some u → h'.get? b = some u) : HOk P w H h' := fun a o e =>
  (x a o e).stay (fun b u _ q => k b u q) (fun _ q => q) fun _ _ q => q
theorem HOk.laid (x : HOk P w H h) (k : ∀ b u, h.get? b = some u → h'.get? b = some u) (hp : h.objs.size ≤ a) (new : ObjOk P w (upd H a o) h' a o) : HOk P w (upd H a o) h' := fun b u e => by
  have hn := x.fresh hp
  by_cases hb : b = a
  · subst hb; rw [upd_same] at e; cases e; exact new
  · rw [upd_ne hb] at e
    exact (x b u e).stay (fun c v _ q => k c v q) (fun c q => by rw [upd_ne (ne_of_none q hn)]; exact q) fun c xs q => by rw [upd_ne (ne_of_none q hn)]; exact q
end

def Rd (H : Hp) (a : Addr) (u : HO) : Prop := H a = some u ∨ ∃ o, H a = some (.frz o u)
theorem Rd.of {H : Hp} {a : Addr} {u : HO} (h : H a = some u) : Rd H a u := .inl h
theorem Rd.ok {P : Program} {w : World} {H : Hp} {h : Heap} {a : Addr} {u : HO} (r : Rd H a u) (x : HOk P w H h) : ObjOk P w H h a u := by
  rcases r with r | ⟨o, r⟩
  · exact x a u r
  · obtain ⟨_, q⟩ := x a _ r
    exact q
def Mut : Option HO → Prop
  | some (.lst _) => True
  | some (.dK _) => True
  | some (.dT _) => True
  | some (.set _ _) => True
  | some (.ins _ _ _) => True
  | some (.ext _) => True
  | _ => False
section
variable {P : Program} {w : World} {H : Hp} {h h' : Heap} {x e : Addr} {o' : HO}
theorem HOk.write (ok : HOk P w H h) (mu : Mut (H x)) (he : e = x ∨ H e = some (.own x)) (k : ∀ b u, b ≠ e → h.get? b = some u → h'.get? b = some u) (heo : ∃ u, h'.get? e = some u)
    (new : ObjOk P w (upd H x o') h' x o') : HOk P w (upd H x o') h' := fun b u q => by
  have nown : ∀ c y, H c = some (.own y) → c ≠ x := fun c y r z => by subst z; rw [r] at mu; exact mu
  have ntup : ∀ c xs, H c = some (.tup xs) → c ≠ x := fun c xs r z => by subst z; rw [r] at mu; exact mu
  by_cases hb : b = x
  · subst hb; rw [upd_same] at q; cases q; exact new
  · rw [upd_ne hb] at q
    by_cases hbe : b = e
    · have q' : H b = some (.own x) := by
        rcases he with z | z
        · exact absurd (hbe.trans z) hb
        · rw [hbe]; exact z
      rw [q] at q'; cases q'
      obtain ⟨v, hv⟩ := heo
      exact ⟨v, by rw [hbe]; exact hv⟩
    · refine (ok b u q).stay (fun c v hc r => k c v ?_ r) (fun c r => by rw [upd_ne (nown c b r)]; exact r) fun c xs r => by rw [upd_ne (ntup c xs r)]; exact r
      rcases hc with rfl | hc
      · exact hbe
      · rintro rfl
        rcases he with z | z
        · exact nown c b hc z
        · rw [hc] at z; cases z; exact hb rfl
end

structure Un (fs ex : List Addr) (H H' : Hp) (h h' : Heap) : Prop where
  keep : ∀ b o, h.get? b = some o → H b = none → b ∉ fs → b ∉ ex → h'.get? b = some o
  slot : ∀ b o, h.get? b = some o → H b = none → b ∈ fs → b ∉ ex → ∃ sl, h'.get? b = some { o with slots := sl }
  free : ∀ b o, h.get? b = some o → H b = none → b ∉ ex → H' b = none
  there : ∀ b o, h.get? b = some o → b ∉ ex → ∃ o', h'.get? b = some o'
  tups : ∀ b xs, H b = some (.tup xs) → H' b = some (.tup xs)
  frzs : ∀ b o u, H b = some (.frz o u) → H' b = some (.frz o u)
  tbls : ∀ b ps, H b = some (.tbl ps) → ∃ more, H' b = some (.tbl (ps ++ more))
section
variable {fs fs' ex ex' : List Addr} {H H1 H2 : Hp} {h h1 h2 h' : Heap} {a x e : Addr} {o : HO}
theorem Un.any (u : Un fs ex H H1 h h1) {b : Addr} {ob : Obj} (q : h.get? b = some ob) (n : H b = none) (hx : b ∉ ex) : ∃ sl, h1.get? b = some { ob with slots := sl } := by
  by_cases hb : b ∈ fs
  · exact u.slot b ob q n hb hx
  · exact ⟨ob.slots, u.keep b ob q n hb hx⟩
theorem Un.trans (a : Un fs ex H H1 h h1) (b : Un fs ex H1 H2 h1 h2) : Un fs ex H H2 h h2 where
  keep := fun c ob q n hc hx => b.keep c ob (a.keep c ob q n hc hx) (a.free c ob q n hx) hc hx
  slot := fun c ob q n hc hx => by
    obtain ⟨sl, e1⟩ := a.slot c ob q n hc hx
    obtain ⟨sl', e2⟩ := b.slot c _ e1 (a.free c ob q n hx) hc hx
    exact ⟨sl', e2⟩
  free := fun c ob q n hx => by
    obtain ⟨o', e1⟩ := a.there c ob q hx
    exact b.free c o' e1 (a.free c ob q n hx) hx
  there := fun c ob q hx => by
    obtain ⟨o', e1⟩ := a.there c ob q hx
    exact b.there c o' e1 hx
  tups := fun c xs q => b.tups c xs (a.tups c xs q)
  frzs := fun c ob xs q => b.frzs c ob xs (a.frzs c ob xs q)
  tbls := fun c ps q => by
    obtain ⟨m1, e1⟩ := a.tbls c ps q
    obtain ⟨m2, e2⟩ := b.tbls c _ e1
    exact ⟨m1 ++ m2, by rw [e2, Array.append_assoc]⟩
theorem Un.kept (k : ∀ b u, h.get? b = some u → h'.get? b = some u) : Un fs ex H H h h' :=
  ⟨fun b ob q _ _ _ => k b ob q, fun b ob q _ _ _ => ⟨ob.slots, k b ob q⟩, fun _ _ _ n _ => n, fun b ob q _ => ⟨ob, k b ob q⟩, fun _ _ q => q, fun _ _ _ q => q, fun _ ps q => ⟨#[], by rw [q]; simp⟩⟩
theorem Un.refl : Un fs ex H H h h := Un.kept fun _ _ q => q
theorem Un.laid (k : ∀ b u, h.get? b = some u → h'.get? b = some u) (hp : h.objs.size ≤ a) (hn : H a = none) : Un fs ex H (upd H a o) h h' where
  keep := fun b u q _ _ _ => k b u q
  slot := fun b u q _ _ _ => ⟨u.slots, k b u q⟩
  free := fun b u q n _ => by rw [upd_ne (Nat.ne_of_lt (Nat.lt_of_lt_of_le (Heap.lt_size q) hp))]; exact n
  there := fun b u q _ => ⟨u, k b u q⟩
  tups := fun b xs q => by rw [upd_ne (ne_of_none q hn)]; exact q
  frzs := fun b u xs q => by rw [upd_ne (ne_of_none q hn)]; exact q
  tbls := fun b ps q => ⟨#[], by rw [upd_ne (ne_of_none q hn), q]; simp⟩
theorem Un.write (mu : Mut (H x)) (he : e = x ∨ H e = some (.own x)) (k : ∀ b u, b ≠ e → h.get? b = some u → h'.get? b = some u) (heo : ∃ u, h'.get? e = some u) : Un fs ex H (upd H x o) h h' := by
  have hx : ∀ b, H b = none → b ≠ x := fun b n z => by subst z; rw [n] at mu; exact mu
  have hb : ∀ b, H b = none → b ≠ e := fun b n z => by
    subst z
    rcases he with r | r
    · exact hx b n r
    · rw [n] at r; cases r
  have hm : ∀ b u, H b = some u → ¬ Mut (some u) → b ≠ x := fun b u q nm z => by subst z; rw [q] at mu; exact nm mu
  refine ⟨fun b u q n _ _ => k b u (hb b n) q, fun b u q n _ _ => ⟨u.slots, k b u (hb b n) q⟩, fun b u q n _ => by rw [upd_ne (hx b n)]; exact n, fun b u q _ => ?_,
    fun b xs q => by rw [upd_ne (hm b _ q fun z => z)]; exact q, fun b u xs q => by rw [upd_ne (hm b _ q fun z => z)]; exact q, fun b ps q => ⟨#[], by rw [upd_ne (hm b _ q fun z => z), q]; simp⟩⟩
  by_cases hbe : b = e
  · subst hbe; exact heo
  · exact ⟨u, k b u hbe q⟩
theorem Un.mono (u : Un fs ex H H1 h h1) (hs : ∀ b ∈ fs, b ∈ fs') (hx : ∀ b ∈ ex, b ∈ ex') : Un fs' ex' H H1 h h1 :=
  ⟨fun b ob q n hb he => u.keep b ob q n (fun z => hb (hs b z)) fun z => he (hx b z), fun _ _ q n _ he => u.any q n fun z => he (hx _ z), fun b ob q n he => u.free b ob q n fun z => he (hx b z), fun b ob q he => u.there b ob q fun z => he (hx b z), u.tups, u.frzs, u.tbls⟩
end

def trk (h : Heap) (H : Hp) : List Addr := (List.range h.objs.size).filter fun a => (H a).isSome
def hidT (h : Heap) (H : Hp) : Heap := PySem.W.hideAll h (trk h H)
theorem hidT_size (h : Heap) (H : Hp) : (hidT h H).objs.size = h.objs.size := PySem.W.hideAll_size _ _
theorem hidT_get {h : Heap} {H : Hp} {b : Addr} {o : Obj} (e : h.get? b = some o) (n : H b = none) : (hidT h H).get? b = some o :=
  PySem.W.hideAll_get _ e fun hm => by
    have q : (H b).isSome = true := (List.mem_filter.mp hm).2
    rw [n] at q; simp at q
theorem of_hidT {h : Heap} {H : Hp} {b : Addr} {o : Obj} (e : (hidT h H).get? b = some o) : h.get? b = some o ∧ H b = none := by
  have e' : h.get? b = some o := PySem.W.of_hideAll (trk h H) e
  refine ⟨e', ?_⟩
  cases q : H b with
  | none => rfl
  | some x =>
    have hm : b ∈ trk h H := List.mem_filter.mpr ⟨List.mem_range.mpr (Heap.lt_size e'), by simp [q]⟩
    have z : (hidT h H).get? b = none := PySem.W.hideAll_none (trk h H) hm
    rw [z] at e; cases e

def allNews (g h : Heap) (L : Addr) : List (Addr × Obj) := (List.range h.objs.size).filterMap fun a => if a = L ∨ (g.get? a).isSome = true then none else (h.get? a).map fun o => (a, o)
def rest (g h : Heap) (L d : Addr) : List (Addr × Obj) := (allNews g h L).filter fun p => decide (p.1 ≠ d)
end L2

namespace L2
open PySem PySem.Spec PyProof.Rows

structure Mod (K : PySem.W.Frag) (mg : Str → Option Value) (base : Heap) : Prop where
  kin : K.In base
  glob : base.Ns mainGlobals mg
  blt : ∃ mb, base.Ns builtinsNs mb ∧ ∀ x : Str, x ≠ "__name__" → mb x = bootBuiltins x
  nolimit : base.NoLimit

structure Cx where
  prog : Program
  w : World
  K : PySem.W.Frag
  mg : Str → Option Value
  base : Heap
  A : Around
  N : List Str
  s₀ : Shared
  H₀ : Hp
  env : Env
  outer : List Env
  stack : List Env
  ex : List Addr
  fn : Str → Bool
  calm : Bool
  pn : List (Addr × Obj)
  xe : Value → Shared → Prop
def frs (l : List Env) : List Addr := l.filterMap (·.frame)
abbrev Cx.fs (X : Cx) : List Addr := frs X.outer

def Vis (sc : Scope) (x : Str) : Prop := sc.names.lookup x = some .local ∨ sc.names.lookup x = some .cell ∨ sc.names.lookup x = some .free
def Loc (sc : Scope) (x : Str) : Prop := sc.names.lookup x = some .local ∨ sc.names.lookup x = some .cell
def Look (env : Env) (h : Heap) (m : Str → Option Value) (x : Str) (u : Value) : Prop :=
  (env.kindOf x = some .local ∧ m x = some u) ∨ ((env.kindOf x = some .cell ∨ env.kindOf x = some .free) ∧ ∃ c, env.cells.lookup x = some c ∧ h.IsCell c (some u))

structure Cx.Ok (X : Cx) : Prop where
  mod : Mod X.K X.mg X.base
  kind : X.env.scope.kind = .function
  glob : X.env.globals = mainGlobals
  blt : X.env.builtins = builtinsNs
  above : X.s₀.heap.objs.size ≤ X.env.locals
  inj : ∀ x y c, X.env.cells.lookup x = some c → X.env.cells.lookup y = some c → x = y
  has : ∀ x, (X.env.kindOf x = some .cell ∨ X.env.kindOf x = some .free) → ∃ c, X.env.cells.lookup x = some c
  cab : ∀ x c, X.fn x = true → X.env.cells.lookup x = some c → X.s₀.heap.objs.size ≤ c
  hd : X.calm = true → X.A.handled = none
  frames : X.A.frames = some X.stack
  stk : X.stack = X.outer ∨ (X.stack = X.env :: X.outer ∧ X.env.frame = some X.env.locals)
  exf : ∀ b ∈ X.ex, b ≠ X.env.locals ∧ ∀ x c, X.env.cells.lookup x = some c → c ≠ b
  bs : ∀ b o, X.base.get? b = some o → X.s₀.heap.get? b = some o ∧ X.H₀ b = none
  bsz : X.base.objs.size ≤ X.s₀.heap.objs.size
  noex : ∀ b o, X.base.get? b = some o → b ∉ X.ex
  exfs : ∀ b ∈ X.ex, b ∉ X.fs
  funs : X.s₀.heap.FunFrames X.base X.outer
  frf : ∀ b ∈ X.fs, X.H₀ b = none

structure Inv (X : Cx) (pins : List (Addr × Obj)) (σ : List (Option V)) (H : Hp) (s : Shared) : Prop where
  ok : X.Ok
  os : s.os = X.s₀.os
  bare : AllBare s.gens
  base : Un X.fs X.ex X.H₀ H X.s₀.heap s.heap
  loc : ∃ m, s.heap.Ns X.env.locals m ∧ ∀ (i : Nat) (x : Str) (v : V), X.N[i]? = some x → σ[i]? = some (some v) → Vis X.env.scope x → ∃ u, RelV v u ∧ Look X.env s.heap m x u
  cell : ∀ x c, X.env.cells.lookup x = some c → ∃ v, s.heap.IsCell c v
  free : H X.env.locals = none
  freeC : ∀ x c, X.env.cells.lookup x = some c → H c = none
  pin : ∀ p ∈ X.pn ++ pins, s.heap.get? p.1 = some p.2 ∧ H p.1 = none ∧ p.1 ≠ X.env.locals ∧ p.1 ∉ X.fs ∧ ∀ v, p.2.data ≠ .cell v
  hok : HOk X.prog X.w H s.heap
  len : σ.length = X.N.length

section
variable {X : Cx} {pins : List (Addr × Obj)} {σ : List (Option V)} {H H' : Hp} {s : Shared} {h' : Heap}

theorem Cx.Ok.nofr (ok : X.Ok) {b : Addr} {o : Obj} (e : X.base.get? b = some o) : b ∉ X.fs := fun hb => by
  have := (ok.funs.mem hb).1
  rw [e] at this; cases this
theorem Inv.bs (I : Inv X pins σ H s) : ∀ b o, X.base.get? b = some o → s.heap.get? b = some o ∧ H b = none := fun b o e =>
  ⟨I.base.keep b o (I.ok.bs b o e).1 (I.ok.bs b o e).2 (I.ok.nofr e) (I.ok.noex b o e), I.base.free b o (I.ok.bs b o e).1 (I.ok.bs b o e).2 (I.ok.noex b o e)⟩
theorem Inv.bk (I : Inv X pins σ H s) : ∀ b o, X.base.get? b = some o → s.heap.get? b = some o := fun b o e => (I.bs b o e).1
theorem Inv.mod (I : Inv X pins σ H s) : Mod X.K X.mg X.base := I.ok.mod
theorem Inv.kIn (I : Inv X pins σ H s) : X.K.In s.heap := I.ok.mod.kin.keeps I.bk
theorem Inv.nolimit (I : Inv X pins σ H s) : s.heap.NoLimit := I.ok.mod.nolimit.keeps I.bk
theorem Inv.fr (I : Inv X pins σ H s) : ∃ m, Fr X.base X.env.locals s.heap m :=
  let ⟨m, hn, _⟩ := I.loc
  ⟨m, hn, I.bk, Nat.le_trans I.ok.bsz I.ok.above⟩
theorem Inv.lt (I : Inv X pins σ H s) : X.env.locals < s.heap.objs.size := let ⟨_, hn, _⟩ := I.loc; hn.lt
theorem Inv.sz (I : Inv X pins σ H s) : X.s₀.heap.objs.size ≤ s.heap.objs.size := Nat.le_trans I.ok.above (Nat.le_of_lt I.lt)
theorem Inv.nofs (I : Inv X pins σ H s) {a : Addr} (h : s.heap.objs.size ≤ a) : a ∉ X.fs := fun hb => by
  obtain ⟨_, o, ho, _⟩ := I.ok.funs.mem hb
  exact absurd (Nat.lt_of_lt_of_le (Heap.lt_size ho) (Nat.le_trans I.sz h)) (Nat.lt_irrefl _)
theorem Inv.cne (I : Inv X pins σ H s) : ∀ x c, X.env.cells.lookup x = some c → c ≠ X.env.locals := fun x c e z => by
  obtain ⟨v, o, ho, hd⟩ := I.cell x c e
  obtain ⟨m, ⟨o', es, ep, ho', hd', _⟩, _⟩ := I.loc
  rw [z, ho'] at ho; cases ho; rw [hd'] at hd; cases hd
theorem Inv.funs (I : Inv X pins σ H s) : s.heap.FunFrames X.base X.outer := by
  have all : ∀ (l : List Env), (∀ b ∈ frs l, b ∈ X.fs) → X.s₀.heap.FunFrames X.base l → s.heap.FunFrames X.base l := by
    intro l
    induction l with
    | nil => intro _ _; trivial
    | cons env r ih =>
      intro hs hl
      obtain ⟨hk, ⟨L, o, hf, hn, ho, hd⟩, hr⟩ := hl
      have hL : L ∈ X.fs := hs L (by unfold frs; rw [List.filterMap_cons, hf]; exact List.mem_cons_self)
      obtain ⟨sl, e⟩ := I.base.slot L o ho (I.ok.frf L hL) hL fun z => I.ok.exfs L z hL
      exact ⟨hk, ⟨L, _, hf, hn, e, hd⟩, ih (fun b hb => hs b (by unfold frs; rw [List.filterMap_cons, hf]; exact List.mem_cons_of_mem _ hb)) hr⟩
  exact all X.outer (fun _ hb => hb) I.ok.funs

theorem Inv.stack (I : Inv X pins σ H s) : s.heap.FunFrames X.base X.stack := by
  rcases I.ok.stk with e | ⟨e, hf⟩
  · rw [e]; exact I.funs
  · rw [e]
    obtain ⟨m, hn, _⟩ := I.loc
    refine .cons (by rw [I.ok.kind]; decide) hf hn ?_ I.funs
    exact Heap.get?_none_of_le (Nat.le_trans I.ok.bsz I.ok.above)
theorem Inv.stkSub (I : Inv X pins σ H s) : ∀ b ∈ frs X.stack, b ∈ X.env.locals :: X.fs := fun b hb => by
  rcases I.ok.stk with e | ⟨e, hf⟩
  · rw [e] at hb; exact List.mem_cons_of_mem _ hb
  · rw [e] at hb
    unfold frs at hb
    rw [List.filterMap_cons, hf] at hb
    exact hb
theorem Inv.stkFree (I : Inv X pins σ H s) : ∀ b ∈ frs X.stack, H b = none := fun b hb => by
  rcases List.mem_cons.mp (I.stkSub b hb) with e | hb
  · rw [e]; exact I.free
  · obtain ⟨_, o, ho, _⟩ := I.ok.funs.mem hb
    exact I.base.free b o ho (I.ok.frf b hb) fun z => I.ok.exfs b z hb

theorem Inv.step {g' : Array GenState} {t' : Nat} {d' : Drawn} {ch : List Addr} (I : Inv X pins σ H s)
    (hch : ∀ b ∈ ch, (b ∈ X.ex ∨ X.s₀.heap.objs.size ≤ b) ∧ b ≠ X.env.locals ∧ (∀ x c, X.env.cells.lookup x = some c → c ≠ b) ∧ ∀ p ∈ X.pn ++ pins, p.1 ≠ b)
    (keep : ∀ b o, b ≠ X.env.locals → b ∉ X.fs → b ∉ ch → s.heap.get? b = some o → H b = none → h'.get? b = some o)
    (slot : ∀ b o, b ≠ X.env.locals → b ∈ X.fs → b ∉ ch → s.heap.get? b = some o → H b = none → ∃ sl, h'.get? b = some { o with slots := sl }) (free : ∀ b o, b ∉ ch → s.heap.get? b = some o → H b = none → H' b = none)
    (there : ∀ b o, b ∉ ch → s.heap.get? b = some o → ∃ o', h'.get? b = some o')
    (tups : ∀ b xs, H b = some (.tup xs) → H' b = some (.tup xs)) (frzs : ∀ b o u, H b = some (.frz o u) → H' b = some (.frz o u)) (tbls : ∀ b ps, H b = some (.tbl ps) → ∃ more, H' b = some (.tbl (ps ++ more)))
    (ns : ∀ m, s.heap.Ns X.env.locals m → h'.Ns X.env.locals m) (hok : HOk X.prog X.w H' h') (hg : AllBare g') :
    Inv X pins σ H' { s with heap := h', gens := g', drawn := d', toks := t' } := by
  have neL : ∀ b o, X.s₀.heap.get? b = some o → b ≠ X.env.locals := fun b o e => Nat.ne_of_lt (Nat.lt_of_lt_of_le (Heap.lt_size e) I.ok.above)
  have neC : ∀ b o, X.s₀.heap.get? b = some o → b ∉ X.ex → b ∉ ch := fun b o e hx hb => by
    rcases (hch b hb).1 with z | z
    · exact hx z
    · exact absurd (Nat.lt_of_lt_of_le (Heap.lt_size e) z) (Nat.lt_irrefl _)
  have cellK : ∀ x c, X.env.cells.lookup x = some c → ∀ v, s.heap.IsCell c v → h'.IsCell c v := fun x c e v ⟨o, ho, hd⟩ => by
    have nch : c ∉ ch := fun z => (hch c z).2.2.1 x c e rfl
    by_cases hc : c ∈ X.fs
    · obtain ⟨sl, q⟩ := slot c o (I.cne x c e) hc nch ho (I.freeC x c e)
      exact ⟨_, q, hd⟩
    · exact ⟨o, keep c o (I.cne x c e) hc nch ho (I.freeC x c e), hd⟩
  refine ⟨I.ok, I.os, hg, ⟨fun b o e n hb hx => ?_, fun b o e n hb hx => ?_, fun b o e n hx => ?_, fun b o e hx => ?_, fun b xs e => tups b xs (I.base.tups b xs e), fun b o xs e => frzs b o xs (I.base.frzs b o xs e), fun b ps e => ?_⟩, ?_, fun x c e => ?_, ?_, fun x c e => ?_, fun p hp => ?_, hok, I.len⟩
  · exact keep b o (neL b o e) hb (neC b o e hx) (I.base.keep b o e n hb hx) (I.base.free b o e n hx)
  · obtain ⟨sl, e1⟩ := I.base.slot b o e n hb hx
    obtain ⟨sl', e2⟩ := slot b _ (neL b o e) hb (neC b o e hx) e1 (I.base.free b o e n hx)
    exact ⟨sl', e2⟩
  · obtain ⟨o', e1⟩ := I.base.there b o e hx
    exact free b o' (neC b o e hx) e1 (I.base.free b o e n hx)
  · obtain ⟨o', e1⟩ := I.base.there b o e hx
    exact there b o' (neC b o e hx) e1
  · obtain ⟨m1, e1⟩ := I.base.tbls b ps e
    obtain ⟨m2, e2⟩ := tbls b _ e1
    exact ⟨m1 ++ m2, by rw [e2, Array.append_assoc]⟩
  · obtain ⟨m, hn, hl⟩ := I.loc
    refine ⟨m, ns m hn, fun i x v e1 e2 e3 => ?_⟩
    obtain ⟨u, r, l⟩ := hl i x v e1 e2 e3
    refine ⟨u, r, ?_⟩
    rcases l with l | ⟨k, c, e, z⟩
    · exact .inl l
    · exact .inr ⟨k, c, e, cellK x c e _ z⟩
  · obtain ⟨v, z⟩ := I.cell x c e
    exact ⟨v, cellK x c e v z⟩
  · obtain ⟨m, ⟨o, _, _, ho, _⟩, _⟩ := I.loc
    exact free _ o (fun z => (hch _ z).2.1 rfl) ho I.free
  · obtain ⟨v, o, ho, hd⟩ := I.cell x c e
    exact free c o (fun z => (hch c z).2.2.1 x c e rfl) ho (I.freeC x c e)
  · obtain ⟨e, n, ne, nf, d⟩ := I.pin p hp
    have nch : p.1 ∉ ch := fun z => (hch p.1 z).2.2.2 p hp rfl
    exact ⟨keep p.1 p.2 ne nf nch e n, free p.1 p.2 nch e n, ne, nf, d⟩
theorem Inv.un {t' : Nat} (I : Inv X pins σ H s) (u : Un X.fs [] H H' s.heap h') (hok : HOk X.prog X.w H' h') : Inv X pins σ H' { s with heap := h', toks := t' } := by
  obtain ⟨m, ⟨o, es, ep, ho, r⟩, _⟩ := id I.loc
  obtain ⟨sl, hL⟩ := u.any ho I.free (by simp)
  exact I.step (g' := s.gens) (d' := s.drawn) (ch := []) (fun _ z => nomatch z) (fun b o _ hb _ e n => u.keep b o e n hb (by simp)) (fun b o _ hb _ e n => u.slot b o e n hb (by simp)) (fun b o _ e n => u.free b o e n (by simp)) (fun b o _ e => u.there b o e (by simp)) u.tups u.frzs u.tbls (fun m' hm => by
    obtain ⟨o', es', ep', ho', r'⟩ := hm
    rw [ho] at ho'; cases ho'
    exact ⟨_, es', ep', hL, r'⟩) hok I.bare
theorem Inv.call {g' : Array GenState} {t' : Nat} {d' : Drawn} {ch : List Addr} (I : Inv X pins σ H s) (u : Un (frs X.stack) ch H H' s.heap h') (hok : HOk X.prog X.w H' h') (hg : AllBare g')
    (hch : ∀ b ∈ ch, (b ∈ X.ex ∨ X.s₀.heap.objs.size ≤ b) ∧ b ≠ X.env.locals ∧ (∀ x c, X.env.cells.lookup x = some c → c ≠ b) ∧ ∀ p ∈ X.pn ++ pins, p.1 ≠ b) :
    Inv X pins σ H' { s with heap := h', gens := g', drawn := d', toks := t' } := by
  obtain ⟨m, ⟨o, es, ep, ho, r⟩, _⟩ := id I.loc
  obtain ⟨sl, hL⟩ := u.any ho I.free fun z => (hch _ z).2.1 rfl
  exact I.step (ch := ch) hch (fun b o hL hb hc e n => u.keep b o e n (fun z => (List.mem_cons.mp (I.stkSub b z)).elim hL hb) hc) (fun b o _ _ hc e n => u.any e n hc) (fun b o hc e n => u.free b o e n hc) (fun b o hc e => u.there b o e hc) u.tups u.frzs u.tbls (fun m' hm => by
    obtain ⟨o', es', ep', ho', r'⟩ := hm
    rw [ho] at ho'; cases ho'
    exact ⟨_, es', ep', hL, r'⟩) hok hg
theorem Inv.turned {t' : Nat} {it : Addr} (I : Inv X pins σ H s) (k : ∀ b o, b ≠ it → s.heap.get? b = some o → h'.get? b = some o) (hn : H it = none) (hL : it ≠ X.env.locals)
    (h1 : it ∈ X.ex ∨ X.s₀.heap.objs.size ≤ it) (h2 : ∀ x c, X.env.cells.lookup x = some c → c ≠ it) (h3 : ∀ p ∈ X.pn ++ pins, p.1 ≠ it) : Inv X pins σ H { s with heap := h', toks := t' } := by
  have nit : ∀ b u, H b = some u → b ≠ it := fun b u e z => by rw [z, hn] at e; cases e
  refine I.step (g' := s.gens) (d' := s.drawn) (ch := [it]) (fun b hb => ?_) (fun b o _ _ hc e _ => k b o (fun z => hc (by simp [z])) e) (fun b o _ _ hc e _ => ⟨o.slots, k b o (fun z => hc (by simp [z])) e⟩) (fun _ _ _ _ n => n)
    (fun b o hc e => ⟨o, k b o (fun z => hc (by simp [z])) e⟩) (fun _ _ e => e) (fun _ _ _ e => e) (fun b ps e => ⟨#[], by rw [e]; simp⟩) (fun m hm => ?_) (fun b u e => ?_) I.bare
  · have e : b = it := by simpa using hb
    subst e
    exact ⟨h1, hL, h2, h3⟩
  · obtain ⟨o, es, ep, ho, r⟩ := hm
    exact ⟨o, es, ep, k _ o (Ne.symm hL) ho, r⟩
  · refine (I.hok b u e).stay (fun c v hc q => k c v ?_ q) (fun _ q => q) fun _ _ q => q
    rcases hc with z | z
    · rw [z]; exact nit b u e
    · exact nit c _ z
theorem Inv.tok (I : Inv X pins σ H s) (t : Nat) : Inv X pins σ H { s with toks := t } := I.un (h' := s.heap) (t' := t) Un.refl I.hok
theorem Inv.kept {t' : Nat} (I : Inv X pins σ H s) (k : ∀ b u, s.heap.get? b = some u → h'.get? b = some u) : Inv X pins σ H { s with heap := h', toks := t' } := I.un (Un.kept k) (I.hok.kept k)
theorem Inv.laid {a : Addr} {o : HO} {t' : Nat} (I : Inv X pins σ H s) (k : ∀ b u, s.heap.get? b = some u → h'.get? b = some u) (hp : s.heap.objs.size ≤ a) (new : ObjOk X.prog X.w (upd H a o) h' a o) :
    Inv X pins σ (upd H a o) { s with heap := h', toks := t' } := I.un (Un.laid k hp (I.hok.fresh hp)) (I.hok.laid k hp new)
theorem Inv.write {x e : Addr} {o : HO} {t' : Nat} (I : Inv X pins σ H s) (mu : Mut (H x)) (he : e = x ∨ H e = some (.own x)) (k : ∀ b u, b ≠ e → s.heap.get? b = some u → h'.get? b = some u) (heo : ∃ u, h'.get? e = some u)
    (new : ObjOk X.prog X.w (upd H x o) h' x o) : Inv X pins σ (upd H x o) { s with heap := h', toks := t' } := I.un (Un.write mu he k heo) (I.hok.write mu he k heo new)
theorem Inv.pins_of {pins' : List (Addr × Obj)} (I : Inv X pins σ H s) (h : ∀ p ∈ pins', s.heap.get? p.1 = some p.2 ∧ H p.1 = none ∧ p.1 ≠ X.env.locals ∧ p.1 ∉ X.fs ∧ ∀ v, p.2.data ≠ .cell v) : Inv X pins' σ H s :=
  ⟨I.ok, I.os, I.bare, I.base, I.loc, I.cell, I.free, I.freeC, fun p hp => (List.mem_append.mp hp).elim (fun z => I.pin p (List.mem_append_left _ z)) (h p), I.hok, I.len⟩

theorem nodup_ix {N : List Str} (hN : N.Nodup) {i j : Nat} {x : Str} (a : N[i]? = some x) (b : N[j]? = some x) : i = j := by
  obtain ⟨h1, e1⟩ := List.getElem?_eq_some_iff.mp a
  obtain ⟨h2, e2⟩ := List.getElem?_eq_some_iff.mp b
  exact (List.getElem_inj hN).mp (e1.trans e2.symm)

theorem store_ok2 {M : Model} {A : Around} {E : Value → Shared → Prop} {i : Nat} {x : Str} {v : V} {u : Value} {Q : Unit → Shared → Prop} (I : Inv X pins σ H s) (hN : X.N.Nodup) (hi : X.N[i]? = some x) (hx : Loc X.env.scope x) (r : RelV v u)
    (h : ∀ s', Inv X pins (σ.set i (some v)) H s' → (∃ a, Heap.SameBut a s.heap s'.heap ∧ (a = X.env.locals ∨ X.env.cells.lookup x = some a)) → Q () s') (hf : X.fn x = true ∨ X.env.scope.names.lookup x = some .local := by first | exact .inl rfl | exact .inr rfl | assumption) : wpAny M A (storeName X.env x u) Q E s := by
  obtain ⟨m, hn, hl⟩ := id I.loc
  have hcls : (X.env.scope.kind == .class || (X.env.scope.kind == .module && X.env.locals != X.env.globals)) = false := by rw [I.ok.kind]; rfl
  have hiσ : i < σ.length := by rw [I.len]; exact (List.getElem?_eq_some_iff.mp hi).1
  have cne := I.cne
  have tracked : ∀ {a : Addr} {h' : Heap}, (∃ o, s.heap.get? a = some o ∧ H a = none) → Heap.SameBut a s.heap h' → HOk X.prog X.w H h' := fun {a h'} ha hs b ob e => by
    obtain ⟨_, _, hfree⟩ := ha
    refine (I.hok b ob e).stay (fun c w' hc q => (hs.2 c ?_).trans q) (fun _ q => q) fun _ _ q => q
    rintro rfl
    rcases hc with rfl | hc
    · rw [hfree] at e; cases e
    · rw [hfree] at hc; cases hc
  rcases hx with hk | hk
  · refine wpAny_storeName_local hk hn (fun h' hn' hs => ?_) hcls
    obtain ⟨oL, _, _, hoL, _⟩ := id hn
    refine h _ ⟨I.ok, I.os, I.bare, ⟨fun b o e n hb hx => ?_, fun b o e n hb hx => ?_, I.base.free, fun b o e hx => ?_, I.base.tups, I.base.frzs, I.base.tbls⟩, ⟨_, hn', fun j y v' e1 e2 e3 => ?_⟩, fun y c e => ?_, I.free, I.freeC, fun p hp => ?_, tracked ⟨oL, hoL, I.free⟩ hs, by simpa using I.len⟩ ⟨_, hs, .inl rfl⟩
    · exact (hs.2 b (Nat.ne_of_lt (Nat.lt_of_lt_of_le (Heap.lt_size e) I.ok.above))).trans (I.base.keep b o e n hb hx)
    · obtain ⟨sl, e1⟩ := I.base.slot b o e n hb hx
      exact ⟨sl, (hs.2 b (Nat.ne_of_lt (Nat.lt_of_lt_of_le (Heap.lt_size e) I.ok.above))).trans e1⟩
    · obtain ⟨o', e1⟩ := I.base.there b o e hx
      exact ⟨o', (hs.2 b (Nat.ne_of_lt (Nat.lt_of_lt_of_le (Heap.lt_size e) I.ok.above))).trans e1⟩
    · by_cases hj : j = i
      · subst hj
        rw [hi] at e1; cases e1
        rw [List.getElem?_set_self hiσ] at e2
        cases e2
        exact ⟨u, r, .inl ⟨hk, by simp⟩⟩
      · rw [List.getElem?_set_ne (Ne.symm hj)] at e2
        obtain ⟨u', r', q⟩ := hl j y v' e1 e2 e3
        refine ⟨u', r', ?_⟩
        rcases q with ⟨k, e⟩ | ⟨k, c, e, z⟩
        · refine .inl ⟨k, ?_⟩
          have : y ≠ x := fun e => hj (nodup_ix hN e1 (e ▸ hi))
          simp [this, e]
        · exact .inr ⟨k, c, e, z.sameBut hs (cne y c e)⟩
    · obtain ⟨w', z⟩ := I.cell y c e
      exact ⟨w', z.sameBut hs (cne y c e)⟩
    · obtain ⟨e, n, ne, nf, d⟩ := I.pin p hp
      exact ⟨(hs.2 p.1 ne).trans e, n, ne, nf, d⟩
  · have hfn : X.fn x = true := by
      rcases hf with z | z
      · exact z
      · rw [z] at hk; cases hk
    obtain ⟨c, hc⟩ := I.ok.has x (.inl hk)
    obtain ⟨w', z⟩ := I.cell x c hc
    refine wpAny_storeName_cell I.ok.kind hk hc z (fun h' hc' hs => ?_)
    obtain ⟨oc, hoc, hocd⟩ := id z
    refine h { s with heap := h' } ⟨I.ok, I.os, I.bare, ⟨fun b o e n hb hx => ?_, fun b o e n hb hx => ?_, I.base.free, fun b o e hx => ?_, I.base.tups, I.base.frzs, I.base.tbls⟩, ⟨m, hn.sameBut hs (Ne.symm (cne x c hc)), fun j y v' e1 e2 e3 => ?_⟩, fun y c' e => ?_, I.free, I.freeC, fun p hp => ?_, tracked ⟨oc, hoc, I.freeC x c hc⟩ hs, by simpa using I.len⟩ ⟨c, hs, .inr hc⟩
    · exact (hs.2 b (Nat.ne_of_lt (Nat.lt_of_lt_of_le (Heap.lt_size e) (I.ok.cab x c hfn hc)))).trans (I.base.keep b o e n hb hx)
    · obtain ⟨sl, e1⟩ := I.base.slot b o e n hb hx
      exact ⟨sl, (hs.2 b (Nat.ne_of_lt (Nat.lt_of_lt_of_le (Heap.lt_size e) (I.ok.cab x c hfn hc)))).trans e1⟩
    · obtain ⟨o', e1⟩ := I.base.there b o e hx
      exact ⟨o', (hs.2 b (Nat.ne_of_lt (Nat.lt_of_lt_of_le (Heap.lt_size e) (I.ok.cab x c hfn hc)))).trans e1⟩
    · by_cases hj : j = i
      · subst hj
        rw [hi] at e1; cases e1
        rw [List.getElem?_set_self hiσ] at e2
        cases e2
        exact ⟨u, r, .inr ⟨.inl hk, c, hc, hc'⟩⟩
      · rw [List.getElem?_set_ne (Ne.symm hj)] at e2
        obtain ⟨u', r', q⟩ := hl j y v' e1 e2 e3
        refine ⟨u', r', ?_⟩
        rcases q with q | ⟨k, c', e, z'⟩
        · exact .inl q
        · refine .inr ⟨k, c', e, z'.sameBut hs ?_⟩
          rintro rfl
          exact hj (nodup_ix hN e1 (I.ok.inj _ _ _ e hc ▸ hi))
    · by_cases hcc : c' = c
      · subst hcc; exact ⟨_, hc'⟩
      · obtain ⟨w2, z2⟩ := I.cell y c' e
        exact ⟨w2, z2.sameBut hs hcc⟩
    · obtain ⟨e, n, ne, nf, d⟩ := I.pin p hp
      refine ⟨(hs.2 p.1 ?_).trans e, n, ne, nf, d⟩
      intro q
      rw [q, hoc] at e
      have q' : oc = p.2 := Option.some.inj e
      exact d w' (by rw [← q']; exact hocd)
theorem store_ok {M : Model} {A : Around} {E : Value → Shared → Prop} {i : Nat} {x : Str} {v : V} {u : Value} {Q : Unit → Shared → Prop} (I : Inv X pins σ H s) (hN : X.N.Nodup) (hi : X.N[i]? = some x) (hx : Loc X.env.scope x) (r : RelV v u)
    (h : ∀ s', Inv X pins (σ.set i (some v)) H s' → Q () s') (hf : X.fn x = true ∨ X.env.scope.names.lookup x = some .local := by first | exact .inl rfl | exact .inr rfl | assumption) : wpAny M A (storeName X.env x u) Q E s :=
  store_ok2 I hN hi hx r (fun s' I' _ => h s' I') hf
theorem Inv.call' {s' : Shared} {ch : List Addr} (I : Inv X pins σ H s) (ho : s'.os = s.os) (u : Un (frs X.stack) ch H H' s.heap s'.heap) (hok : HOk X.prog X.w H' s'.heap) (hg : AllBare s'.gens)
    (hch : ∀ b ∈ ch, (b ∈ X.ex ∨ X.s₀.heap.objs.size ≤ b) ∧ b ≠ X.env.locals ∧ (∀ x c, X.env.cells.lookup x = some c → c ≠ b) ∧ ∀ p ∈ X.pn ++ pins, p.1 ≠ b) : Inv X pins σ H' s' := by
  obtain ⟨h', g', d', t', o'⟩ := s'
  have e : o' = s.os := ho
  subst e
  exact I.call (g' := g') (t' := t') (d' := d') u hok hg hch
end

abbrev XK := Value → Option Addr → Hp → Prop
abbrev St := List (Option V)
abbrev VK := V → Hp → Prop
abbrev TE := St → Hp → VK → Prop
abbrev TT := St → Hp → (Bool → Hp → Prop) → Prop
abbrev TA := St → Hp → (List V → Hp → Prop) → Prop
structure Ends where
  nx : St → Hp → Prop
  rt : VK
  bk : St → Hp → Prop := fun _ _ => False
  ct : St → Hp → Prop := fun _ _ => False
abbrev TS := Ends → St → Hp → Prop

def EP (X : Cx) (pins : List (Addr × Obj)) (σ : St) (Q : VK) (u : Value) (s' : Shared) : Prop := ∃ v H', Inv X pins σ H' s' ∧ RelV v u ∧ Q v H'
def TP (X : Cx) (pins : List (Addr × Obj)) (σ : St) (Q : Bool → Hp → Prop) (b : Bool) (s' : Shared) : Prop := ∃ H', Inv X pins σ H' s' ∧ Q b H'
def AP (X : Cx) (pins : List (Addr × Obj)) (σ : St) (Q : List V → Hp → Prop) (us : List Value) (s' : Shared) : Prop := ∃ vs H', Inv X pins σ H' s' ∧ Vals vs us ∧ Q vs H'
def SP (X : Cx) (pins : List (Addr × Obj)) (D : Ends) (f : Flow) (s' : Shared) : Prop :=
  match f with
  | .next => ∃ σ' H', Inv X pins σ' H' s' ∧ D.nx σ' H'
  | .brk => ∃ σ' H', Inv X pins σ' H' s' ∧ D.bk σ' H'
  | .cont => ∃ σ' H', Inv X pins σ' H' s' ∧ D.ct σ' H'
  | .ret u => ∃ v σ' H', Inv X pins σ' H' s' ∧ RelV v u ∧ D.rt v H'

def PE (X : Cx) (e : Expr) (t : TE) : Prop :=
  ∀ (pins : List (Addr × Obj)) (s : Shared) (σ : St) (H : Hp) (Q : VK), Inv X pins σ H s → t σ H Q → wpAny (model X.prog X.w) X.A (eval e X.env) (EP X pins σ Q) X.xe s
def PT (X : Cx) (e : Expr) (t : TT) : Prop :=
  ∀ (pins : List (Addr × Obj)) (s : Shared) (σ : St) (H : Hp) (Q : Bool → Hp → Prop), Inv X pins σ H s → t σ H Q → wpAny (model X.prog X.w) X.A (isTrue e X.env (eval e X.env)) (TP X pins σ Q) X.xe s
def PW (X : Cx) (e : Expr) (t : TT) : Prop :=
  ∀ (whole : Sem Value) (pins : List (Addr × Obj)) (s : Shared) (σ : St) (H : Hp) (Q : Bool → Hp → Prop), Inv X pins σ H s → t σ H Q → wpAny (model X.prog X.w) X.A (isTrue e X.env whole) (TP X pins σ Q) X.xe s
theorem PW.pt {X : Cx} {e : Expr} {t : TT} (h : PW X e t) : PT X e t := h _
def PA (X : Cx) (es : List Expr) (t : TA) : Prop :=
  ∀ (pos : Pos) (pins : List (Addr × Obj)) (s : Shared) (σ : St) (H : Hp) (Q : List V → Hp → Prop), Inv X pins σ H s → t σ H Q → wpAny (model X.prog X.w) X.A (spliced (backTo pos (starEach es X.env))) (AP X pins σ Q) X.xe s
def PS (X : Cx) (st : Stmt) (t : TS) : Prop :=
  ∀ (pins : List (Addr × Obj)) (s : Shared) (σ : St) (H : Hp) (D : Ends), Inv X pins σ H s → t D σ H → wpAny (model X.prog X.w) X.A (exec st X.env) (SP X pins D) X.xe s
def PSs (X : Cx) (st : List Stmt) (t : TS) : Prop :=
  ∀ (pins : List (Addr × Obj)) (s : Shared) (σ : St) (H : Hp) (D : Ends), Inv X pins σ H s → t D σ H → wpAny (model X.prog X.w) X.A (execs st X.env) (SP X pins D) X.xe s
theorem thn {α : Type} {t : Sem α} {Q Q' : α → Shared → Prop} {M : Model} {A : Around} {E : Value → Shared → Prop} {s : Shared} (h : wpAny M A t Q E s) (hQ : ∀ a s, Q a s → Q' a s) : wpAny M A t Q' E s := wpAny_mono h hQ fun _ _ x => x
end L2

namespace L2
open PySem PySem.Spec PyProof.Rows
section
variable {X : Cx}

def tVar (i : Nat) : TE := fun σ H Q => ∃ v, σ[i]? = some (some v) ∧ Q v H
def tC (v : V) : TE := fun _ H Q => Q v H
theorem pe_var {i : Nat} {x : Str} {pos : Pos} (hN : X.N[i]? = some x) (hv : Vis X.env.scope x) (hd : (x == ("__debug__" : Str)) = false := by decide) (hcd : (x == ("__classdict__" : Str)) = false := by decide) : PE X (.Name x pos) (tVar i) := by
  intro pins s σ H Q I h
  obtain ⟨v, e, h⟩ := h
  obtain ⟨m, hn, hl⟩ := I.loc
  obtain ⟨u, r, l⟩ := hl i x v hN e hv
  have fin : EP X pins σ Q u s := ⟨v, H, I, r, h⟩
  rcases l with ⟨hk, hm⟩ | ⟨hk, c, hc, hcell⟩
  · exact wpAny_Name (wpAny_loadName_local I.ok.kind hk hn hm fin) hd
  · rcases hk with hk | hk
    · exact wpAny_Name (wpAny_loadName_cell I.ok.kind hk hc hcell fin) hd
    · exact wpAny_Name (wpAny_loadName_free I.ok.kind hk hc hcell fin hcd) hd
theorem pe_int {i j pos} : PE X (.Constant (.int i) j pos) (tC (.int i)) := fun _ _ _ H _ I h => wpAny_Constant_int ⟨.int i, H, I.tok _, ⟨_, rfl⟩, h⟩
theorem pe_bl {b j pos} : PE X (.Constant (.bool b) j pos) (tC (.bl b)) := fun _ _ _ H _ I h => Constant_bool ⟨.bl b, H, I, rfl, h⟩
theorem pe_non {j pos} : PE X (.Constant .none j pos) (tC .non) := fun _ _ _ H _ I h => Constant_none ⟨.non, H, I, rfl, h⟩
def Gl (X : Cx) (x : Str) : Prop := X.env.kindOf x = some .globalImplicit
theorem ld_glob {E : Value → Shared → Prop} {pins : List (Addr × Obj)} {s : Shared} {σ : St} {H : Hp} {x : Str} {u : Value} {pos : Pos} {Q : Value → Shared → Prop} (I : Inv X pins σ H s) (hg : Gl X x) (hm : X.mg x = some u) (h : Q u s)
    (hd : (x == ("__debug__" : Str)) = false := by decide) : wpAny (model X.prog X.w) X.A (eval (.Name x pos) X.env) Q E s :=
  Calls.Name_function_global I.ok.kind hg (Calls.loadGlobal_global (by rw [I.ok.glob]; exact I.mod.glob.keeps I.bk) hm h) hd
theorem ld_blt {E : Value → Shared → Prop} {pins : List (Addr × Obj)} {s : Shared} {σ : St} {H : Hp} {x : Str} {u : Value} {pos : Pos} {Q : Value → Shared → Prop} (I : Inv X pins σ H s) (hg : Gl X x) (hm : X.mg x = none) (hv : bootBuiltins x = some u) (h : Q u s)
    (hn : x ≠ "__name__" := by decide) (hd : (x == ("__debug__" : Str)) = false := by decide) : wpAny (model X.prog X.w) X.A (eval (.Name x pos) X.env) Q E s := by
  obtain ⟨mb, h1, h2⟩ := I.mod.blt
  exact Calls.Name_function_global I.ok.kind hg (Calls.loadGlobal_builtin (by rw [I.ok.glob]; exact I.mod.glob.keeps I.bk) hm (by rw [I.ok.blt]; exact h1.keeps I.bk) ((h2 x hn).trans hv) h) hd
theorem pe_bltn {x : Str} {v : V} {u : Value} {pos : Pos} (hg : Gl X x) (hm : X.mg x = none) (hv : bootBuiltins x = some u) (r : RelV v u) (hn : x ≠ "__name__" := by decide) (hd : (x == ("__debug__" : Str)) = false := by decide) : PE X (.Name x pos) (tC v) :=
  fun _ _ _ H _ I h => ld_blt I hg hm hv ⟨v, H, I, r, h⟩ hn hd

variable {a b : Expr} {ta tb : TE} {pos : Pos}
def tB (t : TE) : TT := fun σ H Q => t σ H fun x H1 => ∃ c, x = .bl c ∧ Q c H1
theorem pt_val {e : Expr} {t : TE} (h : PE X e t) (he : ∀ whole, isTrue e X.env whole = (do let v ← whole; standAt e.pos; holding [v] (truthy v)) := by intro _; rfl) : PT X e (tB t) := by
  intro pins s σ H Q I hw
  refine isTrue_plain (thn (h pins s σ H _ I hw) fun v s1 ⟨x, H1, I1, r1, q1⟩ => ?_) (he _)
  obtain ⟨d, rfl, q⟩ := q1
  cases r1
  exact wpAny_truthy_bool ⟨H1, I1, q⟩

variable {tA tB' : TT} {rest : List Expr}
def tAnd (t u : TT) : TT := fun σ H Q => t σ H fun c H1 => if c = true then u σ H1 Q else Q false H1
def tOr (t u : TT) : TT := fun σ H Q => t σ H fun c H1 => if c = true then Q true H1 else u σ H1 Q
def tNot (t : TT) : TT := fun σ H Q => t σ H fun c H1 => Q (!c) H1
theorem pw_and1 (ha : PT X a tA) : PW X (.BoolOp .And [a] pos) tA := by
  intro wh pins s σ H Q I h
  refine isTrue_and (thn (ha pins s σ H Q I h) fun c s1 e => ?_)
  cases c with
  | true => exact isTrue_and_nil e
  | false => exact e
theorem pw_or1 (ha : PT X a tA) : PW X (.BoolOp .Or [a] pos) tA := by
  intro wh pins s σ H Q I h
  refine isTrue_or (thn (ha pins s σ H Q I h) fun c s1 e => ?_)
  cases c with
  | false => exact isTrue_or_nil e
  | true => exact e
theorem pw_and (ha : PT X a tA) (hb : PW X (.BoolOp .And (b :: rest) pos) tB') : PW X (.BoolOp .And (a :: b :: rest) pos) (tAnd tA tB') := by
  intro wh pins s σ H Q I h
  refine isTrue_and (thn (ha pins s σ H _ I h) fun c s1 ⟨H1, I1, q1⟩ => ?_)
  cases c with
  | true => exact hb wh pins s1 σ H1 Q I1 q1
  | false => exact ⟨H1, I1, q1⟩
theorem pw_or (ha : PT X a tA) (hb : PW X (.BoolOp .Or (b :: rest) pos) tB') : PW X (.BoolOp .Or (a :: b :: rest) pos) (tOr tA tB') := by
  intro wh pins s σ H Q I h
  refine isTrue_or (thn (ha pins s σ H _ I h) fun c s1 ⟨H1, I1, q1⟩ => ?_)
  cases c with
  | true => exact ⟨H1, I1, q1⟩
  | false => exact hb wh pins s1 σ H1 Q I1 q1
theorem pt_not (ha : PT X a tA) : PT X (.UnaryOp .Not a pos) (tNot tA) := by
  intro pins s σ H Q I h
  exact isTrue_not (ha pins s σ H (fun c H1 => Q (!c) H1) I h)
def tAndV (ta tb : TE) : TE := fun σ H Q => ta σ H fun x H1 => ∃ c, x = .bl c ∧ if c = true then tb σ H1 Q else Q (.bl false) H1
def tNotV (ta : TE) : TE := fun σ H Q => ta σ H fun x H1 => ∃ c, x = .bl c ∧ Q (.bl (!c)) H1
theorem pe_one {op} {t : TE} (h : PE X a t) : PE X (.BoolOp op [a] pos) t := fun pins s σ H Q I hw => BoolOp_one (h pins s σ H Q I hw)
theorem pe_and (ha : PE X a ta) (hb : PE X (.BoolOp .And (b :: rest) pos) tb) : PE X (.BoolOp .And (a :: b :: rest) pos) (tAndV ta tb) := by
  intro pins s σ H Q I h
  refine BoolOp_and (thn (ha pins s σ H _ I h) fun v s1 ⟨x, H1, I1, r1, q1⟩ => ?_)
  obtain ⟨c, rfl, q1⟩ := q1
  cases r1
  refine wpAny_truthy_bool ?_
  cases c with
  | true => exact hb pins s1 σ H1 Q I1 q1
  | false => exact ⟨.bl false, H1, I1, rfl, q1⟩
theorem pe_not (ha : PE X a ta) : PE X (.UnaryOp .Not a pos) (tNotV ta) := by
  intro pins s σ H Q I h
  refine UnaryOp_ (thn (ha pins s σ H _ I h) fun v s1 ⟨x, H1, I1, r1, q1⟩ => ?_)
  obtain ⟨c, rfl, q1⟩ := q1
  cases r1
  exact not_of (wpAny_truthy_bool ⟨.bl (!c), H1, I1, rfl, q1⟩)
end
end L2

namespace L2
open PySem PySem.Spec PyProof.Rows

def SqL (K : PySem.W.Frag) (H : Hp) (a : Addr) (xs : List V) : Prop :=
  Rd H a (.lst xs) ∨
    ∃ (o : Obj) (its : Array Value) (n : Nat), K.lookup a = some o ∧ o.cls = .type "list" ∧ o.dict = none ∧ o.data = .seq its n ∧ its.size ≤ sizeLine ∧ Vals xs its.toList
def SqT (K : PySem.W.Frag) (H : Hp) (a : Addr) (xs : List V) : Prop :=
  Rd H a (.tup xs) ∨
    ∃ (o : Obj) (its : Array Value) (n : Nat), K.lookup a = some o ∧ o.cls = .type "tuple" ∧ o.data = .seq its n ∧ its.size ≤ sizeLine ∧ Vals xs its.toList
def absV : Value → Option V
  | .none => some .non
  | .bool b => some (.bl b)
  | .int i _ => some (.int i)
  | .str x _ => some (.str x)
  | .bytes b _ => some (.byt b)
  | .float b _ => some (.flt b)
  | .ref a => some (.ref a)
  | .type n => some (.ty n)
  | _ => none
theorem RelV.abs {x : V} {u : Value} (r : RelV x u) : absV u = some x := by
  cases x with
  | non => cases r; rfl
  | bl _ => cases r; rfl
  | int _ => obtain ⟨t, rfl⟩ := r; rfl
  | str _ => obtain ⟨t, rfl⟩ := r; rfl
  | byt _ => obtain ⟨t, rfl⟩ := r; rfl
  | flt _ => obtain ⟨t, rfl⟩ := r; rfl
  | ref _ => cases r; rfl
  | ty _ => cases r; rfl
theorem RelV.inj {x y : V} {u : Value} (r : RelV x u) (q : RelV y u) : x = y := Option.some.inj (r.abs.symm.trans q.abs)
theorem Vals.inj : ∀ {xs ys : List V} {us : List Value}, Vals xs us → Vals ys us → xs = ys
  | _, _, _, .nil, .nil => rfl
  | _, _, _, .cons r t, .cons r' t' => by rw [r.inj r', Vals.inj t t']
section
variable {X : Cx} {pins : List (Addr × Obj)} {σ : St} {H : Hp} {s : Shared} {a : Addr} {xs ys : List V}
theorem SqL.of {K : PySem.W.Frag} (h : H a = some (.lst xs)) : SqL K H a xs := .inl (.inl h)
theorem SqT.of {K : PySem.W.Frag} (h : H a = some (.tup xs)) : SqT K H a xs := .inl (.inl h)
theorem Inv.list (I : Inv X pins σ H s) (h : SqL X.K H a xs) : ∃ its : List Value, Vals xs its ∧ PlainL s.heap a its.toArray ∧ xs.length ≤ sizeLine := by
  rcases h with h | ⟨o, its, n, hk, hc, hd, hs, hz, r⟩
  · obtain ⟨z, its, n, r, e⟩ := h.ok I.hok
    exact ⟨its, r, ⟨_, n, e, rfl, rfl, rfl⟩, z⟩
  · refine ⟨its.toList, r, ⟨o, n, I.kIn a o hk, hc, hd, by simpa using hs⟩, ?_⟩
    have e := r.length
    simp only [Array.length_toList] at e
    omega
theorem Inv.tuple (I : Inv X pins σ H s) (h : SqT X.K H a xs) : ∃ its : List Value, Vals xs its ∧ IsTup s.heap a its.toArray ∧ xs.length ≤ sizeLine := by
  rcases h with h | ⟨o, its, n, hk, hc, hs, hz, r⟩
  · obtain ⟨z, its, r, p⟩ := h.ok I.hok
    exact ⟨its, r, p, z⟩
  · refine ⟨its.toList, r, ⟨o, I.kIn a o hk, hc, n, by simpa using hs⟩, ?_⟩
    have e := r.length
    simp only [Array.length_toList] at e
    omega
theorem Inv.list_inj (I : Inv X pins σ H s) (h : SqL X.K H a xs) (h' : SqL X.K H a ys) : xs = ys := by
  obtain ⟨its, r, ⟨o, n, e, _, _, d⟩, _⟩ := I.list h
  obtain ⟨its', r', ⟨o', n', e', _, _, d'⟩, _⟩ := I.list h'
  rw [e] at e'; cases e'
  rw [d] at d'
  injection d' with d1 _
  have : its = its' := by simpa using congrArg Array.toList d1
  subst this
  exact r.inj r'
theorem Inv.tuple_inj (I : Inv X pins σ H s) (h : SqT X.K H a xs) (h' : SqT X.K H a ys) : xs = ys := by
  obtain ⟨its, r, ⟨o, e, _, n, d⟩, _⟩ := I.tuple h
  obtain ⟨its', r', ⟨o', e', _, n', d'⟩, _⟩ := I.tuple h'
  rw [e] at e'; cases e'
  rw [d] at d'
  injection d' with d1 _
  have : its = its' := by simpa using congrArg Array.toList d1
  subst this
  exact r.inj r'
end

abbrev Cx.wish (X : Cx) (E : Value → Shared → Prop) : Cx := { X with xe := E }
abbrev Cx.nox (X : Cx) : Cx := X.wish fun _ _ => False
theorem Cx.Ok.wish {X : Cx} (ok : X.Ok) (E : Value → Shared → Prop) : (X.wish E).Ok :=
  ⟨ok.mod, ok.kind, ok.glob, ok.blt, ok.above, ok.inj, ok.has, ok.cab, ok.hd, ok.frames, ok.stk, ok.exf, ok.bs, ok.bsz, ok.noex, ok.exfs, ok.funs, ok.frf⟩
theorem Cx.Ok.unwish {X : Cx} {E : Value → Shared → Prop} (ok : (X.wish E).Ok) : X.Ok :=
  ⟨ok.mod, ok.kind, ok.glob, ok.blt, ok.above, ok.inj, ok.has, ok.cab, ok.hd, ok.frames, ok.stk, ok.exf, ok.bs, ok.bsz, ok.noex, ok.exfs, ok.funs, ok.frf⟩
section
variable {X : Cx} {pins : List (Addr × Obj)} {σ : St} {H : Hp} {s : Shared} {E : Value → Shared → Prop}
theorem Inv.wish (I : Inv X pins σ H s) (E : Value → Shared → Prop) : Inv (X.wish E) pins σ H s := ⟨I.ok.wish E, I.os, I.bare, I.base, I.loc, I.cell, I.free, I.freeC, I.pin, I.hok, I.len⟩
theorem Inv.unwish (I : Inv (X.wish E) pins σ H s) : Inv X pins σ H s := ⟨I.ok.unwish, I.os, I.bare, I.base, I.loc, I.cell, I.free, I.freeC, I.pin, I.hok, I.len⟩
theorem SP.unwish {D : Ends} {f : Flow} {s' : Shared} (h : SP (X.wish E) pins D f s') : SP X pins D f s' := by
  cases f with
  | next => obtain ⟨σ', H', I, q⟩ := h; exact ⟨σ', H', I.unwish, q⟩
  | brk => obtain ⟨σ', H', I, q⟩ := h; exact ⟨σ', H', I.unwish, q⟩
  | cont => obtain ⟨σ', H', I, q⟩ := h; exact ⟨σ', H', I.unwish, q⟩
  | ret u => obtain ⟨v, σ', H', I, r, q⟩ := h; exact ⟨v, σ', H', I.unwish, r, q⟩
theorem PE.nox {e : Expr} {t : TE} (h : PE X.nox e t) : PE X e t := fun pins s σ H Q I hw =>
  wpAny_mono (h pins s σ H Q (I.wish _) hw) (fun _ _ ⟨v, H', I', r, q⟩ => ⟨v, H', I'.unwish, r, q⟩) fun _ _ z => False.elim z
theorem PT.nox {e : Expr} {t : TT} (h : PT X.nox e t) : PT X e t := fun pins s σ H Q I hw =>
  wpAny_mono (h pins s σ H Q (I.wish _) hw) (fun _ _ ⟨H', I', q⟩ => ⟨H', I'.unwish, q⟩) fun _ _ z => False.elim z
theorem PSs.nox {st : List Stmt} {t : TS} (h : PSs X.nox st t) : PSs X st t := fun pins s σ H D I hw =>
  wpAny_mono (h pins s σ H D (I.wish _) hw) (fun _ _ q => q.unwish) fun _ _ z => False.elim z
end

section
variable {X : Cx} {st : Stmt} {rest : List Stmt} {t u : TS} {e : Expr} {te : TE} {pos : Pos}
def tNext : TS := fun D σ H => D.nx σ H
def tSeq (t u : TS) : TS := fun D σ H => t { D with nx := u D } σ H
theorem pss_nil : PSs X [] tNext := fun _ _ σ H _ I h => wpAny_execs_nil ⟨σ, H, I, h⟩
theorem pss_cons (h1 : PS X st t) (h2 : PSs X rest u) : PSs X (st :: rest) (tSeq t u) := by
  intro pins s σ H D I h
  refine wpAny_execs_cons (thn (h1 pins s σ H { D with nx := u D } I h) fun f s1 q => ?_)
  cases f with
  | next =>
    obtain ⟨σ', H', I', q⟩ := q
    exact h2 pins s1 σ' H' D I' q
  | ret v => exact q
  | brk => exact q
  | cont => exact q
theorem pss_one (h1 : PS X st t) : PSs X [st] t := by
  intro pins s σ H D I h
  refine wpAny_execs_cons (thn (h1 pins s σ H D I h) fun f s1 q => ?_)
  cases f with
  | next => exact wpAny_execs_nil q
  | ret v => exact q
  | brk => exact q
  | cont => exact q
def tCont : TS := fun D σ H => D.ct σ H
theorem ps_continue : PS X (.Continue pos) tCont := fun _ _ σ H _ I h => wpAny_Continue ⟨σ, H, I, h⟩
theorem Inv.quiet {pins : List (Addr × Obj)} {σ : St} {H : Hp} {s : Shared} (I : Inv X pins σ H s) : interactive X.env = false := by simp [interactive, I.ok.kind]
def tDrop (te : TE) : TS := fun D σ H => te σ H fun _ H1 => D.nx σ H1
theorem ps_expr (he : PE X e te) (hs : swapsWith e none pos.line X.env = pure false := by rfl) : PS X (.Expr e pos) (tDrop te) := by
  intro pins s σ H D I h
  exact wpAny_Expr_any (thn (he pins s σ H _ I h) fun v s1 ⟨x, H1, I1, r1, q1⟩ => ⟨σ, H1, I1, q1⟩) I.quiet hs
def tRet (te : TE) : TS := fun D σ H => te σ H D.rt
theorem ps_ret (he : PE X e te) : PS X (.Return (some e) pos) (tRet te) := by
  intro pins s σ H D I h
  exact wpAny_Return_some (thn (he pins s σ H _ I h) fun v s1 ⟨x, H1, I1, r1, q1⟩ => ⟨x, σ, H1, I1, r1, q1⟩)
def tIfS (c : TT) (t u : TS) : TS := fun D σ H => c σ H fun b H1 => if b = true then t D σ H1 else u D σ H1
theorem ps_if {c : Expr} {a b : List Stmt} {tc : TT} (hc : PT X c tc) (ha : PSs X a t) (hb : PSs X b u) : PS X (.If c a b pos) (tIfS tc t u) := by
  intro pins s σ H D I h
  refine wpAny_If (thn (hc pins s σ H _ I h) fun d s1 ⟨H1, I1, q1⟩ => ?_)
  cases d with
  | true => exact ha pins s1 σ H1 D I1 q1
  | false => exact hb pins s1 σ H1 D I1 q1
def tNever : TS := fun _ _ _ => False
theorem ps_never : PS X st tNever := fun _ _ _ _ _ _ h => h.elim
end

abbrev TG := V → St → Hp → (St → Hp → Prop) → Prop
abbrev TGs := List V → St → Hp → (St → Hp → Prop) → Prop
def PG (X : Cx) (target : Expr) (t : TG) : Prop :=
  ∀ (pins : List (Addr × Obj)) (s : Shared) (σ : St) (H : Hp) (v : V) (u : Value) (Q : St → Hp → Prop), Inv X pins σ H s → RelV v u → t v σ H Q →
    wpAny (model X.prog X.w) X.A (assign target X.env u) (fun _ s' => ∃ σ' H', Inv X pins σ' H' s' ∧ Q σ' H') X.xe s
def PGs (X : Cx) (ts : List Expr) (t : TGs) : Prop :=
  ∀ (pins : List (Addr × Obj)) (s : Shared) (σ : St) (H : Hp) (vs : List V) (us : List Value) (Q : St → Hp → Prop), Inv X pins σ H s → Vals vs us → t vs σ H Q →
    wpAny (model X.prog X.w) X.A (assignInOrder ((assignEach ts X.env).map (·.2)) us) (fun _ s' => ∃ σ' H', Inv X pins σ' H' s' ∧ Q σ' H') X.xe s
abbrev TSet := V → V → V → Hp → (Hp → Prop) → Prop
def PSet (X : Cx) (t : TSet) : Prop :=
  ∀ (pins : List (Addr × Obj)) (s : Shared) (σ : St) (H : Hp) (o i v : V) (ov iv u : Value) (Q : Hp → Prop), Inv X pins σ H s → RelV o ov → RelV i iv → RelV v u → t o i v H Q →
    wpAny (model X.prog X.w) X.A (setItem ov iv u) (fun _ s' => ∃ H', Inv X pins σ H' s' ∧ Q H') X.xe s
section
variable {X : Cx} {pos : Pos}
def gName (i : Nat) : TG := fun v σ H Q => Q (σ.set i (some v)) H
theorem pg_name {i : Nat} {x : Str} (hN : X.N.Nodup) (hi : X.N[i]? = some x) (hx : Loc X.env.scope x) (hf : X.fn x = true ∨ X.env.scope.names.lookup x = some .local := by first | exact .inl rfl | exact .inr rfl | assumption) : PG X (.Name x pos) (gName i) := by
  intro pins s σ H v u Q I r h
  exact wpAny_assign_Name (store_ok I hN hi hx r (fun s' I' => ⟨_, H, I', h⟩) hf)
def gNil : TGs := fun vs σ H Q => vs = [] ∧ Q σ H
def gCons (t : TG) (u : TGs) : TGs := fun vs σ H Q => ∃ v r, vs = v :: r ∧ t v σ H fun σ' H' => u r σ' H' Q
theorem pgs_nil : PGs X [] gNil := by
  intro pins s σ H vs us Q I r h
  obtain ⟨e, h⟩ := h
  subst e
  cases r
  exact assignInOrder_nil ⟨σ, H, I, h⟩
theorem pgs_cons {e : Expr} {es : List Expr} {t : TG} {u : TGs} (h1 : PG X e t) (h2 : PGs X es u)
    (hs : (assignEach (e :: es) X.env).map (·.2) = assign e X.env :: (assignEach es X.env).map (·.2) := by rfl) : PGs X (e :: es) (gCons t u) := by
  intro pins s σ H vs us Q I r h
  obtain ⟨v, vr, e1, h⟩ := h
  subst e1
  cases r with
  | cons r rr =>
    rw [hs]
    refine assignInOrder_cons (thn (h1 pins s σ H _ _ _ I r h) fun _ s1 ⟨σ1, H1, I1, q1⟩ => ?_)
    exact h2 pins s1 σ1 H1 _ _ Q I1 rr q1
def gTup (K : PySem.W.Frag) (n : Nat) (t : TGs) : TG := fun v σ H Q => ∃ a xs, v = .ref a ∧ SqT K H a xs ∧ xs.length = n ∧ t xs σ H Q
theorem pg_tup {es : List Expr} {k : Nat} {t : TGs} {n : Nat} (hc : X.calm = true) (h : PGs X es t)
    (hn : (assignEach es X.env).length = n := by rfl) (hst : (assignEach es X.env).findIdx? (·.1) = none := by rfl) : PG X (.Tuple es k pos) (gTup X.K n t) := by
  intro pins s σ H v u Q I r hw
  obtain ⟨a, xs, e1, hq, hl, hw⟩ := hw
  subst e1
  cases r
  obtain ⟨its, rv, ht, hz⟩ := I.tuple hq
  refine assign_Tuple_tuple (I.ok.hd hc) ht (by simp [hn, ← hl, rv.length]) hst fun h' hx => ?_
  have I1 : Inv X pins σ H { s with heap := h' } := I.kept (t' := s.toks) fun b o e => hx b o (Nat.ne_of_lt (Heap.lt_size e)) e
  exact h pins _ σ H xs _ Q I1 (by simpa using rv) hw
def gSub (to ti : TE) (t : TSet) : TG := fun v σ H Q => to σ H fun o H1 => ti σ H1 fun i H2 => t o i v H2 fun H3 => Q σ H3
theorem pg_sub {o i : Expr} {to ti : TE} {t : TSet} (ho : PE X o to) (hi : PE X i ti) (hs : PSet X t)
    (ha : ∀ v, assign (.Subscript o i pos) X.env v = (do
      let ov ← holding [v] (eval o X.env)
      let iv ← holding [v, ov] (eval i X.env)
      standAt pos
      holding [v, ov, iv] (setItem ov iv v)
      release [v, ov, iv] []) := by intro _; rfl) : PG X (.Subscript o i pos) (gSub to ti t) := by
  intro pins s σ H v u Q I r h
  rw [ha]
  refine wpAny_bind (wpAny_holding (thn (ho pins s σ H _ I h) fun ov s1 ⟨x, H1, I1, r1, q1⟩ => ?_))
  refine wpAny_bind (wpAny_holding (thn (hi pins s1 σ H1 _ I1 q1) fun iv s2 ⟨y, H2, I2, r2, q2⟩ => ?_))
  refine wpAny_bind (wpAny_standAt (wpAny_bind (wpAny_holding (thn (hs pins s2 σ H2 x y v ov iv u _ I2 r1 r2 r q2) fun _ s3 ⟨H3, I3, q3⟩ => ?_))))
  exact wpAny_release ⟨σ, H3, I3, q3⟩
def tAsg (te : TE) (g : TG) : TS := fun D σ H => te σ H fun x H1 => g x σ H1 D.nx
theorem ps_asg {tg e : Expr} {te : TE} {g : TG} (he : PE X e te) (hg : PG X tg g) (hs : swapsWithSole [tg] e pos.line X.env = pure false := by rfl) (hw : swappedStores [tg] e X.env = pure none := by rfl)
    (h1 : (assignEach [tg] X.env).map (·.2) = [assign tg X.env] := by rfl) : PS X (.Assign [tg] e pos) (tAsg te g) := by
  intro pins s σ H D I h
  refine wpAny_Assign_stores (thn (he pins s σ H _ I h) fun v s1 ⟨x, H1, I1, r1, q1⟩ => ?_) hs hw
  rw [h1]
  exact thn (hg pins s1 σ H1 x v _ I1 r1 q1) fun _ s2 q => q
theorem ps_set {i : Nat} {x : Str} {e : Expr} {te : TE} {pos' : Pos} (hN : X.N.Nodup) (hi : X.N[i]? = some x) (hx : Loc X.env.scope x) (he : PE X e te) (hs : swapsWith e (some (.Name x pos')) pos.line X.env = pure false := by rfl) (hf : X.fn x = true ∨ X.env.scope.names.lookup x = some .local := by first | exact .inl rfl | exact .inr rfl | assumption) :
    PS X (.Assign [.Name x pos'] e pos) (tAsg te (gName i)) := by
  intro pins s σ H D I h
  refine wpAny_Assign_Name (thn (he pins s σ H _ I h) fun v s1 ⟨y, H1, I1, r1, q1⟩ => ?_) hs
  exact store_ok I1 hN hi hx r1 (fun s2 I2 => ⟨_, H1, I2, q1⟩) hf
def tPar (i j : Nat) (ta : TA) : TS := fun D σ H => ta σ H fun vs H1 => ∃ v w, vs = [v, w] ∧ D.nx ((σ.set i (some v)).set j (some w)) H1
theorem ps_par {i j : Nat} {x y : Str} {a b : Expr} {ta : TA} {px py pt : Pos} {kt k2 pt2} (hc : X.calm = true) (hN : X.N.Nodup) (hi : X.N[i]? = some x) (hj : X.N[j]? = some y) (hij : i ≠ j)
    (hx : X.env.scope.names.lookup x = some .local) (hy : X.env.scope.names.lookup y = some .local) (ha : PA X [a, b] ta)
    (hw : swappedStores [.Tuple [.Name x px, .Name y py] kt pt] (.Tuple [a, b] k2 pt2) X.env = pure (some [x, y]))
    (hs : swapsWithSole [.Tuple [.Name x px, .Name y py] kt pt] (.Tuple [a, b] k2 pt2) pos.line X.env = pure false := by rfl) :
    PS X (.Assign [.Tuple [.Name x px, .Name y py] kt pt] (.Tuple [a, b] k2 pt2) pos) (tPar i j ta) := by
  intro pins s σ H D I h
  rw [exec_Assign_arm]
  refine wpAny_bind (wpAny_standAt ?_)
  rw [hs]
  refine wpAny_bind (wpAny_pure ?_)
  rw [if_neg (by decide)]
  refine wpAny_bind (Tuple_ (thn (ha _ pins s σ H _ I h) fun us s1 ⟨vs, H1, I1, r1, q1⟩ => ?_))
  obtain ⟨v, w, e1, q1⟩ := q1
  subst e1
  obtain ⟨u1, u2, rfl, rv, rw'⟩ : ∃ u1 u2, us = [u1, u2] ∧ RelV v u1 ∧ RelV w u2 := by
    cases r1 with
    | cons p q =>
      cases q with
      | cons p' q' =>
        cases q'
        exact ⟨_, _, rfl, p, p'⟩
  refine wpAny_newObj_type ?_ (by show 2 ≤ sizeLine; decide)
  have I2 : Inv X pins σ H1 { s1 with heap := s1.heap.push { cls := .type "tuple", data := .seq [u1, u2].toArray } } := I1.kept (t' := s1.toks) fun b o e => Heap.get?_push_of_some _ e
  rw [hw]
  refine wpAny_bind (wpAny_pure ?_)
  show wpAny (model X.prog X.w) X.A (do rule "assign.swapped-stores"; let items ← unpackItems (.ref s1.heap.objs.size) 2 none; assignInOrder [fun v => bindName X.env y v, fun v => bindName X.env x v] items.reverse; pure Flow.next) _ _ _
  refine wpAny_bind (wpAny_rule (wpAny_bind (unpackItems_tuple (items := #[u1, u2]) (I.ok.hd hc) (IsTup.new s1.heap _) fun h' hx' => ?_)))
  have I3 := I2.kept (h' := h') (t' := s1.toks) fun b o e => hx' b o (Nat.ne_of_lt (Heap.lt_size e)) e
  show wpAny _ _ (assignInOrder [fun v => bindName X.env y v, fun v => bindName X.env x v] [u2, u1] >>= fun _ => pure Flow.next) _ _ _
  refine wpAny_bind (assignInOrder_cons (wpAny_bindName (store_ok I3 hN hj (.inl hy) rw' (fun s2 I4 => ?_) (.inr hy))))
  refine assignInOrder_cons (wpAny_bindName (store_ok I4 hN hi (.inl hx) rv (fun s3 I5 => assignInOrder_nil (wpAny_pure ?_)) (.inr hx)))
  rw [List.set_comm _ _ (Ne.symm hij)] at I5
  exact ⟨_, H1, I5, q1⟩
end

section
variable {X : Cx} {pos : Pos}
def tWhile (c : TT) (tb : TS) : TS := fun D σ H => ∃ W : Nat → St → Hp → Prop, (∃ m, W m σ H) ∧ ∀ m σ H, W m σ H →
  c σ H fun b H1 => if b = true then ∃ N : St → Hp → Prop, (∀ σ' H', N σ' H' → ∃ m', m' < m ∧ W m' σ' H') ∧ tb { D with nx := N, ct := N, bk := D.nx } σ H1 else D.nx σ H1
theorem ps_while {c : Expr} {body : List Stmt} {tc : TT} {tb : TS} (hp : PassesOwn (model X.prog X.w) X.A X.env X.xe) (hc : PT X c tc) (hb : PSs X body tb) : PS X (.While c body [] pos) (tWhile tc tb) := by
  intro pins s σ H D I h
  obtain ⟨W, ⟨m0, w0⟩, turn⟩ := h
  refine wpAny_While (codeAny_whileLoop (fun n s' => ∃ σ' H', Inv X pins σ' H' s' ∧ W n σ' H') ?_ m0 ⟨σ, H, I, w0⟩)
  rintro n s1 ⟨σ1, H1, I1, w1⟩
  refine wpAny_passesOwn hp (thn (hc pins s1 σ1 H1 _ I1 (turn n σ1 H1 w1)) fun b s2 ⟨H2, I2, q2⟩ => ?_)
  cases b with
  | true =>
    obtain ⟨N, hN, q2⟩ := q2
    rw [if_pos rfl]
    refine wpAny_passesOwn hp (thn (hb pins s2 σ1 H2 _ I2 q2) fun f s3 q3 => ?_)
    cases f with
    | next =>
      obtain ⟨σ3, H3, I3, n3⟩ := q3
      obtain ⟨m', hm, w3⟩ := hN σ3 H3 n3
      exact ⟨m', hm, σ3, H3, I3, w3⟩
    | cont =>
      obtain ⟨σ3, H3, I3, n3⟩ := q3
      obtain ⟨m', hm, w3⟩ := hN σ3 H3 n3
      exact ⟨m', hm, σ3, H3, I3, w3⟩
    | brk => exact q3
    | ret v => exact q3
  | false =>
    rw [if_neg Bool.false_ne_true]
    exact wpAny_execs_nil ⟨σ1, H2, I2, q2⟩
end

structure It where
  go : Nat → Hp → Prop
  yld : Nat → Hp → V → Hp → Prop
  stop : Nat → Hp → Prop
def FpOk (X : Cx) (pins : List (Addr × Obj)) (H : Hp) (b : Addr) : Prop :=
  H b = none ∧ b ≠ X.env.locals ∧ b ∉ X.fs ∧ (b ∈ X.ex ∨ X.s₀.heap.objs.size ≤ b) ∧ (∀ x c, X.env.cells.lookup x = some c → c ≠ b) ∧ ∀ p ∈ X.pn ++ pins, p.1 ≠ b
theorem Inv.fpOk {X : Cx} {pins : List (Addr × Obj)} {σ : St} {H H' : Hp} {s : Shared} {b : Addr} (I : Inv X pins σ H s) (hb : s.heap.objs.size ≤ b) (hn : H' b = none) : FpOk X pins H' b := by
  refine ⟨hn, Nat.ne_of_gt (Nat.lt_of_lt_of_le I.lt hb), I.nofs hb, .inr (Nat.le_trans I.sz hb), fun x c e z => ?_, fun p hp z => ?_⟩
  · obtain ⟨v, q⟩ := I.cell x c e
    exact absurd (Nat.lt_of_lt_of_le q.lt (by rw [z]; exact hb)) (Nat.lt_irrefl _)
  · exact absurd (Nat.lt_of_lt_of_le (Heap.lt_size (I.pin p hp).1) (by rw [z]; exact hb)) (Nat.lt_irrefl _)
structure Turn (P : Program) (w : World) (K : PySem.W.Frag) (tg : Expr) (J : It) (fp : List Addr) (it : Addr) (tn : Nat → Heap → Prop) : Prop where
  mem : it ∈ fp
  obj : ∀ i h, tn i h → ∀ b ∈ fp, ∃ o, h.get? b = some o ∧ ∀ v, o.data ≠ .cell v
  keep : ∀ i h h', tn i h → (∀ b ∈ fp, ∀ o, h.get? b = some o → h'.get? b = some o) → tn i h'
  item : ∀ (X : Cx), X.prog = P → X.w = w → X.K = K → X.calm = true → ∀ (i : Nat) (pins : List (Addr × Obj)) (s : Shared) (σ : St) (H : Hp) (E : Value → Shared → Prop), Inv X pins σ H s → (∀ b ∈ fp, FpOk X pins H b) → tn i s.heap → J.go i H →
    wpAny (model P w) X.A (pyNext (.ref it)) (fun r s1 => ∃ u, r = some u ∧
      wpAny (model P w) X.A (letOwnedTupleGo tg (.ref it) u) (fun _ s2 => ∃ x H', Inv X pins σ H' s2 ∧ RelV x u ∧ J.yld i H x H' ∧ tn (i + 1) s2.heap ∧ ∀ b ∈ fp, H' b = none) E s1) E s
  done : ∀ (X : Cx), X.prog = P → X.w = w → X.K = K → X.calm = true → ∀ (i : Nat) (pins : List (Addr × Obj)) (s : Shared) (σ : St) (H : Hp) (E : Value → Shared → Prop), Inv X pins σ H s → (∀ b ∈ fp, FpOk X pins H b) → tn i s.heap → J.stop i H →
    wpAny (model P w) X.A (pyNext (.ref it)) (fun r s1 => r = none ∧ Inv X pins σ H s1) E s
  self : ∀ (A : Around) (i : Nat) (s : Shared) (Q : Value → Shared → Prop) (E : Value → Shared → Prop), tn i s.heap → Q (.ref it) s → wpAny (model P w) A (pyIter (.ref it)) Q E s
abbrev TI := St → Hp → (It → Hp → Prop) → Prop
def PIE (X : Cx) (pins : List (Addr × Obj)) (σ : St) (tg : Expr) (R : It → Hp → Prop) (itv : Value) (s2 : Shared) : Prop :=
  ∃ (it : Addr) (fp : List Addr) (tn : Nat → Heap → Prop) (J : It) (H' : Hp), itv = .ref it ∧ Inv X pins σ H' s2 ∧ Turn X.prog X.w X.K tg J fp it tn ∧ tn 0 s2.heap ∧ (∀ b ∈ fp, FpOk X pins H' b) ∧ R J H'
def PI (X : Cx) (tg iter : Expr) (wi : TI) : Prop :=
  ∀ (pins : List (Addr × Obj)) (s : Shared) (σ : St) (H : Hp) (R : It → Hp → Prop), Inv X pins σ H s → wi σ H R →
    wpAny (model X.prog X.w) X.A (eval iter X.env) (fun v s1 => wpAny (model X.prog X.w) X.A (pyIter v) (PIE X pins σ tg R) X.xe s1) X.xe s

theorem go_of {M : Model} {A : Around} {E : Value → Shared → Prop} {s : Shared} {tg : Expr} {it : Addr} {u : Value} {o : Obj} {n : String} {vs : Array Value} {Q : Unit → Shared → Prop} (ho : s.heap.get? it = some o) (hc : o.cls = .type n) (hd : o.data = .fields vs)
    (hn : ["enumerate", "zip", "dict_itemiterator", "dict_reverseitemiterator", "odict_iterator", "itertools.zip_longest", "itertools.pairwise"].contains n = false) (hQ : Q () s) : wpAny M A (letOwnedTupleGo tg (.ref it) u) Q E s := by
  unfold letOwnedTupleGo
  cases tg <;> first
    | exact wpAny_pure hQ
    | (cases u <;> first
        | exact wpAny_pure hQ
        | (refine wpAny_bind (wpAny_load ho ?_)
           rw [hc, hd]
           show wpAny M A (if (["enumerate", "zip", "dict_itemiterator", "dict_reverseitemiterator", "odict_iterator", "itertools.zip_longest", "itertools.pairwise"].contains n && vs[0]? == some (rawInt _)) = true then _ else _) Q E s
           rw [if_neg (by intro h; rw [hn, Bool.false_and] at h; cases h)]
           exact wpAny_pure hQ))

def Itl (K : PySem.W.Frag) (a : Addr) : It :=
  ⟨fun i H => ∃ xs x, SqL K H a xs ∧ xs[i]? = some x, fun i H x H' => H' = H ∧ ∀ xs, SqL K H a xs → xs[i]? = some x, fun i H => ∃ xs, SqL K H a xs ∧ xs.length ≤ i⟩
def Itt (K : PySem.W.Frag) (a : Addr) : It :=
  ⟨fun i H => ∃ xs x, SqT K H a xs ∧ xs[i]? = some x, fun i H x H' => H' = H ∧ ∀ xs, SqT K H a xs → xs[i]? = some x, fun i H => ∃ xs, SqT K H a xs ∧ xs.length ≤ i⟩
def Itr (lo : Int) (n : Nat) : It := ⟨fun i _ => i < n, fun i H x H' => H' = H ∧ x = .int (lo + i), fun i _ => n ≤ i⟩
theorem turn_list {P : Program} {w : World} {K : PySem.W.Frag} {tg : Expr} (a it : Addr) : Turn P w K tg (Itl K a) [it] it (fun i h => h.IsListIter it a i) where
  mem := by simp
  obj := fun i h st b hb => by
    have e : b = it := by simpa using hb
    subst e
    obtain ⟨o, e, c, d⟩ := st
    exact ⟨o, e, fun v z => by rw [d] at z; cases z⟩
  keep := fun i h h' st k => st.at fun o e => k it (by simp) o e
  item := by
    intro X hP hw hK hc i pins s σ H E I hf st hg
    subst hP hw hK
    obtain ⟨xs, x, hq, hx⟩ := hg
    obtain ⟨its, rv, p, hz⟩ := I.list hq
    obtain ⟨u, hu, ru⟩ := rv.get hx
    obtain ⟨f0, f1, f2, f3, f4, f5⟩ := hf it (by simp)
    refine wpAny_pyNext_list_item st p.isList (x := u) (by simpa using hu) fun h' st' sb => ?_
    have I1 : Inv X pins σ H { s with heap := h' } := I.turned (t' := s.toks) (fun b o hb e => (sb.2 b hb).trans e) f0 f1 f3 f4 f5
    obtain ⟨o, e, c, d⟩ := id st'
    exact ⟨u, rfl, go_of (s := { s with heap := h' }) e c d (by decide) ⟨x, H, I1, ru, ⟨rfl, fun ys hy => by rw [I.list_inj hy hq]; exact hx⟩, st', fun b hb => (hf b hb).1⟩⟩
  done := by
    intro X hP hw hK hc i pins s σ H E I hf st hg
    subst hP hw hK
    obtain ⟨xs, hq, hx⟩ := hg
    obtain ⟨its, rv, p, hz⟩ := I.list hq
    obtain ⟨f0, f1, f2, f3, f4, f5⟩ := hf it (by simp)
    have hl := rv.length
    exact wpAny_pyNext_list_end (I.ok.hd hc) st p.isList (by simp; omega) fun h' eb => ⟨rfl, I.turned (t' := s.toks) (fun b o hb e => eb b o hb e) f0 f1 f3 f4 f5⟩
  self := fun _ _ _ _ _ st h => wpAny_pyIter_listiter st h
theorem turn_tuple {P : Program} {w : World} {K : PySem.W.Frag} {tg : Expr} (a it : Addr) : Turn P w K tg (Itt K a) [it] it (fun i h => h.IsTupleIter it a i) where
  mem := by simp
  obj := fun i h st b hb => by
    have e : b = it := by simpa using hb
    subst e
    obtain ⟨o, e, c, d⟩ := st
    exact ⟨o, e, fun v z => by rw [d] at z; cases z⟩
  keep := fun i h h' st k => st.at fun o e => k it (by simp) o e
  item := by
    intro X hP hw hK hc i pins s σ H E I hf st hg
    subst hP hw hK
    obtain ⟨xs, x, hq, hx⟩ := hg
    obtain ⟨its, rv, p, hz⟩ := I.tuple hq
    obtain ⟨u, hu, ru⟩ := rv.get hx
    obtain ⟨f0, f1, f2, f3, f4, f5⟩ := hf it (by simp)
    refine wpAny_pyNext_tuple_item st (show s.heap.IsTuple a its.toArray from p) (x := u) (by simpa using hu) fun h' st' sb => ?_
    have I1 : Inv X pins σ H { s with heap := h' } := I.turned (t' := s.toks) (fun b o hb e => (sb.2 b hb).trans e) f0 f1 f3 f4 f5
    obtain ⟨o, e, c, d⟩ := id st'
    exact ⟨u, rfl, go_of (s := { s with heap := h' }) e c d (by decide) ⟨x, H, I1, ru, ⟨rfl, fun ys hy => by rw [I.tuple_inj hy hq]; exact hx⟩, st', fun b hb => (hf b hb).1⟩⟩
  done := by
    intro X hP hw hK hc i pins s σ H E I hf st hg
    subst hP hw hK
    obtain ⟨xs, hq, hx⟩ := hg
    obtain ⟨its, rv, p, hz⟩ := I.tuple hq
    obtain ⟨f0, f1, f2, f3, f4, f5⟩ := hf it (by simp)
    have hl := rv.length
    exact wpAny_pyNext_tuple_end (I.ok.hd hc) st (show s.heap.IsTuple a its.toArray from p) (by simp; omega) fun h' eb => ⟨rfl, I.turned (t' := s.toks) (fun b o hb e => eb b o hb e) f0 f1 f3 f4 f5⟩
  self := fun _ _ _ _ _ st h => wpAny_pyIter_tupleiter st h
theorem turn_range {P : Program} {w : World} {K : PySem.W.Frag} {tg : Expr} (it : Addr) (lo : Int) (n : Nat) : Turn P w K tg (Itr lo n) [it] it (fun i h => IsRangeIter h it (lo + (i : Nat) * 1) ((n : Int) - (i : Nat)) 1) where
  mem := by simp
  obj := fun i h st b hb => by
    have e : b = it := by simpa using hb
    subst e
    exact ⟨_, st, fun v z => by
      have z' : Data.fields _ = Data.cell v := z
      cases z'⟩
  keep := fun i h h' st k => k it (by simp) _ st
  item := by
    intro X hP hw hK hc i pins s σ H E I hf st hg
    subst hP hw hK
    obtain ⟨f0, f1, f2, f3, f4, f5⟩ := hf it (by simp)
    have W := Walks.range (prog := X.prog) (w := X.w) (I.ok.hd hc) it lo 1 n
    refine W.item i s _ _ hg st fun v h' tk hv st' kk => ?_
    obtain ⟨t, rfl⟩ := hv
    have I1 : Inv X pins σ H { s with heap := h', toks := tk } := I.turned (fun b o hb e => kk b o (by simpa using hb) e) f0 f1 f3 f4 f5
    refine ⟨_, rfl, go_of (s := { s with heap := h', toks := tk }) (n := "range_iterator") st' rfl rfl (by decide) ⟨.int (lo + i), H, I1, ⟨t, ?_⟩, ⟨rfl, rfl⟩, st', fun b hb => (hf b hb).1⟩⟩
    rw [Int.mul_one]
  done := by
    intro X hP hw hK hc i pins s σ H E I hf st hg
    subst hP hw hK
    obtain ⟨f0, f1, f2, f3, f4, f5⟩ := hf it (by simp)
    exact wpAny_pyNext_range_end (I.ok.hd hc) st (by have : n ≤ i := hg; omega) fun h' eb => ⟨rfl, I.turned (t' := s.toks) (fun b o hb e => eb b o hb e) f0 f1 f3 f4 f5⟩
  self := fun _ _ _ _ _ st h => wpAny_pyIter_rangeiter st h
end L2

namespace L2
open PySem PySem.Spec PyProof.Rows
section
variable {X : Cx} {tg : Expr}
def iList (K : PySem.W.Frag) (tl : TE) : TI := fun σ H R => tl σ H fun x H1 => ∃ a, x = .ref a ∧ (∃ xs, SqL K H1 a xs) ∧ R (Itl K a) H1
def iTup (K : PySem.W.Frag) (tl : TE) : TI := fun σ H R => tl σ H fun x H1 => ∃ a, x = .ref a ∧ (∃ xs, SqT K H1 a xs) ∧ R (Itt K a) H1
theorem pi_list {l : Expr} {tl : TE} (hl : PE X l tl) : PI X tg l (iList X.K tl) := by
  intro pins s σ H R I h
  refine thn (hl pins s σ H _ I h) fun v s1 ⟨x, H1, I1, r1, q1⟩ => ?_
  obtain ⟨a, e, ⟨xs, hq⟩, q⟩ := q1
  subst e
  cases r1
  obtain ⟨its, rv, p, hz⟩ := I1.list hq
  refine wpAny_pyIter_list p.isList ?_
  refine ⟨s1.heap.objs.size, [s1.heap.objs.size], _, _, H1, rfl, I1.kept (t' := s1.toks) fun b o e => Heap.get?_push_of_some _ e, turn_list a _, ⟨_, Heap.get?_push_size _ rfl, rfl, rfl⟩, fun b hb => ?_, q⟩
  have e : b = s1.heap.objs.size := by simpa using hb
  subst e
  exact I1.fpOk (Nat.le_refl _) (I1.hok.fresh (Nat.le_refl _))
theorem pi_tup {l : Expr} {tl : TE} (hl : PE X l tl) : PI X tg l (iTup X.K tl) := by
  intro pins s σ H R I h
  refine thn (hl pins s σ H _ I h) fun v s1 ⟨x, H1, I1, r1, q1⟩ => ?_
  obtain ⟨a, e, ⟨xs, hq⟩, q⟩ := q1
  subst e
  cases r1
  obtain ⟨its, rv, p, hz⟩ := I1.tuple hq
  refine wpAny_pyIter_tuple (show s1.heap.IsTuple a its.toArray from p) ?_
  refine ⟨s1.heap.objs.size, [s1.heap.objs.size], _, _, H1, rfl, I1.kept (t' := s1.toks) fun b o e => Heap.get?_push_of_some _ e, turn_tuple a _, ⟨_, Heap.get?_push_size _ rfl, rfl, rfl⟩, fun b hb => ?_, q⟩
  have e : b = s1.heap.objs.size := by simpa using hb
  subst e
  exact I1.fpOk (Nat.le_refl _) (I1.hok.fresh (Nat.le_refl _))
theorem range_it {pins : List (Addr × Obj)} {σ : St} {H : Hp} {s : Shared} {R : It → Hp → Prop} {E : Value → Shared → Prop} {lo hi : Int} {t u v : Tok} {tk : Nat} (I : Inv X pins σ H s) (h1 : -(2 ^ 62) ≤ lo) (h2 : lo < 2 ^ 62) (h3 : -(2 ^ 62) ≤ hi) (h4 : hi < 2 ^ 62)
    (q : R (Itr lo (hi - lo).toNat) H) : wpAny (model X.prog X.w) X.A (pyIter (.ref s.heap.objs.size)) (PIE X pins σ tg R) E { s with heap := s.heap.push { cls := .type "range", data := .fields #[.int lo t, .int hi u, .int 1 v] }, toks := tk } := by
  refine wpAny_pyIter_range (IsRange.new ..) (small_one h1 h2 h3 h4) ?_
  have I1 : Inv X pins σ H { s with heap := s.heap.push { cls := .type "range", data := .fields #[.int lo t, .int hi u, .int 1 v] }, toks := tk } := I.kept fun b o e => Heap.get?_push_of_some _ e
  refine ⟨(s.heap.push { cls := .type "range", data := .fields #[.int lo t, .int hi u, .int 1 v] }).objs.size, [(s.heap.push { cls := .type "range", data := .fields #[.int lo t, .int hi u, .int 1 v] }).objs.size], _, _, H, rfl,
    I1.kept (t' := tk) fun b o e => Heap.get?_push_of_some _ e, turn_range _ lo (hi - lo).toNat, ?_, fun b hb => ?_, q⟩
  · have e1 : lo + ((0 : Nat) : Int) * 1 = lo := by simp
    have e2 : (((hi - lo).toNat : Nat) : Int) - ((0 : Nat) : Int) = Builtin.Range.rangeSize lo hi 1 := by rw [rangeSize_one]; split <;> omega
    show IsRangeIter _ _ (lo + ((0 : Nat) : Int) * 1) ((((hi - lo).toNat : Nat) : Int) - ((0 : Nat) : Int)) 1
    rw [e1, e2]
    exact Heap.get?_push_size _ rfl
  · have e : b = (s.heap.push { cls := .type "range", data := .fields #[.int lo t, .int hi u, .int 1 v] }).objs.size := by simpa using hb
    subst e
    exact I1.fpOk (Nat.le_refl _) (I1.hok.fresh (Nat.le_refl _))
def iRng1 (ta : TA) : TI := fun σ H R => ta σ H fun vs H1 => ∃ j : Int, vs = [.int j] ∧ -(2 ^ 62) ≤ j ∧ j < 2 ^ 62 ∧ R (Itr 0 j.toNat) H1
theorem pi_range1 {a : Expr} {ta : TA} {p pos : Pos} (hg : Gl X "range") (hm : X.mg "range" = none) (ha : PA X [a] ta) (hs : starEach [a] X.env = [(false, eval a X.env)] := by rfl) : PI X tg (.Call (.Name "range" p) [a] [] pos) (iRng1 ta) := by
  intro pins s σ H R I h
  refine Call_ (ld_blt I hg hm boot_range (PyProof.Rows.callWith_type1 (thn (ha pos pins s σ H _ I h) fun us s1 ⟨vs, H1, I1, r1, q1⟩ => ?_) hs rfl))
  obtain ⟨j, e, q1, q2, q⟩ := q1
  subst e
  cases r1 with
  | cons r rr =>
    cases rr
    obtain ⟨t, rfl⟩ := r
    exact call_range_1 (range_it I1 (by omega) (by omega) q1 q2 (by simpa using q))
def tFor (wi : TI) (g : TG) (tb : TS) : TS := fun D σ H => wi σ H fun J H1 => ∃ W : Nat → Nat → St → Hp → Prop, (∃ m, W 0 m σ H1) ∧ ∀ i m σ H, W i m σ H →
  (J.stop i H ∧ D.nx σ H) ∨ (J.go i H ∧ ∃ N : St → Hp → Prop, (∀ σ' H', N σ' H' → ∃ m', m' < m ∧ W (i + 1) m' σ' H') ∧ ∀ x H', J.yld i H x H' → g x σ H' fun σ2 H2 => tb { D with nx := N, ct := N, bk := D.nx } σ2 H2)
def pinsAt (fp : List Addr) (h : Heap) : List (Addr × Obj) := fp.filterMap fun b => (h.get? b).map fun o => (b, o)
theorem mem_pinsAt {fp : List Addr} {h : Heap} {b : Addr} {o : Obj} (hb : b ∈ fp) (e : h.get? b = some o) : (b, o) ∈ pinsAt fp h := List.mem_filterMap.mpr ⟨b, hb, by rw [e]; rfl⟩
theorem of_pinsAt {fp : List Addr} {h : Heap} {p : Addr × Obj} (hp : p ∈ pinsAt fp h) : p.1 ∈ fp ∧ h.get? p.1 = some p.2 := by
  obtain ⟨b, hb, e⟩ := List.mem_filterMap.mp hp
  cases q : h.get? b with
  | none => rw [q] at e; cases e
  | some o =>
    rw [q] at e
    have e' : (b, o) = p := Option.some.inj e
    subst e'
    exact ⟨hb, q⟩
theorem Inv.pinned {pins : List (Addr × Obj)} {σ : St} {H : Hp} {s : Shared} {fp : List Addr} (I : Inv X pins σ H s) (hf : ∀ b ∈ fp, FpOk X pins H b) (ho : ∀ b ∈ fp, ∃ o, s.heap.get? b = some o ∧ ∀ v, o.data ≠ .cell v) : Inv X (pins ++ pinsAt fp s.heap) σ H s :=
  I.pins_of fun p hp => (List.mem_append.mp hp).elim (fun z => I.pin p (List.mem_append_right _ z)) fun z => by
    obtain ⟨hb, e⟩ := of_pinsAt z
    obtain ⟨f0, f1, f2, _⟩ := hf p.1 hb
    obtain ⟨o, e', d⟩ := ho p.1 hb
    rw [e] at e'; cases e'
    exact ⟨e, f0, f1, f2, d⟩
theorem Inv.unpinned {pins pl : List (Addr × Obj)} {σ : St} {H : Hp} {s : Shared} (I : Inv X (pins ++ pl) σ H s) : Inv X pins σ H s := I.pins_of fun p hp => I.pin p (List.mem_append_right _ (List.mem_append_left _ hp))
theorem ps_for {iter : Expr} {body : List Stmt} {wi : TI} {g : TG} {tb : TS} {pos : Pos} (hp : PassesOwn (model X.prog X.w) X.A X.env X.xe) (hc : X.calm = true) (hi : PI X tg iter wi) (hg : PG X tg g) (hb : PSs X body tb)
    (hs : ∀ x, foldedSetIterable iter X.env x = pure x := by intro _; rfl) : PS X (.For tg iter body [] pos) (tFor wi g tb) := by
  intro pins s σ H D I h
  refine wpAny_For (thn (hi pins s σ H _ I h) fun v s1 h1 => thn h1 fun itv s2 h2 => ?_) hs
  obtain ⟨it, fp, tn, J, H2, e, I2, T, st2, f2, W, ⟨m0, w0⟩, turn⟩ := h2
  subst e
  -- what stays true of the iterator's objects through the loop
  have stat : ∀ {H' : Hp}, (∀ b ∈ fp, H' b = none) → ∀ b ∈ fp, FpOk X pins H' b := fun hn b hb => ⟨hn b hb, (f2 b hb).2⟩
  refine codeAny_forLoop_any (fun n s' => ∃ i σ' H', Inv X pins σ' H' s' ∧ tn i s'.heap ∧ (∀ b ∈ fp, H' b = none) ∧ W i n σ' H') ?_ m0 ⟨0, σ, H2, I2, st2, fun b hb => (f2 b hb).1, w0⟩
  rintro n s3 ⟨i, σ3, H3, I3, st3, fr3, w3⟩
  rcases turn i n σ3 H3 w3 with ⟨stop, qn⟩ | ⟨go, N, hN, step⟩
  · refine wpAny_passesOwn hp (thn (T.done X rfl rfl rfl hc i pins s3 σ3 H3 X.xe I3 (stat fr3) st3 stop) fun r s4 ⟨hr, I4⟩ => ?_)
    subst hr
    exact wpAny_execs_nil ⟨σ3, H3, I4, qn⟩
  · refine wpAny_passesOwn hp (thn (T.item X rfl rfl rfl hc i pins s3 σ3 H3 X.xe I3 (stat fr3) st3 go) fun r s4 ⟨u, hr, h4⟩ => ?_)
    subst hr
    refine wpAny_passesOwn hp (thn h4 fun _ s5 ⟨x, H5, I5, r5, y5, st5, fr5⟩ => ?_)
    have I5' := I5.pinned (stat fr5) (T.obj _ _ st5)
    refine wpAny_passesOwn hp (thn (hg _ s5 σ3 H5 x u _ I5' r5 (step x H5 y5)) fun _ s6 ⟨σ6, H6, I6, q6⟩ => ?_)
    refine wpAny_passesOwn hp (thn (hb _ s6 σ6 H6 _ I6 q6) fun f s7 q7 => ?_)
    have again : ∀ {σ7 : St} {H7 : Hp}, Inv X (pins ++ pinsAt fp s5.heap) σ7 H7 s7 → N σ7 H7 → ∃ m, m < n ∧ ∃ i σ' H', Inv X pins σ' H' s7 ∧ tn i s7.heap ∧ (∀ b ∈ fp, H' b = none) ∧ W i m σ' H' := fun {σ7 H7} I7 n7 => by
      obtain ⟨m', hm, w7⟩ := hN σ7 H7 n7
      refine ⟨m', hm, i + 1, σ7, H7, I7.unpinned, T.keep _ _ _ st5 fun b hb o e => (I7.pin (b, o) (List.mem_append_right _ (List.mem_append_right _ (mem_pinsAt hb e)))).1, fun b hb => ?_, w7⟩
      obtain ⟨o, e, d⟩ := T.obj _ _ st5 b hb
      exact (I7.pin (b, o) (List.mem_append_right _ (List.mem_append_right _ (mem_pinsAt hb e)))).2.1
    cases f with
    | next => obtain ⟨σ7, H7, I7, n7⟩ := q7; exact again I7 n7
    | cont => obtain ⟨σ7, H7, I7, n7⟩ := q7; exact again I7 n7
    | brk => obtain ⟨σ7, H7, I7, q7⟩ := q7; exact ⟨σ7, H7, I7.unpinned, q7⟩
    | ret v => obtain ⟨x7, σ7, H7, I7, r7, q7⟩ := q7; exact ⟨x7, σ7, H7, I7.unpinned, r7, q7⟩
end

end L2

namespace L2
open PySem PySem.Spec PyProof.Rows

abbrev R2 := V → V → Hp → VK → Prop
def OpR (X : Cx) (f : Value → Value → Sem Value) (r : R2) : Prop :=
  ∀ (pins : List (Addr × Obj)) (s : Shared) (σ : St) (H : Hp) (x y : V) (v u : Value) (Q : VK), Inv X pins σ H s → RelV x v → RelV y u → r x y H Q →
    wpAny (model X.prog X.w) X.A (f v u) (EP X pins σ Q) X.xe s
def UnR (X : Cx) (f : Value → Sem Value) (r : V → Hp → VK → Prop) : Prop :=
  ∀ (pins : List (Addr × Obj)) (s : Shared) (σ : St) (H : Hp) (x : V) (v : Value) (Q : VK), Inv X pins σ H s → RelV x v → r x H Q →
    wpAny (model X.prog X.w) X.A (f v) (EP X pins σ Q) X.xe s
def CallR (X : Cx) (f : Value) (r : List V → Hp → VK → Prop) : Prop :=
  ∀ (pins : List (Addr × Obj)) (s : Shared) (σ : St) (H : Hp) (xs : List V) (us : List Value) (Q : VK), Inv X pins σ H s → Vals xs us → r xs H Q →
    wpAny (model X.prog X.w) X.A (call f us) (EP X pins σ Q) X.xe s
def tOp (r : R2) (ta tb : TE) : TE := fun σ H Q => ta σ H fun x H1 => tb σ H1 fun y H2 => r x y H2 Q
def tUn (r : V → Hp → VK → Prop) (ta : TE) : TE := fun σ H Q => ta σ H fun x H1 => r x H1 Q
def rI (C : Int → Int → Prop) (g : Int → Int → V) : R2 := fun x y H Q => ∃ i j, x = .int i ∧ y = .int j ∧ C i j ∧ Q (g i j) H
def rI0 (g : Int → Int → V) : R2 := fun x y H Q => ∃ i j, x = .int i ∧ y = .int j ∧ Q (g i j) H
def rU (g : Int → V) : V → Hp → VK → Prop := fun x H Q => ∃ i, x = .int i ∧ Q (g i) H

section
variable {X : Cx} {a b c : Expr} {ta tb tc : TE} {pos : Pos}

theorem binT (ha : PE X a ta) (hb : PE X b tb) {pins : List (Addr × Obj)} {s : Shared} {σ : St} {H : Hp} {R : V → V → Hp → Prop} (I : Inv X pins σ H s)
    (h : ta σ H fun x H1 => tb σ H1 fun y H2 => R x y H2) {Q : Value → Shared → Prop} {f : Value → Value → Sem Value}
    (hf : ∀ v u s2 x y H2, Inv X pins σ H2 s2 → RelV x v → RelV y u → R x y H2 → wpAny (model X.prog X.w) X.A (f v u) Q X.xe s2) :
    wpAny (model X.prog X.w) X.A (eval a X.env) (fun v s₁ => wpAny (model X.prog X.w) X.A (eval b X.env) (fun u s₂ => wpAny (model X.prog X.w) X.A (f v u) Q X.xe s₂) X.xe s₁) X.xe s := by
  refine thn (ha pins s σ H _ I h) fun v s1 ⟨x, H1, I1, r1, q1⟩ => ?_
  refine thn (hb pins s1 σ H1 _ I1 q1) fun u s2 ⟨y, H2, I2, r2, q2⟩ => ?_
  exact hf v u s2 x y H2 I2 r1 r2 q2

theorem pe_op {op : Operator} {r : R2} (ho : OpR X (binaryOp op) r) (ha : PE X a ta) (hb : PE X b tb) : PE X (.BinOp a op b pos) (tOp r ta tb) := by
  intro pins s σ H Q I h
  exact wpAny_BinOp (binT ha hb I h fun v u s2 x y H2 I2 rx ry q => ho pins s2 σ H2 x y v u Q I2 rx ry q)
theorem pe_un {op : UnaryOp} {r : V → Hp → VK → Prop} (ho : UnR X (unaryOp op) r) (ha : PE X a ta) : PE X (.UnaryOp op a pos) (tUn r ta) := by
  intro pins s σ H Q I h
  exact UnaryOp_ (thn (ha pins s σ H _ I h) fun v s1 ⟨x, H1, I1, r1, q1⟩ => ho pins s1 σ H1 x v Q I1 r1 q1)
theorem opI {f : Value → Value → Sem Value} {C : Int → Int → Prop} {g : Int → Int → Int}
    (rule : ∀ (i j : Int) (t u : Tok) (s : Shared) (Q : Value → Shared → Prop) (E : Value → Shared → Prop), C i j → Q (.int (g i j) s.toks) { s with toks := s.toks + 1 } → wpAny (model X.prog X.w) X.A (f (.int i t) (.int j u)) Q E s) :
    OpR X f (rI C fun i j => .int (g i j)) := by
  intro pins s σ H x y v u Q I rx ry h
  obtain ⟨i, j, rfl, rfl, hc, q⟩ := h
  obtain ⟨t, rfl⟩ := rx
  obtain ⟨t', rfl⟩ := ry
  exact rule i j t t' s _ _ hc ⟨.int (g i j), H, I.tok _, ⟨_, rfl⟩, q⟩
theorem opI0 {f : Value → Value → Sem Value} {g : Int → Int → Int}
    (rule : ∀ (i j : Int) (t u : Tok) (s : Shared) (Q : Value → Shared → Prop) (E : Value → Shared → Prop), Q (.int (g i j) s.toks) { s with toks := s.toks + 1 } → wpAny (model X.prog X.w) X.A (f (.int i t) (.int j u)) Q E s) :
    OpR X f (rI0 fun i j => .int (g i j)) := by
  intro pins s σ H x y v u Q I rx ry h
  obtain ⟨i, j, rfl, rfl, q⟩ := h
  obtain ⟨t, rfl⟩ := rx
  obtain ⟨t', rfl⟩ := ry
  exact rule i j t t' s _ _ ⟨.int (g i j), H, I.tok _, ⟨_, rfl⟩, q⟩
theorem opB0 {f : Value → Value → Sem Value} {g : Int → Int → Bool}
    (rule : ∀ (i j : Int) (t u : Tok) (s : Shared) (Q : Value → Shared → Prop) (E : Value → Shared → Prop), Q (.bool (g i j)) s → wpAny (model X.prog X.w) X.A (f (.int i t) (.int j u)) Q E s) :
    OpR X f (rI0 fun i j => .bl (g i j)) := by
  intro pins s σ H x y v u Q I rx ry h
  obtain ⟨i, j, rfl, rfl, q⟩ := h
  obtain ⟨t, rfl⟩ := rx
  obtain ⟨t', rfl⟩ := ry
  exact rule i j t t' s _ _ ⟨.bl (g i j), H, I, rfl, q⟩

def CPow (i j : Int) : Prop := 0 ≤ j ∧ j ≤ 1000000 ∧ i.natAbs < 2 ^ 64
def CMul (i j : Int) : Prop := (-(2 ^ 64) < i ∧ i < 2 ^ 64) ∨ (-(2 ^ 64) < j ∧ j < 2 ^ 64)
theorem CMul.ok {i j : Int} (h : CMul i j) : IntMulOk i j := by
  rcases h with ⟨h1, h2⟩ | ⟨h1, h2⟩
  · exact .of_left (intBits_le_64 h1 h2)
  · exact .of_right (intBits_le_64 h1 h2)
theorem op_add : OpR X (binaryOp .Add) (rI0 fun i j => .int (i + j)) := opI0 fun _ _ _ _ _ _ _ q => add_int q
theorem op_sub : OpR X (binaryOp .Sub) (rI0 fun i j => .int (i - j)) := opI0 fun _ _ _ _ _ _ _ q => sub_int q
theorem op_mod : OpR X (binaryOp .Mod) (rI (fun _ j => 0 < j) fun i j => .int (i % j)) := opI fun i j _ _ _ _ _ hc q => by
  have h1 : (0 : Int) < j := hc
  exact mod_int' (by omega) (by rw [Int.fmod_eq_emod_of_nonneg i (by omega)]; exact q)
theorem op_modN : OpR X (binaryOp .Mod) (rI (fun _ j => j ≠ 0) fun i j => .int (i.fmod j)) := opI fun _ _ _ _ _ _ _ hc q => mod_int' hc q
theorem op_pow : OpR X (binaryOp .Pow) (rI CPow fun i j => .int (i ^ j.toNat)) := opI fun _ _ _ _ _ _ _ hc q => pow_int_small hc.1 hc.2.1 hc.2.2 q
theorem unI {f : Value → Sem Value} {g : Int → Int}
    (rule : ∀ (i : Int) (t : Tok) (s : Shared) (Q : Value → Shared → Prop) (E : Value → Shared → Prop), Q (.int (g i) s.toks) { s with toks := s.toks + 1 } → wpAny (model X.prog X.w) X.A (f (.int i t)) Q E s) :
    UnR X f (rU fun i => .int (g i)) := by
  intro pins s σ H x v Q I rx h
  obtain ⟨i, rfl, q⟩ := h
  obtain ⟨t, rfl⟩ := rx
  exact rule i t s _ _ ⟨.int (g i), H, I.tok _, ⟨_, rfl⟩, q⟩
theorem un_neg : UnR X (unaryOp .USub) (rU fun i => .int (-i)) := unI fun _ _ _ _ _ q => neg_int q
end

def scal : V → V → Bool
  | .non, .non => true | .non, .int _ => true | .int _, .non => true | .non, .bl _ => true | .bl _, .non => true | .non, .str _ => true | .str _, .non => true
  | .int _, .int _ => true | .bl _, .bl _ => true | .str _, .str _ => true | .byt _, .byt _ => true
  | .int _, .str _ => true | .str _, .int _ => true | .bl _, .str _ => true | .str _, .bl _ => true
  | _, _ => false
def rEq : R2 := fun x y H Q => scal x y = true ∧ Q (.bl (decide (x = y))) H
theorem dec_int {i j : Int} : decide (V.int i = V.int j) = (i == j) := by
  rw [Bool.eq_iff_iff]
  simp
theorem dec_bl {i j : Bool} : decide (V.bl i = V.bl j) = (i == j) := by
  rw [Bool.eq_iff_iff]
  simp
theorem dec_str {i j : Str} : decide (V.str i = V.str j) = (i == j) := by
  rw [Bool.eq_iff_iff]
  simp
theorem dec_byt {i j : Array UInt8} : decide (V.byt i = V.byt j) = (i.toList == j.toList) := by
  rw [Bool.eq_iff_iff]
  cases i
  cases j
  simp

section
variable {X : Cx} {a b c : Expr} {ta tb tc : TE} {pos : Pos}
theorem fin_bl {pins : List (Addr × Obj)} {σ : St} {H : Hp} {s : Shared} {Q : VK} {k k' : Bool} (I : Inv X pins σ H s) (q : Q (.bl k) H) (e : k = k') : EP X pins σ Q (.bool k') s := by
  subst e
  exact ⟨.bl k, H, I, rfl, q⟩
theorem op_eq : OpR X (compareOp .Eq) rEq := by
  intro pins s σ H x y v u Q I rx ry h
  obtain ⟨hs, q⟩ := h
  cases x with
  | non =>
    cases rx
    cases y with
    | non => cases ry; exact PySem.EqNone.eq_none_none (fin_bl I q (by simp))
    | bl j => cases ry; exact PySem.EqNone.eq_none_bool (fin_bl I q (by simp))
    | int j => obtain ⟨t', rfl⟩ := ry; exact PySem.EqNone.eq_none_int (fin_bl I q (by simp))
    | str j => obtain ⟨t', rfl⟩ := ry; exact PySem.EqNone.eq_none_str (fin_bl I q (by simp))
    | _ => exact absurd (show false = true from hs) Bool.false_ne_true
  | bl i =>
    cases rx
    cases y with
    | non => cases ry; exact PySem.EqNone.eq_bool_none (fin_bl I q (by simp))
    | bl j => cases ry; exact eq_bool (fin_bl I q dec_bl)
    | str j => obtain ⟨t', rfl⟩ := ry; exact PySem.EqMixed.eq_bool_str (fin_bl I q (by simp))
    | _ => exact absurd (show false = true from hs) Bool.false_ne_true
  | int i =>
    obtain ⟨t, rfl⟩ := rx
    cases y with
    | non => cases ry; exact PySem.EqNone.eq_int_none (fin_bl I q (by simp))
    | int j => obtain ⟨t', rfl⟩ := ry; exact eq_int (fin_bl I q dec_int)
    | str j => obtain ⟨t', rfl⟩ := ry; exact PySem.EqMixed.eq_int_str (fin_bl I q (by simp))
    | _ => exact absurd (show false = true from hs) Bool.false_ne_true
  | str i =>
    obtain ⟨t, rfl⟩ := rx
    cases y with
    | non => cases ry; exact PySem.EqNone.eq_str_none (fin_bl I q (by simp))
    | bl j => cases ry; exact PySem.EqMixed.eq_str_bool (fin_bl I q (by simp))
    | int j => obtain ⟨t', rfl⟩ := ry; exact PySem.EqMixed.eq_str_int (fin_bl I q (by simp))
    | str j => obtain ⟨t', rfl⟩ := ry; exact eq_str (fin_bl I q dec_str)
    | _ => exact absurd (show false = true from hs) Bool.false_ne_true
  | byt i =>
    obtain ⟨t, rfl⟩ := rx
    cases y with
    | byt j => obtain ⟨t', rfl⟩ := ry; exact PySem.W.eq_bytes (fin_bl I q dec_byt)
    | _ => exact absurd (show false = true from hs) Bool.false_ne_true
  | _ => cases y <;> exact absurd (show false = true from hs) Bool.false_ne_true
theorem op_lt : OpR X (compareOp .Lt) (rI0 fun i j => .bl (decide (i < j))) := opB0 fun _ _ _ _ _ _ _ q => lt_int q
theorem op_gt : OpR X (compareOp .Gt) (rI0 fun i j => .bl (decide (j < i))) := opB0 fun _ _ _ _ _ _ _ q => gt_int q
theorem op_ge : OpR X (compareOp .GtE) (rI0 fun i j => .bl (decide (j ≤ i))) := opB0 fun _ _ _ _ _ _ _ q => ge_int q
theorem op_isN : OpR X (compareOp .Is) (fun x y H Q => y = .non ∧ Q (.bl (decide (x = .non))) H) := by
  intro pins s σ H x y v u Q I rx ry h
  obtain ⟨rfl, q⟩ := h
  cases ry
  refine is_none_gen (fin_bl I q ?_)
  cases x <;> first
    | (cases rx; rfl)
    | (obtain ⟨t, rfl⟩ := rx; rfl)
theorem op_notN : OpR X (compareOp .IsNot) (fun x y H Q => y = .non ∧ Q (.bl (!decide (x = .non))) H) := by
  intro pins s σ H x y v u Q I rx ry h
  obtain ⟨rfl, q⟩ := h
  cases ry
  refine isnot_none_gen (fin_bl I q ?_)
  cases x <;> first
    | (cases rx; rfl)
    | (obtain ⟨t, rfl⟩ := rx; rfl)

theorem OpR.or {f : Value → Value → Sem Value} {r r' : R2} (h : OpR X f r) (h' : OpR X f r') : OpR X f (fun x y H Q => r x y H Q ∨ r' x y H Q) := by
  intro pins s σ H x y v u Q I rx ry q
  rcases q with q | q
  · exact h pins s σ H x y v u Q I rx ry q
  · exact h' pins s σ H x y v u Q I rx ry q

theorem nomark (b : Expr) {op : CmpOp} (h : op ≠ .In := by decide) (h2 : op ≠ .NotIn := by decide) : behindInMarks op b = false := by
  have e1 : (op == CmpOp.In) = false := by cases op <;> first | rfl | exact absurd rfl h
  have e2 : (op == CmpOp.NotIn) = false := by cases op <;> first | rfl | exact absurd rfl h2
  cases b <;> simp [behindInMarks, e1, e2]
theorem pe_cmpR {op : CmpOp} {r : R2} (ho : OpR X (compareOp op) r) (ha : PE X a ta) (hb : PE X b tb) (hm : behindInMarks op b = false) : PE X (.Compare a [op] [b] pos) (tOp r ta tb) := by
  intro pins s σ H Q I h
  exact wpAny_Compare1 (binT ha hb I h fun v u s2 x y H2 I2 rx ry q => ho pins s2 σ H2 x y v u Q I2 rx ry q) hm
def tTest (t : TE) : TT := fun σ H Q => t σ H fun x H' => ∃ k, x = .bl k ∧ Q k H'
theorem pt_cmpR {op : CmpOp} {r : R2} (ho : OpR X (compareOp op) r) (ha : PE X a ta) (hb : PE X b tb) (hm : behindInMarks op b = false) : PT X (.Compare a [op] [b] pos) (tTest (tOp r ta tb)) := by
  intro pins s σ H Q I h
  refine wpAny_isTrue_Compare1 (thn (ha pins s σ H _ I h) fun v s1 ⟨x, H1, I1, r1, q1⟩ => thn (hb pins s1 σ H1 _ I1 q1) fun u s2 ⟨y, H2, I2, r2, q2⟩ =>
    thn (ho pins s2 σ H2 x y v u _ I2 r1 r2 q2) fun c s3 ⟨z, H3, I3, r3, k, e, q3⟩ => ?_) hm
  subst e
  cases r3
  exact wpAny_truthy_bool ⟨H3, I3, q3⟩
theorem line63 : (sizeLine : Nat) < 2 ^ 63 := by rw [sizeLine_eq]; decide
theorem vals1 {x : V} {us : List Value} (r : Vals [x] us) : ∃ u, us = [u] ∧ RelV x u := by
  cases r with
  | cons r1 r2 => cases r2; exact ⟨_, rfl, r1⟩
theorem vals2 {x y : V} {us : List Value} (r : Vals [x, y] us) : ∃ u w', us = [u, w'] ∧ RelV x u ∧ RelV y w' := by
  cases r with
  | cons r1 r2 =>
    cases r2 with
    | cons r3 r4 => cases r4; exact ⟨_, _, rfl, r1, r3⟩
theorem call_abs : CallR X (.builtin "abs") (fun xs H Q => ∃ i, xs = [.int i] ∧ Q (.int (if i < 0 then -i else i)) H) := by
  intro pins s σ H xs us Q I r h
  obtain ⟨i, rfl, q⟩ := h
  obtain ⟨u, rfl, t, rfl⟩ := vals1 r
  exact call_abs_int fun u tk => ⟨.int (if i < 0 then -i else i), H, I.tok _, ⟨_, rfl⟩, q⟩
end
end L2

namespace L2
open PySem PySem.Spec PyProof.Rows

structure ObjM (h : Heap) (x dx C : Addr) (mA : Str → Option Value) : Prop where
  obj : h.get? x = some (PySem.W.instObj C dx)
  ns : h.Ns1 dx mA
  ne : dx ≠ x

theorem lookIn_ns {h : Heap} {dx : Addr} {mA : Str → Option Value} (n : h.Ns1 dx mA) : ∃ od, h.get? dx = some od ∧ ∀ name, PySem.W.lookIn name od = some (mA name) := by
  obtain ⟨o, es, ep, ho, hd, hk, _, hm⟩ := n
  refine ⟨o, ho, fun name => ?_⟩
  have e := hm name
  unfold nsFind findBy at e
  rw [← Array.find?_toList] at e
  unfold PySem.W.lookIn
  rw [hd]
  dsimp only
  split
  · rename_i y q
    rw [q] at e
    exact congrArg some e
  · rename_i q
    rw [q] at e
    have a : es.toList.any (·.refKey) = false := by
      rw [List.any_eq_false]
      intro y hy
      obtain ⟨z, t, hkey⟩ := hk y (Array.mem_toList_iff.mp hy)
      simp [DictEntry.refKey, hkey]
    have a' : ¬ es.toList.any (·.refKey) = true := by rw [a]; exact Bool.false_ne_true
    rw [if_neg a']
    exact congrArg some e

theorem ObjM.look {h : Heap} {x dx C : Addr} {mA : Str → Option Value} (I : ObjM h x dx C mA) : ∃ od, PySem.W.InstAt h x (PySem.W.instObj C dx) C (some od) ∧ ∀ name, PySem.W.lookIn name od = some (mA name) :=
  let ⟨od, ho, hl⟩ := lookIn_ns I.ns
  ⟨od, ⟨I.obj, rfl, rfl, ho⟩, hl⟩

section
variable {prog : Program} {w : World} {A : Around} {E : Value → Shared → Prop} {s : Shared} {K : PySem.W.Frag} {x dx C f : Addr} {mA : Str → Option Value} {name : Str} {v : Value}

end

section
variable {P : Program} {w : World} {H H' : Hp} {h h' : Heap} {a C dx : Addr} {fs fs' : List (Str × V)}
theorem ins_get (hok : HOk P w H h) (e : H a = some (.ins C dx fs)) : ∃ mA, ObjM h a dx C mA ∧ (∀ f, RelO (fs.lookup f) (mA f)) ∧ PySem.Within mA (fs.map (·.1)) ∧ fs.length ≤ 1000 ∧ H dx = some (.own a) := by
  obtain ⟨d, z, ne, ob, mA, n, r, q⟩ := (show ObjOk P w H h a (.ins C dx fs) from hok a _ e)
  exact ⟨mA, ⟨ob, n, ne⟩, r, q, z, d⟩
end

structure Cls (K : PySem.W.Frag) (C : Addr) : Prop where
  pg : PySem.W.plainGet K C Str.empty = true
  hd : PySem.W.hasDictIn K C = true
  po : PySem.W.plainOver K C = true
  sa : PySem.W.findIn K (.ref C) "__setattr__" = some (some (.builtin "object.__setattr__"))
theorem Cls.get {K : PySem.W.Frag} {C : Addr} (c : Cls K C) (f : Str) : PySem.W.plainGet K C f = true := c.pg
structure Con (K : PySem.W.Frag) (C : Addr) (f : Str) (v : V) (u : Value) : Prop where
  at_ : PySem.W.findIn K (.ref C) f = some (some u)
  rel : RelV v u
  get : PySem.W.specialIn K u "__get__" = some none
  cp : PySem.W.copiedNames.contains f = false
structure Meth (K : PySem.W.Frag) (C : Addr) (m : Str) (f : Addr) : Prop where
  at_ : PySem.W.findIn K (.ref C) m = some (some (.ref f))
  fn : PySem.W.isFn K (.ref f) = true
  kp : PySem.W.keepIn K (.ref f) = true

section
variable {X : Cx} {pins : List (Addr × Obj)} {σ : St} {H : Hp} {s : Shared} {a C dx : Addr} {fs : List (Str × V)} {f : Str} {v : V} {A : Around} {E : Value → Shared → Prop}

theorem Inv.made (I : Inv X pins σ H s) : Inv X pins σ (upd (upd H s.heap.objs.size (.own (s.heap.objs.size + 1))) (s.heap.objs.size + 1) (.ins C s.heap.objs.size []))
    { s with heap := (s.heap.push PySem.W.emptyDict).push (PySem.W.instObj C s.heap.objs.size) } := by
  have e1 : (s.heap.push PySem.W.emptyDict).get? s.heap.objs.size = some PySem.W.emptyDict := Heap.get?_push_size s.heap rfl
  have e2 : ((s.heap.push PySem.W.emptyDict).push (PySem.W.instObj C s.heap.objs.size)).get? (s.heap.objs.size + 1) = some (PySem.W.instObj C s.heap.objs.size) := by
    have := Heap.get?_push_size (s.heap.push PySem.W.emptyDict) (o := PySem.W.instObj C s.heap.objs.size) rfl
    rwa [Heap.size_push] at this
  have e3 : (s.heap.push PySem.W.emptyDict).Ns s.heap.objs.size (fun _ => none) := ⟨PySem.W.emptyDict, #[], _, e1, rfl, (fun e he => absurd he (by simp)), fun _ => rfl⟩
  have I1 := I.laid (a := s.heap.objs.size) (o := .own (s.heap.objs.size + 1)) (h' := s.heap.push PySem.W.emptyDict) (t' := s.toks) (fun b u q => Heap.get?_push_of_some _ q) (Nat.le_refl _) ⟨_, e1⟩
  refine I1.laid (a := s.heap.objs.size + 1) (o := .ins C s.heap.objs.size []) (t' := s.toks) (fun b u q => Heap.get?_push_of_some _ q) (Nat.le_of_eq (Heap.size_push _ _)) ?_
  have ne : s.heap.objs.size ≠ s.heap.objs.size + 1 := Nat.ne_of_lt (Nat.lt_succ_self _)
  refine ⟨by rw [upd_ne ne, upd_same], Nat.zero_le _, ne, e2, fun _ => none, (Heap.Ns1.of_empty e3).at fun o q => Heap.get?_push_of_some _ q, fun _ => True.intro, fun y hy => absurd rfl hy⟩

end

section
variable {X : Cx} {o e value : Expr} {f : Str} {pos pos' tpos : Pos} {ta tv : TE}
end

section
variable {X : Cx} {pins : List (Addr × Obj)} {σ : St} {H : Hp} {s : Shared} {A : Around} {E : Value → Shared → Prop} {Q : Value → Shared → Prop} {c : Value} {b : Bool}
inductive TyOf (K : PySem.W.Frag) (H : Hp) : V → Value → Prop where
  | non : TyOf K H .non (.type "NoneType")
  | bl (x : Bool) : TyOf K H (.bl x) (.type "bool")
  | int (i : Int) : TyOf K H (.int i) (.type "int")
  | str (x : Str) : TyOf K H (.str x) (.type "str")
  | flt (x : UInt64) : TyOf K H (.flt x) (.type "float")
  | lst {a : Addr} {xs : List V} (e : H a = some (.lst xs)) : TyOf K H (.ref a) (.type "list")
  | frz {a : Addr} {o : Obj} {xs : List V} (e : H a = some (.frz o (.lst xs))) : TyOf K H (.ref a) (.type "list")
  | tup {a : Addr} {xs : List V} (e : H a = some (.tup xs)) : TyOf K H (.ref a) (.type "tuple")
  | dK {a : Addr} {kvs : List (Key × V)} (e : H a = some (.dK kvs)) : TyOf K H (.ref a) (.type "dict")
  | dT {a : Addr} {kvs : List (List Key × V)} (e : H a = some (.dT kvs)) : TyOf K H (.ref a) (.type "dict")
  | ins {a C dx : Addr} {fs : List (Str × V)} (e : H a = some (.ins C dx fs)) (cl : Cls K C) (ha : PySem.W.findIn K (.ref C) "__class__" = some (some (.builtin "object.__class__")))
      (hn : PySem.W.specialIn K (.builtin "object.__class__") "__get__" = some (some (.builtin "getset_descriptor.__get__"))) (htk : PySem.W.takesIn K (.builtin "object.__class__") = some true)
      (hm : PySem.W.mroIn K C (.type "object") = some true) : TyOf K H (.ref a) (.ref C)
theorem isinst_ok {x : V} {u t : Value} (I : Inv X pins σ H s) (rx : RelV x u) (ty : TyOf X.K H x t) (e : PySem.W.kitOne X.K t c = some b) (h : ∀ tk, Q (.bool b) { s with toks := tk }) :
    wpAny (model X.prog X.w) A (call (.builtin "isinstance") [u, c]) Q E s := by
  cases ty with
  | non => cases (show u = Value.none from rx); exact PySem.W.kia_one PySem.W.kitx_none I.kIn True.intro e (fun z => nomatch z) h
  | bl y => cases (show u = Value.bool y from rx); exact PySem.W.kia_one PySem.W.kitx_bool I.kIn True.intro e (fun z => nomatch z) h
  | int i => obtain ⟨t, q⟩ := (show ∃ t, u = Value.int i t from rx); cases q; exact PySem.W.kia_one PySem.W.kitx_int I.kIn True.intro e (fun z => nomatch z) h
  | str y => obtain ⟨t, q⟩ := (show ∃ t, u = Value.str y t from rx); cases q; exact PySem.W.kia_one PySem.W.kitx_str I.kIn True.intro e (fun z => nomatch z) h
  | flt y => obtain ⟨t, q⟩ := (show ∃ t, u = Value.float y t from rx); cases q; exact PySem.W.kia_one PySem.W.kitx_float I.kIn True.intro e (fun z => nomatch z) h
  | @lst a xs ea =>
    cases (show u = Value.ref a from rx)
    obtain ⟨_, _, n, _, h1⟩ := (show ObjOk X.prog X.w H s.heap a (.lst xs) from I.hok a _ ea)
    exact PySem.W.kia_one PySem.W.kitx_list I.kIn ⟨_, h1, rfl⟩ e (fun z => nomatch z) h
  | @frz a ob xs ea =>
    cases (show u = Value.ref a from rx)
    obtain ⟨_, _, _, n, _, h1⟩ := (show ObjOk X.prog X.w H s.heap a (.frz ob (.lst xs)) from I.hok a _ ea)
    exact PySem.W.kia_one PySem.W.kitx_list I.kIn ⟨_, h1, rfl⟩ e (fun z => nomatch z) h
  | @tup a xs ea =>
    cases (show u = Value.ref a from rx)
    obtain ⟨_, _, _, p⟩ := (show ObjOk X.prog X.w H s.heap a (.tup xs) from I.hok a _ ea)
    obtain ⟨o, h1, h2, _⟩ := p
    exact PySem.W.kia_one PySem.W.kitx_tuple I.kIn ⟨o, h1, h2⟩ e (fun z => nomatch z) h
  | @dK a kvs ea =>
    cases (show u = Value.ref a from rx)
    obtain ⟨_, _, vs, _, p⟩ := (show ObjOk X.prog X.w H s.heap a (.dK kvs) from I.hok a _ ea)
    obtain ⟨o, es, ep, h1, h2, _⟩ := p
    exact PySem.W.kia_one PySem.W.kitx_dict I.kIn ⟨o, h1, h2.1⟩ e (fun z => nomatch z) h
  | @dT a kvs ea =>
    cases (show u = Value.ref a from rx)
    obtain ⟨_, _, xs, _, o, es, ep, h1, h2, _⟩ := (show ObjOk X.prog X.w H s.heap a (.dT kvs) from I.hok a _ ea)
    exact PySem.W.kia_one PySem.W.kitx_dict I.kIn ⟨o, h1, h2.1⟩ e (fun z => nomatch z) h
  | @ins a C dx fs ea cl ha hn htk hm =>
    cases (show u = Value.ref a from rx)
    obtain ⟨mA, O, _⟩ := ins_get I.hok ea
    obtain ⟨od, J, _⟩ := O.look
    exact PySem.W.kia_one (PySem.W.kitx_own (cl.get _) cl.hd ha hn htk hm) I.kIn J e (fun z => nomatch z) h
end
end L2

namespace L2
open PySem PySem.Spec PyProof.Rows

structure Room (k : Nat) (A : Around) : Prop where
  hd : A.handled = none
  dp : A.depth + 3 * k + 5 < recursionLimit
  un : A.units + 16 * k + 200 < cLine
theorem Room.mono {j k : Nat} {A : Around} (r : Room k A) (h : j ≤ k) : Room j A := ⟨r.hd, by have := r.dp; omega, by have := r.un; omega⟩
theorem Room.deeper {k : Nat} {A : Around} (r : Room (k + 1) A) (env : Env) : Room k (A.deeper env) :=
  ⟨r.hd, by have := r.dp; show A.depth + 1 + 3 * k + 5 < _; omega, by have := r.un; show A.units + 3 + 16 * k + 200 < _; omega⟩
theorem Room.in1 {k : Nat} {A : Around} (r : Room (k + 1) A) : Room k A.in1 :=
  ⟨r.hd, by have := r.dp; show A.depth + 3 * k + 5 < _; omega, by have := r.un; show A.units + 1 + 16 * k + 200 < _; omega⟩
theorem Room.depth {k : Nat} {A : Around} (r : Room k A) : A.depth < recursionLimit := by have := r.dp; omega
theorem Room.units {k : Nat} {A : Around} (r : Room k A) : A.units + 64 < cLine := by have := r.un; omega
def tNil : TA := fun _ H Q => Q [] H
def tCons (ta : TE) (tr : TA) : TA := fun σ H Q => ta σ H fun x H1 => tr σ H1 fun xs H2 => Q (x :: xs) H2
section
variable {X : Cx} {e : Expr} {es : List Expr} {te : TE} {t : TA} {pos : Pos}
theorem pa_nil : PA X [] tNil := fun _ _ _ _ H Q I h => Calls.spliced_nil ⟨[], H, I, .nil, h⟩
theorem pa_cons (ha : PE X e te) (hr : PA X es t) (hs : starEach (e :: es) X.env = (false, eval e X.env) :: starEach es X.env := by rfl) : PA X (e :: es) (tCons te t) := by
  intro pos pins s σ H Q I h
  rw [hs]
  show wpAny _ _ (spliced ((false, eval e X.env) :: backTo pos (starEach es X.env))) _ _ s
  refine Calls.spliced_cons (thn (ha pins s σ H _ I h) fun u s1 ⟨x, H1, I1, r1, q1⟩ => ?_)
  exact thn (hr pos pins s1 σ H1 _ I1 q1) fun us s2 ⟨xs, H2, I2, r2, q2⟩ => ⟨x :: xs, H2, I2, .cons r1 r2, q2⟩

def tTup (t : TA) : TE := fun σ H Q => t σ H fun xs H1 => xs.length ≤ sizeLine ∧ ∀ p, H1 p = none → Q (.ref p) (upd H1 p (.tup xs))
def tLst (t : TA) : TE := fun σ H Q => t σ H fun xs H1 => xs.length ≤ sizeLine ∧ ∀ p, H1 p = none → Q (.ref p) (upd H1 p (.lst xs))
theorem pe_tup {x1} (h : PA X es t) : PE X (.Tuple es x1 pos) (tTup t) := by
  intro pins s σ H Q I hq
  refine wpAny_Tuple_spliced (thn (h pos pins s σ H _ I hq) fun us s1 ⟨xs, H1, I1, r, z, q⟩ => ⟨by rw [← r.length]; exact z, ?_⟩)
  have hf : H1 s1.heap.objs.size = none := I1.hok.fresh (Nat.le_refl _)
  refine ⟨.ref s1.heap.objs.size, upd H1 s1.heap.objs.size (.tup xs), I1.laid (t' := s1.toks) (fun b u e => Heap.get?_push_of_some _ e) (Nat.le_refl _) ?_, rfl, q _ hf⟩
  exact ⟨z, us, r, ⟨_, Heap.get?_push_size _ rfl, rfl, _, rfl⟩⟩
theorem pe_lst (h : PA X es t) : PE X (.List es pos) (tLst t) := by
  intro pins s σ H Q I hq
  refine wpAny_List_spliced (thn (h pos pins s σ H _ I hq) fun us s1 ⟨xs, H1, I1, r, z, q⟩ => ⟨by rw [← r.length]; exact z, ?_⟩)
  have hf : H1 s1.heap.objs.size = none := I1.hok.fresh (Nat.le_refl _)
  refine ⟨.ref s1.heap.objs.size, upd H1 s1.heap.objs.size (.lst xs), I1.laid (t' := s1.toks) (fun b u e => Heap.get?_push_of_some _ e) (Nat.le_refl _) ?_, rfl, q _ hf⟩
  exact ⟨z, us, 0, r, Heap.get?_push_size _ rfl⟩
end

abbrev Sp := List V → Hp → VK → XK → Prop
abbrev CXT := List Env → Hp → Shared → XK → Value → Shared → Prop

structure Env0 (P : Program) (w : World) (K : PySem.W.Frag) (mg : Str → Option Value) (base : Heap) (A : Around) (outer : List Env) (s : Shared) (H : Hp) : Prop where
  frames : A.frames = some outer
  mod : Mod K mg base
  bs : ∀ b o, base.get? b = some o → s.heap.get? b = some o ∧ H b = none
  bsz : base.objs.size ≤ s.heap.objs.size
  funs : s.heap.FunFrames base outer
  frf : ∀ b ∈ frs outer, H b = none
  hok : HOk P w H s.heap
  bare : AllBare s.gens
def CE (outer : List Env) (P : Program) (w : World) (H : Hp) (s : Shared) (Q : VK) (u : Value) (s' : Shared) : Prop :=
  ∃ v H', s'.os = s.os ∧ AllBare s'.gens ∧ Un (frs outer) [] H H' s.heap s'.heap ∧ HOk P w H' s'.heap ∧ RelV v u ∧ Q v H'
def CR (CX : CXT) (outer : List Env) (P : Program) (w : World) (H : Hp) (s : Shared) (Q : VK) (E : XK) (r : Result) (s' : Shared) : Prop :=
  match r with
  | .ok (.ret u) => CE outer P w H s Q u s'
  | .ok _ => False
  | .error e => CX outer H s E e s'
structure FnOk (P : Program) (w : World) (K : PySem.W.Frag) (mg : Str → Option Value) (base : Heap) (CX : CXT) (k : Nat) (f : Addr) (fd : FuncData) (ps : List Str) (sp : Sp) : Prop where
  len : ∀ vs H Q E, sp vs H Q E → vs.length = ps.length
  run : ∀ (A : Around) (outer : List Env) (s : Shared) (H : Hp) (args : Args) (us : List Value) (vs : List V) (Q : VK) (E : XK), Room k A → Env0 P w K mg base A outer s H → BindsTo s fd args (ps.zip us) → Vals vs us → sp vs H Q E →
    codeAny (model P w) A (.call (.ref f) args) (CR CX outer P w H s Q E) s
theorem FnOk.mono {P : Program} {w : World} {K : PySem.W.Frag} {mg : Str → Option Value} {base : Heap} {CX : CXT} {j k : Nat} {f : Addr} {fd : FuncData} {ps : List Str} {sp : Sp} (F : FnOk P w K mg base CX j f fd ps sp) (h : j ≤ k) :
    FnOk P w K mg base CX k f fd ps sp := ⟨F.len, fun A outer s H args us vs Q E hr => F.run A outer s H args us vs Q E (hr.mono h)⟩
theorem FnOk.imp {P : Program} {w : World} {K : PySem.W.Frag} {mg : Str → Option Value} {base : Heap} {CX : CXT} {k : Nat} {f : Addr} {fd : FuncData} {ps : List Str} {sp sp' : Sp} (F : FnOk P w K mg base CX k f fd ps sp)
    (h : ∀ vs H Q E, sp' vs H Q E → sp vs H Q E) : FnOk P w K mg base CX k f fd ps sp' :=
  ⟨fun vs H Q E q => F.len vs H Q E (h _ _ _ _ q), fun A outer s H args us vs Q E hr he hb hv hs => F.run A outer s H args us vs Q E hr he hb hv (h _ _ _ _ hs)⟩

theorem Env0.in1 {P : Program} {w : World} {K : PySem.W.Frag} {mg : Str → Option Value} {base : Heap} {A : Around} {outer : List Env} {s : Shared} {H : Hp} (e : Env0 P w K mg base A outer s H) :
    Env0 P w K mg base A.in1 outer s H := ⟨e.frames, e.mod, e.bs, e.bsz, e.funs, e.frf, e.hok, e.bare⟩

section
variable {X : Cx} {pins : List (Addr × Obj)} {σ : St} {H : Hp} {s s' : Shared}
theorem Inv.env0 (I : Inv X pins σ H s) : Env0 X.prog X.w X.K X.mg X.base X.A X.stack s H :=
  ⟨I.ok.frames, I.ok.mod, I.bs, Nat.le_trans I.ok.bsz I.sz, I.stack, I.stkFree, I.hok, I.bare⟩
theorem Inv.after {Q : VK} {u : Value} (I : Inv X pins σ H s) (h : CE X.stack X.prog X.w H s Q u s') : EP X pins σ Q u s' := by
  obtain ⟨v, H', os, bare, un, hok, r, q⟩ := h
  obtain ⟨hh, g, d, t, os'⟩ := s'
  obtain rfl : os' = s.os := os
  exact ⟨v, H', I.call (h' := hh) (g' := g) (d' := d) (t' := t) (ch := []) un hok bare (fun b z => absurd z (by simp)), r, q⟩
end

def tCall (sp : Sp) (dvs : List V) (E : XK) (t : TA) : TE := fun σ H Q => t σ H fun vs H1 => sp (vs ++ dvs) H1 Q E
def Binds (K : PySem.W.Frag) (fd : FuncData) (ps : List Str) (ds : List Value) : Prop :=
  ∀ (s : Shared) (us : List Value), K.In s.heap → (us ++ ds).length = ps.length → BindsTo s fd ⟨us, []⟩ (ps.zip (us ++ ds))
theorem Binds.all {K : PySem.W.Frag} {fd : FuncData} {ps : List Str} (h : ∀ us : List Value, us.length = ps.length → bindArgs fd ⟨us, []⟩ = pure (ps.zip us)) : Binds K fd ps [] := fun s us _ hl => by
  rw [List.append_nil] at hl ⊢
  exact .of_eq (h us hl)

def Passes (CX : CXT) (X : Cx) (E : XK) : Prop := ∀ (pins : List (Addr × Obj)) (σ : St) (H : Hp) (s : Shared) (e : Value) (s' : Shared), Inv X pins σ H s → CX X.stack H s E e s' → X.xe e s'

section
variable {X : Cx} {CX : CXT} {k : Nat} {f C : Addr} {fd : FuncData} {ps : List Str} {sp : Sp} {dvs : List V} {ds : List Value} {E : XK} {x m : Str} {p pos apos : Pos} {e o : Expr} {es : List Expr} {ta : TE} {t : TA}

theorem run_fn {pins : List (Addr × Obj)} {σ : St} {H : Hp} {s : Shared} {Q : VK} {us : List Value} {vs : List V} (F : FnOk X.prog X.w X.K X.mg X.base CX k f fd ps sp) (hr : Room k X.A) (hb : Binds X.K fd ps ds) (hd : Vals dvs ds) (hx : Passes CX X E)
    (I : Inv X pins σ H s) (r : Vals vs us) (h : sp (vs ++ dvs) H Q E) : wpAny (model X.prog X.w) X.A (call (.ref f) us) (EP X pins σ Q) X.xe s := by
  have r2 : Vals (vs ++ dvs) (us ++ ds) := r.append hd
  have hl : (us ++ ds).length = ps.length := by rw [← r2.length]; exact F.len _ _ _ _ h
  refine wpAny_call (codeAny_mono (F.run X.A X.stack s H ⟨us, []⟩ (us ++ ds) (vs ++ dvs) Q E hr I.env0 (hb s us I.kIn hl) r2 h) fun r s' hq => ?_)
  cases r with
  | error e => exact hx pins σ H s e s' I hq
  | ok fl =>
    cases fl with
    | ret u => exact I.after hq
    | next => exact False.elim hq
    | brk => exact False.elim hq
    | cont => exact False.elim hq

theorem pe_call (F : FnOk X.prog X.w X.K X.mg X.base CX k f fd ps sp) (hr : Room k X.A) (hg : Gl X x) (hm : X.mg x = some (.ref f)) (hk : PySem.W.keepIn X.K (.ref f) = true) (hb : Binds X.K fd ps ds) (hd : Vals dvs ds) (hx : Passes CX X E)
    (ha : PA X (e :: es) t) (hdb : (x == ("__debug__" : Str)) = false := by decide) (he : starEach (e :: es) X.env = (false, eval e X.env) :: starEach es X.env := by rfl) (hpl : (backTo pos (starEach es X.env)).any (·.1) = false := by rfl) :
    PE X (.Call (.Name x p) (e :: es) [] pos) (tCall sp dvs E t) := by
  intro pins s σ H Q I h
  refine wpAny_Call_Name_kw (ld_glob I hg hm ?_ hdb)
  refine PySem.W.callWith_K (h₀ := X.base) I.ok.mod.kin hk (thn (ha pos pins s σ H _ I h) fun us s1 ⟨vs, H1, I1, r, q⟩ => ⟨I1.kIn, ?_⟩) he hpl
  exact run_fn F hr hb hd hx I1 r q
structure Mk (K : PySem.W.Frag) (C f : Addr) : Prop where
  makes : PySem.W.makesIn K C = true
  init : PySem.W.findIn K (.ref C) "__init__" = some (some (.ref f))
  fn : PySem.W.isFn K (.ref f) = true
  kp : PySem.W.keepIn K (.ref C) = true

end

def PK (X : Cx) (kws : List Keyword) (t : TA) : Prop :=
  ∀ (pos : Pos) (pins : List (Addr × Obj)) (s : Shared) (σ : St) (H : Hp) (Q : List V → Hp → Prop), Inv X pins σ H s → t σ H Q → wpAny (model X.prog X.w) X.A (evalAll ((backToKw pos (keywordEach kws X.env)).map (·.2))) (AP X pins σ Q) X.xe s
section
variable {X : Cx} {CX : CXT} {k : Nat} {f C : Addr} {fd : FuncData} {ps ks : List Str} {sp : Sp} {E : XK} {x m : Str} {p pos apos kpos : Pos} {e o : Expr} {es : List Expr} {kws : List Keyword} {te ta : TE} {t tk : TA} {nm : Option Str}
structure KBinds (K : PySem.W.Frag) (fd : FuncData) (ps ks : List Str) (g : List Value → List Value → List Value) (gV : List V → List V → List V) : Prop where
  to : ∀ (s : Shared) (us ws : List Value), K.In s.heap → (g us ws).length = ps.length → BindsTo s fd ⟨us, ks.zip ws⟩ (ps.zip (g us ws))
  rel : ∀ {vs : List V} {us : List Value} {zs : List V} {ws : List Value}, Vals vs us → Vals zs ws → Vals (gV vs zs) (g us ws)
variable {g : List Value → List Value → List Value} {gV : List V → List V → List V}
end

structure FnScope (N P : List Str) (sc : Scope) : Prop where
  kind : sc.kind = .function
  co : sc.isCoroutine = false
  gen : sc.isGenerator = false
  nd : N.Nodup
  pre : N.take P.length = P
  par : ∀ x ∈ P, sc.names.lookup x = some .local ∨ sc.names.lookup x = some .cell
  nofree : ∀ y ∈ sc.names, y.2 ≠ .free

theorem bindL_out {kindOf : Str → Option NameKind} {x : Str} : ∀ {binds : List (Str × Value)} {m : Str → Option Value}, (∀ v, (x, v) ∉ binds) → bindL kindOf binds m x = m x
  | [], _, _ => rfl
  | (n, v) :: r, m, h => by
    unfold bindL
    rw [bindL_out fun w hw => h w (List.mem_cons_of_mem _ hw)]
    split
    · have : x ≠ n := by rintro rfl; exact h v List.mem_cons_self
      simp [this]
    · rfl
theorem bindC_out {kindOf : Str → Option NameKind} {x : Str} : ∀ {binds : List (Str × Value)} {m : Str → Option Value}, (∀ v, (x, v) ∉ binds) → bindC kindOf binds m x = m x
  | [], _, _ => rfl
  | (n, v) :: r, m, h => by
    unfold bindC
    rw [bindC_out fun w hw => h w (List.mem_cons_of_mem _ hw)]
    split
    · rfl
    · have : x ≠ n := by rintro rfl; exact h v List.mem_cons_self
      simp [this]
theorem bindL_get {kindOf : Str → Option NameKind} {x : Str} {v : Value} : ∀ {P : List Str} {vs : List Value} {i : Nat} {m : Str → Option Value}, P.Nodup → P[i]? = some x → vs[i]? = some v → kindOf x = some .local →
    bindL kindOf (P.zip vs) m x = some v
  | [], _, _, _, _, h, _, _ => by simp at h
  | _ :: _, [], _, _, _, _, h, _ => by simp at h
  | p :: P, w :: vs, 0, m, nd, h1, h2, hk => by
    simp at h1 h2; subst h1; subst h2
    show bindL kindOf ((p, w) :: P.zip vs) m p = _
    unfold bindL
    rw [bindL_out fun v hv => (List.nodup_cons.mp nd).1 (List.of_mem_zip hv).1, if_pos hk]
    simp
  | p :: P, w :: vs, i + 1, m, nd, h1, h2, hk => by
    show bindL kindOf ((p, w) :: P.zip vs) m x = _
    unfold bindL
    exact bindL_get (i := i) (List.nodup_cons.mp nd).2 (by simpa using h1) (by simpa using h2) hk
theorem bindC_get {kindOf : Str → Option NameKind} {x : Str} {v : Value} : ∀ {P : List Str} {vs : List Value} {i : Nat} {m : Str → Option Value}, P.Nodup → P[i]? = some x → vs[i]? = some v → kindOf x ≠ some .local →
    bindC kindOf (P.zip vs) m x = some v
  | [], _, _, _, _, h, _, _ => by simp at h
  | _ :: _, [], _, _, _, _, h, _ => by simp at h
  | p :: P, w :: vs, 0, m, nd, h1, h2, hk => by
    simp at h1 h2; subst h1; subst h2
    show bindC kindOf ((p, w) :: P.zip vs) m p = _
    unfold bindC
    rw [bindC_out fun v hv => (List.nodup_cons.mp nd).1 (List.of_mem_zip hv).1, if_neg hk]
    simp
  | p :: P, w :: vs, i + 1, m, nd, h1, h2, hk => by
    show bindC kindOf ((p, w) :: P.zip vs) m x = _
    unfold bindC
    exact bindC_get (i := i) (List.nodup_cons.mp nd).2 (by simpa using h1) (by simpa using h2) hk

def start (N : List Str) (vs : List V) : St := vs.map some ++ List.replicate (N.length - vs.length) none

def cxOf (CX : CXT) (P : Program) (w : World) (K : PySem.W.Frag) (mg : Str → Option Value) (base : Heap) (N : List Str) (qual : Str) (scope : Scope) (f : Addr) (cd : Value) (A : Around) (outer : List Env) (s : Shared) (H : Hp) (E : XK) : Cx where
  prog := P
  w := w
  K := K
  mg := mg
  base := base
  A := A.deeper (envOfC qual scope s.heap.objs.size f cd)
  N := N
  s₀ := s
  H₀ := H
  env := envOfC qual scope s.heap.objs.size f cd
  outer := outer
  stack := envOfC qual scope s.heap.objs.size f cd :: outer
  ex := []
  calm := true
  fn := fun _ => true
  pn := []
  xe := fun e s' => wpAny (model P w) (A.deeper (envOfC qual scope s.heap.objs.size f cd)) (leaving (envOfC qual scope s.heap.objs.size f cd) e) (fun _ s'' => CX outer H s E e s'') (fun e' s'' => CX outer H s E e' s'') s'

theorem cell_has {sc : Scope} {n : Nat} {x : Str} (h : sc.names.lookup x = some .cell) : ∃ c, (cellsFrom n sc.names []).lookup x = some c := by
  have q := PySem.W.cellsFrom_some sc.names n [] (.inl h)
  exact Option.isSome_iff_exists.mp q

theorem inv_start {CX : CXT} {P : Program} {w : World} {K : PySem.W.Frag} {mg : Str → Option Value} {base : Heap} {N ps : List Str} {qual : Str} {scope : Scope} {f : Addr} {cd : Value} {A : Around} {outer : List Env} {s s1 : Shared} {H : Hp} {E : XK} {us : List Value} {vs : List V}
    (S : FnScope N ps scope) (hd : A.handled = none) (e0 : Env0 P w K mg base A outer s H) (hl : vs.length = ps.length) (r : Vals vs us)
    (x : InCallC s s.heap.objs.size (bindL (envOfC qual scope s.heap.objs.size f cd).kindOf (ps.zip us) fun _ => none) (cellsFrom (s.heap.objs.size + 1) scope.names []) (bindC (envOfC qual scope s.heap.objs.size f cd).kindOf (ps.zip us) fun _ => none) s1) :
    Inv (cxOf CX P w K mg base N qual scope f cd A outer s H E) [] (start N vs) H s1 := by
  have hpl : ps.length ≤ N.length := by have := congrArg List.length S.pre; rw [List.length_take] at this; omega
  obtain ⟨h1, tk, rfl, hk⟩ := x.done
  have noA : ∀ b : Addr, b ∉ (cxOf CX P w K mg base N qual scope f cd A outer s H E).ex := fun b z => absurd (show b ∈ ([] : List Addr) from z) (by simp)
  refine ⟨⟨e0.mod, S.kind, rfl, rfl, Nat.le_refl _, fun y z c h1 h2 => ?_, fun y hy => ?_, fun y c _ h => ?_, fun _ => hd, Around.frames_deeper e0.frames, .inr ⟨rfl, rfl⟩, fun b z => absurd z (noA b), e0.bs, e0.bsz, fun b _ _ => noA b, fun b z => absurd z (noA b), e0.funs, e0.frf⟩,
    rfl, e0.bare, Un.kept hk, ⟨_, x.toInCall.ns, fun i y v h1 h2 h3 => ?_⟩, fun y c h => ⟨_, x.cell y c h⟩, e0.hok.fresh (Nat.le_refl _), fun y c h => ?_, fun p hp => absurd (show p ∈ ([] : List (Addr × Obj)) from hp) (by simp), e0.hok.kept hk, ?_⟩
  · exact name_of_addr x.apart (PySem.mem_of_lookup h1) (PySem.mem_of_lookup h2)
  · have hy : scope.names.lookup y = some .cell ∨ scope.names.lookup y = some .free := hy
    rcases hy with hy | hy
    · exact cell_has hy
    · exact absurd rfl (S.nofree _ (PySem.mem_of_lookup hy))
  · exact Nat.le_of_lt (x.above y c (PySem.mem_of_lookup h))
  · have hi : i < vs.length := by
      unfold start at h2
      by_cases hi : i < vs.length
      · exact hi
      · rw [List.getElem?_append_right (by simpa using hi)] at h2
        rw [List.getElem?_replicate] at h2
        split at h2 <;> cases h2
    have ha : vs[i]? = some v := by
      unfold start at h2
      rw [List.getElem?_append_left (by simpa using hi), List.getElem?_map] at h2
      cases e : vs[i]? with
      | none => rw [e] at h2; cases h2
      | some a => rw [e] at h2; cases h2; rfl
    obtain ⟨u, hu, rv⟩ := r.get ha
    have hp : ps[i]? = some y := by
      rw [← S.pre, List.getElem?_take_of_lt (by omega)]; exact h1
    have ndP : ps.Nodup := by rw [← S.pre]; exact S.nd.sublist (List.take_sublist _ _)
    refine ⟨u, rv, ?_⟩
    rcases S.par y (List.mem_of_getElem? hp) with k | k
    · exact .inl ⟨k, bindL_get ndP hp hu k⟩
    · obtain ⟨c, e⟩ := cell_has (n := s.heap.objs.size + 1) k
      refine .inr ⟨.inl k, c, e, ?_⟩
      have q := x.cell y c e
      rw [bindC_get ndP hp hu (by show scope.names.lookup y ≠ _; rw [k]; decide)] at q
      exact q
  · exact e0.hok.fresh (Nat.le_of_lt (x.above y c (PySem.mem_of_lookup h)))
  · unfold start
    show _ = N.length
    rw [List.length_append, List.length_map, List.length_replicate]
    omega

theorem fn_of {CX : CXT} {P : Program} {w : World} {K : PySem.W.Frag} {mg : Str → Option Value} {base : Heap} {k : Nat} {f : Addr} {name qual : Str} {params : Arguments} {body : List Stmt} {scope : Scope} {dV kV doc pm cdv ct oc : Value} {an od : Option Addr}
    {osl : Array (Option Value)} {N ps : List Str} {sp : Sp} (lk : K.lookup f = some ⟨oc, od, .func (PySem.W.fnOf name qual params body scope dV kV doc pm an cdv ct), osl⟩) (hcd : PySem.W.codeIn K cdv qual = true) (S : FnScope N ps scope)
    (len : ∀ vs H Q E, sp vs H Q E → vs.length = ps.length)
    (hbody : ∀ (A : Around) (outer : List Env) (s : Shared) (H : Hp) (vs : List V) (Q : VK) (E : XK), Room k (A.deeper (envOfC qual scope s.heap.objs.size f cdv)) → sp vs H Q E →
      ∃ t, PSs (cxOf CX P w K mg base N qual scope f cdv A outer s H E) body t ∧ t { nx := fun _ H' => Q .non H', rt := Q } (start N vs) H) :
    FnOk P w K mg base CX (k + 1) f (PySem.W.fnOf name qual params body scope dV kV doc pm an cdv ct) ps sp := by
  refine ⟨len, fun A outer s H args us vs Q E hr e0 hb r hsp => ?_⟩
  have hl := len _ _ _ _ hsp
  have KX : K.In s.heap := e0.mod.kin.keeps fun b o e => (e0.bs b o e).1
  have lim : s.heap.NoLimit := e0.mod.nolimit.keeps fun b o e => (e0.bs b o e).1
  have hkind : ∀ y ∈ ps.zip us, scope.names.lookup y.1 = some .local ∨ (scope.names.lookup y.1 = some .cell ∧ ((cellsFrom (s.heap.objs.size + 1) scope.names []).lookup y.1).isSome = true) := fun ⟨n, v⟩ hy => by
    rcases S.par n (List.of_mem_zip hy).1 with q | q
    · exact .inl q
    · exact .inr ⟨q, PySem.W.cellsFrom_some _ _ _ (.inl q)⟩
  refine codeAny_call_function hr.depth (KX _ _ lk) rfl S.co S.gen rfl (PySem.W.codeRec_of KX hcd) (hb _ _ _ _ ?_)
  refine wpAny_newFunctionEnv_cells S.kind hkind fun env he s1 x => ?_
  subst he
  refine ⟨lim.keeps x.toInCall.keep, codeAny_func ?_⟩
  obtain ⟨t, ht, hq⟩ := hbody A outer s H vs Q E (hr.deeper _) hsp
  have I : Inv (cxOf CX P w K mg base N qual scope f cdv A outer s H E) [] (start N vs) H s1 := inv_start S hr.hd e0 hl r x
  refine wpAny_mono (ht [] s1 (start N vs) H _ I hq) (fun fl s' hs => ?_) fun e s' hs => hs
  have fin : ∀ {σ' : St} {H' : Hp} {v : V} {u : Value}, Inv (cxOf CX P w K mg base N qual scope f cdv A outer s H E) [] σ' H' s' → RelV v u → Q v H' → CE outer P w H s Q u s' :=
    fun {σ' H' v u} J rv q => ⟨v, H', J.os, J.bare, J.base, J.hok, rv, q⟩
  cases fl with
  | ret u =>
    obtain ⟨v, σ', H', J, rv, q⟩ := hs
    exact fin J rv q
  | next =>
    obtain ⟨σ', H', J, q⟩ := hs
    exact fin (v := V.non) (u := Value.none) J rfl q
  | brk =>
    obtain ⟨_, _, _, q⟩ := hs
    exact False.elim q
  | cont =>
    obtain ⟨_, _, _, q⟩ := hs
    exact False.elim q
end L2

namespace L2
open PySem PySem.Spec PyProof.Rows
section
variable {X : Cx} {x : Str} {p pos : Pos} {e : Expr} {es : List Expr} {t : TA} {id T : String} {r : List V → Hp → VK → Prop}

def tCB (r : List V → Hp → VK → Prop) (t : TA) : TE := fun σ H Q => t σ H fun vs H1 => r vs H1 Q
theorem pe_callB (hc : CallR X (.builtin id) r) (hg : Gl X x) (hm : X.mg x = none) (hv : bootBuiltins x = some (.builtin id)) (ha : PA X (e :: es) t) (hn : x ≠ "__name__" := by decide) (hdb : (x == ("__debug__" : Str)) = false := by decide)
    (he : starEach (e :: es) X.env = (false, eval e X.env) :: starEach es X.env := by rfl) (hpl : (backTo pos (starEach es X.env)).any (·.1) = false := by rfl) : PE X (.Call (.Name x p) (e :: es) [] pos) (tCB r t) := by
  intro pins s σ H Q I h
  refine wpAny_Call_Name_kw (ld_blt I hg hm hv ?_ hn hdb)
  exact PyProof.Rows.callWith_builtin1 (thn (ha pos pins s σ H _ I h) fun us s1 ⟨vs, H1, I1, r1, q1⟩ => hc pins s1 σ H1 vs us Q I1 r1 q1) he hpl
theorem pe_callTy (hc : CallR X (.type T) r) (hg : Gl X x) (hm : X.mg x = none) (hv : bootBuiltins x = some (.type T)) (ha : PA X (e :: es) t) (hn : x ≠ "__name__" := by decide) (hdb : (x == ("__debug__" : Str)) = false := by decide)
    (he : starEach (e :: es) X.env = (false, eval e X.env) :: starEach es X.env := by rfl) (hpl : (backTo pos (starEach es X.env)).any (·.1) = false := by rfl) : PE X (.Call (.Name x p) (e :: es) [] pos) (tCB r t) := by
  intro pins s σ H Q I h
  refine wpAny_Call_Name_kw (ld_blt I hg hm hv ?_ hn hdb)
  exact PyProof.Rows.callWith_type1 (thn (ha pos pins s σ H _ I h) fun us s1 ⟨vs, H1, I1, r1, q1⟩ => hc pins s1 σ H1 vs us Q I1 r1 q1) he hpl
end
end L2

namespace HT
open PySem PyProof.Rows

section
open PySem.SeqAt
open PySem.AutoSeq1 (wpAny_loadPart')
open PySem.MeetsSeq PySem.MeetsSeq2 PySem.MeetsSeq3

end

section
variable {prog : Program} {w : World} {A : Around} {E : Value → Shared → Prop} {s : Shared}

theorem cat_tup {t b : Addr} {vs ws : List Value} {Q : Value → Shared → Prop} (ht : IsTup s.heap t vs.toArray) (hb : IsTup s.heap b ws.toArray) (hv : vs ≠ [])
    (h1 : ws = [] → Q (.ref t) s) (h2 : ws ≠ [] → Q (.ref s.heap.objs.size) { s with heap := s.heap.push { cls := .type "tuple", data := .seq (vs ++ ws).toArray } })
    (hsz : vs.length + ws.length ≤ sizeLine) : wpAny (model prog w) A (binaryOp .Add (.ref t) (.ref b)) Q E s := by
  obtain ⟨⟨cls, dd, data, sl⟩, ho, hc, n, hd⟩ := id ht
  obtain ⟨⟨cls2, dd2, data2, sl2⟩, ho2, hc2, n2, hd2⟩ := id hb
  simp only at hc hd hc2 hd2
  subst hc hd hc2 hd2
  have e : vs.toArray ++ ws.toArray = (vs ++ ws).toArray := by simp
  by_cases hw : ws = []
  · exact concat_meets ⟨_, ho, rfl⟩ ⟨_, ho2, rfl⟩ noFill_tuple_add seq_tuple_add PySem.F.slot_tuple_add PySem.F.entry_tuple_add (PySem.F.args_tuple_add_2 _ _)
      (tuple_addW1 t b vs.toArray ws.toArray n n2 dd dd2 sl sl2 (by simpa using hv) (by simp [hw])) ⟨ho, ho2, h1 hw⟩
  · refine concat_meets ⟨_, ho, rfl⟩ ⟨_, ho2, rfl⟩ noFill_tuple_add seq_tuple_add PySem.F.slot_tuple_add PySem.F.entry_tuple_add (PySem.F.args_tuple_add_2 _ _)
      (tuple_addW2 t b vs.toArray ws.toArray n n2 dd dd2 sl sl2 (by simpa using hv) (by simpa using hw) (by rw [List.size_toArray, List.size_toArray]; exact hsz)) ⟨ho, ho2, ?_⟩
    rw [e]
    exact h2 hw

def sIx (n d : Nat) : Option Int → Nat
  | none => d
  | some v => if v < 0 then (v + (n : Int)).toNat else min v.toNat n
theorem sIx_nat (n d k : Nat) : sIx n d (some (k : Int)) = min k n := by
  show (if (k : Int) < 0 then ((k : Int) + (n : Int)).toNat else min (k : Int).toNat n) = min k n
  rw [if_neg (by omega), Int.toNat_natCast]
theorem sIx_le (n d : Nat) (hd : d ≤ n) (o : Option Int) : sIx n d o ≤ n := by
  cases o with
  | none => exact hd
  | some v =>
    show (if v < 0 then (v + (n : Int)).toNat else min v.toNat n) ≤ n
    by_cases hv : v < 0
    · rw [if_pos hv]; omega
    · rw [if_neg hv]; exact Nat.min_le_right _ _
theorem clip_eq (v : Int) (n d : Nat) : (if v < 0 then max (v + (n : Int)) 0 else min v (n : Int)) = ((sIx n d (some v) : Nat) : Int) := by
  show (if v < 0 then max (v + (n : Int)) 0 else min v (n : Int)) = (((if v < 0 then (v + (n : Int)).toNat else min v.toNat n) : Nat) : Int)
  by_cases hv : v < 0
  · simp only [if_pos hv]; omega
  · simp only [if_neg hv]; omega
theorem adjust_gen (lo hi : Option Int) (n : Nat) : Builtin.Slice.sliceAdjust lo hi 1 (n : Int) = (((sIx n 0 lo : Nat) : Int), ((sIx n n hi : Nat) : Int)) := by
  have h1 : ¬ ((1 : Int) < 0) := by omega
  unfold Builtin.Slice.sliceAdjust
  simp only [h1, if_false]
  refine Prod.ext ?_ ?_
  · cases lo with
    | none => rfl
    | some v => exact clip_eq v n 0
  · cases hi with
    | none => rfl
    | some v => exact clip_eq v n n
theorem places_gen (i j : Nat) : Builtin.Slice.slicePlaces (i : Int) (j : Int) 1 = j - i := by
  unfold Builtin.Slice.slicePlaces
  have h1 : (1 : Int) > 0 := by omega
  simp only [h1, if_true, Int.ediv_one]
  split <;> omega
theorem slicePart_ {v : Value} {o : Option Int} {Q : Option Int → Shared → Prop} (p : IsPart v o) (h : Q o s) : wpAny (model prog w) A (Builtin.Slice.slicePartIndex v) Q E s := by
  cases p with
  | none => exact slicePart_none h
  | int i t => exact slicePart_int h
theorem sliceApplied_gen {sl : Addr} {vl vu : Value} {lo hi : Option Int} {n : Nat} {Q : Int × Int × Nat → Shared → Prop} (hs : s.heap.IsSliceOf sl vl vu .none) (pl : IsPart vl lo) (pu : IsPart vu hi)
    (h : Q (((sIx n 0 lo : Nat) : Int), 1, sIx n n hi - sIx n 0 lo) s) : wpAny (model prog w) A (Builtin.Slice.sliceApplied (.ref sl) (pure (n : Int))) Q E s := by
  obtain ⟨os, hos, hcs, hds⟩ := id hs
  unfold Builtin.Slice.sliceApplied Builtin.Slice.sliceFields
  refine wpAny_bind (wpAny_bind (wpAny_field hos hds (x := vl) rfl (wpAny_bind (wpAny_field hos hds (x := vu) rfl (wpAny_bind (wpAny_field hos hds (x := .none) rfl (wpAny_pure ?_)))))))
  refine wpAny_bind (slicePart_none ?_)
  show wpAny _ _ (if ((1 : Int) == 0) = true then _ else _) _ _ s
  rw [if_neg (by decide)]
  refine wpAny_bind (slicePart_ pl (wpAny_bind (slicePart_ pu (wpAny_bind (wpAny_pure ?_)))))
  show wpAny _ _ (match Builtin.Slice.sliceAdjust lo hi 1 (n : Int) with | (lo, hi) => pure (lo, (1 : Int), Builtin.Slice.slicePlaces lo hi 1)) _ _ s
  rw [adjust_gen lo hi n]
  show wpAny _ _ (pure (((sIx n 0 lo : Nat) : Int), (1 : Int), Builtin.Slice.slicePlaces ((sIx n 0 lo : Nat) : Int) ((sIx n n hi : Nat) : Int) 1)) _ _ s
  rw [places_gen]
  exact wpAny_pure h
theorem pick_gen (xs : Array Value) (i k : Nat) : ((List.range k).filterMap fun (m : Nat) => xs[((i : Int) + (m : Int) * 1).toNat]?).toArray = ((xs.toList.drop i).take k).toArray := by
  have e : (fun (m : Nat) => xs[((i : Int) + (m : Int) * 1).toNat]?) = fun m => xs[i + m]? := by
    funext m
    have : ((i : Int) + (m : Int) * 1).toNat = i + m := by omega
    rw [this]
  rw [e]
  have := pick_run xs i k
  rw [List.filterMap_map] at this
  have e2 : ((fun x => xs[x]?) ∘ fun x => i + x) = fun m => xs[i + m]? := rfl
  rw [e2] at this
  rw [this]

theorem getItem_tuple_cut {t sl : Addr} {items : Array Value} {vl vu : Value} {lo hi : Option Int} {Q : Value → Shared → Prop} (ht : IsTup s.heap t items) (hs : s.heap.IsSliceOf sl vl vu .none) (pl : IsPart vl lo) (pu : IsPart vu hi)
    (hw : ¬ (sIx items.size 0 lo = 0 ∧ sIx items.size items.size hi = items.size))
    (h : Q (.ref s.heap.objs.size) { s with heap := s.heap.push { cls := .type "tuple", data := .seq ((items.toList.drop (sIx items.size 0 lo)).take (sIx items.size items.size hi - sIx items.size 0 lo)).toArray } })
    (hsz : items.size ≤ sizeLine) : wpAny (model prog w) A (getItem (.ref t) (.ref sl)) Q E s := by
  have htake : sizeOk (.seq ((items.toList.drop (sIx items.size 0 lo)).take (sIx items.size items.size hi - sIx items.size 0 lo)).toArray) := by
    show ((items.toList.drop (sIx items.size 0 lo)).take (sIx items.size items.size hi - sIx items.size 0 lo)).toArray.size ≤ sizeLine
    rw [List.size_toArray, List.length_take, List.length_drop, Array.length_toList]
    omega
  have hj : sIx items.size items.size hi ≤ items.size := sIx_le _ _ (Nat.le_refl _) hi
  obtain ⟨os, hos, hcs, hds⟩ := id hs
  have hTs : s.TypeIs (.ref sl) "slice" := ⟨os, hos, hcs⟩
  unfold getItem
  try with_reducible refine wpAny_holding ?_
  first | refine wpAny_bind (wpAny_pure ?_) | skip
  refine wpAny_bind (wpAny_sequenceKey ht.typeIs (by decide) ?_)
  refine wpAny_bind (wpAny_callSpecial?_slot (name := Str.ofString "__getitem__") ht.typeIs PyProof.Rows.slot_tuple_getitem
    (wpAny_call_entry PyProof.Rows.slot_tuple_getitem ht.typeIs entry_tuple_getitem ?_ (args_tuple_getitem _ _)))
  show wpAny _ _ (Builtin.Tuple.tupleItemsOf (.ref t) >>= _) _ _ s
  refine wpAny_bind (tupleItemsOf_ ht ?_)
  refine wpAny_bind (wpAny_typeOf hTs ?_)
  rw [if_pos (by decide)]
  refine wpAny_bind (sliceApplied_gen hs pl pu ?_)
  have hno : ¬ ((((sIx items.size 0 lo : Nat) : Int) == 0 && (1 : Int) == 1 && (sIx items.size items.size hi - sIx items.size 0 lo) == items.size) = true) := by
    intro q
    rw [Bool.and_eq_true, Bool.and_eq_true] at q
    have q1 : ((sIx items.size 0 lo : Nat) : Int) = 0 := eq_of_beq q.1.1
    have q2 : sIx items.size items.size hi - sIx items.size 0 lo = items.size := eq_of_beq q.2
    exact hw ⟨by omega, by omega⟩
  show wpAny _ _ (if (((sIx items.size 0 lo : Nat) : Int) == 0 && (1 : Int) == 1 && (sIx items.size items.size hi - sIx items.size 0 lo) == items.size) = true then _ else _) _ _ s
  rw [if_neg hno, pick_gen]
  first
    | exact wpAny_bind (m := Builtin.Tuple.tupleExact _) (wpAny_newObj_type (wpAny_pure ⟨_, rfl, wpAny_pure h⟩) htake)
    | exact wpAny_bind (m := Builtin.Tuple.tupleExact _) (wpAny_newObj_type (wpAny_bind (wpAny_pure (wpAny_pure ⟨_, rfl, wpAny_pure h⟩))) htake)
    | exact wpAny_bind (wpAny_bind (m := Builtin.Tuple.tupleExact _) (wpAny_newObj_type (wpAny_pure (wpAny_pure ⟨_, rfl, wpAny_pure h⟩)) htake))
    | exact wpAny_bind (wpAny_bind (m := Builtin.Tuple.tupleExact _) (wpAny_newObj_type (wpAny_pure ⟨_, rfl, wpAny_pure h⟩) htake))
end
end HT

namespace L2
open PySem PySem.Spec PyProof.Rows

abbrev TO := St → Hp → (Option Int → Hp → Prop) → Prop
def PO (X : Cx) (e : Option Expr) (t : TO) : Prop :=
  ∀ (pins : List (Addr × Obj)) (s : Shared) (σ : St) (H : Hp) (Q : Option Int → Hp → Prop), Inv X pins σ H s → t σ H Q →
    wpAny (model X.prog X.w) X.A (evalPart e X.env) (fun u s' => ∃ o H', Inv X pins σ H' s' ∧ IsPart u o ∧ Q o H') X.xe s
def tNoPart : TO := fun _ H Q => Q none H
def tPart (t : TE) : TO := fun σ H Q => t σ H fun x H1 => ∃ i, x = .int i ∧ Q (some i) H1

theorem intsAre_of {ns : List Int} : ∀ {us : List Value}, Vals (ns.map V.int) us → IntsAre us ns := by
  induction ns with
  | nil => intro us r; rw [List.map_nil] at r; cases r; exact .nil
  | cons n ns ih =>
    intro us r
    rw [List.map_cons] at r
    cases r with
    | cons r1 r2 =>
      obtain ⟨t, e⟩ := r1
      subst e
      exact .cons n t (ih r2)

section
variable {X : Cx} {e : Expr} {te : TE} {lo hi : Option Expr} {tl th : TO} {pos p2 : Pos}

theorem po_none : PO X none tNoPart := by
  intro pins s σ H Q I h
  rw [evalPart_none]
  exact wpAny_pure ⟨none, H, I, .none, h⟩
theorem po_some (h : PE X e te) : PO X (some e) (tPart te) := by
  intro pins s σ H Q I hw
  rw [evalPart_some]
  refine thn (h pins s σ H _ I hw) fun u s1 ⟨x, H1, I1, r1, q1⟩ => ?_
  obtain ⟨i, rfl, q⟩ := q1
  obtain ⟨t, rfl⟩ := r1
  exact ⟨some i, H1, I1, .int i t, q⟩

def SlR (X : Cx) (r : V → Option Int → Option Int → Hp → VK → Prop) : Prop :=
  ∀ (pins : List (Addr × Obj)) (s : Shared) (σ : St) (H : Hp) (x : V) (v vl vu : Value) (lo hi : Option Int) (sl : Addr) (Q : VK), Inv X pins σ H s → RelV x v → s.heap.IsSliceOf sl vl vu .none → IsPart vl lo → IsPart vu hi → r x lo hi H Q →
    ∃ T id, typeLookup (.type T) "__getitem__" = pure (some (.builtin id)) ∧ s.TypeIs v T ∧ wpAny (model X.prog X.w) X.A (getItem v (.ref sl)) (EP X pins σ Q) X.xe s
theorem SlR.or {r r' : V → Option Int → Option Int → Hp → VK → Prop} (h : SlR X r) (h' : SlR X r') : SlR X (fun x lo hi H Q => r x lo hi H Q ∨ r' x lo hi H Q) := by
  intro pins s σ H x v vl vu lo hi sl Q I rx hs pl pu q
  rcases q with q | q
  · exact h pins s σ H x v vl vu lo hi sl Q I rx hs pl pu q
  · exact h' pins s σ H x v vl vu lo hi sl Q I rx hs pl pu q
def tSl (r : V → Option Int → Option Int → Hp → VK → Prop) (te : TE) (tl th : TO) : TE := fun σ H Q => te σ H fun x H1 => tl σ H1 fun l H2 => th σ H2 fun u H3 => r x l u H3 Q
theorem pe_slice {r : V → Option Int → Option Int → Hp → VK → Prop} (hr : SlR X r) (he : PE X e te) (hl : PO X lo tl) (hu : PO X hi th) : PE X (.Subscript e (.Slice lo hi none p2) pos) (tSl r te tl th) := by
  intro pins s σ H Q I h
  refine Subscript_ (thn (he pins s σ H _ I h) fun v s1 ⟨x, H1, I1, r1, q1⟩ => ?_)
  refine wpAny_Slice (thn (hl pins s1 σ H1 _ I1 q1) fun vl s2 ⟨l, H2, I2, pl, q2⟩ => thn (hu pins s2 σ H2 _ I2 q2) fun vu s3 ⟨u, H3, I3, pu, q3⟩ => ?_)
  rw [evalPart_none]
  refine wpAny_pure ?_
  have I4 : Inv X pins σ H3 { s3 with heap := s3.heap.push { cls := .type "slice", data := .fields #[vl, vu, .none] } } := I3.kept (t' := s3.toks) fun b ob q => Heap.get?_push_of_some _ q
  obtain ⟨T, id, hT, ht, hg⟩ := hr pins { s3 with heap := s3.heap.push { cls := .type "slice", data := .fields #[vl, vu, .none] } } σ H3 x v vl vu l u s3.heap.objs.size Q I4 r1 (Heap.IsSliceOf.new ..) pl pu q3
  show wpAny (model X.prog X.w) X.A (subscriptTail e (.Slice lo hi none p2) v (.ref s3.heap.objs.size)) (EP X pins σ Q) X.xe { s3 with heap := s3.heap.push { cls := .type "slice", data := .fields #[vl, vu, .none] } }
  exact tail_any (ops := [.ref s3.heap.objs.size, v]) ht hT hg (by with_unfolding_all rfl)

def cutV (xs : List V) (lo hi : Option Int) : List V := (xs.drop (HT.sIx xs.length 0 lo)).take (HT.sIx xs.length xs.length hi - HT.sIx xs.length 0 lo)
theorem cutV_length (xs : List V) (lo hi : Option Int) : (cutV xs lo hi).length ≤ xs.length := by
  unfold cutV
  rw [List.length_take, List.length_drop]
  omega
def rSlT (K : PySem.W.Frag) : V → Option Int → Option Int → Hp → VK → Prop := fun x lo hi H Q => ∃ a xs, x = .ref a ∧ SqT K H a xs ∧
  ¬ (HT.sIx xs.length 0 lo = 0 ∧ HT.sIx xs.length xs.length hi = xs.length) ∧ ∀ p, H p = none → Q (.ref p) (upd H p (.tup (cutV xs lo hi)))
theorem sl_tup : SlR X (rSlT X.K) := by
  intro pins s σ H x v vl vu lo hi sl Q I rx hs pl pu h
  obtain ⟨a, xs, rfl, hx, hw, q⟩ := h
  cases rx
  obtain ⟨its, r, ht, hz⟩ := I.tuple hx
  have hlen : its.toArray.size = xs.length := by rw [List.size_toArray]; exact r.length.symm
  refine ⟨"tuple", _, PyProof.Rows.slot_tuple_getitem.lookup, ht.typeIs, ?_⟩
  refine HT.getItem_tuple_cut ht hs pl pu (by rw [hlen]; exact hw) ?_ (by rw [hlen]; exact hz)
  rw [hlen]
  refine ⟨.ref s.heap.objs.size, _, I.laid (t' := s.toks) (o := .tup (cutV xs lo hi)) (fun b ob q => Heap.get?_push_of_some _ q) (Nat.le_refl _) ?_, rfl, q _ (I.hok.fresh (Nat.le_refl _))⟩
  exact ⟨Nat.le_trans (cutV_length xs lo hi) hz, _, (r.drop (HT.sIx xs.length 0 lo)).take (HT.sIx xs.length xs.length hi - HT.sIx xs.length 0 lo), IsTup.new _ _⟩

def rCatT (K : PySem.W.Frag) : R2 := fun x y H Q => ∃ a b xs ys, x = .ref a ∧ y = .ref b ∧ SqT K H a xs ∧ SqT K H b ys ∧ xs ≠ [] ∧ xs.length + ys.length ≤ sizeLine ∧
  (ys = [] → Q (.ref a) H) ∧ (ys ≠ [] → ∀ p, H p = none → Q (.ref p) (upd H p (.tup (xs ++ ys))))
theorem Vals.nil_iff {xs : List V} {us : List Value} (r : Vals xs us) : us = [] ↔ xs = [] := by
  cases r with
  | nil => simp
  | cons _ _ => simp
theorem op_catT : OpR X (binaryOp .Add) (rCatT X.K) := by
  intro pins s σ H x y v u Q I rx ry h
  obtain ⟨a, b, xs, ys, rfl, rfl, ha, hb, hx, hz, q1, q2⟩ := h
  cases rx
  cases ry
  obtain ⟨its, r1, p1, _⟩ := I.tuple ha
  obtain ⟨its2, r2, p2, _⟩ := I.tuple hb
  refine HT.cat_tup p1 p2 (fun z => hx (r1.nil_iff.mp z)) (fun z => ⟨.ref a, H, I, rfl, q1 (r2.nil_iff.mp z)⟩) (fun z => ?_) (by rw [← r1.length, ← r2.length]; exact hz)
  refine ⟨.ref s.heap.objs.size, _, I.laid (t' := s.toks) (o := .tup (xs ++ ys)) (fun b ob q => Heap.get?_push_of_some _ q) (Nat.le_refl _) ?_, rfl, q2 (fun w => z (r2.nil_iff.mpr w)) _ (I.hok.fresh (Nat.le_refl _))⟩
  exact ⟨by rw [List.length_append]; exact hz, _, r1.append r2, IsTup.new _ _⟩
end
end L2

namespace L2
open PySem PySem.Spec PyProof.Rows

def ixN (n : Nat) (i : Int) : Option Nat := if 0 ≤ i then (if i < n then some i.toNat else none) else if -(n : Int) ≤ i then some (i + n).toNat else none
def atI {α : Type} (xs : List α) (i : Int) : Option α := (ixN xs.length i).bind fun j => xs[j]?
theorem ixN_seq {n : Nat} {i : Int} {j : Nat} (h : ixN n i = some j) : seqIndex? i n = some j ∧ j < n ∧ -(n : Int) ≤ i ∧ i < n := by
  unfold ixN at h
  by_cases h0 : 0 ≤ i
  · rw [if_pos h0] at h
    by_cases h1 : i < n
    · rw [if_pos h1] at h
      have e : i.toNat = j := Option.some.inj h
      exact ⟨by rw [seqIndex_of h0 h1, e], by omega, by omega, h1⟩
    · rw [if_neg h1] at h; cases h
  · rw [if_neg h0] at h
    by_cases h1 : -(n : Int) ≤ i
    · rw [if_pos h1] at h
      have e : (i + n).toNat = j := Option.some.inj h
      exact ⟨by rw [seqIndex_neg (by omega) h1, e], by omega, h1, by omega⟩
    · rw [if_neg h1] at h; cases h
theorem atI_get {α : Type} {xs : List α} {i : Int} {v : α} (h : atI xs i = some v) : ∃ j, seqIndex? i xs.length = some j ∧ xs[j]? = some v ∧ j < xs.length ∧ -(xs.length : Int) ≤ i ∧ i < xs.length := by
  unfold atI at h
  cases e : ixN xs.length i with
  | none => rw [e] at h; cases h
  | some j =>
    rw [e] at h
    obtain ⟨h1, h2, h3, h4⟩ := ixN_seq e
    exact ⟨j, h1, h, h2, h3, h4⟩
theorem atI_nat {α : Type} {xs : List α} {j : Nat} {v : α} (h : xs[j]? = some v) : atI xs (j : Int) = some v := by
  have hj : j < xs.length := (List.getElem?_eq_some_iff.mp h).1
  have e : ixN xs.length (j : Int) = some j := by
    unfold ixN
    rw [if_pos (by omega), if_pos (by omega)]; simp
  unfold atI; rw [e]; exact h
theorem atI_last {α : Type} (xs : List α) (v : α) : atI (xs ++ [v]) (-1) = some v := by
  have hl : (xs ++ [v]).length = xs.length + 1 := by simp
  have e : ixN (xs ++ [v]).length (-1) = some xs.length := by
    unfold ixN
    rw [hl, if_neg (by decide), if_pos (by omega)]
    congr 1
    omega
  unfold atI
  rw [e]
  show (xs ++ [v])[xs.length]? = some v
  simp

def PlainIx (b : Expr) : Prop := ∀ o i, subscripted b false o i = operate [o, i] (getItem o i)
def IxR (X : Cx) (r : R2) : Prop :=
  ∀ (value slice : Expr) (pins : List (Addr × Obj)) (s : Shared) (σ : St) (H : Hp) (x y : V) (v u : Value) (Q : VK), Inv X pins σ H s → RelV x v → RelV y u → r x y H Q →
    subscripted slice false v u = operate [v, u] (getItem v u) → wpAny (model X.prog X.w) X.A (subscriptTail value slice v u) (EP X pins σ Q) X.xe s
def MtR (X : Cx) (id : String) (r : V → List V → Hp → VK → Prop) : Prop :=
  ∀ (pins : List (Addr × Obj)) (s : Shared) (σ : St) (H : Hp) (x : V) (xs : List V) (v : Value) (us : List Value) (Q : VK), Inv X pins σ H s → RelV x v → Vals xs us → r x xs H Q →
    wpAny (model X.prog X.w) X.A (call (.builtin id) (v :: us)) (EP X pins σ Q) X.xe s
section
variable {X : Cx} {a b : Expr} {ta tb : TE} {pos : Pos}
theorem IxR.or {r r' : R2} (h : IxR X r) (h' : IxR X r') : IxR X (fun x y H Q => r x y H Q ∨ r' x y H Q) := by
  intro value slice pins s σ H x y v u Q I rx ry q hs
  rcases q with q | q
  · exact h value slice pins s σ H x y v u Q I rx ry q hs
  · exact h' value slice pins s σ H x y v u Q I rx ry q hs
theorem MtR.or {id : String} {r r' : V → List V → Hp → VK → Prop} (h : MtR X id r) (h' : MtR X id r') : MtR X id (fun x xs H Q => r x xs H Q ∨ r' x xs H Q) := by
  intro pins s σ H x xs v us Q I rx rs q
  rcases q with q | q
  · exact h pins s σ H x xs v us Q I rx rs q
  · exact h' pins s σ H x xs v us Q I rx rs q
theorem pe_ix {r : R2} (hr : IxR X r) (ha : PE X a ta) (hb : PE X b tb) (hs : PlainIx b) : PE X (.Subscript a b pos) (tOp r ta tb) := by
  intro pins s σ H Q I h
  exact Subscript_ (binT ha hb I h fun v u s2 x y H2 I2 rx ry q => hr a b pins s2 σ H2 x y v u Q I2 rx ry q (hs _ _))

def rIxL (K : PySem.W.Frag) : R2 := fun x y H Q => ∃ p xs i v, x = .ref p ∧ y = .int i ∧ SqL K H p xs ∧ atI xs i = some v ∧ Q v H
def rIxT (K : PySem.W.Frag) : R2 := fun x y H Q => ∃ p xs i v, x = .ref p ∧ y = .int i ∧ SqT K H p xs ∧ atI xs i = some v ∧ Q v H
theorem ix_list : IxR X (rIxL X.K) := by
  intro value slice pins s σ H x y v u Q I rx ry h hs
  obtain ⟨p, xs, i, z, rfl, rfl, hq, he, q⟩ := h
  cases rx
  obtain ⟨t, rfl⟩ := ry
  obtain ⟨its, r, pl, hz⟩ := I.list hq
  obtain ⟨j, h1, h2, h3, h4, h5⟩ := atI_get he
  obtain ⟨w, ew, rw'⟩ := r.get h2
  have hl := r.length
  have hn := line63
  have fin : EP X pins σ Q w s := ⟨z, H, I, rw', q⟩
  by_cases h0 : 0 ≤ i
  · have hj : i.toNat = j := by
      rw [seqIndex_of h0 h5] at h1
      exact Option.some.inj h1
    exact item_listR pl.isList h0 (by omega) (by rw [hj]; simpa using ew) fin hs
  · have hj : (i + (its.toArray.size : Int)).toNat = j := by
      rw [seqIndex_neg (by omega) h4] at h1
      rw [List.size_toArray, ← hl]
      exact Option.some.inj h1
    exact subscriptTail_builtinR (x := w) pl.isList.typeIs slot_list_getitem.lookup
      (wpAny_getItem_list_neg (Q := fun r s' => r = w ∧ EP X pins σ Q r s') pl.isList (by omega) (by rw [List.size_toArray] <;> omega) (by omega) (by rw [hj]; simpa using ew) ⟨rfl, fin⟩) hs
theorem ix_tup : IxR X (rIxT X.K) := by
  intro value slice pins s σ H x y v u Q I rx ry h hs
  obtain ⟨p, xs, i, z, rfl, rfl, hq, he, q⟩ := h
  cases rx
  obtain ⟨t, rfl⟩ := ry
  obtain ⟨its, r, pl, hz⟩ := I.tuple hq
  obtain ⟨j, h1, h2, h3, h4, h5⟩ := atI_get he
  obtain ⟨w, ew, rw'⟩ := r.get h2
  have hl := r.length
  have hn := line63
  have fin : EP X pins σ Q w s := ⟨z, H, I, rw', q⟩
  exact subscriptTail_builtinR (x := w) pl.typeIs slot_tuple_getitem.lookup
    (getItem_tuple (j := j) (Q := fun r s' => r = w ∧ EP X pins σ Q r s') pl (by omega) (by omega) (by rw [List.size_toArray, ← hl]; exact h1) (by simpa using ew) ⟨rfl, fin⟩) hs
theorem mapSeq_set (its : List Value) (n j : Nat) (u : Value) : Obj.mapSeq (·.setIfInBounds j u) { cls := .type "list", data := .seq its.toArray n } = { cls := .type "list", data := .seq (its.set j u).toArray n } := by
  simp [Obj.mapSeq]
theorem Inv.lst {pins : List (Addr × Obj)} {σ : St} {H : Hp} {s : Shared} {p : Addr} {xs : List V} (I : Inv X pins σ H s) (h : H p = some (.lst xs)) :
    ∃ (its : List Value) (n : Nat), Vals xs its ∧ s.heap.get? p = some { cls := .type "list", data := .seq its.toArray n } ∧ xs.length ≤ sizeLine := by
  obtain ⟨z, its, n, r, e⟩ := I.hok p _ h
  exact ⟨its, n, r, e, z⟩
theorem Inv.lstUpd {pins : List (Addr × Obj)} {σ : St} {H : Hp} {s : Shared} {p : Addr} {xs ys : List V} {its its' : List Value} {n n' : Nat} {f : Obj → Obj} (I : Inv X pins σ H s) (h : H p = some (.lst xs))
    (ho : s.heap.get? p = some { cls := .type "list", data := .seq its.toArray n }) (hf : f { cls := .type "list", data := .seq its.toArray n } = { cls := .type "list", data := .seq its'.toArray n' }) (r : Vals ys its') (hz : ys.length ≤ sizeLine) (t : Nat) :
    Inv X pins σ (upd H p (.lst ys)) { s with heap := s.heap.update p f, toks := t } := by
  have e : (s.heap.update p f).get? p = some { cls := .type "list", data := .seq its'.toArray n' } := by
    rw [Heap.get?_update_self f ho (by rw [hf] <;> rfl), hf]
  refine I.write (x := p) (e := p) (by rw [h]; trivial) (.inl rfl) (fun b u hb q => (Heap.get?_update_other _ _ (Ne.symm hb)).trans q) ⟨_, e⟩ ?_
  exact ⟨hz, its', n', r, e⟩
def rSetL : V → V → V → Hp → (Hp → Prop) → Prop := fun o i v H Q => ∃ p xs k j, o = .ref p ∧ i = .int k ∧ H p = some (.lst xs) ∧ ixN xs.length k = some j ∧ Q (upd H p (.lst (xs.set j v)))
theorem set_list : PSet X rSetL := by
  intro pins s σ H o i v ov iv u Q I ro ri rv h
  obtain ⟨p, xs, k, j, rfl, rfl, hp, hj, q⟩ := h
  cases ro
  obtain ⟨t, rfl⟩ := ri
  obtain ⟨its, n, r, ho, hz⟩ := I.lst hp
  obtain ⟨h1, h2, h3, h4⟩ := ixN_seq hj
  have hl := r.length
  have hn := line63
  have I' : Inv X pins σ (upd H p (.lst (xs.set j v))) { s with heap := s.heap.update p (Obj.mapSeq (·.setIfInBounds j u)) } :=
    I.lstUpd hp ho (mapSeq_set its n j u) (r.set rv j) (by rw [List.length_set]; exact hz) s.toks
  by_cases h0 : 0 ≤ k
  · have hk : k.toNat = j := by
      rw [seqIndex_of h0 h4] at h1
      exact Option.some.inj h1
    exact PySem.W.ki_setAt ho h0 (by omega) (by rw [List.size_toArray, ← hl]; exact h4) (by rw [hk]; exact ⟨_, I', q⟩)
  · have hk : (k + (its.toArray.size : Int)).toNat = j := by
      rw [seqIndex_neg (by omega) h3] at h1
      rw [List.size_toArray, ← hl]
      exact Option.some.inj h1
    exact PySem.W.ki_setBack ho (by omega) (by rw [List.size_toArray, ← hl]; exact h3) (by omega) (by rw [hk]; exact ⟨_, I', q⟩)

theorem slice_bounds (lo hi : Option Int) (n : Nat) : (sliceBounds lo hi none n).1 = ((HT.sIx n 0 lo : Nat) : Int) ∧ (sliceBounds lo hi none n).2.1 = ((HT.sIx n n hi : Nat) : Int) ∧ (sliceBounds lo hi none n).2.2 = 1 := by
  refine ⟨?_, ?_, rfl⟩
  · cases lo with
    | none => simp [sliceBounds, HT.sIx]
    | some i =>
      simp only [sliceBounds, HT.sIx, Option.getD_none, show (1 : Int) > 0 by decide, if_true]
      by_cases h : i < 0
      · simp only [h, if_true] <;> omega
      · simp only [h, if_false] <;> omega
  · cases hi with
    | none => simp [sliceBounds, HT.sIx]
    | some i =>
      simp only [sliceBounds, HT.sIx, Option.getD_none, show (1 : Int) > 0 by decide, if_true]
      by_cases h : i < 0
      · simp only [h, if_true] <;> omega
      · simp only [h, if_false] <;> omega
theorem slicePick_cut (its : List Value) (lo hi : Option Int) : slicePick its.toArray lo hi none = ((its.drop (HT.sIx its.length 0 lo)).take (HT.sIx its.length its.length hi - HT.sIx its.length 0 lo)).toArray := by
  obtain ⟨h1, h2, h3⟩ := slice_bounds lo hi its.toArray.size
  unfold slicePick
  rw [h1, h2, h3]
  simp only [sliceRange_one, pick_run, List.size_toArray] <;> rfl
def rSlL (K : PySem.W.Frag) : V → Option Int → Option Int → Hp → VK → Prop := fun x lo hi H Q => ∃ a xs, x = .ref a ∧ SqL K H a xs ∧ ∀ p, H p = none → Q (.ref p) (upd H p (.lst (cutV xs lo hi)))
theorem sl_list : SlR X (rSlL X.K) := by
  intro pins s σ H x v vl vu lo hi sl Q I rx hs pl pu h
  obtain ⟨a, xs, rfl, hx, q⟩ := h
  cases rx
  obtain ⟨its, r, ht, hz⟩ := I.list hx
  have hlen := r.length
  refine ⟨"list", _, slot_list_getitem.lookup, ht.isList.typeIs, ?_⟩
  refine wpAny_getItem_list_slice ht.isList hs pl pu .none (by simp) ?_ (by rw [List.size_toArray] <;> omega)
  rw [slicePick_cut, ← hlen]
  refine ⟨.ref s.heap.objs.size, _, I.laid (t' := s.toks) (o := .lst (cutV xs lo hi)) (fun b ob q => Heap.get?_push_of_some _ q) (Nat.le_refl _) ?_, rfl, q _ (I.hok.fresh (Nat.le_refl _))⟩
  exact ⟨Nat.le_trans (cutV_length xs lo hi) hz, _, 0, (r.drop (HT.sIx xs.length 0 lo)).take (HT.sIx xs.length xs.length hi - HT.sIx xs.length 0 lo), Heap.get?_push_size _ rfl⟩

def flatV : V → Bool
  | .non => true
  | .bl _ => true
  | .int _ => true
  | .str _ => true
  | _ => false
def eqV : V → V → Bool
  | .non, .non => true
  | .bl a, .bl b => a == b
  | .bl a, .int b => (if a then 1 else 0) == b
  | .int a, .bl b => a == (if b then 1 else 0)
  | .int a, .int b => a == b
  | .str a, .str b => a == b
  | _, _ => false
theorem eqAt_V {A : Around} {s : Shared} {y x : V} {u v : Value} (ry : RelV y u) (rx : RelV x v) (fy : flatV y = true) (fx : flatV x = true) : SeqAt.EqAt A s u v (eqV y x) := by
  cases y with
  | non =>
    cases ry
    cases x with
    | non => cases rx; exact SeqAt.EqAt.same _
    | bl b => cases rx; exact SeqAt.EqAt.none_bool b
    | int b => obtain ⟨t, rfl⟩ := rx; exact SeqAt.EqAt.none_int b t
    | str b => obtain ⟨t, rfl⟩ := rx; exact SeqAt.EqAt.none_str b t
    | _ => exact absurd (show false = true from fx) Bool.false_ne_true
  | bl a =>
    cases ry
    cases x with
    | non => cases rx; exact SeqAt.EqAt.bool_none a
    | bl b => cases rx; exact SeqAt.EqAt.bool_bool a b
    | int b => obtain ⟨t, rfl⟩ := rx; exact SeqAt.EqAt.bool_int a b t
    | str b => obtain ⟨t, rfl⟩ := rx; exact SeqAt.EqAt.bool_str a b t
    | _ => exact absurd (show false = true from fx) Bool.false_ne_true
  | int a =>
    obtain ⟨t', rfl⟩ := ry
    cases x with
    | non => cases rx; exact SeqAt.EqAt.int_none a t'
    | bl b => cases rx; exact SeqAt.EqAt.int_bool a t' b
    | int b => obtain ⟨t, rfl⟩ := rx; exact SeqAt.EqAt.int_int a t' b t
    | str b => obtain ⟨t, rfl⟩ := rx; exact SeqAt.EqAt.int_str a t' b t
    | _ => exact absurd (show false = true from fx) Bool.false_ne_true
  | str a =>
    obtain ⟨t', rfl⟩ := ry
    cases x with
    | non => cases rx; exact SeqAt.EqAt.str_none a t'
    | bl b => cases rx; exact SeqAt.EqAt.str_bool a t' b
    | int b => obtain ⟨t, rfl⟩ := rx; exact SeqAt.EqAt.str_int a t' b t
    | str b => obtain ⟨t, rfl⟩ := rx; exact SeqAt.EqAt.str_str a t' b t
    | _ => exact absurd (show false = true from fx) Bool.false_ne_true
  | _ => exact absurd (show false = true from fy) Bool.false_ne_true
def eqU (x : V) (u : Value) : Bool := match u with
  | .none => eqV .non x
  | .bool b => eqV (.bl b) x
  | .int i _ => eqV (.int i) x
  | .str z _ => eqV (.str z) x
  | _ => false
theorem eqU_of {x y : V} {u : Value} (r : RelV y u) (f : flatV y = true) : eqU x u = eqV y x := by
  cases y with
  | non => cases r; rfl
  | bl b => cases r; rfl
  | int i => obtain ⟨t, rfl⟩ := r; rfl
  | str z => obtain ⟨t, rfl⟩ := r; rfl
  | _ => exact absurd (show false = true from f) Bool.false_ne_true
theorem any_eqU {x : V} : ∀ {xs : List V} {us : List Value}, Vals xs us → xs.all flatV = true → us.any (eqU x) = xs.any fun y => eqV y x
  | _, _, .nil, _ => rfl
  | y :: xs, u :: us, .cons r t, f => by
    rw [List.all_cons, Bool.and_eq_true] at f
    rw [List.any_cons, List.any_cons, eqU_of r f.1, any_eqU t f.2]
theorem mem_eqAt {A : Around} {s : Shared} {x : V} {v : Value} (rx : RelV x v) (fx : flatV x = true) : ∀ {xs : List V} {us : List Value}, Vals xs us → xs.all flatV = true → ∀ u ∈ us, SeqAt.EqAt A s u v (eqU x u)
  | _, _, .nil, _ => fun u hu => by cases hu
  | y :: xs, u :: us, .cons r t, f => fun u' hu => by
    rw [List.all_cons, Bool.and_eq_true] at f
    rcases List.mem_cons.mp hu with rfl | hu
    · rw [eqU_of r f.1]; exact eqAt_V r rx f.1 fx
    · exact mem_eqAt rx fx t f.2 u' hu
def inV (x : V) (xs : List V) : Bool := xs.any fun y => eqV y x
def rIn (K : PySem.W.Frag) (neg : Bool) : R2 := fun x y H Q => ∃ p xs, y = .ref p ∧ (SqL K H p xs ∨ SqT K H p xs) ∧ flatV x = true ∧ xs.all flatV = true ∧ Q (.bl (if neg then !inV x xs else inV x xs)) H
theorem op_notIn_seq : OpR X (compareOp .NotIn) (rIn X.K true) := by
  intro pins s σ H x y v u Q I rx ry h
  obtain ⟨p, xs, rfl, hq, fx, fs, q⟩ := h
  cases ry
  rcases hq with hq | hq
  · obtain ⟨its, r, pl, hz⟩ := I.list hq
    refine SeqAt.notIn_listAt (eqU x) pl.isList (fun w hw => mem_eqAt rx fx r fs w (by simpa using hw)) ⟨.bl _, H, I, rfl, ?_⟩
    rw [show its.toArray.any (eqU x) = its.any (eqU x) by simp, any_eqU r fs]
    exact q
  · obtain ⟨its, r, pl, hz⟩ := I.tuple hq
    refine SeqAt.notIn_tupleAt (eqU x) pl (fun w hw => mem_eqAt rx fx r fs w (by simpa using hw)) ⟨.bl _, H, I, rfl, ?_⟩
    rw [show its.toArray.any (eqU x) = its.any (eqU x) by simp, any_eqU r fs]
    exact q
theorem call_len_seq : CallR X (.builtin "len") (fun xs H Q => ∃ p ys, xs = [.ref p] ∧ (SqL X.K H p ys ∨ SqT X.K H p ys) ∧ Q (.int ys.length) H) := by
  intro pins s σ H xs us Q I r h
  obtain ⟨p, ys, rfl, hq, q⟩ := h
  obtain ⟨u, rfl, rx⟩ := vals1 r
  cases rx
  have hn := line63
  rcases hq with hq | hq
  · obtain ⟨its, r', pl, hz⟩ := I.list hq
    have hlen := r'.length
    exact Calls.call_len_list pl.isList (by simp only [List.size_toArray] <;> omega) ⟨.int ys.length, H, I.tok _, ⟨s.toks + 1, by rw [List.size_toArray, hlen]⟩, q⟩
  · obtain ⟨its, r', pl, hz⟩ := I.tuple hq
    have hlen := r'.length
    exact len_tuple pl (by simp only [List.size_toArray] <;> omega) ⟨.int ys.length, H, I.tok _, ⟨s.toks + 1, by rw [List.size_toArray, hlen]⟩, q⟩
theorem CallR.or {f : Value} {r r' : List V → Hp → VK → Prop} (h : CallR X f r) (h' : CallR X f r') : CallR X f (fun xs H Q => r xs H Q ∨ r' xs H Q) := by
  intro pins s σ H xs us Q I rs q
  rcases q with q | q
  · exact h pins s σ H xs us Q I rs q
  · exact h' pins s σ H xs us Q I rs q
theorem call_list_of : CallR X (.type "list") (fun xs H Q => ∃ p ys, xs = [.ref p] ∧ (SqL X.K H p ys ∨ SqT X.K H p ys) ∧ ∀ l, H l = none → Q (.ref l) (upd H l (.lst ys))) := by
  intro pins s σ H xs us Q I r h
  obtain ⟨p, ys, rfl, hq, q⟩ := h
  obtain ⟨u, rfl, rx⟩ := vals1 r
  cases rx
  have fin : ∀ (its : List Value), Vals ys its → ys.length ≤ sizeLine → ∀ (h' : Heap) (c' : Nat), (∀ b o', s.heap.get? b = some o' → h'.get? b = some o') →
      h'.get? s.heap.objs.size = some { cls := .type "list", dict := none, data := .seq its.toArray c', slots := #[] } → EP X pins σ Q (.ref s.heap.objs.size) { s with heap := h' } := fun its r' hz h' c' kp e =>
    ⟨.ref s.heap.objs.size, _, I.laid (t' := s.toks) kp (Nat.le_refl _) (show ObjOk X.prog X.w _ h' _ (.lst ys) from ⟨hz, its, c', r', e⟩), rfl, q _ (I.hok.fresh (Nat.le_refl _))⟩
  rcases hq with hq | hq
  · obtain ⟨its, r', pl, hz⟩ := I.list hq
    have hlen := r'.length
    obtain ⟨o, ho, hc, n, hd⟩ := pl.isList
    exact call_list_seq p (.inl rfl) ho hc hd (fun h' c' kp e => fin its r' hz h' c' kp e) (by simp only [List.size_toArray] <;> omega)
  · obtain ⟨its, r', pl, hz⟩ := I.tuple hq
    have hlen := r'.length
    obtain ⟨o, ho, hc, n, hd⟩ := pl
    exact call_list_seq p (.inr rfl) ho hc hd (fun h' c' kp e => fin its r' hz h' c' kp e) (by simp only [List.size_toArray] <;> omega)
theorem call_tuple_of : CallR X (.type "tuple") (fun xs H Q => ∃ p ys, xs = [.ref p] ∧ ((SqL X.K H p ys ∧ ∀ l, H l = none → Q (.ref l) (upd H l (.tup ys))) ∨ (SqT X.K H p ys ∧ Q (.ref p) H))) := by
  intro pins s σ H xs us Q I r h
  obtain ⟨p, ys, rfl, h⟩ := h
  obtain ⟨u, rfl, rx⟩ := vals1 r
  cases rx
  rcases h with ⟨hq, q⟩ | ⟨hq, q⟩
  · obtain ⟨its, r', pl, hz⟩ := I.list hq
    have hlen := r'.length
    refine call_tuple_list pl.isList (fun h' kp => ?_) (by simp only [List.size_toArray] <;> omega)
    have I1 : Inv X pins σ H { s with heap := h' } := I.kept (t' := s.toks) kp
    have I2 : Inv X pins σ (upd H h'.objs.size (.tup ys)) { s with heap := h'.push { cls := .type "tuple", data := .seq its.toArray } } :=
      I1.laid (t' := s.toks) (fun b o e => Heap.get?_push_of_some _ e) (Nat.le_refl _) (show ObjOk X.prog X.w _ _ _ (.tup ys) from ⟨hz, its, r', IsTup.new _ _⟩)
    exact ⟨.ref h'.objs.size, _, I2, rfl, q _ (I1.hok.fresh (Nat.le_refl _))⟩
  · obtain ⟨its, r', pl, hz⟩ := I.tuple hq
    exact call_tuple_same pl ⟨.ref p, H, I, rfl, q⟩

def tyV (K : PySem.W.Frag) (T : String) (x : V) (H : Hp) : Prop := match x with
  | .str _ => T = "str"
  | .int _ => T = "int"
  | .ref p => (T = "list" ∧ ∃ xs, SqL K H p xs) ∨ (T = "tuple" ∧ ∃ o, K.lookup p = some o ∧ o.cls = .type "tuple" ∧ o.dict = none) ∨
      (T = "dict" ∧ ((∃ kvs, H p = some (.dK kvs)) ∨ ∃ kvs, H p = some (.dT kvs))) ∨ (T = "set" ∧ ∃ S n, H p = some (.set S n))
  | _ => False
theorem tyV_is {pins : List (Addr × Obj)} {σ : St} {H : Hp} {s : Shared} {T : String} {x : V} {v : Value} (I : Inv X pins σ H s) (r : RelV x v) (ty : tyV X.K T x H) :
    s.TypeIs v T ∧ ∀ a, v = .ref a → ∃ ob, s.heap.get? a = some ob ∧ ob.dict = none := by
  cases x with
  | str z =>
    obtain ⟨t, rfl⟩ := r
    cases (show T = "str" from ty)
    exact ⟨typeIs_str s z t, fun _ e => nomatch e⟩
  | int i =>
    obtain ⟨t, rfl⟩ := r
    cases (show T = "int" from ty)
    exact ⟨typeIs_int s i t, fun _ e => nomatch e⟩
  | ref p =>
    cases r
    rcases ty with ⟨rfl, xs, hq⟩ | ⟨rfl, o, hk, hc, hd⟩ | ⟨rfl, hk⟩ | ⟨rfl, S, n, hk⟩
    · obtain ⟨its, _, pl, _⟩ := I.list hq
      refine ⟨pl.isList.typeIs, fun a e => ?_⟩
      cases e
      obtain ⟨o, n, e, c, hd, _⟩ := pl
      exact ⟨o, e, hd⟩
    · refine ⟨⟨o, I.kIn p o hk, hc⟩, fun a e => ?_⟩
      cases e
      exact ⟨o, I.kIn _ o hk, hd⟩
    · have z : ∃ o, s.heap.get? p = some o ∧ o.ExactDict := by
        rcases hk with ⟨kvs, hk⟩ | ⟨kvs, hk⟩
        · obtain ⟨_, _, _, _, o, _, _, e, ex, _⟩ := I.hok p _ hk
          exact ⟨o, e, ex⟩
        · obtain ⟨_, _, _, _, o, _, _, e, ex, _⟩ := I.hok p _ hk
          exact ⟨o, e, ex⟩
      obtain ⟨o, e, ex⟩ := z
      refine ⟨⟨o, e, ex.1⟩, fun a e2 => ?_⟩
      cases e2
      exact ⟨o, e, ex.2.1⟩
    · obtain ⟨o, _, _, _, e, ex, _⟩ := I.hok p _ hk
      refine ⟨⟨o, e, ex.1⟩, fun a e2 => ?_⟩
      cases e2
      exact ⟨o, e, ex.2.1⟩
  | _ => exact False.elim ty
def tBM0 (K : PySem.W.Frag) (T : String) (r : V → List V → Hp → VK → Prop) (to : TE) : TE := fun σ H Q => to σ H fun x H1 => tyV K T x H1 ∧ r x [] H1 Q
def tBM (K : PySem.W.Frag) (T : String) (r : V → List V → Hp → VK → Prop) (to : TE) (t : TA) : TE := fun σ H Q => to σ H fun x H1 => tyV K T x H1 ∧ t σ H1 fun xs H2 => r x xs H2 Q
variable {o e : Expr} {es : List Expr} {to : TE} {t : TA} {name : Str} {apos cpos : Pos} {T id : String} {r : V → List V → Hp → VK → Prop}
theorem pe_bm0 (pa : PlainAttrs T) (slot : Slot T name id) (hty : typeOf (.builtin id) = pure (.type "method_descriptor")) (hm : MtR X id r) (ho : PE X o to)
    (hbase : attributeBase o name X.env (eval o X.env) = eval o X.env := by rfl) (hline : (apos.endLine == cpos.line) = true := by rfl) : PE X (.Call (.Attribute o name apos) [] [] cpos) (tBM0 X.K T r to) := by
  intro pins s σ H Q I h
  refine wpAny_Call_method0_late hbase hline (thn (ho pins s σ H _ I h) fun v s1 ⟨x, H1, I1, r1, ty, q1⟩ => ?_)
  obtain ⟨h1, h2⟩ := tyV_is I1 r1 ty
  exact ⟨T, id, pa, slot, hty, h1, h2, Calls.callWith_builtin rfl (PySem.evalArgs_none (hm pins s1 σ H1 x [] v [] Q I1 r1 .nil q1))⟩
theorem pe_bm (pa : PlainAttrs T) (slot : Slot T name id) (hty : typeOf (.builtin id) = pure (.type "method_descriptor")) (hm : MtR X id r) (ho : PE X o to) (ha : PA X (e :: es) t)
    (hbase : attributeBase o name X.env (eval o X.env) = eval o X.env := by rfl)
    (hfew : ((backTo cpos (starEach (e :: es) X.env)).all (fun x => !x.1) && (backToKw cpos (keywordEach [] X.env)).all (fun x => x.1.isSome)
      && decide ((e :: es).length + ([] : List Keyword).length + (if ([] : List Keyword).isEmpty then 0 else 1) < 30)) = true := by rfl)
    (hline : (apos.endLine == cpos.line) = true := by rfl) (hs : starEach (e :: es) X.env = (false, eval e X.env) :: starEach es X.env := by rfl) (hplain : (backTo cpos (starEach es X.env)).any (·.1) = false := by rfl) :
    PE X (.Call (.Attribute o name apos) (e :: es) [] cpos) (tBM X.K T r to t) := by
  intro pins s σ H Q I h
  refine wpAny_Call_method_late hbase hfew hline rfl (thn (ho pins s σ H _ I h) fun v s1 ⟨x, H1, I1, r1, ty, q1⟩ => ?_)
  obtain ⟨h1, h2⟩ := tyV_is I1 r1 ty
  refine ⟨T, id, pa, slot, hty, h1, h2, ?_⟩
  have hA := ha cpos pins s1 σ H1 _ I1 q1
  rw [hs] at hA ⊢
  refine Calls.callWith_builtin (by show (false || (backTo cpos (starEach es X.env)).any (·.1)) = false; rw [hplain] <;> rfl) (Calls.evalArgs_plain ?_)
  exact thn hA fun us s2 ⟨vs, H2, I2, r2, q2⟩ => hm pins s2 σ H2 x vs v us Q I2 r1 r2 q2
/- xs.append(e), list.index on a module's tuple .. are MtR facts of 06m -/
end
end L2

namespace L2
open PySem PySem.Spec PyProof.Rows

def MtM (X : Cx) (id : String) (r : V → List V → Hp → VK → Prop) : Prop :=
  ∀ (pins : List (Addr × Obj)) (s : Shared) (σ : St) (H : Hp) (x : V) (xs : List V) (v : Value) (us : List Value) (Q : VK), Inv X pins σ H s → RelV x v → Vals xs us → r x xs H Q →
    wpAny (model X.prog X.w) X.A (call (.builtin id) (v :: us)) (EP X pins σ Q) X.xe s

theorem Vals.one : ∀ {x : V} {us : List Value}, Vals [x] us → ∃ u, us = [u] ∧ RelV x u
  | _, _, .cons r .nil => ⟨_, rfl, r⟩
theorem Vals.two : ∀ {x y : V} {us : List Value}, Vals [x, y] us → ∃ u v, us = [u, v] ∧ RelV x u ∧ RelV y v
  | _, _, _, .cons r (.cons q .nil) => ⟨_, _, rfl, r, q⟩
theorem Vals.zero : ∀ {us : List Value}, Vals [] us → us = []
  | _, .nil => rfl
theorem Vals.reverse {xs : List V} {us : List Value} (h : Vals xs us) : Vals xs.reverse us.reverse := by
  induction h with
  | nil => exact .nil
  | cons r t ih => rw [List.reverse_cons, List.reverse_cons]; exact Vals.append ih (.cons r .nil)
section
variable {X : Cx} {pins : List (Addr × Obj)} {σ : St} {H : Hp} {s : Shared} {l b : Addr} {xs ys zs : List V}

theorem Inv.lset {its its' : List Value} {n : Nat} {f : Array Value → Array Value} {t' : Nat} (I : Inv X pins σ H s) (hH : H l = some (.lst xs))
    (e : s.heap.get? l = some { cls := .type "list", data := .seq its.toArray n }) (hf : f its.toArray = its'.toArray) (hv : Vals ys its') (hz : ys.length ≤ sizeLine) :
    Inv X pins σ (upd H l (.lst ys)) { s with heap := s.heap.update l (Obj.mapSeq f), toks := t' } := by
  have q := PySem.IsL.update e f
  rw [hf] at q
  refine I.write (x := l) (e := l) (by rw [hH]; exact trivial) (.inl rfl) (fun b' u hb hu => (Heap.get?_update_other s.heap (Obj.mapSeq f) (Ne.symm hb)).trans hu) ⟨_, q⟩ ?_
  exact ⟨hz, its', _, hv, q⟩
theorem Inv.lnew {its : List Value} {t' : Nat} (I : Inv X pins σ H s) (hv : Vals ys its) (hz : ys.length ≤ sizeLine) :
    Inv X pins σ (upd H s.heap.objs.size (.lst ys)) { s with heap := s.heap.push { cls := .type "list", data := .seq its.toArray }, toks := t' } :=
  I.laid (fun _ _ q => Heap.get?_push_of_some _ q) (Nat.le_refl _) ⟨hz, its, 0, hv, Heap.get?_push_size _ rfl⟩
theorem Inv.fresh (I : Inv X pins σ H s) : H s.heap.objs.size = none := I.hok.fresh (Nat.le_refl _)
theorem Inv.lstM (I : Inv X pins σ H s) (hH : H l = some (.lst xs)) : xs.length ≤ sizeLine ∧ ∃ (its : List Value) (n : Nat), Vals xs its ∧ xs.length = its.length ∧ s.heap.get? l = some { cls := .type "list", data := .seq its.toArray n } := by
  obtain ⟨z, its, n, r, e⟩ := I.hok l _ hH
  exact ⟨z, its, n, r, r.length, e⟩

end

section
variable {X : Cx}

def rAppend : V → List V → Hp → VK → Prop := fun x vs H Q => ∃ l xs y, x = .ref l ∧ vs = [y] ∧ H l = some (.lst xs) ∧ xs.length < sizeLine ∧ Q .non (upd H l (.lst (xs ++ [y])))
theorem mt_append : MtM X "list.append" rAppend := by
  intro pins s σ H x vs v us Q I rx rv h
  obtain ⟨l, xs, y, rfl, rfl, hH, hz, q⟩ := h
  cases rx
  obtain ⟨u, rfl, ru⟩ := rv.one
  obtain ⟨z, its, n, r, hl, e⟩ := I.lstM hH
  refine call_meets F.slot_list_append ⟨_, e, rfl⟩ F.entry_list_append (F.args_list_append_2 _ _) (PySem.list_append l its.toArray n u (by rw [List.size_toArray]; omega)) ⟨e, ?_⟩
  refine ⟨.non, _, I.lset (its' := its ++ [u]) hH e (by simp) (r.append (.cons ru .nil)) ?_, rfl, q⟩
  rw [List.length_append, List.length_singleton]
  omega

def rClear : V → List V → Hp → VK → Prop := fun x vs H Q => ∃ l xs, x = .ref l ∧ vs = [] ∧ H l = some (.lst xs) ∧ Q .non (upd H l (.lst []))
theorem mt_clear : MtM X "list.clear" rClear := by
  intro pins s σ H x vs v us Q I rx rv h
  obtain ⟨l, xs, rfl, rfl, hH, q⟩ := h
  cases rx
  have hus := rv.zero
  subst hus
  obtain ⟨z, its, n, r, hl, e⟩ := I.lstM hH
  refine call_meets F.slot_list_clear ⟨_, e, rfl⟩ F.entry_list_clear (F.args_list_clear_1 _) (AutoSeq1.list_clear_list_0 l its.toArray n (by rw [List.size_toArray]; omega)) ⟨e, ?_⟩
  exact ⟨.non, _, I.lset (its' := []) (ys := []) hH e rfl .nil (Nat.zero_le _), rfl, q⟩

end

section
variable {prog : Program} {w : World} {A : Around} {E : Value → Shared → Prop} {s : Shared}
end

section
variable {X : Cx}
end
end L2

namespace L2
open PySem PySem.Spec PyProof.Rows

section
variable {κ : Type} [DecidableEq κ]
def valV (kvs : List (κ × V)) (k : κ) : Option V := (kvs.find? fun kv => decide (kv.1 = k)).map (·.2)
def putK (kvs : List (κ × V)) (k : κ) (v : V) : List (κ × V) :=
  if (kvs.any fun kv => decide (kv.1 = k)) = true then kvs.map (fun kv => if kv.1 = k then (kv.1, v) else kv) else kvs ++ [(k, v)]
def dropK (kvs : List (κ × V)) (k : κ) : List (κ × V) := kvs.filter fun kv => decide (kv.1 ≠ k)

theorem valV_pos {p : κ × V} {r : List (κ × V)} {k : κ} (e : p.1 = k) : valV (p :: r) k = some p.2 := by simp [valV, List.find?_cons, e]
theorem valV_neg {p : κ × V} {r : List (κ × V)} {k : κ} (e : ¬ p.1 = k) : valV (p :: r) k = valV r k := by simp [valV, List.find?_cons, e]
theorem valV_any (k : κ) : ∀ kvs : List (κ × V), (kvs.any fun kv => decide (kv.1 = k)) = (valV kvs k).isSome
  | [] => rfl
  | p :: r => by
    rw [List.any_cons]
    by_cases e : p.1 = k
    · simp only [valV_pos e, decide_eq_true e, Bool.true_or, Option.isSome_some]
    · rw [valV_neg e, decide_eq_false e, Bool.false_or]; exact valV_any k r
theorem RelO.isSome_eq {o : Option V} {u : Option Value} (r : RelO o u) : o.isSome = u.isSome := by
  cases o with
  | none => cases u with
    | none => rfl
    | some _ => exact (show False from r).elim
  | some _ => cases u with
    | none => exact (show False from r).elim
    | some _ => rfl
theorem RelO.getD {o : Option V} {u : Option Value} {d : V} {d' : Value} (r : RelO o u) (rd : RelV d d') : RelV (o.getD d) (u.getD d') := by
  cases o with
  | none => cases u with
    | none => exact rd
    | some _ => exact (show False from r).elim
  | some _ => cases u with
    | none => exact (show False from r).elim
    | some _ => exact r

theorem KV.val {kvs : List (κ × V)} {vs : List (κ × Value)} (r : KV kvs vs) (k : κ) : RelO (valV kvs k) (valueAt vs k) := by
  unfold KV at r
  induction r with
  | nil => exact True.intro
  | @cons p q ps qs h t ih =>
    obtain ⟨h1, h2⟩ := h
    by_cases e : p.1 = k
    · have e' : q.1 = k := h1.symm.trans e
      have b : valueAt (q :: qs) k = some q.2 := by simp [valueAt, List.find?_cons, e']
      rw [valV_pos e, b]; exact h2
    · have e' : ¬ q.1 = k := fun z => e (h1.trans z)
      have b : valueAt (q :: qs) k = valueAt qs k := by simp [valueAt, List.find?_cons, e']
      rw [valV_neg e, b]; exact ih
theorem KV.any {kvs : List (κ × V)} {vs : List (κ × Value)} (r : KV kvs vs) (k : κ) : (kvs.any fun kv => decide (kv.1 = k)) = vs.any fun kv => decide (kv.1 = k) := by
  unfold KV at r
  induction r with
  | nil => rfl
  | cons h t ih => rw [List.any_cons, List.any_cons, ih, h.1]
theorem KV.repl {kvs : List (κ × V)} {vs : List (κ × Value)} (r : KV kvs vs) (k : κ) {y : V} {u : Value} (ry : RelV y u) :
    KV (kvs.map fun kv => if kv.1 = k then (kv.1, y) else kv) (vs.map fun kv => if kv.1 = k then (kv.1, u) else kv) := by
  unfold KV at r ⊢
  induction r with
  | nil => exact .nil
  | @cons p q ps qs h t ih =>
    rw [List.map_cons, List.map_cons]
    refine .cons ?_ ih
    obtain ⟨h1, h2⟩ := h
    by_cases e : p.1 = k
    · rw [if_pos e, if_pos (h1.symm.trans e)]; exact ⟨h1, ry⟩
    · rw [if_neg e, if_neg (fun z => e (h1.trans z))]; exact ⟨h1, h2⟩
theorem KV.put {kvs : List (κ × V)} {vs : List (κ × Value)} (r : KV kvs vs) (k : κ) {y : V} {u : Value} (ry : RelV y u) : KV (putK kvs k y) (stored vs k u) := by
  unfold putK stored
  rw [r.any k]
  by_cases e : (vs.any fun kv => decide (kv.1 = k)) = true
  · rw [if_pos e, if_pos e]; exact r.repl k ry
  · rw [if_neg e, if_neg e]; exact Paired.snoc r ⟨rfl, ry⟩
theorem KV.drop {kvs : List (κ × V)} {vs : List (κ × Value)} (r : KV kvs vs) (k : κ) : KV (dropK kvs k) (without vs k) := by
  unfold KV at r ⊢
  unfold dropK without
  induction r with
  | nil => exact .nil
  | @cons p q ps qs h t ih =>
    obtain ⟨h1, h2⟩ := h
    rw [List.filter_cons, List.filter_cons]
    by_cases e : p.1 = k
    · have a : ¬ decide (p.1 ≠ k) = true := by simp [e]
      have b : ¬ decide (q.1 ≠ k) = true := by simp [h1.symm.trans e]
      rw [if_neg a, if_neg b]; exact ih
    · have e' : ¬ q.1 = k := fun z => e (h1.trans z)
      have a : decide (p.1 ≠ k) = true := by simp [e]
      have b : decide (q.1 ≠ k) = true := by simp [e']
      rw [if_pos a, if_pos b]; exact .cons ⟨h1, h2⟩ ih
theorem KV.keys {kvs : List (κ × V)} {vs : List (κ × Value)} (r : KV kvs vs) : kvs.map (·.1) = vs.map (·.1) := by
  unfold KV at r
  induction r with
  | nil => rfl
  | cons h t ih => rw [List.map_cons, List.map_cons, ih, h.1]
theorem KV.length {kvs : List (κ × V)} {vs : List (κ × Value)} (r : KV kvs vs) : kvs.length = vs.length := Paired.length r
end


abbrev KT (H : Hp) : List (List Key × V) → List (List Key × Addr × Value) → Prop := Paired fun p q => p.1 = q.1 ∧ H q.2.1 = some (.tup (p.1.map kV)) ∧ RelV p.2 q.2.2
theorem KT.val {H : Hp} {kvs : List (List Key × V)} {xs : List (List Key × Addr × Value)} (r : KT H kvs xs) (k : List Key) : RelO (valV kvs k) ((atKey xs k).map (·.2)) := by
  induction r with
  | nil => exact True.intro
  | @cons p q ps qs h t ih =>
    obtain ⟨h1, _, h2⟩ := h
    by_cases e : p.1 = k
    · have e' : q.1 = k := h1.symm.trans e
      have b : atKey (q :: qs) k = some q.2 := by simp [atKey, List.find?_cons, e']
      rw [valV_pos e, b]; exact h2
    · have e' : ¬ q.1 = k := fun z => e (h1.trans z)
      have b : atKey (q :: qs) k = atKey qs k := by simp [atKey, List.find?_cons, e']
      rw [valV_neg e, b]; exact ih
theorem KT.repl {H : Hp} {kvs : List (List Key × V)} {xs : List (List Key × Addr × Value)} (r : KT H kvs xs) (k : List Key) {y : V} {u : Value} (ry : RelV y u) :
    KT H (kvs.map fun kv => if kv.1 = k then (kv.1, y) else kv) (xs.map (putAt k u)) := by
  induction r with
  | nil => exact .nil
  | @cons p q ps qs h t ih =>
    rw [List.map_cons, List.map_cons]
    refine .cons ?_ ih
    obtain ⟨h1, h2, h3⟩ := h
    unfold putAt
    by_cases e : p.1 = k
    · rw [if_pos e, if_pos (h1.symm.trans e)]; exact ⟨h1, h2, ry⟩
    · rw [if_neg e, if_neg (fun z => e (h1.trans z))]; exact ⟨h1, h2, h3⟩
theorem KT.put {H : Hp} {kvs : List (List Key × V)} {xs : List (List Key × Addr × Value)} (r : KT H kvs xs) (k : List Key) {b : Addr} {y : V} {u : Value} (hb : H b = some (.tup (k.map kV))) (ry : RelV y u) :
    KT H (putK kvs k y) (storedH xs k b u) := by
  have e : (kvs.any fun kv => decide (kv.1 = k)) = (atKey xs k).isSome := by
    rw [valV_any, (r.val k).isSome_eq, Option.isSome_map]
  unfold putK storedH
  rw [e]
  by_cases q : (atKey xs k).isSome = true
  · rw [if_pos q, if_pos q]; exact r.repl k ry
  · rw [if_neg q, if_neg q]; exact Paired.snoc r ⟨rfl, hb, ry⟩
theorem KT.keeps {H H' : Hp} {kvs : List (List Key × V)} {xs : List (List Key × Addr × Value)} (r : KT H kvs xs) (ht : ∀ b ys, H b = some (.tup ys) → H' b = some (.tup ys)) : KT H' kvs xs :=
  Paired.mapP r fun _ _ z => ⟨z.1, ht _ _ z.2.1, z.2.2⟩

section
variable {P : Program} {w : World} {H : Hp} {h : Heap} {a : Addr}
end

def DGet (H : Hp) (a : Addr) (y : V) (r : Option V) : Prop :=
  (∃ kvs k, Rd H a (.dK kvs) ∧ y = kV k ∧ r = valV kvs k) ∨ ∃ kvs k b, Rd H a (.dT kvs) ∧ y = .ref b ∧ H b = some (.tup (k.map kV)) ∧ r = valV kvs k
def DPut (H : Hp) (a : Addr) (y v : V) (H' : Hp) : Prop :=
  (∃ kvs k, H a = some (.dK kvs) ∧ y = kV k ∧ kvs.length < sizeLine ∧ H' = upd H a (.dK (putK kvs k v))) ∨
  ∃ kvs k b, H a = some (.dT kvs) ∧ y = .ref b ∧ H b = some (.tup (k.map kV)) ∧ kvs.length < sizeLine ∧ H' = upd H a (.dT (putK kvs k v))
theorem DGet.k {H : Hp} {a : Addr} {kvs : List (Key × V)} {k : Key} (e : H a = some (.dK kvs)) : DGet H a (kV k) (valV kvs k) := .inl ⟨kvs, k, .inl e, rfl, rfl⟩
theorem DGet.t {H : Hp} {a b : Addr} {kvs : List (List Key × V)} {k : List Key} (e : H a = some (.dT kvs)) (eb : H b = some (.tup (k.map kV))) : DGet H a (.ref b) (valV kvs k) := .inr ⟨kvs, k, b, .inl e, rfl, eb, rfl⟩
theorem DPut.k {H : Hp} {a : Addr} {kvs : List (Key × V)} {k : Key} {v : V} (e : H a = some (.dK kvs)) (hl : kvs.length < sizeLine) : DPut H a (kV k) v (upd H a (.dK (putK kvs k v))) := .inl ⟨kvs, k, e, rfl, hl, rfl⟩
theorem DPut.t {H : Hp} {a b : Addr} {kvs : List (List Key × V)} {k : List Key} {v : V} (e : H a = some (.dT kvs)) (eb : H b = some (.tup (k.map kV))) (hl : kvs.length < sizeLine) :
    DPut H a (.ref b) v (upd H a (.dT (putK kvs k v))) := .inr ⟨kvs, k, b, e, rfl, eb, hl, rfl⟩


section
variable {X : Cx} {pins : List (Addr × Obj)} {σ : St} {H : Hp} {s : Shared} {a : Addr} {y v : V} {u r : Value} {o : Option V} {A : Around} {E : Value → Shared → Prop}

theorem Inv.big (I : Inv X pins σ H s) : sysModules < s.heap.objs.size := by
  have h : mainGlobals < s.heap.objs.size := (I.mod.glob.keeps I.bk).lt
  exact Nat.lt_trans (by decide) h

end

section
variable {X : Cx} {pins : List (Addr × Obj)} {σ : St} {H : Hp} {s : Shared} {a : Addr} {kvs : List (Key × V)} {k : Key} {u : Value} {A : Around} {E : Value → Shared → Prop}
end


section
variable {X : Cx} {o i e value : Expr} {pos pos' tpos : Pos} {td ty tv : TE}
end


section
variable {X : Cx} {pos : Pos}
end

structure M1 (X : Cx) (o : Expr) (m : Str) (apos : Pos) (e : Expr) (cpos : Pos) : Prop where
  base : attributeBase o m X.env (eval o X.env) = eval o X.env
  few : ((backTo cpos (starEach [e] X.env)).all (fun x => !x.1) && (backToKw cpos (keywordEach [] X.env)).all (fun x => x.1.isSome)
    && decide (([e] : List Expr).length + ([] : List Keyword).length + (if ([] : List Keyword).isEmpty then 0 else 1) < 30)) = true
  line : (apos.endLine == cpos.line) = true
  trees : backTo cpos (starEach [e] X.env) = [(false, eval e X.env)]
structure M2 (X : Cx) (o : Expr) (m : Str) (apos : Pos) (e f : Expr) (cpos : Pos) : Prop where
  base : attributeBase o m X.env (eval o X.env) = eval o X.env
  few : ((backTo cpos (starEach [e, f] X.env)).all (fun x => !x.1) && (backToKw cpos (keywordEach [] X.env)).all (fun x => x.1.isSome)
    && decide (([e, f] : List Expr).length + ([] : List Keyword).length + (if ([] : List Keyword).isEmpty then 0 else 1) < 30)) = true
  line : (apos.endLine == cpos.line) = true
  trees : backTo cpos (starEach [e, f] X.env) = [(false, eval e X.env), (false, eval f X.env)]

section
variable {X : Cx} {pins : List (Addr × Obj)} {σ : St} {H : Hp} {s : Shared} {a : Addr} {y d : V} {u r : Value} {o : Option V} {A : Around} {E : Value → Shared → Prop}
end

section
variable {X : Cx} {o e f : Expr} {apos cpos : Pos} {td ty tx : TE}
end

section
variable {X : Cx} {pins : List (Addr × Obj)} {σ : St} {H : Hp} {s : Shared} {a : Addr} {kvs : List (Key × V)} {A : Around} {E : Value → Shared → Prop}
end


section
variable {X : Cx} {pins : List (Addr × Obj)} {σ : St} {H : Hp} {s : Shared} {a : Addr} {y : V} {u : Value} {A : Around} {E : Value → Shared → Prop}
end
end L2

namespace Att
open PySem PySem.W PySem.Calls PyProof.Rows

theorem ints_of_wellAll {P : Params} {h : Heap} : ∀ (ns : List Int) (vs : List Value), WellAll P h vs (ns.map WData.int) → IntsAre vs ns := by
  intro ns
  induction ns with
  | nil =>
    intro vs w
    rw [List.map_nil] at w
    cases w
    exact .nil
  | cons n ns ih =>
    intro vs w
    rw [List.map_cons] at w
    cases w with
    | cons a b =>
      cases a
      exact .cons _ _ (ih _ b)

theorem script_of {l : OpenLaw} {n : Nat} (hn : l.most = some n) {P : Params} {h : Heap} {args : List WData} {vals : List Value}
    (hpre : l.row.toRowW.claim.pre args = true) (hwl : WellAll P h vals args) :
    ∃ a vs ns, vals = [Value.ref a] ∧ args = [WData.list (ns.map WData.int)] ∧ h.get? a = some { cls := .type "list", data := .seq vs.toArray } ∧ IntsAre vs ns ∧ ns.length ≤ n := by
  have hsh : WShape.hasAll [] args [.list .int] = true := (pre_splitW hpre).1
  have hc : l.pre.holds [] { args := args } = true := (pre_splitW hpre).2
  obtain ⟨d, r, rfl, h1, h2⟩ := hasAllW_cons hsh
  obtain rfl := hasAllW_nil h2
  obtain ⟨xs, rfl, h3⟩ := hasW_list h1
  obtain ⟨ns, rfl⟩ := items_int h3
  have hlen : ns.length ≤ n := by
    unfold OpenLaw.pre at hc
    have h4 : (WTm.not (.lt (.lit (.int (n : Int))) (.len (.arg 0)))).holds [] { args := [.list (ns.map .int)] } = true := by
      have h4 := (holds_andW hc).1
      rw [hn] at h4
      exact h4
    have h5 := condW_of h4 (w_not (w_lt w_lit (w_len_list (w_arg rfl))))
    rw [List.length_map] at h5
    refine Nat.le_of_not_lt fun q => ?_
    have q' : (n : Int) < ((ns.length : Nat) : Int) := by omega
    first
      | (rw [decide_eq_true q'] at h5; exact absurd h5 (by decide))
      | (simp at h5; omega)
  cases hwl with
  | cons w1 w2 =>
    cases w2
    cases w1 with
    | list ho hall => exact ⟨_, _, ns, rfl, rfl, ho, ints_of_wellAll ns _ hall, hlen⟩

theorem post_true (l : OpenLaw) (args : List WData) : l.row.toRowW.claim.post args (.bool true) args = true :=
  postW_of (r := l.row.toRowW) (X := (true == true))
    (show WShape.has [] (.bool true) .bool = true by first | rfl | decide | simp [WShape.has, WShape.arms, WShape.armsAll])
    (show (WTm.eq .res (.lit (.bool true))).value [] { args := args, res := some (.bool true), after := args } = some (.bool (true == true)) from w_eq_bool (w_res rfl) w_lit) rfl

theorem attach_call {l : OpenLaw} {n : Nat} {q : Program} {loose : List Str} {XP : (Str → Option Value) → Heap → Prop} {YP : World → Heap → Prop} {d : DefRec}
    (hn : l.most = some n) (hdf : d.params.defaults = [])
    (call : ∀ (w : World) (s₀ s₁ : Shared) (mg mb : Str → Option Value) (fa : Addr) (o : Obj) (pm cd doc : Value) (a : Addr) (vs : List Value) (ns : List Int),
      Ground q loose [] XP w s₀ mg mb s₁.heap → YP w s₁.heap →
      s₁.heap.get? fa = some o → o.data = .func (docDef d.name d.params d.body d.scope pm cd doc) → s₁.heap.CodeRec cd d.name → mg d.name = some (.ref fa) →
      s₁.heap.get? a = some { cls := .type "list", data := .seq vs.toArray } → IntsAre vs ns → ns.length ≤ n → s₁.gens = #[] →
      codeAny (model l.prog w) callerA (.call (.ref fa) ⟨[.ref a], []⟩) (fun r s' => r = .ok (.ret (.bool true)) ∧ OldK s₁.heap s'.heap ∧ s'.os = s₁.os ∧ AllBare s'.gens) s₁) :
    WalkO q loose XP YP l.row.toRowW d [] (fun f vs => PySem.call f vs) := by
  intro w s₀ s₁ mg mb G Y fa o pm cd doc dV kV ho hd hcd hD hmg hg args vals as hpre hlay hrd hwl hlo
  obtain rfl : dV = .none := Dflts.none hD hdf
  obtain rfl : kV = .none := Dflts.noKw hD
  obtain ⟨a, vs, ns, rfl, rfl, hobj, hints, hlen⟩ := script_of hn hpre hwl
  refine enter_call (codeAny_mono (call w s₀ s₁ mg mb fa o pm cd doc a vs ns G Y ho (fd_plain hd) hcd hmg hobj hints hlen hg) fun r s' hq => ?_)
  obtain ⟨rfl, h2, h3, h4⟩ := hq
  exact ⟨.inl ⟨.bool true, .bool true, [], rfl, fun _ => rfl, .bool true, post_true l _, fun _ => ⟨List.Pairwise.nil, fun _ hm => (nomatch hm)⟩⟩, h2, h3, h4⟩

section
variable {prog : Program} {w : World} {A : Around} {E : Value → Shared → Prop} {s : Shared} {K : Frag}

def ledger (h : Heap) (L d : Addr) : List (Addr × Obj) := (List.range h.objs.size).filterMap fun a => if a = L ∨ a = d then none else (h.get? a).map fun o => (a, o)
end
end Att

namespace L2
open PySem PySem.Spec PyProof.Rows

theorem vals_ints : ∀ {vs : List Value} {ns : List Int}, IntsAre vs ns → Vals (ns.map V.int) vs
  | _, _, .nil => .nil
  | _, _, .cons n t h => .cons ⟨t, rfl⟩ (vals_ints h)

def Only (H : Hp) : Prop := ∀ b, H b = none ∨ ∃ o xs, H b = some (.frz o (.lst xs))

theorem law_call {P : Program} {w : World} {K : PySem.W.Frag} {mg mb : Str → Option Value} {CX : CXT} {k : Nat} {fa a : Addr} {fd : FuncData} {x : Str} {sp : Sp} {s₁ : Shared} {vs : List Value} {ns : List Int}
    (KX : K.In s₁.heap) (hns : s₁.heap.Ns mainGlobals mg) (hb : s₁.heap.Ns builtinsNs mb) (hbb : ∀ x : Str, x ≠ "__name__" → mb x = bootBuiltins x) (hlim : s₁.heap.NoLimit) (hg : s₁.gens = #[])
    (ha : s₁.heap.get? a = some { cls := .type "list", data := .seq vs.toArray }) (hi : IntsAre vs ns) (hl : ns.length ≤ sizeLine) (hr : Room k callerA)
    (F : ∀ base : Heap, K.In base → base.Ns mainGlobals mg → FnOk P w K mg base CX k fa fd [x] sp) (hbind : ∀ (s : Shared) (u : Value), BindsTo s fd ⟨[u], []⟩ [(x, u)])
    (hsp : ∀ H : Hp, Only H → SqL K H a (ns.map V.int) → sp [.ref a] H (fun v _ => v = .bl true) fun _ _ _ => False)
    (hCX : ∀ H e s', CX [] H s₁ (fun _ _ _ => False) e s' → False) :
    codeAny (model P w) callerA (.call (.ref fa) ⟨[.ref a], []⟩) (fun r s' => r = .ok (.ret (.bool true)) ∧ OldK s₁.heap s'.heap ∧ s'.os = s₁.os ∧ AllBare s'.gens) s₁ := by
  have rv := vals_ints hi
  have lenV := hi.length
  -- from an abstract heap in which nothing but the script may be tracked
  have core : ∀ H : Hp, Only H → SqL K H a (ns.map V.int) → HOk P w H s₁.heap → (∀ b, H b ≠ none → b = a) → (H a ≠ none → K.lookup a = none) →
      codeAny (model P w) callerA (.call (.ref fa) ⟨[.ref a], []⟩) (fun r s' => r = .ok (.ret (.bool true)) ∧ OldK s₁.heap s'.heap ∧ s'.os = s₁.os ∧ AllBare s'.gens) s₁ := by
    intro H hO hS hok hA hK
    have base_of : ∀ {b : Addr} {o : Obj}, s₁.heap.get? b = some o → H b = none → (hidT s₁.heap H).get? b = some o := fun e n => hidT_get e n
    have noA : ∀ {b : Addr} {o : Obj} {es : Array DictEntry} {ep : Nat}, s₁.heap.get? b = some o → o.data = .dict es ep → H b = none := fun {b o es ep} e d => by
      cases q : H b with
      | none => rfl
      | some u =>
        have e' : b = a := hA b (by rw [q]; simp)
        subst e'
        rw [ha] at e; cases e
        have d' : Data.seq vs.toArray _ = Data.dict es ep := d
        cases d'
    have nsK : ∀ {b : Addr} {m : Str → Option Value}, s₁.heap.Ns b m → (hidT s₁.heap H).Ns b m := fun {b m} ⟨o, es, ep, e, d, r⟩ => ⟨o, es, ep, base_of e (noA e d), d, r⟩
    have hKb : K.In (hidT s₁.heap H) := fun b o e => base_of (KX b o e) (by
      cases q : H b with
      | none => rfl
      | some u =>
        have e' : b = a := hA b (by rw [q]; simp)
        subst e'
        rw [hK (by rw [q]; simp)] at e; cases e)
    have hM : Mod K mg (hidT s₁.heap H) := ⟨hKb, nsK hns, ⟨mb, nsK hb, hbb⟩, let ⟨mc, h1, h2⟩ := hlim; ⟨mc, nsK h1, h2⟩⟩
    have e0 : Env0 P w K mg (hidT s₁.heap H) callerA [] s₁ H := ⟨rfl, hM, fun b o e => of_hidT e, Nat.le_of_eq (hidT_size _ _), trivial, fun b hb => absurd (show b ∈ ([] : List Addr) from hb) (by simp), hok, .of_eq hg⟩
    refine codeAny_mono ((F _ hKb (nsK hns)).run callerA [] s₁ H ⟨[.ref a], []⟩ [.ref a] [.ref a] _ _ hr e0 (hbind s₁ (.ref a)) (.cons rfl .nil) (hsp H hO hS)) fun r s' h => ?_
    cases r with
    | error e => exact (hCX H e s' h).elim
    | ok fl =>
      cases fl with
      | next => exact False.elim h
      | brk => exact False.elim h
      | cont => exact False.elim h
      | ret u =>
        obtain ⟨v, H', os, bare, un, hok', r', q⟩ := h
        have q' : v = .bl true := q
        subst q'
        obtain rfl : u = Value.bool true := r'
        refine ⟨rfl, OldK.of_keep fun b o e => ?_, os, bare⟩
        cases q : H b with
        | none => exact un.keep b o e q (by intro z; exact absurd (show b ∈ ([] : List Addr) from z) (by simp)) (by simp)
        | some u =>
          rcases hO b with z | ⟨ob, xs, z⟩
          · rw [q] at z; cases z
          · have z2 := un.frzs b ob _ z
            obtain ⟨e1, _⟩ := hok b _ z
            obtain ⟨e2, _⟩ := hok' b _ z2
            rw [e] at e1; cases e1
            exact e2
  cases hk : K.lookup a with
  | some o =>
    -- the script is one of the module's own objects
    have e := KX a o hk
    rw [ha] at e
    cases e
    refine core (fun _ => none) (fun _ => .inl rfl) (.inr ⟨_, vs.toArray, _, hk, rfl, rfl, rfl, by rw [List.size_toArray, lenV]; exact hl, by simpa using rv⟩) (fun b u z => by have z' : (none : Option HO) = some u := z; cases z') (fun b z => absurd rfl z) fun z => absurd rfl z
  | none =>
    refine core (fun b => if b = a then some (.frz { cls := .type "list", data := .seq vs.toArray } (.lst (ns.map V.int))) else none) (fun b => ?_) (.inl (.inr ⟨{ cls := .type "list", data := .seq vs.toArray }, if_pos rfl⟩)) (fun b u z => ?_) (fun b z => ?_) fun _ => hk
    · by_cases hb : b = a
      · exact .inr ⟨_, _, if_pos hb⟩
      · exact .inl (if_neg hb)
    · by_cases hb : b = a
      · have z' := (if_pos hb).symm.trans z
        cases z'
        subst hb
        exact ⟨ha, by rw [List.length_map]; exact hl, vs, _, rv, ha⟩
      · have z' := (if_neg hb).symm.trans z
        cases z'
    · by_cases hb : b = a
      · exact hb
      · exact absurd (if_neg hb) z
end L2

namespace L2
open PySem PySem.Spec PyProof.Rows

abbrev KOf {K : PySem.W.Frag} {h : Heap} (_ : K.In h) : PySem.W.Frag := K

theorem walk_of {l : PySem.W.OpenLaw} {n k : Nat} {q : Program} {loose : List Str} {XP : (Str → Option Value) → Heap → Prop} {YP : World → Heap → Prop} {d : DefRec} {K : Params → PySem.W.Frag} {CX : World → CXT} {sp : World → Sp} {x : Str}
    (hn : l.most = some n) (hn2 : n ≤ sizeLine) (hdf : d.params.defaults = []) (hr : Room k callerA)
    (hY : ∀ (w : World) (h : Heap), YP w h → (K w.params).In h)
    (F : ∀ (w : World) (mg : Str → Option Value) (fa : Addr) (h : Heap), (K w.params).In h → h.Ns mainGlobals mg → mg d.name = some (.ref fa) →
      ∃ fd : FuncData, (∀ (s : Shared) (u : Value), BindsTo s fd ⟨[u], []⟩ [(x, u)]) ∧
        ∀ base : Heap, (K w.params).In base → base.Ns mainGlobals mg → FnOk l.prog w (K w.params) mg base (CX w) k fa fd [x] (sp w))
    (hsp : ∀ (w : World) (H : Hp) (a : Addr) (ns : List Int), ns.length ≤ n → Only H → SqL (K w.params) H a (ns.map V.int) → sp w [.ref a] H (fun v _ => v = .bl true) fun _ _ _ => False)
    (hCX : ∀ (w : World) (H : Hp) (s : Shared) (e : Value) (s' : Shared), CX w [] H s (fun _ _ _ => False) e s' → False) :
    PySem.W.WalkO q loose XP YP l.row.toRowW d [] (fun f vs => PySem.call f vs) := by
  refine Att.attach_call hn hdf fun w s₀ s₁ mg mb fa o pm cd doc a vs ns G Y ho hd hcd hmg hobj hints hlen hg => ?_
  have KX := hY w _ Y
  obtain ⟨fd, hb, hF⟩ := F w mg fa _ KX G.T.g hmg
  exact law_call KX G.T.g G.T.b G.T.builtins G.T.nolimit hg hobj hints (Nat.le_trans hlen hn2) hr hF hb (fun H hO hS => hsp w H a ns hlen hO hS) fun H e s' => hCX w H s₁ e s'
theorem walk_ofK {l : PySem.W.OpenLaw} {n k : Nat} {q : Program} {loose : List Str} {XP : (Str → Option Value) → Heap → Prop} {YP : World → Heap → Prop} {d : DefRec} {K : Params → PySem.W.Frag} {CX : CXT} {sp : PySem.W.Frag → Sp} {x : Str}
    (hn : l.most = some n) (hn2 : n ≤ sizeLine) (hdf : d.params.defaults = []) (hr : Room k callerA)
    (hY : ∀ (w : World) (h : Heap), YP w h → (K w.params).In h)
    (F : ∀ (w : World) (mg : Str → Option Value) (fa : Addr) (h : Heap), (K w.params).In h → h.Ns mainGlobals mg → mg d.name = some (.ref fa) →
      ∃ fd : FuncData, (∀ (s : Shared) (u : Value), BindsTo s fd ⟨[u], []⟩ [(x, u)]) ∧
        ∀ base : Heap, (K w.params).In base → base.Ns mainGlobals mg → FnOk l.prog w (K w.params) mg base CX k fa fd [x] (sp (K w.params)))
    (hsp : ∀ (K : PySem.W.Frag) (H : Hp) (a : Addr) (ns : List Int), ns.length ≤ n → Only H → SqL K H a (ns.map V.int) → sp K [.ref a] H (fun v _ => v = .bl true) fun _ _ _ => False)
    (hCX : ∀ (H : Hp) (s : Shared) (e : Value) (s' : Shared), CX [] H s (fun _ _ _ => False) e s' → False) :
    PySem.W.WalkO q loose XP YP l.row.toRowW d [] (fun f vs => PySem.call f vs) :=
  walk_of (K := K) (CX := fun _ => CX) (sp := fun w => sp (K w.params)) hn hn2 hdf hr hY F (fun w H a ns h1 h2 h3 => hsp (K w.params) H a ns h1 h2 h3) fun _ H s e s' => hCX H s e s'
end L2

/- THE LAST THEOREM (shape; LID, My.* are yours):
   My.Adr: a structure of the addresses that your layer names (classes, functions); My.Txt K t: a structure (Prop) of the equations over K;
   My.txt_mk : {K} {implicit addresses ..} (e1 : nsIn K mainGlobals "law" = some (some (.ref f))) (e2 : K.lookup f = some ⟨oc, od, .func (fnOf "law" "law" params body scope dV kV doc pm an cdv ct), sl⟩) (e3 : codeIn K cdv "law" = true) .. : ∃ t, My.Txt K t

set_option maxRecDepth 100000 in
set_option maxHeartbeats 0 in
theorem PySem.Challenge.cw_LID_holds : PySem.Challenge.rw_LID.Holds := by
  w_on; o_law; k_head; (case hw => w_witness2)
  k_fill
  refine L2.walk_of (l := PySem.Challenge.rw_LID) (n := 63) (k := 40) (x := "script") (CX := fun w => ..) (sp := fun _ => My.sp_law) rfl (by decide) rfl ⟨rfl, by decide, by decide⟩ (fun w h Y => PySem.W.kIn_of Y) ?F ?S ?C
  case F =>
    intro w mg fa h KX G hmg
    have T : ∃ t, My.Txt (L2.KOf KX) t := by
      dsimp only [L2.KOf]                          -- K must stand as «<heap const> w.params» for k_is
      refine' My.txt_mk ?e1 ?e2 ?e3 ..
      (case e1 => PySem.W.k_is)                    -- in the order: a name -> its address -> its object -> its parts
      (case e2 => PySem.W.k_is)
      ..
    obtain ⟨t, T⟩ := T
    have e0 := hmg.symm.trans (PySem.W.mg_of KX G T.law)
    cases e0                                       -- fa is the law's own address
    exact ⟨_, fun s u => .of_eq rfl, fun base kb nb => My.law_fn T kb nb⟩     -- if «.of_eq rfl» comes too early: refine' ⟨_, ?b, fun base kb nb => My.law_fn T kb nb⟩; exact fun s u => .of_eq rfl
  case S => exact fun w H a ns hl hO hS => ..
  case C => exact ..
(the tactic k_is has no namespace: write k_is) -/

namespace L2
open PySem PySem.Spec PyProof.Rows

def defArgs (s : Stmt) : Arguments := match s with
  | .FunctionDef _ a _ _ _ _ _ _ _ _ => a
  | _ => { posonlyargs := [], args := [], vararg := none, kwonlyargs := [], kw_defaults := [], kwarg := none, defaults := [] }
def defBody (s : Stmt) : List Stmt := match s with
  | .FunctionDef _ _ b _ _ _ _ _ _ _ => b
  | _ => []
def defScope (s : Stmt) : Scope := match s with
  | .FunctionDef _ _ _ _ _ _ sc _ _ _ => sc
  | _ => { kind := .function, names := [], isGenerator := false, isCoroutine := false }

abbrev CX0 : CXT := fun _ _ _ _ _ _ => False
abbrev E0 : XK := fun _ _ _ => False
theorem pass0 {X : Cx} : Passes CX0 X E0 := fun _ _ _ _ _ _ _ h => h.elim

structure Fun (K : PySem.W.Frag) (x qual : Str) (st : Stmt) (f : Addr) (fd : FuncData) : Prop where
  ex : ∃ (oc : Value) (od : Option Addr) (kV doc pm : Value) (an : Option Addr) (cdv ct : Value) (osl : Array (Option Value)),
    fd = PySem.W.fnOf x qual (defArgs st) (defBody st) (defScope st) .none kV doc pm an cdv ct ∧ K.lookup f = some ⟨oc, od, .func fd, osl⟩ ∧ PySem.W.codeIn K cdv qual = true
  kp : PySem.W.keepIn K (.ref f) = true
section
variable {P : Program} {w : World} {K : PySem.W.Frag} {mg : Str → Option Value} {base : Heap}
theorem Fun.ok {x qual : Str} {st : Stmt} {f : Addr} {fd : FuncData} {N ps : List Str} {k : Nat} {sp : Sp} (F : Fun K x qual st f fd) (S : FnScope N ps (defScope st)) (len : ∀ vs H Q E, sp vs H Q E → vs.length = ps.length)
    (hbody : ∀ (cdv : Value) (A : Around) (outer : List Env) (s : Shared) (H : Hp) (vs : List V) (Q : VK) (E : XK), Room k (A.deeper (envOfC qual (defScope st) s.heap.objs.size f cdv)) → sp vs H Q E →
      ∃ t, PSs (cxOf CX0 P w K mg base N qual (defScope st) f cdv A outer s H E).nox (defBody st) t ∧ t { nx := fun _ H' => Q .non H', rt := Q } (start N vs) H) : FnOk P w K mg base CX0 (k + 1) f fd ps sp := by
  obtain ⟨oc, od, kV, doc, pm, an, cdv, ct, osl, rfl, lk, hcd⟩ := F.ex
  refine fn_of lk hcd S len fun A outer s H vs Q E hr hsp => ?_
  obtain ⟨t, h, q⟩ := hbody cdv A outer s H vs Q E hr hsp
  exact ⟨t, h.nox, q⟩
theorem Fun.binds {x qual : Str} {st : Stmt} {f : Addr} {fd : FuncData} {ps : List Str} (F : Fun K x qual st f fd)
    (h : ∀ (kV doc pm : Value) (an : Option Addr) (cdv ct : Value) (us : List Value), us.length = ps.length → bindArgs (PySem.W.fnOf x qual (defArgs st) (defBody st) (defScope st) .none kV doc pm an cdv ct) ⟨us, []⟩ = pure (ps.zip us)) : Binds K fd ps [] := by
  obtain ⟨oc, od, kV, doc, pm, an, cdv, ct, osl, rfl, lk, hcd⟩ := F.ex
  exact .all (h kV doc pm an cdv ct)
theorem fun_mk {x qual : Str} {st : Stmt} {f : Addr} {oc : Value} {od an : Option Addr} {osl : Array (Option Value)} {kV doc pm cdv ct : Value} (l : K.lookup f = some ⟨oc, od, .func (PySem.W.fnOf x qual (defArgs st) (defBody st) (defScope st) .none kV doc pm an cdv ct), osl⟩)
    (c : PySem.W.codeIn K cdv qual = true) (k : PySem.W.keepIn K (.ref f) = true) : Fun K x qual st f (PySem.W.fnOf x qual (defArgs st) (defBody st) (defScope st) .none kV doc pm an cdv ct) := ⟨⟨oc, od, kV, doc, pm, an, cdv, ct, osl, rfl, l, c⟩, k⟩
end
section
variable {X : Cx}
theorem pv (i : Nat) {x : Str} {pos : Pos} (hN : X.N[i]? = some x := by rfl) (hv : Vis X.env.scope x := by first | exact Or.inl rfl | exact Or.inr (Or.inl rfl) | exact Or.inr (Or.inr rfl)) (hd : (x == ("__debug__" : Str)) = false := by decide)
    (hcd : (x == ("__classdict__" : Str)) = false := by decide) : PE X (.Name x pos) (tVar i) := pe_var hN hv hd hcd
end

theorem iteF {A B : Prop} (h : B) : if false = true then A else B := by
  rw [if_neg Bool.false_ne_true]
  exact h
theorem iteT {A B : Prop} (h : A) : if true = true then A else B := by
  rw [if_pos rfl]
  exact h
theorem ite2 {c A B : Prop} [Decidable c] (h1 : c → A) (h2 : ¬ c → B) : if c then A else B := by
  by_cases h : c
  · rw [if_pos h]
    exact h1 h
  · rw [if_neg h]
    exact h2 h
def Same (H H' : Hp) : Prop := ∀ b o, H b = some o → H' b = some o
theorem Same.refl (H : Hp) : Same H H := fun _ _ h => h
theorem Same.trans {H H1 H2 : Hp} (a : Same H H1) (b : Same H1 H2) : Same H H2 := fun c o h => b c o (a c o h)
theorem Same.free {H H' : Hp} (e : Same H H') {l : Addr} (h : H' l = Option.none) : H l = Option.none := by
  cases q : H l with
  | none => rfl
  | some o =>
    rw [e l o q] at h
    cases h
theorem Same.seq {K : PySem.W.Frag} {H H' : Hp} {a : Addr} {xs : List V} (e : Same H H') (h : SqL K H a xs) : SqL K H' a xs := by
  rcases h with (h | ⟨o, h⟩) | h
  · exact .inl (.inl (e _ _ h))
  · exact .inl (.inr ⟨o, e _ _ h⟩)
  · exact .inr h

end L2

namespace L2
open PySem PySem.Spec PyProof.Rows
section
variable {X : Cx}
end
section
variable {κ : Type} [DecidableEq κ]
end
end L2


namespace L2
open PySem PySem.Spec PyProof.Rows
section
variable {X : Cx} {pos : Pos}
def gLs (K : PySem.W.Frag) (n : Nat) (t : TGs) : TG := fun v σ H Q => ∃ a xs, v = .ref a ∧ SqL K H a xs ∧ xs.length = n ∧ t xs σ H Q
theorem pg_ls {es : List Expr} {k : Nat} {t : TGs} {n : Nat} (hc : X.calm = true) (h : PGs X es t)
    (hn : (assignEach es X.env).length = n := by rfl) (hst : (assignEach es X.env).findIdx? (·.1) = none := by rfl) : PG X (.Tuple es k pos) (gLs X.K n t) := by
  intro pins s σ H v u Q I r hw
  obtain ⟨a, xs, e1, hq, hl, hw⟩ := hw
  subst e1
  cases r
  obtain ⟨its, rv, pl, hz⟩ := I.list hq
  rw [assign_Tuple]
  refine wpAny_bind (wpAny_standAt ?_)
  unfold unpack
  rw [show (assignEach es X.env).length = its.toArray.size by simp [hn, ← hl, rv.length], hst]
  refine wpAny_bind (wpAny_holding (PySem.W.kun_itemsOf (I.ok.hd hc) pl.isList fun h' hx => ?_))
  have I1 : Inv X pins σ H { s with heap := h' } := I.kept (t' := s.toks) fun b o e => hx b o (Nat.ne_of_lt (Heap.lt_size e)) e
  exact h pins _ σ H xs _ Q I1 (by simpa using rv) hw

def knV (H : Hp) : V → Prop
  | .non => True | .bl _ => True | .int _ => True | .str _ => True
  | .ref a => (∃ xs, H a = some (.lst xs)) ∨ (∃ o xs, H a = some (.frz o (.lst xs))) ∨ (∃ xs, H a = some (.tup xs)) ∨ (∃ kvs, H a = some (.dK kvs)) ∨ (∃ kvs, H a = some (.dT kvs))
  | _ => False
def isIntV : V → Bool
  | .int _ => true | .bl _ => true | _ => false
def isBlV : V → Bool
  | .bl _ => true | _ => false
def isTupO : Option HO → Bool
  | some (.tup _) => true | _ => false
def isLstO : Option HO → Bool
  | some (.lst _) => true | some (.frz _ (.lst _)) => true | _ => false
def isTupV (H : Hp) : V → Bool
  | .ref a => isTupO (H a) | _ => false
def isLstV (H : Hp) : V → Bool
  | .ref a => isLstO (H a) | _ => false
theorem kit_ty {K : PySem.W.Frag} {t T : String} {b : Bool}
    (h : (if (Value.type t == Value.type T) = true then some true else if PySem.W.kitMeta T = true then (PySem.fastBuiltinMro t).map (·.contains (.type T)) else none) = some b) : PySem.W.kitOne K (.type t) (.type T) = some b := h
theorem isinst_any {T : String} {f : Hp → V → Bool}
    (hn : ∀ (H : Hp), PySem.W.kitOne X.K (.type "NoneType") (.type T) = some (f H .non)) (hb : ∀ (H : Hp) c, PySem.W.kitOne X.K (.type "bool") (.type T) = some (f H (.bl c)))
    (hi : ∀ (H : Hp) i, PySem.W.kitOne X.K (.type "int") (.type T) = some (f H (.int i))) (hs : ∀ (H : Hp) x, PySem.W.kitOne X.K (.type "str") (.type T) = some (f H (.str x)))
    (hl : ∀ (H : Hp) a xs, H a = some (.lst xs) → PySem.W.kitOne X.K (.type "list") (.type T) = some (f H (.ref a)))
    (hf : ∀ (H : Hp) a o xs, H a = some (.frz o (.lst xs)) → PySem.W.kitOne X.K (.type "list") (.type T) = some (f H (.ref a)))
    (ht : ∀ (H : Hp) a xs, H a = some (.tup xs) → PySem.W.kitOne X.K (.type "tuple") (.type T) = some (f H (.ref a)))
    (hd : ∀ (H : Hp) a kvs, H a = some (.dK kvs) → PySem.W.kitOne X.K (.type "dict") (.type T) = some (f H (.ref a)))
    (hd' : ∀ (H : Hp) a kvs, H a = some (.dT kvs) → PySem.W.kitOne X.K (.type "dict") (.type T) = some (f H (.ref a))) :
    CallR X (.builtin "isinstance") (fun xs H Q => ∃ x, xs = [x, .ty T] ∧ knV H x ∧ Q (.bl (f H x)) H) := by
  intro pins s σ H xs us Q I r h
  obtain ⟨x, rfl, kn, q⟩ := h
  obtain ⟨u1, u2, rfl, r1, r2⟩ := vals2 r
  cases r2
  have fin : ∀ t, TyOf X.K H x t → PySem.W.kitOne X.K t (.type T) = some (f H x) → wpAny (model X.prog X.w) X.A (call (.builtin "isinstance") [u1, .type T]) (EP X pins σ Q) X.xe s :=
    fun t ty e => isinst_ok I r1 ty e fun tk => ⟨.bl (f H x), H, I.tok tk, rfl, q⟩
  cases x with
  | non => exact fin _ .non (hn H)
  | bl c => exact fin _ (.bl c) (hb H c)
  | int i => exact fin _ (.int i) (hi H i)
  | str y => exact fin _ (.str y) (hs H y)
  | ref a =>
    rcases kn with ⟨ys, e⟩ | ⟨o, ys, e⟩ | ⟨ys, e⟩ | ⟨ys, e⟩ | ⟨ys, e⟩
    · exact fin _ (.lst e) (hl H a ys e)
    · exact fin _ (.frz e) (hf H a o ys e)
    · exact fin _ (.tup e) (ht H a ys e)
    · exact fin _ (.dK e) (hd H a ys e)
    · exact fin _ (.dT e) (hd' H a ys e)
  | _ => exact kn.elim
theorem kt_NoneType_int {K : PySem.W.Frag} : PySem.W.kitOne K (.type "NoneType") (.type "int") = some false := kit_ty (by decide +kernel)
theorem kt_bool_int {K : PySem.W.Frag} : PySem.W.kitOne K (.type "bool") (.type "int") = some true := kit_ty (by decide +kernel)
theorem kt_int_int {K : PySem.W.Frag} : PySem.W.kitOne K (.type "int") (.type "int") = some true := kit_ty (by decide +kernel)
theorem kt_str_int {K : PySem.W.Frag} : PySem.W.kitOne K (.type "str") (.type "int") = some false := kit_ty (by decide +kernel)
theorem kt_list_int {K : PySem.W.Frag} : PySem.W.kitOne K (.type "list") (.type "int") = some false := kit_ty (by decide +kernel)
theorem kt_tuple_int {K : PySem.W.Frag} : PySem.W.kitOne K (.type "tuple") (.type "int") = some false := kit_ty (by decide +kernel)
theorem kt_dict_int {K : PySem.W.Frag} : PySem.W.kitOne K (.type "dict") (.type "int") = some false := kit_ty (by decide +kernel)
theorem kt_NoneType_bool {K : PySem.W.Frag} : PySem.W.kitOne K (.type "NoneType") (.type "bool") = some false := kit_ty (by decide +kernel)
theorem kt_bool_bool {K : PySem.W.Frag} : PySem.W.kitOne K (.type "bool") (.type "bool") = some true := kit_ty (by decide +kernel)
theorem kt_int_bool {K : PySem.W.Frag} : PySem.W.kitOne K (.type "int") (.type "bool") = some false := kit_ty (by decide +kernel)
theorem kt_str_bool {K : PySem.W.Frag} : PySem.W.kitOne K (.type "str") (.type "bool") = some false := kit_ty (by decide +kernel)
theorem kt_list_bool {K : PySem.W.Frag} : PySem.W.kitOne K (.type "list") (.type "bool") = some false := kit_ty (by decide +kernel)
theorem kt_tuple_bool {K : PySem.W.Frag} : PySem.W.kitOne K (.type "tuple") (.type "bool") = some false := kit_ty (by decide +kernel)
theorem kt_dict_bool {K : PySem.W.Frag} : PySem.W.kitOne K (.type "dict") (.type "bool") = some false := kit_ty (by decide +kernel)
theorem kt_NoneType_tuple {K : PySem.W.Frag} : PySem.W.kitOne K (.type "NoneType") (.type "tuple") = some false := kit_ty (by decide +kernel)
theorem kt_bool_tuple {K : PySem.W.Frag} : PySem.W.kitOne K (.type "bool") (.type "tuple") = some false := kit_ty (by decide +kernel)
theorem kt_int_tuple {K : PySem.W.Frag} : PySem.W.kitOne K (.type "int") (.type "tuple") = some false := kit_ty (by decide +kernel)
theorem kt_str_tuple {K : PySem.W.Frag} : PySem.W.kitOne K (.type "str") (.type "tuple") = some false := kit_ty (by decide +kernel)
theorem kt_list_tuple {K : PySem.W.Frag} : PySem.W.kitOne K (.type "list") (.type "tuple") = some false := kit_ty (by decide +kernel)
theorem kt_tuple_tuple {K : PySem.W.Frag} : PySem.W.kitOne K (.type "tuple") (.type "tuple") = some true := kit_ty (by decide +kernel)
theorem kt_dict_tuple {K : PySem.W.Frag} : PySem.W.kitOne K (.type "dict") (.type "tuple") = some false := kit_ty (by decide +kernel)
theorem kt_NoneType_list {K : PySem.W.Frag} : PySem.W.kitOne K (.type "NoneType") (.type "list") = some false := kit_ty (by decide +kernel)
theorem kt_bool_list {K : PySem.W.Frag} : PySem.W.kitOne K (.type "bool") (.type "list") = some false := kit_ty (by decide +kernel)
theorem kt_int_list {K : PySem.W.Frag} : PySem.W.kitOne K (.type "int") (.type "list") = some false := kit_ty (by decide +kernel)
theorem kt_str_list {K : PySem.W.Frag} : PySem.W.kitOne K (.type "str") (.type "list") = some false := kit_ty (by decide +kernel)
theorem kt_list_list {K : PySem.W.Frag} : PySem.W.kitOne K (.type "list") (.type "list") = some true := kit_ty (by decide +kernel)
theorem kt_tuple_list {K : PySem.W.Frag} : PySem.W.kitOne K (.type "tuple") (.type "list") = some false := kit_ty (by decide +kernel)
theorem kt_dict_list {K : PySem.W.Frag} : PySem.W.kitOne K (.type "dict") (.type "list") = some false := kit_ty (by decide +kernel)
theorem call_is_int : CallR X (.builtin "isinstance") (fun xs H Q => ∃ x, xs = [x, .ty "int"] ∧ knV H x ∧ Q (.bl (isIntV x)) H) :=
  isinst_any (f := fun _ x => isIntV x) (fun _ => kt_NoneType_int) (fun _ _ => kt_bool_int) (fun _ _ => kt_int_int) (fun _ _ => kt_str_int) (fun _ _ _ _ => kt_list_int) (fun _ _ _ _ _ => kt_list_int) (fun _ _ _ _ => kt_tuple_int) (fun _ _ _ _ => kt_dict_int) (fun _ _ _ _ => kt_dict_int)
theorem call_is_bool : CallR X (.builtin "isinstance") (fun xs H Q => ∃ x, xs = [x, .ty "bool"] ∧ knV H x ∧ Q (.bl (isBlV x)) H) :=
  isinst_any (f := fun _ x => isBlV x) (fun _ => kt_NoneType_bool) (fun _ _ => kt_bool_bool) (fun _ _ => kt_int_bool) (fun _ _ => kt_str_bool) (fun _ _ _ _ => kt_list_bool) (fun _ _ _ _ _ => kt_list_bool) (fun _ _ _ _ => kt_tuple_bool) (fun _ _ _ _ => kt_dict_bool) (fun _ _ _ _ => kt_dict_bool)
theorem call_is_tuple : CallR X (.builtin "isinstance") (fun xs H Q => ∃ x, xs = [x, .ty "tuple"] ∧ knV H x ∧ Q (.bl (isTupV H x)) H) :=
  isinst_any (f := isTupV) (fun _ => kt_NoneType_tuple) (fun _ _ => kt_bool_tuple) (fun _ _ => kt_int_tuple) (fun _ _ => kt_str_tuple) (fun H a xs e => by simp only [isTupV, e, isTupO]; exact kt_list_tuple) (fun H a o xs e => by simp only [isTupV, e, isTupO]; exact kt_list_tuple) (fun H a xs e => by simp only [isTupV, e, isTupO]; exact kt_tuple_tuple) (fun H a xs e => by simp only [isTupV, e, isTupO]; exact kt_dict_tuple) (fun H a xs e => by simp only [isTupV, e, isTupO]; exact kt_dict_tuple)
theorem call_is_list : CallR X (.builtin "isinstance") (fun xs H Q => ∃ x, xs = [x, .ty "list"] ∧ knV H x ∧ Q (.bl (isLstV H x)) H) :=
  isinst_any (f := isLstV) (fun _ => kt_NoneType_list) (fun _ _ => kt_bool_list) (fun _ _ => kt_int_list) (fun _ _ => kt_str_list) (fun H a xs e => by simp only [isLstV, e, isLstO]; exact kt_list_list) (fun H a o xs e => by simp only [isLstV, e, isLstO]; exact kt_list_list) (fun H a xs e => by simp only [isLstV, e, isLstO]; exact kt_tuple_list) (fun H a xs e => by simp only [isLstV, e, isLstO]; exact kt_dict_list) (fun H a xs e => by simp only [isLstV, e, isLstO]; exact kt_dict_list)

def Big (i : Int) : Prop := i.natAbs.log2 < 8000
theorem big_of {i : Int} (h : i.natAbs < 2 ^ 8000) : Big i := by
  unfold Big
  rcases Nat.eq_zero_or_pos i.natAbs with h0 | hp
  · rw [h0]; decide
  · exact (Nat.log2_lt (Nat.ne_of_gt hp)).mpr h
theorem Big.bits {i : Int} (h : Big i) : Builtin.Int.intBits i ≤ 8000 := by
  unfold Builtin.Int.intBits
  unfold Big at h
  split
  · exact Nat.zero_le _
  · omega
def CMulB (i j : Int) : Prop := (-(2 ^ 64) < i ∧ i < 2 ^ 64) ∨ (-(2 ^ 64) < j ∧ j < 2 ^ 64) ∨ (Big i ∧ Big j)
theorem CMulB.ok {i j : Int} (h : CMulB i j) : IntMulOk i j := by
  rcases h with ⟨h1, h2⟩ | ⟨h1, h2⟩ | ⟨h1, h2⟩
  · exact .of_left (intBits_le_64 h1 h2)
  · exact .of_right (intBits_le_64 h1 h2)
  · have b1 := h1.bits
    have b2 := h2.bits
    unfold IntMulOk
    have : Builtin.Int.intTooBig (Builtin.Int.intBits i + Builtin.Int.intBits j) = false := by
      unfold Builtin.Int.intTooBig
      refine decide_eq_false ?_
      have e : bitsLine = 134217728 := by decide
      rw [e]
      omega
    rw [this]
    simp
theorem op_mulB : OpR X (binaryOp .Mult) (rI CMulB fun i j => .int (i * j)) := opI fun _ _ _ _ _ _ _ hc q => mul_int q hc.ok
def CDivP (_ j : Int) : Prop := 0 < j ∧ Big j
theorem op_fdivB : OpR X (binaryOp .FloorDiv) (rI CDivP fun i j => .int (i / j)) := opI fun i j _ _ _ _ _ hc q => by
  have h1 : (0 : Int) < j := hc.1
  exact floordiv_int (by omega) (by rw [Int.fdiv_eq_ediv_of_nonneg i (by omega)]; exact q) (.inl (PyProof.noPylong_of_log2 (Nat.lt_trans hc.2 (by decide))))
def CDivZ (_ j : Int) : Prop := j ≠ 0 ∧ Big j
theorem op_fdivZ : OpR X (binaryOp .FloorDiv) (rI CDivZ fun i j => .int (i.fdiv j)) := opI fun i j _ _ _ _ _ hc q =>
  floordiv_int hc.1 q (.inl (PyProof.noPylong_of_log2 (Nat.lt_trans hc.2 (by decide))))
end

structure Df (K : PySem.W.Frag) (mg : Str → Option Value) (x : Str) (st : Stmt) (ps : List Str) (f : Addr) (fd : FuncData) : Prop where
  F : Fun K x x st f fd
  m : mg x = some (.ref f)
  b : Binds K fd ps []

def SBut (p : Addr) (H H' : Hp) : Prop := ∀ b o, b ≠ p → H b = some o → H' b = some o
theorem SBut.refl {p : Addr} {H : Hp} : SBut p H H := fun _ _ _ e => e
theorem SBut.trans {p : Addr} {H H1 H2 : Hp} (x : SBut p H H1) (y : SBut p H1 H2) : SBut p H H2 := fun b o n e => y b o n (x b o n e)
theorem SBut.upd {p : Addr} {H : Hp} {o : HO} : SBut p H (upd H p o) := fun b u n e => by rw [upd_ne n]; exact e
theorem SBut.new {p q : Addr} {H : Hp} {o : HO} (h : H q = none) : SBut p H (L2.upd H q o) := fun b u n e => by rw [upd_ne (ne_of_none e h)]; exact e
theorem Same.but {p : Addr} {H H' : Hp} (h : Same H H') : SBut p H H' := fun b o _ e => h b o e
theorem same_new {q : Addr} {H : Hp} {o : HO} (h : H q = none) : Same H (upd H q o) := fun b u e => by rw [upd_ne (ne_of_none e h)]; exact e
theorem upd_old {H : Hp} {p q : Addr} {o u : HO} (h : H p = none) (e : H q = some u) : upd H p o q = some u := by rw [upd_ne (ne_of_none e h)]; exact e
def Scr (K : PySem.W.Frag) (H : Hp) (a : Addr) (ns : List Int) : Prop := (∃ o, H a = some (.frz o (.lst (ns.map V.int)))) ∨ ∀ H', SqL K H' a (ns.map V.int)
theorem Scr.sq {K : PySem.W.Frag} {H : Hp} {a : Addr} {ns : List Int} (h : Scr K H a ns) : SqL K H a (ns.map V.int) := by
  rcases h with ⟨o, h⟩ | h
  · exact .inl (.inr ⟨o, h⟩)
  · exact h H
theorem scr_of {K : PySem.W.Frag} {H : Hp} {a : Addr} {ns : List Int} (h1 : Only H) (h : SqL K H a (ns.map V.int)) : Scr K H a ns := by
  rcases h with (h | ⟨o, h⟩) | h
  · rcases h1 a with z | ⟨o, xs, z⟩
    · rw [z] at h; cases h
    · rw [z] at h; cases h
  · exact .inl ⟨o, h⟩
  · exact .inr fun H' => .inr h
structure Pen (K : PySem.W.Frag) (H : Hp) (p a : Addr) (ns : List Int) (t l : Int) : Prop where
  lst : H p = some (.lst [.ref a, .int t, .int l])
  scr : Scr K H a ns
  t0 : 0 ≤ t
theorem Pen.put {K : PySem.W.Frag} {H : Hp} {p a : Addr} {ns : List Int} {t l t' l' : Int} (h : Pen K H p a ns t l) (h0 : 0 ≤ t') : Pen K (upd H p (.lst [.ref a, .int t', .int l'])) p a ns t' l' := by
  refine ⟨upd_same, ?_, h0⟩
  rcases h.scr with ⟨o, e⟩ | e
  · refine .inl ⟨o, ?_⟩
    rw [upd_ne (ne_of e h.lst (by intro z; cases z))]
    exact e
  · exact .inr e
theorem Pen.same {K : PySem.W.Frag} {H H' : Hp} {p a : Addr} {ns : List Int} {t l : Int} (h : Pen K H p a ns t l) (s : Same H H') : Pen K H' p a ns t l := by
  refine ⟨s _ _ h.lst, ?_, h.t0⟩
  rcases h.scr with ⟨o, e⟩ | e
  · exact .inl ⟨o, s _ _ e⟩
  · exact .inr e
theorem scr_at {ns : List Int} {i : Int} (h0 : 0 ≤ i) (h : i < (ns.length : Int)) : atI (ns.map V.int) i = some (.int (ns.getD i.toNat 0)) := by
  obtain ⟨j, rfl⟩ := Int.eq_ofNat_of_zero_le h0
  have hj : j < ns.length := by omega
  refine atI_nat ?_
  simp [List.getElem?_map, hj]
end L2

namespace L2
open PySem PySem.Spec PyProof.Rows
section
variable {X : Cx} {pos : Pos}
def rIxTH : R2 := fun x y H Q => ∃ p xs i v, x = .ref p ∧ y = .int i ∧ H p = some (.tup xs) ∧ atI xs i = some v ∧ Q v H
def rIxLH : R2 := fun x y H Q => ∃ p xs i v, x = .ref p ∧ y = .int i ∧ H p = some (.lst xs) ∧ atI xs i = some v ∧ Q v H
theorem ix_tupH : IxR X rIxTH := fun value slice pins s σ H x y v u Q I rx ry ⟨p, xs, i, z, e1, e2, h, e3, q⟩ hs => ix_tup value slice pins s σ H x y v u Q I rx ry ⟨p, xs, i, z, e1, e2, SqT.of h, e3, q⟩ hs
theorem ix_listH : IxR X rIxLH := fun value slice pins s σ H x y v u Q I rx ry ⟨p, xs, i, z, e1, e2, h, e3, q⟩ hs => ix_list value slice pins s σ H x y v u Q I rx ry ⟨p, xs, i, z, e1, e2, SqL.of h, e3, q⟩ hs
def lenO : Option HO → Option Nat
  | some (.lst xs) => some xs.length | some (.tup xs) => some xs.length | _ => none
def rLenH : List V → Hp → VK → Prop := fun xs H Q => ∃ p n, xs = [.ref p] ∧ lenO (H p) = some n ∧ Q (.int n) H
theorem call_lenH : CallR X (.builtin "len") rLenH := by
  intro pins s σ H xs us Q I r h
  obtain ⟨p, n, rfl, e, q⟩ := h
  cases o : H p with
  | none => rw [o] at e; cases e
  | some ob =>
    rw [o] at e
    cases ob with
    | lst ys => cases e; exact call_len_seq pins s σ H _ us Q I r ⟨p, ys, rfl, .inl (SqL.of o), q⟩
    | tup ys => cases e; exact call_len_seq pins s σ H _ us Q I r ⟨p, ys, rfl, .inr (SqT.of o), q⟩
    | _ => cases e
def gLsH (n : Nat) (t : TGs) : TG := fun v σ H Q => ∃ a xs, v = .ref a ∧ H a = some (.lst xs) ∧ xs.length = n ∧ t xs σ H Q
theorem pg_lsH {es : List Expr} {k : Nat} {t : TGs} {n : Nat} (hc : X.calm = true) (h : PGs X es t)
    (hn : (assignEach es X.env).length = n := by rfl) (hst : (assignEach es X.env).findIdx? (·.1) = none := by rfl) : PG X (.Tuple es k pos) (gLsH n t) :=
  fun pins s σ H v u Q I r ⟨a, xs, e1, e2, e3, q⟩ => pg_ls hc h hn hst pins s σ H v u Q I r ⟨a, xs, e1, SqL.of e2, e3, q⟩
def gTupH (n : Nat) (t : TGs) : TG := fun v σ H Q => ∃ a xs, v = .ref a ∧ H a = some (.tup xs) ∧ xs.length = n ∧ t xs σ H Q
theorem pg_tupH {es : List Expr} {k : Nat} {t : TGs} {n : Nat} (hc : X.calm = true) (h : PGs X es t)
    (hn : (assignEach es X.env).length = n := by rfl) (hst : (assignEach es X.env).findIdx? (·.1) = none := by rfl) : PG X (.Tuple es k pos) (gTupH n t) :=
  fun pins s σ H v u Q I r ⟨a, xs, e1, e2, e3, q⟩ => pg_tup hc h hn hst pins s σ H v u Q I r ⟨a, xs, e1, SqT.of e2, e3, q⟩
end
end L2
namespace L2
open PySem PySem.Spec PyProof.Rows
def sp_next (K : PySem.W.Frag) : Sp := fun vs H Q _ => ∃ (p a : Addr) (ns : List Int) (t l m : Int), vs = [.ref p, .int m] ∧ Pen K H p a ns t l ∧ 1 ≤ m ∧ m ≤ 10 ^ 60 ∧
  ∀ (r t' l' : Int) (H' : Hp), 0 ≤ r → r < m → Pen K H' p a ns t' l' → SBut p H H' → Q (.int r) H'
def sp_pen (K : PySem.W.Frag) : Sp := fun vs H Q _ => ∃ (a : Addr) (ns : List Int), vs = [.ref a] ∧ Scr K H a ns ∧ ∀ (p : Addr) (H' : Hp), H p = none → Pen K H' p a ns 0 0 → Same H H' → Q (.ref p) H'
theorem mul_mod {x d y : Int} (h0 : 0 < d) (h : d ≤ 18446744073709551616) : CMulB (x % d) y := by
  have h1 := Int.emod_nonneg x (show d ≠ 0 by omega)
  have h2 := Int.emod_lt_of_pos x h0
  exact .inl ⟨by omega, by omega⟩
theorem mul_l {c y : Int} (h : -18446744073709551616 < c ∧ c < 18446744073709551616 := by decide) : CMulB c y := .inl h
theorem mul_r {c y : Int} (h : -18446744073709551616 < c ∧ c < 18446744073709551616 := by decide) : CMulB y c := .inr (.inl h)
theorem mpos {c : Int} (h : 0 < c := by decide) : 0 < c := h
theorem big_ten {c : Int} (h0 : 0 ≤ c) (h : c ≤ 10 ^ 60) : Big c := big_of (Nat.lt_of_lt_of_le (Nat.lt_of_le_of_lt (show c.natAbs ≤ 10 ^ 60 by omega) (show 10 ^ 60 < 2 ^ 200 by decide)) (Nat.pow_le_pow_right (by decide) (by decide)))
theorem big_small {c : Int} (h0 : 0 ≤ c) (h : c ≤ 18446744073709551616) : Big c := big_of (Nat.lt_of_lt_of_le (Nat.lt_of_le_of_lt (show c.natAbs ≤ 18446744073709551616 by omega) (show 18446744073709551616 < 2 ^ 65 by decide)) (Nat.pow_le_pow_right (by decide) (by decide)))
end L2

namespace Ra
structure Low (a b x y : Int) : Prop where
  pos : 0 < y
  cop : Int.gcd x y = 1
  eq : x * b = a * y
theorem dvd_of_cop {x y z : Int} (h : Int.gcd x y = 1) (hd : y ∣ x * z) : y ∣ z := by
  have h1 : Nat.Coprime y.natAbs x.natAbs := by
    show Nat.gcd y.natAbs x.natAbs = 1
    rw [Nat.gcd_comm]; exact h
  have h2 : y.natAbs ∣ x.natAbs * z.natAbs := by
    rw [← Int.natAbs_mul]; exact Int.natAbs_dvd_natAbs.mpr hd
  exact Int.natAbs_dvd_natAbs.mp (h1.dvd_of_dvd_mul_left h2)
theorem Low.uniq {a b x y x' y' : Int} (hb : b ≠ 0) (h : Low a b x y) (h' : Low a b x' y') : x = x' ∧ y = y' := by
  have e : x * y' = x' * y := by
    have e1 : b * (x * y') = b * (x' * y) := by
      have := h.eq; have := h'.eq; grind
    exact Int.eq_of_mul_eq_mul_left hb e1
  have d1 : y ∣ y' := dvd_of_cop h.cop ⟨x', by grind⟩
  have d2 : y' ∣ y := dvd_of_cop h'.cop ⟨x, by grind⟩
  have ey : y = y' := Int.dvd_antisymm (Int.le_of_lt h.pos) (Int.le_of_lt h'.pos) d1 d2
  subst ey
  exact ⟨Int.eq_of_mul_eq_mul_right (Int.ne_of_gt h.pos) e, rfl⟩
theorem low_of {a b d : Int} (hb : b ≠ 0) (hd : d = if b < 0 then -((Int.gcd a b : Nat) : Int) else ((Int.gcd a b : Nat) : Int)) : Low a b (a.fdiv d) (b.fdiv d) := by
  have hg : 0 < Int.gcd a b := Int.gcd_pos_of_ne_zero_right a hb
  obtain ⟨a', ha⟩ : ((Int.gcd a b : Nat) : Int) ∣ a := Int.gcd_dvd_left ..
  obtain ⟨b', hb'⟩ : ((Int.gcd a b : Nat) : Int) ∣ b := Int.gcd_dvd_right ..
  have hc : Int.gcd a' b' = 1 := by
    have e : Int.gcd a b = Int.gcd a b * Int.gcd a' b' := by
      have e0 := Int.gcd_mul_left ((Int.gcd a b : Nat) : Int) a' b'
      rw [← ha, ← hb'] at e0
      simpa using e0
    have : Int.gcd a b * 1 = Int.gcd a b * Int.gcd a' b' := by omega
    exact (Nat.eq_of_mul_eq_mul_left hg this).symm
  generalize hG : ((Int.gcd a b : Nat) : Int) = G at *
  have hG0 : 0 < G := by omega
  by_cases hn : b < 0
  · rw [if_pos hn] at hd
    have ea : a = d * (-a') := by rw [hd, ha]; grind
    have eb : b = d * (-b') := by rw [hd, hb']; grind
    have hd0 : d ≠ 0 := by omega
    have e1 : a.fdiv d = -a' := by rw [ea, Int.mul_fdiv_cancel_left _ hd0]
    have e2 : b.fdiv d = -b' := by rw [eb, Int.mul_fdiv_cancel_left _ hd0]
    rw [e1, e2]
    refine ⟨?_, by rw [Int.gcd_neg, Int.neg_gcd]; exact hc, ?_⟩
    · have : G * b' < 0 := by rw [← hb']; exact hn
      have := Int.neg_of_mul_neg_right this (by omega)
      omega
    · rw [ha, hb']; grind
  · rw [if_neg hn] at hd
    have hd0 : d ≠ 0 := by omega
    have e1 : a.fdiv d = a' := by rw [hd, ha, Int.mul_fdiv_cancel_left _ (by omega)]
    have e2 : b.fdiv d = b' := by rw [hd, hb', Int.mul_fdiv_cancel_left _ (by omega)]
    rw [e1, e2]
    refine ⟨?_, hc, ?_⟩
    · have : 0 < G * b' := by rw [← hb']; omega
      exact Int.pos_of_mul_pos_right this (by omega)
    · rw [ha, hb']; grind

theorem gcd_step {a b : Int} (hb : b ≠ 0) : Int.gcd b (a.fmod b) = Int.gcd a b := by
  have e : a = b * a.fdiv b + a.fmod b := (Int.mul_fdiv_add_fmod a b).symm
  conv => rhs; rw [e]
  rw [Int.gcd_mul_left_add_left, Int.gcd_comm]
theorem fmod_less {a b : Int} (hb : b ≠ 0) : (a.fmod b).natAbs < b.natAbs := by
  rcases Int.lt_or_gt_of_ne hb with h | h
  · have h2 := Int.fmod_nonneg_of_pos (-a) (b := -b) (by omega)
    have h3 := Int.fmod_lt_of_pos (-a) (b := -b) (by omega)
    have h4 : (-a).fmod (-b) = -(a.fmod b) := by
      rw [Int.neg_fmod_neg]
    omega
  · have h2 := Int.fmod_nonneg_of_pos a h
    have h3 := Int.fmod_lt_of_pos a h
    omega
theorem gcd_zero {a : Int} : (if a < 0 then -a else a) = ((Int.gcd a 0 : Nat) : Int) := by
  rw [Int.gcd_zero_right]
  split <;> omega
theorem Low.le {a b x y : Int} (hb : b ≠ 0) (h : Low a b x y) : x.natAbs ≤ a.natAbs ∧ y.natAbs ≤ b.natAbs := by
  have d1 : y ∣ b := dvd_of_cop h.cop ⟨a, by have := h.eq; grind⟩
  have hy : y.natAbs ≤ b.natAbs := Nat.le_of_dvd (Int.natAbs_pos.mpr hb) (Int.natAbs_dvd_natAbs.mpr d1)
  refine ⟨?_, hy⟩
  by_cases ha : a = 0
  · have e := h.eq
    rw [ha, Int.zero_mul] at e
    rcases Int.mul_eq_zero.mp e with z | z
    · rw [z]; exact Nat.zero_le _
    · exact absurd z hb
  · have d2 : x ∣ a := dvd_of_cop (x := y) (by rw [Int.gcd_comm]; exact h.cop) ⟨b, by have := h.eq; grind⟩
    exact Nat.le_of_dvd (Int.natAbs_pos.mpr ha) (Int.natAbs_dvd_natAbs.mpr d2)
end Ra
namespace L2
open PySem PySem.Spec PyProof.Rows
def closeL (cells : List (Str × Addr)) : List (Str × NameKind) → List (Str × Addr) → Option (List (Str × Addr))
  | [], cs => some cs
  | (n, k) :: r, cs => if k == .free then (match cells.lookup n with
    | some c => closeL cells r ((n, c) :: cs)
    | none => none) else closeL cells r cs
theorem closureFor_of {scope : Scope} {env : Env} {cl : List (Str × Addr)} (h : closeL env.cells scope.names [] = some cl) : closureFor scope env = pure cl := by
  simp only [closureFor]
  generalize ([] : List (Str × Addr)) = cs at h ⊢
  generalize scope.names = l at h ⊢
  induction l generalizing cs with
  | nil => cases h; rfl
  | cons a r ih =>
    obtain ⟨n, k⟩ := a
    unfold closeL at h
    rw [List.forIn_cons]
    by_cases hk : (k == NameKind.free) = true
    · rw [if_pos hk] at h
      cases e : env.cells.lookup n with
      | none => rw [e] at h; cases h
      | some c =>
        rw [e] at h
        have := ih _ h
        simp only [hk, if_true, cellOf, e, pure_bind]
        exact this
    · rw [if_neg hk] at h
      have := ih _ h
      simp only [hk, Bool.false_eq_true, if_false, pure_bind]
      exact this
theorem closeL_sub {cells cl : List (Str × Addr)} : ∀ {l : List (Str × NameKind)} {cs : List (Str × Addr)}, closeL cells l cs = some cl → (∀ y c, cs.lookup y = some c → cells.lookup y = some c) → ∀ y c, cl.lookup y = some c → cells.lookup y = some c
  | [], cs, h, hs, y, c, e => by cases h; exact hs y c e
  | (n, k) :: r, cs, h, hs, y, c, e => by
    unfold closeL at h
    by_cases hk : (k == NameKind.free) = true
    · rw [if_pos hk] at h
      cases q : cells.lookup n with
      | none => rw [q] at h; cases h
      | some c' =>
        rw [q] at h
        refine closeL_sub h (fun z d hz => ?_) y c e
        by_cases hzn : (z == n) = true
        · rw [List.lookup_cons, hzn] at hz
          cases hz
          rw [eq_of_beq hzn]; exact q
        · rw [List.lookup_cons, (Bool.not_eq_true _).mp hzn] at hz
          exact hs z d hz
    · rw [if_neg hk] at h
      exact closeL_sub h hs y c e
theorem closeL_has {cells cl : List (Str × Addr)} : ∀ {l : List (Str × NameKind)} {cs : List (Str × Addr)}, closeL cells l cs = some cl → ∀ y, ((y, NameKind.free) ∈ l ∨ ∃ c, cs.lookup y = some c) → ∃ c, cl.lookup y = some c
  | [], cs, h, y, e => by
    cases h
    rcases e with e | e
    · simp at e
    · exact e
  | (n, k) :: r, cs, h, y, e => by
    unfold closeL at h
    by_cases hk : (k == NameKind.free) = true
    · rw [if_pos hk] at h
      cases q : cells.lookup n with
      | none => rw [q] at h; cases h
      | some c' =>
        rw [q] at h
        refine closeL_has h y ?_
        rcases e with e | ⟨c, e⟩
        · rcases List.mem_cons.mp e with e | e
          · cases e
            exact .inr ⟨c', by rw [List.lookup_cons, beq_self_eq_true]⟩
          · exact .inl e
        · by_cases hyn : (y == n) = true
          · exact .inr ⟨c', by rw [List.lookup_cons, hyn]⟩
          · exact .inr ⟨c, by rw [List.lookup_cons, (Bool.not_eq_true _).mp hyn]; exact e⟩
    · rw [if_neg hk] at h
      refine closeL_has h y ?_
      rcases e with e | e
      · rcases List.mem_cons.mp e with e | e
        · cases e
          exact absurd rfl hk
        · exact .inl e
      · exact .inr e
inductive Cap (X : Cx) (scope : Scope) : List Str → List (Option Nat) → Prop where
  | nil : Cap X scope [] []
  | own {x : Str} {N : List Str} {js : List (Option Nat)} (h : Cap X scope N js) : Cap X scope (x :: N) (none :: js)
  | cap {x : Str} {j : Nat} {N : List Str} {js : List (Option Nat)} (h1 : X.N[j]? = some x) (h2 : X.env.kindOf x = some .cell ∨ X.env.kindOf x = some .free)
      (h3 : scope.names.lookup x = some .free) (h : Cap X scope N js) : Cap X scope (x :: N) (some j :: js)
def sub1 (σ : St) : Option Nat → Option V
  | none => none
  | some j => (σ[j]?).join
def sub (js : List (Option Nat)) (σ : St) : St := js.map (sub1 σ)
theorem Cap.len {X : Cx} {scope : Scope} {N : List Str} {js : List (Option Nat)} (h : Cap X scope N js) : js.length = N.length := by induction h <;> simp [*]
theorem Cap.at {X : Cx} {scope : Scope} {N : List Str} {js : List (Option Nat)} (h : Cap X scope N js) : ∀ {i : Nat} {x : Str} {σ : St} {v : V}, N[i]? = some x → (sub js σ)[i]? = some (some v) →
    ∃ j : Nat, X.N[j]? = some x ∧ σ[j]? = some (some v) ∧ (X.env.kindOf x = some .cell ∨ X.env.kindOf x = some .free) ∧ scope.names.lookup x = some .free := by
  induction h with
  | nil => intro i x σ v h; simp at h
  | own h ih =>
    intro i x σ v h1 h2
    cases i with
    | zero => simp [sub, sub1] at h2
    | succ i => exact ih (by simpa using h1) (by simpa [sub] using h2)
  | @cap x j N js k1 k2 k3 h ih =>
    intro i y σ v h1 h2
    cases i with
    | zero =>
      simp at h1
      subst h1
      simp [sub, sub1] at h2
      refine ⟨j, k1, ?_, k2, k3⟩
      cases q : σ[j]? with
      | none => rw [q] at h2; simp at h2
      | some o => rw [q] at h2; simp at h2; rw [h2]
    | succ i => exact ih (by simpa using h1) (by simpa [sub] using h2)
def cxComp (X : Cx) (scope : Scope) (cl : List (Str × Addr)) (C : Addr) (N' : List Str) (s₃ : Shared) (H₃ : Hp) (fp : List Addr) (pins : List (Addr × Obj)) : Cx :=
  { X with N := N', s₀ := s₃, H₀ := H₃, env := compEnvC scope cl C X.env, outer := X.stack, ex := fp, fn := fun y => scope.names.lookup y == some .cell, pn := X.pn ++ pins, xe := fun _ _ => False }
structure Blk where
  C : Addr
  s3 : Shared
  H3 : Hp
  fp : List Addr
  pins : List (Addr × Obj)
abbrev cxB (X : Cx) (scope : Scope) (cl : List (Str × Addr)) (N' : List Str) (B : Blk) : Cx := cxComp X scope (cellsFrom (B.C + 1) scope.names cl) B.C N' B.s3 B.H3 B.fp B.pins
def PTs (X : Cx) (ifs : List Expr) (t : TT) : Prop :=
  ∀ (pins : List (Addr × Obj)) (s : Shared) (σ : St) (H : Hp) (Q : Bool → Hp → Prop), Inv X pins σ H s → t σ H Q →
    wpAny (model X.prog X.w) X.A (forIn ifs true fun c r => if r = true then do let ok ← isTrue c X.env (eval c X.env); pure (ForInStep.yield ok) else pure (ForInStep.yield r)) (TP X pins σ Q) X.xe s
def tNoTest : TT := fun _ H Q => Q true H
theorem pts_nil {X : Cx} : PTs X [] tNoTest := fun _ _ _ H _ I h => wpAny_tests_nil ⟨H, I, h⟩
theorem pts_one {X : Cx} {c : Expr} {t : TT} (h : PT X c t) : PTs X [c] t := fun pins s σ H Q I q => wpAny_tests_one (h pins s σ H Q I q)
def tComp (wi : TI) (js : List (Option Nat)) (g : Blk → TG) (tc : Blk → TT) (te : Blk → TE) : TE := fun σ H Q => wi σ H fun J H1 => ∀ (B : Blk) D, H1 D = none → ∃ W : Nat → Nat → St → Hp → Prop, (∃ m, W 0 m (sub js σ) (upd H1 D (.lst []))) ∧ ∀ i m σ' H', W i m σ' H' →
  (J.stop i H' ∧ Q (.ref D) H') ∨ (J.go i H' ∧ ∃ N : St → Hp → Prop, (∀ σ2 H2, N σ2 H2 → ∃ m', m' < m ∧ W (i + 1) m' σ2 H2) ∧ ∀ y H2, J.yld i H' y H2 → g B y σ' H2 fun σ3 H3 => tc B σ3 H3 fun b H4 =>
    if b = true then te B σ3 H4 fun v H5 => ∃ ys, H5 D = some (.lst ys) ∧ ys.length < sizeLine ∧ N σ3 (upd H5 D (.lst (ys ++ [v]))) else N σ3 H4)
theorem relabel_free {scope : Scope} {env : Env} {y : Str} (h : (relabel scope env).names.lookup y = some .cell ∨ (relabel scope env).names.lookup y = some .free) : (y, NameKind.free) ∈ scope.names ∨ (y, NameKind.cell) ∈ scope.names := by
  have key : ∀ k, (y, k) ∈ (relabel scope env).names → (k = .cell ∨ k = .free) → (y, NameKind.free) ∈ scope.names ∨ (y, NameKind.cell) ∈ scope.names := by
    intro k hm hk
    obtain ⟨⟨n, q⟩, hn, e⟩ := List.mem_map.mp hm
    dsimp only at e
    split at e
    · rename_i c
      simp only [Bool.and_eq_true] at c
      have : q = .free := eq_of_beq c.1.1
      subst this
      cases e
      exact .inl hn
    · cases e
      rcases hk with rfl | rfl
      · exact .inr hn
      · exact .inl hn
  rcases h with h | h
  · exact key _ (PySem.mem_of_lookup h) (.inl rfl)
  · exact key _ (PySem.mem_of_lookup h) (.inr rfl)
theorem relabel_of_free {scope : Scope} {env : Env} {y : Str} (h : scope.names.lookup y = some .free) : (relabel scope env).names.lookup y = some .cell ∨ (relabel scope env).names.lookup y = some .free := by
  show (List.lookup y (scope.names.map _)) = _ ∨ (List.lookup y (scope.names.map _)) = _
  generalize scope.names = l at h
  induction l with
  | nil => simp at h
  | cons a r ih =>
    obtain ⟨n, k⟩ := a
    rw [List.lookup_cons] at h
    rw [List.map_cons]
    cases e : y == n with
    | true =>
      rw [e] at h
      cases h
      dsimp only
      split
      · left; rw [List.lookup_cons, e]
      · right; rw [List.lookup_cons, e]
    | false =>
      rw [e] at h
      dsimp only
      split <;> (rw [List.lookup_cons, e]; exact ih h)
theorem cellsFrom_app : ∀ (names : List (Str × NameKind)) (n : Nat) (acc : List (Str × Addr)), cellsFrom n names acc = cellsFrom n names [] ++ acc
  | [], _, _ => rfl
  | (x, k) :: r, n, acc => by
    unfold cellsFrom
    split
    · rw [cellsFrom_app r (n + 1) ((x, n) :: acc), cellsFrom_app r (n + 1) [(x, n)], List.append_assoc]; rfl
    · exact cellsFrom_app r n acc
theorem cellsFrom_kind : ∀ (names : List (Str × NameKind)) (n : Nat) (y : Str) (c : Addr), (y, c) ∈ cellsFrom n names [] → (y, NameKind.cell) ∈ names
  | [], _, _, _, h => (nomatch h)
  | (x, k) :: r, n, y, c, h => by
    unfold cellsFrom at h
    split at h
    · rename_i hk
      rw [cellsFrom_app] at h
      rcases List.mem_append.mp h with h | h
      · exact List.mem_cons_of_mem _ (cellsFrom_kind r _ y c h)
      · have e := List.mem_singleton.mp h
        cases e
        rw [show k = .cell from eq_of_beq hk]
        exact List.mem_cons_self
    · exact List.mem_cons_of_mem _ (cellsFrom_kind r _ y c h)
theorem lookup_of_mem : ∀ {l : List (Str × Addr)} {y : Str} {c : Addr}, (y, c) ∈ l → ∃ d, l.lookup y = some d
  | (x, k) :: r, y, c, h => by
    rw [List.lookup_cons]
    cases e : y == x with
    | true => exact ⟨_, rfl⟩
    | false =>
      rcases List.mem_cons.mp h with h | h
      · cases h; simp at e
      · exact lookup_of_mem h
theorem cellsFrom_has : ∀ (names : List (Str × NameKind)) (n : Nat) (y : Str), (y, NameKind.cell) ∈ names → ∃ c, (y, c) ∈ cellsFrom n names []
  | (x, k) :: r, n, y, h => by
    unfold cellsFrom
    split
    · rw [cellsFrom_app]
      rcases List.mem_cons.mp h with h | h
      · cases h
        exact ⟨n, List.mem_append_right _ (List.mem_singleton.mpr rfl)⟩
      · obtain ⟨c, q⟩ := cellsFrom_has r (n + 1) y h
        exact ⟨c, List.mem_append_left _ q⟩
    · rename_i hk
      rcases List.mem_cons.mp h with h | h
      · cases h; exact absurd rfl hk
      · exact cellsFrom_has r n y h
theorem lookup_app {l r : List (Str × Addr)} {y : Str} {c : Addr} (h : (l ++ r).lookup y = some c) : l.lookup y = some c ∨ (l.lookup y = none ∧ r.lookup y = some c) := by
  rw [List.lookup_append] at h
  cases e : l.lookup y with
  | none => rw [e] at h; exact .inr ⟨rfl, h⟩
  | some d => rw [e] at h; exact .inl h
theorem lookup_appl {l r : List (Str × Addr)} {y : Str} {c : Addr} (h : l.lookup y = some c) : (l ++ r).lookup y = some c := by rw [List.lookup_append, h]; rfl
theorem lookup_appr {l r : List (Str × Addr)} {y : Str} (h : l.lookup y = none) : (l ++ r).lookup y = r.lookup y := by rw [List.lookup_append, h]; rfl
theorem wpAny_newCompEnv {M : Model} {A : Around} {E : Value → Shared → Prop} {s : Shared} {scope : Scope} {globals : Addr} {cl : List (Str × Addr)} {qual : Str} {outer : Env} {Q : Env → Shared → Prop}
    (h : ∀ h₁ : Heap, h₁.Ns s.heap.objs.size (fun _ => none) → (∀ b o, s.heap.get? b = some o → h₁.get? b = some o) → CellsOk h₁ (s.heap.objs.size + 1) (cellsFrom (s.heap.objs.size + 1) scope.names []) →
      Q (newEnv scope s.heap.objs.size globals (cellsFrom (s.heap.objs.size + 1) scope.names cl) qual none .none (some outer) builtinsNs) { s with heap := h₁ }) :
    wpAny M A (newFunctionEnv scope globals cl [] qual none .none (some outer)) Q E s := by
  simp only [newFunctionEnv, Option.isSome_some, if_true]
  refine wpAny_bind (wpAny_alloc ?_)
  refine wpAny_bind (wpAny_layCells _ (fun name kind cells => by cases hkc : kind == NameKind.cell <;> simp [hkc]) _ _ _ _ ?_)
  have ok := cellsFrom_ok scope.names (s.heap.push { cls := .type "dict", data := .dict #[] }) (s.heap.objs.size + 1) [] ⟨fun _ _ hm => (nomatch hm), List.Pairwise.nil⟩ (by rw [Heap.size_push]; exact Nat.le_refl _)
  rw [Heap.size_push] at ok
  rw [show ({ s with heap := s.heap.push { cls := .type "dict", data := .dict #[] } } : Shared).heap.objs.size = s.heap.objs.size + 1 from Heap.size_push ..]
  rw [List.forIn_nil]
  exact wpAny_bind (wpAny_pure (wpAny_pure (h _ ((Heap.Ns.new s.heap (.type "dict")).keeps (pushCells_keeps _ _)) (fun b o e => pushCells_keeps _ _ b o (Heap.get?_push_of_some _ e)) ok)))
section
variable {X : Cx} {pins : List (Addr × Obj)} {σ : St} {H : Hp} {s : Shared} {scope : Scope} {cl : List (Str × Addr)} {N' : List Str} {js : List (Option Nat)}
theorem inv_comp {fp : List Addr} {h₁ : Heap} (I : Inv X pins σ H s) (hclo : closeL X.env.cells scope.names [] = some cl) (hdis : ∀ y ∈ scope.names, y.2 = .free → (y.1, NameKind.cell) ∉ scope.names) (hkind : scope.kind = .function) (cap : Cap X scope N' js)
    (hf : ∀ b ∈ fp, FpOk X pins H b) (ho : ∀ b ∈ fp, ∃ o, s.heap.get? b = some o)
    (hns : h₁.Ns s.heap.objs.size (fun _ => none)) (hk : ∀ b o, s.heap.get? b = some o → h₁.get? b = some o) (cok : CellsOk h₁ (s.heap.objs.size + 1) (cellsFrom (s.heap.objs.size + 1) scope.names [])) {t' : Nat} :
    Inv (cxComp X scope (cellsFrom (s.heap.objs.size + 1) scope.names cl) s.heap.objs.size N' s H fp pins) [] (sub js σ) H { s with heap := h₁, toks := t' } := by
  have sb := closeL_sub hclo (fun y c e => by simp at e)
  rw [cellsFrom_app]
  generalize hnw : cellsFrom (s.heap.objs.size + 1) scope.names [] = nw at cok ⊢
  have nk : ∀ y c, (y, c) ∈ nw → (y, NameKind.cell) ∈ scope.names := fun y c h => by rw [← hnw] at h; exact cellsFrom_kind _ _ y c h
  have nh : ∀ y, (y, NameKind.cell) ∈ scope.names → ∃ c, nw.lookup y = some c := fun y h => by
    obtain ⟨c, q⟩ := cellsFrom_has scope.names (s.heap.objs.size + 1) y h
    rw [hnw] at q
    exact lookup_of_mem q
  have ng : ∀ y c, nw.lookup y = some c → h₁.IsCell c none ∧ s.heap.objs.size + 1 ≤ c := fun y c h => cok.empty y c (PySem.mem_of_lookup h)
  have old : ∀ y c, cl.lookup y = some c → c < s.heap.objs.size := fun y c h => by
    obtain ⟨v, o, q1, q2⟩ := I.cell y c (sb y c h)
    exact Heap.lt_size q1
  have nf : ∀ y, (y, NameKind.free) ∈ scope.names → nw.lookup y = none := fun y h => by
    cases e : nw.lookup y with
    | none => rfl
    | some c => exact absurd (nk y c (PySem.mem_of_lookup e)) (hdis _ h rfl)
  refine ⟨⟨I.ok.mod, hkind, I.ok.glob, I.ok.blt, Nat.le_refl _, fun y z c h1 h2 => ?_, fun y hy => ?_, fun y c z h => ?_, I.ok.hd, I.ok.frames, .inl rfl, fun b hb => ⟨?_, fun y c h => ?_⟩, I.bs, Nat.le_trans I.ok.bsz I.sz, fun b o e hb => ?_, fun b hb => ?_, I.stack, I.stkFree⟩,
    rfl, I.bare, Un.kept hk, ⟨_, hns, fun i y v h1 h2 h3 => ?_⟩, fun y c h => ?_, I.hok.fresh (Nat.le_refl _), fun y c h => ?_, fun p hp => ?_, I.hok.kept hk, ?_⟩
  · rcases lookup_app h1 with a | ⟨_, a⟩ <;> rcases lookup_app h2 with b | ⟨_, b⟩
    · exact name_of_addr cok.apart (PySem.mem_of_lookup a) (PySem.mem_of_lookup b)
    · exact absurd (Nat.lt_of_lt_of_le (old z c b) (Nat.le_of_succ_le (ng y c a).2)) (Nat.lt_irrefl _)
    · exact absurd (Nat.lt_of_lt_of_le (old y c a) (Nat.le_of_succ_le (ng z c b).2)) (Nat.lt_irrefl _)
    · exact I.ok.inj y z c (sb y c a) (sb z c b)
  · show ∃ c, (nw ++ cl).lookup y = some c
    rcases relabel_free hy with q | q
    · obtain ⟨c, e⟩ := closeL_has hclo y (.inl q)
      exact ⟨c, by rw [lookup_appr (nf y q)]; exact e⟩
    · obtain ⟨c, e⟩ := nh y q
      exact ⟨c, lookup_appl e⟩
  · have z : (y, NameKind.cell) ∈ scope.names := PySem.mem_of_lookup (eq_of_beq z)
    obtain ⟨d, e⟩ := nh y z
    have h : (nw ++ cl).lookup y = some c := h
    rw [lookup_appl e] at h
    have h : d = c := Option.some.inj h
    rw [← h]
    exact Nat.le_of_succ_le (ng y d e).2
  · obtain ⟨o, e⟩ := ho b hb
    exact Nat.ne_of_lt (Heap.lt_size e)
  · rcases lookup_app h with a | ⟨_, a⟩
    · obtain ⟨o, e⟩ := ho b hb
      rintro rfl
      exact absurd (Nat.lt_of_lt_of_le (Heap.lt_size e) (Nat.le_of_succ_le (ng y c a).2)) (Nat.lt_irrefl _)
    · exact (hf b hb).2.2.2.2.1 y c (sb y c a)
  · have fb := hf b hb
    rcases fb.2.2.2.1 with z | z
    · exact I.ok.noex b o e z
    · have h1 : b < X.base.objs.size := Heap.lt_size e
      exact absurd (Nat.lt_of_lt_of_le h1 (Nat.le_trans I.ok.bsz z)) (Nat.lt_irrefl _)
  · intro z
    have := I.stkSub b z
    rcases List.mem_cons.mp this with z | z
    · exact (hf b hb).2.1 z
    · exact (hf b hb).2.2.1 z
  · obtain ⟨j, k1, k2, k3, k4⟩ := cap.at h1 h2
    obtain ⟨m, hm, hl⟩ := I.loc
    have vis : Vis X.env.scope y := by
      rcases k3 with k | k
      · exact .inr (.inl k)
      · exact .inr (.inr k)
    obtain ⟨u, r, lk⟩ := hl j y v k1 k2 vis
    refine ⟨u, r, .inr ⟨relabel_of_free k4, ?_⟩⟩
    have q4 : (y, NameKind.free) ∈ scope.names := PySem.mem_of_lookup k4
    rcases lk with ⟨k5, _⟩ | ⟨_, c, e1, e2⟩
    · rcases k3 with k | k <;> (rw [k] at k5; cases k5)
    · obtain ⟨c', e3⟩ := closeL_has hclo y (.inl q4)
      have := sb y c' e3
      rw [e1] at this
      cases this
      refine ⟨c, by show (nw ++ cl).lookup y = some c; rw [lookup_appr (nf y q4)]; exact e3, ?_⟩
      obtain ⟨o, q1, q2⟩ := e2
      exact ⟨o, hk _ _ q1, q2⟩
  · rcases lookup_app h with a | ⟨_, a⟩
    · exact ⟨_, (ng y c a).1⟩
    · obtain ⟨v, o, q1, q2⟩ := I.cell y c (sb y c a)
      exact ⟨v, o, hk _ _ q1, q2⟩
  · rcases lookup_app h with a | ⟨_, a⟩
    · exact I.hok.fresh (Nat.le_of_succ_le (ng y c a).2)
    · exact I.freeC y c (sb y c a)
  · have hp : p ∈ X.pn ++ pins := by simpa [cxComp] using hp
    obtain ⟨q1, q2, q3, q4, q5⟩ := I.pin p hp
    refine ⟨hk _ _ q1, q2, Nat.ne_of_lt (Heap.lt_size q1), fun z => ?_, q5⟩
    have := I.stkSub p.1 z
    rcases List.mem_cons.mp this with z | z
    · exact q3 z
    · exact q4 z
  · simp [sub, cap.len]; rfl
theorem un_but {fs ex : List Addr} {H : Hp} {h h' : Heap} {C : Addr} (hC : C ∈ ex) (hs : Heap.SameBut C h h') : Un fs ex H H h h' where
  keep := fun b o e _ _ nx => by rw [hs.2 b (by rintro rfl; exact nx hC)]; exact e
  slot := fun b o e _ _ nx => ⟨o.slots, by rw [hs.2 b (by rintro rfl; exact nx hC)]; exact e⟩
  free := fun b o _ n _ => n
  there := fun b o e nx => ⟨o, by rw [hs.2 b (by rintro rfl; exact nx hC)]; exact e⟩
  tups := fun _ _ h => h
  frzs := fun _ _ _ h => h
  tbls := fun b ps h => ⟨#[], by simpa using h⟩
theorem Inv.but {C : Addr} {h' : Heap} (I : Inv X pins σ H s) (f : FpOk X pins H C) (hs : Heap.SameBut C s.heap h') : Inv X pins σ H { s with heap := h' } := by
  refine I.call' (s' := { s with heap := h' }) (ch := [C]) rfl (un_but List.mem_cons_self hs) ?_ I.bare (fun b hb => ?_)
  · intro a o e
    refine ObjOk.stay (I.hok a o e) (fun b u hb q => ?_) (fun _ h => h) (fun _ _ h => h)
    show h'.get? b = some u
    rw [hs.2 b]
    · exact q
    · rintro rfl
      rcases hb with rfl | hb
      · rw [f.1] at e; cases e
      · rw [f.1] at hb; cases hb
  · have : b = C := by simpa using hb
    subst this
    exact ⟨f.2.2.2.1, f.2.1, f.2.2.2.2.1, f.2.2.2.2.2⟩
variable {elt iter : Expr} {x : Str} {px pos : Pos} {ifs : List Expr} {wi : TI} {g : TG} {tc : TT} {te : TE} {Q : VK} {gB : Blk → TG} {tcB : Blk → TT} {teB : Blk → TE}
theorem comp_loop {prog : Program} {w : World} {A : Around} {R : Result → Shared → Prop} {e tg it0 : Expr} {cs : List Expr} {sc : Scope} {ps : Pos} {itv av : Value} {cenv : Env} {z : Shared} (J : Nat → Shared → Prop)
    (turn : ∀ k z, J k z → wpAny (model prog w) A (pyNext itv) (fun r z1 => match r with
      | none => R (.ok .next) z1
      | some u => wpAny (model prog w) A (letOwnedTupleGo tg itv u) (fun _ z2 => wpAny (model prog w) A (assign tg cenv u) (fun _ z3 =>
          wpAny (model prog w) A (forIn cs true fun c r => if r = true then do let ok ← isTrue c cenv (eval c cenv); pure (ForInStep.yield ok) else pure (ForInStep.yield r)) (fun b z4 =>
            if b = true then wpAny (model prog w) A (eval e cenv) (fun y z5 =>
              wpAny (model prog w) A (call (.builtin "list.append") [av, y]) (fun _ z6 => ∃ m, m < k ∧ J m z6) (fun _ _ => False) z5) (fun _ _ => False) z4
            else ∃ m, m < k ∧ J m z4) (fun _ _ => False) z3) (fun _ _ => False) z2) (fun _ _ => False) z1) (fun _ _ => False) z)
    (k : Nat) (h : J k z) : codeAny (model prog w) A (.compLoop (.ListComp e [⟨tg, it0, cs, 0⟩] sc ps) 0 itv av cenv) R z := by
  have no : ∀ {α : Type} {m : Sem α} {P : α → Shared → Prop} {E : Value → Shared → Prop} {z : Shared}, wpAny (model prog w) A m P (fun _ _ => False) z → wpAny (model prog w) A m P E z := fun h => wpAny_mono h (fun _ _ q => q) fun _ _ q => q.elim
  refine codeAny_loop rfl J (fun k z hJ => ?_) k h
  show wpAny _ A ((compTurn (.ListComp e [⟨tg, it0, cs, 0⟩] sc ps) 0 itv av cenv).onRaise (fun x => do noteFrame x cenv; theTreesLotGoes x)) _ _ z
  refine wpAny_noted ?_
  rw [compTurn_list]
  refine wpAny_bind (wpAny_standAt (wpAny_bind (no (thn (turn k z hJ) fun r z1 q1 => ?_))))
  cases r with
  | none => exact wpAny_pure q1
  | some u =>
    refine wpAny_bind (no (thn q1 fun _ z2 q2 => wpAny_bind (no (thn q2 fun _ z3 q3 => wpAny_bind (no (thn q3 fun b z4 q4 => ?_))))))
    cases b with
    | false => exact wpAny_pure ⟨rfl, q4⟩
    | true => exact wpAny_bind (wpAny_bind (no (thn q4 fun y z5 q5 => wpAny_bind (no (thn q5 fun _ z6 q6 => wpAny_pure (wpAny_pure ⟨rfl, q6⟩))))))
theorem comp_block {RR : Value → Addr → Result → Shared → Prop} {s3 : Shared} {H3 : Hp} {D it : Addr} {fp : List Addr} {tn : Nat → Heap → Prop} {J : It} {W : Nat → Nat → St → Hp → Prop} {m0 t' : Nat} {h₁ : Heap} {tg : Expr}
    (hc : X.calm = true) (hclo : closeL X.env.cells scope.names [] = some cl) (hdis : ∀ y ∈ scope.names, y.2 = .free → (y.1, NameKind.cell) ∉ scope.names) (hkind : scope.kind = .function) (cap : Cap X scope N' js)
    (hb : PG (cxComp X scope (cellsFrom (s3.heap.objs.size + 1) scope.names cl) s3.heap.objs.size N' s3 H3 fp pins) tg g ∧ PTs (cxComp X scope (cellsFrom (s3.heap.objs.size + 1) scope.names cl) s3.heap.objs.size N' s3 H3 fp pins) ifs tc ∧ PE (cxComp X scope (cellsFrom (s3.heap.objs.size + 1) scope.names cl) s3.heap.objs.size N' s3 H3 fp pins) elt te)
    (I3 : Inv X pins σ H3 s3) (T : Turn X.prog X.w X.K tg J fp it tn) (st3 : tn 0 s3.heap) (f3 : ∀ b ∈ fp, FpOk X pins H3 b) (w0 : W 0 m0 (sub js σ) H3)
    (turn : ∀ i m σ' H', W i m σ' H' → (J.stop i H' ∧ Q (.ref D) H') ∨ (J.go i H' ∧ ∃ N : St → Hp → Prop, (∀ σ2 H2, N σ2 H2 → ∃ m', m' < m ∧ W (i + 1) m' σ2 H2) ∧ ∀ y H2, J.yld i H' y H2 → g y σ' H2 fun σ3 H3 => tc σ3 H3 fun b H4 =>
      if b = true then te σ3 H4 fun v H5 => ∃ ys, H5 D = some (.lst ys) ∧ ys.length < sizeLine ∧ N σ3 (upd H5 D (.lst (ys ++ [v]))) else N σ3 H4))
    (hns : h₁.Ns s3.heap.objs.size (fun _ => none)) (hk : ∀ b o, s3.heap.get? b = some o → h₁.get? b = some o) (cok : CellsOk h₁ (s3.heap.objs.size + 1) (cellsFrom (s3.heap.objs.size + 1) scope.names []))
    (hR : ∀ s' H' m, Inv X pins σ H' s' → FpOk X pins H' s3.heap.objs.size → s'.heap.Ns s3.heap.objs.size m → Q (.ref D) H' → RR (.ref D) s3.heap.objs.size (.ok .next) s') :
    codeAny (model X.prog X.w) X.A (.compStart (.ListComp elt [⟨tg, iter, ifs, 0⟩] scope pos) 0 (.ref it) (.ref D) (compEnvC scope (cellsFrom (s3.heap.objs.size + 1) scope.names cl) s3.heap.objs.size X.env)) (RR (.ref D) s3.heap.objs.size) { s3 with heap := h₁, toks := t' } := by
  have ob3 : ∀ b ∈ fp, ∃ o, s3.heap.get? b = some o := fun b hb => let ⟨o, e, _⟩ := T.obj _ _ st3 b hb; ⟨o, e⟩
  have I0 : Inv (cxComp X scope (cellsFrom (s3.heap.objs.size + 1) scope.names cl) s3.heap.objs.size N' s3 H3 fp pins) [] (sub js σ) H3 { s3 with heap := h₁, toks := t' } := inv_comp I3 hclo hdis hkind cap f3 ob3 hns hk cok
  have tn0 : tn 0 h₁ := T.keep _ _ _ st3 fun b _ o e => hk b o e
  have hC : FpOk X pins H3 s3.heap.objs.size := I3.fpOk (Nat.le_refl _) (I3.hok.fresh (Nat.le_refl _))
  obtain ⟨bg, bt, be⟩ := hb
  have stat : ∀ {H' : Hp}, (∀ b ∈ fp, H' b = none) → ∀ b ∈ fp, FpOk (cxComp X scope (cellsFrom (s3.heap.objs.size + 1) scope.names cl) s3.heap.objs.size N' s3 H3 fp pins) [] H' b := fun {H'} hn b hb => by
    obtain ⟨o, e⟩ := ob3 b hb
    refine ⟨hn b hb, Nat.ne_of_lt (Heap.lt_size e), I0.ok.exfs b hb, .inl hb, fun y c h => (I0.ok.exf b hb).2 y c h, fun p hp => ?_⟩
    exact (f3 b hb).2.2.2.2.2 p (by simpa [cxComp] using hp)
  have loop : codeAny (model X.prog X.w) X.A (.compLoop (.ListComp elt [⟨tg, iter, ifs, 0⟩] scope pos) 0 (.ref it) (.ref D) (compEnvC scope (cellsFrom (s3.heap.objs.size + 1) scope.names cl) s3.heap.objs.size X.env)) (RR (.ref D) s3.heap.objs.size) { s3 with heap := h₁, toks := t' } := by
    refine comp_loop (fun n s' => ∃ i σ' H', Inv (cxComp X scope (cellsFrom (s3.heap.objs.size + 1) scope.names cl) s3.heap.objs.size N' s3 H3 fp pins) [] σ' H' s' ∧ tn i s'.heap ∧ (∀ b ∈ fp, H' b = none) ∧ W i n σ' H') (fun n s4 hJ => ?_) m0 ⟨0, sub js σ, H3, I0, tn0, fun b hb => (f3 b hb).1, w0⟩
    obtain ⟨i, σ4, H4, I4, st4, fr4, w4⟩ := hJ
    rcases turn i n σ4 H4 w4 with ⟨stop, q⟩ | ⟨go, N, hN, step⟩
    · refine thn (T.done (cxComp X scope (cellsFrom (s3.heap.objs.size + 1) scope.names cl) s3.heap.objs.size N' s3 H3 fp pins) rfl rfl rfl hc i [] s4 σ4 H4 _ I4 (stat fr4) st4 stop) fun r s5 ⟨hr, I5⟩ => ?_
      subst hr
      have u : Un (frs X.stack) fp H3 H4 s3.heap s5.heap := I5.base
      have free : H4 s3.heap.objs.size = none := I5.free
      have back : Inv X pins σ H4 s5 := by
        refine I3.call' (s' := s5) (ch := s3.heap.objs.size :: fp) I5.os (u.mono (fun _ h => h) fun b h => List.mem_cons_of_mem _ h) I5.hok I5.bare (fun b hb => ?_)
        rcases List.mem_cons.mp hb with rfl | hb
        · exact ⟨hC.2.2.2.1, hC.2.1, hC.2.2.2.2.1, hC.2.2.2.2.2⟩
        · have := f3 b hb
          exact ⟨this.2.2.2.1, this.2.1, this.2.2.2.2.1, this.2.2.2.2.2⟩
      obtain ⟨m, hm, _⟩ := I5.loc
      exact hR s5 H4 m back ⟨free, hC.2⟩ hm q
    · refine thn (T.item (cxComp X scope (cellsFrom (s3.heap.objs.size + 1) scope.names cl) s3.heap.objs.size N' s3 H3 fp pins) rfl rfl rfl hc i [] s4 σ4 H4 _ I4 (stat fr4) st4 go) fun r s5 ⟨u, hr, h5⟩ => ?_
      subst hr
      refine thn h5 fun _ s6 ⟨y, H6, I6, r6, y6, st6, fr6⟩ => ?_
      have I6' := I6.pinned (stat fr6) (T.obj _ _ st6)
      refine thn (bg _ s6 σ4 H6 y u _ I6' r6 (step y H6 y6)) fun _ s7 ⟨σ7, H7, I7, q7⟩ => ?_
      refine thn (bt _ s7 σ7 H7 _ I7 q7) fun b s8 ⟨H8, I8, q8⟩ => ?_
      have again : ∀ {H' : Hp} {s' : Shared}, Inv (cxComp X scope (cellsFrom (s3.heap.objs.size + 1) scope.names cl) s3.heap.objs.size N' s3 H3 fp pins) ([] ++ pinsAt fp s6.heap) σ7 H' s' → N σ7 H' → ∃ m, m < n ∧ ∃ i σ' H', Inv (cxComp X scope (cellsFrom (s3.heap.objs.size + 1) scope.names cl) s3.heap.objs.size N' s3 H3 fp pins) [] σ' H' s' ∧ tn i s'.heap ∧ (∀ b ∈ fp, H' b = none) ∧ W i m σ' H' := fun {H' s'} I9 n9 => by
        obtain ⟨m', hm, w9⟩ := hN σ7 H' n9
        refine ⟨m', hm, i + 1, σ7, H', I9.unpinned, T.keep _ _ _ st6 fun b hb o e => (I9.pin (b, o) (List.mem_append_right _ (List.mem_append_right _ (mem_pinsAt hb e)))).1, fun b hb => ?_, w9⟩
        obtain ⟨o, e, d⟩ := T.obj _ _ st6 b hb
        exact (I9.pin (b, o) (List.mem_append_right _ (List.mem_append_right _ (mem_pinsAt hb e)))).2.1
      cases b with
      | false => exact iteF (again I8 q8)
      | true =>
        refine iteT (thn (be _ s8 σ7 H8 _ I8 q8) fun yv s9 ⟨v9, H9, I9, r9, ys, hD, hl, n9⟩ => ?_)
        exact thn (mt_append _ s9 σ7 H9 (.ref D) [v9] (.ref D) [yv] (fun _ H' => H' = upd H9 D (.lst (ys ++ [v9]))) I9 rfl (.cons r9 .nil) ⟨D, ys, v9, rfl, rfl, hD, hl, rfl⟩) fun _ s10 ⟨_, H10, I10, _, e10⟩ => by
          subst e10
          exact again I10 n9
  exact codeAny_compStart_list loop (T.self _ 0 _ _ _ tn0 loop)
theorem comp_run {RR : Value → Addr → Result → Shared → Prop} {tg : Expr} (hc : X.calm = true) (hclo : closeL X.env.cells scope.names [] = some cl) (hdis : ∀ y ∈ scope.names, y.2 = .free → (y.1, NameKind.cell) ∉ scope.names) (hkind : scope.kind = .function) (cap : Cap X scope N' js)
    (hi : PI X tg iter wi)
    (hb : ∀ B : Blk, PG (cxB X scope cl N' B) tg (gB B) ∧ PTs (cxB X scope cl N' B) ifs (tcB B) ∧ PE (cxB X scope cl N' B) elt (teB B))
    (I : Inv X pins σ H s) (h : tComp wi js gB tcB teB σ H Q)
    (hR : ∀ D C s' H' m, Inv X pins σ H' s' → FpOk X pins H' C → s'.heap.Ns C m → Q (.ref D) H' → RR (.ref D) C (.ok .next) s') :
    wpAny (model X.prog X.w) X.A (eval iter X.env) (fun v s1 => wpAny (model X.prog X.w) X.A (pyIter v) (fun it s2 => wpAny (model X.prog X.w) X.A (newList []) (fun acc s3 =>
      wpAny (model X.prog X.w) X.A (newFunctionEnv scope X.env.globals cl [] X.env.qual none .none (some X.env)) (fun cenv s4 =>
        codeAny (model X.prog X.w) X.A (.compStart (.ListComp elt [⟨tg, iter, ifs, 0⟩] scope pos) 0 it acc { cenv with scope := relabel scope X.env }) (RR acc cenv.locals) s4) X.xe s3) X.xe s2) X.xe s1) X.xe s := by
  refine thn (hi pins s σ H _ I h) fun v s1 h1 => thn h1 fun itv s2 h2 => ?_
  obtain ⟨it, fp, tn, J, H2, e, I2, T, st2, f2, h2⟩ := h2
  subst e
  have hD0 : H2 s2.heap.objs.size = none := I2.hok.fresh (Nat.le_refl _)
  obtain ⟨W, ⟨m0, w0⟩, turn⟩ := h2 ⟨(s2.heap.push { cls := .type "list", data := .seq ([] : List Value).toArray }).objs.size, { s2 with heap := s2.heap.push { cls := .type "list", data := .seq ([] : List Value).toArray } }, upd H2 s2.heap.objs.size (.lst []), fp, pins⟩ s2.heap.objs.size hD0
  refine wpAny_newObj_type (wpAny_newCompEnv (fun h₁ hns₁ hk₁ cok₁ => ?_))
  have I3 : Inv X pins σ (upd H2 s2.heap.objs.size (.lst [])) { s2 with heap := s2.heap.push { cls := .type "list", data := .seq ([] : List Value).toArray } } := I2.lnew .nil (Nat.zero_le _)
  refine comp_block (s3 := { s2 with heap := s2.heap.push { cls := .type "list", data := .seq ([] : List Value).toArray } }) (cl := cl) (fp := fp) hc hclo hdis hkind cap (hb ⟨(s2.heap.push { cls := .type "list", data := .seq ([] : List Value).toArray }).objs.size, { s2 with heap := s2.heap.push { cls := .type "list", data := .seq ([] : List Value).toArray } }, upd H2 s2.heap.objs.size (.lst []), fp, pins⟩) I3 T ?_ (fun b hb => ?_) w0 turn hns₁ hk₁ cok₁ (fun s' H' m => hR _ _ s' H' m)
  · exact T.keep _ _ _ st2 fun b _ o e => Heap.get?_push_of_some _ e
  · have := f2 b hb
    obtain ⟨o, e, _⟩ := T.obj _ _ st2 b hb
    exact ⟨by show upd H2 s2.heap.objs.size (.lst []) b = none; rw [upd_ne (Nat.ne_of_lt (Heap.lt_size e))]; exact this.1, this.2⟩
theorem pe_comp {tg : Expr} (hc : X.calm = true) (hclo : closeL X.env.cells scope.names [] = some cl) (hdis : ∀ y ∈ scope.names, y.2 = .free → (y.1, NameKind.cell) ∉ scope.names) (hkind : scope.kind = .function) (cap : Cap X scope N' js)
    (hnames : ∀ y ∈ scope.names, y.2 = .local → scope.names.lookup y.1 = some .local) (hi : PI X tg iter wi)
    (hb : ∀ B : Blk, PG (cxB X scope cl N' B) tg (gB B) ∧ PTs (cxB X scope cl N' B) ifs (tcB B) ∧ PE (cxB X scope cl N' B) elt (teB B))
    (hs : ∀ v, foldedSetIterable iter X.env v = pure v := by intro _; rfl) : PE X (.ListComp elt [⟨tg, iter, ifs, 0⟩] scope pos) (tComp wi js gB tcB teB) := by
  intro pins s σ H Q I h
  rw [eval_ListComp]
  refine wpAny_comprehension_free (use := none) rfl hs (closureFor_of hclo) hkind hnames (comp_run (RR := fun acc C => compPost (model X.prog X.w) X.A X.xe none (EP X pins σ Q) acc C) hc hclo hdis hkind cap hi hb I h ?_)
  intro D C s' H' m I' f hm q
  exact ⟨m, hm, fun h' hs' => ⟨.ref D, H', I'.but f hs', rfl, q⟩⟩
theorem ps_comp {tg : Expr} {i : Nat} {y : Str} {py spos : Pos} (hN : X.N.Nodup) (hy : X.N[i]? = some y) (hl : X.env.scope.names.lookup y = some .local) (hc : X.calm = true) (hclo : closeL X.env.cells scope.names [] = some cl) (hdis : ∀ y ∈ scope.names, y.2 = .free → (y.1, NameKind.cell) ∉ scope.names) (hkind : scope.kind = .function) (cap : Cap X scope N' js)
    (hnames : ∀ y ∈ scope.names, y.2 = .local → scope.names.lookup y.1 = some .local) (hi : PI X tg iter wi)
    (hb : ∀ B : Blk, PG (cxB X scope cl N' B) tg (gB B) ∧ PTs (cxB X scope cl N' B) ifs (tcB B) ∧ PE (cxB X scope cl N' B) elt (teB B))
    (hsw : swapsWith (.ListComp elt [⟨tg, iter, ifs, 0⟩] scope pos) (some (.Name y py)) spos.line X.env = pure true := by rfl)
    (hs : ∀ v, foldedSetIterable iter X.env v = pure v := by intro _; rfl) : PS X (.Assign [.Name y py] (.ListComp elt [⟨tg, iter, ifs, 0⟩] scope pos) spos) (tAsg (tComp wi js gB tcB teB) (gName i)) := by
  intro pins s σ H D I h
  rw [exec_Assign_Name_used _ _ _ _ hsw]
  refine wpAny_bind (wpAny_standAt (wpAny_bind ?_))
  show wpAny _ X.A (do let _ ← comprehension (.ListComp elt [⟨tg, iter, ifs, 0⟩] scope pos) scope X.env _ (newList []) false (eval iter X.env) (some (assign (.Name y py) X.env))) _ _ s
  refine wpAny_bind (thn (wpAny_comprehension_free (use := some (assign (.Name y py) X.env)) (Q := fun _ s' => SP X pins D .next s') rfl hs (closureFor_of hclo) hkind hnames
    (comp_run (RR := fun acc C => compPost (model X.prog X.w) X.A X.xe (some (assign (.Name y py) X.env)) (fun _ s' => SP X pins D .next s') acc C) hc hclo hdis hkind cap hi hb I h ?_)) fun _ s' q => wpAny_pure (wpAny_pure q))
  intro Dl C s' H' m I' f hm q
  show wpAny _ X.A (assign (.Name y py) X.env (.ref Dl)) _ _ _
  refine wpAny_assign_Name (store_ok2 I' hN hy (.inl hl) (v := .ref Dl) rfl (fun s2 I2 hch => ?_) (.inr hl))
  obtain ⟨a, hsb, ha⟩ := hch
  have hCa : C ≠ a := by
    rcases ha with rfl | ha
    · exact f.2.1
    · exact fun z => f.2.2.2.2.1 y a ha z.symm
  refine ⟨m, hm.sameBut hsb hCa, fun h' hs' => ⟨_, H', I2.but f hs', q⟩⟩
end
end L2
namespace L2
open PySem PySem.Spec PyProof.Rows
def DictAt (e : Addr) (dd : Option Addr) (h : Heap) : Prop := ∃ o, h.get? e = some o ∧ o.dict = dd
theorem DictAt.push {e : Addr} {dd : Option Addr} {h : Heap} {o : Obj} (x : DictAt e dd h) : DictAt e dd (h.push o) := let ⟨u, a, b⟩ := x; ⟨u, Heap.get?_push_of_some _ a, b⟩
theorem DictAt.upd {e a : Addr} {dd : Option Addr} {h : Heap} {f : Obj → Obj} (x : DictAt e dd h) (hf : ∀ o, (f o).dict = o.dict ∧ (f o).isFreed = o.isFreed) : DictAt e dd (h.update a f) := by
  obtain ⟨u, q, b⟩ := x
  by_cases z : a = e
  · subst z
    exact ⟨f u, Heap.get?_update_self f q (by rw [(hf u).2]; exact (Heap.get?_some_iff.mp q).2), by rw [(hf u).1]; exact b⟩
  · exact ⟨u, by rw [Heap.get?_update_other _ _ z]; exact q, b⟩
section
end
end L2
namespace L2
open PySem PySem.Spec PyProof.Rows
section
variable {P : Program} {w : World} {H : Hp} {h : Heap} {a : Addr} {o : HO}
theorem ObjOk.there (x : ObjOk P w H h a o) : ∃ u, h.get? a = some u := by
  cases o with
  | lst xs => obtain ⟨_, _, _, _, e⟩ := x; exact ⟨_, e⟩
  | tup xs => obtain ⟨_, _, _, _, e, _⟩ := x; exact ⟨_, e⟩
  | dK kvs => obtain ⟨_, _, _, _, o, _, _, e, _⟩ := x; exact ⟨_, e⟩
  | dT kvs => obtain ⟨_, _, _, _, o, _, _, e, _⟩ := x; exact ⟨_, e⟩
  | set S n => obtain ⟨o, _, _, _, e, _⟩ := x; exact ⟨_, e⟩
  | ins C dx fs => obtain ⟨_, _, _, e, _⟩ := x; exact ⟨_, e⟩
  | own y => exact x
  | xd fs => obtain ⟨_, ⟨_, _, _, e, _⟩, _⟩ := x; exact ⟨_, e⟩
  | rng lo hi => obtain ⟨_, _, _, e⟩ := x; exact ⟨_, e⟩
  | frz ob u => obtain ⟨e, _⟩ := x; exact ⟨_, e⟩
  | tbl ps => exact ⟨_, show h.get? a = some _ from x⟩
  | met f y => exact ⟨_, show h.get? a = some _ from x⟩
  | ext φ => exact x.2.1
end

structure Cry (X : Cx) (H : Hp) (B : Heap) : Prop where
  old : ∀ b o, X.s₀.heap.get? b = some o → b ∉ X.fs → b ∉ X.ex → ∃ o', B.get? b = some o'
  trk : ∀ b o, H b = some o → ∃ o', B.get? b = some o'
  pin : ∀ p ∈ X.pn, ∃ o', B.get? p.1 = some o'
section
variable {X : Cx} {pins : List (Addr × Obj)} {σ : St} {H H' : Hp} {s s' : Shared} {B h' : Heap}
end

def Ph (B : Heap) (l : List Env) (L ea C : Addr) (h : Heap) : Prop :=
  (∃ a0, Heap.FlyingW B l ea (.ref C) a0 h) ∨ (∃ a0, Heap.HeldW B l ea (.ref C) a0 L h) ∨
  (B.StaysIn h ∧ B.get? ea = none ∧ h.FunFrames B l ∧ ∃ oe vs a0, h.get? ea = some oe ∧ oe.cls = .ref C ∧ oe.data = .fields vs ∧ vs[1]? = some .none ∧ vs[0]? = some a0)
theorem Ph.stays {B h : Heap} {l : List Env} {L ea C : Addr} (x : Ph B l L ea C h) : B.StaysIn h := by
  rcases x with ⟨_, x⟩ | ⟨_, x⟩ | x
  · exact x.1
  · exact x.1
  · exact x.1
theorem Ph.new {B h : Heap} {l : List Env} {L ea C : Addr} (x : Ph B l L ea C h) : B.get? ea = none := by
  rcases x with ⟨_, x⟩ | ⟨_, x⟩ | x
  · exact x.2.1
  · exact x.2.1
  · exact x.2.1
theorem Ph.frames {B h : Heap} {l : List Env} {L ea C : Addr} (x : Ph B l L ea C h) : h.FunFrames B l := by
  rcases x with ⟨_, x⟩ | ⟨_, x⟩ | x
  · exact x.2.2.1
  · exact x.2.2.1
  · exact x.2.2.1

def XF (X : Cx) (W : St → XK) (e : Value) (s' : Shared) : Prop :=
  ∃ ea C dd B σ H, e = .ref ea ∧ (Ph B X.stack X.env.locals ea C s'.heap ∧ DictAt ea dd s'.heap) ∧ Cry X H B ∧ Inv X [] σ H s' ∧ W σ (.ref C) dd H
section
variable {X : Cx} {pins : List (Addr × Obj)} {σ : St} {H H' : Hp} {s s' : Shared} {B h' : Heap} {W : St → XK} {e : Value}
theorem XF.mono {W' : St → XK} (x : XF X W e s') (k : ∀ σ C dd H, W σ C dd H → W' σ C dd H) : XF X W' e s' :=
  let ⟨ea, C, dd, B, σ, H, a, b, c, d, f⟩ := x; ⟨ea, C, dd, B, σ, H, a, b, c, d, k _ _ _ _ f⟩
end
end L2
namespace L2
open PySem PySem.Spec PyProof.Rows
section
variable {X : Cx} {pins : List (Addr × Obj)} {σ : St} {H H' : Hp} {s s' : Shared} {B h' : Heap} {W : St → XK} {e : Value}
end

section
variable {X : Cx} {k : Nat} {f C : Addr} {fd : FuncData} {ps : List Str} {sp : Sp} {dvs : List V} {ds : List Value} {W : St → XK} {x m : Str} {p pos apos : Pos} {e o : Expr} {es : List Expr} {ta : TE} {t : TA}
end

structure Exc (K : PySem.W.Frag) (C : Addr) : Prop where
  q : PySem.W.excIn K C [.type "ValueError", .type "Exception", .type "BaseException", .type "object"] "ValueError.__new__" = true
section
variable {X : Cx} {W : St → XK} {C : Addr} {x : Str} {np cpos pos : Pos} {e : Expr} {es : List Expr} {t : TA}
end
end L2
namespace L2
open PySem PySem.Spec PyProof.Rows
abbrev Cx.pinned (X : Cx) (l : List (Addr × Obj)) : Cx := { X with pn := l }
abbrev Cx.caught (X : Cx) (ea : Addr) : Cx := { X with A := X.A.mark (some (.ref ea)), calm := false, xe := fun _ _ => False }
def excA (C : Addr) (dd : Option Addr) (ea : Addr) : HO := .ext fun h => ∃ o, h.get? ea = some o ∧ o.cls = .ref C ∧ o.dict = dd ∧ ∃ vs, o.data = .fields vs
abbrev excO (C ea : Addr) : HO := excA C none ea
section
variable {X : Cx} {pins : List (Addr × Obj)} {σ : St} {H H' : Hp} {s s' : Shared} {B h' : Heap} {W : St → XK} {e : Value}
theorem Cx.Ok.pinned {l : List (Addr × Obj)} (ok : X.Ok) : (X.pinned l).Ok :=
  ⟨ok.mod, ok.kind, ok.glob, ok.blt, ok.above, ok.inj, ok.has, ok.cab, ok.hd, ok.frames, ok.stk, ok.exf, ok.bs, ok.bsz, ok.noex, ok.exfs, ok.funs, ok.frf⟩
theorem Cx.Ok.unpinned {l : List (Addr × Obj)} (ok : (X.pinned l).Ok) : X.Ok :=
  ⟨ok.mod, ok.kind, ok.glob, ok.blt, ok.above, ok.inj, ok.has, ok.cab, ok.hd, ok.frames, ok.stk, ok.exf, ok.bs, ok.bsz, ok.noex, ok.exfs, ok.funs, ok.frf⟩
theorem Inv.caught {ea : Addr} (I : Inv X pins σ H s) : Inv (X.caught ea) pins σ H s :=
  ⟨⟨I.ok.mod, I.ok.kind, I.ok.glob, I.ok.blt, I.ok.above, I.ok.inj, I.ok.has, I.ok.cab, fun z => (by cases z), I.ok.frames, I.ok.stk, I.ok.exf, I.ok.bs, I.ok.bsz, I.ok.noex, I.ok.exfs, I.ok.funs, I.ok.frf⟩, I.os, I.bare, I.base, I.loc, I.cell, I.free, I.freeC, I.pin, I.hok, I.len⟩
end

section
variable {X : Cx} {body suite : List Stmt} {b0 : Stmt} {n x : Str} {np hpos pos : Pos} {C0 : Addr} {i : Nat} {Wo : St → XK}
end
end L2
namespace L2
open PySem PySem.Spec PyProof.Rows
open PySem.W (Looks)
structure ExK (K : PySem.W.Frag) (D : Addr) : Prop where
  ga : PySem.W.findIn K (.ref D) "__getattribute__" = some (some (.builtin "BaseException.__getattribute__"))
  gt : PySem.W.findIn K (.ref D) "__getattr__" = some none
  sub : PySem.W.subIn K (.ref D) (.type "BaseException") = some true
  ha : PySem.W.findIn K (.ref D) "__class__" = some (some (.builtin "object.__class__"))
  hn : PySem.W.specialIn K (.builtin "object.__class__") "__get__" = some (some (.builtin "getset_descriptor.__get__"))
  htk : PySem.W.takesIn K (.builtin "object.__class__") = some true
  mro : PySem.W.mroIn K D (.type "object") = some true
  cls : (PySem.W.clsIn K D).isSome = true
def IsOf (x D : Addr) (h : Heap) : Prop := ∃ o, h.get? x = some o ∧ o.cls = .ref D
theorem IsOf.type {x D : Addr} {h : Heap} {M : Model} (I : IsOf x D h) : Looks M h (typeOf (.ref x)) (.ref D) := by
  obtain ⟨o, e, c⟩ := I
  exact c ▸ (PySem.W.Looks.ld e).andThen .now
section
variable {prog : Program} {w : World} {A : Around} {E : Value → Shared → Prop} {s : Shared} {K : PySem.W.Frag} {x D : Addr}
open PySem.W PySem.Calls Builtin Builtin.ObjectAttr Builtin.Getset_descriptor in
end
end L2
namespace L2
open PySem PySem.Spec PyProof.Rows
open PySem.W (Looks)
def onlyExc : List Value → Bool
  | .ref _ :: r => onlyExc r
  | l => l == [.type "ValueError", .type "Exception", .type "BaseException", .type "object"]
def excOver (K : PySem.W.Frag) (C : Addr) : Bool := (PySem.W.clsIn K C).any fun cd => onlyExc cd.mro

section
variable {prog : Program} {w : World} {A : Around} {E : Value → Shared → Prop} {s : Shared} {K : PySem.W.Frag} {x dx C : Addr} {mA : Str → Option Value} {name : Str} {v : Value}
open PySem.W in
end

structure ExA (K : PySem.W.Frag) (C : Addr) : Prop extends ExK K C where
  sa : PySem.W.findIn K (.ref C) "__setattr__" = some (some (.builtin "object.__setattr__"))
  ov : excOver K C = true
  hd : PySem.W.hasDictIn K C = true
def exD (fs : List (Str × V)) (dx : Addr) : HO := .ext fun h => ∃ mA, h.Ns1 dx mA ∧ (∀ f, RelO (fs.lookup f) (mA f)) ∧ PySem.Within mA (fs.map (·.1)) ∧ fs.length ≤ 1000
section
variable {X : Cx} {pins : List (Addr × Obj)} {σ : St} {H : Hp} {s : Shared} {a C dx : Addr} {fs : List (Str × V)} {f : Str} {v : V} {A : Around} {E : Value → Shared → Prop}
end
section
variable {X : Cx} {o e value : Expr} {f : Str} {pos pos' tpos : Pos} {ta tv : TE}
end

def excInI (K : PySem.W.Frag) (C fI : Addr) (bmB : List Value) (newId : String) : Bool := match K.lookup C with
  | some ⟨.type "type", _, .cls cd, sl⟩ => (match cd.mro, sl.toList with
    | .ref C' :: bm, [_, _, _, _, some (.builtin n), _] => C' == C && n == newId && !cd.hasDel && PySem.W.tailIn K bmB bm && PySem.W.nsOkIn K cd.ns && PySem.W.nsIn K cd.ns "__init__" == some (some (.ref fI))
    | _, _ => false)
  | _ => false
structure ExcI (K : PySem.W.Frag) (C fI : Addr) : Prop extends ExA K C where
  q : excInI K C fI [.type "ValueError", .type "Exception", .type "BaseException", .type "object"] "ValueError.__new__" = true
  fi : PySem.W.findIn K (.ref C) "__init__" = some (some (.ref fI))
  fn : PySem.W.typeIn K (.ref fI) = some (.type "function")
  kp : PySem.W.keepIn K (.ref C) = true
section
variable {K : PySem.W.Frag} {C fI : Addr}
section
variable {prog : Program} {w : World} {A : Around} {E : Value → Shared → Prop} {s : Shared}
end
end
end L2
namespace L2
open PySem PySem.Spec PyProof.Rows
section
variable {X : Cx} {pins : List (Addr × Obj)} {σ : St} {H G : Hp} {s s' : Shared} {a : Addr} {W : St → XK}
end
section
variable {X : Cx} {W : St → XK} {k : Nat} {C f : Addr} {fd : FuncData} {ps : List Str} {a1 a2 x : Str} {np cpos pos : Pos} {e : Expr} {es : List Expr} {t : TA}
end
end L2
namespace DL
open PySem PySem.Spec L2
open PyProof.Rows hiding St
inductive D where
  | non | bl (b : Bool) | int (i : Int) | str (x : Str) | ty (n : String) | tup (ds : List D) | lst (ds : List D)
  | dK (ks : List Key) (ds : List D) | dT (ks : List (List Key)) (ds : List D) | pen | exc (C : Addr) | cls (C : Addr) | exa (C : Addr) (fs : List (Str × V))
inductive O where
  | val (d : D) | lst (os : List O) | dct (ks : List (List Key)) (os : List O) | tup (os : List O) | dck (ks : List Key) (os : List O)
inductive Sl where
  | nil | val (d : D) | own (ds : List D) | obj (o : O) | pin (v : V) (d : D)
section
variable (K : PySem.W.Frag) (pp : Option Addr) (M : List Addr) (H : Hp)
mutual
def Rep : D → V → Prop
  | .non, v => v = .non
  | .bl b, v => v = .bl b
  | .int i, v => v = .int i
  | .str x, v => v = .str x
  | .ty n, v => v = .ty n
  | .tup ds, v => ∃ a xs, v = .ref a ∧ H a = some (.tup xs) ∧ Reps ds xs
  | .lst ds, v => ∃ a xs, v = .ref a ∧ a ∉ M ∧ pp ≠ some a ∧ H a = some (.lst xs) ∧ Reps ds xs
  | .dK ks ds, v => ∃ a kvs, v = .ref a ∧ a ∉ M ∧ pp ≠ some a ∧ H a = some (.dK kvs) ∧ kvs.map (·.1) = ks ∧ Reps ds (kvs.map (·.2))
  | .dT ks ds, v => ∃ a kvs, v = .ref a ∧ a ∉ M ∧ pp ≠ some a ∧ H a = some (.dT kvs) ∧ kvs.map (·.1) = ks ∧ Reps ds (kvs.map (·.2))
  | .pen, v => ∃ p, v = .ref p ∧ pp = some p ∧ ∃ a ns t l, Pen K H p a ns t l
  | .exc C, v => ∃ a, v = .ref a ∧ a ∉ M ∧ pp ≠ some a ∧ H a = some (excO C a)
  | .cls C, v => v = .ref C
  | .exa C fs, v => ∃ a dx, v = .ref a ∧ a ∉ M ∧ pp ≠ some a ∧ H a = some (excA C (some dx) a) ∧ dx ∉ M ∧ pp ≠ some dx ∧ H dx = some (exD fs dx)
def Reps : List D → List V → Prop
  | [], xs => xs = []
  | d :: ds, xs => ∃ x r, xs = x :: r ∧ Rep d x ∧ Reps ds r
end
end
section
variable {K : PySem.W.Frag} {pp : Option Addr} {M M' M'' : List Addr} {H H' H'' : Hp}
class TB where
  tb : List (Addr × Str)
instance (priority := low) TB.none : TB := ⟨[]⟩
def Tabs [TB] (H : Hp) : Prop := ∀ P ql, TB.tb.lookup P = some ql → ∃ ps, H P = some (.tbl ps) ∧ TriplesOk ps.toList ∧
  ∀ pos cv, codeAmong pos ps.toList = some cv → ∃ c oc u vs t, cv = .ref c ∧ H c = some (.frz oc u) ∧ oc.data = .fields vs ∧ vs[1]? = some (.str ql t)
def TF (o : HO) : Prop := (∃ ps, o = .tbl ps) ∨ ∃ ob u, o = .frz ob u
theorem Tabs.of [TB] {H H' : Hp} (h : Tabs H) (k : ∀ b o, H b = some o → TF o → H' b = some o) : Tabs H' := fun P ql hq =>
  let ⟨ps, e1, e2, e3⟩ := h P ql hq
  ⟨ps, k _ _ e1 (.inl ⟨_, rfl⟩), e2, fun pos cv e => let ⟨c, oc, u, vs, t, f1, f2, f3⟩ := e3 pos cv e; ⟨c, oc, u, vs, t, f1, k _ _ f2 (.inr ⟨_, _, rfl⟩), f3⟩⟩
theorem Tabs.upd [TB] {H : Hp} {l : Addr} {o o' : HO} (h : Tabs H) (hl : H l = some o) (ht : ¬ TF o) : Tabs (upd H l o') :=
  h.of fun b x e tf => by
    rw [upd_ne]
    · exact e
    · rintro rfl
      rw [hl] at e; cases e
      exact ht tf
theorem Tabs.new [TB] {H : Hp} {l : Addr} {o' : HO} (h : Tabs H) (hl : H l = none) : Tabs (L2.upd H l o') :=
  h.of fun b x e _ => upd_old hl e
theorem ntf_lst {xs : List V} : ¬ TF (.lst xs) := by rintro (⟨_, e⟩ | ⟨_, _, e⟩) <;> cases e
def NT (o : HO) : Prop := ∀ ps, o ≠ .tbl ps
def NP (pp : Option Addr) (a : Addr) (o : HO) : Prop := pp ≠ some a ∧ NT o
theorem np {pp : Option Addr} {a : Addr} {o : HO} (h : pp ≠ some a) (t : NT o := by intro _ z; cases z) : NP pp a o := ⟨h, t⟩
structure Mv [TB] (K : PySem.W.Frag) (pp : Option Addr) (M : List Addr) (H : Hp) (M' : List Addr) (H' : Hp) : Prop where
  tup : ∀ a xs, H a = some (.tup xs) → H' a = some (.tup xs)
  oth : ∀ a o, H a = some o → a ∉ M → NP pp a o → H' a = some o ∧ a ∉ M'
  pen : ∀ p, pp = some p → (∃ a ns t l, Pen K H p a ns t l) → ∃ a ns t l, Pen K H' p a ns t l
  tb : Tabs H → Tabs H'
variable [TB]
theorem Mv.lst (m : Mv K pp M H M' H') (a : Addr) (xs : List V) (h : H a = some (.lst xs)) (n : a ∉ M) (q : pp ≠ some a) : H' a = some (.lst xs) ∧ a ∉ M' := m.oth a _ h n (np q)
theorem Mv.refl : Mv K pp M H M H := ⟨fun _ _ h => h, fun _ _ h n _ => ⟨h, n⟩, fun _ _ h => h, fun h => h⟩
theorem Mv.trans (x : Mv K pp M H M' H') (y : Mv K pp M' H' M'' H'') : Mv K pp M H M'' H'' :=
  ⟨fun a xs h => y.tup a xs (x.tup a xs h), fun a xs h n q => y.oth a xs (x.oth a xs h n q).1 (x.oth a xs h n q).2 q, fun p e h => y.pen p e (x.pen p e h), fun h => y.tb (x.tb h)⟩
mutual
theorem Rep.mv (m : Mv K pp M H M' H') : ∀ (d : D) (v : V), Rep K pp M H d v → Rep K pp M' H' d v
  | .non, _, h => by simp only [Rep] at h ⊢; exact h
  | .bl _, _, h => by simp only [Rep] at h ⊢; exact h
  | .int _, _, h => by simp only [Rep] at h ⊢; exact h
  | .str _, _, h => by simp only [Rep] at h ⊢; exact h
  | .ty _, _, h => by simp only [Rep] at h ⊢; exact h
  | .tup ds, _, h => by
    simp only [Rep] at h ⊢
    obtain ⟨a, xs, e, h1, h2⟩ := h
    exact ⟨a, xs, e, m.tup a xs h1, Reps.mv m ds xs h2⟩
  | .lst ds, _, h => by
    simp only [Rep] at h ⊢
    obtain ⟨a, xs, e, h0, hp, h1, h2⟩ := h
    exact ⟨a, xs, e, (m.lst a xs h1 h0 hp).2, hp, (m.lst a xs h1 h0 hp).1, Reps.mv m ds xs h2⟩
  | .dK ks ds, _, h => by
    simp only [Rep] at h ⊢
    obtain ⟨a, xs, e, h0, hp, h1, h2, h3⟩ := h
    exact ⟨a, xs, e, (m.oth a _ h1 h0 (np hp)).2, hp, (m.oth a _ h1 h0 (np hp)).1, h2, Reps.mv m ds _ h3⟩
  | .dT ks ds, _, h => by
    simp only [Rep] at h ⊢
    obtain ⟨a, xs, e, h0, hp, h1, h2, h3⟩ := h
    exact ⟨a, xs, e, (m.oth a _ h1 h0 (np hp)).2, hp, (m.oth a _ h1 h0 (np hp)).1, h2, Reps.mv m ds _ h3⟩
  | .pen, _, h => by
    simp only [Rep] at h ⊢
    obtain ⟨p, e, e2, h⟩ := h
    exact ⟨p, e, e2, m.pen p e2 h⟩
  | .exc C, _, h => by
    simp only [Rep] at h ⊢
    obtain ⟨a, e, h0, hp, h1⟩ := h
    exact ⟨a, e, (m.oth a _ h1 h0 (np hp)).2, hp, (m.oth a _ h1 h0 (np hp)).1⟩
  | .cls _, _, h => by simp only [Rep] at h ⊢; exact h
  | .exa C fs, _, h => by
    simp only [Rep] at h ⊢
    obtain ⟨a, dx, e, h0, hp, h1, h2, h3, h4⟩ := h
    exact ⟨a, dx, e, (m.oth a _ h1 h0 (np hp)).2, hp, (m.oth a _ h1 h0 (np hp)).1, (m.oth dx _ h4 h2 (np h3)).2, h3, (m.oth dx _ h4 h2 (np h3)).1⟩
theorem Reps.mv (m : Mv K pp M H M' H') : ∀ (ds : List D) (xs : List V), Reps K pp M H ds xs → Reps K pp M' H' ds xs
  | [], _, h => by simp only [Reps] at h ⊢; exact h
  | d :: ds, _, h => by
    simp only [Reps] at h ⊢
    obtain ⟨x, r, e, h1, h2⟩ := h
    exact ⟨x, r, e, Rep.mv m d x h1, Reps.mv m ds r h2⟩
end
theorem Reps.length : ∀ {ds : List D} {xs : List V}, Reps K pp M H ds xs → ds.length = xs.length
  | [], _, h => by simp only [Reps] at h; subst h; rfl
  | _ :: _, _, h => by
    simp only [Reps] at h
    obtain ⟨x, r, rfl, _, h2⟩ := h
    simp [Reps.length h2]
theorem Reps.get : ∀ {ds : List D} {xs : List V} {i : Nat} {x : V}, Reps K pp M H ds xs → xs[i]? = some x → ∃ d, ds[i]? = some d ∧ Rep K pp M H d x
  | [], _, _, _, h, e => by simp only [Reps] at h; subst h; simp at e
  | d :: ds, _, 0, x, h, e => by
    simp only [Reps] at h
    obtain ⟨y, r, rfl, h1, h2⟩ := h
    simp at e; subst e
    exact ⟨d, rfl, h1⟩
  | d :: ds, _, i + 1, x, h, e => by
    simp only [Reps] at h
    obtain ⟨y, r, rfl, h1, h2⟩ := h
    obtain ⟨d', e1, e2⟩ := Reps.get (i := i) h2 (by simpa using e)
    exact ⟨d', by simpa using e1, e2⟩
theorem Reps.get' : ∀ {ds : List D} {xs : List V} {i : Nat} {d : D}, Reps K pp M H ds xs → ds[i]? = some d → ∃ x, xs[i]? = some x ∧ Rep K pp M H d x
  | [], _, _, _, h, e => by simp at e
  | d :: ds, _, 0, x, h, e => by
    simp only [Reps] at h
    obtain ⟨y, r, rfl, h1, h2⟩ := h
    simp at e; subst e
    exact ⟨y, rfl, h1⟩
  | d :: ds, _, i + 1, x, h, e => by
    simp only [Reps] at h
    obtain ⟨y, r, rfl, h1, h2⟩ := h
    obtain ⟨d', e1, e2⟩ := Reps.get' (i := i) h2 (by simpa using e)
    exact ⟨d', by simpa using e1, e2⟩
theorem Reps.append : ∀ {ds es : List D} {xs ys : List V}, Reps K pp M H ds xs → Reps K pp M H es ys → Reps K pp M H (ds ++ es) (xs ++ ys)
  | [], _, _, _, h, q => by simp only [Reps] at h; subst h; exact q
  | d :: ds, _, _, _, h, q => by
    simp only [Reps] at h
    obtain ⟨y, r, rfl, h1, h2⟩ := h
    simp only [List.cons_append, Reps]
    exact ⟨y, _, rfl, h1, Reps.append h2 q⟩
theorem Reps.drop : ∀ {ds : List D} {xs : List V} (n : Nat), Reps K pp M H ds xs → Reps K pp M H (ds.drop n) (xs.drop n)
  | _, _, 0, h => h
  | [], _, n + 1, h => by simp only [Reps] at h; subst h; simp [Reps]
  | d :: ds, _, n + 1, h => by
    simp only [Reps] at h
    obtain ⟨y, r, rfl, h1, h2⟩ := h
    exact Reps.drop n h2
theorem Reps.take : ∀ {ds : List D} {xs : List V} (n : Nat), Reps K pp M H ds xs → Reps K pp M H (ds.take n) (xs.take n)
  | _, _, 0, h => by simp [Reps]
  | [], _, n + 1, h => by simp only [Reps] at h; subst h; simp [Reps]
  | d :: ds, _, n + 1, h => by
    simp only [Reps] at h
    obtain ⟨y, r, rfl, h1, h2⟩ := h
    simp only [List.take_succ_cons, Reps]
    exact ⟨y, _, rfl, h1, Reps.take n h2⟩
theorem Reps.set {d : D} {x : V} (hd : Rep K pp M H d x) : ∀ {ds : List D} {xs : List V} (n : Nat), Reps K pp M H ds xs → Reps K pp M H (ds.set n d) (xs.set n x)
  | [], _, n, h => by simp only [Reps] at h; subst h; simp [Reps]
  | e :: ds, _, 0, h => by
    simp only [Reps] at h
    obtain ⟨y, r, rfl, h1, h2⟩ := h
    simp only [List.set_cons_zero, Reps]
    exact ⟨x, r, rfl, hd, h2⟩
  | e :: ds, _, n + 1, h => by
    simp only [Reps] at h
    obtain ⟨y, r, rfl, h1, h2⟩ := h
    simp only [List.set_cons_succ, Reps]
    exact ⟨y, _, rfl, h1, Reps.set hd n h2⟩
theorem Reps.one {d : D} {x : V} (h : Rep K pp M H d x) : Reps K pp M H [d] [x] := by simp only [Reps]; exact ⟨x, [], rfl, h, rfl⟩
theorem Reps.nil : Reps K pp M H [] [] := by simp only [Reps]
theorem Reps.cons {d : D} {x : V} {ds : List D} {xs : List V} (h : Rep K pp M H d x) (q : Reps K pp M H ds xs) : Reps K pp M H (d :: ds) (x :: xs) := by simp only [Reps]; exact ⟨x, xs, rfl, h, q⟩

def NW (pp : Option Addr) (b : Addr) (o : HO) : Prop := (pp = some b → ∀ xs, o ≠ .lst xs) ∧ NT o
theorem nw {pp : Option Addr} {b : Addr} {o : HO} (h : pp ≠ some b) (t : NT o := by intro _ z; cases z) : NW pp b o := ⟨fun z => absurd z h, t⟩
structure SameQ (K : PySem.W.Frag) (pp : Option Addr) (H H' : Hp) : Prop where
  keep : ∀ b o, H b = some o → NW pp b o → H' b = some o
  pen : ∀ p, pp = some p → (∃ a ns t l, Pen K H p a ns t l) → ∃ a ns t l, Pen K H' p a ns t l
  live : ∀ b, H b ≠ none → H' b ≠ none
structure SameP (K : PySem.W.Frag) (pp : Option Addr) (H H' : Hp) : Prop extends SameQ K pp H H' where
  tb : Tabs H → Tabs H'
theorem SameQ.refl : SameQ K pp H H := ⟨fun _ _ h _ => h, fun _ _ h => h, fun _ h => h⟩
theorem SameP.refl : SameP K pp H H := ⟨.refl, fun h => h⟩
theorem SameQ.trans (x : SameQ K pp H H') (y : SameQ K pp H' H'') : SameQ K pp H H'' :=
  ⟨fun b o h n => y.keep b o (x.keep b o h n) n, fun p e h => y.pen p e (x.pen p e h), fun b h => y.live b (x.live b h)⟩
theorem SameP.trans (x : SameP K pp H H') (y : SameP K pp H' H'') : SameP K pp H H'' := ⟨x.toSameQ.trans y.toSameQ, fun h => y.tb (x.tb h)⟩
theorem SameP.of (s : Same H H') : SameP K pp H H' := ⟨⟨fun b o h _ => s b o h, fun _ _ ⟨a, ns, t, l, h⟩ => ⟨a, ns, t, l, h.same s⟩, fun b h e => by
  cases q : H b with
  | none => exact h q
  | some o => rw [s b o q] at e; cases e⟩, fun h => h.of fun b o e _ => s b o e⟩
theorem SameP.new {l : Addr} {o : HO} (h : H l = none) : SameP K pp H (upd H l o) := .of (same_new h)
theorem SameP.mv (s : SameP K pp H H') : Mv K pp M H M H' :=
  ⟨fun a xs h => s.keep a _ h ⟨fun _ _ z => (by cases z), fun _ z => (by cases z)⟩, fun a xs h n q => ⟨s.keep a _ h ⟨fun z => absurd z q.1, q.2⟩, n⟩, s.pen, s.tb⟩
theorem Mv.new {l : Addr} {o : HO} (h : H l = none) : Mv K pp M H M (upd H l o) := (SameP.new h).mv
theorem Mv.newOwn {l : Addr} {o : HO} (h : H l = none) : Mv K pp M H (l :: M) (upd H l o) :=
  ⟨fun a xs e => upd_old h e, fun a xs e n q => ⟨upd_old h e, by
    intro z
    rcases List.mem_cons.mp z with rfl | z
    · rw [h] at e; cases e
    · exact n z⟩, (SameP.new h).pen, fun t => t.new h⟩
theorem Mv.less {l : List Addr} (h : ∀ a ∈ l, a ∈ M) : Mv K pp M H l H := ⟨fun _ _ h => h, fun a xs e n _ => ⟨e, fun z => n (h a z)⟩, fun _ _ h => h, fun h => h⟩
theorem pen_upd {p l : Addr} {xs ys : List V} (hl : H l = some (.lst xs)) (hp : p ≠ l) : (∃ a ns t k, Pen K H p a ns t k) → ∃ a ns t k, Pen K (upd H l (.lst ys)) p a ns t k := by
  rintro ⟨a, ns, t, k, h⟩
  refine ⟨a, ns, t, k, ?_, ?_, h.t0⟩
  · rw [upd_ne hp]; exact h.lst
  · rcases h.scr with ⟨o, e⟩ | e
    · refine .inl ⟨o, ?_⟩
      rw [upd_ne (ne_of e hl (by intro z; cases z))]; exact e
    · exact .inr e
theorem Mv.write {l : Addr} {xs ys : List V} (hl : H l = some (.lst xs)) (hm : l ∈ M) (hp : pp ≠ some l) : Mv K pp M H M (upd H l (.lst ys)) :=
  ⟨fun a zs e => by rw [upd_ne (ne_of e hl (by intro z; cases z))]; exact e,
   fun a zs e n q => ⟨by rw [upd_ne (by rintro rfl; exact n hm)]; exact e, n⟩,
   fun p e h => pen_upd hl (by rintro rfl; exact hp e) h, fun t => t.upd hl ntf_lst⟩
end

section
variable (K : PySem.W.Frag) (pp : Option Addr) (M : List Addr) (H : Hp)
mutual
def RO : O → V → List Addr → Prop
  | .val d, v, A => A = [] ∧ Rep K pp M H d v
  | .lst os, v, A => ∃ a xs B, v = .ref a ∧ H a = some (.lst xs) ∧ A = a :: B ∧ ROs os xs B
  | .dct ks os, v, A => ∃ a kvs B, v = .ref a ∧ H a = some (.dT kvs) ∧ kvs.map (·.1) = ks ∧ A = a :: B ∧ ROs os (kvs.map (·.2)) B
  | .tup os, v, A => ∃ a xs, v = .ref a ∧ H a = some (.tup xs) ∧ ROs os xs A
  | .dck ks os, v, A => ∃ a kvs B, v = .ref a ∧ H a = some (.dK kvs) ∧ kvs.map (·.1) = ks ∧ A = a :: B ∧ ROs os (kvs.map (·.2)) B
def ROs : List O → List V → List Addr → Prop
  | [], xs, A => xs = [] ∧ A = []
  | o :: os, xs, A => ∃ x r B C, xs = x :: r ∧ A = B ++ C ∧ RO o x B ∧ ROs os r C
end
end
section
variable {K : PySem.W.Frag} {pp : Option Addr} {M M' : List Addr} {H H' : Hp} [TB]
mutual
theorem RO.mv (m : Mv K pp M H M' H') : ∀ (q : O) (v : V) (A : List Addr), (∀ a ∈ A, ∀ o, H a = some o → NT o → H' a = some o) → RO K pp M H q v A → RO K pp M' H' q v A
  | .val d, v, A, _, h => by
    simp only [RO] at h ⊢
    exact ⟨h.1, Rep.mv m d v h.2⟩
  | .lst os, v, A, k, h => by
    simp only [RO] at h ⊢
    obtain ⟨a, xs, B, e, ha, rfl, r⟩ := h
    exact ⟨a, xs, B, e, k a List.mem_cons_self _ ha (by intro _ z; cases z), rfl, ROs.mv m os xs B (fun b hb => k b (List.mem_cons_of_mem _ hb)) r⟩
  | .dct ks os, v, A, k, h => by
    simp only [RO] at h ⊢
    obtain ⟨a, kvs, B, e, ha, e2, rfl, r⟩ := h
    exact ⟨a, kvs, B, e, k a List.mem_cons_self _ ha (by intro _ z; cases z), e2, rfl, ROs.mv m os _ B (fun b hb => k b (List.mem_cons_of_mem _ hb)) r⟩
  | .tup os, v, A, k, h => by
    simp only [RO] at h ⊢
    obtain ⟨a, xs, e, ha, r⟩ := h
    exact ⟨a, xs, e, m.tup a xs ha, ROs.mv m os xs A k r⟩
  | .dck ks os, v, A, k, h => by
    simp only [RO] at h ⊢
    obtain ⟨a, kvs, B, e, ha, e2, rfl, r⟩ := h
    exact ⟨a, kvs, B, e, k a List.mem_cons_self _ ha (by intro _ z; cases z), e2, rfl, ROs.mv m os _ B (fun b hb => k b (List.mem_cons_of_mem _ hb)) r⟩
theorem ROs.mv (m : Mv K pp M H M' H') : ∀ (os : List O) (xs : List V) (A : List Addr), (∀ a ∈ A, ∀ o, H a = some o → NT o → H' a = some o) → ROs K pp M H os xs A → ROs K pp M' H' os xs A
  | [], xs, A, _, h => by simp only [ROs] at h ⊢; exact h
  | o :: os, xs, A, k, h => by
    simp only [ROs] at h ⊢
    obtain ⟨x, r, B, C, e, rfl, h1, h2⟩ := h
    exact ⟨x, r, B, C, e, rfl, RO.mv m o x B (fun b hb => k b (List.mem_append.mpr (.inl hb))) h1, ROs.mv m os r C (fun b hb => k b (List.mem_append.mpr (.inr hb))) h2⟩
end
mutual
def fzO : O → D
  | .val d => d
  | .lst os => .lst (fzOs os)
  | .dct ks os => .dT ks (fzOs os)
  | .tup os => .tup (fzOs os)
  | .dck ks os => .dK ks (fzOs os)
def fzOs : List O → List D
  | [] => []
  | o :: os => fzO o :: fzOs os
end
mutual
theorem RO.fz (m : Mv K pp M H M' H) : ∀ (q : O) (v : V) (A : List Addr), (∀ a ∈ A, a ∉ M' ∧ pp ≠ some a) → RO K pp M H q v A → Rep K pp M' H (fzO q) v
  | .val d, v, A, _, h => by
    simp only [RO] at h
    simp only [fzO]
    exact Rep.mv m d v h.2
  | .lst os, v, A, k, h => by
    simp only [RO] at h
    simp only [fzO, Rep]
    obtain ⟨a, xs, B, e, ha, rfl, r⟩ := h
    exact ⟨a, xs, e, (k a List.mem_cons_self).1, (k a List.mem_cons_self).2, ha, ROs.fz m os xs B (fun b hb => k b (List.mem_cons_of_mem _ hb)) r⟩
  | .dct ks os, v, A, k, h => by
    simp only [RO] at h
    simp only [fzO, Rep]
    obtain ⟨a, kvs, B, e, ha, e2, rfl, r⟩ := h
    exact ⟨a, kvs, e, (k a List.mem_cons_self).1, (k a List.mem_cons_self).2, ha, e2, ROs.fz m os _ B (fun b hb => k b (List.mem_cons_of_mem _ hb)) r⟩
  | .tup os, v, A, k, h => by
    simp only [RO] at h
    simp only [fzO, Rep]
    obtain ⟨a, xs, e, ha, r⟩ := h
    exact ⟨a, xs, e, ha, ROs.fz m os xs A k r⟩
  | .dck ks os, v, A, k, h => by
    simp only [RO] at h
    simp only [fzO, Rep]
    obtain ⟨a, kvs, B, e, ha, e2, rfl, r⟩ := h
    exact ⟨a, kvs, e, (k a List.mem_cons_self).1, (k a List.mem_cons_self).2, ha, e2, ROs.fz m os _ B (fun b hb => k b (List.mem_cons_of_mem _ hb)) r⟩
theorem ROs.fz (m : Mv K pp M H M' H) : ∀ (os : List O) (xs : List V) (A : List Addr), (∀ a ∈ A, a ∉ M' ∧ pp ≠ some a) → ROs K pp M H os xs A → Reps K pp M' H (fzOs os) xs
  | [], xs, A, _, h => by simp only [ROs] at h; simp only [fzOs, Reps]; exact h.1
  | o :: os, xs, A, k, h => by
    simp only [ROs] at h
    simp only [fzOs, Reps]
    obtain ⟨x, r, B, C, e, rfl, h1, h2⟩ := h
    exact ⟨x, r, e, RO.fz m o x B (fun b hb => k b (List.mem_append.mpr (.inl hb))) h1, ROs.fz m os r C (fun b hb => k b (List.mem_append.mpr (.inr hb))) h2⟩
end
theorem fzOs_map : ∀ os : List O, fzOs os = os.map fzO
  | [] => rfl
  | o :: os => by simp only [fzOs, List.map_cons, fzOs_map os]
end

structure Fx where
  pp : Option Addr
  M0 : List Addr
  H0 : Hp
abbrev DS := List Sl
variable [TB]
class Frm where
  L : PySem.W.Frag → Fx → List Addr → Hp → Prop
  W : DS → Addr → Prop
  cl : ∀ K (F : Fx) M H M' H', L K F M H → Mv K F.pp M H M' H' → L K F M' H'
instance (priority := low) Frm.free : Frm := ⟨fun _ _ _ _ => True, fun _ _ => False, fun _ _ _ _ _ _ h _ => h⟩
variable [Frm]
structure Lv0 (pp : Option Addr) (M : List Addr) (H : Hp) : Prop where
  m : ∀ a ∈ M, H a ≠ none
  p : ∀ p, pp = some p → H p ≠ none
structure Lv (pp : Option Addr) (M : List Addr) (H : Hp) : Prop extends Lv0 pp M H where
  t : Tabs H
theorem Lv0.sameQ {K : PySem.W.Frag} {pp : Option Addr} {M : List Addr} {H H' : Hp} (l : Lv0 pp M H) (s : SameQ K pp H H') : Lv0 pp M H' :=
  ⟨fun a ha => s.live a (l.m a ha), fun p e => s.live p (l.p p e)⟩
theorem Lv.sameP {K : PySem.W.Frag} {pp : Option Addr} {M : List Addr} {H H' : Hp} (l : Lv pp M H) (s : SameP K pp H H') : Lv pp M H' := ⟨l.toLv0.sameQ s.toSameQ, s.tb l.t⟩
theorem Lv0.fresh {pp : Option Addr} {M : List Addr} {H : Hp} {a : Addr} (l : Lv0 pp M H) (h : H a = none) : a ∉ M ∧ pp ≠ some a := ⟨fun z => l.m a z h, fun z => l.p a z h⟩
structure Lk (K : PySem.W.Frag) (F : Fx) (M : List Addr) (H : Hp) : Prop where
  l : Frm.L K F M H
  t : Tabs H
theorem Lk.cl {K : PySem.W.Frag} {F : Fx} {M M' : List Addr} {H H' : Hp} (h : Lk K F M H) (m : Mv K F.pp M H M' H') : Lk K F M' H' := ⟨Frm.cl _ _ _ _ _ _ h.l m, m.tb h.t⟩
section
variable (K : PySem.W.Frag) (F : Fx) (M : List Addr) (H : Hp)
def RSl : Sl → Option V → Prop
  | .nil, _ => True
  | .val d, o => ∃ v, o = some v ∧ Rep K F.pp M H d v
  | .own ds, o => ∃ l xs, o = some (.ref l) ∧ l ∈ M ∧ F.H0 l = none ∧ F.pp ≠ some l ∧ H l = some (.lst xs) ∧ Reps K F.pp M H ds xs
  | .obj _, o => ∃ v, o = some v
  | .pin w d, o => ∃ v, o = some v ∧ v = w ∧ Rep K F.pp M H d v
def Ow : Sl → Option V → List Addr → Prop
  | .own _, o, A => ∃ l, o = some (.ref l) ∧ A = [l]
  | .obj q, o, A => A.Nodup ∧ ∃ v, o = some v ∧ RO K F.pp M H q v A
  | _, _, _ => True
def OwF (σ : St) (ρ : DS) : Prop := ∃ As : Nat → List Addr, (∀ (i : Nat) s o, ρ[i]? = some s → σ[i]? = some o → Ow K F M H s o (As i)) ∧ (∀ i, ∀ a ∈ As i, a ∈ M ∧ F.H0 a = none ∧ F.pp ≠ some a) ∧ ∀ i j, i ≠ j → ∀ a ∈ As i, a ∉ As j
structure RSt (σ : St) (ρ : DS) : Prop where
  len : σ.length = ρ.length
  sl : ∀ (i : Nat) s o, ρ[i]? = some s → σ[i]? = some o → RSl K F M H s o
  ow : OwF K F M H σ ρ
  sub : ∀ a ∈ F.M0, a ∈ M
  same : SameQ K F.pp F.H0 H
  old : ∀ a ∈ F.M0, F.H0 a ≠ none
  liv0 : Lv0 F.pp M H
  lk : Lk K F M H
end
section
variable {K : PySem.W.Frag} {F : Fx} {M M' : List Addr} {H H' : Hp} {σ : St} {ρ : DS}
theorem RSt.liv (r : RSt K F M H σ ρ) : Lv F.pp M H := ⟨r.liv0, r.lk.t⟩
theorem RSt.sameT (r : RSt K F M H σ ρ) : SameP K F.pp F.H0 H := ⟨r.same, fun _ => r.lk.t⟩
omit [Frm] in
theorem Ow.mv {s : Sl} {o : Option V} {A : List Addr} (m : Mv K F.pp M H M' H') (k : ∀ a ∈ A, ∀ x, H a = some x → NT x → H' a = some x) (h : Ow K F M H s o A) : Ow K F M' H' s o A := by
  cases s with
  | nil => trivial
  | val d => trivial
  | pin w d => trivial
  | own ds => exact h
  | obj q =>
    obtain ⟨nd, v, e, h⟩ := h
    exact ⟨nd, v, e, RO.mv m q v A k h⟩
omit [Frm] in
theorem OwF.keep (h : OwF K F M H σ ρ) (m : Mv K F.pp M H M' H') (k : ∀ a, a ∈ M → F.pp ≠ some a → F.H0 a = none → a ∈ M' ∧ ∀ x, H a = some x → NT x → H' a = some x) : OwF K F M' H' σ ρ := by
  obtain ⟨As, h1, h2, h3⟩ := h
  refine ⟨As, fun i s o e1 e2 => (h1 i s o e1 e2).mv m fun a ha => (k a (h2 i a ha).1 (h2 i a ha).2.2 (h2 i a ha).2.1).2, fun i a ha => ⟨(k a (h2 i a ha).1 (h2 i a ha).2.2 (h2 i a ha).2.1).1, (h2 i a ha).2⟩, h3⟩
omit [Frm] in
theorem OwF.step {σ' : St} {ρ' : DS} (h : OwF K F M H σ ρ) (m : Mv K F.pp M H M' H') (i : Nat) (hσ : ∀ j, j ≠ i → σ'[j]? = σ[j]?) (hρ : ∀ j, j ≠ i → ρ'[j]? = ρ[j]?)
    (k : ∀ A, (∀ s o, ρ[i]? = some s → σ[i]? = some o → Ow K F M H s o A) → (∀ a ∈ A, a ∈ M ∧ F.H0 a = none ∧ F.pp ≠ some a) → ∃ B, (∀ s o, ρ'[i]? = some s → σ'[i]? = some o → Ow K F M' H' s o B) ∧
      (∀ b ∈ B, b ∈ M' ∧ F.H0 b = none ∧ F.pp ≠ some b ∧ (b ∈ A ∨ b ∉ M)) ∧ ∀ a, a ∈ M → F.pp ≠ some a → F.H0 a = none → a ∉ A → a ∈ M' ∧ ∀ x, H a = some x → NT x → H' a = some x) : OwF K F M' H' σ' ρ' := by
  obtain ⟨As, h1, h2, h3⟩ := h
  obtain ⟨B, k1, k2, k3⟩ := k (As i) (h1 i) (h2 i)
  have old : ∀ j, j ≠ i → ∀ a ∈ As j, a ∈ M' ∧ ∀ x, H a = some x → NT x → H' a = some x := fun j e a ha => k3 a (h2 j a ha).1 (h2 j a ha).2.2 (h2 j a ha).2.1 (h3 j i e a ha)
  refine ⟨fun j => if j = i then B else As j, fun j s o e1 e2 => ?_, fun j a ha => ?_, fun j l e a ha hb => ?_⟩
  · show Ow K F M' H' s o (if j = i then B else As j)
    by_cases e : j = i
    · subst e
      rw [if_pos rfl]
      exact k1 s o e1 e2
    · rw [if_neg e]
      rw [hρ j e] at e1
      rw [hσ j e] at e2
      exact (h1 j s o e1 e2).mv m fun a ha => (old j e a ha).2
  · replace ha : a ∈ (if j = i then B else As j) := ha
    by_cases e : j = i
    · subst e
      rw [if_pos rfl] at ha
      exact ⟨(k2 a ha).1, (k2 a ha).2.1, (k2 a ha).2.2.1⟩
    · rw [if_neg e] at ha
      exact ⟨(old j e a ha).1, (h2 j a ha).2⟩
  · replace ha : a ∈ (if j = i then B else As j) := ha
    replace hb : a ∈ (if l = i then B else As l) := hb
    by_cases e1 : j = i
    · subst e1
      rw [if_pos rfl] at ha
      rw [if_neg (Ne.symm e)] at hb
      rcases (k2 a ha).2.2.2 with z | z
      · exact h3 j l e a z hb
      · exact z (h2 l a hb).1
    · rw [if_neg e1] at ha
      by_cases e2 : l = i
      · subst e2
        rw [if_pos rfl] at hb
        rcases (k2 a hb).2.2.2 with z | z
        · exact h3 j l e a ha z
        · exact z (h2 j a ha).1
      · rw [if_neg e2] at hb
        exact h3 j l e a ha hb
omit [Frm] in
theorem OwF.none (h : ∀ (i : Nat) s, ρ[i]? = some s → (∀ ds, s ≠ .own ds) ∧ ∀ q, s ≠ .obj q) : OwF K F M H σ ρ := by
  refine ⟨fun _ => [], fun i s o e1 _ => ?_, fun _ _ h => (by simp at h), fun _ _ _ _ h => (by simp at h)⟩
  cases s with
  | nil => trivial
  | val d => trivial
  | pin w d => trivial
  | own ds => exact absurd rfl ((h i _ e1).1 ds)
  | obj q => exact absurd rfl ((h i _ e1).2 q)
theorem RSt.own (r : RSt K F M H σ ρ) (i j : Nat) (ds es : List D) (a : Addr) (h1 : ρ[i]? = some (.own ds)) (h2 : ρ[j]? = some (.own es)) (h3 : σ[i]? = some (some (.ref a))) (h4 : σ[j]? = some (some (.ref a))) : i = j := by
  obtain ⟨As, k1, k2, k3⟩ := r.ow
  obtain ⟨l, e, e2⟩ := k1 i _ _ h1 h3
  cases e
  obtain ⟨l, e, e3⟩ := k1 j _ _ h2 h4
  cases e
  by_cases z : i = j
  · exact z
  · exact absurd (by rw [e3]; simp) (k3 i j z a (by rw [e2]; simp))
omit [Frm] in
theorem SameP.ow (s : SameP K F.pp H H') (a : Addr) (_ : a ∈ M) (p : F.pp ≠ some a) (_ : F.H0 a = none) : a ∈ M ∧ ∀ x, H a = some x → NT x → H' a = some x := ⟨‹_›, fun x e n => s.keep a x e (nw p n)⟩
theorem RSt.sameP (r : RSt K F M H σ ρ) (s : SameP K F.pp H H') : RSt K F M H' σ ρ := by
  refine ⟨r.len, fun i q o h1 h2 => ?_, r.ow.keep s.mv fun a h1 h2 h3 => s.ow a h1 h2 h3, r.sub, r.same.trans s.toSameQ, r.old, r.liv0.sameQ s.toSameQ, r.lk.cl s.mv⟩
  have := r.sl i q o h1 h2
  cases q with
  | nil => trivial
  | val d => obtain ⟨v, e, h⟩ := this; exact ⟨v, e, h.mv s.mv⟩
  | pin w d => obtain ⟨v, e, ew, h⟩ := this; exact ⟨v, e, ew, h.mv s.mv⟩
  | own ds =>
    obtain ⟨l, xs, e, hm, h0, hp, hl, hr⟩ := this
    exact ⟨l, xs, e, hm, h0, hp, s.keep l _ hl (nw hp), hr.mv s.mv⟩
  | obj q => exact this
theorem RSt.at (r : RSt K F M H σ ρ) {i : Nat} {s : Sl} (h : ρ[i]? = some s) : ∃ o, σ[i]? = some o ∧ RSl K F M H s o := by
  have hi : i < σ.length := by rw [r.len]; exact (List.getElem?_eq_some_iff.mp h).1
  exact ⟨σ[i], by simp [hi], r.sl i s _ h (by simp [hi])⟩
omit [Frm] in
theorem OwF.drop {σ' : St} {ρ' : DS} (h : OwF K F M H σ ρ) (i : Nat) (hσ : ∀ j, j ≠ i → σ'[j]? = σ[j]?) (hρ : ∀ j, j ≠ i → ρ'[j]? = ρ[j]?) (hn : ∀ s, ρ'[i]? = some s → (∀ ds, s ≠ .own ds) ∧ ∀ q, s ≠ .obj q) : OwF K F M H σ' ρ' :=
  h.step .refl i hσ hρ fun A _ _ => ⟨[], fun s o e _ => (by
    cases s with
    | nil => trivial
    | val d => trivial
    | pin w d => trivial
    | own ds => exact absurd rfl ((hn _ e).1 ds)
    | obj q => exact absurd rfl ((hn _ e).2 q)), fun _ h => (by simp at h), fun a ha _ _ _ => ⟨ha, fun _ e _ => e⟩⟩
omit [Frm] in
theorem set_self {α : Type} {l : List α} {i : Nat} {x y : α} (h : (l.set i x)[i]? = some y) : y = x := by
  have hi : i < l.length := by have := (List.getElem?_eq_some_iff.mp h).1; simpa using this
  simp [hi] at h
  exact h.symm
theorem RSt.set (r : RSt K F M H σ ρ) {d : D} {v : V} (h : Rep K F.pp M H d v) (i : Nat) : RSt K F M H (σ.set i (some v)) (ρ.set i (.val d)) := by
  refine ⟨by simp [r.len], fun j s o h1 h2 => ?_, r.ow.drop i (fun j e => List.getElem?_set_ne (Ne.symm e)) (fun j e => List.getElem?_set_ne (Ne.symm e)) (fun s e => ?_), r.sub, r.same, r.old, r.liv0, r.lk⟩
  · by_cases e : i = j
    · subst e
      rw [set_self h1, set_self h2]
      exact ⟨v, rfl, h⟩
    · rw [List.getElem?_set_ne e] at h1 h2
      exact r.sl j s o h1 h2
  · rw [set_self e]
    exact ⟨fun ds z => (by cases z), fun q z => (by cases z)⟩
end
end DL
namespace DL
open PySem PySem.Spec L2
open PyProof.Rows hiding St
variable [TB]
variable [Frm]
abbrev DE := DS → (D → DS → Prop) → Prop
abbrev DT := DS → (Bool → DS → Prop) → Prop
abbrev DA := DS → (List D → DS → Prop) → Prop
structure DEnds where
  nx : DS → Prop
  rt : D → Prop
  bk : DS → Prop := fun _ => False
  ct : DS → Prop := fun _ => False
abbrev DTS := DEnds → DS → Prop
def slot : DS → Nat → Sl
  | [], _ => .nil
  | s :: _, 0 => s
  | _ :: r, n + 1 => slot r n
theorem slot_get : ∀ {ρ : DS} {i : Nat} {s : Sl}, slot ρ i = s → s ≠ .nil → ρ[i]? = some s
  | [], _, _, h, n => absurd h.symm n
  | _ :: _, 0, _, h, _ => by subst h; rfl
  | _ :: r, i + 1, s, h, n => by simpa using slot_get (ρ := r) (i := i) h n
section
variable {X : Cx} {F : Fx}
structure PED (X : Cx) (e : Expr) (t : DE) : Prop where
  mono : ∀ ρ P P', (∀ d ρ', P d ρ' → P' d ρ') → t ρ P → t ρ P'
  run : ∃ T : TE, PE X e T ∧ ∀ {F : Fx} M H σ ρ (Q : VK), RSt X.K F M H σ ρ →
    (t ρ fun d ρ' => ∀ M' H' v, Mv X.K F.pp M H M' H' → RSt X.K F M' H' σ ρ' → Rep X.K F.pp M' H' d v → Q v H') → T σ H Q
structure PTD (X : Cx) (e : Expr) (t : DT) : Prop where
  mono : ∀ ρ P P', (∀ b ρ', P b ρ' → P' b ρ') → t ρ P → t ρ P'
  run : ∃ T : TT, PT X e T ∧ ∀ {F : Fx} M H σ ρ (Q : Bool → Hp → Prop), RSt X.K F M H σ ρ →
    (t ρ fun b ρ' => ∀ M' H', Mv X.K F.pp M H M' H' → RSt X.K F M' H' σ ρ' → Q b H') → T σ H Q
structure PWD (X : Cx) (e : Expr) (t : DT) : Prop where
  mono : ∀ ρ P P', (∀ b ρ', P b ρ' → P' b ρ') → t ρ P → t ρ P'
  run : ∃ T : TT, PW X e T ∧ ∀ {F : Fx} M H σ ρ (Q : Bool → Hp → Prop), RSt X.K F M H σ ρ →
    (t ρ fun b ρ' => ∀ M' H', Mv X.K F.pp M H M' H' → RSt X.K F M' H' σ ρ' → Q b H') → T σ H Q
structure PAD (X : Cx) (es : List Expr) (t : DA) : Prop where
  mono : ∀ ρ P P', (∀ d ρ', P d ρ' → P' d ρ') → t ρ P → t ρ P'
  run : ∃ T : TA, PA X es T ∧ ∀ {F : Fx} M H σ ρ (Q : List V → Hp → Prop), RSt X.K F M H σ ρ →
    (t ρ fun ds ρ' => ∀ M' H' vs, Mv X.K F.pp M H M' H' → RSt X.K F M' H' σ ρ' → Reps X.K F.pp M' H' ds vs → Q vs H') → T σ H Q
abbrev dC (d : D) : DE := fun ρ Q => Q d ρ
theorem PED.con {e : Expr} {d : D} {v : V} (h : PE X e (tC v)) (r : ∀ pp M H, Rep X.K pp M H d v) : PED X e (dC d) :=
  ⟨fun _ _ _ f h => f _ _ h, _, h, fun {F} M H _ _ _ rs q => q M H v .refl rs (r _ M H)⟩
theorem de_int {i j pos} : PED X (.Constant (.int i) j pos) (dC (.int i)) := .con pe_int fun _ _ _ => by simp only [Rep]
theorem de_bl {i j pos} : PED X (.Constant (.bool i) j pos) (dC (.bl i)) := .con pe_bl fun _ _ _ => by simp only [Rep]
theorem de_non {j pos} : PED X (.Constant .none j pos) (dC .non) := .con pe_non fun _ _ _ => by simp only [Rep]
theorem de_ty {x : Str} {n : String} {pos : Pos} (hg : Gl X x) (hm : X.mg x = none) (hv : bootBuiltins x = some (.type n)) (hn : x ≠ "__name__" := by decide) (hd : (x == ("__debug__" : Str)) = false := by decide) : PED X (.Name x pos) (dC (.ty n)) :=
  .con (pe_bltn (v := .ty n) hg hm hv rfl hn hd) fun _ _ _ => by simp only [Rep]
def dVarS (i : Nat) (ρ : DS) (Q : D → DS → Prop) : Sl → Prop
  | .val d => Q d ρ
  | .own ds => Q (.lst ds) (ρ.set i (.val (.lst ds)))
  | .obj q => Q (fzO q) (ρ.set i (.val (fzO q)))
  | .pin _ d => Q d ρ
  | .nil => False
abbrev dVar (i : Nat) : DE := fun ρ Q => dVarS i ρ Q (slot ρ i)
theorem RSt.freeze {K : PySem.W.Frag} {M : List Addr} {H : Hp} {σ : St} {ρ : DS} {i : Nat} {ds : List D} (r : RSt K F M H σ ρ) (h : ρ[i]? = some (.own ds)) :
    ∃ M' v, σ[i]? = some (some v) ∧ Mv K F.pp M H M' H ∧ RSt K F M' H σ (ρ.set i (.val (.lst ds))) ∧ Rep K F.pp M' H (.lst ds) v := by
  obtain ⟨o, ho, l, xs, rfl, hm, h0, hp, hl, hr⟩ := r.at h
  have m : Mv K F.pp M H (M.filter fun a => decide (a ≠ l)) H := .less fun a ha => (List.mem_filter.mp ha).1
  have rl : Rep K F.pp (M.filter fun a => decide (a ≠ l)) H (.lst ds) (.ref l) := by
    simp only [Rep]
    exact ⟨l, xs, rfl, by simp, hp, hl, hr.mv m⟩
  refine ⟨_, _, ho, m, ⟨by simp [r.len], fun j s o h1 h2 => ?_, r.ow.step m i (fun _ _ => rfl) (fun j e => List.getElem?_set_ne (Ne.symm e)) (fun A hA _ => ⟨[], fun s o e _ => ?_, fun _ h => (by simp at h), fun a ha _ _ hn => ⟨?_, fun _ e _ => e⟩⟩), fun a ha => ?_, r.same, r.old, ?_, r.lk.cl m⟩, rl⟩
  · by_cases e : i = j
    · subst e
      rw [ho] at h2
      rw [set_self h1]
      cases h2
      exact ⟨_, rfl, rl⟩
    · rw [List.getElem?_set_ne e] at h1
      have q := r.sl j s o h1 h2
      cases s with
      | nil => trivial
      | val d => obtain ⟨v, e, q⟩ := q; exact ⟨v, e, q.mv m⟩
      | pin w d => obtain ⟨v, e, ew, q⟩ := q; exact ⟨v, e, ew, q.mv m⟩
      | own es =>
        obtain ⟨l', ys, rfl, hm', h0', hp', hl', hr'⟩ := q
        refine ⟨l', ys, rfl, List.mem_filter.mpr ⟨hm', ?_⟩, h0', hp', hl', hr'.mv m⟩
        by_cases z : l' = l
        · subst z
          exact absurd (r.own i j _ _ _ h h1 ho h2) e
        · simpa using z
      | obj q => exact ‹_›
  · rw [set_self e]
    trivial
  · obtain ⟨l2, e2, e3⟩ := hA _ _ h ho
    cases e2
    refine List.mem_filter.mpr ⟨ha, ?_⟩
    by_cases z : a = l
    · subst z
      exact absurd (by rw [e3]; simp) hn
    · simpa using z
  · refine List.mem_filter.mpr ⟨r.sub a ha, ?_⟩
    by_cases z : a = l
    · subst z
      exact absurd h0 (r.old a ha)
    · simpa using z
  · exact ⟨fun a ha => r.liv.m a (List.mem_filter.mp ha).1, r.liv.p⟩
theorem RSt.objAt {K : PySem.W.Frag} {M : List Addr} {H : Hp} {σ : St} {ρ : DS} {i : Nat} {q : O} (r : RSt K F M H σ ρ) (h : ρ[i]? = some (.obj q)) :
    ∃ v A, σ[i]? = some (some v) ∧ A.Nodup ∧ RO K F.pp M H q v A ∧ (∀ a ∈ A, a ∈ M ∧ F.H0 a = none ∧ F.pp ≠ some a) ∧ ∀ (j : Nat) s o, j ≠ i → ρ[j]? = some s → σ[j]? = some o → ∀ l, (∃ ds, s = .own ds) → o = some (.ref l) → l ∉ A := by
  obtain ⟨o, ho, _⟩ := r.at h
  obtain ⟨As, k1, k2, k3⟩ := r.ow
  obtain ⟨nd, v, rfl, hq⟩ := k1 i _ _ h ho
  refine ⟨v, As i, ho, nd, hq, k2 i, fun j s o e h1 h2 l hs ho' hl => ?_⟩
  obtain ⟨ds, rfl⟩ := hs
  subst ho'
  obtain ⟨l2, e2, e3⟩ := k1 j _ _ h1 h2
  cases e2
  exact k3 j i e l (by rw [e3]; simp) hl
theorem RSt.freezeO {K : PySem.W.Frag} {M : List Addr} {H : Hp} {σ : St} {ρ : DS} {i : Nat} {q : O} (r : RSt K F M H σ ρ) (h : ρ[i]? = some (.obj q)) :
    ∃ M' v, σ[i]? = some (some v) ∧ Mv K F.pp M H M' H ∧ RSt K F M' H σ (ρ.set i (.val (fzO q))) ∧ Rep K F.pp M' H (fzO q) v := by
  obtain ⟨As, k1, k2, k3⟩ := r.ow
  obtain ⟨o, ho, _⟩ := r.at h
  obtain ⟨nd, v, rfl, hq⟩ := k1 i _ _ h ho
  have m : Mv K F.pp M H (M.filter fun a => decide (a ∉ As i)) H := .less fun a ha => (List.mem_filter.mp ha).1
  have rl : Rep K F.pp (M.filter fun a => decide (a ∉ As i)) H (fzO q) v := RO.fz m q v (As i) (fun a ha => ⟨fun z => absurd ha (by simpa using (List.mem_filter.mp z).2), (k2 i a ha).2.2⟩) hq
  refine ⟨_, _, ho, m, ⟨by simp [r.len], fun j s o h1 h2 => ?_, ⟨fun j => if j = i then [] else As j, fun j s o e1 e2 => ?_, fun j a ha => ?_, fun j l e a ha hb => ?_⟩, fun a ha => ?_, r.same, r.old, ?_, r.lk.cl m⟩, rl⟩
  · by_cases e : i = j
    · subst e
      rw [ho] at h2
      rw [set_self h1]
      cases h2
      exact ⟨_, rfl, rl⟩
    · rw [List.getElem?_set_ne e] at h1
      have q' := r.sl j s o h1 h2
      cases s with
      | nil => trivial
      | val d => obtain ⟨v, e, q⟩ := q'; exact ⟨v, e, q.mv m⟩
      | pin w d => obtain ⟨v, e, ew, q⟩ := q'; exact ⟨v, e, ew, q.mv m⟩
      | own es =>
        obtain ⟨l', ys, rfl, hm', h0', hp', hl', hr'⟩ := q'
        refine ⟨l', ys, rfl, List.mem_filter.mpr ⟨hm', ?_⟩, h0', hp', hl', hr'.mv m⟩
        obtain ⟨l2, e2, e3⟩ := k1 j _ _ h1 h2
        cases e2
        simpa using k3 j i (Ne.symm e) l' (by rw [e3]; simp)
      | obj q => exact ‹_›
  · show Ow K F _ H s o (if j = i then [] else As j)
    by_cases e : j = i
    · subst e
      rw [set_self e1]
      trivial
    · rw [if_neg e]
      rw [List.getElem?_set_ne (Ne.symm e)] at e1
      exact (k1 j s o e1 e2).mv m fun a _ x z _ => z
  · replace ha : a ∈ (if j = i then [] else As j) := ha
    by_cases e : j = i
    · rw [if_pos e] at ha; simp at ha
    · rw [if_neg e] at ha
      exact ⟨List.mem_filter.mpr ⟨(k2 j a ha).1, by simpa using k3 j i e a ha⟩, (k2 j a ha).2⟩
  · replace ha : a ∈ (if j = i then [] else As j) := ha
    replace hb : a ∈ (if l = i then [] else As l) := hb
    by_cases e1 : j = i
    · rw [if_pos e1] at ha; simp at ha
    · by_cases e2 : l = i
      · rw [if_pos e2] at hb; simp at hb
      · rw [if_neg e1] at ha
        rw [if_neg e2] at hb
        exact k3 j l e a ha hb
  · refine List.mem_filter.mpr ⟨r.sub a ha, ?_⟩
    have : a ∉ As i := fun z => r.old a ha (k2 i a z).2.1
    simpa using this
  · exact ⟨fun a ha => r.liv.m a (List.mem_filter.mp ha).1, r.liv.p⟩
theorem de_var (i : Nat) {e : Expr} (h : PE X e (tVar i)) : PED X e (dVar i) := by
  refine ⟨fun ρ P P' f h => ?_, _, h, fun {F} M H σ ρ Q rs h => ?_⟩
  · unfold dVar at h ⊢
    cases e : slot ρ i with
    | nil => rw [e] at h; exact h
    | val d => rw [e] at h; exact f _ _ h
    | own ds => rw [e] at h; exact f _ _ h
    | obj q => rw [e] at h; exact f _ _ h
    | pin w d => rw [e] at h; exact f _ _ h
  · unfold dVar at h
    cases e : slot ρ i with
    | nil => rw [e] at h; exact h.elim
    | val d =>
      rw [e] at h
      obtain ⟨o, ho, v, rfl, r⟩ := rs.at (slot_get e (by intro z; cases z))
      exact ⟨v, ho, h M H v .refl rs r⟩
    | pin w d =>
      rw [e] at h
      obtain ⟨o, ho, v, rfl, _, r⟩ := rs.at (slot_get e (by intro z; cases z))
      exact ⟨v, ho, h M H v .refl rs r⟩
    | own ds =>
      rw [e] at h
      obtain ⟨M', v, ho, m, rs', r⟩ := rs.freeze (slot_get e (by intro z; cases z))
      exact ⟨v, ho, h M' H v m rs' r⟩
    | obj q =>
      rw [e] at h
      obtain ⟨M', v, ho, m, rs', r⟩ := rs.freezeO (slot_get e (by intro z; cases z))
      exact ⟨v, ho, h M' H v m rs' r⟩
structure OpD (X : Cx) (f : Value → Value → Sem Value) (g : D → D → (D → Prop) → Prop) : Prop where
  mono : ∀ x y P P', (∀ d, P d → P' d) → g x y P → g x y P'
  run : ∃ r : R2, OpR X f r ∧ ∀ {pp : Option Addr} M H x y v u (Q : VK), Lv pp M H → Rep X.K pp M H x v → Rep X.K pp M H y u →
    g x y (fun d => ∀ H' w, SameP X.K pp H H' → Rep X.K pp M H' d w → Q w H') → r v u H Q
abbrev dOp (g : D → D → (D → Prop) → Prop) (ta tb : DE) : DE := fun ρ Q => ta ρ fun x ρ1 => tb ρ1 fun y ρ2 => g x y fun d => Q d ρ2
variable {a b c : Expr} {ta tb tc : DE} {pos : Pos} {g g' : D → D → (D → Prop) → Prop}
theorem dOp_mono {g : D → D → (D → Prop) → Prop} (hg : ∀ x y P P', (∀ d, P d → P' d) → g x y P → g x y P') (ha : PED X a ta) (hb : PED X b tb) : ∀ ρ P P', (∀ d ρ', P d ρ' → P' d ρ') → dOp g ta tb ρ P → dOp g ta tb ρ P' :=
  fun ρ _ _ f h => ha.mono _ _ _ (fun _ _ h => hb.mono _ _ _ (fun _ _ h => hg _ _ _ _ (fun _ h => f _ _ h) h) h) h
theorem dOp_run {g : D → D → (D → Prop) → Prop} {r : R2} {Ta Tb : TE} (hg : ∀ M H x y v u (Q : VK), Lv F.pp M H → Rep X.K F.pp M H x v → Rep X.K F.pp M H y u →
      g x y (fun d => ∀ H' w, SameP X.K F.pp H H' → Rep X.K F.pp M H' d w → Q w H') → r v u H Q)
    (hgm : ∀ x y P P', (∀ d, P d → P' d) → g x y P → g x y P') (ha : PED X a ta) (hb : PED X b tb)
    (ra : ∀ M H σ ρ (Q : VK), RSt X.K F M H σ ρ → (ta ρ fun d ρ' => ∀ M' H' v, Mv X.K F.pp M H M' H' → RSt X.K F M' H' σ ρ' → Rep X.K F.pp M' H' d v → Q v H') → Ta σ H Q)
    (rb : ∀ M H σ ρ (Q : VK), RSt X.K F M H σ ρ → (tb ρ fun d ρ' => ∀ M' H' v, Mv X.K F.pp M H M' H' → RSt X.K F M' H' σ ρ' → Rep X.K F.pp M' H' d v → Q v H') → Tb σ H Q)
    {M : List Addr} {H : Hp} {σ : St} {ρ : DS} {Q : VK} (rs : RSt X.K F M H σ ρ)
    (h : dOp g ta tb ρ fun d ρ' => ∀ M' H' v, Mv X.K F.pp M H M' H' → RSt X.K F M' H' σ ρ' → Rep X.K F.pp M' H' d v → Q v H') : tOp r Ta Tb σ H Q := by
  refine ra M H σ ρ _ rs (ha.mono _ _ _ (fun x ρ1 h M1 H1 v m1 rs1 r1 => ?_) h)
  refine rb M1 H1 σ ρ1 _ rs1 (hb.mono _ _ _ (fun y ρ2 h M2 H2 u m2 rs2 r2 => ?_) h)
  refine hg M2 H2 x y v u _ rs2.liv (r1.mv m2) r2 (hgm _ _ _ _ (fun d h H' w s r => ?_) h)
  exact h M2 H' w ((m1.trans m2).trans s.mv) (rs2.sameP s) r
theorem de_op {op : Operator} (ho : OpD X (binaryOp op) g) (ha : PED X a ta) (hb : PED X b tb) : PED X (.BinOp a op b pos) (dOp g ta tb) := by
  obtain ⟨r, hr, hg⟩ := ho.run
  obtain ⟨Ta, pa, ra⟩ := ha.run
  obtain ⟨Tb, pb, rb⟩ := hb.run
  exact ⟨dOp_mono ho.mono ha hb, _, pe_op hr pa pb, fun {F} M H σ ρ Q rs h => dOp_run hg ho.mono ha hb ra rb rs h⟩
theorem de_cmp {op : CmpOp} (ho : OpD X (compareOp op) g) (ha : PED X a ta) (hb : PED X b tb) (hm : behindInMarks op b = false) : PED X (.Compare a [op] [b] pos) (dOp g ta tb) := by
  obtain ⟨r, hr, hg⟩ := ho.run
  obtain ⟨Ta, pa, ra⟩ := ha.run
  obtain ⟨Tb, pb, rb⟩ := hb.run
  exact ⟨dOp_mono ho.mono ha hb, _, pe_cmpR hr pa pb hm, fun {F} M H σ ρ Q rs h => dOp_run hg ho.mono ha hb ra rb rs h⟩
def blD : D → (Bool → Prop) → Prop
  | .bl b, P => P b
  | _, _ => False
theorem blD_mono {d : D} {P P' : Bool → Prop} (f : ∀ b, P b → P' b) (h : blD d P) : blD d P' := by cases d <;> first | exact h | exact f _ h
abbrev dB (t : DE) : DT := fun ρ Q => t ρ fun d ρ' => blD d fun b => Q b ρ'
theorem blD_rep {K : PySem.W.Frag} {pp : Option Addr} {M : List Addr} {H : Hp} {d : D} {v : V} {P : Bool → Prop} (r : Rep K pp M H d v) (h : blD d P) : ∃ k, v = .bl k ∧ P k := by
  cases d <;> first | exact h.elim | (simp only [Rep] at r; exact ⟨_, r, h⟩)
theorem dB_mono (ha : PED X a ta) : ∀ ρ P P', (∀ b ρ', P b ρ' → P' b ρ') → dB ta ρ P → dB ta ρ P' := fun _ _ _ f h => ha.mono _ _ _ (fun _ _ h => blD_mono (fun _ h => f _ _ h) h) h
theorem dt_cmp {op : CmpOp} (ho : OpD X (compareOp op) g) (ha : PED X a ta) (hb : PED X b tb) (hm : behindInMarks op b = false) : PTD X (.Compare a [op] [b] pos) (dB (dOp g ta tb)) := by
  obtain ⟨r, hr, hg⟩ := ho.run
  obtain ⟨Ta, pa, ra⟩ := ha.run
  obtain ⟨Tb, pb, rb⟩ := hb.run
  refine ⟨dB_mono (X := X) (a := .Compare a [op] [b] pos) (de_cmp ho ha hb hm), _, pt_cmpR hr pa pb hm, fun {F} M H σ ρ Q rs h => ?_⟩
  refine dOp_run hg ho.mono ha hb ra rb rs (dOp_mono ho.mono ha hb _ _ _ (fun d ρ' h M' H' v m rs' r => ?_) h)
  obtain ⟨k, e, h⟩ := blD_rep r h
  exact ⟨k, e, h M' H' m rs'⟩
theorem dt_val {e : Expr} {t : DE} (h : PED X e t) (he : ∀ whole, isTrue e X.env whole = (do let v ← whole; standAt e.pos; holding [v] (truthy v)) := by intro _; rfl) : PTD X e (dB t) := by
  obtain ⟨T, p, r⟩ := h.run
  refine ⟨dB_mono h, _, pt_val p he, fun {F} M H σ ρ Q rs q => ?_⟩
  refine r M H σ ρ _ rs (h.mono _ _ _ (fun d ρ' h M' H' v m rs' r => ?_) q)
  obtain ⟨k, e, h⟩ := blD_rep r h
  exact ⟨k, e, h M' H' m rs'⟩
structure Br (b : Bool) (A B : Prop) : Prop where
  yes : b = true → A
  no : b = false → B
theorem Br.t {A B : Prop} (h : A) : Br true A B := ⟨fun _ => h, fun e => nomatch e⟩
theorem Br.f {A B : Prop} (h : B) : Br false A B := ⟨(fun e => nomatch e), fun _ => h⟩
abbrev dNot (t : DT) : DT := fun ρ Q => t ρ fun b ρ' => Q (!b) ρ'
abbrev dAnd (t u : DT) : DT := fun ρ Q => t ρ fun b ρ' => Br b (u ρ' Q) (Q false ρ')
abbrev dOr (t u : DT) : DT := fun ρ Q => t ρ fun b ρ' => Br b (Q true ρ') (u ρ' Q)
variable {tA tB : DT} {rest : List Expr}
theorem dt_not (h : PTD X a tA) : PTD X (.UnaryOp .Not a pos) (dNot tA) := by
  obtain ⟨T, p, r⟩ := h.run
  exact ⟨fun _ _ _ f q => h.mono _ _ _ (fun _ _ q => f _ _ q) q, _, pt_not p, fun {F} M H σ ρ Q rs q => r M H σ ρ _ rs q⟩
theorem PWD.pt {e : Expr} {t : DT} (h : PWD X e t) : PTD X e t := by
  obtain ⟨T, p, r⟩ := h.run
  exact ⟨h.mono, T, p.pt, r⟩
theorem dw_and1 (h : PTD X a tA) : PWD X (.BoolOp .And [a] pos) tA := by
  obtain ⟨T, p, r⟩ := h.run
  exact ⟨h.mono, T, pw_and1 p, r⟩
theorem dw_or1 (h : PTD X a tA) : PWD X (.BoolOp .Or [a] pos) tA := by
  obtain ⟨T, p, r⟩ := h.run
  exact ⟨h.mono, T, pw_or1 p, r⟩
theorem dw_and (ha : PTD X a tA) (hb : PWD X (.BoolOp .And (b :: rest) pos) tB) : PWD X (.BoolOp .And (a :: b :: rest) pos) (dAnd tA tB) := by
  obtain ⟨T, p, r⟩ := ha.run
  obtain ⟨U, q, s⟩ := hb.run
  refine ⟨fun _ _ _ f h => ha.mono _ _ _ (fun _ _ h => ⟨fun e => hb.mono _ _ _ f (h.yes e), fun e => f _ _ (h.no e)⟩) h, _, pw_and p q, fun {F} M H σ ρ Q rs h => ?_⟩
  refine r M H σ ρ _ rs (ha.mono _ _ _ (fun c ρ1 h M1 H1 m1 rs1 => ?_) h)
  cases c with
  | true => exact iteT (s M1 H1 σ ρ1 _ rs1 (hb.mono _ _ _ (fun c ρ2 h M2 H2 m2 rs2 => h M2 H2 (m1.trans m2) rs2) (h.yes rfl)))
  | false => exact iteF (h.no rfl M1 H1 m1 rs1)
theorem dw_or (ha : PTD X a tA) (hb : PWD X (.BoolOp .Or (b :: rest) pos) tB) : PWD X (.BoolOp .Or (a :: b :: rest) pos) (dOr tA tB) := by
  obtain ⟨T, p, r⟩ := ha.run
  obtain ⟨U, q, s⟩ := hb.run
  refine ⟨fun _ _ _ f h => ha.mono _ _ _ (fun _ _ h => ⟨fun e => f _ _ (h.yes e), fun e => hb.mono _ _ _ f (h.no e)⟩) h, _, pw_or p q, fun {F} M H σ ρ Q rs h => ?_⟩
  refine r M H σ ρ _ rs (ha.mono _ _ _ (fun c ρ1 h M1 H1 m1 rs1 => ?_) h)
  cases c with
  | true => exact iteT (h.yes rfl M1 H1 m1 rs1)
  | false => exact iteF (s M1 H1 σ ρ1 _ rs1 (hb.mono _ _ _ (fun c ρ2 h M2 H2 m2 rs2 => h M2 H2 (m1.trans m2) rs2) (h.no rfl)))
abbrev dNotV (t : DE) : DE := fun ρ Q => t ρ fun d ρ' => blD d fun b => Q (.bl (!b)) ρ'
abbrev dAndV (t u : DE) : DE := fun ρ Q => t ρ fun d ρ' => blD d fun b => Br b (u ρ' Q) (Q (.bl false) ρ')
theorem rep_bl {K : PySem.W.Frag} {pp : Option Addr} {M : List Addr} {H : Hp} {b : Bool} : Rep K pp M H (.bl b) (.bl b) := by simp only [Rep]
theorem rep_int {K : PySem.W.Frag} {pp : Option Addr} {M : List Addr} {H : Hp} {b : Int} : Rep K pp M H (.int b) (.int b) := by simp only [Rep]
theorem de_one {op} {t : DE} (h : PED X a t) : PED X (.BoolOp op [a] pos) t := by
  obtain ⟨T, p, r⟩ := h.run
  exact ⟨h.mono, T, pe_one p, r⟩
theorem de_not (h : PED X a ta) : PED X (.UnaryOp .Not a pos) (dNotV ta) := by
  obtain ⟨T, p, r⟩ := h.run
  refine ⟨fun _ _ _ f q => h.mono _ _ _ (fun _ _ q => blD_mono (fun _ q => f _ _ q) q) q, _, pe_not p, fun {F} M H σ ρ Q rs q => r M H σ ρ _ rs (h.mono _ _ _ (fun d ρ' q M' H' v m rs' r => ?_) q)⟩
  obtain ⟨k, e, q⟩ := blD_rep r q
  exact ⟨k, e, q M' H' _ m rs' rep_bl⟩
theorem de_and (ha : PED X a ta) (hb : PED X (.BoolOp .And (b :: rest) pos) tb) : PED X (.BoolOp .And (a :: b :: rest) pos) (dAndV ta tb) := by
  obtain ⟨T, p, r⟩ := ha.run
  obtain ⟨U, q, s⟩ := hb.run
  refine ⟨fun _ _ _ f h => ha.mono _ _ _ (fun _ _ h => blD_mono (fun _ h => ⟨fun e => hb.mono _ _ _ f (h.yes e), fun e => f _ _ (h.no e)⟩) h) h, _, pe_and p q, fun {F} M H σ ρ Q rs h => ?_⟩
  refine r M H σ ρ _ rs (ha.mono _ _ _ (fun d ρ1 h M1 H1 v m1 rs1 r1 => ?_) h)
  obtain ⟨c, e, h⟩ := blD_rep r1 h
  refine ⟨c, e, ?_⟩
  cases c with
  | true => exact iteT (s M1 H1 σ ρ1 _ rs1 (hb.mono _ _ _ (fun c ρ2 h M2 H2 v m2 rs2 => h M2 H2 v (m1.trans m2) rs2) (h.yes rfl)))
  | false => exact iteF (h.no rfl M1 H1 _ m1 rs1 rep_bl)
variable {tL : DA} {es : List Expr} {e : Expr}
abbrev daNil : DA := fun ρ Q => Q [] ρ
abbrev daCons (t : DE) (u : DA) : DA := fun ρ Q => t ρ fun x ρ1 => u ρ1 fun xs ρ2 => Q (x :: xs) ρ2
theorem da_nil : PAD X [] daNil := ⟨fun _ _ _ f h => f _ _ h, _, pa_nil, fun {F} M H _ _ _ rs h => h M H [] .refl rs .nil⟩
theorem da_cons (ha : PED X e ta) (hr : PAD X es tL) (hs : starEach (e :: es) X.env = (false, eval e X.env) :: starEach es X.env := by rfl) : PAD X (e :: es) (daCons ta tL) := by
  obtain ⟨T, p, r⟩ := ha.run
  obtain ⟨U, q, s⟩ := hr.run
  refine ⟨fun _ _ _ f h => ha.mono _ _ _ (fun _ _ h => hr.mono _ _ _ (fun _ _ h => f _ _ h) h) h, _, pa_cons p q hs, fun {F} M H σ ρ Q rs h => ?_⟩
  refine r M H σ ρ _ rs (ha.mono _ _ _ (fun x ρ1 h M1 H1 v m1 rs1 r1 => ?_) h)
  exact s M1 H1 σ ρ1 _ rs1 (hr.mono _ _ _ (fun ds ρ2 h M2 H2 vs m2 rs2 r2 => h M2 H2 (v :: vs) (m1.trans m2) rs2 (.cons (r1.mv m2) r2)) h)
abbrev dTup (t : DA) : DE := fun ρ Q => t ρ fun xs ρ1 => xs.length ≤ sizeLine ∧ Q (.tup xs) ρ1
theorem de_tup {x1} (h : PAD X es tL) : PED X (.Tuple es x1 pos) (dTup tL) := by
  obtain ⟨T, p, r⟩ := h.run
  refine ⟨fun _ _ _ f q => h.mono _ _ _ (fun _ _ q => ⟨q.1, f _ _ q.2⟩) q, _, pe_tup p, fun {F} M H σ ρ Q rs q => ?_⟩
  refine r M H σ ρ _ rs (h.mono _ _ _ (fun ds ρ1 q M1 H1 vs m1 rs1 r1 => ?_) q)
  refine ⟨by rw [← r1.length]; exact q.1, fun l hl => ?_⟩
  refine q.2 M1 _ _ (m1.trans (.new hl)) (rs1.sameP (.new hl)) ?_
  simp only [Rep]
  exact ⟨l, vs, rfl, upd_same, r1.mv (.new hl)⟩
structure PLD (X : Cx) (e : Expr) (t : DA) : Prop where
  mono : ∀ ρ P P', (∀ d ρ', P d ρ' → P' d ρ') → t ρ P → t ρ P'
  run : ∃ T : TE, PE X e T ∧ ∀ {F : Fx} M H σ ρ (Q : VK), RSt X.K F M H σ ρ →
    (t ρ fun ds ρ' => ∀ M' H1 H' l xs, Mv X.K F.pp M H M' H1 → RSt X.K F M' H1 σ ρ' → H1 l = none → H' = upd H1 l (.lst xs) → Reps X.K F.pp M' H1 ds xs → Q (.ref l) H') → T σ H Q
abbrev dLst (t : DA) : DA := fun ρ Q => t ρ fun xs ρ1 => xs.length ≤ sizeLine ∧ Q xs ρ1
theorem dl_lst (h : PAD X es tL) : PLD X (.List es pos) (dLst tL) := by
  obtain ⟨T, p, r⟩ := h.run
  refine ⟨fun _ _ _ f q => h.mono _ _ _ (fun _ _ q => ⟨q.1, f _ _ q.2⟩) q, _, pe_lst p, fun {F} M H σ ρ Q rs q => ?_⟩
  refine r M H σ ρ _ rs (h.mono _ _ _ (fun ds ρ1 q M1 H1 vs m1 rs1 r1 => ?_) q)
  exact ⟨by rw [← r1.length]; exact q.1, fun l hl => q.2 M1 H1 _ l vs m1 rs1 hl rfl r1⟩
abbrev dFrz (t : DA) : DE := fun ρ Q => t ρ fun xs ρ1 => Q (.lst xs) ρ1
theorem de_frz (h : PLD X e tL) : PED X e (dFrz tL) := by
  obtain ⟨T, p, r⟩ := h.run
  refine ⟨fun _ _ _ f q => h.mono _ _ _ (fun _ _ q => f _ _ q) q, T, p, fun {F} M H σ ρ Q rs q => ?_⟩
  refine r M H σ ρ _ rs (h.mono _ _ _ (fun ds ρ1 q M1 H1 H' l xs m1 rs1 hl e r1 => ?_) q)
  subst e
  refine q M1 _ _ (m1.trans (.new hl)) (rs1.sameP (.new hl)) ?_
  simp only [Rep]
  exact ⟨l, xs, rfl, (rs1.liv.fresh hl).1, (rs1.liv.fresh hl).2, upd_same, r1.mv (.new hl)⟩
end
end DL
namespace DL
open PySem PySem.Spec L2
open PyProof.Rows hiding St
variable [TB]
variable [Frm]
abbrev DSp := List D → (D → Prop) → Prop
def spD (K : PySem.W.Frag) (n : Nat) (g : DSp) : Sp := fun vs H Q _ => ∃ pp M ds, Lv pp M H ∧ Reps K pp M H ds vs ∧ ds.length = n ∧ g ds (fun d => ∀ H' v, SameP K pp H H' → Rep K pp M H' d v → Q v H')
def MonoS (g : DSp) : Prop := ∀ ds P P', (∀ d, P d → P' d) → g ds P → g ds P'
structure CallD (X : Cx) (f : Value) (g : DSp) : Prop where
  mono : MonoS g
  run : ∃ r : List V → Hp → VK → Prop, CallR X f r ∧ ∀ {pp : Option Addr} M H ds vs (Q : VK), Lv pp M H → Reps X.K pp M H ds vs → g ds (fun d => ∀ H' w, SameP X.K pp H H' → Rep X.K pp M H' d w → Q w H') → r vs H Q
abbrev dCB (g : DSp) (t : DA) : DE := fun ρ Q => t ρ fun ds ρ1 => g ds fun d => Q d ρ1
abbrev dCall (n : Nat) (g : DSp) (t : DA) : DE := fun ρ Q => t ρ fun ds ρ1 => ds.length = n ∧ g ds fun d => Q d ρ1
section
variable {X : Cx} {F : Fx} {x : Str} {p pos : Pos} {e : Expr} {es : List Expr} {t : DA} {id T : String} {g : DSp}
theorem de_callB (hc : CallD X (.builtin id) g) (hg : Gl X x) (hm : X.mg x = none) (hv : bootBuiltins x = some (.builtin id)) (ha : PAD X (e :: es) t) (hn : x ≠ "__name__" := by decide) (hdb : (x == ("__debug__" : Str)) = false := by decide)
    (he : starEach (e :: es) X.env = (false, eval e X.env) :: starEach es X.env := by rfl) (hpl : (backTo pos (starEach es X.env)).any (·.1) = false := by rfl) : PED X (.Call (.Name x p) (e :: es) [] pos) (dCB g t) := by
  obtain ⟨r, hr, h⟩ := hc.run
  obtain ⟨T, pa, ra⟩ := ha.run
  refine ⟨fun _ _ _ f q => ha.mono _ _ _ (fun _ _ q => hc.mono _ _ _ (fun _ q => f _ _ q) q) q, _, pe_callB hr hg hm hv pa hn hdb he hpl, fun {F} M H σ ρ Q rs q => ?_⟩
  refine ra M H σ ρ _ rs (ha.mono _ _ _ (fun ds ρ1 q M1 H1 vs m1 rs1 r1 => ?_) q)
  exact h M1 H1 ds vs _ rs1.liv r1 (hc.mono _ _ _ (fun d q H' w s r => q M1 H' w (m1.trans s.mv) (rs1.sameP s) r) q)
theorem de_callTy (hc : CallD X (.type T) g) (hg : Gl X x) (hm : X.mg x = none) (hv : bootBuiltins x = some (.type T)) (ha : PAD X (e :: es) t) (hn : x ≠ "__name__" := by decide) (hdb : (x == ("__debug__" : Str)) = false := by decide)
    (he : starEach (e :: es) X.env = (false, eval e X.env) :: starEach es X.env := by rfl) (hpl : (backTo pos (starEach es X.env)).any (·.1) = false := by rfl) : PED X (.Call (.Name x p) (e :: es) [] pos) (dCB g t) := by
  obtain ⟨r, hr, h⟩ := hc.run
  obtain ⟨T, pa, ra⟩ := ha.run
  refine ⟨fun _ _ _ f q => ha.mono _ _ _ (fun _ _ q => hc.mono _ _ _ (fun _ q => f _ _ q) q) q, _, pe_callTy hr hg hm hv pa hn hdb he hpl, fun {F} M H σ ρ Q rs q => ?_⟩
  refine ra M H σ ρ _ rs (ha.mono _ _ _ (fun ds ρ1 q M1 H1 vs m1 rs1 r1 => ?_) q)
  exact h M1 H1 ds vs _ rs1.liv r1 (hc.mono _ _ _ (fun d q H' w s r => q M1 H' w (m1.trans s.mv) (rs1.sameP s) r) q)
theorem de_call {k n : Nat} {f : Addr} {fd : FuncData} {ps : List Str} (Fn : FnOk X.prog X.w X.K X.mg X.base CX0 k f fd ps (spD X.K n g)) (gm : MonoS g) (hr : Room k X.A) (hg : Gl X x) (hm : X.mg x = some (.ref f)) (hk : PySem.W.keepIn X.K (.ref f) = true) (hb : Binds X.K fd ps [])
    (ha : PAD X (e :: es) t) (hdb : (x == ("__debug__" : Str)) = false := by decide) (he : starEach (e :: es) X.env = (false, eval e X.env) :: starEach es X.env := by rfl) (hpl : (backTo pos (starEach es X.env)).any (·.1) = false := by rfl) :
    PED X (.Call (.Name x p) (e :: es) [] pos) (dCall n g t) := by
  obtain ⟨T, pa, ra⟩ := ha.run
  refine ⟨fun _ _ _ f q => ha.mono _ _ _ (fun _ _ q => ⟨q.1, gm _ _ _ (fun _ q => f _ _ q) q.2⟩) q, _, pe_call Fn hr hg hm hk hb .nil pass0 pa hdb he hpl, fun {F} M H σ ρ Q rs q => ?_⟩
  refine ra M H σ ρ _ rs (ha.mono _ _ _ (fun ds ρ1 q M1 H1 vs m1 rs1 r1 => ?_) q)
  rw [List.append_nil]
  exact ⟨F.pp, M1, ds, rs1.liv, r1, q.1, gm _ _ _ (fun d q H' w s r => q M1 H' w (m1.trans s.mv) (rs1.sameP s) r) q.2⟩
end
structure EO (K : PySem.W.Frag) (F : Fx) (M : List Addr) (H : Hp) (E : DEnds) (D : Ends) : Prop where
  nx : ∀ M' H' σ' ρ', Mv K F.pp M H M' H' → RSt K F M' H' σ' ρ' → E.nx ρ' → D.nx σ' H'
  bk : ∀ M' H' σ' ρ', Mv K F.pp M H M' H' → RSt K F M' H' σ' ρ' → E.bk ρ' → D.bk σ' H'
  ct : ∀ M' H' σ' ρ', Mv K F.pp M H M' H' → RSt K F M' H' σ' ρ' → E.ct ρ' → D.ct σ' H'
  rt : ∀ M' H' σ' ρ' d v, Mv K F.pp M H M' H' → RSt K F M' H' σ' ρ' → Rep K F.pp M' H' d v → E.rt d → D.rt v H'
theorem EO.mv {K : PySem.W.Frag} {F : Fx} {M M1 : List Addr} {H H1 : Hp} {E : DEnds} {D : Ends} (o : EO K F M H E D) (m : Mv K F.pp M H M1 H1) : EO K F M1 H1 E D :=
  ⟨fun _ _ _ _ m' => o.nx _ _ _ _ (m.trans m'), fun _ _ _ _ m' => o.bk _ _ _ _ (m.trans m'), fun _ _ _ _ m' => o.ct _ _ _ _ (m.trans m'), fun _ _ _ _ _ _ m' => o.rt _ _ _ _ _ _ (m.trans m')⟩
def PSD (X : Cx) (st : Stmt) (t : DTS) : Prop := ∃ T : TS, PS X st T ∧ ∀ {F : Fx} M H σ ρ (E : DEnds) (D : Ends), RSt X.K F M H σ ρ → EO X.K F M H E D → t E ρ → T D σ H
def PSsD (X : Cx) (st : List Stmt) (t : DTS) : Prop := ∃ T : TS, PSs X st T ∧ ∀ {F : Fx} M H σ ρ (E : DEnds) (D : Ends), RSt X.K F M H σ ρ → EO X.K F M H E D → t E ρ → T D σ H
section
variable {X : Cx} {F : Fx} {st : Stmt} {rest a b : List Stmt} {t u : DTS} {e c : Expr} {te : DE} {tc : DT} {tl : DA} {pos : Pos}
abbrev dNext : DTS := fun E ρ => E.nx ρ
abbrev dSeq (t u : DTS) : DTS := fun E ρ => t { E with nx := u E } ρ
abbrev dMid (t u : DTS) : DTS := fun E ρ => ∃ N : DS → Prop, t { E with nx := N } ρ ∧ ∀ ρ', N ρ' → u E ρ'
theorem dss_nil : PSsD X [] dNext := ⟨_, pss_nil, fun {F} M H σ ρ E D rs o h => o.nx M H σ ρ .refl rs h⟩
theorem dss_one (h : PSD X st t) : PSsD X [st] t := by
  obtain ⟨T, p, r⟩ := h
  exact ⟨T, pss_one p, r⟩
theorem dss_cons (h1 : PSD X st t) (h2 : PSsD X rest u) : PSsD X (st :: rest) (dSeq t u) := by
  obtain ⟨T, p, r⟩ := h1
  obtain ⟨U, q, s⟩ := h2
  refine ⟨_, pss_cons p q, fun {F} M H σ ρ E D rs o h => r M H σ ρ { E with nx := u E } { D with nx := U D } rs ⟨fun M' H' σ' ρ' m rs' h => ?_, o.bk, o.ct, o.rt⟩ h⟩
  exact s M' H' σ' ρ' E D rs' (o.mv m) h
theorem dss_mid (h1 : PSD X st t) (h2 : PSsD X rest u) : PSsD X (st :: rest) (dMid t u) := by
  obtain ⟨T, p, r⟩ := h1
  obtain ⟨U, q, s⟩ := h2
  refine ⟨_, pss_cons p q, fun {F} M H σ ρ E D rs o h => ?_⟩
  obtain ⟨N, h, hn⟩ := h
  refine r M H σ ρ { E with nx := N } { D with nx := U D } rs ⟨fun M' H' σ' ρ' m rs' h => ?_, o.bk, o.ct, o.rt⟩ h
  exact s M' H' σ' ρ' E D rs' (o.mv m) (hn _ h)
abbrev dCont : DTS := fun E ρ => E.ct ρ
theorem ds_continue : PSD X (.Continue pos) dCont := ⟨_, ps_continue, fun {F} M H σ ρ E D rs o h => o.ct M H σ ρ .refl rs h⟩
abbrev dNever : DTS := fun _ _ => False
theorem ds_never : PSD X st dNever := ⟨_, ps_never, fun _ _ _ _ _ _ _ _ h => h⟩
abbrev dRet (te : DE) : DTS := fun E ρ => te ρ fun d _ => E.rt d
theorem ds_ret (h : PED X e te) : PSD X (.Return (some e) pos) (dRet te) := by
  obtain ⟨T, p, r⟩ := h.run
  refine ⟨_, ps_ret p, fun {F} M H σ ρ E D rs o q => r M H σ ρ _ rs (h.mono _ _ _ (fun d ρ' q M' H' v m rs' r' => ?_) q)⟩
  exact o.rt M' H' σ ρ' d v m rs' r' q
abbrev dDrop (te : DE) : DTS := fun E ρ => te ρ fun _ ρ' => E.nx ρ'
theorem ds_expr (h : PED X e te) (hs : swapsWith e none pos.line X.env = pure false := by rfl) : PSD X (.Expr e pos) (dDrop te) := by
  obtain ⟨T, p, r⟩ := h.run
  refine ⟨_, ps_expr p hs, fun {F} M H σ ρ E D rs o q => r M H σ ρ _ rs (h.mono _ _ _ (fun d ρ' q M' H' v m rs' r' => ?_) q)⟩
  exact o.nx M' H' σ ρ' m rs' q
abbrev dIfS (c : DT) (t u : DTS) : DTS := fun E ρ => c ρ fun b ρ' => Br b (t E ρ') (u E ρ')
theorem ds_if (hc : PTD X c tc) (ha : PSsD X a t) (hb : PSsD X b u) : PSD X (.If c a b pos) (dIfS tc t u) := by
  obtain ⟨T, p, r⟩ := hc.run
  obtain ⟨U, q, s⟩ := ha
  obtain ⟨U', q', s'⟩ := hb
  refine ⟨_, ps_if p q q', fun {F} M H σ ρ E D rs o h => r M H σ ρ _ rs (hc.mono _ _ _ (fun k ρ1 h M1 H1 m1 rs1 => ?_) h)⟩
  cases k with
  | true => exact iteT (s M1 H1 σ ρ1 E D rs1 (o.mv m1) (h.yes rfl))
  | false => exact iteF (s' M1 H1 σ ρ1 E D rs1 (o.mv m1) (h.no rfl))
abbrev dSet (i : Nat) (te : DE) : DTS := fun E ρ => te ρ fun d ρ' => E.nx (ρ'.set i (.val d))
theorem ds_set {i : Nat} {x : Str} {pos' : Pos} (hN : X.N.Nodup) (hi : X.N[i]? = some x) (hx : Loc X.env.scope x) (h : PED X e te) (hs : swapsWith e (some (.Name x pos')) pos.line X.env = pure false := by rfl) (hf : X.fn x = true ∨ X.env.scope.names.lookup x = some .local := by first | exact .inl rfl | exact .inr rfl | assumption) :
    PSD X (.Assign [.Name x pos'] e pos) (dSet i te) := by
  obtain ⟨T, p, r⟩ := h.run
  refine ⟨_, ps_set hN hi hx p hs hf, fun {F} M H σ ρ E D rs o q => r M H σ ρ _ rs (h.mono _ _ _ (fun d ρ' q M' H' v m rs' r' => ?_) q)⟩
  exact o.nx M' H' _ _ m (rs'.set r' i) q
abbrev dOwn (i : Nat) (t : DA) : DTS := fun E ρ => t ρ fun ds ρ' => E.nx (ρ'.set i (.own ds))
theorem RSt.newOwn {K : PySem.W.Frag} {M : List Addr} {H : Hp} {σ : St} {ρ : DS} {l : Addr} {xs : List V} {ds : List D} (r : RSt K F M H σ ρ) (hl : H l = none) (hd : Reps K F.pp M H ds xs) (i : Nat) :
    RSt K F (l :: M) (upd H l (.lst xs)) (σ.set i (some (.ref l))) (ρ.set i (.own ds)) := by
  have m : Mv K F.pp M H (l :: M) (upd H l (.lst xs)) := .newOwn hl
  have s : SameP K F.pp H (upd H l (.lst xs)) := .new hl
  have h0 : F.H0 l = none := by
    cases e : F.H0 l with
    | none => rfl
    | some o => exact absurd hl (r.same.live l (by rw [e]; intro z; cases z))
  refine ⟨by simp [r.len], fun j q o h1 h2 => ?_, r.ow.step m i (fun j e => List.getElem?_set_ne (Ne.symm e)) (fun j e => List.getElem?_set_ne (Ne.symm e)) (fun A _ _ => ⟨[l], fun s o e1 e2 => ?_, fun b hb => ?_, fun a ha hp h0' _ => ⟨List.mem_cons_of_mem _ ha, fun x e _ => upd_old hl e⟩⟩), fun a ha => List.mem_cons_of_mem _ (r.sub a ha), r.same.trans s.toSameQ, r.old, ?_, r.lk.cl m⟩
  · by_cases e : i = j
    · subst e
      rw [set_self h1, set_self h2]
      exact ⟨l, xs, rfl, List.mem_cons_self, h0, (r.liv.fresh hl).2, upd_same, hd.mv m⟩
    · rw [List.getElem?_set_ne e] at h1 h2
      have q' := r.sl j q o h1 h2
      cases q with
      | nil => trivial
      | val d => obtain ⟨v, e, q⟩ := q'; exact ⟨v, e, q.mv m⟩
      | pin w d => obtain ⟨v, e, ew, q⟩ := q'; exact ⟨v, e, ew, q.mv m⟩
      | own es =>
        obtain ⟨l', ys, rfl, hm', h0', hp', hl', hr'⟩ := q'
        exact ⟨l', ys, rfl, List.mem_cons_of_mem _ hm', h0', hp', upd_old hl hl', hr'.mv m⟩
      | obj q => exact q'
  · rw [set_self e1, set_self e2]
    exact ⟨l, rfl, rfl⟩
  · rw [List.mem_singleton.mp hb]
    exact ⟨List.mem_cons_self, h0, (r.liv.fresh hl).2, .inr (r.liv.fresh hl).1⟩
  · refine ⟨fun a ha => ?_, fun p e => s.live p (r.liv.p p e)⟩
    rcases List.mem_cons.mp ha with rfl | ha
    · rw [upd_same]; intro z; cases z
    · exact s.live a (r.liv.m a ha)
theorem ds_own {i : Nat} {x : Str} {pos' : Pos} (hN : X.N.Nodup) (hi : X.N[i]? = some x) (hx : Loc X.env.scope x) (h : PLD X e tl) (hs : swapsWith e (some (.Name x pos')) pos.line X.env = pure false := by rfl) (hf : X.fn x = true ∨ X.env.scope.names.lookup x = some .local := by first | exact .inl rfl | exact .inr rfl | assumption) :
    PSD X (.Assign [.Name x pos'] e pos) (dOwn i tl) := by
  obtain ⟨T, p, r⟩ := h.run
  refine ⟨_, ps_set hN hi hx p hs hf, fun {F} M H σ ρ E D rs o q => r M H σ ρ _ rs (h.mono _ _ _ (fun ds ρ' q M' H1 H' l xs m rs' hl e r' => ?_) q)⟩
  subst e
  exact o.nx _ _ _ _ (m.trans (.newOwn hl)) (rs'.newOwn hl r' i) q
abbrev DG := D → DS → (DS → Prop) → Prop
structure PGD (X : Cx) (tg : Expr) (g : DG) : Prop where
  mono : ∀ d ρ P P', (∀ ρ', P ρ' → P' ρ') → g d ρ P → g d ρ P'
  run : ∃ G : TG, PG X tg G ∧ ∀ {F : Fx} M H σ ρ d v (Q : St → Hp → Prop), RSt X.K F M H σ ρ → Rep X.K F.pp M H d v → (g d ρ fun ρ' => ∀ M' H' σ', Mv X.K F.pp M H M' H' → RSt X.K F M' H' σ' ρ' → Q σ' H') → G v σ H Q
abbrev dgName (i : Nat) : DG := fun d ρ Q => Q (ρ.set i (.val d))
theorem dg_name {i : Nat} {x : Str} (hN : X.N.Nodup) (hi : X.N[i]? = some x) (hx : Loc X.env.scope x) (hf : X.fn x = true ∨ X.env.scope.names.lookup x = some .local := by first | exact .inl rfl | exact .inr rfl | assumption) : PGD X (.Name x pos) (dgName i) :=
  ⟨fun _ _ _ _ f h => f _ h, _, pg_name hN hi hx hf, fun {F} M H σ ρ d v Q rs r h => h M H _ .refl (rs.set r i)⟩
abbrev DGs := List D → DS → (DS → Prop) → Prop
structure PGsD (X : Cx) (tg : List Expr) (g : DGs) : Prop where
  mono : ∀ d ρ P P', (∀ ρ', P ρ' → P' ρ') → g d ρ P → g d ρ P'
  run : ∃ G : TGs, PGs X tg G ∧ ∀ {F : Fx} M H σ ρ ds vs (Q : St → Hp → Prop), RSt X.K F M H σ ρ → Reps X.K F.pp M H ds vs → (g ds ρ fun ρ' => ∀ M' H' σ', Mv X.K F.pp M H M' H' → RSt X.K F M' H' σ' ρ' → Q σ' H') → G vs σ H Q
def dgNil : DGs := fun ds ρ Q => match ds with
  | [] => Q ρ
  | _ => False
def dgCons (g : DG) (u : DGs) : DGs := fun ds ρ Q => match ds with
  | d :: r => g d ρ fun ρ' => u r ρ' Q
  | [] => False
theorem dgs_nil : PGsD X [] dgNil := by
  refine ⟨fun ds _ _ _ f h => ?_, _, pgs_nil, fun {F} M H σ ρ ds vs Q rs r h => ?_⟩
  · cases ds with
    | nil => exact f _ h
    | cons => exact h
  · cases ds with
    | nil => simp only [Reps] at r; exact ⟨r, h M H σ .refl rs⟩
    | cons => exact h.elim
theorem dgs_cons {e : Expr} {es : List Expr} {g : DG} {u : DGs} (h1 : PGD X e g) (h2 : PGsD X es u)
    (hs : (assignEach (e :: es) X.env).map (·.2) = assign e X.env :: (assignEach es X.env).map (·.2) := by rfl) : PGsD X (e :: es) (dgCons g u) := by
  obtain ⟨G, p, r⟩ := h1.run
  obtain ⟨G', p', r'⟩ := h2.run
  refine ⟨fun ds _ _ _ f h => ?_, _, pgs_cons p p' hs, fun {F} M H σ ρ ds vs Q rs rd h => ?_⟩
  · cases ds with
    | nil => exact h
    | cons => exact h1.mono _ _ _ _ (fun _ h => h2.mono _ _ _ _ f h) h
  · cases ds with
    | nil => exact h.elim
    | cons d ds =>
      simp only [Reps] at rd
      obtain ⟨v, vr, rfl, rd, rr⟩ := rd
      refine ⟨v, vr, rfl, r M H σ ρ d v _ rs rd (h1.mono _ _ _ _ (fun ρ' h M1 H1 σ1 m1 rs1 => ?_) h)⟩
      exact r' M1 H1 σ1 ρ' ds vr _ rs1 (rr.mv m1) (h2.mono _ _ _ _ (fun ρ2 h M2 H2 σ2 m2 rs2 => h M2 H2 σ2 (m1.trans m2) rs2) h)
def dgTup (n : Nat) (g : DGs) : DG := fun d ρ Q => match d with
  | .tup ds => ds.length = n ∧ g ds ρ Q
  | _ => False
theorem dg_tup {es : List Expr} {k : Nat} {g : DGs} {n : Nat} (hc : X.calm = true) (h : PGsD X es g)
    (hn : (assignEach es X.env).length = n := by rfl) (hst : (assignEach es X.env).findIdx? (·.1) = none := by rfl) : PGD X (.Tuple es k pos) (dgTup n g) := by
  obtain ⟨G, p, r⟩ := h.run
  refine ⟨fun d _ _ _ f q => ?_, _, pg_tupH hc p hn hst, fun {F} M H σ ρ d v Q rs rd q => ?_⟩
  · cases d <;> first | exact q.elim | exact ⟨q.1, h.mono _ _ _ _ f q.2⟩
  · cases d with
    | tup ds =>
      simp only [Rep] at rd
      obtain ⟨a, xs, rfl, ha, rd⟩ := rd
      exact ⟨a, xs, rfl, ha, by rw [← rd.length]; exact q.1, r M H σ ρ ds xs _ rs rd q.2⟩
    | _ => exact q.elim
abbrev dAsg (te : DE) (g : DG) : DTS := fun E ρ => te ρ fun d ρ' => g d ρ' E.nx
theorem ds_asg {tg : Expr} {g : DG} (he : PED X e te) (hg : PGD X tg g) (hs : swapsWithSole [tg] e pos.line X.env = pure false := by rfl) (hw : swappedStores [tg] e X.env = pure none := by rfl) (hh : PS X (.Assign [tg] e pos) (tAsg (Classical.choose he.run) (Classical.choose hg.run)) := by exact ps_asg (Classical.choose_spec he.run).1 (Classical.choose_spec hg.run).1) : PSD X (.Assign [tg] e pos) (dAsg te g) := by
  obtain ⟨_, r⟩ := Classical.choose_spec he.run
  obtain ⟨_, r'⟩ := Classical.choose_spec hg.run
  refine ⟨_, hh, fun {F} M H σ ρ E D rs o q => r M H σ ρ _ rs (he.mono _ _ _ (fun d ρ' q M' H' v m rs' rd => ?_) q)⟩
  exact r' M' H' σ ρ' d v _ rs' rd (hg.mono _ _ _ _ (fun ρ2 q M2 H2 σ2 m2 rs2 => o.nx M2 H2 σ2 ρ2 (m.trans m2) rs2 q) q)
def dLoop (g : DG) (b : DTS) : List D → DEnds → DS → Prop
  | [], E, ρ => E.nx ρ
  | d :: r, E, ρ => g d ρ fun ρ1 => b { E with nx := fun ρ' => dLoop g b r E ρ', ct := fun ρ' => dLoop g b r E ρ', bk := E.nx } ρ1
structure ItOkV (K : PySem.W.Frag) (pp : Option Addr) (J : It) (M : List Addr) (H : Hp) (vs : List V) : Prop where
  yld : ∀ M2 H2, Mv K pp M H M2 H2 → ∀ i x H3, i < vs.length → J.yld i H2 x H3 → H3 = H2 ∧ vs[i]? = some x
  go : ∀ M2 H2, Mv K pp M H M2 H2 → ∀ i, i < vs.length → J.go i H2
  stop : ∀ M2 H2, Mv K pp M H M2 H2 → ∀ i, vs.length ≤ i → J.stop i H2
structure ItOk (K : PySem.W.Frag) (pp : Option Addr) (J : It) (M : List Addr) (H : Hp) (ds : List D) : Prop where
  yld : ∀ M2 H2, Mv K pp M H M2 H2 → ∀ i d x H3, ds[i]? = some d → J.yld i H2 x H3 → SameP K pp H2 H3 ∧ Rep K pp M2 H3 d x
  go : ∀ M2 H2, Mv K pp M H M2 H2 → ∀ i, i < ds.length → J.go i H2
  stop : ∀ M2 H2, Mv K pp M H M2 H2 → ∀ i, ds.length ≤ i → J.stop i H2
theorem ItOkV.of {K : PySem.W.Frag} {pp : Option Addr} {J : It} {M : List Addr} {H : Hp} {vs : List V} {ds : List D} (o : ItOkV K pp J M H vs) (rd : Reps K pp M H ds vs) : ItOk K pp J M H ds where
  yld := fun M2 H2 m i d x H3 e y => by
    obtain ⟨v, e1, r⟩ := rd.get' e
    obtain ⟨rfl, e2⟩ := o.yld M2 H2 m i x H3 (List.getElem?_eq_some_iff.mp e1).1 y
    rw [e1] at e2
    cases e2
    exact ⟨.refl, r.mv m⟩
  go := fun M2 H2 m i h => o.go M2 H2 m i (by rw [← rd.length]; exact h)
  stop := fun M2 H2 m i h => o.stop M2 H2 m i (by rw [← rd.length]; exact h)
structure PID (X : Cx) (tg iter : Expr) (t : DA) : Prop where
  mono : ∀ ρ P P', (∀ d ρ', P d ρ' → P' d ρ') → t ρ P → t ρ P'
  run : ∃ wi : TI, PI X tg iter wi ∧ ∀ {F : Fx} M H σ ρ (R : It → Hp → Prop), RSt X.K F M H σ ρ →
    (t ρ fun ds ρ' => ∀ M' H' J, Mv X.K F.pp M H M' H' → RSt X.K F M' H' σ ρ' → ItOk X.K F.pp J M' H' ds → R J H') → wi σ H R
abbrev dFor (t : DA) (g : DG) (b : DTS) : DTS := fun E ρ => t ρ fun ds ρ' => dLoop g b ds E ρ'
theorem ds_for {tg iter : Expr} {body : List Stmt} {t : DA} {g : DG} {tb : DTS} {pos : Pos} (hp : PassesOwn (model X.prog X.w) X.A X.env X.xe) (hc : X.calm = true) (hi : PID X tg iter t) (hg : PGD X tg g) (hb : PSsD X body tb)
    (hs : ∀ x, foldedSetIterable iter X.env x = pure x := by intro _; rfl) : PSD X (.For tg iter body [] pos) (dFor t g tb) := by
  obtain ⟨wi, pi, ri⟩ := hi.run
  obtain ⟨G, pg, rg⟩ := hg.run
  obtain ⟨T, p, r⟩ := hb
  refine ⟨_, ps_for hp hc pi pg p hs, fun {F} M H σ ρ E D rs o h => ri M H σ ρ _ rs (hi.mono _ _ _ (fun ds ρ1 h M1 H1 J m1 rs1 ok => ?_) h)⟩
  refine ⟨fun i m σ2 H2 => ∃ M2 ρ2, m = ds.length - i ∧ i ≤ ds.length ∧ Mv X.K F.pp M1 H1 M2 H2 ∧ RSt X.K F M2 H2 σ2 ρ2 ∧ dLoop g tb (ds.drop i) E ρ2, ⟨ds.length, M1, ρ1, rfl, Nat.zero_le _, .refl, rs1, h⟩, ?_⟩
  rintro i m σ2 H2 ⟨M2, ρ2, rfl, hi2, m2, rs2, h2⟩
  by_cases hlt : i < ds.length
  · have e1 : ds[i]? = some ds[i] := by simp [hlt]
    rw [List.drop_eq_getElem_cons hlt] at h2
    refine .inr ⟨ok.go M2 H2 m2 i hlt, fun σ' H' => ∃ M' ρ', Mv X.K F.pp M1 H1 M' H' ∧ RSt X.K F M' H' σ' ρ' ∧ dLoop g tb (ds.drop (i + 1)) E ρ', fun σ' H' ⟨M', ρ', mm, rs', h'⟩ => ⟨ds.length - (i + 1), by omega, M', ρ', rfl, hlt, mm, rs', h'⟩, fun x H3 y => ?_⟩
    obtain ⟨sp, rx⟩ := ok.yld M2 H2 m2 i _ x H3 e1 y
    have m23 := m2.trans (sp.mv (M := M2))
    refine rg M2 H3 σ2 ρ2 _ _ _ (rs2.sameP sp) rx (hg.mono _ _ _ _ (fun ρ3 h3 M3 H3 σ3 m3 rs3 => ?_) h2)
    refine r M3 H3 σ3 ρ3 _ _ rs3 ⟨fun M4 H4 σ4 ρ4 m4 rs4 h4 => ⟨M4, ρ4, (m23.trans m3).trans m4, rs4, h4⟩, fun M4 H4 σ4 ρ4 m4 rs4 h4 => ?_, fun M4 H4 σ4 ρ4 m4 rs4 h4 => ⟨M4, ρ4, (m23.trans m3).trans m4, rs4, h4⟩, fun M4 H4 σ4 ρ4 d' v m4 rs4 r4 h4 => ?_⟩ h3
    · exact o.nx M4 H4 σ4 ρ4 (((m1.trans m23).trans m3).trans m4) rs4 h4
    · exact o.rt M4 H4 σ4 ρ4 d' v (((m1.trans m23).trans m3).trans m4) rs4 r4 h4
  · have e : i = ds.length := by omega
    refine .inl ⟨ok.stop M2 H2 m2 i (by omega), ?_⟩
    have hd : ds.drop i = [] := by rw [List.drop_eq_nil_iff]; omega
    rw [hd] at h2
    exact o.nx M2 H2 σ2 ρ2 (m1.trans m2) rs2 h2
abbrev diSeq (te : DE) : DA := fun ρ Q => te ρ fun d ρ' => match d with
  | .lst ds => Q ds ρ'
  | _ => False
abbrev diTup (te : DE) : DA := fun ρ Q => te ρ fun d ρ' => match d with
  | .tup ds => Q ds ρ'
  | _ => False
theorem di_list {tg l : Expr} (hl : PED X l te) : PID X tg l (diSeq te) := by
  obtain ⟨T, p, r⟩ := hl.run
  refine ⟨fun _ _ _ f h => hl.mono _ _ _ (fun d _ h => ?_) h, _, pi_list p, fun {F} M H σ ρ R rs h => r M H σ ρ _ rs (hl.mono _ _ _ (fun d ρ' h M' H' v m rs' rd => ?_) h)⟩
  · cases d <;> first | exact h.elim | exact f _ _ h
  · cases d with
    | lst ds =>
      simp only [Rep] at rd
      obtain ⟨a, xs, rfl, hm, hp, ha, rd⟩ := rd
      refine ⟨a, rfl, ⟨xs, SqL.of ha⟩, h M' H' _ m rs' (ItOkV.of (vs := xs) ⟨fun M2 H2 m2 i x H3 _ y => ?_, fun M2 H2 m2 i hi => ?_, fun M2 H2 m2 i hi => ?_⟩ rd)⟩
      · exact ⟨y.1, y.2 xs (SqL.of (m2.lst a xs ha hm hp).1)⟩
      · exact ⟨xs, xs[i], SqL.of (m2.lst a xs ha hm hp).1, by simp [hi]⟩
      · exact ⟨xs, SqL.of (m2.lst a xs ha hm hp).1, hi⟩
    | _ => exact h.elim
theorem di_tup {tg l : Expr} (hl : PED X l te) : PID X tg l (diTup te) := by
  obtain ⟨T, p, r⟩ := hl.run
  refine ⟨fun _ _ _ f h => hl.mono _ _ _ (fun d _ h => ?_) h, _, pi_tup p, fun {F} M H σ ρ R rs h => r M H σ ρ _ rs (hl.mono _ _ _ (fun d ρ' h M' H' v m rs' rd => ?_) h)⟩
  · cases d <;> first | exact h.elim | exact f _ _ h
  · cases d with
    | tup ds =>
      simp only [Rep] at rd
      obtain ⟨a, xs, rfl, ha, rd⟩ := rd
      refine ⟨a, rfl, ⟨xs, SqT.of ha⟩, h M' H' _ m rs' (ItOkV.of (vs := xs) ⟨fun M2 H2 m2 i x H3 _ y => ?_, fun M2 H2 m2 i hi => ?_, fun M2 H2 m2 i hi => ?_⟩ rd)⟩
      · exact ⟨y.1, y.2 xs (SqT.of (m2.tup a xs ha))⟩
      · exact ⟨xs, xs[i], SqT.of (m2.tup a xs ha), by simp [hi]⟩
      · exact ⟨xs, SqT.of (m2.tup a xs ha), hi⟩
    | _ => exact h.elim
def intsD (lo : Int) : Nat → List D
  | 0 => []
  | n + 1 => .int lo :: intsD (lo + 1) n
theorem reps_intsD {K : PySem.W.Frag} {pp : Option Addr} {M : List Addr} {H : Hp} : ∀ (n : Nat) (lo : Int), Reps K pp M H (intsD lo n) ((List.range n).map fun (i : Nat) => V.int (lo + i))
  | 0, _ => by simp [intsD, Reps]
  | n + 1, lo => by
    rw [List.range_succ_eq_map, List.map_cons, intsD]
    refine .cons (by simp [Rep]) ?_
    have := reps_intsD (K := K) (pp := pp) (M := M) (H := H) n (lo + 1)
    rw [List.map_map]
    refine (congrArg (Reps K pp M H (intsD (lo + 1) n)) (List.map_congr_left fun i _ => ?_)).mp this
    simp only [Function.comp]
    congr 1
    omega
abbrev diR1 (t : DA) : DA := fun ρ Q => t ρ fun ds ρ' => match ds with
  | [.int j] => (-(2 ^ 62) ≤ j ∧ j < 2 ^ 62) ∧ Q (intsD 0 j.toNat) ρ'
  | _ => False
theorem itOk_range {K : PySem.W.Frag} {pp : Option Addr} {M : List Addr} {H : Hp} {lo : Int} {n : Nat} : ItOkV K pp (Itr lo n) M H ((List.range n).map fun (i : Nat) => V.int (lo + i)) where
  yld := fun M2 H2 _ i x H3 hi y => by
    obtain ⟨e1, e2⟩ := y
    refine ⟨e1, ?_⟩
    have hi' : i < n := by simpa using hi
    simp [hi', e2]
  go := fun _ _ _ i hi => by show i < n; simpa using hi
  stop := fun _ _ _ i hi => by show n ≤ i; simpa using hi
variable {es : List Expr} {ea eb : Expr}
theorem di_range1 {tg : Expr} {p : Pos} (hg : Gl X "range") (hm : X.mg "range" = none) (ha : PAD X [ea] tl) (hs : starEach [ea] X.env = [(false, eval ea X.env)] := by rfl) : PID X tg (.Call (.Name "range" p) [ea] [] pos) (diR1 tl) := by
  obtain ⟨T, pa, r⟩ := ha.run
  refine ⟨fun _ _ _ f h => ha.mono _ _ _ (fun d _ h => ?_) h, _, pi_range1 hg hm pa hs, fun {F} M H σ ρ R rs h => r M H σ ρ _ rs (ha.mono _ _ _ (fun d ρ' h M' H' v m rs' rd => ?_) h)⟩
  · split at h
    · exact ⟨h.1, f _ _ h.2⟩
    · exact h.elim
  · split at h
    · rename_i j
      simp only [Reps, Rep] at rd
      obtain ⟨x, r, rfl, rfl, rfl⟩ := rd
      exact ⟨j, rfl, h.1.1, h.1.2, h.2 M' H' _ m rs' (itOk_range.of (reps_intsD _ _))⟩
    · exact h.elim
def dWhileN (c : DT) (b : DTS) : Nat → DEnds → DS → Prop
  | 0, _, _ => False
  | n + 1, E, ρ => c ρ fun k ρ' => Br k (b { E with nx := fun ρ2 => dWhileN c b n E ρ2, ct := fun ρ2 => dWhileN c b n E ρ2, bk := E.nx } ρ') (E.nx ρ')
abbrev dWhile (c : DT) (b : DTS) : DTS := fun E ρ => ∃ n, dWhileN c b n E ρ
theorem ds_while {body : List Stmt} {tb : DTS} (hp : PassesOwn (model X.prog X.w) X.A X.env X.xe) (hc : PTD X c tc) (hb : PSsD X body tb) : PSD X (.While c body [] pos) (dWhile tc tb) := by
  obtain ⟨C, pc, rc⟩ := hc.run
  obtain ⟨T, p, r⟩ := hb
  refine ⟨_, ps_while hp pc p, fun {F} M H σ ρ E D rs o h => ?_⟩
  obtain ⟨n, h⟩ := h
  refine ⟨fun m σ2 H2 => ∃ M2 ρ2, Mv X.K F.pp M H M2 H2 ∧ RSt X.K F M2 H2 σ2 ρ2 ∧ dWhileN tc tb m E ρ2, ⟨n, M, ρ, .refl, rs, h⟩, ?_⟩
  rintro m σ2 H2 ⟨M2, ρ2, m2, rs2, h2⟩
  cases m with
  | zero => exact h2.elim
  | succ m =>
    refine rc M2 H2 σ2 ρ2 _ rs2 (hc.mono _ _ _ (fun k ρ3 h3 M3 H3 m3 rs3 => ?_) h2)
    cases k with
    | false => exact iteF (o.nx M3 H3 σ2 ρ3 (m2.trans m3) rs3 (h3.no rfl))
    | true =>
      refine iteT ⟨fun σ' H' => ∃ M' ρ', Mv X.K F.pp M H M' H' ∧ RSt X.K F M' H' σ' ρ' ∧ dWhileN tc tb m E ρ', fun σ' H' h' => ⟨m, Nat.lt_succ_self _, h'⟩, ?_⟩
      refine r M3 H3 σ2 ρ3 { E with nx := fun ρ2 => dWhileN tc tb m E ρ2, ct := fun ρ2 => dWhileN tc tb m E ρ2, bk := E.nx } _ rs3 ⟨fun M4 H4 σ4 ρ4 m4 rs4 h4 => ⟨M4, ρ4, (m2.trans m3).trans m4, rs4, h4⟩, fun M4 H4 σ4 ρ4 m4 rs4 h4 => o.nx M4 H4 σ4 ρ4 ((m2.trans m3).trans m4) rs4 h4, fun M4 H4 σ4 ρ4 m4 rs4 h4 => ⟨M4, ρ4, (m2.trans m3).trans m4, rs4, h4⟩, fun M4 H4 σ4 ρ4 d' v m4 rs4 r4 h4 => o.rt M4 H4 σ4 ρ4 d' v ((m2.trans m3).trans m4) rs4 r4 h4⟩ (h3.yes rfl)
end
end DL
namespace DL
open PySem PySem.Spec L2
open PyProof.Rows hiding St
variable [TB]
variable [Frm]
def dstart (n : Nat) (ds : List D) : DS := ds.map .val ++ List.replicate (n - ds.length) .nil
theorem reps_start {K : PySem.W.Frag} {F : Fx} {M : List Addr} {H : Hp} : ∀ {ds : List D} {vs : List V}, Reps K F.pp M H ds vs → ∀ (i : Nat) s o, (ds.map Sl.val)[i]? = some s → (vs.map some)[i]? = some o → RSl K F M H s o
  | [], _, _, _, _, _, h1, _ => by simp at h1
  | d :: ds, _, h, 0, s, o, h1, h2 => by
    simp only [Reps] at h
    obtain ⟨x, r, rfl, h, _⟩ := h
    simp at h1 h2
    subst h1 h2
    exact ⟨x, rfl, h⟩
  | d :: ds, _, h, i + 1, s, o, h1, h2 => by
    simp only [Reps] at h
    obtain ⟨x, r, rfl, _, h⟩ := h
    exact reps_start h i s o (by simpa using h1) (by simpa using h2)
theorem val_not_own {ds : List D} {n i : Nat} {es : List D} (h : (ds.map Sl.val ++ List.replicate n Sl.nil)[i]? = some (.own es)) : False := by
  have := List.mem_of_getElem? h
  rcases List.mem_append.mp this with h | h
  · obtain ⟨d, _, e⟩ := List.mem_map.mp h; cases e
  · have := List.eq_of_mem_replicate h; cases this
theorem val_not_obj {ds : List D} {n i : Nat} {q : O} (h : (ds.map Sl.val ++ List.replicate n Sl.nil)[i]? = some (.obj q)) : False := by
  have := List.mem_of_getElem? h
  rcases List.mem_append.mp this with h | h
  · obtain ⟨d, _, e⟩ := List.mem_map.mp h; cases e
  · have := List.eq_of_mem_replicate h; cases this
theorem rst_start {K : PySem.W.Frag} {pp : Option Addr} {M : List Addr} {H : Hp} {ds : List D} {vs : List V} {N : List Str} (lv : Lv pp M H) (r : Reps K pp M H ds vs) (lk : Frm.L K ⟨pp, M, H⟩ M H) : RSt K ⟨pp, M, H⟩ M H (L2.start N vs) (dstart N.length ds) := by
  have hl := r.length
  refine ⟨by simp [L2.start, dstart, hl], fun i s o h1 h2 => ?_, OwF.none (fun i s e => ⟨fun ds z => (val_not_own (z ▸ e)).elim, fun q z => (val_not_obj (z ▸ e)).elim⟩), fun a h => h, .refl, lv.m, lv.toLv0, ⟨lk, lv.t⟩⟩
  unfold dstart at h1
  unfold L2.start at h2
  by_cases hi : i < ds.length
  · rw [List.getElem?_append_left (by simpa using hi)] at h1
    rw [List.getElem?_append_left (by simpa [← hl] using hi)] at h2
    exact reps_start (F := ⟨pp, M, H⟩) r i s o h1 h2
  · rw [List.getElem?_append_right (by simp; omega)] at h1
    have := List.eq_of_mem_replicate (List.mem_of_getElem? h1)
    subst this
    trivial
omit [Frm] in
theorem fnD {P : Program} {w : World} {K : PySem.W.Frag} {mg : Str → Option Value} {base : Heap} {x qual : Str} {st : Stmt} {f : Addr} {fd : FuncData} {N ps : List Str} {k : Nat} {g : DSp} {t : DTS} (Fn : Fun K x qual st f fd) (S : FnScope N ps (defScope st))
    (hb : ∀ (cdv : Value) (A : Around) (outer : List Env) (s : Shared) (H : Hp) (E : XK), Room k (A.deeper (envOfC qual (defScope st) s.heap.objs.size f cdv)) → @PSsD _ Frm.free (cxOf CX0 P w K mg base N qual (defScope st) f cdv A outer s H E).nox (defBody st) t)
    (hg : ∀ ds Q, ds.length = ps.length → g ds Q → t { nx := fun _ => Q .non, rt := Q } (dstart N.length ds)) : FnOk P w K mg base CX0 (k + 1) f fd ps (spD K ps.length g) := by
  refine Fn.ok S (fun vs H Q E h => ?_) (fun cdv A outer s H vs Q E hr h => ?_)
  · obtain ⟨pp, M, ds, _, r, e, _⟩ := h
    rw [← r.length, e]
  · obtain ⟨pp, M, ds, lv, r, e, h⟩ := h
    obtain ⟨T, p, run⟩ := hb cdv A outer s H E hr
    refine ⟨T, p, run M H _ _ _ _ (rst_start lv r trivial) ⟨fun M' H' σ' ρ' m rs q => ?_, fun _ _ _ _ _ _ q => q, fun _ _ _ _ _ _ q => q, fun M' H' σ' ρ' d v m rs rd q => ?_⟩ (hg ds _ e h)⟩
    · exact q H' .non rs.sameT (by simp only [Rep])
    · exact q H' v rs.sameT (rd.mv (.less rs.sub))
section
variable {X : Cx} {pp : Option Addr}
def g2I (C : Int → Int → Prop) (f : Int → Int → D) : D → D → (D → Prop) → Prop
  | .int i, .int j, P => C i j ∧ P (f i j)
  | _, _, _ => False
def g2I0 (f : Int → Int → D) : D → D → (D → Prop) → Prop
  | .int i, .int j, P => P (f i j)
  | _, _, _ => False
theorem OpD.ofI {f : Value → Value → Sem Value} {C : Int → Int → Prop} {h : Int → Int → V} {h' : Int → Int → D} (o : OpR X f (rI C h)) (e : ∀ pp M H i j, Rep X.K pp M H (h' i j) (h i j)) : OpD X f (g2I C h') := by
  refine ⟨fun x y P P' f h => ?_, _, o, fun {pp} M H x y v u Q _ rx ry h => ?_⟩
  · cases x <;> cases y <;> first | exact h.elim | exact ⟨h.1, f _ h.2⟩
  · cases x <;> first | exact h.elim | skip
    cases y <;> first | exact h.elim | skip
    simp only [Rep] at rx ry
    exact ⟨_, _, rx, ry, h.1, h.2 H _ .refl (e _ M H _ _)⟩
theorem OpD.ofI0 {f : Value → Value → Sem Value} {h : Int → Int → V} {h' : Int → Int → D} (o : OpR X f (rI0 h)) (e : ∀ pp M H i j, Rep X.K pp M H (h' i j) (h i j)) : OpD X f (g2I0 h') := by
  refine ⟨fun x y P P' f h => ?_, _, o, fun {pp} M H x y v u Q _ rx ry h => ?_⟩
  · cases x <;> cases y <;> first | exact h.elim | exact f _ h
  · cases x <;> first | exact h.elim | skip
    cases y <;> first | exact h.elim | skip
    simp only [Rep] at rx ry
    exact ⟨_, _, rx, ry, h H _ .refl (e _ M H _ _)⟩
theorem od_add : OpD X (binaryOp .Add) (g2I0 fun i j => .int (i + j)) := .ofI0 op_add fun _ _ _ _ _ => rep_int
theorem od_sub : OpD X (binaryOp .Sub) (g2I0 fun i j => .int (i - j)) := .ofI0 op_sub fun _ _ _ _ _ => rep_int
theorem od_mul : OpD X (binaryOp .Mult) (g2I CMulB fun i j => .int (i * j)) := .ofI op_mulB fun _ _ _ _ _ => rep_int
theorem od_mod : OpD X (binaryOp .Mod) (g2I (fun _ j => 0 < j) fun i j => .int (i % j)) := .ofI op_mod fun _ _ _ _ _ => rep_int
theorem od_modN : OpD X (binaryOp .Mod) (g2I (fun _ j => j ≠ 0) fun i j => .int (i.fmod j)) := .ofI op_modN fun _ _ _ _ _ => rep_int
theorem od_fdiv : OpD X (binaryOp .FloorDiv) (g2I CDivP fun i j => .int (i / j)) := .ofI op_fdivB fun _ _ _ _ _ => rep_int
theorem od_fdivZ : OpD X (binaryOp .FloorDiv) (g2I CDivZ fun i j => .int (i.fdiv j)) := .ofI op_fdivZ fun _ _ _ _ _ => rep_int
theorem od_pow : OpD X (binaryOp .Pow) (g2I CPow fun i j => .int (i ^ j.toNat)) := .ofI op_pow fun _ _ _ _ _ => rep_int
theorem od_lt : OpD X (compareOp .Lt) (g2I0 fun i j => .bl (decide (i < j))) := .ofI0 op_lt fun _ _ _ _ _ => rep_bl
theorem od_gt : OpD X (compareOp .Gt) (g2I0 fun i j => .bl (decide (j < i))) := .ofI0 op_gt fun _ _ _ _ _ => rep_bl
theorem od_ge : OpD X (compareOp .GtE) (g2I0 fun i j => .bl (decide (j ≤ i))) := .ofI0 op_ge fun _ _ _ _ _ => rep_bl
def isNon : D → Bool
  | .non => true
  | _ => false
theorem isNon_rep {K : PySem.W.Frag} {M : List Addr} {H : Hp} {d : D} {v : V} (r : Rep K pp M H d v) : decide (v = .non) = isNon d := by
  cases d <;> simp only [Rep] at r
  case non => subst r; rfl
  case bl => subst r; rfl
  case int => subst r; rfl
  case str => subst r; rfl
  case ty => subst r; rfl
  case tup => obtain ⟨a, xs, rfl, _⟩ := r; rfl
  case lst => obtain ⟨a, xs, rfl, _⟩ := r; rfl
  case dK => obtain ⟨a, xs, rfl, _⟩ := r; rfl
  case dT => obtain ⟨a, xs, rfl, _⟩ := r; rfl
  case pen => obtain ⟨a, rfl, _⟩ := r; rfl
  case exc => obtain ⟨a, rfl, _⟩ := r; rfl
  case exa => obtain ⟨a, dx, rfl, _⟩ := r; rfl
  case cls => subst r; rfl
def gIsN (n : Bool) : D → D → (D → Prop) → Prop
  | x, .non, P => P (.bl (if n then !isNon x else isNon x))
  | _, _, _ => False
theorem od_isN : OpD X (compareOp .Is) (gIsN false) := by
  refine ⟨fun x y P P' f h => ?_, _, op_isN, fun {pp} M H x y v u Q _ rx ry h => ?_⟩
  · cases y <;> first | exact h.elim | exact f _ h
  · cases y <;> first | exact h.elim | skip
    simp only [Rep] at ry
    exact ⟨ry, h H _ .refl (by rw [isNon_rep rx]; exact rep_bl)⟩
theorem od_notN : OpD X (compareOp .IsNot) (gIsN true) := by
  refine ⟨fun x y P P' f h => ?_, _, op_notN, fun {pp} M H x y v u Q _ rx ry h => ?_⟩
  · cases y <;> first | exact h.elim | exact f _ h
  · cases y <;> first | exact h.elim | skip
    simp only [Rep] at ry
    exact ⟨ry, h H _ .refl (by rw [isNon_rep rx]; exact rep_bl)⟩
structure UnD (X : Cx) (f : Value → Sem Value) (g : D → (D → Prop) → Prop) : Prop where
  mono : ∀ x P P', (∀ d, P d → P' d) → g x P → g x P'
  run : ∃ r, UnR X f r ∧ ∀ {pp : Option Addr} M H x v (Q : VK), Lv pp M H → Rep X.K pp M H x v → g x (fun d => ∀ H' w, SameP X.K pp H H' → Rep X.K pp M H' d w → Q w H') → r v H Q
abbrev dUn (g : D → (D → Prop) → Prop) (ta : DE) : DE := fun ρ Q => ta ρ fun x ρ1 => g x fun d => Q d ρ1
theorem de_un {op : UnaryOp} {g : D → (D → Prop) → Prop} {a : Expr} {ta : DE} {pos : Pos} (ho : UnD X (unaryOp op) g) (ha : PED X a ta) : PED X (.UnaryOp op a pos) (dUn g ta) := by
  obtain ⟨r, hr, hg⟩ := ho.run
  obtain ⟨Ta, pa, ra⟩ := ha.run
  refine ⟨fun _ _ _ f h => ha.mono _ _ _ (fun _ _ h => ho.mono _ _ _ (fun _ h => f _ _ h) h) h, _, pe_un hr pa, fun {F} M H σ ρ Q rs h => ra M H σ ρ _ rs (ha.mono _ _ _ (fun x ρ1 h M1 H1 v m1 rs1 r1 => ?_) h)⟩
  exact hg M1 H1 x v _ rs1.liv r1 (ho.mono _ _ _ (fun d h H' w s r => h M1 H' w (m1.trans s.mv) (rs1.sameP s) r) h)
def gNeg : D → (D → Prop) → Prop
  | .int i, P => P (.int (-i))
  | _, _ => False
theorem ud_neg : UnD X (unaryOp .USub) gNeg := by
  refine ⟨fun x P P' f h => ?_, _, un_neg, fun {pp} M H x v Q _ rx h => ?_⟩
  · cases x <;> first | exact h.elim | exact f _ h
  · cases x <;> first | exact h.elim | skip
    simp only [Rep] at rx
    exact ⟨_, rx, h H _ .refl rep_int⟩
def isIntD : D → Bool
  | .int _ => true
  | .bl _ => true
  | _ => false
def isBoolD : D → Bool
  | .bl _ => true
  | _ => false
def isTupD : D → Bool
  | .tup _ => true
  | _ => false
def isLstD : D → Bool
  | .lst _ => true
  | _ => false
def flesh : D → Bool
  | .pen => false
  | .exc _ => false
  | .exa _ _ => false
  | .cls _ => false
  | .ty _ => false
  | _ => true
theorem kn_rep {K : PySem.W.Frag} {M : List Addr} {H : Hp} {d : D} {v : V} (r : Rep K pp M H d v) (f : flesh d = true) : knV H v := by
  cases d <;> first | cases f | skip
  all_goals simp only [Rep] at r
  case non => subst r; trivial
  case bl => subst r; trivial
  case int => subst r; trivial
  case str => subst r; trivial
  case tup => obtain ⟨a, xs, rfl, h, _⟩ := r; exact .inr (.inr (.inl ⟨xs, h⟩))
  case lst => obtain ⟨a, xs, rfl, _, _, h, _⟩ := r; exact .inl ⟨xs, h⟩
  case dK => obtain ⟨a, xs, rfl, _, _, h, _⟩ := r; exact .inr (.inr (.inr (.inl ⟨xs, h⟩)))
  case dT => obtain ⟨a, xs, rfl, _, _, h, _⟩ := r; exact .inr (.inr (.inr (.inr ⟨xs, h⟩)))
def gIs (T : String) (f : D → Bool) : DSp := fun ds P => match ds with
  | [d, .ty T'] => T' = T ∧ flesh d = true ∧ P (.bl (f d))
  | _ => False
theorem CallD.isOf {T : String} {f : Hp → V → Bool} {fD : D → Bool} (hc : CallR X (.builtin "isinstance") (fun xs H Q => ∃ x, xs = [x, .ty T] ∧ knV H x ∧ Q (.bl (f H x)) H))
    (e : ∀ pp M H d v, Rep X.K pp M H d v → flesh d = true → f H v = fD d) : CallD X (.builtin "isinstance") (gIs T fD) := by
  refine ⟨fun ds P P' f h => ?_, _, hc, fun {pp} M H ds vs Q _ r h => ?_⟩
  · unfold gIs at h ⊢; split at h
    · exact ⟨h.1, h.2.1, f _ h.2.2⟩
    · exact h.elim
  · unfold gIs at h; split at h
    case h_2 => exact h.elim
    · rename_i d T'
      obtain ⟨e1, e2, h⟩ := h
      simp only [Reps] at r
      obtain ⟨x, r, rfl, rx, y, r', rfl, ry, rfl⟩ := r
      simp only [Rep] at ry
      subst ry e1
      exact ⟨x, rfl, kn_rep rx e2, h H _ .refl (by rw [e _ M H d x rx e2]; exact rep_bl)⟩
theorem cd_is_int : CallD X (.builtin "isinstance") (gIs "int" isIntD) := .isOf call_is_int fun pp M H d v r _ => by
  cases d <;> simp only [Rep] at r
  case non => subst r; rfl
  case bl => subst r; rfl
  case int => subst r; rfl
  case str => subst r; rfl
  case ty => subst r; rfl
  case tup => obtain ⟨a, xs, rfl, _⟩ := r; rfl
  case lst => obtain ⟨a, xs, rfl, _⟩ := r; rfl
  case dK => obtain ⟨a, xs, rfl, _⟩ := r; rfl
  case dT => obtain ⟨a, xs, rfl, _⟩ := r; rfl
  case pen => obtain ⟨a, rfl, _⟩ := r; rfl
  case exc => obtain ⟨a, rfl, _⟩ := r; rfl
  case exa => obtain ⟨a, dx, rfl, _⟩ := r; rfl
  case cls => subst r; rfl
theorem cd_is_bool : CallD X (.builtin "isinstance") (gIs "bool" isBoolD) := .isOf call_is_bool fun pp M H d v r _ => by
  cases d <;> simp only [Rep] at r
  case non => subst r; rfl
  case bl => subst r; rfl
  case int => subst r; rfl
  case str => subst r; rfl
  case ty => subst r; rfl
  case tup => obtain ⟨a, xs, rfl, _⟩ := r; rfl
  case lst => obtain ⟨a, xs, rfl, _⟩ := r; rfl
  case dK => obtain ⟨a, xs, rfl, _⟩ := r; rfl
  case dT => obtain ⟨a, xs, rfl, _⟩ := r; rfl
  case pen => obtain ⟨a, rfl, _⟩ := r; rfl
  case exc => obtain ⟨a, rfl, _⟩ := r; rfl
  case exa => obtain ⟨a, dx, rfl, _⟩ := r; rfl
  case cls => subst r; rfl
theorem cd_is_tuple : CallD X (.builtin "isinstance") (gIs "tuple" isTupD) := .isOf call_is_tuple fun pp M H d v r f => by
  cases d <;> first | cases f | skip
  all_goals simp only [Rep] at r
  case non => subst r; rfl
  case bl => subst r; rfl
  case int => subst r; rfl
  case str => subst r; rfl
  case tup => obtain ⟨a, xs, rfl, h, _⟩ := r; simp [isTupV, h, isTupO, isTupD]
  case lst => obtain ⟨a, xs, rfl, _, _, h, _⟩ := r; simp [isTupV, h, isTupO, isTupD]
  case dK => obtain ⟨a, xs, rfl, _, _, h, _⟩ := r; simp [isTupV, h, isTupO, isTupD]
  case dT => obtain ⟨a, xs, rfl, _, _, h, _⟩ := r; simp [isTupV, h, isTupO, isTupD]
theorem cd_is_list : CallD X (.builtin "isinstance") (gIs "list" isLstD) := .isOf call_is_list fun pp M H d v r f => by
  cases d <;> first | cases f | skip
  all_goals simp only [Rep] at r
  case non => subst r; rfl
  case bl => subst r; rfl
  case int => subst r; rfl
  case str => subst r; rfl
  case tup => obtain ⟨a, xs, rfl, h, _⟩ := r; simp [isLstV, h, isLstO, isLstD]
  case lst => obtain ⟨a, xs, rfl, _, _, h, _⟩ := r; simp [isLstV, h, isLstO, isLstD]
  case dK => obtain ⟨a, xs, rfl, _, _, h, _⟩ := r; simp [isLstV, h, isLstO, isLstD]
  case dT => obtain ⟨a, xs, rfl, _, _, h, _⟩ := r; simp [isLstV, h, isLstO, isLstD]
def gLen : DSp := fun ds P => match ds with
  | [.tup xs] => P (.int xs.length)
  | [.lst xs] => P (.int xs.length)
  | _ => False
theorem cd_len : CallD X (.builtin "len") gLen := by
  refine ⟨fun ds P P' f h => ?_, _, call_lenH, fun {pp} M H ds vs Q _ r h => ?_⟩
  · unfold gLen at h ⊢; split at h
    · exact f _ h
    · exact f _ h
    · exact h.elim
  · unfold gLen at h; split at h
    case h_3 => exact h.elim
    · simp only [Reps, Rep] at r
      obtain ⟨x, r, rfl, ⟨a, ys, rfl, ha, ry⟩, rfl⟩ := r
      exact ⟨a, ys.length, rfl, by rw [ha]; rfl, h H _ .refl (by rw [← ry.length]; exact rep_int)⟩
    · simp only [Reps, Rep] at r
      obtain ⟨x, r, rfl, ⟨a, ys, rfl, _, _, ha, ry⟩, rfl⟩ := r
      exact ⟨a, ys.length, rfl, by rw [ha]; rfl, h H _ .refl (by rw [← ry.length]; exact rep_int)⟩
def gAbs : DSp := fun ds P => match ds with
  | [.int i] => P (.int (if i < 0 then -i else i))
  | _ => False
theorem cd_abs : CallD X (.builtin "abs") gAbs := by
  refine ⟨fun ds P P' f h => ?_, _, call_abs, fun {pp} M H ds vs Q _ r h => ?_⟩
  · unfold gAbs at h ⊢; split at h
    · exact f _ h
    · exact h.elim
  · unfold gAbs at h; split at h
    case h_2 => exact h.elim
    · rename_i i
      simp only [Reps, Rep] at r
      obtain ⟨x, r, rfl, rfl, rfl⟩ := r
      exact ⟨i, rfl, h H _ .refl rep_int⟩
def gTupOf : DSp := fun ds P => match ds with
  | [.tup xs] => P (.tup xs)
  | [.lst xs] => P (.tup xs)
  | _ => False
theorem cd_tuple : CallD X (.type "tuple") gTupOf := by
  refine ⟨fun ds P P' f h => ?_, _, call_tuple_of, fun {pp} M H ds vs Q _ r h => ?_⟩
  · unfold gTupOf at h ⊢; split at h
    · exact f _ h
    · exact f _ h
    · exact h.elim
  · unfold gTupOf at h; split at h
    case h_3 => exact h.elim
    · simp only [Reps] at r
      obtain ⟨x, r, rfl, rx, rfl⟩ := r
      have rx' := rx
      simp only [Rep] at rx
      obtain ⟨a, ys, rfl, ha, ry⟩ := rx
      exact ⟨a, ys, rfl, .inr ⟨SqT.of ha, h H _ .refl rx'⟩⟩
    · simp only [Reps, Rep] at r
      obtain ⟨x, r, rfl, ⟨a, ys, rfl, _, _, ha, ry⟩, rfl⟩ := r
      refine ⟨a, ys, rfl, .inl ⟨SqL.of ha, fun l hl => h _ _ (.new hl) ?_⟩⟩
      simp only [Rep]
      exact ⟨l, ys, rfl, upd_same, ry.mv (.new hl)⟩
abbrev dListOf (te : DE) : DA := fun ρ Q => te ρ fun d ρ' => match d with
  | .tup xs => Q xs ρ'
  | .lst xs => Q xs ρ'
  | _ => False
theorem dl_list {x : Str} {e : Expr} {p pos : Pos} {te : DE} (hg : Gl X x) (hm : X.mg x = none) (hv : bootBuiltins x = some (.type "list")) (he : PED X e te) (hn : x ≠ "__name__" := by decide) (hdb : (x == ("__debug__" : Str)) = false := by decide)
    (hs : starEach [e] X.env = (false, eval e X.env) :: starEach [] X.env := by rfl) (hpl : (backTo pos (starEach [] X.env)).any (·.1) = false := by rfl) : PLD X (.Call (.Name x p) [e] [] pos) (dListOf te) := by
  obtain ⟨T, pa, ra⟩ := he.run
  refine ⟨fun _ _ _ f h => he.mono _ _ _ (fun d _ h => ?_) h, _, pe_callTy call_list_of hg hm hv (pa_cons pa pa_nil hs) hn hdb hs hpl, fun {F} M H σ ρ Q rs h => ra M H σ ρ _ rs (he.mono _ _ _ (fun d ρ1 h M1 H1 v m1 rs1 r1 => ?_) h)⟩
  · cases d <;> first | exact h.elim | exact f _ _ h
  · cases d <;> first | exact h.elim | skip
    all_goals simp only [Rep] at r1
    case tup xs =>
      obtain ⟨a, ys, rfl, ha, ry⟩ := r1
      exact ⟨a, ys, rfl, .inr (SqT.of ha), fun l hl => h M1 H1 _ l ys m1 rs1 hl rfl ry⟩
    case lst xs =>
      obtain ⟨a, ys, rfl, _, _, ha, ry⟩ := r1
      exact ⟨a, ys, rfl, .inl (SqL.of ha), fun l hl => h M1 H1 _ l ys m1 rs1 hl rfl ry⟩
def opt (o : Option D) (P : D → Prop) : Prop := match o with
  | some d => P d
  | none => False
theorem opt_mono {o : Option D} {P P' : D → Prop} (f : ∀ d, P d → P' d) (h : opt o P) : opt o P' := by cases o <;> first | exact h.elim | exact f _ h
theorem opt_some {o : Option D} {P : D → Prop} (h : opt o P) : ∃ d, o = some d ∧ P d := by cases o <;> first | exact h.elim | exact ⟨_, rfl, h⟩
def gIx : D → D → (D → Prop) → Prop
  | .tup xs, .int i, P => opt (atI xs i) P
  | .lst xs, .int i, P => opt (atI xs i) P
  | _, _, _ => False
theorem atI_rep {K : PySem.W.Frag} {M : List Addr} {H : Hp} {ds : List D} {xs : List V} {i : Int} {d : D} (r : Reps K pp M H ds xs) (h : atI ds i = some d) : ∃ v, atI xs i = some v ∧ Rep K pp M H d v := by
  unfold atI at h ⊢
  rw [r.length] at h
  cases q : ixN xs.length i with
  | none => rw [q] at h; cases h
  | some j =>
    rw [q] at h
    obtain ⟨v, e1, e2⟩ := r.get' (i := j) h
    exact ⟨v, e1, e2⟩
theorem de_ix {a b : Expr} {ta tb : DE} {pos : Pos} (ha : PED X a ta) (hb : PED X b tb) (hs : PlainIx b) : PED X (.Subscript a b pos) (dOp gIx ta tb) := by
  have gm : ∀ x y P P', (∀ d, P d → P' d) → gIx x y P → gIx x y P' := fun x y P P' f h => by
    cases x <;> first | exact h.elim | skip
    all_goals cases y <;> first | exact h.elim | exact opt_mono f h
  obtain ⟨Ta, pa, ra⟩ := ha.run
  obtain ⟨Tb, pb, rb⟩ := hb.run
  refine ⟨dOp_mono gm ha hb, _, pe_ix (IxR.or ix_tupH ix_listH) pa pb hs, fun {F} M H σ ρ Q rs h => dOp_run (fun M H x y v u Q _ rx ry h => ?_) gm ha hb ra rb rs h⟩
  cases x <;> first | exact h.elim | skip
  all_goals cases y <;> first | exact h.elim | skip
  all_goals
    obtain ⟨d, e, h⟩ := opt_some h
    simp only [Rep] at rx ry
  · obtain ⟨p, xs, rfl, hp, r⟩ := rx
    obtain ⟨z, e2, rz⟩ := atI_rep r e
    exact .inl ⟨p, xs, _, z, rfl, ry, hp, e2, h H z .refl rz⟩
  · obtain ⟨p, xs, rfl, _, _, hp, r⟩ := rx
    obtain ⟨z, e2, rz⟩ := atI_rep r e
    exact .inr ⟨p, xs, _, z, rfl, ry, hp, e2, h H z .refl rz⟩
end
end DL
namespace DL
open PySem PySem.Spec L2
open PyProof.Rows hiding St
variable [TB]
variable [Frm]
section
variable {X : Cx} {F : Fx}
abbrev dPar (i j : Nat) (t : DA) : DTS := fun E ρ => t ρ fun ds ρ' => match ds with
  | [x, y] => E.nx ((ρ'.set i (.val x)).set j (.val y))
  | _ => False
theorem ds_par {i j : Nat} {x y : Str} {a b : Expr} {t : DA} {px py pt pos : Pos} {kt k2 pt2} (hc : X.calm = true) (hN : X.N.Nodup) (hi : X.N[i]? = some x) (hj : X.N[j]? = some y) (hij : i ≠ j)
    (hx : X.env.scope.names.lookup x = some .local) (hy : X.env.scope.names.lookup y = some .local) (ha : PAD X [a, b] t)
    (hw : swappedStores [.Tuple [.Name x px, .Name y py] kt pt] (.Tuple [a, b] k2 pt2) X.env = pure (some [x, y]))
    (hs : swapsWithSole [.Tuple [.Name x px, .Name y py] kt pt] (.Tuple [a, b] k2 pt2) pos.line X.env = pure false := by rfl) :
    PSD X (.Assign [.Tuple [.Name x px, .Name y py] kt pt] (.Tuple [a, b] k2 pt2) pos) (dPar i j t) := by
  obtain ⟨T, p, r⟩ := ha.run
  refine ⟨_, ps_par hc hN hi hj hij hx hy p hw hs, fun {F} M H σ ρ E D rs o h => r M H σ ρ _ rs (ha.mono _ _ _ (fun ds ρ' h M' H' vs m rs' rd => ?_) h)⟩
  split at h
  case h_2 => exact h.elim
  · simp only [Reps] at rd
    obtain ⟨v, _, rfl, r1, w, _, rfl, r2, rfl⟩ := rd
    exact ⟨v, w, rfl, o.nx M' H' _ _ m ((rs'.set r1 i).set r2 j) h⟩
def dAppS (i : Nat) (E : DEnds) (ρ : DS) (d : D) : Sl → Prop
  | .own ds => ds.length < sizeLine ∧ E.nx (ρ.set i (.own (ds ++ [d])))
  | _ => False
def isOwn : Sl → Prop
  | .own _ => True
  | _ => False
abbrev dApp (i : Nat) (te : DE) : DTS := fun E ρ => isOwn (slot ρ i) ∧ te ρ fun d ρ' => dAppS i E ρ' d (slot ρ' i)
theorem RSt.write {K : PySem.W.Frag} {M : List Addr} {H : Hp} {σ : St} {ρ : DS} {l : Addr} {ys : List V} {ds es : List D} {i : Nat} (r : RSt K F M H σ ρ) (h : ρ[i]? = some (.own ds)) (hl : σ[i]? = some (some (.ref l))) (hd : Reps K F.pp M H es ys) :
    Mv K F.pp M H M (upd H l (.lst ys)) ∧ RSt K F M (upd H l (.lst ys)) σ (ρ.set i (.own es)) := by
  obtain ⟨l', xs, e, hm, h0, hp, hl', hr⟩ := r.sl i _ _ h hl
  cases e
  have m : Mv K F.pp M H M (upd H l (.lst ys)) := .write hl' hm hp
  refine ⟨m, ⟨by simp [r.len], fun j q o h1 h2 => ?_, r.ow.step m i (fun _ _ => rfl) (fun j e => List.getElem?_set_ne (Ne.symm e)) (fun A hA hB => ⟨A, fun s o e1 e2 => ?_, fun b hb => ⟨(hB b hb).1, (hB b hb).2.1, (hB b hb).2.2, .inl hb⟩, fun a ha _ _ hn => ⟨ha, fun x e _ => ?_⟩⟩), r.sub, ?_, r.old, ?_, r.lk.cl m⟩⟩
  · by_cases e : i = j
    · subst e
      rw [hl] at h2
      rw [set_self h1]
      cases h2
      exact ⟨l, ys, rfl, hm, h0, hp, upd_same, hd.mv m⟩
    · rw [List.getElem?_set_ne e] at h1
      have q' := r.sl j q o h1 h2
      cases q with
      | nil => trivial
      | val d => obtain ⟨v, e, q⟩ := q'; exact ⟨v, e, q.mv m⟩
      | pin w d => obtain ⟨v, e, ew, q⟩ := q'; exact ⟨v, e, ew, q.mv m⟩
      | own es =>
        obtain ⟨l', zs, rfl, hm', h0', hp', hl'', hr'⟩ := q'
        refine ⟨l', zs, rfl, hm', h0', hp', ?_, hr'.mv m⟩
        rw [upd_ne]
        · exact hl''
        · rintro rfl
          exact e (r.own i j _ _ _ h h1 hl h2)
      | obj q => exact q'
  · rw [set_self e1]
    exact hA _ _ h e2
  · obtain ⟨l2, e2, e3⟩ := hA _ _ h hl
    cases e2
    rw [upd_ne (by rintro rfl; exact hn (by rw [e3]; simp))]
    exact e
  · refine ⟨fun b o e n => ?_, fun p e h => m.pen p e (r.same.pen p e h), fun b e => ?_⟩
    · rw [upd_ne (by rintro rfl; rw [h0] at e; cases e)]
      exact r.same.keep b o e n
    · by_cases z : b = l
      · subst z; rw [upd_same]; intro z; cases z
      · rw [upd_ne z]; exact r.same.live b e
  · refine ⟨fun a ha => ?_, fun p e => ?_⟩
    · by_cases z : a = l
      · subst z; rw [upd_same]; intro z; cases z
      · rw [upd_ne z]; exact r.liv.m a ha
    · by_cases z : p = l
      · subst z; rw [upd_same]; intro z; cases z
      · rw [upd_ne z]; exact r.liv.p p e
theorem ds_app {i : Nat} {o e : Expr} {apos cpos pos : Pos} {te : DE} (ho : PE X o (tVar i)) (he : PED X e te)
    (hbase : attributeBase o "append" X.env (eval o X.env) = eval o X.env := by rfl)
    (hfew : ((backTo cpos (starEach [e] X.env)).all (fun x => !x.1) && (backToKw cpos (keywordEach [] X.env)).all (fun x => x.1.isSome)
      && decide ([e].length + ([] : List Keyword).length + (if ([] : List Keyword).isEmpty then 0 else 1) < 30)) = true := by rfl)
    (hline : (apos.endLine == cpos.line) = true := by rfl) (hst : starEach [e] X.env = (false, eval e X.env) :: starEach [] X.env := by rfl) (hpl : (backTo cpos (starEach [] X.env)).any (·.1) = false := by rfl)
    (hs : swapsWith (.Call (.Attribute o "append" apos) [e] [] cpos) none pos.line X.env = pure false := by rfl) : PSD X (.Expr (.Call (.Attribute o "append" apos) [e] [] cpos) pos) (dApp i te) := by
  have hm : PE X (.Call (.Attribute o "append" apos) [e] [] cpos) (tBM X.K "list" rAppend (tVar i) (tCons (Classical.choose he.run) tNil)) := pe_bm PySem.F.plainAttrs_list PySem.F.slot_list_append PySem.F.type_list_append mt_append ho (pa_cons (Classical.choose_spec he.run).1 pa_nil hst) hbase hfew hline hst hpl
  obtain ⟨_, r⟩ := Classical.choose_spec he.run
  refine ⟨_, ps_expr hm hs, fun {F} M H σ ρ E D rs oo h => ?_⟩
  obtain ⟨h0, h⟩ := h
  cases q : slot ρ i with
  | nil => rw [q] at h0; exact h0.elim
  | val d => rw [q] at h0; exact h0.elim
  | pin w d => rw [q] at h0; exact h0.elim
  | obj z => rw [q] at h0; exact h0.elim
  | own ds =>
    obtain ⟨oo1, ho1, l, xs, rfl, hm1, h01, hp1, hl1, hr1⟩ := rs.at (slot_get q (by intro z; cases z))
    refine ⟨.ref l, ho1, .inl ⟨rfl, xs, SqL.of hl1⟩, ?_⟩
    refine r M H σ ρ _ rs (he.mono _ _ _ (fun d ρ' h M' H' v m rs' rd => ?_) h)
    cases q' : slot ρ' i with
    | nil => rw [q'] at h; exact h.elim
    | val d => rw [q'] at h; exact h.elim
    | pin w d => rw [q'] at h; exact h.elim
    | obj z => rw [q'] at h; exact h.elim
    | own ds' =>
      rw [q'] at h
      have g1 := slot_get q' (by intro z; cases z)
      obtain ⟨l', xs', e', hm', h0', hp', hl', hr'⟩ := rs'.sl i _ _ g1 ho1
      cases e'
      obtain ⟨m2, rs2⟩ := rs'.write g1 ho1 (hr'.append (.one rd))
      exact ⟨l, xs', v, rfl, rfl, hl', by rw [← hr'.length]; exact h.1, oo.nx M' _ _ _ (m.trans m2) rs2 h.2⟩
end
def gNext : DSp := fun ds P => match ds with
  | [.pen, .int m] => (1 ≤ m ∧ m ≤ 10 ^ 60) ∧ ∀ r, 0 ≤ r → r < m → P (.int r)
  | _ => False
theorem mono_next : MonoS gNext := fun ds P P' f h => by
  unfold gNext at h ⊢
  split at h
  · exact ⟨h.1, fun r h0 h1 => f _ (h.2 r h0 h1)⟩
  · exact h.elim
theorem next_of {P : Program} {w : World} {K : PySem.W.Frag} {mg : Str → Option Value} {base : Heap} {k : Nat} {f : Addr} {fd : FuncData} {ps : List Str} (h : FnOk P w K mg base CX0 k f fd ps (sp_next K)) : FnOk P w K mg base CX0 k f fd ps (spD K 2 gNext) :=
  h.imp fun vs H Q E h => by
    obtain ⟨pp, M, ds, lv, r, e, h⟩ := h
    unfold gNext at h
    split at h
    case h_2 => exact h.elim
    · rename_i m
      obtain ⟨⟨m1, m2⟩, h⟩ := h
      simp only [Reps, Rep] at r
      obtain ⟨x, _, rfl, ⟨p, rfl, ep, a, ns, t, l, pen⟩, y, _, rfl, rfl, rfl⟩ := r
      refine ⟨p, a, ns, t, l, m, rfl, pen, m1, m2, fun r t' l' H' h0 h1 pen' sb => h r h0 h1 H' _ ⟨⟨fun b o hb n => ?_, fun q e _ => ?_, fun b hb => ?_⟩, fun tb => tb.of fun b o e tf => sb b o (by rintro rfl; rw [pen.lst] at e; cases e; exact ntf_lst tf) e⟩ rep_int⟩
      · by_cases z : b = p
        · subst z
          rw [pen.lst] at hb
          cases hb
          exact absurd rfl (n.1 ep _)
        · exact sb b o z hb
      · rw [ep] at e; cases e
        exact ⟨a, ns, t', l', pen'⟩
      · by_cases z : b = p
        · subst z; rw [pen'.lst]; intro z; cases z
        · cases q : H b with
          | none => exact absurd q hb
          | some o => rw [sb b o z q]; intro z; cases z
def spLaw (K : PySem.W.Frag) : Sp := fun vs H Q _ => ∃ a ns, vs = [.ref a] ∧ Scr K H a ns ∧ Tabs H ∧ ∀ H', Q (.bl true) H'
omit [TB] [Frm] in
theorem law_sp (K : PySem.W.Frag) (H : Hp) (a : Addr) (ns : List Int) (_ : ns.length ≤ 63) (h1 : Only H) (h : SqL K H a (ns.map V.int)) : @spLaw TB.none K [.ref a] H (fun v _ => v = .bl true) fun _ _ _ => False :=
  ⟨a, ns, rfl, scr_of h1 h, fun _ _ e => (by cases e), fun _ => rfl⟩
omit [Frm] in
theorem lawD {P : Program} {w : World} {K : PySem.W.Frag} {mg : Str → Option Value} {base : Heap} {st : Stmt} {f : Addr} {fd : FuncData} {N : List Str} {x : Str} {k : Nat} {t : DTS} {s1 : Stmt} {rest : List Stmt} (Fn : Fun K "law" "law" st f fd) (S : FnScope N [x] (defScope st)) (hs : defBody st = s1 :: rest) (hN : 2 ≤ N.length)
    (h1 : ∀ (cdv : Value) (A : Around) (outer : List Env) (s : Shared) (H : Hp) (E : XK), Room k (A.deeper (envOfC "law" (defScope st) s.heap.objs.size f cdv)) → PS (cxOf CX0 P w K mg base N "law" (defScope st) f cdv A outer s H E).nox s1 (tAsg (tCall (sp_pen K) [] E0 (tCons (tVar 0) tNil)) (gName 1)))
    (hb : ∀ (cdv : Value) (A : Around) (outer : List Env) (s : Shared) (H : Hp) (E : XK), Room k (A.deeper (envOfC "law" (defScope st) s.heap.objs.size f cdv)) → @PSsD _ Frm.free (cxOf CX0 P w K mg base N "law" (defScope st) f cdv A outer s H E).nox rest t)
    (hg : t { nx := fun _ => False, rt := fun d => d = .bl true } (.nil :: .val .pen :: List.replicate (N.length - 2) .nil)) : FnOk P w K mg base CX0 (k + 1) f fd [x] (spLaw K) := by
  refine Fn.ok S (fun vs H Q E h => ?_) (fun cdv A outer s H vs Q E hr h => ?_)
  · obtain ⟨a, ns, rfl, _⟩ := h
    rfl
  · obtain ⟨a, ns, rfl, hs', hT, h⟩ := h
    rw [hs]
    refine ⟨_, pss_cons (u := fun D σ H' => ∃ p : Addr, @RSt _ Frm.free K ⟨some p, [], H'⟩ [] H' σ (.nil :: .val .pen :: List.replicate (N.length - 2) .nil) ∧ ∀ H'', D.rt (.bl true) H'') (h1 cdv A outer s H E hr) ?_, ?_⟩
    · intro pins s' σ H' D I ⟨p, rs, q⟩
      obtain ⟨T, pT, run⟩ := hb cdv A outer s H E hr
      refine pT pins s' σ H' D I (run [] H' σ _ { nx := fun _ => False, rt := fun d => d = .bl true } D rs ⟨fun _ _ _ _ _ _ q => q.elim, fun _ _ _ _ _ _ q => q.elim, fun _ _ _ _ _ _ q => q.elim, fun M2 H2 σ2 ρ2 d v _ _ rd e => ?_⟩ hg)
      subst e
      simp only [Rep] at rd
      subst rd
      exact q H2
    · refine ⟨.ref a, ?_, a, ns, rfl, hs', fun p H' hp pen sm => ⟨p, ⟨?_, fun i s o e1 e2 => ?_, OwF.none (fun i s e1 => ?_), fun a z => by simp at z, .refl, fun a z => by simp at z, ⟨fun a z => by simp at z, fun q e => ?_⟩, ⟨trivial, hT.of fun b o e _ => sm b o e⟩⟩, h⟩⟩
      · simp [L2.start]
      · simp [L2.start]; omega
      · match i, e1 with
        | 0, e1 => simp at e1; subst e1; trivial
        | 1, e1 =>
          simp at e1
          subst e1
          have hi : 1 < (L2.start N [V.ref a]).length := by simp [L2.start]; omega
          simp [hi] at e2
          subst e2
          refine ⟨_, rfl, ?_⟩
          simp only [Rep]
          exact ⟨p, rfl, rfl, a, ns, 0, 0, pen⟩
        | i + 2, e1 =>
          have := List.eq_of_mem_replicate (List.mem_of_getElem? (by simpa using e1))
          subst this
          trivial
      · have := List.mem_of_getElem? e1
        simp at this
        rcases this with rfl | rfl | ⟨_, rfl⟩ <;> exact ⟨fun ds z => (by cases z), fun q z => (by cases z)⟩
      · cases e
        rw [pen.lst]; intro z; cases z
end DL
namespace DL
open PySem PySem.Spec L2
open PyProof.Rows hiding St
variable [TB]
variable [Frm]
mutual
def toPy : D → PyData
  | .non => .none
  | .bl b => .bool b
  | .int i => .int i
  | .str x => .str x
  | .tup ds => .tuple (toPys ds)
  | .lst ds => .list (toPys ds)
  | .ty _ => .none
  | .dK _ _ => .none
  | .dT _ _ => .none
  | .pen => .none
  | .exc _ => .none
  | .exa _ _ => .none
  | .cls _ => .none
def toPys : List D → List PyData
  | [] => []
  | d :: ds => toPy d :: toPys ds
def pln : D → Bool
  | .pen => false
  | .exc _ => false
  | .exa _ _ => false
  | .cls _ => false
  | .ty _ => false
  | .dK _ _ => false
  | .dT _ _ => false
  | .tup ds => plns ds
  | .lst ds => plns ds
  | _ => true
def plns : List D → Bool
  | [] => true
  | d :: ds => pln d && plns ds
end
def eqD (x y : D) : Bool := PyData.eqv (toPy x) (toPy y)
def shp (d : D) : Bool := pln d && SeqAt.shaped (toPy d)
mutual
theorem reads_of {P : Program} {w : World} {K : PySem.W.Frag} {pp : Option Addr} {M : List Addr} {H : Hp} {h : Heap} (ok : HOk P w H h) : ∀ (d : D) (v : V) (u : Value), pln d = true → Rep K pp M H d v → RelV v u → ∃ as, Reads h u (toPy d) as
  | .non, _, _, _, r, q => by simp only [Rep] at r; subst r; cases q; exact ⟨_, .none⟩
  | .bl b, _, _, _, r, q => by simp only [Rep] at r; subst r; cases q; exact ⟨_, .bool b⟩
  | .int i, _, _, _, r, q => by simp only [Rep] at r; subst r; obtain ⟨t, rfl⟩ := q; exact ⟨_, .int i t⟩
  | .str x, _, _, _, r, q => by simp only [Rep] at r; subst r; obtain ⟨t, rfl⟩ := q; exact ⟨_, .str x t⟩
  | .tup ds, _, _, p, r, q => by
    simp only [Rep] at r
    obtain ⟨a, xs, rfl, ha, r⟩ := r
    cases q
    obtain ⟨_, its, vs, o, ho, hc, n, hd⟩ := ok a _ ha
    obtain ⟨as, z⟩ := readss_of ok ds xs its (by simpa only [pln] using p) r vs
    exact ⟨_, by rw [toPy]; exact .tuple ho hc hd (by simpa using z)⟩
  | .lst ds, _, _, p, r, q => by
    simp only [Rep] at r
    obtain ⟨a, xs, rfl, _, _, ha, r⟩ := r
    cases q
    obtain ⟨_, its, n, vs, ho⟩ := ok a _ ha
    obtain ⟨as, z⟩ := readss_of ok ds xs its (by simpa only [pln] using p) r vs
    exact ⟨_, by rw [toPy]; exact .list ho rfl rfl (by simpa using z)⟩
  | .ty _, _, _, p, _, _ => by simp [pln] at p
  | .dK _ _, _, _, p, _, _ => by simp [pln] at p
  | .dT _ _, _, _, p, _, _ => by simp [pln] at p
  | .pen, _, _, p, _, _ => by simp [pln] at p
  | .exc _, _, _, p, _, _ => by simp [pln] at p
  | .exa _ _, _, _, p, _, _ => by simp [pln] at p
  | .cls _, _, _, p, _, _ => by simp [pln] at p
theorem readss_of {P : Program} {w : World} {K : PySem.W.Frag} {pp : Option Addr} {M : List Addr} {H : Hp} {h : Heap} (ok : HOk P w H h) : ∀ (ds : List D) (vs : List V) (us : List Value), plns ds = true → Reps K pp M H ds vs → Vals vs us → ∃ as, ReadsAll h us (toPys ds) as
  | [], _, _, _, r, q => by simp only [Reps] at r; subst r; cases q; exact ⟨_, .nil⟩
  | d :: ds, _, _, p, r, q => by
    simp only [Reps] at r
    obtain ⟨x, r', rfl, r1, r2⟩ := r
    simp only [plns, Bool.and_eq_true] at p
    cases q with
    | cons q1 q2 =>
      obtain ⟨as, z1⟩ := reads_of ok d _ _ p.1 r1 q1
      obtain ⟨bs, z2⟩ := readss_of ok ds _ _ p.2 r2 q2
      exact ⟨_, by rw [toPys]; exact .cons z1 z2⟩
end
section
variable {X : Cx} {pp : Option Addr} {k : Nat}
def rEqD (K : PySem.W.Frag) (n : Bool) : R2 := fun x y H Q => ∃ pp M dx dy, Rep K pp M H dx x ∧ Rep K pp M H dy y ∧ shp dx = true ∧ shp dy = true ∧ Q (.bl (if n then !eqD dx dy else eqD dx dy)) H
theorem op_eqD (hr : Room k X.A) : OpR X (compareOp .Eq) (rEqD X.K false) := by
  intro pins s σ H x y v u Q I rx ry h
  obtain ⟨pp, M, dx, dy, r1, r2, s1, s2, q⟩ := h
  unfold shp at s1 s2
  rw [Bool.and_eq_true] at s1 s2
  obtain ⟨as, z1⟩ := reads_of I.hok dx x v s1.1 r1 rx
  obtain ⟨bs, z2⟩ := reads_of I.hok dy y u s2.1 r2 ry
  exact SeqAt.compareEq_shaped z1 z2 s1.2 s2.2 (by have := hr.un; omega) (fin_bl I q rfl)
theorem op_neD (hr : Room k X.A) : OpR X (compareOp .NotEq) (rEqD X.K true) := by
  intro pins s σ H x y v u Q I rx ry h
  obtain ⟨pp, M, dx, dy, r1, r2, s1, s2, q⟩ := h
  unfold shp at s1 s2
  rw [Bool.and_eq_true] at s1 s2
  obtain ⟨as, z1⟩ := reads_of I.hok dx x v s1.1 r1 rx
  obtain ⟨bs, z2⟩ := reads_of I.hok dy y u s2.1 r2 ry
  exact SeqAt.compareNe_shaped z1 z2 s1.2 s2.2 (by have := hr.un; omega) (fin_bl I q rfl)
def gEq (n : Bool) : D → D → (D → Prop) → Prop := fun x y P => (shp x = true ∧ shp y = true) ∧ P (.bl (if n then !eqD x y else eqD x y))
theorem od_eq (hr : Room k X.A) : OpD X (compareOp .Eq) (gEq false) :=
  ⟨fun _ _ _ _ f h => ⟨h.1, f _ h.2⟩, _, op_eqD hr, fun {pp} M H x y v u Q _ rx ry h => ⟨pp, M, x, y, rx, ry, h.1.1, h.1.2, h.2 H _ .refl rep_bl⟩⟩
theorem od_ne (hr : Room k X.A) : OpD X (compareOp .NotEq) (gEq true) :=
  ⟨fun _ _ _ _ f h => ⟨h.1, f _ h.2⟩, _, op_neD hr, fun {pp} M H x y v u Q _ rx ry h => ⟨pp, M, x, y, rx, ry, h.1.1, h.1.2, h.2 H _ .refl rep_bl⟩⟩
end
end DL
namespace DL
open PySem PySem.Spec L2
open PyProof.Rows hiding St
variable [TB]
variable [Frm]
section
variable {X : Cx} {F : Fx} {pp : Option Addr}
def gCatT : D → D → (D → Prop) → Prop
  | .tup xs, .tup ys, P => (xs ≠ [] ∧ xs.length + ys.length ≤ sizeLine) ∧ P (.tup (xs ++ ys))
  | _, _, _ => False
theorem od_catT : OpD X (binaryOp .Add) gCatT := by
  refine ⟨fun x y P P' f h => ?_, _, op_catT, fun {pp} M H x y v u Q _ rx ry h => ?_⟩
  · cases x <;> first | exact h.elim | skip
    cases y <;> first | exact h.elim | exact ⟨h.1, f _ h.2⟩
  · cases x <;> first | exact h.elim | skip
    cases y <;> first | exact h.elim | skip
    rename_i xs ys
    have rx' := rx
    simp only [Rep] at rx ry
    obtain ⟨a, us, rfl, ha, ra⟩ := rx
    obtain ⟨b, ws, rfl, hb, rb⟩ := ry
    obtain ⟨⟨h1, h2⟩, h⟩ := h
    refine ⟨a, b, us, ws, rfl, rfl, SqT.of ha, SqT.of hb, ?_, by rw [← ra.length, ← rb.length]; exact h2, fun e => ?_, fun e l hl => ?_⟩
    · rintro rfl
      have := ra.length
      exact h1 (List.length_eq_zero_iff.mp this)
    · subst e
      have := rb.length
      have e2 : ys = [] := List.length_eq_zero_iff.mp this
      subst e2
      rw [List.append_nil] at h
      exact h H _ .refl rx'
    · refine h _ _ (.new hl) ?_
      simp only [Rep]
      exact ⟨l, _, rfl, upd_same, (ra.append rb).mv (.new hl)⟩
abbrev DO := DS → (Option Int → DS → Prop) → Prop
structure POD (X : Cx) (e : Option Expr) (t : DO) : Prop where
  mono : ∀ ρ P P', (∀ b ρ', P b ρ' → P' b ρ') → t ρ P → t ρ P'
  run : ∃ T : TO, PO X e T ∧ ∀ {F : Fx} M H σ ρ (Q : Option Int → Hp → Prop), RSt X.K F M H σ ρ →
    (t ρ fun o ρ' => ∀ M' H', Mv X.K F.pp M H M' H' → RSt X.K F M' H' σ ρ' → Q o H') → T σ H Q
abbrev doNone : DO := fun ρ Q => Q none ρ
abbrev doSome (te : DE) : DO := fun ρ Q => te ρ fun d ρ' => match d with
  | .int i => Q (some i) ρ'
  | _ => False
theorem do_none : POD X none doNone := ⟨fun _ _ _ f h => f _ _ h, _, po_none, fun {F} M H σ ρ Q rs h => h M H .refl rs⟩
theorem do_some {e : Expr} {te : DE} (he : PED X e te) : POD X (some e) (doSome te) := by
  obtain ⟨T, p, r⟩ := he.run
  refine ⟨fun _ _ _ f h => he.mono _ _ _ (fun d _ h => ?_) h, _, po_some p, fun {F} M H σ ρ Q rs h => r M H σ ρ _ rs (he.mono _ _ _ (fun d ρ' h M' H' v m rs' rd => ?_) h)⟩
  · cases d <;> first | exact h.elim | exact f _ _ h
  · cases d <;> first | exact h.elim | skip
    simp only [Rep] at rd
    exact ⟨_, rd, h M' H' m rs'⟩
def cutD (xs : List D) (lo hi : Option Int) : List D := (xs.drop (HT.sIx xs.length 0 lo)).take (HT.sIx xs.length xs.length hi - HT.sIx xs.length 0 lo)
theorem Reps.cut {K : PySem.W.Frag} {M : List Addr} {H : Hp} {ds : List D} {xs : List V} (lo hi : Option Int) (r : Reps K pp M H ds xs) : Reps K pp M H (cutD ds lo hi) (cutV xs lo hi) := by
  unfold cutD cutV
  rw [r.length]
  exact (r.drop _).take _
def gSlT : D → Option Int → Option Int → (D → Prop) → Prop
  | .tup xs, lo, hi, P => ¬ (HT.sIx xs.length 0 lo = 0 ∧ HT.sIx xs.length xs.length hi = xs.length) ∧ P (.tup (cutD xs lo hi))
  | _, _, _, _ => False
abbrev dSlT (te : DE) (tl th : DO) : DE := fun ρ Q => te ρ fun x ρ1 => tl ρ1 fun lo ρ2 => th ρ2 fun hi ρ3 => gSlT x lo hi fun d => Q d ρ3
theorem de_slT {e : Expr} {lo hi : Option Expr} {te : DE} {tl th : DO} {pos p2 : Pos} (he : PED X e te) (hl : POD X lo tl) (hh : POD X hi th) : PED X (.Subscript e (.Slice lo hi none p2) pos) (dSlT te tl th) := by
  obtain ⟨T, p, r⟩ := he.run
  obtain ⟨Tl, pl, rl⟩ := hl.run
  obtain ⟨Th, ph, rh⟩ := hh.run
  have gm : ∀ x lo hi P P', (∀ d, P d → P' d) → gSlT x lo hi P → gSlT x lo hi P' := fun x lo hi P P' f h => by
    cases x <;> first | exact h.elim | exact ⟨h.1, f _ h.2⟩
  refine ⟨fun _ _ _ f h => he.mono _ _ _ (fun _ _ h => hl.mono _ _ _ (fun _ _ h => hh.mono _ _ _ (fun _ _ h => gm _ _ _ _ _ (fun _ h => f _ _ h) h) h) h) h, _, pe_slice sl_tup p pl ph, fun {F} M H σ ρ Q rs h => ?_⟩
  refine r M H σ ρ _ rs (he.mono _ _ _ (fun x ρ1 h M1 H1 v m1 rs1 r1 => ?_) h)
  refine rl M1 H1 σ ρ1 _ rs1 (hl.mono _ _ _ (fun lo ρ2 h M2 H2 m2 rs2 => ?_) h)
  refine rh M2 H2 σ ρ2 _ rs2 (hh.mono _ _ _ (fun hi ρ3 h M3 H3 m3 rs3 => ?_) h)
  have r3 := (r1.mv m2).mv m3
  cases x <;> first | exact h.elim | skip
  simp only [Rep] at r3
  obtain ⟨a, xs, rfl, ha, rx⟩ := r3
  refine ⟨a, xs, rfl, SqT.of ha, by rw [← rx.length]; exact h.1, fun l hl => h.2 M3 _ _ (((m1.trans m2).trans m3).trans (.new hl)) (rs3.sameP (.new hl)) ?_⟩
  simp only [Rep]
  exact ⟨l, _, rfl, upd_same, (rx.cut lo hi).mv (.new hl)⟩
end
end DL
namespace DL
open PySem PySem.Spec L2
open PyProof.Rows hiding St
variable [TB]
variable [Frm]
theorem dLoop_ind {g : DG} {b : DTS} {E : DEnds} {ds : List D} (N : DS → Prop) (hn : ∀ ρ, N ρ → E.nx ρ)
    (hs : ∀ d ∈ ds, ∀ (ρ : DS) (X : DS → Prop), N ρ → (∀ ρ', N ρ' → X ρ') → g d ρ fun ρ1 => b { E with nx := X, ct := X, bk := E.nx } ρ1) : ∀ ρ, N ρ → dLoop g b ds E ρ := by
  induction ds with
  | nil => exact hn
  | cons d r ih => exact fun ρ h => hs d List.mem_cons_self ρ _ h (ih fun d hd => hs d (List.mem_cons_of_mem _ hd))
theorem dLoop_pre {g : DG} {b : DTS} {E : DEnds} {ds : List D} (N : List D → DS → Prop) (hn : ∀ ρ, N ds ρ → E.nx ρ)
    (hs : ∀ (pre : List D) (d : D) (post : List D) (ρ : DS) (X : DS → Prop), ds = pre ++ d :: post → N pre ρ → (∀ ρ', N (pre ++ [d]) ρ' → X ρ') → g d ρ fun ρ1 => b { E with nx := X, ct := X, bk := E.nx } ρ1) (ρ : DS) (h : N [] ρ) : dLoop g b ds E ρ := by
  have key : ∀ (post pre : List D), ds = pre ++ post → ∀ ρ, N pre ρ → dLoop g b post E ρ := by
    intro post
    induction post with
    | nil => intro pre e ρ h; rw [List.append_nil] at e; subst e; exact hn ρ h
    | cons d r ih => intro pre e ρ h; exact hs pre d r ρ _ e h (ih (pre ++ [d]) (by rw [e, List.append_assoc]; rfl))
  exact key ds [] rfl ρ h
theorem dWhile_ind {c : DT} {b : DTS} {E : DEnds} (N : DS → Prop) (μ : DS → Nat)
    (hs : ∀ (ρ : DS) (X : DS → Prop), N ρ → (∀ ρ', N ρ' → μ ρ' < μ ρ → X ρ') → c ρ fun k ρ' => Br k (b { E with nx := X, ct := X, bk := E.nx } ρ') (E.nx ρ')) (ρ : DS) (h : N ρ) : dWhile c b E ρ := by
  have key : ∀ n ρ, N ρ → μ ρ < n → dWhileN c b n E ρ := by
    intro n
    induction n with
    | zero => intro ρ _ h; exact absurd h (Nat.not_lt_zero _)
    | succ n ih => intro ρ h hl; exact hs ρ _ h fun ρ' h' hl' => ih ρ' h' (by omega)
  exact ⟨_, key _ ρ h (Nat.lt_succ_self _)⟩
theorem atI_lt {α : Type} {xs : List α} {r : Int} (h0 : 0 ≤ r) (h1 : r < xs.length) : ∃ d, atI xs r = some d ∧ xs[r.toNat]? = some d := by
  obtain ⟨j, rfl⟩ := Int.eq_ofNat_of_zero_le h0
  have hj : j < xs.length := by omega
  exact ⟨xs[j], atI_nat (by simp [hj]), by simp [hj]⟩
theorem opt_mem {xs : List D} {r : Int} {Q : D → Prop} (h0 : 0 ≤ r) (h1 : r < xs.length) (h : ∀ d ∈ xs, Q d) : opt (atI xs r) Q := by
  obtain ⟨d, e, e2⟩ := atI_lt h0 h1
  rw [e]
  exact h d (List.mem_of_getElem? e2)
theorem opt_at {xs : List D} {r : Int} {d : D} {Q : D → Prop} (h0 : 0 ≤ r) (e : xs[r.toNat]? = some d) (h : Q d) : opt (atI xs r) Q := by
  obtain ⟨j, rfl⟩ := Int.eq_ofNat_of_zero_le h0
  rw [atI_nat (show xs[j]? = some d from e)]
  exact h
theorem cpow {i j : Int} (h : 0 ≤ j ∧ j ≤ 1000000 ∧ i.natAbs < 2 ^ 64 := by decide) : CPow i j := h
theorem sz {n : Nat} (h : Nat.ble n 1000 = true := by rfl) : n ≤ sizeLine := Nat.le_trans (Nat.le_of_ble_eq_true h) (by decide)
theorem eqD_int {i j : Int} : eqD (.int i) (.int j) = decide (i = j) := by
  show (i == j) = _
  by_cases h : i = j <;> simp [h]
end DL
namespace DL
open PySem PySem.Spec L2
open PyProof.Rows hiding St
variable [TB]
variable [Frm]
def Bd (n : Nat) (i : Int) : Prop := i.natAbs < 2 ^ n
theorem Bd.mono {m n : Nat} {i : Int} (h : Bd m i) (l : m ≤ n) : Bd n i := Nat.lt_of_lt_of_le h (Nat.pow_le_pow_right (by decide) l)
theorem Bd.mul {m n : Nat} {i j : Int} (h : Bd m i) (q : Bd n j) : Bd (m + n) (i * j) := by
  unfold Bd at *
  rw [Int.natAbs_mul, Nat.pow_add]
  exact Nat.mul_lt_mul'' h q
theorem Bd.add {m n : Nat} {i j : Int} (h : Bd m i) (q : Bd n j) : Bd (max m n + 1) (i + j) := by
  have h1 := h.mono (Nat.le_max_left m n)
  have h2 := q.mono (Nat.le_max_right m n)
  unfold Bd at *
  rw [Nat.pow_succ]
  omega
theorem Bd.sub {m n : Nat} {i j : Int} (h : Bd m i) (q : Bd n j) : Bd (max m n + 1) (i - j) := by
  have h1 := h.mono (Nat.le_max_left m n)
  have h2 := q.mono (Nat.le_max_right m n)
  unfold Bd at *
  rw [Nat.pow_succ]
  omega
theorem Bd.neg {m : Nat} {i : Int} (h : Bd m i) : Bd m (-i) := by unfold Bd at *; rw [Int.natAbs_neg]; exact h
theorem Bd.le {m : Nat} {i j : Int} (h : Bd m j) (l : i.natAbs ≤ j.natAbs) : Bd m i := Nat.lt_of_le_of_lt l h
theorem Bd.big {m : Nat} {i : Int} (h : Bd m i) (l : m ≤ 8000) : Big i := big_of (h.mono l)
theorem Bd.cmul {m n : Nat} {i j : Int} (h : Bd m i) (q : Bd n j) (l : m ≤ 8000 := by decide) (l' : n ≤ 8000 := by decide) : CMulB i j := .inr (.inr ⟨h.big l, q.big l'⟩)
theorem bd_lit {i : Int} {n : Nat} (h : i.natAbs < 2 ^ n := by decide) : Bd n i := h
theorem bd64 {i : Int} (h : i.natAbs < 18446744073709551616) : Bd 64 i := h
theorem eqD_pair {a b c d : Int} : eqD (.tup [.int a, .int b]) (.tup [.int c, .int d]) = (decide (a = c) && decide (b = d)) := by
  show ((a == c) && ((b == d) && true)) = _
  rw [Bool.and_true]
  by_cases h : a = c <;> by_cases h' : b = d <;> simp [h, h']
end DL
namespace DL
open PySem PySem.Spec L2
open PyProof.Rows hiding St
variable [TB]
variable [Frm]
def gGcd : DSp := fun ds Q => match ds with
  | [.int a, .int b] => Q (.int (Int.gcd a b : Nat))
  | _ => False
theorem mono_gcd : MonoS gGcd := fun ds P P' f h => by
  unfold gGcd at h ⊢
  split at h
  · exact f _ h
  · exact h.elim
def gRatio : DSp := fun ds Q => match ds with
  | [.int a, .int b] => (b ≠ 0 ∧ Bd 7000 a ∧ Bd 7000 b) ∧ ∀ x y, Ra.Low a b x y → Q (.tup [.int x, .int y])
  | _ => False
theorem mono_ratio : MonoS gRatio := fun ds P P' f h => by
  unfold gRatio at h ⊢
  split at h
  · exact ⟨h.1, fun x y l => f _ (h.2 x y l)⟩
  · exact h.elim
def gRR (t b : Int → Int → Int → Int → Int) : DSp := fun ds Q => match ds with
  | [.tup [.int a, .int b'], .tup [.int c, .int d]] => (b a b' c d ≠ 0 ∧ Bd 3000 a ∧ Bd 3000 b' ∧ Bd 3000 c ∧ Bd 3000 d) ∧ ∀ x y, Ra.Low (t a b' c d) (b a b' c d) x y → Q (.tup [.int x, .int y])
  | _ => False
theorem mono_rr {t b : Int → Int → Int → Int → Int} : MonoS (gRR t b) := fun ds P P' f h => by
  unfold gRR at h ⊢
  split at h
  · exact ⟨h.1, fun x y l => f _ (h.2 x y l)⟩
  · exact h.elim
def gPlus : DSp := gRR (fun a b c d => a * d + c * b) (fun _ b _ d => b * d)
def gMinus : DSp := gRR (fun a b c d => a * d - c * b) (fun _ b _ d => b * d)
def gTimes : DSp := gRR (fun a _ c _ => a * c) (fun _ b _ d => b * d)
def gOver : DSp := gRR (fun a _ _ d => a * d) (fun _ b c _ => b * c)
def gLess : DSp := fun ds Q => match ds with
  | [.tup [.int a, .int b], .tup [.int c, .int d]] => (Bd 7000 a ∧ Bd 7000 b ∧ Bd 7000 c ∧ Bd 7000 d) ∧ Q (.bl (decide (a * d < c * b)))
  | _ => False
theorem mono_less : MonoS gLess := fun ds P P' f h => by
  unfold gLess at h ⊢
  split at h
  · exact ⟨h.1, f _ h.2⟩
  · exact h.elim
end DL
namespace DL
open PySem PySem.Spec L2
open PyProof.Rows hiding St
variable [TB]
def cleanS : Sl → Sl
  | .own _ => .nil
  | .obj _ => .nil
  | s => s
theorem cleanS_free (s : Sl) : (∀ ds, cleanS s ≠ .own ds) ∧ ∀ q, cleanS s ≠ .obj q := by
  cases s <;> exact ⟨fun ds z => (by cases z), fun q z => (by cases z)⟩
def clean (ρ : DS) : DS := ρ.map cleanS
def subD1 (ρ : DS) : Option Nat → Sl
  | none => .nil
  | some j => cleanS (slot ρ j)
def subD (js : List (Option Nat)) (ρ : DS) : DS := js.map (subD1 ρ)
def dColl (g : DG) (tc : DT) (te : DE) : List D → List D → DS → (List D → Prop) → Prop
  | [], acc, _, Q => Q acc
  | d :: r, acc, ρ, Q => g d ρ fun ρ1 => tc ρ1 fun b ρ2 => Br b (te ρ2 fun y ρ3 => acc.length < sizeLine ∧ dColl g tc te r (acc ++ [y]) (clean ρ3) Q) (dColl g tc te r acc (clean ρ2) Q)
abbrev dComp (t : DA) (js : List (Option Nat)) (g : DG) (tc : DT) (te : DE) : DA := fun ρ Q => t ρ fun ds ρ1 => dColl g tc te ds [] (subD js ρ1) fun ys => Q ys ρ1
def delH (H : Hp) (a : Addr) : Hp := fun b => if b = a then none else H b
theorem delH_same {H : Hp} {a : Addr} : delH H a a = none := by simp [delH]
theorem delH_ne {H : Hp} {a b : Addr} (h : b ≠ a) : delH H a b = H b := by simp [delH, h]
theorem Tabs.del {H : Hp} {l : Addr} {o : HO} (h : Tabs H) (hl : H l = some o) (ht : ¬ TF o) : Tabs (delH H l) :=
  h.of fun b x e tf => by
    rw [delH_ne]
    · exact e
    · rintro rfl
      rw [hl] at e; cases e
      exact ht tf
theorem upd_delH {H : Hp} {a : Addr} {o : HO} (h : H a = some o) : upd (delH H a) a o = H := by
  funext b
  by_cases e : b = a
  · subst e; rw [upd_same, h]
  · rw [upd_ne e, delH_ne e]
section
variable {X : Cx} {F : Fx} {K : PySem.W.Frag} {pp : Option Addr}
theorem RSt.rebase {M : List Addr} {H : Hp} {σ : St} {ρ : DS} (r : RSt K F M H σ ρ) : RSt K ⟨F.pp, M, H⟩ M H σ (clean ρ) := by
  refine ⟨by simp [clean, r.len], fun i s o h1 h2 => ?_, OwF.none (fun i s h1 => ?_), fun a h => h, .refl, r.liv.m, r.liv0, ⟨trivial, r.lk.t⟩⟩
  · simp only [clean, List.getElem?_map] at h1
    cases q : ρ[i]? with
    | none => rw [q] at h1; cases h1
    | some s' =>
      rw [q] at h1
      cases h1
      have := r.sl i s' o q h2
      cases s' with
      | nil => trivial
      | val d => exact this
      | pin w d => exact this
      | own ds => trivial
      | obj q => trivial
  · simp only [clean, List.getElem?_map] at h1
    cases q : ρ[i]? with
    | none => rw [q] at h1; cases h1
    | some s' =>
      rw [q] at h1
      cases h1
      exact cleanS_free s'
theorem RSt.writeFree {M : List Addr} {H : Hp} {σ : St} {ρ : DS} {D : Addr} {xs ys : List V} (r : RSt K ⟨F.pp, M, H⟩ M H σ (clean ρ)) (hD : D ∈ M) (hp : F.pp ≠ some D) (h : H D = some (.lst xs)) :
    RSt K ⟨F.pp, M, upd H D (.lst ys)⟩ M (upd H D (.lst ys)) σ (clean ρ) := by
  have m : Mv K F.pp M H M (upd H D (.lst ys)) := .write h hD hp
  have lv : Lv0 F.pp M (upd H D (.lst ys)) := by
    refine ⟨fun a ha => ?_, fun p e => ?_⟩
    · by_cases z : a = D
      · subst z; rw [upd_same]; intro z; cases z
      · rw [upd_ne z]; exact r.liv.m a ha
    · by_cases z : p = D
      · subst z; rw [upd_same]; intro z; cases z
      · rw [upd_ne z]; exact r.liv.p p e
  refine ⟨r.len, fun i s o h1 h2 => ?_, OwF.none (fun i s h1 => ?_), fun a h => h, .refl, lv.m, lv, ⟨trivial, m.tb r.lk.t⟩⟩
  rotate_left
  · simp only [clean, List.getElem?_map] at h1
    cases q : ρ[i]? with
    | none => rw [q] at h1; cases h1
    | some s' =>
      rw [q] at h1
      cases h1
      exact cleanS_free s'
  have q := r.sl i s o h1 h2
  cases s with
  | nil => trivial
  | val d => obtain ⟨v, e, q⟩ := q; exact ⟨v, e, q.mv m⟩
  | pin w d => obtain ⟨v, e, ew, q⟩ := q; exact ⟨v, e, ew, q.mv m⟩
  | obj z => exact q
  | own ds =>
    exfalso
    simp only [clean, List.getElem?_map] at h1
    cases q : ρ[i]? with
    | none => rw [q] at h1; cases h1
    | some s' => rw [q] at h1; cases s' <;> cases h1
theorem clean_clean (ρ : DS) : clean (clean ρ) = clean ρ := by
  simp only [clean, List.map_map]
  refine List.map_congr_left fun s _ => ?_
  cases s <;> rfl
theorem subD_clean (js : List (Option Nat)) (ρ : DS) : clean (subD js ρ) = subD js ρ := by
  simp only [clean, subD, List.map_map]
  refine List.map_congr_left fun o _ => ?_
  cases o with
  | none => rfl
  | some j => simp only [Function.comp, subD1]; cases slot ρ j <;> rfl
theorem RSt.block {M : List Addr} {H : Hp} {σ : St} {ρ : DS} {D : Addr} (r : RSt K F M H σ ρ) (js : List (Option Nat)) (hD : H D = none) :
    RSt K ⟨F.pp, D :: M, upd H D (.lst [])⟩ (D :: M) (upd H D (.lst [])) (L2.sub js σ) (subD js ρ) := by
  have m : Mv K F.pp M H (D :: M) (upd H D (.lst [])) := .newOwn hD
  have lv : Lv0 F.pp (D :: M) (upd H D (.lst [])) := by
    refine ⟨fun a ha => ?_, fun p e => (SameP.new (K := K) (pp := F.pp) hD).live p (r.liv.p p e)⟩
    rcases List.mem_cons.mp ha with rfl | ha
    · rw [upd_same]; intro z; cases z
    · exact (SameP.new (K := K) (pp := F.pp) hD).live a (r.liv.m a ha)
  refine ⟨by simp [L2.sub, subD], fun i s o h1 h2 => ?_, OwF.none (fun i s h1 => ?_), fun a h => h, .refl, lv.m, lv, ⟨trivial, m.tb r.lk.t⟩⟩
  · simp only [subD, List.getElem?_map] at h1
    simp only [L2.sub, List.getElem?_map] at h2
    cases q : js[i]? with
    | none => rw [q] at h1; cases h1
    | some jo =>
      rw [q] at h1 h2
      cases h1
      cases h2
      cases jo with
      | none => trivial
      | some j =>
        show RSl K _ _ _ (cleanS (slot ρ j)) _
        cases e : slot ρ j with
        | nil => trivial
        | own ds => trivial
        | obj q => trivial
        | val d =>
          obtain ⟨o, ho, v, rfl, hr⟩ := r.at (slot_get e (by intro z; cases z))
          exact ⟨v, by simp [sub1, ho], hr.mv m⟩
        | pin w d =>
          obtain ⟨o, ho, v, rfl, ew, hr⟩ := r.at (slot_get e (by intro z; cases z))
          exact ⟨v, by simp [sub1, ho], ew, hr.mv m⟩
  · simp only [subD, List.getElem?_map] at h1
    cases q : js[i]? with
    | none => rw [q] at h1; cases h1
    | some jo =>
      rw [q] at h1
      cases jo with
      | none => cases h1; exact ⟨fun ds z => (by cases z), fun q z => (by cases z)⟩
      | some j =>
        cases h1
        exact cleanS_free (slot ρ j)
structure PTsD (X : Cx) (ifs : List Expr) (t : DT) : Prop where
  mono : ∀ ρ P P', (∀ b ρ', P b ρ' → P' b ρ') → t ρ P → t ρ P'
  run : ∃ T : TT, PTs X ifs T ∧ ∀ {F : Fx} M H σ ρ (Q : Bool → Hp → Prop), RSt X.K F M H σ ρ →
    (t ρ fun b ρ' => ∀ M' H', Mv X.K F.pp M H M' H' → RSt X.K F M' H' σ ρ' → Q b H') → T σ H Q
abbrev dNoTest : DT := fun ρ Q => Q true ρ
theorem dts_nil : PTsD X [] dNoTest := ⟨fun _ _ _ f h => f _ _ h, _, pts_nil, fun {F} M H σ ρ Q rs h => h M H .refl rs⟩
theorem dts_one {c : Expr} {t : DT} (h : PTD X c t) : PTsD X [c] t := by
  obtain ⟨T, p, r⟩ := h.run
  exact ⟨h.mono, T, pts_one p, r⟩
structure PCD (X : Cx) (e : Expr) (t : DA) : Prop where
  mono : ∀ ρ P P', (∀ d ρ', P d ρ' → P' d ρ') → t ρ P → t ρ P'
  run : ∃ T : TE, PE X e T ∧ (∀ (i : Nat) (y : Str) (py spos : Pos), X.N.Nodup → X.N[i]? = some y → X.env.scope.names.lookup y = some .local → swapsWith e (some (.Name y py)) spos.line X.env = pure true → PS X (.Assign [.Name y py] e spos) (tAsg T (gName i))) ∧
    ∀ {F : Fx} M H σ ρ (Q : VK), RSt X.K F M H σ ρ →
    (t ρ fun ds ρ' => ∀ M' H1 H' l xs, Mv X.K F.pp M H M' H1 → RSt X.K F M' H1 σ ρ' → H1 l = none → H' = upd H1 l (.lst xs) → Reps X.K F.pp M' H1 ds xs → Q (.ref l) H') → T σ H Q
theorem PCD.pld {e : Expr} {t : DA} (h : PCD X e t) : PLD X e t := by
  obtain ⟨T, p, _, r⟩ := h.run
  exact ⟨h.mono, T, p, r⟩
theorem dColl_mono {g : DG} {tc : DT} {te : DE} (hg : ∀ d ρ P P', (∀ ρ', P ρ' → P' ρ') → g d ρ P → g d ρ P') (hc : ∀ ρ P P', (∀ b ρ', P b ρ' → P' b ρ') → tc ρ P → tc ρ P') (he : ∀ ρ P P', (∀ d ρ', P d ρ' → P' d ρ') → te ρ P → te ρ P') {Q Q' : List D → Prop} (f : ∀ ys, Q ys → Q' ys) :
    ∀ (ds acc : List D) (ρ : DS), dColl g tc te ds acc ρ Q → dColl g tc te ds acc ρ Q'
  | [], acc, ρ, h => f _ h
  | d :: r, acc, ρ, h => hg _ _ _ _ (fun ρ1 h => hc _ _ _ (fun b ρ2 h => ⟨fun e => he _ _ _ (fun y ρ3 h => ⟨h.1, dColl_mono hg hc he f r _ _ h.2⟩) (h.yes e), fun e => dColl_mono hg hc he f r _ _ (h.no e)⟩) h) h
theorem dl_comp {tg elt iter : Expr} {ifs : List Expr} {scope : Scope} {cl : List (Str × Addr)} {N' : List Str} {js : List (Option Nat)} {pos : Pos} {t : DA} {g : DG} {tc : DT} {te : DE}
    (hc : X.calm = true) (hclo : closeL X.env.cells scope.names [] = some cl) (hdis : ∀ y ∈ scope.names, y.2 = .free → (y.1, NameKind.cell) ∉ scope.names) (hkind : scope.kind = .function) (cap : Cap X scope N' js)
    (hnames : ∀ y ∈ scope.names, y.2 = .local → scope.names.lookup y.1 = some .local) (hi : PID X tg iter t)
    (hg : ∀ B : Blk, PGD (cxB X scope cl N' B) tg g) (ht : ∀ B : Blk, PTsD (cxB X scope cl N' B) ifs tc) (he : ∀ B : Blk, PED (cxB X scope cl N' B) elt te)
    (hs : ∀ v, foldedSetIterable iter X.env v = pure v := by intro _; rfl) : PCD X (.ListComp elt [⟨tg, iter, ifs, 0⟩] scope pos) (dComp t js g tc te) := by
  obtain ⟨wi, pi, ri⟩ := hi.run
  have hb : ∀ B : Blk, PG (cxB X scope cl N' B) tg (Classical.choose (hg B).run) ∧ PTs (cxB X scope cl N' B) ifs (Classical.choose (ht B).run) ∧ PE (cxB X scope cl N' B) elt (Classical.choose (he B).run) := fun B =>
    ⟨(Classical.choose_spec (hg B).run).1, (Classical.choose_spec (ht B).run).1, (Classical.choose_spec (he B).run).1⟩
  let B0 : Blk := ⟨0, X.s₀, X.H₀, [], []⟩
  refine ⟨fun _ _ _ f h => hi.mono _ _ _ (fun ds ρ1 h => dColl_mono (hg B0).mono (ht B0).mono (he B0).mono (fun ys h => f _ _ h) _ _ _ h) h, _, pe_comp hc hclo hdis hkind cap hnames pi hb hs, fun i y py spos hN hy hl hsw => ps_comp hN hy hl hc hclo hdis hkind cap hnames pi hb hsw hs, fun {F} M H σ ρ Q rs h => ?_⟩
  refine ri M H σ ρ _ rs (hi.mono _ _ _ (fun ds ρ1 h M1 H1 J m1 rs1 ok => ?_) h)
  intro B Dl hD
  obtain ⟨_, rg⟩ := Classical.choose_spec (hg B).run
  obtain ⟨_, rt⟩ := Classical.choose_spec (ht B).run
  obtain ⟨_, re⟩ := Classical.choose_spec (he B).run
  have fr := rs1.liv.fresh hD
  have m3 : Mv X.K F.pp M1 H1 (Dl :: M1) (upd H1 Dl (.lst [])) := .newOwn hD
  refine ⟨fun i m σ' H' => ∃ M' ρ' acc ys, m = ds.length - i ∧ i ≤ ds.length ∧ Mv X.K F.pp M1 H1 M' H' ∧ SameP X.K F.pp H1 H' ∧ RSt X.K ⟨F.pp, M', H'⟩ M' H' σ' (clean ρ') ∧ Dl ∈ M' ∧ (∀ a ∈ M1, a ∈ M') ∧ H' Dl = some (.lst ys) ∧ Reps X.K F.pp M' H' acc ys ∧
    dColl g tc te (ds.drop i) acc (clean ρ') fun ys => ∀ M' H1 H' l xs, Mv X.K F.pp M H M' H1 → RSt X.K F M' H1 σ ρ1 → H1 l = none → H' = upd H1 l (.lst xs) → Reps X.K F.pp M' H1 ys xs → Q (.ref l) H',
    ⟨ds.length, Dl :: M1, subD js ρ1, [], [], rfl, Nat.zero_le _, m3, .new hD, by rw [subD_clean]; exact rs1.block js hD, List.mem_cons_self, fun a ha => List.mem_cons_of_mem _ ha, upd_same, .nil, by rw [subD_clean]; exact h⟩, ?_⟩
  rintro i m σ' H' ⟨M', ρ', acc, ys, rfl, hil, mv, sm, rs', hDm, hsub, hDl, ra, hcoll⟩
  by_cases hlt : i < ds.length
  · have e1 : ds[i]? = some ds[i] := by simp [hlt]
    rw [List.drop_eq_getElem_cons hlt] at hcoll
    refine .inr ⟨ok.go M' H' mv i hlt, fun σ2 H2 => ∃ M2 ρ2 acc ys, Mv X.K F.pp M1 H1 M2 H2 ∧ SameP X.K F.pp H1 H2 ∧ RSt X.K ⟨F.pp, M2, H2⟩ M2 H2 σ2 (clean ρ2) ∧ Dl ∈ M2 ∧ (∀ a ∈ M1, a ∈ M2) ∧ H2 Dl = some (.lst ys) ∧ Reps X.K F.pp M2 H2 acc ys ∧
      dColl g tc te (ds.drop (i + 1)) acc (clean ρ2) fun ys => ∀ M' H1 H' l xs, Mv X.K F.pp M H M' H1 → RSt X.K F M' H1 σ ρ1 → H1 l = none → H' = upd H1 l (.lst xs) → Reps X.K F.pp M' H1 ys xs → Q (.ref l) H',
      fun σ2 H2 ⟨M2, ρ2, acc, ys, a1, a2, a3, a4, a5, a6, a7, a8⟩ => ⟨ds.length - (i + 1), by omega, M2, ρ2, acc, ys, rfl, hlt, a1, a2, a3, a4, a5, a6, a7, a8⟩, fun y H2 yl => ?_⟩
    obtain ⟨sp, rx⟩ := ok.yld M' H' mv i _ y H2 e1 yl
    have rs'' : RSt X.K ⟨F.pp, M', H2⟩ M' H2 σ' (clean ρ') := by
      have := (rs'.sameP sp).rebase
      rw [clean_clean] at this
      exact this
    have mv2 := mv.trans (sp.mv (M := M'))
    have sm2 := sm.trans sp
    have ra2 := ra.mv (sp.mv (M := M'))
    have hDl2 : H2 Dl = some (.lst ys) := sp.keep Dl _ hDl (nw fr.2)
    refine rg M' H2 σ' (clean ρ') _ _ _ rs'' rx ((hg B).mono _ _ _ _ (fun ρ3 h3 M3 H3 σ3 m3 rs3 => ?_) hcoll)
    refine rt M3 H3 σ3 ρ3 _ rs3 ((ht B).mono _ _ _ (fun b ρ4 h4 M4 H4 m4 rs4 => ?_) h3)
    -- what stands behind a step within this turn
    have keep : ∀ {M5 : List Addr} {H5 : Hp} {σ5 : St} {ρ5 : DS}, Mv X.K F.pp M' H2 M5 H5 → RSt X.K ⟨F.pp, M', H2⟩ M5 H5 σ5 ρ5 → Mv X.K F.pp M1 H1 M5 H5 ∧ SameP X.K F.pp H1 H5 ∧ RSt X.K ⟨F.pp, M5, H5⟩ M5 H5 σ5 (clean ρ5) ∧ Dl ∈ M5 ∧ (∀ a ∈ M1, a ∈ M5) ∧ H5 Dl = some (.lst ys) ∧ Reps X.K F.pp M5 H5 acc ys := fun mm rr =>
      ⟨mv2.trans mm, sm2.trans rr.sameT, rr.rebase, rr.sub _ hDm, fun a ha => rr.sub _ (hsub a ha), rr.same.keep Dl _ hDl2 (nw fr.2), ra2.mv mm⟩
    cases b with
    | false =>
      refine iteF ?_
      obtain ⟨a1, a2, a3, a4, a5, a6, a7⟩ := keep (m3.trans m4) rs4
      exact ⟨M4, ρ4, acc, ys, a1, a2, a3, a4, a5, a6, a7, h4.no rfl⟩
    | true =>
      refine iteT (re M4 H4 σ3 ρ4 _ rs4 ((he B).mono _ _ _ (fun y ρ5 h5 M5 H5 v m5 rs5 r5 => ?_) (h4.yes rfl)))
      obtain ⟨a1, a2, a3, a4, a5, a6, a7⟩ := keep ((m3.trans m4).trans m5) rs5
      have mw : Mv X.K F.pp M5 H5 M5 (upd H5 Dl (.lst (ys ++ [v]))) := .write a6 a4 fr.2
      refine ⟨ys, a6, by rw [← a7.length]; exact h5.1, M5, ρ5, acc ++ [y], ys ++ [v], a1.trans mw, ?_, a3.writeFree a4 fr.2 a6, a4, a5, upd_same, (a7.append (.one r5)).mv mw, h5.2⟩
      refine ⟨⟨fun b o e n => ?_, fun p e hp => mw.pen p e (a2.pen p e hp), fun b hb => ?_⟩, fun tb => mw.tb (a2.tb tb)⟩
      · rw [upd_ne (by rintro rfl; rw [hD] at e; cases e)]
        exact a2.keep b o e n
      · by_cases z : b = Dl
        · subst z; rw [upd_same]; intro z; cases z
        · rw [upd_ne z]; exact a2.live b hb
  · have e : i = ds.length := by omega
    refine .inl ⟨ok.stop M' H' mv i (by omega), ?_⟩
    have hd : ds.drop i = [] := by rw [List.drop_eq_nil_iff]; omega
    rw [hd] at hcoll
    have sd : SameP X.K F.pp H1 (delH H' Dl) := by
      refine ⟨⟨fun b o e n => ?_, fun p e hp => ?_, fun b hb => ?_⟩, fun tb => (sm.tb tb).del hDl ntf_lst⟩
      · rw [delH_ne (by rintro rfl; rw [hD] at e; cases e)]
        exact sm.keep b o e n
      · obtain ⟨a, ns, t, l, pn⟩ := sm.pen p e hp
        have np : p ≠ Dl := by rintro rfl; exact fr.2 e
        refine ⟨a, ns, t, l, by rw [delH_ne np]; exact pn.lst, ?_, pn.t0⟩
        rcases pn.scr with ⟨o, q⟩ | q
        · exact .inl ⟨o, by rw [delH_ne (ne_of q hDl (by intro z; cases z))]; exact q⟩
        · exact .inr q
      · rw [delH_ne (by rintro rfl; exact hb hD)]
        exact sm.live b hb
    have md : Mv X.K F.pp M' H' M1 (delH H' Dl) := by
      refine ⟨fun a xs q => by rw [delH_ne (ne_of q hDl (by intro z; cases z))]; exact q, fun a o q n p => ⟨by rw [delH_ne (by rintro rfl; exact n hDm)]; exact q, fun z => n (hsub a z)⟩, fun p e hp => ?_, fun tb => tb.del hDl ntf_lst⟩
      obtain ⟨a, ns, t, l, pn⟩ := hp
      have np : p ≠ Dl := by rintro rfl; exact fr.2 e
      refine ⟨a, ns, t, l, by rw [delH_ne np]; exact pn.lst, ?_, pn.t0⟩
      rcases pn.scr with ⟨o, q⟩ | q
      · exact .inl ⟨o, by rw [delH_ne (ne_of q hDl (by intro z; cases z))]; exact q⟩
      · exact .inr q
    exact hcoll M1 (delH H' Dl) H' Dl ys (m1.trans sd.mv) (rs1.sameP sd) delH_same (upd_delH hDl).symm (ra.mv md)
theorem ds_setC {e : Expr} {t : DA} {i : Nat} {y : Str} {py pos : Pos} (hN : X.N.Nodup) (hy : X.N[i]? = some y) (hl : X.env.scope.names.lookup y = some .local) (h : PCD X e t) (hsw : swapsWith e (some (.Name y py)) pos.line X.env = pure true := by rfl) : PSD X (.Assign [.Name y py] e pos) (dSet i (dFrz t)) := by
  obtain ⟨T, _, p, r⟩ := h.run
  refine ⟨_, p i y py pos hN hy hl hsw, fun {F} M H σ ρ E D rs o q => r M H σ ρ _ rs (h.mono _ _ _ (fun ds ρ1 q M1 H1 H' l xs m1 rs1 hl e r1 => ?_) q)⟩
  subst e
  refine o.nx M1 _ _ _ (m1.trans (.new hl)) ((rs1.sameP (.new hl)).set ?_ i) q
  simp only [Rep]
  exact ⟨l, xs, rfl, (rs1.liv.fresh hl).1, (rs1.liv.fresh hl).2, upd_same, r1.mv (.new hl)⟩
theorem ds_ownC {e : Expr} {t : DA} {i : Nat} {y : Str} {py pos : Pos} (hN : X.N.Nodup) (hy : X.N[i]? = some y) (hl : X.env.scope.names.lookup y = some .local) (h : PCD X e t) (hsw : swapsWith e (some (.Name y py)) pos.line X.env = pure true := by rfl) : PSD X (.Assign [.Name y py] e pos) (dOwn i t) := by
  obtain ⟨T, _, p, r⟩ := h.run
  refine ⟨_, p i y py pos hN hy hl hsw, fun {F} M H σ ρ E D rs o q => r M H σ ρ _ rs (h.mono _ _ _ (fun ds ρ' q M' H1 H' l xs m rs' hl e r' => ?_) q)⟩
  subst e
  exact o.nx _ _ _ _ (m.trans (.newOwn hl)) (rs'.newOwn hl r' i) q
end
end DL
namespace L2
open PySem PySem.Spec PyProof.Rows
section
variable {X : Cx} {tg : Expr}
theorem call_sum (hc : X.calm = true) : CallR X (.builtin "sum") (fun xs H Q => ∃ (p : Addr) (ns : List Int), xs = [.ref p] ∧ SqL X.K H p (ns.map V.int) ∧ Q (.int ns.sum) H) := by
  intro pins s σ H xs us Q I r h
  obtain ⟨p, ns, rfl, hl, q⟩ := h
  obtain ⟨u, rfl, e⟩ := vals1 r
  cases e
  obtain ⟨its, rv, pl, _⟩ := I.list hl
  have hi : IntsAre its ns := intsAre_of rv
  obtain ⟨ps, e⟩ := hi.allInts.items
  have il := pl.isList
  rw [e] at il
  refine sum_intListG (I.ok.hd hc) il fun h' tk t' hk => ⟨.int ns.sum, H, I.kept hk, ⟨t', ?_⟩, q⟩
  have e2 : numsOf its = ns := hi.numsOf
  have e3 := nums_intItems ps
  rw [← e] at e3
  have e4 : ps.toList.map (·.1) = ns := by rw [← e3, ← e2]
  rw [preSum_eq, List.take_of_length_le (by simp), e4]
end
end L2
namespace DL
open PySem PySem.Spec L2
open PyProof.Rows hiding St
variable [TB]
variable [Frm]
section
variable {X : Cx}
def intsOf : List D → Option (List Int)
  | [] => some []
  | .int i :: r => (intsOf r).map (i :: ·)
  | _ => none
theorem intsOf_map : ∀ ns : List Int, intsOf (ns.map D.int) = some ns
  | [] => rfl
  | n :: r => by simp [intsOf, intsOf_map r]
theorem intsOf_eq : ∀ {ds : List D} {ns : List Int}, intsOf ds = some ns → ds = ns.map D.int
  | [], ns, h => by cases h; rfl
  | .int i :: r, ns, h => by
    simp only [intsOf, Option.map_eq_some_iff] at h
    obtain ⟨ms, h, rfl⟩ := h
    rw [intsOf_eq h]; rfl
theorem reps_ints {K : PySem.W.Frag} {pp : Option Addr} {M : List Addr} {H : Hp} : ∀ {ns : List Int} {xs : List V}, Reps K pp M H (ns.map D.int) xs → xs = ns.map V.int
  | [], xs, h => by simpa only [List.map_nil, Reps] using h
  | n :: r, xs, h => by
    simp only [List.map_cons, Reps, Rep] at h
    obtain ⟨x, t, rfl, rfl, h⟩ := h
    rw [reps_ints h]; rfl
def gSum : DSp := fun ds P => match ds with
  | [.lst xs] => match intsOf xs with
    | some ns => P (.int ns.sum)
    | none => False
  | _ => False
theorem gSum_of {ns : List Int} {P : D → Prop} (h : P (.int ns.sum)) : gSum [.lst (ns.map D.int)] P := by
  unfold gSum
  simp only [intsOf_map]
  exact h
theorem gSum_inv {ds : List D} {P : D → Prop} (h : gSum ds P) : ∃ ns : List Int, ds = [.lst (ns.map D.int)] ∧ P (.int ns.sum) := by
  unfold gSum at h
  split at h
  · rename_i xs
    cases e : intsOf xs with
    | none => rw [e] at h; exact h.elim
    | some ns =>
      rw [e] at h
      exact ⟨ns, by rw [intsOf_eq e], h⟩
  · exact h.elim
theorem cd_sum (hc : X.calm = true := by rfl) : CallD X (.builtin "sum") gSum := by
  refine ⟨fun ds P P' f h => ?_, _, call_sum hc, fun {pp} M H ds vs Q _ r h => ?_⟩
  · obtain ⟨ns, rfl, h2⟩ := gSum_inv h
    exact gSum_of (f _ h2)
  · obtain ⟨ns, rfl, h2⟩ := gSum_inv h
    simp only [Reps, Rep] at r
    obtain ⟨x, _, rfl, ⟨a, ys, rfl, _, _, ha, ry⟩, rfl⟩ := r
    refine ⟨a, ns, rfl, SqL.of (by rw [ha, reps_ints ry]), h2 H _ .refl rep_int⟩
end
theorem dColl_pre {g : DG} {tc : DT} {te : DE} {ds : List D} {Q : List D → Prop} (N : List D → List D → DS → Prop) (hn : ∀ acc ρ, N ds acc ρ → Q acc)
    (hs : ∀ (pre : List D) (d : D) (post acc : List D) (ρ : DS) (Y : List D → DS → Prop), ds = pre ++ d :: post → N pre acc ρ → (∀ acc' ρ', N (pre ++ [d]) acc' (clean ρ') → Y acc' ρ') →
      g d ρ fun ρ1 => tc ρ1 fun b ρ2 => Br b (te ρ2 fun y ρ3 => acc.length < sizeLine ∧ Y (acc ++ [y]) ρ3) (Y acc ρ2)) (ρ : DS) (h : N [] [] ρ) : dColl g tc te ds [] ρ Q := by
  have key : ∀ (post pre acc : List D), ds = pre ++ post → ∀ ρ, N pre acc ρ → dColl g tc te post acc ρ Q := by
    intro post
    induction post with
    | nil => intro pre acc e ρ h; rw [List.append_nil] at e; subst e; exact hn acc ρ h
    | cons d r ih => intro pre acc e ρ h; exact hs pre d r acc ρ (fun acc' ρ' => dColl g tc te r acc' (clean ρ') Q) e h (fun acc' ρ' h' => ih (pre ++ [d]) acc' (by rw [e, List.append_assoc]; rfl) _ h')
  exact key ds [] [] rfl ρ h
theorem dColl_map {g : DG} {te : DE} {ds : List D} {Q : List D → Prop} (f : D → D) (N : DS → Prop) (hl : ds.length ≤ sizeLine)
    (hs : ∀ d ∈ ds, ∀ (ρ : DS) (Y : D → DS → Prop) (Z : DS → Prop), N ρ → (∀ ρ', N (clean ρ') → Y (f d) ρ') → g d ρ fun ρ1 => dNoTest ρ1 fun b ρ2 => Br b (te ρ2 Y) (Z ρ2)) (ρ : DS) (h : N ρ) (hq : Q (ds.map f)) : dColl g dNoTest te ds [] ρ Q := by
  refine dColl_pre (fun pre acc ρ => acc = pre.map f ∧ N ρ) (fun acc ρ h => by rw [h.1]; exact hq) (fun pre d post acc ρ Y e hN hY => ?_) ρ ⟨rfl, h⟩
  obtain ⟨rfl, hN⟩ := hN
  have hlt : (pre.map f).length < sizeLine := by
    rw [List.length_map]
    have : ds.length = pre.length + (post.length + 1) := by rw [e]; simp
    omega
  refine hs d (by rw [e]; simp) ρ (fun y ρ3 => (pre.map f).length < sizeLine ∧ Y (pre.map f ++ [y]) ρ3) (fun ρ2 => Y (pre.map f) ρ2) hN fun ρ' h' => ⟨hlt, hY _ ρ' ⟨by simp, h'⟩⟩
end DL
namespace DL
open PySem PySem.Spec L2
open PyProof.Rows hiding St
variable [TB]
variable [Frm]
structure Shp (n : Nat) (d : D) : Prop where
  p : pln d = true
  c : (toPy d).canLay0 = true
  d : (toPy d).depth ≤ n
theorem Shp.mono {m n : Nat} {d : D} (h : Shp m d) (l : m ≤ n) : Shp n d := ⟨h.p, h.c, Nat.le_trans h.d l⟩
theorem Shp.shp {n : Nat} {d : D} (h : Shp n d) (l : n ≤ 64 := by decide) : shp d = true := by
  unfold DL.shp SeqAt.shaped
  rw [h.p, h.c, decide_eq_true (Nat.le_trans h.d l)]; rfl
theorem Shp.int {i : Int} {n : Nat} : Shp n (.int i) := ⟨rfl, rfl, Nat.zero_le _⟩
theorem Shp.bl {i : Bool} {n : Nat} : Shp n (.bl i) := ⟨rfl, rfl, Nat.zero_le _⟩
theorem Shp.non {n : Nat} : Shp n .non := ⟨rfl, rfl, Nat.zero_le _⟩
theorem shp_all {n : Nat} : ∀ {ds : List D}, (∀ d ∈ ds, Shp n d) → plns ds = true ∧ PyData.canLayAll0 (toPys ds) = true ∧ PyData.depthAll (toPys ds) ≤ n
  | [], _ => ⟨rfl, rfl, Nat.zero_le _⟩
  | d :: ds, h => by
    obtain ⟨a, b, c⟩ := shp_all (ds := ds) fun x hx => h x (List.mem_cons_of_mem _ hx)
    have q := h d List.mem_cons_self
    refine ⟨by simp only [plns, q.p, a, Bool.and_self], by simp only [toPys, PyData.canLayAll0, q.c, b, Bool.and_self], ?_⟩
    simp only [toPys, PyData.depthAll]
    exact Nat.max_le.mpr ⟨q.d, c⟩
theorem Shp.tup {n : Nat} {ds : List D} (h : ∀ d ∈ ds, Shp n d) : Shp (n + 1) (.tup ds) := by
  obtain ⟨a, b, c⟩ := shp_all h
  exact ⟨by simp only [pln, a], by simp only [toPy, PyData.canLay0, b], by simp only [toPy, PyData.depth]; omega⟩
theorem Shp.lst {n : Nat} {ds : List D} (h : ∀ d ∈ ds, Shp n d) : Shp (n + 1) (.lst ds) := by
  obtain ⟨a, b, c⟩ := shp_all h
  exact ⟨by simp only [pln, a], by simp only [toPy, PyData.canLay0, b], by simp only [toPy, PyData.depth]; omega⟩
theorem eqD_self {d : D} (h : shp d = true) : eqD d d = true := by
  unfold shp at h
  rw [Bool.and_eq_true] at h
  exact SeqAt.eqv_refl _ (SeqAt.canLay_of_shaped h.2)
theorem Shp.pair {n : Nat} {i j : Int} : Shp (n + 1) (.tup [.int i, .int j]) := .tup fun d hd => by
  simp only [List.mem_cons, List.not_mem_nil, or_false] at hd
  rcases hd with rfl | rfl <;> exact .int
end DL
namespace DL
open PySem PySem.Spec L2
open PyProof.Rows hiding St
variable [TB]
abbrev DSpE := List D → (D → Prop) → (Addr → Prop) → Prop
def MonoE (g : DSpE) : Prop := ∀ ds P P' W W', (∀ d, P d → P' d) → (∀ C, W C → W' C) → g ds P W → g ds P' W'
section
variable [Frm] {X : Cx} {x : Str} {p pos np cpos : Pos} {e : Expr} {es : List Expr} {t : DA} {g : DSpE} {W : DS → Addr → Prop}
end

section
variable [fr0 : Frm] {X : Cx} {body suite : List Stmt} {b0 : Stmt} {n x : Str} {np hpos pos : Pos} {C0 : Addr} {i : Nat} {tb : (DS → Addr → Prop) → DTS} {th : DTS} {K : PySem.W.Frag}
theorem RSt.setNil {K : PySem.W.Frag} {F : Fx} {M : List Addr} {H : Hp} {σ : St} {ρ : DS} {o : Option V} (r : RSt K F M H σ ρ) (i : Nat) : RSt K F M H (σ.set i o) (ρ.set i .nil) := by
  refine ⟨by simp [r.len], fun j s o h1 h2 => ?_, r.ow.drop i (fun j e => List.getElem?_set_ne (Ne.symm e)) (fun j e => List.getElem?_set_ne (Ne.symm e)) (fun s e => ?_), r.sub, r.same, r.old, r.liv0, r.lk⟩
  · by_cases e : i = j
    · subst e
      rw [set_self h1]
      trivial
    · rw [List.getElem?_set_ne e] at h1 h2
      exact r.sl j s o h1 h2
  · rw [set_self e]
    exact ⟨fun ds z => (by cases z), fun q z => (by cases z)⟩
end

section
variable [Frm] {X : Cx} {x : Str} {pos : Pos}
theorem ds_asgT {e tg : Expr} {te : DE} {g : DG} (he : PED X e te) (hg : PGD X tg g) (hs : swapsWithSole [tg] e pos.line X.env = pure false := by rfl) (hw : swappedStores [tg] e X.env = pure none := by rfl)
    (h1 : (assignEach [tg] X.env).map (·.2) = [assign tg X.env] := by rfl) : PSD X (.Assign [tg] e pos) (dAsg te g) :=
  ds_asg he hg hs hw (ps_asg (Classical.choose_spec he.run).1 (Classical.choose_spec hg.run).1 hs hw h1)
end
end DL
namespace L2
open PySem PySem.Spec PyProof.Rows
section
variable {X : Cx} {tg : Expr}
end
end L2
namespace DL
open PySem PySem.Spec L2
open PyProof.Rows hiding St
variable [TB]
variable [Frm]
section
variable {X : Cx}
end
omit [Frm] in
theorem Br.dt {p : Prop} [Decidable p] {A B : Prop} (h : p) (a : A) : Br (decide p) A B := ⟨fun _ => a, fun z => absurd h (of_decide_eq_false z)⟩
omit [Frm] in
theorem Br.di {p : Prop} [Decidable p] {A B : Prop} (a : p → A) (b : ¬p → B) : Br (decide p) A B := ⟨fun z => a (of_decide_eq_true z), fun z => b (of_decide_eq_false z)⟩
theorem dLoop_up {g : DG} {b : DTS} {E : DEnds} (N : Int → DS → Prop) : ∀ (n : Nat) (lo : Int), (∀ ρ, N (lo + n) ρ → E.nx ρ) →
    (∀ (k : Int) (ρ : DS) (X : DS → Prop), lo ≤ k → k < lo + n → N k ρ → (∀ ρ', N (k + 1) ρ' → X ρ') → g (.int k) ρ fun ρ1 => b { E with nx := X, ct := X, bk := E.nx } ρ1) → ∀ ρ, N lo ρ → dLoop g b (intsD lo n) E ρ
  | 0, lo, hn, _, ρ, h => hn ρ (by simpa using h)
  | n + 1, lo, hn, hs, ρ, h => hs lo ρ _ (Int.le_refl _) (by omega) h fun ρ' h' => dLoop_up N n (lo + 1) (fun ρ h => hn ρ (by rw [show lo + ((n + 1 : Nat) : Int) = lo + 1 + (n : Int) by omega]; exact h)) (fun k ρ X h1 h2 => hs k ρ X (by omega) (by omega)) ρ' h'
end DL
namespace L2
open PySem PySem.Spec PyProof.Rows
section
variable {X : Cx} {pins : List (Addr × Obj)} {σ : St} {H : Hp} {s : Shared} {h' : Heap}
theorem Inv.turnedN {ch : List Addr} {T : Addr} {o : HO} {t' : Nat} (I : Inv X pins σ H s) (hf : ∀ b ∈ ch, FpOk X pins H b) (k : ∀ b u, b ∉ ch → s.heap.get? b = some u → h'.get? b = some u) (hT : s.heap.objs.size ≤ T)
    (new : ObjOk X.prog X.w (upd H T o) h' T o) : Inv X pins σ (upd H T o) { s with heap := h', toks := t' } := by
  have hn := I.hok.fresh hT
  refine I.call' (s' := { s with heap := h', toks := t' }) (ch := ch) rfl ⟨fun b u q _ _ hx => k b u hx q, fun b u q _ _ hx => ⟨u.slots, k b u hx q⟩, fun b u q n _ => ?_, fun b u q hx => ⟨u, k b u hx q⟩, fun b xs e => ?_, fun b p u e => ?_, fun b ps e => ⟨#[], ?_⟩⟩ (fun a q e => ?_) I.bare
    (fun b hb => ⟨(hf b hb).2.2.2.1, (hf b hb).2.1, (hf b hb).2.2.2.2.1, (hf b hb).2.2.2.2.2⟩)
  · rw [upd_ne (Nat.ne_of_lt (Nat.lt_of_lt_of_le (Heap.lt_size q) hT))]; exact n
  · rw [upd_ne (by rintro rfl; rw [hn] at e; cases e)]; exact e
  · rw [upd_ne (by rintro rfl; rw [hn] at e; cases e)]; exact e
  · rw [upd_ne (by rintro rfl; rw [hn] at e; cases e)]; simpa using e
  · by_cases z : a = T
    · subst z
      rw [upd_same] at e
      cases e
      exact new
    · rw [upd_ne z] at e
      refine ObjOk.stay (I.hok a q e) (fun b u hb q' => k b u (fun hc => ?_) q') (fun b hb => ?_) (fun b xs hb => ?_)
      · have := (hf b hc).1
        rcases hb with rfl | hb
        · rw [this] at e; cases e
        · rw [this] at hb; cases hb
      · rw [upd_ne (by rintro rfl; rw [hn] at hb; cases hb)]; exact hb
      · rw [upd_ne (by rintro rfl; rw [hn] at hb; cases hb)]; exact hb
theorem Inv.turnedL {ch : List Addr} {t' : Nat} (I : Inv X pins σ H s) (hf : ∀ b ∈ ch, FpOk X pins H b) (k : ∀ b u, b ∉ ch → s.heap.get? b = some u → h'.get? b = some u) : Inv X pins σ H { s with heap := h', toks := t' } := by
  refine I.call' (s' := { s with heap := h', toks := t' }) (ch := ch) rfl ⟨fun b u q _ _ hx => k b u hx q, fun b u q _ _ hx => ⟨u.slots, k b u hx q⟩, fun b u q n _ => n, fun b u q hx => ⟨u, k b u hx q⟩, fun b xs e => e, fun b p u e => e, fun b ps e => ⟨#[], by simpa using e⟩⟩ (fun a q e => ?_) I.bare
    (fun b hb => ⟨(hf b hb).2.2.2.1, (hf b hb).2.1, (hf b hb).2.2.2.2.1, (hf b hb).2.2.2.2.2⟩)
  refine ObjOk.stay (I.hok a q e) (fun b u hb q' => k b u (fun hc => ?_) q') (fun b hb => hb) (fun b xs hb => hb)
  have := (hf b hc).1
  rcases hb with rfl | hb
  · rw [this] at e; cases e
  · rw [this] at hb; cases hb
end
def Ite (K : PySem.W.Frag) (a : Addr) : It :=
  ⟨fun i H => ∃ xs x, SqL K H a xs ∧ xs[i]? = some x, fun i H x H' => ∃ T y, H T = none ∧ x = .ref T ∧ (∀ xs, SqL K H a xs → xs[i]? = some y) ∧ H' = upd H T (.tup [.int i, y]), fun i H => ∃ xs, SqL K H a xs ∧ xs.length ≤ i⟩
theorem not_list {h : Heap} {a b : Addr} {its : Array Value} {o : Obj} {n : String} (hl : h.IsList a its) (ho : h.get? b = some o) (hc : o.cls = .type n) (hn : n ≠ "list") : a ≠ b := by
  rintro rfl
  obtain ⟨o', e, c, _⟩ := hl
  rw [ho] at e
  cases e
  rw [hc] at c
  cases c
  exact hn rfl
theorem turn_enum {P : Program} {w : World} {K : PySem.W.Frag} {elts : List Expr} {k : Nat} {tp : Pos} (a e it : Addr) (hei : e ≠ it) : Turn P w K (.Tuple elts k tp) (Ite K a) [e, it] e (fun i h => (∃ old, IsEnum h e it i old) ∧ h.IsListIter it a i) where
  mem := by simp
  obj := fun i h st b hb => by
    obtain ⟨⟨old, he⟩, ho⟩ := st
    rcases List.mem_cons.mp hb with rfl | hb
    · exact ⟨_, he, fun v z => by
        have z' : Data.fields _ = Data.cell v := z
        cases z'⟩
    · have : b = it := by simpa using hb
      subst this
      obtain ⟨o, eo, c, d⟩ := ho
      exact ⟨o, eo, fun v z => by rw [d] at z; cases z⟩
  keep := fun i h h' st k => ⟨let ⟨old, he⟩ := st.1; ⟨old, k e (by simp) _ he⟩, st.2.at fun o x => k it (by simp) o x⟩
  item := by
    intro X hP hw hK hc i pins s σ H E I hf st hg
    subst hP hw hK
    obtain ⟨xs, x, hq, hx⟩ := hg
    obtain ⟨its, rv, p, hz⟩ := I.list hq
    obtain ⟨u, hu, ru⟩ := rv.get hx
    obtain ⟨⟨old, he⟩, hit⟩ := st
    have hae : a ≠ e := not_list p.isList he rfl (by decide)
    have hai : a ≠ it := by
      obtain ⟨o, eo, c, d⟩ := id hit
      exact not_list p.isList eo c (by decide)
    have W := WalksT.enumerate (prog := X.prog) (w := X.w) (I.ok.hd hc) e it a hei hae hai its.toArray
    have hi : i < its.toArray.size := by
      have := (List.getElem?_eq_some_iff.mp hu).1
      simpa using this
    refine W.item i s _ _ hi ⟨⟨old, he⟩, hit, p.isList⟩ fun T vals h1 tk hP hT hIs hMid hk => ?_
    obtain ⟨t, z, hz', rfl⟩ := hP
    have ezu : z = u := by
      have : its.toArray[i]? = some u := by simpa using hu
      rw [this] at hz'
      cases hz'
      rfl
    subst ezu
    have ap := W.apart i T h1 hMid
    refine ⟨_, rfl, W.go elts k tp i T { s with heap := h1, toks := tk } _ _ hMid fun h2 st2 hk2 => ?_⟩
    obtain ⟨st21, st22, _⟩ := st2
    have I2 : Inv X pins σ (upd H T (.tup [.int i, x])) { s with heap := h2, toks := tk } := by
      refine I.turnedN (ch := [e, it]) hf (fun b o hb q => hk2 b o hb (hk b o hb q)) hT ⟨?_, [.int i t, z], .cons ⟨t, rfl⟩ (.cons ru .nil), ?_⟩
      · show 2 ≤ sizeLine
        decide
      · obtain ⟨o, eo, r⟩ := hIs
        exact ⟨o, hk2 T o ap eo, r⟩
    refine ⟨.ref T, _, I2, rfl, ⟨T, x, I.hok.fresh hT, rfl, fun ys hy => by rw [I.list_inj hy hq]; exact hx, rfl⟩, ⟨by simpa using st21, st22⟩, fun b hb => ?_⟩
    have fb := hf b hb
    rw [upd_ne]
    · exact fb.1
    · rintro rfl
      exact ap hb
  done := by
    intro X hP hw hK hc i pins s σ H E I hf st hg
    subst hP hw hK
    obtain ⟨xs, hq, hx⟩ := hg
    obtain ⟨its, rv, p, hz⟩ := I.list hq
    obtain ⟨⟨old, he⟩, hit⟩ := st
    have hl := rv.length
    refine wpAny_pyNext_enum_end (I.ok.hd hc) he hit p.isList (by simp; omega) fun h1 hx1 => ⟨rfl, ?_⟩
    exact I.turnedL (t' := s.toks) (ch := [e, it]) hf fun b o hb q => hx1 b o (fun z => hb (by simp [z])) q
  self := fun _ _ _ _ _ st h => let ⟨_, he⟩ := st.1; wpAny_pyIter_enum he h
theorem boot_enum : bootBuiltins "enumerate" = some (.type "enumerate") := by decide +kernel
theorem boot_zip : bootBuiltins "zip" = some (.type "zip") := by decide +kernel
section
variable {X : Cx}
def iEnum (K : PySem.W.Frag) (ta : TA) : TI := fun σ H R => ta σ H fun vs H1 => ∃ a, vs = [.ref a] ∧ (∃ xs, SqL K H1 a xs) ∧ R (Ite K a) H1
theorem pi_enum {l : Expr} {ta : TA} {p pos tp : Pos} {elts : List Expr} {k : Nat} (hg : Gl X "enumerate") (hm : X.mg "enumerate" = none) (ha : PA X [l] ta) (he : starEach [l] X.env = (false, eval l X.env) :: starEach [] X.env := by rfl) (hpl : (backTo pos (starEach [] X.env)).any (·.1) = false := by rfl) :
    PI X (.Tuple elts k tp) (.Call (.Name "enumerate" p) [l] [] pos) (iEnum X.K ta) := by
  intro pins s σ H R I h
  refine Call_ (ld_blt I hg hm boot_enum (PyProof.Rows.callWith_type1 (thn (ha pos pins s σ H _ I h) fun us s1 ⟨vs, H1, I1, r1, q1⟩ => ?_) he hpl))
  obtain ⟨a, e, ⟨xs, hq⟩, q⟩ := q1
  subst e
  obtain ⟨u, rfl, ru⟩ := r1.one
  cases ru
  obtain ⟨its, rv, pl, hz⟩ := I1.list hq
  refine call_enumerate_list pl.isList fun h1 hE hit hsz hk => ?_
  refine wpAny_pyIter_enum hE ?_
  have ne : s1.heap.objs.size + 1 ≠ s1.heap.objs.size := by omega
  refine ⟨_, [s1.heap.objs.size + 1, s1.heap.objs.size], _, Ite X.K a, H1, rfl, I1.kept (t' := s1.toks) hk, turn_enum a _ _ ne, ⟨⟨_, hE⟩, hit⟩, fun b hb => ?_, q⟩
  rcases List.mem_cons.mp hb with rfl | hb
  · exact I1.fpOk (Nat.le_succ _) (I1.hok.fresh (Nat.le_succ _))
  · have : b = s1.heap.objs.size := by simpa using hb
    subst this
    exact I1.fpOk (Nat.le_refl _) (I1.hok.fresh (Nat.le_refl _))
end
def Itz (K : PySem.W.Frag) (a b : Addr) : It :=
  ⟨fun i H => ∃ xs ys x y, SqL K H a xs ∧ SqL K H b ys ∧ xs[i]? = some x ∧ ys[i]? = some y, fun i H v H' => ∃ T x y, H T = none ∧ v = .ref T ∧ (∀ xs, SqL K H a xs → xs[i]? = some x) ∧ (∀ ys, SqL K H b ys → ys[i]? = some y) ∧ H' = upd H T (.tup [x, y]),
    fun i H => ∃ xs ys, SqL K H a xs ∧ SqL K H b ys ∧ (xs.length ≤ i ∨ ys.length ≤ i)⟩
structure ZipOwn (z TI TO i1 i2 : Addr) : Prop where
  TIz : TI ≠ z
  TOz : TO ≠ z
  i1z : i1 ≠ z
  i2z : i2 ≠ z
  TITO : TI ≠ TO
  TIi1 : TI ≠ i1
  TIi2 : TI ≠ i2
  TOi1 : TO ≠ i1
  TOi2 : TO ≠ i2
  i12 : i1 ≠ i2
theorem zipOwn (n : Nat) : ZipOwn (n + 4) (n + 2) (n + 3) n (n + 1) := by
  constructor <;> (intro h; have h : (_ : Nat) = (_ : Nat) := h; omega)
theorem zip_apart {h : Heap} {z TI TO i1 i2 l1 l2 : Addr} {f0 u v : Value} {k1 k2 : Nat} {xs ys : Array Value} (D : ZipOwn z TI TO i1 i2) (hz : IsZip h z TI TO f0) (hO : IsPair h TO u v) (h1 : h.IsListIter i1 l1 k1) (h2 : h.IsListIter i2 l2 k2) (hl1 : h.IsList l1 xs) (hl2 : h.IsList l2 ys) : ZipApart z TI TO i1 i2 l1 l2 := by
  obtain ⟨o1, e1, c1, _⟩ := h1
  obtain ⟨o2, e2, c2, _⟩ := h2
  exact ⟨D.TIz, D.TOz, D.i1z, D.i2z, D.TITO, D.TIi1, D.TIi2, D.TOi1, D.TOi2, D.i12, not_list hl1 hz rfl (by decide), not_list hl1 hO rfl (by decide), not_list hl1 e1 c1 (by decide), not_list hl1 e2 c2 (by decide),
    not_list hl2 hz rfl (by decide), not_list hl2 hO rfl (by decide), not_list hl2 e1 c1 (by decide), not_list hl2 e2 c2 (by decide)⟩
theorem turn_zip {P : Program} {w : World} {K : PySem.W.Frag} {elts : List Expr} {k : Nat} {tp : Pos} (a b z TI TO i1 i2 : Addr) (D : ZipOwn z TI TO i1 i2) : Turn P w K (.Tuple elts k tp) (Itz K a b) [z, TI, TO, i1, i2] z
    (fun i h => IsZip h z TI TO .none ∧ IsPair h TI (.ref i1) (.ref i2) ∧ (∃ u v, IsPair h TO u v) ∧ h.IsListIter i1 a i ∧ h.IsListIter i2 b i) where
  mem := by simp
  obj := fun i h st c hc => by
    obtain ⟨hz, hI, ⟨u, v, hO⟩, ⟨o1, e1, c1, d1⟩, ⟨o2, e2, c2, d2⟩⟩ := st
    simp only [List.mem_cons, List.not_mem_nil, or_false] at hc
    rcases hc with rfl | rfl | rfl | rfl | rfl
    · exact ⟨_, hz, fun v z => by have z' : Data.fields _ = Data.cell v := z; cases z'⟩
    · exact ⟨_, hI, fun v z => by have z' : Data.seq _ _ = Data.cell v := z; cases z'⟩
    · exact ⟨_, hO, fun v z => by have z' : Data.seq _ _ = Data.cell v := z; cases z'⟩
    · exact ⟨o1, e1, fun v z => by rw [d1] at z; cases z⟩
    · exact ⟨o2, e2, fun v z => by rw [d2] at z; cases z⟩
  keep := fun i h h' st kk => by
    obtain ⟨hz, hI, ⟨u, v, hO⟩, h1, h2⟩ := st
    exact ⟨kk z (by simp) _ hz, kk TI (by simp) _ hI, ⟨u, v, kk TO (by simp) _ hO⟩, h1.at fun o e => kk i1 (by simp) o e, h2.at fun o e => kk i2 (by simp) o e⟩
  item := by
    intro X hP hw hK hc i pins s σ H E I hf st hg
    subst hP hw hK
    obtain ⟨xs, ys, x, y, hq, hq', hx, hy⟩ := hg
    obtain ⟨its, rv, p, hzz⟩ := I.list hq
    obtain ⟨its', rv', p', hzz'⟩ := I.list hq'
    obtain ⟨u, hu, ru⟩ := rv.get hx
    obtain ⟨u', hu', ru'⟩ := rv'.get hy
    obtain ⟨hz, hI, ⟨p1, p2, hO⟩, h1, h2⟩ := st
    have W := WalksT.zip2 (prog := X.prog) (w := X.w) (I.ok.hd hc) z TI TO i1 i2 a b (zip_apart D hz hO h1 h2 p.isList p'.isList) its.toArray its'.toArray
    have hi : i < min its.toArray.size its'.toArray.size := by
      have a1 := (List.getElem?_eq_some_iff.mp hu).1
      have a2 := (List.getElem?_eq_some_iff.mp hu').1
      simp only [List.size_toArray]
      omega
    refine W.item i s _ _ hi ⟨hz, hI, ⟨p1, p2, hO⟩, h1, h2, p.isList, p'.isList⟩ fun T vals h3 tk hP hT hIs hMid hk => ?_
    obtain ⟨v, v', hv, hv', rfl⟩ := hP
    have e1 : v = u := by
      have : its.toArray[i]? = some u := by simpa using hu
      rw [this] at hv; cases hv; rfl
    have e2 : v' = u' := by
      have : its'.toArray[i]? = some u' := by simpa using hu'
      rw [this] at hv'; cases hv'; rfl
    subst e1 e2
    have ap := W.apart i T h3 hMid
    have hTI : T ≠ TI := fun e => by
      subst e
      exact absurd (Nat.lt_of_lt_of_le (Heap.lt_size hI) hT) (Nat.lt_irrefl _)
    refine ⟨_, rfl, W.go elts k tp i T { s with heap := h3, toks := tk } _ _ hMid fun h4 st4 hk4 => ?_⟩
    obtain ⟨a1, a2, a3, a4, a5, _, _⟩ := st4
    have wr : ∀ c, c ∉ [z, TI, TO, i1, i2] → c ∉ [z, TO, i1, i2] := fun c hc hc' => hc (by
      simp only [List.mem_cons, List.not_mem_nil, or_false] at hc' ⊢
      rcases hc' with h | h | h | h <;> simp [h])
    have I2 : Inv X pins σ (upd H T (.tup [x, y])) { s with heap := h4, toks := tk } := by
      refine I.turnedN (ch := [z, TI, TO, i1, i2]) hf (fun c o hb q => hk4 c o (wr c hb) (hk c o (wr c hb) q)) hT ⟨?_, [v, v'], .cons ru (.cons ru' .nil), ?_⟩
      · show 2 ≤ sizeLine
        decide
      · obtain ⟨o, eo, r⟩ := hIs
        exact ⟨o, hk4 T o ap eo, r⟩
    refine ⟨.ref T, _, I2, rfl, ⟨T, x, y, I.hok.fresh hT, rfl, fun zs hz => by rw [I.list_inj hz hq]; exact hx, fun zs hz => by rw [I.list_inj hz hq']; exact hy, rfl⟩, ⟨a1, a2, a3, a4, a5⟩, fun c hb => ?_⟩
    have fb := hf c hb
    rw [upd_ne]
    · exact fb.1
    · rintro rfl
      refine ap ?_
      simp only [List.mem_cons, List.not_mem_nil, or_false] at hb ⊢
      rcases hb with h | h | h | h | h
      · exact .inl h
      · exact absurd h hTI
      · exact .inr (.inl h)
      · exact .inr (.inr (.inl h))
      · exact .inr (.inr (.inr h))
  done := by
    intro X hP hw hK hc i pins s σ H E I hf st hg
    subst hP hw hK
    obtain ⟨xs, ys, hq, hq', hl⟩ := hg
    obtain ⟨its, rv, p, hzz⟩ := I.list hq
    obtain ⟨its', rv', p', hzz'⟩ := I.list hq'
    obtain ⟨hz, hI, ⟨p1, p2, hO⟩, h1, h2⟩ := st
    have l1 := rv.length
    have l2 := rv'.length
    refine wpAny_pyNext_zip_end (I.ok.hd hc) (zip_apart D hz hO h1 h2 p.isList p'.isList) hz hI hO h1 h2 p.isList p'.isList ?_ fun h3 hk => ⟨rfl, ?_⟩
    · rcases hl with h | h
      · exact .inl (by simp; omega)
      · exact .inr (by simp; omega)
    · exact I.turnedL (t' := s.toks) (ch := [z, TI, TO, i1, i2]) hf fun c o hb q => hk c o (fun e => hb (by simp [e])) (fun e => hb (by simp [e])) (fun e => hb (by simp [e])) (fun e => hb (by simp [e])) q
  self := fun _ _ _ _ _ st h => wpAny_pyIter_zip st.1 h
section
variable {X : Cx}
def iZip (K : PySem.W.Frag) (ta : TA) : TI := fun σ H R => ta σ H fun vs H1 => ∃ a b, vs = [.ref a, .ref b] ∧ (∃ xs, SqL K H1 a xs) ∧ (∃ xs, SqL K H1 b xs) ∧ R (Itz K a b) H1
theorem pi_zip {l l' : Expr} {ta : TA} {p pos tp : Pos} {elts : List Expr} {k : Nat} (hg : Gl X "zip") (hm : X.mg "zip" = none) (ha : PA X [l, l'] ta) (he : starEach [l, l'] X.env = (false, eval l X.env) :: starEach [l'] X.env := by rfl) (hpl : (backTo pos (starEach [l'] X.env)).any (·.1) = false := by rfl) :
    PI X (.Tuple elts k tp) (.Call (.Name "zip" p) [l, l'] [] pos) (iZip X.K ta) := by
  intro pins s σ H R I h
  refine Call_ (ld_blt I hg hm boot_zip (PyProof.Rows.callWith_type1 (thn (ha pos pins s σ H _ I h) fun us s1 ⟨vs, H1, I1, r1, q1⟩ => ?_) he hpl))
  obtain ⟨a, b, e, ⟨xs, hq⟩, ⟨ys, hq'⟩, q⟩ := q1
  subst e
  obtain ⟨u, u', rfl, ru, ru'⟩ := r1.two
  cases ru
  cases ru'
  obtain ⟨its, rv, pl, hz⟩ := I1.list hq
  obtain ⟨its', rv', pl', hz'⟩ := I1.list hq'
  refine call_zip_2 pl.isList pl'.isList fun h1 a1 a2 a3 a4 a5 a6 hk => ?_
  refine wpAny_pyIter_zip a1 ?_
  refine ⟨_, [s1.heap.objs.size + 4, s1.heap.objs.size + 2, s1.heap.objs.size + 3, s1.heap.objs.size, s1.heap.objs.size + 1], _, Itz X.K a b, H1, rfl, I1.kept (t' := s1.toks) hk, turn_zip a b _ _ _ _ _ (zipOwn _), ⟨a1, a2, ⟨_, _, a3⟩, a4, a5⟩, fun c hb => ?_, q⟩
  have this : s1.heap.objs.size ≤ c := by
    simp only [List.mem_cons, List.not_mem_nil, or_false] at hb
    rcases hb with rfl | rfl | rfl | rfl | rfl
    · exact Nat.le_add_right _ _
    · exact Nat.le_add_right _ _
    · exact Nat.le_add_right _ _
    · exact Nat.le_refl _
    · exact Nat.le_add_right _ _
  exact I1.fpOk this (I1.hok.fresh this)
end
end L2
namespace DL
open PySem PySem.Spec L2
open PyProof.Rows hiding St
variable [TB]
variable [Frm]
section
variable {X : Cx} {F : Fx}
def enumD (k : Nat) : List D → List D
  | [] => []
  | d :: r => .tup [.int k, d] :: enumD (k + 1) r
omit [Frm] in
theorem enumD_length : ∀ (ds : List D) (k : Nat), (enumD k ds).length = ds.length
  | [], _ => rfl
  | _ :: r, k => by simp [enumD, enumD_length r]
omit [Frm] in
theorem enumD_get : ∀ (ds : List D) (k i : Nat) (d : D), (enumD k ds)[i]? = some d → ∃ e, ds[i]? = some e ∧ d = .tup [.int ((k + i : Nat) : Int), e]
  | [], _, i, d, h => by simp [enumD] at h
  | e :: r, k, 0, d, h => by
    simp [enumD] at h
    exact ⟨e, rfl, h.symm⟩
  | e :: r, k, i + 1, d, h => by
    simp only [enumD, List.getElem?_cons_succ] at h ⊢
    obtain ⟨e', h1, h2⟩ := enumD_get r (k + 1) i d h
    exact ⟨e', h1, by rw [h2]; congr 3; congr 1; omega⟩
def zipD : List D → List D → List D
  | x :: xs, y :: ys => .tup [x, y] :: zipD xs ys
  | _, _ => []
omit [Frm] in
theorem zipD_length : ∀ (xs ys : List D), (zipD xs ys).length = min xs.length ys.length
  | [], _ => by simp [zipD]
  | _ :: _, [] => by simp [zipD]
  | _ :: xs, _ :: ys => by simp [zipD, zipD_length xs ys]
omit [Frm] in
theorem zipD_get : ∀ (xs ys : List D) (i : Nat) (d : D), (zipD xs ys)[i]? = some d → ∃ x y, xs[i]? = some x ∧ ys[i]? = some y ∧ d = .tup [x, y]
  | [], _, i, d, h => by simp [zipD] at h
  | _ :: _, [], i, d, h => by simp [zipD] at h
  | x :: xs, y :: ys, 0, d, h => by
    simp [zipD] at h
    exact ⟨x, y, rfl, rfl, h.symm⟩
  | x :: xs, y :: ys, i + 1, d, h => by
    simp only [zipD, List.getElem?_cons_succ] at h ⊢
    exact zipD_get xs ys i d h
abbrev diEnum (t : DA) : DA := fun ρ Q => t ρ fun ds ρ' => match ds with
  | [.lst xs] => Q (enumD 0 xs) ρ'
  | _ => False
theorem di_enum {l : Expr} {tl : DA} {p pos tp : Pos} {elts : List Expr} {k : Nat} (hg : Gl X "enumerate") (hm : X.mg "enumerate" = none) (ha : PAD X [l] tl) (he : starEach [l] X.env = (false, eval l X.env) :: starEach [] X.env := by rfl) (hpl : (backTo pos (starEach [] X.env)).any (·.1) = false := by rfl) :
    PID X (.Tuple elts k tp) (.Call (.Name "enumerate" p) [l] [] pos) (diEnum tl) := by
  obtain ⟨T, pa, r⟩ := ha.run
  refine ⟨fun _ _ _ f h => ha.mono _ _ _ (fun d _ h => ?_) h, _, pi_enum hg hm pa he hpl, fun {F} M H σ ρ R rs h => r M H σ ρ _ rs (ha.mono _ _ _ (fun d ρ' h M' H' v m rs' rd => ?_) h)⟩
  · split at h
    · exact f _ _ h
    · exact h.elim
  · split at h
    case h_2 => exact h.elim
    rename_i ds
    simp only [Reps, Rep] at rd
    obtain ⟨x, r0, rfl, ⟨a, xs, rfl, hm, hp, ha, rd⟩, rfl⟩ := rd
    refine ⟨a, rfl, ⟨xs, SqL.of ha⟩, h M' H' _ m rs' ⟨fun M2 H2 m2 i d y H3 e yl => ?_, fun M2 H2 m2 i hi => ?_, fun M2 H2 m2 i hi => ?_⟩⟩
    · obtain ⟨T, z, hT, rfl, hz, rfl⟩ := yl
      obtain ⟨d', hd', rfl⟩ := enumD_get ds 0 i d e
      obtain ⟨v', hv', rv'⟩ := rd.get' hd'
      have := hz xs (SqL.of (m2.lst a xs ha hm hp).1)
      rw [hv'] at this
      cases this
      refine ⟨.new hT, ?_⟩
      simp only [Rep]
      exact ⟨T, _, rfl, upd_same, .cons (by rw [Nat.zero_add]; exact rep_int) (.one ((rv'.mv m2).mv (.new hT)))⟩
    · have hi' : i < xs.length := by rw [← rd.length, ← enumD_length ds 0]; exact hi
      exact ⟨xs, xs[i], SqL.of (m2.lst a xs ha hm hp).1, by simp [hi']⟩
    · exact ⟨xs, SqL.of (m2.lst a xs ha hm hp).1, by rw [← rd.length, ← enumD_length ds 0]; exact hi⟩
abbrev diZip (t : DA) : DA := fun ρ Q => t ρ fun ds ρ' => match ds with
  | [.lst xs, .lst ys] => Q (zipD xs ys) ρ'
  | _ => False
theorem di_zip {l l' : Expr} {tl : DA} {p pos tp : Pos} {elts : List Expr} {k : Nat} (hg : Gl X "zip") (hm : X.mg "zip" = none) (ha : PAD X [l, l'] tl) (he : starEach [l, l'] X.env = (false, eval l X.env) :: starEach [l'] X.env := by rfl) (hpl : (backTo pos (starEach [l'] X.env)).any (·.1) = false := by rfl) :
    PID X (.Tuple elts k tp) (.Call (.Name "zip" p) [l, l'] [] pos) (diZip tl) := by
  obtain ⟨T, pa, r⟩ := ha.run
  refine ⟨fun _ _ _ f h => ha.mono _ _ _ (fun d _ h => ?_) h, _, pi_zip hg hm pa he hpl, fun {F} M H σ ρ R rs h => r M H σ ρ _ rs (ha.mono _ _ _ (fun d ρ' h M' H' v m rs' rd => ?_) h)⟩
  · split at h
    · exact f _ _ h
    · exact h.elim
  · split at h
    case h_2 => exact h.elim
    rename_i ds ds'
    simp only [Reps, Rep] at rd
    obtain ⟨x, r0, rfl, ⟨a, xs, rfl, hm, hp, ha, rd⟩, x', r0', rfl, ⟨b, ys, rfl, hm', hp', hb, rd'⟩, rfl⟩ := rd
    have L := zipD_length ds ds'
    refine ⟨a, b, rfl, ⟨xs, SqL.of ha⟩, ⟨ys, SqL.of hb⟩, h M' H' _ m rs' ⟨fun M2 H2 m2 i d y H3 e yl => ?_, fun M2 H2 m2 i hi => ?_, fun M2 H2 m2 i hi => ?_⟩⟩
    · obtain ⟨T, z, z', hT, rfl, hz, hz', rfl⟩ := yl
      obtain ⟨d1, d2, hd1, hd2, rfl⟩ := zipD_get ds ds' i d e
      obtain ⟨v1, hv1, rv1⟩ := rd.get' hd1
      obtain ⟨v2, hv2, rv2⟩ := rd'.get' hd2
      have := hz xs (SqL.of (m2.lst a xs ha hm hp).1)
      rw [hv1] at this
      cases this
      have := hz' ys (SqL.of (m2.lst b ys hb hm' hp').1)
      rw [hv2] at this
      cases this
      refine ⟨.new hT, ?_⟩
      simp only [Rep]
      exact ⟨T, _, rfl, upd_same, .cons ((rv1.mv m2).mv (.new hT)) (.one ((rv2.mv m2).mv (.new hT)))⟩
    · rw [L, rd.length, rd'.length] at hi
      have h1 : i < xs.length := by omega
      have h2 : i < ys.length := by omega
      exact ⟨xs, ys, xs[i], ys[i], SqL.of (m2.lst a xs ha hm hp).1, SqL.of (m2.lst b ys hb hm' hp').1, by simp [h1], by simp [h2]⟩
    · rw [L, rd.length, rd'.length] at hi
      exact ⟨xs, ys, SqL.of (m2.lst a xs ha hm hp).1, SqL.of (m2.lst b ys hb hm' hp').1, by omega⟩
def dgSubS (k : Nat) (d : D) (ρ : DS) (Q : DS → Prop) (j : D) : Sl → Prop
  | .own ds => match j with
    | .int i => ∃ n, ixN ds.length i = some n ∧ Q (ρ.set k (.own (ds.set n d)))
    | _ => False
  | _ => False
abbrev dgSub (k : Nat) (ti : DE) : DG := fun d ρ Q => isOwn (slot ρ k) ∧ ti ρ fun j ρ' => dgSubS k d ρ' Q j (slot ρ' k)
theorem dg_sub {k : Nat} {o i : Expr} {ti : DE} {pos : Pos} (ho : PE X o (tVar k)) (hi : PED X i ti)
    (ha : ∀ v, assign (.Subscript o i pos) X.env v = (do
      let ov ← holding [v] (eval o X.env)
      let iv ← holding [v, ov] (eval i X.env)
      standAt pos
      holding [v, ov, iv] (setItem ov iv v)
      release [v, ov, iv] []) := by intro _; rfl) : PGD X (.Subscript o i pos) (dgSub k ti) := by
  obtain ⟨T, p, r⟩ := hi.run
  refine ⟨fun d ρ P P' f h => ⟨h.1, hi.mono _ _ _ (fun j ρ' h => ?_) h.2⟩, _, pg_sub ho p set_list ha, fun {F} M H σ ρ d v Q rs rd h => ?_⟩
  · cases q : slot ρ' k with
    | nil => rw [q] at h; exact h.elim
    | val d => rw [q] at h; exact h.elim
    | pin w d => rw [q] at h; exact h.elim
    | obj z => rw [q] at h; exact h.elim
    | own ds =>
      rw [q] at h
      cases j <;> first | exact h.elim | (obtain ⟨n, e, h⟩ := h; exact ⟨n, e, f _ h⟩)
  · obtain ⟨h0, h⟩ := h
    cases q : slot ρ k with
    | nil => rw [q] at h0; exact h0.elim
    | val d => rw [q] at h0; exact h0.elim
    | pin w d => rw [q] at h0; exact h0.elim
    | obj z => rw [q] at h0; exact h0.elim
    | own ds =>
      obtain ⟨oo1, ho1, l, xs, rfl, hm1, h01, hp1, hl1, hr1⟩ := rs.at (slot_get q (by intro z; cases z))
      refine ⟨.ref l, ho1, ?_⟩
      refine r M H σ ρ _ rs (hi.mono _ _ _ (fun j ρ' h M' H' w m rs' rj => ?_) h)
      cases q' : slot ρ' k with
      | nil => rw [q'] at h; exact h.elim
      | val d => rw [q'] at h; exact h.elim
      | pin w d => rw [q'] at h; exact h.elim
      | obj z => rw [q'] at h; exact h.elim
      | own ds' =>
        rw [q'] at h
        cases j <;> first | exact h.elim | skip
        rename_i j
        obtain ⟨n, e, h⟩ := h
        have g1 := slot_get q' (by intro z; cases z)
        obtain ⟨l', xs', e', hm', h0', hp', hl', hr'⟩ := rs'.sl k _ _ g1 ho1
        cases e'
        simp only [Rep] at rj
        subst rj
        obtain ⟨m2, rs2⟩ := rs'.write g1 ho1 (hr'.set (rd.mv m) n)
        exact ⟨l, xs', j, n, rfl, rfl, hl', by rw [← hr'.length]; exact e, h M' _ _ (m.trans m2) rs2⟩
omit [Frm] in
theorem ixN_of {n : Nat} {i : Int} (h0 : 0 ≤ i) (h : i < n) : ixN n i = some i.toNat := by
  unfold ixN
  rw [if_pos h0, if_pos h]
def dIxS (ρ : DS) (Q : D → DS → Prop) (j : D) : Sl → Prop
  | .own ds => gIx (.lst ds) j fun d => Q d ρ
  | _ => False
abbrev dIxO (k : Nat) (ti : DE) : DE := fun ρ Q => isOwn (slot ρ k) ∧ ti ρ fun j ρ' => dIxS ρ' Q j (slot ρ' k)
theorem de_ixO {k : Nat} {a b : Expr} {tb : DE} {pos : Pos} (ha : PE X a (tVar k)) (hb : PED X b tb) (hs : PlainIx b) : PED X (.Subscript a b pos) (dIxO k tb) := by
  obtain ⟨T, p, r⟩ := hb.run
  refine ⟨fun ρ P P' f h => ⟨h.1, hb.mono _ _ _ (fun j ρ' h => ?_) h.2⟩, _, pe_ix ix_listH ha p hs, fun {F} M H σ ρ Q rs h => ?_⟩
  · cases q : slot ρ' k with
    | nil => rw [q] at h; exact h.elim
    | val d => rw [q] at h; exact h.elim
    | pin w d => rw [q] at h; exact h.elim
    | obj z => rw [q] at h; exact h.elim
    | own ds =>
      rw [q] at h
      cases j <;> first | exact h.elim | exact opt_mono (fun _ h => f _ _ h) h
  · obtain ⟨h0, h⟩ := h
    cases q : slot ρ k with
    | nil => rw [q] at h0; exact h0.elim
    | val d => rw [q] at h0; exact h0.elim
    | pin w d => rw [q] at h0; exact h0.elim
    | obj z => rw [q] at h0; exact h0.elim
    | own ds =>
      obtain ⟨oo1, ho1, l, xs, rfl, hm1, h01, hp1, hl1, hr1⟩ := rs.at (slot_get q (by intro z; cases z))
      refine ⟨.ref l, ho1, ?_⟩
      refine r M H σ ρ _ rs (hb.mono _ _ _ (fun j ρ' h M' H' w m rs' rj => ?_) h)
      cases q' : slot ρ' k with
      | nil => rw [q'] at h; exact h.elim
      | val d => rw [q'] at h; exact h.elim
      | pin w d => rw [q'] at h; exact h.elim
      | obj z => rw [q'] at h; exact h.elim
      | own ds' =>
        rw [q'] at h
        cases j <;> first | exact h.elim | skip
        rename_i j
        obtain ⟨d, e, h⟩ := opt_some h
        have g1 := slot_get q' (by intro z; cases z)
        obtain ⟨l', xs', e', hm', h0', hp', hl', hr'⟩ := rs'.sl k _ _ g1 ho1
        cases e'
        simp only [Rep] at rj
        subst rj
        obtain ⟨v, e2, rv⟩ := atI_rep hr' e
        exact ⟨l, xs', j, v, rfl, rfl, hl', e2, h M' H' v m rs' rv⟩
end
end DL
namespace DL
open PySem PySem.Spec L2
open PyProof.Rows hiding St
variable [TB]
abbrev DTN := (D → Prop) → (List D → Prop) → DS → Prop
section
variable [Frm]
structure EN (K : PySem.W.Frag) (F : Fx) (M : List Addr) (H : Hp) (Q : D → Prop) (L : List D → Prop) (D : Ends) : Prop where
  rt : ∀ M' H' σ' ρ' d v, Mv K F.pp M H M' H' → RSt K F M' H' σ' ρ' → Rep K F.pp M' H' d v → Q d → D.rt v H'
  nx : ∀ M' H' σ' ρ', Mv K F.pp M H M' H' → RSt K F M' H' σ' ρ' → Q .non → D.nx σ' H'
  nw : ∀ M' H' ds l xs, SameP K F.pp F.H0 H' → (∀ a ∈ F.M0, a ∈ M') → F.H0 l = none → F.pp ≠ some l → l ∈ M' → H' l = some (.lst xs) → Reps K F.pp M' H' ds xs → L ds → D.rt (.ref l) H'
theorem EN.mv {K : PySem.W.Frag} {F : Fx} {M M1 : List Addr} {H H1 : Hp} {Q : DL.D → Prop} {L : List DL.D → Prop} {D : Ends} (o : EN K F M H Q L D) (m : Mv K F.pp M H M1 H1) : EN K F M1 H1 Q L D :=
  ⟨fun _ _ _ _ _ _ m' => o.rt _ _ _ _ _ _ (m.trans m'), fun _ _ _ _ m' => o.nx _ _ _ _ (m.trans m'), o.nw⟩
def PSsN (X : Cx) (st : List Stmt) (t : DTN) : Prop := ∃ T : TS, PSs X st T ∧ ∀ {F : Fx} M H σ ρ (Q : D → Prop) (L : List D → Prop) (D : Ends), RSt X.K F M H σ ρ → EN X.K F M H Q L D → t Q L ρ → T D σ H
variable {X : Cx} {st : Stmt} {rest : List Stmt} {t : DTS} {u : DTN} {e : Expr} {tl : DA} {pos : Pos}
theorem psn_ret (h : PLD X e tl) : PSsN X [.Return (some e) pos] (fun _ L ρ => tl ρ fun ds _ => L ds) := by
  obtain ⟨T, p, r⟩ := h.run
  refine ⟨_, pss_one (ps_ret p), fun {F} M H σ ρ Q L D rs en q => r M H σ ρ _ rs (h.mono _ _ _ (fun ds ρ' q M' H1 H' l xs m rs' hl e r' => ?_) q)⟩
  subst e
  have h0 : F.H0 l = none := by
    cases e : F.H0 l with
    | none => rfl
    | some o => exact absurd hl (rs'.same.live l (by rw [e]; intro z; cases z))
  exact en.nw (l :: M') _ ds l xs (rs'.sameT.trans (.new hl)) (fun a ha => List.mem_cons_of_mem _ (rs'.sub a ha)) h0 (rs'.liv.fresh hl).2 List.mem_cons_self upd_same (r'.mv (.newOwn hl)) q
def slN (L : List D → Prop) : Sl → Prop
  | .own ds => L ds
  | _ => False
theorem psn_own {i : Nat} (h : PE X e (tVar i)) : PSsN X [.Return (some e) pos] (fun _ L ρ => slN L (slot ρ i)) := by
  refine ⟨_, pss_one (ps_ret h), fun {F} M H σ ρ Q L D rs en q => ?_⟩
  have q : slN L (slot ρ i) := q
  cases z : slot ρ i with
  | nil => rw [z] at q; exact q.elim
  | val d => rw [z] at q; exact q.elim
  | pin w d => rw [z] at q; exact q.elim
  | obj y => rw [z] at q; exact q.elim
  | own ds =>
    rw [z] at q
    obtain ⟨oo1, ho1, l, xs, rfl, hm1, h01, hp1, hl1, hr1⟩ := rs.at (slot_get z (by intro z; cases z))
    exact ⟨.ref l, ho1, en.nw M H ds l xs rs.sameT rs.sub h01 hp1 hm1 hl1 hr1 q⟩
theorem psn_cons (h1 : PSD X st t) (h2 : PSsN X rest u) : PSsN X (st :: rest) (fun Q L ρ => t { nx := u Q L, rt := Q } ρ) := by
  obtain ⟨T, p, r⟩ := h1
  obtain ⟨U, q, s⟩ := h2
  refine ⟨_, pss_cons p q, fun {F} M H σ ρ Q L D rs en h => r M H σ ρ { nx := u Q L, rt := Q } { D with nx := U D } rs ⟨fun M' H' σ' ρ' m rs' h => ?_, fun _ _ _ _ _ _ q => q.elim, fun _ _ _ _ _ _ q => q.elim, en.rt⟩ h⟩
  exact s M' H' σ' ρ' Q L D rs' (en.mv m) h
theorem psn_mid (h1 : PSD X st t) (h2 : PSsN X rest u) : PSsN X (st :: rest) (fun Q L ρ => ∃ N : DS → Prop, t { nx := N, rt := Q } ρ ∧ ∀ ρ', N ρ' → u Q L ρ') := by
  obtain ⟨T, p, r⟩ := h1
  obtain ⟨U, q, s⟩ := h2
  refine ⟨_, pss_cons p q, fun {F} M H σ ρ Q L D rs en h => ?_⟩
  obtain ⟨N, h, hn⟩ := h
  refine r M H σ ρ { nx := N, rt := Q } { D with nx := U D } rs ⟨fun M' H' σ' ρ' m rs' h => ?_, fun _ _ _ _ _ _ q => q.elim, fun _ _ _ _ _ _ q => q.elim, en.rt⟩ h
  exact s M' H' σ' ρ' Q L D rs' (en.mv m) (hn ρ' h)
end
abbrev DSpN := List D → (D → Prop) → (List D → Prop) → Prop
def spDN (K : PySem.W.Frag) (n : Nat) (g : DSpN) : Sp := fun vs H Q _ => ∃ pp M ds, Lv pp M H ∧ Reps K pp M H ds vs ∧ ds.length = n ∧ g ds (fun d => ∀ H' v, SameP K pp H H' → Rep K pp M H' d v → Q v H')
  (fun es => ∀ M' H' l xs, SameP K pp H H' → (∀ a ∈ M, a ∈ M') → H l = none → pp ≠ some l → l ∈ M' → H' l = some (.lst xs) → Reps K pp M' H' es xs → Q (.ref l) H')
def MonoN (g : DSpN) : Prop := ∀ ds P P' L L', (∀ d, P d → P' d) → (∀ es, L es → L' es) → g ds P L → g ds P' L'
theorem fnDN {P : Program} {w : World} {K : PySem.W.Frag} {mg : Str → Option Value} {base : Heap} {x qual : Str} {st : Stmt} {f : Addr} {fd : FuncData} {N ps : List Str} {k : Nat} {g : DSpN} {t : DTN} (Fn : Fun K x qual st f fd) (S : FnScope N ps (defScope st))
    (hb : ∀ (cdv : Value) (A : Around) (outer : List Env) (s : Shared) (H : Hp) (E : XK), Room k (A.deeper (envOfC qual (defScope st) s.heap.objs.size f cdv)) → @PSsN _ Frm.free (cxOf CX0 P w K mg base N qual (defScope st) f cdv A outer s H E).nox (defBody st) t)
    (hg : ∀ ds Q L, ds.length = ps.length → g ds Q L → t Q L (dstart N.length ds)) : FnOk P w K mg base CX0 (k + 1) f fd ps (spDN K ps.length g) := by
  refine Fn.ok S (fun vs H Q E h => ?_) (fun cdv A outer s H vs Q E hr h => ?_)
  · obtain ⟨pp, M, ds, _, r, e, _⟩ := h
    rw [← r.length, e]
  · obtain ⟨pp, M, ds, lv, r, e, h⟩ := h
    obtain ⟨T, p, run⟩ := hb cdv A outer s H E hr
    refine ⟨T, p, run M H _ _ _ _ _ (rst_start lv r trivial) ⟨fun M' H' σ' ρ' d v m rs rd q => ?_, fun M' H' σ' ρ' m rs q => ?_, fun M' H' es l xs s sub h0 hp hm hl rr q => ?_⟩ (hg ds _ _ e h)⟩
    · exact q H' v rs.sameT (rd.mv (.less rs.sub))
    · exact q H' .non rs.sameT (by simp only [Rep])
    · exact q M' H' l xs s sub h0 hp hm hl rr
theorem FnOk.asD {P : Program} {w : World} {K : PySem.W.Frag} {mg : Str → Option Value} {base : Heap} {k n : Nat} {f : Addr} {fd : FuncData} {ps : List Str} {g : DSpN} {g' : DSp} (h : FnOk P w K mg base CX0 k f fd ps (spDN K n g)) (hg : ∀ ds Q, g' ds Q → g ds Q (fun es => Q (.lst es))) (gm : MonoN g) : FnOk P w K mg base CX0 k f fd ps (spD K n g') :=
  h.imp fun vs H Q E h => by
    obtain ⟨pp, M, ds, lv, r, e, h⟩ := h
    refine ⟨pp, M, ds, lv, r, e, gm _ _ _ _ _ (fun d q => q) (fun es q M' H' l xs s sub hl hp hm hH rr => q H' _ s ?_) (hg _ _ h)⟩
    simp only [Rep]
    exact ⟨l, xs, rfl, (lv.fresh hl).1, hp, hH, rr.mv (.less sub)⟩
section
variable [Frm] {X : Cx}
end
end DL
namespace DL
open PySem PySem.Spec L2
open PyProof.Rows hiding St
variable [TB]
variable [Frm]
def noOwn : DS → Bool
  | [] => true
  | .own _ :: _ => false
  | .obj _ :: _ => false
  | _ :: r => noOwn r
def onlyOwn : Nat → DS → Bool
  | _, [] => true
  | 0, _ :: r => noOwn r
  | _ + 1, .own _ :: _ => false
  | _ + 1, .obj _ :: _ => false
  | k + 1, _ :: r => onlyOwn k r
omit [Frm] in
theorem onlyOwn_go' : ∀ {ρ : DS} {j : Nat} {ds : List D}, noOwn ρ = true → ρ[j]? = some (.own ds) → False
  | [], j, ds, _, h => by simp at h
  | s :: r, 0, ds, h, e => by
    simp at e
    subst e
    simp [noOwn] at h
  | s :: r, j + 1, ds, h, e => by
    cases s <;> first | (simp [noOwn] at h; done) | exact onlyOwn_go' (ρ := r) (by simpa [noOwn] using h) (by simpa using e)
omit [Frm] in
theorem onlyOwn_at : ∀ {ρ : DS} {k j : Nat} {ds : List D}, onlyOwn k ρ = true → ρ[j]? = some (.own ds) → j = k
  | [], k, j, ds, _, h => by simp at h
  | s :: r, 0, 0, ds, h, e => rfl
  | s :: r, 0, j + 1, ds, h, e => (onlyOwn_go' (ρ := r) (by simpa [onlyOwn] using h) (by simpa using e)).elim
  | s :: r, k + 1, 0, ds, h, e => by
    simp at e
    subst e
    simp [onlyOwn] at h
  | s :: r, k + 1, j + 1, ds, h, e => by
    cases s <;> first | (simp [onlyOwn] at h; done) | exact congrArg Nat.succ (onlyOwn_at (ρ := r) (k := k) (by simpa [onlyOwn] using h) (by simpa using e))
omit [Frm] in
theorem onlyObj_go' : ∀ {ρ : DS} {j : Nat} {q : O}, noOwn ρ = true → ρ[j]? = some (.obj q) → False
  | [], j, ds, _, h => by simp at h
  | s :: r, 0, ds, h, e => by
    simp at e
    subst e
    simp [noOwn] at h
  | s :: r, j + 1, ds, h, e => by
    cases s <;> first | (simp [noOwn] at h; done) | exact onlyObj_go' (ρ := r) (by simpa [noOwn] using h) (by simpa using e)
omit [Frm] in
theorem onlyObj_at : ∀ {ρ : DS} {k j : Nat} {q : O}, onlyOwn k ρ = true → ρ[j]? = some (.obj q) → j = k
  | [], k, j, ds, _, h => by simp at h
  | s :: r, 0, 0, ds, h, e => rfl
  | s :: r, 0, j + 1, ds, h, e => (onlyObj_go' (ρ := r) (by simpa [onlyOwn] using h) (by simpa using e)).elim
  | s :: r, k + 1, 0, ds, h, e => by
    simp at e
    subst e
    simp [onlyOwn] at h
  | s :: r, k + 1, j + 1, ds, h, e => by
    cases s <;> first | (simp [onlyOwn] at h; done) | exact congrArg Nat.succ (onlyObj_at (ρ := r) (k := k) (by simpa [onlyOwn] using h) (by simpa using e))
section
variable {K : PySem.W.Frag} {F : Fx} {M M0 M' : List Addr} {H H' : Hp} {σ : St} {ρ : DS} {i : Nat} {ds : List D} {v : V}
theorem RSt.thaw (r : RSt K F M H σ ρ) (h : ρ[i]? = some (.own ds)) (oo : onlyOwn i ρ = true) (ho : σ[i]? = some (some v)) (m0 : Mv K F.pp M H M0 H) (rl : Rep K F.pp M0 H (.lst ds) v) (m : Mv K F.pp M0 H M' H') (r' : RSt K F M' H' σ (ρ.set i (.val (.lst ds)))) :
    ∃ M'', Mv K F.pp M H M'' H' ∧ RSt K F M'' H' σ ρ := by
  obtain ⟨o, ho1, l, xs, rfl, hm, h0, hp, hl, hr⟩ := r.at h
  rw [ho1] at ho
  cases ho
  simp only [Rep] at rl
  obtain ⟨l2, xs2, e, n2, p2, h2, r2⟩ := rl
  cases e
  rw [hl] at h2
  cases h2
  obtain ⟨hl', hn'⟩ := m.lst l xs hl n2 p2
  have mm := m0.trans m
  have m2 : Mv K F.pp M H (l :: M') H' := by
    refine ⟨mm.tup, fun a o e n p => ?_, mm.pen, mm.tb⟩
    obtain ⟨q1, q2⟩ := mm.oth a o e n p
    refine ⟨q1, fun z => ?_⟩
    rcases List.mem_cons.mp z with rfl | z
    · exact n hm
    · exact q2 z
  refine ⟨l :: M', m2, ⟨r.len, fun j s o h1 h2 => ?_, ⟨fun j => if j = i then [l] else [], fun j s o h1 h2 => ?_, fun j a ha => ?_, fun j k e a ha hb => ?_⟩, fun a ha => List.mem_cons_of_mem _ (r'.sub a ha), r'.same, r.old, ⟨fun a ha => ?_, r'.liv.p⟩, r.lk.cl m2⟩⟩
  · have q := r.sl j s o h1 h2
    cases s with
    | nil => trivial
    | val d => obtain ⟨v, e, q⟩ := q; exact ⟨v, e, q.mv m2⟩
    | pin w d => obtain ⟨v, e, ew, q⟩ := q; exact ⟨v, e, ew, q.mv m2⟩
    | own es =>
      have e := onlyOwn_at oo h1
      subst e
      rw [h] at h1
      cases h1
      rw [ho1] at h2
      cases h2
      exact ⟨l, xs, rfl, List.mem_cons_self, h0, hp, hl', hr.mv m2⟩
    | obj z => exact q
  · show Ow K F _ H' s o (if j = i then [l] else [])
    cases s with
    | nil => trivial
    | val d => trivial
    | pin w d => trivial
    | own es =>
      have e := onlyOwn_at oo h1
      subst e
      rw [ho1] at h2
      cases h2
      rw [if_pos rfl]
      exact ⟨l, rfl, rfl⟩
    | obj z =>
      have e := onlyObj_at oo h1
      subst e
      rw [h] at h1
      cases h1
  · replace ha : a ∈ (if j = i then [l] else []) := ha
    by_cases e : j = i
    · rw [if_pos e] at ha
      rw [List.mem_singleton.mp ha]
      exact ⟨List.mem_cons_self, h0, hp⟩
    · rw [if_neg e] at ha; simp at ha
  · replace ha : a ∈ (if j = i then [l] else []) := ha
    replace hb : a ∈ (if k = i then [l] else []) := hb
    by_cases e1 : j = i
    · subst e1
      rw [if_neg (Ne.symm e)] at hb; simp at hb
    · rw [if_neg e1] at ha; simp at ha
  · rcases List.mem_cons.mp ha with rfl | ha
    · rw [hl']; intro z; cases z
    · exact r'.liv.m a ha
end
section
variable {X : Cx} {e : Expr}
def scD : D → Prop
  | .int _ => True
  | .bl _ => True
  | .non => True
  | _ => False
abbrev dPeek (k : Nat) (t : DE) : DE := fun ρ Q => ∃ ds, slot ρ k = .own ds ∧ onlyOwn k ρ = true ∧ t (ρ.set k (.val (.lst ds))) fun d ρ' => (scD d ∧ ρ' = ρ.set k (.val (.lst ds))) ∧ Q d ρ
theorem de_peek {t : DE} (k : Nat) (h : PED X e t) : PED X e (dPeek k t) := by
  obtain ⟨T, p, r⟩ := h.run
  refine ⟨fun ρ P P' f ⟨ds, e, o, q⟩ => ⟨ds, e, o, h.mono _ _ _ (fun b ρ' q => ⟨q.1, f _ _ q.2⟩) q⟩, T, p, fun {F} M H σ ρ Q rs ⟨ds, e, o, q⟩ => ?_⟩
  have g := slot_get e (by intro z; cases z)
  obtain ⟨M0, v, ho, m0, rs0, rl⟩ := rs.freeze g
  refine r M0 H σ _ Q rs0 (h.mono _ _ _ (fun d ρ' q M' H' u m rs' rd => ?_) q)
  obtain ⟨⟨sc, rfl⟩, q⟩ := q
  obtain ⟨M2, m2, rs2⟩ := rs.thaw g o ho m0 rl m rs'
  refine q M2 H' u m2 rs2 ?_
  cases d <;> first | exact sc.elim | (simp only [Rep] at rd ⊢; exact rd)
end
end DL
namespace DL
open PySem PySem.Spec L2
open PyProof.Rows hiding St
variable [TB]
variable [Frm]
end DL
namespace L2
open PySem PySem.Spec PyProof.Rows
section
variable {prog : Program} {w : World} {A : Around} {E : Value → Shared → Prop} {s : Shared}
end
section
variable {X : Cx} {e st : Expr} {te : TE} {tk : TO} {pos p2 : Pos}
end
end L2
namespace PySem
end PySem
namespace L2
open PySem PySem.Spec PyProof.Rows
section
variable {X : Cx}
end
end L2
namespace DL
open PySem PySem.Spec L2
open PyProof.Rows hiding St
variable [TB]
variable [Frm]
section
variable {X : Cx} {pp : Option Addr}
omit [Frm] in
theorem Reps.reverse {K : PySem.W.Frag} {M : List Addr} {H : Hp} : ∀ {ds : List D} {xs : List V}, Reps K pp M H ds xs → Reps K pp M H ds.reverse xs.reverse
  | [], xs, r => by
    simp only [Reps] at r
    subst r
    exact .nil
  | d :: ds, xs, r => by
    simp only [Reps] at r
    obtain ⟨x, r', rfl, hd, hr⟩ := r
    rw [List.reverse_cons, List.reverse_cons]
    exact (Reps.reverse hr).append (.one hd)
end
end DL
namespace DL
open PySem PySem.Spec L2
open PyProof.Rows hiding St
variable [TB]
variable [Frm]
section
variable {X : Cx} {pp : Option Addr}
end
end DL
namespace L2
open PySem PySem.Spec PyProof.Rows
section
variable {X : Cx}
end
end L2
namespace DL
open PySem PySem.Spec L2
open PyProof.Rows hiding St
variable [TB]
def flatD : D → Bool
  | .non => true
  | .bl _ => true
  | .int _ => true
  | .str _ => true
  | _ => false
def toV : D → V
  | .bl b => .bl b
  | .int i => .int i
  | .str s => .str s
  | _ => .non
def eqF (x y : D) : Bool := eqV (toV x) (toV y)
section
variable {K : PySem.W.Frag} {pp : Option Addr} {M : List Addr} {H : Hp}
theorem flat_rep {d : D} {v : V} (f : flatD d = true) (r : Rep K pp M H d v) : v = toV d ∧ flatV v = true := by
  cases d <;> first | exact absurd (show false = true from f) Bool.false_ne_true | skip
  all_goals
    simp only [Rep] at r
    subst r
    exact ⟨rfl, rfl⟩
theorem flats_rep : ∀ {ds : List D} {xs : List V}, ds.all flatD = true → Reps K pp M H ds xs → xs = ds.map toV ∧ xs.all flatV = true
  | [], xs, _, r => by
    simp only [Reps] at r
    subst r
    exact ⟨rfl, rfl⟩
  | d :: ds, xs, f, r => by
    simp only [Reps] at r
    obtain ⟨x, r', rfl, hd, hr⟩ := r
    rw [List.all_cons, Bool.and_eq_true] at f
    obtain ⟨e1, e2⟩ := flat_rep f.1 hd
    obtain ⟨e3, e4⟩ := flats_rep f.2 hr
    subst e1 e3
    exact ⟨rfl, by rw [List.all_cons, e2, e4]; rfl⟩
end
variable [Frm]
section
variable {X : Cx}
structure M1D (X : Cx) (name : Str) (id : String) (g : D → D → (D → Prop) → Prop) : Prop where
  mono : ∀ x y P P', (∀ d, P d → P' d) → g x y P → g x y P'
  slot : Slot "list" name id
  ty : typeOf (.builtin id) = pure (.type "method_descriptor")
  run : ∃ r, MtR X id r ∧ ∀ {pp : Option Addr} M H x y v u (Q : VK), Rep X.K pp M H x v → Rep X.K pp M H y u → g x y (fun d => ∀ w, Rep X.K pp M H d w → Q w H) → r v [u] H Q
end
end DL
namespace DL
open PySem PySem.Spec L2
open PyProof.Rows hiding St
variable [TB]
variable [Frm]
end DL
namespace L2
open PySem PySem.Spec PyProof.Rows
section
variable {prog : Program} {w : World} {A : Around} {E : Value → Shared → Prop} {s : Shared}
end
end L2


namespace DL
open PySem PySem.Spec L2
open PyProof.Rows hiding St
variable [TB]
section
variable [Frm]
variable {X : Cx} {F : Fx} {pp : Option Addr}
abbrev dSlL (te : DE) (tl th : DO) : DA := fun ρ Q => te ρ fun x ρ1 => tl ρ1 fun lo ρ2 => th ρ2 fun hi ρ3 => match x with
  | .lst xs => Q (cutD xs lo hi) ρ3
  | _ => False
theorem dl_slL {e : Expr} {lo hi : Option Expr} {te : DE} {tl th : DO} {pos p2 : Pos} (he : PED X e te) (hl : POD X lo tl) (hh : POD X hi th) : PLD X (.Subscript e (.Slice lo hi none p2) pos) (dSlL te tl th) := by
  obtain ⟨T, p, r⟩ := he.run
  obtain ⟨Tl, pl, rl⟩ := hl.run
  obtain ⟨Th, ph, rh⟩ := hh.run
  refine ⟨fun _ _ _ f h => he.mono _ _ _ (fun x _ h => hl.mono _ _ _ (fun _ _ h => hh.mono _ _ _ (fun _ _ h => ?_) h) h) h, _, pe_slice sl_list p pl ph, fun {F} M H σ ρ Q rs h => ?_⟩
  · cases x <;> first | exact h.elim | exact f _ _ h
  refine r M H σ ρ _ rs (he.mono _ _ _ (fun x ρ1 h M1 H1 v m1 rs1 r1 => ?_) h)
  refine rl M1 H1 σ ρ1 _ rs1 (hl.mono _ _ _ (fun lo ρ2 h M2 H2 m2 rs2 => ?_) h)
  refine rh M2 H2 σ ρ2 _ rs2 (hh.mono _ _ _ (fun hi ρ3 h M3 H3 m3 rs3 => ?_) h)
  have r3 := (r1.mv m2).mv m3
  cases x <;> first | exact h.elim | skip
  simp only [Rep] at r3
  obtain ⟨a, xs, rfl, _, _, ha, rx⟩ := r3
  exact ⟨a, xs, rfl, SqL.of ha, fun l hl => h M3 H3 _ l _ ((m1.trans m2).trans m3) rs3 hl rfl (rx.cut lo hi)⟩
end
end DL
namespace L2
open PySem PySem.Spec PyProof.Rows
abbrev IsZipN (h : Heap) (z TI TO : Addr) (f0 f1 : Value) : Prop :=
  h.get? z = some { cls := .type "zip", dict := none, data := .fields #[f0, f1, .bool false, .ref TI, .ref TO], slots := #[] }
abbrev IsTupR (h : Heap) (T : Addr) (xs : Array Value) : Prop := h.get? T = some { cls := .type "tuple", data := .seq xs }
def OwnF (f : Value) : Prop := f = .none ∨ ∃ a : Int, f = .int a 0
abbrev itsL (n m : Nat) : List Value := (List.range m).map fun j => Value.ref (n + j)
def ItsAt (h : Heap) (n : Nat) (src : List (Addr × Array Value)) (k c : Nat) : Prop := ∀ (j : Nat) (p : Addr × Array Value), src[j]? = some p → h.IsListIter (n + j) p.1 (if j < c then k + 1 else k)
def SrcAt (h : Heap) (n : Nat) (src : List (Addr × Array Value)) : Prop := ∀ (j : Nat) (p : Addr × Array Value), src[j]? = some p → p.1 < n ∧ h.IsList p.1 p.2
structure ZipSt (h : Heap) (n : Nat) (src : List (Addr × Array Value)) (k : Nat) : Prop where
  zip : ∃ f0 f1, OwnF f0 ∧ IsZipN h (n + src.length + 2) (n + src.length) (n + src.length + 1) f0 f1
  ti : IsTupR h (n + src.length) (itsL n src.length).toArray
  to : ∃ ws : Array Value, ws.size = src.length ∧ IsTupR h (n + src.length + 1) ws
  its : ItsAt h n src k 0
  ls : SrcAt h n src
  ne : src ≠ []
def KeptZ (n m : Nat) (h h' : Heap) : Prop := ∀ (b : Nat) o, b < n ∨ b = n + m ∨ n + m + 2 < b → h.get? b = some o → h'.get? b = some o
section
variable {prog : Program} {w : World} {A : Around} {E : Value → Shared → Prop} {s : Shared}
end
end L2
namespace L2
open PySem PySem.Spec PyProof.Rows
structure ZipLp (h0 : Heap) (n : Nat) (src : List (Addr × Array Value)) (k c : Nat) (h : Heap) : Prop where
  ti : IsTupR h (n + src.length) (itsL n src.length).toArray
  its : ItsAt h n src k c
  ls : SrcAt h n src
  kept : KeptZ n src.length h0 h
  sz : h.objs.size = h0.objs.size
theorem at_lt {α : Type} {l : List α} {j : Nat} {p : α} (h : l[j]? = some p) : j < l.length := (List.getElem?_eq_some_iff.mp h).1
section
variable {h0 h h' : Heap} {n k c : Nat} {src : List (Addr × Array Value)}
theorem ZipLp.same {a : Nat} (L : ZipLp h0 n src k c h) (hs : Heap.SameBut a h h') (ha : a = n + src.length + 1 ∨ a = n + src.length + 2) : ZipLp h0 n src k c h' where
  ti := hs.extBut _ _ (by intro e; have e : (_ : Nat) = (_ : Nat) := e; omega) L.ti
  its := fun j p hj => (L.its j p hj).extBut hs.extBut (by have := at_lt hj; intro e; have e : (_ : Nat) = (_ : Nat) := e; omega)
  ls := fun j p hj => ⟨(L.ls j p hj).1, (L.ls j p hj).2.extBut hs.extBut (Nat.ne_of_lt (Nat.lt_of_lt_of_le (L.ls j p hj).1 (show n ≤ a by omega)))⟩
  kept := fun b o hb e => hs.extBut _ _ (by intro e; have e : (_ : Nat) = (_ : Nat) := e; omega) (L.kept b o hb e)
  sz := hs.1.trans L.sz
theorem ZipLp.next {p : Addr × Array Value} (L : ZipLp h0 n src k c h) (hc : src[c]? = some p) (hit : h'.IsListIter (n + c) p.1 (k + 1)) (hs : Heap.SameBut (n + c) h h') : ZipLp h0 n src k (c + 1) h' := by
  have lt := at_lt hc
  refine ⟨hs.extBut _ _ (by intro e; have e : (_ : Nat) = (_ : Nat) := e; omega) L.ti, fun j q hj => ?_, fun j q hj => ⟨(L.ls j q hj).1, (L.ls j q hj).2.extBut hs.extBut (Nat.ne_of_lt (Nat.lt_of_lt_of_le (L.ls j q hj).1 (Nat.le_add_right n c)))⟩, fun b o hb e => hs.extBut _ _ (by intro e; have e : (_ : Nat) = (_ : Nat) := e; omega) (L.kept b o hb e), hs.1.trans L.sz⟩
  by_cases z : j = c
  · subst z
    rw [hc] at hj
    cases hj
    rw [if_pos (by omega)]
    exact hit
  · have := (L.its j q hj).extBut hs.extBut (by intro e; have e : (_ : Nat) = (_ : Nat) := e; omega)
    by_cases y : j < c
    · rw [if_pos y] at this
      rw [if_pos (by omega)]
      exact this
    · rw [if_neg y] at this
      rw [if_neg (by omega)]
      exact this
theorem KeptZ.step {a : Nat} (L : ZipLp h0 n src k c h) (hs : Heap.ExtBut a h h') (ha : (n ≤ a ∧ a < n + src.length) ∨ a = n + src.length + 1 ∨ a = n + src.length + 2) : KeptZ n src.length h0 h' :=
  fun b o hb e => hs _ _ (by intro e; have e : (_ : Nat) = (_ : Nat) := e; omega) (L.kept b o hb e)
end
section
variable {prog : Program} {w : World} {A : Around} {E : Value → Shared → Prop} {s : Shared}
def Told (src : List (Addr × Array Value)) (k c : Nat) (vs : List Value) : Prop := vs.length = c ∧ ∀ (j : Nat) (p : Addr × Array Value), j < c → src[j]? = some p → p.2[k]? = vs[j]?
theorem Told.push {src : List (Addr × Array Value)} {k c : Nat} {vs : List Value} {p : Addr × Array Value} {v : Value} (t : Told src k c vs) (hc : src[c]? = some p) (hv : p.2[k]? = some v) : Told src k (c + 1) (vs ++ [v]) := by
  refine ⟨by simp [t.1], fun j q hj hq => ?_⟩
  by_cases z : j = c
  · subst z
    rw [hc] at hq
    cases hq
    rw [hv, List.getElem?_append_right (by rw [t.1]; exact Nat.le_refl _), t.1]
    simp
  · rw [t.2 j q (by omega) hq, List.getElem?_append_left (by rw [t.1]; omega)]
end
end L2
namespace PySem
namespace F
end F
end PySem
namespace L2
open PySem PySem.Spec PyProof.Rows
section
variable {prog : Program} {w : World} {A : Around} {E : Value → Shared → Prop} {s : Shared}
end
end L2
namespace L2
open PySem PySem.Spec PyProof.Rows
section
variable {X : Cx} {pins : List (Addr × Obj)} {σ : St} {H : Hp} {s : Shared} {h' : Heap}
theorem FpOk.upd {a b : Addr} {o : HO} (f : FpOk X pins H b) (hne : b ≠ a) : FpOk X pins (upd H a o) b := ⟨by rw [upd_ne hne]; exact f.1, f.2⟩
end
inductive Laid : Hp → List (List V) → List Addr → Hp → Prop
  | nil {H : Hp} : Laid H [] [] H
  | snoc {H H1 : Hp} {rows : List (List V)} {Ts : List Addr} {r : List V} {T : Addr} : Laid H rows Ts H1 → H1 T = none → Laid H (rows ++ [r]) (Ts ++ [T]) (upd H1 T (.tup r))
section
variable {X : Cx}
theorem ZipSt.keep {h h' : Heap} {n k : Nat} {src : List (Addr × Array Value)} (z : ZipSt h n src k) (kk : ∀ (b : Nat) o, b < n + src.length + 3 → h.get? b = some o → h'.get? b = some o) : ZipSt h' n src k := by
  obtain ⟨⟨f0, f1, hf, hz⟩, hTI, ⟨ws, hws, hTO⟩, hit, hls, hne⟩ := z
  exact ⟨⟨f0, f1, hf, kk _ _ (by omega) hz⟩, kk _ _ (by omega) hTI, ⟨ws, hws, kk _ _ (by omega) hTO⟩, fun j p hj => (hit j p hj).at fun o e => kk _ o (by have := at_lt hj; omega) e, fun j p hj => ⟨(hls j p hj).1, (hls j p hj).2.at fun o e => kk _ o (Nat.lt_of_lt_of_le (hls j p hj).1 (by omega)) e⟩, hne⟩
theorem Laid.len {H H' : Hp} {rows : List (List V)} {Ts : List Addr} (l : Laid H rows Ts H') : Ts.length = rows.length := by
  induction l with
  | nil => rfl
  | snoc _ _ ih => simp [ih]
end
end L2
namespace PySem
namespace F
end F
end PySem
namespace L2
open PySem PySem.Spec PyProof.Rows
section
variable {X : Cx}
end
end L2
namespace L2
open PySem PySem.Spec PyProof.Rows
section
variable {X : Cx}
theorem boot_list_ty : bootBuiltins "list" = some (.type "list") := by decide +kernel
end
end L2
namespace DL
open PySem PySem.Spec PyProof.Rows L2
variable [TB]
variable [Frm]
omit [Frm] in
theorem Reps.of {K : PySem.W.Frag} {pp : Option Addr} {M : List Addr} {H : Hp} : ∀ {ds : List D} {xs : List V}, ds.length = xs.length → (∀ (i : Nat) d v, ds[i]? = some d → xs[i]? = some v → Rep K pp M H d v) → Reps K pp M H ds xs
  | [], [], _, _ => .nil
  | [], _ :: _, h, _ => absurd h (by simp)
  | _ :: _, [], h, _ => absurd h (by simp)
  | d :: ds, x :: xs, hl, h => .cons (h 0 d x rfl rfl) (Reps.of (by simpa using hl) fun i d v hd hv => h (i + 1) d v (by simpa using hd) (by simpa using hv))
def zip3D : List D → List D → List D → List D
  | x :: xs, y :: ys, z :: zs => .tup [x, y, z] :: zip3D xs ys zs
  | _, _, _ => []
section
variable {X : Cx}
end
end DL
namespace L2
open PySem PySem.Spec PyProof.Rows
section
variable {X : Cx}
theorem range_all (f : Bool → Bool) : ∀ (bs : List Bool), (List.range bs.length).all (fun i => f (bs.getD i false)) = bs.all f := by
  intro bs
  rw [Bool.eq_iff_iff]
  simp only [List.all_eq_true, List.mem_range]
  constructor
  · intro h b hb
    obtain ⟨i, hi, e⟩ := List.mem_iff_getElem.mp hb
    have := h i hi
    rw [List.getD_eq_getElem?_getD, List.getElem?_eq_getElem hi] at this
    subst e
    simpa using this
  · intro h i hi
    have := h bs[i] (List.getElem_mem hi)
    rw [List.getD_eq_getElem?_getD, List.getElem?_eq_getElem hi]
    simpa using this
theorem truth_bools {prog : Program} {w : World} {A : Around} {bs : List Bool} {its : List Value} (r : Vals (bs.map V.bl) its) : TruthOf prog w A (fun i v => its.toArray[i]? = some v) (fun i => bs.getD i false) := by
  intro i v s Q E h q
  have h : its[i]? = some v := by simpa using h
  have hi : i < bs.length := by
    have := r.length
    have := at_lt h
    simp at *
    omega
  obtain ⟨u, hu, ru⟩ := r.get (i := i) (x := .bl bs[i]) (by simp [hi])
  rw [h] at hu
  cases hu
  cases ru
  have q : Q (bs.getD i false) s := q
  rw [List.getD_eq_getElem?_getD, List.getElem?_eq_getElem hi] at q
  exact wpAny_truthy_bool q
theorem call_all (hc : X.calm = true) : CallR X (.builtin "all") (fun xs H Q => ∃ (p : Addr) (bs : List Bool), xs = [.ref p] ∧ SqL X.K H p (bs.map V.bl) ∧ Q (.bl (bs.all id)) H) := by
  intro pins s σ H xs us Q I r h
  obtain ⟨p, bs, rfl, hl, q⟩ := h
  obtain ⟨u, rfl, e⟩ := vals1 r
  cases e
  obtain ⟨its, rv, pl, _⟩ := I.list hl
  have hlen : its.toArray.size = bs.length := by have := rv.length; simpa using this.symm
  have hne : p ≠ s.heap.objs.size := by
    obtain ⟨o, ho, _⟩ := pl.isList
    exact Nat.ne_of_lt (Heap.lt_size ho)
  refine call_all_walk (wpAny_pyIter_list pl.isList ⟨s.heap.objs.size, _, _, _, _, _, _, rfl, Walks.list (A := X.A.in1) (I.ok.hd hc) s.heap.objs.size p hne its.toArray, ⟨⟨_, Heap.get?_push_size _ rfl, rfl, rfl⟩, pl.isList.push _⟩, truth_bools rv, fun h' tk hk => ⟨.bl (bs.all id), H, I.kept fun b o e => hk b o ?_ (Heap.get?_push_of_some _ e), ?_, q⟩⟩)
  · intro hb
    have : b = s.heap.objs.size := by simpa using hb
    exact absurd (Heap.lt_size e) (by rw [this]; exact Nat.lt_irrefl _)
  · show Value.bool _ = Value.bool _
    rw [hlen]
    have := range_all id bs
    simp only [id] at this ⊢
    rw [this]
end
end L2
namespace DL
open PySem PySem.Spec L2
open PyProof.Rows hiding St
variable [TB]
variable [Frm]
section
variable {X : Cx}
def blsOf : List D → Option (List Bool)
  | [] => some []
  | .bl b :: r => (blsOf r).map (b :: ·)
  | _ => none
theorem blsOf_map : ∀ bs : List Bool, blsOf (bs.map D.bl) = some bs
  | [] => rfl
  | n :: r => by simp [blsOf, blsOf_map r]
theorem blsOf_eq : ∀ {ds : List D} {bs : List Bool}, blsOf ds = some bs → ds = bs.map D.bl
  | [], ns, h => by cases h; rfl
  | .bl i :: r, ns, h => by
    simp only [blsOf, Option.map_eq_some_iff] at h
    obtain ⟨ms, h, rfl⟩ := h
    rw [blsOf_eq h]; rfl
theorem reps_bls {K : PySem.W.Frag} {pp : Option Addr} {M : List Addr} {H : Hp} : ∀ {ns : List Bool} {xs : List V}, Reps K pp M H (ns.map D.bl) xs → xs = ns.map V.bl
  | [], xs, h => by simpa only [List.map_nil, Reps] using h
  | n :: r, xs, h => by
    simp only [List.map_cons, Reps, Rep] at h
    obtain ⟨x, t, rfl, rfl, h⟩ := h
    rw [reps_bls h]; rfl
def gTru (f : List Bool → Bool) : DSp := fun ds P => match ds with
  | [.lst xs] => match blsOf xs with
    | some bs => P (.bl (f bs))
    | none => False
  | _ => False
theorem gTru_of {f : List Bool → Bool} {bs : List Bool} {P : D → Prop} (h : P (.bl (f bs))) : gTru f [.lst (bs.map D.bl)] P := by
  unfold gTru
  simp only [blsOf_map]
  exact h
theorem gTru_inv {f : List Bool → Bool} {ds : List D} {P : D → Prop} (h : gTru f ds P) : ∃ bs : List Bool, ds = [.lst (bs.map D.bl)] ∧ P (.bl (f bs)) := by
  unfold gTru at h
  split at h
  · rename_i xs
    cases e : blsOf xs with
    | none => rw [e] at h; exact h.elim
    | some ns =>
      rw [e] at h
      exact ⟨ns, by rw [blsOf_eq e], h⟩
  · exact h.elim
theorem cd_all (hc : X.calm = true := by rfl) : CallD X (.builtin "all") (gTru fun bs => bs.all id) := by
  refine ⟨fun ds P P' f h => ?_, _, call_all hc, fun {pp} M H ds vs Q _ r h => ?_⟩
  · obtain ⟨ns, rfl, h2⟩ := gTru_inv h
    exact gTru_of (f _ h2)
  · obtain ⟨ns, rfl, h2⟩ := gTru_inv h
    simp only [Reps, Rep] at r
    obtain ⟨x, _, rfl, ⟨a, ys, rfl, _, _, ha, ry⟩, rfl⟩ := r
    refine ⟨a, ns, rfl, SqL.of (by rw [ha, reps_bls ry]), h2 H _ .refl rep_bl⟩
end
end DL
namespace L2
open PySem PySem.Spec PyProof.Rows
section
variable {prog : Program} {w : World} {A : Around} {E : Value → Shared → Prop} {s : Shared}
end
structure ZipTn (n : Nat) (as : List Addr) (k : Nat) (h : Heap) : Prop where
  zip : ∃ f0 f1, OwnF f0 ∧ IsZipN h (n + as.length + 2) (n + as.length) (n + as.length + 1) f0 f1
  ti : IsTupR h (n + as.length) (itsL n as.length).toArray
  to : ∃ ws : Array Value, ws.size = as.length ∧ IsTupR h (n + as.length + 1) ws
  its : ∀ (j : Nat) (a : Addr), as[j]? = some a → h.IsListIter (n + j) a k
theorem ZipTn.st {n k : Nat} {as : List Addr} {h : Heap} {src : List (Addr × Array Value)} (t : ZipTn n as k h) (hs : src.map (·.1) = as) (hl : ∀ p ∈ src, h.IsList p.1 p.2) (hlt : ∀ a ∈ as, a < n) (hne : as ≠ []) : ZipSt h n src k := by
  have hlen : src.length = as.length := by rw [← hs, List.length_map]
  obtain ⟨z, ti, to, its⟩ := t
  have at_ : ∀ (j : Nat) (p : Addr × Array Value), src[j]? = some p → as[j]? = some p.1 := fun j p hp => by rw [← hs, List.getElem?_map, hp]; rfl
  refine ⟨by rw [hlen]; exact z, by rw [hlen]; exact ti, by rw [hlen]; exact to, fun j p hp => ?_, fun j p hp => ⟨hlt p.1 (List.mem_of_getElem? (at_ j p hp)), hl p (List.mem_of_getElem? hp)⟩, fun e => hne (by rw [← hs, e]; rfl)⟩
  rw [if_neg (Nat.not_lt_zero _)]
  exact its j p.1 (at_ j p hp)
theorem ZipSt.tn {n k : Nat} {as : List Addr} {h : Heap} {src : List (Addr × Array Value)} (z : ZipSt h n src k) (hs : src.map (·.1) = as) : ZipTn n as k h := by
  have hlen : src.length = as.length := by rw [← hs, List.length_map]
  refine ⟨by rw [← hlen]; exact z.zip, by rw [← hlen]; exact z.ti, by rw [← hlen]; exact z.to, fun j a ha => ?_⟩
  have hj : j < src.length := by rw [hlen]; exact at_lt ha
  have hp : src[j]? = some src[j] := by simp [hj]
  have := z.its j _ hp
  rw [if_neg (Nat.not_lt_zero _)] at this
  have e : (src[j]).1 = a := by
    have : as[j]? = some (src[j]).1 := by rw [← hs, List.getElem?_map, hp]; rfl
    rw [ha] at this
    exact (Option.some.inj this).symm
  rw [← e]
  exact this
section
variable {X : Cx}
end
end L2
namespace DL
open PySem PySem.Spec PyProof.Rows L2
variable [TB]
variable [Frm]
section
variable {X : Cx}
end
end DL
namespace DL
open PySem PySem.Spec L2
open PyProof.Rows hiding St
variable [TB]
variable [Frm]
mutual
def flD : D → Prop
  | .non => True
  | .bl _ => True
  | .int _ => True
  | .str _ => True
  | .ty _ => True
  | .cls _ => True
  | .tup ds => flDs ds
  | _ => False
def flDs : List D → Prop
  | [] => True
  | d :: r => flD d ∧ flDs r
end
omit [Frm] in
mutual
theorem Rep.flat {K : PySem.W.Frag} {pp : Option Addr} {M M' : List Addr} {H : Hp} : ∀ (d : D) (v : V), flD d → Rep K pp M H d v → Rep K pp M' H d v
  | .non, _, _, h => by simp only [Rep] at h ⊢; exact h
  | .bl _, _, _, h => by simp only [Rep] at h ⊢; exact h
  | .int _, _, _, h => by simp only [Rep] at h ⊢; exact h
  | .str _, _, _, h => by simp only [Rep] at h ⊢; exact h
  | .ty _, _, _, h => by simp only [Rep] at h ⊢; exact h
  | .cls _, _, _, h => by simp only [Rep] at h ⊢; exact h
  | .tup ds, _, f, h => by
    simp only [Rep] at h ⊢
    simp only [flD] at f
    obtain ⟨a, xs, e, ha, r⟩ := h
    exact ⟨a, xs, e, ha, Reps.flat ds xs f r⟩
  | .lst _, _, f, _ => by simp only [flD] at f
  | .dK _ _, _, f, _ => by simp only [flD] at f
  | .dT _ _, _, f, _ => by simp only [flD] at f
  | .pen, _, f, _ => by simp only [flD] at f
  | .exc _, _, f, _ => by simp only [flD] at f
  | .exa _ _, _, f, _ => by simp only [flD] at f
theorem Reps.flat {K : PySem.W.Frag} {pp : Option Addr} {M M' : List Addr} {H : Hp} : ∀ (ds : List D) (xs : List V), flDs ds → Reps K pp M H ds xs → Reps K pp M' H ds xs
  | [], xs, _, h => by simp only [Reps] at h ⊢; exact h
  | d :: ds, xs, f, h => by
    simp only [Reps] at h ⊢
    simp only [flDs] at f
    obtain ⟨x, r, e, h1, h2⟩ := h
    exact ⟨x, r, e, Rep.flat d x f.1 h1, Reps.flat ds r f.2 h2⟩
end
def pinS (v : V) : Sl → Sl
  | .nil => .nil
  | .val d => .pin v d
  | .own ds => .pin v (.lst ds)
  | .obj q => .pin v (fzO q)
  | .pin w d => .pin w d
def pinL (vs : Nat → V) : Nat → DS → DS
  | _, [] => []
  | n, s :: r => pinS (vs n) s :: pinL vs (n + 1) r
inductive Unp (vs : Nat → V) : Nat → DS → DS → DS → Prop
  | nil {n} : Unp vs n [] [] []
  | keep {n s r r' r2} : Unp vs (n + 1) r r' r2 → Unp vs n (s :: r) (pinS (vs n) s :: r') (s :: r2)
  | drop {n s s' r r' r2} : Unp vs (n + 1) r r' r2 → Unp vs n (s :: r) (s' :: r') (.nil :: r2)
  | flat {n s d r r' r2} : flD d → Unp vs (n + 1) r r' r2 → Unp vs n (s :: r) (.val d :: r') (.val d :: r2)
  | ownF {n s ds r r' r2} : flDs ds → Unp vs (n + 1) r r' r2 → Unp vs n (s :: r) (.own ds :: r') (.own ds :: r2)
omit [Frm] in
theorem pinL_get (vs : Nat → V) : ∀ (ρ : DS) (n i : Nat), (pinL vs n ρ)[i]? = (ρ[i]?).map (pinS (vs (n + i)))
  | [], _, _ => by simp [pinL]
  | s :: r, n, 0 => by simp [pinL]
  | s :: r, n, i + 1 => by
    simp only [pinL, List.getElem?_cons_succ]
    rw [pinL_get vs r (n + 1) i, show n + 1 + i = n + (i + 1) by omega]
omit [Frm] in
theorem pinL_len (vs : Nat → V) : ∀ (ρ : DS) (n : Nat), (pinL vs n ρ).length = ρ.length
  | [], _ => rfl
  | s :: r, n => by simp [pinL, pinL_len vs r (n + 1)]
omit [Frm] in
theorem Unp.self (vs : Nat → V) : ∀ (ρ : DS) (n : Nat), Unp vs n ρ (pinL vs n ρ) ρ
  | [], _ => .nil
  | _ :: r, n => .keep (Unp.self vs r (n + 1))
omit [Frm] in
theorem Unp.len {vs : Nat → V} {n : Nat} {a b c : DS} (h : Unp vs n a b c) : b.length = c.length ∧ c.length = a.length := by
  induction h with
  | nil => exact ⟨rfl, rfl⟩
  | keep _ ih => simp [ih.1, ih.2]
  | drop _ ih => simp [ih.1, ih.2]
  | flat _ _ ih => simp [ih.1, ih.2]
  | ownF _ _ ih => simp [ih.1, ih.2]
omit [Frm] in
theorem Unp.get {vs : Nat → V} {n : Nat} {a b c : DS} (h : Unp vs n a b c) : ∀ (i : Nat) (s : Sl), c[i]? = some s → s = .nil ∨ (a[i]? = some s ∧ b[i]? = some (pinS (vs (n + i)) s)) ∨ (∃ d, s = .val d ∧ flD d ∧ b[i]? = some (.val d)) ∨ ∃ ds, s = .own ds ∧ flDs ds ∧ b[i]? = some (.own ds) := by
  induction h with
  | nil => intro i s e; simp at e
  | @keep n s0 r r' r2 _ ih =>
    intro i s e
    cases i with
    | zero => simp at e; subst e; exact .inr (.inl ⟨by simp, by simp⟩)
    | succ i =>
      have := ih i s (by simpa using e)
      rw [show n + 1 + i = n + (i + 1) by omega] at this
      simpa using this
  | @drop n s0 s' r r' r2 _ ih =>
    intro i s e
    cases i with
    | zero => simp at e; exact .inl e.symm
    | succ i =>
      have := ih i s (by simpa using e)
      rw [show n + 1 + i = n + (i + 1) by omega] at this
      simpa using this
  | @flat n s0 d r r' r2 f _ ih =>
    intro i s e
    cases i with
    | zero => simp at e; exact .inr (.inr (.inl ⟨d, e.symm, f, by simp⟩))
    | succ i =>
      have := ih i s (by simpa using e)
      rw [show n + 1 + i = n + (i + 1) by omega] at this
      simpa using this
  | @ownF n s0 ds r r' r2 f _ ih =>
    intro i s e
    cases i with
    | zero => simp at e; exact .inr (.inr (.inr ⟨ds, e.symm, f, by simp⟩))
    | succ i =>
      have := ih i s (by simpa using e)
      rw [show n + 1 + i = n + (i + 1) by omega] at this
      simpa using this
section
variable {K : PySem.W.Frag} {F : Fx} {M : List Addr} {H : Hp} {σ : St} {ρ : DS}
omit [TB] [Frm] in
mutual
theorem RO.nt {pp : Option Addr} : ∀ (q : O) (v : V) (A : List Addr), RO K pp M H q v A → ∀ a ∈ A, ∀ ps, H a ≠ some (.tbl ps)
  | .val d, v, A, h, a, ha => by simp only [RO] at h; rw [h.1] at ha; simp at ha
  | .lst os, v, A, h, a, ha => by
    simp only [RO] at h
    obtain ⟨b, xs, B, e, hb, rfl, r⟩ := h
    rcases List.mem_cons.mp ha with rfl | ha
    · rw [hb]; intro _ z; cases z
    · exact ROs.nt os xs B r a ha
  | .dct ks os, v, A, h, a, ha => by
    simp only [RO] at h
    obtain ⟨b, kvs, B, e, hb, e2, rfl, r⟩ := h
    rcases List.mem_cons.mp ha with rfl | ha
    · rw [hb]; intro _ z; cases z
    · exact ROs.nt os _ B r a ha
  | .tup os, v, A, h, a, ha => by
    simp only [RO] at h
    obtain ⟨b, xs, e, hb, r⟩ := h
    exact ROs.nt os xs A r a ha
  | .dck ks os, v, A, h, a, ha => by
    simp only [RO] at h
    obtain ⟨b, kvs, B, e, hb, e2, rfl, r⟩ := h
    rcases List.mem_cons.mp ha with rfl | ha
    · rw [hb]; intro _ z; cases z
    · exact ROs.nt os _ B r a ha
theorem ROs.nt {pp : Option Addr} : ∀ (os : List O) (xs : List V) (A : List Addr), ROs K pp M H os xs A → ∀ a ∈ A, ∀ ps, H a ≠ some (.tbl ps)
  | [], xs, A, h, a, ha => by simp only [ROs] at h; rw [h.2] at ha; simp at ha
  | o :: os, xs, A, h, a, ha => by
    simp only [ROs] at h
    obtain ⟨x, r, B, C, e, rfl, h1, h2⟩ := h
    rcases List.mem_append.mp ha with ha | ha
    · exact RO.nt o x B h1 a ha
    · exact ROs.nt os r C h2 a ha
end
open Classical in
theorem RSt.owN (r : RSt K F M H σ ρ) : ∃ As : Nat → List Addr, (∀ (i : Nat) s o, ρ[i]? = some s → σ[i]? = some o → Ow K F M H s o (As i)) ∧ (∀ i, ∀ a ∈ As i, a ∈ M ∧ F.H0 a = none ∧ F.pp ≠ some a) ∧ (∀ i j, i ≠ j → ∀ a ∈ As i, a ∉ As j) ∧ ∀ i, ∀ a ∈ As i, ∀ ps, H a ≠ some (.tbl ps) := by
  obtain ⟨As, k1, k2, k3⟩ := r.ow
  refine ⟨fun i => (As i).filter fun a => decide (∀ ps, H a ≠ some (.tbl ps)), fun i s o e1 e2 => ?_, fun i a ha => k2 i a (List.mem_filter.mp ha).1, fun i j e a ha hb => k3 i j e a (List.mem_filter.mp ha).1 (List.mem_filter.mp hb).1, fun i a ha => by simpa using (List.mem_filter.mp ha).2⟩
  have q := k1 i s o e1 e2
  cases s with
  | nil => trivial
  | val d => trivial
  | pin w d => trivial
  | own ds =>
    obtain ⟨l, rfl, e⟩ := q
    obtain ⟨l', xs, e', _, _, _, hl, _⟩ := r.sl i _ _ e1 e2
    cases e'
    refine ⟨l, rfl, ?_⟩
    show (As i).filter _ = [l]
    rw [e, List.filter_eq_self]
    intro a ha
    simp at ha; subst ha
    simp [hl]
  | obj b =>
    obtain ⟨nd, v, rfl, hq⟩ := q
    have e : (As i).filter (fun a => decide (∀ ps, H a ≠ some (.tbl ps))) = As i := by
      rw [List.filter_eq_self]
      intro a ha
      simpa using RO.nt b v (As i) hq a ha
    show Ow K F M H _ _ ((As i).filter _)
    rw [e]
    exact ⟨nd, v, rfl, hq⟩
open Classical in
theorem RSt.look (r : RSt K F M H σ ρ) (vs : Nat → V) (hv : ∀ (i : Nat) v, σ[i]? = some (some v) → vs i = v) :
    ∃ M0, Mv K F.pp M H M0 H ∧ RSt K F M0 H σ (pinL vs 0 ρ) ∧ (∀ M' H' σ' ρ' ρ2, Mv K F.pp M0 H M' H' → RSt K F M' H' σ' ρ' → Unp vs 0 ρ ρ' ρ2 → ∃ M2, Mv K F.pp M H M2 H' ∧ RSt K F M2 H' σ' ρ2) ∧
      ∃ As : Nat → List Addr, (∀ (i : Nat) s o, ρ[i]? = some s → σ[i]? = some o → Ow K F M H s o (As i)) ∧ ∀ M' H', Mv K F.pp M0 H M' H' → ∀ i, i < ρ.length → ∀ a ∈ As i, ∀ x, H a = some x → NT x → H' a = some x := by
  obtain ⟨As, k1, k2, k3, k4⟩ := r.owN
  obtain ⟨A, hA⟩ : ∃ A : List Addr, ∀ a, a ∈ A ↔ ∃ i, i < ρ.length ∧ a ∈ As i := ⟨(List.range ρ.length).flatMap As, fun a => by simp⟩
  have inA : ∀ (i : Nat) s, ρ[i]? = some s → ∀ a ∈ As i, a ∈ A := fun i s e a ha => (hA a).mpr ⟨i, (List.getElem?_eq_some_iff.mp e).1, ha⟩
  have ofA : ∀ a ∈ A, a ∈ M ∧ F.H0 a = none ∧ F.pp ≠ some a := fun a ha => by
    obtain ⟨i, _, h⟩ := (hA a).mp ha
    exact k2 i a h
  have ntA : ∀ a ∈ A, ∀ ps, H a ≠ some (.tbl ps) := fun a ha => by
    obtain ⟨i, _, h⟩ := (hA a).mp ha
    exact k4 i a h
  have m0 : Mv K F.pp M H (M.filter fun a => decide (a ∉ A)) H := .less fun a ha => (List.mem_filter.mp ha).1
  have n0 : ∀ a ∈ A, a ∉ M.filter fun a => decide (a ∉ A) := fun a ha z => absurd ha (by simpa using (List.mem_filter.mp z).2)
  have z0 : ∀ i : Nat, vs (0 + i) = vs i := fun i => by rw [Nat.zero_add]
  refine ⟨_, m0, ⟨by rw [pinL_len, r.len], fun i s o h1 h2 => ?_, OwF.none (fun i s h1 => ?_), fun a ha => ?_, r.same, r.old, ⟨fun a ha => r.liv.m a (List.mem_filter.mp ha).1, r.liv.p⟩, r.lk.cl m0⟩, ?_, As, k1, fun M' H' m i hi a ha x e nt => (m.oth a x e (n0 a ((hA a).mpr ⟨i, hi, ha⟩)) ⟨(k2 i a ha).2.2, nt⟩).1⟩
  · rw [pinL_get] at h1
    obtain ⟨s0, e0, rfl⟩ := Option.map_eq_some_iff.mp h1
    rw [z0]
    have q := r.sl i s0 o e0 h2
    cases s0 with
    | nil => trivial
    | val d => obtain ⟨v, rfl, q⟩ := q; exact ⟨v, rfl, (hv i v h2).symm, q.mv m0⟩
    | pin w d => obtain ⟨v, e, ew, q⟩ := q; exact ⟨v, e, ew, q.mv m0⟩
    | own ds =>
      obtain ⟨l, xs, rfl, hm, h0, hp, hl, hr⟩ := q
      have hlA : l ∈ A := by
        obtain ⟨l2, e2, e3⟩ := k1 i _ _ e0 h2
        cases e2
        exact inA i _ e0 l (by rw [e3]; simp)
      refine ⟨.ref l, rfl, (hv i _ h2).symm, ?_⟩
      simp only [Rep]
      exact ⟨l, xs, rfl, n0 l hlA, hp, hl, hr.mv m0⟩
    | obj b =>
      obtain ⟨nd, v, rfl, hq⟩ := k1 i _ _ e0 h2
      exact ⟨v, rfl, (hv i v h2).symm, RO.fz m0 b v (As i) (fun a ha => ⟨n0 a (inA i _ e0 a ha), (k2 i a ha).2.2⟩) hq⟩
  · rw [pinL_get] at h1
    obtain ⟨s0, e0, rfl⟩ := Option.map_eq_some_iff.mp h1
    cases s0 <;> exact ⟨fun ds z => (by cases z), fun q z => (by cases z)⟩
  · refine List.mem_filter.mpr ⟨r.sub a ha, ?_⟩
    have : a ∉ A := fun z => r.old a ha (ofA a z).2.1
    simpa using this
  · intro M' H' σ' ρ' ρ2 m r' u
    have mm := m0.trans m
    have m2 : Mv K F.pp M H (A ++ M') H' := by
      refine ⟨mm.tup, fun a o e n p => ?_, mm.pen, mm.tb⟩
      obtain ⟨q1, q2⟩ := mm.oth a o e n p
      refine ⟨q1, fun z => ?_⟩
      rcases List.mem_append.mp z with z | z
      · exact n (ofA a z).1
      · exact q2 z
    have kp : ∀ a ∈ A, ∀ x, H a = some x → NT x → H' a = some x := fun a ha x e nt => (m.oth a x e (n0 a ha) ⟨(ofA a ha).2.2, nt⟩).1
    obtain ⟨ul, ul2⟩ := u.len
    have key : ∀ (i : Nat) s o, ρ[i]? = some s → ρ'[i]? = some (pinS (vs (0 + i)) s) → s ≠ .nil → σ'[i]? = some o → σ[i]? = some o := fun i s o e1 e2 hn h2 => by
      obtain ⟨o0, ho0, q0⟩ := r.at e1
      have q1 := r'.sl i _ _ e2 h2
      rw [z0] at q1
      rw [ho0]
      cases s with
      | nil => exact absurd rfl hn
      | val d =>
        obtain ⟨v, rfl, q⟩ := q0
        obtain ⟨v', rfl, e, _⟩ := q1
        rw [e, hv i v ho0]
      | pin w d =>
        obtain ⟨v, rfl, e', q⟩ := q0
        obtain ⟨v', rfl, e, _⟩ := q1
        rw [e, e']
      | own ds =>
        obtain ⟨l, xs, rfl, hm, h0, hp, hl, hr⟩ := q0
        obtain ⟨v', rfl, e, _⟩ := q1
        rw [e, hv i _ ho0]
      | obj q =>
        obtain ⟨v, rfl⟩ := q0
        obtain ⟨v', rfl, e, _⟩ := q1
        rw [e, hv i v ho0]
    obtain ⟨Bs, b1, b2, b3⟩ := r'.ow
    have dj : ∀ a ∈ A, a ∉ M' := fun a ha => by
      cases e : H a with
      | none => exact absurd e (r.liv.m a (ofA a ha).1)
      | some x => exact (m.oth a x e (n0 a ha) ⟨(ofA a ha).2.2, fun ps q => ntA a ha ps (by rw [e, q])⟩).2
    let nw : Nat → Prop := fun i => ∃ ds, ρ2[i]? = some (.own ds) ∧ ρ'[i]? = some (.own ds)
    have inC : ∀ i a, a ∈ (if nw i then Bs i else if i < ρ.length then As i else []) → (nw i ∧ a ∈ Bs i) ∨ (¬ nw i ∧ i < ρ.length ∧ a ∈ As i) := fun i a ha => by
      by_cases h : nw i
      · rw [if_pos h] at ha; exact .inl ⟨h, ha⟩
      · rw [if_neg h] at ha
        by_cases e : i < ρ.length
        · rw [if_pos e] at ha; exact .inr ⟨h, e, ha⟩
        · rw [if_neg e] at ha; simp at ha
    refine ⟨A ++ M', m2, ⟨by rw [r'.len, ul], fun i s o h1 h2 => ?_, ⟨fun i => if nw i then Bs i else if i < ρ.length then As i else [], fun i s o h1 h2 => ?_, fun i a ha => ?_, fun i j e a ha hb => ?_⟩, fun a ha => List.mem_append.mpr (.inr (r'.sub a ha)), r'.same, r.old, ⟨fun a ha => ?_, r'.liv.p⟩, r.lk.cl m2⟩⟩
    · rcases u.get i s h1 with rfl | ⟨e1, e2⟩ | ⟨d, rfl, f, e2⟩ | ⟨ds, rfl, f, e2⟩
      · trivial
      · by_cases hn : s = .nil
        · subst hn; trivial
        have h3 := key i s o e1 e2 hn h2
        have q0 := r.sl i s o e1 h3
        cases s with
        | nil => trivial
        | val d => obtain ⟨v, e, q⟩ := q0; exact ⟨v, e, q.mv m2⟩
        | pin w d => obtain ⟨v, e, ew, q⟩ := q0; exact ⟨v, e, ew, q.mv m2⟩
        | own ds =>
          obtain ⟨l, xs, rfl, hm, h0, hp, hl, hr⟩ := q0
          have hlA : l ∈ A := by
            obtain ⟨l2, e2, e3⟩ := k1 i _ _ e1 h3
            cases e2
            exact inA i _ e1 l (by rw [e3]; simp)
          exact ⟨l, xs, rfl, List.mem_append.mpr (.inl hlA), h0, hp, kp l hlA _ hl (by intro _ z; cases z), hr.mv m2⟩
        | obj q => exact q0
      · obtain ⟨v, e, q⟩ := r'.sl i _ _ e2 h2
        exact ⟨v, e, q.flat _ _ f⟩
      · obtain ⟨l, xs, e, hm, h0, hp, hl, hr⟩ := r'.sl i _ _ e2 h2
        exact ⟨l, xs, e, List.mem_append.mpr (.inr hm), h0, hp, hl, Reps.flat ds xs f hr⟩
    · show Ow K F _ H' s o (if nw i then Bs i else if i < ρ.length then As i else [])
      rcases u.get i s h1 with rfl | ⟨e1, e2⟩ | ⟨d, rfl, f, e2⟩ | ⟨ds, rfl, f, e2⟩
      · trivial
      · by_cases hn : s = .nil
        · subst hn; trivial
        have h3 := key i s o e1 e2 hn h2
        have nn : ¬ nw i := fun ⟨ds, z1, z2⟩ => by
          rw [h1] at z1
          cases z1
          rw [e2] at z2
          cases z2
        rw [if_neg nn, if_pos (List.getElem?_eq_some_iff.mp e1).1]
        exact (k1 i s o e1 h3).mv m2 fun a ha => kp a (inA i s e1 a ha)
      · trivial
      · have nn : nw i := ⟨ds, h1, e2⟩
        rw [if_pos nn]
        exact b1 i _ o e2 h2
    · rcases inC i a ha with ⟨_, ha⟩ | ⟨_, e, ha⟩
      · have := b2 i a ha
        exact ⟨List.mem_append.mpr (.inr this.1), this.2⟩
      · exact ⟨List.mem_append.mpr (.inl ((hA a).mpr ⟨i, e, ha⟩)), (k2 i a ha).2⟩
    · rcases inC i a ha with ⟨_, ha⟩ | ⟨_, e1, ha⟩ <;> rcases inC j a hb with ⟨_, hb⟩ | ⟨_, e2, hb⟩
      · exact b3 i j e a ha hb
      · exact dj a ((hA a).mpr ⟨j, e2, hb⟩) (b2 i a ha).1
      · exact dj a ((hA a).mpr ⟨i, e1, ha⟩) (b2 j a hb).1
      · exact k3 i j e a ha hb
    · rcases List.mem_append.mp ha with ha | ha
      · intro z
        have := r.liv.m a (ofA a ha).1
        cases e : H a with
        | none => exact this e
        | some x => rw [kp a ha x e (fun ps q => ntA a ha ps (by rw [e, q]))] at z; cases z
      · exact r'.liv.m a ha
end
section
variable {X : Cx} {e : Expr} {st : Stmt}
omit [Frm] in
theorem st_at (σ : St) (i : Nat) (v : V) (h : σ[i]? = some (some v)) : (fun i => ((σ[i]?).getD none).getD V.non) i = v := by simp [h]
abbrev dLookT (t : DT) : DT := fun ρ Q => ∀ vs : Nat → V, t (pinL vs 0 ρ) fun b ρ' => ρ' = pinL vs 0 ρ ∧ Q b ρ
theorem dt_look {t : DT} (h : PTD X e t) : PTD X e (dLookT t) := by
  obtain ⟨T, p, r⟩ := h.run
  refine ⟨fun ρ P P' f q vs => h.mono _ _ _ (fun b ρ' q => ⟨q.1, f _ _ q.2⟩) (q vs), T, p, fun {F} M H σ ρ Q rs q => ?_⟩
  obtain ⟨M0, m0, rs0, th, _⟩ := rs.look _ (st_at σ)
  refine r M0 H σ _ Q rs0 (h.mono _ _ _ (fun b ρ' q M' H' m rs' => ?_) (q _))
  obtain ⟨rfl, q⟩ := q
  obtain ⟨M2, m2, rs2⟩ := th M' H' σ _ ρ m rs' (Unp.self _ ρ 0)
  exact q M2 H' m2 rs2
abbrev dLook (t : DE) : DE := fun ρ Q => ∀ vs : Nat → V, t (pinL vs 0 ρ) fun d ρ' => (flD d ∧ ρ' = pinL vs 0 ρ) ∧ Q d ρ
theorem de_look {t : DE} (h : PED X e t) : PED X e (dLook t) := by
  obtain ⟨T, p, r⟩ := h.run
  refine ⟨fun ρ P P' f q vs => h.mono _ _ _ (fun b ρ' q => ⟨q.1, f _ _ q.2⟩) (q vs), T, p, fun {F} M H σ ρ Q rs q => ?_⟩
  obtain ⟨M0, m0, rs0, th, _⟩ := rs.look _ (st_at σ)
  refine r M0 H σ _ Q rs0 (h.mono _ _ _ (fun d ρ' q M' H' v m rs' rd => ?_) (q _))
  obtain ⟨⟨f, rfl⟩, q⟩ := q
  obtain ⟨M2, m2, rs2⟩ := th M' H' σ _ ρ m rs' (Unp.self _ ρ 0)
  exact q M2 H' v m2 rs2 (rd.flat _ _ f)
abbrev dLookS (t : DTS) : DTS := fun E ρ => ∀ vs : Nat → V, t { nx := fun ρ' => ∃ ρ2, Unp vs 0 ρ ρ' ρ2 ∧ E.nx ρ2, rt := E.rt, bk := fun ρ' => ∃ ρ2, Unp vs 0 ρ ρ' ρ2 ∧ E.bk ρ2, ct := fun ρ' => ∃ ρ2, Unp vs 0 ρ ρ' ρ2 ∧ E.ct ρ2 } (pinL vs 0 ρ)
theorem ds_look {t : DTS} (h : PSD X st t) : PSD X st (dLookS t) := by
  obtain ⟨T, p, r⟩ := h
  refine ⟨T, p, fun {F} M H σ ρ E D rs o q => ?_⟩
  obtain ⟨M0, m0, rs0, th, _⟩ := rs.look _ (st_at σ)
  refine r M0 H σ _ { nx := fun ρ' => ∃ ρ2, Unp _ 0 ρ ρ' ρ2 ∧ E.nx ρ2, rt := E.rt, bk := fun ρ' => ∃ ρ2, Unp _ 0 ρ ρ' ρ2 ∧ E.bk ρ2, ct := fun ρ' => ∃ ρ2, Unp _ 0 ρ ρ' ρ2 ∧ E.ct ρ2 } D rs0 ⟨fun M' H' σ' ρ' m rs' q => ?_, fun M' H' σ' ρ' m rs' q => ?_, fun M' H' σ' ρ' m rs' q => ?_, fun M' H' σ' ρ' d v m rs' rd q => o.rt M' H' σ' ρ' d v (m0.trans m) rs' rd q⟩ (q _)
  · obtain ⟨ρ2, u, q⟩ := q
    obtain ⟨M2, m2, rs2⟩ := th M' H' σ' ρ' ρ2 m rs' u
    exact o.nx M2 H' σ' ρ2 m2 rs2 q
  · obtain ⟨ρ2, u, q⟩ := q
    obtain ⟨M2, m2, rs2⟩ := th M' H' σ' ρ' ρ2 m rs' u
    exact o.bk M2 H' σ' ρ2 m2 rs2 q
  · obtain ⟨ρ2, u, q⟩ := q
    obtain ⟨M2, m2, rs2⟩ := th M' H' σ' ρ' ρ2 m rs' u
    exact o.ct M2 H' σ' ρ2 m2 rs2 q
end
section
variable {K : PySem.W.Frag} {pp : Option Addr} {M : List Addr} {H : Hp}
omit [Frm] in
mutual
theorem RO.live : ∀ (q : O) (v : V) (A : List Addr), RO K pp M H q v A → ∀ a ∈ A, H a ≠ none
  | .val d, v, A, h, a, ha => by simp only [RO] at h; rw [h.1] at ha; simp at ha
  | .lst os, v, A, h, a, ha => by
    simp only [RO] at h
    obtain ⟨b, xs, B, e, hb, rfl, r⟩ := h
    rcases List.mem_cons.mp ha with rfl | ha
    · rw [hb]; intro z; cases z
    · exact ROs.live os xs B r a ha
  | .dct ks os, v, A, h, a, ha => by
    simp only [RO] at h
    obtain ⟨b, kvs, B, e, hb, e2, rfl, r⟩ := h
    rcases List.mem_cons.mp ha with rfl | ha
    · rw [hb]; intro z; cases z
    · exact ROs.live os _ B r a ha
  | .tup os, v, A, h, a, ha => by
    simp only [RO] at h
    obtain ⟨b, xs, e, hb, r⟩ := h
    exact ROs.live os xs A r a ha
  | .dck ks os, v, A, h, a, ha => by
    simp only [RO] at h
    obtain ⟨b, kvs, B, e, hb, e2, rfl, r⟩ := h
    rcases List.mem_cons.mp ha with rfl | ha
    · rw [hb]; intro z; cases z
    · exact ROs.live os _ B r a ha
theorem ROs.live : ∀ (os : List O) (xs : List V) (A : List Addr), ROs K pp M H os xs A → ∀ a ∈ A, H a ≠ none
  | [], xs, A, h, a, ha => by simp only [ROs] at h; rw [h.2] at ha; simp at ha
  | o :: os, xs, A, h, a, ha => by
    simp only [ROs] at h
    obtain ⟨x, r, B, C, e, rfl, h1, h2⟩ := h
    rcases List.mem_append.mp ha with ha | ha
    · exact RO.live o x B h1 a ha
    · exact ROs.live os r C h2 a ha
end
omit [Frm] in
theorem ROs.vals : ∀ {ds : List D} {xs : List V}, Reps K pp M H ds xs → ROs K pp M H (ds.map O.val) xs []
  | [], xs, h => by simp only [Reps] at h; simp only [List.map_nil, ROs]; exact ⟨h, trivial⟩
  | d :: ds, xs, h => by
    simp only [Reps] at h
    obtain ⟨x, r, rfl, h1, h2⟩ := h
    simp only [List.map_cons, ROs, RO]
    exact ⟨x, r, [], [], rfl, rfl, ⟨rfl, h1⟩, ROs.vals h2⟩
omit [Frm] in
theorem ROs.put {o : O} : ∀ {os : List O} {xs : List V} {A : List Addr} (n : Nat), ROs K pp M H os xs A → A.Nodup → os[n]? = some o →
    ∃ x B, xs[n]? = some x ∧ RO K pp M H o x B ∧ B.Nodup ∧ (∀ a ∈ B, a ∈ A) ∧ ∀ {M' : List Addr} {H' : Hp} o' x' B', Mv K pp M H M' H' → (∀ a ∈ A, a ∉ B → ∀ z, H a = some z → H' a = some z) →
      RO K pp M' H' o' x' B' → B'.Nodup → (∀ b ∈ B', b ∈ B ∨ b ∉ A) → ∃ A', A'.Nodup ∧ (∀ a ∈ A', a ∈ A ∨ a ∈ B') ∧ ROs K pp M' H' (os.set n o') (xs.set n x') A'
  | [], xs, A, n, h, nd, e => by simp at e
  | o0 :: os, xs, A, 0, h, nd, e => by
    simp only [ROs] at h
    obtain ⟨x, r, B, C, rfl, rfl, h1, h2⟩ := h
    simp at e
    subst e
    obtain ⟨n1, n2, n3⟩ := List.nodup_append.mp nd
    refine ⟨x, B, rfl, h1, n1, fun a ha => List.mem_append.mpr (.inl ha), fun {M' H'} o' x' B' m k r' nb hb => ⟨B' ++ C, ?_, fun a ha => ?_, ?_⟩⟩
    · refine List.nodup_append.mpr ⟨nb, n2, fun a ha b hc z => ?_⟩
      subst z
      rcases hb a ha with z | z
      · exact n3 a z a hc rfl
      · exact z (List.mem_append.mpr (.inr hc))
    · rcases List.mem_append.mp ha with ha | ha
      · exact .inr ha
      · exact .inl (List.mem_append.mpr (.inr ha))
    · simp only [List.set_cons_zero, ROs]
      exact ⟨x', r, B', C, rfl, rfl, r', ROs.mv m os r C (fun a ha z e _ => k a (List.mem_append.mpr (.inr ha)) (fun y => n3 a y a ha rfl) z e) h2⟩
  | o0 :: os, xs, A, n + 1, h, nd, e => by
    simp only [ROs] at h
    obtain ⟨x0, r, B0, C, rfl, rfl, h1, h2⟩ := h
    obtain ⟨n1, n2, n3⟩ := List.nodup_append.mp nd
    obtain ⟨x, B, ex, hB, nB, sB, f⟩ := ROs.put n h2 n2 (by simpa using e)
    refine ⟨x, B, by simpa using ex, hB, nB, fun a ha => List.mem_append.mpr (.inr (sB a ha)), fun {M' H'} o' x' B' m k r' nb hb => ?_⟩
    obtain ⟨C', c1, c2, c3⟩ := f o' x' B' m (fun a ha hn z e => k a (List.mem_append.mpr (.inr ha)) hn z e) r' nb (fun b hb' => (hb b hb').imp id fun z y => z (List.mem_append.mpr (.inr y)))
    refine ⟨B0 ++ C', ?_, fun a ha => ?_, ?_⟩
    · refine List.nodup_append.mpr ⟨n1, c1, fun a ha b hc z => ?_⟩
      subst z
      rcases c2 a hc with z | z
      · exact n3 a ha a z rfl
      · rcases hb a z with y | y
        · exact n3 a ha a (sB a y) rfl
        · exact y (List.mem_append.mpr (.inl ha))
    · rcases List.mem_append.mp ha with ha | ha
      · exact .inl (List.mem_append.mpr (.inl ha))
      · exact (c2 a ha).imp (fun z => List.mem_append.mpr (.inr z)) id
    · simp only [List.set_cons_succ, ROs]
      exact ⟨x0, _, B0, C', rfl, rfl, RO.mv m o0 x0 B0 (fun a ha z e _ => k a (List.mem_append.mpr (.inl ha)) (fun y => n3 a ha a (sB a y) rfl) z e) h1, c3⟩
end
section
variable {K : PySem.W.Frag} {F : Fx} {M : List Addr} {H : Hp} {σ : St} {ρ : DS} {i : Nat} {q q' : O} {l : Addr} {xs ys : List V}
theorem RSt.writeO (r : RSt K F M H σ ρ) (h : ρ[i]? = some (.obj q)) (hl : H l = some (.lst xs))
    (k : ∀ v A, σ[i]? = some (some v) → A.Nodup → RO K F.pp M H q v A → (∀ a ∈ A, a ∈ M ∧ F.H0 a = none ∧ F.pp ≠ some a) → l ∈ A ∧ ∃ A', A'.Nodup ∧ (∀ a ∈ A', a ∈ A) ∧ (Mv K F.pp M H M (upd H l (.lst ys)) → RO K F.pp M (upd H l (.lst ys)) q' v A')) :
    Mv K F.pp M H M (upd H l (.lst ys)) ∧ RSt K F M (upd H l (.lst ys)) σ (ρ.set i (.obj q')) := by
  obtain ⟨v, A, ho, nd, hq, hA, hoth⟩ := r.objAt h
  obtain ⟨lA, _⟩ := k v A ho nd hq hA
  obtain ⟨hm, h0, hp⟩ := hA l lA
  have m : Mv K F.pp M H M (upd H l (.lst ys)) := .write hl hm hp
  refine ⟨m, ⟨by simp [r.len], fun j s o h1 h2 => ?_, r.ow.step m i (fun _ _ => rfl) (fun j e => List.getElem?_set_ne (Ne.symm e)) (fun A1 hA1 hB1 => ?_), r.sub, ?_, r.old, ?_, r.lk.cl m⟩⟩
  · by_cases e : i = j
    · subst e
      rw [ho] at h2
      rw [set_self h1]
      cases h2
      exact ⟨v, rfl⟩
    · rw [List.getElem?_set_ne e] at h1
      have q' := r.sl j s o h1 h2
      cases s with
      | nil => trivial
      | val d => obtain ⟨v, e, q⟩ := q'; exact ⟨v, e, q.mv m⟩
      | pin w d => obtain ⟨v, e, ew, q⟩ := q'; exact ⟨v, e, ew, q.mv m⟩
      | own es =>
        obtain ⟨l', zs, rfl, hm', h0', hp', hl'', hr'⟩ := q'
        refine ⟨l', zs, rfl, hm', h0', hp', ?_, hr'.mv m⟩
        rw [upd_ne]
        · exact hl''
        · rintro rfl
          exact hoth j _ _ (Ne.symm e) h1 h2 _ ⟨es, rfl⟩ rfl lA
      | obj q => exact q'
  · obtain ⟨nd1, v1, e1, hq1⟩ := hA1 _ _ h ho
    cases e1
    obtain ⟨lA1, A', nd', sub, ro⟩ := k v A1 ho nd1 hq1 hB1
    refine ⟨A', fun s o e1 e2 => ?_, fun b hb => ⟨(hB1 b (sub b hb)).1, (hB1 b (sub b hb)).2.1, (hB1 b (sub b hb)).2.2, .inl (sub b hb)⟩, fun a ha _ _ hn => ⟨ha, fun x e _ => ?_⟩⟩
    · rw [ho] at e2
      cases e2
      rw [set_self e1]
      exact ⟨nd', v, rfl, ro m⟩
    · rw [upd_ne (by rintro rfl; exact hn lA1)]
      exact e
  · refine ⟨fun b o e n => ?_, fun p e h => m.pen p e (r.same.pen p e h), fun b e => ?_⟩
    · rw [upd_ne (by rintro rfl; rw [h0] at e; cases e)]
      exact r.same.keep b o e n
    · by_cases z : b = l
      · subst z; rw [upd_same]; intro z; cases z
      · rw [upd_ne z]; exact r.same.live b e
  · refine ⟨fun a ha => ?_, fun p e => ?_⟩
    · by_cases z : a = l
      · subst z; rw [upd_same]; intro z; cases z
      · rw [upd_ne z]; exact r.liv.m a ha
    · by_cases z : p = l
      · subst z; rw [upd_same]; intro z; cases z
      · rw [upd_ne z]; exact r.liv.p p e
theorem RSt.newObj {M1 : List Addr} {H1 H' : Hp} {A : List Addr} {v : V} (r : RSt K F M1 H1 σ ρ) (s : SameP K F.pp H1 H') (hn : A.Nodup) (hA : ∀ a ∈ A, H1 a = none ∧ F.pp ≠ some a) (ro : RO K F.pp (A ++ M1) H' q v A) (i : Nat) :
    Mv K F.pp M1 H1 (A ++ M1) H' ∧ RSt K F (A ++ M1) H' (σ.set i (some v)) (ρ.set i (.obj q)) := by
  have m1 : Mv K F.pp M1 H1 M1 H' := s.mv
  have m : Mv K F.pp M1 H1 (A ++ M1) H' := by
    refine ⟨m1.tup, fun a o e n p => ⟨(m1.oth a o e n p).1, fun z => ?_⟩, m1.pen, m1.tb⟩
    rcases List.mem_append.mp z with z | z
    · rw [(hA a z).1] at e; cases e
    · exact n z
  have f0 : ∀ a ∈ A, F.H0 a = none := fun a ha => by
    cases e : F.H0 a with
    | none => rfl
    | some o => exact absurd (hA a ha).1 (r.same.live a (by rw [e]; intro z; cases z))
  refine ⟨m, ⟨by simp [r.len], fun j t o h1 h2 => ?_, r.ow.step m i (fun j e => List.getElem?_set_ne (Ne.symm e)) (fun j e => List.getElem?_set_ne (Ne.symm e)) (fun A0 _ _ => ⟨A, fun t o e1 e2 => ?_, fun b hb => ⟨List.mem_append.mpr (.inl hb), f0 b hb, (hA b hb).2, .inr fun z => r.liv.m b z (hA b hb).1⟩, fun a ha p0 z0 _ => ⟨List.mem_append.mpr (.inr ha), (s.ow (M := M1) a ha p0 z0).2⟩⟩), fun a ha => List.mem_append.mpr (.inr (r.sub a ha)), r.same.trans s.toSameQ, r.old, ⟨fun a ha => ?_, fun p e => s.live p (r.liv.p p e)⟩, r.lk.cl m⟩⟩
  · by_cases e : i = j
    · subst e
      rw [set_self h1, set_self h2]
      exact ⟨v, rfl⟩
    · rw [List.getElem?_set_ne e] at h1 h2
      have q' := r.sl j t o h1 h2
      cases t with
      | nil => trivial
      | val d => obtain ⟨v, e, q⟩ := q'; exact ⟨v, e, q.mv m⟩
      | pin w d => obtain ⟨v, e, ew, q⟩ := q'; exact ⟨v, e, ew, q.mv m⟩
      | own es =>
        obtain ⟨l', zs, rfl, hm', h0', hp', hl'', hr'⟩ := q'
        exact ⟨l', zs, rfl, List.mem_append.mpr (.inr hm'), h0', hp', (s.ow (M := M1) l' hm' hp' h0').2 _ hl'' (by intro _ z; cases z), hr'.mv m⟩
      | obj q => exact q'
  · rw [set_self e1, set_self e2]
    exact ⟨hn, v, rfl, ro⟩
  · rcases List.mem_append.mp ha with ha | ha
    · exact RO.live q v A ro a ha
    · exact s.live a (r.liv.m a ha)
end
abbrev DTB := (D → Prop) → (O → Prop) → DS → Prop
section
structure EB (K : PySem.W.Frag) (F : Fx) (M : List Addr) (H : Hp) (Q : D → Prop) (L : O → Prop) (D : Ends) : Prop where
  rt : ∀ M' H' σ' ρ' d v, Mv K F.pp M H M' H' → RSt K F M' H' σ' ρ' → Rep K F.pp M' H' d v → Q d → D.rt v H'
  nx : ∀ M' H' σ' ρ', Mv K F.pp M H M' H' → RSt K F M' H' σ' ρ' → Q .non → D.nx σ' H'
  nw : ∀ M' H' q v A, SameP K F.pp F.H0 H' → (∀ a ∈ F.M0, a ∈ M') → A.Nodup → (∀ a ∈ A, a ∈ M' ∧ F.H0 a = none ∧ F.pp ≠ some a) → RO K F.pp M' H' q v A → L q → D.rt v H'
theorem EB.mv {K : PySem.W.Frag} {F : Fx} {M M1 : List Addr} {H H1 : Hp} {Q : DL.D → Prop} {L : O → Prop} {D : Ends} (o : EB K F M H Q L D) (m : Mv K F.pp M H M1 H1) : EB K F M1 H1 Q L D :=
  ⟨fun _ _ _ _ _ _ m' => o.rt _ _ _ _ _ _ (m.trans m'), fun _ _ _ _ m' => o.nx _ _ _ _ (m.trans m'), o.nw⟩
def PSsB (X : Cx) (st : List Stmt) (t : DTB) : Prop := ∃ T : TS, PSs X st T ∧ ∀ {F : Fx} M H σ ρ (Q : D → Prop) (L : O → Prop) (D : Ends), RSt X.K F M H σ ρ → EB X.K F M H Q L D → t Q L ρ → T D σ H
variable {X : Cx} {st : Stmt} {rest : List Stmt} {t : DTS} {u : DTB} {e : Expr} {te : DE} {pos : Pos}
def slB (L : O → Prop) : Sl → Prop
  | .own ds => L (.lst (ds.map .val))
  | .obj q => L q
  | _ => False
theorem RSt.slB {K : PySem.W.Frag} {F : Fx} {M : List Addr} {H : Hp} {σ : St} {ρ : DS} {i : Nat} {L : O → Prop} (r : RSt K F M H σ ρ) (h : slB L (slot ρ i)) :
    ∃ q v A, σ[i]? = some (some v) ∧ A.Nodup ∧ RO K F.pp M H q v A ∧ (∀ a ∈ A, a ∈ M ∧ F.H0 a = none ∧ F.pp ≠ some a) ∧ L q := by
  cases z : slot ρ i with
  | nil => rw [z] at h; exact h.elim
  | val d => rw [z] at h; exact h.elim
  | pin w d => rw [z] at h; exact h.elim
  | own ds =>
    rw [z] at h
    obtain ⟨oo1, ho1, l, xs, rfl, hm1, h01, hp1, hl1, hr1⟩ := r.at (slot_get z (by intro z; cases z))
    refine ⟨_, .ref l, [l], ho1, by simp, ?_, fun a ha => ?_, h⟩
    · simp only [RO]
      exact ⟨l, xs, [], rfl, hl1, rfl, ROs.vals hr1⟩
    · rw [List.mem_singleton.mp ha]
      exact ⟨hm1, h01, hp1⟩
  | obj q =>
    rw [z] at h
    obtain ⟨v, A, ho, nd, hq, hA, _⟩ := r.objAt (slot_get z (by intro z; cases z))
    exact ⟨q, v, A, ho, nd, hq, hA, h⟩
theorem psb_own {i : Nat} (h : PE X e (tVar i)) : PSsB X [.Return (some e) pos] (fun _ L ρ => slB L (slot ρ i)) := by
  refine ⟨_, pss_one (ps_ret h), fun {F} M H σ ρ Q L D rs en q => ?_⟩
  obtain ⟨q, v, A, ho, nd, hq, hA, hL⟩ := rs.slB q
  exact ⟨v, ho, en.nw M H q v A rs.sameT rs.sub nd hA hq hL⟩
theorem psb_cons (h1 : PSD X st t) (h2 : PSsB X rest u) : PSsB X (st :: rest) (fun Q L ρ => t { nx := u Q L, rt := Q } ρ) := by
  obtain ⟨T, p, r⟩ := h1
  obtain ⟨U, q, s⟩ := h2
  refine ⟨_, pss_cons p q, fun {F} M H σ ρ Q L D rs en h => r M H σ ρ { nx := u Q L, rt := Q } { D with nx := U D } rs ⟨fun M' H' σ' ρ' m rs' h => ?_, fun _ _ _ _ _ _ q => q.elim, fun _ _ _ _ _ _ q => q.elim, en.rt⟩ h⟩
  exact s M' H' σ' ρ' Q L D rs' (en.mv m) h
theorem psb_mid (h1 : PSD X st t) (h2 : PSsB X rest u) : PSsB X (st :: rest) (fun Q L ρ => ∃ N : DS → Prop, t { nx := N, rt := Q } ρ ∧ ∀ ρ', N ρ' → u Q L ρ') := by
  obtain ⟨T, p, r⟩ := h1
  obtain ⟨U, q, s⟩ := h2
  refine ⟨_, pss_cons p q, fun {F} M H σ ρ Q L D rs en h => ?_⟩
  obtain ⟨N, h, hn⟩ := h
  refine r M H σ ρ { nx := N, rt := Q } { D with nx := U D } rs ⟨fun M' H' σ' ρ' m rs' h => ?_, fun _ _ _ _ _ _ q => q.elim, fun _ _ _ _ _ _ q => q.elim, en.rt⟩ h
  exact s M' H' σ' ρ' Q L D rs' (en.mv m) (hn ρ' h)
end
abbrev DSpB := List D → (D → Prop) → (O → Prop) → Prop
def spDB (K : PySem.W.Frag) (n : Nat) (g : DSpB) : Sp := fun vs H Q _ => ∃ pp M ds, Lv pp M H ∧ Reps K pp M H ds vs ∧ ds.length = n ∧ g ds (fun d => ∀ H' v, SameP K pp H H' → Rep K pp M H' d v → Q v H')
  (fun q => ∀ M' H' v A, SameP K pp H H' → (∀ a ∈ M, a ∈ M') → A.Nodup → (∀ a ∈ A, a ∈ M' ∧ H a = none ∧ pp ≠ some a) → RO K pp M' H' q v A → Q v H')
def MonoB (g : DSpB) : Prop := ∀ ds P P' L L', (∀ d, P d → P' d) → (∀ q, L q → L' q) → g ds P L → g ds P' L'
omit [Frm] in
theorem fnDB {P : Program} {w : World} {K : PySem.W.Frag} {mg : Str → Option Value} {base : Heap} {x qual : Str} {st : Stmt} {f : Addr} {fd : FuncData} {N ps : List Str} {k : Nat} {g : DSpB} {t : DTB} (Fn : Fun K x qual st f fd) (S : FnScope N ps (defScope st))
    (hb : ∀ (cdv : Value) (A : Around) (outer : List Env) (s : Shared) (H : Hp) (E : XK), Room k (A.deeper (envOfC qual (defScope st) s.heap.objs.size f cdv)) → @PSsB _ Frm.free (cxOf CX0 P w K mg base N qual (defScope st) f cdv A outer s H E).nox (defBody st) t)
    (hg : ∀ ds Q L, ds.length = ps.length → g ds Q L → t Q L (dstart N.length ds)) : FnOk P w K mg base CX0 (k + 1) f fd ps (spDB K ps.length g) := by
  refine Fn.ok S (fun vs H Q E h => ?_) (fun cdv A outer s H vs Q E hr h => ?_)
  · obtain ⟨pp, M, ds, _, r, e, _⟩ := h
    rw [← r.length, e]
  · obtain ⟨pp, M, ds, lv, r, e, h⟩ := h
    obtain ⟨T, p, run⟩ := hb cdv A outer s H E hr
    refine ⟨T, p, run M H _ _ _ _ _ (rst_start lv r trivial) ⟨fun M' H' σ' ρ' d v m rs rd q => ?_, fun M' H' σ' ρ' m rs q => ?_, fun M' H' q v A s sub nd hA rr q => ?_⟩ (hg ds _ _ e h)⟩
    · exact q H' v rs.sameT (rd.mv (.less rs.sub))
    · exact q H' .non rs.sameT (by simp only [Rep])
    · exact q M' H' v A s sub nd hA rr
omit [Frm] in
theorem FnOk.asDB {P : Program} {w : World} {K : PySem.W.Frag} {mg : Str → Option Value} {base : Heap} {k n : Nat} {f : Addr} {fd : FuncData} {ps : List Str} {g : DSpB} {g' : DSp} (h : FnOk P w K mg base CX0 k f fd ps (spDB K n g)) (hg : ∀ ds Q, g' ds Q → g ds Q (fun q => Q (fzO q))) (gm : MonoB g) : FnOk P w K mg base CX0 k f fd ps (spD K n g') :=
  h.imp fun vs H Q E h => by
    obtain ⟨pp, M, ds, lv, r, e, h⟩ := h
    refine ⟨pp, M, ds, lv, r, e, gm _ _ _ _ _ (fun d q => q) (fun q hq M' H' v A s sub nd hA rr => hq H' v s ?_) (hg _ _ h)⟩
    exact RO.fz (.less sub) q v A (fun a ha => ⟨(lv.fresh (hA a ha).2.1).1, (hA a ha).2.2⟩) rr
section
variable {X : Cx}
abbrev dSetB (i n : Nat) (g : DSpB) (t : DA) : DTS := fun E ρ => t ρ fun ds ρ1 => ds.length = n ∧ g ds (fun d => E.nx (ρ1.set i (.val d))) (fun q => E.nx (ρ1.set i (.obj q)))
theorem ds_setB {k n i : Nat} {f : Addr} {fd : FuncData} {ps : List Str} {g : DSpB} {x y : Str} {p py cpos pos : Pos} {e : Expr} {es : List Expr} {t : DA} (Fn : FnOk X.prog X.w X.K X.mg X.base CX0 k f fd ps (spDB X.K n g)) (gm : MonoB g) (hr : Room k X.A) (hg : Gl X x) (hm : X.mg x = some (.ref f)) (hk : PySem.W.keepIn X.K (.ref f) = true) (hb : Binds X.K fd ps [])
    (ha : PAD X (e :: es) t) (hN : X.N.Nodup) (hi : X.N[i]? = some y) (hx : Loc X.env.scope y) (hdb : (x == ("__debug__" : Str)) = false := by decide) (he : starEach (e :: es) X.env = (false, eval e X.env) :: starEach es X.env := by rfl) (hpl : (backTo cpos (starEach es X.env)).any (·.1) = false := by rfl)
    (hs : swapsWith (.Call (.Name x p) (e :: es) [] cpos) (some (.Name y py)) pos.line X.env = pure false := by rfl) (hf : X.fn y = true ∨ X.env.scope.names.lookup y = some .local := by first | exact .inl rfl | exact .inr rfl | assumption) :
    PSD X (.Assign [.Name y py] (.Call (.Name x p) (e :: es) [] cpos) pos) (dSetB i n g t) := by
  obtain ⟨T, pa, ra⟩ := ha.run
  refine ⟨_, ps_set hN hi hx (pe_call Fn hr hg hm hk hb .nil pass0 pa hdb he hpl) hs hf, fun {F} M H σ ρ E D rs o q => ra M H σ ρ _ rs (ha.mono _ _ _ (fun ds ρ1 q M1 H1 vs m1 rs1 r1 => ?_) q)⟩
  rw [List.append_nil]
  refine ⟨F.pp, M1, ds, rs1.liv, r1, q.1, gm _ _ _ _ _ (fun d q H' w s r => o.nx M1 H' _ _ (m1.trans s.mv) ((rs1.sameP s).set r i) q) (fun b q M' H' v A s sub nd hA rr => ?_) q.2⟩
  obtain ⟨m2, rs2⟩ := rs1.newObj (q := b) s nd (fun a ha => ⟨(hA a ha).2.1, (hA a ha).2.2⟩) (RO.mv (.less fun a ha => (List.mem_append.mp ha).elim (fun z => (hA a z).1) (sub a)) b v A (fun _ _ _ e _ => e) rr) i
  exact o.nx _ _ _ _ (m1.trans m2) rs2 q
omit [Frm] in
theorem atI_nat {α : Type} {xs : List α} {n : Nat} {x : α} (h : xs[n]? = some x) : atI xs (n : Int) = some x := by
  have hn : n < xs.length := (List.getElem?_eq_some_iff.mp h).1
  unfold atI ixN
  rw [if_pos (by omega), if_pos (by omega)]
  simpa using h
end
end DL
namespace L2
open PySem PySem.Spec PyProof.Rows
section
variable {X : Cx}
def intsV (n : Nat) : List V := (List.range n).map fun (i : Nat) => V.int i
def tListR (ta : TA) : TE := fun σ H Q => ta σ H fun vs H1 => ∃ j : Int, vs = [.int j] ∧ 0 ≤ j ∧ j ≤ 100000 ∧ ∀ l, H1 l = none → Q (.ref l) (upd H1 l (.lst (intsV j.toNat)))
theorem vals_of_get : ∀ {xs : List V} {us : List Value}, xs.length = us.length → (∀ (i : Nat) x u, xs[i]? = some x → us[i]? = some u → RelV x u) → Vals xs us
  | [], [], _, _ => .nil
  | [], _ :: _, h, _ => by simp at h
  | _ :: _, [], h, _ => by simp at h
  | x :: xs, u :: us, h, k => .cons (k 0 x u rfl rfl) (vals_of_get (by simpa using h) fun i y v e1 e2 => k (i + 1) y v (by simpa using e1) (by simpa using e2))
theorem pe_listrange {a : Expr} {ta : TA} {p p' pos pos' : Pos} (hc : X.calm = true) (hgl : Gl X "list") (hml : X.mg "list" = none) (hg : Gl X "range") (hm : X.mg "range" = none) (ha : PA X [a] ta)
    (he : starEach [a] X.env = [(false, eval a X.env)] := by rfl)
    (hs : starEach [.Call (.Name "range" p') [a] [] pos'] X.env = (false, eval (.Call (.Name "range" p') [a] [] pos') X.env) :: starEach [] X.env := by rfl) (hpl0 : (backTo pos (starEach [] X.env)).any (·.1) = false := by rfl) :
    PE X (.Call (.Name "list" p) [.Call (.Name "range" p') [a] [] pos'] [] pos) (tListR ta) := by
  intro pins s σ H Q I h
  refine wpAny_Call_Name_kw (ld_blt I hgl hml boot_list_ty ?_ (by decide) (by decide))
  refine PyProof.Rows.callWith_type1 ?_ hs hpl0
  rw [hs]
  show wpAny _ _ (spliced ((false, eval (.Call (.Name "range" p') [a] [] pos') X.env) :: backTo pos (starEach [] X.env))) _ _ s
  refine Calls.spliced_cons ?_
  refine Call_ (ld_blt I hg hm boot_range (PyProof.Rows.callWith_type1 (thn (ha pos' pins s σ H _ I h) fun us s1 ⟨vs, H1, I1, r1, q1⟩ => ?_) he rfl))
  obtain ⟨j, e, q1, q2, q⟩ := q1
  subst e
  cases r1 with
  | cons r rr =>
    cases rr
    obtain ⟨t, rfl⟩ := r
    refine call_range_1 ?_
    refine Calls.spliced_nil ?_
    have I2 : Inv X pins σ H1 { s1 with heap := s1.heap.push { cls := .type "range", data := .fields #[.int 0 s1.toks, .int j t, .int 1 (s1.toks + 1)] }, toks := s1.toks + 1 + 1 } := I1.kept fun b o e => Heap.get?_push_of_some _ e
    have hn : Builtin.Range.rangeSize 0 j 1 = ((j.toNat : Nat) : Int) := by rw [rangeSize_one]; split <;> omega
    refine call_list_range (I.ok.hd hc) (IsRange.new ..) (small_one (by decide) (by decide) (by omega) (by omega)) hn (by omega) fun h' tk acc c hk hD hI => ?_
    refine ⟨.ref _, _, I2.laid (o := .lst (intsV j.toNat)) hk (Nat.le_refl _) ⟨?_, acc.toList, c, ?_, ?_⟩, rfl, q _ (I2.hok.fresh (Nat.le_refl _))⟩
    · unfold intsV
      rw [List.length_map, List.length_range]
      exact Nat.le_trans (show j.toNat ≤ 100000 by omega) (by decide)
    · refine vals_of_get ?_ fun i x u e1 e2 => ?_
      · unfold intsV
        rw [List.length_map, List.length_range, Array.length_toList, hI.1]
      · rw [Array.getElem?_toList] at e2
        obtain ⟨t', e3⟩ := hI.2 i u e2
        unfold intsV at e1
        rw [List.getElem?_map] at e1
        obtain ⟨k, e4, rfl⟩ := Option.map_eq_some_iff.mp e1
        have hk' : k = i := by
          have := (List.getElem?_eq_some_iff.mp e4).2
          simpa using this.symm
        subst hk'
        refine ⟨t', ?_⟩
        rw [e3]
        congr 1
        omega
    · rw [Array.toArray_toList]
      exact hD
end
end L2
namespace DL
open PySem PySem.Spec L2
open PyProof.Rows hiding St
variable [TB]
variable [Frm]
section
variable {X : Cx}
omit [Frm] in
theorem reps_ints0 {K : PySem.W.Frag} {pp : Option Addr} {M : List Addr} {H : Hp} (n : Nat) : Reps K pp M H (intsD 0 n) (intsV n) := by
  have := reps_intsD (K := K) (pp := pp) (M := M) (H := H) n 0
  unfold intsV
  simpa using this
abbrev dListR (t : DA) : DA := fun ρ Q => t ρ fun ds ρ' => match ds with
  | [.int j] => (0 ≤ j ∧ j ≤ 100000) ∧ Q (intsD 0 j.toNat) ρ'
  | _ => False
theorem dl_listR {a : Expr} {tl : DA} {p p' pos pos' : Pos} (hc : X.calm = true) (hgl : Gl X "list") (hml : X.mg "list" = none) (hg : Gl X "range") (hm : X.mg "range" = none) (ha : PAD X [a] tl)
    (he : starEach [a] X.env = [(false, eval a X.env)] := by rfl)
    (hs : starEach [.Call (.Name "range" p') [a] [] pos'] X.env = (false, eval (.Call (.Name "range" p') [a] [] pos') X.env) :: starEach [] X.env := by rfl) (hpl0 : (backTo pos (starEach [] X.env)).any (·.1) = false := by rfl) :
    PLD X (.Call (.Name "list" p) [.Call (.Name "range" p') [a] [] pos'] [] pos) (dListR tl) := by
  obtain ⟨T, pa, ra⟩ := ha.run
  refine ⟨fun _ _ _ f h => ha.mono _ _ _ (fun d _ h => ?_) h, _, pe_listrange hc hgl hml hg hm pa he hs hpl0, fun {F} M H σ ρ Q rs h => ra M H σ ρ _ rs (ha.mono _ _ _ (fun d ρ1 h M1 H1 v m1 rs1 r1 => ?_) h)⟩
  · split at h
    · exact ⟨h.1, f _ _ h.2⟩
    · exact h.elim
  · split at h
    · rename_i j
      simp only [Reps, Rep] at r1
      obtain ⟨x, r, rfl, rfl, rfl⟩ := r1
      refine ⟨j, rfl, h.1.1, h.1.2, fun l hl => h.2 M1 H1 _ l _ m1 rs1 hl rfl (reps_ints0 _)⟩
    · exact h.elim
end
section
variable {X : Cx}
def isTupO : Sl → Prop
  | .obj (.tup _) => True
  | _ => False
omit [Frm] in
theorem ROs.snoc {K : PySem.W.Frag} {pp : Option Addr} {M : List Addr} {H : Hp} {d : D} {v : V} (h : Rep K pp M H d v) : ∀ {os : List O} {xs : List V} {A : List Addr}, ROs K pp M H os xs A → ROs K pp M H (os ++ [.val d]) (xs ++ [v]) A
  | [], xs, A, q => by
    simp only [ROs] at q
    obtain ⟨rfl, rfl⟩ := q
    simp only [List.nil_append, ROs, RO]
    exact ⟨v, [], [], [], rfl, rfl, ⟨rfl, h⟩, rfl, rfl⟩
  | o :: os, xs, A, q => by
    simp only [ROs] at q
    obtain ⟨x, r, B, C, rfl, rfl, h1, h2⟩ := q
    simp only [List.cons_append, ROs]
    exact ⟨x, r ++ [v], B, C, rfl, rfl, h1, ROs.snoc h h2⟩
omit [Frm] in
theorem ROs.length {K : PySem.W.Frag} {pp : Option Addr} {M : List Addr} {H : Hp} : ∀ {os : List O} {xs : List V} {A : List Addr}, ROs K pp M H os xs A → os.length = xs.length
  | [], xs, A, q => by simp only [ROs] at q; rw [q.1]; rfl
  | o :: os, xs, A, q => by
    simp only [ROs] at q
    obtain ⟨x, r, B, C, rfl, rfl, h1, h2⟩ := q
    simp [ROs.length h2]
end
end DL
namespace PySem
section
variable {prog : Program} {w : World} {K : Type} [DecidableEq K] {knd : HeapKind prog w K} {A : Around} {E : Value → Shared → Prop} {z : Shared}
end
end PySem
namespace L2
open PySem PySem.Spec PyProof.Rows
section
variable {X : Cx}
end
end L2
namespace L2
open PySem PySem.Spec PyProof.Rows PySem.W
def kRun {α : Type} (c : Nat → Nat → Bool) : KasT α → α
  | .ret a => a
  | .ask i j k => kRun c (k (c i j))
def KGood {α : Type} (N : Nat) (P : α → Prop) : KasT α → Prop
  | .ret a => P a
  | .ask i j k => (i < N ∧ j < N) ∧ ∀ b, KGood N P (k b)
theorem KGood.bind {α β : Type} {N : Nat} {P : α → Prop} {R : β → Prop} {f : α → KasT β} (hf : ∀ a, P a → KGood N R (f a)) : ∀ (t : KasT α), KGood N P t → KGood N R (t.bind f)
  | .ret a, h => hf a h
  | .ask i j k, h => ⟨h.1, fun b => KGood.bind hf (k b) (h.2 b)⟩
theorem KGood.end {α : Type} {N : Nat} {P : α → Prop} (c : Nat → Nat → Bool) : ∀ (t : KasT α), KGood N P t → P (kRun c t)
  | .ret a, h => h
  | .ask i j k, h => KGood.end c (k (c i j)) (h.2 _)
theorem KGood.wp {α : Type} {N : Nat} {P : α → Prop} {c : Nat → Nat → Bool} {cmp : Nat → Nat → (Bool → Shared → Prop) → Shared → Prop} {s : Shared}
    (hc : ∀ i j (C : Bool → Shared → Prop), i < N → j < N → C (c i j) s → cmp i j C s) : ∀ (t : KasT α) (Q : α → Shared → Prop), KGood N P t → Q (kRun c t) s → t.kasWp cmp Q s
  | .ret a, Q, _, q => q
  | .ask i j k, Q, h, q => hc i j _ h.1.1 h.1.2 (KGood.wp hc (k (c i j)) Q (h.2 _) q)
def PmN (N : Nat) (p : Array Nat) : Prop := p.toList.Perm (List.range N)
section
variable {N : Nat} {p : Array Nat}
theorem PmN.lt (h : PmN N p) (h0 : 0 < N) (i : Nat) : p.getD i 0 < N := by
  by_cases hi : i < p.size
  · have e : p.getD i 0 = p[i] := by simp [Array.getD, hi]
    have hm : p[i] ∈ p.toList := Array.mem_toList_iff.mpr (Array.getElem_mem hi)
    rw [e]
    exact List.mem_range.mp (h.mem_iff.mp hm)
  · have e : p.getD i 0 = 0 := by simp [Array.getD, hi]
    rw [e]
    exact h0
end
def isI (k : Key) (u : Value) : Prop := ∃ i t, k = .inl i ∧ u = Value.int i t
def TupI (h : Heap) (k : List Key) (v : Value) : Prop := ∃ a o xs n, v = .ref a ∧ h.get? a = some o ∧ o.cls = .type "tuple" ∧ o.data = .seq xs n ∧ Paired isI k xs.toList
section
variable {prog : Program} {w : World} {A : Around} {E : Value → Shared → Prop} {s : Shared} {b fin : Bool} {Q : Bool → Shared → Prop}
end
def RawD (d : Addr) (es : Array DictEntry) (ep : Nat) (h : Heap) : Prop := ∃ o, h.get? d = some o ∧ o.ExactDict ∧ o.data = .dict es ep
theorem RawD.type {d : Addr} {es : Array DictEntry} {ep : Nat} {s : Shared} (h : RawD d es ep s.heap) : s.TypeIs (.ref d) "dict" := let ⟨o, e, x, _⟩ := h; ⟨o, e, x.1⟩
theorem RawD.keep {d : Addr} {es : Array DictEntry} {ep : Nat} {h h' : Heap} (r : RawD d es ep h) (k : ∀ o, h.get? d = some o → h'.get? d = some o) : RawD d es ep h' := let ⟨o, e, x⟩ := r; ⟨o, k o e, x⟩
section
variable {prog : Program} {w : World} {A : Around} {E : Value → Shared → Prop} {s : Shared} {d it : Addr} {es : Array DictEntry} {ep i : Nat}
end
end L2
namespace L2
open PySem PySem.Spec PyProof.Rows PySem.W
section
variable {prog : Program} {w : World} {A : Around} {E : Value → Shared → Prop} {s : Shared}
theorem TupI.keep {h h' : Heap} {k : List Key} {v : Value} {a : Addr} {xs : Array Value} {n : Nat} (t : TupI h k v) (ha : h.get? a = some (seqObj "list" xs n)) (kp : ∀ b o, b ≠ a → h.get? b = some o → h'.get? b = some o) : TupI h' k v := by
  obtain ⟨b, o, ys, m, rfl, e, c, d, p⟩ := t
  refine ⟨b, o, ys, m, rfl, kp b o ?_ e, c, d, p⟩
  rintro rfl
  rw [ha] at e
  cases e
  simp [seqObj] at c
end
end L2
namespace L2
open PySem PySem.Spec PyProof.Rows PySem.W
section
variable {X : Cx}
end
end L2
namespace PySem
section
variable {prog : Program} {w : World} {A : Around} {E : Value → Shared → Prop} {s : Shared}
end
end PySem
namespace DL
open PySem PySem.Spec L2
open PyProof.Rows hiding St
variable [TB]
section
variable {K : PySem.W.Frag} {pp : Option Addr} {M : List Addr} {H : Hp}
end
section
variable {α β : Type}
def putA (ps : List (List Key × α)) (k : List Key) (x : α) : List (List Key × α) :=
  if (ps.any fun p => decide (p.1 = k)) = true then ps.map (fun p => if p.1 = k then (p.1, x) else p) else ps ++ [(k, x)]
abbrev PK (R : α → β → Prop) : List (List Key × α) → List (List Key × β) → Prop := Paired fun p q => p.1 = q.1 ∧ R p.2 q.2
theorem PK.any {R : α → β → Prop} {ps : List (List Key × α)} {qs : List (List Key × β)} (h : PK R ps qs) (k : List Key) : (ps.any fun p => decide (p.1 = k)) = qs.any fun p => decide (p.1 = k) := by
  induction h with
  | nil => rfl
  | @cons p q ps qs h _ ih => simp only [List.any_cons, ih, h.1]
theorem PK.put {R : α → β → Prop} {ps : List (List Key × α)} {qs : List (List Key × β)} (h : PK R ps qs) (k : List Key) {x : α} {y : β} (r : R x y) : PK R (putA ps k x) (putA qs k y) := by
  unfold putA
  rw [h.any k]
  by_cases e : (qs.any fun p => decide (p.1 = k)) = true
  · rw [if_pos e, if_pos e]
    clear e
    induction h with
    | nil => exact .nil
    | @cons p q ps qs h _ ih =>
      rw [List.map_cons, List.map_cons]
      refine .cons ?_ ih
      by_cases e : p.1 = k
      · rw [if_pos e, if_pos (h.1.symm.trans e)]; exact ⟨h.1, r⟩
      · rw [if_neg e, if_neg (fun z => e (h.1.trans z))]; exact h
  · rw [if_neg e, if_neg e]
    exact Paired.snoc h ⟨rfl, r⟩
theorem PK.keys {R : α → β → Prop} {ps : List (List Key × α)} {qs : List (List Key × β)} (h : PK R ps qs) : ps.map (·.1) = qs.map (·.1) := by
  induction h with
  | nil => rfl
  | cons h _ ih => simp only [List.map_cons, ih, h.1]
end
section
variable {K : PySem.W.Frag} {pp : Option Addr} {M M' : List Addr} {H H' : Hp}
theorem PK.imp {α β : Type} {R S : α → β → Prop} {ps : List (List Key × α)} {qs : List (List Key × β)} (h : PK R ps qs) (f : ∀ a b, R a b → S a b) : PK S ps qs := by
  induction h with
  | nil => exact .nil
  | cons h _ ih => exact .cons ⟨h.1, f _ _ h.2⟩ ih
def PL (K : PySem.W.Frag) (pp : Option Addr) (M : List Addr) (H : Hp) : List (List Key × List D) → List (List Key × V) → List Addr → Prop
  | [], kvs, ls => kvs = [] ∧ ls = []
  | p :: ps, kvs, ls => ∃ l xs r t, kvs = (p.1, .ref l) :: r ∧ ls = l :: t ∧ H l = some (.lst xs) ∧ Reps K pp M H p.2 xs ∧ PL K pp M H ps r t
end
end DL
namespace DL
open PySem PySem.Spec L2
open PyProof.Rows hiding St
variable [TB]
variable [Frm]
section
variable {K : PySem.W.Frag} {F : Fx} {M M' : List Addr} {H H' : Hp} {σ : St} {ρ : DS} {i : Nat} {q q' : O}
theorem RSt.objStep (r : RSt K F M H σ ρ) (h : ρ[i]? = some (.obj q)) (m : Mv K F.pp M H M' H')
    (k : ∀ v A, σ[i]? = some (some v) → A.Nodup → RO K F.pp M H q v A → (∀ a ∈ A, a ∈ M ∧ F.H0 a = none ∧ F.pp ≠ some a) → ∃ A', A'.Nodup ∧ RO K F.pp M' H' q' v A' ∧ (∀ b ∈ A', b ∈ M' ∧ F.H0 b = none ∧ F.pp ≠ some b ∧ (b ∈ A ∨ b ∉ M)) ∧
      ∀ a, a ∈ M → F.pp ≠ some a → F.H0 a = none → a ∉ A → a ∈ M' ∧ ∀ x, H a = some x → NT x → H' a = some x)
    (sub : ∀ a ∈ F.M0, a ∈ M') (same : SameQ K F.pp F.H0 H') (liv : Lv0 F.pp M' H') : RSt K F M' H' σ (ρ.set i (.obj q')) := by
  obtain ⟨v, A, ho, nd, hq, hA, hoth⟩ := r.objAt h
  obtain ⟨_, _, _, _, ke⟩ := k v A ho nd hq hA
  refine ⟨by simp [r.len], fun j s o h1 h2 => ?_, r.ow.step m i (fun _ _ => rfl) (fun j e => List.getElem?_set_ne (Ne.symm e)) (fun A1 hA1 hB1 => ?_), sub, same, r.old, liv, r.lk.cl m⟩
  · by_cases e : i = j
    · subst e
      rw [ho] at h2
      rw [set_self h1]
      cases h2
      exact ⟨v, rfl⟩
    · rw [List.getElem?_set_ne e] at h1
      have q' := r.sl j s o h1 h2
      cases s with
      | nil => trivial
      | val d => obtain ⟨v, e, q⟩ := q'; exact ⟨v, e, q.mv m⟩
      | pin w d => obtain ⟨v, e, ew, q⟩ := q'; exact ⟨v, e, ew, q.mv m⟩
      | own es =>
        obtain ⟨l', zs, rfl, hm', h0', hp', hl'', hr'⟩ := q'
        have nl : l' ∉ A := hoth j _ _ (Ne.symm e) h1 h2 _ ⟨es, rfl⟩ rfl
        obtain ⟨k1, k2⟩ := ke l' hm' hp' h0' nl
        exact ⟨l', zs, rfl, k1, h0', hp', k2 _ hl'' (by intro _ z; cases z), hr'.mv m⟩
      | obj q => exact q'
  · obtain ⟨nd1, v1, e1, hq1⟩ := hA1 _ _ h ho
    cases e1
    obtain ⟨A', nd', ro, hb, ha⟩ := k v A1 ho nd1 hq1 hB1
    refine ⟨A', fun s o e1 e2 => ?_, hb, ha⟩
    rw [ho] at e2
    cases e2
    rw [set_self e1]
    exact ⟨nd', v, rfl, ro⟩
theorem Lv0.upd {pp : Option Addr} {l : Addr} {o : HO} (h : Lv0 pp M H) : Lv0 pp M (L2.upd H l o) := by
  refine ⟨fun a ha => ?_, fun p e => ?_⟩
  · by_cases z : a = l
    · subst z; rw [upd_same]; intro z; cases z
    · rw [upd_ne z]; exact h.m a ha
  · by_cases z : p = l
    · subst z; rw [upd_same]; intro z; cases z
    · rw [upd_ne z]; exact h.p p e
end
section
variable {X : Cx}
end
end DL
namespace L2
open PySem PySem.Spec PyProof.Rows
section
variable {X : Cx}
end
end L2
namespace DL
open PySem PySem.Spec L2
open PyProof.Rows hiding St
variable [TB]
variable [Frm]
section
variable {X : Cx}
end
section
variable {K : PySem.W.Frag} {pp : Option Addr} {M M' : List Addr} {H H' : Hp}
omit [Frm] in
theorem PL.mv (m : Mv K pp M H M' H') : ∀ {kls : List (List Key × List D)} {kvs : List (List Key × V)} {ls : List Addr}, (∀ b ∈ ls, ∀ o, H b = some o → H' b = some o) → PL K pp M H kls kvs ls → PL K pp M' H' kls kvs ls
  | [], kvs, ls, _, h => h
  | p :: ps, kvs, ls, kp, h => by
    obtain ⟨l, xs, r, t, rfl, rfl, hl, h1, h2⟩ := h
    exact ⟨l, xs, r, t, rfl, rfl, kp l List.mem_cons_self _ hl, h1.mv m, PL.mv m (fun b hb => kp b (List.mem_cons_of_mem _ hb)) h2⟩
omit [Frm] in
theorem PL.snoc {k : List Key} {es : List D} {l : Addr} {xs : List V} (hl : H l = some (.lst xs)) (hr : Reps K pp M H es xs) : ∀ {kls : List (List Key × List D)} {kvs : List (List Key × V)} {ls : List Addr}, PL K pp M H kls kvs ls → PL K pp M H (kls ++ [(k, es)]) (kvs ++ [(k, .ref l)]) (ls ++ [l])
  | [], kvs, ls, h => by
    obtain ⟨rfl, rfl⟩ := h
    exact ⟨l, xs, [], [], rfl, rfl, hl, hr, rfl, rfl⟩
  | p :: ps, kvs, ls, h => by
    obtain ⟨l', xs', r, t, rfl, rfl, hl', h1, h2⟩ := h
    exact ⟨l', xs', r ++ [(k, .ref l)], t ++ [l], rfl, rfl, hl', h1, PL.snoc hl hr h2⟩
def addL1 (k : List Key) (d : D) : List (List Key × List D) → List (List Key × List D)
  | [] => [(k, [d])]
  | p :: r => if p.1 = k then (p.1, p.2 ++ [d]) :: r else p :: addL1 k d r
omit [Frm] in
theorem PL.add (k : List Key) (d : D) : ∀ {kls : List (List Key × List D)} {kvs : List (List Key × V)} {ls : List Addr}, PL K pp M H kls kvs ls → ls.Nodup →
    (valV kvs k = none ∧ addL1 k d kls = kls ++ [(k, [d])]) ∨ ∃ l0 xs, valV kvs k = some (.ref l0) ∧ l0 ∈ ls ∧ H l0 = some (.lst xs) ∧ (∃ p ∈ kls, p.1 = k ∧ p.2.length = xs.length) ∧
      ∀ {M' : List Addr} {H' : Hp} {v : V}, Mv K pp M H M' H' → Rep K pp M' H' d v → H' l0 = some (.lst (xs ++ [v])) → (∀ b ∈ ls, b ≠ l0 → ∀ o, H b = some o → H' b = some o) → PL K pp M' H' (addL1 k d kls) kvs ls
  | [], kvs, ls, h, _ => by
    obtain ⟨rfl, rfl⟩ := h
    exact .inl ⟨rfl, rfl⟩
  | p :: ps, kvs, ls, h, nd => by
    obtain ⟨l, xs, r, t, rfl, rfl, hl, h1, h2⟩ := h
    obtain ⟨n1, n2⟩ := List.nodup_cons.mp nd
    by_cases e : p.1 = k
    · refine .inr ⟨l, xs, valV_pos (p := (p.1, V.ref l)) e, List.mem_cons_self, hl, ⟨p, List.mem_cons_self, e, h1.length⟩, fun {M' H' v} m rd hv kp => ?_⟩
      unfold addL1
      rw [if_pos e]
      exact ⟨l, _, r, t, rfl, rfl, hv, (h1.mv m).append (.one rd), PL.mv m (fun b hb => kp b (List.mem_cons_of_mem _ hb) (by rintro rfl; exact n1 hb)) h2⟩
    · rcases PL.add k d h2 n2 with ⟨a1, a2⟩ | ⟨l0, ys, a1, a2, a3, ⟨p', a4, a5⟩, f⟩
      · refine .inl ⟨by rw [valV_neg (p := (p.1, V.ref l)) e]; exact a1, ?_⟩
        unfold addL1
        rw [if_neg e, a2]
        rfl
      · refine .inr ⟨l0, ys, by rw [valV_neg (p := (p.1, V.ref l)) e]; exact a1, List.mem_cons_of_mem _ a2, a3, ⟨p', List.mem_cons_of_mem _ a4, a5⟩, fun {M' H' v} m rd hv kp => ?_⟩
        unfold addL1
        rw [if_neg e]
        exact ⟨l, xs, r, t, rfl, rfl, kp l List.mem_cons_self (by rintro rfl; exact n1 a2) _ hl, h1.mv m, f m rd hv fun b hb => kp b (List.mem_cons_of_mem _ hb)⟩
end
section
variable {X : Cx}
omit [Frm] in
theorem PL.len {K : PySem.W.Frag} {pp : Option Addr} {M : List Addr} {H : Hp} : ∀ {kls : List (List Key × List D)} {kvs : List (List Key × V)} {ls : List Addr}, PL K pp M H kls kvs ls → kls.length = kvs.length
  | [], kvs, ls, h => by rw [h.1]; rfl
  | p :: ps, kvs, ls, h => by
    obtain ⟨l, xs, r, t, rfl, rfl, hl, h1, h2⟩ := h
    simp [PL.len h2]
end
end DL
namespace DL
open PySem PySem.Spec L2
open PyProof.Rows hiding St
variable [TB]
variable [Frm]
section
variable {K : PySem.W.Frag} {F : Fx} {M : List Addr} {H : Hp} {σ : St} {ρ : DS} {i : Nat}
end
section
variable {X : Cx}
end
end DL
namespace DL
open PySem PySem.Spec L2
open PyProof.Rows hiding St
variable [TB]
variable [Frm] {X : Cx} {st : Stmt}
end DL
namespace DL
open PySem PySem.Spec L2
open PyProof.Rows hiding St
variable [TB]
section
variable {P : Program} {w : World} {K : PySem.W.Frag} {mg : Str → Option Value} {base : Heap} {k : Nat} {f : Addr} {fd : FuncData} {ps : List Str} {n : Nat}
theorem MonoE.or {g1 g2 : DSpE} (m1 : MonoE g1) (m2 : MonoE g2) : MonoE fun ds Q W => g1 ds Q W ∨ g2 ds Q W := fun ds P P' W W' f fw h => h.imp (m1 ds P P' W W' f fw) (m2 ds P P' W W' f fw)
end
end DL
namespace DL
open PySem PySem.Spec L2
open PyProof.Rows hiding St
variable [TB]
section
variable {X : Cx}
end
end DL
namespace L2
open PySem PySem.Spec PyProof.Rows PySem.W
structure StrO (N : Nat) (c : Nat → Nat → Bool) : Prop where
  tr : ∀ i j k, i < N → j < N → k < N → c i j = true → c j k = true → c i k = true
  as : ∀ i j, i < N → j < N → c i j = true → c j i = false
  to : ∀ i j, i < N → j < N → i ≠ j → c i j = false → c j i = true
section
variable {N : Nat} {c : Nat → Nat → Bool} {p : Array Nat}
theorem PmN.size (h : PmN N p) : p.size = N := by
  have := h.length_eq
  simpa using this
theorem PmN.ne (h : PmN N p) {i j : Nat} (hi : i < N) (hj : j < N) (e : i ≠ j) : p.getD i 0 ≠ p.getD j 0 := by
  have nd : p.toList.Nodup := h.nodup_iff.mpr List.nodup_range
  have s := h.size
  have e1 : p.getD i 0 = p.toList[i]'(by simpa [s] using hi) := by simp [Array.getD, s, hi]
  have e2 : p.getD j 0 = p.toList[j]'(by simpa [s] using hj) := by simp [Array.getD, s, hj]
  rw [e1, e2]
  intro z
  exact e ((List.getElem_inj nd).mp z)
def Asc (c : Nat → Nat → Bool) (p : Array Nat) (n : Nat) : Prop := ∀ i j, i < j → j < n → c (p.getD i 0) (p.getD j 0) = true
def Dsc (c : Nat → Nat → Bool) (p : Array Nat) (n : Nat) : Prop := ∀ i j, i < j → j < n → c (p.getD j 0) (p.getD i 0) = true
theorem Asc.step (O : StrO N c) (h : PmN N p) {n : Nat} (hn : 1 ≤ n) (hN : n < N) (a : Asc c p n) (e : c (p.getD n 0) (p.getD (n - 1) 0) = false) : Asc c p (n + 1) := by
  have h0 : 0 < N := by omega
  have last : c (p.getD (n - 1) 0) (p.getD n 0) = true := O.to _ _ (h.lt h0 _) (h.lt h0 _) (h.ne hN (by omega) (by omega)) e
  intro i j hij hj
  by_cases z : j = n
  · subst z
    by_cases y : i = j - 1
    · subst y; exact last
    · exact O.tr _ _ _ (h.lt h0 _) (h.lt h0 _) (h.lt h0 _) (a i (j - 1) (by omega) (by omega)) last
  · exact a i j hij (by omega)
theorem Dsc.step (O : StrO N c) (h : PmN N p) {n : Nat} (hn : 1 ≤ n) (hN : n < N) (a : Dsc c p n) (last : c (p.getD n 0) (p.getD (n - 1) 0) = true) : Dsc c p (n + 1) := by
  have h0 : 0 < N := by omega
  intro i j hij hj
  by_cases z : j = n
  · subst z
    by_cases y : i = j - 1
    · subst y; exact last
    · exact O.tr _ _ _ (h.lt h0 _) (h.lt h0 _) (h.lt h0 _) last (a i (j - 1) (by omega) (by omega))
  · exact a i j hij (by omega)
end
end L2
namespace L2
open PySem PySem.Spec PyProof.Rows
def IterX : Bool → Heap → Addr → Addr → Nat → Prop
  | true, h, i, a, k => h.IsTupleIter i a k
  | false, h, i, a, k => h.IsListIter i a k
def SeqX : Bool → Heap → Addr → Array Value → Prop
  | true, h, a, xs => h.IsTuple a xs
  | false, h, a, xs => h.IsList a xs
theorem IterX.extBut {t : Bool} {h h' : Heap} {i a b : Addr} {k : Nat} (x : IterX t h i a k) (hs : Heap.ExtBut b h h') (e : i ≠ b) : IterX t h' i a k := by
  cases t with
  | true => exact Heap.IsTupleIter.extBut x hs e
  | false => exact Heap.IsListIter.extBut x hs e
theorem IterX.at {t : Bool} {h h' : Heap} {i a : Addr} {k : Nat} (x : IterX t h i a k) (e : ∀ o, h.get? i = some o → h'.get? i = some o) : IterX t h' i a k := by
  cases t with
  | true => exact Heap.IsTupleIter.at x e
  | false => exact Heap.IsListIter.at x e
theorem IterX.cell {t : Bool} {h : Heap} {i a : Addr} {k : Nat} (x : IterX t h i a k) : ∃ o, h.get? i = some o ∧ ∀ v, o.data ≠ .cell v := by
  cases t with
  | true => obtain ⟨o, e, _, d⟩ := (show h.IsTupleIter i a k from x); exact ⟨o, e, fun v z => by rw [d] at z; cases z⟩
  | false => obtain ⟨o, e, _, d⟩ := (show h.IsListIter i a k from x); exact ⟨o, e, fun v z => by rw [d] at z; cases z⟩
theorem SeqX.extBut {t : Bool} {h h' : Heap} {a b : Addr} {xs : Array Value} (x : SeqX t h a xs) (hs : Heap.ExtBut b h h') (e : a ≠ b) : SeqX t h' a xs := by
  cases t with
  | true => exact Heap.IsTuple.extBut x hs e
  | false => exact Heap.IsList.extBut x hs e
theorem SeqX.at {t : Bool} {h h' : Heap} {a : Addr} {xs : Array Value} (x : SeqX t h a xs) (e : ∀ o, h.get? a = some o → h'.get? a = some o) : SeqX t h' a xs := by
  cases t with
  | true => obtain ⟨o, ho, r⟩ := (show h.IsTuple a xs from x); exact ⟨o, e o ho, r⟩
  | false => exact Heap.IsList.at x e
theorem SeqX.lt {t : Bool} {h : Heap} {a : Addr} {xs : Array Value} (x : SeqX t h a xs) : a < h.objs.size := by
  cases t with
  | true => obtain ⟨o, ho, _⟩ := (show h.IsTuple a xs from x); exact Heap.lt_size ho
  | false => obtain ⟨o, ho, _⟩ := (show h.IsList a xs from x); exact Heap.lt_size ho
section
variable {prog : Program} {w : World} {A : Around} {E : Value → Shared → Prop} {s : Shared}
end
end L2
namespace L2
open PySem PySem.Spec PyProof.Rows
section
variable {tk : Addr → Bool}
def ItsAtM (tk : Addr → Bool) (h : Heap) (n : Nat) (src : List (Addr × Array Value)) (k c : Nat) : Prop := ∀ (j : Nat) (p : Addr × Array Value), src[j]? = some p → IterX (tk p.1) h (n + j) p.1 (if j < c then k + 1 else k)
def SrcAtM (tk : Addr → Bool) (h : Heap) (n : Nat) (src : List (Addr × Array Value)) : Prop := ∀ (j : Nat) (p : Addr × Array Value), src[j]? = some p → p.1 < n ∧ SeqX (tk p.1) h p.1 p.2
structure ZipStM (tk : Addr → Bool) (h : Heap) (n : Nat) (src : List (Addr × Array Value)) (k : Nat) : Prop where
  zip : ∃ f0 f1, OwnF f0 ∧ IsZipN h (n + src.length + 2) (n + src.length) (n + src.length + 1) f0 f1
  ti : IsTupR h (n + src.length) (itsL n src.length).toArray
  to : ∃ ws : Array Value, ws.size = src.length ∧ IsTupR h (n + src.length + 1) ws
  its : ItsAtM tk h n src k 0
  ls : SrcAtM tk h n src
  ne : src ≠ []
structure ZipLpM (tk : Addr → Bool) (h0 : Heap) (n : Nat) (src : List (Addr × Array Value)) (k c : Nat) (h : Heap) : Prop where
  ti : IsTupR h (n + src.length) (itsL n src.length).toArray
  its : ItsAtM tk h n src k c
  ls : SrcAtM tk h n src
  kept : KeptZ n src.length h0 h
  sz : h.objs.size = h0.objs.size
section
variable {h0 h h' : Heap} {n k c : Nat} {src : List (Addr × Array Value)}
theorem ZipLpM.same {a : Nat} (L : ZipLpM tk h0 n src k c h) (hs : Heap.SameBut a h h') (ha : a = n + src.length + 1 ∨ a = n + src.length + 2) : ZipLpM tk h0 n src k c h' where
  ti := hs.extBut _ _ (by intro e; have e : (_ : Nat) = (_ : Nat) := e; omega) L.ti
  its := fun j p hj => (L.its j p hj).extBut hs.extBut (by have := at_lt hj; intro e; have e : (_ : Nat) = (_ : Nat) := e; omega)
  ls := fun j p hj => ⟨(L.ls j p hj).1, (L.ls j p hj).2.extBut hs.extBut (Nat.ne_of_lt (Nat.lt_of_lt_of_le (L.ls j p hj).1 (show n ≤ a by omega)))⟩
  kept := fun b o hb e => hs.extBut _ _ (by intro e; have e : (_ : Nat) = (_ : Nat) := e; omega) (L.kept b o hb e)
  sz := hs.1.trans L.sz
theorem ZipLpM.next {p : Addr × Array Value} (L : ZipLpM tk h0 n src k c h) (hc : src[c]? = some p) (hit : IterX (tk p.1) h' (n + c) p.1 (k + 1)) (hs : Heap.SameBut (n + c) h h') : ZipLpM tk h0 n src k (c + 1) h' := by
  have lt := at_lt hc
  refine ⟨hs.extBut _ _ (by intro e; have e : (_ : Nat) = (_ : Nat) := e; omega) L.ti, fun j q hj => ?_, fun j q hj => ⟨(L.ls j q hj).1, (L.ls j q hj).2.extBut hs.extBut (Nat.ne_of_lt (Nat.lt_of_lt_of_le (L.ls j q hj).1 (Nat.le_add_right n c)))⟩, fun b o hb e => hs.extBut _ _ (by intro e; have e : (_ : Nat) = (_ : Nat) := e; omega) (L.kept b o hb e), hs.1.trans L.sz⟩
  by_cases z : j = c
  · subst z
    rw [hc] at hj
    cases hj
    rw [if_pos (by omega)]
    exact hit
  · have := (L.its j q hj).extBut hs.extBut (by intro e; have e : (_ : Nat) = (_ : Nat) := e; omega)
    by_cases y : j < c
    · rw [if_pos y] at this
      rw [if_pos (by omega)]
      exact this
    · rw [if_neg y] at this
      rw [if_neg (by omega)]
      exact this
end
section
variable {prog : Program} {w : World} {A : Around} {E : Value → Shared → Prop} {s : Shared}
end
def SqX (tk : Addr → Bool) (K : PySem.W.Frag) (H : Hp) (a : Addr) (xs : List V) : Prop := if tk a = true then SqT K H a xs else SqL K H a xs
theorem SqX.inj {X : Cx} {pins : List (Addr × Obj)} {σ : St} {H : Hp} {s : Shared} (I : Inv X pins σ H s) {a : Addr} {xs ys : List V} (h1 : SqX tk X.K H a xs) (h2 : SqX tk X.K H a ys) : xs = ys := by
  unfold SqX at h1 h2
  cases e : tk a with
  | true => rw [if_pos e] at h1 h2; exact I.tuple_inj h1 h2
  | false => rw [if_neg (by rw [e]; intro z; cases z)] at h1 h2; exact I.list_inj h1 h2
theorem SqX.at {X : Cx} {pins : List (Addr × Obj)} {σ : St} {H : Hp} {s : Shared} (I : Inv X pins σ H s) {a : Addr} {xs : List V} (h : SqX tk X.K H a xs) : ∃ its : List Value, Vals xs its ∧ SeqX (tk a) s.heap a its.toArray ∧ xs.length ≤ sizeLine := by
  unfold SqX at h
  cases e : tk a with
  | true =>
    rw [if_pos e] at h
    obtain ⟨its, rv, p, hz⟩ := I.tuple h
    exact ⟨its, rv, p, hz⟩
  | false =>
    rw [if_neg (by rw [e]; intro z; cases z)] at h
    obtain ⟨its, rv, p, hz⟩ := I.list h
    exact ⟨its, rv, p.isList, hz⟩
abbrev itO (t : Bool) (l : Addr) : Obj := { cls := .type (match t with | true => "tuple_iterator" | false => "list_iterator"), data := .fields #[.ref l, .int 0 0] }
theorem SeqX.push {t : Bool} {h : Heap} {a : Addr} {xs : Array Value} (x : SeqX t h a xs) (o : Obj) : SeqX t (h.push o) a xs := x.at fun o e => Heap.get?_push_of_some _ e
section
variable {prog : Program} {w : World} {A : Around} {E : Value → Shared → Prop} {s : Shared}
theorem IterX.new {t : Bool} {h : Heap} {i a : Addr} (e : h.get? i = some (itO t a)) : IterX t h i a 0 := by
  cases t with
  | true => exact ⟨_, e, rfl, rfl⟩
  | false => exact ⟨_, e, rfl, rfl⟩
end
structure ZipTnM (tk : Addr → Bool) (n : Nat) (as : List Addr) (k : Nat) (h : Heap) : Prop where
  zip : ∃ f0 f1, OwnF f0 ∧ IsZipN h (n + as.length + 2) (n + as.length) (n + as.length + 1) f0 f1
  ti : IsTupR h (n + as.length) (itsL n as.length).toArray
  to : ∃ ws : Array Value, ws.size = as.length ∧ IsTupR h (n + as.length + 1) ws
  its : ∀ (j : Nat) (a : Addr), as[j]? = some a → IterX (tk a) h (n + j) a k
theorem ZipTnM.st {n k : Nat} {as : List Addr} {h : Heap} {src : List (Addr × Array Value)} (t : ZipTnM tk n as k h) (hs : src.map (·.1) = as) (hl : ∀ p ∈ src, SeqX (tk p.1) h p.1 p.2) (hlt : ∀ a ∈ as, a < n) (hne : as ≠ []) : ZipStM tk h n src k := by
  have hlen : src.length = as.length := by rw [← hs, List.length_map]
  obtain ⟨z, ti, to, its⟩ := t
  have at_ : ∀ (j : Nat) (p : Addr × Array Value), src[j]? = some p → as[j]? = some p.1 := fun j p hp => by rw [← hs, List.getElem?_map, hp]; rfl
  refine ⟨by rw [hlen]; exact z, by rw [hlen]; exact ti, by rw [hlen]; exact to, fun j p hp => ?_, fun j p hp => ⟨hlt p.1 (List.mem_of_getElem? (at_ j p hp)), hl p (List.mem_of_getElem? hp)⟩, fun e => hne (by rw [← hs, e]; rfl)⟩
  rw [if_neg (Nat.not_lt_zero _)]
  exact its j p.1 (at_ j p hp)
theorem ZipStM.tn {n k : Nat} {as : List Addr} {h : Heap} {src : List (Addr × Array Value)} (z : ZipStM tk h n src k) (hs : src.map (·.1) = as) : ZipTnM tk n as k h := by
  have hlen : src.length = as.length := by rw [← hs, List.length_map]
  refine ⟨by rw [← hlen]; exact z.zip, by rw [← hlen]; exact z.ti, by rw [← hlen]; exact z.to, fun j a ha => ?_⟩
  have hj : j < src.length := by rw [hlen]; exact at_lt ha
  have hp : src[j]? = some src[j] := by simp [hj]
  have := z.its j _ hp
  rw [if_neg (Nat.not_lt_zero _)] at this
  have e : (src[j]).1 = a := by
    have : as[j]? = some (src[j]).1 := by rw [← hs, List.getElem?_map, hp]; rfl
    rw [ha] at this
    exact (Option.some.inj this).symm
  rw [← e]
  exact this
end
section
variable {X : Cx}
end
end L2
namespace DL
open PySem PySem.Spec PyProof.Rows L2
variable [TB]
variable [Frm]
section
variable {X : Cx}
end
end DL
namespace DL
open PySem PySem.Spec L2
open PyProof.Rows hiding St
variable [TB]
section
variable [Frm] {X : Cx}
end
end DL
namespace L2
open PySem PySem.Spec PyProof.Rows
open AutoSeq1 (wpAny_loadPart')
section
variable {prog : Program} {w : World} {A : Around} {E : Value → Shared → Prop} {s : Shared}
end
section
variable {prog : Program} {w : World} {A : Around} {E : Value → Shared → Prop} {s : Shared}
end
section
variable {X : Cx}
end
end L2
namespace DL
open PySem PySem.Spec L2
open PyProof.Rows hiding St
variable [TB]
section
variable [Frm] {X : Cx}
end
end DL
namespace DL
open PySem PySem.Spec L2
open PyProof.Rows hiding St
variable [TB]
section
variable [Frm] {X : Cx}
omit [Frm] in
theorem ixN_nat {n m : Nat} (h : n < m) : ixN m (n : Int) = some n := by
  unfold ixN
  rw [if_pos (by omega), if_pos (by omega)]
  simp
theorem RSt.nilAt {K : PySem.W.Frag} {F : Fx} {M : List Addr} {H : Hp} {σ : St} {ρ : DS} (r : RSt K F M H σ ρ) (j : Nat) : RSt K F M H σ (ρ.set j .nil) := by
  by_cases h : j < σ.length
  · have := r.setNil (o := σ[j]) j
    rw [List.set_getElem_self h] at this
    exact this
  · have := r.setNil (o := none) j
    rw [List.set_eq_of_length_le (by omega)] at this
    exact this
end
end DL
namespace DL
open PySem PySem.Spec L2
open PyProof.Rows hiding St
variable [TB]
abbrev XI := Addr → Addr × List (Str × V)
section
variable [Frm] {X : Cx} {xi : XI} {x : Str} {p pos np cpos : Pos} {e : Expr} {es : List Expr} {t : DA} {g : DSpE} {W : DS → Addr → Prop}
end
section
variable {xi : XI} {P : Program} {w : World} {K : PySem.W.Frag} {mg : Str → Option Value} {base : Heap} {k : Nat} {f : Addr} {fd : FuncData} {ps : List Str} {n : Nat}
end
section
variable [fr0 : Frm] {xi : XI} {X : Cx} {body suite : List Stmt} {b0 : Stmt} {n x : Str} {np hpos pos : Pos} {C0 : Addr} {i : Nat} {tb : (DS → Addr → Prop) → DTS} {th : DTS} {K : PySem.W.Frag}
end
section
variable [Frm] {X : Cx}
end
end DL
namespace L2
open PySem PySem.Spec PyProof.Rows
section
variable {prog : Program} {w : World} {A : Around} {E : Value → Shared → Prop} {s : Shared}
end
section
variable {X : Cx}
end
end L2
namespace DL
open PySem PySem.Spec L2
open PyProof.Rows hiding St
variable [TB]
section
variable {X : Cx}
end
end DL
namespace DL
open PySem PySem.Spec L2
open PyProof.Rows hiding St
variable [TB]
section
variable [Frm] {X : Cx}
end
end DL
namespace L2
open PySem PySem.Spec PyProof.Rows
open AutoSeq1 (wpAny_loadPart')
section
variable {prog : Program} {w : World} {A : Around} {E : Value → Shared → Prop} {s : Shared}
end
section
variable {X : Cx}
end
end L2
namespace DL
open PySem PySem.Spec L2
open PyProof.Rows hiding St
variable [TB]
section
variable [Frm] {X : Cx}
end
end DL
namespace L2
open PySem PySem.Spec PyProof.Rows
section
variable {X : Cx}
end
end L2
namespace DL
open PySem PySem.Spec L2
open PyProof.Rows hiding St
variable [TB]
section
variable [Frm] {X : Cx}
end
end DL
namespace DL
open PySem PySem.Spec L2
open PyProof.Rows hiding St
variable [TB]
section
variable {X : Cx}
def gNotIn (x y : D) (P : D → Prop) : Prop := match y with
  | .tup ys => (flatD x = true ∧ ys.all flatD = true) ∧ P (.bl (!(ys.any fun y => eqF y x)))
  | .lst ys => (flatD x = true ∧ ys.all flatD = true) ∧ P (.bl (!(ys.any fun y => eqF y x)))
  | _ => False
theorem od_notin : OpD X (compareOp .NotIn) gNotIn := by
  refine ⟨fun x y P P' f h => ?_, _, op_notIn_seq, fun {pp} M H x y v u Q _ rx ry h => ?_⟩
  · cases y <;> first | exact ⟨h.1, f _ h.2⟩ | exact False.elim h
  · have go : ∀ ys : List D, (flatD x = true ∧ ys.all flatD = true) → ∀ us : List V, Reps X.K pp M H ys us → flatV v = true ∧ us.all flatV = true ∧ inV v us = ys.any fun y => eqF y x := fun ys ⟨f1, f2⟩ us r => by
      obtain ⟨e1, e2⟩ := flat_rep f1 rx
      obtain ⟨e3, e4⟩ := flats_rep f2 r
      refine ⟨e2, e4, ?_⟩
      unfold inV
      rw [e3, e1, List.any_map]
      rfl
    cases y <;> first | exact False.elim h | skip
    · rename_i ys
      simp only [Rep] at ry
      obtain ⟨a, us, rfl, ha, r⟩ := ry
      obtain ⟨g1, g2, g3⟩ := go ys h.1 us r
      refine ⟨a, us, rfl, .inr (SqT.of ha), g1, g2, ?_⟩
      rw [if_pos rfl, g3]
      exact h.2 H _ .refl rep_bl
    · rename_i ys
      simp only [Rep] at ry
      obtain ⟨a, us, rfl, hm, hp, ha, r⟩ := ry
      obtain ⟨g1, g2, g3⟩ := go ys h.1 us r
      refine ⟨a, us, rfl, .inl (SqL.of ha), g1, g2, ?_⟩
      rw [if_pos rfl, g3]
      exact h.2 H _ .refl rep_bl
end
end DL
namespace L2
open PySem PySem.Spec PyProof.Rows
structure Cells (scope : Scope) (cl : List (Str × Addr)) (N : List Str) (vs : List V) (H : Hp) (h : Heap) : Prop where
  inj : ∀ x y c, cl.lookup x = some c → cl.lookup y = some c → x = y
  has : ∀ x, (scope.names.lookup x = some .cell ∨ scope.names.lookup x = some .free) → ∃ c, cl.lookup x = some c
  cell : ∀ x c, cl.lookup x = some c → ∃ v, h.IsCell c v
  free : ∀ x c, cl.lookup x = some c → H c = none
  len : N.length = vs.length
  val : ∀ (i : Nat) x v, N[i]? = some x → vs[i]? = some v → ∃ u c, RelV v u ∧ scope.names.lookup x = some .free ∧ cl.lookup x = some c ∧ h.IsCell c (some u)
section
variable {P : Program} {w : World} {K : PySem.W.Frag} {mg : Str → Option Value} {base : Heap} {N : List Str} {qual : Str} {scope : Scope} {f : Addr} {cd : Value} {cl : List (Str × Addr)} {A : Around} {outer : List Env} {s : Shared} {H : Hp} {E : XK} {vs : List V}
structure LamSc (params : Arguments) (scope : Scope) : Prop where
  kind : scope.kind = .function
  co : scope.isCoroutine = false
  gen : scope.isGenerator = false
  noc : ∀ x ∈ scope.names, x.2 ≠ .cell
  par : ∀ name qual body cl pm cdv ct, bindArgs (PySem.W.kla_fn name qual params body scope cl pm cdv ct) ⟨[], []⟩ = pure []
end

class Bm (mg : Str → Option Value) (base : Heap) : Prop where
  out : ∃ bm ob, mg "__builtins__" = some (.ref bm) ∧ bm ≠ builtinsNs ∧ base.get? bm = some ob ∧ ob.cls = .type "module" ∧ ob.dict = some builtinsNs ∧ ob.data = .plain
structure LamMade (P : Addr) (qual : Str) (H H' : Hp) : Prop where
  keep : ∀ b o, H b = some o → b ≠ P → H' b = some o
  tab : ∃ ps more, H P = some (.tbl ps) ∧ H' P = some (.tbl (ps ++ more)) ∧ TriplesOk (ps ++ more).toList ∧
    ∀ pos cv, codeAmong pos (ps ++ more).toList = some cv → codeAmong pos ps.toList = some cv ∨ ∃ c oc u vs t, cv = .ref c ∧ H' c = some (.frz oc u) ∧ oc.data = .fields vs ∧ vs[1]? = some (.str qual t)
abbrev frzO (o : Obj) (a : Addr) : HO := .frz o (.ext fun h => h.get? a = some o)
def CodeH (H : Hp) (c : Addr) (qual : Str) : Prop := ∃ oc u vs t, H c = some (.frz oc u) ∧ oc.data = .fields vs ∧ vs[1]? = some (.str qual t)
section
variable {X : Cx}
end
end L2
namespace DL
open PySem PySem.Spec L2
open PyProof.Rows hiding St
variable [TB]
section
variable {P : Program} {w : World} {K : PySem.W.Frag} {mg : Str → Option Value} {base : Heap} {N : List Str} {qual : Str} {scope : Scope} {f c' : Addr} {cl : List (Str × Addr)} {A : Around} {outer : List Env} {s : Shared} {H : Hp} {E : XK} {vs : List V}
end
structure LamAt (X : Cx) (k : Nat) (fa c' : Addr) (qual : Str) (params : Arguments) (body : Expr) (scope : Scope) (cl : List (Str × Addr)) (N2 : List Str) (vs : List V) : Prop where
  S : LamSc params scope
  room : Room (k + 1) X.A
  ob : ∃ pm ctv, X.H₀ fa = some (frzO (PySem.W.kla_obj "<lambda>" qual params body scope cl pm c' ctv) fa)
  ex : X.ex = []
  code : CodeH X.H₀ c' qual
  cells : Cells scope cl N2 vs X.H₀ X.s₀.heap
end DL
namespace DL
open PySem PySem.Spec L2
open PyProof.Rows hiding St
variable [TB]
structure Catcher (K : PySem.W.Frag) (mg : Str → Option Value) (cn a hn n xn : Str) (st : Stmt) (f C0 : Addr) (fd : FuncData) : Prop where
  F : Fun K cn cn st f fd
  m : mg cn = some (.ref f)
  b : Binds K fd [a] []
  body : ∃ p1 j p2 p3 p4 p5 p6 np p7 p8 p9 hpos tpos p10 p11, defBody st = [.Assign [.Name hn p1] (.Constant .none j p2) p3, .Try [.Expr (.Call (.Name a p4) [] [] p5) p6] [.ExceptHandler (some (.Name xn np)) (some n) [.Assign [.Name hn p7] (.Name n p8) p9] hpos] [] [] tpos, .Return (some (.Name hn p10)) p11]
  kind : (defScope st).kind = .function
  co : (defScope st).isCoroutine = false
  gen : (defScope st).isGenerator = false
  nofree : ∀ y ∈ (defScope st).names, y.2 ≠ .free
  la : (defScope st).names.lookup a = some .local
  lh : (defScope st).names.lookup hn = some .local
  ln : (defScope st).names.lookup n = some .local
  lx : (defScope st).names.lookup xn = some .globalImplicit
  nd : [a, hn, n].Nodup
  mx : mg xn = some (.ref C0)
  db : (xn == ("__debug__" : Str)) = false ∧ (a == ("__debug__" : Str)) = false ∧ (a == ("__classdict__" : Str)) = false ∧ (hn == ("__debug__" : Str)) = false ∧ (hn == ("__classdict__" : Str)) = false ∧ (n == ("__debug__" : Str)) = false ∧ (n == ("__classdict__" : Str)) = false
structure Ghosts (gn : List Str) (l : Nat) (scope : Scope) (l3 : List Str) : Prop where
  nd : (l3 ++ gn).Nodup
  len : gn.length = l
  no : ∀ x ∈ gn, scope.names.lookup x = none
section
variable {X : Cx} {k : Nat} {cn a hn n xn qual : Str} {st : Stmt} {f C0 fa c' : Addr} {fd : FuncData} {gn N2 : List Str} {params : Arguments} {body : Expr} {scope : Scope} {cl : List (Str × Addr)} {vs : List V} {ds : List D} {te : (DS → Addr → Prop) → DE}
structure LamIn (X : Cx) (scope : Scope) (cl : List (Str × Addr)) (N2 : List Str) (js : List Nat) : Prop where
  clo : closureFor scope X.env = pure cl
  sub : ∀ x c, cl.lookup x = some c → X.env.cells.lookup x = some c
  all : ∀ x, scope.names.lookup x = some .free → x ∈ N2
  len : N2.length = js.length
  nam : ∀ (j : Nat) x, N2[j]? = some x → ∃ i, js[j]? = some i ∧ X.N[i]? = some x ∧ X.env.kindOf x = some .cell ∧ scope.names.lookup x = some .free ∧ ∃ c, cl.lookup x = some c
theorem LamIn.cells {js : List Nat} (li : LamIn X scope cl N2 js) (SL : LamSc params scope) {pins : List (Addr × Obj)} {σ : St} {H : Hp} {s : Shared} (I : Inv X pins σ H s) (e : js.map (fun i => σ[i]?) = vs.map fun v => some (some v)) : Cells scope cl N2 vs H s.heap := by
  have hl : js.length = vs.length := by have := congrArg List.length e; simpa using this
  refine ⟨fun x y c h1 h2 => I.ok.inj x y c (li.sub x c h1) (li.sub y c h2), fun x h => ?_, fun x c h => I.cell x c (li.sub x c h), fun x c h => I.freeC x c (li.sub x c h), li.len.trans hl, fun j x v h1 h2 => ?_⟩
  · rcases h with h | h
    · exact absurd rfl (SL.noc _ (PySem.mem_of_lookup h))
    · obtain ⟨j, hj⟩ := List.getElem?_of_mem (li.all x h)
      obtain ⟨_, _, _, _, _, q⟩ := li.nam j x hj
      exact q
  · obtain ⟨i, e1, e2, e3, e4, c, e5⟩ := li.nam j x h1
    have ei : σ[i]? = some (some v) := by
      have := congrArg (fun l => l[j]?) e
      simp only [List.getElem?_map, e1, h2, Option.map_some] at this
      exact Option.some.inj this
    obtain ⟨m, hn, hl⟩ := I.loc
    obtain ⟨u, rv, lo⟩ := hl i x v e2 ei (.inr (.inl e3))
    refine ⟨u, c, rv, e4, e5, ?_⟩
    rcases lo with ⟨z, _⟩ | ⟨_, c2, e6, e7⟩
    · rw [e3] at z; cases z
    · have := li.sub x c e5
      rw [e6] at this; cases this
      exact e7
end
end DL
namespace L2
open PySem PySem.Spec PyProof.Rows
end L2
namespace DL
open PySem PySem.Spec L2
open PyProof.Rows hiding St
section
variable [TB]
end
end DL
namespace DL
open PySem PySem.Spec L2
open PyProof.Rows hiding St
variable [TB]
end DL
namespace DL
open PySem PySem.Spec L2
open PyProof.Rows hiding St
inductive Nams (X : Cx) (scope : Scope) (cl : List (Str × Addr)) : List Str → List Nat → Prop
  | nil : Nams X scope cl [] []
  | cons {x : Str} {i : Nat} {c : Addr} {xs : List Str} {is : List Nat} (hN : X.N[i]? = some x) (hk : X.env.kindOf x = some .cell) (hs : scope.names.lookup x = some .free) (hc : cl.lookup x = some c) (r : Nams X scope cl xs is) : Nams X scope cl (x :: xs) (i :: is)
theorem Nams.len {X : Cx} {scope : Scope} {cl : List (Str × Addr)} {N2 : List Str} {js : List Nat} (h : Nams X scope cl N2 js) : N2.length = js.length := by
  induction h with
  | nil => rfl
  | cons _ _ _ _ _ ih => simp [ih]
theorem Nams.at {X : Cx} {scope : Scope} {cl : List (Str × Addr)} {N2 : List Str} {js : List Nat} (h : Nams X scope cl N2 js) : ∀ (j : Nat) x, N2[j]? = some x → ∃ i, js[j]? = some i ∧ X.N[i]? = some x ∧ X.env.kindOf x = some .cell ∧ scope.names.lookup x = some .free ∧ ∃ c, cl.lookup x = some c := by
  induction h with
  | nil => intro j x h; simp at h
  | cons hN hk hs hc _ ih =>
    intro j y h
    cases j with
    | zero => simp at h; subst h; exact ⟨_, rfl, hN, hk, hs, _, hc⟩
    | succ j =>
      obtain ⟨i, e, r⟩ := ih j y (by simpa using h)
      exact ⟨i, by simpa using e, r⟩
section
variable [TB]
end
end DL
namespace DL
open PySem PySem.Spec L2
open PyProof.Rows hiding St
variable [TB]
section
variable {P : Program} {w : World} {K : PySem.W.Frag} {mg : Str → Option Value} {base : Heap} {N : List Str} {qual : Str} {scope : Scope} {f c' : Addr} {cl : List (Str × Addr)} {A : Around} {outer : List Env} {s : Shared} {H : Hp} {E : XK} {vs : List V}
end
section
variable {X : Cx} {k : Nat} {cn a hn n xn qual : Str} {st : Stmt} {f C0 fa c' : Addr} {fd : FuncData} {gn N2 : List Str} {params : Arguments} {body : Expr} {scope : Scope} {cl : List (Str × Addr)} {vs : List V} {ds : List D} {te : (DS → Addr → Prop) → DE}
end
end DL
namespace DL
open PySem PySem.Spec L2
open PyProof.Rows hiding St
variable [TB]
section
variable [Frm] {X : Cx}
end
end DL
namespace L2
open PySem PySem.Spec PyProof.Rows
section
variable {X : Cx}
end
end L2
namespace DL
open PySem PySem.Spec L2
open PyProof.Rows hiding St
variable [TB]
section
variable [Frm] {X : Cx}
end
end DL
namespace DL
open PySem PySem.Spec L2
open PyProof.Rows hiding St
variable [TB]
section
variable [Frm] {X : Cx}
end
end DL
namespace DL
open PySem PySem.Spec L2
open PyProof.Rows hiding St
variable [TB]
section
variable {K : PySem.W.Frag} {pp : Option Addr} {M M' : List Addr} {H H' : Hp}
end
section
variable {X : Cx}
end
section
variable [Frm] {X : Cx}
end
end DL
namespace DL
open PySem PySem.Spec L2
open PyProof.Rows hiding St
variable [TB]
def Gs (H : Hp) : List (List Int) → List Addr → Prop
  | [], ls => ls = []
  | g :: gs, ls => ∃ l r, ls = l :: r ∧ H l = some (.lst (g.map V.int)) ∧ Gs H gs r
section
variable {K : PySem.W.Frag} {pp : Option Addr} {M M' : List Addr} {H H' : Hp}
theorem Gs.keep : ∀ {gs : List (List Int)} {ls : List Addr}, Gs H gs ls → (∀ l ∈ ls, ∀ x, H l = some x → H' l = some x) → Gs H' gs ls
  | [], ls, h, _ => h
  | g :: gs, ls, h, k => by
    obtain ⟨l, r, rfl, hl, h⟩ := h
    exact ⟨l, r, rfl, k l List.mem_cons_self _ hl, h.keep fun b hb => k b (List.mem_cons_of_mem _ hb)⟩
theorem Gs.snoc : ∀ {gs : List (List Int)} {ls : List Addr} {g : List Int} {l : Addr}, Gs H gs ls → H l = some (.lst (g.map V.int)) → Gs H (gs ++ [g]) (ls ++ [l])
  | [], ls, g, l, h, hl => by
    have h : ls = [] := h
    subst h
    exact ⟨l, [], rfl, hl, rfl⟩
  | g' :: gs, ls, g, l, h, hl => by
    obtain ⟨l', r, rfl, hl', h⟩ := h
    exact ⟨l', r ++ [l], rfl, hl', h.snoc hl⟩
theorem Gs.last : ∀ {gs : List (List Int)} {ls : List Addr} {g : List Int}, Gs H (gs ++ [g]) ls → ∃ r l, ls = r ++ [l] ∧ Gs H gs r ∧ H l = some (.lst (g.map V.int))
  | [], ls, g, h => by
    obtain ⟨l, r, rfl, hl, h⟩ := h
    have h : r = [] := h
    subst h
    exact ⟨[], l, rfl, rfl, hl⟩
  | g' :: gs, ls, g, h => by
    obtain ⟨l', r, rfl, hl', h⟩ := h
    obtain ⟨r', l, rfl, h1, h2⟩ := Gs.last h
    exact ⟨l' :: r', l, rfl, ⟨l', r', rfl, hl', h1⟩, h2⟩
theorem Gs.length : ∀ {gs : List (List Int)} {ls : List Addr}, Gs H gs ls → ls.length = gs.length
  | [], ls, h => by have h : ls = [] := h; subst h; rfl
  | g :: gs, ls, h => by
    obtain ⟨l, r, rfl, _, h⟩ := h
    simp [h.length]
end
section
variable [Frm] {X : Cx}
omit [TB] [Frm] in
theorem atI_last {α : Type} (xs : List α) (x : α) : atI (xs ++ [x]) (-1) = some x := by
  unfold atI ixN
  rw [if_neg (by omega)]
  simp only [List.length_append, List.length_singleton]
  rw [if_pos (by omega)]
  have e : (((xs.length + 1 : Nat) : Int) + -1).toNat = xs.length := by omega
  have e2 : (-1 + ((xs.length + 1 : Nat) : Int)).toNat = xs.length := by omega
  first
    | (rw [e]; simp)
    | (rw [e2]; simp)
end
section
variable {X : Cx} {k : Nat}
end
end DL
namespace DL
open PySem PySem.Spec L2
open PyProof.Rows hiding St
variable [TB]
section
variable {K : PySem.W.Frag} {pp : Option Addr} {M M' : List Addr} {H H' H1 H5 : Hp}
theorem ros_v : ∀ {ds : List D} {xs : List V} {B : List Addr}, ROs K pp M H (ds.map O.val) xs B ↔ Reps K pp M H ds xs ∧ B = []
  | [], xs, B => by simp only [List.map_nil, ROs, Reps]
  | d :: ds, xs, B => by
    simp only [List.map_cons, ROs, RO, Reps]
    constructor
    · rintro ⟨x, r, B1, C, rfl, rfl, ⟨rfl, h1⟩, h⟩
      obtain ⟨h2, rfl⟩ := ros_v.mp h
      exact ⟨⟨x, r, rfl, h1, h2⟩, rfl⟩
    · rintro ⟨⟨x, r, rfl, h1, h2⟩, rfl⟩
      exact ⟨_, _, [], [], rfl, rfl, ⟨rfl, h1⟩, ros_v.mpr ⟨h2, rfl⟩⟩
theorem SameP.writeNew {l : Addr} {ys zs : List V} (s : SameP K pp H1 H5) (h1 : H1 l = none) (h5 : H5 l = some (.lst ys)) (np : pp ≠ some l) : SameP K pp H1 (upd H5 l (.lst zs)) := by
  have mw : Mv K pp [l] H5 [l] (upd H5 l (.lst zs)) := .write h5 (by simp) np
  refine ⟨⟨fun b o e n => ?_, fun p e hp => mw.pen p e (s.pen p e hp), fun b hb => ?_⟩, fun tb => mw.tb (s.tb tb)⟩
  · rw [upd_ne (by rintro rfl; rw [h1] at e; cases e)]
    exact s.keep b o e n
  · by_cases z : b = l
    · subst z; rw [upd_same]; intro z; cases z
    · rw [upd_ne z]; exact s.live b hb
theorem Mv.more {A : List Addr} (m : Mv K pp M H M H') (hA : ∀ a ∈ A, H a = none) : Mv K pp M H (A ++ M) H' :=
  ⟨m.tup, fun a o e n q => ⟨(m.oth a o e n q).1, fun z => (List.mem_append.mp z).elim (fun z => by rw [hA a z] at e; cases e) (fun z => n z)⟩, m.pen, m.tb⟩
theorem Gs.mem : ∀ {gs : List (List Int)} {ls : List Addr}, Gs H gs ls → ∀ l ∈ ls, ∃ g : List Int, H l = some (.lst (g.map V.int))
  | [], ls, h, l, hl => by have h : ls = [] := h; subst h; simp at hl
  | g :: gs, ls, h, l, hl => by
    obtain ⟨l', r, rfl, h1, h2⟩ := h
    rcases List.mem_cons.mp hl with rfl | hl
    · exact ⟨g, h1⟩
    · exact h2.mem l hl
end
section
variable [Frm] {X : Cx}
end
end DL
namespace DL
open PySem PySem.Spec L2
open PyProof.Rows hiding St
variable [TB]
variable [Frm]
section
variable {K : PySem.W.Frag} {F : Fx} {pp : Option Addr} {M : List Addr} {H H1 : Hp} {σ : St} {ρ : DS} {i : Nat}
omit [Frm] in
theorem ROs.snocO {q : O} {v : V} {C : List Addr} (h : RO K pp M H q v C) : ∀ {os : List O} {xs : List V} {A : List Addr}, ROs K pp M H os xs A → ROs K pp M H (os ++ [q]) (xs ++ [v]) (A ++ C)
  | [], xs, A, z => by
    simp only [ROs] at z
    obtain ⟨rfl, rfl⟩ := z
    simp only [List.nil_append, ROs]
    exact ⟨v, [], C, [], rfl, by simp, h, rfl, rfl⟩
  | o :: os, xs, A, z => by
    simp only [ROs] at z
    obtain ⟨x, r, B, D, rfl, rfl, h1, h2⟩ := z
    simp only [List.cons_append, ROs]
    exact ⟨x, r ++ [v], B, D ++ C, rfl, by simp, h1, ROs.snocO h h2⟩
omit [Frm] in
theorem ROs.len : ∀ {os : List O} {xs : List V} {B : List Addr}, ROs K pp M H os xs B → xs.length = os.length
  | [], xs, B, h => by simp only [ROs] at h; rw [h.1]; rfl
  | o :: os, xs, B, h => by
    simp only [ROs] at h
    obtain ⟨x, r, _, _, rfl, _, _, h⟩ := h
    rw [List.length_cons, List.length_cons, ROs.len h]
theorem RSt.appObj {os : List O} {q : O} {v : V} {A' : List Addr} (rs : RSt K F M H σ ρ) (g : ρ[i]? = some (.obj (.lst os))) (s : SameP K F.pp H H1) (nd : A'.Nodup) (hA' : ∀ b ∈ A', H b = none ∧ H1 b ≠ none) (ro : RO K F.pp (A' ++ M) H1 q v A') :
    ∃ a xs, σ[i]? = some (some (.ref a)) ∧ H1 a = some (.lst xs) ∧ xs.length = os.length ∧ Mv K F.pp M H (A' ++ M) (upd H1 a (.lst (xs ++ [v]))) ∧ RSt K F (A' ++ M) (upd H1 a (.lst (xs ++ [v]))) σ (ρ.set i (.obj (.lst (os ++ [q])))) := by
  obtain ⟨v0, A, ho, ndA, hq, hA, _⟩ := rs.objAt g
  have hq0 := hq
  simp only [RO] at hq
  obtain ⟨a, xs, B, rfl, ha, rfl, rx⟩ := hq
  obtain ⟨aM, a0, ap⟩ := hA a List.mem_cons_self
  have ha1 : H1 a = some (.lst xs) := s.keep a _ ha (nw ap)
  have mw : Mv K F.pp (A' ++ M) H1 (A' ++ M) (upd H1 a (.lst (xs ++ [v]))) := .write ha1 (List.mem_append_right _ aM) ap
  have m : Mv K F.pp M H (A' ++ M) (upd H1 a (.lst (xs ++ [v]))) := ((s.mv (M := M)).more fun b hb => (hA' b hb).1).trans mw
  have rs1 := rs.sameP s
  have fresh : ∀ b ∈ A', b ∉ M ∧ F.pp ≠ some b ∧ F.H0 b = none := fun b hb => by
    have f := rs.liv.fresh (hA' b hb).1
    refine ⟨f.1, f.2, ?_⟩
    cases e : F.H0 b with
    | none => rfl
    | some o => exact absurd (hA' b hb).1 (rs.same.live b (by rw [e]; intro z; cases z))
  refine ⟨a, xs, ho, ha1, ROs.len rx, m, rs.objStep g m (fun v1 A1 ho1 nd1 hq1 hA1 => ?_) (fun b hb => List.mem_append_right _ (rs.sub b hb)) ?_ ?_⟩
  · rw [ho] at ho1
    cases ho1
    have lv := RO.live _ _ _ hq1
    simp only [RO] at hq1
    obtain ⟨a', xs', B', e', ha', rfl, rx'⟩ := hq1
    cases e'
    rw [ha] at ha'
    cases ha'
    have ndB := List.nodup_cons.mp nd1
    have aA' : a ∉ A' := fun z => (fresh a z).1 aM
    refine ⟨a :: (B' ++ A'), ?_, ?_, fun b hb => ?_, fun b hb hp h0 hn => ⟨List.mem_append_right _ hb, fun x e nt => ?_⟩⟩
    · rw [List.nodup_cons]
      refine ⟨fun z => (List.mem_append.mp z).elim ndB.1 aA', ?_⟩
      rw [List.nodup_append]
      refine ⟨ndB.2, nd, fun x hx y hy e => ?_⟩
      subst e
      exact lv x (List.mem_cons_of_mem _ hx) (hA' x hy).1
    · simp only [RO]
      refine ⟨a, xs ++ [v], B' ++ A', rfl, upd_same, rfl, ROs.snocO (RO.mv mw q v A' (fun b hb o e nt => ?_) ro) (ROs.mv m os xs B' (fun b hb o e nt => ?_) rx')⟩
      · rw [upd_ne (by rintro rfl; exact aA' hb)]
        exact e
      · rw [upd_ne (by rintro rfl; exact ndB.1 hb)]
        exact s.keep b o e ⟨fun z => absurd z (hA1 b (List.mem_cons_of_mem _ hb)).2.2, nt⟩
    · rcases List.mem_cons.mp hb with rfl | hb
      · exact ⟨List.mem_append_right _ aM, a0, ap, .inl List.mem_cons_self⟩
      · rcases List.mem_append.mp hb with hb | hb
        · obtain ⟨b1, b2, b3⟩ := hA1 b (List.mem_cons_of_mem _ hb)
          exact ⟨List.mem_append_right _ b1, b2, b3, .inl (List.mem_cons_of_mem _ hb)⟩
        · exact ⟨List.mem_append_left _ hb, (fresh b hb).2.2, (fresh b hb).2.1, .inr (fresh b hb).1⟩
    · rw [upd_ne (by rintro rfl; exact hn List.mem_cons_self)]
      exact s.keep b x e ⟨fun z => absurd z hp, nt⟩
  · refine ⟨fun b o e n => ?_, fun p e h => mw.pen p e (rs1.same.pen p e h), fun b e => ?_⟩
    · rw [upd_ne (by rintro rfl; rw [a0] at e; cases e)]
      exact rs1.same.keep b o e n
    · by_cases z : b = a
      · subst z; rw [upd_same]; intro z; cases z
      · rw [upd_ne z]; exact rs1.same.live b e
  · refine ⟨fun b hb => ?_, fun p e => ?_⟩
    · by_cases z : b = a
      · subst z; rw [upd_same]; intro z; cases z
      · rw [upd_ne z]
        rcases List.mem_append.mp hb with hb | hb
        · exact (hA' b hb).2
        · exact rs1.liv.m b hb
    · by_cases z : p = a
      · subst z; rw [upd_same]; intro z; cases z
      · rw [upd_ne z]; exact rs1.liv.p p e
end
section
variable {X : Cx}
abbrev dNewR (i : Nat) : DTS := fun E ρ => E.nx (ρ.set i (.obj (.lst [])))
theorem ds_newR {i : Nat} {x : Str} {lp pos pos' : Pos} (hN : X.N.Nodup) (hi : X.N[i]? = some x) (hx : Loc X.env.scope x)
    (hs : swapsWith (.List [] lp) (some (.Name x pos')) pos.line X.env = pure false := by rfl) (hf : X.fn x = true ∨ X.env.scope.names.lookup x = some .local := by first | exact .inl rfl | exact .inr rfl | assumption) :
    PSD X (.Assign [.Name x pos'] (.List [] lp) pos) (dNewR i) := by
  refine ⟨_, ps_set hN hi hx (pe_lst pa_nil) hs hf, fun {F} M H σ ρ E D rs o h => ?_⟩
  refine ⟨Nat.zero_le _, fun l hl => ?_⟩
  obtain ⟨m2, rs2⟩ := rs.newObj (q := .lst []) (A := [l]) (v := .ref l) (.new hl) (by simp) (fun a ha => by
    simp only [List.mem_cons, List.not_mem_nil, or_false] at ha
    rw [ha]
    exact ⟨hl, (rs.liv.fresh hl).2⟩) (by simp only [RO, ROs]; exact ⟨l, [], [], rfl, upd_same, rfl, rfl, rfl⟩) i
  exact o.nx _ _ _ _ m2 rs2 h
def rwO (r : D × D × List D) : O := .tup [.val r.1, .val r.2.1, .lst (r.2.2.map .val)]
abbrev dAppR (i n : Nat) (g : DSpN) (t1 t2 : DE) (ta : DA) : DTS := fun E ρ => ∃ os, slot ρ i = .obj (.lst os) ∧ os.length < sizeLine ∧ t1 ρ fun d1 ρ1 => t2 ρ1 fun d2 ρ2 => ta ρ2 fun ds ρ3 => ds.length = n ∧
  g ds (fun _ => False) (fun es => slot ρ3 i = .obj (.lst os) ∧ E.nx (ρ3.set i (.obj (.lst (os ++ [rwO (d1, d2, es)])))))
theorem ds_appR {i n k : Nat} {f : Addr} {fd : FuncData} {ps : List Str} {g : DSpN} {x : Str} {o e1 e2 e : Expr} {es : List Expr} {x1} {p fpos tpos apos cpos pos : Pos} {t1 t2 : DE} {ta : DA}
    (Fn : FnOk X.prog X.w X.K X.mg X.base CX0 k f fd ps (spDN X.K n g)) (gm : MonoN g) (hr : Room k X.A) (hg : Gl X x) (hm : X.mg x = some (.ref f)) (hk : PySem.W.keepIn X.K (.ref f) = true) (hb : Binds X.K fd ps [])
    (ho : PE X o (tVar i)) (h1 : PED X e1 t1) (h2 : PED X e2 t2) (ha : PAD X (e :: es) ta)
    (hdb : (x == ("__debug__" : Str)) = false := by decide) (he : starEach (e :: es) X.env = (false, eval e X.env) :: starEach es X.env := by rfl) (hplf : (backTo fpos (starEach es X.env)).any (·.1) = false := by rfl)
    (hs1 : starEach [e1, e2, .Call (.Name x p) (e :: es) [] fpos] X.env = (false, eval e1 X.env) :: starEach [e2, .Call (.Name x p) (e :: es) [] fpos] X.env := by rfl)
    (hs2 : starEach [e2, .Call (.Name x p) (e :: es) [] fpos] X.env = (false, eval e2 X.env) :: starEach [.Call (.Name x p) (e :: es) [] fpos] X.env := by rfl)
    (hs3 : starEach [.Call (.Name x p) (e :: es) [] fpos] X.env = (false, eval (.Call (.Name x p) (e :: es) [] fpos) X.env) :: starEach [] X.env := by rfl)
    (hbase : attributeBase o "append" X.env (eval o X.env) = eval o X.env := by rfl)
    (hfew : ((backTo cpos (starEach [.Tuple [e1, e2, .Call (.Name x p) (e :: es) [] fpos] x1 tpos] X.env)).all (fun x => !x.1) && (backToKw cpos (keywordEach [] X.env)).all (fun x => x.1.isSome)
      && decide ([(.Tuple [e1, e2, .Call (.Name x p) (e :: es) [] fpos] x1 tpos : Expr)].length + ([] : List Keyword).length + (if ([] : List Keyword).isEmpty then 0 else 1) < 30)) = true := by rfl)
    (hline : (apos.endLine == cpos.line) = true := by rfl) (hst : starEach [.Tuple [e1, e2, .Call (.Name x p) (e :: es) [] fpos] x1 tpos] X.env = (false, eval (.Tuple [e1, e2, .Call (.Name x p) (e :: es) [] fpos] x1 tpos) X.env) :: starEach [] X.env := by rfl) (hpl : (backTo cpos (starEach [] X.env)).any (·.1) = false := by rfl)
    (hs : swapsWith (.Call (.Attribute o "append" apos) [.Tuple [e1, e2, .Call (.Name x p) (e :: es) [] fpos] x1 tpos] [] cpos) none pos.line X.env = pure false := by rfl) :
    PSD X (.Expr (.Call (.Attribute o "append" apos) [.Tuple [e1, e2, .Call (.Name x p) (e :: es) [] fpos] x1 tpos] [] cpos) pos) (dAppR i n g t1 t2 ta) := by
  obtain ⟨T1, p1, r1⟩ := h1.run
  obtain ⟨T2, p2, r2⟩ := h2.run
  obtain ⟨Ta, pa, ra⟩ := ha.run
  have hm := pe_bm PySem.F.plainAttrs_list PySem.F.slot_list_append PySem.F.type_list_append mt_append ho (pa_cons (pe_tup (pa_cons p1 (pa_cons p2 (pa_cons (pe_call Fn hr hg hm hk hb .nil pass0 pa hdb he hplf) pa_nil hs3) hs2) hs1) (x1 := x1) (pos := tpos)) pa_nil hst) hbase hfew hline hst hpl
  refine ⟨_, ps_expr hm hs, fun {F} M H σ ρ E D rs oo h => ?_⟩
  obtain ⟨os, q0, hlen, h⟩ := h
  have g0 := slot_get q0 (by intro z; cases z)
  obtain ⟨v, A, ho1, nd, hq, hA, hoth⟩ := rs.objAt g0
  simp only [RO] at hq
  obtain ⟨a, xs, B, rfl, hax, rfl, rx⟩ := hq
  refine ⟨.ref a, ho1, .inl ⟨rfl, _, SqL.of hax⟩, ?_⟩
  refine r1 M H σ ρ _ rs (h1.mono _ _ _ (fun d1 ρ1 h M1 H1 v1 m1 rs1 rd1 => ?_) h)
  refine r2 M1 H1 σ ρ1 _ rs1 (h2.mono _ _ _ (fun d2 ρ2 h M2 H2 v2 m2 rs2 rd2 => ?_) h)
  refine ra M2 H2 σ ρ2 _ rs2 (ha.mono _ _ _ (fun ds ρ3 h M3 H3 vs m3 rs3 rds => ?_) h)
  rw [List.append_nil]
  refine ⟨F.pp, M3, ds, rs3.liv, rds, h.1, gm _ _ _ _ _ (fun d z => z.elim) (fun es z M' H' l ys s sub hl hp hM hH rr => ?_) h.2⟩
  obtain ⟨q3, h⟩ := z
  refine ⟨show 3 ≤ sizeLine by decide, fun t ht => ?_⟩
  have s3 : SameP X.K F.pp H3 (upd H' t (.tup [v1, v2, .ref l])) := s.trans (.new ht)
  have hl2 : (upd H' t (.tup [v1, v2, .ref l])) l = some (.lst ys) := upd_old ht hH
  have mA : Mv X.K F.pp M3 H3 ([l] ++ M3) (upd H' t (.tup [v1, v2, .ref l])) := (s3.mv (M := M3)).more fun b hb => by rw [List.mem_singleton.mp hb]; exact hl
  have mB : Mv X.K F.pp M' H' ([l] ++ M3) (upd H' t (.tup [v1, v2, .ref l])) := (Mv.less fun b hb => (List.mem_append.mp hb).elim (fun z => by rw [List.mem_singleton.mp z]; exact hM) (sub b)).trans (.new ht)
  obtain ⟨a', xs', ho', ha', len, mm, rsF⟩ := rs3.appObj (q := rwO (d1, d2, es)) (v := .ref t) (A' := [l]) (slot_get q3 (by intro z; cases z)) s3 (by simp) (fun b hb => by
    rw [List.mem_singleton.mp hb]
    exact ⟨hl, by rw [hl2]; intro z; cases z⟩) (by
    unfold rwO
    simp only [RO, ROs]
    exact ⟨t, [v1, v2, .ref l], rfl, upd_same, v1, [v2, .ref l], [], [l], rfl, rfl, ⟨rfl, rd1.mv (m2.trans (m3.trans mA))⟩, v2, [.ref l], [], [l], rfl, rfl, ⟨rfl, rd2.mv (m3.trans mA)⟩, .ref l, [], [l], [], rfl, rfl, ⟨l, ys, [], rfl, hl2, rfl, ROs.vals (rr.mv mB)⟩, rfl, rfl⟩)
  rw [ho1] at ho'
  cases ho'
  exact ⟨a, xs', .ref t, rfl, rfl, ha', by rw [len]; exact hlen, oo.nx _ _ _ _ (m1.trans (m2.trans (m3.trans mm))) rsF h⟩
theorem psb_retB {k n : Nat} {f : Addr} {fd : FuncData} {ps : List Str} {g : DSpB} {x : Str} {p cpos pos : Pos} {e : Expr} {es : List Expr} {t : DA} (Fn : FnOk X.prog X.w X.K X.mg X.base CX0 k f fd ps (spDB X.K n g)) (gm : MonoB g) (hr : Room k X.A) (hg : Gl X x) (hm : X.mg x = some (.ref f)) (hk : PySem.W.keepIn X.K (.ref f) = true) (hb : Binds X.K fd ps [])
    (ha : PAD X (e :: es) t) (hdb : (x == ("__debug__" : Str)) = false := by decide) (he : starEach (e :: es) X.env = (false, eval e X.env) :: starEach es X.env := by rfl) (hpl : (backTo cpos (starEach es X.env)).any (·.1) = false := by rfl) :
    PSsB X [.Return (some (.Call (.Name x p) (e :: es) [] cpos)) pos] (fun Q L ρ => t ρ fun ds _ => ds.length = n ∧ g ds Q L) := by
  obtain ⟨T, pa, ra⟩ := ha.run
  refine ⟨_, pss_one (ps_ret (pe_call Fn hr hg hm hk hb .nil pass0 pa hdb he hpl)), fun {F} M H σ ρ Q L D rs en q => ra M H σ ρ _ rs (ha.mono _ _ _ (fun ds ρ1 q M1 H1 vs m1 rs1 r1 => ?_) q)⟩
  rw [List.append_nil]
  refine ⟨F.pp, M1, ds, rs1.liv, r1, q.1, gm _ _ _ _ _ (fun d q H' w s r => en.rt M1 H' σ ρ1 d w (m1.trans s.mv) (rs1.sameP s) r q) (fun b q M' H' v A s sub nd hA rr => en.nw M' H' b v A (rs1.sameT.trans s) (fun a ha => sub a (rs1.sub a ha)) nd (fun a ha => ⟨(hA a ha).1, ?_, (hA a ha).2.2⟩) rr q) q.2⟩
  cases e : F.H0 a with
  | none => rfl
  | some o => exact absurd (hA a ha).2.1 (rs1.same.live a (by rw [e]; intro z; cases z))
abbrev dClrR (i : Nat) : DTS := fun E ρ => ∃ os, slot ρ i = .obj (.lst os) ∧ E.nx (ρ.set i (.obj (.lst [])))
theorem ds_clrR {i : Nat} {o : Expr} {apos cpos pos : Pos} (ho : PE X o (tVar i)) (hbase : attributeBase o "clear" X.env (eval o X.env) = eval o X.env := by rfl) (hline : (apos.endLine == cpos.line) = true := by rfl)
    (hs : swapsWith (.Call (.Attribute o "clear" apos) [] [] cpos) none pos.line X.env = pure false := by rfl) : PSD X (.Expr (.Call (.Attribute o "clear" apos) [] [] cpos) pos) (dClrR i) := by
  have hm : PE X (.Call (.Attribute o "clear" apos) [] [] cpos) (tBM0 X.K "list" rClear (tVar i)) := pe_bm0 PySem.F.plainAttrs_list PySem.F.slot_list_clear PySem.F.type_list_clear mt_clear ho hbase hline
  refine ⟨_, ps_expr hm hs, fun {F} M H σ ρ E D rs oo h => ?_⟩
  obtain ⟨os, q0, h⟩ := h
  have g0 := slot_get q0 (by intro z; cases z)
  obtain ⟨v, A, ho1, nd, hq, hA, _⟩ := rs.objAt g0
  simp only [RO] at hq
  obtain ⟨a, xs, B, rfl, ha, rfl, rx⟩ := hq
  obtain ⟨m2, rs2⟩ := rs.writeO (q' := .lst []) (ys := []) g0 ha fun v A1 hv nd1 hq1 hA1 => by
    rw [ho1] at hv
    cases hv
    simp only [RO] at hq1
    obtain ⟨a', xs', B', e, ha', rfl, rx'⟩ := hq1
    cases e
    refine ⟨List.mem_cons_self, [a], by simp, fun b hb => by rw [List.mem_singleton.mp hb]; exact List.mem_cons_self, fun m => ?_⟩
    simp only [RO, ROs]
    exact ⟨a, [], [], rfl, upd_same, rfl, rfl, rfl⟩
  exact ⟨.ref a, ho1, .inl ⟨rfl, xs, SqL.of ha⟩, a, xs, rfl, rfl, ha, oo.nx M _ _ _ m2 rs2 h⟩
end
section
variable {K : PySem.W.Frag} {F : Fx} {M : List Addr} {H : Hp} {σ : St} {ρ : DS} {i n : Nat}
theorem RSt.appRow {os : List O} {d1 d2 d : D} {es : List D} {v : V} (rs : RSt K F M H σ ρ) (g : ρ[i]? = some (.obj (.lst os))) (en : os[n]? = some (rwO (d1, d2, es))) (rd : Rep K F.pp M H d v) :
    ∃ a xs t v1 v2 l ys, σ[i]? = some (some (.ref a)) ∧ H a = some (.lst xs) ∧ xs[n]? = some (.ref t) ∧ H t = some (.tup [v1, v2, .ref l]) ∧ H l = some (.lst ys) ∧ ys.length = es.length ∧ a ≠ l ∧ Mv K F.pp M H M (upd H l (.lst (ys ++ [v]))) ∧ RSt K F M (upd H l (.lst (ys ++ [v]))) σ (ρ.set i (.obj (.lst (os.set n (rwO (d1, d2, es ++ [d])))))) := by
  obtain ⟨v0, A, ho, nd, hq, hA, _⟩ := rs.objAt g
  simp only [RO] at hq
  obtain ⟨a, xs, B, rfl, ha, rfl, rx⟩ := hq
  have ndB := List.nodup_cons.mp nd
  obtain ⟨x0, B0, e0, r0, n0, s0, f0⟩ := ROs.put n rx ndB.2 en
  unfold rwO at r0
  simp only [RO, ROs] at r0
  obtain ⟨t, _, rfl, ht, v1, _, _, _, rfl, rfl, ⟨rfl, _⟩, v2, _, _, _, rfl, rfl, ⟨rfl, _⟩, _, _, _, _, rfl, rfl, ⟨l, ys, C, rfl, hl, rfl, ry⟩, rfl, rfl⟩ := r0
  have lB : l ∈ B := s0 l (by simp)
  have al : a ≠ l := by rintro rfl; exact ndB.1 lB
  obtain ⟨ry0, rfl⟩ := ros_v.mp ry
  obtain ⟨m2, rs2⟩ := rs.writeO (q' := .lst (os.set n (rwO (d1, d2, es ++ [d])))) (ys := ys ++ [v]) g hl fun v' A1 hv nd1 hq1 hA1 => by
    rw [ho] at hv
    cases hv
    simp only [RO] at hq1
    obtain ⟨a', xs', B', e', ha', rfl, rx'⟩ := hq1
    cases e'
    rw [ha] at ha'
    cases ha'
    have ndB := List.nodup_cons.mp nd1
    obtain ⟨x1, B1, e1, r1, n1, s1, f1⟩ := ROs.put n rx' ndB.2 en
    rw [e0] at e1
    cases e1
    unfold rwO at r1
    simp only [RO, ROs] at r1
    obtain ⟨t', _, e', ht', w1, _, _, _, rfl, rfl, ⟨rfl, q1⟩, w2, _, _, _, rfl, rfl, ⟨rfl, q2⟩, _, _, _, _, rfl, rfl, ⟨l', ys', C', rfl, hl', rfl, ry'⟩, rfl, rfl⟩ := r1
    cases e'
    rw [ht] at ht'
    injection ht' with ht'
    injection ht' with ht'
    injection ht' with z1 ht'
    injection ht' with z2 ht'
    injection ht' with z3 _
    cases z1
    cases z2
    cases z3
    rw [hl] at hl'
    cases hl'
    obtain ⟨ry1, rfl⟩ := ros_v.mp ry'
    have lB' : l ∈ B' := s1 l (by simp)
    have hl3 := hA1 l (List.mem_cons_of_mem _ lB')
    refine ⟨List.mem_cons_of_mem _ lB', ?_⟩
    have m : Mv K F.pp M H M (upd H l (.lst (ys ++ [v]))) := .write hl hl3.1 hl3.2.2
    obtain ⟨A2, n2, s2, r2⟩ := f1 (rwO (d1, d2, es ++ [d])) (.ref t) [l] m (fun b hb hn z e => by rw [upd_ne (by rintro rfl; exact hn (by simp))]; exact e) (by
      unfold rwO
      simp only [RO, ROs]
      exact ⟨t, [v1, v2, .ref l], rfl, m.tup t _ ht, v1, [v2, .ref l], [], [l], rfl, rfl, ⟨rfl, q1.mv m⟩, v2, [.ref l], [], [l], rfl, rfl, ⟨rfl, q2.mv m⟩, .ref l, [], [l], [], rfl, rfl, ⟨l, ys ++ [v], [], rfl, upd_same, rfl, ROs.vals ((ry1.append (.one rd)).mv m)⟩, rfl, rfl⟩) (by simp) (fun b hb => .inl (by rw [List.mem_singleton.mp hb]; simp))
    have s2' : ∀ b ∈ A2, b ∈ B' := fun b hb => (s2 b hb).elim id fun z => by rw [List.mem_singleton.mp z]; exact lB'
    have xe : xs.set n (.ref t) = xs := by
      have hn : n < xs.length := (List.getElem?_eq_some_iff.mp e0).1
      have := (List.getElem?_eq_some_iff.mp e0).2
      rw [← this]; exact List.set_getElem_self hn
    rw [xe] at r2
    refine ⟨a :: A2, List.nodup_cons.mpr ⟨fun z => ndB.1 (s2' a z), n2⟩, fun b hb => ?_, fun _ => ?_⟩
    · rcases List.mem_cons.mp hb with rfl | hb
      · exact List.mem_cons_self
      · exact List.mem_cons_of_mem _ (s2' b hb)
    · simp only [RO]
      exact ⟨a, xs, A2, rfl, by rw [upd_ne al]; exact ha, rfl, r2⟩
  exact ⟨a, xs, t, v1, v2, l, ys, ho, ha, e0, ht, hl, by rw [← ry0.length], al, m2, rs2⟩
end
section
variable {X : Cx}
abbrev tForR (K : PySem.W.Frag) (j : Nat) (c : Int) : TS := tDrop (tBM K "list" rAppend (tOp rIxTH (tVar j) (tC (.int 2))) (tCons (tC (.int c)) tNil))
abbrev dForR (i j : Nat) : DTS := fun E ρ => ∃ rs : List (D × D × List D), slot ρ i = .obj (.lst (rs.map rwO)) ∧ (i ≠ j ∧ j < ρ.length) ∧ (∀ r ∈ rs, r.2.2.length < sizeLine) ∧ ∀ os, E.nx ((ρ.set i (.obj (.lst os))).set j .nil)
theorem ds_forR {i j : Nat} {c : Int} {tg iter : Expr} {body : List Stmt} {pos : Pos} (hp : PassesOwn (model X.prog X.w) X.A X.env X.xe) (hc : X.calm = true) (hit : PE X iter (tVar i)) (hg : PG X tg (gName j)) (hb : PSs X body (tForR X.K j c))
    (hs : ∀ x, foldedSetIterable iter X.env x = pure x := by intro _; rfl) : PSD X (.For tg iter body [] pos) (dForR i j) := by
  refine ⟨_, ps_for hp hc (pi_list hit) hg hb hs, fun {F} M H σ ρ E D rs o h => ?_⟩
  obtain ⟨rw0, si, ⟨ij, jl⟩, ok, h⟩ := h
  have gi := slot_get si (by intro z; cases z)
  have il : i < ρ.length := (List.getElem?_eq_some_iff.mp gi).1
  obtain ⟨v0, A, ho, nd, hq, hA, _⟩ := rs.objAt gi
  simp only [RO] at hq
  obtain ⟨a, xs, B, rfl, ha, rfl, rx⟩ := hq
  have hlen := ROs.len rx
  rw [List.length_map] at hlen
  refine ⟨.ref a, ho, a, rfl, ⟨xs, SqL.of ha⟩, ?_⟩
  refine ⟨fun k m σ2 H2 => ∃ M2 os2, m = rw0.length - k ∧ k ≤ rw0.length ∧ (∀ q, k ≤ q → os2[q]? = (rw0.map rwO)[q]?) ∧ Mv X.K F.pp M H M2 H2 ∧ RSt X.K F M2 H2 σ2 ((ρ.set i (.obj (.lst os2))).set j .nil) ∧ σ2[i]? = some (some (.ref a)) ∧ H2 a = some (.lst xs),
    ⟨rw0.length, M, rw0.map rwO, rfl, Nat.zero_le _, fun _ _ => rfl, .refl, ?_, ho, ha⟩, ?_⟩
  · have e : ρ.set i (.obj (.lst (rw0.map rwO))) = ρ := by
      have := (List.getElem?_eq_some_iff.mp gi).2
      rw [← this]; exact List.set_getElem_self il
    rw [e]
    exact rs.nilAt j
  rintro k m σ2 H2 ⟨M2, os2, rfl, hk, oe, m2, rs2, hi2, ha2⟩
  by_cases hlt : k < rw0.length
  · refine .inr ⟨⟨xs, xs[k]'(by omega), SqL.of ha2, by simp⟩, fun σ' H' => ∃ M' os', (∀ q, k + 1 ≤ q → os'[q]? = (rw0.map rwO)[q]?) ∧ Mv X.K F.pp M H M' H' ∧ RSt X.K F M' H' σ' ((ρ.set i (.obj (.lst os'))).set j .nil) ∧ σ'[i]? = some (some (.ref a)) ∧ H' a = some (.lst xs), fun σ' H' ⟨M', os', c2, c3, c4, c5, c6⟩ => ⟨rw0.length - (k + 1), by omega, M', os', rfl, hlt, c2, c3, c4, c5, c6⟩, fun x H3 y => ?_⟩
    obtain ⟨rfl, hy⟩ := y
    have ex := hy xs (SqL.of ha2)
    have rs3 := rs2.setNil (o := some x) j
    rw [List.set_set] at rs3
    have sl : σ2.length = ρ.length := by have := rs2.len; simpa using this
    have hj : (σ2.set j (some x))[j]? = some (some x) := by rw [List.getElem?_set_self (by omega)]
    have hi3 : (σ2.set j (some x))[i]? = some (some (.ref a)) := by rw [List.getElem?_set_ne (Ne.symm ij)]; exact hi2
    have gi3 : ((ρ.set i (.obj (.lst os2))).set j .nil)[i]? = some (.obj (.lst os2)) := by rw [List.getElem?_set_ne (Ne.symm ij), List.getElem?_set_self il]
    have ek : os2[k]? = some (rwO (rw0[k].1, rw0[k].2.1, rw0[k].2.2)) := by rw [oe k (Nat.le_refl _), List.getElem?_map, List.getElem?_eq_getElem hlt]; rfl
    obtain ⟨a3, xs3, t, v1, v2, l, ys, g1, g2, g3, g4, g5, g6, g7, m4, rs5⟩ := rs3.appRow gi3 ek (d := .int c) (v := .int c) (by simp only [Rep])
    rw [hi3] at g1
    cases g1
    rw [ha2] at g2
    cases g2
    rw [ex] at g3
    cases g3
    refine ⟨.ref t, hj, ⟨t, [v1, v2, .ref l], 2, .ref l, rfl, rfl, g4, rfl, .inl ⟨rfl, ys, SqL.of g5⟩, l, ys, .int c, rfl, rfl, g5, by rw [g6]; exact ok _ (List.getElem_mem hlt), M2, os2.set k (rwO (rw0[k].1, rw0[k].2.1, rw0[k].2.2 ++ [.int c])), fun q hq => ?_, m2.trans m4, ?_, hi3, by rw [upd_ne g7]; exact ha2⟩⟩
    · rw [List.getElem?_set_ne (by omega)]
      exact oe q (by omega)
    · rw [List.set_comm _ _ (Ne.symm ij), List.set_set] at rs5
      exact rs5
  · exact .inl ⟨⟨xs, SqL.of ha2, by omega⟩, o.nx M2 H2 σ2 _ m2 rs2 (h os2)⟩
end
section
variable {K : PySem.W.Frag} {pp : Option Addr} {M M' : List Addr} {H H' H'' : Hp}
def Rws (K : PySem.W.Frag) (pp : Option Addr) (M : List Addr) (H H' : Hp) : List (D × D × List D) → List Addr → List Addr → Prop
  | [], ts, ls => ts = [] ∧ ls = []
  | r :: rs, ts, ls => ∃ t tr l lr v1 v2 zs, ts = t :: tr ∧ ls = l :: lr ∧ H' t = some (.tup [v1, v2, .ref l]) ∧ H' l = some (.lst zs) ∧ Rep K pp M H r.1 v1 ∧ Rep K pp M H r.2.1 v2 ∧ Reps K pp M H r.2.2 zs ∧ Rws K pp M H H' rs tr lr
omit [Frm] in
theorem Rws.keep : ∀ {rs : List (D × D × List D)} {ts ls : List Addr}, Rws K pp M H H' rs ts ls → (∀ b x, H' b = some x → b ∈ ts ∨ b ∈ ls → H'' b = some x) → Rws K pp M H H'' rs ts ls
  | [], ts, ls, h, _ => h
  | r :: rs, ts, ls, h, k => by
    obtain ⟨t, tr, l, lr, v1, v2, zs, rfl, rfl, h1, h2, h3, h4, h5, h6⟩ := h
    exact ⟨t, tr, l, lr, v1, v2, zs, rfl, rfl, k t _ h1 (.inl List.mem_cons_self), k l _ h2 (.inr List.mem_cons_self), h3, h4, h5, h6.keep fun b x e z => k b x e (z.imp (List.mem_cons_of_mem _) (List.mem_cons_of_mem _))⟩
omit [Frm] in
theorem Rws.keepT : ∀ {rs : List (D × D × List D)} {ts ls : List Addr}, Rws K pp M H H' rs ts ls → (∀ b y, H' b = some (.tup y) → b ∈ ts → H'' b = some (.tup y)) → (∀ b, b ∈ ls → ∀ x, H' b = some x → H'' b = some x) → Rws K pp M H H'' rs ts ls
  | [], ts, ls, h, _, _ => h
  | r :: rs, ts, ls, h, k, k' => by
    obtain ⟨t, tr, l, lr, v1, v2, zs, rfl, rfl, h1, h2, h3, h4, h5, h6⟩ := h
    exact ⟨t, tr, l, lr, v1, v2, zs, rfl, rfl, k t _ h1 List.mem_cons_self, k' l List.mem_cons_self _ h2, h3, h4, h5, h6.keepT (fun b y e z => k b y e (List.mem_cons_of_mem _ z)) (fun b z => k' b (List.mem_cons_of_mem _ z))⟩
omit [Frm] in
theorem Rws.snoc {r : D × D × List D} {t l : Addr} {v1 v2 : V} {zs : List V} (h1 : H' t = some (.tup [v1, v2, .ref l])) (h2 : H' l = some (.lst zs)) (h3 : Rep K pp M H r.1 v1) (h4 : Rep K pp M H r.2.1 v2) (h5 : Reps K pp M H r.2.2 zs) : ∀ {rs : List (D × D × List D)} {ts ls : List Addr}, Rws K pp M H H' rs ts ls → Rws K pp M H H' (rs ++ [r]) (ts ++ [t]) (ls ++ [l])
  | [], ts, ls, h => by
    obtain ⟨rfl, rfl⟩ := h
    exact ⟨t, [], l, [], v1, v2, zs, rfl, rfl, h1, h2, h3, h4, h5, rfl, rfl⟩
  | q :: rs, ts, ls, h => by
    obtain ⟨t', tr, l', lr, w1, w2, ws, rfl, rfl, k1, k2, k3, k4, k5, k6⟩ := h
    exact ⟨t', tr ++ [t], l', lr ++ [l], w1, w2, ws, rfl, rfl, k1, k2, k3, k4, k5, Rws.snoc h1 h2 h3 h4 h5 k6⟩
omit [Frm] in
theorem Rws.live : ∀ {rs : List (D × D × List D)} {ts ls : List Addr}, Rws K pp M H H' rs ts ls → (∀ b, b ∈ ts ∨ b ∈ ls → H' b ≠ none) ∧ ts.length = rs.length
  | [], ts, ls, h => by
    obtain ⟨rfl, rfl⟩ := h
    exact ⟨fun b hb => by simp at hb, rfl⟩
  | r :: rs, ts, ls, h => by
    obtain ⟨t, tr, l, lr, v1, v2, zs, rfl, rfl, h1, h2, h3, h4, h5, h6⟩ := h
    obtain ⟨k1, k2⟩ := h6.live
    refine ⟨fun b hb => ?_, by simp [k2]⟩
    rcases hb with hb | hb
    · rcases List.mem_cons.mp hb with rfl | hb
      · rw [h1]; intro z; cases z
      · exact k1 b (.inl hb)
    · rcases List.mem_cons.mp hb with rfl | hb
      · rw [h2]; intro z; cases z
      · exact k1 b (.inr hb)
omit [Frm] in
theorem Rws.ros (m : Mv K pp M H M' H') : ∀ {rs : List (D × D × List D)} {ts ls : List Addr}, Rws K pp M H H' rs ts ls → ROs K pp M' H' (rs.map rwO) (ts.map V.ref) ls
  | [], ts, ls, h => by
    obtain ⟨rfl, rfl⟩ := h
    simp only [List.map_nil, ROs]
    exact ⟨trivial, trivial⟩
  | r :: rs, ts, ls, h => by
    obtain ⟨t, tr, l, lr, v1, v2, zs, rfl, rfl, h1, h2, h3, h4, h5, h6⟩ := h
    rw [List.map_cons, List.map_cons, ROs]
    refine ⟨.ref t, _, [l], lr, rfl, rfl, ?_, h6.ros m⟩
    unfold rwO
    simp only [RO, ROs]
    exact ⟨t, _, rfl, h1, v1, [v2, .ref l], [], [l], rfl, rfl, ⟨rfl, h3.mv m⟩, v2, [.ref l], [], [l], rfl, rfl, ⟨rfl, h4.mv m⟩, .ref l, [], [l], [], rfl, rfl, ⟨l, zs, [], rfl, h2, rfl, ROs.vals (h5.mv m)⟩, rfl, rfl⟩
end
section
variable {X : Cx}
abbrev tLs (K : PySem.W.Frag) : TE := tTup (tCons (tVar 0) (tCons (tVar 1) (tCons (tCB (fun xs H Q => ∃ p ys, xs = [.ref p] ∧ (SqL K H p ys ∨ SqT K H p ys) ∧ ∀ l, H l = none → Q (.ref l) (upd H l (.lst ys))) (tCons (tVar 2) tNil)) tNil)))
abbrev dKeepR (i jy : Nat) : DTS := fun E ρ => ∃ rs : List (D × D × List D), slot ρ jy = .obj (.lst (rs.map rwO)) ∧ rs.length ≤ sizeLine ∧ E.nx (ρ.set i (.obj (.lst (rs.map rwO))))
theorem ds_keepR {i jy : Nat} {y : Str} {tg elt iter : Expr} {scope : Scope} {cl : List (Str × Addr)} {N' : List Str} {pos py spos : Pos} (hN : X.N.Nodup) (hy : X.N[i]? = some y) (hl : X.env.scope.names.lookup y = some .local) (hit : PE X iter (tVar jy))
    (hc : X.calm = true) (hclo : closeL X.env.cells scope.names [] = some cl) (hdis : ∀ y ∈ scope.names, y.2 = .free → (y.1, NameKind.cell) ∉ scope.names) (hkind : scope.kind = .function) (cap : Cap X scope N' [none, none, none])
    (hnames : ∀ y ∈ scope.names, y.2 = .local → scope.names.lookup y.1 = some .local)
    (htg : ∀ B : Blk, PG (cxB X scope cl N' B) tg (gTupH 3 (gCons (gName 0) (gCons (gName 1) (gCons (gName 2) gNil))))) (he : ∀ B : Blk, PE (cxB X scope cl N' B) elt (tLs X.K))
    (hsw : swapsWith (.ListComp elt [⟨tg, iter, [], 0⟩] scope pos) (some (.Name y py)) spos.line X.env = pure true := by rfl) (hs : ∀ v, foldedSetIterable iter X.env v = pure v := by intro _; rfl) :
    PSD X (.Assign [.Name y py] (.ListComp elt [⟨tg, iter, [], 0⟩] scope pos) spos) (dKeepR i jy) := by
  refine ⟨_, ps_comp hN hy hl hc hclo hdis hkind cap hnames (pi_list hit) (fun B => ⟨htg B, pts_nil, he B⟩) hsw hs, fun {F} M H σ ρ E D rs o h => ?_⟩
  obtain ⟨rw0, s1, hlen, h⟩ := h
  obtain ⟨v0, A0, ho, nd0, hq, hA0, _⟩ := rs.objAt (slot_get s1 (by intro z; cases z))
  simp only [RO] at hq
  obtain ⟨b, xs, B0, rfl, hb, rfl, rx⟩ := hq
  have bp := (hA0 b List.mem_cons_self).2.2
  have xl := ROs.len rx
  rw [List.length_map] at xl
  refine ⟨.ref b, ho, b, rfl, ⟨xs, SqL.of hb⟩, fun B Dl hD => ?_⟩
  have Df := rs.liv.fresh hD
  refine ⟨fun k m σ' H' => ∃ ts ls : List Addr, m = rw0.length - k ∧ k ≤ rw0.length ∧ σ'.length = 3 ∧ SameP X.K F.pp H H' ∧ H' Dl = some (.lst (ts.map V.ref)) ∧ Rws X.K F.pp M H H' (rw0.take k) ts ls ∧ (Dl :: ls).Nodup ∧ ∀ c ∈ ls, H c = none,
    ⟨rw0.length, [], [], rfl, Nat.zero_le _, rfl, .new hD, upd_same, ⟨rfl, rfl⟩, by simp, fun c hc => by simp at hc⟩, ?_⟩
  rintro k m σ' H' ⟨ts, ls, rfl, hk, sl, sm, hDl, gg, nd, fr⟩
  have hb2 := sm.keep b _ hb (nw bp)
  by_cases hlt : k < rw0.length
  · refine .inr ⟨⟨xs, xs[k]'(by omega), SqL.of hb2, by simp⟩, fun σ2 H2 => ∃ ts ls : List Addr, σ2.length = 3 ∧ SameP X.K F.pp H H2 ∧ H2 Dl = some (.lst (ts.map V.ref)) ∧ Rws X.K F.pp M H H2 (rw0.take (k + 1)) ts ls ∧ (Dl :: ls).Nodup ∧ ∀ c ∈ ls, H c = none,
      fun σ2 H2 ⟨ts, ls, c1, c2, c3, c4, c5, c6⟩ => ⟨rw0.length - (k + 1), by omega, ts, ls, rfl, hlt, c1, c2, c3, c4, c5, c6⟩, fun y H2 yy => ?_⟩
    obtain ⟨rfl, hy⟩ := yy
    have ex := hy xs (SqL.of hb2)
    have ek : (rw0.map rwO)[k]? = some (rwO (rw0[k].1, rw0[k].2.1, rw0[k].2.2)) := by rw [List.getElem?_map, List.getElem?_eq_getElem hlt]; rfl
    obtain ⟨x0, B1, e0, r0, n0, s0, _⟩ := ROs.put k rx (List.nodup_cons.mp nd0).2 ek
    rw [ex] at e0
    cases e0
    unfold rwO at r0
    simp only [RO, ROs] at r0
    obtain ⟨t, _, rfl, ht, v1, _, _, _, rfl, rfl, ⟨rfl, q1⟩, v2, _, _, _, rfl, rfl, ⟨rfl, q2⟩, _, _, _, _, rfl, rfl, ⟨l, zs, C, rfl, hl0, rfl, ry⟩, rfl, rfl⟩ := r0
    obtain ⟨rz, rfl⟩ := ros_v.mp ry
    have lp := (hA0 l (List.mem_cons_of_mem _ (s0 l (by simp)))).2.2
    have ht2 := (sm.mv (M := M)).tup t _ ht
    have hl2 := sm.keep l _ hl0 (nw lp)
    obtain ⟨w0, w1, w2, rfl⟩ : ∃ w0 w1 w2, σ' = [w0, w1, w2] := by
      match σ', sl with
      | [w0, w1, w2], _ => exact ⟨w0, w1, w2, rfl⟩
    refine ⟨t, [v1, v2, .ref l], rfl, ht2, rfl, v1, _, rfl, v2, _, rfl, .ref l, _, rfl, rfl, ?_⟩
    show (tNoTest [some v1, some v2, some (.ref l)] H2 _)
    unfold tNoTest
    dsimp only
    rw [if_pos rfl]
    refine ⟨v1, rfl, v2, rfl, .ref l, rfl, l, zs, rfl, .inl (SqL.of hl2), fun l2 hl3 => ⟨show 3 ≤ sizeLine by decide, fun t2 ht3 => ?_⟩⟩
    obtain ⟨lv, lts⟩ := gg.live
    have l2D : l2 ≠ Dl := by rintro rfl; rw [hDl] at hl3; cases hl3
    have l2n : ∀ c, c ∈ ts ∨ c ∈ ls → c ≠ l2 := fun c hc => by rintro rfl; exact lv c hc hl3
    have l20 : H l2 = none := by
      cases e : H l2 with
      | none => rfl
      | some o => exact absurd hl3 (sm.live l2 (by rw [e]; intro z; cases z))
    have t2l : t2 ≠ l2 := by rintro rfl; rw [upd_same] at ht3; cases ht3
    have ht4 : H2 t2 = none := by rw [upd_ne t2l] at ht3; exact ht3
    have t2D : t2 ≠ Dl := by rintro rfl; rw [hDl] at ht4; cases ht4
    have t2n : ∀ c, c ∈ ts ∨ c ∈ ls → c ≠ t2 := fun c hc => by rintro rfl; exact lv c hc ht4
    have hD5 : (upd (upd H2 l2 (.lst zs)) t2 (.tup [v1, v2, .ref l2])) Dl = some (.lst (ts.map V.ref)) := by rw [upd_ne (Ne.symm t2D), upd_ne (Ne.symm l2D)]; exact hDl
    refine ⟨ts.map V.ref, hD5, by rw [List.length_map, lts, List.length_take]; omega, ts ++ [t2], ls ++ [l2], rfl, ((sm.trans (.new hl3)).trans (.new ht3)).writeNew hD hD5 Df.2, by rw [upd_same, List.map_append]; rfl, ?_, ?_, fun c hc => ?_⟩
    · rw [List.take_succ, List.getElem?_eq_getElem hlt]
      have kp : Rws X.K F.pp M H (upd (upd (upd H2 l2 (.lst zs)) t2 (.tup [v1, v2, .ref l2])) Dl (.lst (ts.map V.ref ++ [.ref t2]))) (rw0.take k) ts ls := gg.keepT (fun c y e hc => ?_) fun c hc x e => ?_
      · refine Rws.snoc (r := rw0[k]) (by rw [upd_ne t2D, upd_same]) (by rw [upd_ne l2D, upd_ne (Ne.symm t2l), upd_same]) q1 q2 rz kp
      · rw [upd_ne (by rintro rfl; rw [hDl] at e; cases e), upd_ne (t2n c (.inl hc)), upd_ne (l2n c (.inl hc))]
        exact e
      · rw [upd_ne (by rintro rfl; exact (List.nodup_cons.mp nd).1 hc), upd_ne (t2n c (.inr hc)), upd_ne (l2n c (.inr hc))]
        exact e
    · rw [List.nodup_cons] at nd ⊢
      refine ⟨fun z => ?_, ?_⟩
      · rcases List.mem_append.mp z with z | z
        · exact nd.1 z
        · exact l2D (List.mem_singleton.mp z).symm
      · rw [List.nodup_append]
        refine ⟨nd.2, by simp, fun x hx y hy e => ?_⟩
        rw [List.mem_singleton.mp hy] at e
        exact l2n x (.inr hx) e
    · rcases List.mem_append.mp hc with hc | hc
      · exact fr c hc
      · rw [List.mem_singleton.mp hc]; exact l20
  · have e : k = rw0.length := by omega
    subst e
    rw [List.take_length] at gg
    refine .inl ⟨⟨xs, SqL.of hb2, by omega⟩, ?_⟩
    have hAll : ∀ c ∈ Dl :: ls, H c = none := fun c hc => by
      rcases List.mem_cons.mp hc with rfl | hc
      · exact hD
      · exact fr c hc
    have m : Mv X.K F.pp M H (Dl :: ls ++ M) H' := (sm.mv (M := M)).more hAll
    obtain ⟨m2, rs2⟩ := rs.newObj (q := .lst (rw0.map rwO)) (A := Dl :: ls) (v := .ref Dl) sm nd (fun c hc => ⟨hAll c hc, (rs.liv.fresh (hAll c hc)).2⟩) (by
      simp only [RO]
      exact ⟨Dl, _, ls, rfl, hDl, rfl, gg.ros m⟩) i
    exact o.nx _ _ _ _ m2 rs2 h
end
end DL
namespace My
open PySem L2
def top (i : Nat) : Stmt := PySem.Challenge.pw_othersum_k22_firsts_along_a_way.main.body.getD i (.Pass ⟨0, 0, 0, 0⟩)
abbrev s_greatest_divisor : Stmt := top 6
theorem sc_greatest_divisor : FnScope ["one", "other", "rest"] ["one", "other"] (defScope s_greatest_divisor) := ⟨rfl, rfl, rfl, by decide +kernel, rfl, by decide +kernel, by decide +kernel⟩
abbrev s_ratio_of : Stmt := top 7
theorem sc_ratio_of : FnScope ["top", "bottom", "divisor"] ["top", "bottom"] (defScope s_ratio_of) := ⟨rfl, rfl, rfl, by decide +kernel, rfl, by decide +kernel, by decide +kernel⟩
abbrev s_plus : Stmt := top 8
theorem sc_plus : FnScope ["one", "other"] ["one", "other"] (defScope s_plus) := ⟨rfl, rfl, rfl, by decide +kernel, rfl, by decide +kernel, by decide +kernel⟩
abbrev s_minus : Stmt := top 9
theorem sc_minus : FnScope ["one", "other"] ["one", "other"] (defScope s_minus) := ⟨rfl, rfl, rfl, by decide +kernel, rfl, by decide +kernel, by decide +kernel⟩
abbrev s_times : Stmt := top 10
theorem sc_times : FnScope ["one", "other"] ["one", "other"] (defScope s_times) := ⟨rfl, rfl, rfl, by decide +kernel, rfl, by decide +kernel, by decide +kernel⟩
abbrev s_over : Stmt := top 11
theorem sc_over : FnScope ["one", "other"] ["one", "other"] (defScope s_over) := ⟨rfl, rfl, rfl, by decide +kernel, rfl, by decide +kernel, by decide +kernel⟩
abbrev s_less : Stmt := top 12
theorem sc_less : FnScope ["one", "other"] ["one", "other"] (defScope s_less) := ⟨rfl, rfl, rfl, by decide +kernel, rfl, by decide +kernel, by decide +kernel⟩
abbrev s_total : Stmt := top 13
theorem sc_total : FnScope ["ratios", "half"] ["ratios"] (defScope s_total) := ⟨rfl, rfl, rfl, by decide +kernel, rfl, by decide +kernel, by decide +kernel⟩
abbrev s_is_whole : Stmt := top 15
theorem sc_is_whole : FnScope ["thing"] ["thing"] (defScope s_is_whole) := ⟨rfl, rfl, rfl, by decide +kernel, rfl, by decide +kernel, by decide +kernel⟩
abbrev s_share_of : Stmt := top 16
theorem sc_share_of : FnScope ["count"] ["count"] (defScope s_share_of) := ⟨rfl, rfl, rfl, by decide +kernel, rfl, by decide +kernel, by decide +kernel⟩
abbrev s_houses_of : Stmt := top 18
theorem sc_houses_of : FnScope ["table"] ["table"] (defScope s_houses_of) := ⟨rfl, rfl, rfl, by decide +kernel, rfl, by decide +kernel, by decide +kernel⟩
abbrev s_mixed_share : Stmt := top 20
theorem sc_mixed_share : FnScope ["table", "house", "weights", "pieces", "part", "weight"] ["table", "house", "weights"] (defScope s_mixed_share) := ⟨rfl, rfl, rfl, by decide +kernel, rfl, by decide +kernel, by decide +kernel⟩
abbrev s_firsts : Stmt := top 22
theorem sc_firsts : FnScope ["table", "weights", "others", "houses"] ["table", "weights", "others"] (defScope s_firsts) := ⟨rfl, rfl, rfl, by decide +kernel, rfl, by decide +kernel, by decide +kernel⟩
abbrev s_check_standard : Stmt := top 23
theorem sc_check_standard : FnScope ["table", "weights"] ["table", "weights"] (defScope s_check_standard) := ⟨rfl, rfl, rfl, by decide +kernel, rfl, by decide +kernel, by decide +kernel⟩
abbrev s_as_weights : Stmt := top 24
theorem sc_as_weights : FnScope ["weights", "whole"] ["weights"] (defScope s_as_weights) := ⟨rfl, rfl, rfl, by decide +kernel, rfl, by decide +kernel, by decide +kernel⟩
abbrev s_check_tried : Stmt := top 25
theorem sc_check_tried : FnScope ["table", "houses", "weights", "others", "part", "counts", "house"] ["table", "houses", "weights", "others"] (defScope s_check_tried) := ⟨rfl, rfl, rfl, by decide +kernel, rfl, by decide +kernel, by decide +kernel⟩
abbrev s_line_of : Stmt := top 26
theorem sc_line_of : FnScope ["table", "house", "weights", "others", "start"] ["table", "house", "weights", "others"] (defScope s_line_of) := ⟨rfl, rfl, rfl, by decide +kernel, rfl, by decide +kernel, by decide +kernel⟩
abbrev s_stretches : Stmt := top 27
theorem sc_stretches : FnScope ["lines", "told", "low", "line", "step"] ["lines"] (defScope s_stretches) := ⟨rfl, rfl, rfl, by decide +kernel, rfl, by decide +kernel, by decide +kernel⟩
abbrev s_houses_on : Stmt := top 28
theorem sc_houses_on : FnScope ["lines", "line"] ["lines", "line"] (defScope s_houses_on) := ⟨rfl, rfl, rfl, by decide +kernel, rfl, by decide +kernel, by decide +kernel⟩
abbrev s_first_line : Stmt := top 29
theorem sc_first_line : FnScope ["lines", "first", "line"] ["lines"] (defScope s_first_line) := ⟨rfl, rfl, rfl, by decide +kernel, rfl, by decide +kernel, by decide +kernel⟩
abbrev s_next_step : Stmt := top 30
theorem sc_next_step : FnScope ["lines", "line", "step", "other", "meeting"] ["lines", "line"] (defScope s_next_step) := ⟨rfl, rfl, rfl, by decide +kernel, rfl, by decide +kernel, by decide +kernel⟩
abbrev s_is_ahead : Stmt := top 31
theorem sc_is_ahead : FnScope ["step", "other"] ["step", "other"] (defScope s_is_ahead) := ⟨rfl, rfl, rfl, by decide +kernel, rfl, by decide +kernel, by decide +kernel⟩
abbrev s__law_pen : Stmt := top 33
theorem sc__law_pen : FnScope ["_law_script"] ["_law_script"] (defScope s__law_pen) := ⟨rfl, rfl, rfl, by decide +kernel, rfl, by decide +kernel, by decide +kernel⟩
abbrev s__law_next : Stmt := top 34
theorem sc__law_next : FnScope ["_law_pen_here", "_law_many", "_law_script", "_law_turn", "_law_left", "_law_cell", "_law_number"] ["_law_pen_here", "_law_many"] (defScope s__law_next) := ⟨rfl, rfl, rfl, by decide +kernel, rfl, by decide +kernel, by decide +kernel⟩
abbrev s__law_ratio : Stmt := top 35
theorem sc__law_ratio : FnScope ["_law_top", "_law_bottom", "_law_one", "_law_other"] ["_law_top", "_law_bottom"] (defScope s__law_ratio) := ⟨rfl, rfl, rfl, by decide +kernel, rfl, by decide +kernel, by decide +kernel⟩
abbrev s__law_is_ratio : Stmt := top 36
theorem sc__law_is_ratio : FnScope ["_law_thing", "_law_number"] ["_law_thing"] (defScope s__law_is_ratio) := ⟨rfl, rfl, rfl, by decide +kernel, rfl, by decide +kernel, by decide +kernel⟩
abbrev s__law_plus : Stmt := top 37
theorem sc__law_plus : FnScope ["_law_one", "_law_other"] ["_law_one", "_law_other"] (defScope s__law_plus) := ⟨rfl, rfl, rfl, by decide +kernel, rfl, by decide +kernel, by decide +kernel⟩
abbrev s__law_minus : Stmt := top 38
theorem sc__law_minus : FnScope ["_law_one", "_law_other"] ["_law_one", "_law_other"] (defScope s__law_minus) := ⟨rfl, rfl, rfl, by decide +kernel, rfl, by decide +kernel, by decide +kernel⟩
abbrev s__law_times : Stmt := top 39
theorem sc__law_times : FnScope ["_law_one", "_law_other"] ["_law_one", "_law_other"] (defScope s__law_times) := ⟨rfl, rfl, rfl, by decide +kernel, rfl, by decide +kernel, by decide +kernel⟩
abbrev s__law_less : Stmt := top 40
theorem sc__law_less : FnScope ["_law_one", "_law_other"] ["_law_one", "_law_other"] (defScope s__law_less) := ⟨rfl, rfl, rfl, by decide +kernel, rfl, by decide +kernel, by decide +kernel⟩
abbrev s__law_whole_weights : Stmt := top 41
theorem sc__law_whole_weights : FnScope ["_law_pen_here", "_law_parts", "_law_found"] ["_law_pen_here", "_law_parts"] (defScope s__law_whole_weights) := ⟨rfl, rfl, rfl, by decide +kernel, rfl, by decide +kernel, by decide +kernel⟩
abbrev s__law_over_sum : Stmt := top 42
theorem sc__law_over_sum : FnScope ["_law_some"] ["_law_some"] (defScope s__law_over_sum) := ⟨rfl, rfl, rfl, by decide +kernel, rfl, by decide +kernel, by decide +kernel⟩
abbrev s__law_mixed : Stmt := top 43
theorem sc__law_mixed : FnScope ["_law_table_here", "_law_house", "_law_weights", "_law_total", "_law_k", "_law_tried", "_law_well"] ["_law_table_here", "_law_house", "_law_weights"] (defScope s__law_mixed) := ⟨rfl, rfl, rfl, by decide +kernel, rfl, by decide +kernel, by decide +kernel⟩
abbrev s__law_part : Stmt := top 44
theorem sc__law_part : FnScope ["_law_pen_here", "_law_many", "_law_like", "_law_counts", "_law_house", "_law_tried"] ["_law_pen_here", "_law_many", "_law_like"] (defScope s__law_part) := ⟨rfl, rfl, rfl, by decide +kernel, rfl, by decide +kernel, by decide +kernel⟩
abbrev s__law_table : Stmt := top 45
theorem sc__law_table : FnScope ["_law_pen_here", "_law_weights", "_law_others", "_law_many", "_law_like", "_law_found", "_law_one", "_law_other", "_law_part_here"] ["_law_pen_here", "_law_weights", "_law_others"] (defScope s__law_table) := ⟨rfl, rfl, rfl, by decide +kernel, rfl, by decide +kernel, by decide +kernel⟩
abbrev s__law_heights : Stmt := top 46
theorem sc__law_heights : FnScope ["_law_lines", "_law_t", "_law_found", "_law_start", "_law_end"] ["_law_lines", "_law_t"] (defScope s__law_heights) := ⟨rfl, rfl, rfl, by decide +kernel, rfl, by decide +kernel, by decide +kernel⟩
abbrev s__law_firsts_at : Stmt := top 47
theorem sc__law_firsts_at : FnScope ["_law_lines", "_law_t", "_law_heights_here", "_law_best", "_law_one"] ["_law_lines", "_law_t"] (defScope s__law_firsts_at) := ⟨rfl, rfl, rfl, by decide +kernel, rfl, by decide +kernel, by decide +kernel⟩
abbrev s__law_row_right : Stmt := top 48
theorem sc__law_row_right : FnScope ["_law_lines", "_law_row", "_law_low", "_law_high", "_law_houses", "_law_t", "_law_there", "_law_amid"] ["_law_lines", "_law_row"] (defScope s__law_row_right) := ⟨rfl, rfl, rfl, by decide +kernel, rfl, by decide +kernel, by decide +kernel⟩
abbrev s__law_right : Stmt := top 49
theorem sc__law_right : FnScope ["_law_table_here", "_law_weights", "_law_others", "_law_ones", "_law_behind", "_law_lines", "_law_house", "_law_start", "_law_found", "_law_k", "_law_kept", "_law_row"] ["_law_table_here", "_law_weights", "_law_others"] (defScope s__law_right) := ⟨rfl, rfl, rfl, by decide +kernel, rfl, by decide +kernel, by decide +kernel⟩
abbrev s_law : Stmt := top 50
theorem sc_law : FnScope ["_law_script", "_law_pen_here", "_law_turn", "_law_parts", "_law_weights", "_law_others", "_law_table_here", "_law_kept"] ["_law_script"] (defScope s_law) := ⟨rfl, rfl, rfl, by decide +kernel, rfl, by decide +kernel, by decide +kernel⟩
set_option genInjectivity false in
set_option genSizeOf false in
structure Tx (K : PySem.W.Frag) (mg : Str → Option Value) where
  f_greatest_divisor : Addr
  fd_greatest_divisor : FuncData
  d_greatest_divisor : Df K mg "greatest_divisor" s_greatest_divisor ["one", "other"] f_greatest_divisor fd_greatest_divisor
  f_ratio_of : Addr
  fd_ratio_of : FuncData
  d_ratio_of : Df K mg "ratio_of" s_ratio_of ["top", "bottom"] f_ratio_of fd_ratio_of
  f_plus : Addr
  fd_plus : FuncData
  d_plus : Df K mg "plus" s_plus ["one", "other"] f_plus fd_plus
  f_minus : Addr
  fd_minus : FuncData
  d_minus : Df K mg "minus" s_minus ["one", "other"] f_minus fd_minus
  f_times : Addr
  fd_times : FuncData
  d_times : Df K mg "times" s_times ["one", "other"] f_times fd_times
  f_over : Addr
  fd_over : FuncData
  d_over : Df K mg "over" s_over ["one", "other"] f_over fd_over
  f_less : Addr
  fd_less : FuncData
  d_less : Df K mg "less" s_less ["one", "other"] f_less fd_less
  f_total : Addr
  fd_total : FuncData
  d_total : Df K mg "total" s_total ["ratios"] f_total fd_total
  f_is_whole : Addr
  fd_is_whole : FuncData
  d_is_whole : Df K mg "is_whole" s_is_whole ["thing"] f_is_whole fd_is_whole
  f_share_of : Addr
  fd_share_of : FuncData
  d_share_of : Df K mg "share_of" s_share_of ["count"] f_share_of fd_share_of
  f_houses_of : Addr
  fd_houses_of : FuncData
  d_houses_of : Df K mg "houses_of" s_houses_of ["table"] f_houses_of fd_houses_of
  f_mixed_share : Addr
  fd_mixed_share : FuncData
  d_mixed_share : Df K mg "mixed_share" s_mixed_share ["table", "house", "weights"] f_mixed_share fd_mixed_share
  f_firsts : Addr
  fd_firsts : FuncData
  d_firsts : Df K mg "firsts" s_firsts ["table", "weights", "others"] f_firsts fd_firsts
  f_check_standard : Addr
  fd_check_standard : FuncData
  d_check_standard : Df K mg "check_standard" s_check_standard ["table", "weights"] f_check_standard fd_check_standard
  f_as_weights : Addr
  fd_as_weights : FuncData
  d_as_weights : Df K mg "as_weights" s_as_weights ["weights"] f_as_weights fd_as_weights
  f_check_tried : Addr
  fd_check_tried : FuncData
  d_check_tried : Df K mg "check_tried" s_check_tried ["table", "houses", "weights", "others"] f_check_tried fd_check_tried
  f_line_of : Addr
  fd_line_of : FuncData
  d_line_of : Df K mg "line_of" s_line_of ["table", "house", "weights", "others"] f_line_of fd_line_of
  f_stretches : Addr
  fd_stretches : FuncData
  d_stretches : Df K mg "stretches" s_stretches ["lines"] f_stretches fd_stretches
  f_houses_on : Addr
  fd_houses_on : FuncData
  d_houses_on : Df K mg "houses_on" s_houses_on ["lines", "line"] f_houses_on fd_houses_on
  f_first_line : Addr
  fd_first_line : FuncData
  d_first_line : Df K mg "first_line" s_first_line ["lines"] f_first_line fd_first_line
  f_next_step : Addr
  fd_next_step : FuncData
  d_next_step : Df K mg "next_step" s_next_step ["lines", "line"] f_next_step fd_next_step
  f_is_ahead : Addr
  fd_is_ahead : FuncData
  d_is_ahead : Df K mg "is_ahead" s_is_ahead ["step", "other"] f_is_ahead fd_is_ahead
  f__law_pen : Addr
  fd__law_pen : FuncData
  d__law_pen : Df K mg "_law_pen" s__law_pen ["_law_script"] f__law_pen fd__law_pen
  f__law_next : Addr
  fd__law_next : FuncData
  d__law_next : Df K mg "_law_next" s__law_next ["_law_pen_here", "_law_many"] f__law_next fd__law_next
  f__law_ratio : Addr
  fd__law_ratio : FuncData
  d__law_ratio : Df K mg "_law_ratio" s__law_ratio ["_law_top", "_law_bottom"] f__law_ratio fd__law_ratio
  f__law_is_ratio : Addr
  fd__law_is_ratio : FuncData
  d__law_is_ratio : Df K mg "_law_is_ratio" s__law_is_ratio ["_law_thing"] f__law_is_ratio fd__law_is_ratio
  f__law_plus : Addr
  fd__law_plus : FuncData
  d__law_plus : Df K mg "_law_plus" s__law_plus ["_law_one", "_law_other"] f__law_plus fd__law_plus
  f__law_minus : Addr
  fd__law_minus : FuncData
  d__law_minus : Df K mg "_law_minus" s__law_minus ["_law_one", "_law_other"] f__law_minus fd__law_minus
  f__law_times : Addr
  fd__law_times : FuncData
  d__law_times : Df K mg "_law_times" s__law_times ["_law_one", "_law_other"] f__law_times fd__law_times
  f__law_less : Addr
  fd__law_less : FuncData
  d__law_less : Df K mg "_law_less" s__law_less ["_law_one", "_law_other"] f__law_less fd__law_less
  f__law_whole_weights : Addr
  fd__law_whole_weights : FuncData
  d__law_whole_weights : Df K mg "_law_whole_weights" s__law_whole_weights ["_law_pen_here", "_law_parts"] f__law_whole_weights fd__law_whole_weights
  f__law_over_sum : Addr
  fd__law_over_sum : FuncData
  d__law_over_sum : Df K mg "_law_over_sum" s__law_over_sum ["_law_some"] f__law_over_sum fd__law_over_sum
  f__law_mixed : Addr
  fd__law_mixed : FuncData
  d__law_mixed : Df K mg "_law_mixed" s__law_mixed ["_law_table_here", "_law_house", "_law_weights"] f__law_mixed fd__law_mixed
  f__law_part : Addr
  fd__law_part : FuncData
  d__law_part : Df K mg "_law_part" s__law_part ["_law_pen_here", "_law_many", "_law_like"] f__law_part fd__law_part
  f__law_table : Addr
  fd__law_table : FuncData
  d__law_table : Df K mg "_law_table" s__law_table ["_law_pen_here", "_law_weights", "_law_others"] f__law_table fd__law_table
  f__law_heights : Addr
  fd__law_heights : FuncData
  d__law_heights : Df K mg "_law_heights" s__law_heights ["_law_lines", "_law_t"] f__law_heights fd__law_heights
  f__law_firsts_at : Addr
  fd__law_firsts_at : FuncData
  d__law_firsts_at : Df K mg "_law_firsts_at" s__law_firsts_at ["_law_lines", "_law_t"] f__law_firsts_at fd__law_firsts_at
  f__law_row_right : Addr
  fd__law_row_right : FuncData
  d__law_row_right : Df K mg "_law_row_right" s__law_row_right ["_law_lines", "_law_row"] f__law_row_right fd__law_row_right
  f__law_right : Addr
  fd__law_right : FuncData
  d__law_right : Df K mg "_law_right" s__law_right ["_law_table_here", "_law_weights", "_law_others"] f__law_right fd__law_right
  f_law : Addr
  fd_law : FuncData
  d_law : Df K mg "law" s_law ["_law_script"] f_law fd_law
  z_ValueError : mg "ValueError" = none
  z_abs : mg "abs" = none
  z_len : mg "len" = none
  z_zip : mg "zip" = none
  z_list : mg "list" = none
  z_sum : mg "sum" = none
  z_enumerate : mg "enumerate" = none
  z_range : mg "range" = none
  z_tuple : mg "tuple" = none
  z_isinstance : mg "isinstance" = none
  z_int : mg "int" = none
  z_all : mg "all" = none
  z_bool : mg "bool" = none
open DL
section
variable {P : Program} {w : World} {K : PySem.W.Frag} {mg : Str → Option Value} {base : Heap}
theorem g0__law_pen (T : Tx K mg) : FnOk P w K mg base CX0 1 T.f__law_pen T.fd__law_pen ["_law_script"] (sp_pen K) := by
  refine T.d__law_pen.F.ok sc__law_pen (fun vs H Q E h => ?_) (fun cdv A outer s H vs Q E hr h => ?_)
  · obtain ⟨a, ns, rfl, _⟩ := h
    rfl
  · obtain ⟨a, ns, rfl, hs, k⟩ := h
    refine ⟨_, (pss_one (ps_ret (pe_lst (pa_cons (pv 0) (pa_cons pe_int (pa_cons pe_int pa_nil)))))), ?_⟩
    refine ⟨_, rfl, (by show (3 : Nat) ≤ sizeLine; decide), fun p hp => ?_⟩
    refine k p _ hp ⟨upd_same, ?_, Int.le_refl 0⟩ (same_new hp)
    rcases hs with ⟨o, e⟩ | e
    · exact .inl ⟨o, upd_old hp e⟩
    · exact .inr e
theorem g0__law_next (T : Tx K mg) : FnOk P w K mg base CX0 1 T.f__law_next T.fd__law_next ["_law_pen_here", "_law_many"] (sp_next K) := by
  refine T.d__law_next.F.ok sc__law_next (fun vs H Q E h => ?_) (fun cdv A outer s H vs Q E hr h => ?_)
  · obtain ⟨p, a, ns, t, l, m, rfl, _⟩ := h
    rfl
  · obtain ⟨p, a, ns, t, l, m, rfl, pen, m1, m2, k⟩ := h
    refine ⟨_, (pss_cons (ps_asg (pv 0) (pg_lsH rfl (pgs_cons (pg_name (i := 2) sc__law_next.nd rfl (Or.inl rfl)) (pgs_cons (pg_name (i := 3) sc__law_next.nd rfl (Or.inl rfl)) (pgs_cons (pg_name (i := 4) sc__law_next.nd rfl (Or.inl rfl)) pgs_nil)))))
      (pss_cons (ps_if (pt_cmpR op_eq (pv 4) pe_int (nomark _)) (pss_cons (ps_asg (pe_op op_add (pv 3) pe_int) (pg_sub (pv 0) pe_int set_list))
      (pss_cons (ps_if (PW.pt (pw_or (pt_cmpR op_ge (pv 3) (pe_callB call_len_seq rfl T.z_len PySem.boot_len (pa_cons (pv 2) pa_nil)) (nomark _)) (pw_or1 (pt_cmpR op_lt (pe_ix ix_list (pv 2) (pv 3) (fun _ _ => rfl)) (pe_op op_pow pe_int pe_int) (nomark _))))) (pss_cons (ps_set (i := 5) sc__law_next.nd rfl (Or.inl rfl) pe_int)
      (pss_cons (ps_if (pt_cmpR op_gt (pe_callB call_len_seq rfl T.z_len PySem.boot_len (pa_cons (pv 2) pa_nil)) pe_int (nomark _)) (pss_one (ps_set (i := 5) sc__law_next.nd rfl (Or.inl rfl) (pe_op op_mod (pe_ix ix_list (pv 2) (pe_op op_mod (pv 3) (pe_callB call_len_seq rfl T.z_len PySem.boot_len (pa_cons (pv 2) pa_nil))) (fun _ _ => rfl)) pe_int))) pss_nil)
      (pss_cons (ps_set (i := 6) sc__law_next.nd rfl (Or.inl rfl) (pe_op op_mod (pe_op op_mulB (pe_op op_add (pe_op op_add (pv 5) (pe_op op_mulB pe_int (pv 3))) pe_int) pe_int) pe_int))
      (pss_cons (ps_set (i := 6) sc__law_next.nd rfl (Or.inl rfl) (pe_op op_mod (pe_op op_add (pe_op op_add (pe_op op_mulB (pv 6) (pv 6)) (pe_op op_mulB pe_int (pv 3))) pe_int) pe_int))
      (pss_one (ps_ret (pe_op op_mod (pe_op op_fdivB (pe_op op_mod (pe_op op_mulB (pv 6) (pe_op op_add (pv 6) pe_int)) pe_int) pe_int) (pv 1)))))))) pss_nil)
      (pss_one (ps_set (i := 4) sc__law_next.nd rfl (Or.inl rfl) (pe_ix ix_list (pv 2) (pv 3) (fun _ _ => rfl)))))) pss_nil)
      (pss_cons (ps_asg (pe_op op_fdivB (pv 4) (pv 1)) (pg_sub (pv 0) pe_int set_list))
      (pss_one (ps_ret (pe_op op_mod (pv 4) (pv 1))))))), ?_⟩
    have ht := pen.t0
    have hm : (0 : Int) < m := by omega
    -- the pen's three parts
    refine ⟨_, rfl, p, _, rfl, pen.lst, rfl, _, _, rfl, _, _, rfl, _, _, rfl, rfl, ?_⟩
    -- if left == 0
    refine ⟨_, rfl, rfl, _, rfl, ?_⟩
    refine ite2 (fun hl => ?_) (fun hl => ?_)
    · -- pen[1] = turn + 1
      refine ⟨_, rfl, _, _, rfl, rfl, _, rfl, p, _, 1, 1, rfl, rfl, pen.lst, rfl, ?_⟩
      have pen1 : Pen K (upd H p (.lst [.ref a, .int (t + 1), .int l])) p a ns (t + 1) l := pen.put (by omega)
      have sq := pen1.scr.sq
      -- if turn >= len(script) or script[turn] < 10 ** 18
      refine ⟨_, rfl, _, rfl, a, _, rfl, .inl sq, _, _, rfl, rfl, _, rfl, ?_⟩
      refine ite2 (fun h1 => iteT ?_) (fun h1 => ⟨_, rfl, _, rfl, a, _, t, _, rfl, rfl, sq, scr_at ht (by simp only [decide_eq_true_eq, List.length_map] at h1; omega), _, _, rfl, rfl, ⟨by decide, by decide, by decide⟩, _, _, rfl, rfl, _, rfl, ite2 (fun h2 => ?_) (fun h2 => ?_)⟩)
      rotate_left 2
      · -- left = script[turn]; pen[2] = left // many; return left % many
        simp only [decide_eq_true_eq, List.length_map] at h1
        refine ⟨_, rfl, _, rfl, a, _, t, _, rfl, rfl, sq, scr_at ht (by omega), ?_⟩
        refine ⟨_, rfl, _, rfl, _, _, rfl, rfl, ⟨hm, big_ten (by omega) (by omega)⟩, _, rfl, p, _, 2, 2, rfl, rfl, pen1.lst, rfl, ?_⟩
        refine ⟨_, rfl, _, rfl, _, _, rfl, rfl, hm, ?_⟩
        exact k _ (t + 1) _ _ (Int.emod_nonneg _ (by omega)) (Int.emod_lt_of_pos _ hm) (pen1.put (by omega)) (SBut.upd.trans SBut.upd)
      all_goals
        -- cell = ..; if len(script) > 0: cell = script[turn % len(script)] % ..
        refine ⟨_, rfl, a, _, rfl, .inl sq, _, _, rfl, rfl, _, rfl, ?_⟩
        refine ite2 (fun h3 => ?_) (fun h3 => ?_)
        · simp only [decide_eq_true_eq, List.length_map] at h3
          refine ⟨_, rfl, _, rfl, _, rfl, a, _, rfl, .inl sq, _, _, rfl, rfl, (by show (0 : Int) < ((ns.map V.int).length : Int); rw [List.length_map]; omega), a, _, _, _, rfl, rfl, sq, scr_at (by rw [List.length_map]; exact Int.emod_nonneg _ (by omega)) (by rw [List.length_map]; exact Int.emod_lt_of_pos _ (by omega)), _, _, rfl, rfl, mpos, ?_⟩
          refine ⟨_, rfl, _, rfl, _, _, rfl, rfl, mul_l, _, _, rfl, rfl, _, _, rfl, rfl, _, _, rfl, rfl, mul_r, _, _, rfl, rfl, mpos, ?_⟩
          refine ⟨_, rfl, _, rfl, _, _, rfl, rfl, mul_mod (by decide) (by decide), _, rfl, _, _, rfl, rfl, mul_l, _, _, rfl, rfl, _, _, rfl, rfl, _, _, rfl, rfl, mpos, ?_⟩
          refine ⟨_, rfl, _, rfl, _, _, rfl, rfl, _, _, rfl, rfl, mul_mod (by decide) (by decide), _, _, rfl, rfl, mpos, _, _, rfl, rfl, ⟨by decide, big_small (by decide) (by decide)⟩, _, rfl, _, _, rfl, rfl, hm, ?_⟩
          exact k _ (t + 1) _ _ (Int.emod_nonneg _ (by omega)) (Int.emod_lt_of_pos _ hm) pen1 SBut.upd
        · refine ⟨_, rfl, _, rfl, _, _, rfl, rfl, mul_l, _, _, rfl, rfl, _, _, rfl, rfl, _, _, rfl, rfl, mul_r, _, _, rfl, rfl, mpos, ?_⟩
          refine ⟨_, rfl, _, rfl, _, _, rfl, rfl, mul_mod (by decide) (by decide), _, rfl, _, _, rfl, rfl, mul_l, _, _, rfl, rfl, _, _, rfl, rfl, _, _, rfl, rfl, mpos, ?_⟩
          refine ⟨_, rfl, _, rfl, _, _, rfl, rfl, _, _, rfl, rfl, mul_mod (by decide) (by decide), _, _, rfl, rfl, mpos, _, _, rfl, rfl, ⟨by decide, big_small (by decide) (by decide)⟩, _, rfl, _, _, rfl, rfl, hm, ?_⟩
          exact k _ (t + 1) _ _ (Int.emod_nonneg _ (by omega)) (Int.emod_lt_of_pos _ hm) pen1 SBut.upd
    · -- pen[2] = left // many; return left % many
      refine ⟨_, rfl, _, rfl, _, _, rfl, rfl, ⟨hm, big_ten (by omega) (by omega)⟩, _, rfl, p, _, 2, 2, rfl, rfl, pen.lst, rfl, ?_⟩
      refine ⟨_, rfl, _, rfl, _, _, rfl, rfl, hm, ?_⟩
      exact k _ t _ _ (Int.emod_nonneg _ (by omega)) (Int.emod_lt_of_pos _ hm) (pen.put ht) SBut.upd
theorem g__law_next (T : Tx K mg) : FnOk P w K mg base CX0 1 T.f__law_next T.fd__law_next ["_law_pen_here", "_law_many"] (spD K 2 gNext) := next_of (g0__law_next T)
theorem m__law_next : MonoS gNext := mono_next

theorem m_greatest_divisor : MonoS gGcd := mono_gcd
def muG (ρ : DS) : Nat := match slot ρ 1 with
  | .val (.int y) => y.natAbs
  | _ => 0
theorem g_greatest_divisor (T : Tx K mg) : FnOk P w K mg base CX0 1 T.f_greatest_divisor T.fd_greatest_divisor ["one", "other"] (spD K 2 gGcd) := by
  refine fnD (k := 0) T.d_greatest_divisor.F sc_greatest_divisor (fun cdv A outer s H E hr => (dss_mid (ds_while PassesOwn.never (dt_cmp (od_ne hr) (de_var 1 (pv 1)) de_int (nomark _)) (dss_cons (ds_set (i := 2) sc_greatest_divisor.nd rfl (by first | exact Or.inl rfl | exact Or.inr rfl) (de_op od_modN (de_var 0 (pv 0)) (de_var 1 (pv 1))))
      (dss_cons (ds_set (i := 0) sc_greatest_divisor.nd rfl (by first | exact Or.inl rfl | exact Or.inr rfl) (de_var 1 (pv 1)))
      (dss_one (ds_set (i := 1) sc_greatest_divisor.nd rfl (by first | exact Or.inl rfl | exact Or.inr rfl) (de_var 2 (pv 2)))))))
      (dss_one (ds_ret (de_callB cd_abs rfl T.z_abs rfl (da_cons (de_var 0 (pv 0)) da_nil)))))) (fun ds Q hl h => ?_)
  unfold gGcd at h
  split at h
  case h_2 => exact h.elim
  rename_i a b
  refine ⟨fun ρ => ∃ (x : Int) (s : Sl), ρ = [.val (.int x), .val (.int 0), s] ∧ Int.gcd x 0 = Int.gcd a b, ?_, ?_⟩
  · refine dWhile_ind (fun ρ => ∃ (x y : Int) (s : Sl), ρ = [.val (.int x), .val (.int y), s] ∧ Int.gcd x y = Int.gcd a b) muG (fun ρ X hN hX => ?_) _ ⟨a, b, _, rfl, rfl⟩
    obtain ⟨x, y, s, rfl, e⟩ := hN
    refine ⟨⟨rfl, rfl⟩, fun hy => ?_, fun hy => ?_⟩
    · have hy : y ≠ 0 := by simpa [eqD_int] using hy
      exact ⟨hy, hX _ ⟨y, x.fmod y, _, rfl, by rw [Ra.gcd_step hy, e]⟩ (Ra.fmod_less hy)⟩
    · have hy : y = 0 := by simpa [eqD_int] using hy
      subst hy
      exact ⟨x, s, rfl, e⟩
  · rintro _ ⟨x, s, rfl, e⟩
    show Q (.int (if x < 0 then -x else x))
    rw [Ra.gcd_zero, e]
    exact h
theorem m_ratio_of : MonoS gRatio := mono_ratio
theorem g_ratio_of (T : Tx K mg) : FnOk P w K mg base CX0 2 T.f_ratio_of T.fd_ratio_of ["top", "bottom"] (spD K 2 gRatio) := by
  refine fnD (k := 1) T.d_ratio_of.F sc_ratio_of (fun cdv A outer s H E hr => (dss_cons (ds_if (dt_cmp (od_eq hr) (de_var 1 (pv 1)) de_int (nomark _)) (dss_one ds_never) dss_nil)
      (dss_cons (ds_set (i := 2) sc_ratio_of.nd rfl (by first | exact Or.inl rfl | exact Or.inr rfl) (de_call (g_greatest_divisor T) m_greatest_divisor (hr.mono (by decide)) rfl T.d_greatest_divisor.m T.d_greatest_divisor.F.kp T.d_greatest_divisor.b (da_cons (de_var 0 (pv 0)) (da_cons (de_var 1 (pv 1)) da_nil))))
      (dss_mid (ds_if (dt_cmp od_lt (de_var 1 (pv 1)) de_int (nomark _)) (dss_one (ds_set (i := 2) sc_ratio_of.nd rfl (by first | exact Or.inl rfl | exact Or.inr rfl) (de_un ud_neg (de_var 2 (pv 2))))) dss_nil)
      (dss_one (ds_ret (de_tup (da_cons (de_op od_fdivZ (de_var 0 (pv 0)) (de_var 2 (pv 2))) (da_cons (de_op od_fdivZ (de_var 1 (pv 1)) (de_var 2 (pv 2))) da_nil))))))))) (fun ds Q hl h => ?_)
  unfold gRatio at h
  split at h
  case h_2 => exact h.elim
  rename_i a b
  obtain ⟨⟨hb, ba, bb⟩, h⟩ := h
  refine ⟨⟨rfl, rfl⟩, fun e => ?_, fun _ => ?_⟩
  · exact hb (by simpa [eqD_int] using e)
  refine ⟨rfl, ?_⟩
  refine ⟨fun ρ => ∃ d : Int, d = (if b < 0 then -((Int.gcd a b : Nat) : Int) else ((Int.gcd a b : Nat) : Int)) ∧ ρ = [.val (.int a), .val (.int b), .val (.int d)], ⟨fun e => ?_, fun e => ?_⟩, ?_⟩
  · have e : b < 0 := by simpa using e
    exact ⟨_, by rw [if_pos e], rfl⟩
  · have e : ¬ b < 0 := by simpa using e
    exact ⟨_, by rw [if_neg e], rfl⟩
  · rintro _ ⟨d, hd, rfl⟩
    have hg : 0 < Int.gcd a b := Int.gcd_pos_of_ne_zero_right a hb
    have hgb : Int.gcd a b ≤ b.natAbs := Nat.le_of_dvd (Int.natAbs_pos.mpr hb) (Int.gcd_dvd_natAbs_right a b)
    have hd0 : d ≠ 0 := by rw [hd]; split <;> omega
    have hdb : Big d := (bb.le (i := d) (by rw [hd]; split <;> omega)).big (by decide)
    exact ⟨⟨hd0, hdb⟩, ⟨hd0, hdb⟩, sz, h _ _ (Ra.low_of hb hd)⟩

theorem m_plus : MonoS gPlus := mono_rr
theorem g_plus (T : Tx K mg) : FnOk P w K mg base CX0 3 T.f_plus T.fd_plus ["one", "other"] (spD K 2 gPlus) := by
  refine fnD (k := 2) T.d_plus.F sc_plus (fun cdv A outer s H E hr => (dss_one (ds_ret (de_call (g_ratio_of T) m_ratio_of (hr.mono (by decide)) rfl T.d_ratio_of.m T.d_ratio_of.F.kp T.d_ratio_of.b (da_cons (de_op od_add (de_op od_mul (de_ix (de_var 0 (pv 0)) de_int (fun _ _ => rfl)) (de_ix (de_var 1 (pv 1)) de_int (fun _ _ => rfl))) (de_op od_mul (de_ix (de_var 1 (pv 1)) de_int (fun _ _ => rfl)) (de_ix (de_var 0 (pv 0)) de_int (fun _ _ => rfl)))) (da_cons (de_op od_mul (de_ix (de_var 0 (pv 0)) de_int (fun _ _ => rfl)) (de_ix (de_var 1 (pv 1)) de_int (fun _ _ => rfl))) da_nil)))))) (fun ds Q hl h => ?_)
  unfold gPlus gRR at h
  split at h
  case h_2 => exact h.elim
  rename_i a b c d
  obtain ⟨⟨hb, b1, b2, b3, b4⟩, h⟩ := h
  exact ⟨b1.cmul b4, b3.cmul b2, b2.cmul b4, rfl, ⟨hb, ((b1.mul b4).add (b3.mul b2)).mono (by decide), (b2.mul b4).mono (by decide)⟩, h⟩

theorem m_minus : MonoS gMinus := mono_rr
theorem g_minus (T : Tx K mg) : FnOk P w K mg base CX0 3 T.f_minus T.fd_minus ["one", "other"] (spD K 2 gMinus) := by
  refine fnD (k := 2) T.d_minus.F sc_minus (fun cdv A outer s H E hr => (dss_one (ds_ret (de_call (g_ratio_of T) m_ratio_of (hr.mono (by decide)) rfl T.d_ratio_of.m T.d_ratio_of.F.kp T.d_ratio_of.b (da_cons (de_op od_sub (de_op od_mul (de_ix (de_var 0 (pv 0)) de_int (fun _ _ => rfl)) (de_ix (de_var 1 (pv 1)) de_int (fun _ _ => rfl))) (de_op od_mul (de_ix (de_var 1 (pv 1)) de_int (fun _ _ => rfl)) (de_ix (de_var 0 (pv 0)) de_int (fun _ _ => rfl)))) (da_cons (de_op od_mul (de_ix (de_var 0 (pv 0)) de_int (fun _ _ => rfl)) (de_ix (de_var 1 (pv 1)) de_int (fun _ _ => rfl))) da_nil)))))) (fun ds Q hl h => ?_)
  unfold gMinus gRR at h
  split at h
  case h_2 => exact h.elim
  rename_i a b c d
  obtain ⟨⟨hb, b1, b2, b3, b4⟩, h⟩ := h
  exact ⟨b1.cmul b4, b3.cmul b2, b2.cmul b4, rfl, ⟨hb, ((b1.mul b4).sub (b3.mul b2)).mono (by decide), (b2.mul b4).mono (by decide)⟩, h⟩

theorem m_times : MonoS gTimes := mono_rr
theorem g_times (T : Tx K mg) : FnOk P w K mg base CX0 3 T.f_times T.fd_times ["one", "other"] (spD K 2 gTimes) := by
  refine fnD (k := 2) T.d_times.F sc_times (fun cdv A outer s H E hr => (dss_one (ds_ret (de_call (g_ratio_of T) m_ratio_of (hr.mono (by decide)) rfl T.d_ratio_of.m T.d_ratio_of.F.kp T.d_ratio_of.b (da_cons (de_op od_mul (de_ix (de_var 0 (pv 0)) de_int (fun _ _ => rfl)) (de_ix (de_var 1 (pv 1)) de_int (fun _ _ => rfl))) (da_cons (de_op od_mul (de_ix (de_var 0 (pv 0)) de_int (fun _ _ => rfl)) (de_ix (de_var 1 (pv 1)) de_int (fun _ _ => rfl))) da_nil)))))) (fun ds Q hl h => ?_)
  unfold gTimes gRR at h
  split at h
  case h_2 => exact h.elim
  rename_i a b c d
  obtain ⟨⟨hb, b1, b2, b3, b4⟩, h⟩ := h
  exact ⟨b1.cmul b3, b2.cmul b4, rfl, ⟨hb, (b1.mul b3).mono (by decide), (b2.mul b4).mono (by decide)⟩, h⟩

theorem m_over : MonoS gOver := mono_rr
theorem g_over (T : Tx K mg) : FnOk P w K mg base CX0 3 T.f_over T.fd_over ["one", "other"] (spD K 2 gOver) := by
  refine fnD (k := 2) T.d_over.F sc_over (fun cdv A outer s H E hr => (dss_one (ds_ret (de_call (g_ratio_of T) m_ratio_of (hr.mono (by decide)) rfl T.d_ratio_of.m T.d_ratio_of.F.kp T.d_ratio_of.b (da_cons (de_op od_mul (de_ix (de_var 0 (pv 0)) de_int (fun _ _ => rfl)) (de_ix (de_var 1 (pv 1)) de_int (fun _ _ => rfl))) (da_cons (de_op od_mul (de_ix (de_var 0 (pv 0)) de_int (fun _ _ => rfl)) (de_ix (de_var 1 (pv 1)) de_int (fun _ _ => rfl))) da_nil)))))) (fun ds Q hl h => ?_)
  unfold gOver gRR at h
  split at h
  case h_2 => exact h.elim
  rename_i a b c d
  obtain ⟨⟨hb, b1, b2, b3, b4⟩, h⟩ := h
  exact ⟨b1.cmul b4, b2.cmul b3, rfl, ⟨hb, (b1.mul b4).mono (by decide), (b2.mul b3).mono (by decide)⟩, h⟩

theorem m_less : MonoS gLess := mono_less
theorem g_less (T : Tx K mg) : FnOk P w K mg base CX0 1 T.f_less T.fd_less ["one", "other"] (spD K 2 gLess) := by
  refine fnD (k := 0) T.d_less.F sc_less (fun cdv A outer s H E hr => (dss_one (ds_ret (de_cmp od_lt (de_op od_mul (de_ix (de_var 0 (pv 0)) de_int (fun _ _ => rfl)) (de_ix (de_var 1 (pv 1)) de_int (fun _ _ => rfl))) (de_op od_mul (de_ix (de_var 1 (pv 1)) de_int (fun _ _ => rfl)) (de_ix (de_var 0 (pv 0)) de_int (fun _ _ => rfl))) (nomark _))))) (fun ds Q hl h => ?_)
  unfold gLess at h
  split at h
  case h_2 => exact h.elim
  rename_i a b c d
  obtain ⟨⟨b1, b2, b3, b4⟩, h⟩ := h
  exact ⟨b1.cmul b4, b3.cmul b2, h⟩

def wholeD : D → Bool
  | .int _ => true
  | _ => false
def gW : DSp := fun ds Q => match ds with
  | [d] => flesh d = true ∧ Q (.bl (wholeD d))
  | _ => False
theorem m_is_whole : MonoS gW := fun ds P P' f h => by
  unfold gW at h ⊢
  split at h
  · exact ⟨h.1, f _ h.2⟩
  · exact h.elim
theorem g_is_whole (T : Tx K mg) : FnOk P w K mg base CX0 1 T.f_is_whole T.fd_is_whole ["thing"] (spD K 1 gW) := by
  refine fnD (k := 0) T.d_is_whole.F sc_is_whole (fun cdv A outer s H E hr => (dss_one (ds_ret (de_and (de_callB cd_is_int rfl T.z_isinstance rfl (da_cons (de_var 0 (pv 0)) (da_cons (de_ty (n := "int") rfl T.z_int rfl) da_nil))) (de_one (de_not (de_callB cd_is_bool rfl T.z_isinstance rfl (da_cons (de_var 0 (pv 0)) (da_cons (de_ty (n := "bool") rfl T.z_bool rfl) da_nil))))))))) (fun ds Q hl h => ?_)
  unfold gW at h
  split at h
  case h_2 => exact h.elim
  rename_i d
  obtain ⟨h1, h⟩ := h
  refine ⟨rfl, h1, ?_⟩
  cases d with
  | int i => exact Br.t ⟨rfl, h1, h⟩
  | bl i => exact Br.t ⟨rfl, h1, h⟩
  | _ => exact Br.f h

def gShare : DSp := fun ds Q => match ds with
  | [.tup [.int t, .int w]] => (Bd 7000 t ∧ Bd 7000 w) ∧ (t = 0 → Q .non) ∧ (t ≠ 0 → ∀ x y, Ra.Low w t x y → Q (.tup [.int x, .int y]))
  | _ => False
theorem m_share_of : MonoS gShare := fun ds P P' f h => by
  unfold gShare at h ⊢
  split at h
  · exact ⟨h.1, fun e => f _ (h.2.1 e), fun e x y l => f _ (h.2.2 e x y l)⟩
  · exact h.elim
theorem g_share_of (T : Tx K mg) : FnOk P w K mg base CX0 3 T.f_share_of T.fd_share_of ["count"] (spD K 1 gShare) := by
  refine fnD (k := 2) T.d_share_of.F sc_share_of (fun cdv A outer s H E hr => (dss_cons (ds_if (dt_cmp (od_eq hr) (de_ix (de_var 0 (pv 0)) de_int (fun _ _ => rfl)) de_int (nomark _)) (dss_one (ds_ret de_non)) dss_nil)
      (dss_one (ds_ret (de_call (g_ratio_of T) m_ratio_of (hr.mono (by decide)) rfl T.d_ratio_of.m T.d_ratio_of.F.kp T.d_ratio_of.b (da_cons (de_ix (de_var 0 (pv 0)) de_int (fun _ _ => rfl)) (da_cons (de_ix (de_var 0 (pv 0)) de_int (fun _ _ => rfl)) da_nil))))))) (fun ds Q hl h => ?_)
  unfold gShare at h
  split at h
  case h_2 => exact h.elim
  rename_i t w
  obtain ⟨⟨b1, b2⟩, h0, h1⟩ := h
  refine ⟨⟨rfl, rfl⟩, fun e => ?_, fun e => ?_⟩
  · exact h0 (by simpa [eqD_int] using e)
  · have e : t ≠ 0 := by simpa [eqD_int] using e
    exact ⟨rfl, ⟨e, b2, b1⟩, h1 e⟩

def pairD (c : Int × Int) : D := .tup [.int c.1, .int c.2]
structure Cnt (n : Nat) (t w : Int) : Prop where
  lo : 0 ≤ w
  hi : w ≤ t
  bt : Bd n t
  bw : Bd n w
theorem Cnt.mono {m n : Nat} {t w : Int} (h : Cnt m t w) (l : m ≤ n) : Cnt n t w := ⟨h.lo, h.hi, h.bt.mono l, h.bw.mono l⟩
theorem cnt_of {n : Nat} {t w : Int} (lo : 0 ≤ w) (hi : w ≤ t) (b : Bd n t) : Cnt n t w := ⟨lo, hi, b, b.le (by omega)⟩
abbrev Row := List (Int × Int)
def rowD (r : Row) : D := .tup (r.map pairD)
def RowN (n m : Nat) (r : Row) : Prop := r.length = m ∧ ∀ c ∈ r, Cnt n c.1 c.2
abbrev RowOk (m : Nat) (r : Row) : Prop := RowN 200 m r
theorem RowN.up {n m : Nat} {r : Row} (o : RowN n m r) (h : n ≤ 200 := by decide) : RowOk m r := ⟨o.1, fun c hc => (o.2 c hc).mono h⟩
structure Tbl (m : Nat) (t : List Row) : Prop where
  m2 : 2 ≤ m
  m6 : m ≤ 6
  p1 : 1 ≤ t.length
  p60 : t.length ≤ 100
  rows : ∀ r ∈ t, RowOk m r
def at_ (r : Row) (h : Nat) : Int × Int := r.getD h (0, 0)
def col (t : List Row) (h : Nat) : List (Int × Int) := t.map fun r => at_ r h
def sumP (cs : List (Int × Int)) : Int × Int := ((cs.map (·.1)).sum, (cs.map (·.2)).sum)
def sums (t : List Row) (m : Nat) : Row := (List.range m).map fun h => sumP (col t h)
theorem at_get {n m : Nat} {r : Row} (o : RowN n m r) {h : Nat} (hh : h < m) : r[h]? = some (at_ r h) ∧ Cnt n (at_ r h).1 (at_ r h).2 := by
  have hl : h < r.length := by rw [o.1]; exact hh
  have e : r[h]? = some (at_ r h) := by
    unfold at_
    rw [List.getD_eq_getElem?_getD]
    simp [hl]
  exact ⟨e, o.2 _ (List.mem_of_getElem? e)⟩
theorem row_at {n m : Nat} {r : Row} (o : RowN n m r) {h : Int} {Q : D → Prop} (h0 : 0 ≤ h) (h1 : h < m) (q : Q (pairD (at_ r h.toNat))) : opt (atI (r.map pairD) h) Q := by
  refine opt_at h0 ?_ q
  rw [List.getElem?_map, (at_get o (h := h.toNat) (by omega)).1]
  rfl
def gHs : DSp := fun ds Q => match ds with
  | [.lst (.tup xs :: _)] => Q (.int xs.length)
  | _ => False
theorem m_houses_of : MonoS gHs := fun ds P P' f h => by
  unfold gHs at h ⊢
  split at h
  · exact f _ h
  · exact h.elim
theorem g_houses_of (T : Tx K mg) : FnOk P w K mg base CX0 1 T.f_houses_of T.fd_houses_of ["table"] (spD K 1 gHs) := by
  refine fnD (k := 0) T.d_houses_of.F sc_houses_of (fun cdv A outer s H E hr => (dss_one (ds_ret (de_callB cd_len rfl T.z_len PySem.boot_len (da_cons (de_ix (de_var 0 (pv 0)) de_int (fun _ _ => rfl)) da_nil))))) (fun ds Q hl h => ?_)
  unfold gHs at h
  split at h
  case h_2 => exact h.elim
  rename_i xs r
  exact opt_at (Int.le_refl 0) rfl h
theorem tbl_houses {m : Nat} {t : List Row} (o : Tbl m t) {Q : D → Prop} (q : Q (.int m)) : gHs [.lst (t.map rowD)] Q := by
  cases t with
  | nil => have := o.p1; simp at this
  | cons r rest =>
    have := (o.rows r List.mem_cons_self).1
    show Q (.int ((r.map pairD).length : Nat))
    rw [List.length_map, this]
    exact q
theorem coll_col {m : Nat} {t : List Row} (ho : ∀ r ∈ t, RowOk m r) (hl : t.length ≤ 1000) {h : Int} (h0 : 0 ≤ h) (h1 : h < m) {s : Sl} {Q : List D → Prop} (q : Q ((col t h.toNat).map pairD)) :
    dColl (dgName 0) dNoTest (dOp gIx (dVar 0) (dVar 1)) (t.map rowD) [] [s, .val (.int h)] Q := by
  refine dColl_pre (fun pre acc ρ => ∃ t0 t1 : List Row, t = t0 ++ t1 ∧ pre = t0.map rowD ∧ acc = (col t0 h.toNat).map pairD ∧ ∃ s, ρ = [s, .val (.int h)]) (fun acc ρ hN => ?_) (fun pre d post acc ρ Y e hN hY => ?_) _ ⟨[], t, rfl, rfl, rfl, _, rfl⟩
  · obtain ⟨t0, t1, rfl, e, rfl, _⟩ := hN
    have : t1 = [] := by
      have := congrArg List.length e
      simp at this
      exact this
    subst this
    simpa using q
  · obtain ⟨t0, t1, rfl, rfl, rfl, s, rfl⟩ := hN
    rw [List.map_append] at e
    have e := List.append_cancel_left e
    cases t1 with
    | nil => simp at e
    | cons r t1 =>
      rw [List.map_cons] at e
      injection e with e1 e2
      subst e1
      have o := ho r (by simp)
      refine Br.t (row_at o h0 h1 ⟨?_, hY _ _ ⟨t0 ++ [r], t1, by simp, by simp, by simp [col], _, rfl⟩⟩)
      rw [List.length_map]
      unfold col
      rw [List.length_map]
      have : t0.length ≤ 1000 := by rw [List.length_append] at hl; omega
      exact Nat.lt_of_le_of_lt this (by decide)
theorem intsD_map : ∀ (n : Nat) (lo : Int), intsD lo n = (List.range n).map fun (i : Nat) => D.int (lo + i)
  | 0, _ => rfl
  | n + 1, lo => by
    rw [List.range_succ_eq_map, List.map_cons, List.map_map, intsD, intsD_map n (lo + 1)]
    congr 1
    · simp
    · apply List.map_congr_left
      intro i _
      simp only [Function.comp]
      congr 1
      omega

namespace Rq
theorem cast_ne {b : Int} (hb : b ≠ 0) : (b : Rat) ≠ 0 := fun h => hb (Rat.intCast_inj.mp (by simpa using h))
theorem cross {a b c d : Int} (hb : b ≠ 0) (hd : d ≠ 0) : (a : Rat) / b = (c : Rat) / d ↔ a * d = c * b := by
  have hb' := cast_ne hb
  have hd' := cast_ne hd
  constructor
  · intro h
    have : (a : Rat) * d = c * b := by grind
    have : ((a * d : Int) : Rat) = ((c * b : Int) : Rat) := by rw [Rat.intCast_mul, Rat.intCast_mul]; exact this
    exact Rat.intCast_inj.mp this
  · intro h
    have : ((a * d : Int) : Rat) = ((c * b : Int) : Rat) := by rw [h]
    rw [Rat.intCast_mul, Rat.intCast_mul] at this
    grind
theorem self (q : Rat) : (q.num : Rat) / ((q.den : Int) : Rat) = q := by
  rw [← Rat.divInt_eq_div]; exact Rat.num_divInt_den q
theorem den_pos (q : Rat) : (0 : Int) < (q.den : Int) := by have := q.den_pos; omega
theorem den_ne (q : Rat) : (q.den : Int) ≠ 0 := by have := den_pos q; omega
theorem lowQ {a b : Int} (hb : b ≠ 0) : Ra.Low a b ((a : Rat) / b).num (((a : Rat) / b).den : Int) := by
  refine ⟨den_pos _, ?_, ?_⟩
  · exact ((a : Rat) / b).reduced
  · exact (cross (den_ne _) hb).mp (self ((a : Rat) / b))
theorem low {a b x y : Int} (hb : b ≠ 0) (l : Ra.Low a b x y) : x = ((a : Rat) / b).num ∧ y = (((a : Rat) / b).den : Int) := l.uniq hb (lowQ hb)
theorem add_eq (p q : Rat) : ((p.num * (q.den : Int) + q.num * (p.den : Int) : Int) : Rat) / (((p.den : Int) * (q.den : Int) : Int) : Rat) = p + q := by
  have hp := self p
  have hq := self q
  have dp := cast_ne (den_ne p)
  have dq := cast_ne (den_ne q)
  rw [Rat.intCast_add, Rat.intCast_mul, Rat.intCast_mul, Rat.intCast_mul]
  grind
theorem sub_eq (p q : Rat) : ((p.num * (q.den : Int) - q.num * (p.den : Int) : Int) : Rat) / (((p.den : Int) * (q.den : Int) : Int) : Rat) = p - q := by
  have hp := self p
  have hq := self q
  have dp := cast_ne (den_ne p)
  have dq := cast_ne (den_ne q)
  rw [Rat.intCast_sub, Rat.intCast_mul, Rat.intCast_mul, Rat.intCast_mul]
  grind
theorem mul_eq (p q : Rat) : ((p.num * q.num : Int) : Rat) / (((p.den : Int) * (q.den : Int) : Int) : Rat) = p * q := by
  have hp := self p
  have hq := self q
  have dp := cast_ne (den_ne p)
  have dq := cast_ne (den_ne q)
  rw [Rat.intCast_mul, Rat.intCast_mul]
  grind
theorem num_ne {q : Rat} (h : q ≠ 0) : q.num ≠ 0 := fun z => h (Rat.num_eq_zero.mp z)
theorem div_eq (p q : Rat) (h : q ≠ 0) : ((p.num * (q.den : Int) : Int) : Rat) / (((p.den : Int) * q.num : Int) : Rat) = p / q := by
  have hp := self p
  have hq := self q
  have dp := cast_ne (den_ne p)
  have dq := cast_ne (den_ne q)
  have nq := cast_ne (num_ne h)
  rw [Rat.intCast_mul, Rat.intCast_mul]
  grind
structure QB (n : Nat) (q : Rat) : Prop where
  nu : Bd n q.num
  de : Bd n (q.den : Int)
theorem QB.mono {m n : Nat} {q : Rat} (h : QB m q) (l : m ≤ n) : QB n q := ⟨h.nu.mono l, h.de.mono l⟩
theorem QB.of {n : Nat} {a b : Int} (hb : b ≠ 0) (ba : Bd n a) (bb : Bd n b) : QB n ((a : Rat) / b) := ⟨ba.le ((lowQ hb).le hb).1, bb.le ((lowQ hb).le hb).2⟩
theorem pp_ne (p q : Rat) : ((p.den : Int) * (q.den : Int)) ≠ 0 := Int.mul_ne_zero (den_ne p) (den_ne q)
theorem QB.add {m n : Nat} {p q : Rat} (h : QB m p) (k : QB n q) : QB (m + n + 1) (p + q) := by
  rw [← add_eq]
  exact QB.of (pp_ne p q) (((h.nu.mul k.de).add (k.nu.mul h.de)).mono (by omega)) ((h.de.mul k.de).mono (by omega))
theorem QB.sub {m n : Nat} {p q : Rat} (h : QB m p) (k : QB n q) : QB (m + n + 1) (p - q) := by
  rw [← sub_eq]
  exact QB.of (pp_ne p q) (((h.nu.mul k.de).sub (k.nu.mul h.de)).mono (by omega)) ((h.de.mul k.de).mono (by omega))
theorem QB.mul {m n : Nat} {p q : Rat} (h : QB m p) (k : QB n q) : QB (m + n) (p * q) := by
  rw [← mul_eq]
  exact QB.of (pp_ne p q) (h.nu.mul k.nu) (h.de.mul k.de)
theorem QB.div {m n : Nat} {p q : Rat} (h : QB m p) (k : QB n q) (hq : q ≠ 0) : QB (m + n) (p / q) := by
  rw [← div_eq p q hq]
  exact QB.of (Int.mul_ne_zero (den_ne p) (num_ne hq)) (h.nu.mul k.de) (h.de.mul k.nu)
end Rq
open Rq
def ratQ (q : Rat) : D := .tup [.int q.num, .int (q.den : Int)]
theorem ratQ_inj {p q : Rat} : eqD (ratQ p) (ratQ q) = decide (p = q) := by
  unfold ratQ
  rw [eqD_pair]
  by_cases h : p = q
  · subst h; simp
  · rw [decide_eq_false h, Bool.and_eq_false_iff]
    by_cases e : p.num = q.num
    · right
      refine decide_eq_false fun z => h ?_
      rw [← self p, ← self q, e, z]
    · left
      exact decide_eq_false e
theorem shp_ratQ (q : Rat) : shp (ratQ q) = true := Shp.shp (n := 1) .pair
theorem low_ratQ {a b : Int} (hb : b ≠ 0) {Q : D → Prop} (q : Q (ratQ ((a : Rat) / b))) : ∀ x y, Ra.Low a b x y → Q (.tup [.int x, .int y]) := fun x y l => by
  obtain ⟨e1, e2⟩ := Rq.low hb l
  rw [e1, e2]
  exact q
theorem plusQ {p q : Rat} (h : QB 3000 p) (k : QB 3000 q) {Q : D → Prop} (r : Q (ratQ (p + q))) : gPlus [ratQ p, ratQ q] Q :=
  ⟨⟨pp_ne p q, h.nu, h.de, k.nu, k.de⟩, low_ratQ (pp_ne p q) (by rw [add_eq]; exact r)⟩
theorem minusQ {p q : Rat} (h : QB 3000 p) (k : QB 3000 q) {Q : D → Prop} (r : Q (ratQ (p - q))) : gMinus [ratQ p, ratQ q] Q :=
  ⟨⟨pp_ne p q, h.nu, h.de, k.nu, k.de⟩, low_ratQ (pp_ne p q) (by rw [sub_eq]; exact r)⟩
theorem timesQ {p q : Rat} (h : QB 3000 p) (k : QB 3000 q) {Q : D → Prop} (r : Q (ratQ (p * q))) : gTimes [ratQ p, ratQ q] Q :=
  ⟨⟨pp_ne p q, h.nu, h.de, k.nu, k.de⟩, low_ratQ (pp_ne p q) (by rw [mul_eq]; exact r)⟩
theorem overQ {p q : Rat} (h : QB 3000 p) (k : QB 3000 q) (hq : q ≠ 0) {Q : D → Prop} (r : Q (ratQ (p / q))) : gOver [ratQ p, ratQ q] Q :=
  ⟨⟨Int.mul_ne_zero (den_ne p) (num_ne hq), h.nu, h.de, k.nu, k.de⟩, low_ratQ (Int.mul_ne_zero (den_ne p) (num_ne hq)) (by rw [div_eq p q hq]; exact r)⟩
theorem lessQ {p q : Rat} (h : QB 7000 p) (k : QB 7000 q) {Q : D → Prop} (r : Q (.bl (decide (p < q)))) : gLess [ratQ p, ratQ q] Q := by
  refine ⟨⟨h.nu, h.de, k.nu, k.de⟩, ?_⟩
  have e : decide (p.num * (q.den : Int) < q.num * (p.den : Int)) = decide (p < q) := decide_eq_decide.mpr (Rat.lt_iff p q).symm
  rw [e]
  exact r

def gTot : Nat → DSp
  | 0 => fun _ _ => False
  | n + 1 => fun ds Q => ∃ qs : List Rat, ds = [.lst (qs.map ratQ)] ∧ qs.length ≤ 2 ^ n ∧ (∀ l, l <:+: qs → QB 3000 l.sum) ∧ Q (ratQ qs.sum)
theorem m_tot : ∀ n, MonoS (gTot n)
  | 0 => fun ds P P' f h => h
  | n + 1 => fun ds P P' f h => by
    obtain ⟨qs, a, b, c, h⟩ := h
    exact ⟨qs, a, b, c, f _ h⟩
theorem cut_lo (qs : List Rat) (h : Nat) (hh : h ≤ qs.length) : cutD (qs.map ratQ) none (some (h : Int)) = (qs.take h).map ratQ := by
  have e1 : HT.sIx (qs.map ratQ).length 0 none = 0 := rfl
  have e2 : HT.sIx (qs.map ratQ).length (qs.map ratQ).length (some (h : Int)) = h := by
    rw [List.length_map]
    unfold HT.sIx
    simp
    rw [if_neg (by omega)]
    omega
  unfold cutD
  rw [e1, e2, List.drop_zero, Nat.sub_zero, List.map_take]
theorem cut_hi (qs : List Rat) (h : Nat) (hh : h ≤ qs.length) : cutD (qs.map ratQ) (some (h : Int)) none = (qs.drop h).map ratQ := by
  have e1 : HT.sIx (qs.map ratQ).length 0 (some (h : Int)) = h := by
    rw [List.length_map]
    unfold HT.sIx
    simp
    rw [if_neg (by omega)]
    omega
  have e2 : HT.sIx (qs.map ratQ).length (qs.map ratQ).length none = (qs.map ratQ).length := rfl
  unfold cutD
  rw [e1, e2, List.map_drop]
  apply List.take_of_length_le
  rw [List.length_drop]
  exact Nat.le_refl _
theorem sum_app : ∀ a b : List Rat, (a ++ b).sum = a.sum + b.sum
  | [], b => by rw [List.nil_append, List.sum_nil, Rat.zero_add]
  | x :: a, b => by rw [List.cons_append, List.sum_cons, List.sum_cons, sum_app a b, Rat.add_assoc]
theorem g_tot (T : Tx K mg) : ∀ n : Nat, FnOk P w K mg base CX0 (n + 3) T.f_total T.fd_total ["ratios"] (spD K 1 (gTot n))
  | 0 => ⟨fun vs H Q E h => by obtain ⟨_, _, _, _, _, _, h⟩ := h; exact h.elim, fun A outer s H args us vs Q E _ _ _ _ h => by obtain ⟨_, _, _, _, _, _, h⟩ := h; exact h.elim⟩
  | n + 1 => by
    have g_total := fun (_ : Tx K mg) => g_tot T n
    have m_total := m_tot n
    refine fnD (k := n + 3) T.d_total.F sc_total (fun cdv A outer s H E hr => (dss_cons (ds_if (dt_cmp (od_eq hr) (de_callB cd_len rfl T.z_len PySem.boot_len (da_cons (de_var 0 (pv 0)) da_nil)) de_int (nomark _)) (dss_one (ds_ret (de_tup (da_cons de_int (da_cons de_int da_nil))))) dss_nil)
      (dss_cons (ds_if (dt_cmp (od_eq hr) (de_callB cd_len rfl T.z_len PySem.boot_len (da_cons (de_var 0 (pv 0)) da_nil)) de_int (nomark _)) (dss_one (ds_ret (de_ix (de_var 0 (pv 0)) de_int (fun _ _ => rfl)))) dss_nil)
      (dss_cons (ds_set (i := 1) sc_total.nd rfl (by first | exact Or.inl rfl | exact Or.inr rfl) (de_op od_fdiv (de_callB cd_len rfl T.z_len PySem.boot_len (da_cons (de_var 0 (pv 0)) da_nil)) de_int))
      (dss_one (ds_ret (de_call (g_plus T) m_plus (hr.mono (by omega)) rfl T.d_plus.m T.d_plus.F.kp T.d_plus.b (da_cons (de_call (g_total T) m_total (hr.mono (by omega)) rfl T.d_total.m T.d_total.F.kp T.d_total.b (da_cons (de_frz (dl_slL (de_var 0 (pv 0)) do_none (do_some (de_var 1 (pv 1))))) da_nil)) (da_cons (de_call (g_total T) m_total (hr.mono (by omega)) rfl T.d_total.m T.d_total.F.kp T.d_total.b (da_cons (de_frz (dl_slL (de_var 0 (pv 0)) (do_some (de_var 1 (pv 1))) do_none)) da_nil)) da_nil))))))))) (fun ds Q hl h => ?_)
    obtain ⟨qs, rfl, hn, hb, h⟩ := h
    have hlm : (qs.map ratQ).length = qs.length := List.length_map ..
    refine ⟨⟨rfl, rfl⟩, fun z => ?_, fun z => ⟨⟨rfl, rfl⟩, fun z1 => ?_, fun z1 => ?_⟩⟩
    · have z : ((qs.map ratQ).length : Int) = 0 := by simpa [eqD_int] using z
      have : qs = [] := List.length_eq_zero_iff.mp (by omega)
      subst this
      exact ⟨sz, h⟩
    · have z1 : ((qs.map ratQ).length : Int) = 1 := by simpa [eqD_int] using z1
      obtain ⟨q, rfl⟩ : ∃ q, qs = [q] := List.length_eq_one_iff.mp (by omega)
      rw [List.sum_cons, List.sum_nil, Rat.add_zero] at h
      show opt (atI [ratQ q] 0) Q
      exact opt_at (d := ratQ q) (Int.le_refl 0) rfl h
    · have z : ((qs.map ratQ).length : Int) ≠ 0 := by simpa [eqD_int] using z
      have z1 : ((qs.map ratQ).length : Int) ≠ 1 := by simpa [eqD_int] using z1
      have hl2 : 2 ≤ qs.length := by omega
      refine ⟨⟨by decide, big_small (by decide) (by decide)⟩, ?_⟩
      have eh : ((qs.map ratQ).length : Int) / 2 = ((qs.length / 2 : Nat) : Int) := by omega
      dsimp only
      rw [eh]
      generalize hq : qs.length / 2 = hf
      have c1 := cut_lo qs hf (by omega)
      have c2 := cut_hi qs hf (by omega)
      cases n with
      | zero => simp at hn; omega
      | succ n =>
        have pw : 2 ^ (n + 1) = 2 * 2 ^ n := by rw [Nat.pow_succ]; omega
        have p1 : qs.take hf <:+: qs := (List.take_prefix hf qs).isInfix
        have p2 : qs.drop hf <:+: qs := (List.drop_suffix hf qs).isInfix
        refine ⟨rfl, qs.take hf, congrArg (fun x => [D.lst x]) c1, by rw [List.length_take]; omega, fun l hl => hb l (hl.trans p1), ?_⟩
        refine ⟨rfl, qs.drop hf, congrArg (fun x => [D.lst x]) c2, by rw [List.length_drop]; omega, fun l hl => hb l (hl.trans p2), ?_⟩
        refine ⟨rfl, plusQ (hb _ p1) (hb _ p2) ?_⟩
        rw [← sum_app, List.take_append_drop]
        exact h

theorem dLoop_rng {g : DG} {b : DTS} {E : DEnds} {n : Nat} (F : Nat → D) (N : Nat → DS → Prop) (hn : ∀ ρ, N n ρ → E.nx ρ)
    (hs : ∀ (i : Nat) (ρ : DS) (X : DS → Prop), i < n → N i ρ → (∀ ρ', N (i + 1) ρ' → X ρ') → g (F i) ρ fun ρ1 => b { E with nx := X, ct := X, bk := E.nx } ρ1) (ρ : DS) (h : N 0 ρ) : dLoop g b ((List.range n).map F) E ρ := by
  refine dLoop_pre (fun pre ρ => N pre.length ρ) (fun ρ hN => hn ρ (by simpa using hN)) (fun pre d post ρ X e hN hX => ?_) _ h
  have hg : ((List.range n).map F)[pre.length]? = some d := by
    rw [e, List.getElem?_append_right (Nat.le_refl _), Nat.sub_self]
    rfl
  have lt : pre.length < n := by
    have := (List.getElem?_eq_some_iff.mp hg).1
    simpa using this
  rw [List.getElem?_map, List.getElem?_range lt] at hg
  have hg : F pre.length = d := by simpa using hg
  rw [← hg]
  exact hs pre.length ρ X lt hN fun ρ' h' => hX ρ' (by rw [List.length_append]; exact h')
theorem zip3_map {α : Type} (f g k : α → D) : ∀ l : List α, zip3D (l.map f) (l.map g) (l.map k) = l.map fun i => .tup [f i, g i, k i]
  | [] => rfl
  | a :: l => by simp [zip3D, zip3_map f g k l]
theorem rng_eq {α : Type} {l : List α} {d : α} (f : α → D) : l.map f = (List.range l.length).map fun i => f (l.getD i d) := by
  apply List.ext_getElem?
  intro i
  rw [List.getElem?_map, List.getElem?_map]
  by_cases h : i < l.length
  · rw [List.getElem?_range h, List.getElem?_eq_getElem h]
    simp [List.getD_eq_getElem?_getD, h]
  · rw [List.getElem?_eq_none (by omega), List.getElem?_eq_none (by simp; omega)]
    rfl
def wq (ws : List Int) (i : Nat) : Rat := ((ws.getD i 0 : Int) : Rat) / ((ws.sum : Int) : Rat)
def cl (t : List Row) (h i : Nat) : Int × Int := (col t h).getD i (0, 0)
def sh (t : List Row) (h i : Nat) : Rat := if (cl t h i).1 = 0 then 0 else ((cl t h i).2 : Rat) / ((cl t h i).1 : Rat)
def mvA (t : List Row) (h : Nat) (ws os : List Int) (i : Nat) : Rat := (wq os i - wq ws i) * sh t h i
def sumQ (f : Nat → Rat) : Nat → Rat
  | 0 => 0
  | n + 1 => sumQ f n + f n
theorem sumQ_sub (f g k : Nat → Rat) (h : ∀ i, k i = f i - g i) : ∀ n, sumQ k n = sumQ f n - sumQ g n
  | 0 => by simp only [sumQ]; grind
  | n + 1 => by
    simp only [sumQ]
    rw [sumQ_sub f g k h n, h n]
    grind
structure Wts (n : Nat) (ws : List Int) : Prop where
  len : ws.length = n
  nn : ∀ w ∈ ws, 0 ≤ w
  up : ∀ w ∈ ws, w ≤ 8000
  pos : 0 < ws.sum
theorem sum_up {ws : List Int} (h : ∀ w ∈ ws, w ≤ 8000) : ws.sum ≤ 8000 * ws.length := by
  induction ws with
  | nil => simp
  | cons a r ih =>
    have := ih fun w hw => h w (List.mem_cons_of_mem _ hw)
    have := h a List.mem_cons_self
    rw [List.sum_cons, List.length_cons]
    omega
theorem Wts.at {n : Nat} {ws : List Int} (o : Wts n ws) {i : Nat} (hi : i < n) : ws[i]? = some (ws.getD i 0) ∧ 0 ≤ ws.getD i 0 ∧ ws.getD i 0 ≤ 8000 := by
  have hl : i < ws.length := by rw [o.len]; exact hi
  have e : ws[i]? = some (ws.getD i 0) := by rw [List.getD_eq_getElem?_getD, List.getElem?_eq_getElem hl]; rfl
  exact ⟨e, o.nn _ (List.mem_of_getElem? e), o.up _ (List.mem_of_getElem? e)⟩
theorem Wts.B {n : Nat} {ws : List Int} (o : Wts n ws) (hn : n ≤ 30) {i : Nat} (hi : i < n) : QB 18 (wq ws i) := by
  have h1 := sum_up o.up
  rw [o.len] at h1
  have h2 := o.at hi
  have h3 := o.pos
  refine QB.of (by omega) ?_ ?_
  · show (ws.getD i 0).natAbs < 2 ^ 18
    omega
  · show ws.sum.natAbs < 2 ^ 18
    omega
theorem wq0 {n : Nat} {ws : List Int} (o : Wts n ws) (i : Nat) : (wq ws i).num = 0 ↔ ws.getD i 0 = 0 := by
  have h3 := o.pos
  unfold wq
  rw [Rat.num_eq_zero]
  constructor
  · intro h
    have := cast_ne (show ws.sum ≠ 0 by omega)
    have e : ((ws.getD i 0 : Int) : Rat) = 0 := by grind
    exact Rat.intCast_inj.mp (by simpa using e)
  · intro h
    rw [h]
    simp
    grind
theorem wqp {n : Nat} {ws : List Int} (o : Wts n ws) {i : Nat} (hi : i < n) : 0 < (wq ws i).num ↔ 0 < ws.getD i 0 := by
  have h0 := wq0 o i
  have h1 := o.at hi
  have h3 := o.pos
  have e := (lowQ (a := ws.getD i 0) (b := ws.sum) (by omega)).eq
  have dp := den_pos (wq ws i)
  have e : (wq ws i).num * ws.sum = ws.getD i 0 * ((wq ws i).den : Int) := e
  constructor
  · intro h
    have := h1.2.1
    have : ws.getD i 0 ≠ 0 := fun z => by have := h0.mpr z; omega
    omega
  · intro h
    have p1 : 0 < ws.getD i 0 * ((wq ws i).den : Int) := Int.mul_pos h dp
    rw [← e] at p1
    rcases Int.lt_or_le 0 (wq ws i).num with c | c
    · exact c
    · have := Int.mul_nonpos_of_nonpos_of_nonneg c (Int.le_of_lt h3)
      omega
structure T33 (m : Nat) (t : List Row) : Prop where
  o : Tbl m t
  l : t.length ≤ 30
  r : ∀ r ∈ t, RowN 32 m r
theorem T33.cl {m : Nat} {t : List Row} (o : T33 m t) {h i : Nat} (hh : h < m) (hi : i < t.length) : ∃ r, t[i]? = some r ∧ r ∈ t ∧ at_ r h = cl t h i ∧ Cnt 32 (cl t h i).1 (cl t h i).2 := by
  have e : t[i]? = some t[i] := by simp [hi]
  have hr : t[i] ∈ t := List.getElem_mem hi
  have ec : My.cl t h i = at_ t[i] h := by
    unfold My.cl col
    rw [List.getD_eq_getElem?_getD, List.getElem?_map, e]
    rfl
  refine ⟨t[i], e, hr, ec.symm, ?_⟩
  rw [ec]
  exact (at_get (o.r _ hr) hh).2
theorem T33.B {m : Nat} {t : List Row} (o : T33 m t) {h i : Nat} (hh : h < m) (hi : i < t.length) : QB 32 (sh t h i) := by
  obtain ⟨r, _, _, _, c⟩ := o.cl hh hi
  unfold sh
  split
  · exact ⟨by show Int.natAbs 0 < 2 ^ 32; decide, by show Int.natAbs 1 < 2 ^ 32; decide⟩
  · rename_i z
    exact QB.of z c.bw c.bt
theorem sum_B {f : Nat → Rat} {n k : Nat} (h : ∀ i, i < n → QB k (f i)) : ∀ i, i ≤ n → QB ((k + 1) * i + 1) (sumQ f i)
  | 0, _ => ⟨by show Int.natAbs 0 < _; simp, by show Int.natAbs 1 < _; simp⟩
  | i + 1, hi => by
    have h1 := sum_B h i (by omega)
    have h2 := h i (by omega)
    exact (h1.add h2).mono (by rw [Nat.mul_succ]; omega)

theorem dColl_rng {g : DG} {te : DE} {n : Nat} {Q : List D → Prop} (F G : Nat → D) (N : DS → Prop) (hl : n ≤ sizeLine)
    (hs : ∀ i, i < n → ∀ (ρ : DS) (Y : D → DS → Prop) (Z : DS → Prop), N ρ → (∀ ρ', N (clean ρ') → Y (G i) ρ') → g (F i) ρ fun ρ1 => dNoTest ρ1 fun b ρ2 => Br b (te ρ2 Y) (Z ρ2)) (ρ : DS) (h : N ρ) (hq : Q ((List.range n).map G)) : dColl g dNoTest te ((List.range n).map F) [] ρ Q := by
  refine dColl_pre (fun pre acc ρ => acc = (List.range pre.length).map G ∧ N ρ) (fun acc ρ hN => by rw [hN.1, List.length_map, List.length_range]; exact hq) (fun pre d post acc ρ Y e hN hY => ?_) _ ⟨rfl, h⟩
  obtain ⟨rfl, hN⟩ := hN
  have hg : ((List.range n).map F)[pre.length]? = some d := by
    rw [e, List.getElem?_append_right (Nat.le_refl _), Nat.sub_self]
    rfl
  have lt : pre.length < n := by
    have := (List.getElem?_eq_some_iff.mp hg).1
    simpa using this
  rw [List.getElem?_map, List.getElem?_range lt] at hg
  have hg : F pre.length = d := by simpa using hg
  rw [← hg]
  refine hs pre.length lt ρ _ _ hN fun ρ' h' => ⟨?_, hY _ _ ⟨?_, h'⟩⟩
  · rw [List.length_map, List.length_range]
    omega
  · rw [List.length_append, List.length_singleton, List.range_succ, List.map_append]
    rfl
theorem sum_var {k : Nat} {ws : List Int} {ρ : DS} {Q : D → DS → Prop} (h : slot ρ k = .val (.lst (ws.map D.int))) (q : Q (.int ws.sum) ρ) : dCB gSum (daCons (dVar k) daNil) ρ Q := by
  show dVarS k ρ _ (slot ρ k)
  rw [h]
  exact gSum_of (P := fun d => Q d ρ) q
theorem sumN_var {k : Nat} {ws : List Int} {ρ : DS} {u v : DTS} {E : DEnds} {c : D} (h : slot ρ k = .val (.lst (ws.map D.int))) (q : gEq false (.int ws.sum) c fun d => blD d fun b => Br b (u E ρ) (v E ρ)) : dNext { E with nx := fun ρ => dIfS (dB (dOp (gEq false) (dCB gSum (daCons (dVar k) daNil)) (dC c))) u v E ρ } ρ := by
  show dVarS k ρ _ (slot ρ k)
  rw [h]
  exact gSum_of (P := fun d => gEq false d c fun d => blD d fun b => Br b (u E ρ) (v E ρ)) q
def gCS : DSp := fun ds Q => match ds with
  | [.lst xs, .lst ys] => ∃ ws : List Int, ys = ws.map D.int ∧ Wts xs.length ws ∧ xs.length ≤ 30 ∧ Q .non
  | _ => False
theorem m_check_standard : MonoS gCS := fun ds P P' f h => by
  unfold gCS at h ⊢
  split at h
  · obtain ⟨ws, a, b, c, h⟩ := h
    exact ⟨ws, a, b, c, f _ h⟩
  · exact h.elim
theorem g_check_standard (T : Tx K mg) : FnOk P w K mg base CX0 2 T.f_check_standard T.fd_check_standard ["table", "weights"] (spD K 2 gCS) := by
  refine fnD (k := 1) T.d_check_standard.F sc_check_standard (fun cdv A outer s H E hr => (dss_cons (ds_if (dt_cmp (od_ne hr) (de_callB cd_len rfl T.z_len PySem.boot_len (da_cons (de_var 1 (pv 1)) da_nil)) (de_callB cd_len rfl T.z_len PySem.boot_len (da_cons (de_var 0 (pv 0)) da_nil)) (nomark _)) (dss_one ds_never) dss_nil)
      (dss_cons (ds_if (dt_not (dt_val (de_callB cd_all rfl T.z_all PyProof.Rows.boot_all (da_cons (de_frz (PCD.pld (dl_comp (N' := ["weight"]) rfl rfl (by decide +kernel) rfl (.own .nil) (by decide +kernel) (di_list (de_var 1 (pv 1))) (fun B => (dg_name (i := 0) (show List.Nodup (α := PySem.Str) ["weight"] by decide +kernel) rfl (by first | exact Or.inl rfl | exact Or.inr rfl))) (fun B => dts_nil) (fun B => (de_and (de_call (g_is_whole T) m_is_whole (hr.mono (by decide)) rfl T.d_is_whole.m T.d_is_whole.F.kp T.d_is_whole.b (da_cons (de_var 0 (pv 0)) da_nil)) (de_one (de_cmp od_ge (de_var 0 (pv 0)) de_int (nomark _)))))))) da_nil)))) (dss_one ds_never) dss_nil)
      (dss_one (ds_if (dt_cmp (od_eq hr) (de_callB cd_sum rfl T.z_sum PyProof.Rows.boot_sum (da_cons (de_var 1 (pv 1)) da_nil)) de_int (nomark _)) (dss_one ds_never) dss_nil))))) (fun ds Q hl h => ?_)
  unfold gCS at h
  split at h
  case h_2 => exact h.elim
  rename_i xs ys
  obtain ⟨ws, rfl, o, l, h⟩ := h
  have hlen : ((ws.map D.int).length : Int) = (xs.length : Int) := by rw [List.length_map, o.len]
  refine ⟨⟨rfl, rfl⟩, fun z => absurd hlen (by simpa [eqD_int] using z), fun _ => ?_⟩
  refine dColl_map (fun _ => .bl true) (fun ρ => ∃ a : Sl, ρ = [a]) (by rw [List.length_map, o.len]; exact Nat.le_trans l (by decide)) (fun d hd ρ Y Z hN hY => ?_) _ ⟨_, rfl⟩ ?_
  · obtain ⟨a, rfl⟩ := hN
    obtain ⟨i, hi, rfl⟩ := List.mem_map.mp hd
    refine Br.t ⟨rfl, rfl, Br.t ?_⟩
    have : decide (0 ≤ i) = true := decide_eq_true (o.nn i hi)
    show Y (.bl (decide (0 ≤ i))) _
    rw [this]
    exact hY _ ⟨_, rfl⟩
  have e : (ws.map D.int).map (fun _ => D.bl true) = (ws.map fun _ => true).map D.bl := by rw [List.map_map, List.map_map]; rfl
  rw [e]
  refine gTru_of ?_
  have e2 : (ws.map fun _ => true).all id = true := by simp
  rw [e2]
  refine Br.f ?_
  refine sumN_var (ws := ws) (k := 1) rfl ⟨⟨rfl, rfl⟩, fun z => ?_, fun _ => h⟩
  have z : ws.sum = 0 := by simpa [eqD_int] using z
  have := o.pos
  omega
def gAW : DSp := fun ds Q => match ds with
  | [.lst ys] => ∃ (n : Nat) (ws : List Int), ys = ws.map D.int ∧ Wts n ws ∧ n ≤ 30 ∧ Q (.lst ((List.range n).map fun i => ratQ (wq ws i)))
  | _ => False
theorem m_as_weights : MonoS gAW := fun ds P P' f h => by
  unfold gAW at h ⊢
  split at h
  · obtain ⟨n, ws, a, b, c, h⟩ := h
    exact ⟨n, ws, a, b, c, f _ h⟩
  · exact h.elim
theorem g_as_weights (T : Tx K mg) : FnOk P w K mg base CX0 3 T.f_as_weights T.fd_as_weights ["weights"] (spD K 1 gAW) := by
  refine fnD (k := 2) T.d_as_weights.F sc_as_weights (fun cdv A outer s H E hr => (dss_cons (ds_set (i := 1) sc_as_weights.nd rfl (by first | exact Or.inl rfl | exact Or.inr rfl) (de_callB cd_sum rfl T.z_sum PyProof.Rows.boot_sum (da_cons (de_var 0 (pv 0)) da_nil)))
      (dss_one (ds_ret (de_frz (PCD.pld (dl_comp (N' := ["weight", "whole"]) rfl rfl (by decide +kernel) rfl (.own (.cap (j := 1) rfl (by first | exact Or.inl rfl | exact Or.inr rfl) rfl .nil)) (by decide +kernel) (di_list (de_var 0 (pv 0))) (fun B => (dg_name (i := 0) (show List.Nodup (α := PySem.Str) ["weight", "whole"] by decide +kernel) rfl (by first | exact Or.inl rfl | exact Or.inr rfl))) (fun B => dts_nil) (fun B => (de_call (g_ratio_of T) m_ratio_of (hr.mono (by decide)) rfl T.d_ratio_of.m T.d_ratio_of.F.kp T.d_ratio_of.b (da_cons (de_var 0 (pv 0)) (da_cons (de_var 1 (pv 1)) da_nil))))))))))) (fun ds Q hl h => ?_)
  unfold gAW at h
  split at h
  case h_2 => exact h.elim
  obtain ⟨n, ws, rfl, o, l, h⟩ := h
  have h1 := sum_up o.up
  have h3 := o.pos
  rw [o.len] at h1
  refine sum_var (k := 0) rfl ?_
  show dColl _ _ _ (ws.map D.int) _ _ _
  rw [rng_eq (d := 0) D.int, o.len]
  refine dColl_rng _ _ (fun ρ => ∃ a : Sl, ρ = [a, .val (.int ws.sum)]) (Nat.le_trans l (by decide)) (fun i hi ρ Y Z hN hY => ?_) _ ⟨_, rfl⟩ h
  obtain ⟨a, rfl⟩ := hN
  have h2 := o.at hi
  exact Br.t ⟨rfl, ⟨by omega, (bd64 (i := ws.getD i 0) (by omega)).mono (by decide), (bd64 (i := ws.sum) (by omega)).mono (by decide)⟩, low_ratQ (Q := fun d => Y d _) (by omega) (hY _ ⟨_, rfl⟩)⟩
theorem ints_at {ws : List Int} {i : Nat} {Q : D → Prop} (hi : i < ws.length) (q : Q (.int (ws.getD i 0))) : opt (atI (ws.map D.int) (i : Int)) Q := by
  refine opt_at (d := .int (ws.getD i 0)) (by omega) ?_ q
  rw [List.getElem?_map, show ((i : Int)).toNat = i by omega, List.getElem?_eq_getElem hi, List.getD_eq_getElem?_getD, List.getElem?_eq_getElem hi]
  rfl
theorem enum_rng {α : Type} (f : α → D) (d : α) (l : List α) : enumD 0 (l.map f) = (List.range l.length).map fun i => .tup [.int (i : Int), f (l.getD i d)] := by
  apply List.ext_getElem?
  intro i
  rw [List.getElem?_map]
  by_cases h : i < l.length
  · have hx : i < (enumD 0 (l.map f)).length := by rw [enumD_length, List.length_map]; exact h
    obtain ⟨e, h1, h2⟩ := enumD_get (l.map f) 0 i _ (List.getElem?_eq_getElem hx)
    rw [List.getElem?_eq_getElem hx, h2, List.getElem?_range h]
    rw [List.getElem?_map, List.getElem?_eq_getElem h] at h1
    have h1 : f l[i] = e := by simpa using h1
    rw [← h1, Nat.zero_add]
    simp [List.getD_eq_getElem?_getD, h]
  · rw [List.getElem?_eq_none (by rw [enumD_length, List.length_map]; omega), List.getElem?_eq_none (by simp; omega)]
    rfl
theorem ints0 (n : Nat) : intsD 0 n = (List.range n).map fun i : Nat => D.int (i : Int) := by
  rw [intsD_map]
  simp
theorem rng_at {n i : Nat} {F : Nat → D} {Q : D → Prop} (hi : i < n) (q : Q (F i)) : opt (atI ((List.range n).map F) (i : Int)) Q := by
  refine opt_at (d := F i) (by omega) ?_ q
  rw [List.getElem?_map, show ((i : Int)).toNat = i by omega, List.getElem?_range hi]
  rfl
theorem tab_at {m : Nat} {t : List Row} (o : T33 m t) {h : Int} {i : Nat} {Q : D → Prop} (h0 : 0 ≤ h) (h1 : h < m) (hi : i < t.length) (q : Q (pairD (cl t h.toNat i))) : opt (atI (t.map rowD) (i : Int)) fun d => gIx d (.int h) Q := by
  obtain ⟨r, e1, e2, e3, c⟩ := o.cl (h := h.toNat) (i := i) (by omega) hi
  refine opt_at (d := rowD r) (by omega) (by rw [List.getElem?_map, show ((i : Int)).toNat = i by omega, e1]; rfl) ?_
  exact row_at (o.r r e2) h0 h1 (by rw [e3]; exact q)
theorem zip_map2 {α : Type} (f g : α → D) : ∀ l : List α, zipD (l.map f) (l.map g) = l.map fun i => .tup [f i, g i]
  | [] => rfl
  | a :: l => by simp [zipD, zip_map2 f g l]
def pcs (q s : Nat → Rat) (n : Nat) : List Rat := ((List.range n).filter fun k => decide (0 < q k)).map fun k => q k * s k
theorem pcs_succ (q s : Nat → Rat) (n : Nat) : pcs q s (n + 1) = pcs q s n ++ (if 0 < q n then [q n * s n] else []) := by
  unfold pcs
  rw [List.range_succ, List.filter_append, List.map_append, List.filter_cons]
  by_cases z : 0 < q n
  · rw [if_pos (decide_eq_true z), if_pos z]; rfl
  · rw [if_neg (by rw [decide_eq_true_eq]; exact z), if_neg z]; rfl
theorem pcs_len (q s : Nat → Rat) (n : Nat) : (pcs q s n).length ≤ n := by
  unfold pcs
  rw [List.length_map]
  exact Nat.le_trans (List.length_filter_le _ _) (by rw [List.length_range]; exact Nat.le_refl _)
theorem pcs_sum {q s : Nat → Rat} : ∀ {n : Nat}, (∀ i, i < n → 0 ≤ q i) → (pcs q s n).sum = sumQ (fun i => q i * s i) n
  | 0, _ => rfl
  | n + 1, h => by
    rw [pcs_succ, sum_app, pcs_sum fun i hi => h i (by omega)]
    simp only [sumQ]
    have := h n (by omega)
    split
    · rw [List.sum_cons, List.sum_nil]; grind
    · have : q n = 0 := by grind
      rw [List.sum_nil, this]; grind
theorem num_pos {q : Rat} : (0 < q.num) ↔ 0 < q := by
  rw [Rat.lt_iff]
  simp
theorem list_B {k : Nat} : ∀ l : List Rat, (∀ x ∈ l, QB k x) → QB ((k + 1) * l.length + 1) l.sum
  | [], _ => ⟨by show Int.natAbs 0 < _; simp, by show Int.natAbs 1 < _; simp⟩
  | x :: l, h => by
    have h1 := list_B l fun y hy => h y (List.mem_cons_of_mem _ hy)
    have h2 := h x List.mem_cons_self
    rw [List.sum_cons, Rat.add_comm, List.length_cons]
    exact (h1.add h2).mono (by rw [Nat.mul_succ]; omega)
theorem g_total (T : Tx K mg) : FnOk P w K mg base CX0 9 T.f_total T.fd_total ["ratios"] (spD K 1 (gTot 6)) := g_tot T 6
theorem m_total : MonoS (gTot 6) := m_tot 6
theorem shareQ32 {c : Int × Int} (ht : c.1 ≠ 0) (b1 : Bd 32 c.1) (b2 : Bd 32 c.2) {Q : D → Prop} (q : Q (ratQ ((c.2 : Rat) / (c.1 : Rat)))) : gShare [pairD c] Q :=
  ⟨⟨b1.mono (by decide), b2.mono (by decide)⟩, fun e => absurd e ht, fun _ => low_ratQ ht q⟩
theorem tab_houses {m : Nat} {t : List Row} (o : T33 m t) {Q : D → Prop} (q : Q (.int m)) : gHs [.lst (t.map rowD)] Q := by
  cases t with
  | nil => have := o.o.p1; simp at this
  | cons r rest =>
    have := (o.r r List.mem_cons_self).1
    show Q (.int ((r.map pairD).length : Nat))
    rw [List.length_map, this]
    exact q
structure Wr (n : Nat) (q : Nat → Rat) : Prop where
  l : n ≤ 6
  nn : ∀ i, i < n → 0 ≤ q i
  one : sumQ q n = 1
  b : ∀ i, i < n → QB 60 (q i)
abbrev wL (q : Nat → Rat) (n : Nat) : D := .lst ((List.range n).map fun i => ratQ (q i))
def unt1 (t : List Row) (q : Nat → Rat) (h i : Nat) : Prop := (cl t h i).1 = 0 ∧ 0 < q i
def Fst (t : List Row) (q : Nat → Rat) (h p : Nat) : Prop := p < t.length ∧ unt1 t q h p ∧ ∀ j, j < p → ¬ unt1 t q h j
def non (t : List Row) (q : Nat → Rat) (h : Nat) : Prop := ∀ i, i < t.length → ¬ unt1 t q h i
theorem fst_or (t : List Row) (q : Nat → Rat) (h : Nat) : ∀ n, n ≤ t.length → (∃ p, p < n ∧ Fst t q h p) ∨ ∀ i, i < n → ¬ unt1 t q h i
  | 0, _ => .inr fun i hi => absurd hi (Nat.not_lt_zero _)
  | n + 1, hn => by
    rcases fst_or t q h n (by omega) with ⟨p, hp, z⟩ | z
    · exact .inl ⟨p, by omega, z⟩
    · by_cases y : unt1 t q h n
      · exact .inl ⟨n, by omega, by omega, y, z⟩
      · refine .inr fun i hi => ?_
        by_cases e : i = n
        · rw [e]; exact y
        · exact z i (by omega)
structure Mxd (m : Nat) (t : List Row) (h : Int) (q : Nat → Rat) : Prop where
  o : T33 m t
  h0 : 0 ≤ h
  h1 : h < m
  w : Wr t.length q
def mxA (t : List Row) (h : Nat) (q : Nat → Rat) (i : Nat) : Rat := q i * sh t h i
theorem mx_B {m : Nat} {t : List Row} {h : Int} {q : Nat → Rat} (o : Mxd m t h q) {i : Nat} (hi : i < t.length) : QB 92 (q i * sh t h.toNat i) := by
  have h0 := o.h0
  have h1 := o.h1
  exact (o.w.b i hi).mul (o.o.B (by omega) hi)
theorem Mxd.pcs {m : Nat} {t : List Row} {h : Int} {q : Nat → Rat} (o : Mxd m t h q) : ∀ l, l <:+: pcs q (sh t h.toNat) t.length → QB 3000 l.sum := fun l hl => by
  have h1 := hl.length_le
  have h2 := pcs_len q (sh t h.toNat) t.length
  have h3 := o.w.l
  refine (list_B (k := 92) l fun x hx => ?_).mono (by omega)
  have hx := hl.subset hx
  unfold My.pcs at hx
  obtain ⟨k, hk, rfl⟩ := List.mem_map.mp hx
  exact mx_B o (List.mem_range.mp (List.mem_filter.mp hk).1)
theorem Mxd.QB {m : Nat} {t : List Row} {h : Int} {q : Nat → Rat} (o : Mxd m t h q) : QB 3000 (sumQ (mxA t h.toNat q) t.length) := by
  have := o.pcs _ (List.infix_refl _)
  rw [pcs_sum o.w.nn] at this
  exact this
def gMS : DSp := fun ds Q => ∃ (m : Nat) (t : List Row) (h : Int) (ws : Nat → Rat), ds = [.lst (t.map rowD), .int h, wL ws t.length] ∧ Mxd m t h ws ∧ non t ws h.toNat ∧ Q (ratQ (sumQ (mxA t h.toNat ws) t.length))
theorem m_mixed_share : MonoS gMS := fun ds P P' f ⟨m, t, h, q, a, b, d, c⟩ => ⟨m, t, h, q, a, b, d, f _ c⟩
theorem g_mixed_share (T : Tx K mg) : FnOk P w K mg base CX0 10 T.f_mixed_share T.fd_mixed_share ["table", "house", "weights"] (spD K 3 gMS) := by
  refine fnD (k := 9) T.d_mixed_share.F sc_mixed_share (fun cdv A outer s H E hr => (dss_cons (ds_own (i := 3) sc_mixed_share.nd rfl (by first | exact Or.inl rfl | exact Or.inr rfl) (dl_lst da_nil))
      (dss_mid (ds_for PassesOwn.never rfl (di_zip rfl T.z_zip (da_cons (de_var 0 (pv 0)) (da_cons (de_var 2 (pv 2)) da_nil))) (dg_tup (n := 2) rfl (dgs_cons (dg_name (i := 4) sc_mixed_share.nd rfl (by first | exact Or.inl rfl | exact Or.inr rfl)) (dgs_cons (dg_name (i := 5) sc_mixed_share.nd rfl (by first | exact Or.inl rfl | exact Or.inr rfl)) dgs_nil))) (dss_one (ds_if (dt_cmp od_gt (de_ix (de_var 5 (pv 5)) de_int (fun _ _ => rfl)) de_int (nomark _)) (dss_one (ds_app (pv 3) (de_call (g_times T) m_times (hr.mono (by decide)) rfl T.d_times.m T.d_times.F.kp T.d_times.b (da_cons (de_var 5 (pv 5)) (da_cons (de_call (g_share_of T) m_share_of (hr.mono (by decide)) rfl T.d_share_of.m T.d_share_of.F.kp T.d_share_of.b (da_cons (de_ix (de_var 4 (pv 4)) (de_var 1 (pv 1)) (fun _ _ => rfl)) da_nil)) da_nil))))) dss_nil)))
      (dss_one (ds_ret (de_call (g_total T) m_total (hr.mono (by decide)) rfl T.d_total.m T.d_total.F.kp T.d_total.b (da_cons (de_var 3 (pv 3)) da_nil))))))) (fun ds Q hl h => ?_)
  obtain ⟨m, t, hh, ws, rfl, o, nu, h⟩ := h
  have l30 := o.o.l
  have h0 := o.h0
  have h1 := o.h1
  refine ⟨sz, fun ρ => ∃ a b : Sl, ρ = [.val (.lst (t.map rowD)), .val (.int hh), .val (wL ws t.length), .own ((pcs ws (sh t hh.toNat) t.length).map ratQ), a, b], ?_, ?_⟩
  · show dLoop _ _ (zipD (t.map rowD) ((List.range t.length).map fun i => ratQ (ws i))) _ _
    have ez : zipD (t.map rowD) ((List.range t.length).map fun i => ratQ (ws i)) = (List.range t.length).map fun i => .tup [rowD (t.getD i []), ratQ (ws i)] := by rw [rng_eq (d := []) rowD, zip_map2]
    rw [ez]
    refine dLoop_rng _ (fun i ρ => ∃ a b : Sl, ρ = [.val (.lst (t.map rowD)), .val (.int hh), .val (wL ws t.length), .own ((pcs ws (sh t hh.toNat) i).map ratQ), a, b]) (fun ρ hN => hN) (fun i ρ X hi hN hX => ?_) _ ⟨.nil, .nil, rfl⟩
    obtain ⟨a, b, rfl⟩ := hN
    obtain ⟨r, e1, e2, e3, c⟩ := o.o.cl (h := hh.toNat) (i := i) (by omega) hi
    have e4 : t.getD i [] = r := by rw [List.getD_eq_getElem?_getD, e1]; rfl
    rw [e4]
    refine ⟨rfl, Br.di (fun z => ?_) (fun z => ?_)⟩
    · have wp := num_pos.mp z
      have c0 : (cl t hh.toNat i).1 ≠ 0 := fun e => nu i hi ⟨e, wp⟩
      have es : sh t hh.toNat i = ((cl t hh.toNat i).2 : Rat) / ((cl t hh.toNat i).1 : Rat) := by unfold sh; rw [if_neg c0]
      have b1 := o.w.b i hi
      have b3 := o.o.B (h := hh.toNat) (i := i) (by omega) hi
      refine ⟨trivial, row_at (o.o.r r e2) h0 h1 ?_⟩
      rw [e3]
      refine ⟨rfl, shareQ32 c0 c.bt c.bw ?_⟩
      rw [← es]
      refine ⟨rfl, timesQ (b1.mono (by decide)) (b3.mono (by decide)) ⟨?_, hX _ ⟨.val (rowD r), .val (ratQ (ws i)), ?_⟩⟩⟩
      · rw [List.length_map]
        exact Nat.lt_of_le_of_lt (Nat.le_trans (pcs_len _ _ _) (show i ≤ 100 by omega)) (by decide)
      · rw [pcs_succ, if_pos (num_pos.mp z), List.map_append]
        rfl
    · have z : ¬ 0 < ws i := fun y => z (num_pos.mpr y)
      refine hX _ ⟨.val (rowD r), .val (ratQ (ws i)), ?_⟩
      rw [pcs_succ, if_neg z, List.append_nil]
      rfl
  · rintro _ ⟨a, b, rfl⟩
    refine ⟨rfl, pcs ws (sh t hh.toNat) t.length, rfl, Nat.le_trans (pcs_len _ _ _) (show _ ≤ 32 by omega), o.pcs, ?_⟩
    rw [pcs_sum o.w.nn]
    exact h
theorem sumQ_rng (f : Nat → Rat) : ∀ n, ((List.range n).map f).sum = sumQ f n
  | 0 => rfl
  | n + 1 => by
    rw [List.range_succ, List.map_append, sum_app, sumQ_rng f n]
    simp only [sumQ, List.map_cons, List.map_nil, List.sum_cons, List.sum_nil]
    grind
theorem map_rng {α β : Type} {l : List α} (d : α) (f : α → β) : l.map f = (List.range l.length).map fun i => f (l.getD i d) := by
  apply List.ext_getElem?
  intro i
  rw [List.getElem?_map, List.getElem?_map]
  by_cases h : i < l.length
  · rw [List.getElem?_range h, List.getElem?_eq_getElem h]
    simp [List.getD_eq_getElem?_getD, h]
  · rw [List.getElem?_eq_none (by omega), List.getElem?_eq_none (by simp; omega)]
    rfl
theorem sum_ints : ∀ (ws : List Int) (S : Rat), (ws.map fun w : Int => (w : Rat) / S).sum = ((ws.sum : Int) : Rat) / S
  | [], S => by simp [Rat.div_def]
  | a :: r, S => by
    rw [List.map_cons, List.sum_cons, sum_ints r S, List.sum_cons, Rat.intCast_add, Rat.div_def, Rat.div_def, Rat.div_def]
    grind
theorem wq_list {n : Nat} {ws : List Int} (o : Wts n ws) : (List.range n).map (wq ws) = ws.map fun w : Int => (w : Rat) / ((ws.sum : Int) : Rat) := by
  have := map_rng (0 : Int) (fun w : Int => (w : Rat) / ((ws.sum : Int) : Rat)) (l := ws)
  rw [o.len] at this
  rw [this]
  rfl
theorem Wts.wr {n : Nat} {ws : List Int} (o : Wts n ws) (h6 : n ≤ 6) : Wr n (wq ws) := by
  have h3 := o.pos
  refine ⟨h6, fun i hi => ?_, ?_, fun i hi => (o.B (by omega) hi).mono (by decide)⟩
  · have h2 := (o.at hi).2.1
    unfold wq
    rw [Rat.div_def]
    exact Rat.mul_nonneg (Rat.intCast_nonneg.mpr h2) (Rat.le_of_lt (Rat.inv_pos.mpr (Rat.intCast_pos.mpr h3)))
  · rw [← sumQ_rng, wq_list o, sum_ints]
    have := cast_ne (show ws.sum ≠ 0 by omega)
    grind

structure T23 (m : Nat) (t : List Row) : Prop where
  o : T33 m t
  l6 : t.length ≤ 6
  m6 : m ≤ 6
def st (t : List Row) (ws : List Int) (h : Nat) : Rat := sumQ (mxA t h (wq ws)) t.length
def bad (t : List Row) (ws os : List Int) (j g : Nat) : Prop := (cl t g j).1 = 0 ∧ ¬ (ws.getD j 0 = 0 ∧ os.getD j 0 = 0)
structure Lns (m : Nat) (t : List Row) (ws os : List Int) : Prop where
  o : T23 m t
  w : Wts t.length ws
  u : Wts t.length os
  tr : ∀ j, j < t.length → ∀ g, g < m → ¬ bad t ws os j g
theorem wq_z {n : Nat} {ws : List Int} (o : Wts n ws) {i : Nat} (h : ws.getD i 0 = 0) : wq ws i = 0 := by
  unfold wq
  rw [h]
  simp [Rat.div_def]
theorem Lns.n1 {m : Nat} {t : List Row} {ws os : List Int} (o : Lns m t ws os) {h : Nat} (hh : h < m) : non t (wq ws) h := fun i hi ⟨z, p⟩ => by
  refine o.tr i hi h hh ⟨z, fun y => ?_⟩
  rw [wq_z o.w y.1] at p
  exact absurd p (by decide)
theorem Lns.n2 {m : Nat} {t : List Row} {ws os : List Int} (o : Lns m t ws os) {h : Nat} (hh : h < m) : non t (wq os) h := fun i hi ⟨z, p⟩ => by
  refine o.tr i hi h hh ⟨z, fun y => ?_⟩
  rw [wq_z o.u y.2] at p
  exact absurd p (by decide)
theorem st_B {m : Nat} {t : List Row} (o : T23 m t) {ws : List Int} (w : Wts t.length ws) {h : Nat} (hh : h < m) : QB 310 (st t ws h) := by
  have l6 := o.l6
  refine (sum_B (k := 50) (fun i hi => ?_) t.length (Nat.le_refl _)).mono (by omega)
  exact ((w.B o.o.l hi).mul (o.o.B hh hi))
def lineD (l : Rat × Rat) : D := .tup [ratQ l.1, ratQ l.2]
structure Ln (l : Rat × Rat) : Prop where
  a : QB 320 l.1
  b : QB 650 l.2
theorem tup_cons (x y : D) (xs ys : List D) : eqD (.tup (x :: xs)) (.tup (y :: ys)) = (eqD x y && eqD (.tup xs) (.tup ys)) := rfl
theorem eqD_line (a b : Rat × Rat) : eqD (lineD a) (lineD b) = decide (a = b) := by
  unfold lineD
  rw [tup_cons, tup_cons, ratQ_inj, ratQ_inj]
  have e : eqD (.tup []) (.tup []) = true := rfl
  rw [e, Bool.and_true]
  obtain ⟨a1, a2⟩ := a
  obtain ⟨b1, b2⟩ := b
  by_cases h1 : a1 = b1 <;> by_cases h2 : a2 = b2 <;> simp [h1, h2]
theorem shp_line (a : Rat × Rat) : shp (lineD a) = true := Shp.shp (n := 2) (.tup fun d hd => by
  simp only [List.mem_cons, List.not_mem_nil, or_false] at hd
  rcases hd with rfl | rfl <;> exact .pair)
def linesD (ls : List (Rat × Rat)) : D := .lst (ls.map lineD)
def stL (t : List Row) (ws os : List Int) (h : Nat) : Rat × Rat := (st t ws h, st t os h - st t ws h)
theorem stL_ok {m : Nat} {t : List Row} {ws os : List Int} (o : Lns m t ws os) {h : Nat} (hh : h < m) : Ln (stL t ws os h) := ⟨(st_B o.o o.w hh).mono (by decide), ((st_B o.o o.u hh).sub (st_B o.o o.w hh)).mono (by decide)⟩
def gLO : DSp := fun ds Q => ∃ (m : Nat) (t : List Row) (h : Int) (ws os : List Int), ds = [.lst (t.map rowD), .int h, .lst (ws.map D.int), .lst (os.map D.int)] ∧ Lns m t ws os ∧ (0 ≤ h ∧ h < m) ∧ Q (lineD (stL t ws os h.toNat))
theorem m_line_of : MonoS gLO := fun ds P P' f ⟨m, t, h, ws, os, a, b, c, g⟩ => ⟨m, t, h, ws, os, a, b, c, f _ g⟩
theorem g_line_of (T : Tx K mg) : FnOk P w K mg base CX0 11 T.f_line_of T.fd_line_of ["table", "house", "weights", "others"] (spD K 4 gLO) := by
  refine fnD (k := 10) T.d_line_of.F sc_line_of (fun cdv A outer s H E hr => (dss_cons (ds_set (i := 4) sc_line_of.nd rfl (by first | exact Or.inl rfl | exact Or.inr rfl) (de_call (g_mixed_share T) m_mixed_share (hr.mono (by decide)) rfl T.d_mixed_share.m T.d_mixed_share.F.kp T.d_mixed_share.b (da_cons (de_var 0 (pv 0)) (da_cons (de_var 1 (pv 1)) (da_cons (de_call (g_as_weights T) m_as_weights (hr.mono (by decide)) rfl T.d_as_weights.m T.d_as_weights.F.kp T.d_as_weights.b (da_cons (de_var 2 (pv 2)) da_nil)) da_nil)))))
      (dss_one (ds_ret (de_tup (da_cons (de_var 4 (pv 4)) (da_cons (de_call (g_minus T) m_minus (hr.mono (by decide)) rfl T.d_minus.m T.d_minus.F.kp T.d_minus.b (da_cons (de_call (g_mixed_share T) m_mixed_share (hr.mono (by decide)) rfl T.d_mixed_share.m T.d_mixed_share.F.kp T.d_mixed_share.b (da_cons (de_var 0 (pv 0)) (da_cons (de_var 1 (pv 1)) (da_cons (de_call (g_as_weights T) m_as_weights (hr.mono (by decide)) rfl T.d_as_weights.m T.d_as_weights.F.kp T.d_as_weights.b (da_cons (de_var 3 (pv 3)) da_nil)) da_nil)))) (da_cons (de_var 4 (pv 4)) da_nil))) da_nil))))))) (fun ds Q hl h => ?_)
  obtain ⟨m, t, hh, ws, os, rfl, o, ⟨h0, h1⟩, h⟩ := h
  have l6 := o.o.l6
  refine ⟨rfl, t.length, ws, rfl, o.w, o.o.o.l, rfl, m, t, hh, wq ws, rfl, ⟨o.o.o, h0, h1, o.w.wr l6⟩, o.n1 (by omega), ?_⟩
  refine ⟨rfl, t.length, os, rfl, o.u, o.o.o.l, rfl, m, t, hh, wq os, rfl, ⟨o.o.o, h0, h1, o.u.wr l6⟩, o.n2 (by omega), ?_⟩
  exact ⟨rfl, minusQ ((st_B o.o o.u (h := hh.toNat) (by omega)).mono (by decide)) ((st_B o.o o.w (h := hh.toNat) (by omega)).mono (by decide)) ⟨sz, h⟩⟩
def hsOf (ls : List (Rat × Rat)) (l : Rat × Rat) (n : Nat) : List Int := ((List.range n).filter fun k => decide (ls.getD k (0, 0) = l)).map fun (k : Nat) => (k : Int)
def gHO : DSp := fun ds Q => ∃ (ls : List (Rat × Rat)) (l : Rat × Rat), ds = [linesD ls, lineD l] ∧ ls.length ≤ 6 ∧ Q (.lst ((hsOf ls l ls.length).map D.int))
theorem m_houses_on : MonoS gHO := fun ds P P' f ⟨ls, l, a, b, h⟩ => ⟨ls, l, a, b, f _ h⟩
theorem hs_len (ls : List (Rat × Rat)) (l : Rat × Rat) (n : Nat) : (hsOf ls l n).length ≤ n := by
  unfold hsOf
  rw [List.length_map]
  exact Nat.le_trans (List.length_filter_le _ _) (by rw [List.length_range]; exact Nat.le_refl _)
def gHN : DSpN := fun ds _ L => ∃ (ls : List (Rat × Rat)) (l : Rat × Rat), ds = [linesD ls, lineD l] ∧ ls.length ≤ 6 ∧ L ((hsOf ls l ls.length).map D.int)
theorem mN_houses_on : MonoN gHN := fun ds P P' L L' f fl ⟨ls, l, a, b, h⟩ => ⟨ls, l, a, b, fl _ h⟩
theorem gN_houses_on (T : Tx K mg) : FnOk P w K mg base CX0 1 T.f_houses_on T.fd_houses_on ["lines", "line"] (spDN K 2 gHN) := by
  refine fnDN (k := 0) T.d_houses_on.F sc_houses_on (fun cdv A outer s H E hr => (psn_ret (PCD.pld (dl_comp (N' := ["house", "other", "line"]) rfl rfl (by decide +kernel) rfl (.own (.own (.cap (j := 1) rfl (by first | exact Or.inl rfl | exact Or.inr rfl) rfl .nil))) (by decide +kernel) (di_enum rfl T.z_enumerate (da_cons (de_var 0 (pv 0)) da_nil)) (fun B => (dg_tup (n := 2) rfl (dgs_cons (dg_name (i := 0) (show List.Nodup (α := PySem.Str) ["house", "other", "line"] by decide +kernel) rfl (by first | exact Or.inl rfl | exact Or.inr rfl)) (dgs_cons (dg_name (i := 1) (show List.Nodup (α := PySem.Str) ["house", "other", "line"] by decide +kernel) rfl (by first | exact Or.inl rfl | exact Or.inr rfl)) dgs_nil)))) (fun B => (dts_one (dt_cmp (od_eq hr) (de_var 1 (pv 1)) (de_var 2 (pv 2)) (nomark _)))) (fun B => (de_var 0 (pv 0))))))) (fun ds Q L hl h => ?_)
  obtain ⟨ls, l, rfl, l3, h⟩ := h
  have ee : enumD 0 (ls.map lineD) = (List.range ls.length).map fun (i : Nat) => .tup [.int (i : Int), lineD (ls.getD i (0, 0))] := by
    rw [enum_rng lineD (0, 0)]
  show dColl _ _ _ (enumD 0 (ls.map lineD)) _ _ _
  rw [ee]
  refine dColl_pre (fun pre acc ρ => acc = (hsOf ls l pre.length).map D.int ∧ ∃ s1 s2 : Sl, ρ = [s1, s2, .val (lineD l)]) (fun acc ρ hN => ?_) (fun pre d post acc ρ Y e hN hY => ?_) _ ⟨rfl, _, _, rfl⟩
  · obtain ⟨rfl, _⟩ := hN
    rw [List.length_map, List.length_range]
    exact h
  · obtain ⟨rfl, s1, s2, rfl⟩ := hN
    obtain ⟨k, hk⟩ : ∃ k, k = pre.length := ⟨_, rfl⟩
    have hg : ((List.range ls.length).map fun (i : Nat) => D.tup [.int (i : Int), lineD (ls.getD i (0, 0))])[k]? = some d := by
      rw [e, hk, List.getElem?_append_right (Nat.le_refl _), Nat.sub_self]
      rfl
    have kl : k < ls.length := by
      have := (List.getElem?_eq_some_iff.mp hg).1
      simpa using this
    rw [List.getElem?_map, List.getElem?_range kl] at hg
    have hg : D.tup [.int (k : Int), lineD (ls.getD k (0, 0))] = d := by simpa using hg
    subst hg
    rw [← hk]
    have sn : hsOf ls l (pre ++ [D.tup [.int (k : Int), lineD (ls.getD k (0, 0))]]).length = hsOf ls l k ++ (if ls.getD k (0, 0) = l then [(k : Int)] else []) := by
      rw [List.length_append, List.length_singleton, ← hk]
      unfold hsOf
      rw [List.range_succ, List.filter_append, List.map_append, List.filter_cons]
      by_cases z : ls.getD k (0, 0) = l
      · rw [if_pos (decide_eq_true z), if_pos z]; rfl
      · rw [if_neg (by rw [decide_eq_true_eq]; exact z), if_neg z]; rfl
    refine ⟨rfl, ⟨shp_line _, shp_line _⟩, fun z => ?_, fun z => ?_⟩
    · have z : eqD (lineD (ls.getD k (0, 0))) (lineD l) = true := z
      rw [eqD_line] at z
      have z := of_decide_eq_true z
      refine ⟨?_, hY _ _ ⟨?_, _, _, rfl⟩⟩
      · rw [List.length_map]
        exact Nat.lt_of_le_of_lt (Nat.le_trans (hs_len _ _ _) (show k ≤ 6 by omega)) (by decide)
      · rw [sn, if_pos z, List.map_append]
        rfl
    · have z : eqD (lineD (ls.getD k (0, 0))) (lineD l) = false := z
      rw [eqD_line] at z
      have z := of_decide_eq_false z
      refine hY _ _ ⟨?_, _, _, rfl⟩
      rw [sn, if_neg z, List.append_nil]
def rI (m : Nat) : List Int := (List.range m).map fun (i : Nat) => (i : Int)
theorem rI_mem {m : Nat} {k : Int} (h : k ∈ rI m) : 0 ≤ k ∧ k < m := by
  obtain ⟨i, hi, rfl⟩ := List.mem_map.mp h
  have := List.mem_range.mp hi
  omega
theorem rI_is (m : Nat) : intsD 0 m = (rI m).map D.int := by
  rw [ints0]
  unfold rI
  rw [List.map_map]
  rfl
def gCT : DSp := fun ds Q => ∃ (m : Nat) (t : List Row) (ws os : List Int), ds = [.lst (t.map rowD), .lst ((rI m).map D.int), .lst (ws.map D.int), .lst (os.map D.int)] ∧ Lns m t ws os ∧ Q .non
theorem m_check_tried : MonoS gCT := fun ds P P' f ⟨m, t, ws, os, a, b, g⟩ => ⟨m, t, ws, os, a, b, f _ g⟩
theorem g_check_tried (T : Tx K mg) : FnOk P w K mg base CX0 1 T.f_check_tried T.fd_check_tried ["table", "houses", "weights", "others"] (spD K 4 gCT) := by
  refine fnD (k := 0) T.d_check_tried.F sc_check_tried (fun cdv A outer s H E hr => (dss_one (ds_for PassesOwn.never rfl (di_enum rfl T.z_enumerate (da_cons (de_var 0 (pv 0)) da_nil)) (dg_tup (n := 2) rfl (dgs_cons (dg_name (i := 4) sc_check_tried.nd rfl (by first | exact Or.inl rfl | exact Or.inr rfl)) (dgs_cons (dg_name (i := 5) sc_check_tried.nd rfl (by first | exact Or.inl rfl | exact Or.inr rfl)) dgs_nil))) (dss_cons (ds_if (PWD.pt (dw_and (dt_cmp (od_eq hr) (de_ix (de_var 2 (pv 2)) (de_var 4 (pv 4)) (fun _ _ => rfl)) de_int (nomark _)) (dw_and1 (dt_cmp (od_eq hr) (de_ix (de_var 3 (pv 3)) (de_var 4 (pv 4)) (fun _ _ => rfl)) de_int (nomark _))))) (dss_one ds_continue) dss_nil)
      (dss_one (ds_for PassesOwn.never rfl (di_list (de_var 1 (pv 1))) (dg_name (i := 6) sc_check_tried.nd rfl (by first | exact Or.inl rfl | exact Or.inr rfl)) (dss_one (ds_if (dt_cmp (od_eq hr) (de_ix (de_ix (de_var 5 (pv 5)) (de_var 6 (pv 6)) (fun _ _ => rfl)) de_int (fun _ _ => rfl)) de_int (nomark _)) (dss_one ds_never) dss_nil)))))))) (fun ds Q hl h => ?_)
  obtain ⟨m, t, ws, os, rfl, o, h⟩ := h
  show dLoop _ _ (enumD 0 (t.map rowD)) _ _
  rw [enum_rng rowD []]
  refine dLoop_rng _ (fun _ ρ => ∃ a b c : Sl, ρ = [.val (.lst (t.map rowD)), .val (.lst ((rI m).map D.int)), .val (.lst (ws.map D.int)), .val (.lst (os.map D.int)), a, b, c]) (fun ρ hN => ?_) (fun i ρ X hi hN hX => ?_) _ ⟨_, _, _, rfl⟩
  · obtain ⟨a, b, c, rfl⟩ := hN
    exact h
  · obtain ⟨a, b, c, rfl⟩ := hN
    obtain ⟨r, e1, e2, _, _⟩ := o.o.o.cl (h := 0) (i := i) (by have := o.o.o.o.m2; omega) hi
    have e4 : t.getD i [] = r := by rw [List.getD_eq_getElem?_getD, e1]; rfl
    rw [e4]
    have inner : ¬ (ws.getD i 0 = 0 ∧ os.getD i 0 = 0) → ∀ E : DEnds, (∀ ρ, (∃ a b c : Sl, ρ = [.val (.lst (t.map rowD)), .val (.lst ((rI m).map D.int)), .val (.lst (ws.map D.int)), .val (.lst (os.map D.int)), a, b, c]) → E.nx ρ) → dLoop (dgName 6) (dIfS (dB (dOp (gEq false) (dOp gIx (dOp gIx (dVar 5) (dVar 6)) (dC (D.int 0))) (dC (D.int 0)))) dNever dNext) ((rI m).map D.int) E [.val (.lst (t.map rowD)), .val (.lst ((rI m).map D.int)), .val (.lst (ws.map D.int)), .val (.lst (os.map D.int)), .val (.int i), .val (rowD r), c] := fun nz E hE => by
      refine dLoop_ind (fun ρ => ∃ c : Sl, ρ = [.val (.lst (t.map rowD)), .val (.lst ((rI m).map D.int)), .val (.lst (ws.map D.int)), .val (.lst (os.map D.int)), .val (.int i), .val (rowD r), c]) (fun ρ ⟨c, e⟩ => hE ρ ⟨_, _, c, e⟩) (fun d hd ρ Z hN hZ => ?_) _ ⟨_, rfl⟩
      obtain ⟨c, rfl⟩ := hN
      obtain ⟨k, hk, rfl⟩ := List.mem_map.mp hd
      have hb := rI_mem hk
      obtain ⟨r', f1, f2, f3, cc⟩ := o.o.o.cl (h := k.toNat) (i := i) (by omega) hi
      have er : r' = r := by rw [e1] at f1; cases f1; rfl
      subst er
      refine row_at (o.o.o.r _ f2) hb.1 hb.2 ⟨⟨rfl, rfl⟩, fun y => ?_, fun _ => hZ _ ⟨_, rfl⟩⟩
      have y : (at_ r' k.toNat).1 = 0 := by simpa [eqD_int] using y
      rw [f3] at y
      exact absurd ⟨y, nz⟩ (o.tr i hi k.toNat (by omega))
    refine ⟨rfl, ints_at (by rw [o.w.len]; exact hi) ⟨⟨rfl, rfl⟩, fun z1 => ints_at (by rw [o.u.len]; exact hi) ⟨⟨rfl, rfl⟩, fun z2 => hX _ ⟨_, _, _, rfl⟩, fun z2 => ?_⟩, fun z1 => ?_⟩⟩
    · have z2 : ¬ os.getD i 0 = 0 := by simpa [eqD_int] using z2
      exact inner (fun y => z2 y.2) _ hX
    · have z1 : ¬ ws.getD i 0 = 0 := by simpa [eqD_int] using z1
      exact Br.f (inner (fun y => z1 y.1) _ hX)

theorem q0B {n : Nat} : QB (n + 1) 0 := ⟨Bd.mono (m := 1) (by unfold Bd; decide) (by omega), Bd.mono (m := 1) (by unfold Bd; decide) (by omega)⟩
theorem q1B {n : Nat} : QB (n + 1) 1 := ⟨Bd.mono (m := 1) (by unfold Bd; decide) (by omega), Bd.mono (m := 1) (by unfold Bd; decide) (by omega)⟩
def Le1 (o l : Rat × Rat) : Prop := o.1 < l.1 ∨ (o.1 = l.1 ∧ o.2 ≤ l.2)
theorem Le1.trans {a b c : Rat × Rat} (h : Le1 a b) (k : Le1 b c) : Le1 a c := by
  unfold Le1 at *
  grind
def gFL : DSp := fun ds Q => ∃ ls : List (Rat × Rat), ds = [linesD ls] ∧ ls ≠ [] ∧ (∀ l ∈ ls, Ln l) ∧ ∀ l ∈ ls, (∀ o ∈ ls, Le1 o l) → Q (lineD l)
theorem m_first_line : MonoS gFL := fun ds P P' f ⟨ls, a, b, c, h⟩ => ⟨ls, a, b, c, fun l hl ho => f _ (h l hl ho)⟩
theorem g_first_line (T : Tx K mg) : FnOk P w K mg base CX0 2 T.f_first_line T.fd_first_line ["lines"] (spD K 1 gFL) := by
  refine fnD (k := 1) T.d_first_line.F sc_first_line (fun cdv A outer s H E hr => (dss_cons (ds_set (i := 1) sc_first_line.nd rfl (by first | exact Or.inl rfl | exact Or.inr rfl) (de_ix (de_var 0 (pv 0)) de_int (fun _ _ => rfl)))
      (dss_mid (ds_for PassesOwn.never rfl (di_list (de_var 0 (pv 0))) (dg_name (i := 2) sc_first_line.nd rfl (by first | exact Or.inl rfl | exact Or.inr rfl)) (dss_one (ds_if (PWD.pt (dw_or (dt_val (de_call (g_less T) m_less (hr.mono (by decide)) rfl T.d_less.m T.d_less.F.kp T.d_less.b (da_cons (de_ix (de_var 1 (pv 1)) de_int (fun _ _ => rfl)) (da_cons (de_ix (de_var 2 (pv 2)) de_int (fun _ _ => rfl)) da_nil)))) (dw_or1 (PWD.pt (dw_and (dt_cmp (od_eq hr) (de_ix (de_var 2 (pv 2)) de_int (fun _ _ => rfl)) (de_ix (de_var 1 (pv 1)) de_int (fun _ _ => rfl)) (nomark _)) (dw_and1 (dt_val (de_call (g_less T) m_less (hr.mono (by decide)) rfl T.d_less.m T.d_less.F.kp T.d_less.b (da_cons (de_ix (de_var 1 (pv 1)) de_int (fun _ _ => rfl)) (da_cons (de_ix (de_var 2 (pv 2)) de_int (fun _ _ => rfl)) da_nil)))))))))) (dss_one (ds_set (i := 1) sc_first_line.nd rfl (by first | exact Or.inl rfl | exact Or.inr rfl) (de_var 2 (pv 2)))) dss_nil)))
      (dss_one (ds_ret (de_var 1 (pv 1))))))) (fun ds Q hl h => ?_)
  obtain ⟨ls, rfl, ne, ok, h⟩ := h
  obtain ⟨l0, hl0⟩ : ∃ l0, ls[0]? = some l0 := by
    cases ls with
    | nil => exact absurd rfl ne
    | cons a r => exact ⟨a, rfl⟩
  refine opt_at (d := lineD l0) (Int.le_refl 0) (by rw [show (0 : Int).toNat = 0 from rfl, List.getElem?_map, hl0]; rfl) ?_
  refine ⟨fun ρ => ∃ l, l ∈ ls ∧ (∀ o ∈ ls, Le1 o l) ∧ ∃ a : Sl, ρ = [.val (linesD ls), .val (lineD l), a], ?_, ?_⟩
  · refine dLoop_pre (fun pre ρ => ∃ (c0 c1 : List (Rat × Rat)) (l : Rat × Rat), ls = c0 ++ c1 ∧ pre = c0.map lineD ∧ l ∈ ls ∧ (∀ o ∈ c0, Le1 o l) ∧ ∃ a : Sl, ρ = [.val (linesD ls), .val (lineD l), a]) (fun ρ hN => ?_) (fun pre d post ρ X e hN hX => ?_) _ ⟨[], ls, l0, rfl, rfl, List.mem_of_getElem? hl0, fun o ho => by simp at ho, _, rfl⟩
    · obtain ⟨c0, c1, l, e1, e2, hl, ho, a, rfl⟩ := hN
      have : c1 = [] := by
        have := congrArg List.length e2
        rw [e1] at this
        simp at this
        exact this
      subst this
      rw [List.append_nil] at e1
      subst e1
      exact ⟨l, hl, ho, _, rfl⟩
    · obtain ⟨c0, c1, l, e1, rfl, hl, ho, a, rfl⟩ := hN
      rw [e1, List.map_append] at e
      have e := List.append_cancel_left e
      cases c1 with
      | nil => simp at e
      | cons c c1 =>
        rw [List.map_cons] at e
        injection e with e3 e4
        subst e3
        have hc : c ∈ ls := by rw [e1]; simp
        have kc := ok c hc
        have kl := ok l hl
        have yes : Le1 l c → X [.val (linesD ls), .val (lineD c), .val (lineD c)] := fun z => hX _ ⟨c0 ++ [c], c1, c, by rw [e1]; simp, by simp, hc, fun o h' => by
          rcases List.mem_append.mp h' with h' | h'
          · exact (ho o h').trans z
          · rw [List.mem_singleton.mp h']; exact .inr ⟨rfl, Rat.le_refl⟩, _, rfl⟩
        have no : Le1 c l → X [.val (linesD ls), .val (lineD l), .val (lineD c)] := fun z => hX _ ⟨c0 ++ [c], c1, l, by rw [e1]; simp, by simp, hl, fun o h' => by
          rcases List.mem_append.mp h' with h' | h'
          · exact ho o h'
          · rw [List.mem_singleton.mp h']; exact z, _, rfl⟩
        refine ⟨rfl, lessQ (kl.a.mono (by decide)) (kc.a.mono (by decide)) (Br.di (fun z => Br.t (yes (.inl z))) (fun z => ⟨⟨shp_ratQ _, shp_ratQ _⟩, fun y => ?_, fun y => Br.f (no ?_)⟩))⟩
        · have y : eqD (ratQ c.1) (ratQ l.1) = true := y
          rw [ratQ_inj] at y
          have y := of_decide_eq_true y
          exact ⟨rfl, lessQ (kl.b.mono (by decide)) (kc.b.mono (by decide)) (Br.di (fun x => yes (.inr ⟨y.symm, by grind⟩)) (fun x => no (.inr ⟨y, by grind⟩)))⟩
        · have y : eqD (ratQ c.1) (ratQ l.1) = false := y
          rw [ratQ_inj] at y
          have y := of_decide_eq_false y
          exact .inl (by grind)
  · rintro _ ⟨l, hl, ho, a, rfl⟩
    exact h l hl ho
def stepD (s : Rat × (Rat × Rat)) : D := .tup [ratQ s.1, lineD s.2]
structure Sp (s : Rat × (Rat × Rat)) : Prop where
  t : QB 2000 s.1
  l : Ln s.2
def Bt (s o : Rat × (Rat × Rat)) : Prop := s.1 < o.1 ∨ (s.1 = o.1 ∧ o.2.2 < s.2.2)
def gIA : DSp := fun ds Q => ∃ s o : Rat × (Rat × Rat), ds = [stepD s, stepD o] ∧ Sp s ∧ Sp o ∧ ∀ b : Bool, (b = true → Bt s o) → (b = false → ¬ Bt s o) → Q (.bl b)
theorem m_is_ahead : MonoS gIA := fun ds P P' f ⟨s, o, a, b, c, h⟩ => ⟨s, o, a, b, c, fun x y z => f _ (h x y z)⟩
theorem g_is_ahead (T : Tx K mg) : FnOk P w K mg base CX0 2 T.f_is_ahead T.fd_is_ahead ["step", "other"] (spD K 2 gIA) := by
  refine fnD (k := 1) T.d_is_ahead.F sc_is_ahead (fun cdv A outer s H E hr => (dss_cons (ds_if (dt_cmp (od_eq hr) (de_ix (de_var 0 (pv 0)) de_int (fun _ _ => rfl)) (de_ix (de_var 1 (pv 1)) de_int (fun _ _ => rfl)) (nomark _)) (dss_one (ds_ret (de_call (g_less T) m_less (hr.mono (by decide)) rfl T.d_less.m T.d_less.F.kp T.d_less.b (da_cons (de_ix (de_ix (de_var 1 (pv 1)) de_int (fun _ _ => rfl)) de_int (fun _ _ => rfl)) (da_cons (de_ix (de_ix (de_var 0 (pv 0)) de_int (fun _ _ => rfl)) de_int (fun _ _ => rfl)) da_nil))))) dss_nil)
      (dss_one (ds_ret (de_call (g_less T) m_less (hr.mono (by decide)) rfl T.d_less.m T.d_less.F.kp T.d_less.b (da_cons (de_ix (de_var 0 (pv 0)) de_int (fun _ _ => rfl)) (da_cons (de_ix (de_var 1 (pv 1)) de_int (fun _ _ => rfl)) da_nil))))))) (fun ds Q hl h => ?_)
  obtain ⟨s, o, rfl, ks, ko, h⟩ := h
  refine ⟨⟨shp_ratQ _, shp_ratQ _⟩, fun y => ?_, fun y => ?_⟩
  · have y : eqD (ratQ s.1) (ratQ o.1) = true := y
    rw [ratQ_inj] at y
    have y := of_decide_eq_true y
    refine ⟨rfl, lessQ (ko.l.b.mono (by decide)) (ks.l.b.mono (by decide)) (h _ (fun z => .inr ⟨y, of_decide_eq_true z⟩) (fun z n => ?_))⟩
    have z := of_decide_eq_false z
    rcases n with n | n
    · grind
    · exact z n.2
  · have y : eqD (ratQ s.1) (ratQ o.1) = false := y
    rw [ratQ_inj] at y
    have y := of_decide_eq_false y
    refine ⟨rfl, lessQ (ks.t.mono (by decide)) (ko.t.mono (by decide)) (h _ (fun z => .inl (of_decide_eq_true z)) (fun z n => ?_))⟩
    have z := of_decide_eq_false z
    rcases n with n | n
    · exact z n
    · exact y n.1
def mt (l o : Rat × Rat) : Rat := (l.1 - o.1) / (o.2 - l.2)
def Be (l o o' : Rat × Rat) : Prop := mt l o < mt l o' ∨ (mt l o = mt l o' ∧ o'.2 ≤ o.2)
theorem Be.trans {l a b c : Rat × Rat} (h : Be l a b) (k : Be l b c) : Be l a c := by
  unfold Be at *
  grind
theorem step_inj {l : Rat × Rat} {o o' : Rat × Rat} (e : stepD (mt l o, o) = stepD (mt l o', o')) : o = o' := by
  have e : eqD (stepD (mt l o, o)) (stepD (mt l o', o')) = true := by rw [← e]; exact eqD_self (Shp.shp (n := 3) (.tup fun d hd => by
    simp only [List.mem_cons, List.not_mem_nil, or_false] at hd
    rcases hd with rfl | rfl
    · exact .pair
    · exact .tup fun d hd => by
        simp only [List.mem_cons, List.not_mem_nil, or_false] at hd
        rcases hd with rfl | rfl <;> exact .pair))
  have e : (eqD (ratQ (mt l o)) (ratQ (mt l o')) && (eqD (lineD o) (lineD o') && eqD (.tup []) (.tup []))) = true := e
  rw [Bool.and_eq_true, Bool.and_eq_true, eqD_line] at e
  exact of_decide_eq_true e.2.1
def Stp (ls c0 : List (Rat × Rat)) (l : Rat × Rat) (d : D) : Prop :=
  (d = .non ∧ ∀ o ∈ c0, l.2 < o.2 → ¬ mt l o < 1) ∨ ∃ o, o ∈ ls ∧ l.2 < o.2 ∧ mt l o < 1 ∧ d = stepD (mt l o, o) ∧ ∀ o' ∈ c0, l.2 < o'.2 → Be l o o'
theorem mt_B {l o : Rat × Rat} (hl : Ln l) (ho : Ln o) (h : l.2 < o.2) : QB 2000 (mt l o) := ((hl.a.sub ho.a).div (ho.b.sub hl.b) (by grind)).mono (by decide)
def gNS : DSp := fun ds Q => ∃ (ls : List (Rat × Rat)) (l : Rat × Rat), ds = [linesD ls, lineD l] ∧ (∀ l ∈ ls, Ln l) ∧ Ln l ∧ ∀ d, Stp ls ls l d → Q d
theorem m_next_step : MonoS gNS := fun ds P P' f ⟨ls, l, a, b, c, h⟩ => ⟨ls, l, a, b, c, fun d o => f _ (h d o)⟩
theorem g_next_step (T : Tx K mg) : FnOk P w K mg base CX0 4 T.f_next_step T.fd_next_step ["lines", "line"] (spD K 2 gNS) := by
  refine fnD (k := 3) T.d_next_step.F sc_next_step (fun cdv A outer s H E hr => (dss_cons (ds_set (i := 2) sc_next_step.nd rfl (by first | exact Or.inl rfl | exact Or.inr rfl) de_non)
      (dss_mid (ds_for PassesOwn.never rfl (di_list (de_var 0 (pv 0))) (dg_name (i := 3) sc_next_step.nd rfl (by first | exact Or.inl rfl | exact Or.inr rfl)) (dss_one (ds_if (dt_val (de_call (g_less T) m_less (hr.mono (by decide)) rfl T.d_less.m T.d_less.F.kp T.d_less.b (da_cons (de_ix (de_var 1 (pv 1)) de_int (fun _ _ => rfl)) (da_cons (de_ix (de_var 3 (pv 3)) de_int (fun _ _ => rfl)) da_nil)))) (dss_cons (ds_set (i := 4) sc_next_step.nd rfl (by first | exact Or.inl rfl | exact Or.inr rfl) (de_call (g_over T) m_over (hr.mono (by decide)) rfl T.d_over.m T.d_over.F.kp T.d_over.b (da_cons (de_call (g_minus T) m_minus (hr.mono (by decide)) rfl T.d_minus.m T.d_minus.F.kp T.d_minus.b (da_cons (de_ix (de_var 1 (pv 1)) de_int (fun _ _ => rfl)) (da_cons (de_ix (de_var 3 (pv 3)) de_int (fun _ _ => rfl)) da_nil))) (da_cons (de_call (g_minus T) m_minus (hr.mono (by decide)) rfl T.d_minus.m T.d_minus.F.kp T.d_minus.b (da_cons (de_ix (de_var 3 (pv 3)) de_int (fun _ _ => rfl)) (da_cons (de_ix (de_var 1 (pv 1)) de_int (fun _ _ => rfl)) da_nil))) da_nil))))
      (dss_one (ds_if (PWD.pt (dw_and (dt_val (de_call (g_less T) m_less (hr.mono (by decide)) rfl T.d_less.m T.d_less.F.kp T.d_less.b (da_cons (de_var 4 (pv 4)) (da_cons (de_tup (da_cons de_int (da_cons de_int da_nil))) da_nil)))) (dw_and1 (PWD.pt (dw_or (dt_cmp od_isN (de_var 2 (pv 2)) de_non (nomark _)) (dw_or1 (dt_val (de_call (g_is_ahead T) m_is_ahead (hr.mono (by decide)) rfl T.d_is_ahead.m T.d_is_ahead.F.kp T.d_is_ahead.b (da_cons (de_tup (da_cons (de_var 4 (pv 4)) (da_cons (de_var 3 (pv 3)) da_nil))) (da_cons (de_var 2 (pv 2)) da_nil)))))))))) (dss_one (ds_set (i := 2) sc_next_step.nd rfl (by first | exact Or.inl rfl | exact Or.inr rfl) (de_tup (da_cons (de_var 4 (pv 4)) (da_cons (de_var 3 (pv 3)) da_nil))))) dss_nil))) dss_nil)))
      (dss_one (ds_ret (de_var 2 (pv 2))))))) (fun ds Q hl h => ?_)
  obtain ⟨ls, l, rfl, ok, kl, h⟩ := h
  refine ⟨fun ρ => ∃ d, Stp ls ls l d ∧ ∃ a b : Sl, ρ = [.val (linesD ls), .val (lineD l), .val d, a, b], ?_, ?_⟩
  · refine dLoop_pre (fun pre ρ => ∃ (c0 c1 : List (Rat × Rat)) (d : D), ls = c0 ++ c1 ∧ pre = c0.map lineD ∧ Stp ls c0 l d ∧ ∃ a b : Sl, ρ = [.val (linesD ls), .val (lineD l), .val d, a, b]) (fun ρ hN => ?_) (fun pre d post ρ X e hN hX => ?_) _ ⟨[], ls, .non, rfl, rfl, .inl ⟨rfl, fun o ho => by simp at ho⟩, _, _, rfl⟩
    · obtain ⟨c0, c1, d, e1, e2, hs, a, b, rfl⟩ := hN
      have : c1 = [] := by
        have := congrArg List.length e2
        rw [e1] at this
        simp at this
        exact this
      subst this
      rw [List.append_nil] at e1
      rw [← e1] at hs
      exact ⟨d, hs, _, _, rfl⟩
    · obtain ⟨c0, c1, dd, e1, rfl, hs, a, b, rfl⟩ := hN
      rw [e1, List.map_append] at e
      have e := List.append_cancel_left e
      cases c1 with
      | nil => simp at e
      | cons c c1 =>
        rw [List.map_cons] at e
        injection e with e3 e4
        subst e3
        have hc : c ∈ ls := by rw [e1]; simp
        have kc := ok c hc
        have go : ∀ (d' : D) (a b : Sl), Stp ls (c0 ++ [c]) l d' → X [.val (linesD ls), .val (lineD l), .val d', a, b] := fun d' a b hs' => hX _ ⟨c0 ++ [c], c1, d', by rw [e1]; simp, by simp, hs', _, _, rfl⟩
        have keep : (l.2 < c.2 → (dd = .non → ¬ mt l c < 1) ∧ ∀ o, dd = stepD (mt l o, o) → o ∈ ls → l.2 < o.2 → mt l o < 1 → Be l o c) → Stp ls (c0 ++ [c]) l dd := fun hk => by
          rcases hs with ⟨ed, ho⟩ | ⟨o, om, os, o1, ed, ho⟩
          · refine .inl ⟨ed, fun o' h' hl => ?_⟩
            rcases List.mem_append.mp h' with h' | h'
            · exact ho o' h' hl
            · have : o' = c := List.mem_singleton.mp h'
              subst this
              exact (hk hl).1 ed
          · refine .inr ⟨o, om, os, o1, ed, fun o' h' hl => ?_⟩
            rcases List.mem_append.mp h' with h' | h'
            · exact ho o' h' hl
            · have : o' = c := List.mem_singleton.mp h'
              subst this
              exact (hk hl).2 o ed om os o1
        refine ⟨rfl, lessQ (kl.b.mono (by decide)) (kc.b.mono (by decide)) (Br.di (fun z => ?_) (fun z => go _ _ _ (keep fun y => absurd y z)))⟩
        have bm := mt_B kl kc z
        refine ⟨rfl, minusQ (kl.a.mono (by decide)) (kc.a.mono (by decide)) ⟨rfl, minusQ (kc.b.mono (by decide)) (kl.b.mono (by decide)) ⟨rfl, overQ ((kl.a.sub kc.a).mono (by decide)) ((kc.b.sub kl.b).mono (by decide)) (by grind) ?_⟩⟩⟩
        rw [show (l.1 - c.1) / (c.2 - l.2) = mt l c from rfl]
        refine ⟨sz, rfl, lessQ (q := 1) (bm.mono (by decide)) q1B (Br.di (fun m1 => ?_) (fun m1 => ?_))⟩
        · have take : (∀ o, o ∈ ls → l.2 < o.2 → dd = stepD (mt l o, o) → Be l c o) → Stp ls (c0 ++ [c]) l (stepD (mt l c, c)) := fun hk => by
            refine .inr ⟨c, hc, z, m1, rfl, fun o' h' hl => ?_⟩
            rcases List.mem_append.mp h' with h' | h'
            · rcases hs with ⟨e, ho⟩ | ⟨o, om, os, o1, e, ho⟩
              · have := ho o' h' hl
                exact .inl (by grind)
              · exact (hk o om os e).trans (ho o' h' hl)
            · rw [List.mem_singleton.mp h']
              exact .inr ⟨rfl, Rat.le_refl⟩
          rcases hs with ⟨e, ho⟩ | ⟨o, om, os, o1, e, ho⟩
          · subst e
            exact Br.t (Br.t ⟨sz, go _ _ _ (take fun o _ _ e => by cases e)⟩)
          · subst e
            have ko := ok o om
            refine Br.f ⟨sz, rfl, (mt l c, c), (mt l o, o), rfl, ⟨bm, kc⟩, ⟨mt_B kl ko os, ko⟩, fun b ht hf => ?_⟩
            cases b with
            | true =>
              refine Br.t ⟨sz, go _ _ _ (take fun o' _ _ e => ?_)⟩
              have : o = o' := step_inj e
              rw [← this]
              rcases ht rfl with y | y
              · exact .inl y
              · exact .inr ⟨y.1, by have := y.2; grind⟩
            | false =>
              refine Br.f (go _ _ _ ?_)
              refine .inr ⟨o, om, os, o1, rfl, fun o' h' hl => ?_⟩
              rcases List.mem_append.mp h' with h' | h'
              · exact ho o' h' hl
              · rw [List.mem_singleton.mp h']
                have n := hf rfl
                unfold Bt at n
                unfold Be
                grind
        · refine Br.f (go _ _ _ (keep fun _ => ⟨fun _ => m1, fun o _ _ _ o1 => .inl ?_⟩))
          grind
  · rintro _ ⟨d, hs, a, b, rfl⟩
    exact h d hs

def ht (l : Rat × Rat) (x : Rat) : Rat := l.1 + x * l.2
def Top (ls : List (Rat × Rat)) (l : Rat × Rat) (x : Rat) : Prop := l ∈ ls ∧ (0 ≤ x ∧ x ≤ 1) ∧ ∀ o ∈ ls, ht o x ≤ ht l x
theorem top_next {ls : List (Rat × Rat)} {l : Rat × Rat} {x : Rat} (h : Top ls l x) {o : Rat × Rat} (om : o ∈ ls) (os : l.2 < o.2) (o1 : mt l o < 1) (hall : ∀ o' ∈ ls, l.2 < o'.2 → mt l o ≤ mt l o') : Top ls o (mt l o) := by
  have meet : ∀ p : Rat × Rat, l.2 < p.2 → mt l p * (p.2 - l.2) = l.1 - p.1 := fun p hp => by
    unfold mt
    grind
  have xle : x ≤ mt l o := by
    have h1 := h.2.2 o om
    unfold ht at h1
    have h2 := meet o os
    rcases (Rat.le_total : x ≤ mt l o ∨ mt l o ≤ x) with c | c
    · exact c
    · have := Rat.mul_le_mul_of_nonneg_right c (show 0 ≤ o.2 - l.2 by grind)
      have e : x * (o.2 - l.2) = mt l o * (o.2 - l.2) := by grind
      have : x = mt l o := by
        have hn : o.2 - l.2 ≠ 0 := by grind
        grind
      rw [this]
      exact Rat.le_refl
  refine ⟨om, ⟨by have := h.2.1.1; grind, by grind⟩, fun p pm => ?_⟩
  have hp := h.2.2 p pm
  have e := meet o os
  have eo : ht o (mt l o) = ht l (mt l o) := by unfold ht; grind
  rw [eo]
  unfold ht at hp ⊢
  by_cases z : l.2 < p.2
  · have h1 := hall p pm z
    have h2 := meet p z
    have := Rat.mul_le_mul_of_nonneg_right h1 (show 0 ≤ p.2 - l.2 by grind)
    grind
  · have := Rat.mul_le_mul_of_nonneg_right xle (show 0 ≤ l.2 - p.2 by grind)
    grind
def slopeOf : Sl → Rat
  | .val (.tup [_, .tup [.int n, .int d]]) => (n : Rat) / (d : Rat)
  | _ => 0
def above (ls : List (Rat × Rat)) (y : Rat) : Nat := (ls.filter fun o => decide (y < o.2)).length
theorem above_lt {ls : List (Rat × Rat)} {o : Rat × Rat} (om : o ∈ ls) {y : Rat} (h : y < o.2) : above ls o.2 < above ls y := by
  unfold above
  induction ls with
  | nil => simp at om
  | cons a r ih =>
    have mono : (r.filter fun p => decide (o.2 < p.2)).length ≤ (r.filter fun p => decide (y < p.2)).length := by
      clear om ih
      induction r with
      | nil => simp
      | cons b r ih =>
        rw [List.filter_cons, List.filter_cons]
        by_cases z : o.2 < b.2
        · rw [if_pos (decide_eq_true z), if_pos (decide_eq_true (by grind))]
          simp only [List.length_cons]
          omega
        · rw [if_neg (by rw [decide_eq_true_eq]; exact z)]
          split
          · simp only [List.length_cons]; omega
          · exact ih
    rw [List.filter_cons, List.filter_cons]
    rcases List.mem_cons.mp om with rfl | om
    · rw [if_neg (by rw [decide_eq_true_eq]; grind), if_pos (decide_eq_true h)]
      simp only [List.length_cons]
      omega
    · have ih := ih om
      by_cases z : o.2 < a.2
      · rw [if_pos (decide_eq_true z), if_pos (decide_eq_true (by grind))]
        simp only [List.length_cons]
        omega
      · rw [if_neg (by rw [decide_eq_true_eq]; exact z)]
        split
        · simp only [List.length_cons]; omega
        · exact ih
theorem above_le (ls : List (Rat × Rat)) (y : Rat) : above ls y ≤ ls.length := List.length_filter_le _ _
abbrev Seg := Rat × Rat × (Rat × Rat)
def IsStep (ls : List (Rat × Rat)) (l o : Rat × Rat) : Prop := o ∈ ls ∧ l.2 < o.2 ∧ mt l o < 1 ∧ ∀ o' ∈ ls, l.2 < o'.2 → Be l o o'
def NoStep (ls : List (Rat × Rat)) (l : Rat × Rat) : Prop := ∀ o ∈ ls, l.2 < o.2 → ¬ mt l o < 1
def Chain (ls : List (Rat × Rat)) : Rat → Rat × Rat → List Seg → Prop
  | _, _, [] => False
  | x, l, r :: rs => r.1 = x ∧ r.2.2 = l ∧ ((rs = [] ∧ r.2.1 = 1 ∧ NoStep ls l) ∨ ∃ o, IsStep ls l o ∧ r.2.1 = mt l o ∧ Chain ls (mt l o) o rs)
def segR (ls : List (Rat × Rat)) (s : Seg) : D × D × List D := (ratQ s.1, ratQ s.2.1, (hsOf ls s.2.2 ls.length).map D.int)
def gStr : DSpB := fun ds _ L => ∃ ls : List (Rat × Rat), ds = [linesD ls] ∧ ls ≠ [] ∧ ls.length ≤ 6 ∧ (∀ l ∈ ls, Ln l) ∧ ∀ (l0 : Rat × Rat) (rs : List Seg), l0 ∈ ls → (∀ o ∈ ls, Le1 o l0) → rs.length ≤ 10 → Chain ls 0 l0 rs → L (.lst ((rs.map (segR ls)).map rwO))
theorem mB_stretches : MonoB gStr := fun ds P P' L L' f fl ⟨ls, a, b, c, d, h⟩ => ⟨ls, a, b, c, d, fun l rs x y z w => fl _ (h l rs x y z w)⟩
theorem gB_stretches (T : Tx K mg) : FnOk P w K mg base CX0 5 T.f_stretches T.fd_stretches ["lines"] (spDB K 1 gStr) := by
  refine fnDB (k := 4) T.d_stretches.F sc_stretches (fun cdv A outer s H E hr => (psb_cons (ds_newR (i := 1) sc_stretches.nd rfl (by first | exact Or.inl rfl | exact Or.inr rfl))
      (psb_cons (ds_set (i := 2) sc_stretches.nd rfl (by first | exact Or.inl rfl | exact Or.inr rfl) (de_tup (da_cons de_int (da_cons de_int da_nil))))
      (psb_cons (ds_set (i := 3) sc_stretches.nd rfl (by first | exact Or.inl rfl | exact Or.inr rfl) (de_call (g_first_line T) m_first_line (hr.mono (by decide)) rfl T.d_first_line.m T.d_first_line.F.kp T.d_first_line.b (da_cons (de_var 0 (pv 0)) da_nil)))
      (psb_cons (ds_set (i := 4) sc_stretches.nd rfl (by first | exact Or.inl rfl | exact Or.inr rfl) (de_call (g_next_step T) m_next_step (hr.mono (by decide)) rfl T.d_next_step.m T.d_next_step.F.kp T.d_next_step.b (da_cons (de_var 0 (pv 0)) (da_cons (de_var 3 (pv 3)) da_nil))))
      (psb_mid (ds_while PassesOwn.never (dt_cmp od_notN (de_var 4 (pv 4)) de_non (nomark _)) (dss_cons (ds_appR (i := 1) (gN_houses_on T) mN_houses_on (hr.mono (by decide)) rfl T.d_houses_on.m T.d_houses_on.F.kp T.d_houses_on.b (pv 1) (de_var 2 (pv 2)) (de_ix (de_var 4 (pv 4)) de_int (fun _ _ => rfl)) (da_cons (de_var 0 (pv 0)) (da_cons (de_var 3 (pv 3)) da_nil)))
      (dss_cons (ds_set (i := 2) sc_stretches.nd rfl (by first | exact Or.inl rfl | exact Or.inr rfl) (de_ix (de_var 4 (pv 4)) de_int (fun _ _ => rfl)))
      (dss_cons (ds_set (i := 3) sc_stretches.nd rfl (by first | exact Or.inl rfl | exact Or.inr rfl) (de_ix (de_var 4 (pv 4)) de_int (fun _ _ => rfl)))
      (dss_one (ds_set (i := 4) sc_stretches.nd rfl (by first | exact Or.inl rfl | exact Or.inr rfl) (de_call (g_next_step T) m_next_step (hr.mono (by decide)) rfl T.d_next_step.m T.d_next_step.F.kp T.d_next_step.b (da_cons (de_var 0 (pv 0)) (da_cons (de_var 3 (pv 3)) da_nil)))))))))
      (psb_cons (ds_appR (i := 1) (gN_houses_on T) mN_houses_on (hr.mono (by decide)) rfl T.d_houses_on.m T.d_houses_on.F.kp T.d_houses_on.b (pv 1) (de_var 2 (pv 2)) (de_tup (da_cons de_int (da_cons de_int da_nil))) (da_cons (de_var 0 (pv 0)) (da_cons (de_var 3 (pv 3)) da_nil)))
      (psb_own (pv 1))))))))) (fun ds Q L hl h => ?_)
  obtain ⟨ls, rfl, ne, l6, ok, h⟩ := h
  refine ⟨sz, rfl, ls, rfl, ne, ok, fun l0 m0 t0 => ?_⟩
  refine ⟨rfl, ls, l0, rfl, ok, ok l0 m0, fun d0 s0 => ?_⟩
  have sn : ∀ (fr : List Seg) (s : Seg), ((fr ++ [s]).map (segR ls)).map rwO = (fr.map (segR ls)).map rwO ++ [rwO (segR ls s)] := fun fr s => by
    rw [List.map_append, List.map_append]
    rfl
  have lf : ∀ fr : List Seg, fr.length ≤ 6 → ((fr.map (segR ls)).map rwO).length < sizeLine := fun fr hf => by
    rw [List.length_map, List.length_map]
    exact Nat.lt_of_le_of_lt hf (by decide)
  refine ⟨fun ρ => ∃ (fr : List Seg) (l : Rat × Rat) (x : Rat) (d : D), fr.length ≤ 6 ∧ NoStep ls l ∧ (∀ rs, Chain ls x l rs → Chain ls 0 l0 (fr ++ rs)) ∧ ρ = [.val (linesD ls), .obj (.lst ((fr.map (segR ls)).map rwO)), .val (ratQ x), .val (lineD l), .val d], ?_, ?_⟩
  · refine dWhile_ind (fun ρ => ∃ (fr : List Seg) (l : Rat × Rat) (x : Rat) (d : D), fr.length + above ls l.2 ≤ 6 ∧ (∀ rs, Chain ls x l rs → Chain ls 0 l0 (fr ++ rs)) ∧ Stp ls ls l d ∧ ρ = [.val (linesD ls), .obj (.lst ((fr.map (segR ls)).map rwO)), .val (ratQ x), .val (lineD l), .val d]) (fun ρ => above ls (slopeOf (slot ρ 3))) (fun ρ X hN hX => ?_) _ ⟨[], l0, 0, d0, by have := above_le ls l0.2; simp; omega, fun rs h => h, s0, rfl⟩
    obtain ⟨fr, l, x, d, rl, hc, hs, rfl⟩ := hN
    rcases hs with ⟨e, hn⟩ | ⟨o, om, os, o1, e, ho⟩
    · subst e
      exact Br.f ⟨fr, l, x, _, by omega, hn, hc, rfl⟩
    · subst e
      have al := above_lt om os
      have ex : slopeOf (.val (lineD l)) = l.2 := self l.2
      have eo : slopeOf (.val (lineD o)) = o.2 := self o.2
      refine Br.t ⟨_, rfl, lf fr (by omega), rfl, ls, l, rfl, l6, rfl, ?_⟩
      refine ⟨rfl, ls, o, rfl, ok, ok o om, fun d' s' => ?_⟩
      refine hX _ ⟨fr ++ [(x, mt l o, l)], o, mt l o, d', ?_, fun rs hr => ?_, s', ?_⟩ ?_
      · rw [List.length_append, List.length_singleton]
        omega
      · rw [List.append_assoc]
        exact hc _ ⟨rfl, rfl, .inr ⟨o, ⟨om, os, o1, ho⟩, rfl, hr⟩⟩
      · rw [sn]
        rfl
      · show above ls (slopeOf (.val (lineD o))) < above ls (slopeOf (.val (lineD l)))
        rw [ex, eo]
        exact al
  · rintro _ ⟨fr, l, x, d, rl, hn, hc, rfl⟩
    refine ⟨_, rfl, lf fr rl, sz, rfl, ls, l, rfl, l6, rfl, ?_⟩
    have := h l0 (fr ++ [(x, 1, l)]) m0 t0 (by rw [List.length_append, List.length_singleton]; omega) (hc _ ⟨rfl, rfl, .inl ⟨rfl, rfl, hn⟩⟩)
    rw [sn] at this
    exact this
def gStrD : DSp := fun ds Q => ∃ ls : List (Rat × Rat), ds = [linesD ls] ∧ ls ≠ [] ∧ ls.length ≤ 6 ∧ (∀ l ∈ ls, Ln l) ∧ ∀ (l0 : Rat × Rat) (rs : List Seg), l0 ∈ ls → (∀ o ∈ ls, Le1 o l0) → rs.length ≤ 10 → Chain ls 0 l0 rs → Q (fzO (.lst ((rs.map (segR ls)).map rwO)))

def lsO (m : Nat) (t : List Row) (ws os : List Int) : List (Rat × Rat) := (List.range m).map (stL t ws os)
structure Told (ls : List (Rat × Rat)) (rs : List Seg) : Prop where
  c : ∃ l0, l0 ∈ ls ∧ (∀ o ∈ ls, Le1 o l0) ∧ Chain ls 0 l0 rs
  n : rs.length ≤ 10
def gFsB : DSpB := fun ds _ L => ∃ (m : Nat) (t : List Row) (ws os : List Int), ds = [.lst (t.map rowD), .lst (ws.map D.int), .lst (os.map D.int)] ∧ Lns m t ws os ∧ ∀ rs, Told (lsO m t ws os) rs → L (.lst ((rs.map (segR (lsO m t ws os))).map rwO))
theorem mB_firsts : MonoB gFsB := fun ds P P' L L' f fl ⟨m, t, ws, os, a, b, h⟩ => ⟨m, t, ws, os, a, b, fun rs x => fl _ (h rs x)⟩
theorem gB_firsts (T : Tx K mg) : FnOk P w K mg base CX0 12 T.f_firsts T.fd_firsts ["table", "weights", "others"] (spDB K 3 gFsB) := by
  refine fnDB (k := 11) T.d_firsts.F sc_firsts (fun cdv A outer s H E hr => (psb_cons (ds_expr (de_call (g_check_standard T) m_check_standard (hr.mono (by decide)) rfl T.d_check_standard.m T.d_check_standard.F.kp T.d_check_standard.b (da_cons (de_var 0 (pv 0)) (da_cons (de_var 1 (pv 1)) da_nil))))
      (psb_cons (ds_expr (de_call (g_check_standard T) m_check_standard (hr.mono (by decide)) rfl T.d_check_standard.m T.d_check_standard.F.kp T.d_check_standard.b (da_cons (de_var 0 (pv 0)) (da_cons (de_var 2 (pv 2)) da_nil))))
      (psb_cons (ds_set (i := 3) sc_firsts.nd rfl (by first | exact Or.inl rfl | exact Or.inr rfl) (de_frz (dl_listR rfl rfl T.z_list rfl T.z_range (da_cons (de_call (g_houses_of T) m_houses_of (hr.mono (by decide)) rfl T.d_houses_of.m T.d_houses_of.F.kp T.d_houses_of.b (da_cons (de_var 0 (pv 0)) da_nil)) da_nil))))
      (psb_cons (ds_expr (de_call (g_check_tried T) m_check_tried (hr.mono (by decide)) rfl T.d_check_tried.m T.d_check_tried.F.kp T.d_check_tried.b (da_cons (de_var 0 (pv 0)) (da_cons (de_var 3 (pv 3)) (da_cons (de_var 1 (pv 1)) (da_cons (de_var 2 (pv 2)) da_nil))))))
      (psb_retB (gB_stretches T) mB_stretches (hr.mono (by decide)) rfl T.d_stretches.m T.d_stretches.F.kp T.d_stretches.b (da_cons (de_frz (PCD.pld (dl_comp (N' := ["house", "table", "weights", "others"]) rfl rfl (by decide +kernel) rfl (.own (.cap (j := 0) rfl (by first | exact Or.inl rfl | exact Or.inr rfl) rfl (.cap (j := 1) rfl (by first | exact Or.inl rfl | exact Or.inr rfl) rfl (.cap (j := 2) rfl (by first | exact Or.inl rfl | exact Or.inr rfl) rfl .nil)))) (by decide +kernel) (di_list (de_var 3 (pv 3))) (fun B => (dg_name (i := 0) (show List.Nodup (α := PySem.Str) ["house", "table", "weights", "others"] by decide +kernel) rfl (by first | exact Or.inl rfl | exact Or.inr rfl))) (fun B => dts_nil) (fun B => (de_call (g_line_of T) m_line_of (hr.mono (by decide)) rfl T.d_line_of.m T.d_line_of.F.kp T.d_line_of.b (da_cons (de_var 1 (pv 1)) (da_cons (de_var 0 (pv 0)) (da_cons (de_var 2 (pv 2)) (da_cons (de_var 3 (pv 3)) da_nil))))))))) da_nil))))))) (fun ds Q L hl h => ?_)
  obtain ⟨m, t, ws, os, rfl, o, h⟩ := h
  have lt : (t.map rowD).length = t.length := List.length_map ..
  have l30 := o.o.o.l
  have m3 := o.o.m6
  have m2 := o.o.o.o.m2
  refine ⟨rfl, ws, rfl, by rw [lt]; exact o.w, by rw [lt]; exact l30, ?_⟩
  refine ⟨rfl, os, rfl, by rw [lt]; exact o.u, by rw [lt]; exact l30, ?_⟩
  refine ⟨rfl, tbl_houses o.o.o.o ⟨⟨by omega, by omega⟩, ?_⟩⟩
  have e0 : intsD 0 ((m : Int)).toNat = (rI m).map D.int := by rw [Int.toNat_natCast, rI_is]
  rw [e0]
  refine ⟨rfl, m, t, ws, os, rfl, o, ?_⟩
  refine dColl_map (fun d => match d with | .int i => lineD (stL t ws os i.toNat) | _ => .non) (fun ρ => ∃ a : Sl, ρ = [a, .val (.lst (t.map rowD)), .val (.lst (ws.map D.int)), .val (.lst (os.map D.int))]) (by rw [List.length_map]; unfold rI; rw [List.length_map, List.length_range]; exact Nat.le_trans m3 (by decide)) (fun d hd ρ Y Z hN hY => ?_) _ ⟨_, rfl⟩ ?_
  · obtain ⟨a, rfl⟩ := hN
    obtain ⟨i, hi, rfl⟩ := List.mem_map.mp hd
    exact Br.t ⟨rfl, m, t, i, ws, os, rfl, o, rI_mem hi, hY _ ⟨_, rfl⟩⟩
  · have el : ((rI m).map D.int).map (fun d => match d with | .int i => lineD (stL t ws os i.toNat) | _ => .non) = ((List.range m).map (stL t ws os)).map lineD := by
      unfold rI
      rw [List.map_map, List.map_map, List.map_map]
      apply List.map_congr_left
      intro i _
      show lineD (stL t ws os ((i : Int)).toNat) = lineD (stL t ws os i)
      rw [Int.toNat_natCast]
    rw [el]
    refine ⟨rfl, (List.range m).map (stL t ws os), rfl, ?_, by rw [List.length_map, List.length_range]; exact m3, fun l hl => ?_, fun l0 rs a b c e => h rs ⟨⟨l0, a, b, e⟩, c⟩⟩
    · intro z
      have := congrArg List.length z
      rw [List.length_map, List.length_range] at this
      simp at this
      omega
    · obtain ⟨i, hi, rfl⟩ := List.mem_map.mp hl
      exact stL_ok o (List.mem_range.mp hi)

def TopR (ls : List (Rat × Rat)) (l : Rat × Rat) (x : Rat) : Prop := l ∈ ls ∧ ∀ o ∈ ls, ht o x < ht l x ∨ (ht o x = ht l x ∧ o.2 ≤ l.2)
theorem ht_mt {l o : Rat × Rat} (h : l.2 < o.2) (y : Rat) : ht l y - ht o y = (mt l o - y) * (o.2 - l.2) := by
  have m : mt l o * (o.2 - l.2) = l.1 - o.1 := by
    unfold mt
    grind
  unfold ht
  grind
theorem ht_sl (l o : Rat × Rat) (x y : Rat) : ht l y - ht o y = (ht l x - ht o x) + (y - x) * (l.2 - o.2) := by
  unfold ht
  grind
theorem TopR.start {ls : List (Rat × Rat)} {l0 : Rat × Rat} (m : l0 ∈ ls) (t : ∀ o ∈ ls, Le1 o l0) : TopR ls l0 0 := ⟨m, fun o ho => by
  have := t o ho
  unfold Le1 at this
  unfold ht
  grind⟩
theorem TopR.lt {ls : List (Rat × Rat)} {l o : Rat × Rat} {x : Rat} (h : TopR ls l x) (om : o ∈ ls) (os : l.2 < o.2) : x < mt l o := by
  have e := ht_mt os x
  have h1 : ht o x < ht l x := by
    rcases h.2 o om with z | z
    · exact z
    · have := z.2; grind
  rcases (Rat.le_total : x ≤ mt l o ∨ mt l o ≤ x) with c | c
  · rcases Rat.le_iff_lt_or_eq.mp c with c | c
    · exact c
    · rw [← c] at e
      grind
  · have : (x - mt l o) * (o.2 - l.2) ≥ 0 := Rat.mul_nonneg (by grind) (by grind)
    grind
theorem TopR.next {ls : List (Rat × Rat)} {l o : Rat × Rat} {x : Rat} (h : TopR ls l x) (s : IsStep ls l o) : TopR ls o (mt l o) := by
  obtain ⟨om, os, o1, hb⟩ := s
  have xl := h.lt om os
  have e0 := ht_mt os (mt l o)
  refine ⟨om, fun o' h' => ?_⟩
  by_cases c : l.2 < o'.2
  · have e1 := ht_mt c (mt l o)
    rcases hb o' h' c with z | z
    · have : 0 < (mt l o' - mt l o) * (o'.2 - l.2) := Rat.mul_pos (by grind) (by grind)
      left
      grind
    · right
      rw [← z.1] at e1
      refine ⟨by grind, z.2⟩
  · have e1 := ht_sl l o' x (mt l o)
    have : 0 ≤ (mt l o - x) * (l.2 - o'.2) := Rat.mul_nonneg (by grind) (by grind)
    have h1 : ht o' x ≤ ht l x := by
      rcases h.2 o' h' with z | z <;> grind
    grind
structure SegOk (ls : List (Rat × Rat)) (s : Seg) : Prop where
  t : TopR ls s.2.2 s.1
  lt : s.1 < s.2.1
  b0 : 0 ≤ s.1
  b1 : s.2.1 ≤ 1
  up : ∀ o ∈ ls, s.2.2.2 < o.2 → s.2.1 ≤ mt s.2.2 o
theorem SegOk.le {ls : List (Rat × Rat)} {s : Seg} (h : SegOk ls s) {y : Rat} (y0 : s.1 ≤ y) (y1 : y ≤ s.2.1) {o : Rat × Rat} (om : o ∈ ls) : ht o y ≤ ht s.2.2 y := by
  by_cases c : s.2.2.2 < o.2
  · have e1 := ht_mt c y
    have u := h.up o om c
    have : 0 ≤ (mt s.2.2 o - y) * (o.2 - s.2.2.2) := Rat.mul_nonneg (by grind) (by grind)
    grind
  · have e1 := ht_sl s.2.2 o s.1 y
    have : 0 ≤ (y - s.1) * (s.2.2.2 - o.2) := Rat.mul_nonneg (by grind) (by grind)
    have h1 : ht o s.1 ≤ ht s.2.2 s.1 := by
      rcases h.t.2 o om with z | z <;> grind
    grind
theorem SegOk.lt' {ls : List (Rat × Rat)} {s : Seg} (h : SegOk ls s) {y : Rat} (y0 : s.1 < y) (y1 : y < s.2.1) {o : Rat × Rat} (om : o ∈ ls) (ne : o ≠ s.2.2) : ht o y < ht s.2.2 y := by
  by_cases c : s.2.2.2 < o.2
  · have e1 := ht_mt c y
    have u := h.up o om c
    have : 0 < (mt s.2.2 o - y) * (o.2 - s.2.2.2) := Rat.mul_pos (by grind) (by grind)
    grind
  · have e1 := ht_sl s.2.2 o s.1 y
    by_cases d : o.2 = s.2.2.2
    · have h1 : ht o s.1 < ht s.2.2 s.1 := by
        rcases h.t.2 o om with z | z
        · exact z
        · exfalso
          apply ne
          have z1 := z.1
          unfold ht at z1
          rw [d] at z1
          exact Prod.ext (by grind) d
      rw [d] at e1
      grind
    · have : 0 < (y - s.1) * (s.2.2.2 - o.2) := Rat.mul_pos (by grind) (by grind)
      have h1 : ht o s.1 ≤ ht s.2.2 s.1 := by
        rcases h.t.2 o om with z | z <;> grind
      grind
theorem Chain.ok {ls : List (Rat × Rat)} : ∀ {rs : List Seg} {x : Rat} {l : Rat × Rat}, Chain ls x l rs → TopR ls l x → 0 ≤ x → x < 1 → ∀ s ∈ rs, SegOk ls s
  | [], _, _, h, _, _, _, s, hs => by simp at hs
  | r :: rs, x, l, h, t, x0, x1, s, hs => by
    obtain ⟨e1, e2, h⟩ := h
    rcases List.mem_cons.mp hs with rfl | hs
    · rcases h with ⟨_, e3, hn⟩ | ⟨o, st, e3, _⟩
      · refine ⟨by rw [e1, e2]; exact t, by rw [e1, e3]; exact x1, by rw [e1]; exact x0, by rw [e3]; exact Rat.le_refl, fun o om os => ?_⟩
        rw [e2] at os ⊢
        have := hn o om os
        rw [e3]
        grind
      · have := t.lt st.1 st.2.1
        refine ⟨by rw [e1, e2]; exact t, by rw [e1, e3]; exact this, by rw [e1]; exact x0, by rw [e3]; have := st.2.2.1; grind, fun o' om os => ?_⟩
        rw [e2] at os ⊢
        rw [e3]
        rcases st.2.2.2 o' om os with z | z <;> grind
    · rcases h with ⟨rfl, _⟩ | ⟨o, st, e3, hc⟩
      · simp at hs
      · have := t.lt st.1 st.2.1
        exact Chain.ok hc (t.next st) (by grind) st.2.2.1 s hs
theorem Chain.fst {ls : List (Rat × Rat)} {rs : List Seg} {x : Rat} {l : Rat × Rat} (h : Chain ls x l rs) : ∃ s, rs[0]? = some s ∧ s.1 = x ∧ s.2.2 = l := by
  cases rs with
  | nil => exact h.elim
  | cons r rs => exact ⟨r, rfl, h.1, h.2.1⟩
theorem Chain.lst {ls : List (Rat × Rat)} : ∀ {rs : List Seg} {x : Rat} {l : Rat × Rat}, Chain ls x l rs → ∃ s, rs[rs.length - 1]? = some s ∧ s.2.1 = 1
  | [], _, _, h => h.elim
  | r :: rs, x, l, h => by
    obtain ⟨_, _, h⟩ := h
    rcases h with ⟨rfl, e, _⟩ | ⟨o, _, _, hc⟩
    · exact ⟨r, rfl, e⟩
    · obtain ⟨s, e1, e2⟩ := hc.lst
      refine ⟨s, ?_, e2⟩
      cases rs with
      | nil => exact hc.elim
      | cons q rs => simpa using e1
theorem Chain.nb {ls : List (Rat × Rat)} : ∀ {rs : List Seg} {x : Rat} {l : Rat × Rat}, Chain ls x l rs → ∀ {k : Nat} {s s' : Seg}, rs[k]? = some s → rs[k + 1]? = some s' → s'.1 = s.2.1 ∧ s.2.2.2 < s'.2.2.2
  | [], _, _, h, _, _, _, _, _ => h.elim
  | r :: rs, x, l, h, 0, s, s', e, e' => by
    obtain ⟨_, e2, h⟩ := h
    rw [List.getElem?_cons_zero] at e
    injection e with e
    subst e
    rw [List.getElem?_cons_succ] at e'
    rcases h with ⟨rfl, _⟩ | ⟨o, st, e3, hc⟩
    · simp at e'
    · obtain ⟨q, f1, f2, f3⟩ := hc.fst
      rw [f1] at e'
      injection e' with e'
      subst e'
      rw [f2, f3, e2, e3]
      exact ⟨rfl, st.2.1⟩
  | r :: rs, x, l, h, k + 1, s, s', e, e' => by
    obtain ⟨_, _, h⟩ := h
    rw [List.getElem?_cons_succ] at e e'
    rcases h with ⟨rfl, _⟩ | ⟨o, st, e3, hc⟩
    · simp at e
    · exact hc.nb e e'
theorem hs_mem {ls : List (Rat × Rat)} {l : Rat × Rat} {k : Int} : k ∈ hsOf ls l ls.length ↔ 0 ≤ k ∧ k.toNat < ls.length ∧ ls.getD k.toNat (0, 0) = l := by
  unfold hsOf
  rw [List.mem_map]
  constructor
  · rintro ⟨j, hj, rfl⟩
    have hj := List.mem_filter.mp hj
    exact ⟨by omega, by have := List.mem_range.mp hj.1; omega, by rw [Int.toNat_natCast]; exact of_decide_eq_true hj.2⟩
  · rintro ⟨k0, k1, e⟩
    exact ⟨k.toNat, List.mem_filter.mpr ⟨List.mem_range.mpr k1, decide_eq_true e⟩, by omega⟩
theorem hs_ne {ls : List (Rat × Rat)} {l o : Rat × Rat} (lm : l ∈ ls) (h : l ≠ o) : hsOf ls l ls.length ≠ hsOf ls o ls.length := fun z => by
  obtain ⟨i, hi, e⟩ := List.getElem_of_mem lm
  have g : ls.getD i (0, 0) = l := by rw [List.getD_eq_getElem?_getD, List.getElem?_eq_getElem hi]; exact e
  have m : (i : Int) ∈ hsOf ls l ls.length := hs_mem.mpr ⟨by omega, by omega, by rw [Int.toNat_natCast]; exact g⟩
  rw [z] at m
  have := (hs_mem.mp m).2.2
  rw [Int.toNat_natCast, g] at this
  exact h this
def firsts (ls : List (Rat × Rat)) (y M : Rat) : List Int := ((List.range ls.length).filter fun k => decide (ht (ls.getD k (0, 0)) y = M)).map fun (k : Nat) => (k : Int)
def MaxAt (ls : List (Rat × Rat)) (y M : Rat) : Prop := (∀ o ∈ ls, ht o y ≤ M) ∧ ∃ o ∈ ls, ht o y = M
theorem SegOk.max {ls : List (Rat × Rat)} {s : Seg} (h : SegOk ls s) {y : Rat} (y0 : s.1 ≤ y) (y1 : y ≤ s.2.1) {M : Rat} (m : MaxAt ls y M) : M = ht s.2.2 y := by
  obtain ⟨o, om, e⟩ := m.2
  have h1 := h.le y0 y1 om
  have h2 := m.1 _ h.t.1
  grind
theorem firsts_mem {ls : List (Rat × Rat)} {y M : Rat} {k : Int} : k ∈ firsts ls y M ↔ 0 ≤ k ∧ k.toNat < ls.length ∧ ht (ls.getD k.toNat (0, 0)) y = M := by
  unfold firsts
  rw [List.mem_map]
  constructor
  · rintro ⟨j, hj, rfl⟩
    have hj := List.mem_filter.mp hj
    exact ⟨by omega, by have := List.mem_range.mp hj.1; omega, by rw [Int.toNat_natCast]; exact of_decide_eq_true hj.2⟩
  · rintro ⟨k0, k1, e⟩
    exact ⟨k.toNat, List.mem_filter.mpr ⟨List.mem_range.mpr k1, decide_eq_true e⟩, by omega⟩
theorem SegOk.sub {ls : List (Rat × Rat)} {s : Seg} (h : SegOk ls s) {y : Rat} (y0 : s.1 ≤ y) (y1 : y ≤ s.2.1) {M : Rat} (m : MaxAt ls y M) : ∀ k ∈ hsOf ls s.2.2 ls.length, k ∈ firsts ls y M := fun k hk => by
  obtain ⟨k0, k1, e⟩ := hs_mem.mp hk
  exact firsts_mem.mpr ⟨k0, k1, by rw [e, h.max y0 y1 m]⟩
theorem SegOk.amid {ls : List (Rat × Rat)} {s : Seg} (h : SegOk ls s) {y : Rat} (y0 : s.1 < y) (y1 : y < s.2.1) {M : Rat} (m : MaxAt ls y M) : hsOf ls s.2.2 ls.length = firsts ls y M := by
  have e := h.max (by grind) (by grind) m
  unfold hsOf firsts
  congr 1
  refine List.filter_congr fun k hk => ?_
  have hk := List.mem_range.mp hk
  have km : ls.getD k (0, 0) ∈ ls := by rw [List.getD_eq_getElem?_getD, List.getElem?_eq_getElem hk]; exact List.getElem_mem hk
  refine decide_eq_decide.mpr ⟨fun z => by rw [z, e], fun z => ?_⟩
  by_cases c : ls.getD k (0, 0) = s.2.2
  · exact c
  · have := h.lt' y0 y1 km c
    grind

def lowP (a b : Int) : Int × Int := (a.fdiv (if b < 0 then -((Int.gcd a b : Nat) : Int) else ((Int.gcd a b : Nat) : Int)), b.fdiv (if b < 0 then -((Int.gcd a b : Nat) : Int) else ((Int.gcd a b : Nat) : Int)))
theorem lowP_low {a b : Int} (hb : b ≠ 0) : Ra.Low a b (lowP a b).1 (lowP a b).2 := Ra.low_of hb rfl
theorem low_eq {a b x y : Int} (hb : b ≠ 0) (l : Ra.Low a b x y) : x = (lowP a b).1 ∧ y = (lowP a b).2 := l.uniq hb (lowP_low hb)
def ratD (a b : Int) : D := .tup [.int (lowP a b).1, .int (lowP a b).2]
theorem rat_of {a b : Int} (hb : b ≠ 0) {Q : D → Prop} (q : Q (ratD a b)) : ∀ x y, Ra.Low a b x y → Q (.tup [.int x, .int y]) := fun x y l => by
  obtain ⟨e1, e2⟩ := low_eq hb l
  rw [e1, e2]
  exact q
theorem low_self {x y : Int} (hy : 0 < y) (hc : Int.gcd x y = 1) : lowP x y = (x, y) := by
  have l : Ra.Low x y x y := ⟨hy, hc, by rw [Int.mul_comm]⟩
  obtain ⟨e1, e2⟩ := low_eq (by omega) l
  exact Prod.ext e1.symm e2.symm
theorem ratD_eq {a b : Int} (hb : b ≠ 0) : ratD a b = ratQ ((a : Rat) / b) := by
  obtain ⟨e1, e2⟩ := Rq.low hb (lowP_low (a := a) hb)
  unfold ratD ratQ
  rw [e1, e2]

def gLRat : DSp := fun ds Q => match ds with
  | [.int a, .int b] => (0 < b ∧ Bd 7000 a ∧ Bd 7000 b) ∧ Q (ratD a b)
  | _ => False
theorem m__law_ratio : MonoS gLRat := fun ds P P' f h => by
  unfold gLRat at h ⊢
  split at h
  · exact ⟨h.1, f _ h.2⟩
  · exact h.elim
def muR (ρ : DS) : Nat := match slot ρ 3 with
  | .val (.int y) => y.natAbs
  | _ => 0
theorem gcd_absl {a b : Int} : Int.gcd (if a < 0 then -a else a) b = Int.gcd a b := by
  split
  · rw [Int.neg_gcd]
  · rfl
theorem g__law_ratio (T : Tx K mg) : FnOk P w K mg base CX0 1 T.f__law_ratio T.fd__law_ratio ["_law_top", "_law_bottom"] (spD K 2 gLRat) := by
  refine fnD (k := 0) T.d__law_ratio.F sc__law_ratio (fun cdv A outer s H E hr => (dss_cons (ds_set (i := 2) sc__law_ratio.nd rfl (by first | exact Or.inl rfl | exact Or.inr rfl) (de_callB cd_abs rfl T.z_abs rfl (da_cons (de_var 0 (pv 0)) da_nil)))
      (dss_cons (ds_set (i := 3) sc__law_ratio.nd rfl (by first | exact Or.inl rfl | exact Or.inr rfl) (de_var 1 (pv 1)))
      (dss_mid (ds_while PassesOwn.never (dt_cmp od_gt (de_var 3 (pv 3)) de_int (nomark _)) (dss_one (ds_par rfl sc__law_ratio.nd (i := 2) (j := 3) rfl rfl (by decide) rfl rfl (da_cons (de_var 3 (pv 3)) (da_cons (de_op od_mod (de_var 2 (pv 2)) (de_var 3 (pv 3))) da_nil)) rfl)))
      (dss_one (ds_ret (de_tup (da_cons (de_op od_fdiv (de_var 0 (pv 0)) (de_var 2 (pv 2))) (da_cons (de_op od_fdiv (de_var 1 (pv 1)) (de_var 2 (pv 2))) da_nil))))))))) (fun ds Q hl h => ?_)
  unfold gLRat at h
  split at h
  case h_2 => exact h.elim
  rename_i a b
  obtain ⟨⟨hb, ba, bb⟩, h⟩ := h
  refine ⟨fun ρ => ρ = [.val (.int a), .val (.int b), .val (.int (Int.gcd a b : Nat)), .val (.int 0)], ?_, ?_⟩
  · refine dWhile_ind (fun ρ => ∃ (x y : Int), ρ = [.val (.int a), .val (.int b), .val (.int x), .val (.int y)] ∧ 0 ≤ x ∧ 0 ≤ y ∧ Int.gcd x y = Int.gcd a b) muR (fun ρ X hN hX => ?_) _ ⟨_, _, rfl, by split <;> omega, by omega, gcd_absl⟩
    obtain ⟨x, y, rfl, hx, hy, e⟩ := hN
    refine ⟨fun c => ?_, fun c => ?_⟩
    · have c : 0 < y := by simpa using c
      have c' : y ≠ 0 := by omega
      have em : x % y = x.fmod y := (Int.fmod_eq_emod_of_nonneg x hy).symm
      refine ⟨c, hX _ ⟨y, x % y, rfl, hy, Int.emod_nonneg _ c', ?_⟩ ?_⟩
      · rw [em, Ra.gcd_step c', e]
      · show (x % y).natAbs < y.natAbs
        rw [em]; exact Ra.fmod_less c'
    · have c : ¬ 0 < y := by simpa using c
      have : y = 0 := by omega
      subst this
      rw [Int.gcd_zero_right] at e
      have : x = ((Int.gcd a b : Nat) : Int) := by omega
      rw [this]
  · rintro _ rfl
    have hg : 0 < Int.gcd a b := Int.gcd_pos_of_ne_zero_right a (by omega)
    have hgb : Big ((Int.gcd a b : Nat) : Int) := (bb.le (i := ((Int.gcd a b : Nat) : Int)) (by rw [Int.natAbs_natCast]; exact Nat.le_of_dvd (Int.natAbs_pos.mpr (by omega)) (Int.gcd_dvd_natAbs_right a b))).big (by decide)
    have g0 : (0 : Int) < ((Int.gcd a b : Nat) : Int) := by omega
    have h' : Q (.tup [.int (a / ((Int.gcd a b : Nat) : Int)), .int (b / ((Int.gcd a b : Nat) : Int))]) := by
      unfold ratD lowP at h
      rw [if_neg (by omega)] at h
      dsimp only at h
      rw [Int.fdiv_eq_ediv_of_nonneg _ (by omega), Int.fdiv_eq_ediv_of_nonneg _ (by omega)] at h
      exact h
    exact ⟨⟨g0, hgb⟩, ⟨g0, hgb⟩, sz, h'⟩
def gIsRat : DSp := fun ds Q => match ds with
  | [.tup [.int x, .int y]] => (0 < y ∧ Int.gcd x y = 1 ∧ Bd 7000 x ∧ Bd 7000 y) ∧ Q (.bl true)
  | _ => False
theorem m__law_is_ratio : MonoS gIsRat := fun ds P P' f h => by
  unfold gIsRat at h ⊢
  split at h
  · exact ⟨h.1, f _ h.2⟩
  · exact h.elim
theorem g__law_is_ratio (T : Tx K mg) : FnOk P w K mg base CX0 2 T.f__law_is_ratio T.fd__law_is_ratio ["_law_thing"] (spD K 1 gIsRat) := by
  refine fnD (k := 1) T.d__law_is_ratio.F sc__law_is_ratio (fun cdv A outer s H E hr => (dss_cons (ds_if (PWD.pt (dw_or (dt_not (dt_val (de_callB cd_is_tuple rfl T.z_isinstance rfl (da_cons (de_var 0 (pv 0)) (da_cons (de_ty (n := "tuple") rfl T.z_tuple rfl) da_nil))))) (dw_or1 (dt_cmp (od_ne hr) (de_callB cd_len rfl T.z_len PySem.boot_len (da_cons (de_var 0 (pv 0)) da_nil)) de_int (nomark _))))) (dss_one (ds_ret de_bl)) dss_nil)
      (dss_mid (ds_for PassesOwn.never rfl (di_tup (de_var 0 (pv 0))) (dg_name (i := 1) sc__law_is_ratio.nd rfl (by first | exact Or.inl rfl | exact Or.inr rfl)) (dss_one (ds_if (PWD.pt (dw_or (dt_not (dt_val (de_callB cd_is_int rfl T.z_isinstance rfl (da_cons (de_var 1 (pv 1)) (da_cons (de_ty (n := "int") rfl T.z_int rfl) da_nil))))) (dw_or1 (dt_val (de_callB cd_is_bool rfl T.z_isinstance rfl (da_cons (de_var 1 (pv 1)) (da_cons (de_ty (n := "bool") rfl T.z_bool rfl) da_nil))))))) (dss_one (ds_ret de_bl)) dss_nil)))
      (dss_one (ds_ret (de_and (de_cmp od_gt (de_ix (de_var 0 (pv 0)) de_int (fun _ _ => rfl)) de_int (nomark _)) (de_one (de_cmp (od_eq hr) (de_call (g__law_ratio T) m__law_ratio (hr.mono (by decide)) rfl T.d__law_ratio.m T.d__law_ratio.F.kp T.d__law_ratio.b (da_cons (de_ix (de_var 0 (pv 0)) de_int (fun _ _ => rfl)) (da_cons (de_ix (de_var 0 (pv 0)) de_int (fun _ _ => rfl)) da_nil))) (de_var 0 (pv 0)) (nomark _))))))))) (fun ds Q hl h => ?_)
  unfold gIsRat at h
  split at h
  case h_2 => exact h.elim
  rename_i x y
  obtain ⟨⟨hy, hc, bx, bY⟩, h⟩ := h
  refine ⟨rfl, rfl, Br.f ⟨⟨rfl, rfl⟩, Br.f ?_⟩⟩
  refine ⟨fun ρ => ∃ s : Sl, ρ = [.val (.tup [.int x, .int y]), s], ⟨rfl, rfl, Br.f ⟨rfl, rfl, Br.f ⟨rfl, rfl, Br.f ⟨rfl, rfl, Br.f ⟨_, rfl⟩⟩⟩⟩⟩, ?_⟩
  rintro _ ⟨s, rfl⟩
  refine Br.dt hy ⟨rfl, ⟨hy, bx, bY⟩, ?_⟩
  have e : ratD x y = .tup [.int x, .int y] := by unfold ratD; rw [low_self hy hc]
  rw [e]
  refine ⟨⟨rfl, rfl⟩, ?_⟩
  have z : eqD (.tup [.int x, .int y]) (.tup [.int x, .int y]) = true := by simp [eqD_pair]
  show Q (.bl (eqD (.tup [.int x, .int y]) (.tup [.int x, .int y])))
  rw [z]
  exact h
theorem rat_is {a b : Int} {n : Nat} (hn : n ≤ 7000) (hb : b ≠ 0) (ba : Bd n a) (bb : Bd n b) {Q : D → Prop} (q : Q (.bl true)) : gIsRat [ratD a b] Q := by
  have l := lowP_low (a := a) hb
  exact ⟨⟨l.pos, l.cop, (ba.le (l.le hb).1).mono hn, (bb.le (l.le hb).2).mono hn⟩, q⟩

theorem lrat_ok {a b : Int} {n : Nat} (hn : n ≤ 7000) (hb : 0 < b) (ba : Bd n a) (bb : Bd n b) {Q : D → Prop} (q : Q (ratQ ((a : Rat) / b))) : gLRat [.int a, .int b] Q :=
  ⟨⟨hb, ba.mono hn, bb.mono hn⟩, by rw [ratD_eq (by omega)]; exact q⟩
theorem isrQ {q : Rat} (b : QB 7000 q) {Q : D → Prop} (r : Q (.bl true)) : gIsRat [ratQ q] Q :=
  ⟨⟨den_pos q, q.reduced, b.nu, b.de⟩, r⟩
theorem pp_pos (p q : Rat) : 0 < ((p.den : Int) * (q.den : Int)) := Int.mul_pos (den_pos p) (den_pos q)
def gLPlus : DSp := fun ds Q => ∃ (p q : Rat) (m n : Nat), ds = [ratQ p, ratQ q] ∧ m + n ≤ 6900 ∧ QB m p ∧ QB n q ∧ Q (ratQ (p + q))
theorem m__law_plus : MonoS gLPlus := fun ds P P' f ⟨a, b, m, n, c, d, e, g, h⟩ => ⟨a, b, m, n, c, d, e, g, f _ h⟩
theorem g__law_plus (T : Tx K mg) : FnOk P w K mg base CX0 2 T.f__law_plus T.fd__law_plus ["_law_one", "_law_other"] (spD K 2 gLPlus) := by
  refine fnD (k := 1) T.d__law_plus.F sc__law_plus (fun cdv A outer s H E hr => (dss_one (ds_ret (de_call (g__law_ratio T) m__law_ratio (hr.mono (by decide)) rfl T.d__law_ratio.m T.d__law_ratio.F.kp T.d__law_ratio.b (da_cons (de_op od_add (de_op od_mul (de_ix (de_var 0 (pv 0)) de_int (fun _ _ => rfl)) (de_ix (de_var 1 (pv 1)) de_int (fun _ _ => rfl))) (de_op od_mul (de_ix (de_var 1 (pv 1)) de_int (fun _ _ => rfl)) (de_ix (de_var 0 (pv 0)) de_int (fun _ _ => rfl)))) (da_cons (de_op od_mul (de_ix (de_var 0 (pv 0)) de_int (fun _ _ => rfl)) (de_ix (de_var 1 (pv 1)) de_int (fun _ _ => rfl))) da_nil)))))) (fun ds Q hl h => ?_)
  obtain ⟨p, q, m, n, rfl, l, h, k, r⟩ := h
  refine ⟨h.nu.cmul k.de (by omega) (by omega), k.nu.cmul h.de (by omega) (by omega), h.de.cmul k.de (by omega) (by omega), rfl, lrat_ok (n := 6901) (by decide) (pp_pos p q) (((((h.nu.mul k.de).mono (n := 6900) l).add ((k.nu.mul h.de).mono (n := 6900) (by omega))).mono (by decide))) ((h.de.mul k.de).mono (by omega)) (by rw [add_eq]; exact r)⟩
def gLMinus : DSp := fun ds Q => ∃ (p q : Rat) (m n : Nat), ds = [ratQ p, ratQ q] ∧ m + n ≤ 6900 ∧ QB m p ∧ QB n q ∧ Q (ratQ (p - q))
theorem m__law_minus : MonoS gLMinus := fun ds P P' f ⟨a, b, m, n, c, d, e, g, h⟩ => ⟨a, b, m, n, c, d, e, g, f _ h⟩
theorem g__law_minus (T : Tx K mg) : FnOk P w K mg base CX0 2 T.f__law_minus T.fd__law_minus ["_law_one", "_law_other"] (spD K 2 gLMinus) := by
  refine fnD (k := 1) T.d__law_minus.F sc__law_minus (fun cdv A outer s H E hr => (dss_one (ds_ret (de_call (g__law_ratio T) m__law_ratio (hr.mono (by decide)) rfl T.d__law_ratio.m T.d__law_ratio.F.kp T.d__law_ratio.b (da_cons (de_op od_sub (de_op od_mul (de_ix (de_var 0 (pv 0)) de_int (fun _ _ => rfl)) (de_ix (de_var 1 (pv 1)) de_int (fun _ _ => rfl))) (de_op od_mul (de_ix (de_var 1 (pv 1)) de_int (fun _ _ => rfl)) (de_ix (de_var 0 (pv 0)) de_int (fun _ _ => rfl)))) (da_cons (de_op od_mul (de_ix (de_var 0 (pv 0)) de_int (fun _ _ => rfl)) (de_ix (de_var 1 (pv 1)) de_int (fun _ _ => rfl))) da_nil)))))) (fun ds Q hl h => ?_)
  obtain ⟨p, q, m, n, rfl, l, h, k, r⟩ := h
  refine ⟨h.nu.cmul k.de (by omega) (by omega), k.nu.cmul h.de (by omega) (by omega), h.de.cmul k.de (by omega) (by omega), rfl, lrat_ok (n := 6901) (by decide) (pp_pos p q) (((((h.nu.mul k.de).mono (n := 6900) l).sub ((k.nu.mul h.de).mono (n := 6900) (by omega))).mono (by decide))) ((h.de.mul k.de).mono (by omega)) (by rw [sub_eq]; exact r)⟩
def gLTimes : DSp := fun ds Q => ∃ (p q : Rat) (m n : Nat), ds = [ratQ p, ratQ q] ∧ m + n ≤ 6900 ∧ QB m p ∧ QB n q ∧ Q (ratQ (p * q))
theorem m__law_times : MonoS gLTimes := fun ds P P' f ⟨a, b, m, n, c, d, e, g, h⟩ => ⟨a, b, m, n, c, d, e, g, f _ h⟩
theorem g__law_times (T : Tx K mg) : FnOk P w K mg base CX0 2 T.f__law_times T.fd__law_times ["_law_one", "_law_other"] (spD K 2 gLTimes) := by
  refine fnD (k := 1) T.d__law_times.F sc__law_times (fun cdv A outer s H E hr => (dss_one (ds_ret (de_call (g__law_ratio T) m__law_ratio (hr.mono (by decide)) rfl T.d__law_ratio.m T.d__law_ratio.F.kp T.d__law_ratio.b (da_cons (de_op od_mul (de_ix (de_var 0 (pv 0)) de_int (fun _ _ => rfl)) (de_ix (de_var 1 (pv 1)) de_int (fun _ _ => rfl))) (da_cons (de_op od_mul (de_ix (de_var 0 (pv 0)) de_int (fun _ _ => rfl)) (de_ix (de_var 1 (pv 1)) de_int (fun _ _ => rfl))) da_nil)))))) (fun ds Q hl h => ?_)
  obtain ⟨p, q, m, n, rfl, l, h, k, r⟩ := h
  refine ⟨h.nu.cmul k.nu (by omega) (by omega), h.de.cmul k.de (by omega) (by omega), rfl, lrat_ok (n := 6901) (by decide) (pp_pos p q) ((h.nu.mul k.nu).mono (by omega)) ((h.de.mul k.de).mono (by omega)) (by rw [mul_eq]; exact r)⟩
def gLLess : DSp := fun ds Q => ∃ p q : Rat, ds = [ratQ p, ratQ q] ∧ QB 7000 p ∧ QB 7000 q ∧ Q (.bl (decide (p < q)))
theorem m__law_less : MonoS gLLess := fun ds P P' f h => by
  obtain ⟨a, b, c, d, e, h⟩ := h
  exact ⟨a, b, c, d, e, f _ h⟩
theorem g__law_less (T : Tx K mg) : FnOk P w K mg base CX0 1 T.f__law_less T.fd__law_less ["_law_one", "_law_other"] (spD K 2 gLLess) := by
  refine fnD (k := 0) T.d__law_less.F sc__law_less (fun cdv A outer s H E hr => (dss_one (ds_ret (de_cmp od_lt (de_op od_mul (de_ix (de_var 0 (pv 0)) de_int (fun _ _ => rfl)) (de_ix (de_var 1 (pv 1)) de_int (fun _ _ => rfl))) (de_op od_mul (de_ix (de_var 1 (pv 1)) de_int (fun _ _ => rfl)) (de_ix (de_var 0 (pv 0)) de_int (fun _ _ => rfl))) (nomark _))))) (fun ds Q hl h => ?_)
  obtain ⟨p, q, rfl, h, k, r⟩ := h
  have e : decide (p.num * (q.den : Int) < q.num * (p.den : Int)) = decide (p < q) := decide_eq_decide.mpr (Rat.lt_iff p q).symm
  rw [← e] at r
  exact ⟨h.nu.cmul k.de, k.nu.cmul h.de, r⟩

theorem call_sum2 {k n : Nat} {ws : List Int} {i : Int} {r : DS} {g : DSp} {Y : D → DS → Prop} (h : slot (.val (.int i) :: r) (k + 1) = .val (.lst (ws.map D.int))) (q : 2 = n ∧ g [.int i, .int ws.sum] fun d => Y d (.val (.int i) :: r)) : dCall n g (daCons (dVar 0) (daCons (dCB gSum (daCons (dVar (k + 1)) daNil)) daNil)) (.val (.int i) :: r) Y := by
  show dVarS (k + 1) (.val (.int i) :: r) _ (slot (.val (.int i) :: r) (k + 1))
  rw [h]
  exact gSum_of (P := fun d => 2 = n ∧ g [.int i, d] fun d => Y d (.val (.int i) :: r)) q
def gOS : DSp := fun ds Q => ∃ (n : Nat) (ws : List Int), ds = [.lst (ws.map D.int)] ∧ Wts n ws ∧ n ≤ 30 ∧ Q (.lst ((List.range n).map fun i => ratQ (wq ws i)))
theorem m__law_over_sum : MonoS gOS := fun ds P P' f h => by
  obtain ⟨n, ws, a, b, c, h⟩ := h
  exact ⟨n, ws, a, b, c, f _ h⟩
theorem g__law_over_sum (T : Tx K mg) : FnOk P w K mg base CX0 2 T.f__law_over_sum T.fd__law_over_sum ["_law_some"] (spD K 1 gOS) := by
  refine fnD (k := 1) T.d__law_over_sum.F sc__law_over_sum (fun cdv A outer s H E hr => (dss_one (ds_ret (de_frz (PCD.pld (dl_comp (N' := ["_law_one", "_law_some"]) rfl rfl (by decide +kernel) rfl (.own (.cap (j := 0) rfl (by first | exact Or.inl rfl | exact Or.inr rfl) rfl .nil)) (by decide +kernel) (di_list (de_var 0 (pv 0))) (fun B => (dg_name (i := 0) (show List.Nodup (α := PySem.Str) ["_law_one", "_law_some"] by decide +kernel) rfl (by first | exact Or.inl rfl | exact Or.inr rfl))) (fun B => dts_nil) (fun B => (de_call (g__law_ratio T) m__law_ratio (hr.mono (by decide)) rfl T.d__law_ratio.m T.d__law_ratio.F.kp T.d__law_ratio.b (da_cons (de_var 0 (pv 0)) (da_cons (de_callB cd_sum rfl T.z_sum PyProof.Rows.boot_sum (da_cons (de_var 1 (pv 1)) da_nil)) da_nil)))))))))) (fun ds Q hl h => ?_)
  obtain ⟨n, ws, rfl, o, l, h⟩ := h
  have h1 := sum_up o.up
  have h3 := o.pos
  rw [o.len] at h1
  show dColl _ _ _ (ws.map D.int) _ _ _
  have e := rng_eq (d := 0) D.int (l := ws)
  rw [o.len] at e
  rw [e]
  refine dColl_rng _ _ (fun ρ => ∃ a : Sl, ρ = [a, .val (.lst (ws.map D.int))]) (Nat.le_trans l (by decide)) (fun i hi ρ Y Z hN hY => ?_) _ ⟨_, by rw [e]; rfl⟩ h
  obtain ⟨a, rfl⟩ := hN
  have h2 := o.at hi
  refine Br.t (call_sum2 rfl ?_)
  exact ⟨rfl, lrat_ok (n := 64) (by decide) h3 (bd64 (by omega)) (bd64 (by omega)) (hY _ ⟨_, rfl⟩)⟩
def gWW : DSp := fun ds Q => match ds with
  | [.pen, .int n] => (1 ≤ n ∧ n ≤ 30) ∧ ∀ ws : List Int, Wts n.toNat ws → (∀ w ∈ ws, w ≤ 1000) → Q (.lst (ws.map D.int))
  | _ => False
theorem m__law_whole_weights : MonoS gWW := fun ds P P' f h => by
  unfold gWW at h ⊢
  split at h
  · exact ⟨h.1, fun ws a b => f _ (h.2 ws a b)⟩
  · exact h.elim
theorem le_sum {l : List Int} (h : ∀ i ∈ l, 0 ≤ i) : 0 ≤ l.sum ∧ ∀ i ∈ l, i ≤ l.sum := by
  induction l with
  | nil => exact ⟨by simp, fun i hi => by simp at hi⟩
  | cons a r ih =>
    have ⟨h1, h2⟩ := ih fun i hi => h i (List.mem_cons_of_mem _ hi)
    have h0 := h a List.mem_cons_self
    rw [List.sum_cons]
    refine ⟨by omega, fun i hi => ?_⟩
    rcases List.mem_cons.mp hi with rfl | hi
    · omega
    · have := h2 i hi
      omega
theorem in_ints {ns : List Int} {k : Int} {Q : D → Prop} {lo hi : Int} (k0 : 0 ≤ k) (k1 : k < ns.length) (hb : ∀ n ∈ ns, lo ≤ n ∧ n ≤ hi) (q : ∀ n, lo ≤ n → n ≤ hi → Q (.int n)) : opt (atI (ns.map D.int) k) Q := by
  refine opt_mem k0 (by rw [List.length_map]; exact k1) fun d hd => ?_
  obtain ⟨n, hn, rfl⟩ := List.mem_map.mp hd
  exact q n (hb n hn).1 (hb n hn).2
theorem g__law_whole_weights (T : Tx K mg) : FnOk P w K mg base CX0 2 T.f__law_whole_weights T.fd__law_whole_weights ["_law_pen_here", "_law_parts"] (spD K 2 gWW) := by
  refine fnD (k := 1) T.d__law_whole_weights.F sc__law_whole_weights (fun cdv A outer s H E hr => (dss_cons (ds_ownC (i := 2) sc__law_whole_weights.nd rfl rfl (dl_comp (N' := ["_law_k", "_law_pen_here"]) rfl rfl (by decide +kernel) rfl (.own (.cap (j := 0) rfl (by first | exact Or.inl rfl | exact Or.inr rfl) rfl .nil)) (by decide +kernel) (di_range1 rfl T.z_range (da_cons (de_var 1 (pv 1)) da_nil)) (fun B => (dg_name (i := 0) (show List.Nodup (α := PySem.Str) ["_law_k", "_law_pen_here"] by decide +kernel) rfl (by first | exact Or.inl rfl | exact Or.inr rfl))) (fun B => dts_nil) (fun B => (de_call (g__law_next T) m__law_next (hr.mono (by decide)) rfl T.d__law_next.m T.d__law_next.F.kp T.d__law_next.b (da_cons (de_var 1 (pv 1)) (da_cons (de_ix (de_frz (dl_lst (da_cons de_int (da_cons de_int (da_cons de_int (da_cons de_int da_nil)))))) (de_call (g__law_next T) m__law_next (hr.mono (by decide)) rfl T.d__law_next.m T.d__law_next.F.kp T.d__law_next.b (da_cons (de_var 1 (pv 1)) (da_cons de_int da_nil))) (fun _ _ => rfl)) da_nil))))))
      (dss_mid (ds_if (dt_cmp (od_eq hr) (de_peek 2 (de_callB cd_sum rfl T.z_sum PyProof.Rows.boot_sum (da_cons (de_var 2 (pv 2)) da_nil))) de_int (nomark _)) (dss_one (ds_asgT (de_op od_add de_int (de_call (g__law_next T) m__law_next (hr.mono (by decide)) rfl T.d__law_next.m T.d__law_next.F.kp T.d__law_next.b (da_cons (de_var 0 (pv 0)) (da_cons de_int da_nil)))) (dg_sub (pv 2) (de_call (g__law_next T) m__law_next (hr.mono (by decide)) rfl T.d__law_next.m T.d__law_next.F.kp T.d__law_next.b (da_cons (de_var 0 (pv 0)) (da_cons (de_var 1 (pv 1)) da_nil)))))) dss_nil)
      (dss_one (ds_ret (de_var 2 (pv 2))))))) (fun ds Q hl h => ?_)
  unfold gWW at h
  split at h
  case h_2 => exact h.elim
  rename_i n
  obtain ⟨⟨n1, n30⟩, h⟩ := h
  have f4 : ∀ n ∈ ([2, 9, 9, 1000] : List Int), 1 ≤ n ∧ n ≤ 1000 := by decide
  refine ⟨⟨by omega, by omega⟩, ?_⟩
  refine dColl_pre (fun pre acc ρ => ∃ ws : List Int, acc = ws.map D.int ∧ ws.length = pre.length ∧ (∀ w ∈ ws, 0 ≤ w ∧ w ≤ 1000) ∧ ∃ s : Sl, ρ = [s, .val .pen]) (fun acc ρ hN => ?_) (fun pre d post acc ρ Y e hN hY => ?_) _ ⟨[], rfl, rfl, fun c hc => by simp at hc, _, rfl⟩
  · obtain ⟨ws, rfl, hl, hw, _⟩ := hN
    rw [intsD_map, List.length_map, List.length_range] at hl
    have nn : ∀ w ∈ ws, 0 ≤ w := fun w hw' => (hw w hw').1
    refine ⟨fun ρ => ∃ ws : List Int, Wts n.toNat ws ∧ (∀ w ∈ ws, w ≤ 1000) ∧ ρ = [.val .pen, .val (.int n), .own (ws.map D.int)], ?_, ?_⟩
    · refine ⟨_, rfl, rfl, sum_var (ws := ws) (k := 2) rfl ⟨⟨trivial, rfl⟩, ⟨rfl, rfl⟩, fun z => ?_, fun z => ?_⟩⟩
      · refine ⟨rfl, ⟨by decide, by decide⟩, fun v v0 v1 => ⟨trivial, rfl, ⟨by omega, by omega⟩, fun k k0 k1 => ⟨k.toNat, ?_, ?_⟩⟩⟩
        · rw [List.length_map, hl]
          exact ixN_of k0 (by omega)
        · have hm : ∀ w ∈ ws.set k.toNat (1 + v), 0 ≤ w ∧ w ≤ 1000 := fun w hw' => by
            rcases List.mem_or_eq_of_mem_set hw' with h' | h'
            · exact hw w h'
            · rw [h']; omega
          have hin : (1 + v) ∈ ws.set k.toNat (1 + v) := List.mem_set (by rw [hl]; omega) _
          have := (le_sum fun w hw' => (hm w hw').1).2 _ hin
          exact ⟨ws.set k.toNat (1 + v), ⟨by rw [List.length_set]; exact hl, fun w hw' => (hm w hw').1, fun w hw' => by have := (hm w hw').2; omega, by omega⟩, fun w hw' => (hm w hw').2, by rw [List.map_set]; rfl⟩
      · have z : ¬ ws.sum = 0 := by simpa [eqD_int] using z
        have := (le_sum nn).1
        exact ⟨ws, ⟨hl, nn, fun w hw' => by have := (hw w hw').2; omega, by omega⟩, fun w hw' => (hw w hw').2, rfl⟩
    · rintro _ ⟨ws, o, u, rfl⟩
      exact h ws o u
  · obtain ⟨ws, rfl, hl, hw, s, rfl⟩ := hN
    refine Br.t ⟨sz, rfl, ⟨by decide, by decide⟩, fun k k0 k1 => in_ints (ns := [2, 9, 9, 1000]) k0 k1 f4 fun m m1 m2 => ⟨rfl, ⟨by omega, by omega⟩, fun r r0 r1 => ⟨?_, hY _ _ ⟨ws ++ [r], by simp, by simp [hl], fun w' hw' => ?_, _, rfl⟩⟩⟩⟩
    · have hlen : (intsD 0 n.toNat).length = pre.length + (post.length + 1) := by rw [e]; simp
      rw [intsD_map, List.length_map, List.length_range] at hlen
      rw [List.length_map]
      exact Nat.lt_of_le_of_lt (show ws.length ≤ 100 by omega) (by decide)
    · rcases List.mem_append.mp hw' with hw' | hw'
      · exact hw w' hw'
      · rw [List.mem_singleton.mp hw']; omega

def endD (l : Rat × Rat) : D := .tup [ratQ l.1, ratQ (l.1 + l.2)]
def endsD (ls : List (Rat × Rat)) : D := .lst (ls.map endD)
structure Ln2 (l : Rat × Rat) : Prop where
  a : QB 310 l.1
  b : QB 310 (l.1 + l.2)
theorem htE (l : Rat × Rat) (y : Rat) : l.1 + y * (l.1 + l.2 - l.1) = ht l y := by
  unfold ht
  grind
def gHt : DSpN := fun ds _ L => ∃ (ls : List (Rat × Rat)) (y : Rat), ds = [endsD ls, ratQ y] ∧ ls.length ≤ 6 ∧ (∀ l ∈ ls, Ln2 l) ∧ QB 4000 y ∧ L (ls.map fun l => ratQ (ht l y))
theorem mN__law_heights : MonoN gHt := fun ds P P' L L' f fl ⟨ls, y, a, b, c, d, h⟩ => ⟨ls, y, a, b, c, d, fl _ h⟩
theorem gN__law_heights (T : Tx K mg) : FnOk P w K mg base CX0 3 T.f__law_heights T.fd__law_heights ["_law_lines", "_law_t"] (spDN K 2 gHt) := by
  refine fnDN (k := 2) T.d__law_heights.F sc__law_heights (fun cdv A outer s H E hr => (psn_cons (ds_own (i := 2) sc__law_heights.nd rfl (by first | exact Or.inl rfl | exact Or.inr rfl) (dl_lst da_nil))
      (psn_mid (ds_for PassesOwn.never rfl (di_list (de_var 0 (pv 0))) (dg_tup (n := 2) rfl (dgs_cons (dg_name (i := 3) sc__law_heights.nd rfl (by first | exact Or.inl rfl | exact Or.inr rfl)) (dgs_cons (dg_name (i := 4) sc__law_heights.nd rfl (by first | exact Or.inl rfl | exact Or.inr rfl)) dgs_nil))) (dss_one (ds_app (pv 2) (de_call (g__law_plus T) m__law_plus (hr.mono (by decide)) rfl T.d__law_plus.m T.d__law_plus.F.kp T.d__law_plus.b (da_cons (de_var 3 (pv 3)) (da_cons (de_call (g__law_times T) m__law_times (hr.mono (by decide)) rfl T.d__law_times.m T.d__law_times.F.kp T.d__law_times.b (da_cons (de_var 1 (pv 1)) (da_cons (de_call (g__law_minus T) m__law_minus (hr.mono (by decide)) rfl T.d__law_minus.m T.d__law_minus.F.kp T.d__law_minus.b (da_cons (de_var 4 (pv 4)) (da_cons (de_var 3 (pv 3)) da_nil))) da_nil))) da_nil))))))
      (psn_own (pv 2))))) (fun ds Q L hl h => ?_)
  obtain ⟨ls, y, rfl, l6, ok, by_, h⟩ := h
  refine ⟨sz, fun ρ => ∃ a b : Sl, ρ = [.val (endsD ls), .val (ratQ y), .own (ls.map fun l => ratQ (ht l y)), a, b], ?_, ?_⟩
  · refine dLoop_pre (fun pre ρ => ∃ (c0 c1 : List (Rat × Rat)), ls = c0 ++ c1 ∧ pre = c0.map endD ∧ ∃ a b : Sl, ρ = [.val (endsD ls), .val (ratQ y), .own (c0.map fun l => ratQ (ht l y)), a, b]) (fun ρ hN => ?_) (fun pre d post ρ X e hN hX => ?_) _ ⟨[], ls, rfl, rfl, _, _, rfl⟩
    · obtain ⟨c0, c1, e1, e2, a, b, rfl⟩ := hN
      have : c1 = [] := by
        have := congrArg List.length e2
        rw [e1] at this
        simp at this
        exact this
      subst this
      rw [List.append_nil] at e1
      rw [← e1]
      exact ⟨_, _, rfl⟩
    · obtain ⟨c0, c1, e1, rfl, a, b, rfl⟩ := hN
      rw [e1, List.map_append] at e
      have e := List.append_cancel_left e
      cases c1 with
      | nil => simp at e
      | cons c c1 =>
        rw [List.map_cons] at e
        injection e with e3 e4
        subst e3
        have kc := ok c (by rw [e1]; simp)
        have b1 : QB 621 (c.1 + c.2 - c.1) := kc.b.sub kc.a
        have b2 : QB 4621 (y * (c.1 + c.2 - c.1)) := by_.mul b1
        refine ⟨rfl, trivial, rfl, c.1 + c.2, c.1, 310, 310, rfl, by decide, kc.b, kc.a, rfl, y, _, 4000, 621, rfl, by decide, by_, b1, rfl, c.1, _, 310, 4621, rfl, by decide, kc.a, b2, ?_⟩
        rw [htE]
        have ll : c0.length ≤ 6 := by rw [e1, List.length_append] at l6; omega
        refine ⟨by rw [List.length_map]; exact Nat.lt_of_le_of_lt ll (by decide), hX _ ⟨c0 ++ [c], c1, by rw [e1]; simp, by simp, .val (ratQ c.1), .val (ratQ (c.1 + c.2)), ?_⟩⟩
        rw [List.map_append]
        rfl
  · rintro _ ⟨a, b, rfl⟩
    exact h
theorem m__law_heights : MonoS (fun ds Q => gHt ds Q fun es => Q (.lst es)) := fun ds P P' f h => mN__law_heights ds _ _ _ _ (fun d q => f d q) (fun es q => f _ q) h
theorem g__law_heights (T : Tx K mg) : FnOk P w K mg base CX0 3 T.f__law_heights T.fd__law_heights ["_law_lines", "_law_t"] (spD K 2 (fun ds Q => gHt ds Q fun es => Q (.lst es))) := DL.FnOk.asD (gN__law_heights T) (fun ds Q h => h) mN__law_heights
theorem dColl_filt {g : DG} {tc : DT} {te : DE} {l : List Nat} {Q : List D → Prop} (F G : Nat → D) (p : Nat → Bool) (N : DS → Prop) (hl : l.length ≤ 1000)
    (hs : ∀ i ∈ l, ∀ (ρ : DS) (Y : D → DS → Prop) (Z : DS → Prop), N ρ → (p i = true → ∀ ρ', N (clean ρ') → Y (G i) ρ') → (p i = false → ∀ ρ', N (clean ρ') → Z ρ') → g (F i) ρ fun ρ1 => tc ρ1 fun b ρ2 => Br b (te ρ2 Y) (Z ρ2)) (ρ : DS) (h : N ρ) (hq : Q ((l.filter p).map G)) : dColl g tc te (l.map F) [] ρ Q := by
  refine dColl_pre (fun pre acc ρ => acc = ((l.take pre.length).filter p).map G ∧ N ρ) (fun acc ρ hN => by rw [hN.1, List.length_map, List.take_length]; exact hq) (fun pre d post acc ρ Y e hN hY => ?_) _ ⟨rfl, h⟩
  obtain ⟨rfl, hN⟩ := hN
  have hg : (l.map F)[pre.length]? = some d := by
    rw [e, List.getElem?_append_right (Nat.le_refl _), Nat.sub_self]
    rfl
  have lt : pre.length < l.length := by
    have := (List.getElem?_eq_some_iff.mp hg).1
    simpa using this
  rw [List.getElem?_map, List.getElem?_eq_getElem lt] at hg
  have hg : F l[pre.length] = d := by simpa using hg
  rw [← hg]
  have fl := List.length_filter_le p (l.take pre.length)
  rw [List.length_take] at fl
  have tk : l.take (pre.length + 1) = l.take pre.length ++ [l[pre.length]] := (List.take_append_getElem lt).symm
  refine hs l[pre.length] (List.getElem_mem lt) ρ _ _ hN (fun pt ρ' h' => ⟨?_, hY _ _ ⟨?_, h'⟩⟩) (fun pf ρ' h' => hY _ _ ⟨?_, h'⟩)
  · rw [List.length_map]
    exact Nat.lt_of_le_of_lt (show ((l.take pre.length).filter p).length ≤ 1000 by omega) (by decide)
  · rw [List.length_append, List.length_singleton, tk, List.filter_append, List.map_append, List.filter_cons, if_pos pt, List.filter_nil]
    rfl
  · rw [List.length_append, List.length_singleton, tk, List.filter_append, List.filter_cons, if_neg (by rw [pf]; exact Bool.false_ne_true), List.filter_nil, List.append_nil]
def gFA : DSp := fun ds Q => ∃ (ls : List (Rat × Rat)) (y : Rat), ds = [endsD ls, ratQ y] ∧ ls ≠ [] ∧ ls.length ≤ 6 ∧ (∀ l ∈ ls, Ln2 l) ∧ QB 4000 y ∧ ∀ M, MaxAt ls y M → Q (.lst ((firsts ls y M).map D.int))
theorem m__law_firsts_at : MonoS gFA := fun ds P P' f ⟨ls, y, a, b, c, d, e, h⟩ => ⟨ls, y, a, b, c, d, e, fun M m => f _ (h M m)⟩
theorem g__law_firsts_at (T : Tx K mg) : FnOk P w K mg base CX0 4 T.f__law_firsts_at T.fd__law_firsts_at ["_law_lines", "_law_t"] (spD K 2 gFA) := by
  refine fnD (k := 3) T.d__law_firsts_at.F sc__law_firsts_at (fun cdv A outer s H E hr => (dss_cons (ds_set (i := 2) sc__law_firsts_at.nd rfl (by first | exact Or.inl rfl | exact Or.inr rfl) (de_call (g__law_heights T) m__law_heights (hr.mono (by decide)) rfl T.d__law_heights.m T.d__law_heights.F.kp T.d__law_heights.b (da_cons (de_var 0 (pv 0)) (da_cons (de_var 1 (pv 1)) da_nil))))
      (dss_cons (ds_set (i := 3) sc__law_firsts_at.nd rfl (by first | exact Or.inl rfl | exact Or.inr rfl) (de_ix (de_var 2 (pv 2)) de_int (fun _ _ => rfl)))
      (dss_mid (ds_for PassesOwn.never rfl (di_list (de_var 2 (pv 2))) (dg_name (i := 4) sc__law_firsts_at.nd rfl (by first | exact Or.inl rfl | exact Or.inr rfl)) (dss_one (ds_if (dt_val (de_call (g__law_less T) m__law_less (hr.mono (by decide)) rfl T.d__law_less.m T.d__law_less.F.kp T.d__law_less.b (da_cons (de_var 3 (pv 3)) (da_cons (de_var 4 (pv 4)) da_nil)))) (dss_one (ds_set (i := 3) sc__law_firsts_at.nd rfl (by first | exact Or.inl rfl | exact Or.inr rfl) (de_var 4 (pv 4)))) dss_nil)))
      (dss_one (ds_ret (de_frz (PCD.pld (dl_comp (N' := ["_law_k", "_law_heights_here", "_law_best"]) rfl rfl (by decide +kernel) rfl (.own (.cap (j := 2) rfl (by first | exact Or.inl rfl | exact Or.inr rfl) rfl (.cap (j := 3) rfl (by first | exact Or.inl rfl | exact Or.inr rfl) rfl .nil))) (by decide +kernel) (di_range1 rfl T.z_range (da_cons (de_callB cd_len rfl T.z_len PySem.boot_len (da_cons (de_var 2 (pv 2)) da_nil)) da_nil)) (fun B => (dg_name (i := 0) (show List.Nodup (α := PySem.Str) ["_law_k", "_law_heights_here", "_law_best"] by decide +kernel) rfl (by first | exact Or.inl rfl | exact Or.inr rfl))) (fun B => (dts_one (dt_cmp (od_eq hr) (de_ix (de_var 1 (pv 1)) (de_var 0 (pv 0)) (fun _ _ => rfl)) (de_var 2 (pv 2)) (nomark _)))) (fun B => (de_var 0 (pv 0)))))))))))) (fun ds Q hl h => ?_)
  obtain ⟨ls, y, rfl, ne, l6, ok, by_, h⟩ := h
  refine ⟨rfl, ls, y, rfl, l6, ok, by_, ?_⟩
  have hb : ∀ o ∈ ls, QB 4932 (ht o y) := fun o om => by
    rw [← htE]
    exact (ok o om).a.add (by_.mul ((ok o om).b.sub (ok o om).a))
  have hl0 : (ls.map fun l => ratQ (ht l y)).length = ls.length := List.length_map ..
  obtain ⟨l0, e0⟩ : ∃ l0, ls[0]? = some l0 := by
    cases ls with
    | nil => exact absurd rfl ne
    | cons a r => exact ⟨a, rfl⟩
  have m0 := List.mem_of_getElem? e0
  refine opt_at (d := ratQ (ht l0 y)) (Int.le_refl 0) (by rw [show (0 : Int).toNat = 0 from rfl, List.getElem?_map, e0]; rfl) ?_
  refine ⟨fun ρ => ∃ M, MaxAt ls y M ∧ ∃ a : Sl, ρ = [.val (endsD ls), .val (ratQ y), .val (.lst (ls.map fun l => ratQ (ht l y))), .val (ratQ M), a], ?_, ?_⟩
  · refine dLoop_pre (fun pre ρ => ∃ (c0 c1 : List (Rat × Rat)) (M : Rat), ls = c0 ++ c1 ∧ pre = (c0.map fun l => ratQ (ht l y)) ∧ (∀ o ∈ c0, ht o y ≤ M) ∧ (∃ o ∈ ls, ht o y = M) ∧ ∃ a : Sl, ρ = [.val (endsD ls), .val (ratQ y), .val (.lst (ls.map fun l => ratQ (ht l y))), .val (ratQ M), a]) (fun ρ hN => ?_) (fun pre d post ρ X e hN hX => ?_) _ ⟨[], ls, ht l0 y, rfl, rfl, fun o ho => by simp at ho, ⟨l0, m0, rfl⟩, _, rfl⟩
    · obtain ⟨c0, c1, M, e1, e2, hM, hE, a, rfl⟩ := hN
      have : c1 = [] := by
        have := congrArg List.length e2
        rw [e1] at this
        simp at this
        exact this
      subst this
      rw [List.append_nil] at e1
      rw [← e1] at hM
      exact ⟨M, ⟨hM, hE⟩, _, rfl⟩
    · obtain ⟨c0, c1, M, e1, rfl, hM, ⟨o, om, oe⟩, a, rfl⟩ := hN
      rw [e1, List.map_append] at e
      have e := List.append_cancel_left e
      cases c1 with
      | nil => simp at e
      | cons c c1 =>
        rw [List.map_cons] at e
        injection e with e3 e4
        subst e3
        have hc : c ∈ ls := by rw [e1]; simp
        refine ⟨rfl, M, ht c y, rfl, by rw [← oe]; exact (hb o om).mono (by decide), (hb c hc).mono (by decide), Br.di (fun z => ?_) (fun z => ?_)⟩
        · refine hX _ ⟨c0 ++ [c], c1, ht c y, by rw [e1]; simp, by simp, fun o' h' => ?_, ⟨c, hc, rfl⟩, _, rfl⟩
          rcases List.mem_append.mp h' with h' | h'
          · have := hM o' h'; grind
          · rw [List.mem_singleton.mp h']; exact Rat.le_refl
        · refine hX _ ⟨c0 ++ [c], c1, M, by rw [e1]; simp, by simp, fun o' h' => ?_, ⟨o, om, oe⟩, _, rfl⟩
          rcases List.mem_append.mp h' with h' | h'
          · exact hM o' h'
          · rw [List.mem_singleton.mp h']; grind
  · rintro _ ⟨M, hM, a, rfl⟩
    refine ⟨⟨by omega, by omega⟩, ?_⟩
    rw [hl0, Int.toNat_natCast, ints0]
    refine dColl_filt (l := List.range ls.length) (fun i : Nat => .int (i : Int)) (fun i : Nat => .int (i : Int)) (fun k => decide (ht (ls.getD k (0, 0)) y = M)) (fun ρ => ∃ s, ρ = [s, .val (.lst (ls.map fun l => ratQ (ht l y))), .val (ratQ M)]) (by rw [List.length_range]; omega) (fun i hi ρ Y Z hN hY hZ => ?_) _ ⟨_, rfl⟩ ?_
    · obtain ⟨s, rfl⟩ := hN
      have hi := List.mem_range.mp hi
      refine opt_at (d := ratQ (ht (ls.getD i (0, 0)) y)) (by omega) (by rw [Int.toNat_natCast, List.getElem?_map, List.getElem?_eq_getElem hi, List.getD_eq_getElem?_getD, List.getElem?_eq_getElem hi]; rfl) ?_
      refine ⟨⟨shp_ratQ _, shp_ratQ _⟩, fun z => ?_, fun z => ?_⟩
      · have z : eqD (ratQ (ht (ls.getD i (0, 0)) y)) (ratQ M) = true := z
        rw [ratQ_inj] at z
        exact hY z _ ⟨_, rfl⟩
      · have z : eqD (ratQ (ht (ls.getD i (0, 0)) y)) (ratQ M) = false := z
        rw [ratQ_inj] at z
        exact hZ z _ ⟨_, rfl⟩
    · have := h M hM
      unfold firsts at this
      rw [List.map_map] at this
      exact this

def rowS (ls : List (Rat × Rat)) (s : Seg) : D := .tup [ratQ s.1, ratQ s.2.1, .lst ((hsOf ls s.2.2 ls.length).map D.int)]
def gRR : DSp := fun ds Q => ∃ (ls : List (Rat × Rat)) (s : Seg), ds = [endsD ls, rowS ls s] ∧ ls ≠ [] ∧ ls.length ≤ 6 ∧ (∀ l ∈ ls, Ln2 l) ∧ SegOk ls s ∧ QB 1900 s.1 ∧ QB 1900 s.2.1 ∧ Q (.bl true)
theorem m__law_row_right : MonoS gRR := fun ds P P' f ⟨ls, s, a, b, c, d, e, g, i, h⟩ => ⟨ls, s, a, b, c, d, e, g, i, f _ h⟩
theorem g__law_row_right (T : Tx K mg) : FnOk P w K mg base CX0 6 T.f__law_row_right T.fd__law_row_right ["_law_lines", "_law_row"] (spD K 2 gRR) := by
  refine fnD (k := 5) T.d__law_row_right.F sc__law_row_right (fun cdv A outer s H E hr => (dss_cons (ds_if (PWD.pt (dw_or (dt_not (dt_val (de_callB cd_is_tuple rfl T.z_isinstance rfl (da_cons (de_var 1 (pv 1)) (da_cons (de_ty (n := "tuple") rfl T.z_tuple rfl) da_nil))))) (dw_or1 (dt_cmp (od_ne hr) (de_callB cd_len rfl T.z_len PySem.boot_len (da_cons (de_var 1 (pv 1)) da_nil)) de_int (nomark _))))) (dss_one (ds_ret de_bl)) dss_nil)
      (dss_cons (ds_asgT (de_var 1 (pv 1)) (dg_tup (n := 3) rfl (dgs_cons (dg_name (i := 2) sc__law_row_right.nd rfl (by first | exact Or.inl rfl | exact Or.inr rfl)) (dgs_cons (dg_name (i := 3) sc__law_row_right.nd rfl (by first | exact Or.inl rfl | exact Or.inr rfl)) (dgs_cons (dg_name (i := 4) sc__law_row_right.nd rfl (by first | exact Or.inl rfl | exact Or.inr rfl)) dgs_nil)))))
      (dss_cons (ds_if (PWD.pt (dw_or (dt_not (dt_val (de_call (g__law_is_ratio T) m__law_is_ratio (hr.mono (by decide)) rfl T.d__law_is_ratio.m T.d__law_is_ratio.F.kp T.d__law_is_ratio.b (da_cons (de_var 2 (pv 2)) da_nil)))) (dw_or (dt_not (dt_val (de_call (g__law_is_ratio T) m__law_is_ratio (hr.mono (by decide)) rfl T.d__law_is_ratio.m T.d__law_is_ratio.F.kp T.d__law_is_ratio.b (da_cons (de_var 3 (pv 3)) da_nil)))) (dw_or1 (dt_not (dt_val (de_call (g__law_less T) m__law_less (hr.mono (by decide)) rfl T.d__law_less.m T.d__law_less.F.kp T.d__law_less.b (da_cons (de_var 2 (pv 2)) (da_cons (de_var 3 (pv 3)) da_nil))))))))) (dss_one (ds_ret de_bl)) dss_nil)
      (dss_cons (ds_if (dt_not (dt_val (de_callB cd_is_list rfl T.z_isinstance rfl (da_cons (de_var 4 (pv 4)) (da_cons (de_ty (n := "list") rfl T.z_list rfl) da_nil))))) (dss_one (ds_ret de_bl)) dss_nil)
      (dss_mid (ds_for PassesOwn.never rfl (di_tup (de_tup (da_cons (de_var 2 (pv 2)) (da_cons (de_var 3 (pv 3)) da_nil)))) (dg_name (i := 5) sc__law_row_right.nd rfl (by first | exact Or.inl rfl | exact Or.inr rfl)) (dss_cons (ds_set (i := 6) sc__law_row_right.nd rfl (by first | exact Or.inl rfl | exact Or.inr rfl) (de_call (g__law_firsts_at T) m__law_firsts_at (hr.mono (by decide)) rfl T.d__law_firsts_at.m T.d__law_firsts_at.F.kp T.d__law_firsts_at.b (da_cons (de_var 0 (pv 0)) (da_cons (de_var 5 (pv 5)) da_nil))))
      (dss_one (ds_if (dt_cmp (od_ne hr) (de_frz (PCD.pld (dl_comp (N' := ["_law_house", "_law_there"]) rfl rfl (by decide +kernel) rfl (.own (.cap (j := 6) rfl (by first | exact Or.inl rfl | exact Or.inr rfl) rfl .nil)) (by decide +kernel) (di_list (de_var 4 (pv 4))) (fun B => (dg_name (i := 0) (show List.Nodup (α := PySem.Str) ["_law_house", "_law_there"] by decide +kernel) rfl (by first | exact Or.inl rfl | exact Or.inr rfl))) (fun B => (dts_one (dt_cmp od_notin (de_var 0 (pv 0)) (de_var 1 (pv 1)) rfl))) (fun B => (de_var 0 (pv 0)))))) (de_frz (dl_lst da_nil)) (nomark _)) (dss_one (ds_ret de_bl)) dss_nil))))
      (dss_cons (ds_set (i := 7) sc__law_row_right.nd rfl (by first | exact Or.inl rfl | exact Or.inr rfl) (de_call (g__law_times T) m__law_times (hr.mono (by decide)) rfl T.d__law_times.m T.d__law_times.F.kp T.d__law_times.b (da_cons (de_call (g__law_plus T) m__law_plus (hr.mono (by decide)) rfl T.d__law_plus.m T.d__law_plus.F.kp T.d__law_plus.b (da_cons (de_var 2 (pv 2)) (da_cons (de_var 3 (pv 3)) da_nil))) (da_cons (de_tup (da_cons de_int (da_cons de_int da_nil))) da_nil))))
      (dss_one (ds_ret (de_cmp (od_eq hr) (de_var 4 (pv 4)) (de_call (g__law_firsts_at T) m__law_firsts_at (hr.mono (by decide)) rfl T.d__law_firsts_at.m T.d__law_firsts_at.F.kp T.d__law_firsts_at.b (da_cons (de_var 0 (pv 0)) (da_cons (de_var 7 (pv 7)) da_nil))) (nomark _))))))))))) (fun ds Q hl h => ?_)
  obtain ⟨ls, s, rfl, ne, l6, ok, so, b1, b2, h⟩ := h
  have half_val : ((1 : Rat) / 2).num = 1 ∧ ((1 : Rat) / 2).den = 2 := by decide +kernel
  have ratQ_half : ratQ (1 / 2) = .tup [.int 1, .int 2] := by
    unfold ratQ
    rw [half_val.1, half_val.2]
    rfl
  have QBh : QB 2 ((1 : Rat) / 2) := ⟨by rw [half_val.1]; exact bd_lit, by rw [half_val.2]; exact bd_lit⟩
  have bm : QB 3803 ((s.1 + s.2.1) * (1 / 2)) := (b1.add b2).mul QBh
  have lt := so.lt
  refine ⟨rfl, rfl, Br.f ⟨⟨rfl, rfl⟩, Br.f ⟨rfl, rfl, isrQ (b1.mono (by decide)) (Br.f ⟨rfl, isrQ (b2.mono (by decide)) (Br.f ?_)⟩)⟩⟩⟩
  have key : ∀ (y M : Rat) (s0 : Sl) (Q' : List D → Prop), MaxAt ls y M → s.1 ≤ y → y ≤ s.2.1 → Q' [] → dColl (dgName 0) (dB (dOp gNotIn (dVar 0) (dVar 1))) (dVar 0) ((hsOf ls s.2.2 ls.length).map D.int) [] [s0, .val (.lst ((firsts ls y M).map D.int))] Q' := fun y M s0 Q' mx y0 y1 q => by
    refine dColl_pre (fun pre acc ρ => acc = [] ∧ ∃ s : Sl, ρ = [s, .val (.lst ((firsts ls y M).map D.int))]) (fun acc ρ hN => by rw [hN.1]; exact q) (fun pre d post acc ρ Y e hN hY => ?_) _ ⟨rfl, _, rfl⟩
    obtain ⟨rfl, z, rfl⟩ := hN
    have hd : d ∈ (hsOf ls s.2.2 ls.length).map D.int := by rw [e]; simp
    obtain ⟨k, hk, rfl⟩ := List.mem_map.mp hd
    have fm := so.sub y0 y1 mx k hk
    have an : ((firsts ls y M).map D.int).any (fun y => eqF y (.int k)) = true := List.any_eq_true.mpr ⟨.int k, List.mem_map.mpr ⟨k, fm, rfl⟩, by show eqV (.int k) (.int k) = true; simp [eqV]⟩
    refine ⟨⟨rfl, ?_⟩, ?_⟩
    · rw [List.all_eq_true]
      intro x hx
      obtain ⟨j, _, rfl⟩ := List.mem_map.mp hx
      rfl
    · show Br (!((firsts ls y M).map D.int).any (fun y => eqF y (.int k))) _ _
      rw [an]
      exact Br.f (hY _ _ ⟨rfl, _, rfl⟩)
  refine ⟨rfl, s.1, s.2.1, rfl, b1.mono (by decide), b2.mono (by decide), ?_⟩
  show Br (!decide (s.1 < s.2.1)) _ _
  rw [decide_eq_true lt]
  refine Br.f ⟨rfl, rfl, Br.f ?_⟩
  refine ⟨fun ρ => ∃ a b c : Sl, ρ = [.val (endsD ls), .val (rowS ls s), .val (ratQ s.1), .val (ratQ s.2.1), .val (.lst ((hsOf ls s.2.2 ls.length).map D.int)), a, b, c], ?_, ?_⟩
  · refine ⟨sz, ?_⟩
    refine ⟨rfl, ls, s.1, rfl, ne, l6, ok, b1.mono (by decide), fun M mx => key s.1 M _ _ mx Rat.le_refl (by grind) ⟨sz, ⟨rfl, rfl⟩, Br.f ?_⟩⟩
    exact ⟨rfl, ls, s.2.1, rfl, ne, l6, ok, b2.mono (by decide), fun M mx => key s.2.1 M _ _ mx (by grind) Rat.le_refl ⟨sz, ⟨rfl, rfl⟩, Br.f ⟨_, _, _, rfl⟩⟩⟩
  · rintro _ ⟨a, b, c, rfl⟩
    refine ⟨rfl, s.1, s.2.1, 1900, 1900, rfl, by decide, b1, b2, sz, rfl, s.1 + s.2.1, 1 / 2, 3801, 2, ?_, by decide, b1.add b2, QBh, ?_⟩
    · rw [ratQ_half]
    refine ⟨rfl, ls, (s.1 + s.2.1) * (1 / 2), rfl, ne, l6, ok, bm.mono (by decide), fun M mx => ?_⟩
    have e := so.amid (y := (s.1 + s.2.1) * (1 / 2)) (by grind) (by grind) mx
    rw [← e]
    have sh : shp (.lst ((hsOf ls s.2.2 ls.length).map D.int)) = true := Shp.shp (n := 2) (.lst fun d hd => by
      obtain ⟨k, _, rfl⟩ := List.mem_map.mp hd
      exact .int)
    refine ⟨⟨sh, sh⟩, ?_⟩
    show Q (.bl (eqD (.lst ((hsOf ls s.2.2 ls.length).map D.int)) (.lst ((hsOf ls s.2.2 ls.length).map D.int))))
    rw [eqD_self sh]
    exact h

structure C22 (c : Int × Int) : Prop where
  t1 : 1 ≤ c.1
  t2 : c.1 ≤ 1000000000
  w0 : 0 ≤ c.2
  w1 : c.2 ≤ c.1
def gPart : DSp := fun ds Q => ∃ (m : Nat) (like : Bool), ds = [.pen, .int m, .bl like] ∧ 2 ≤ m ∧ m ≤ 6 ∧ ∀ r : Row, RowN 32 m r → (∀ c ∈ r, c.1 ≠ 0) → Q (rowD r)
theorem m__law_part : MonoS gPart := fun ds P P' f ⟨m, l, a, b, c, h⟩ => ⟨m, l, a, b, c, fun r x y => f _ (h r x y)⟩
theorem g__law_part (T : Tx K mg) : FnOk P w K mg base CX0 2 T.f__law_part T.fd__law_part ["_law_pen_here", "_law_many", "_law_like"] (spD K 3 gPart) := by
  refine fnD (k := 1) T.d__law_part.F sc__law_part (fun cdv A outer s H E hr => (dss_cons (ds_own (i := 3) sc__law_part.nd rfl (by first | exact Or.inl rfl | exact Or.inr rfl) (dl_lst da_nil))
      (dss_mid (ds_for PassesOwn.never rfl (di_range1 rfl T.z_range (da_cons (de_var 1 (pv 1)) da_nil)) (dg_name (i := 4) sc__law_part.nd rfl (by first | exact Or.inl rfl | exact Or.inr rfl)) (dss_cons (ds_set (i := 5) sc__law_part.nd rfl (by first | exact Or.inl rfl | exact Or.inr rfl) (de_op od_add de_int (de_call (g__law_next T) m__law_next (hr.mono (by decide)) rfl T.d__law_next.m T.d__law_next.F.kp T.d__law_next.b (da_cons (de_var 0 (pv 0)) (da_cons (de_ix (de_frz (dl_lst (da_cons de_int (da_cons de_int (da_cons de_int (da_cons (de_op od_pow de_int de_int) da_nil)))))) (de_call (g__law_next T) m__law_next (hr.mono (by decide)) rfl T.d__law_next.m T.d__law_next.F.kp T.d__law_next.b (da_cons (de_var 0 (pv 0)) (da_cons de_int da_nil))) (fun _ _ => rfl)) da_nil)))))
      (dss_one (ds_app (pv 3) (de_tup (da_cons (de_var 5 (pv 5)) (da_cons (de_call (g__law_next T) m__law_next (hr.mono (by decide)) rfl T.d__law_next.m T.d__law_next.F.kp T.d__law_next.b (da_cons (de_var 0 (pv 0)) (da_cons (de_op od_add (de_var 5 (pv 5)) de_int) da_nil))) da_nil)))))))
      (dss_mid (ds_if (PWD.pt (dw_or (dt_val (de_var 2 (pv 2))) (dw_or1 (dt_cmp (od_eq hr) (de_call (g__law_next T) m__law_next (hr.mono (by decide)) rfl T.d__law_next.m T.d__law_next.F.kp T.d__law_next.b (da_cons (de_var 0 (pv 0)) (da_cons de_int da_nil))) de_int (nomark _))))) (dss_one (ds_asgT (de_tup (da_cons (de_op od_mul de_int (de_ix (de_ixO (pv 3) (de_un ud_neg de_int) (fun _ _ => rfl)) de_int (fun _ _ => rfl))) (da_cons (de_op od_mul de_int (de_ix (de_ixO (pv 3) (de_un ud_neg de_int) (fun _ _ => rfl)) de_int (fun _ _ => rfl))) da_nil))) (dg_sub (pv 3) de_int))) dss_nil)
      (dss_one (ds_ret (de_callTy cd_tuple rfl T.z_tuple rfl (da_cons (de_var 3 (pv 3)) da_nil)))))))) (fun ds Q hl h => ?_)
  obtain ⟨m, like, rfl, m2, m6, h⟩ := h
  refine ⟨sz, fun ρ => ∃ r : Row, r.length = m ∧ (∀ c ∈ r, C22 c) ∧ ∃ a b : Sl, ρ = [.val .pen, .val (.int m), .val (.bl like), .own (r.map pairD), a, b], ?_, ?_⟩
  · refine ⟨⟨by omega, by omega⟩, dLoop_up (fun k ρ => ∃ r : Row, (r.length : Int) = k ∧ (∀ c ∈ r, C22 c) ∧ ∃ a b : Sl, ρ = [.val .pen, .val (.int m), .val (.bl like), .own (r.map pairD), a, b]) _ _ (fun ρ hN => ?_) (fun k ρ X k0 k1 hN hX => ?_) _ ⟨[], rfl, fun c hc => by simp at hc, _, _, rfl⟩⟩
    · obtain ⟨r, e, hr, a, b, rfl⟩ := hN
      exact ⟨r, by omega, hr, _, _, rfl⟩
    · obtain ⟨r, e, hr, a, b, rfl⟩ := hN
      refine ⟨cpow, sz, rfl, ⟨by decide, by decide⟩, fun j j0 j1 => opt_mem j0 j1 fun d hd => ?_⟩
      obtain ⟨n, rfl, n1, n2⟩ : ∃ n : Int, d = .int n ∧ 1 ≤ n ∧ n ≤ 1000000000 := by
        simp only [List.mem_cons, List.not_mem_nil, or_false] at hd
        rcases hd with rfl | rfl | rfl | rfl
        · exact ⟨9, rfl, by decide, by decide⟩
        · exact ⟨40, rfl, by decide, by decide⟩
        · exact ⟨40, rfl, by decide, by decide⟩
        · exact ⟨_, rfl, by decide, by decide⟩
      refine ⟨rfl, ⟨n1, by omega⟩, fun q q0 q1 => ⟨trivial, rfl, ⟨by omega, by omega⟩, fun w w0 w1 => ⟨sz, ?_, hX _ ⟨r ++ [(1 + q, w)], ?_, fun c hc => ?_, .val (.int k), .val (.int (1 + q)), ?_⟩⟩⟩⟩
      · rw [List.length_map]
        exact Nat.lt_of_le_of_lt (show r.length ≤ 10 by omega) (by decide)
      · rw [List.length_append, List.length_singleton]
        omega
      · rcases List.mem_append.mp hc with hc | hc
        · exact hr c hc
        · rw [List.mem_singleton.mp hc]
          exact ⟨by show 1 ≤ 1 + q; omega, by show 1 + q ≤ 1000000000; omega, w0, by show w ≤ 1 + q; omega⟩
      · rw [List.map_append]
        rfl
  · rintro _ ⟨r, rm, hr, a, b, rfl⟩
    have bd : ∀ x : Int, 0 ≤ x → x ≤ 1000000000 → Bd 30 x := fun x h0 h1 => by show x.natAbs < 2 ^ 30; omega
    have rn : RowN 32 m r := ⟨rm, fun c hc => by
      have k := hr c hc
      have := k.t1
      have := k.t2
      have := k.w0
      have := k.w1
      exact cnt_of k.w0 k.w1 ((bd c.1 (by omega) (by omega)).mono (by decide))⟩
    have rz : ∀ c ∈ r, c.1 ≠ 0 := fun c hc => by have := (hr c hc).t1; omega
    refine ⟨fun ρ => ∃ r' : Row, RowN 32 m r' ∧ (∀ c ∈ r', c.1 ≠ 0) ∧ ∃ a b : Sl, ρ = [.val .pen, .val (.int m), .val (.bl like), .own (r'.map pairD), a, b], ?_, ?_⟩
    · have no : ∃ r' : Row, RowN 32 m r' ∧ (∀ c ∈ r', c.1 ≠ 0) ∧ ∃ a' b' : Sl, [Sl.val .pen, .val (.int m), .val (.bl like), .own (r.map pairD), a, b] = [.val .pen, .val (.int m), .val (.bl like), .own (r'.map pairD), a', b'] := ⟨r, rn, rz, a, b, rfl⟩
      obtain ⟨r0, c, er⟩ : ∃ r0 c, r = r0 ++ [c] := by
        rcases List.eq_nil_or_concat r with z | ⟨r0, c, z⟩
        · rw [z] at rm; simp at rm; omega
        · exact ⟨r0, c, by rw [z, List.concat_eq_append]⟩
      have kc := hr c (by rw [er]; simp)
      have k1 := kc.t1
      have k2 := kc.t2
      have k3 := kc.w0
      have k4 := kc.w1
      have at1 : atI (r.map pairD) (-1) = some (pairD c) := by rw [er, List.map_append]; exact L2.atI_last _ _
      have cm : ∀ x : Int, 0 ≤ x → x ≤ 1000000000 → CMulB 3 x := fun x h0 h1 => (bd_lit (i := 3) (n := 2)).cmul (bd x h0 h1)
      have rn2 : RowN 32 m (r.set 0 (3 * c.1, 3 * c.2)) := ⟨by rw [List.length_set]; exact rm, fun d hd => by
        rcases List.mem_or_eq_of_mem_set hd with hd | rfl
        · exact rn.2 d hd
        · refine cnt_of (by show 0 ≤ 3 * c.2; omega) (by show 3 * c.2 ≤ 3 * c.1; omega) ?_
          show (3 * c.1).natAbs < 2 ^ 32
          omega⟩
      have rz2 : ∀ d ∈ r.set 0 (3 * c.1, 3 * c.2), d.1 ≠ 0 := fun d hd => by
        rcases List.mem_or_eq_of_mem_set hd with hd | rfl
        · exact rz d hd
        · show 3 * c.1 ≠ 0
          omega
      cases like with
      | true =>
        refine Br.t (Br.t ?_)
        refine ⟨trivial, ?_⟩
        show opt (atI (r.map pairD) (-1)) _
        rw [at1]
        refine ⟨cm c.1 (by omega) k2, trivial, ?_⟩
        show opt (atI (r.map pairD) (-1)) _
        rw [at1]
        refine ⟨cm c.2 k3 (by omega), sz, trivial, 0, ixN_nat (n := 0) (by rw [List.length_map]; omega), r.set 0 (3 * c.1, 3 * c.2), rn2, rz2, a, b, ?_⟩
        rw [List.map_set]
        rfl
      | false => exact Br.f ⟨rfl, ⟨by decide, by decide⟩, fun q q0 q1 => ⟨⟨rfl, rfl⟩, fun _ => by
        refine ⟨trivial, ?_⟩
        show opt (atI (r.map pairD) (-1)) _
        rw [at1]
        refine ⟨cm c.1 (by omega) k2, trivial, ?_⟩
        show opt (atI (r.map pairD) (-1)) _
        rw [at1]
        refine ⟨cm c.2 k3 (by omega), sz, trivial, 0, ixN_nat (n := 0) (by rw [List.length_map]; omega), r.set 0 (3 * c.1, 3 * c.2), rn2, rz2, a, b, ?_⟩
        rw [List.map_set]
        rfl, fun _ => no⟩⟩
    · rintro _ ⟨r', rn', rz', a, b, rfl⟩
      exact h r' rn' rz'

structure Grw (m : Nat) (ws os : List Int) (i : Nat) (t : List Row) : Prop where
  l : t.length = i
  r : ∀ r ∈ t, RowN 32 m r
  z : ∀ j r, t[j]? = some r → (∃ c ∈ r, c.1 = 0) → ws.getD j 0 = 0 ∧ os.getD j 0 = 0
def gTab : DSp := fun ds Q => ∃ (n : Nat) (ws os : List Int), ds = [.pen, .lst (ws.map D.int), .lst (os.map D.int)] ∧ Wts n ws ∧ Wts n os ∧ 1 ≤ n ∧ n ≤ 6 ∧ ∀ (m : Nat) (t : List Row), t.length = n → Lns m t ws os → Q (.lst (t.map rowD))
theorem m__law_table : MonoS gTab := fun ds P P' f ⟨n, ws, os, a, b, c, d, e, h⟩ => ⟨n, ws, os, a, b, c, d, e, fun m t x y => f _ (h m t x y)⟩
theorem g__law_table (T : Tx K mg) : FnOk P w K mg base CX0 3 T.f__law_table T.fd__law_table ["_law_pen_here", "_law_weights", "_law_others"] (spD K 3 gTab) := by
  refine fnD (k := 2) T.d__law_table.F sc__law_table (fun cdv A outer s H E hr => (dss_cons (ds_set (i := 3) sc__law_table.nd rfl (by first | exact Or.inl rfl | exact Or.inr rfl) (de_op od_add de_int (de_call (g__law_next T) m__law_next (hr.mono (by decide)) rfl T.d__law_next.m T.d__law_next.F.kp T.d__law_next.b (da_cons (de_var 0 (pv 0)) (da_cons (de_ix (de_frz (dl_lst (da_cons de_int (da_cons de_int da_nil)))) (de_call (g__law_next T) m__law_next (hr.mono (by decide)) rfl T.d__law_next.m T.d__law_next.F.kp T.d__law_next.b (da_cons (de_var 0 (pv 0)) (da_cons de_int da_nil))) (fun _ _ => rfl)) da_nil)))))
      (dss_cons (ds_set (i := 4) sc__law_table.nd rfl (by first | exact Or.inl rfl | exact Or.inr rfl) (de_cmp (od_eq hr) (de_call (g__law_next T) m__law_next (hr.mono (by decide)) rfl T.d__law_next.m T.d__law_next.F.kp T.d__law_next.b (da_cons (de_var 0 (pv 0)) (da_cons de_int da_nil))) de_int (nomark _)))
      (dss_cons (ds_own (i := 5) sc__law_table.nd rfl (by first | exact Or.inl rfl | exact Or.inr rfl) (dl_lst da_nil))
      (dss_mid (ds_for PassesOwn.never rfl (di_zip rfl T.z_zip (da_cons (de_var 1 (pv 1)) (da_cons (de_var 2 (pv 2)) da_nil))) (dg_tup (n := 2) rfl (dgs_cons (dg_name (i := 6) sc__law_table.nd rfl (by first | exact Or.inl rfl | exact Or.inr rfl)) (dgs_cons (dg_name (i := 7) sc__law_table.nd rfl (by first | exact Or.inl rfl | exact Or.inr rfl)) dgs_nil))) (dss_cons (ds_set (i := 8) sc__law_table.nd rfl (by first | exact Or.inl rfl | exact Or.inr rfl) (de_call (g__law_part T) m__law_part (hr.mono (by decide)) rfl T.d__law_part.m T.d__law_part.F.kp T.d__law_part.b (da_cons (de_var 0 (pv 0)) (da_cons (de_var 3 (pv 3)) (da_cons (de_var 4 (pv 4)) da_nil)))))
      (dss_mid (ds_if (PWD.pt (dw_and (dt_cmp (od_eq hr) (de_op od_add (de_var 6 (pv 6)) (de_var 7 (pv 7))) de_int (nomark _)) (dw_and1 (dt_cmp (od_eq hr) (de_call (g__law_next T) m__law_next (hr.mono (by decide)) rfl T.d__law_next.m T.d__law_next.F.kp T.d__law_next.b (da_cons (de_var 0 (pv 0)) (da_cons de_int da_nil))) de_int (nomark _))))) (dss_one (ds_set (i := 8) sc__law_table.nd rfl (by first | exact Or.inl rfl | exact Or.inr rfl) (de_op od_catT (de_tup (da_cons (de_tup (da_cons de_int (da_cons de_int da_nil))) da_nil)) (de_slT (de_var 8 (pv 8)) (do_some de_int) do_none)))) dss_nil)
      (dss_one (ds_app (pv 5) (de_var 8 (pv 8)))))))
      (dss_one (ds_ret (de_var 5 (pv 5))))))))) (fun ds Q hl h => ?_)
  obtain ⟨n, ws, os, rfl, w, u, n1, n6, h⟩ := h
  refine ⟨sz, rfl, ⟨by decide, by decide⟩, fun j j0 j1 => opt_mem j0 j1 fun d hd => ?_⟩
  obtain ⟨b, rfl, b1, b2⟩ : ∃ b : Int, d = .int b ∧ 1 ≤ b ∧ b ≤ 5 := by
    simp only [List.mem_cons, List.not_mem_nil, or_false] at hd
    rcases hd with rfl | rfl
    · exact ⟨2, rfl, by decide, by decide⟩
    · exact ⟨5, rfl, by decide, by decide⟩
  refine ⟨rfl, ⟨b1, by omega⟩, fun q q0 q1 => ⟨rfl, ⟨by decide, by decide⟩, fun lk _ _ => ⟨⟨rfl, rfl⟩, ?_⟩⟩⟩
  obtain ⟨m, em, m2, m6⟩ : ∃ m : Nat, 2 + q = (m : Int) ∧ 2 ≤ m ∧ m ≤ 6 := ⟨(2 + q).toNat, by omega, by omega, by omega⟩
  obtain ⟨like, elk⟩ : ∃ like : Bool, eqD (.int lk) (.int 0) = like := ⟨_, rfl⟩
  show dSeq _ _ _ [.val .pen, .val (.lst (ws.map D.int)), .val (.lst (os.map D.int)), .val (.int (2 + q)), .val (.bl (eqD (.int lk) (.int 0))), .nil, .nil, .nil, .nil]
  rw [em, elk]
  have lw := w.len
  have lu := u.len
  have ez : zipD (ws.map D.int) (os.map D.int) = (List.range n).map fun i => .tup [.int (ws.getD i 0), .int (os.getD i 0)] := by
    rw [rng_eq (d := 0) D.int (l := ws), rng_eq (d := 0) D.int (l := os), lw, lu, zip_map2]
  refine ⟨sz, fun ρ => ∃ t : List Row, Grw m ws os n t ∧ ∃ a b c : Sl, ρ = [.val .pen, .val (.lst (ws.map D.int)), .val (.lst (os.map D.int)), .val (.int m), .val (.bl like), .own (t.map rowD), a, b, c], ?_, ?_⟩
  · show dLoop _ _ (zipD (ws.map D.int) (os.map D.int)) _ _
    rw [ez]
    refine dLoop_rng _ (fun i ρ => ∃ t : List Row, Grw m ws os i t ∧ ∃ a b c : Sl, ρ = [.val .pen, .val (.lst (ws.map D.int)), .val (.lst (os.map D.int)), .val (.int m), .val (.bl like), .own (t.map rowD), a, b, c]) (fun ρ h => h) ?_ _ ⟨[], ⟨rfl, fun r hr => by simp at hr, fun j r e => by simp at e⟩, _, _, _, rfl⟩
    rintro i ρ X hi ⟨t, g, a, b, c, rfl⟩ hX
    refine ⟨rfl, rfl, m, like, rfl, m2, m6, fun r rn rz => ?_⟩
    have wn := (w.at hi).2.1
    have un := (u.at hi).2.1
    refine ⟨fun ρ => ∃ r' : Row, RowN 32 m r' ∧ ((∃ c ∈ r', c.1 = 0) → ws.getD i 0 = 0 ∧ os.getD i 0 = 0) ∧ ρ = [.val .pen, .val (.lst (ws.map D.int)), .val (.lst (os.map D.int)), .val (.int m), .val (.bl like), .own (t.map rowD), .val (.int (ws.getD i 0)), .val (.int (os.getD i 0)), .val (rowD r')], ?_, ?_⟩
    · have no : ∃ r' : Row, RowN 32 m r' ∧ ((∃ c ∈ r', c.1 = 0) → ws.getD i 0 = 0 ∧ os.getD i 0 = 0) ∧ [Sl.val .pen, .val (.lst (ws.map D.int)), .val (.lst (os.map D.int)), .val (.int m), .val (.bl like), .own (t.map rowD), .val (.int (ws.getD i 0)), .val (.int (os.getD i 0)), .val (rowD r)] = [.val .pen, .val (.lst (ws.map D.int)), .val (.lst (os.map D.int)), .val (.int m), .val (.bl like), .own (t.map rowD), .val (.int (ws.getD i 0)), .val (.int (os.getD i 0)), .val (rowD r')] := ⟨r, rn, fun ⟨c, hc, z⟩ => absurd z (rz c hc), rfl⟩
      refine ⟨⟨rfl, rfl⟩, fun z => ?_, fun _ => Br.f no⟩
      have z : ws.getD i 0 + os.getD i 0 = 0 := by simpa [eqD_int] using z
      refine ⟨rfl, ⟨by decide, by decide⟩, fun q' _ _ => ⟨⟨rfl, rfl⟩, fun _ => ?_, fun _ => no⟩⟩
      have hcut : cutD (r.map pairD) (some 1) none = (r.drop 1).map pairD := by
        unfold cutD
        have e1 : HT.sIx (r.map pairD).length 0 (some (1 : Int)) = 1 := by
          rw [show (1 : Int) = ((1 : Nat) : Int) from rfl, HT.sIx_nat, List.length_map, rn.1]
          omega
        have e2 : HT.sIx (r.map pairD).length (r.map pairD).length none = (r.map pairD).length := rfl
        rw [e1, e2, List.map_drop]
        apply List.take_of_length_le
        rw [List.length_drop]
        exact Nat.le_refl _
      have e1 : HT.sIx (r.map pairD).length 0 (some (1 : Int)) = 1 := by
        rw [show (1 : Int) = ((1 : Nat) : Int) from rfl, HT.sIx_nat, List.length_map, rn.1]
        omega
      refine ⟨sz, sz, fun y => ?_, ⟨by simp, ?_⟩, (0, 0) :: r.drop 1, ⟨?_, fun x hx => ?_⟩, fun _ => ⟨by omega, by omega⟩, ?_⟩
      · rw [e1] at y
        exact absurd y.1 (by decide)
      · rw [hcut, List.length_map, List.length_drop, rn.1]
        exact Nat.le_trans (show 1 + (m - 1) ≤ 10 by omega) (by decide)
      · rw [List.length_cons, List.length_drop, rn.1]
        omega
      · rcases List.mem_cons.mp hx with rfl | hx
        · exact ⟨by decide, by decide, by show Int.natAbs 0 < 2 ^ 32; decide, by show Int.natAbs 0 < 2 ^ 32; decide⟩
        · exact rn.2 x (List.mem_of_mem_drop hx)
      · rw [hcut]
        rfl
    · rintro _ ⟨r', rn', hz, rfl⟩
      refine ⟨trivial, by rw [List.length_map, g.l]; exact Nat.lt_of_le_of_lt (show i ≤ 10 by omega) (by decide), hX _ ⟨t ++ [r'], ⟨?_, fun x hx => ?_, fun j x e => ?_⟩, .val (.int (ws.getD i 0)), .val (.int (os.getD i 0)), .val (rowD r'), ?_⟩⟩
      · rw [List.length_append, List.length_singleton, g.l]
      · rcases List.mem_append.mp hx with hx | hx
        · exact g.r x hx
        · rw [List.mem_singleton.mp hx]; exact rn'
      · by_cases jl : j < t.length
        · rw [List.getElem?_append_left jl] at e
          exact g.z j x e
        · rw [List.getElem?_append_right (by omega)] at e
          have : j - t.length = 0 := by
            rcases Nat.eq_zero_or_pos (j - t.length) with y | y
            · exact y
            · rw [List.getElem?_eq_none (by simp; omega)] at e; cases e
          have ej : j = i := by have := g.l; omega
          rw [this] at e
          injection e with e
          subst e
          rw [ej]
          exact hz
      · rw [List.map_append]
        rfl
  · rintro _ ⟨t, g, a, b, c, rfl⟩
    have tl := g.l
    refine h m t tl ⟨⟨⟨⟨m2, m6, by omega, by omega, fun r hr => (g.r r hr).up⟩, by omega, g.r⟩, by omega, m6⟩, by rw [tl]; exact w, by rw [tl]; exact u, fun j hj k hk hb => ?_⟩
    obtain ⟨r, e1, rm, e2, _⟩ := (T33.cl (m := m) (t := t) ⟨⟨m2, m6, by omega, by omega, fun r hr => (g.r r hr).up⟩, by omega, g.r⟩ hk hj)
    refine hb.2 (g.z j r e1 ⟨at_ r k, ?_, by rw [e2]; exact hb.1⟩)
    exact List.mem_of_getElem? (at_get (g.r r rm) hk).1

def gMx : DSp := fun ds Q => ∃ (m : Nat) (t : List Row) (h : Int) (q : Nat → Rat), ds = [.lst (t.map rowD), .int h, wL q t.length] ∧ Mxd m t h q ∧ non t q h.toNat ∧ Q (ratQ (sumQ (mxA t h.toNat q) t.length))
theorem m__law_mixed : MonoS gMx := fun ds P P' f ⟨m, t, hh, ws, e, o, h1, h2⟩ => ⟨m, t, hh, ws, e, o, h1, f _ h2⟩
theorem g__law_mixed (T : Tx K mg) : FnOk P w K mg base CX0 3 T.f__law_mixed T.fd__law_mixed ["_law_table_here", "_law_house", "_law_weights"] (spD K 3 gMx) := by
  refine fnD (k := 2) T.d__law_mixed.F sc__law_mixed (fun cdv A outer s H E hr => (dss_cons (ds_set (i := 3) sc__law_mixed.nd rfl (by first | exact Or.inl rfl | exact Or.inr rfl) (de_tup (da_cons de_int (da_cons de_int da_nil))))
      (dss_mid (ds_for PassesOwn.never rfl (di_range1 rfl T.z_range (da_cons (de_callB cd_len rfl T.z_len PySem.boot_len (da_cons (de_var 0 (pv 0)) da_nil)) da_nil)) (dg_name (i := 4) sc__law_mixed.nd rfl (by first | exact Or.inl rfl | exact Or.inr rfl)) (dss_cons (ds_asgT (de_ix (de_ix (de_var 0 (pv 0)) (de_var 4 (pv 4)) (fun _ _ => rfl)) (de_var 1 (pv 1)) (fun _ _ => rfl)) (dg_tup (n := 2) rfl (dgs_cons (dg_name (i := 5) sc__law_mixed.nd rfl (by first | exact Or.inl rfl | exact Or.inr rfl)) (dgs_cons (dg_name (i := 6) sc__law_mixed.nd rfl (by first | exact Or.inl rfl | exact Or.inr rfl)) dgs_nil))))
      (dss_one (ds_if (dt_cmp od_gt (de_ix (de_ix (de_var 2 (pv 2)) (de_var 4 (pv 4)) (fun _ _ => rfl)) de_int (fun _ _ => rfl)) de_int (nomark _)) (dss_cons (ds_if (dt_cmp (od_eq hr) (de_var 5 (pv 5)) de_int (nomark _)) (dss_one (ds_ret (de_var 4 (pv 4)))) dss_nil)
      (dss_one (ds_set (i := 3) sc__law_mixed.nd rfl (by first | exact Or.inl rfl | exact Or.inr rfl) (de_call (g__law_plus T) m__law_plus (hr.mono (by decide)) rfl T.d__law_plus.m T.d__law_plus.F.kp T.d__law_plus.b (da_cons (de_var 3 (pv 3)) (da_cons (de_call (g__law_times T) m__law_times (hr.mono (by decide)) rfl T.d__law_times.m T.d__law_times.F.kp T.d__law_times.b (da_cons (de_ix (de_var 2 (pv 2)) (de_var 4 (pv 4)) (fun _ _ => rfl)) (da_cons (de_call (g__law_ratio T) m__law_ratio (hr.mono (by decide)) rfl T.d__law_ratio.m T.d__law_ratio.F.kp T.d__law_ratio.b (da_cons (de_var 6 (pv 6)) (da_cons (de_var 5 (pv 5)) da_nil))) da_nil))) da_nil)))))) dss_nil))))
      (dss_one (ds_ret (de_var 3 (pv 3))))))) (fun ds Q hl h => ?_)
  obtain ⟨m, t, hh, q, rfl, o, hu, hq⟩ := h
  have l30 := o.o.l
  have l6 := o.w.l
  have h0 := o.h0
  have h1 := o.h1
  have lt : (t.map rowD).length = t.length := List.length_map ..
  refine ⟨sz, fun ρ => (∀ j, j < t.length → ¬ unt1 t q hh.toNat j) ∧ ∃ a b c : Sl, ρ = [.val (.lst (t.map rowD)), .val (.int hh), .val (wL q t.length), .val (ratQ (sumQ (mxA t hh.toNat q) t.length)), a, b, c], ?_, ?_⟩
  · refine ⟨⟨by omega, by omega⟩, ?_⟩
    show dLoop _ _ (intsD 0 ((t.map rowD).length : Int).toNat) _ _
    rw [show (((t.map rowD).length : Int)).toNat = t.length by rw [lt]; omega, ints0]
    refine dLoop_rng _ (fun i ρ => (∀ j, j < i → ¬ unt1 t q hh.toNat j) ∧ ∃ a b c : Sl, ρ = [.val (.lst (t.map rowD)), .val (.int hh), .val (wL q t.length), .val (ratQ (sumQ (mxA t hh.toNat q) i)), a, b, c]) (fun ρ hN => hN) (fun i ρ X hi hN hX => ?_) _ ⟨fun j hj => absurd hj (Nat.not_lt_zero _), _, _, _, rfl⟩
    obtain ⟨hp, a, b, c, rfl⟩ := hN
    have bS : QB 3000 (sumQ (mxA t hh.toNat q) i) := (sum_B (k := 92) (fun i hi => mx_B o hi) i (by omega)).mono (by omega)
    have bm := mx_B o hi
    have b1 := o.w.b i hi
    have b3 := o.o.B (h := hh.toNat) (i := i) (by omega) hi
    obtain ⟨_, _, _, _, cc⟩ := o.o.cl (h := hh.toNat) (i := i) (by omega) hi
    have nx : ¬ unt1 t q hh.toNat i → ∀ j, j < i + 1 → ¬ unt1 t q hh.toNat j := fun z j hj => by
      rcases Nat.lt_or_ge j i with y | y
      · exact hp j y
      · have : j = i := by omega
        subst this
        exact z
    refine tab_at o.o h0 h1 hi ⟨rfl, rng_at hi ?_⟩
    refine ⟨fun z => ?_, fun z => ?_⟩
    · have z : 0 < (q i).num := by simpa using z
      have wp := num_pos.mp z
      refine ⟨⟨rfl, rfl⟩, fun y => ?_, fun y => ?_⟩
      · have y : (cl t hh.toNat i).1 = 0 := by simpa [eqD_int] using y
        exact absurd ⟨y, wp⟩ (hu i hi)
      · have nt : ¬ (cl t hh.toNat i).1 = 0 := by simpa [eqD_int] using y
        have tp : 0 < (cl t hh.toNat i).1 := by have := cc.lo; have := cc.hi; omega
        have es : sh t hh.toNat i = ((cl t hh.toNat i).2 : Rat) / ((cl t hh.toNat i).1 : Rat) := by unfold sh; rw [if_neg nt]
        refine rng_at hi ⟨rfl, lrat_ok (n := 32) (by decide) tp cc.bw cc.bt ?_⟩
        rw [← es]
        exact ⟨rfl, q i, sh t hh.toNat i, 3000, 3000, rfl, by decide, b1.mono (by decide), b3.mono (by decide), rfl, sumQ (mxA t hh.toNat q) i, q i * sh t hh.toNat i, 3000, 3000, rfl, by decide, bS, bm.mono (by decide), hX _ ⟨nx fun x => nt x.1, _, _, _, rfl⟩⟩
    · have z : ¬ 0 < (q i).num := by simpa using z
      have h3 : ¬ 0 < q i := fun y => z (num_pos.mpr y)
      have wz : q i = 0 := by
        have h2 := o.w.nn i hi
        grind
      have e0 : sumQ (mxA t hh.toNat q) (i + 1) = sumQ (mxA t hh.toNat q) i := by
        simp only [sumQ, mxA]
        rw [wz]
        grind
      exact hX _ ⟨nx fun x => h3 x.2, _, _, _, by rw [e0]; rfl⟩
  · rintro _ ⟨hp, a, b, c, rfl⟩
    exact hq

theorem fz_rows (ls : List (Rat × Rat)) (rs : List Seg) : fzO (.lst ((rs.map (segR ls)).map rwO)) = .lst (rs.map (rowS ls)) := by
  simp only [fzO]
  rw [fzOs_map, List.map_map, List.map_map]
  congr 1
  apply List.map_congr_left
  intro s _
  show fzO (rwO (segR ls s)) = rowS ls s
  unfold rwO segR rowS
  simp only [fzO, fzOs, fzOs_map, List.map_map]
  rfl
theorem Le1.anti {a b : Rat × Rat} (h : Le1 a b) (k : Le1 b a) : a = b := by
  obtain ⟨a1, a2⟩ := a
  obtain ⟨b1, b2⟩ := b
  simp only [Le1] at h k
  rw [Prod.mk.injEq]
  grind
theorem step_one {ls : List (Rat × Rat)} {l o o' : Rat × Rat} (h : IsStep ls l o) (k : IsStep ls l o') : o = o' := by
  have h1 := h.2.2.2 o' k.1 k.2.1
  have h2 := k.2.2.2 o h.1 h.2.1
  have s1 := h.2.1
  have s2 := k.2.1
  have e0 := ht_mt s1 (mt l o)
  have e1 := ht_mt s2 (mt l o)
  unfold Be at h1 h2
  have e2 : mt l o = mt l o' := by grind
  have e3 : o.2 = o'.2 := by grind
  rw [← e2] at e1
  unfold ht at e0 e1
  rw [← e3] at e1
  exact Prod.ext (by grind) e3
theorem Chain.one {ls : List (Rat × Rat)} : ∀ {rs rs' : List Seg} {x : Rat} {l : Rat × Rat}, Chain ls x l rs → Chain ls x l rs' → rs = rs'
  | [], _, _, _, h, _ => h.elim
  | _ :: _, [], _, _, _, k => k.elim
  | r :: rs, r' :: rs', x, l, h, k => by
    obtain ⟨a1, a2, h⟩ := h
    obtain ⟨b1, b2, k⟩ := k
    rcases h with ⟨rfl, e, n⟩ | ⟨o, s, e, c⟩
    · rcases k with ⟨rfl, e', n'⟩ | ⟨o', s', e', c'⟩
      · rw [show r = r' from Prod.ext (a1.trans b1.symm) (Prod.ext (e.trans e'.symm) (a2.trans b2.symm))]
      · exact absurd s'.2.2.1 (n o' s'.1 s'.2.1)
    · rcases k with ⟨rfl, e', n'⟩ | ⟨o', s', e', c'⟩
      · exact absurd s.2.2.1 (n' o s.1 s.2.1)
      · have eo := step_one s s'
        subst eo
        rw [show r = r' from Prod.ext (a1.trans b1.symm) (Prod.ext (e.trans e'.symm) (a2.trans b2.symm)), Chain.one c c']
theorem Told.one {ls : List (Rat × Rat)} {rs rs' : List Seg} (h : Told ls rs) (k : Told ls rs') : rs = rs' := by
  obtain ⟨l, lm, lt, c⟩ := h.c
  obtain ⟨l', lm', lt', c'⟩ := k.c
  have e := (lt l' lm').anti (lt' l lm)
  subst e
  exact c.one c'
structure Ln3 (l : Rat × Rat) : Prop where
  a : QB 310 l.1
  b : QB 621 l.2
theorem mt_B3 {l o : Rat × Rat} (hl : Ln3 l) (ho : Ln3 o) (h : l.2 < o.2) : QB 1900 (mt l o) := ((hl.a.sub ho.a).div (ho.b.sub hl.b) (by grind)).mono (by decide)
theorem Chain.B {ls : List (Rat × Rat)} (ok : ∀ l ∈ ls, Ln3 l) : ∀ {rs : List Seg} {x : Rat} {l : Rat × Rat}, Chain ls x l rs → l ∈ ls → QB 1900 x → ∀ s ∈ rs, QB 1900 s.1 ∧ QB 1900 s.2.1
  | [], _, _, h, _, _, _, _ => h.elim
  | r :: rs, x, l, h, lm, bx, s, hs => by
    obtain ⟨e1, e2, h⟩ := h
    rcases h with ⟨rfl, e, n⟩ | ⟨o, st, e, c⟩
    · rcases List.mem_cons.mp hs with rfl | hs
      · rw [e1, e]
        exact ⟨bx, q1B⟩
      · simp at hs
    · have b := mt_B3 (ok l lm) (ok o st.1) st.2.1
      rcases List.mem_cons.mp hs with rfl | hs
      · rw [e1, e]
        exact ⟨bx, b⟩
      · exact Chain.B ok c st.1 b s hs
theorem lsO_3 {m : Nat} {t : List Row} {ws os : List Int} (o : Lns m t ws os) : ∀ l ∈ lsO m t ws os, Ln3 l := fun l hl => by
  obtain ⟨h, hh, rfl⟩ := List.mem_map.mp hl
  have hh := List.mem_range.mp hh
  exact ⟨st_B o.o o.w hh, (st_B o.o o.u hh).sub (st_B o.o o.w hh)⟩
theorem stL_end (t : List Row) (ws os : List Int) (h : Nat) : (stL t ws os h).1 + (stL t ws os h).2 = st t os h := by
  unfold stL
  grind
theorem lsO_2 {m : Nat} {t : List Row} {ws os : List Int} (o : Lns m t ws os) : ∀ l ∈ lsO m t ws os, Ln2 l := fun l hl => by
  obtain ⟨h, hh, rfl⟩ := List.mem_map.mp hl
  have hh := List.mem_range.mp hh
  exact ⟨st_B o.o o.w hh, by rw [stL_end]; exact st_B o.o o.u hh⟩
theorem endD_is (t : List Row) (ws os : List Int) (h : Nat) : endD (stL t ws os h) = .tup [ratQ (st t ws h), ratQ (st t os h)] := by
  unfold endD
  rw [stL_end]
  rfl
def gFsD : DSp := fun ds Q => ∃ (m : Nat) (t : List Row) (ws os : List Int), ds = [.lst (t.map rowD), .lst (ws.map D.int), .lst (os.map D.int)] ∧ Lns m t ws os ∧ ∀ rs, Told (lsO m t ws os) rs → Q (.lst (rs.map (rowS (lsO m t ws os))))
theorem m_firsts : MonoS gFsD := fun ds P P' f ⟨m, t, ws, os, a, b, h⟩ => ⟨m, t, ws, os, a, b, fun rs x => f _ (h rs x)⟩
theorem g_firsts (T : Tx K mg) : FnOk P w K mg base CX0 12 T.f_firsts T.fd_firsts ["table", "weights", "others"] (spD K 3 gFsD) := DL.FnOk.asDB (gB_firsts T) (fun ds Q ⟨m, t, ws, os, a, b, h⟩ => ⟨m, t, ws, os, a, b, fun rs x => by
  show Q (fzO _)
  rw [fz_rows]
  exact h rs x⟩) mB_firsts
theorem shp_rows (ls : List (Rat × Rat)) (rs : List Seg) : shp (.lst (rs.map (rowS ls))) = true := Shp.shp (n := 4) (.lst fun d hd => by
  obtain ⟨s, _, rfl⟩ := List.mem_map.mp hd
  exact .tup fun d hd => by
    simp only [List.mem_cons, List.not_mem_nil, or_false] at hd
    rcases hd with rfl | rfl | rfl
    · exact .pair
    · exact .pair
    · exact .lst fun d hd => by
        obtain ⟨k, _, rfl⟩ := List.mem_map.mp hd
        exact .int)
def gRt : DSp := fun ds Q => ∃ (m : Nat) (t : List Row) (ws os : List Int), ds = [.lst (t.map rowD), .lst (ws.map D.int), .lst (os.map D.int)] ∧ Lns m t ws os ∧ Q (.bl true)
theorem m__law_right : MonoS gRt := fun ds P P' f ⟨m, t, ws, os, a, b, h⟩ => ⟨m, t, ws, os, a, b, f _ h⟩
theorem fzix {q : O} {xs : List D} {i : Int} {P : D → Prop} (e : fzO q = .lst xs) (h : opt (atI xs i) P) : gIx (fzO q) (.int i) P := by rw [e]; exact h
theorem fzlen {q : O} {xs : List D} {P : D → Prop} (e : fzO q = .lst xs) (h : P (.int xs.length)) : gLen [fzO q] P := by rw [e]; exact h
theorem eqD_lints : ∀ a b : List Int, eqD (.lst (a.map D.int)) (.lst (b.map D.int)) = decide (a = b)
  | [], [] => rfl
  | [], b :: bs => rfl
  | a :: as, [] => rfl
  | a :: as, b :: bs => by
    show (eqD (.int a) (.int b) && eqD (.lst (as.map D.int)) (.lst (bs.map D.int))) = _
    rw [eqD_int, eqD_lints as bs]
    by_cases h1 : a = b <;> by_cases h2 : as = bs <;> simp [h1, h2]
theorem shp_lints (a : List Int) : shp (.lst (a.map D.int)) = true := Shp.shp (n := 2) (.lst fun d hd => by
  obtain ⟨k, _, rfl⟩ := List.mem_map.mp hd
  exact .int)
theorem ne_self {d : D} (h : shp d = true) {A B : Prop} (q : B) : Br (!eqD d d) A B := by
  rw [eqD_self h]
  exact Br.f q
theorem rows_at {ls : List (Rat × Rat)} {rs : List Seg} {k : Nat} {s : Seg} {P : D → Prop} (e : rs[k]? = some s) (h : P (rowS ls s)) : opt (atI (rs.map (rowS ls)) (k : Int)) P := opt_at (d := rowS ls s) (by omega) (by rw [Int.toNat_natCast, List.getElem?_map, e]; rfl) h
theorem g__law_right (T : Tx K mg) : FnOk P w K mg base CX0 13 T.f__law_right T.fd__law_right ["_law_table_here", "_law_weights", "_law_others"] (spD K 3 gRt) := by
  refine fnD (k := 12) T.d__law_right.F sc__law_right (fun cdv A outer s H E hr => (dss_cons (ds_set (i := 3) sc__law_right.nd rfl (by first | exact Or.inl rfl | exact Or.inr rfl) (de_call (g__law_over_sum T) m__law_over_sum (hr.mono (by decide)) rfl T.d__law_over_sum.m T.d__law_over_sum.F.kp T.d__law_over_sum.b (da_cons (de_var 1 (pv 1)) da_nil)))
      (dss_cons (ds_set (i := 4) sc__law_right.nd rfl (by first | exact Or.inl rfl | exact Or.inr rfl) (de_call (g__law_over_sum T) m__law_over_sum (hr.mono (by decide)) rfl T.d__law_over_sum.m T.d__law_over_sum.F.kp T.d__law_over_sum.b (da_cons (de_var 2 (pv 2)) da_nil)))
      (dss_cons (ds_own (i := 5) sc__law_right.nd rfl (by first | exact Or.inl rfl | exact Or.inr rfl) (dl_lst da_nil))
      (dss_mid (ds_for PassesOwn.never rfl (di_range1 rfl T.z_range (da_cons (de_callB cd_len rfl T.z_len PySem.boot_len (da_cons (de_ix (de_var 0 (pv 0)) de_int (fun _ _ => rfl)) da_nil)) da_nil)) (dg_name (i := 6) sc__law_right.nd rfl (by first | exact Or.inl rfl | exact Or.inr rfl)) (dss_cons (ds_set (i := 7) sc__law_right.nd rfl (by first | exact Or.inl rfl | exact Or.inr rfl) (de_call (g__law_mixed T) m__law_mixed (hr.mono (by decide)) rfl T.d__law_mixed.m T.d__law_mixed.F.kp T.d__law_mixed.b (da_cons (de_var 0 (pv 0)) (da_cons (de_var 6 (pv 6)) (da_cons (de_var 3 (pv 3)) da_nil)))))
      (dss_one (ds_app (pv 5) (de_tup (da_cons (de_var 7 (pv 7)) (da_cons (de_call (g__law_mixed T) m__law_mixed (hr.mono (by decide)) rfl T.d__law_mixed.m T.d__law_mixed.F.kp T.d__law_mixed.b (da_cons (de_var 0 (pv 0)) (da_cons (de_var 6 (pv 6)) (da_cons (de_var 4 (pv 4)) da_nil)))) da_nil)))))))
      (dss_cons (ds_setB (i := 8) (gB_firsts T) mB_firsts (hr.mono (by decide)) rfl T.d_firsts.m T.d_firsts.F.kp T.d_firsts.b (da_cons (de_var 0 (pv 0)) (da_cons (de_var 1 (pv 1)) (da_cons (de_var 2 (pv 2)) da_nil))) sc__law_right.nd rfl (by first | exact Or.inl rfl | exact Or.inr rfl))
      (dss_cons (ds_if (PWD.pt (dw_or (dt_not (dt_look (dt_val (de_callB cd_is_list rfl T.z_isinstance rfl (da_cons (de_var 8 (pv 8)) (da_cons (de_ty (n := "list") rfl T.z_list rfl) da_nil)))))) (dw_or1 (dt_look (dt_cmp (od_eq hr) (de_var 8 (pv 8)) (de_frz (dl_lst da_nil)) (nomark _)))))) (dss_one (ds_ret de_bl)) dss_nil)
      (dss_cons (ds_if (PWD.pt (dw_or (dt_look (dt_cmp (od_ne hr) (de_ix (de_ix (de_var 8 (pv 8)) de_int (fun _ _ => rfl)) de_int (fun _ _ => rfl)) (de_tup (da_cons de_int (da_cons de_int da_nil))) (nomark _))) (dw_or1 (dt_look (dt_cmp (od_ne hr) (de_ix (de_ix (de_var 8 (pv 8)) (de_un ud_neg de_int) (fun _ _ => rfl)) de_int (fun _ _ => rfl)) (de_tup (da_cons de_int (da_cons de_int da_nil))) (nomark _)))))) (dss_one (ds_ret de_bl)) dss_nil)
      (dss_mid (ds_look (ds_for PassesOwn.never rfl (di_range1 rfl T.z_range (da_cons (de_callB cd_len rfl T.z_len PySem.boot_len (da_cons (de_var 8 (pv 8)) da_nil)) da_nil)) (dg_name (i := 9) sc__law_right.nd rfl (by first | exact Or.inl rfl | exact Or.inr rfl)) (dss_cons (ds_if (dt_not (dt_val (de_call (g__law_row_right T) m__law_row_right (hr.mono (by decide)) rfl T.d__law_row_right.m T.d__law_row_right.F.kp T.d__law_row_right.b (da_cons (de_var 5 (pv 5)) (da_cons (de_ix (de_var 8 (pv 8)) (de_var 9 (pv 9)) (fun _ _ => rfl)) da_nil))))) (dss_one (ds_ret de_bl)) dss_nil)
      (dss_cons (ds_if (PWD.pt (dw_and (dt_cmp od_gt (de_var 9 (pv 9)) de_int (nomark _)) (dw_and1 (dt_cmp (od_ne hr) (de_ix (de_ix (de_var 8 (pv 8)) (de_var 9 (pv 9)) (fun _ _ => rfl)) de_int (fun _ _ => rfl)) (de_ix (de_ix (de_var 8 (pv 8)) (de_op od_sub (de_var 9 (pv 9)) de_int) (fun _ _ => rfl)) de_int (fun _ _ => rfl)) (nomark _))))) (dss_one (ds_ret de_bl)) dss_nil)
      (dss_one (ds_if (PWD.pt (dw_and (dt_cmp od_gt (de_var 9 (pv 9)) de_int (nomark _)) (dw_and1 (dt_cmp (od_eq hr) (de_ix (de_ix (de_var 8 (pv 8)) (de_var 9 (pv 9)) (fun _ _ => rfl)) de_int (fun _ _ => rfl)) (de_ix (de_ix (de_var 8 (pv 8)) (de_op od_sub (de_var 9 (pv 9)) de_int) (fun _ _ => rfl)) de_int (fun _ _ => rfl)) (nomark _))))) (dss_one (ds_ret de_bl)) dss_nil))))))
      (dss_cons (ds_keepR (i := 10) (jy := 8) (N' := ["_law_low", "_law_high", "_law_houses"]) sc__law_right.nd rfl rfl (pv 8) rfl rfl (by decide +kernel) rfl (.own (.own (.own .nil))) (by decide +kernel) (fun B => pg_tupH rfl (pgs_cons (pg_name (i := 0) (show List.Nodup (α := PySem.Str) ["_law_low", "_law_high", "_law_houses"] by decide +kernel) rfl (Or.inl rfl)) (pgs_cons (pg_name (i := 1) (show List.Nodup (α := PySem.Str) ["_law_low", "_law_high", "_law_houses"] by decide +kernel) rfl (Or.inl rfl)) (pgs_cons (pg_name (i := 2) (show List.Nodup (α := PySem.Str) ["_law_low", "_law_high", "_law_houses"] by decide +kernel) rfl (Or.inl rfl)) pgs_nil)))) (fun B => pe_tup (pa_cons (pv 0) (pa_cons (pv 1) (pa_cons (pe_callTy call_list_of rfl T.z_list rfl (pa_cons (pv 2) pa_nil)) pa_nil)))))
      (dss_mid (ds_forR (i := 8) (j := 11) (c := 7) PassesOwn.never rfl (pv 8) (pg_name (i := 11) sc__law_right.nd rfl (by first | exact Or.inl rfl | exact Or.inr rfl)) (pss_one (ps_expr (pe_bm PySem.F.plainAttrs_list PySem.F.slot_list_append PySem.F.type_list_append mt_append (pe_ix ix_tupH (pv 11) pe_int (fun _ _ => rfl)) (pa_cons pe_int pa_nil)))))
      (dss_cons (ds_clrR (pv 8))
      (dss_one (ds_ret (de_look (de_cmp (od_eq hr) (de_call (g_firsts T) m_firsts (hr.mono (by decide)) rfl T.d_firsts.m T.d_firsts.F.kp T.d_firsts.b (da_cons (de_var 0 (pv 0)) (da_cons (de_var 1 (pv 1)) (da_cons (de_var 2 (pv 2)) da_nil)))) (de_var 10 (pv 10)) (nomark _))))))))))))))))) (fun ds Q hl h => ?_)
  obtain ⟨m, t, ws, os, rfl, o, h⟩ := h
  have l30 := o.o.o.l
  have l6 := o.o.l6
  have m6 := o.o.m6
  have m2 := o.o.o.o.m2
  have t1 := o.o.o.o.p1
  obtain ⟨r0, e0, r0m, _, _⟩ := o.o.o.cl (h := 0) (i := 0) (by omega) (by omega)
  have lr : (r0.map pairD).length = m := by rw [List.length_map]; exact (o.o.o.r r0 r0m).1
  refine ⟨rfl, t.length, ws, rfl, o.w, l30, rfl, t.length, os, rfl, o.u, l30, sz, fun ρ => ∃ a b : Sl, ρ = [.val (.lst (t.map rowD)), .val (.lst (ws.map D.int)), .val (.lst (os.map D.int)), .val (wL (wq ws) t.length), .val (wL (wq os) t.length), .own ((lsO m t ws os).map endD), a, b, .nil, .nil, .nil, .nil], ?_, ?_⟩
  · refine opt_at (d := rowD r0) (Int.le_refl 0) (by rw [show (0 : Int).toNat = 0 from rfl, List.getElem?_map, e0]; rfl) ?_
    refine ⟨⟨by omega, by omega⟩, ?_⟩
    show dLoop _ _ (intsD 0 (((r0.map pairD).length : Nat) : Int).toNat) _ _
    rw [Int.toNat_natCast, lr, ints0]
    refine dLoop_rng _ (fun i ρ => ∃ a b : Sl, ρ = [.val (.lst (t.map rowD)), .val (.lst (ws.map D.int)), .val (.lst (os.map D.int)), .val (wL (wq ws) t.length), .val (wL (wq os) t.length), .own ((lsO i t ws os).map endD), a, b, .nil, .nil, .nil, .nil]) (fun ρ hN => hN) (fun i ρ X hi hN hX => ?_) _ ⟨_, _, rfl⟩
    obtain ⟨a, b, rfl⟩ := hN
    refine ⟨rfl, m, t, i, wq ws, rfl, ⟨o.o.o, by omega, by omega, o.w.wr l6⟩, o.n1 hi, trivial, rfl, m, t, i, wq os, rfl, ⟨o.o.o, by omega, by omega, o.u.wr l6⟩, o.n2 hi, sz, ?_, hX _ ⟨.val (.int i), .val (ratQ (st t ws i)), ?_⟩⟩
    · unfold lsO
      rw [List.length_map, List.length_map, List.length_range]
      exact Nat.lt_of_le_of_lt (show i ≤ 10 by omega) (by decide)
    · have e : (lsO (i + 1) t ws os).map endD = (lsO i t ws os).map endD ++ [.tup [ratQ (st t ws i), ratQ (st t os i)]] := by
        unfold lsO
        rw [List.range_succ, List.map_append, List.map_append, ← endD_is]
        rfl
      rw [e]
      rfl
  · rintro _ ⟨a, b, rfl⟩
    refine ⟨rfl, m, t, ws, os, rfl, o, fun rs told => ?_⟩
    have l3 := lsO_3 o
    have l2 := lsO_2 o
    have ll : (lsO m t ws os).length = m := by unfold lsO; rw [List.length_map, List.length_range]
    have lne : lsO m t ws os ≠ [] := fun z => by rw [z] at ll; simp at ll; omega
    have ag : ∀ rs', Told (lsO m t ws os) rs' → rs' = rs := fun rs' h' => h'.one told
    obtain ⟨l0, m0, t0, ch⟩ := told.c
    have r10 := told.n
    have ok := ch.ok (.start m0 t0) Rat.le_refl (by decide)
    have bd := ch.B l3 m0 q0B
    obtain ⟨s0, f0, f1, _⟩ := ch.fst
    obtain ⟨s9, f2, f3⟩ := ch.lst
    have nb := @ch.nb
    clear ch
    obtain ⟨ls, hls⟩ : ∃ ls, ls = lsO m t ws os := ⟨_, rfl⟩
    rw [← hls] at l3 l2 ll lne ag ok m0 t0 ⊢
    have fz := fz_rows ls rs
    have sr := shp_rows ls rs
    have rne : rs ≠ [] := fun z => by rw [z] at f0; cases f0
    show dSeq _ _ _ _
    refine fun vs => ⟨rfl, rfl, rfl, Br.f fun vs => ⟨sz, ⟨by rw [fz]; exact sr, rfl⟩, rfl, ⟨fun z => ?_, fun _ => ?_⟩⟩⟩
    · have z : eqD (fzO (O.lst ((rs.map (segR ls)).map rwO))) (.lst []) = true := z
      rw [fz] at z
      cases rs with
      | nil => exact absurd rfl rne
      | cons r rs => cases z
    refine fun vs => ?_
    refine fzix fz (rows_at (k := 0) f0 ⟨sz, ⟨shp_ratQ _, rfl⟩, rfl, ⟨fun z => ?_, fun _ => fun vs => ?_⟩⟩)
    · have z : (!eqD (ratQ s0.1) (ratQ 0)) = true := z
      rw [f1, eqD_self (shp_ratQ _)] at z
      cases z
    have n0 : 0 < rs.length := List.length_pos_iff.mpr rne
    have at9 : atI (rs.map (rowS ls)) (-1) = some (rowS ls s9) := by
      obtain ⟨r0', r9, er⟩ : ∃ r0' r9, rs = r0' ++ [r9] := by
        rcases List.eq_nil_or_concat rs with z | ⟨r0', c, z⟩
        · exact absurd z rne
        · exact ⟨r0', c, by rw [z, List.concat_eq_append]⟩
      have : r9 = s9 := by
        rw [er] at f2
        simpa using f2
      rw [er, List.map_append, this]
      exact L2.atI_last _ _
    refine fzix fz ?_
    rw [at9]
    refine ⟨sz, ⟨shp_ratQ _, rfl⟩, rfl, ⟨fun z => ?_, fun _ => ?_⟩⟩
    · have z : (!eqD (ratQ s9.2.1) (ratQ 1)) = true := z
      rw [f3, eqD_self (shp_ratQ _)] at z
      cases z
    refine ⟨fun ρ => ρ = [.val (.lst (t.map rowD)), .val (.lst (ws.map D.int)), .val (.lst (os.map D.int)), .val (wL (wq ws) t.length), .val (wL (wq os) t.length), .own (ls.map endD), a, b, .obj (.lst ((rs.map (segR ls)).map rwO)), .nil, .nil, .nil], fun vs => ?_, ?_⟩
    · have lfz : (fzOs ((rs.map (segR ls)).map rwO)).length = rs.length := by rw [fzOs_map]; simp
      have lfz2 : (((fzOs ((rs.map (segR ls)).map rwO)).length : Nat) : Int) ≤ 100 := by rw [lfz]; omega
      refine ⟨⟨Int.natCast_nonneg _, Int.lt_of_le_of_lt lfz2 (by decide)⟩, ?_⟩
      show dLoop _ _ (intsD 0 (((fzOs ((rs.map (segR ls)).map rwO)).length : Nat) : Int).toNat) _ _
      rw [Int.toNat_natCast, lfz, ints0]
      refine dLoop_rng _ (fun i ρ => ∃ s : Sl, ρ = [.pin (vs 0) (.lst (t.map rowD)), .pin (vs 1) (.lst (ws.map D.int)), .pin (vs 2) (.lst (os.map D.int)), .pin (vs 3) (wL (wq ws) t.length), .pin (vs 4) (wL (wq os) t.length), .pin (vs 5) (.lst (ls.map endD)), pinS (vs 6) a, pinS (vs 7) b, .pin (vs 8) (fzO (.lst ((rs.map (segR ls)).map rwO))), s, .nil, .nil]) (fun ρ hN => ?_) (fun i ρ X hi hN hX => ?_) _ ⟨_, rfl⟩
      · obtain ⟨s, rfl⟩ := hN
        exact ⟨_, .keep (.keep (.keep (.keep (.keep (.keep (.keep (.keep (.keep (.drop (.keep (.keep .nil))))))))))), rfl⟩
      obtain ⟨s, rfl⟩ := hN
      obtain ⟨si, ei⟩ : ∃ si, rs[i]? = some si := ⟨_, List.getElem?_eq_getElem hi⟩
      have mi := List.mem_of_getElem? ei
      refine fzix fz (rows_at ei ⟨rfl, ls, si, rfl, lne, by omega, l2, ok si mi, (bd si mi).1, (bd si mi).2, ?_⟩)
      refine Br.f (Br.di (fun z => ?_) (fun z => Br.f (Br.di (fun z' => absurd z' z) (fun z' => Br.f (hX _ ⟨_, rfl⟩)))))
      obtain ⟨j, rfl⟩ : ∃ j, i = j + 1 := ⟨i - 1, by omega⟩
      obtain ⟨sj, ej⟩ : ∃ sj, rs[j]? = some sj := ⟨_, List.getElem?_eq_getElem (by omega)⟩
      have mj := List.mem_of_getElem? ej
      have hn := nb ej ei
      have atj : ∀ P : D → Prop, P (rowS ls sj) → opt (atI (rs.map (rowS ls)) (((j + 1 : Nat) : Int) - 1)) P := fun P hP => opt_at (d := rowS ls sj) (by omega) (by rw [show (((j + 1 : Nat) : Int) - 1).toNat = j by omega, List.getElem?_map, ej]; rfl) hP
      refine fzix fz (rows_at ei (fzix fz (atj _ ⟨⟨shp_ratQ _, shp_ratQ _⟩, ⟨fun y => ?_, fun _ => Br.di (fun _ => ?_) (fun y => absurd z y)⟩⟩)))
      · have y : (!eqD (ratQ si.1) (ratQ sj.2.1)) = true := y
        rw [hn.1, eqD_self (shp_ratQ _)] at y
        cases y
      · refine fzix fz (rows_at ei (fzix fz (atj _ ⟨⟨shp_lints _, shp_lints _⟩, ⟨fun y => ?_, fun _ => hX _ ⟨_, rfl⟩⟩⟩)))
        have y : eqD (.lst ((hsOf ls si.2.2 ls.length).map D.int)) (.lst ((hsOf ls sj.2.2 ls.length).map D.int)) = true := y
        rw [eqD_lints] at y
        refine absurd (of_decide_eq_true y) (hs_ne (ok si mi).t.1 fun e => ?_)
        have := hn.2
        rw [e] at this
        grind
    · rintro _ rfl
      have l10 : (rs.map (segR ls)).length ≤ 10 := by rw [List.length_map]; exact r10
      refine ⟨rs.map (segR ls), rfl, Nat.le_trans l10 (by decide), ?_⟩
      refine ⟨fun ρ => ∃ q : List O, ρ = [.val (.lst (t.map rowD)), .val (.lst (ws.map D.int)), .val (.lst (os.map D.int)), .val (wL (wq ws) t.length), .val (wL (wq os) t.length), .own (ls.map endD), a, b, .obj (.lst q), .nil, .obj (.lst ((rs.map (segR ls)).map rwO)), .nil], ⟨rs.map (segR ls), rfl, ⟨by decide, by simp⟩, fun r hr => ?_, fun q => ⟨q, rfl⟩⟩, ?_⟩
      · obtain ⟨s, _, rfl⟩ := List.mem_map.mp hr
        show ((hsOf ls s.2.2 ls.length).map D.int).length < _
        rw [List.length_map]
        exact Nat.lt_of_le_of_lt (hs_len _ _ _) (by rw [ll]; exact Nat.lt_of_le_of_lt m6 (by decide))
      · rintro _ ⟨q, rfl⟩
        refine ⟨q, rfl, fun vs => ⟨rfl, m, t, ws, os, rfl, o, fun rs' told' => ?_⟩⟩
        rw [← hls] at told' ⊢
        have er := ag rs' told'
        subst er
        refine ⟨⟨sr, by rw [fz]; exact sr⟩, ⟨trivial, rfl⟩, ?_⟩
        show Q (.bl (eqD _ (fzO _)))
        rw [fz, eqD_self sr]
        exact h

theorem Lns.swap {m : Nat} {t : List Row} {ws os : List Int} (o : Lns m t ws os) : Lns m t os ws := ⟨o.o, o.u, o.w, fun j hj g hg ⟨a, b⟩ => o.tr j hj g hg ⟨a, fun z => b ⟨z.2, z.1⟩⟩⟩
theorem sum_3 : ∀ ws : List Int, (ws.map fun w => 3 * w).sum = 3 * ws.sum
  | [] => rfl
  | w :: ws => by rw [List.map_cons, List.sum_cons, List.sum_cons, sum_3 ws]; omega
theorem Wts.by3 {n : Nat} {ws : List Int} (o : Wts n ws) (u : ∀ w ∈ ws, w ≤ 1000) : Wts n (ws.map fun w => 3 * w) := by
  refine ⟨by rw [List.length_map]; exact o.len, fun w hw => ?_, fun w hw => ?_, ?_⟩
  · obtain ⟨v, hv, rfl⟩ := List.mem_map.mp hw
    have := o.nn v hv
    omega
  · obtain ⟨v, hv, rfl⟩ := List.mem_map.mp hw
    have := u v hv
    omega
  · rw [sum_3]
    have := o.pos
    omega
theorem shp_three (t : List Row) (ws os : List Int) : shp (.lst [.lst (t.map rowD), .lst (ws.map D.int), .lst (os.map D.int)]) = true := Shp.shp (n := 4) (.lst fun d hd => by
  simp only [List.mem_cons, List.not_mem_nil, or_false] at hd
  rcases hd with rfl | rfl | rfl
  · exact .lst fun d hd => by
      obtain ⟨r, _, rfl⟩ := List.mem_map.mp hd
      exact .tup fun d hd => by
        obtain ⟨c, _, rfl⟩ := List.mem_map.mp hd
        exact .pair
  · exact .lst fun d hd => by
      obtain ⟨k, _, rfl⟩ := List.mem_map.mp hd
      exact .int
  · exact .lst fun d hd => by
      obtain ⟨k, _, rfl⟩ := List.mem_map.mp hd
      exact .int)
theorem g_law (T : Tx K mg) : FnOk P w K mg base CX0 14 T.f_law T.fd_law ["_law_script"] (DL.spLaw K) := by
  refine lawD (k := 13) T.d_law.F sc_law rfl (by decide) (fun cdv A outer s H E hr => ps_set (i := 1) sc_law.nd rfl (by first | exact Or.inl rfl | exact Or.inr rfl) (pe_call (g0__law_pen T) (hr.mono (by decide)) rfl T.d__law_pen.m T.d__law_pen.F.kp T.d__law_pen.b .nil pass0 (pa_cons (pv 0) pa_nil))) (fun cdv A outer s H E hr => (dss_mid (ds_for PassesOwn.never rfl (di_range1 rfl T.z_range (da_cons de_int da_nil)) (dg_name (i := 2) sc_law.nd rfl (by first | exact Or.inl rfl | exact Or.inr rfl)) (dss_cons (ds_set (i := 3) sc_law.nd rfl (by first | exact Or.inl rfl | exact Or.inr rfl) (de_op od_add de_int (de_call (g__law_next T) m__law_next (hr.mono (by decide)) rfl T.d__law_next.m T.d__law_next.F.kp T.d__law_next.b (da_cons (de_var 1 (pv 1)) (da_cons de_int da_nil)))))
      (dss_cons (ds_set (i := 4) sc_law.nd rfl (by first | exact Or.inl rfl | exact Or.inr rfl) (de_call (g__law_whole_weights T) m__law_whole_weights (hr.mono (by decide)) rfl T.d__law_whole_weights.m T.d__law_whole_weights.F.kp T.d__law_whole_weights.b (da_cons (de_var 1 (pv 1)) (da_cons (de_var 3 (pv 3)) da_nil))))
      (dss_cons (ds_set (i := 5) sc_law.nd rfl (by first | exact Or.inl rfl | exact Or.inr rfl) (de_call (g__law_whole_weights T) m__law_whole_weights (hr.mono (by decide)) rfl T.d__law_whole_weights.m T.d__law_whole_weights.F.kp T.d__law_whole_weights.b (da_cons (de_var 1 (pv 1)) (da_cons (de_var 3 (pv 3)) da_nil))))
      (dss_mid (ds_if (dt_cmp (od_eq hr) (de_call (g__law_next T) m__law_next (hr.mono (by decide)) rfl T.d__law_next.m T.d__law_next.F.kp T.d__law_next.b (da_cons (de_var 1 (pv 1)) (da_cons de_int da_nil))) de_int (nomark _)) (dss_one (ds_setC (i := 5) sc_law.nd rfl rfl (dl_comp (N' := ["_law_one"]) rfl rfl (by decide +kernel) rfl (.own .nil) (by decide +kernel) (di_list (de_var 4 (pv 4))) (fun B => (dg_name (i := 0) (show List.Nodup (α := PySem.Str) ["_law_one"] by decide +kernel) rfl (by first | exact Or.inl rfl | exact Or.inr rfl))) (fun B => dts_nil) (fun B => (de_op od_mul de_int (de_var 0 (pv 0))))))) dss_nil)
      (dss_cons (ds_set (i := 6) sc_law.nd rfl (by first | exact Or.inl rfl | exact Or.inr rfl) (de_call (g__law_table T) m__law_table (hr.mono (by decide)) rfl T.d__law_table.m T.d__law_table.F.kp T.d__law_table.b (da_cons (de_var 1 (pv 1)) (da_cons (de_var 4 (pv 4)) (da_cons (de_var 5 (pv 5)) da_nil)))))
      (dss_cons (ds_set (i := 7) sc_law.nd rfl (by first | exact Or.inl rfl | exact Or.inr rfl) (de_frz (dl_lst (da_cons (de_frz (dl_list rfl T.z_list rfl (de_var 6 (pv 6)))) (da_cons (de_frz (dl_list rfl T.z_list rfl (de_var 4 (pv 4)))) (da_cons (de_frz (dl_list rfl T.z_list rfl (de_var 5 (pv 5)))) da_nil))))))
      (dss_cons (ds_if (dt_not (dt_val (de_call (g__law_right T) m__law_right (hr.mono (by decide)) rfl T.d__law_right.m T.d__law_right.F.kp T.d__law_right.b (da_cons (de_var 6 (pv 6)) (da_cons (de_var 4 (pv 4)) (da_cons (de_var 5 (pv 5)) da_nil)))))) (dss_one (ds_ret de_bl)) dss_nil)
      (dss_cons (ds_if (dt_not (dt_val (de_call (g__law_right T) m__law_right (hr.mono (by decide)) rfl T.d__law_right.m T.d__law_right.F.kp T.d__law_right.b (da_cons (de_var 6 (pv 6)) (da_cons (de_var 5 (pv 5)) (da_cons (de_var 4 (pv 4)) da_nil)))))) (dss_one (ds_ret de_bl)) dss_nil)
      (dss_one (ds_if (dt_cmp (od_ne hr) (de_frz (dl_lst (da_cons (de_var 6 (pv 6)) (da_cons (de_var 4 (pv 4)) (da_cons (de_var 5 (pv 5)) da_nil))))) (de_var 7 (pv 7)) (nomark _)) (dss_one (ds_ret de_bl)) dss_nil)))))))))))
      (dss_one (ds_ret de_bl)))) ?_
  refine ⟨fun ρ => ∃ s2 s3 s4 s5 s6 s7 : Sl, ρ = [.nil, .val .pen, s2, s3, s4, s5, s6, s7], ?_, ?_⟩
  · refine ⟨⟨by decide, by decide⟩, dLoop_ind (fun ρ => ∃ s2 s3 s4 s5 s6 s7 : Sl, ρ = [.nil, .val .pen, s2, s3, s4, s5, s6, s7]) (fun ρ h => h) (fun k hk ρ X hN hX => ?_) _ ⟨_, _, _, _, _, _, rfl⟩⟩
    obtain ⟨s2, s3, s4, s5, s6, s7, rfl⟩ := hN
    refine ⟨rfl, ⟨by decide, by decide⟩, fun v v0 v1 => ?_⟩
    obtain ⟨n, en, n1, n6⟩ : ∃ n : Nat, (1 + v).toNat = n ∧ 1 ≤ n ∧ n ≤ 6 := ⟨(1 + v).toNat, rfl, by omega, by omega⟩
    refine ⟨rfl, ⟨by omega, by omega⟩, fun ws w0 u0 => ⟨rfl, ⟨by omega, by omega⟩, fun os0 w1 u1 => ?_⟩⟩
    rw [en] at w0 w1
    refine ⟨fun ρ => ∃ os, Wts n os ∧ ρ = [.nil, .val .pen, .val k, .val (.int (1 + v)), .val (.lst (ws.map D.int)), .val (.lst (os.map D.int)), s6, s7], ?_, ?_⟩
    · refine ⟨rfl, ⟨by decide, by decide⟩, fun x _ _ => ⟨⟨rfl, rfl⟩, ⟨fun _ => ?_, fun _ => ⟨os0, w1, rfl⟩⟩⟩⟩
      refine dColl_map (fun d => match d with | .int i => .int (3 * i) | _ => .non) (fun ρ => ∃ a : Sl, ρ = [a]) (by rw [List.length_map, w0.len]; exact Nat.le_trans n6 (by decide)) (fun d hd ρ Y Z hN hY => ?_) _ ⟨_, rfl⟩ ?_
      · obtain ⟨a, rfl⟩ := hN
        obtain ⟨i, hi, rfl⟩ := List.mem_map.mp hd
        have h1 := w0.nn i hi
        have h2 := u0 i hi
        exact Br.t ⟨(bd_lit (i := 3) (n := 2)).cmul (n := 10) (show i.natAbs < 2 ^ 10 by omega), hY _ ⟨_, rfl⟩⟩
      · refine ⟨ws.map fun w => 3 * w, w0.by3 u0, ?_⟩
        rw [List.map_map, List.map_map]
        rfl
    · rintro _ ⟨os, w2, rfl⟩
      refine ⟨rfl, n, ws, os, rfl, w0, w2, n1, n6, fun m t tl o => ?_⟩
      refine ⟨sz, ⟨rfl, m, t, ws, os, rfl, o, Br.f ⟨rfl, m, t, os, ws, rfl, o.swap, Br.f ?_⟩⟩⟩
      exact ⟨sz, ⟨shp_three t ws os, shp_three t ws os⟩, ne_self (shp_three t ws os) (hX _ ⟨_, _, _, _, _, _, rfl⟩)⟩
  · rintro _ ⟨s2, s3, s4, s5, s6, s7, rfl⟩
    exact rfl

end

set_option maxHeartbeats 0 in
theorem all_mk {l : PySem.W.OpenLaw} {w : World} {K : PySem.W.Frag} {h : Heap} {mg : Str → Option Value} {fa f0 f1 f2 f3 f4 f5 f6 f7 f8 f9 f10 f11 f12 f13 f14 f15 f16 f17 f18 f19 f20 f21 f22 f23 f24 f25 f26 f27 f28 f29 f30 f31 f32 f33 f34 f35 f36 f37 f38 f39 : Addr} (X : K.In h) (G : h.Ns mainGlobals mg) (hfa : mg "law" = some (.ref fa))
    {od0 an0 od1 an1 od2 an2 od3 an3 od4 an4 od5 an5 od6 an6 od7 an7 od8 an8 od9 an9 od10 an10 od11 an11 od12 an12 od13 an13 od14 an14 od15 an15 od16 an16 od17 an17 od18 an18 od19 an19 od20 an20 od21 an21 od22 an22 od23 an23 od24 an24 od25 an25 od26 an26 od27 an27 od28 an28 od29 an29 od30 an30 od31 an31 od32 an32 od33 an33 od34 an34 od35 an35 od36 an36 od37 an37 od38 an38 od39 an39 : Option Addr} {sl0 sl1 sl2 sl3 sl4 sl5 sl6 sl7 sl8 sl9 sl10 sl11 sl12 sl13 sl14 sl15 sl16 sl17 sl18 sl19 sl20 sl21 sl22 sl23 sl24 sl25 sl26 sl27 sl28 sl29 sl30 sl31 sl32 sl33 sl34 sl35 sl36 sl37 sl38 sl39 : Array (Option Value)} {oc0 kV0 dc0 pm0 cd0 ct0 oc1 kV1 dc1 pm1 cd1 ct1 oc2 kV2 dc2 pm2 cd2 ct2 oc3 kV3 dc3 pm3 cd3 ct3 oc4 kV4 dc4 pm4 cd4 ct4 oc5 kV5 dc5 pm5 cd5 ct5 oc6 kV6 dc6 pm6 cd6 ct6 oc7 kV7 dc7 pm7 cd7 ct7 oc8 kV8 dc8 pm8 cd8 ct8 oc9 kV9 dc9 pm9 cd9 ct9 oc10 kV10 dc10 pm10 cd10 ct10 oc11 kV11 dc11 pm11 cd11 ct11 oc12 kV12 dc12 pm12 cd12 ct12 oc13 kV13 dc13 pm13 cd13 ct13 oc14 kV14 dc14 pm14 cd14 ct14 oc15 kV15 dc15 pm15 cd15 ct15 oc16 kV16 dc16 pm16 cd16 ct16 oc17 kV17 dc17 pm17 cd17 ct17 oc18 kV18 dc18 pm18 cd18 ct18 oc19 kV19 dc19 pm19 cd19 ct19 oc20 kV20 dc20 pm20 cd20 ct20 oc21 kV21 dc21 pm21 cd21 ct21 oc22 kV22 dc22 pm22 cd22 ct22 oc23 kV23 dc23 pm23 cd23 ct23 oc24 kV24 dc24 pm24 cd24 ct24 oc25 kV25 dc25 pm25 cd25 ct25 oc26 kV26 dc26 pm26 cd26 ct26 oc27 kV27 dc27 pm27 cd27 ct27 oc28 kV28 dc28 pm28 cd28 ct28 oc29 kV29 dc29 pm29 cd29 ct29 oc30 kV30 dc30 pm30 cd30 ct30 oc31 kV31 dc31 pm31 cd31 ct31 oc32 kV32 dc32 pm32 cd32 ct32 oc33 kV33 dc33 pm33 cd33 ct33 oc34 kV34 dc34 pm34 cd34 ct34 oc35 kV35 dc35 pm35 cd35 ct35 oc36 kV36 dc36 pm36 cd36 ct36 oc37 kV37 dc37 pm37 cd37 ct37 oc38 kV38 dc38 pm38 cd38 ct38 oc39 kV39 dc39 pm39 cd39 ct39 : Value}
    (a0 : PySem.W.nsIn K mainGlobals "greatest_divisor" = some (some (.ref f0))) (l0 : K.lookup f0 = some ⟨oc0, od0, .func (PySem.W.fnOf "greatest_divisor" "greatest_divisor" (defArgs s_greatest_divisor) (defBody s_greatest_divisor) (defScope s_greatest_divisor) .none kV0 dc0 pm0 an0 cd0 ct0), sl0⟩) (c0 : PySem.W.codeIn K cd0 "greatest_divisor" = true) (k0 : PySem.W.keepIn K (.ref f0) = true)
    (a1 : PySem.W.nsIn K mainGlobals "ratio_of" = some (some (.ref f1))) (l1 : K.lookup f1 = some ⟨oc1, od1, .func (PySem.W.fnOf "ratio_of" "ratio_of" (defArgs s_ratio_of) (defBody s_ratio_of) (defScope s_ratio_of) .none kV1 dc1 pm1 an1 cd1 ct1), sl1⟩) (c1 : PySem.W.codeIn K cd1 "ratio_of" = true) (k1 : PySem.W.keepIn K (.ref f1) = true)
    (a2 : PySem.W.nsIn K mainGlobals "plus" = some (some (.ref f2))) (l2 : K.lookup f2 = some ⟨oc2, od2, .func (PySem.W.fnOf "plus" "plus" (defArgs s_plus) (defBody s_plus) (defScope s_plus) .none kV2 dc2 pm2 an2 cd2 ct2), sl2⟩) (c2 : PySem.W.codeIn K cd2 "plus" = true) (k2 : PySem.W.keepIn K (.ref f2) = true)
    (a3 : PySem.W.nsIn K mainGlobals "minus" = some (some (.ref f3))) (l3 : K.lookup f3 = some ⟨oc3, od3, .func (PySem.W.fnOf "minus" "minus" (defArgs s_minus) (defBody s_minus) (defScope s_minus) .none kV3 dc3 pm3 an3 cd3 ct3), sl3⟩) (c3 : PySem.W.codeIn K cd3 "minus" = true) (k3 : PySem.W.keepIn K (.ref f3) = true)
    (a4 : PySem.W.nsIn K mainGlobals "times" = some (some (.ref f4))) (l4 : K.lookup f4 = some ⟨oc4, od4, .func (PySem.W.fnOf "times" "times" (defArgs s_times) (defBody s_times) (defScope s_times) .none kV4 dc4 pm4 an4 cd4 ct4), sl4⟩) (c4 : PySem.W.codeIn K cd4 "times" = true) (k4 : PySem.W.keepIn K (.ref f4) = true)
    (a5 : PySem.W.nsIn K mainGlobals "over" = some (some (.ref f5))) (l5 : K.lookup f5 = some ⟨oc5, od5, .func (PySem.W.fnOf "over" "over" (defArgs s_over) (defBody s_over) (defScope s_over) .none kV5 dc5 pm5 an5 cd5 ct5), sl5⟩) (c5 : PySem.W.codeIn K cd5 "over" = true) (k5 : PySem.W.keepIn K (.ref f5) = true)
    (a6 : PySem.W.nsIn K mainGlobals "less" = some (some (.ref f6))) (l6 : K.lookup f6 = some ⟨oc6, od6, .func (PySem.W.fnOf "less" "less" (defArgs s_less) (defBody s_less) (defScope s_less) .none kV6 dc6 pm6 an6 cd6 ct6), sl6⟩) (c6 : PySem.W.codeIn K cd6 "less" = true) (k6 : PySem.W.keepIn K (.ref f6) = true)
    (a7 : PySem.W.nsIn K mainGlobals "total" = some (some (.ref f7))) (l7 : K.lookup f7 = some ⟨oc7, od7, .func (PySem.W.fnOf "total" "total" (defArgs s_total) (defBody s_total) (defScope s_total) .none kV7 dc7 pm7 an7 cd7 ct7), sl7⟩) (c7 : PySem.W.codeIn K cd7 "total" = true) (k7 : PySem.W.keepIn K (.ref f7) = true)
    (a8 : PySem.W.nsIn K mainGlobals "is_whole" = some (some (.ref f8))) (l8 : K.lookup f8 = some ⟨oc8, od8, .func (PySem.W.fnOf "is_whole" "is_whole" (defArgs s_is_whole) (defBody s_is_whole) (defScope s_is_whole) .none kV8 dc8 pm8 an8 cd8 ct8), sl8⟩) (c8 : PySem.W.codeIn K cd8 "is_whole" = true) (k8 : PySem.W.keepIn K (.ref f8) = true)
    (a9 : PySem.W.nsIn K mainGlobals "share_of" = some (some (.ref f9))) (l9 : K.lookup f9 = some ⟨oc9, od9, .func (PySem.W.fnOf "share_of" "share_of" (defArgs s_share_of) (defBody s_share_of) (defScope s_share_of) .none kV9 dc9 pm9 an9 cd9 ct9), sl9⟩) (c9 : PySem.W.codeIn K cd9 "share_of" = true) (k9 : PySem.W.keepIn K (.ref f9) = true)
    (a10 : PySem.W.nsIn K mainGlobals "houses_of" = some (some (.ref f10))) (l10 : K.lookup f10 = some ⟨oc10, od10, .func (PySem.W.fnOf "houses_of" "houses_of" (defArgs s_houses_of) (defBody s_houses_of) (defScope s_houses_of) .none kV10 dc10 pm10 an10 cd10 ct10), sl10⟩) (c10 : PySem.W.codeIn K cd10 "houses_of" = true) (k10 : PySem.W.keepIn K (.ref f10) = true)
    (a11 : PySem.W.nsIn K mainGlobals "mixed_share" = some (some (.ref f11))) (l11 : K.lookup f11 = some ⟨oc11, od11, .func (PySem.W.fnOf "mixed_share" "mixed_share" (defArgs s_mixed_share) (defBody s_mixed_share) (defScope s_mixed_share) .none kV11 dc11 pm11 an11 cd11 ct11), sl11⟩) (c11 : PySem.W.codeIn K cd11 "mixed_share" = true) (k11 : PySem.W.keepIn K (.ref f11) = true)
    (a12 : PySem.W.nsIn K mainGlobals "firsts" = some (some (.ref f12))) (l12 : K.lookup f12 = some ⟨oc12, od12, .func (PySem.W.fnOf "firsts" "firsts" (defArgs s_firsts) (defBody s_firsts) (defScope s_firsts) .none kV12 dc12 pm12 an12 cd12 ct12), sl12⟩) (c12 : PySem.W.codeIn K cd12 "firsts" = true) (k12 : PySem.W.keepIn K (.ref f12) = true)
    (a13 : PySem.W.nsIn K mainGlobals "check_standard" = some (some (.ref f13))) (l13 : K.lookup f13 = some ⟨oc13, od13, .func (PySem.W.fnOf "check_standard" "check_standard" (defArgs s_check_standard) (defBody s_check_standard) (defScope s_check_standard) .none kV13 dc13 pm13 an13 cd13 ct13), sl13⟩) (c13 : PySem.W.codeIn K cd13 "check_standard" = true) (k13 : PySem.W.keepIn K (.ref f13) = true)
    (a14 : PySem.W.nsIn K mainGlobals "as_weights" = some (some (.ref f14))) (l14 : K.lookup f14 = some ⟨oc14, od14, .func (PySem.W.fnOf "as_weights" "as_weights" (defArgs s_as_weights) (defBody s_as_weights) (defScope s_as_weights) .none kV14 dc14 pm14 an14 cd14 ct14), sl14⟩) (c14 : PySem.W.codeIn K cd14 "as_weights" = true) (k14 : PySem.W.keepIn K (.ref f14) = true)
    (a15 : PySem.W.nsIn K mainGlobals "check_tried" = some (some (.ref f15))) (l15 : K.lookup f15 = some ⟨oc15, od15, .func (PySem.W.fnOf "check_tried" "check_tried" (defArgs s_check_tried) (defBody s_check_tried) (defScope s_check_tried) .none kV15 dc15 pm15 an15 cd15 ct15), sl15⟩) (c15 : PySem.W.codeIn K cd15 "check_tried" = true) (k15 : PySem.W.keepIn K (.ref f15) = true)
    (a16 : PySem.W.nsIn K mainGlobals "line_of" = some (some (.ref f16))) (l16 : K.lookup f16 = some ⟨oc16, od16, .func (PySem.W.fnOf "line_of" "line_of" (defArgs s_line_of) (defBody s_line_of) (defScope s_line_of) .none kV16 dc16 pm16 an16 cd16 ct16), sl16⟩) (c16 : PySem.W.codeIn K cd16 "line_of" = true) (k16 : PySem.W.keepIn K (.ref f16) = true)
    (a17 : PySem.W.nsIn K mainGlobals "stretches" = some (some (.ref f17))) (l17 : K.lookup f17 = some ⟨oc17, od17, .func (PySem.W.fnOf "stretches" "stretches" (defArgs s_stretches) (defBody s_stretches) (defScope s_stretches) .none kV17 dc17 pm17 an17 cd17 ct17), sl17⟩) (c17 : PySem.W.codeIn K cd17 "stretches" = true) (k17 : PySem.W.keepIn K (.ref f17) = true)
    (a18 : PySem.W.nsIn K mainGlobals "houses_on" = some (some (.ref f18))) (l18 : K.lookup f18 = some ⟨oc18, od18, .func (PySem.W.fnOf "houses_on" "houses_on" (defArgs s_houses_on) (defBody s_houses_on) (defScope s_houses_on) .none kV18 dc18 pm18 an18 cd18 ct18), sl18⟩) (c18 : PySem.W.codeIn K cd18 "houses_on" = true) (k18 : PySem.W.keepIn K (.ref f18) = true)
    (a19 : PySem.W.nsIn K mainGlobals "first_line" = some (some (.ref f19))) (l19 : K.lookup f19 = some ⟨oc19, od19, .func (PySem.W.fnOf "first_line" "first_line" (defArgs s_first_line) (defBody s_first_line) (defScope s_first_line) .none kV19 dc19 pm19 an19 cd19 ct19), sl19⟩) (c19 : PySem.W.codeIn K cd19 "first_line" = true) (k19 : PySem.W.keepIn K (.ref f19) = true)
    (a20 : PySem.W.nsIn K mainGlobals "next_step" = some (some (.ref f20))) (l20 : K.lookup f20 = some ⟨oc20, od20, .func (PySem.W.fnOf "next_step" "next_step" (defArgs s_next_step) (defBody s_next_step) (defScope s_next_step) .none kV20 dc20 pm20 an20 cd20 ct20), sl20⟩) (c20 : PySem.W.codeIn K cd20 "next_step" = true) (k20 : PySem.W.keepIn K (.ref f20) = true)
    (a21 : PySem.W.nsIn K mainGlobals "is_ahead" = some (some (.ref f21))) (l21 : K.lookup f21 = some ⟨oc21, od21, .func (PySem.W.fnOf "is_ahead" "is_ahead" (defArgs s_is_ahead) (defBody s_is_ahead) (defScope s_is_ahead) .none kV21 dc21 pm21 an21 cd21 ct21), sl21⟩) (c21 : PySem.W.codeIn K cd21 "is_ahead" = true) (k21 : PySem.W.keepIn K (.ref f21) = true)
    (a22 : PySem.W.nsIn K mainGlobals "_law_pen" = some (some (.ref f22))) (l22 : K.lookup f22 = some ⟨oc22, od22, .func (PySem.W.fnOf "_law_pen" "_law_pen" (defArgs s__law_pen) (defBody s__law_pen) (defScope s__law_pen) .none kV22 dc22 pm22 an22 cd22 ct22), sl22⟩) (c22 : PySem.W.codeIn K cd22 "_law_pen" = true) (k22 : PySem.W.keepIn K (.ref f22) = true)
    (a23 : PySem.W.nsIn K mainGlobals "_law_next" = some (some (.ref f23))) (l23 : K.lookup f23 = some ⟨oc23, od23, .func (PySem.W.fnOf "_law_next" "_law_next" (defArgs s__law_next) (defBody s__law_next) (defScope s__law_next) .none kV23 dc23 pm23 an23 cd23 ct23), sl23⟩) (c23 : PySem.W.codeIn K cd23 "_law_next" = true) (k23 : PySem.W.keepIn K (.ref f23) = true)
    (a24 : PySem.W.nsIn K mainGlobals "_law_ratio" = some (some (.ref f24))) (l24 : K.lookup f24 = some ⟨oc24, od24, .func (PySem.W.fnOf "_law_ratio" "_law_ratio" (defArgs s__law_ratio) (defBody s__law_ratio) (defScope s__law_ratio) .none kV24 dc24 pm24 an24 cd24 ct24), sl24⟩) (c24 : PySem.W.codeIn K cd24 "_law_ratio" = true) (k24 : PySem.W.keepIn K (.ref f24) = true)
    (a25 : PySem.W.nsIn K mainGlobals "_law_is_ratio" = some (some (.ref f25))) (l25 : K.lookup f25 = some ⟨oc25, od25, .func (PySem.W.fnOf "_law_is_ratio" "_law_is_ratio" (defArgs s__law_is_ratio) (defBody s__law_is_ratio) (defScope s__law_is_ratio) .none kV25 dc25 pm25 an25 cd25 ct25), sl25⟩) (c25 : PySem.W.codeIn K cd25 "_law_is_ratio" = true) (k25 : PySem.W.keepIn K (.ref f25) = true)
    (a26 : PySem.W.nsIn K mainGlobals "_law_plus" = some (some (.ref f26))) (l26 : K.lookup f26 = some ⟨oc26, od26, .func (PySem.W.fnOf "_law_plus" "_law_plus" (defArgs s__law_plus) (defBody s__law_plus) (defScope s__law_plus) .none kV26 dc26 pm26 an26 cd26 ct26), sl26⟩) (c26 : PySem.W.codeIn K cd26 "_law_plus" = true) (k26 : PySem.W.keepIn K (.ref f26) = true)
    (a27 : PySem.W.nsIn K mainGlobals "_law_minus" = some (some (.ref f27))) (l27 : K.lookup f27 = some ⟨oc27, od27, .func (PySem.W.fnOf "_law_minus" "_law_minus" (defArgs s__law_minus) (defBody s__law_minus) (defScope s__law_minus) .none kV27 dc27 pm27 an27 cd27 ct27), sl27⟩) (c27 : PySem.W.codeIn K cd27 "_law_minus" = true) (k27 : PySem.W.keepIn K (.ref f27) = true)
    (a28 : PySem.W.nsIn K mainGlobals "_law_times" = some (some (.ref f28))) (l28 : K.lookup f28 = some ⟨oc28, od28, .func (PySem.W.fnOf "_law_times" "_law_times" (defArgs s__law_times) (defBody s__law_times) (defScope s__law_times) .none kV28 dc28 pm28 an28 cd28 ct28), sl28⟩) (c28 : PySem.W.codeIn K cd28 "_law_times" = true) (k28 : PySem.W.keepIn K (.ref f28) = true)
    (a29 : PySem.W.nsIn K mainGlobals "_law_less" = some (some (.ref f29))) (l29 : K.lookup f29 = some ⟨oc29, od29, .func (PySem.W.fnOf "_law_less" "_law_less" (defArgs s__law_less) (defBody s__law_less) (defScope s__law_less) .none kV29 dc29 pm29 an29 cd29 ct29), sl29⟩) (c29 : PySem.W.codeIn K cd29 "_law_less" = true) (k29 : PySem.W.keepIn K (.ref f29) = true)
    (a30 : PySem.W.nsIn K mainGlobals "_law_whole_weights" = some (some (.ref f30))) (l30 : K.lookup f30 = some ⟨oc30, od30, .func (PySem.W.fnOf "_law_whole_weights" "_law_whole_weights" (defArgs s__law_whole_weights) (defBody s__law_whole_weights) (defScope s__law_whole_weights) .none kV30 dc30 pm30 an30 cd30 ct30), sl30⟩) (c30 : PySem.W.codeIn K cd30 "_law_whole_weights" = true) (k30 : PySem.W.keepIn K (.ref f30) = true)
    (a31 : PySem.W.nsIn K mainGlobals "_law_over_sum" = some (some (.ref f31))) (l31 : K.lookup f31 = some ⟨oc31, od31, .func (PySem.W.fnOf "_law_over_sum" "_law_over_sum" (defArgs s__law_over_sum) (defBody s__law_over_sum) (defScope s__law_over_sum) .none kV31 dc31 pm31 an31 cd31 ct31), sl31⟩) (c31 : PySem.W.codeIn K cd31 "_law_over_sum" = true) (k31 : PySem.W.keepIn K (.ref f31) = true)
    (a32 : PySem.W.nsIn K mainGlobals "_law_mixed" = some (some (.ref f32))) (l32 : K.lookup f32 = some ⟨oc32, od32, .func (PySem.W.fnOf "_law_mixed" "_law_mixed" (defArgs s__law_mixed) (defBody s__law_mixed) (defScope s__law_mixed) .none kV32 dc32 pm32 an32 cd32 ct32), sl32⟩) (c32 : PySem.W.codeIn K cd32 "_law_mixed" = true) (k32 : PySem.W.keepIn K (.ref f32) = true)
    (a33 : PySem.W.nsIn K mainGlobals "_law_part" = some (some (.ref f33))) (l33 : K.lookup f33 = some ⟨oc33, od33, .func (PySem.W.fnOf "_law_part" "_law_part" (defArgs s__law_part) (defBody s__law_part) (defScope s__law_part) .none kV33 dc33 pm33 an33 cd33 ct33), sl33⟩) (c33 : PySem.W.codeIn K cd33 "_law_part" = true) (k33 : PySem.W.keepIn K (.ref f33) = true)
    (a34 : PySem.W.nsIn K mainGlobals "_law_table" = some (some (.ref f34))) (l34 : K.lookup f34 = some ⟨oc34, od34, .func (PySem.W.fnOf "_law_table" "_law_table" (defArgs s__law_table) (defBody s__law_table) (defScope s__law_table) .none kV34 dc34 pm34 an34 cd34 ct34), sl34⟩) (c34 : PySem.W.codeIn K cd34 "_law_table" = true) (k34 : PySem.W.keepIn K (.ref f34) = true)
    (a35 : PySem.W.nsIn K mainGlobals "_law_heights" = some (some (.ref f35))) (l35 : K.lookup f35 = some ⟨oc35, od35, .func (PySem.W.fnOf "_law_heights" "_law_heights" (defArgs s__law_heights) (defBody s__law_heights) (defScope s__law_heights) .none kV35 dc35 pm35 an35 cd35 ct35), sl35⟩) (c35 : PySem.W.codeIn K cd35 "_law_heights" = true) (k35 : PySem.W.keepIn K (.ref f35) = true)
    (a36 : PySem.W.nsIn K mainGlobals "_law_firsts_at" = some (some (.ref f36))) (l36 : K.lookup f36 = some ⟨oc36, od36, .func (PySem.W.fnOf "_law_firsts_at" "_law_firsts_at" (defArgs s__law_firsts_at) (defBody s__law_firsts_at) (defScope s__law_firsts_at) .none kV36 dc36 pm36 an36 cd36 ct36), sl36⟩) (c36 : PySem.W.codeIn K cd36 "_law_firsts_at" = true) (k36 : PySem.W.keepIn K (.ref f36) = true)
    (a37 : PySem.W.nsIn K mainGlobals "_law_row_right" = some (some (.ref f37))) (l37 : K.lookup f37 = some ⟨oc37, od37, .func (PySem.W.fnOf "_law_row_right" "_law_row_right" (defArgs s__law_row_right) (defBody s__law_row_right) (defScope s__law_row_right) .none kV37 dc37 pm37 an37 cd37 ct37), sl37⟩) (c37 : PySem.W.codeIn K cd37 "_law_row_right" = true) (k37 : PySem.W.keepIn K (.ref f37) = true)
    (a38 : PySem.W.nsIn K mainGlobals "_law_right" = some (some (.ref f38))) (l38 : K.lookup f38 = some ⟨oc38, od38, .func (PySem.W.fnOf "_law_right" "_law_right" (defArgs s__law_right) (defBody s__law_right) (defScope s__law_right) .none kV38 dc38 pm38 an38 cd38 ct38), sl38⟩) (c38 : PySem.W.codeIn K cd38 "_law_right" = true) (k38 : PySem.W.keepIn K (.ref f38) = true)
    (a39 : PySem.W.nsIn K mainGlobals "law" = some (some (.ref f39))) (l39 : K.lookup f39 = some ⟨oc39, od39, .func (PySem.W.fnOf "law" "law" (defArgs s_law) (defBody s_law) (defScope s_law) .none kV39 dc39 pm39 an39 cd39 ct39), sl39⟩) (c39 : PySem.W.codeIn K cd39 "law" = true) (k39 : PySem.W.keepIn K (.ref f39) = true)
    (z0 : PySem.W.nsIn K mainGlobals "ValueError" = some none) (z1 : PySem.W.nsIn K mainGlobals "abs" = some none) (z2 : PySem.W.nsIn K mainGlobals "len" = some none) (z3 : PySem.W.nsIn K mainGlobals "zip" = some none) (z4 : PySem.W.nsIn K mainGlobals "list" = some none) (z5 : PySem.W.nsIn K mainGlobals "sum" = some none) (z6 : PySem.W.nsIn K mainGlobals "enumerate" = some none) (z7 : PySem.W.nsIn K mainGlobals "range" = some none) (z8 : PySem.W.nsIn K mainGlobals "tuple" = some none) (z9 : PySem.W.nsIn K mainGlobals "isinstance" = some none) (z10 : PySem.W.nsIn K mainGlobals "int" = some none) (z11 : PySem.W.nsIn K mainGlobals "all" = some none) (z12 : PySem.W.nsIn K mainGlobals "bool" = some none)
    :
    ∃ fd : FuncData, (∀ (s : Shared) (v : Value), BindsTo s fd ⟨[v], []⟩ [("_law_script", v)]) ∧ ∀ base : Heap, K.In base → base.Ns mainGlobals mg → FnOk l.prog w K mg base CX0 14 fa fd ["_law_script"] (DL.spLaw K) := by
  have e := hfa.symm.trans (PySem.W.mg_of X G a39)
  cases e
  have F0 := fun_mk (st := s_greatest_divisor) l0 c0 k0
  have F1 := fun_mk (st := s_ratio_of) l1 c1 k1
  have F2 := fun_mk (st := s_plus) l2 c2 k2
  have F3 := fun_mk (st := s_minus) l3 c3 k3
  have F4 := fun_mk (st := s_times) l4 c4 k4
  have F5 := fun_mk (st := s_over) l5 c5 k5
  have F6 := fun_mk (st := s_less) l6 c6 k6
  have F7 := fun_mk (st := s_total) l7 c7 k7
  have F8 := fun_mk (st := s_is_whole) l8 c8 k8
  have F9 := fun_mk (st := s_share_of) l9 c9 k9
  have F10 := fun_mk (st := s_houses_of) l10 c10 k10
  have F11 := fun_mk (st := s_mixed_share) l11 c11 k11
  have F12 := fun_mk (st := s_firsts) l12 c12 k12
  have F13 := fun_mk (st := s_check_standard) l13 c13 k13
  have F14 := fun_mk (st := s_as_weights) l14 c14 k14
  have F15 := fun_mk (st := s_check_tried) l15 c15 k15
  have F16 := fun_mk (st := s_line_of) l16 c16 k16
  have F17 := fun_mk (st := s_stretches) l17 c17 k17
  have F18 := fun_mk (st := s_houses_on) l18 c18 k18
  have F19 := fun_mk (st := s_first_line) l19 c19 k19
  have F20 := fun_mk (st := s_next_step) l20 c20 k20
  have F21 := fun_mk (st := s_is_ahead) l21 c21 k21
  have F22 := fun_mk (st := s__law_pen) l22 c22 k22
  have F23 := fun_mk (st := s__law_next) l23 c23 k23
  have F24 := fun_mk (st := s__law_ratio) l24 c24 k24
  have F25 := fun_mk (st := s__law_is_ratio) l25 c25 k25
  have F26 := fun_mk (st := s__law_plus) l26 c26 k26
  have F27 := fun_mk (st := s__law_minus) l27 c27 k27
  have F28 := fun_mk (st := s__law_times) l28 c28 k28
  have F29 := fun_mk (st := s__law_less) l29 c29 k29
  have F30 := fun_mk (st := s__law_whole_weights) l30 c30 k30
  have F31 := fun_mk (st := s__law_over_sum) l31 c31 k31
  have F32 := fun_mk (st := s__law_mixed) l32 c32 k32
  have F33 := fun_mk (st := s__law_part) l33 c33 k33
  have F34 := fun_mk (st := s__law_table) l34 c34 k34
  have F35 := fun_mk (st := s__law_heights) l35 c35 k35
  have F36 := fun_mk (st := s__law_firsts_at) l36 c36 k36
  have F37 := fun_mk (st := s__law_row_right) l37 c37 k37
  have F38 := fun_mk (st := s__law_right) l38 c38 k38
  have F39 := fun_mk (st := s_law) l39 c39 k39
  let T : Tx K mg := { f_greatest_divisor := f0, fd_greatest_divisor := _, d_greatest_divisor := ⟨F0, PySem.W.mg_of X G a0, F0.binds (ps := ["one", "other"]) (fun _ _ _ _ _ _ us hl => match us, hl with | [_, _], _ => rfl)⟩, f_ratio_of := f1, fd_ratio_of := _, d_ratio_of := ⟨F1, PySem.W.mg_of X G a1, F1.binds (ps := ["top", "bottom"]) (fun _ _ _ _ _ _ us hl => match us, hl with | [_, _], _ => rfl)⟩, f_plus := f2, fd_plus := _, d_plus := ⟨F2, PySem.W.mg_of X G a2, F2.binds (ps := ["one", "other"]) (fun _ _ _ _ _ _ us hl => match us, hl with | [_, _], _ => rfl)⟩, f_minus := f3, fd_minus := _, d_minus := ⟨F3, PySem.W.mg_of X G a3, F3.binds (ps := ["one", "other"]) (fun _ _ _ _ _ _ us hl => match us, hl with | [_, _], _ => rfl)⟩, f_times := f4, fd_times := _, d_times := ⟨F4, PySem.W.mg_of X G a4, F4.binds (ps := ["one", "other"]) (fun _ _ _ _ _ _ us hl => match us, hl with | [_, _], _ => rfl)⟩, f_over := f5, fd_over := _, d_over := ⟨F5, PySem.W.mg_of X G a5, F5.binds (ps := ["one", "other"]) (fun _ _ _ _ _ _ us hl => match us, hl with | [_, _], _ => rfl)⟩, f_less := f6, fd_less := _, d_less := ⟨F6, PySem.W.mg_of X G a6, F6.binds (ps := ["one", "other"]) (fun _ _ _ _ _ _ us hl => match us, hl with | [_, _], _ => rfl)⟩, f_total := f7, fd_total := _, d_total := ⟨F7, PySem.W.mg_of X G a7, F7.binds (ps := ["ratios"]) (fun _ _ _ _ _ _ us hl => match us, hl with | [_], _ => rfl)⟩, f_is_whole := f8, fd_is_whole := _, d_is_whole := ⟨F8, PySem.W.mg_of X G a8, F8.binds (ps := ["thing"]) (fun _ _ _ _ _ _ us hl => match us, hl with | [_], _ => rfl)⟩, f_share_of := f9, fd_share_of := _, d_share_of := ⟨F9, PySem.W.mg_of X G a9, F9.binds (ps := ["count"]) (fun _ _ _ _ _ _ us hl => match us, hl with | [_], _ => rfl)⟩, f_houses_of := f10, fd_houses_of := _, d_houses_of := ⟨F10, PySem.W.mg_of X G a10, F10.binds (ps := ["table"]) (fun _ _ _ _ _ _ us hl => match us, hl with | [_], _ => rfl)⟩, f_mixed_share := f11, fd_mixed_share := _, d_mixed_share := ⟨F11, PySem.W.mg_of X G a11, F11.binds (ps := ["table", "house", "weights"]) (fun _ _ _ _ _ _ us hl => match us, hl with | [_, _, _], _ => rfl)⟩, f_firsts := f12, fd_firsts := _, d_firsts := ⟨F12, PySem.W.mg_of X G a12, F12.binds (ps := ["table", "weights", "others"]) (fun _ _ _ _ _ _ us hl => match us, hl with | [_, _, _], _ => rfl)⟩, f_check_standard := f13, fd_check_standard := _, d_check_standard := ⟨F13, PySem.W.mg_of X G a13, F13.binds (ps := ["table", "weights"]) (fun _ _ _ _ _ _ us hl => match us, hl with | [_, _], _ => rfl)⟩, f_as_weights := f14, fd_as_weights := _, d_as_weights := ⟨F14, PySem.W.mg_of X G a14, F14.binds (ps := ["weights"]) (fun _ _ _ _ _ _ us hl => match us, hl with | [_], _ => rfl)⟩, f_check_tried := f15, fd_check_tried := _, d_check_tried := ⟨F15, PySem.W.mg_of X G a15, F15.binds (ps := ["table", "houses", "weights", "others"]) (fun _ _ _ _ _ _ us hl => match us, hl with | [_, _, _, _], _ => rfl)⟩, f_line_of := f16, fd_line_of := _, d_line_of := ⟨F16, PySem.W.mg_of X G a16, F16.binds (ps := ["table", "house", "weights", "others"]) (fun _ _ _ _ _ _ us hl => match us, hl with | [_, _, _, _], _ => rfl)⟩, f_stretches := f17, fd_stretches := _, d_stretches := ⟨F17, PySem.W.mg_of X G a17, F17.binds (ps := ["lines"]) (fun _ _ _ _ _ _ us hl => match us, hl with | [_], _ => rfl)⟩, f_houses_on := f18, fd_houses_on := _, d_houses_on := ⟨F18, PySem.W.mg_of X G a18, F18.binds (ps := ["lines", "line"]) (fun _ _ _ _ _ _ us hl => match us, hl with | [_, _], _ => rfl)⟩, f_first_line := f19, fd_first_line := _, d_first_line := ⟨F19, PySem.W.mg_of X G a19, F19.binds (ps := ["lines"]) (fun _ _ _ _ _ _ us hl => match us, hl with | [_], _ => rfl)⟩, f_next_step := f20, fd_next_step := _, d_next_step := ⟨F20, PySem.W.mg_of X G a20, F20.binds (ps := ["lines", "line"]) (fun _ _ _ _ _ _ us hl => match us, hl with | [_, _], _ => rfl)⟩, f_is_ahead := f21, fd_is_ahead := _, d_is_ahead := ⟨F21, PySem.W.mg_of X G a21, F21.binds (ps := ["step", "other"]) (fun _ _ _ _ _ _ us hl => match us, hl with | [_, _], _ => rfl)⟩, f__law_pen := f22, fd__law_pen := _, d__law_pen := ⟨F22, PySem.W.mg_of X G a22, F22.binds (ps := ["_law_script"]) (fun _ _ _ _ _ _ us hl => match us, hl with | [_], _ => rfl)⟩, f__law_next := f23, fd__law_next := _, d__law_next := ⟨F23, PySem.W.mg_of X G a23, F23.binds (ps := ["_law_pen_here", "_law_many"]) (fun _ _ _ _ _ _ us hl => match us, hl with | [_, _], _ => rfl)⟩, f__law_ratio := f24, fd__law_ratio := _, d__law_ratio := ⟨F24, PySem.W.mg_of X G a24, F24.binds (ps := ["_law_top", "_law_bottom"]) (fun _ _ _ _ _ _ us hl => match us, hl with | [_, _], _ => rfl)⟩, f__law_is_ratio := f25, fd__law_is_ratio := _, d__law_is_ratio := ⟨F25, PySem.W.mg_of X G a25, F25.binds (ps := ["_law_thing"]) (fun _ _ _ _ _ _ us hl => match us, hl with | [_], _ => rfl)⟩, f__law_plus := f26, fd__law_plus := _, d__law_plus := ⟨F26, PySem.W.mg_of X G a26, F26.binds (ps := ["_law_one", "_law_other"]) (fun _ _ _ _ _ _ us hl => match us, hl with | [_, _], _ => rfl)⟩, f__law_minus := f27, fd__law_minus := _, d__law_minus := ⟨F27, PySem.W.mg_of X G a27, F27.binds (ps := ["_law_one", "_law_other"]) (fun _ _ _ _ _ _ us hl => match us, hl with | [_, _], _ => rfl)⟩, f__law_times := f28, fd__law_times := _, d__law_times := ⟨F28, PySem.W.mg_of X G a28, F28.binds (ps := ["_law_one", "_law_other"]) (fun _ _ _ _ _ _ us hl => match us, hl with | [_, _], _ => rfl)⟩, f__law_less := f29, fd__law_less := _, d__law_less := ⟨F29, PySem.W.mg_of X G a29, F29.binds (ps := ["_law_one", "_law_other"]) (fun _ _ _ _ _ _ us hl => match us, hl with | [_, _], _ => rfl)⟩, f__law_whole_weights := f30, fd__law_whole_weights := _, d__law_whole_weights := ⟨F30, PySem.W.mg_of X G a30, F30.binds (ps := ["_law_pen_here", "_law_parts"]) (fun _ _ _ _ _ _ us hl => match us, hl with | [_, _], _ => rfl)⟩, f__law_over_sum := f31, fd__law_over_sum := _, d__law_over_sum := ⟨F31, PySem.W.mg_of X G a31, F31.binds (ps := ["_law_some"]) (fun _ _ _ _ _ _ us hl => match us, hl with | [_], _ => rfl)⟩, f__law_mixed := f32, fd__law_mixed := _, d__law_mixed := ⟨F32, PySem.W.mg_of X G a32, F32.binds (ps := ["_law_table_here", "_law_house", "_law_weights"]) (fun _ _ _ _ _ _ us hl => match us, hl with | [_, _, _], _ => rfl)⟩, f__law_part := f33, fd__law_part := _, d__law_part := ⟨F33, PySem.W.mg_of X G a33, F33.binds (ps := ["_law_pen_here", "_law_many", "_law_like"]) (fun _ _ _ _ _ _ us hl => match us, hl with | [_, _, _], _ => rfl)⟩, f__law_table := f34, fd__law_table := _, d__law_table := ⟨F34, PySem.W.mg_of X G a34, F34.binds (ps := ["_law_pen_here", "_law_weights", "_law_others"]) (fun _ _ _ _ _ _ us hl => match us, hl with | [_, _, _], _ => rfl)⟩, f__law_heights := f35, fd__law_heights := _, d__law_heights := ⟨F35, PySem.W.mg_of X G a35, F35.binds (ps := ["_law_lines", "_law_t"]) (fun _ _ _ _ _ _ us hl => match us, hl with | [_, _], _ => rfl)⟩, f__law_firsts_at := f36, fd__law_firsts_at := _, d__law_firsts_at := ⟨F36, PySem.W.mg_of X G a36, F36.binds (ps := ["_law_lines", "_law_t"]) (fun _ _ _ _ _ _ us hl => match us, hl with | [_, _], _ => rfl)⟩, f__law_row_right := f37, fd__law_row_right := _, d__law_row_right := ⟨F37, PySem.W.mg_of X G a37, F37.binds (ps := ["_law_lines", "_law_row"]) (fun _ _ _ _ _ _ us hl => match us, hl with | [_, _], _ => rfl)⟩, f__law_right := f38, fd__law_right := _, d__law_right := ⟨F38, PySem.W.mg_of X G a38, F38.binds (ps := ["_law_table_here", "_law_weights", "_law_others"]) (fun _ _ _ _ _ _ us hl => match us, hl with | [_, _, _], _ => rfl)⟩, f_law := fa, fd_law := _, d_law := ⟨F39, PySem.W.mg_of X G a39, F39.binds (ps := ["_law_script"]) (fun _ _ _ _ _ _ us hl => match us, hl with | [_], _ => rfl)⟩, z_ValueError := PySem.W.mg_none_of X G z0, z_abs := PySem.W.mg_none_of X G z1, z_len := PySem.W.mg_none_of X G z2, z_zip := PySem.W.mg_none_of X G z3, z_list := PySem.W.mg_none_of X G z4, z_sum := PySem.W.mg_none_of X G z5, z_enumerate := PySem.W.mg_none_of X G z6, z_range := PySem.W.mg_none_of X G z7, z_tuple := PySem.W.mg_none_of X G z8, z_isinstance := PySem.W.mg_none_of X G z9, z_int := PySem.W.mg_none_of X G z10, z_all := PySem.W.mg_none_of X G z11, z_bool := PySem.W.mg_none_of X G z12 }
  exact ⟨PySem.W.fnOf "law" "law" (defArgs s_law) (defBody s_law) (defScope s_law) .none kV39 dc39 pm39 an39 cd39 ct39, fun s v => .of_eq rfl, fun base _ _ => g_law T⟩
end My
theorem PySem.W.Fast.tw14995966835985252849 : True := trivial
theorem PySem.W.Fast.tw8028879839786299407 : True := trivial
theorem PySem.W.Fast.tw5561315219630391283 : True := trivial
theorem PySem.W.Fast.tw11465434327450140362 : True := trivial
theorem PySem.W.Fast.tw14937353604802405908 : True := trivial
theorem PySem.W.Fast.tw2154952166253790580 : True := trivial
theorem PySem.W.Fast.tw5478981198297554428 : True := trivial
theorem PySem.W.Fast.tw16500443098286789652 : True := trivial
theorem PySem.W.Fast.tw8306660041687463113 : True := trivial
theorem PySem.W.Fast.tw14776243420559269821 : True := trivial
theorem PySem.W.Fast.tw4013566513712372751 : True := trivial
theorem PySem.W.Fast.tw8395228208537574770 : True := trivial
theorem PySem.W.Fast.tw16895522347289621205 : True := trivial
open PySem PySem.W PyProof.Rows
set_option maxRecDepth 100000 in
set_option maxHeartbeats 0 in
theorem PySem.Challenge.cw_othersum_k22_firsts_along_a_way_holds : PySem.Challenge.rw_othersum_k22_firsts_along_a_way.Holds := by
  w_on; o_law; k_head; (case hw => w_witness2)
  k_fill
  refine L2.walk_ofK (l := PySem.Challenge.rw_othersum_k22_firsts_along_a_way) (n := 63) (k := 14) (x := "_law_script") (CX := L2.CX0) (sp := DL.spLaw) rfl (by decide) rfl ⟨rfl, by decide, by decide⟩ (fun w h Y => PySem.W.kIn_of Y) ?F DL.law_sp (fun _ _ _ _ z => z)
  case F =>
    intro w mg fa h KX G hmg
    refine' My.all_mk KX G hmg ?a0 ?l0 ?c0 ?k0 ?a1 ?l1 ?c1 ?k1 ?a2 ?l2 ?c2 ?k2 ?a3 ?l3 ?c3 ?k3 ?a4 ?l4 ?c4 ?k4 ?a5 ?l5 ?c5 ?k5 ?a6 ?l6 ?c6 ?k6 ?a7 ?l7 ?c7 ?k7 ?a8 ?l8 ?c8 ?k8 ?a9 ?l9 ?c9 ?k9 ?a10 ?l10 ?c10 ?k10 ?a11 ?l11 ?c11 ?k11 ?a12 ?l12 ?c12 ?k12 ?a13 ?l13 ?c13 ?k13 ?a14 ?l14 ?c14 ?k14 ?a15 ?l15 ?c15 ?k15 ?a16 ?l16 ?c16 ?k16 ?a17 ?l17 ?c17 ?k17 ?a18 ?l18 ?c18 ?k18 ?a19 ?l19 ?c19 ?k19 ?a20 ?l20 ?c20 ?k20 ?a21 ?l21 ?c21 ?k21 ?a22 ?l22 ?c22 ?k22 ?a23 ?l23 ?c23 ?k23 ?a24 ?l24 ?c24 ?k24 ?a25 ?l25 ?c25 ?k25 ?a26 ?l26 ?c26 ?k26 ?a27 ?l27 ?c27 ?k27 ?a28 ?l28 ?c28 ?k28 ?a29 ?l29 ?c29 ?k29 ?a30 ?l30 ?c30 ?k30 ?a31 ?l31 ?c31 ?k31 ?a32 ?l32 ?c32 ?k32 ?a33 ?l33 ?c33 ?k33 ?a34 ?l34 ?c34 ?k34 ?a35 ?l35 ?c35 ?k35 ?a36 ?l36 ?c36 ?k36 ?a37 ?l37 ?c37 ?k37 ?a38 ?l38 ?c38 ?k38 ?a39 ?l39 ?c39 ?k39 ?z0 ?z1 ?z2 ?z3 ?z4 ?z5 ?z6 ?z7 ?z8 ?z9 ?z10 ?z11 ?z12
    (case a0 => k_is)
    (case l0 => k_is)
    (case c0 => k_is)
    (case k0 => k_is)
    (case a1 => k_is)
    (case l1 => k_is)
    (case c1 => k_is)
    (case k1 => k_is)
    (case a2 => k_is)
    (case l2 => k_is)
    (case c2 => k_is)
    (case k2 => k_is)
    (case a3 => k_is)
    (case l3 => k_is)
    (case c3 => k_is)
    (case k3 => k_is)
    (case a4 => k_is)
    (case l4 => k_is)
    (case c4 => k_is)
    (case k4 => k_is)
    (case a5 => k_is)
    (case l5 => k_is)
    (case c5 => k_is)
    (case k5 => k_is)
    (case a6 => k_is)
    (case l6 => k_is)
    (case c6 => k_is)
    (case k6 => k_is)
    (case a7 => k_is)
    (case l7 => k_is)
    (case c7 => k_is)
    (case k7 => k_is)
    (case a8 => k_is)
    (case l8 => k_is)
    (case c8 => k_is)
    (case k8 => k_is)
    (case a9 => k_is)
    (case l9 => k_is)
    (case c9 => k_is)
    (case k9 => k_is)
    (case a10 => k_is)
    (case l10 => k_is)
    (case c10 => k_is)
    (case k10 => k_is)
    (case a11 => k_is)
    (case l11 => k_is)
    (case c11 => k_is)
    (case k11 => k_is)
    (case a12 => k_is)
    (case l12 => k_is)
    (case c12 => k_is)
    (case k12 => k_is)
    (case a13 => k_is)
    (case l13 => k_is)
    (case c13 => k_is)
    (case k13 => k_is)
    (case a14 => k_is)
    (case l14 => k_is)
    (case c14 => k_is)
    (case k14 => k_is)
    (case a15 => k_is)
    (case l15 => k_is)
    (case c15 => k_is)
    (case k15 => k_is)
    (case a16 => k_is)
    (case l16 => k_is)
    (case c16 => k_is)
    (case k16 => k_is)
    (case a17 => k_is)
    (case l17 => k_is)
    (case c17 => k_is)
    (case k17 => k_is)
    (case a18 => k_is)
    (case l18 => k_is)
    (case c18 => k_is)
    (case k18 => k_is)
    (case a19 => k_is)
    (case l19 => k_is)
    (case c19 => k_is)
    (case k19 => k_is)
    (case a20 => k_is)
    (case l20 => k_is)
    (case c20 => k_is)
    (case k20 => k_is)
    (case a21 => k_is)
    (case l21 => k_is)
    (case c21 => k_is)
    (case k21 => k_is)
    (case a22 => k_is)
    (case l22 => k_is)
    (case c22 => k_is)
    (case k22 => k_is)
    (case a23 => k_is)
    (case l23 => k_is)
    (case c23 => k_is)
    (case k23 => k_is)
    (case a24 => k_is)
    (case l24 => k_is)
    (case c24 => k_is)
    (case k24 => k_is)
    (case a25 => k_is)
    (case l25 => k_is)
    (case c25 => k_is)
    (case k25 => k_is)
    (case a26 => k_is)
    (case l26 => k_is)
    (case c26 => k_is)
    (case k26 => k_is)
    (case a27 => k_is)
    (case l27 => k_is)
    (case c27 => k_is)
    (case k27 => k_is)
    (case a28 => k_is)
    (case l28 => k_is)
    (case c28 => k_is)
    (case k28 => k_is)
    (case a29 => k_is)
    (case l29 => k_is)
    (case c29 => k_is)
    (case k29 => k_is)
    (case a30 => k_is)
    (case l30 => k_is)
    (case c30 => k_is)
    (case k30 => k_is)
    (case a31 => k_is)
    (case l31 => k_is)
    (case c31 => k_is)
    (case k31 => k_is)
    (case a32 => k_is)
    (case l32 => k_is)
    (case c32 => k_is)
    (case k32 => k_is)
    (case a33 => k_is)
    (case l33 => k_is)
    (case c33 => k_is)
    (case k33 => k_is)
    (case a34 => k_is)
    (case l34 => k_is)
    (case c34 => k_is)
    (case k34 => k_is)
    (case a35 => k_is)
    (case l35 => k_is)
    (case c35 => k_is)
    (case k35 => k_is)
    (case a36 => k_is)
    (case l36 => k_is)
    (case c36 => k_is)
    (case k36 => k_is)
    (case a37 => k_is)
    (case l37 => k_is)
    (case c37 => k_is)
    (case k37 => k_is)
    (case a38 => k_is)
    (case l38 => k_is)
    (case c38 => k_is)
    (case k38 => k_is)
    (case a39 => k_is)
    (case l39 => k_is)
    (case c39 => k_is)
    (case k39 => k_is)
    (case z0 => k_is)
    (case z1 => k_is)
    (case z2 => k_is)
    (case z3 => k_is)
    (case z4 => k_is)
    (case z5 => k_is)
    (case z6 => k_is)
    (case z7 => k_is)
    (case z8 => k_is)
    (case z9 => k_is)
    (case z10 => k_is)
    (case z11 => k_is)
    (case z12 => k_is)
#print axioms PySem.Challenge.cw_othersum_k22_firsts_along_a_way_holds