import PyProof.Rows.All
import Wide.All
import OpenK.AllK
import Wide.FinOn
import Lean
import PyProof.EqAt
import PyProof.EqKinds
import PyProof.TupleCall
import PySem.Challenge.RW_vitrine_k16_whole_fewest_settings
set_option Elab.async false
set_option linter.all false
set_option maxRecDepth 100000
set_option maxHeartbeats 8000000
/-! THE HAND LAYER, for ints, bools, texts, own classes, LISTS and tuples (index, slices, in, append, pop ..), calls, loops. Paste it whole ahead of your own text; what your proof does not reach may be deleted. -/
namespace L2
open PySem PySem.Spec PyProof.Rows

/-- a key: an int or a str -/
abbrev Key := Sum Int Str
def keyIs : Key → Value → Bool
  | .inl k, v => Value.isInt k v
  | .inr x, v => Value.isStrOf x v
def keyH (w : World) : Key → Int
  | .inl k => hashInt k
  | .inr x => hashStr w x
theorem keyIs_shape : ∀ {k : Key} {v : Value}, keyIs k v = true → (∃ i t, k = Sum.inl i ∧ v = Value.int i t) ∨ (∃ x t, k = Sum.inr x ∧ v = Value.str x t)
  | .inl i, v, h => by
    obtain ⟨t, e⟩ := Value.isInt_shape (k := i) (v := v) h
    exact .inl ⟨i, t, rfl, e⟩
  | .inr x, v, h => by
    obtain ⟨t, e⟩ := Value.isStrOf_shape (x := x) (v := v) h
    exact .inr ⟨x, t, rfl, e⟩
theorem keyIs_int (i : Int) (t : Tok) : keyIs (.inl i) (.int i t) = true := by simp [keyIs, Value.isInt]
theorem keyIs_str (x : Str) (t : Tok) : keyIs (.inr x) (.str x t) = true := by simp [keyIs, Value.isStrOf]
theorem key_ll (a b : Int) : decide ((Sum.inl a : Key) = Sum.inl b) = (a == b) := by
  by_cases e : a = b
  · subst e; simp
  · have h : ¬ (Sum.inl a : Key) = Sum.inl b := fun q => e (Sum.inl.inj q)
    rw [decide_eq_false h]
    exact (beq_eq_false_iff_ne.mpr e).symm
theorem key_rr (a b : Str) : decide ((Sum.inr a : Key) = Sum.inr b) = decide (a = b) := by
  by_cases e : a = b
  · subst e; simp
  · have h : ¬ (Sum.inr a : Key) = Sum.inr b := fun q => e (Sum.inr.inj q)
    rw [decide_eq_false h, decide_eq_false e]
theorem key_lr (a : Int) (b : Str) : decide ((Sum.inl a : Key) = Sum.inr b) = false := decide_eq_false (fun q => nomatch q)
theorem key_rl (a : Str) (b : Int) : decide ((Sum.inr a : Key) = Sum.inl b) = false := decide_eq_false (fun q => nomatch q)

def mixKind (prog : Program) (w : World) : PySem.KeyKind prog w Key where
  is := keyIs
  hash := keyH w
  inj := fun v a b ha hb => by
    rcases keyIs_shape ha with ⟨i, t, rfl, rfl⟩ | ⟨x, t, rfl, rfl⟩
    · rcases keyIs_shape hb with ⟨j, u, rfl, e⟩ | ⟨y, u, rfl, e⟩
      · injection e with e1 _; rw [e1]
      · exact nomatch e
    · rcases keyIs_shape hb with ⟨j, u, rfl, e⟩ | ⟨y, u, rfl, e⟩
      · exact nomatch e
      · injection e with e1 _; rw [e1]
  byValue := fun k v h => by
    rcases keyIs_shape h with ⟨i, t, rfl, rfl⟩ | ⟨x, t, rfl, rfl⟩ <;> rfl
  pyHash := fun hv h => by
    rcases keyIs_shape hv with ⟨i, t, rfl, rfl⟩ | ⟨x, t, rfl, rfl⟩
    · exact wpAny_pyHash_int h
    · exact wpAny_pyHash_str h
  eqBool := fun hu hv h => by
    rcases keyIs_shape hu with ⟨i, t, rfl, rfl⟩ | ⟨x, t, rfl, rfl⟩
    · rcases keyIs_shape hv with ⟨j, u, rfl, rfl⟩ | ⟨y, u, rfl, rfl⟩
      · rw [key_ll] at h; exact wpAny_eqBool_int h
      · rw [key_lr] at h; exact SeqAt.EqAt.int_str i t y u _ _ _ _ h
    · rcases keyIs_shape hv with ⟨j, u, rfl, rfl⟩ | ⟨y, u, rfl, rfl⟩
      · rw [key_rl] at h; exact SeqAt.EqAt.str_int x t j u _ _ _ _ h
      · rw [key_rr] at h; exact wpAny_eqBool_str h
  «strs» := fun k x t v h => by
    rcases keyIs_shape h with ⟨i, u, rfl, e⟩ | ⟨y, u, rfl, e⟩
    · exact nomatch e
    · injection e with e1 _
      subst e1
      cases v <;> rfl

theorem mixKind_is (prog : Program) (w : World) (k : Key) (v : Value) : (mixKind prog w).is k v = keyIs k v := rfl
theorem mixKind_int (prog : Program) (w : World) (i : Int) (t : Tok) : (mixKind prog w).is (.inl i) (.int i t) = true := keyIs_int i t
theorem mixKind_str (prog : Program) (w : World) (x : Str) (t : Tok) : (mixKind prog w).is (.inr x) (.str x t) = true := keyIs_str x t
end L2

namespace L2
open PySem PySem.Spec PyProof.Rows

/-- a value, without the heap -/
inductive V where
  | non | bl (b : Bool) | int (i : Int) | str (x : Str) | byt (b : Array UInt8) | flt (b : UInt64) | ref (a : Addr) | ty (n : String)
  deriving DecidableEq

def RelV : V → Value → Prop
  | .non, u => u = Value.none
  | .bl b, u => u = Value.bool b
  | .int i, u => ∃ t, u = Value.int i t
  | .str x, u => ∃ t, u = Value.str x t
  | .byt b, u => ∃ t, u = Value.bytes b t
  | .flt b, u => ∃ t, u = Value.float b t
  | .ref a, u => u = Value.ref a
  | .ty n, u => u = Value.type n

abbrev Vals : List V → List Value → Prop := Paired RelV
theorem Vals.length {xs : List V} {us : List Value} (r : Vals xs us) : xs.length = us.length := Paired.length r
theorem Vals.get : ∀ {xs : List V} {us : List Value} {i : Nat} {x : V}, Vals xs us → xs[i]? = some x → ∃ u, us[i]? = some u ∧ RelV x u
  | _, _, _, _, .nil, e => by simp at e
  | _, _, 0, _, .cons r _, e => by simp at e; subst e; exact ⟨_, rfl, r⟩
  | _, _, i + 1, x, .cons _ t, e => by
    obtain ⟨u, h1, h2⟩ := Vals.get (i := i) (x := x) t (by simpa using e)
    exact ⟨u, by simpa using h1, h2⟩
theorem Vals.set {x : V} {u : Value} (r : RelV x u) : ∀ {xs : List V} {us : List Value} (i : Nat), Vals xs us → Vals (xs.set i x) (us.set i u)
  | _, _, _, .nil => .nil
  | _, _, 0, .cons _ t => .cons r t
  | _, _, i + 1, .cons q t => .cons q (Vals.set r i t)
theorem Vals.append : ∀ {xs ys : List V} {us ws : List Value}, Vals xs us → Vals ys ws → Vals (xs ++ ys) (us ++ ws)
  | _, _, _, _, .nil, s => s
  | _, _, _, _, .cons r t, s => .cons r (Vals.append t s)
theorem Vals.take : ∀ {xs : List V} {us : List Value} (n : Nat), Vals xs us → Vals (xs.take n) (us.take n)
  | _, _, 0, _ => .nil
  | _, _, _ + 1, .nil => .nil
  | _, _, n + 1, .cons r t => .cons r (Vals.take n t)
theorem Vals.drop : ∀ {xs : List V} {us : List Value} (n : Nat), Vals xs us → Vals (xs.drop n) (us.drop n)
  | _, _, 0, r => r
  | _, _, _ + 1, .nil => .nil
  | _, _, n + 1, .cons _ t => Vals.drop n t
theorem Vals.none_of : ∀ {xs : List V} {us : List Value} {i : Nat}, Vals xs us → xs[i]? = none → us[i]? = none := fun {xs us i} r e => by
  have h1 := r.length
  have h2 : xs.length ≤ i := List.getElem?_eq_none_iff.mp e
  exact List.getElem?_eq_none_iff.mpr (by omega)

def RelO : Option V → Option Value → Prop
  | some v, some u => RelV v u
  | none, none => True
  | _, _ => False
def KV {κ : Type} : List (κ × V) → List (κ × Value) → Prop := Paired fun (p : κ × V) (q : κ × Value) => p.1 = q.1 ∧ RelV p.2 q.2

/-- a key of a dict (00_mix): an int or a text -/
def kV : Key → V
  | .inl i => .int i
  | .inr x => .str x

/-- what stands at a tracked address -/
inductive HO where
  /-- a list -/
  | lst (xs : List V)
  /-- a tuple (never changes) -/
  | tup (xs : List V)
  /-- a dict whose keys are ints and texts; one whose keys are tuples of ints and texts (the empty one is both) -/
  | dK (kvs : List (Key × V)) | dT (kvs : List (List Key × V))
  /-- a set of ints: its members, its size -/
  | set (S : Int → Bool) (n : Nat)
  /-- an instance of the class at C, its dict at dx, its attributes -/
  | ins (C dx : Addr) (fs : List (Str × V))
  /-- the dict of the instance at x -/
  | own (x : Addr)
  /-- the dict of an exception -/
  | xd (fs : List (Str × V))
  /-- a bound method, f of x -/
  | met (f x : Addr)
  /-- a range object lo, lo + 1, .. below hi -/
  | rng (lo hi : Int)
  /-- a thing that is known to the object (the script; a dict while a loop walks it): read, never written while it is so -/
  | frz (o : Obj) (u : HO)
  /-- a code object's table -/
  | tbl (ps : Array Value)
  /-- any other thing, by what is true of its one object (a def of one's own: SetO a S n := HO.ext fun h => ..) -/
  | ext (φ : Heap → Prop)

abbrev Hp := Addr → Option HO
def upd (H : Hp) (a : Addr) (o : HO) : Hp := fun b => if b = a then some o else H b
theorem upd_same {H : Hp} {a : Addr} {o : HO} : upd H a o a = some o := by unfold upd; rw [if_pos rfl]
theorem upd_ne {H : Hp} {a b : Addr} {o : HO} (h : b ≠ a) : upd H a o b = H b := by unfold upd; rw [if_neg h]
theorem upd_upd {H : Hp} {a : Addr} {o u : HO} : upd (upd H a o) a u = upd H a u := by
  funext b; unfold upd; split <;> rfl
/-- two objects of different content stand apart -/
theorem ne_of {H : Hp} {a b : Addr} {o u : HO} (h : H a = some o) (h' : H b = some u) (d : o ≠ u) : a ≠ b := by
  intro e; subst e; rw [h] at h'; exact d (Option.some.inj h')
theorem ne_of_none {H : Hp} {a b : Addr} {o : HO} (h : H a = some o) (h' : H b = none) : a ≠ b := by
  intro e; subst e; rw [h] at h'; cases h'

section
variable (P : Program) (w : World)
def ObjOk (H : Hp) (h : Heap) (a : Addr) : HO → Prop
  | .lst xs => xs.length ≤ sizeLine ∧ ∃ (its : List Value) (n : Nat), Vals xs its ∧ h.get? a = some { cls := .type "list", data := .seq its.toArray n }
  | .tup xs => xs.length ≤ sizeLine ∧ ∃ its : List Value, Vals xs its ∧ IsTup h a its.toArray
  | .dK kvs => kvs.length ≤ sizeLine ∧ (a == sysModules) = false ∧ ∃ vs, KV kvs vs ∧ h.DictOf (mixKind P w) a vs
  | .dT kvs => kvs.length ≤ sizeLine ∧ (a == sysModules) = false ∧ ∃ xs : List (List Key × Addr × Value),
      Paired (fun (p : List Key × V) (q : List Key × Addr × Value) => p.1 = q.1 ∧ H q.2.1 = some (.tup (p.1.map kV)) ∧ RelV p.2 q.2.2) kvs xs ∧
      ∃ o es ep, h.get? a = some o ∧ o.ExactDict ∧ o.data = .dict es ep ∧ es.toList = xs.map (entryOfKey (tupleKind (mixKind P w))) ∧ (xs.map (·.1)).Nodup
  | .set S n => h.SetOf (intKind P w) a S n
  | .ins C dx fs => H dx = some (.own a) ∧ fs.length ≤ 1000 ∧ dx ≠ a ∧ h.get? a = some (PySem.W.instObj C dx) ∧
      ∃ mA, h.Ns1 dx mA ∧ (∀ f, RelO (fs.lookup f) (mA f)) ∧ PySem.Within mA (fs.map (·.1))
  | .own _ => ∃ o, h.get? a = some o
  | .xd fs => ∃ mA, h.Ns1 a mA ∧ ∀ f, RelO (fs.lookup f) (mA f)
  | .rng lo hi => ∃ t u v, h.get? a = some { cls := .type "range", data := .fields #[.int lo t, .int hi u, .int 1 v] }
  | .frz o u => h.get? a = some o ∧ ObjOk H h a u
  | .tbl ps => h.get? a = some { cls := .none, data := .fields ps }
  | .met f x => h.get? a = some (PySem.W.methodObj (.ref f) (.ref x))
  | .ext φ => φ h ∧ (∃ o, h.get? a = some o) ∧ ∀ h1 h2 : Heap, φ h1 → (∀ o, h1.get? a = some o → h2.get? a = some o) → φ h2
/-- the abstract heap is held -/
def HOk (H : Hp) (h : Heap) : Prop := ∀ a o, H a = some o → ObjOk P w H h a o
end

section
variable {P : Program} {w : World} {H H' : Hp} {h h' : Heap} {a : Addr} {o : HO}
theorem ObjOk.lt (x : ObjOk P w H h a o) : a < h.objs.size := by
  cases o with
  | lst xs => obtain ⟨_, _, _, _, e⟩ := x; exact Heap.lt_size e
  | tup xs => obtain ⟨_, _, _, p⟩ := x; exact p.lt
  | dK kvs => obtain ⟨_, _, _, _, o, _, _, e, _⟩ := x; exact Heap.lt_size e
  | dT kvs => obtain ⟨_, _, _, _, o, _, _, e, _⟩ := x; exact Heap.lt_size e
  | set S n => obtain ⟨o, _, _, _, e, _⟩ := x; exact Heap.lt_size e
  | ins C dx fs => obtain ⟨_, _, _, e, _⟩ := x; exact Heap.lt_size e
  | own y => obtain ⟨_, e⟩ := x; exact Heap.lt_size e
  | xd fs => obtain ⟨_, ⟨_, _, _, e, _⟩, _⟩ := x; exact Heap.lt_size e
  | rng lo hi => obtain ⟨_, _, _, e⟩ := x; exact Heap.lt_size e
  | frz ob u => obtain ⟨e, _⟩ := x; exact Heap.lt_size e
  | tbl ps => exact Heap.lt_size (show h.get? a = some _ from x)
  | met f y => exact Heap.lt_size (show h.get? a = some _ from x)
  | ext φ => obtain ⟨_, ⟨_, e⟩, _⟩ := x; exact Heap.lt_size e
theorem Paired.mapP {α β : Type} {F G : α → β → Prop} : ∀ {l₁ : List α} {l₂ : List β}, Paired F l₁ l₂ → (∀ a b, F a b → G a b) → Paired G l₁ l₂
  | _, _, .nil, _ => .nil
  | _, _, .cons r t, f => .cons (f _ _ r) (Paired.mapP t f)
theorem Paired.imp' {α β : Type} {F G : α → β → Prop} (f : ∀ a b, F a b → G a b) {l₁ : List α} {l₂ : List β} (r : Paired F l₁ l₂) : Paired G l₁ l₂ := Paired.mapP r f
/-- what an object's description leans on: its own object, its own dict, the tuples -/
theorem ObjOk.stay (x : ObjOk P w H h a o) (k : ∀ b u, (b = a ∨ H b = some (.own a)) → h.get? b = some u → h'.get? b = some u)
    (ho : ∀ b, H b = some (.own a) → H' b = some (.own a)) (ht : ∀ b xs, H b = some (.tup xs) → H' b = some (.tup xs)) : ObjOk P w H' h' a o := by
  induction o with
  | lst xs => obtain ⟨z, its, n, r, e⟩ := x; exact ⟨z, its, n, r, k _ _ (.inl rfl) e⟩
  | tup xs => obtain ⟨z, its, r, ob, e, c⟩ := x; exact ⟨z, its, r, ob, k _ _ (.inl rfl) e, c⟩
  | dK kvs => obtain ⟨z, y, vs, r, ob, es, ep, e, c⟩ := x; exact ⟨z, y, vs, r, ob, es, ep, k _ _ (.inl rfl) e, c⟩
  | dT kvs =>
    obtain ⟨z, y, xs, r, ob, es, ep, e, c⟩ := x
    exact ⟨z, y, xs, Paired.mapP r fun p q z => ⟨z.1, ht _ _ z.2.1, z.2.2⟩, ob, es, ep, k _ _ (.inl rfl) e, c⟩
  | set S n => obtain ⟨ob, es, ep, t, e, c⟩ := x; exact ⟨ob, es, ep, t, k _ _ (.inl rfl) e, c⟩
  | ins C dx fs =>
    obtain ⟨d, z, ne, e, mA, ⟨od, es, ep, e2, c⟩, r⟩ := x
    exact ⟨ho _ d, z, ne, k _ _ (.inl rfl) e, mA, ⟨od, es, ep, k _ _ (.inr d) e2, c⟩, r⟩
  | own y => obtain ⟨ob, e⟩ := x; exact ⟨ob, k _ _ (.inl rfl) e⟩
  | xd fs => obtain ⟨mA, ⟨od, es, ep, e, c⟩, r⟩ := x; exact ⟨mA, ⟨od, es, ep, k _ _ (.inl rfl) e, c⟩, r⟩
  | rng lo hi => obtain ⟨t, u, v, e⟩ := x; exact ⟨t, u, v, k _ _ (.inl rfl) e⟩
  | frz ob u ih => obtain ⟨e, q⟩ := x; exact ⟨k _ _ (.inl rfl) e, ih q⟩
  | tbl ps =>
    have e : h.get? a = some { cls := .none, data := .fields ps } := x
    show h'.get? a = some { cls := .none, data := .fields ps }
    exact k a _ (.inl rfl) e
  | met f y =>
    have e : h.get? a = some (PySem.W.methodObj (.ref f) (.ref y)) := x
    show h'.get? a = some (PySem.W.methodObj (.ref f) (.ref y))
    exact k a _ (.inl rfl) e
  | ext φ => obtain ⟨p, ⟨o, e⟩, st⟩ := x; exact ⟨st _ _ p fun o q => k _ _ (.inl rfl) q, ⟨o, k _ _ (.inl rfl) e⟩, st⟩
theorem HOk.lt (x : HOk P w H h) (e : H a = some o) : a < h.objs.size := (x a o e).lt
theorem HOk.fresh (x : HOk P w H h) (e : h.objs.size ≤ a) : H a = none := by
  cases q : H a with
  | none => rfl
  | some u => exact absurd (Nat.lt_of_lt_of_le (x.lt q) e) (Nat.lt_irrefl _)
/-- every object of the heap is kept -/
theorem HOk.kept (x : HOk P w H h) (k : ∀ b u, h.get? b = some u → h'.get? b = some u) : HOk P w H h' := fun a o e =>
  (x a o e).stay (fun b u _ q => k b u q) (fun _ q => q) fun _ _ q => q
/-- a new object is laid and tracked -/
theorem HOk.laid (x : HOk P w H h) (k : ∀ b u, h.get? b = some u → h'.get? b = some u) (hp : h.objs.size ≤ a) (new : ObjOk P w (upd H a o) h' a o) : HOk P w (upd H a o) h' := fun b u e => by
  have hn := x.fresh hp
  by_cases hb : b = a
  · subst hb; rw [upd_same] at e; cases e; exact new
  · rw [upd_ne hb] at e
    exact (x b u e).stay (fun c v _ q => k c v q) (fun c q => by rw [upd_ne (ne_of_none q hn)]; exact q) fun c xs q => by rw [upd_ne (ne_of_none q hn)]; exact q
end

/-- what may be read as u: it is u, or a known u -/
def Rd (H : Hp) (a : Addr) (u : HO) : Prop := H a = some u ∨ ∃ o, H a = some (.frz o u)
theorem Rd.of {H : Hp} {a : Addr} {u : HO} (h : H a = some u) : Rd H a u := .inl h
theorem Rd.ok {P : Program} {w : World} {H : Hp} {h : Heap} {a : Addr} {u : HO} (r : Rd H a u) (x : HOk P w H h) : ObjOk P w H h a u := by
  rcases r with r | ⟨o, r⟩
  · exact x a u r
  · obtain ⟨_, q⟩ := x a _ r
    exact q
/-- what may be written -/
def Mut : Option HO → Prop
  | some (.lst _) => True
  | some (.dK _) => True
  | some (.dT _) => True
  | some (.set _ _) => True
  | some (.ins _ _ _) => True
  | some (.ext _) => True
  | _ => False
section
variable {P : Program} {w : World} {H : Hp} {h h' : Heap} {x e : Addr} {o' : HO}
/-- the object at e is changed: x itself, or the dict of the instance x -/
theorem HOk.write (ok : HOk P w H h) (mu : Mut (H x)) (he : e = x ∨ H e = some (.own x)) (k : ∀ b u, b ≠ e → h.get? b = some u → h'.get? b = some u) (heo : ∃ u, h'.get? e = some u)
    (new : ObjOk P w (upd H x o') h' x o') : HOk P w (upd H x o') h' := fun b u q => by
  have nown : ∀ c y, H c = some (.own y) → c ≠ x := fun c y r z => by subst z; rw [r] at mu; exact mu
  have ntup : ∀ c xs, H c = some (.tup xs) → c ≠ x := fun c xs r z => by subst z; rw [r] at mu; exact mu
  by_cases hb : b = x
  · subst hb; rw [upd_same] at q; cases q; exact new
  · rw [upd_ne hb] at q
    by_cases hbe : b = e
    · have q' : H b = some (.own x) := by
        rcases he with z | z
        · exact absurd (hbe.trans z) hb
        · rw [hbe]; exact z
      rw [q] at q'; cases q'
      obtain ⟨v, hv⟩ := heo
      exact ⟨v, by rw [hbe]; exact hv⟩
    · refine (ok b u q).stay (fun c v hc r => k c v ?_ r) (fun c r => by rw [upd_ne (nown c b r)]; exact r) fun c xs r => by rw [upd_ne (ntup c xs r)]; exact r
      rcases hc with rfl | hc
      · exact hbe
      · rintro rfl
        rcases he with z | z
        · exact nown c b hc z
        · rw [hc] at z; cases z; exact hb rfl
end

/-! ### kept unless tracked; of the frames at fs (the callers') the slots may change (an exception that passes writes there); of the records at ex (iterators) nothing is said -/
structure Un (fs ex : List Addr) (H H' : Hp) (h h' : Heap) : Prop where
  keep : ∀ b o, h.get? b = some o → H b = none → b ∉ fs → b ∉ ex → h'.get? b = some o
  slot : ∀ b o, h.get? b = some o → H b = none → b ∈ fs → b ∉ ex → ∃ sl, h'.get? b = some { o with slots := sl }
  free : ∀ b o, h.get? b = some o → H b = none → b ∉ ex → H' b = none
  there : ∀ b o, h.get? b = some o → b ∉ ex → ∃ o', h'.get? b = some o'
  tups : ∀ b xs, H b = some (.tup xs) → H' b = some (.tup xs)
  frzs : ∀ b o u, H b = some (.frz o u) → H' b = some (.frz o u)
  tbls : ∀ b ps, H b = some (.tbl ps) → ∃ more, H' b = some (.tbl (ps ++ more))
section
variable {fs fs' ex ex' : List Addr} {H H1 H2 : Hp} {h h1 h2 h' : Heap} {a x e : Addr} {o : HO}
theorem Un.any (u : Un fs ex H H1 h h1) {b : Addr} {ob : Obj} (q : h.get? b = some ob) (n : H b = none) (hx : b ∉ ex) : ∃ sl, h1.get? b = some { ob with slots := sl } := by
  by_cases hb : b ∈ fs
  · exact u.slot b ob q n hb hx
  · exact ⟨ob.slots, u.keep b ob q n hb hx⟩
theorem Un.trans (a : Un fs ex H H1 h h1) (b : Un fs ex H1 H2 h1 h2) : Un fs ex H H2 h h2 where
  keep := fun c ob q n hc hx => b.keep c ob (a.keep c ob q n hc hx) (a.free c ob q n hx) hc hx
  slot := fun c ob q n hc hx => by
    obtain ⟨sl, e1⟩ := a.slot c ob q n hc hx
    obtain ⟨sl', e2⟩ := b.slot c _ e1 (a.free c ob q n hx) hc hx
    exact ⟨sl', e2⟩
  free := fun c ob q n hx => by
    obtain ⟨o', e1⟩ := a.there c ob q hx
    exact b.free c o' e1 (a.free c ob q n hx) hx
  there := fun c ob q hx => by
    obtain ⟨o', e1⟩ := a.there c ob q hx
    exact b.there c o' e1 hx
  tups := fun c xs q => b.tups c xs (a.tups c xs q)
  frzs := fun c ob xs q => b.frzs c ob xs (a.frzs c ob xs q)
  tbls := fun c ps q => by
    obtain ⟨m1, e1⟩ := a.tbls c ps q
    obtain ⟨m2, e2⟩ := b.tbls c _ e1
    exact ⟨m1 ++ m2, by rw [e2, Array.append_assoc]⟩
theorem Un.kept (k : ∀ b u, h.get? b = some u → h'.get? b = some u) : Un fs ex H H h h' :=
  ⟨fun b ob q _ _ _ => k b ob q, fun b ob q _ _ _ => ⟨ob.slots, k b ob q⟩, fun _ _ _ n _ => n, fun b ob q _ => ⟨ob, k b ob q⟩, fun _ _ q => q, fun _ _ _ q => q, fun _ ps q => ⟨#[], by rw [q]; simp⟩⟩
theorem Un.refl : Un fs ex H H h h := Un.kept fun _ _ q => q
theorem Un.laid (k : ∀ b u, h.get? b = some u → h'.get? b = some u) (hp : h.objs.size ≤ a) (hn : H a = none) : Un fs ex H (upd H a o) h h' where
  keep := fun b u q _ _ _ => k b u q
  slot := fun b u q _ _ _ => ⟨u.slots, k b u q⟩
  free := fun b u q n _ => by rw [upd_ne (Nat.ne_of_lt (Nat.lt_of_lt_of_le (Heap.lt_size q) hp))]; exact n
  there := fun b u q _ => ⟨u, k b u q⟩
  tups := fun b xs q => by rw [upd_ne (ne_of_none q hn)]; exact q
  frzs := fun b u xs q => by rw [upd_ne (ne_of_none q hn)]; exact q
  tbls := fun b ps q => ⟨#[], by rw [upd_ne (ne_of_none q hn), q]; simp⟩
theorem Un.write (mu : Mut (H x)) (he : e = x ∨ H e = some (.own x)) (k : ∀ b u, b ≠ e → h.get? b = some u → h'.get? b = some u) (heo : ∃ u, h'.get? e = some u) : Un fs ex H (upd H x o) h h' := by
  have hx : ∀ b, H b = none → b ≠ x := fun b n z => by subst z; rw [n] at mu; exact mu
  have hb : ∀ b, H b = none → b ≠ e := fun b n z => by
    subst z
    rcases he with r | r
    · exact hx b n r
    · rw [n] at r; cases r
  have hm : ∀ b u, H b = some u → ¬ Mut (some u) → b ≠ x := fun b u q nm z => by subst z; rw [q] at mu; exact nm mu
  refine ⟨fun b u q n _ _ => k b u (hb b n) q, fun b u q n _ _ => ⟨u.slots, k b u (hb b n) q⟩, fun b u q n _ => by rw [upd_ne (hx b n)]; exact n, fun b u q _ => ?_,
    fun b xs q => by rw [upd_ne (hm b _ q fun z => z)]; exact q, fun b u xs q => by rw [upd_ne (hm b _ q fun z => z)]; exact q, fun b ps q => ⟨#[], by rw [upd_ne (hm b _ q fun z => z), q]; simp⟩⟩
  by_cases hbe : b = e
  · subst hbe; exact heo
  · exact ⟨u, k b u hbe q⟩
theorem Un.mono (u : Un fs ex H H1 h h1) (hs : ∀ b ∈ fs, b ∈ fs') (hx : ∀ b ∈ ex, b ∈ ex') : Un fs' ex' H H1 h h1 :=
  ⟨fun b ob q n hb he => u.keep b ob q n (fun z => hb (hs b z)) fun z => he (hx b z), fun _ _ q n _ he => u.any q n fun z => he (hx _ z), fun b ob q n he => u.free b ob q n fun z => he (hx b z), fun b ob q he => u.there b ob q fun z => he (hx b z), u.tups, u.frzs, u.tbls⟩
end

/-! ### the heap without what is tracked -/
def trk (h : Heap) (H : Hp) : List Addr := (List.range h.objs.size).filter fun a => (H a).isSome
def hidT (h : Heap) (H : Hp) : Heap := PySem.W.hideAll h (trk h H)
theorem hidT_size (h : Heap) (H : Hp) : (hidT h H).objs.size = h.objs.size := PySem.W.hideAll_size _ _
theorem hidT_get {h : Heap} {H : Hp} {b : Addr} {o : Obj} (e : h.get? b = some o) (n : H b = none) : (hidT h H).get? b = some o :=
  PySem.W.hideAll_get _ e fun hm => by
    have q : (H b).isSome = true := (List.mem_filter.mp hm).2
    rw [n] at q; simp at q
theorem of_hidT {h : Heap} {H : Hp} {b : Addr} {o : Obj} (e : (hidT h H).get? b = some o) : h.get? b = some o ∧ H b = none := by
  have e' : h.get? b = some o := PySem.W.of_hideAll (trk h H) e
  refine ⟨e', ?_⟩
  cases q : H b with
  | none => rfl
  | some x =>
    have hm : b ∈ trk h H := List.mem_filter.mpr ⟨List.mem_range.mpr (Heap.lt_size e'), by simp [q]⟩
    have z : (hidT h H).get? b = none := PySem.W.hideAll_none (trk h H) hm
    rw [z] at e; cases e

/-! ### OpenK's ledger, filled with every new object but one -/
def allNews (g h : Heap) (L : Addr) : List (Addr × Obj) := (List.range h.objs.size).filterMap fun a => if a = L ∨ (g.get? a).isSome = true then none else (h.get? a).map fun o => (a, o)
theorem mem_allNews {g h : Heap} {L a : Addr} {o : Obj} (h1 : a ≠ L) (h2 : g.get? a = none) (h3 : h.get? a = some o) : (a, o) ∈ allNews g h L :=
  List.mem_filterMap.mpr ⟨a, List.mem_range.mpr (Heap.lt_size h3), by simp [h1, h2, h3]⟩
theorem of_mem_allNews {g h : Heap} {L : Addr} {p : Addr × Obj} (hp : p ∈ allNews g h L) : p.1 ≠ L ∧ g.get? p.1 = none ∧ h.get? p.1 = some p.2 := by
  obtain ⟨b, _, e⟩ := List.mem_filterMap.mp hp
  split at e
  · cases e
  · rename_i hn
    cases q : h.get? b with
    | none => rw [q] at e; simp at e
    | some u =>
      rw [q] at e
      simp only [Option.map_some, Option.some.injEq] at e
      subst e
      refine ⟨fun z => hn (.inl z), ?_, q⟩
      show g.get? b = none
      cases r : g.get? b with
      | none => rfl
      | some v => exact (hn (.inr (by simp [r]))).elim
def rest (g h : Heap) (L d : Addr) : List (Addr × Obj) := (allNews g h L).filter fun p => decide (p.1 ≠ d)
theorem rest_ne {g h : Heap} {L d : Addr} : ∀ p ∈ rest g h L d, p.1 ≠ d := fun p hp => of_decide_eq_true (List.mem_filter.mp hp).2
theorem mem_rest {g h : Heap} {L d a : Addr} {o : Obj} (h1 : a ≠ L) (h2 : g.get? a = none) (h3 : h.get? a = some o) (h4 : a ≠ d) : (a, o) ∈ rest g h L d :=
  List.mem_filter.mpr ⟨mem_allNews h1 h2 h3, decide_eq_true h4⟩
theorem news_all {g h : Heap} {L : Addr} : News g L h (allNews g h L) := fun p hp => let ⟨a, b, c⟩ := of_mem_allNews hp; ⟨c, a, b⟩
theorem news_at {g h : Heap} {L d : Addr} {o : Obj} (h1 : d ≠ L) (h2 : g.get? d = none) (h3 : h.get? d = some o) : News g L h ((d, o) :: rest g h L d) := fun p hp => by
  rcases List.mem_cons.mp hp with rfl | hp
  · exact ⟨h3, h1, h2⟩
  · exact news_all p (List.mem_filter.mp hp).1
/-- behind a rule that changed d alone: all else but the frame is kept -/
theorem kept_of_news {g h h' : Heap} {L d : Addr} {m : Str → Option Value} (k : ∀ b o, g.get? b = some o → h.get? b = some o) (F : Fr g L h' m) (N : News g L h' (rest g h L d)) :
    ∀ b o, b ≠ L → b ≠ d → h.get? b = some o → h'.get? b = some o := fun b o h1 h2 e => by
  cases q : g.get? b with
  | some u =>
    have := k b u q
    rw [e] at this; cases this
    exact F.keep b _ q
  | none => exact (N (b, o) (mem_rest h1 q e h2)).1
end L2

namespace L2
open PySem PySem.Spec PyProof.Rows

/-- the module's facts, over the base: the heap at the law's entry without what is tracked there -/
structure Mod (K : PySem.W.Frag) (mg : Str → Option Value) (base : Heap) : Prop where
  kin : K.In base
  glob : base.Ns mainGlobals mg
  blt : ∃ mb, base.Ns builtinsNs mb ∧ ∀ x : Str, x ≠ "__name__" → mb x = bootBuiltins x
  nolimit : base.NoLimit

/-- the context: a def's body (or a comprehension's block) running. base: fixed through the whole law; s₀, H₀: the entry; outer: the frames whose slots others may change (a def's callers); stack: all frames that run;
   ex: iterators that were made ahead of the entry and are walked here (a comprehension's); fn: the names whose cells were made at the entry (a def: all; a comprehension's block: its own); calm: not within an except suite; pn: pins that every state bears; xe: what is wanted of an exception that leaves the code -/
structure Cx where
  prog : Program
  w : World
  K : PySem.W.Frag
  mg : Str → Option Value
  base : Heap
  A : Around
  N : List Str
  s₀ : Shared
  H₀ : Hp
  env : Env
  outer : List Env
  stack : List Env
  ex : List Addr
  fn : Str → Bool
  calm : Bool
  pn : List (Addr × Obj)
  xe : Value → Shared → Prop
/-- the callers' frames -/
def frs (l : List Env) : List Addr := l.filterMap (·.frame)
abbrev Cx.fs (X : Cx) : List Addr := frs X.outer

def Vis (sc : Scope) (x : Str) : Prop := sc.names.lookup x = some .local ∨ sc.names.lookup x = some .cell ∨ sc.names.lookup x = some .free
def Loc (sc : Scope) (x : Str) : Prop := sc.names.lookup x = some .local ∨ sc.names.lookup x = some .cell
def Look (env : Env) (h : Heap) (m : Str → Option Value) (x : Str) (u : Value) : Prop :=
  (env.kindOf x = some .local ∧ m x = some u) ∨ ((env.kindOf x = some .cell ∨ env.kindOf x = some .free) ∧ ∃ c, env.cells.lookup x = some c ∧ h.IsCell c (some u))

structure Cx.Ok (X : Cx) : Prop where
  mod : Mod X.K X.mg X.base
  kind : X.env.scope.kind = .function
  glob : X.env.globals = mainGlobals
  blt : X.env.builtins = builtinsNs
  above : X.s₀.heap.objs.size ≤ X.env.locals
  inj : ∀ x y c, X.env.cells.lookup x = some c → X.env.cells.lookup y = some c → x = y
  has : ∀ x, (X.env.kindOf x = some .cell ∨ X.env.kindOf x = some .free) → ∃ c, X.env.cells.lookup x = some c
  cab : ∀ x c, X.fn x = true → X.env.cells.lookup x = some c → X.s₀.heap.objs.size ≤ c
  hd : X.calm = true → X.A.handled = none
  frames : X.A.frames = some X.stack
  stk : X.stack = X.outer ∨ (X.stack = X.env :: X.outer ∧ X.env.frame = some X.env.locals)
  exf : ∀ b ∈ X.ex, b ≠ X.env.locals ∧ ∀ x c, X.env.cells.lookup x = some c → c ≠ b
  bs : ∀ b o, X.base.get? b = some o → X.s₀.heap.get? b = some o ∧ X.H₀ b = none
  bsz : X.base.objs.size ≤ X.s₀.heap.objs.size
  noex : ∀ b o, X.base.get? b = some o → b ∉ X.ex
  exfs : ∀ b ∈ X.ex, b ∉ X.fs
  funs : X.s₀.heap.FunFrames X.base X.outer
  frf : ∀ b ∈ X.fs, X.H₀ b = none

structure Inv (X : Cx) (pins : List (Addr × Obj)) (σ : List (Option V)) (H : Hp) (s : Shared) : Prop where
  ok : X.Ok
  os : s.os = X.s₀.os
  bare : AllBare s.gens
  base : Un X.fs X.ex X.H₀ H X.s₀.heap s.heap
  loc : ∃ m, s.heap.Ns X.env.locals m ∧ ∀ (i : Nat) (x : Str) (v : V), X.N[i]? = some x → σ[i]? = some (some v) → Vis X.env.scope x → ∃ u, RelV v u ∧ Look X.env s.heap m x u
  cell : ∀ x c, X.env.cells.lookup x = some c → ∃ v, s.heap.IsCell c v
  free : H X.env.locals = none
  freeC : ∀ x c, X.env.cells.lookup x = some c → H c = none
  pin : ∀ p ∈ X.pn ++ pins, s.heap.get? p.1 = some p.2 ∧ H p.1 = none ∧ p.1 ≠ X.env.locals ∧ p.1 ∉ X.fs ∧ ∀ v, p.2.data ≠ .cell v
  hok : HOk X.prog X.w H s.heap
  len : σ.length = X.N.length

section
variable {X : Cx} {pins : List (Addr × Obj)} {σ : List (Option V)} {H H' : Hp} {s : Shared} {h' : Heap}

theorem Cx.Ok.nofr (ok : X.Ok) {b : Addr} {o : Obj} (e : X.base.get? b = some o) : b ∉ X.fs := fun hb => by
  have := (ok.funs.mem hb).1
  rw [e] at this; cases this
theorem Inv.bs (I : Inv X pins σ H s) : ∀ b o, X.base.get? b = some o → s.heap.get? b = some o ∧ H b = none := fun b o e =>
  ⟨I.base.keep b o (I.ok.bs b o e).1 (I.ok.bs b o e).2 (I.ok.nofr e) (I.ok.noex b o e), I.base.free b o (I.ok.bs b o e).1 (I.ok.bs b o e).2 (I.ok.noex b o e)⟩
theorem Inv.bk (I : Inv X pins σ H s) : ∀ b o, X.base.get? b = some o → s.heap.get? b = some o := fun b o e => (I.bs b o e).1
theorem Inv.mod (I : Inv X pins σ H s) : Mod X.K X.mg X.base := I.ok.mod
theorem Inv.kIn (I : Inv X pins σ H s) : X.K.In s.heap := I.ok.mod.kin.keeps I.bk
theorem Inv.nolimit (I : Inv X pins σ H s) : s.heap.NoLimit := I.ok.mod.nolimit.keeps I.bk
/-- the frame over the base: for OpenK's rules (K.In X.base is I.mod.kin) -/
theorem Inv.fr (I : Inv X pins σ H s) : ∃ m, Fr X.base X.env.locals s.heap m :=
  let ⟨m, hn, _⟩ := I.loc
  ⟨m, hn, I.bk, Nat.le_trans I.ok.bsz I.ok.above⟩
theorem Inv.lt (I : Inv X pins σ H s) : X.env.locals < s.heap.objs.size := let ⟨_, hn, _⟩ := I.loc; hn.lt
theorem Inv.sz (I : Inv X pins σ H s) : X.s₀.heap.objs.size ≤ s.heap.objs.size := Nat.le_trans I.ok.above (Nat.le_of_lt I.lt)
theorem Inv.nofs (I : Inv X pins σ H s) {a : Addr} (h : s.heap.objs.size ≤ a) : a ∉ X.fs := fun hb => by
  obtain ⟨_, o, ho, _⟩ := I.ok.funs.mem hb
  exact absurd (Nat.lt_of_lt_of_le (Heap.lt_size ho) (Nat.le_trans I.sz h)) (Nat.lt_irrefl _)
theorem Inv.cne (I : Inv X pins σ H s) : ∀ x c, X.env.cells.lookup x = some c → c ≠ X.env.locals := fun x c e z => by
  obtain ⟨v, o, ho, hd⟩ := I.cell x c e
  obtain ⟨m, ⟨o', es, ep, ho', hd', _⟩, _⟩ := I.loc
  rw [z, ho'] at ho; cases ho; rw [hd'] at hd; cases hd
theorem Inv.funs (I : Inv X pins σ H s) : s.heap.FunFrames X.base X.outer := by
  have all : ∀ (l : List Env), (∀ b ∈ frs l, b ∈ X.fs) → X.s₀.heap.FunFrames X.base l → s.heap.FunFrames X.base l := by
    intro l
    induction l with
    | nil => intro _ _; trivial
    | cons env r ih =>
      intro hs hl
      obtain ⟨hk, ⟨L, o, hf, hn, ho, hd⟩, hr⟩ := hl
      have hL : L ∈ X.fs := hs L (by unfold frs; rw [List.filterMap_cons, hf]; exact List.mem_cons_self)
      obtain ⟨sl, e⟩ := I.base.slot L o ho (I.ok.frf L hL) hL fun z => I.ok.exfs L z hL
      exact ⟨hk, ⟨L, _, hf, hn, e, hd⟩, ih (fun b hb => hs b (by unfold frs; rw [List.filterMap_cons, hf]; exact List.mem_cons_of_mem _ hb)) hr⟩
  exact all X.outer (fun _ hb => hb) I.ok.funs

/-- the frames that run, for a call -/
theorem Inv.stack (I : Inv X pins σ H s) : s.heap.FunFrames X.base X.stack := by
  rcases I.ok.stk with e | ⟨e, hf⟩
  · rw [e]; exact I.funs
  · rw [e]
    obtain ⟨m, hn, _⟩ := I.loc
    refine .cons (by rw [I.ok.kind]; decide) hf hn ?_ I.funs
    exact Heap.get?_none_of_le (Nat.le_trans I.ok.bsz I.ok.above)
theorem Inv.stkSub (I : Inv X pins σ H s) : ∀ b ∈ frs X.stack, b ∈ X.env.locals :: X.fs := fun b hb => by
  rcases I.ok.stk with e | ⟨e, hf⟩
  · rw [e] at hb; exact List.mem_cons_of_mem _ hb
  · rw [e] at hb
    unfold frs at hb
    rw [List.filterMap_cons, hf] at hb
    exact hb
theorem Inv.stkFree (I : Inv X pins σ H s) : ∀ b ∈ frs X.stack, H b = none := fun b hb => by
  rcases List.mem_cons.mp (I.stkSub b hb) with e | hb
  · rw [e]; exact I.free
  · obtain ⟨_, o, ho, _⟩ := I.ok.funs.mem hb
    exact I.base.free b o ho (I.ok.frf b hb) fun z => I.ok.exfs b z hb

/-- THE STEP: the untracked objects but the frame and the records at ch are kept (the callers' frames up to slots), the frame's map is kept, the new abstract heap is held -/
theorem Inv.step {g' : Array GenState} {t' : Nat} {d' : Drawn} {ch : List Addr} (I : Inv X pins σ H s)
    (hch : ∀ b ∈ ch, (b ∈ X.ex ∨ X.s₀.heap.objs.size ≤ b) ∧ b ≠ X.env.locals ∧ (∀ x c, X.env.cells.lookup x = some c → c ≠ b) ∧ ∀ p ∈ X.pn ++ pins, p.1 ≠ b)
    (keep : ∀ b o, b ≠ X.env.locals → b ∉ X.fs → b ∉ ch → s.heap.get? b = some o → H b = none → h'.get? b = some o)
    (slot : ∀ b o, b ≠ X.env.locals → b ∈ X.fs → b ∉ ch → s.heap.get? b = some o → H b = none → ∃ sl, h'.get? b = some { o with slots := sl }) (free : ∀ b o, b ∉ ch → s.heap.get? b = some o → H b = none → H' b = none)
    (there : ∀ b o, b ∉ ch → s.heap.get? b = some o → ∃ o', h'.get? b = some o')
    (tups : ∀ b xs, H b = some (.tup xs) → H' b = some (.tup xs)) (frzs : ∀ b o u, H b = some (.frz o u) → H' b = some (.frz o u)) (tbls : ∀ b ps, H b = some (.tbl ps) → ∃ more, H' b = some (.tbl (ps ++ more)))
    (ns : ∀ m, s.heap.Ns X.env.locals m → h'.Ns X.env.locals m) (hok : HOk X.prog X.w H' h') (hg : AllBare g') :
    Inv X pins σ H' { s with heap := h', gens := g', drawn := d', toks := t' } := by
  have neL : ∀ b o, X.s₀.heap.get? b = some o → b ≠ X.env.locals := fun b o e => Nat.ne_of_lt (Nat.lt_of_lt_of_le (Heap.lt_size e) I.ok.above)
  have neC : ∀ b o, X.s₀.heap.get? b = some o → b ∉ X.ex → b ∉ ch := fun b o e hx hb => by
    rcases (hch b hb).1 with z | z
    · exact hx z
    · exact absurd (Nat.lt_of_lt_of_le (Heap.lt_size e) z) (Nat.lt_irrefl _)
  have cellK : ∀ x c, X.env.cells.lookup x = some c → ∀ v, s.heap.IsCell c v → h'.IsCell c v := fun x c e v ⟨o, ho, hd⟩ => by
    have nch : c ∉ ch := fun z => (hch c z).2.2.1 x c e rfl
    by_cases hc : c ∈ X.fs
    · obtain ⟨sl, q⟩ := slot c o (I.cne x c e) hc nch ho (I.freeC x c e)
      exact ⟨_, q, hd⟩
    · exact ⟨o, keep c o (I.cne x c e) hc nch ho (I.freeC x c e), hd⟩
  refine ⟨I.ok, I.os, hg, ⟨fun b o e n hb hx => ?_, fun b o e n hb hx => ?_, fun b o e n hx => ?_, fun b o e hx => ?_, fun b xs e => tups b xs (I.base.tups b xs e), fun b o xs e => frzs b o xs (I.base.frzs b o xs e), fun b ps e => ?_⟩, ?_, fun x c e => ?_, ?_, fun x c e => ?_, fun p hp => ?_, hok, I.len⟩
  · exact keep b o (neL b o e) hb (neC b o e hx) (I.base.keep b o e n hb hx) (I.base.free b o e n hx)
  · obtain ⟨sl, e1⟩ := I.base.slot b o e n hb hx
    obtain ⟨sl', e2⟩ := slot b _ (neL b o e) hb (neC b o e hx) e1 (I.base.free b o e n hx)
    exact ⟨sl', e2⟩
  · obtain ⟨o', e1⟩ := I.base.there b o e hx
    exact free b o' (neC b o e hx) e1 (I.base.free b o e n hx)
  · obtain ⟨o', e1⟩ := I.base.there b o e hx
    exact there b o' (neC b o e hx) e1
  · obtain ⟨m1, e1⟩ := I.base.tbls b ps e
    obtain ⟨m2, e2⟩ := tbls b _ e1
    exact ⟨m1 ++ m2, by rw [e2, Array.append_assoc]⟩
  · obtain ⟨m, hn, hl⟩ := I.loc
    refine ⟨m, ns m hn, fun i x v e1 e2 e3 => ?_⟩
    obtain ⟨u, r, l⟩ := hl i x v e1 e2 e3
    refine ⟨u, r, ?_⟩
    rcases l with l | ⟨k, c, e, z⟩
    · exact .inl l
    · exact .inr ⟨k, c, e, cellK x c e _ z⟩
  · obtain ⟨v, z⟩ := I.cell x c e
    exact ⟨v, cellK x c e v z⟩
  · obtain ⟨m, ⟨o, _, _, ho, _⟩, _⟩ := I.loc
    exact free _ o (fun z => (hch _ z).2.1 rfl) ho I.free
  · obtain ⟨v, o, ho, hd⟩ := I.cell x c e
    exact free c o (fun z => (hch c z).2.2.1 x c e rfl) ho (I.freeC x c e)
  · obtain ⟨e, n, ne, nf, d⟩ := I.pin p hp
    have nch : p.1 ∉ ch := fun z => (hch p.1 z).2.2.2 p hp rfl
    exact ⟨keep p.1 p.2 ne nf nch e n, free p.1 p.2 nch e n, ne, nf, d⟩
/-- .. where the frame's own object is kept too -/
theorem Inv.un {t' : Nat} (I : Inv X pins σ H s) (u : Un X.fs [] H H' s.heap h') (hok : HOk X.prog X.w H' h') : Inv X pins σ H' { s with heap := h', toks := t' } := by
  obtain ⟨m, ⟨o, es, ep, ho, r⟩, _⟩ := id I.loc
  obtain ⟨sl, hL⟩ := u.any ho I.free (by simp)
  exact I.step (g' := s.gens) (d' := s.drawn) (ch := []) (fun _ z => nomatch z) (fun b o _ hb _ e n => u.keep b o e n hb (by simp)) (fun b o _ hb _ e n => u.slot b o e n hb (by simp)) (fun b o _ e n => u.free b o e n (by simp)) (fun b o _ e => u.there b o e (by simp)) u.tups u.frzs u.tbls (fun m' hm => by
    obtain ⟨o', es', ep', ho', r'⟩ := hm
    rw [ho] at ho'; cases ho'
    exact ⟨_, es', ep', hL, r'⟩) hok I.bare
/-- behind a call (or a comprehension's block): the slots of this frame may have changed too, the records at ch may have turned -/
theorem Inv.call {g' : Array GenState} {t' : Nat} {d' : Drawn} {ch : List Addr} (I : Inv X pins σ H s) (u : Un (frs X.stack) ch H H' s.heap h') (hok : HOk X.prog X.w H' h') (hg : AllBare g')
    (hch : ∀ b ∈ ch, (b ∈ X.ex ∨ X.s₀.heap.objs.size ≤ b) ∧ b ≠ X.env.locals ∧ (∀ x c, X.env.cells.lookup x = some c → c ≠ b) ∧ ∀ p ∈ X.pn ++ pins, p.1 ≠ b) :
    Inv X pins σ H' { s with heap := h', gens := g', drawn := d', toks := t' } := by
  obtain ⟨m, ⟨o, es, ep, ho, r⟩, _⟩ := id I.loc
  obtain ⟨sl, hL⟩ := u.any ho I.free fun z => (hch _ z).2.1 rfl
  exact I.step (ch := ch) hch (fun b o hL hb hc e n => u.keep b o e n (fun z => (List.mem_cons.mp (I.stkSub b z)).elim hL hb) hc) (fun b o _ _ hc e n => u.any e n hc) (fun b o hc e n => u.free b o e n hc) (fun b o hc e => u.there b o e hc) u.tups u.frzs u.tbls (fun m' hm => by
    obtain ⟨o', es', ep', ho', r'⟩ := hm
    rw [ho] at ho'; cases ho'
    exact ⟨_, es', ep', hL, r'⟩) hok hg
/-- an untracked record of ours (an iterator) has turned -/
theorem Inv.turned {t' : Nat} {it : Addr} (I : Inv X pins σ H s) (k : ∀ b o, b ≠ it → s.heap.get? b = some o → h'.get? b = some o) (hn : H it = none) (hL : it ≠ X.env.locals)
    (h1 : it ∈ X.ex ∨ X.s₀.heap.objs.size ≤ it) (h2 : ∀ x c, X.env.cells.lookup x = some c → c ≠ it) (h3 : ∀ p ∈ X.pn ++ pins, p.1 ≠ it) : Inv X pins σ H { s with heap := h', toks := t' } := by
  have nit : ∀ b u, H b = some u → b ≠ it := fun b u e z => by rw [z, hn] at e; cases e
  refine I.step (g' := s.gens) (d' := s.drawn) (ch := [it]) (fun b hb => ?_) (fun b o _ _ hc e _ => k b o (fun z => hc (by simp [z])) e) (fun b o _ _ hc e _ => ⟨o.slots, k b o (fun z => hc (by simp [z])) e⟩) (fun _ _ _ _ n => n)
    (fun b o hc e => ⟨o, k b o (fun z => hc (by simp [z])) e⟩) (fun _ _ e => e) (fun _ _ _ e => e) (fun b ps e => ⟨#[], by rw [e]; simp⟩) (fun m hm => ?_) (fun b u e => ?_) I.bare
  · have e : b = it := by simpa using hb
    subst e
    exact ⟨h1, hL, h2, h3⟩
  · obtain ⟨o, es, ep, ho, r⟩ := hm
    exact ⟨o, es, ep, k _ o (Ne.symm hL) ho, r⟩
  · refine (I.hok b u e).stay (fun c v hc q => k c v ?_ q) (fun _ q => q) fun _ _ q => q
    rcases hc with z | z
    · rw [z]; exact nit b u e
    · exact nit c _ z
theorem Inv.tok (I : Inv X pins σ H s) (t : Nat) : Inv X pins σ H { s with toks := t } := I.un (h' := s.heap) (t' := t) Un.refl I.hok
/-- all objects kept -/
theorem Inv.kept {t' : Nat} (I : Inv X pins σ H s) (k : ∀ b u, s.heap.get? b = some u → h'.get? b = some u) : Inv X pins σ H { s with heap := h', toks := t' } := I.un (Un.kept k) (I.hok.kept k)
/-- a new object laid and tracked -/
theorem Inv.laid {a : Addr} {o : HO} {t' : Nat} (I : Inv X pins σ H s) (k : ∀ b u, s.heap.get? b = some u → h'.get? b = some u) (hp : s.heap.objs.size ≤ a) (new : ObjOk X.prog X.w (upd H a o) h' a o) :
    Inv X pins σ (upd H a o) { s with heap := h', toks := t' } := I.un (Un.laid k hp (I.hok.fresh hp)) (I.hok.laid k hp new)
/-- an object written -/
theorem Inv.write {x e : Addr} {o : HO} {t' : Nat} (I : Inv X pins σ H s) (mu : Mut (H x)) (he : e = x ∨ H e = some (.own x)) (k : ∀ b u, b ≠ e → s.heap.get? b = some u → h'.get? b = some u) (heo : ∃ u, h'.get? e = some u)
    (new : ObjOk X.prog X.w (upd H x o) h' x o) : Inv X pins σ (upd H x o) { s with heap := h', toks := t' } := I.un (Un.write mu he k heo) (I.hok.write mu he k heo new)
/-- forgetting slots, pins -/
theorem Inv.weak {σ' : List (Option V)} (I : Inv X pins σ H s) (hl : σ'.length = σ.length) (w : ∀ (i : Nat) v, σ'[i]? = some (some v) → σ[i]? = some (some v)) : Inv X pins σ' H s :=
  ⟨I.ok, I.os, I.bare, I.base, let ⟨m, hn, hl'⟩ := I.loc; ⟨m, hn, fun i x v e1 e2 e3 => hl' i x v e1 (w i v e2) e3⟩, I.cell, I.free, I.freeC, I.pin, I.hok, hl.trans I.len⟩
theorem Inv.pins_of {pins' : List (Addr × Obj)} (I : Inv X pins σ H s) (h : ∀ p ∈ pins', s.heap.get? p.1 = some p.2 ∧ H p.1 = none ∧ p.1 ≠ X.env.locals ∧ p.1 ∉ X.fs ∧ ∀ v, p.2.data ≠ .cell v) : Inv X pins' σ H s :=
  ⟨I.ok, I.os, I.bare, I.base, I.loc, I.cell, I.free, I.freeC, fun p hp => (List.mem_append.mp hp).elim (fun z => I.pin p (List.mem_append_left _ z)) (h p), I.hok, I.len⟩

theorem nodup_ix {N : List Str} (hN : N.Nodup) {i j : Nat} {x : Str} (a : N[i]? = some x) (b : N[j]? = some x) : i = j := by
  obtain ⟨h1, e1⟩ := List.getElem?_eq_some_iff.mp a
  obtain ⟨h2, e2⟩ := List.getElem?_eq_some_iff.mp b
  exact (List.getElem_inj hN).mp (e1.trans e2.symm)

/-- a name is stored; what changed -/
theorem store_ok2 {M : Model} {A : Around} {E : Value → Shared → Prop} {i : Nat} {x : Str} {v : V} {u : Value} {Q : Unit → Shared → Prop} (I : Inv X pins σ H s) (hN : X.N.Nodup) (hi : X.N[i]? = some x) (hx : Loc X.env.scope x) (r : RelV v u)
    (h : ∀ s', Inv X pins (σ.set i (some v)) H s' → (∃ a, Heap.SameBut a s.heap s'.heap ∧ (a = X.env.locals ∨ X.env.cells.lookup x = some a)) → Q () s') (hf : X.fn x = true ∨ X.env.scope.names.lookup x = some .local := by first | exact .inl rfl | exact .inr rfl | assumption) : wpAny M A (storeName X.env x u) Q E s := by
  obtain ⟨m, hn, hl⟩ := id I.loc
  have hcls : (X.env.scope.kind == .class || (X.env.scope.kind == .module && X.env.locals != X.env.globals)) = false := by rw [I.ok.kind]; rfl
  have hiσ : i < σ.length := by rw [I.len]; exact (List.getElem?_eq_some_iff.mp hi).1
  have cne := I.cne
  have tracked : ∀ {a : Addr} {h' : Heap}, (∃ o, s.heap.get? a = some o ∧ H a = none) → Heap.SameBut a s.heap h' → HOk X.prog X.w H h' := fun {a h'} ha hs b ob e => by
    obtain ⟨_, _, hfree⟩ := ha
    refine (I.hok b ob e).stay (fun c w' hc q => (hs.2 c ?_).trans q) (fun _ q => q) fun _ _ q => q
    rintro rfl
    rcases hc with rfl | hc
    · rw [hfree] at e; cases e
    · rw [hfree] at hc; cases hc
  rcases hx with hk | hk
  · refine wpAny_storeName_local hk hn (fun h' hn' hs => ?_) hcls
    obtain ⟨oL, _, _, hoL, _⟩ := id hn
    refine h _ ⟨I.ok, I.os, I.bare, ⟨fun b o e n hb hx => ?_, fun b o e n hb hx => ?_, I.base.free, fun b o e hx => ?_, I.base.tups, I.base.frzs, I.base.tbls⟩, ⟨_, hn', fun j y v' e1 e2 e3 => ?_⟩, fun y c e => ?_, I.free, I.freeC, fun p hp => ?_, tracked ⟨oL, hoL, I.free⟩ hs, by simpa using I.len⟩ ⟨_, hs, .inl rfl⟩
    · exact (hs.2 b (Nat.ne_of_lt (Nat.lt_of_lt_of_le (Heap.lt_size e) I.ok.above))).trans (I.base.keep b o e n hb hx)
    · obtain ⟨sl, e1⟩ := I.base.slot b o e n hb hx
      exact ⟨sl, (hs.2 b (Nat.ne_of_lt (Nat.lt_of_lt_of_le (Heap.lt_size e) I.ok.above))).trans e1⟩
    · obtain ⟨o', e1⟩ := I.base.there b o e hx
      exact ⟨o', (hs.2 b (Nat.ne_of_lt (Nat.lt_of_lt_of_le (Heap.lt_size e) I.ok.above))).trans e1⟩
    · by_cases hj : j = i
      · subst hj
        rw [hi] at e1; cases e1
        rw [List.getElem?_set_self hiσ] at e2
        cases e2
        exact ⟨u, r, .inl ⟨hk, by simp⟩⟩
      · rw [List.getElem?_set_ne (Ne.symm hj)] at e2
        obtain ⟨u', r', q⟩ := hl j y v' e1 e2 e3
        refine ⟨u', r', ?_⟩
        rcases q with ⟨k, e⟩ | ⟨k, c, e, z⟩
        · refine .inl ⟨k, ?_⟩
          have : y ≠ x := fun e => hj (nodup_ix hN e1 (e ▸ hi))
          simp [this, e]
        · exact .inr ⟨k, c, e, z.sameBut hs (cne y c e)⟩
    · obtain ⟨w', z⟩ := I.cell y c e
      exact ⟨w', z.sameBut hs (cne y c e)⟩
    · obtain ⟨e, n, ne, nf, d⟩ := I.pin p hp
      exact ⟨(hs.2 p.1 ne).trans e, n, ne, nf, d⟩
  · have hfn : X.fn x = true := by
      rcases hf with z | z
      · exact z
      · rw [z] at hk; cases hk
    obtain ⟨c, hc⟩ := I.ok.has x (.inl hk)
    obtain ⟨w', z⟩ := I.cell x c hc
    refine wpAny_storeName_cell I.ok.kind hk hc z (fun h' hc' hs => ?_)
    obtain ⟨oc, hoc, hocd⟩ := id z
    refine h { s with heap := h' } ⟨I.ok, I.os, I.bare, ⟨fun b o e n hb hx => ?_, fun b o e n hb hx => ?_, I.base.free, fun b o e hx => ?_, I.base.tups, I.base.frzs, I.base.tbls⟩, ⟨m, hn.sameBut hs (Ne.symm (cne x c hc)), fun j y v' e1 e2 e3 => ?_⟩, fun y c' e => ?_, I.free, I.freeC, fun p hp => ?_, tracked ⟨oc, hoc, I.freeC x c hc⟩ hs, by simpa using I.len⟩ ⟨c, hs, .inr hc⟩
    · exact (hs.2 b (Nat.ne_of_lt (Nat.lt_of_lt_of_le (Heap.lt_size e) (I.ok.cab x c hfn hc)))).trans (I.base.keep b o e n hb hx)
    · obtain ⟨sl, e1⟩ := I.base.slot b o e n hb hx
      exact ⟨sl, (hs.2 b (Nat.ne_of_lt (Nat.lt_of_lt_of_le (Heap.lt_size e) (I.ok.cab x c hfn hc)))).trans e1⟩
    · obtain ⟨o', e1⟩ := I.base.there b o e hx
      exact ⟨o', (hs.2 b (Nat.ne_of_lt (Nat.lt_of_lt_of_le (Heap.lt_size e) (I.ok.cab x c hfn hc)))).trans e1⟩
    · by_cases hj : j = i
      · subst hj
        rw [hi] at e1; cases e1
        rw [List.getElem?_set_self hiσ] at e2
        cases e2
        exact ⟨u, r, .inr ⟨.inl hk, c, hc, hc'⟩⟩
      · rw [List.getElem?_set_ne (Ne.symm hj)] at e2
        obtain ⟨u', r', q⟩ := hl j y v' e1 e2 e3
        refine ⟨u', r', ?_⟩
        rcases q with q | ⟨k, c', e, z'⟩
        · exact .inl q
        · refine .inr ⟨k, c', e, z'.sameBut hs ?_⟩
          rintro rfl
          exact hj (nodup_ix hN e1 (I.ok.inj _ _ _ e hc ▸ hi))
    · by_cases hcc : c' = c
      · subst hcc; exact ⟨_, hc'⟩
      · obtain ⟨w2, z2⟩ := I.cell y c' e
        exact ⟨w2, z2.sameBut hs hcc⟩
    · obtain ⟨e, n, ne, nf, d⟩ := I.pin p hp
      refine ⟨(hs.2 p.1 ?_).trans e, n, ne, nf, d⟩
      intro q
      rw [q, hoc] at e
      have q' : oc = p.2 := Option.some.inj e
      exact d w' (by rw [← q']; exact hocd)
theorem store_ok {M : Model} {A : Around} {E : Value → Shared → Prop} {i : Nat} {x : Str} {v : V} {u : Value} {Q : Unit → Shared → Prop} (I : Inv X pins σ H s) (hN : X.N.Nodup) (hi : X.N[i]? = some x) (hx : Loc X.env.scope x) (r : RelV v u)
    (h : ∀ s', Inv X pins (σ.set i (some v)) H s' → Q () s') (hf : X.fn x = true ∨ X.env.scope.names.lookup x = some .local := by first | exact .inl rfl | exact .inr rfl | assumption) : wpAny M A (storeName X.env x u) Q E s :=
  store_ok2 I hN hi hx r (fun s' I' _ => h s' I') hf
/-- behind a call or a block, the state as it is -/
theorem Inv.call' {s' : Shared} {ch : List Addr} (I : Inv X pins σ H s) (ho : s'.os = s.os) (u : Un (frs X.stack) ch H H' s.heap s'.heap) (hok : HOk X.prog X.w H' s'.heap) (hg : AllBare s'.gens)
    (hch : ∀ b ∈ ch, (b ∈ X.ex ∨ X.s₀.heap.objs.size ≤ b) ∧ b ≠ X.env.locals ∧ (∀ x c, X.env.cells.lookup x = some c → c ≠ b) ∧ ∀ p ∈ X.pn ++ pins, p.1 ≠ b) : Inv X pins σ H' s' := by
  obtain ⟨h', g', d', t', o'⟩ := s'
  have e : o' = s.os := ho
  subst e
  exact I.call (g' := g') (t' := t') (d' := d') u hok hg hch
end

/-! ### the judgements -/
/-- an exception: its class, its own dict's address (where it has one), the abstract heap behind it -/
abbrev XK := Value → Option Addr → Hp → Prop
abbrev St := List (Option V)
abbrev VK := V → Hp → Prop
/-- an expression's reading; a test's; an argument list's -/
abbrev TE := St → Hp → VK → Prop
abbrev TT := St → Hp → (Bool → Hp → Prop) → Prop
abbrev TA := St → Hp → (List V → Hp → Prop) → Prop
/-- what is wanted behind a statement -/
structure Ends where
  nx : St → Hp → Prop
  rt : VK
  bk : St → Hp → Prop := fun _ _ => False
  ct : St → Hp → Prop := fun _ _ => False
abbrev TS := Ends → St → Hp → Prop

def EP (X : Cx) (pins : List (Addr × Obj)) (σ : St) (Q : VK) (u : Value) (s' : Shared) : Prop := ∃ v H', Inv X pins σ H' s' ∧ RelV v u ∧ Q v H'
def TP (X : Cx) (pins : List (Addr × Obj)) (σ : St) (Q : Bool → Hp → Prop) (b : Bool) (s' : Shared) : Prop := ∃ H', Inv X pins σ H' s' ∧ Q b H'
def AP (X : Cx) (pins : List (Addr × Obj)) (σ : St) (Q : List V → Hp → Prop) (us : List Value) (s' : Shared) : Prop := ∃ vs H', Inv X pins σ H' s' ∧ Vals vs us ∧ Q vs H'
def SP (X : Cx) (pins : List (Addr × Obj)) (D : Ends) (f : Flow) (s' : Shared) : Prop :=
  match f with
  | .next => ∃ σ' H', Inv X pins σ' H' s' ∧ D.nx σ' H'
  | .brk => ∃ σ' H', Inv X pins σ' H' s' ∧ D.bk σ' H'
  | .cont => ∃ σ' H', Inv X pins σ' H' s' ∧ D.ct σ' H'
  | .ret u => ∃ v σ' H', Inv X pins σ' H' s' ∧ RelV v u ∧ D.rt v H'

def PE (X : Cx) (e : Expr) (t : TE) : Prop :=
  ∀ (pins : List (Addr × Obj)) (s : Shared) (σ : St) (H : Hp) (Q : VK), Inv X pins σ H s → t σ H Q → wpAny (model X.prog X.w) X.A (eval e X.env) (EP X pins σ Q) X.xe s
def PT (X : Cx) (e : Expr) (t : TT) : Prop :=
  ∀ (pins : List (Addr × Obj)) (s : Shared) (σ : St) (H : Hp) (Q : Bool → Hp → Prop), Inv X pins σ H s → t σ H Q → wpAny (model X.prog X.w) X.A (isTrue e X.env (eval e X.env)) (TP X pins σ Q) X.xe s
/-- a test whatever its 'whole' is (and, or) -/
def PW (X : Cx) (e : Expr) (t : TT) : Prop :=
  ∀ (whole : Sem Value) (pins : List (Addr × Obj)) (s : Shared) (σ : St) (H : Hp) (Q : Bool → Hp → Prop), Inv X pins σ H s → t σ H Q → wpAny (model X.prog X.w) X.A (isTrue e X.env whole) (TP X pins σ Q) X.xe s
theorem PW.pt {X : Cx} {e : Expr} {t : TT} (h : PW X e t) : PT X e t := h _
/-- an argument list (no star), from the left -/
def PA (X : Cx) (es : List Expr) (t : TA) : Prop :=
  ∀ (pos : Pos) (pins : List (Addr × Obj)) (s : Shared) (σ : St) (H : Hp) (Q : List V → Hp → Prop), Inv X pins σ H s → t σ H Q → wpAny (model X.prog X.w) X.A (spliced (backTo pos (starEach es X.env))) (AP X pins σ Q) X.xe s
def PS (X : Cx) (st : Stmt) (t : TS) : Prop :=
  ∀ (pins : List (Addr × Obj)) (s : Shared) (σ : St) (H : Hp) (D : Ends), Inv X pins σ H s → t D σ H → wpAny (model X.prog X.w) X.A (exec st X.env) (SP X pins D) X.xe s
def PSs (X : Cx) (st : List Stmt) (t : TS) : Prop :=
  ∀ (pins : List (Addr × Obj)) (s : Shared) (σ : St) (H : Hp) (D : Ends), Inv X pins σ H s → t D σ H → wpAny (model X.prog X.w) X.A (execs st X.env) (SP X pins D) X.xe s
/-- weaken the end -/
theorem thn {α : Type} {t : Sem α} {Q Q' : α → Shared → Prop} {M : Model} {A : Around} {E : Value → Shared → Prop} {s : Shared} (h : wpAny M A t Q E s) (hQ : ∀ a s, Q a s → Q' a s) : wpAny M A t Q' E s := wpAny_mono h hQ fun _ _ x => x
end L2

namespace L2
open PySem PySem.Spec PyProof.Rows
section
variable {X : Cx}

/-- two expressions in a row -/
theorem bin {a b : Expr} {ta tb : TE} (ha : PE X a ta) (hb : PE X b tb) {pins : List (Addr × Obj)} {s : Shared} {σ : St} {H : Hp} {R : V → V → Hp → Prop} (I : Inv X pins σ H s) (h : ta σ H fun x H1 => tb σ H1 fun y H2 => R x y H2)
    {α : Type} {Q : α → Shared → Prop} {f : Value → Value → Sem α}
    (hf : ∀ v u s2 x y H2, Inv X pins σ H2 s2 → RelV x v → RelV y u → R x y H2 → wpAny (model X.prog X.w) X.A (f v u) Q X.xe s2) :
    wpAny (model X.prog X.w) X.A (eval a X.env) (fun v s₁ => wpAny (model X.prog X.w) X.A (eval b X.env) (fun u s₂ => wpAny (model X.prog X.w) X.A (f v u) Q X.xe s₂) X.xe s₁) X.xe s := by
  refine thn (ha pins s σ H _ I h) fun v s1 ⟨x, H1, I1, r1, q1⟩ => ?_
  refine thn (hb pins s1 σ H1 _ I1 q1) fun u s2 ⟨y, H2, I2, r2, q2⟩ => ?_
  exact hf v u s2 x y H2 I2 r1 r2 q2

/-! ### names and constants -/
def tVar (i : Nat) : TE := fun σ H Q => ∃ v, σ[i]? = some (some v) ∧ Q v H
def tC (v : V) : TE := fun _ H Q => Q v H
theorem pe_var {i : Nat} {x : Str} {pos : Pos} (hN : X.N[i]? = some x) (hv : Vis X.env.scope x) (hd : (x == ("__debug__" : Str)) = false := by decide) (hcd : (x == ("__classdict__" : Str)) = false := by decide) : PE X (.Name x pos) (tVar i) := by
  intro pins s σ H Q I h
  obtain ⟨v, e, h⟩ := h
  obtain ⟨m, hn, hl⟩ := I.loc
  obtain ⟨u, r, l⟩ := hl i x v hN e hv
  have fin : EP X pins σ Q u s := ⟨v, H, I, r, h⟩
  rcases l with ⟨hk, hm⟩ | ⟨hk, c, hc, hcell⟩
  · exact wpAny_Name (wpAny_loadName_local I.ok.kind hk hn hm fin) hd
  · rcases hk with hk | hk
    · exact wpAny_Name (wpAny_loadName_cell I.ok.kind hk hc hcell fin) hd
    · exact wpAny_Name (wpAny_loadName_free I.ok.kind hk hc hcell fin hcd) hd
theorem pe_int {i j pos} : PE X (.Constant (.int i) j pos) (tC (.int i)) := fun _ _ _ H _ I h => wpAny_Constant_int ⟨.int i, H, I.tok _, ⟨_, rfl⟩, h⟩
theorem pe_bl {b j pos} : PE X (.Constant (.bool b) j pos) (tC (.bl b)) := fun _ _ _ H _ I h => Constant_bool ⟨.bl b, H, I, rfl, h⟩
theorem pe_non {j pos} : PE X (.Constant .none j pos) (tC .non) := fun _ _ _ H _ I h => Constant_none ⟨.non, H, I, rfl, h⟩
theorem pe_str {x j pos} : PE X (.Constant (.str x) j pos) (tC (.str x)) := fun _ _ _ H _ I h => Calls.Constant_str ⟨.str x, H, I.tok _, ⟨_, rfl⟩, h⟩

/-- a global name of the def -/
def Gl (X : Cx) (x : Str) : Prop := X.env.kindOf x = some .globalImplicit
theorem ld_glob {E : Value → Shared → Prop} {pins : List (Addr × Obj)} {s : Shared} {σ : St} {H : Hp} {x : Str} {u : Value} {pos : Pos} {Q : Value → Shared → Prop} (I : Inv X pins σ H s) (hg : Gl X x) (hm : X.mg x = some u) (h : Q u s)
    (hd : (x == ("__debug__" : Str)) = false := by decide) : wpAny (model X.prog X.w) X.A (eval (.Name x pos) X.env) Q E s :=
  Calls.Name_function_global I.ok.kind hg (Calls.loadGlobal_global (by rw [I.ok.glob]; exact I.mod.glob.keeps I.bk) hm h) hd
theorem ld_blt {E : Value → Shared → Prop} {pins : List (Addr × Obj)} {s : Shared} {σ : St} {H : Hp} {x : Str} {u : Value} {pos : Pos} {Q : Value → Shared → Prop} (I : Inv X pins σ H s) (hg : Gl X x) (hm : X.mg x = none) (hv : bootBuiltins x = some u) (h : Q u s)
    (hn : x ≠ "__name__" := by decide) (hd : (x == ("__debug__" : Str)) = false := by decide) : wpAny (model X.prog X.w) X.A (eval (.Name x pos) X.env) Q E s := by
  obtain ⟨mb, h1, h2⟩ := I.mod.blt
  exact Calls.Name_function_global I.ok.kind hg (Calls.loadGlobal_builtin (by rw [I.ok.glob]; exact I.mod.glob.keeps I.bk) hm (by rw [I.ok.blt]; exact h1.keeps I.bk) ((h2 x hn).trans hv) h) hd
/-- a module's constant, a class, a function, as a value -/
theorem pe_glob {x : Str} {v : V} {u : Value} {pos : Pos} (hg : Gl X x) (hm : X.mg x = some u) (r : RelV v u) (hd : (x == ("__debug__" : Str)) = false := by decide) : PE X (.Name x pos) (tC v) :=
  fun _ _ _ H _ I h => ld_glob I hg hm ⟨v, H, I, r, h⟩ hd
theorem pe_bltn {x : Str} {v : V} {u : Value} {pos : Pos} (hg : Gl X x) (hm : X.mg x = none) (hv : bootBuiltins x = some u) (r : RelV v u) (hn : x ≠ "__name__" := by decide) (hd : (x == ("__debug__" : Str)) = false := by decide) : PE X (.Name x pos) (tC v) :=
  fun _ _ _ H _ I h => ld_blt I hg hm hv ⟨v, H, I, r, h⟩ hn hd

/-! ### arithmetic -/
/-- two ints -/
def t2I (ta tb : TE) (k : Int → Int → Hp → Prop) : St → Hp → Prop := fun σ H => ta σ H fun x H1 => tb σ H1 fun y H2 => ∃ i j, x = .int i ∧ y = .int j ∧ k i j H2
def tAdd (ta tb : TE) : TE := fun σ H Q => t2I ta tb (fun i j H2 => Q (.int (i + j)) H2) σ H
def tSub (ta tb : TE) : TE := fun σ H Q => t2I ta tb (fun i j H2 => Q (.int (i - j)) H2) σ H
/-- the left factor below 2^64 -/
def tMul (ta tb : TE) : TE := fun σ H Q => t2I ta tb (fun i j H2 => (-(2 ^ 64) < i ∧ i < 2 ^ 64) ∧ Q (.int (i * j)) H2) σ H
variable {a b : Expr} {ta tb : TE} {pos : Pos}
theorem pe_add (ha : PE X a ta) (hb : PE X b tb) : PE X (.BinOp a .Add b pos) (tAdd ta tb) := by
  intro pins s σ H Q I h
  refine wpAny_BinOp (bin ha hb I h fun v u s2 x y H2 I2 rx ry q => ?_)
  obtain ⟨i, j, rfl, rfl, q⟩ := q
  obtain ⟨t, rfl⟩ := rx
  obtain ⟨t', rfl⟩ := ry
  exact add_int ⟨.int _, H2, I2.tok _, ⟨_, rfl⟩, q⟩
theorem pe_sub (ha : PE X a ta) (hb : PE X b tb) : PE X (.BinOp a .Sub b pos) (tSub ta tb) := by
  intro pins s σ H Q I h
  refine wpAny_BinOp (bin ha hb I h fun v u s2 x y H2 I2 rx ry q => ?_)
  obtain ⟨i, j, rfl, rfl, q⟩ := q
  obtain ⟨t, rfl⟩ := rx
  obtain ⟨t', rfl⟩ := ry
  exact sub_int ⟨.int _, H2, I2.tok _, ⟨_, rfl⟩, q⟩
theorem pe_mul (ha : PE X a ta) (hb : PE X b tb) : PE X (.BinOp a .Mult b pos) (tMul ta tb) := by
  intro pins s σ H Q I h
  refine wpAny_BinOp (bin ha hb I h fun v u s2 x y H2 I2 rx ry q => ?_)
  obtain ⟨i, j, rfl, rfl, ⟨q1, q2⟩, q⟩ := q
  obtain ⟨t, rfl⟩ := rx
  obtain ⟨t', rfl⟩ := ry
  exact mul_int ⟨.int _, H2, I2.tok _, ⟨_, rfl⟩, q⟩ (.of_left (intBits_le_64 q1 q2))

/-! ### comparisons -/
def PC (X : Cx) (op : CmpOp) (a b : Expr) (t : TE) : Prop :=
  ∀ (pins : List (Addr × Obj)) (s : Shared) (σ : St) (H : Hp) (Q : VK), Inv X pins σ H s → t σ H Q →
    wpAny (model X.prog X.w) X.A (eval a X.env) (fun v s₁ => wpAny (model X.prog X.w) X.A (eval b X.env) (fun u s₂ => wpAny (model X.prog X.w) X.A (compareOp op v u) (EP X pins σ Q) X.xe s₂) X.xe s₁) X.xe s
theorem nobehind (b : Expr) {op : CmpOp} (h : op ≠ .In) (h2 : op ≠ .NotIn) : behindInMarks op b = false := by
  have e1 : (op == CmpOp.In) = false := by cases op <;> first | rfl | exact absurd rfl h
  have e2 : (op == CmpOp.NotIn) = false := by cases op <;> first | rfl | exact absurd rfl h2
  cases b <;> simp [behindInMarks, e1, e2]
def tCmp (p : Int → Int → Bool) (ta tb : TE) : TE := fun σ H Q => t2I ta tb (fun i j H2 => Q (.bl (p i j)) H2) σ H
abbrev tLt : TE → TE → TE := tCmp fun i j => decide (i < j)
abbrev tLe : TE → TE → TE := tCmp fun i j => decide (i ≤ j)
abbrev tGt : TE → TE → TE := tCmp fun i j => decide (j < i)
abbrev tGe : TE → TE → TE := tCmp fun i j => decide (j ≤ i)
abbrev tEqI : TE → TE → TE := tCmp fun i j => decide (i = j)
abbrev tNeI : TE → TE → TE := tCmp fun i j => !decide (i = j)
/-- a comparison of two ints, by its rule -/
theorem pc_int {op : CmpOp} {p : Int → Int → Bool} (ha : PE X a ta) (hb : PE X b tb)
    (rule : ∀ (i j : Int) (t u : Tok) (Q : Value → Shared → Prop) (s : Shared), Q (.bool (p i j)) s → wpAny (model X.prog X.w) X.A (compareOp op (.int i t) (.int j u)) Q X.xe s) : PC X op a b (tCmp p ta tb) := by
  intro pins s σ H Q I h
  refine bin ha hb I h fun v u s2 x y H2 I2 rx ry q => ?_
  obtain ⟨i, j, rfl, rfl, q⟩ := q
  obtain ⟨t, rfl⟩ := rx
  obtain ⟨t', rfl⟩ := ry
  exact rule i j t t' _ s2 ⟨.bl _, H2, I2, rfl, q⟩
theorem pc_lt (ha : PE X a ta) (hb : PE X b tb) : PC X .Lt a b (tLt ta tb) := pc_int ha hb fun _ _ _ _ _ _ h => lt_int h
theorem pc_le (ha : PE X a ta) (hb : PE X b tb) : PC X .LtE a b (tLe ta tb) := pc_int ha hb fun _ _ _ _ _ _ h => le_int h
theorem pc_gt (ha : PE X a ta) (hb : PE X b tb) : PC X .Gt a b (tGt ta tb) := pc_int ha hb fun _ _ _ _ _ _ h => gt_int h
theorem pc_ge (ha : PE X a ta) (hb : PE X b tb) : PC X .GtE a b (tGe ta tb) := pc_int ha hb fun _ _ _ _ _ _ h => ge_int h
theorem pc_eqI (ha : PE X a ta) (hb : PE X b tb) : PC X .Eq a b (tEqI ta tb) := pc_int ha hb fun _ _ _ _ _ _ h => eq_int (by rw [Bool.beq_eq_decide_eq]; exact h)
theorem pc_neI (ha : PE X a ta) (hb : PE X b tb) : PC X .NotEq a b (tNeI ta tb) := pc_int ha hb fun _ _ _ _ _ _ h => ne_int (by rw [bne, Bool.beq_eq_decide_eq]; exact h)
/-- is None -/
def tIsN (ta : TE) : TE := fun σ H Q => ta σ H fun x H1 => Q (.bl (decide (x = .non))) H1
def tNotN (ta : TE) : TE := fun σ H Q => ta σ H fun x H1 => Q (.bl (!decide (x = .non))) H1
theorem RelV.none_iff {x : V} {v : Value} (r : RelV x v) : (v == Value.none) = decide (x = .non) := by
  cases x with
  | non => cases r; rfl
  | bl _ => cases r; rfl
  | int _ => obtain ⟨t, rfl⟩ := r; rfl
  | str _ => obtain ⟨t, rfl⟩ := r; rfl
  | byt _ => obtain ⟨t, rfl⟩ := r; rfl
  | flt _ => obtain ⟨t, rfl⟩ := r; rfl
  | ref _ => cases r; rfl
  | ty _ => cases r; rfl
theorem pc_isN {j pos'} (ha : PE X a ta) : PC X .Is a (.Constant .none j pos') (tIsN ta) := by
  intro pins s σ H Q I h
  refine thn (ha pins s σ H _ I h) fun v s1 ⟨x, H1, I1, r1, q1⟩ => ?_
  exact Constant_none (is_none_gen ⟨.bl _, H1, I1, by rw [r1.none_iff]; rfl, q1⟩)
theorem pc_notN {j pos'} (ha : PE X a ta) : PC X .IsNot a (.Constant .none j pos') (tNotN ta) := by
  intro pins s σ H Q I h
  refine thn (ha pins s σ H _ I h) fun v s1 ⟨x, H1, I1, r1, q1⟩ => ?_
  exact Constant_none (isnot_none_gen ⟨.bl _, H1, I1, by rw [r1.none_iff]; rfl, q1⟩)
/-- a comparison as a value, as a test -/
def tB (t : TE) : TT := fun σ H Q => t σ H fun x H1 => ∃ c, x = .bl c ∧ Q c H1
theorem pe_cmp {op : CmpOp} {t : TE} (h : PC X op a b t) (h1 : behindInMarks op b = false := by first | exact nobehind _ (by decide) (by decide) | rfl) : PE X (.Compare a [op] [b] pos) t := fun pins s σ H Q I hw => wpAny_Compare1 (h pins s σ H Q I hw) h1
theorem pt_cmp {op : CmpOp} {t : TE} (h : PC X op a b t) (h1 : behindInMarks op b = false := by first | exact nobehind _ (by decide) (by decide) | rfl) : PT X (.Compare a [op] [b] pos) (tB t) := by
  intro pins s σ H Q I hw
  refine wpAny_isTrue_Compare1 (thn (h pins s σ H _ I hw) fun v s1 h1 => thn h1 fun u s2 h2 => thn h2 fun c s3 ⟨x, H1, I1, r1, q1⟩ => ?_) h1
  obtain ⟨d, rfl, q⟩ := q1
  cases r1
  exact wpAny_truthy_bool ⟨H1, I1, q⟩
/-- an expression whose value is a bool, as a test -/
theorem pt_val {e : Expr} {t : TE} (h : PE X e t) (he : ∀ whole, isTrue e X.env whole = (do let v ← whole; standAt e.pos; holding [v] (truthy v)) := by intro _; rfl) : PT X e (tB t) := by
  intro pins s σ H Q I hw
  refine isTrue_plain (thn (h pins s σ H _ I hw) fun v s1 ⟨x, H1, I1, r1, q1⟩ => ?_) (he _)
  obtain ⟨d, rfl, q⟩ := q1
  cases r1
  exact wpAny_truthy_bool ⟨H1, I1, q⟩

/-! ### and, or, not -/
variable {tA tB' : TT} {rest : List Expr}
def tAnd (t u : TT) : TT := fun σ H Q => t σ H fun c H1 => if c = true then u σ H1 Q else Q false H1
def tOr (t u : TT) : TT := fun σ H Q => t σ H fun c H1 => if c = true then Q true H1 else u σ H1 Q
def tNot (t : TT) : TT := fun σ H Q => t σ H fun c H1 => Q (!c) H1
theorem pw_and1 (ha : PT X a tA) : PW X (.BoolOp .And [a] pos) tA := by
  intro wh pins s σ H Q I h
  refine isTrue_and (thn (ha pins s σ H Q I h) fun c s1 e => ?_)
  cases c with
  | true => exact isTrue_and_nil e
  | false => exact e
theorem pw_or1 (ha : PT X a tA) : PW X (.BoolOp .Or [a] pos) tA := by
  intro wh pins s σ H Q I h
  refine isTrue_or (thn (ha pins s σ H Q I h) fun c s1 e => ?_)
  cases c with
  | false => exact isTrue_or_nil e
  | true => exact e
theorem pw_and (ha : PT X a tA) (hb : PW X (.BoolOp .And (b :: rest) pos) tB') : PW X (.BoolOp .And (a :: b :: rest) pos) (tAnd tA tB') := by
  intro wh pins s σ H Q I h
  refine isTrue_and (thn (ha pins s σ H _ I h) fun c s1 ⟨H1, I1, q1⟩ => ?_)
  cases c with
  | true => exact hb wh pins s1 σ H1 Q I1 q1
  | false => exact ⟨H1, I1, q1⟩
theorem pw_or (ha : PT X a tA) (hb : PW X (.BoolOp .Or (b :: rest) pos) tB') : PW X (.BoolOp .Or (a :: b :: rest) pos) (tOr tA tB') := by
  intro wh pins s σ H Q I h
  refine isTrue_or (thn (ha pins s σ H _ I h) fun c s1 ⟨H1, I1, q1⟩ => ?_)
  cases c with
  | true => exact ⟨H1, I1, q1⟩
  | false => exact hb wh pins s1 σ H1 Q I1 q1
theorem pt_not (ha : PT X a tA) : PT X (.UnaryOp .Not a pos) (tNot tA) := by
  intro pins s σ H Q I h
  exact isTrue_not (ha pins s σ H (fun c H1 => Q (!c) H1) I h)
/-- .. as values (bools) -/
def tAndV (ta tb : TE) : TE := fun σ H Q => ta σ H fun x H1 => ∃ c, x = .bl c ∧ if c = true then tb σ H1 Q else Q (.bl false) H1
def tOrV (ta tb : TE) : TE := fun σ H Q => ta σ H fun x H1 => ∃ c, x = .bl c ∧ if c = true then Q (.bl true) H1 else tb σ H1 Q
def tNotV (ta : TE) : TE := fun σ H Q => ta σ H fun x H1 => ∃ c, x = .bl c ∧ Q (.bl (!c)) H1
theorem pe_one {op} {t : TE} (h : PE X a t) : PE X (.BoolOp op [a] pos) t := fun pins s σ H Q I hw => BoolOp_one (h pins s σ H Q I hw)
theorem pe_and (ha : PE X a ta) (hb : PE X (.BoolOp .And (b :: rest) pos) tb) : PE X (.BoolOp .And (a :: b :: rest) pos) (tAndV ta tb) := by
  intro pins s σ H Q I h
  refine BoolOp_and (thn (ha pins s σ H _ I h) fun v s1 ⟨x, H1, I1, r1, q1⟩ => ?_)
  obtain ⟨c, rfl, q1⟩ := q1
  cases r1
  refine wpAny_truthy_bool ?_
  cases c with
  | true => exact hb pins s1 σ H1 Q I1 q1
  | false => exact ⟨.bl false, H1, I1, rfl, q1⟩
theorem pe_or (ha : PE X a ta) (hb : PE X (.BoolOp .Or (b :: rest) pos) tb) : PE X (.BoolOp .Or (a :: b :: rest) pos) (tOrV ta tb) := by
  intro pins s σ H Q I h
  refine BoolOp_or (thn (ha pins s σ H _ I h) fun v s1 ⟨x, H1, I1, r1, q1⟩ => ?_)
  obtain ⟨c, rfl, q1⟩ := q1
  cases r1
  refine wpAny_truthy_bool ?_
  cases c with
  | false => exact hb pins s1 σ H1 Q I1 q1
  | true => exact ⟨.bl true, H1, I1, rfl, q1⟩
theorem pe_not (ha : PE X a ta) : PE X (.UnaryOp .Not a pos) (tNotV ta) := by
  intro pins s σ H Q I h
  refine UnaryOp_ (thn (ha pins s σ H _ I h) fun v s1 ⟨x, H1, I1, r1, q1⟩ => ?_)
  obtain ⟨c, rfl, q1⟩ := q1
  cases r1
  exact not_of (wpAny_truthy_bool ⟨.bl (!c), H1, I1, rfl, q1⟩)
/-- a if t else b -/
def tIf (t : TT) (ta tb : TE) : TE := fun σ H Q => t σ H fun c H1 => if c = true then ta σ H1 Q else tb σ H1 Q
theorem pe_ifExp {c : Expr} (hc : PT X c tA) (ha : PE X a ta) (hb : PE X b tb) : PE X (.IfExp c a b pos) (tIf tA ta tb) := by
  intro pins s σ H Q I h
  refine wpAny_IfExp (thn (hc pins s σ H _ I h) fun d s1 ⟨H1, I1, q1⟩ => ?_)
  cases d with
  | true => exact ha pins s1 σ H1 Q I1 q1
  | false => exact hb pins s1 σ H1 Q I1 q1
end
end L2

namespace L2
open PySem PySem.Spec PyProof.Rows

/-! ### a list, a tuple that is read: tracked, frozen, or an object of the module -/
def SqL (K : PySem.W.Frag) (H : Hp) (a : Addr) (xs : List V) : Prop :=
  Rd H a (.lst xs) ∨
    ∃ (o : Obj) (its : Array Value) (n : Nat), K.lookup a = some o ∧ o.cls = .type "list" ∧ o.dict = none ∧ o.data = .seq its n ∧ its.size ≤ sizeLine ∧ Vals xs its.toList
def SqT (K : PySem.W.Frag) (H : Hp) (a : Addr) (xs : List V) : Prop :=
  Rd H a (.tup xs) ∨
    ∃ (o : Obj) (its : Array Value) (n : Nat), K.lookup a = some o ∧ o.cls = .type "tuple" ∧ o.data = .seq its n ∧ its.size ≤ sizeLine ∧ Vals xs its.toList
def absV : Value → Option V
  | .none => some .non
  | .bool b => some (.bl b)
  | .int i _ => some (.int i)
  | .str x _ => some (.str x)
  | .bytes b _ => some (.byt b)
  | .float b _ => some (.flt b)
  | .ref a => some (.ref a)
  | .type n => some (.ty n)
  | _ => none
theorem RelV.abs {x : V} {u : Value} (r : RelV x u) : absV u = some x := by
  cases x with
  | non => cases r; rfl
  | bl _ => cases r; rfl
  | int _ => obtain ⟨t, rfl⟩ := r; rfl
  | str _ => obtain ⟨t, rfl⟩ := r; rfl
  | byt _ => obtain ⟨t, rfl⟩ := r; rfl
  | flt _ => obtain ⟨t, rfl⟩ := r; rfl
  | ref _ => cases r; rfl
  | ty _ => cases r; rfl
theorem RelV.inj {x y : V} {u : Value} (r : RelV x u) (q : RelV y u) : x = y := Option.some.inj (r.abs.symm.trans q.abs)
theorem Vals.inj : ∀ {xs ys : List V} {us : List Value}, Vals xs us → Vals ys us → xs = ys
  | _, _, _, .nil, .nil => rfl
  | _, _, _, .cons r t, .cons r' t' => by rw [r.inj r', Vals.inj t t']
section
variable {X : Cx} {pins : List (Addr × Obj)} {σ : St} {H : Hp} {s : Shared} {a : Addr} {xs ys : List V}
theorem SqL.of {K : PySem.W.Frag} (h : H a = some (.lst xs)) : SqL K H a xs := .inl (.inl h)
theorem SqT.of {K : PySem.W.Frag} (h : H a = some (.tup xs)) : SqT K H a xs := .inl (.inl h)
theorem Inv.list (I : Inv X pins σ H s) (h : SqL X.K H a xs) : ∃ its : List Value, Vals xs its ∧ PlainL s.heap a its.toArray ∧ xs.length ≤ sizeLine := by
  rcases h with h | ⟨o, its, n, hk, hc, hd, hs, hz, r⟩
  · obtain ⟨z, its, n, r, e⟩ := h.ok I.hok
    exact ⟨its, r, ⟨_, n, e, rfl, rfl, rfl⟩, z⟩
  · refine ⟨its.toList, r, ⟨o, n, I.kIn a o hk, hc, hd, by simpa using hs⟩, ?_⟩
    have e := r.length
    simp only [Array.length_toList] at e
    omega
theorem Inv.tuple (I : Inv X pins σ H s) (h : SqT X.K H a xs) : ∃ its : List Value, Vals xs its ∧ IsTup s.heap a its.toArray ∧ xs.length ≤ sizeLine := by
  rcases h with h | ⟨o, its, n, hk, hc, hs, hz, r⟩
  · obtain ⟨z, its, r, p⟩ := h.ok I.hok
    exact ⟨its, r, p, z⟩
  · refine ⟨its.toList, r, ⟨o, I.kIn a o hk, hc, n, by simpa using hs⟩, ?_⟩
    have e := r.length
    simp only [Array.length_toList] at e
    omega
theorem Inv.list_inj (I : Inv X pins σ H s) (h : SqL X.K H a xs) (h' : SqL X.K H a ys) : xs = ys := by
  obtain ⟨its, r, ⟨o, n, e, _, _, d⟩, _⟩ := I.list h
  obtain ⟨its', r', ⟨o', n', e', _, _, d'⟩, _⟩ := I.list h'
  rw [e] at e'; cases e'
  rw [d] at d'
  injection d' with d1 _
  have : its = its' := by simpa using congrArg Array.toList d1
  subst this
  exact r.inj r'
theorem Inv.tuple_inj (I : Inv X pins σ H s) (h : SqT X.K H a xs) (h' : SqT X.K H a ys) : xs = ys := by
  obtain ⟨its, r, ⟨o, e, _, n, d⟩, _⟩ := I.tuple h
  obtain ⟨its', r', ⟨o', e', _, n', d'⟩, _⟩ := I.tuple h'
  rw [e] at e'; cases e'
  rw [d] at d'
  injection d' with d1 _
  have : its = its' := by simpa using congrArg Array.toList d1
  subst this
  exact r.inj r'
end

/-! ### another wish about exceptions -/
abbrev Cx.wish (X : Cx) (E : Value → Shared → Prop) : Cx := { X with xe := E }
/-- no exception leaves -/
abbrev Cx.nox (X : Cx) : Cx := X.wish fun _ _ => False
theorem Cx.Ok.wish {X : Cx} (ok : X.Ok) (E : Value → Shared → Prop) : (X.wish E).Ok :=
  ⟨ok.mod, ok.kind, ok.glob, ok.blt, ok.above, ok.inj, ok.has, ok.cab, ok.hd, ok.frames, ok.stk, ok.exf, ok.bs, ok.bsz, ok.noex, ok.exfs, ok.funs, ok.frf⟩
theorem Cx.Ok.unwish {X : Cx} {E : Value → Shared → Prop} (ok : (X.wish E).Ok) : X.Ok :=
  ⟨ok.mod, ok.kind, ok.glob, ok.blt, ok.above, ok.inj, ok.has, ok.cab, ok.hd, ok.frames, ok.stk, ok.exf, ok.bs, ok.bsz, ok.noex, ok.exfs, ok.funs, ok.frf⟩
section
variable {X : Cx} {pins : List (Addr × Obj)} {σ : St} {H : Hp} {s : Shared} {E : Value → Shared → Prop}
theorem Inv.wish (I : Inv X pins σ H s) (E : Value → Shared → Prop) : Inv (X.wish E) pins σ H s := ⟨I.ok.wish E, I.os, I.bare, I.base, I.loc, I.cell, I.free, I.freeC, I.pin, I.hok, I.len⟩
theorem Inv.unwish (I : Inv (X.wish E) pins σ H s) : Inv X pins σ H s := ⟨I.ok.unwish, I.os, I.bare, I.base, I.loc, I.cell, I.free, I.freeC, I.pin, I.hok, I.len⟩
theorem SP.unwish {D : Ends} {f : Flow} {s' : Shared} (h : SP (X.wish E) pins D f s') : SP X pins D f s' := by
  cases f with
  | next => obtain ⟨σ', H', I, q⟩ := h; exact ⟨σ', H', I.unwish, q⟩
  | brk => obtain ⟨σ', H', I, q⟩ := h; exact ⟨σ', H', I.unwish, q⟩
  | cont => obtain ⟨σ', H', I, q⟩ := h; exact ⟨σ', H', I.unwish, q⟩
  | ret u => obtain ⟨v, σ', H', I, r, q⟩ := h; exact ⟨v, σ', H', I.unwish, r, q⟩
theorem PE.nox {e : Expr} {t : TE} (h : PE X.nox e t) : PE X e t := fun pins s σ H Q I hw =>
  wpAny_mono (h pins s σ H Q (I.wish _) hw) (fun _ _ ⟨v, H', I', r, q⟩ => ⟨v, H', I'.unwish, r, q⟩) fun _ _ z => False.elim z
theorem PT.nox {e : Expr} {t : TT} (h : PT X.nox e t) : PT X e t := fun pins s σ H Q I hw =>
  wpAny_mono (h pins s σ H Q (I.wish _) hw) (fun _ _ ⟨H', I', q⟩ => ⟨H', I'.unwish, q⟩) fun _ _ z => False.elim z
theorem PSs.nox {st : List Stmt} {t : TS} (h : PSs X.nox st t) : PSs X st t := fun pins s σ H D I hw =>
  wpAny_mono (h pins s σ H D (I.wish _) hw) (fun _ _ q => q.unwish) fun _ _ z => False.elim z
end

/-! ### blocks and small statements -/
section
variable {X : Cx} {st : Stmt} {rest : List Stmt} {t u : TS} {e : Expr} {te : TE} {pos : Pos}
def tNext : TS := fun D σ H => D.nx σ H
def tSeq (t u : TS) : TS := fun D σ H => t { D with nx := u D } σ H
theorem pss_nil : PSs X [] tNext := fun _ _ σ H _ I h => wpAny_execs_nil ⟨σ, H, I, h⟩
theorem pss_cons (h1 : PS X st t) (h2 : PSs X rest u) : PSs X (st :: rest) (tSeq t u) := by
  intro pins s σ H D I h
  refine wpAny_execs_cons (thn (h1 pins s σ H { D with nx := u D } I h) fun f s1 q => ?_)
  cases f with
  | next =>
    obtain ⟨σ', H', I', q⟩ := q
    exact h2 pins s1 σ' H' D I' q
  | ret v => exact q
  | brk => exact q
  | cont => exact q
theorem pss_one (h1 : PS X st t) : PSs X [st] t := by
  intro pins s σ H D I h
  refine wpAny_execs_cons (thn (h1 pins s σ H D I h) fun f s1 q => ?_)
  cases f with
  | next => exact wpAny_execs_nil q
  | ret v => exact q
  | brk => exact q
  | cont => exact q
def tBreak : TS := fun D σ H => D.bk σ H
def tCont : TS := fun D σ H => D.ct σ H
theorem ps_pass : PS X (.Pass pos) tNext := fun _ _ σ H _ I h => wpAny_Pass ⟨σ, H, I, h⟩
theorem ps_break : PS X (.Break pos) tBreak := fun _ _ σ H _ I h => wpAny_Break ⟨σ, H, I, h⟩
theorem ps_continue : PS X (.Continue pos) tCont := fun _ _ σ H _ I h => wpAny_Continue ⟨σ, H, I, h⟩
/-- in a def's body nothing is shown -/
theorem Inv.quiet {pins : List (Addr × Obj)} {σ : St} {H : Hp} {s : Shared} (I : Inv X pins σ H s) : interactive X.env = false := by simp [interactive, I.ok.kind]
/-- a docstring -/
theorem ps_doc {x j pos pos'} : PS X (.Expr (.Constant (.str x) j pos) pos') tNext := fun _ s σ H _ I h => wpAny_Expr (Calls.Constant_str (show SP X _ _ .next { s with toks := s.toks + 1 } from ⟨σ, H, I.tok _, h⟩)) I.quiet
/-- an expression whose value is dropped -/
def tDrop (te : TE) : TS := fun D σ H => te σ H fun _ H1 => D.nx σ H1
theorem ps_expr (he : PE X e te) (hs : swapsWith e none pos.line X.env = pure false := by rfl) : PS X (.Expr e pos) (tDrop te) := by
  intro pins s σ H D I h
  exact wpAny_Expr_any (thn (he pins s σ H _ I h) fun v s1 ⟨x, H1, I1, r1, q1⟩ => ⟨σ, H1, I1, q1⟩) I.quiet hs
def tRet (te : TE) : TS := fun D σ H => te σ H D.rt
theorem ps_ret (he : PE X e te) : PS X (.Return (some e) pos) (tRet te) := by
  intro pins s σ H D I h
  exact wpAny_Return_some (thn (he pins s σ H _ I h) fun v s1 ⟨x, H1, I1, r1, q1⟩ => ⟨x, σ, H1, I1, r1, q1⟩)
def tRetN : TS := fun D _ H => D.rt .non H
theorem ps_retN : PS X (.Return none pos) tRetN := fun _ _ σ H _ I h => wpAny_Return_none ⟨.non, σ, H, I, rfl, h⟩
def tIfS (c : TT) (t u : TS) : TS := fun D σ H => c σ H fun b H1 => if b = true then t D σ H1 else u D σ H1
theorem ps_if {c : Expr} {a b : List Stmt} {tc : TT} (hc : PT X c tc) (ha : PSs X a t) (hb : PSs X b u) : PS X (.If c a b pos) (tIfS tc t u) := by
  intro pins s σ H D I h
  refine wpAny_If (thn (hc pins s σ H _ I h) fun d s1 ⟨H1, I1, q1⟩ => ?_)
  cases d with
  | true => exact ha pins s1 σ H1 D I1 q1
  | false => exact hb pins s1 σ H1 D I1 q1
/-- code that the proof never comes to -/
def tNever : TS := fun _ _ _ => False
theorem ps_never : PS X st tNever := fun _ _ _ _ _ _ h => h.elim
theorem pss_never {sts : List Stmt} : PSs X sts tNever := fun _ _ _ _ _ _ h => h.elim
end

/-! ### targets -/
abbrev TG := V → St → Hp → (St → Hp → Prop) → Prop
abbrev TGs := List V → St → Hp → (St → Hp → Prop) → Prop
def PG (X : Cx) (target : Expr) (t : TG) : Prop :=
  ∀ (pins : List (Addr × Obj)) (s : Shared) (σ : St) (H : Hp) (v : V) (u : Value) (Q : St → Hp → Prop), Inv X pins σ H s → RelV v u → t v σ H Q →
    wpAny (model X.prog X.w) X.A (assign target X.env u) (fun _ s' => ∃ σ' H', Inv X pins σ' H' s' ∧ Q σ' H') X.xe s
/-- several targets, one after another -/
def PGs (X : Cx) (ts : List Expr) (t : TGs) : Prop :=
  ∀ (pins : List (Addr × Obj)) (s : Shared) (σ : St) (H : Hp) (vs : List V) (us : List Value) (Q : St → Hp → Prop), Inv X pins σ H s → Vals vs us → t vs σ H Q →
    wpAny (model X.prog X.w) X.A (assignInOrder ((assignEach ts X.env).map (·.2)) us) (fun _ s' => ∃ σ' H', Inv X pins σ' H' s' ∧ Q σ' H') X.xe s
/-- o[i] = v, by values -/
abbrev TSet := V → V → V → Hp → (Hp → Prop) → Prop
def PSet (X : Cx) (t : TSet) : Prop :=
  ∀ (pins : List (Addr × Obj)) (s : Shared) (σ : St) (H : Hp) (o i v : V) (ov iv u : Value) (Q : Hp → Prop), Inv X pins σ H s → RelV o ov → RelV i iv → RelV v u → t o i v H Q →
    wpAny (model X.prog X.w) X.A (setItem ov iv u) (fun _ s' => ∃ H', Inv X pins σ H' s' ∧ Q H') X.xe s
/-- a op= b, by values -/
abbrev TIp := V → V → Hp → VK → Prop
def PIp (X : Cx) (op : Operator) (t : TIp) : Prop :=
  ∀ (pins : List (Addr × Obj)) (s : Shared) (σ : St) (H : Hp) (x y : V) (v u : Value) (Q : VK), Inv X pins σ H s → RelV x v → RelV y u → t x y H Q →
    wpAny (model X.prog X.w) X.A (inplaceOp op v u) (EP X pins σ Q) X.xe s
section
variable {X : Cx} {pos : Pos}
def gName (i : Nat) : TG := fun v σ H Q => Q (σ.set i (some v)) H
theorem pg_name {i : Nat} {x : Str} (hN : X.N.Nodup) (hi : X.N[i]? = some x) (hx : Loc X.env.scope x) (hf : X.fn x = true ∨ X.env.scope.names.lookup x = some .local := by first | exact .inl rfl | exact .inr rfl | assumption) : PG X (.Name x pos) (gName i) := by
  intro pins s σ H v u Q I r h
  exact wpAny_assign_Name (store_ok I hN hi hx r (fun s' I' => ⟨_, H, I', h⟩) hf)
def gNil : TGs := fun vs σ H Q => vs = [] ∧ Q σ H
def gCons (t : TG) (u : TGs) : TGs := fun vs σ H Q => ∃ v r, vs = v :: r ∧ t v σ H fun σ' H' => u r σ' H' Q
theorem pgs_nil : PGs X [] gNil := by
  intro pins s σ H vs us Q I r h
  obtain ⟨e, h⟩ := h
  subst e
  cases r
  exact assignInOrder_nil ⟨σ, H, I, h⟩
theorem pgs_cons {e : Expr} {es : List Expr} {t : TG} {u : TGs} (h1 : PG X e t) (h2 : PGs X es u)
    (hs : (assignEach (e :: es) X.env).map (·.2) = assign e X.env :: (assignEach es X.env).map (·.2) := by rfl) : PGs X (e :: es) (gCons t u) := by
  intro pins s σ H vs us Q I r h
  obtain ⟨v, vr, e1, h⟩ := h
  subst e1
  cases r with
  | cons r rr =>
    rw [hs]
    refine assignInOrder_cons (thn (h1 pins s σ H _ _ _ I r h) fun _ s1 ⟨σ1, H1, I1, q1⟩ => ?_)
    exact h2 pins s1 σ1 H1 _ _ Q I1 rr q1
/-- (a, b, ..) = a tuple of that length -/
def gTup (K : PySem.W.Frag) (n : Nat) (t : TGs) : TG := fun v σ H Q => ∃ a xs, v = .ref a ∧ SqT K H a xs ∧ xs.length = n ∧ t xs σ H Q
theorem pg_tup {es : List Expr} {k : Nat} {t : TGs} {n : Nat} (hc : X.calm = true) (h : PGs X es t)
    (hn : (assignEach es X.env).length = n := by rfl) (hst : (assignEach es X.env).findIdx? (·.1) = none := by rfl) : PG X (.Tuple es k pos) (gTup X.K n t) := by
  intro pins s σ H v u Q I r hw
  obtain ⟨a, xs, e1, hq, hl, hw⟩ := hw
  subst e1
  cases r
  obtain ⟨its, rv, ht, hz⟩ := I.tuple hq
  refine assign_Tuple_tuple (I.ok.hd hc) ht (by simp [hn, ← hl, rv.length]) hst fun h' hx => ?_
  have I1 : Inv X pins σ H { s with heap := h' } := I.kept (t' := s.toks) fun b o e => hx b o (Nat.ne_of_lt (Heap.lt_size e)) e
  exact h pins _ σ H xs _ Q I1 (by simpa using rv) hw
/-- o[i] = .. -/
def gSub (to ti : TE) (t : TSet) : TG := fun v σ H Q => to σ H fun o H1 => ti σ H1 fun i H2 => t o i v H2 fun H3 => Q σ H3
theorem pg_sub {o i : Expr} {to ti : TE} {t : TSet} (ho : PE X o to) (hi : PE X i ti) (hs : PSet X t)
    (ha : ∀ v, assign (.Subscript o i pos) X.env v = (do
      let ov ← holding [v] (eval o X.env)
      let iv ← holding [v, ov] (eval i X.env)
      standAt pos
      holding [v, ov, iv] (setItem ov iv v)
      release [v, ov, iv] []) := by intro _; rfl) : PG X (.Subscript o i pos) (gSub to ti t) := by
  intro pins s σ H v u Q I r h
  rw [ha]
  refine wpAny_bind (wpAny_holding (thn (ho pins s σ H _ I h) fun ov s1 ⟨x, H1, I1, r1, q1⟩ => ?_))
  refine wpAny_bind (wpAny_holding (thn (hi pins s1 σ H1 _ I1 q1) fun iv s2 ⟨y, H2, I2, r2, q2⟩ => ?_))
  refine wpAny_bind (wpAny_standAt (wpAny_bind (wpAny_holding (thn (hs pins s2 σ H2 x y v ov iv u _ I2 r1 r2 r q2) fun _ s3 ⟨H3, I3, q3⟩ => ?_))))
  exact wpAny_release ⟨σ, H3, I3, q3⟩
/-- target = value -/
def tAsg (te : TE) (g : TG) : TS := fun D σ H => te σ H fun x H1 => g x σ H1 D.nx
theorem ps_asg {tg e : Expr} {te : TE} {g : TG} (he : PE X e te) (hg : PG X tg g) (hs : swapsWithSole [tg] e pos.line X.env = pure false := by rfl) (hw : swappedStores [tg] e X.env = pure none := by rfl)
    (h1 : (assignEach [tg] X.env).map (·.2) = [assign tg X.env] := by rfl) : PS X (.Assign [tg] e pos) (tAsg te g) := by
  intro pins s σ H D I h
  refine wpAny_Assign_stores (thn (he pins s σ H _ I h) fun v s1 ⟨x, H1, I1, r1, q1⟩ => ?_) hs hw
  rw [h1]
  exact thn (hg pins s1 σ H1 x v _ I1 r1 q1) fun _ s2 q => q
/-- name = value -/
theorem ps_set {i : Nat} {x : Str} {e : Expr} {te : TE} {pos' : Pos} (hN : X.N.Nodup) (hi : X.N[i]? = some x) (hx : Loc X.env.scope x) (he : PE X e te) (hs : swapsWith e (some (.Name x pos')) pos.line X.env = pure false := by rfl) (hf : X.fn x = true ∨ X.env.scope.names.lookup x = some .local := by first | exact .inl rfl | exact .inr rfl | assumption) :
    PS X (.Assign [.Name x pos'] e pos) (tAsg te (gName i)) := by
  intro pins s σ H D I h
  refine wpAny_Assign_Name (thn (he pins s σ H _ I h) fun v s1 ⟨y, H1, I1, r1, q1⟩ => ?_) hs
  exact store_ok I1 hN hi hx r1 (fun s2 I2 => ⟨_, H1, I2, q1⟩) hf
/-- a, b = x, y with plain local names: stored from the right; the pair itself is not tracked (the opening rows as in PyProof/Rows/TupAssign.lean:23) -/
def tPar (i j : Nat) (ta : TA) : TS := fun D σ H => ta σ H fun vs H1 => ∃ v w, vs = [v, w] ∧ D.nx ((σ.set i (some v)).set j (some w)) H1
theorem ps_par {i j : Nat} {x y : Str} {a b : Expr} {ta : TA} {px py pt : Pos} {kt k2 pt2} (hc : X.calm = true) (hN : X.N.Nodup) (hi : X.N[i]? = some x) (hj : X.N[j]? = some y) (hij : i ≠ j)
    (hx : X.env.scope.names.lookup x = some .local) (hy : X.env.scope.names.lookup y = some .local) (ha : PA X [a, b] ta)
    (hw : swappedStores [.Tuple [.Name x px, .Name y py] kt pt] (.Tuple [a, b] k2 pt2) X.env = pure (some [x, y]))
    (hs : swapsWithSole [.Tuple [.Name x px, .Name y py] kt pt] (.Tuple [a, b] k2 pt2) pos.line X.env = pure false := by rfl) :
    PS X (.Assign [.Tuple [.Name x px, .Name y py] kt pt] (.Tuple [a, b] k2 pt2) pos) (tPar i j ta) := by
  intro pins s σ H D I h
  rw [exec_Assign_arm]
  refine wpAny_bind (wpAny_standAt ?_)
  rw [hs]
  refine wpAny_bind (wpAny_pure ?_)
  rw [if_neg (by decide)]
  refine wpAny_bind (Tuple_ (thn (ha _ pins s σ H _ I h) fun us s1 ⟨vs, H1, I1, r1, q1⟩ => ?_))
  obtain ⟨v, w, e1, q1⟩ := q1
  subst e1
  obtain ⟨u1, u2, rfl, rv, rw'⟩ : ∃ u1 u2, us = [u1, u2] ∧ RelV v u1 ∧ RelV w u2 := by
    cases r1 with
    | cons p q =>
      cases q with
      | cons p' q' =>
        cases q'
        exact ⟨_, _, rfl, p, p'⟩
  refine wpAny_newObj_type ?_ (by show 2 ≤ sizeLine; decide)
  have I2 : Inv X pins σ H1 { s1 with heap := s1.heap.push { cls := .type "tuple", data := .seq [u1, u2].toArray } } := I1.kept (t' := s1.toks) fun b o e => Heap.get?_push_of_some _ e
  rw [hw]
  refine wpAny_bind (wpAny_pure ?_)
  show wpAny (model X.prog X.w) X.A (do rule "assign.swapped-stores"; let items ← unpackItems (.ref s1.heap.objs.size) 2 none; assignInOrder [fun v => bindName X.env y v, fun v => bindName X.env x v] items.reverse; pure Flow.next) _ _ _
  refine wpAny_bind (wpAny_rule (wpAny_bind (unpackItems_tuple (items := #[u1, u2]) (I.ok.hd hc) (IsTup.new s1.heap _) fun h' hx' => ?_)))
  have I3 := I2.kept (h' := h') (t' := s1.toks) fun b o e => hx' b o (Nat.ne_of_lt (Heap.lt_size e)) e
  show wpAny _ _ (assignInOrder [fun v => bindName X.env y v, fun v => bindName X.env x v] [u2, u1] >>= fun _ => pure Flow.next) _ _ _
  refine wpAny_bind (assignInOrder_cons (wpAny_bindName (store_ok I3 hN hj (.inl hy) rw' (fun s2 I4 => ?_) (.inr hy))))
  refine assignInOrder_cons (wpAny_bindName (store_ok I4 hN hi (.inl hx) rv (fun s3 I5 => assignInOrder_nil (wpAny_pure ?_)) (.inr hx)))
  rw [List.set_comm _ _ (Ne.symm hij)] at I5
  exact ⟨_, H1, I5, q1⟩
/-- name op= e -/
def tAug (i : Nat) (te : TE) (ti : TIp) : TS := fun D σ H => ∃ x, σ[i]? = some (some x) ∧ te σ H fun y H1 => ti x y H1 fun z H2 => D.nx (σ.set i (some z)) H2
theorem ps_aug {i : Nat} {x : Str} {e : Expr} {te : TE} {op : Operator} {ti : TIp} {pos' : Pos} (hN : X.N.Nodup) (hi : X.N[i]? = some x) (hx : Loc X.env.scope x) (he : PE X e te) (ho : PIp X op ti) (hf : X.fn x = true ∨ X.env.scope.names.lookup x = some .local := by first | exact .inl rfl | exact .inr rfl | assumption) :
    PS X (.AugAssign (.Name x pos') op e pos) (tAug i te ti) := by
  intro pins s σ H D I h
  obtain ⟨v, e1, h⟩ := h
  obtain ⟨m, hn, hl⟩ := I.loc
  have vis : Vis X.env.scope x := by rcases hx with k | k; exact .inl k; exact .inr (.inl k)
  obtain ⟨u, r, l⟩ := hl i x v hi e1 vis
  refine wpAny_AugAssign_Name ?_
  have go : wpAny (model X.prog X.w) X.A (eval e X.env) (fun w s₂ => wpAny (model X.prog X.w) X.A (inplaceOp op u w) (fun r s₃ => wpAny (model X.prog X.w) X.A (storeName X.env x r) (fun _ => SP X pins D .next) X.xe s₃) X.xe s₂) X.xe s := by
    refine thn (he pins s σ H _ I h) fun w s1 ⟨y, H1, I1, r1, q1⟩ => ?_
    refine thn (ho pins s1 σ H1 v y u w _ I1 r r1 q1) fun z s2 ⟨zv, H2, I2, r2, q2⟩ => ?_
    exact store_ok I2 hN hi hx r2 (fun s3 I3 => ⟨_, H2, I3, q2⟩) hf
  rcases l with ⟨hk, hm⟩ | ⟨hk, c, hc, hcell⟩
  · exact wpAny_loadName_local I.ok.kind hk hn hm go
  · rcases hk with hk | hk
    · exact wpAny_loadName_cell I.ok.kind hk hc hcell go
    · rcases hx with k | k
      · have : X.env.scope.names.lookup x = some .free := hk
        rw [k] at this; cases this
      · have : X.env.scope.names.lookup x = some .free := hk
        rw [k] at this; cases this
/-- o[i] op= e -/
def tAugS (to ti te : TE) (tget : V → V → Hp → VK → Prop) (tip : TIp) (tset : TSet) : TS := fun D σ H => to σ H fun o H1 => ti σ H1 fun i H2 => tget o i H2 fun x H3 => te σ H3 fun y H4 => tip x y H4 fun z H5 => tset o i z H5 fun H6 => D.nx σ H6
/-- o[i], by values -/
def PGet (X : Cx) (t : V → V → Hp → VK → Prop) : Prop :=
  ∀ (pins : List (Addr × Obj)) (s : Shared) (σ : St) (H : Hp) (o i : V) (ov iv : Value) (Q : VK), Inv X pins σ H s → RelV o ov → RelV i iv → t o i H Q →
    wpAny (model X.prog X.w) X.A (getItem ov iv) (EP X pins σ Q) X.xe s
theorem ps_augS {o i e : Expr} {to ti te : TE} {tget : V → V → Hp → VK → Prop} {tip : TIp} {tset : TSet} {op : Operator} {tpos : Pos} (ho : PE X o to) (hi : PE X i ti) (hg : PGet X tget) (he : PE X e te) (hp : PIp X op tip) (hs : PSet X tset)
    (ha : ∀ ov iv new, augStore i ov iv new = (do holding [new, ov, iv] (setItem ov iv new); release [new, ov, iv] []; pure .next) := by intros; rfl) : PS X (.AugAssign (.Subscript o i tpos) op e pos) (tAugS to ti te tget tip tset) := by
  intro pins s σ H D I h
  refine wpAny_AugAssign_SubscriptAny (thn (ho pins s σ H _ I h) fun ov s1 ⟨x1, H1, I1, r1, q1⟩ => ?_) ha
  refine thn (hi pins s1 σ H1 _ I1 q1) fun iv s2 ⟨x2, H2, I2, r2, q2⟩ => ?_
  refine thn (hg pins s2 σ H2 x1 x2 ov iv _ I2 r1 r2 q2) fun old s3 ⟨x3, H3, I3, r3, q3⟩ => ?_
  refine thn (he pins s3 σ H3 _ I3 q3) fun v s4 ⟨x4, H4, I4, r4, q4⟩ => ?_
  refine thn (hp pins s4 σ H4 x3 x4 old v _ I4 r3 r4 q4) fun new s5 ⟨x5, H5, I5, r5, q5⟩ => ?_
  exact thn (hs pins s5 σ H5 x1 x2 x5 ov iv new _ I5 r1 r2 r5 q5) fun _ s6 ⟨H6, I6, q6⟩ => ⟨σ, H6, I6, q6⟩
/-- ints -/
def ipI (f : Int → Int → Int) : TIp := fun x y H Q => ∃ i j, x = .int i ∧ y = .int j ∧ Q (.int (f i j)) H
theorem ip_add : PIp X .Add (ipI fun i j => i + j) := by
  intro pins s σ H x y v u Q I r1 r2 h
  obtain ⟨i, j, e1, e2, q⟩ := h
  subst e1; subst e2
  obtain ⟨t, rfl⟩ := r1
  obtain ⟨t', rfl⟩ := r2
  exact iadd_int ⟨.int _, H, I.tok _, ⟨_, rfl⟩, q⟩
theorem ip_sub : PIp X .Sub (ipI fun i j => i - j) := by
  intro pins s σ H x y v u Q I r1 r2 h
  obtain ⟨i, j, e1, e2, q⟩ := h
  subst e1; subst e2
  obtain ⟨t, rfl⟩ := r1
  obtain ⟨t', rfl⟩ := r2
  exact isub_int ⟨.int _, H, I.tok _, ⟨_, rfl⟩, q⟩
end

/-! ### while -/
section
variable {X : Cx} {pos : Pos}
/-- the invariant W with its measure -/
def tWhile (c : TT) (tb : TS) : TS := fun D σ H => ∃ W : Nat → St → Hp → Prop, (∃ m, W m σ H) ∧ ∀ m σ H, W m σ H →
  c σ H fun b H1 => if b = true then ∃ N : St → Hp → Prop, (∀ σ' H', N σ' H' → ∃ m', m' < m ∧ W m' σ' H') ∧ tb { D with nx := N, ct := N, bk := D.nx } σ H1 else D.nx σ H1
theorem ps_while {c : Expr} {body : List Stmt} {tc : TT} {tb : TS} (hp : PassesOwn (model X.prog X.w) X.A X.env X.xe) (hc : PT X c tc) (hb : PSs X body tb) : PS X (.While c body [] pos) (tWhile tc tb) := by
  intro pins s σ H D I h
  obtain ⟨W, ⟨m0, w0⟩, turn⟩ := h
  refine wpAny_While (codeAny_whileLoop (fun n s' => ∃ σ' H', Inv X pins σ' H' s' ∧ W n σ' H') ?_ m0 ⟨σ, H, I, w0⟩)
  rintro n s1 ⟨σ1, H1, I1, w1⟩
  refine wpAny_passesOwn hp (thn (hc pins s1 σ1 H1 _ I1 (turn n σ1 H1 w1)) fun b s2 ⟨H2, I2, q2⟩ => ?_)
  cases b with
  | true =>
    obtain ⟨N, hN, q2⟩ := q2
    rw [if_pos rfl]
    refine wpAny_passesOwn hp (thn (hb pins s2 σ1 H2 _ I2 q2) fun f s3 q3 => ?_)
    cases f with
    | next =>
      obtain ⟨σ3, H3, I3, n3⟩ := q3
      obtain ⟨m', hm, w3⟩ := hN σ3 H3 n3
      exact ⟨m', hm, σ3, H3, I3, w3⟩
    | cont =>
      obtain ⟨σ3, H3, I3, n3⟩ := q3
      obtain ⟨m', hm, w3⟩ := hN σ3 H3 n3
      exact ⟨m', hm, σ3, H3, I3, w3⟩
    | brk => exact q3
    | ret v => exact q3
  | false =>
    rw [if_neg Bool.false_ne_true]
    exact wpAny_execs_nil ⟨σ1, H2, I2, q2⟩
end

/-! ### what a loop or a comprehension walks -/
/-- at turn i: it yields x (the heap may grow), or it stops -/
structure It where
  go : Nat → Hp → Prop
  yld : Nat → Hp → V → Hp → Prop
  stop : Nat → Hp → Prop
/-- the iterator's own objects may turn: they are not the frame's, not pinned, younger than the entry (or a comprehension's own) -/
def FpOk (X : Cx) (pins : List (Addr × Obj)) (H : Hp) (b : Addr) : Prop :=
  H b = none ∧ b ≠ X.env.locals ∧ b ∉ X.fs ∧ (b ∈ X.ex ∨ X.s₀.heap.objs.size ≤ b) ∧ (∀ x c, X.env.cells.lookup x = some c → c ≠ b) ∧ ∀ p ∈ X.pn ++ pins, p.1 ≠ b
theorem Inv.fpOk {X : Cx} {pins : List (Addr × Obj)} {σ : St} {H H' : Hp} {s : Shared} {b : Addr} (I : Inv X pins σ H s) (hb : s.heap.objs.size ≤ b) (hn : H' b = none) : FpOk X pins H' b := by
  refine ⟨hn, Nat.ne_of_gt (Nat.lt_of_lt_of_le I.lt hb), I.nofs hb, .inr (Nat.le_trans I.sz hb), fun x c e z => ?_, fun p hp z => ?_⟩
  · obtain ⟨v, q⟩ := I.cell x c e
    exact absurd (Nat.lt_of_lt_of_le q.lt (by rw [z]; exact hb)) (Nat.lt_irrefl _)
  · exact absurd (Nat.lt_of_lt_of_le (Heap.lt_size (I.pin p hp).1) (by rw [z]; exact hb)) (Nat.lt_irrefl _)
structure Turn (P : Program) (w : World) (K : PySem.W.Frag) (tg : Expr) (J : It) (fp : List Addr) (it : Addr) (tn : Nat → Heap → Prop) : Prop where
  mem : it ∈ fp
  obj : ∀ i h, tn i h → ∀ b ∈ fp, ∃ o, h.get? b = some o ∧ ∀ v, o.data ≠ .cell v
  keep : ∀ i h h', tn i h → (∀ b ∈ fp, ∀ o, h.get? b = some o → h'.get? b = some o) → tn i h'
  item : ∀ (X : Cx), X.prog = P → X.w = w → X.K = K → X.calm = true → ∀ (i : Nat) (pins : List (Addr × Obj)) (s : Shared) (σ : St) (H : Hp) (E : Value → Shared → Prop), Inv X pins σ H s → (∀ b ∈ fp, FpOk X pins H b) → tn i s.heap → J.go i H →
    wpAny (model P w) X.A (pyNext (.ref it)) (fun r s1 => ∃ u, r = some u ∧
      wpAny (model P w) X.A (letOwnedTupleGo tg (.ref it) u) (fun _ s2 => ∃ x H', Inv X pins σ H' s2 ∧ RelV x u ∧ J.yld i H x H' ∧ tn (i + 1) s2.heap ∧ ∀ b ∈ fp, H' b = none) E s1) E s
  done : ∀ (X : Cx), X.prog = P → X.w = w → X.K = K → X.calm = true → ∀ (i : Nat) (pins : List (Addr × Obj)) (s : Shared) (σ : St) (H : Hp) (E : Value → Shared → Prop), Inv X pins σ H s → (∀ b ∈ fp, FpOk X pins H b) → tn i s.heap → J.stop i H →
    wpAny (model P w) X.A (pyNext (.ref it)) (fun r s1 => r = none ∧ Inv X pins σ H s1) E s
  self : ∀ (A : Around) (i : Nat) (s : Shared) (Q : Value → Shared → Prop) (E : Value → Shared → Prop), tn i s.heap → Q (.ref it) s → wpAny (model P w) A (pyIter (.ref it)) Q E s
abbrev TI := St → Hp → (It → Hp → Prop) → Prop
/-- an iterator has come -/
def PIE (X : Cx) (pins : List (Addr × Obj)) (σ : St) (tg : Expr) (R : It → Hp → Prop) (itv : Value) (s2 : Shared) : Prop :=
  ∃ (it : Addr) (fp : List Addr) (tn : Nat → Heap → Prop) (J : It) (H' : Hp), itv = .ref it ∧ Inv X pins σ H' s2 ∧ Turn X.prog X.w X.K tg J fp it tn ∧ tn 0 s2.heap ∧ (∀ b ∈ fp, FpOk X pins H' b) ∧ R J H'
def PI (X : Cx) (tg iter : Expr) (wi : TI) : Prop :=
  ∀ (pins : List (Addr × Obj)) (s : Shared) (σ : St) (H : Hp) (R : It → Hp → Prop), Inv X pins σ H s → wi σ H R →
    wpAny (model X.prog X.w) X.A (eval iter X.env) (fun v s1 => wpAny (model X.prog X.w) X.A (pyIter v) (PIE X pins σ tg R) X.xe s1) X.xe s

/-- the step ahead of the store is nothing for an iterator that keeps no tuple -/
theorem go_of {M : Model} {A : Around} {E : Value → Shared → Prop} {s : Shared} {tg : Expr} {it : Addr} {u : Value} {o : Obj} {n : String} {vs : Array Value} {Q : Unit → Shared → Prop} (ho : s.heap.get? it = some o) (hc : o.cls = .type n) (hd : o.data = .fields vs)
    (hn : ["enumerate", "zip", "dict_itemiterator", "dict_reverseitemiterator", "odict_iterator", "itertools.zip_longest", "itertools.pairwise"].contains n = false) (hQ : Q () s) : wpAny M A (letOwnedTupleGo tg (.ref it) u) Q E s := by
  unfold letOwnedTupleGo
  cases tg <;> first
    | exact wpAny_pure hQ
    | (cases u <;> first
        | exact wpAny_pure hQ
        | (refine wpAny_bind (wpAny_load ho ?_)
           rw [hc, hd]
           show wpAny M A (if (["enumerate", "zip", "dict_itemiterator", "dict_reverseitemiterator", "odict_iterator", "itertools.zip_longest", "itertools.pairwise"].contains n && vs[0]? == some (rawInt _)) = true then _ else _) Q E s
           rw [if_neg (by intro h; rw [hn, Bool.false_and] at h; cases h)]
           exact wpAny_pure hQ))

/-- the list at a, as it stands at each turn (a loop may append to it) -/
def Itl (K : PySem.W.Frag) (a : Addr) : It :=
  ⟨fun i H => ∃ xs x, SqL K H a xs ∧ xs[i]? = some x, fun i H x H' => H' = H ∧ ∀ xs, SqL K H a xs → xs[i]? = some x, fun i H => ∃ xs, SqL K H a xs ∧ xs.length ≤ i⟩
def Itt (K : PySem.W.Frag) (a : Addr) : It :=
  ⟨fun i H => ∃ xs x, SqT K H a xs ∧ xs[i]? = some x, fun i H x H' => H' = H ∧ ∀ xs, SqT K H a xs → xs[i]? = some x, fun i H => ∃ xs, SqT K H a xs ∧ xs.length ≤ i⟩
/-- lo, lo + 1, .. (n of them) -/
def Itr (lo : Int) (n : Nat) : It := ⟨fun i _ => i < n, fun i H x H' => H' = H ∧ x = .int (lo + i), fun i _ => n ≤ i⟩
theorem turn_list {P : Program} {w : World} {K : PySem.W.Frag} {tg : Expr} (a it : Addr) : Turn P w K tg (Itl K a) [it] it (fun i h => h.IsListIter it a i) where
  mem := by simp
  obj := fun i h st b hb => by
    have e : b = it := by simpa using hb
    subst e
    obtain ⟨o, e, c, d⟩ := st
    exact ⟨o, e, fun v z => by rw [d] at z; cases z⟩
  keep := fun i h h' st k => st.at fun o e => k it (by simp) o e
  item := by
    intro X hP hw hK hc i pins s σ H E I hf st hg
    subst hP hw hK
    obtain ⟨xs, x, hq, hx⟩ := hg
    obtain ⟨its, rv, p, hz⟩ := I.list hq
    obtain ⟨u, hu, ru⟩ := rv.get hx
    obtain ⟨f0, f1, f2, f3, f4, f5⟩ := hf it (by simp)
    refine wpAny_pyNext_list_item st p.isList (x := u) (by simpa using hu) fun h' st' sb => ?_
    have I1 : Inv X pins σ H { s with heap := h' } := I.turned (t' := s.toks) (fun b o hb e => (sb.2 b hb).trans e) f0 f1 f3 f4 f5
    obtain ⟨o, e, c, d⟩ := id st'
    exact ⟨u, rfl, go_of (s := { s with heap := h' }) e c d (by decide) ⟨x, H, I1, ru, ⟨rfl, fun ys hy => by rw [I.list_inj hy hq]; exact hx⟩, st', fun b hb => (hf b hb).1⟩⟩
  done := by
    intro X hP hw hK hc i pins s σ H E I hf st hg
    subst hP hw hK
    obtain ⟨xs, hq, hx⟩ := hg
    obtain ⟨its, rv, p, hz⟩ := I.list hq
    obtain ⟨f0, f1, f2, f3, f4, f5⟩ := hf it (by simp)
    have hl := rv.length
    exact wpAny_pyNext_list_end (I.ok.hd hc) st p.isList (by simp; omega) fun h' eb => ⟨rfl, I.turned (t' := s.toks) (fun b o hb e => eb b o hb e) f0 f1 f3 f4 f5⟩
  self := fun _ _ _ _ _ st h => wpAny_pyIter_listiter st h
theorem turn_tuple {P : Program} {w : World} {K : PySem.W.Frag} {tg : Expr} (a it : Addr) : Turn P w K tg (Itt K a) [it] it (fun i h => h.IsTupleIter it a i) where
  mem := by simp
  obj := fun i h st b hb => by
    have e : b = it := by simpa using hb
    subst e
    obtain ⟨o, e, c, d⟩ := st
    exact ⟨o, e, fun v z => by rw [d] at z; cases z⟩
  keep := fun i h h' st k => st.at fun o e => k it (by simp) o e
  item := by
    intro X hP hw hK hc i pins s σ H E I hf st hg
    subst hP hw hK
    obtain ⟨xs, x, hq, hx⟩ := hg
    obtain ⟨its, rv, p, hz⟩ := I.tuple hq
    obtain ⟨u, hu, ru⟩ := rv.get hx
    obtain ⟨f0, f1, f2, f3, f4, f5⟩ := hf it (by simp)
    refine wpAny_pyNext_tuple_item st (show s.heap.IsTuple a its.toArray from p) (x := u) (by simpa using hu) fun h' st' sb => ?_
    have I1 : Inv X pins σ H { s with heap := h' } := I.turned (t' := s.toks) (fun b o hb e => (sb.2 b hb).trans e) f0 f1 f3 f4 f5
    obtain ⟨o, e, c, d⟩ := id st'
    exact ⟨u, rfl, go_of (s := { s with heap := h' }) e c d (by decide) ⟨x, H, I1, ru, ⟨rfl, fun ys hy => by rw [I.tuple_inj hy hq]; exact hx⟩, st', fun b hb => (hf b hb).1⟩⟩
  done := by
    intro X hP hw hK hc i pins s σ H E I hf st hg
    subst hP hw hK
    obtain ⟨xs, hq, hx⟩ := hg
    obtain ⟨its, rv, p, hz⟩ := I.tuple hq
    obtain ⟨f0, f1, f2, f3, f4, f5⟩ := hf it (by simp)
    have hl := rv.length
    exact wpAny_pyNext_tuple_end (I.ok.hd hc) st (show s.heap.IsTuple a its.toArray from p) (by simp; omega) fun h' eb => ⟨rfl, I.turned (t' := s.toks) (fun b o hb e => eb b o hb e) f0 f1 f3 f4 f5⟩
  self := fun _ _ _ _ _ st h => wpAny_pyIter_tupleiter st h
theorem turn_range {P : Program} {w : World} {K : PySem.W.Frag} {tg : Expr} (it : Addr) (lo : Int) (n : Nat) : Turn P w K tg (Itr lo n) [it] it (fun i h => IsRangeIter h it (lo + (i : Nat) * 1) ((n : Int) - (i : Nat)) 1) where
  mem := by simp
  obj := fun i h st b hb => by
    have e : b = it := by simpa using hb
    subst e
    exact ⟨_, st, fun v z => by
      have z' : Data.fields _ = Data.cell v := z
      cases z'⟩
  keep := fun i h h' st k => k it (by simp) _ st
  item := by
    intro X hP hw hK hc i pins s σ H E I hf st hg
    subst hP hw hK
    obtain ⟨f0, f1, f2, f3, f4, f5⟩ := hf it (by simp)
    have W := Walks.range (prog := X.prog) (w := X.w) (I.ok.hd hc) it lo 1 n
    refine W.item i s _ _ hg st fun v h' tk hv st' kk => ?_
    obtain ⟨t, rfl⟩ := hv
    have I1 : Inv X pins σ H { s with heap := h', toks := tk } := I.turned (fun b o hb e => kk b o (by simpa using hb) e) f0 f1 f3 f4 f5
    refine ⟨_, rfl, go_of (s := { s with heap := h', toks := tk }) (n := "range_iterator") st' rfl rfl (by decide) ⟨.int (lo + i), H, I1, ⟨t, ?_⟩, ⟨rfl, rfl⟩, st', fun b hb => (hf b hb).1⟩⟩
    rw [Int.mul_one]
  done := by
    intro X hP hw hK hc i pins s σ H E I hf st hg
    subst hP hw hK
    obtain ⟨f0, f1, f2, f3, f4, f5⟩ := hf it (by simp)
    exact wpAny_pyNext_range_end (I.ok.hd hc) st (by have : n ≤ i := hg; omega) fun h' eb => ⟨rfl, I.turned (t' := s.toks) (fun b o hb e => eb b o hb e) f0 f1 f3 f4 f5⟩
  self := fun _ _ _ _ _ st h => wpAny_pyIter_rangeiter st h
end L2

namespace L2
open PySem PySem.Spec PyProof.Rows
section
variable {X : Cx} {tg : Expr}
def iList (K : PySem.W.Frag) (tl : TE) : TI := fun σ H R => tl σ H fun x H1 => ∃ a, x = .ref a ∧ (∃ xs, SqL K H1 a xs) ∧ R (Itl K a) H1
def iTup (K : PySem.W.Frag) (tl : TE) : TI := fun σ H R => tl σ H fun x H1 => ∃ a, x = .ref a ∧ (∃ xs, SqT K H1 a xs) ∧ R (Itt K a) H1
theorem pi_list {l : Expr} {tl : TE} (hl : PE X l tl) : PI X tg l (iList X.K tl) := by
  intro pins s σ H R I h
  refine thn (hl pins s σ H _ I h) fun v s1 ⟨x, H1, I1, r1, q1⟩ => ?_
  obtain ⟨a, e, ⟨xs, hq⟩, q⟩ := q1
  subst e
  cases r1
  obtain ⟨its, rv, p, hz⟩ := I1.list hq
  refine wpAny_pyIter_list p.isList ?_
  refine ⟨s1.heap.objs.size, [s1.heap.objs.size], _, _, H1, rfl, I1.kept (t' := s1.toks) fun b o e => Heap.get?_push_of_some _ e, turn_list a _, ⟨_, Heap.get?_push_size _ rfl, rfl, rfl⟩, fun b hb => ?_, q⟩
  have e : b = s1.heap.objs.size := by simpa using hb
  subst e
  exact I1.fpOk (Nat.le_refl _) (I1.hok.fresh (Nat.le_refl _))
theorem pi_tup {l : Expr} {tl : TE} (hl : PE X l tl) : PI X tg l (iTup X.K tl) := by
  intro pins s σ H R I h
  refine thn (hl pins s σ H _ I h) fun v s1 ⟨x, H1, I1, r1, q1⟩ => ?_
  obtain ⟨a, e, ⟨xs, hq⟩, q⟩ := q1
  subst e
  cases r1
  obtain ⟨its, rv, p, hz⟩ := I1.tuple hq
  refine wpAny_pyIter_tuple (show s1.heap.IsTuple a its.toArray from p) ?_
  refine ⟨s1.heap.objs.size, [s1.heap.objs.size], _, _, H1, rfl, I1.kept (t' := s1.toks) fun b o e => Heap.get?_push_of_some _ e, turn_tuple a _, ⟨_, Heap.get?_push_size _ rfl, rfl, rfl⟩, fun b hb => ?_, q⟩
  have e : b = s1.heap.objs.size := by simpa using hb
  subst e
  exact I1.fpOk (Nat.le_refl _) (I1.hok.fresh (Nat.le_refl _))
/-- a range object just made, walked -/
theorem range_it {pins : List (Addr × Obj)} {σ : St} {H : Hp} {s : Shared} {R : It → Hp → Prop} {E : Value → Shared → Prop} {lo hi : Int} {t u v : Tok} {tk : Nat} (I : Inv X pins σ H s) (h1 : -(2 ^ 62) ≤ lo) (h2 : lo < 2 ^ 62) (h3 : -(2 ^ 62) ≤ hi) (h4 : hi < 2 ^ 62)
    (q : R (Itr lo (hi - lo).toNat) H) : wpAny (model X.prog X.w) X.A (pyIter (.ref s.heap.objs.size)) (PIE X pins σ tg R) E { s with heap := s.heap.push { cls := .type "range", data := .fields #[.int lo t, .int hi u, .int 1 v] }, toks := tk } := by
  refine wpAny_pyIter_range (IsRange.new ..) (small_one h1 h2 h3 h4) ?_
  have I1 : Inv X pins σ H { s with heap := s.heap.push { cls := .type "range", data := .fields #[.int lo t, .int hi u, .int 1 v] }, toks := tk } := I.kept fun b o e => Heap.get?_push_of_some _ e
  refine ⟨(s.heap.push { cls := .type "range", data := .fields #[.int lo t, .int hi u, .int 1 v] }).objs.size, [(s.heap.push { cls := .type "range", data := .fields #[.int lo t, .int hi u, .int 1 v] }).objs.size], _, _, H, rfl,
    I1.kept (t' := tk) fun b o e => Heap.get?_push_of_some _ e, turn_range _ lo (hi - lo).toNat, ?_, fun b hb => ?_, q⟩
  · have e1 : lo + ((0 : Nat) : Int) * 1 = lo := by simp
    have e2 : (((hi - lo).toNat : Nat) : Int) - ((0 : Nat) : Int) = Builtin.Range.rangeSize lo hi 1 := by rw [rangeSize_one]; split <;> omega
    show IsRangeIter _ _ (lo + ((0 : Nat) : Int) * 1) ((((hi - lo).toNat : Nat) : Int) - ((0 : Nat) : Int)) 1
    rw [e1, e2]
    exact Heap.get?_push_size _ rfl
  · have e : b = (s.heap.push { cls := .type "range", data := .fields #[.int lo t, .int hi u, .int 1 v] }).objs.size := by simpa using hb
    subst e
    exact I1.fpOk (Nat.le_refl _) (I1.hok.fresh (Nat.le_refl _))
def iRng1 (ta : TA) : TI := fun σ H R => ta σ H fun vs H1 => ∃ j : Int, vs = [.int j] ∧ -(2 ^ 62) ≤ j ∧ j < 2 ^ 62 ∧ R (Itr 0 j.toNat) H1
def iRng2 (ta : TA) : TI := fun σ H R => ta σ H fun vs H1 => ∃ i j : Int, vs = [.int i, .int j] ∧ (-(2 ^ 62) ≤ i ∧ i < 2 ^ 62 ∧ -(2 ^ 62) ≤ j ∧ j < 2 ^ 62) ∧ R (Itr i (j - i).toNat) H1
theorem pi_range1 {a : Expr} {ta : TA} {p pos : Pos} (hg : Gl X "range") (hm : X.mg "range" = none) (ha : PA X [a] ta) (hs : starEach [a] X.env = [(false, eval a X.env)] := by rfl) : PI X tg (.Call (.Name "range" p) [a] [] pos) (iRng1 ta) := by
  intro pins s σ H R I h
  refine Call_ (ld_blt I hg hm boot_range (PyProof.Rows.callWith_type1 (thn (ha pos pins s σ H _ I h) fun us s1 ⟨vs, H1, I1, r1, q1⟩ => ?_) hs rfl))
  obtain ⟨j, e, q1, q2, q⟩ := q1
  subst e
  cases r1 with
  | cons r rr =>
    cases rr
    obtain ⟨t, rfl⟩ := r
    exact call_range_1 (range_it I1 (by omega) (by omega) q1 q2 (by simpa using q))
theorem pi_range2 {a b : Expr} {ta : TA} {p pos : Pos} (hg : Gl X "range") (hm : X.mg "range" = none) (ha : PA X [a, b] ta) (hs : starEach [a, b] X.env = [(false, eval a X.env), (false, eval b X.env)] := by rfl) (hs2 : starEach [b] X.env = [(false, eval b X.env)] := by rfl) :
    PI X tg (.Call (.Name "range" p) [a, b] [] pos) (iRng2 ta) := by
  intro pins s σ H R I h
  refine Call_ (ld_blt I hg hm boot_range (PyProof.Rows.callWith_type1 (thn (ha pos pins s σ H _ I h) fun us s1 ⟨vs, H1, I1, r1, q1⟩ => ?_) (by rw [hs, hs2]) (by rw [hs2]; rfl)))
  obtain ⟨i, j, e, ⟨q1, q2, q3, q4⟩, q⟩ := q1
  subst e
  cases r1 with
  | cons r rr =>
    cases rr with
    | cons r' rr =>
      cases rr
      obtain ⟨t, rfl⟩ := r
      obtain ⟨t', rfl⟩ := r'
      exact call_range_2 (range_it I1 q1 q2 q3 q4 q)

/-! ### for -/
/-- W: the invariant by the turn and a measure; N: what the body is to reach -/
def tFor (wi : TI) (g : TG) (tb : TS) : TS := fun D σ H => wi σ H fun J H1 => ∃ W : Nat → Nat → St → Hp → Prop, (∃ m, W 0 m σ H1) ∧ ∀ i m σ H, W i m σ H →
  (J.stop i H ∧ D.nx σ H) ∨ (J.go i H ∧ ∃ N : St → Hp → Prop, (∀ σ' H', N σ' H' → ∃ m', m' < m ∧ W (i + 1) m' σ' H') ∧ ∀ x H', J.yld i H x H' → g x σ H' fun σ2 H2 => tb { D with nx := N, ct := N, bk := D.nx } σ2 H2)
/-- the records at fp as they stand -/
def pinsAt (fp : List Addr) (h : Heap) : List (Addr × Obj) := fp.filterMap fun b => (h.get? b).map fun o => (b, o)
theorem mem_pinsAt {fp : List Addr} {h : Heap} {b : Addr} {o : Obj} (hb : b ∈ fp) (e : h.get? b = some o) : (b, o) ∈ pinsAt fp h := List.mem_filterMap.mpr ⟨b, hb, by rw [e]; rfl⟩
theorem of_pinsAt {fp : List Addr} {h : Heap} {p : Addr × Obj} (hp : p ∈ pinsAt fp h) : p.1 ∈ fp ∧ h.get? p.1 = some p.2 := by
  obtain ⟨b, hb, e⟩ := List.mem_filterMap.mp hp
  cases q : h.get? b with
  | none => rw [q] at e; cases e
  | some o =>
    rw [q] at e
    have e' : (b, o) = p := Option.some.inj e
    subst e'
    exact ⟨hb, q⟩
theorem Inv.pinned {pins : List (Addr × Obj)} {σ : St} {H : Hp} {s : Shared} {fp : List Addr} (I : Inv X pins σ H s) (hf : ∀ b ∈ fp, FpOk X pins H b) (ho : ∀ b ∈ fp, ∃ o, s.heap.get? b = some o ∧ ∀ v, o.data ≠ .cell v) : Inv X (pins ++ pinsAt fp s.heap) σ H s :=
  I.pins_of fun p hp => (List.mem_append.mp hp).elim (fun z => I.pin p (List.mem_append_right _ z)) fun z => by
    obtain ⟨hb, e⟩ := of_pinsAt z
    obtain ⟨f0, f1, f2, _⟩ := hf p.1 hb
    obtain ⟨o, e', d⟩ := ho p.1 hb
    rw [e] at e'; cases e'
    exact ⟨e, f0, f1, f2, d⟩
theorem Inv.unpinned {pins pl : List (Addr × Obj)} {σ : St} {H : Hp} {s : Shared} (I : Inv X (pins ++ pl) σ H s) : Inv X pins σ H s := I.pins_of fun p hp => I.pin p (List.mem_append_right _ (List.mem_append_left _ hp))
theorem ps_for {iter : Expr} {body : List Stmt} {wi : TI} {g : TG} {tb : TS} {pos : Pos} (hp : PassesOwn (model X.prog X.w) X.A X.env X.xe) (hc : X.calm = true) (hi : PI X tg iter wi) (hg : PG X tg g) (hb : PSs X body tb)
    (hs : ∀ x, foldedSetIterable iter X.env x = pure x := by intro _; rfl) : PS X (.For tg iter body [] pos) (tFor wi g tb) := by
  intro pins s σ H D I h
  refine wpAny_For (thn (hi pins s σ H _ I h) fun v s1 h1 => thn h1 fun itv s2 h2 => ?_) hs
  obtain ⟨it, fp, tn, J, H2, e, I2, T, st2, f2, W, ⟨m0, w0⟩, turn⟩ := h2
  subst e
  -- what stays true of the iterator's objects through the loop
  have stat : ∀ {H' : Hp}, (∀ b ∈ fp, H' b = none) → ∀ b ∈ fp, FpOk X pins H' b := fun hn b hb => ⟨hn b hb, (f2 b hb).2⟩
  refine codeAny_forLoop_any (fun n s' => ∃ i σ' H', Inv X pins σ' H' s' ∧ tn i s'.heap ∧ (∀ b ∈ fp, H' b = none) ∧ W i n σ' H') ?_ m0 ⟨0, σ, H2, I2, st2, fun b hb => (f2 b hb).1, w0⟩
  rintro n s3 ⟨i, σ3, H3, I3, st3, fr3, w3⟩
  rcases turn i n σ3 H3 w3 with ⟨stop, qn⟩ | ⟨go, N, hN, step⟩
  · refine wpAny_passesOwn hp (thn (T.done X rfl rfl rfl hc i pins s3 σ3 H3 X.xe I3 (stat fr3) st3 stop) fun r s4 ⟨hr, I4⟩ => ?_)
    subst hr
    exact wpAny_execs_nil ⟨σ3, H3, I4, qn⟩
  · refine wpAny_passesOwn hp (thn (T.item X rfl rfl rfl hc i pins s3 σ3 H3 X.xe I3 (stat fr3) st3 go) fun r s4 ⟨u, hr, h4⟩ => ?_)
    subst hr
    refine wpAny_passesOwn hp (thn h4 fun _ s5 ⟨x, H5, I5, r5, y5, st5, fr5⟩ => ?_)
    have I5' := I5.pinned (stat fr5) (T.obj _ _ st5)
    refine wpAny_passesOwn hp (thn (hg _ s5 σ3 H5 x u _ I5' r5 (step x H5 y5)) fun _ s6 ⟨σ6, H6, I6, q6⟩ => ?_)
    refine wpAny_passesOwn hp (thn (hb _ s6 σ6 H6 _ I6 q6) fun f s7 q7 => ?_)
    have again : ∀ {σ7 : St} {H7 : Hp}, Inv X (pins ++ pinsAt fp s5.heap) σ7 H7 s7 → N σ7 H7 → ∃ m, m < n ∧ ∃ i σ' H', Inv X pins σ' H' s7 ∧ tn i s7.heap ∧ (∀ b ∈ fp, H' b = none) ∧ W i m σ' H' := fun {σ7 H7} I7 n7 => by
      obtain ⟨m', hm, w7⟩ := hN σ7 H7 n7
      refine ⟨m', hm, i + 1, σ7, H7, I7.unpinned, T.keep _ _ _ st5 fun b hb o e => (I7.pin (b, o) (List.mem_append_right _ (List.mem_append_right _ (mem_pinsAt hb e)))).1, fun b hb => ?_, w7⟩
      obtain ⟨o, e, d⟩ := T.obj _ _ st5 b hb
      exact (I7.pin (b, o) (List.mem_append_right _ (List.mem_append_right _ (mem_pinsAt hb e)))).2.1
    cases f with
    | next => obtain ⟨σ7, H7, I7, n7⟩ := q7; exact again I7 n7
    | cont => obtain ⟨σ7, H7, I7, n7⟩ := q7; exact again I7 n7
    | brk => obtain ⟨σ7, H7, I7, q7⟩ := q7; exact ⟨σ7, H7, I7.unpinned, q7⟩
    | ret v => obtain ⟨x7, σ7, H7, I7, r7, q7⟩ := q7; exact ⟨x7, σ7, H7, I7.unpinned, r7, q7⟩
end

/-! ### the forms one uses -/
/-- over a list that the body leaves as it is -/
theorem for_list {K : PySem.W.Frag} {a : Addr} {xs : List V} {g : TG} {tb : TS} {D : Ends} {σ : St} {H : Hp} (Pv : Nat → St → Hp → Prop) (h0 : Pv 0 σ H) (hl : ∀ i σ H, i ≤ xs.length → Pv i σ H → SqL K H a xs)
    (hs : ∀ i x σ H, xs[i]? = some x → Pv i σ H → g x σ H fun σ2 H2 => tb { D with nx := Pv (i + 1), ct := Pv (i + 1), bk := D.nx } σ2 H2) (hd : ∀ σ H, Pv xs.length σ H → D.nx σ H) :
    ∃ W : Nat → Nat → St → Hp → Prop, (∃ m, W 0 m σ H) ∧ ∀ i m σ H, W i m σ H →
      ((Itl K a).stop i H ∧ D.nx σ H) ∨ ((Itl K a).go i H ∧ ∃ N : St → Hp → Prop, (∀ σ' H', N σ' H' → ∃ m', m' < m ∧ W (i + 1) m' σ' H') ∧ ∀ x H', (Itl K a).yld i H x H' → g x σ H' fun σ2 H2 => tb { D with nx := N, ct := N, bk := D.nx } σ2 H2) := by
  refine ⟨fun i m σ H => m = xs.length - i ∧ i ≤ xs.length ∧ Pv i σ H, ⟨xs.length, by simp, Nat.zero_le _, h0⟩, ?_⟩
  rintro i m σ H ⟨rfl, hi, p⟩
  have q := hl i σ H hi p
  by_cases hlt : i < xs.length
  · refine .inr ⟨⟨xs, xs[i], q, by simp [hlt]⟩, Pv (i + 1), fun σ' H' p' => ⟨xs.length - (i + 1), by omega, rfl, hlt, p'⟩, fun x H' y => ?_⟩
    obtain ⟨e, y⟩ := y
    subst e
    exact hs i x σ _ (y xs q) p
  · have e : i = xs.length := by omega
    subst e
    exact .inl ⟨⟨xs, q, Nat.le_refl _⟩, hd σ H p⟩
theorem for_tup {K : PySem.W.Frag} {a : Addr} {xs : List V} {g : TG} {tb : TS} {D : Ends} {σ : St} {H : Hp} (Pv : Nat → St → Hp → Prop) (h0 : Pv 0 σ H) (hl : ∀ i σ H, i ≤ xs.length → Pv i σ H → SqT K H a xs)
    (hs : ∀ i x σ H, xs[i]? = some x → Pv i σ H → g x σ H fun σ2 H2 => tb { D with nx := Pv (i + 1), ct := Pv (i + 1), bk := D.nx } σ2 H2) (hd : ∀ σ H, Pv xs.length σ H → D.nx σ H) :
    ∃ W : Nat → Nat → St → Hp → Prop, (∃ m, W 0 m σ H) ∧ ∀ i m σ H, W i m σ H →
      ((Itt K a).stop i H ∧ D.nx σ H) ∨ ((Itt K a).go i H ∧ ∃ N : St → Hp → Prop, (∀ σ' H', N σ' H' → ∃ m', m' < m ∧ W (i + 1) m' σ' H') ∧ ∀ x H', (Itt K a).yld i H x H' → g x σ H' fun σ2 H2 => tb { D with nx := N, ct := N, bk := D.nx } σ2 H2) := by
  refine ⟨fun i m σ H => m = xs.length - i ∧ i ≤ xs.length ∧ Pv i σ H, ⟨xs.length, by simp, Nat.zero_le _, h0⟩, ?_⟩
  rintro i m σ H ⟨rfl, hi, p⟩
  have q := hl i σ H hi p
  by_cases hlt : i < xs.length
  · refine .inr ⟨⟨xs, xs[i], q, by simp [hlt]⟩, Pv (i + 1), fun σ' H' p' => ⟨xs.length - (i + 1), by omega, rfl, hlt, p'⟩, fun x H' y => ?_⟩
    obtain ⟨e, y⟩ := y
    subst e
    exact hs i x σ _ (y xs q) p
  · have e : i = xs.length := by omega
    subst e
    exact .inl ⟨⟨xs, q, Nat.le_refl _⟩, hd σ H p⟩
theorem for_range {lo : Int} {n : Nat} {g : TG} {tb : TS} {D : Ends} {σ : St} {H : Hp} (Pv : Nat → St → Hp → Prop) (h0 : Pv 0 σ H)
    (hs : ∀ i σ H, i < n → Pv i σ H → g (.int (lo + i)) σ H fun σ2 H2 => tb { D with nx := Pv (i + 1), ct := Pv (i + 1), bk := D.nx } σ2 H2) (hd : ∀ σ H, Pv n σ H → D.nx σ H) :
    ∃ W : Nat → Nat → St → Hp → Prop, (∃ m, W 0 m σ H) ∧ ∀ i m σ H, W i m σ H →
      ((Itr lo n).stop i H ∧ D.nx σ H) ∨ ((Itr lo n).go i H ∧ ∃ N : St → Hp → Prop, (∀ σ' H', N σ' H' → ∃ m', m' < m ∧ W (i + 1) m' σ' H') ∧ ∀ x H', (Itr lo n).yld i H x H' → g x σ H' fun σ2 H2 => tb { D with nx := N, ct := N, bk := D.nx } σ2 H2) := by
  refine ⟨fun i m σ H => m = n - i ∧ i ≤ n ∧ Pv i σ H, ⟨n, by simp, Nat.zero_le _, h0⟩, ?_⟩
  rintro i m σ H ⟨rfl, hi, p⟩
  by_cases hlt : i < n
  · refine .inr ⟨hlt, Pv (i + 1), fun σ' H' p' => ⟨n - (i + 1), by omega, rfl, hlt, p'⟩, fun x H' y => ?_⟩
    obtain ⟨e, y⟩ := y
    subst e y
    exact hs i σ _ hlt p
  · have e : i = n := by omega
    subst e
    exact .inl ⟨Nat.le_refl _, hd σ H p⟩
/-- while, by a word and a measure of the state -/
theorem while_by {c : TT} {tb : TS} {D : Ends} {σ : St} {H : Hp} (Pv : St → Hp → Prop) (μ : St → Hp → Nat) (h0 : Pv σ H)
    (hs : ∀ σ H, Pv σ H → c σ H fun b H1 => if b = true then tb { D with nx := fun σ' H' => Pv σ' H' ∧ μ σ' H' < μ σ H, ct := fun σ' H' => Pv σ' H' ∧ μ σ' H' < μ σ H, bk := D.nx } σ H1 else D.nx σ H1)
    (mono : ∀ σ H Q Q', (∀ b H1, Q b H1 → Q' b H1) → c σ H Q → c σ H Q') : tWhile c tb D σ H := by
  refine ⟨fun m σ H => m = μ σ H ∧ Pv σ H, ⟨_, rfl, h0⟩, ?_⟩
  rintro m σ H ⟨rfl, p⟩
  refine mono σ H _ _ (fun b H1 q => ?_) (hs σ H p)
  cases b with
  | true => exact ⟨_, fun σ' H' ⟨p', l⟩ => ⟨_, l, rfl, p'⟩, q⟩
  | false => exact q
end L2

namespace L2
open PySem PySem.Spec PyProof.Rows

abbrev R2 := V → V → Hp → VK → Prop
/-- a two-place operation on values: f is binaryOp op, inplaceOp op or compareOp op -/
def OpR (X : Cx) (f : Value → Value → Sem Value) (r : R2) : Prop :=
  ∀ (pins : List (Addr × Obj)) (s : Shared) (σ : St) (H : Hp) (x y : V) (v u : Value) (Q : VK), Inv X pins σ H s → RelV x v → RelV y u → r x y H Q →
    wpAny (model X.prog X.w) X.A (f v u) (EP X pins σ Q) X.xe s
/-- a one-place operation -/
def UnR (X : Cx) (f : Value → Sem Value) (r : V → Hp → VK → Prop) : Prop :=
  ∀ (pins : List (Addr × Obj)) (s : Shared) (σ : St) (H : Hp) (x : V) (v : Value) (Q : VK), Inv X pins σ H s → RelV x v → r x H Q →
    wpAny (model X.prog X.w) X.A (f v) (EP X pins σ Q) X.xe s
/-- a call of a value that is known (a builtin, a type) with values -/
def CallR (X : Cx) (f : Value) (r : List V → Hp → VK → Prop) : Prop :=
  ∀ (pins : List (Addr × Obj)) (s : Shared) (σ : St) (H : Hp) (xs : List V) (us : List Value) (Q : VK), Inv X pins σ H s → Vals xs us → r xs H Q →
    wpAny (model X.prog X.w) X.A (call f us) (EP X pins σ Q) X.xe s
/-- a value's truth -/
def TruR (X : Cx) (r : V → Hp → (Bool → Hp → Prop) → Prop) : Prop :=
  ∀ (pins : List (Addr × Obj)) (s : Shared) (σ : St) (H : Hp) (x : V) (v : Value) (Q : Bool → Hp → Prop), Inv X pins σ H s → RelV x v → r x H Q →
    wpAny (model X.prog X.w) X.A (truthy v) (TP X pins σ Q) X.xe s

def tOp (r : R2) (ta tb : TE) : TE := fun σ H Q => ta σ H fun x H1 => tb σ H1 fun y H2 => r x y H2 Q
def tUn (r : V → Hp → VK → Prop) (ta : TE) : TE := fun σ H Q => ta σ H fun x H1 => r x H1 Q
/-- ints in, under C, and a value out -/
def rI (C : Int → Int → Prop) (g : Int → Int → V) : R2 := fun x y H Q => ∃ i j, x = .int i ∧ y = .int j ∧ C i j ∧ Q (g i j) H
def rI0 (g : Int → Int → V) : R2 := fun x y H Q => ∃ i j, x = .int i ∧ y = .int j ∧ Q (g i j) H
def rU (g : Int → V) : V → Hp → VK → Prop := fun x H Q => ∃ i, x = .int i ∧ Q (g i) H

section
variable {X : Cx} {a b c : Expr} {ta tb tc : TE} {pos : Pos}

theorem binT (ha : PE X a ta) (hb : PE X b tb) {pins : List (Addr × Obj)} {s : Shared} {σ : St} {H : Hp} {R : V → V → Hp → Prop} (I : Inv X pins σ H s)
    (h : ta σ H fun x H1 => tb σ H1 fun y H2 => R x y H2) {Q : Value → Shared → Prop} {f : Value → Value → Sem Value}
    (hf : ∀ v u s2 x y H2, Inv X pins σ H2 s2 → RelV x v → RelV y u → R x y H2 → wpAny (model X.prog X.w) X.A (f v u) Q X.xe s2) :
    wpAny (model X.prog X.w) X.A (eval a X.env) (fun v s₁ => wpAny (model X.prog X.w) X.A (eval b X.env) (fun u s₂ => wpAny (model X.prog X.w) X.A (f v u) Q X.xe s₂) X.xe s₁) X.xe s := by
  refine thn (ha pins s σ H _ I h) fun v s1 ⟨x, H1, I1, r1, q1⟩ => ?_
  refine thn (hb pins s1 σ H1 _ I1 q1) fun u s2 ⟨y, H2, I2, r2, q2⟩ => ?_
  exact hf v u s2 x y H2 I2 r1 r2 q2

theorem pe_op {op : Operator} {r : R2} (ho : OpR X (binaryOp op) r) (ha : PE X a ta) (hb : PE X b tb) : PE X (.BinOp a op b pos) (tOp r ta tb) := by
  intro pins s σ H Q I h
  exact wpAny_BinOp (binT ha hb I h fun v u s2 x y H2 I2 rx ry q => ho pins s2 σ H2 x y v u Q I2 rx ry q)
theorem pe_un {op : UnaryOp} {r : V → Hp → VK → Prop} (ho : UnR X (unaryOp op) r) (ha : PE X a ta) : PE X (.UnaryOp op a pos) (tUn r ta) := by
  intro pins s σ H Q I h
  exact UnaryOp_ (thn (ha pins s σ H _ I h) fun v s1 ⟨x, H1, I1, r1, q1⟩ => ho pins s1 σ H1 x v Q I1 r1 q1)
/-- a op= e at a name: the name's slot i -/
theorem augR {op : Operator} {r : R2} (ho : OpR X (inplaceOp op) r) {pins : List (Addr × Obj)} {s : Shared} {σ : St} {H : Hp} {x y : V} {v u : Value} {Q : VK} (I : Inv X pins σ H s)
    (rx : RelV x v) (ry : RelV y u) (q : r x y H Q) : wpAny (model X.prog X.w) X.A (inplaceOp op v u) (EP X pins σ Q) X.xe s := ho pins s σ H x y v u Q I rx ry q

/-! ### ints -/
theorem opI {f : Value → Value → Sem Value} {C : Int → Int → Prop} {g : Int → Int → Int}
    (rule : ∀ (i j : Int) (t u : Tok) (s : Shared) (Q : Value → Shared → Prop) (E : Value → Shared → Prop), C i j → Q (.int (g i j) s.toks) { s with toks := s.toks + 1 } → wpAny (model X.prog X.w) X.A (f (.int i t) (.int j u)) Q E s) :
    OpR X f (rI C fun i j => .int (g i j)) := by
  intro pins s σ H x y v u Q I rx ry h
  obtain ⟨i, j, rfl, rfl, hc, q⟩ := h
  obtain ⟨t, rfl⟩ := rx
  obtain ⟨t', rfl⟩ := ry
  exact rule i j t t' s _ _ hc ⟨.int (g i j), H, I.tok _, ⟨_, rfl⟩, q⟩
theorem opI0 {f : Value → Value → Sem Value} {g : Int → Int → Int}
    (rule : ∀ (i j : Int) (t u : Tok) (s : Shared) (Q : Value → Shared → Prop) (E : Value → Shared → Prop), Q (.int (g i j) s.toks) { s with toks := s.toks + 1 } → wpAny (model X.prog X.w) X.A (f (.int i t) (.int j u)) Q E s) :
    OpR X f (rI0 fun i j => .int (g i j)) := by
  intro pins s σ H x y v u Q I rx ry h
  obtain ⟨i, j, rfl, rfl, q⟩ := h
  obtain ⟨t, rfl⟩ := rx
  obtain ⟨t', rfl⟩ := ry
  exact rule i j t t' s _ _ ⟨.int (g i j), H, I.tok _, ⟨_, rfl⟩, q⟩
theorem opB0 {f : Value → Value → Sem Value} {g : Int → Int → Bool}
    (rule : ∀ (i j : Int) (t u : Tok) (s : Shared) (Q : Value → Shared → Prop) (E : Value → Shared → Prop), Q (.bool (g i j)) s → wpAny (model X.prog X.w) X.A (f (.int i t) (.int j u)) Q E s) :
    OpR X f (rI0 fun i j => .bl (g i j)) := by
  intro pins s σ H x y v u Q I rx ry h
  obtain ⟨i, j, rfl, rfl, q⟩ := h
  obtain ⟨t, rfl⟩ := rx
  obtain ⟨t', rfl⟩ := ry
  exact rule i j t t' s _ _ ⟨.bl (g i j), H, I, rfl, q⟩

def CDiv (i j : Int) : Prop := 0 < j ∧ j < 1073741824
def CDivN (i j : Int) : Prop := j ≠ 0 ∧ j.natAbs < 1073741824
def CPow (i j : Int) : Prop := 0 ≤ j ∧ j ≤ 1000000 ∧ i.natAbs < 2 ^ 64
def CMul (i j : Int) : Prop := (-(2 ^ 64) < i ∧ i < 2 ^ 64) ∨ (-(2 ^ 64) < j ∧ j < 2 ^ 64)
theorem CMul.ok {i j : Int} (h : CMul i j) : IntMulOk i j := by
  rcases h with ⟨h1, h2⟩ | ⟨h1, h2⟩
  · exact .of_left (intBits_le_64 h1 h2)
  · exact .of_right (intBits_le_64 h1 h2)
theorem two_pow_nn (k : Nat) : (0 : Int) ≤ 2 ^ k := by
  rw [two_pow_cast]
  exact Int.natCast_nonneg _

theorem op_add : OpR X (binaryOp .Add) (rI0 fun i j => .int (i + j)) := opI0 fun _ _ _ _ _ _ _ q => add_int q
theorem op_sub : OpR X (binaryOp .Sub) (rI0 fun i j => .int (i - j)) := opI0 fun _ _ _ _ _ _ _ q => sub_int q
theorem op_mul : OpR X (binaryOp .Mult) (rI CMul fun i j => .int (i * j)) := opI fun _ _ _ _ _ _ _ hc q => mul_int q hc.ok
/-- // by a positive divisor -/
theorem op_fdiv : OpR X (binaryOp .FloorDiv) (rI CDiv fun i j => .int (i / j)) := opI fun i j _ _ _ _ _ hc q => by
  have h1 : (0 : Int) < j := hc.1
  have h2 : j < 1073741824 := hc.2
  exact floordiv_int (by omega) (by rw [Int.fdiv_eq_ediv_of_nonneg i (by omega)]; exact q) (.inl (PyProof.noPylong_small (by omega)))
theorem op_fdivN : OpR X (binaryOp .FloorDiv) (rI CDivN fun i j => .int (i.fdiv j)) := opI fun _ _ _ _ _ _ _ hc q => floordiv_int hc.1 q (.inl (PyProof.noPylong_small hc.2))
/-- % by a positive divisor of any size -/
theorem op_mod : OpR X (binaryOp .Mod) (rI (fun _ j => 0 < j) fun i j => .int (i % j)) := opI fun i j _ _ _ _ _ hc q => by
  have h1 : (0 : Int) < j := hc
  exact mod_int' (by omega) (by rw [Int.fmod_eq_emod_of_nonneg i (by omega)]; exact q)
theorem op_modN : OpR X (binaryOp .Mod) (rI (fun _ j => j ≠ 0) fun i j => .int (i.fmod j)) := opI fun _ _ _ _ _ _ _ hc q => mod_int' hc q
theorem op_pow : OpR X (binaryOp .Pow) (rI CPow fun i j => .int (i ^ j.toNat)) := opI fun _ _ _ _ _ _ _ hc q => pow_int_small hc.1 hc.2.1 hc.2.2 q
theorem op_shl : OpR X (binaryOp .LShift) (rI CPow fun i j => .int (i * 2 ^ j.toNat)) := opI fun _ _ _ _ _ _ _ hc q => lshift_int_small hc.1 hc.2.1 hc.2.2 q
theorem op_shr : OpR X (binaryOp .RShift) (rI (fun _ j => 0 ≤ j) fun i j => .int (i / 2 ^ j.toNat)) := opI fun i j _ _ _ _ _ hc q =>
  rshift_int hc (by rw [Int.fdiv_eq_ediv_of_nonneg i (two_pow_nn _)]; exact q)
theorem op_and : OpR X (binaryOp .BitAnd) (rI0 fun i j => .int (Builtin.bitAnd i j)) := opI0 fun _ _ _ _ _ _ _ q => and_int q
theorem op_or : OpR X (binaryOp .BitOr) (rI0 fun i j => .int (Builtin.bitOr i j)) := opI0 fun _ _ _ _ _ _ _ q => or_int q
theorem op_xor : OpR X (binaryOp .BitXor) (rI0 fun i j => .int (Builtin.bitXor i j)) := opI0 fun _ _ _ _ _ _ _ q => xor_int q

theorem iop_add : OpR X (inplaceOp .Add) (rI0 fun i j => .int (i + j)) := opI0 fun _ _ _ _ _ _ _ q => iadd_int q
theorem iop_sub : OpR X (inplaceOp .Sub) (rI0 fun i j => .int (i - j)) := opI0 fun _ _ _ _ _ _ _ q => isub_int q
theorem iop_mul : OpR X (inplaceOp .Mult) (rI CMul fun i j => .int (i * j)) := opI fun _ _ _ _ _ _ _ hc q => imul_int q hc.ok
theorem iop_fdiv : OpR X (inplaceOp .FloorDiv) (rI CDiv fun i j => .int (i / j)) := opI fun i j _ _ _ _ _ hc q => by
  have h1 : (0 : Int) < j := hc.1
  have h2 : j < 1073741824 := hc.2
  exact ifloordiv_int (by omega) (by rw [Int.fdiv_eq_ediv_of_nonneg i (by omega)]; exact q) (.inl (PyProof.noPylong_small (by omega)))
theorem iop_mod : OpR X (inplaceOp .Mod) (rI (fun _ j => 0 < j) fun i j => .int (i % j)) := opI fun i j _ _ _ _ _ hc q => by
  have h1 : (0 : Int) < j := hc
  exact imod_int (by omega) (by rw [Int.fmod_eq_emod_of_nonneg i (by omega)]; exact q)
theorem iop_shl : OpR X (inplaceOp .LShift) (rI CPow fun i j => .int (i * 2 ^ j.toNat)) := opI fun _ _ _ _ _ _ _ hc q => ilshift_int_small hc.1 hc.2.1 hc.2.2 q
theorem iop_shr : OpR X (inplaceOp .RShift) (rI (fun _ j => 0 ≤ j) fun i j => .int (i / 2 ^ j.toNat)) := opI fun i j _ _ _ _ _ hc q =>
  irshift_int hc (by rw [Int.fdiv_eq_ediv_of_nonneg i (two_pow_nn _)]; exact q)
theorem iop_and : OpR X (inplaceOp .BitAnd) (rI0 fun i j => .int (Builtin.bitAnd i j)) := opI0 fun _ _ _ _ _ _ _ q => iand_int q
theorem iop_or : OpR X (inplaceOp .BitOr) (rI0 fun i j => .int (Builtin.bitOr i j)) := opI0 fun _ _ _ _ _ _ _ q => ior_int q
theorem iop_xor : OpR X (inplaceOp .BitXor) (rI0 fun i j => .int (Builtin.bitXor i j)) := opI0 fun _ _ _ _ _ _ _ q => ixor_int q

theorem unI {f : Value → Sem Value} {g : Int → Int}
    (rule : ∀ (i : Int) (t : Tok) (s : Shared) (Q : Value → Shared → Prop) (E : Value → Shared → Prop), Q (.int (g i) s.toks) { s with toks := s.toks + 1 } → wpAny (model X.prog X.w) X.A (f (.int i t)) Q E s) :
    UnR X f (rU fun i => .int (g i)) := by
  intro pins s σ H x v Q I rx h
  obtain ⟨i, rfl, q⟩ := h
  obtain ⟨t, rfl⟩ := rx
  exact rule i t s _ _ ⟨.int (g i), H, I.tok _, ⟨_, rfl⟩, q⟩
theorem un_neg : UnR X (unaryOp .USub) (rU fun i => .int (-i)) := unI fun _ _ _ _ _ q => neg_int q
theorem un_inv : UnR X (unaryOp .Invert) (rU fun i => .int (Builtin.bitNot i)) := unI fun _ _ _ _ _ q => invert_int q

/-! ### bools among ints: n += (a < b) -/
theorem op_add_ib : OpR X (binaryOp .Add) (fun x y H Q => ∃ i k, x = .int i ∧ y = .bl k ∧ Q (.int (i + b2i k)) H) := by
  intro pins s σ H x y v u Q I rx ry h
  obtain ⟨i, k, rfl, rfl, q⟩ := h
  obtain ⟨t, rfl⟩ := rx
  cases ry
  exact add_int_bool ⟨.int (i + b2i k), H, I.tok _, ⟨_, rfl⟩, q⟩
end

/-! ### comparisons -/
/-- the scalars that == tells apart as data does -/
def scal : V → V → Bool
  | .non, .non => true | .non, .int _ => true | .int _, .non => true | .non, .bl _ => true | .bl _, .non => true | .non, .str _ => true | .str _, .non => true
  | .int _, .int _ => true | .bl _, .bl _ => true | .str _, .str _ => true | .byt _, .byt _ => true
  | .int _, .str _ => true | .str _, .int _ => true | .bl _, .str _ => true | .str _, .bl _ => true
  | _, _ => false
def rEq : R2 := fun x y H Q => scal x y = true ∧ Q (.bl (decide (x = y))) H
def rNe : R2 := fun x y H Q => scal x y = true ∧ Q (.bl (!decide (x = y))) H

theorem dec_int {i j : Int} : decide (V.int i = V.int j) = (i == j) := by
  rw [Bool.eq_iff_iff]
  simp
theorem dec_bl {i j : Bool} : decide (V.bl i = V.bl j) = (i == j) := by
  rw [Bool.eq_iff_iff]
  simp
theorem dec_str {i j : Str} : decide (V.str i = V.str j) = (i == j) := by
  rw [Bool.eq_iff_iff]
  simp
theorem dec_byt {i j : Array UInt8} : decide (V.byt i = V.byt j) = (i.toList == j.toList) := by
  rw [Bool.eq_iff_iff]
  cases i
  cases j
  simp

section
variable {X : Cx} {a b c : Expr} {ta tb tc : TE} {pos : Pos}
theorem fin_bl {pins : List (Addr × Obj)} {σ : St} {H : Hp} {s : Shared} {Q : VK} {k k' : Bool} (I : Inv X pins σ H s) (q : Q (.bl k) H) (e : k = k') : EP X pins σ Q (.bool k') s := by
  subst e
  exact ⟨.bl k, H, I, rfl, q⟩
theorem op_eq : OpR X (compareOp .Eq) rEq := by
  intro pins s σ H x y v u Q I rx ry h
  obtain ⟨hs, q⟩ := h
  cases x with
  | non =>
    cases rx
    cases y with
    | non => cases ry; exact PySem.EqNone.eq_none_none (fin_bl I q (by simp))
    | bl j => cases ry; exact PySem.EqNone.eq_none_bool (fin_bl I q (by simp))
    | int j => obtain ⟨t', rfl⟩ := ry; exact PySem.EqNone.eq_none_int (fin_bl I q (by simp))
    | str j => obtain ⟨t', rfl⟩ := ry; exact PySem.EqNone.eq_none_str (fin_bl I q (by simp))
    | _ => exact absurd (show false = true from hs) Bool.false_ne_true
  | bl i =>
    cases rx
    cases y with
    | non => cases ry; exact PySem.EqNone.eq_bool_none (fin_bl I q (by simp))
    | bl j => cases ry; exact eq_bool (fin_bl I q dec_bl)
    | str j => obtain ⟨t', rfl⟩ := ry; exact PySem.EqMixed.eq_bool_str (fin_bl I q (by simp))
    | _ => exact absurd (show false = true from hs) Bool.false_ne_true
  | int i =>
    obtain ⟨t, rfl⟩ := rx
    cases y with
    | non => cases ry; exact PySem.EqNone.eq_int_none (fin_bl I q (by simp))
    | int j => obtain ⟨t', rfl⟩ := ry; exact eq_int (fin_bl I q dec_int)
    | str j => obtain ⟨t', rfl⟩ := ry; exact PySem.EqMixed.eq_int_str (fin_bl I q (by simp))
    | _ => exact absurd (show false = true from hs) Bool.false_ne_true
  | str i =>
    obtain ⟨t, rfl⟩ := rx
    cases y with
    | non => cases ry; exact PySem.EqNone.eq_str_none (fin_bl I q (by simp))
    | bl j => cases ry; exact PySem.EqMixed.eq_str_bool (fin_bl I q (by simp))
    | int j => obtain ⟨t', rfl⟩ := ry; exact PySem.EqMixed.eq_str_int (fin_bl I q (by simp))
    | str j => obtain ⟨t', rfl⟩ := ry; exact eq_str (fin_bl I q dec_str)
    | _ => exact absurd (show false = true from hs) Bool.false_ne_true
  | byt i =>
    obtain ⟨t, rfl⟩ := rx
    cases y with
    | byt j => obtain ⟨t', rfl⟩ := ry; exact PySem.W.eq_bytes (fin_bl I q dec_byt)
    | _ => exact absurd (show false = true from hs) Bool.false_ne_true
  | _ => cases y <;> exact absurd (show false = true from hs) Bool.false_ne_true
theorem op_ne : OpR X (compareOp .NotEq) rNe := by
  intro pins s σ H x y v u Q I rx ry h
  obtain ⟨hs, q⟩ := h
  cases x with
  | non =>
    cases rx
    cases y with
    | non => cases ry; exact PySem.EqNone.ne_none_none (fin_bl I q (by simp))
    | bl j => cases ry; exact PySem.EqNone.ne_none_bool (fin_bl I q (by simp))
    | int j => obtain ⟨t', rfl⟩ := ry; exact PySem.EqNone.ne_none_int (fin_bl I q (by simp))
    | str j => obtain ⟨t', rfl⟩ := ry; exact PySem.EqNone.ne_none_str (fin_bl I q (by simp))
    | _ => exact absurd (show false = true from hs) Bool.false_ne_true
  | bl i =>
    cases rx
    cases y with
    | non => cases ry; exact PySem.EqNone.ne_bool_none (fin_bl I q (by simp))
    | bl j => cases ry; exact ne_bool (fin_bl I q (congrArg not dec_bl))
    | str j => obtain ⟨t', rfl⟩ := ry; exact PySem.EqMixed.ne_bool_str (fin_bl I q (by simp))
    | _ => exact absurd (show false = true from hs) Bool.false_ne_true
  | int i =>
    obtain ⟨t, rfl⟩ := rx
    cases y with
    | non => cases ry; exact PySem.EqNone.ne_int_none (fin_bl I q (by simp))
    | int j => obtain ⟨t', rfl⟩ := ry; exact ne_int (fin_bl I q (congrArg not dec_int))
    | str j => obtain ⟨t', rfl⟩ := ry; exact PySem.EqMixed.ne_int_str (fin_bl I q (by simp))
    | _ => exact absurd (show false = true from hs) Bool.false_ne_true
  | str i =>
    obtain ⟨t, rfl⟩ := rx
    cases y with
    | non => cases ry; exact PySem.EqNone.ne_str_none (fin_bl I q (by simp))
    | bl j => cases ry; exact PySem.EqMixed.ne_str_bool (fin_bl I q (by simp))
    | int j => obtain ⟨t', rfl⟩ := ry; exact PySem.EqMixed.ne_str_int (fin_bl I q (by simp))
    | str j => obtain ⟨t', rfl⟩ := ry; exact ne_str (fin_bl I q (congrArg not dec_str))
    | _ => exact absurd (show false = true from hs) Bool.false_ne_true
  | byt i =>
    obtain ⟨t, rfl⟩ := rx
    cases y with
    | byt j => obtain ⟨t', rfl⟩ := ry; exact PySem.W.ne_bytes (fin_bl I q (congrArg not dec_byt))
    | _ => exact absurd (show false = true from hs) Bool.false_ne_true
  | _ => cases y <;> exact absurd (show false = true from hs) Bool.false_ne_true

theorem op_lt : OpR X (compareOp .Lt) (rI0 fun i j => .bl (decide (i < j))) := opB0 fun _ _ _ _ _ _ _ q => lt_int q
theorem op_le : OpR X (compareOp .LtE) (rI0 fun i j => .bl (decide (i ≤ j))) := opB0 fun _ _ _ _ _ _ _ q => le_int q
theorem op_gt : OpR X (compareOp .Gt) (rI0 fun i j => .bl (decide (j < i))) := opB0 fun _ _ _ _ _ _ _ q => gt_int q
theorem op_ge : OpR X (compareOp .GtE) (rI0 fun i j => .bl (decide (j ≤ i))) := opB0 fun _ _ _ _ _ _ _ q => ge_int q
theorem op_lt_str : OpR X (compareOp .Lt) (fun x y H Q => ∃ i j, x = .str i ∧ y = .str j ∧ Q (.bl (decide (i.cps.toList < j.cps.toList))) H) := by
  intro pins s σ H x y v u Q I rx ry h
  obtain ⟨i, j, rfl, rfl, q⟩ := h
  obtain ⟨t, rfl⟩ := rx
  obtain ⟨t', rfl⟩ := ry
  exact lt_str (fin_bl I q rfl)
/-- the one string within the other -/
theorem op_in_str : OpR X (compareOp .In) (fun x y H Q => ∃ i j, x = .str i ∧ y = .str j ∧ Q (.bl (!(Builtin.Str.occurrences j i 0 j.length 1).isEmpty)) H) := by
  intro pins s σ H x y v u Q I rx ry h
  obtain ⟨i, j, rfl, rfl, q⟩ := h
  obtain ⟨t, rfl⟩ := rx
  obtain ⟨t', rfl⟩ := ry
  exact in_str (fin_bl I q rfl)

/-- is None, is not None: the right side a value none -/
theorem op_isN : OpR X (compareOp .Is) (fun x y H Q => y = .non ∧ Q (.bl (decide (x = .non))) H) := by
  intro pins s σ H x y v u Q I rx ry h
  obtain ⟨rfl, q⟩ := h
  cases ry
  refine is_none_gen (fin_bl I q ?_)
  cases x <;> first
    | (cases rx; rfl)
    | (obtain ⟨t, rfl⟩ := rx; rfl)
theorem op_notN : OpR X (compareOp .IsNot) (fun x y H Q => y = .non ∧ Q (.bl (!decide (x = .non))) H) := by
  intro pins s σ H x y v u Q I rx ry h
  obtain ⟨rfl, q⟩ := h
  cases ry
  refine isnot_none_gen (fin_bl I q ?_)
  cases x <;> first
    | (cases rx; rfl)
    | (obtain ⟨t, rfl⟩ := rx; rfl)

theorem op_notin_str : OpR X (compareOp .NotIn) (fun x y H Q => ∃ i j, x = .str i ∧ y = .str j ∧ Q (.bl (!(!(Builtin.Str.occurrences j i 0 j.length 1).isEmpty))) H) := by
  intro pins s σ H x y v u Q I rx ry h
  obtain ⟨i, j, rfl, rfl, q⟩ := h
  obtain ⟨t, rfl⟩ := rx
  obtain ⟨t', rfl⟩ := ry
  exact notIn_str (fin_bl I q rfl)
/-- is, is not of two objects that are tracked lists or instances -/
def isObj : HO → Bool
  | .lst _ => true
  | .ins _ _ _ => true
  | _ => false
theorem obj_there {pins : List (Addr × Obj)} {s : Shared} {σ : St} {H : Hp} {a : Addr} {o : HO} (I : Inv X pins σ H s) (h : H a = some o) (p : isObj o = true) : ∃ ob, s.heap.get? a = some ob ∧ ob.cls ≠ .type "tuple" := by
  cases o with
  | lst xs =>
    obtain ⟨_, its, n, _, e⟩ : xs.length ≤ sizeLine ∧ ∃ (its : List Value) (n : Nat), Vals xs its ∧ s.heap.get? a = some { cls := .type "list", data := .seq its.toArray n } := I.hok a _ h
    exact ⟨_, e, (by show Value.type "list" ≠ .type "tuple"; decide +kernel)⟩
  | ins C dx fs =>
    have x := I.hok a _ h
    obtain ⟨_, _, _, e, _⟩ := x
    exact ⟨_, e, (by show Value.ref C ≠ .type "tuple"; exact fun z => by cases z)⟩
  | _ => exact absurd (show false = true from p) Bool.false_ne_true
theorem op_is_ref : OpR X (compareOp .Is) (fun x y H Q => ∃ a b oa ob, x = .ref a ∧ y = .ref b ∧ H a = some oa ∧ isObj oa = true ∧ H b = some ob ∧ isObj ob = true ∧ Q (.bl (decide (a = b))) H) := by
  intro pins s σ H x y v u Q I rx ry h
  obtain ⟨a, b, oa, ob, rfl, rfl, ha, pa, hb, pb, q⟩ := h
  cases rx
  cases ry
  obtain ⟨o1, e1, n1⟩ := obj_there I ha pa
  obtain ⟨o2, e2, _⟩ := obj_there I hb pb
  by_cases z : a = b
  · subst z
    exact wpAny_is_ref_self (fin_bl I q (by simp))
  · exact wpAny_is_ref_other z e1 e2 n1 (fin_bl I q (by simp [z]))
theorem op_isnot_ref : OpR X (compareOp .IsNot) (fun x y H Q => ∃ a b oa ob, x = .ref a ∧ y = .ref b ∧ H a = some oa ∧ isObj oa = true ∧ H b = some ob ∧ isObj ob = true ∧ Q (.bl (!decide (a = b))) H) := by
  intro pins s σ H x y v u Q I rx ry h
  obtain ⟨a, b, oa, ob, rfl, rfl, ha, pa, hb, pb, q⟩ := h
  cases rx
  cases ry
  obtain ⟨o1, e1, n1⟩ := obj_there I ha pa
  obtain ⟨o2, e2, _⟩ := obj_there I hb pb
  by_cases z : a = b
  · subst z
    exact wpAny_isNot_ref_self (fin_bl I q (by simp))
  · exact wpAny_isNot_ref_other z e1 e2 n1 (fin_bl I q (by simp [z]))

/-- two rules for one operation: by cases -/
theorem OpR.or {f : Value → Value → Sem Value} {r r' : R2} (h : OpR X f r) (h' : OpR X f r') : OpR X f (fun x y H Q => r x y H Q ∨ r' x y H Q) := by
  intro pins s σ H x y v u Q I rx ry q
  rcases q with q | q
  · exact h pins s σ H x y v u Q I rx ry q
  · exact h' pins s σ H x y v u Q I rx ry q

theorem nomark (b : Expr) {op : CmpOp} (h : op ≠ .In := by decide) (h2 : op ≠ .NotIn := by decide) : behindInMarks op b = false := by
  have e1 : (op == CmpOp.In) = false := by cases op <;> first | rfl | exact absurd rfl h
  have e2 : (op == CmpOp.NotIn) = false := by cases op <;> first | rfl | exact absurd rfl h2
  cases b <;> simp [behindInMarks, e1, e2]
/-- a comparison as a value; hm: nomark b, or (for in, not in) by with_unfolding_all rfl -/
theorem pe_cmpR {op : CmpOp} {r : R2} (ho : OpR X (compareOp op) r) (ha : PE X a ta) (hb : PE X b tb) (hm : behindInMarks op b = false) : PE X (.Compare a [op] [b] pos) (tOp r ta tb) := by
  intro pins s σ H Q I h
  exact wpAny_Compare1 (binT ha hb I h fun v u s2 x y H2 I2 rx ry q => ho pins s2 σ H2 x y v u Q I2 rx ry q) hm
/-- a reading of a value as a test -/
def tTest (t : TE) : TT := fun σ H Q => t σ H fun x H' => ∃ k, x = .bl k ∧ Q k H'
theorem pt_cmpR {op : CmpOp} {r : R2} (ho : OpR X (compareOp op) r) (ha : PE X a ta) (hb : PE X b tb) (hm : behindInMarks op b = false) : PT X (.Compare a [op] [b] pos) (tTest (tOp r ta tb)) := by
  intro pins s σ H Q I h
  refine wpAny_isTrue_Compare1 (thn (ha pins s σ H _ I h) fun v s1 ⟨x, H1, I1, r1, q1⟩ => thn (hb pins s1 σ H1 _ I1 q1) fun u s2 ⟨y, H2, I2, r2, q2⟩ =>
    thn (ho pins s2 σ H2 x y v u _ I2 r1 r2 q2) fun c s3 ⟨z, H3, I3, r3, k, e, q3⟩ => ?_) hm
  subst e
  cases r3
  exact wpAny_truthy_bool ⟨H3, I3, q3⟩
/-- a op1 b op2 c -/
def tChain (r r' : R2) (ta tb tc : TE) : TE := fun σ H Q => ta σ H fun x H1 => tb σ H1 fun y H2 => r x y H2 fun z H3 => ∃ k, z = .bl k ∧
  (if k = true then tc σ H3 fun w' H4 => r' y w' H4 Q else Q (.bl false) H3)
theorem pe_chain {op op' : CmpOp} {r r' : R2} (ho : OpR X (compareOp op) r) (ho' : OpR X (compareOp op') r') (ha : PE X a ta) (hb : PE X b tb) (hc : PE X c tc)
    (hm : lastMarks [op, op'] [b, c] = false := by with_unfolding_all rfl) : PE X (.Compare a [op, op'] [b, c] pos) (tChain r r' ta tb tc) := by
  intro pins s σ H Q I h
  refine Compare_chain (thn (ha pins s σ H _ I h) fun v s1 ⟨x, H1, I1, r1, q1⟩ => chain_link (thn (hb pins s1 σ H1 _ I1 q1) fun u s2 ⟨y, H2, I2, r2, q2⟩ =>
    thn (ho pins s2 σ H2 x y v u _ I2 r1 r2 q2) fun d s3 ⟨z, H3, I3, r3, k, e, q3⟩ => ?_)) hm
  subst e
  cases r3
  refine wpAny_truthy_bool ?_
  cases k with
  | false => exact ite_ff ⟨.bl false, H3, I3, rfl, q3⟩
  | true => exact ite_tt (chain_last (thn (hc pins s3 σ H3 _ I3 q3) fun w' s4 ⟨z', H4, I4, r4, q4⟩ => ho' pins s4 σ H4 y z' u w' Q I4 r2 r4 q4))
theorem pt_chain {op op' : CmpOp} {r r' : R2} (ho : OpR X (compareOp op) r) (ho' : OpR X (compareOp op') r') (ha : PE X a ta) (hb : PE X b tb) (hc : PE X c tc)
    (hm : lastMarks [op, op'] [b, c] = false := by with_unfolding_all rfl) : PT X (.Compare a [op, op'] [b, c] pos) (tTest (tChain r r' ta tb tc)) := by
  intro pins s σ H Q I h
  refine isTrue_chain (thn (ha pins s σ H _ I h) fun v s1 ⟨x, H1, I1, r1, q1⟩ => test_link (thn (hb pins s1 σ H1 _ I1 q1) fun u s2 ⟨y, H2, I2, r2, q2⟩ =>
    thn (ho pins s2 σ H2 x y v u _ I2 r1 r2 q2) fun d s3 ⟨z, H3, I3, r3, k, e, q3⟩ => ?_)) hm
  subst e
  cases r3
  refine wpAny_truthy_bool ?_
  cases k with
  | false =>
    obtain ⟨k', e', q'⟩ := q3
    cases e'
    exact ite_ff ⟨H3, I3, q'⟩
  | true =>
    refine ite_tt (test_last (thn (hc pins s3 σ H3 _ I3 q3) fun w' s4 ⟨z', H4, I4, r4, q4⟩ => thn (ho' pins s4 σ H4 y z' u w' _ I4 r2 r4 q4) fun d' s5 ⟨z2, H5, I5, r5, k2, e2, q5⟩ => ?_))
    subst e2
    cases r5
    exact wpAny_truthy_bool ⟨H5, I5, q5⟩

/-! ### truth -/
/-- a value's truth by the abstract heap -/
def TruV (K : PySem.W.Frag) (x : V) (H : Hp) (k : Bool) : Prop :=
  match x with
  | .non => k = false
  | .bl b => k = b
  | .int i => k = (i != 0)
  | .str y => y.length ≤ sizeLine ∧ k = ((y.length : Int) != 0)
  | .byt y => y.size ≤ sizeLine ∧ k = ((y.size : Int) != 0)
  | .ref p => (∃ xs, SqL K H p xs ∧ k = !xs.isEmpty) ∨ (∃ xs, SqT K H p xs ∧ k = !xs.isEmpty) ∨ ∃ kvs, H p = some (.dK kvs) ∧ k = !kvs.isEmpty
  | _ => False
theorem isEmpty_kv {κ : Type} {kvs : List (κ × V)} {vs : List (κ × Value)} (r : KV kvs vs) : (!vs.isEmpty) = !kvs.isEmpty := by
  cases r <;> rfl
theorem isEmpty_of {xs : List V} {its : List Value} (r : Vals xs its) : (!its.toArray.isEmpty) = !xs.isEmpty := by
  cases r <;> simp
theorem line63 : (sizeLine : Nat) < 2 ^ 63 := by rw [sizeLine_eq]; decide
theorem tru_ok : TruR X (fun x H Q => ∃ k, TruV X.K x H k ∧ Q k H) := by
  intro pins s σ H x v Q I rx h
  obtain ⟨k, e, q⟩ := h
  have hl := line63
  have hs : sizeLine = 16777216 := sizeLine_eq
  cases x with
  | non =>
    cases rx
    have e' : k = false := e
    subst e'
    exact truthy_none ⟨H, I, q⟩
  | bl b =>
    cases rx
    have e' : k = b := e
    subst e'
    exact wpAny_truthy_bool ⟨H, I, q⟩
  | int i =>
    obtain ⟨t, rfl⟩ := rx
    have e' : k = (i != 0) := e
    subst e'
    exact PySem.P.truthy_int ⟨H, I, q⟩
  | str y =>
    obtain ⟨t, rfl⟩ := rx
    obtain ⟨hy, e'⟩ : y.length ≤ sizeLine ∧ k = ((y.length : Int) != 0) := e
    subst e'
    exact PySem.P.truthy_str (by omega) ⟨H, I.tok _, q⟩
  | byt y =>
    obtain ⟨t, rfl⟩ := rx
    obtain ⟨hy, e'⟩ : y.size ≤ sizeLine ∧ k = ((y.size : Int) != 0) := e
    subst e'
    exact PySem.W.truthy_bytes (by omega) ⟨H, I.tok _, q⟩
  | ref p =>
    cases rx
    have e' : (∃ xs, SqL X.K H p xs ∧ k = !xs.isEmpty) ∨ (∃ xs, SqT X.K H p xs ∧ k = !xs.isEmpty) ∨ ∃ kvs, H p = some (.dK kvs) ∧ k = !kvs.isEmpty := e
    rcases e' with ⟨xs, hx, e'⟩ | ⟨xs, hx, e'⟩ | ⟨kvs, hx, e'⟩
    · subst e'
      obtain ⟨its, r, pl, hz⟩ := I.list hx
      have hlen := r.length
      exact wpAny_truthy_list pl.isList (by simp only [List.size_toArray]; omega) ⟨H, I.tok _, by rw [isEmpty_of r]; exact q⟩
    · subst e'
      obtain ⟨its, r, pl, hz⟩ := I.tuple hx
      have hlen := r.length
      exact truthy_tuple pl (by simp only [List.size_toArray]; omega) ⟨H, I.tok _, by rw [isEmpty_of r]; exact q⟩
    · subst e'
      obtain ⟨hz, hS, vs, r, m⟩ : kvs.length ≤ sizeLine ∧ (p == sysModules) = false ∧ ∃ vs, KV kvs vs ∧ s.heap.DictOf (mixKind X.prog X.w) p vs := I.hok p _ hx
      have hlen : kvs.length = vs.length := Paired.length r
      exact wpAny_truthy_dict hS m (by omega) ⟨H, I.tok _, by rw [isEmpty_kv r]; exact q⟩
  | _ => exact (show False from e).elim
/-- any expression whose test is its value's truth (a name, a call, a subscript, a field ..: he by fun _ => rfl) -/
theorem pt_truth (ha : PE X a ta) (he : ∀ whole, isTrue a X.env whole = (do let v ← whole; standAt a.pos; holding [v] (truthy v))) :
    PT X a (fun σ H Q => ta σ H fun x H' => ∃ k, TruV X.K x H' k ∧ Q k H') := by
  intro pins s σ H Q I h
  exact isTrue_plain (thn (ha pins s σ H _ I h) fun v s1 ⟨x, H1, I1, r1, q1⟩ => tru_ok pins s1 σ H1 x v Q I1 r1 q1) (he _)

/-! ### strs and bytes -/
theorem pe_byt {x : List UInt8} {k : Nat} : PE X (.Constant (.bytes x) k pos) (fun _ H Q => Q (.byt x.toArray) H) := fun _ _ _ H _ I h => PySem.W.Constant_bytes ⟨.byt x.toArray, H, I.tok _, ⟨_, rfl⟩, h⟩
theorem op_add_str : OpR X (binaryOp .Add) (fun x y H Q => ∃ i j, x = .str i ∧ y = .str j ∧ i.length + j.length ≤ sizeLine ∧ Q (.str (i ++ j)) H) := by
  intro pins s σ H x y v u Q I rx ry h
  obtain ⟨i, j, rfl, rfl, hz, q⟩ := h
  obtain ⟨t, rfl⟩ := rx
  obtain ⟨t', rfl⟩ := ry
  exact add_str (fun t' tk => ⟨.str (i ++ j), H, I.tok _, ⟨_, rfl⟩, q⟩) hz
theorem iop_add_str : OpR X (inplaceOp .Add) (fun x y H Q => ∃ i j, x = .str i ∧ y = .str j ∧ i.length + j.length ≤ sizeLine ∧ Q (.str (i ++ j)) H) := by
  intro pins s σ H x y v u Q I rx ry h
  obtain ⟨i, j, rfl, rfl, hz, q⟩ := h
  obtain ⟨t, rfl⟩ := rx
  obtain ⟨t', rfl⟩ := ry
  exact iadd_str (fun t' tk => ⟨.str (i ++ j), H, I.tok _, ⟨_, rfl⟩, q⟩) hz
theorem op_add_byt : OpR X (binaryOp .Add) (fun x y H Q => ∃ i j, x = .byt i ∧ y = .byt j ∧ i.size + j.size ≤ 16777216 ∧ Q (.byt (i ++ j)) H) := by
  intro pins s σ H x y v u Q I rx ry h
  obtain ⟨i, j, rfl, rfl, hz, q⟩ := h
  obtain ⟨t, rfl⟩ := rx
  obtain ⟨t', rfl⟩ := ry
  exact PySem.W.KBy.add_bytes hz (fun t' tk => ⟨.byt (i ++ j), H, I.tok _, ⟨_, rfl⟩, q⟩)

def PlainIxT (b : Expr) : Prop := ∀ o i, subscripted b false o i = operate [o, i] (getItem o i)
/-- s[i], 0 ≤ i < len -/
theorem pe_item_str (ha : PE X a ta) (hb : PE X b tb) (hs : PlainIxT b) :
    PE X (.Subscript a b pos) (tOp (fun x y H Q => ∃ z i c, x = .str z ∧ y = .int i ∧ 0 ≤ i ∧ i < 2 ^ 63 ∧ i < z.length ∧ z.cps[i.toNat]? = some c ∧ Q (.str ⟨#[c]⟩) H) ta tb) := by
  intro pins s σ H Q I h
  refine Subscript_ (binT ha hb I h fun v u s2 x y H2 I2 rx ry q => ?_)
  obtain ⟨z, i, c, rfl, rfl, h0, h63, h1, hc, q⟩ := q
  obtain ⟨t, rfl⟩ := rx
  obtain ⟨t', rfl⟩ := ry
  have e : seqIndex? i z.length = some i.toNat := PySem.StrLaws.seqIndex_nonneg h0 h1
  exact tail_any (typeIs_str s2 z t) slot_str_getitem.lookup (getItem_str (c := c) (by
    have e1 : decide (i < -(2 ^ 63 : Int)) = false := decide_eq_false (by omega)
    have e2 : decide (i ≥ 2 ^ 63) = false := decide_eq_false (by omega)
    rw [e1, e2] <;> rfl) (by rw [e]; exact hc) ⟨.str ⟨#[c]⟩, H2, I2.tok _, ⟨_, rfl⟩, q⟩) (hs _ _)
/-- b[i], 0 ≤ i < len -/
theorem pe_item_byt (ha : PE X a ta) (hb : PE X b tb) (hs : PlainIxT b) :
    PE X (.Subscript a b pos) (tOp (fun x y H Q => ∃ (z : List UInt8) (i : Int), x = .byt z.toArray ∧ y = .int i ∧ z.length ≤ sizeLine ∧ 0 ≤ i ∧ i < z.length ∧ Q (.int ((z.getD i.toNat 0).toNat : Nat)) H) ta tb) := by
  intro pins s σ H Q I h
  refine Subscript_ (binT ha hb I h fun v u s2 x y H2 I2 rx ry q => ?_)
  obtain ⟨z, i, rfl, rfl, hz, h0, h1, q⟩ := q
  obtain ⟨t, rfl⟩ := rx
  obtain ⟨t', rfl⟩ := ry
  have hl : sizeLine = 16777216 := sizeLine_eq
  exact tail_any (PySem.W.typeIs_bytes s2 z.toArray t) PySem.W.FB.slot_bytes_getitem.lookup (PySem.W.getItem_bytes (by omega) h0 h1 ⟨.int ((z.getD i.toNat 0).toNat : Nat), H2, I2.tok _, ⟨_, rfl⟩, q⟩) (hs _ _)

/-! ### scalar builtins, by CallR -/
theorem vals1 {x : V} {us : List Value} (r : Vals [x] us) : ∃ u, us = [u] ∧ RelV x u := by
  cases r with
  | cons r1 r2 => cases r2; exact ⟨_, rfl, r1⟩
theorem vals2 {x y : V} {us : List Value} (r : Vals [x, y] us) : ∃ u w', us = [u, w'] ∧ RelV x u ∧ RelV y w' := by
  cases r with
  | cons r1 r2 =>
    cases r2 with
    | cons r3 r4 => cases r4; exact ⟨_, _, rfl, r1, r3⟩
theorem call_abs : CallR X (.builtin "abs") (fun xs H Q => ∃ i, xs = [.int i] ∧ Q (.int (if i < 0 then -i else i)) H) := by
  intro pins s σ H xs us Q I r h
  obtain ⟨i, rfl, q⟩ := h
  obtain ⟨u, rfl, t, rfl⟩ := vals1 r
  exact call_abs_int fun u tk => ⟨.int (if i < 0 then -i else i), H, I.tok _, ⟨_, rfl⟩, q⟩
theorem call_max2 (hc : X.calm = true) : CallR X (.builtin "max") (fun xs H Q => ∃ i j, xs = [.int i, .int j] ∧ Q (.int (if j > i then j else i)) H) := by
  intro pins s σ H xs us Q I r h
  obtain ⟨i, j, rfl, q⟩ := h
  obtain ⟨u, w', rfl, ⟨t, rfl⟩, ⟨t', rfl⟩⟩ := vals2 r
  refine max_two_ints (I.ok.hd hc) fun h' tk k => ⟨_, H, I.kept k, ?_, q⟩
  by_cases hj : j > i
  · rw [if_pos hj, if_pos hj]; exact ⟨_, rfl⟩
  · rw [if_neg hj, if_neg hj]; exact ⟨_, rfl⟩
theorem call_min2 (hc : X.calm = true) : CallR X (.builtin "min") (fun xs H Q => ∃ i j, xs = [.int i, .int j] ∧ Q (.int (if j < i then j else i)) H) := by
  intro pins s σ H xs us Q I r h
  obtain ⟨i, j, rfl, q⟩ := h
  obtain ⟨u, w', rfl, ⟨t, rfl⟩, ⟨t', rfl⟩⟩ := vals2 r
  refine min_two_ints (I.ok.hd hc) fun h' tk k => ⟨_, H, I.kept k, ?_, q⟩
  by_cases hj : j < i
  · rw [if_pos hj, if_pos hj]; exact ⟨_, rfl⟩
  · rw [if_neg hj, if_neg hj]; exact ⟨_, rfl⟩
theorem call_int1 : CallR X (.type "int") (fun xs H Q => (∃ i, xs = [.int i] ∧ Q (.int i) H) ∨ ∃ k, xs = [.bl k] ∧ Q (.int (if k then 1 else 0)) H) := by
  intro pins s σ H xs us Q I r h
  rcases h with ⟨i, rfl, q⟩ | ⟨k, rfl, q⟩
  · obtain ⟨u, rfl, t, rfl⟩ := vals1 r
    exact call_int_int ⟨.int i, H, I, ⟨_, rfl⟩, q⟩
  · obtain ⟨u, rfl, r1⟩ := vals1 r
    cases r1
    exact call_int_bool ⟨.int (if k then 1 else 0), H, I.tok _, ⟨_, rfl⟩, q⟩
theorem call_bool1 : CallR X (.type "bool") (fun xs H Q => (∃ i, xs = [.int i] ∧ Q (.bl (i != 0)) H) ∨ ∃ k, xs = [.bl k] ∧ Q (.bl k) H) := by
  intro pins s σ H xs us Q I r h
  rcases h with ⟨i, rfl, q⟩ | ⟨k, rfl, q⟩
  · obtain ⟨u, rfl, t, rfl⟩ := vals1 r
    exact call_bool_int ⟨.bl (i != 0), H, I, rfl, q⟩
  · obtain ⟨u, rfl, r1⟩ := vals1 r
    cases r1
    exact call_bool_bool ⟨.bl k, H, I, rfl, q⟩
theorem call_str_int : CallR X (.type "str") (fun xs H Q => ∃ i, xs = [.int i] ∧ i.natAbs.log2 < 1920 ∧ Q (.str (toString i)) H) := by
  intro pins s σ H xs us Q I r h
  obtain ⟨i, rfl, hz, q⟩ := h
  obtain ⟨u, rfl, t, rfl⟩ := vals1 r
  exact PySem.P.str_of_int hz ⟨.str _, H, I.tok _, ⟨_, rfl⟩, q⟩
theorem call_ord : CallR X (.builtin "ord") (fun xs H Q => ∃ x, xs = [.str x] ∧ x.length = 1 ∧ Q (.int (x.cps.getD 0 0 : Nat)) H) := by
  intro pins s σ H xs us Q I r h
  obtain ⟨x, rfl, hz, q⟩ := h
  obtain ⟨u, rfl, t, rfl⟩ := vals1 r
  exact ord_of_one hz ⟨.int _, H, I.tok _, ⟨_, rfl⟩, q⟩
theorem call_chr : CallR X (.builtin "chr") (fun xs H Q => ∃ i, xs = [.int i] ∧ 0 ≤ i ∧ i ≤ 1114111 ∧ Q (.str ⟨#[i.toNat]⟩) H) := by
  intro pins s σ H xs us Q I r h
  obtain ⟨i, rfl, h0, h1, q⟩ := h
  obtain ⟨u, rfl, t, rfl⟩ := vals1 r
  exact chr_of_range h0 h1 ⟨.str _, H, I.tok _, ⟨_, rfl⟩, q⟩
/-- len of a str, a bytes, a list, a tuple -/
def LenV (K : PySem.W.Frag) (x : V) (H : Hp) (n : Nat) : Prop :=
  match x with
  | .str y => y.length ≤ sizeLine ∧ n = y.length
  | .byt y => y.size ≤ sizeLine ∧ n = y.size
  | .ref p => (∃ xs, SqL K H p xs ∧ n = xs.length) ∨ ∃ xs, SqT K H p xs ∧ n = xs.length
  | _ => False
theorem call_len : CallR X (.builtin "len") (fun xs H Q => ∃ x n, xs = [x] ∧ LenV X.K x H n ∧ Q (.int n) H) := by
  intro pins s σ H xs us Q I r h
  obtain ⟨x, n, rfl, e, q⟩ := h
  obtain ⟨u, rfl, rx⟩ := vals1 r
  have hl := line63
  have hs : sizeLine = 16777216 := sizeLine_eq
  cases x with
  | str y =>
    obtain ⟨t, rfl⟩ := rx
    obtain ⟨hy, e'⟩ : y.length ≤ sizeLine ∧ n = y.length := e
    subst e'
    exact len_str (by omega) ⟨.int _, H, I.tok _, ⟨_, rfl⟩, q⟩
  | byt y =>
    obtain ⟨t, rfl⟩ := rx
    obtain ⟨hy, e'⟩ : y.size ≤ sizeLine ∧ n = y.size := e
    subst e'
    exact PySem.W.len_bytes (by omega) ⟨.int _, H, I.tok _, ⟨_, rfl⟩, q⟩
  | ref p =>
    cases rx
    have e' : (∃ xs, SqL X.K H p xs ∧ n = xs.length) ∨ ∃ xs, SqT X.K H p xs ∧ n = xs.length := e
    rcases e' with ⟨xs, hx, e'⟩ | ⟨xs, hx, e'⟩
    · subst e'
      obtain ⟨its, r', pl, hz⟩ := I.list hx
      have hlen := r'.length
      exact Calls.call_len_list pl.isList (by simp only [List.size_toArray]; omega) ⟨.int xs.length, H, I.tok _, ⟨_, by simp only [List.size_toArray]; rw [hlen]⟩, q⟩
    · subst e'
      obtain ⟨its, r', pl, hz⟩ := I.tuple hx
      have hlen := r'.length
      exact len_tuple pl (by simp only [List.size_toArray]; omega) ⟨.int xs.length, H, I.tok _, ⟨_, by simp only [List.size_toArray]; rw [hlen]⟩, q⟩
  | _ => exact (show False from e).elim
/-- divmod: a new tuple -/
theorem call_divmod : CallR X (.builtin "divmod") (fun xs H Q => ∃ i j, xs = [.int i, .int j] ∧ CDiv i j ∧ ∀ p, H p = none → Q (.ref p) (upd H p (.tup [.int (i / j), .int (i % j)]))) := by
  intro pins s σ H xs us Q I r h
  obtain ⟨i, j, rfl, ⟨h1, h2⟩, q⟩ := h
  obtain ⟨u, w', rfl, ⟨t, rfl⟩, ⟨t', rfl⟩⟩ := vals2 r
  refine divmod_int (by omega) ?_ (.inl (PyProof.noPylong_small (by omega)))
  rw [Int.fdiv_eq_ediv_of_nonneg i (by omega), Int.fmod_eq_emod_of_nonneg i (by omega)]
  have hn : H s.heap.objs.size = none := I.hok.fresh (Nat.le_refl _)
  refine ⟨.ref s.heap.objs.size, _, ?_, rfl, q _ hn⟩
  refine I.laid (fun b o e => Heap.get?_push_of_some _ e) (Nat.le_refl _) ⟨by simp only [List.length_cons, List.length_nil]; rw [sizeLine_eq]; decide, [.int (i / j) s.toks, .int (i % j) (s.toks + 1)], .cons ⟨_, rfl⟩ (.cons ⟨_, rfl⟩ .nil), ?_⟩
  exact ⟨_, Heap.get?_push_size s.heap rfl, rfl, 0, rfl⟩
end
end L2

namespace L2
open PySem PySem.Spec PyProof.Rows

/-! ### an instance, its attributes a map -/
structure ObjM (h : Heap) (x dx C : Addr) (mA : Str → Option Value) : Prop where
  obj : h.get? x = some (PySem.W.instObj C dx)
  ns : h.Ns1 dx mA
  ne : dx ≠ x

theorem lookIn_ns {h : Heap} {dx : Addr} {mA : Str → Option Value} (n : h.Ns1 dx mA) : ∃ od, h.get? dx = some od ∧ ∀ name, PySem.W.lookIn name od = some (mA name) := by
  obtain ⟨o, es, ep, ho, hd, hk, _, hm⟩ := n
  refine ⟨o, ho, fun name => ?_⟩
  have e := hm name
  unfold nsFind findBy at e
  rw [← Array.find?_toList] at e
  unfold PySem.W.lookIn
  rw [hd]
  dsimp only
  split
  · rename_i y q
    rw [q] at e
    exact congrArg some e
  · rename_i q
    rw [q] at e
    have a : es.toList.any (·.refKey) = false := by
      rw [List.any_eq_false]
      intro y hy
      obtain ⟨z, t, hkey⟩ := hk y (Array.mem_toList_iff.mp hy)
      simp [DictEntry.refKey, hkey]
    have a' : ¬ es.toList.any (·.refKey) = true := by rw [a]; exact Bool.false_ne_true
    rw [if_neg a']
    exact congrArg some e

theorem ObjM.look {h : Heap} {x dx C : Addr} {mA : Str → Option Value} (I : ObjM h x dx C mA) : ∃ od, PySem.W.InstAt h x (PySem.W.instObj C dx) C (some od) ∧ ∀ name, PySem.W.lookIn name od = some (mA name) :=
  let ⟨od, ho, hl⟩ := lookIn_ns I.ns
  ⟨od, ⟨I.obj, rfl, rfl, ho⟩, hl⟩

section
variable {prog : Program} {w : World} {A : Around} {E : Value → Shared → Prop} {s : Shared} {K : PySem.W.Frag} {x dx C f : Addr} {mA : Str → Option Value} {name : Str} {v : Value}

theorem get_map {expr : Bool} {Q : Value → Shared → Prop} (X : K.In s.heap) (I : ObjM s.heap x dx C mA) (hg : PySem.W.plainGet K C name = true) (hh : PySem.W.hasDictIn K C = true)
    (ha : PySem.W.findIn K (.ref C) name = some none) (hv : mA name = some v) (hv' : PySem.W.handedIn v = true) (h : Q v { s with toks := s.toks + 1 }) :
    wpAny (model prog w) A (getAttr (.ref x) name expr) Q E s := by
  obtain ⟨od, J, hl⟩ := I.look
  exact PySem.W.get_value X J (PySem.W.plainGet_of hg).1 (PySem.W.findObj_own hh ha rfl (by rw [hl, hv])) hv' h

theorem get_const {expr : Bool} {a : Value} {Q : Value → Shared → Prop} (X : K.In s.heap) (I : ObjM s.heap x dx C mA) (hg : PySem.W.plainGet K C name = true) (hh : PySem.W.hasDictIn K C = true)
    (ha : PySem.W.findIn K (.ref C) name = some (some a)) (hn : PySem.W.specialIn K a "__get__" = some none) (hc : PySem.W.copiedNames.contains name = false) (hv : mA name = none) (hv' : PySem.W.handedIn a = true)
    (h : Q a { s with toks := s.toks + 1 }) : wpAny (model prog w) A (getAttr (.ref x) name expr) Q E s := by
  obtain ⟨od, J, hl⟩ := I.look
  exact PySem.W.get_value X J (PySem.W.plainGet_of hg).1 (PySem.W.findObj_cls hh ha hn hv' hc (by rw [hl, hv])) hv' h

theorem get_meth {pl : Sem Bool} {Q : Value × List Value → Shared → Prop} (X : K.In s.heap) (I : ObjM s.heap x dx C mA) (hg : PySem.W.plainGet K C name = true)
    (hf : PySem.W.findIn K (.ref C) name = some (some (.ref f))) (ht : PySem.W.isFn K (.ref f) = true) (hv : mA name = none) (h : Q (.ref f, [.ref x]) s) :
    wpAny (model prog w) A (getMethod (.ref x) name pl) Q E s := by
  obtain ⟨od, J, hl⟩ := I.look
  exact PySem.W.method_fn X J (PySem.W.plainGet_of hg).1 (PySem.W.plainGet_of hg).2 hf (beq_iff_eq.mp ht) (by show (PySem.W.lookIn name od).map (·.isSome) = some false; rw [hl, hv]; rfl) h

theorem set_map {ns : List Str} {Q : Unit → Shared → Prop} (X : K.In s.heap) (I : ObjM s.heap x dx C mA)
    (hs : PySem.W.findIn K (.ref C) "__setattr__" = some (some (.builtin "object.__setattr__"))) (hp : PySem.W.plainOver K C = true) (ht : PySem.W.takerIn K C name = some none) (hh : PySem.W.hasDictIn K C = true)
    (hw : PySem.Within mA ns) (hsz : ns.length ≤ sizeLine)
    (h : ∀ h', ObjM h' x dx C (fun y => if y = name then some v else mA y) → Heap.SameBut dx s.heap h' → Q () { s with heap := h', toks := s.toks + 2 }) :
    wpAny (model prog w) A (setAttr (.ref x) name v) Q E s := by
  obtain ⟨od, J, hl⟩ := I.look
  refine PySem.W.set_plain X J hs (PySem.W.osa_open (s := { s with toks := s.toks + 1 }) (r := none) X J hp ht fun b => ?_)
  obtain ⟨cd, hc, hd'⟩ := PySem.W.any_some hh
  have hx : s.heap.get? x = some ⟨.ref C, some dx, .plain, #[]⟩ := I.obj
  refine wpAny_bind (wpAny_pure (wpAny_bind (wpAny_bind (wpAny_loadPart hx (wpAny_bind (PySem.W.Looks.here (s := { s with toks := s.toks + 1 }) (PySem.W.looks_clsIn X hc) ?_))))))
  rw [hd']
  refine wpAny_pure (a := some dx) (wpAny_bind (wpAny_pure (wpAny_bind ?_)))
  refine wpAny_nsSet1 (s := { s with toks := s.toks + 1 }) I.ns fun h' hn2 hs2 => ?_
  obtain ⟨oD, esD, epD, hoD, hdD, hcD⟩ := hn2.count (PySem.Within.cons name v hw)
  refine wpAny_bind (wpAny_lookBehind hoD (by rw [hdD]; exact pastItsLine_dict (Nat.le_trans hcD (by rw [List.length_cons]; omega))) ?_)
  exact wpAny_pure (h _ ⟨(hs2.2 _ (Ne.symm I.ne)).trans I.obj, hn2, I.ne⟩ hs2)

/-- C(..): the dict at the heap's end, the instance behind it; then its __init__ -/
theorem make_map {R : Result → Shared → Prop} {vs : List Value} {kw : List (Str × Value)} (X : K.In s.heap) (hm : PySem.W.makesIn K C = true)
    (hi : PySem.W.findIn K (.ref C) "__init__" = some (some (.ref f))) (hf : PySem.W.typeIn K (.ref f) = some (.type "function"))
    (h : codeAny (model prog w) (A.under (.builtin "type.__call__" ⟨.ref C :: vs, kw⟩)) (.call (.ref f) ⟨.ref (s.heap.objs.size + 1) :: vs, kw⟩) (PySem.W.InitBack (s.heap.objs.size + 1) R)
      { s with heap := (s.heap.push PySem.W.emptyDict).push (PySem.W.instObj C s.heap.objs.size) }) :
    codeAny (model prog w) A (.call (.ref C) ⟨vs, kw⟩) R s := by
  obtain ⟨hh, g, d, t, os⟩ := s
  exact PySem.W.make_core (PySem.W.makes_of X hm) (PySem.W.looks_findIn X hi) (fun self => PySem.W.bind_fn X self hf) (.inl rfl) h
/-- C() where there is no __init__ but object's -/
theorem make_map0 {R : Result → Shared → Prop} (X : K.In s.heap) (hm : PySem.W.makesIn K C = true)
    (hi : PySem.W.findIn K (.ref C) "__init__" = some (some (.builtin "object.__init__")))
    (hb : ∀ self, PySem.W.Looks (model prog w) s.heap (bindSpecial (.builtin "object.__init__") self) (.builtin "object.__init__", [self]))
    (h : codeAny (model prog w) (A.under (.builtin "type.__call__" ⟨[.ref C], []⟩)) (.call (.builtin "object.__init__") ⟨[.ref (s.heap.objs.size + 1)], []⟩) (PySem.W.InitBack (s.heap.objs.size + 1) R)
      { s with heap := (s.heap.push PySem.W.emptyDict).push (PySem.W.instObj C s.heap.objs.size) }) :
    codeAny (model prog w) A (.call (.ref C) ⟨[], []⟩) R s := by
  obtain ⟨hh, g, d, t, os⟩ := s
  exact PySem.W.make_core (PySem.W.makes_of X hm) (PySem.W.looks_findIn X hi) hb (.inr ⟨rfl, rfl⟩) h
end

/-! ### the attributes as a list of pairs -/
def putF (f : Str) (v : V) : List (Str × V) → List (Str × V)
  | [] => [(f, v)]
  | (g, x) :: r => if g = f then (g, v) :: r else (g, x) :: putF f v r
theorem lookup_putF (f g : Str) (v : V) : ∀ fs : List (Str × V), (putF f v fs).lookup g = if g = f then some v else fs.lookup g
  | [] => by
    show List.lookup g [(f, v)] = _
    by_cases h : g = f
    · have hb : (g == f) = true := beq_iff_eq.mpr h
      simp only [List.lookup, hb, if_pos h]
    · have hb : (g == f) = false := beq_eq_false_iff_ne.mpr h
      simp only [List.lookup, hb, if_neg h]
  | (k, x) :: r => by
    have ih := lookup_putF f g v r
    rw [show putF f v ((k, x) :: r) = (if k = f then (k, v) :: r else (k, x) :: putF f v r) from rfl]
    by_cases hk : k = f
    · rw [if_pos hk]
      by_cases h : g = k
      · have hb : (g == k) = true := beq_iff_eq.mpr h
        simp only [List.lookup, hb, if_pos (h.trans hk)]
      · have hb : (g == k) = false := beq_eq_false_iff_ne.mpr h
        simp only [List.lookup, hb, if_neg (fun e : g = f => h (e.trans hk.symm))]
    · rw [if_neg hk]
      by_cases h : g = k
      · have hb : (g == k) = true := beq_iff_eq.mpr h
        simp only [List.lookup, hb, if_neg (fun e : g = f => hk (h.symm.trans e))]
      · have hb : (g == k) = false := beq_eq_false_iff_ne.mpr h
        simp only [List.lookup, hb]
        exact ih
theorem keys_putF (f : Str) (v : V) : ∀ fs : List (Str × V), f ∈ (putF f v fs).map (·.1) ∧ ∀ g, g ∈ fs.map (·.1) → g ∈ (putF f v fs).map (·.1)
  | [] => ⟨by simp [putF], fun g h => by simp at h⟩
  | (k, x) :: r => by
    obtain ⟨i1, i2⟩ := keys_putF f v r
    rw [show putF f v ((k, x) :: r) = (if k = f then (k, v) :: r else (k, x) :: putF f v r) from rfl]
    by_cases hk : k = f
    · rw [if_pos hk]
      subst hk
      exact ⟨by simp, fun g h => by simpa using h⟩
    · rw [if_neg hk]
      refine ⟨?_, fun g h => ?_⟩
      · rw [List.map_cons]
        exact List.mem_cons_of_mem _ i1
      · rw [List.map_cons] at h ⊢
        rcases List.mem_cons.mp h with e | e
        · exact List.mem_cons.mpr (.inl e)
        · exact List.mem_cons_of_mem _ (i2 g e)
theorem length_putF (f : Str) (v : V) : ∀ fs : List (Str × V), (putF f v fs).length ≤ fs.length + 1
  | [] => by simp [putF]
  | (k, x) :: r => by
    have ih := length_putF f v r
    rw [show putF f v ((k, x) :: r) = (if k = f then (k, v) :: r else (k, x) :: putF f v r) from rfl]
    by_cases hk : k = f
    · rw [if_pos hk, List.length_cons, List.length_cons]; omega
    · rw [if_neg hk, List.length_cons, List.length_cons]; omega

theorem RelO.some_of {v : V} {o : Option Value} (r : RelO (some v) o) : ∃ u, o = some u ∧ RelV v u := by
  cases o with
  | none => exact (show False from r).elim
  | some u => exact ⟨u, rfl, r⟩
theorem RelO.none_of {o : Option Value} (r : RelO none o) : o = none := by
  cases o with
  | none => rfl
  | some u => exact (show False from r).elim
theorem handed_of {v : V} {u : Value} (r : RelV v u) : PySem.W.handedIn u = true := by
  cases v with
  | non => cases (show u = Value.none from r); rfl
  | bl b => cases (show u = Value.bool b from r); rfl
  | int i => obtain ⟨t, e⟩ := (show ∃ t, u = Value.int i t from r); cases e; rfl
  | str x => obtain ⟨t, e⟩ := (show ∃ t, u = Value.str x t from r); cases e; rfl
  | byt b => obtain ⟨t, e⟩ := (show ∃ t, u = Value.bytes b t from r); cases e; rfl
  | flt b => obtain ⟨t, e⟩ := (show ∃ t, u = Value.float b t from r); cases e; rfl
  | ref a => cases (show u = Value.ref a from r); rfl
  | ty n => cases (show u = Value.type n from r); rfl

section
variable {P : Program} {w : World} {H H' : Hp} {h h' : Heap} {a C dx : Addr} {fs fs' : List (Str × V)}
theorem ins_get (hok : HOk P w H h) (e : H a = some (.ins C dx fs)) : ∃ mA, ObjM h a dx C mA ∧ (∀ f, RelO (fs.lookup f) (mA f)) ∧ PySem.Within mA (fs.map (·.1)) ∧ fs.length ≤ 1000 ∧ H dx = some (.own a) := by
  obtain ⟨d, z, ne, ob, mA, n, r, q⟩ := (show ObjOk P w H h a (.ins C dx fs) from hok a _ e)
  exact ⟨mA, ⟨ob, n, ne⟩, r, q, z, d⟩
end

/-! ### what of the text a class must have -/
structure Cls (K : PySem.W.Frag) (C : Addr) : Prop where
  pg : PySem.W.plainGet K C Str.empty = true
  hd : PySem.W.hasDictIn K C = true
  po : PySem.W.plainOver K C = true
  sa : PySem.W.findIn K (.ref C) "__setattr__" = some (some (.builtin "object.__setattr__"))
theorem Cls.get {K : PySem.W.Frag} {C : Addr} (c : Cls K C) (f : Str) : PySem.W.plainGet K C f = true := c.pg
/-- no class of it has the name -/
def NoAttr (K : PySem.W.Frag) (C : Addr) (f : Str) : Prop := PySem.W.findIn K (.ref C) f = some none
theorem NoAttr.taker {K : PySem.W.Frag} {C : Addr} {f : Str} (n : NoAttr K C f) : PySem.W.takerIn K C f = some none := by
  unfold PySem.W.takerIn
  rw [show PySem.W.findIn K (.ref C) f = some none from n]
  rfl
/-- a constant of the class -/
structure Con (K : PySem.W.Frag) (C : Addr) (f : Str) (v : V) (u : Value) : Prop where
  at_ : PySem.W.findIn K (.ref C) f = some (some u)
  rel : RelV v u
  get : PySem.W.specialIn K u "__get__" = some none
  cp : PySem.W.copiedNames.contains f = false
/-- a method: a plain def of the class or of one above it -/
structure Meth (K : PySem.W.Frag) (C : Addr) (m : Str) (f : Addr) : Prop where
  at_ : PySem.W.findIn K (.ref C) m = some (some (.ref f))
  fn : PySem.W.isFn K (.ref f) = true
  kp : PySem.W.keepIn K (.ref f) = true

section
variable {X : Cx} {pins : List (Addr × Obj)} {σ : St} {H : Hp} {s : Shared} {a C dx : Addr} {fs : List (Str × V)} {f : Str} {v : V} {A : Around} {E : Value → Shared → Prop}

theorem getattr_ok {b : Bool} {Q : Value → Shared → Prop} (I : Inv X pins σ H s) (e : H a = some (.ins C dx fs)) (c : Cls X.K C) (n : NoAttr X.K C f) (l : fs.lookup f = some v)
    (h : ∀ u s', Inv X pins σ H s' → RelV v u → Q u s') : wpAny (model X.prog X.w) A (getAttr (.ref a) f b) Q E s := by
  obtain ⟨mA, O, r, _, _, _⟩ := ins_get I.hok e
  obtain ⟨u, hu, ru⟩ := RelO.some_of (v := v) (o := mA f) (by rw [← l]; exact r f)
  exact get_map I.kIn O (c.get f) c.hd n hu (handed_of ru) (h u _ (I.tok _) ru)

theorem getcon_ok {b : Bool} {u : Value} {Q : Value → Shared → Prop} (I : Inv X pins σ H s) (e : H a = some (.ins C dx fs)) (c : Cls X.K C) (k : Con X.K C f v u) (l : fs.lookup f = none)
    (h : ∀ s', Inv X pins σ H s' → Q u s') : wpAny (model X.prog X.w) A (getAttr (.ref a) f b) Q E s := by
  obtain ⟨mA, O, r, _, _, _⟩ := ins_get I.hok e
  have hn : mA f = none := RelO.none_of (by rw [← l]; exact r f)
  exact get_const I.kIn O (c.get f) c.hd k.at_ k.get k.cp hn (handed_of k.rel) (h _ (I.tok _))

theorem getmeth_ok {m : Str} {g : Addr} {pl : Sem Bool} {Q : Value × List Value → Shared → Prop} (I : Inv X pins σ H s) (e : H a = some (.ins C dx fs)) (c : Cls X.K C) (k : Meth X.K C m g) (l : fs.lookup m = none)
    (h : Q (.ref g, [.ref a]) s) : wpAny (model X.prog X.w) A (getMethod (.ref a) m pl) Q E s := by
  obtain ⟨mA, O, r, _, _, _⟩ := ins_get I.hok e
  have hn : mA m = none := RelO.none_of (by rw [← l]; exact r m)
  exact get_meth I.kIn O (c.get m) k.at_ k.fn hn h

theorem setattr_ok {y : V} {u : Value} {Q : Unit → Shared → Prop} (I : Inv X pins σ H s) (e : H a = some (.ins C dx fs)) (c : Cls X.K C) (n : NoAttr X.K C f) (hl : fs.length < 1000) (ry : RelV y u)
    (h : ∀ s', Inv X pins σ (upd H a (.ins C dx (putF f y fs))) s' → Q () s') : wpAny (model X.prog X.w) A (setAttr (.ref a) f u) Q E s := by
  obtain ⟨mA, O, r, wi, _, ho⟩ := ins_get I.hok e
  have hz : (fs.map (·.1)).length ≤ sizeLine := by rw [List.length_map, sizeLine_eq]; omega
  refine set_map I.kIn O c.sa c.po n.taker c.hd wi hz fun h' O' sb => h _ ?_
  have hd : ∃ o, h'.get? dx = some o := let ⟨o, _, _, e', _⟩ := O'.ns; ⟨o, e'⟩
  refine I.write (x := a) (e := dx) (by rw [e]; exact True.intro) (.inr ho) (fun b q hb z => (sb.2 b hb).trans z) hd ?_
  refine ⟨by rw [upd_ne O.ne]; exact ho, ?_, O.ne, O'.obj, _, O'.ns, fun g => ?_, fun g hg => ?_⟩
  · have := length_putF f y fs; omega
  · show RelO ((putF f y fs).lookup g) (if g = f then some u else mA g)
    rw [lookup_putF]
    by_cases q : g = f
    · rw [if_pos q, if_pos q]; exact ry
    · rw [if_neg q, if_neg q]; exact r g
  · by_cases q : g = f
    · rw [q]; exact (keys_putF f y fs).1
    · refine (keys_putF f y fs).2 g (wi g fun z => hg ?_)
      show (if g = f then some u else mA g) = none
      rw [if_neg q]; exact z

/-- a new instance, tracked, without attributes -/
theorem Inv.made (I : Inv X pins σ H s) : Inv X pins σ (upd (upd H s.heap.objs.size (.own (s.heap.objs.size + 1))) (s.heap.objs.size + 1) (.ins C s.heap.objs.size []))
    { s with heap := (s.heap.push PySem.W.emptyDict).push (PySem.W.instObj C s.heap.objs.size) } := by
  have e1 : (s.heap.push PySem.W.emptyDict).get? s.heap.objs.size = some PySem.W.emptyDict := Heap.get?_push_size s.heap rfl
  have e2 : ((s.heap.push PySem.W.emptyDict).push (PySem.W.instObj C s.heap.objs.size)).get? (s.heap.objs.size + 1) = some (PySem.W.instObj C s.heap.objs.size) := by
    have := Heap.get?_push_size (s.heap.push PySem.W.emptyDict) (o := PySem.W.instObj C s.heap.objs.size) rfl
    rwa [Heap.size_push] at this
  have e3 : (s.heap.push PySem.W.emptyDict).Ns s.heap.objs.size (fun _ => none) := ⟨PySem.W.emptyDict, #[], _, e1, rfl, (fun e he => absurd he (by simp)), fun _ => rfl⟩
  have I1 := I.laid (a := s.heap.objs.size) (o := .own (s.heap.objs.size + 1)) (h' := s.heap.push PySem.W.emptyDict) (t' := s.toks) (fun b u q => Heap.get?_push_of_some _ q) (Nat.le_refl _) ⟨_, e1⟩
  refine I1.laid (a := s.heap.objs.size + 1) (o := .ins C s.heap.objs.size []) (t' := s.toks) (fun b u q => Heap.get?_push_of_some _ q) (Nat.le_of_eq (Heap.size_push _ _)) ?_
  have ne : s.heap.objs.size ≠ s.heap.objs.size + 1 := Nat.ne_of_lt (Nat.lt_succ_self _)
  refine ⟨by rw [upd_ne ne, upd_same], Nat.zero_le _, ne, e2, fun _ => none, (Heap.Ns1.of_empty e3).at fun o q => Heap.get?_push_of_some _ q, fun _ => True.intro, fun y hy => absurd rfl hy⟩

/-- e.f where nothing but the object is asked: through attributeBase (super) and the last hold -/
theorem attr_of {prog : Program} {w : World} {env : Env} {e : Expr} {f : Str} {pos : Pos} {s : Shared} {Q : Value → Shared → Prop} (hb : attributeBase e f env (eval e env) = eval e env)
    (h : wpAny (model prog w) A (eval e env) (fun o s₁ => wpAny (model prog w) A (getAttr o f true) Q E s₁) E s) : wpAny (model prog w) A (eval (.Attribute e f pos) env) Q E s :=
  Attribute_any_ h (by rw [arm_eval_Attribute, hb])
end

/-! ### readings and rules -/
/-- e.f, an attribute of the instance -/
def tFld (K : PySem.W.Frag) (ta : TE) (f : Str) : TE := fun σ H Q => ta σ H fun x H1 => ∃ a C dx fs v, x = .ref a ∧ H1 a = some (.ins C dx fs) ∧ Cls K C ∧ NoAttr K C f ∧ fs.lookup f = some v ∧ Q v H1
/-- e.f, a constant of the class -/
def tCon (K : PySem.W.Frag) (ta : TE) (f : Str) : TE := fun σ H Q => ta σ H fun x H1 => ∃ a C dx fs v u, x = .ref a ∧ H1 a = some (.ins C dx fs) ∧ Cls K C ∧ Con K C f v u ∧ fs.lookup f = none ∧ Q v H1
/-- e.f = value -/
def sFld (K : PySem.W.Frag) (ta tv : TE) (f : Str) : TS := fun D σ H => tv σ H fun y H1 => ta σ H1 fun x H2 => ∃ a C dx fs, x = .ref a ∧ H2 a = some (.ins C dx fs) ∧ Cls K C ∧ NoAttr K C f ∧ fs.length < 1000 ∧
  D.nx σ (upd H2 a (.ins C dx (putF f y fs)))
/-- an augmented operator on two values -/
def InOp (X : Cx) (op : Operator) (rd : V → V → Hp → VK → Prop) : Prop :=
  ∀ (pins : List (Addr × Obj)) (s : Shared) (σ : St) (H : Hp) (x y : V) (u v : Value) (Q : VK), Inv X pins σ H s → RelV x u → RelV y v → rd x y H Q → wpAny (model X.prog X.w) X.A (inplaceOp op u v) (EP X pins σ Q) X.xe s
/-- e.f op= value -/
def sFldAug (K : PySem.W.Frag) (ta tv : TE) (rd : V → V → Hp → VK → Prop) (f : Str) : TS := fun D σ H => ta σ H fun x H1 => ∃ a C dx fs v, x = .ref a ∧ H1 a = some (.ins C dx fs) ∧ Cls K C ∧ NoAttr K C f ∧ fs.lookup f = some v ∧
  tv σ H1 fun y H2 => rd v y H2 fun z H3 => ∃ dx' fs', H3 a = some (.ins C dx' fs') ∧ fs'.length < 1000 ∧ D.nx σ (upd H3 a (.ins C dx' (putF f z fs')))

section
variable {X : Cx} {o e value : Expr} {f : Str} {pos pos' tpos : Pos} {ta tv : TE}
theorem pe_fld (he : PE X e ta) (hb : attributeBase e f X.env (eval e X.env) = eval e X.env) : PE X (.Attribute e f pos) (tFld X.K ta f) := by
  intro pins s σ H Q I h
  refine attr_of hb (thn (he pins s σ H _ I h) fun u s1 ⟨x, H1, I1, rx, a, C, dx, fs, v, ex, ea, c, n, l, q⟩ => ?_)
  subst ex
  obtain rfl : u = Value.ref a := rx
  exact getattr_ok I1 ea c n l fun u' s2 I2 ru => ⟨v, H1, I2, ru, q⟩
theorem pe_con (he : PE X e ta) (hb : attributeBase e f X.env (eval e X.env) = eval e X.env) : PE X (.Attribute e f pos) (tCon X.K ta f) := by
  intro pins s σ H Q I h
  refine attr_of hb (thn (he pins s σ H _ I h) fun u s1 ⟨x, H1, I1, rx, a, C, dx, fs, v, u0, ex, ea, c, k, l, q⟩ => ?_)
  subst ex
  obtain rfl : u = Value.ref a := rx
  exact getcon_ok I1 ea c k l fun s2 I2 => ⟨v, H1, I2, k.rel, q⟩
theorem ps_fld (ha : PE X o ta) (hv : PE X value tv) (hs : swapsWith value (some (.Attribute o f pos')) pos.line X.env = pure false) : PS X (.Assign [.Attribute o f pos'] value pos) (sFld X.K ta tv f) := by
  intro pins s σ H D I h
  refine plainObj_wpAny_Assign_Attribute (thn (hv pins s σ H _ I h) fun u s1 ⟨y, H1, I1, ry, q⟩ => thn (ha pins s1 σ H1 _ I1 q) fun ov s2 ⟨x, H2, I2, rx, a, C, dx, fs, ex, ea, c, n, l, q2⟩ => ?_) hs
  subst ex
  obtain rfl : ov = Value.ref a := rx
  exact setattr_ok I2 ea c n l ry fun s3 I3 => ⟨σ, _, I3, q2⟩
theorem ps_fldaug {op : Operator} {rd : V → V → Hp → VK → Prop} (ha : PE X o ta) (hv : PE X value tv) (hop : InOp X op rd) : PS X (.AugAssign (.Attribute o f tpos) op value pos) (sFldAug X.K ta tv rd f) := by
  intro pins s σ H D I h
  refine wpAny_AugAssign_AttributeAny (thn (ha pins s σ H _ I h) fun ov s1 ⟨x, H1, I1, rx, a, C, dx, fs, v, ex, ea, c, n, l, q⟩ => ?_)
  subst ex
  obtain rfl : ov = Value.ref a := rx
  refine getattr_ok I1 ea c n l fun u s2 I2 ru => thn (hv pins s2 σ H1 _ I2 q) fun w3 s3 ⟨y, H2, I3, ry, q3⟩ => thn (hop pins s3 σ H2 v y u w3 _ I3 ru ry q3) fun w4 s4 ⟨z, H3, I4, rz, dx', fs', ea', l', q4⟩ => ?_
  exact setattr_ok I4 ea' c n l' rz fun s5 I5 => ⟨σ, _, I5, q4⟩
def rAdd : V → V → Hp → VK → Prop := fun x y H Q => ∃ i j, x = .int i ∧ y = .int j ∧ Q (.int (i + j)) H
def rSub : V → V → Hp → VK → Prop := fun x y H Q => ∃ i j, x = .int i ∧ y = .int j ∧ Q (.int (i - j)) H
theorem in_add : InOp X .Add rAdd := by
  rintro pins s σ H x y u v Q I rx ry ⟨i, j, rfl, rfl, q⟩
  obtain ⟨t, rfl⟩ := (show ∃ t, u = Value.int i t from rx)
  obtain ⟨t', rfl⟩ := (show ∃ t', v = Value.int j t' from ry)
  exact PyProof.Rows.iadd_int ⟨.int (i + j), H, I.tok _, ⟨_, rfl⟩, q⟩
theorem in_sub : InOp X .Sub rSub := by
  rintro pins s σ H x y u v Q I rx ry ⟨i, j, rfl, rfl, q⟩
  obtain ⟨t, rfl⟩ := (show ∃ t, u = Value.int i t from rx)
  obtain ⟨t', rfl⟩ := (show ∃ t', v = Value.int j t' from ry)
  exact PyProof.Rows.isub_int ⟨.int (i - j), H, I.tok _, ⟨_, rfl⟩, q⟩

/-- what is between an instance and its method: the tree of a method call -/
theorem methcall_of {pl : Sem Bool} {m : Str} {apos : Pos} {args : List Expr} {pins : List (Addr × Obj)} {s : Shared} {σ : St} {H : Hp} {Q : Value → Shared → Prop} {te : TE} (he : PE X e te) (I : Inv X pins σ H s)
    (h : te σ H fun x H1 => ∃ a C dx fs g, x = .ref a ∧ H1 a = some (.ins C dx fs) ∧ Cls X.K C ∧ Meth X.K C m g ∧ fs.lookup m = none ∧
      ∀ s1, Inv X pins σ H1 s1 → wpAny (model X.prog X.w) X.A (callWith pos (.ref g) [.ref a] (backTo pos (starEach args X.env)) (backToKw pos (keywordEach [] X.env))) Q X.xe s1)
    (ht : eval (.Call (.Attribute e m apos) args [] pos) X.env = (do
      let ov ← eval e X.env
      standAt apos.atName
      let (f, first) ← holding [ov] (getMethod ov m pl)
      callWith pos f first (backTo pos (starEach args X.env)) (backToKw pos (keywordEach [] X.env)))) :
    wpAny (model X.prog X.w) X.A (eval (.Call (.Attribute e m apos) args [] pos) X.env) Q X.xe s := by
  refine PySem.W.methodCall_KW (pl := pl) (thn (he pins s σ H _ I h) fun u s1 ⟨x, H1, I1, rx, a, C, dx, fs, g, ex, ea, c, k, l, q⟩ => ?_) ht
  subst ex
  obtain rfl : u = Value.ref a := rx
  exact getmeth_ok I1 ea c k l (q s1 I1)
end

/-! ### isinstance -/
section
variable {X : Cx} {pins : List (Addr × Obj)} {σ : St} {H : Hp} {s : Shared} {A : Around} {E : Value → Shared → Prop} {Q : Value → Shared → Prop} {c : Value} {b : Bool}
/-- the type of a value, as the fragment's deciders take it; for an instance its class -/
inductive TyOf (K : PySem.W.Frag) (H : Hp) : V → Value → Prop where
  | non : TyOf K H .non (.type "NoneType")
  | bl (x : Bool) : TyOf K H (.bl x) (.type "bool")
  | int (i : Int) : TyOf K H (.int i) (.type "int")
  | str (x : Str) : TyOf K H (.str x) (.type "str")
  | flt (x : UInt64) : TyOf K H (.flt x) (.type "float")
  | lst {a : Addr} {xs : List V} (e : H a = some (.lst xs)) : TyOf K H (.ref a) (.type "list")
  | frz {a : Addr} {o : Obj} {xs : List V} (e : H a = some (.frz o (.lst xs))) : TyOf K H (.ref a) (.type "list")
  | tup {a : Addr} {xs : List V} (e : H a = some (.tup xs)) : TyOf K H (.ref a) (.type "tuple")
  | dK {a : Addr} {kvs : List (Key × V)} (e : H a = some (.dK kvs)) : TyOf K H (.ref a) (.type "dict")
  | dT {a : Addr} {kvs : List (List Key × V)} (e : H a = some (.dT kvs)) : TyOf K H (.ref a) (.type "dict")
  | ins {a C dx : Addr} {fs : List (Str × V)} (e : H a = some (.ins C dx fs)) (cl : Cls K C) (ha : PySem.W.findIn K (.ref C) "__class__" = some (some (.builtin "object.__class__")))
      (hn : PySem.W.specialIn K (.builtin "object.__class__") "__get__" = some (some (.builtin "getset_descriptor.__get__"))) (htk : PySem.W.takesIn K (.builtin "object.__class__") = some true)
      (hm : PySem.W.mroIn K C (.type "object") = some true) : TyOf K H (.ref a) (.ref C)
/-- isinstance(x, c) for one class c, a built-in or an own one: kitOne's answer -/
theorem isinst_ok {x : V} {u t : Value} (I : Inv X pins σ H s) (rx : RelV x u) (ty : TyOf X.K H x t) (e : PySem.W.kitOne X.K t c = some b) (h : ∀ tk, Q (.bool b) { s with toks := tk }) :
    wpAny (model X.prog X.w) A (call (.builtin "isinstance") [u, c]) Q E s := by
  cases ty with
  | non => cases (show u = Value.none from rx); exact PySem.W.kia_one PySem.W.kitx_none I.kIn True.intro e (fun z => nomatch z) h
  | bl y => cases (show u = Value.bool y from rx); exact PySem.W.kia_one PySem.W.kitx_bool I.kIn True.intro e (fun z => nomatch z) h
  | int i => obtain ⟨t, q⟩ := (show ∃ t, u = Value.int i t from rx); cases q; exact PySem.W.kia_one PySem.W.kitx_int I.kIn True.intro e (fun z => nomatch z) h
  | str y => obtain ⟨t, q⟩ := (show ∃ t, u = Value.str y t from rx); cases q; exact PySem.W.kia_one PySem.W.kitx_str I.kIn True.intro e (fun z => nomatch z) h
  | flt y => obtain ⟨t, q⟩ := (show ∃ t, u = Value.float y t from rx); cases q; exact PySem.W.kia_one PySem.W.kitx_float I.kIn True.intro e (fun z => nomatch z) h
  | @lst a xs ea =>
    cases (show u = Value.ref a from rx)
    obtain ⟨_, _, n, _, h1⟩ := (show ObjOk X.prog X.w H s.heap a (.lst xs) from I.hok a _ ea)
    exact PySem.W.kia_one PySem.W.kitx_list I.kIn ⟨_, h1, rfl⟩ e (fun z => nomatch z) h
  | @frz a ob xs ea =>
    cases (show u = Value.ref a from rx)
    obtain ⟨_, _, _, n, _, h1⟩ := (show ObjOk X.prog X.w H s.heap a (.frz ob (.lst xs)) from I.hok a _ ea)
    exact PySem.W.kia_one PySem.W.kitx_list I.kIn ⟨_, h1, rfl⟩ e (fun z => nomatch z) h
  | @tup a xs ea =>
    cases (show u = Value.ref a from rx)
    obtain ⟨_, _, _, p⟩ := (show ObjOk X.prog X.w H s.heap a (.tup xs) from I.hok a _ ea)
    obtain ⟨o, h1, h2, _⟩ := p
    exact PySem.W.kia_one PySem.W.kitx_tuple I.kIn ⟨o, h1, h2⟩ e (fun z => nomatch z) h
  | @dK a kvs ea =>
    cases (show u = Value.ref a from rx)
    obtain ⟨_, _, vs, _, p⟩ := (show ObjOk X.prog X.w H s.heap a (.dK kvs) from I.hok a _ ea)
    obtain ⟨o, es, ep, h1, h2, _⟩ := p
    exact PySem.W.kia_one PySem.W.kitx_dict I.kIn ⟨o, h1, h2.1⟩ e (fun z => nomatch z) h
  | @dT a kvs ea =>
    cases (show u = Value.ref a from rx)
    obtain ⟨_, _, xs, _, o, es, ep, h1, h2, _⟩ := (show ObjOk X.prog X.w H s.heap a (.dT kvs) from I.hok a _ ea)
    exact PySem.W.kia_one PySem.W.kitx_dict I.kIn ⟨o, h1, h2.1⟩ e (fun z => nomatch z) h
  | @ins a C dx fs ea cl ha hn htk hm =>
    cases (show u = Value.ref a from rx)
    obtain ⟨mA, O, _⟩ := ins_get I.hok ea
    obtain ⟨od, J, _⟩ := O.look
    exact PySem.W.kia_one (PySem.W.kitx_own (cl.get _) cl.hd ha hn htk hm) I.kIn J e (fun z => nomatch z) h
end
end L2

namespace L2
open PySem PySem.Spec PyProof.Rows

/-! ### room -/
structure Room (k : Nat) (A : Around) : Prop where
  hd : A.handled = none
  dp : A.depth + 3 * k + 5 < recursionLimit
  un : A.units + 16 * k + 200 < cLine
theorem Room.mono {j k : Nat} {A : Around} (r : Room k A) (h : j ≤ k) : Room j A := ⟨r.hd, by have := r.dp; omega, by have := r.un; omega⟩
theorem Room.deeper {k : Nat} {A : Around} (r : Room (k + 1) A) (env : Env) : Room k (A.deeper env) :=
  ⟨r.hd, by have := r.dp; show A.depth + 1 + 3 * k + 5 < _; omega, by have := r.un; show A.units + 3 + 16 * k + 200 < _; omega⟩
theorem Room.in1 {k : Nat} {A : Around} (r : Room (k + 1) A) : Room k A.in1 :=
  ⟨r.hd, by have := r.dp; show A.depth + 3 * k + 5 < _; omega, by have := r.un; show A.units + 1 + 16 * k + 200 < _; omega⟩
theorem make_depth {A : Around} {C : Addr} {us : List Value} {kw : List (Str × Value)} : (A.under (.builtin "type.__call__" ⟨.ref C :: us, kw⟩)).depth = A.depth + 1 := by
  first | rfl | simp [Around.under, Code.weight, Code.isCreation, Code.isGuard, Code.isCaller, Code.frames, Code.isFrame, guardIds]
theorem make_units {A : Around} {C : Addr} {us : List Value} {kw : List (Str × Value)} : (A.under (.builtin "type.__call__" ⟨.ref C :: us, kw⟩)).units = A.units + 1 := by
  first | rfl | simp [Around.under, Code.cUnits, Code.frames, Code.isFrame]
theorem Room.make {k : Nat} {A : Around} (r : Room (k + 1) A) (C : Addr) (us : List Value) (kw : List (Str × Value)) : Room k (A.under (.builtin "type.__call__" ⟨.ref C :: us, kw⟩)) :=
  ⟨r.hd, by have := r.dp; rw [make_depth]; omega, by have := r.un; rw [make_units]; omega⟩
theorem Room.depth {k : Nat} {A : Around} (r : Room k A) : A.depth < recursionLimit := by have := r.dp; omega
theorem Room.units {k : Nat} {A : Around} (r : Room k A) : A.units + 64 < cLine := by have := r.un; omega
theorem Room.units0 {k : Nat} {A : Around} (r : Room k A) : A.units < cLine := by have := r.un; omega

/-! ### argument lists and displays -/
def tNil : TA := fun _ H Q => Q [] H
def tCons (ta : TE) (tr : TA) : TA := fun σ H Q => ta σ H fun x H1 => tr σ H1 fun xs H2 => Q (x :: xs) H2
section
variable {X : Cx} {e : Expr} {es : List Expr} {te : TE} {t : TA} {pos : Pos}
theorem pa_nil : PA X [] tNil := fun _ _ _ _ H Q I h => Calls.spliced_nil ⟨[], H, I, .nil, h⟩
theorem pa_cons (ha : PE X e te) (hr : PA X es t) (hs : starEach (e :: es) X.env = (false, eval e X.env) :: starEach es X.env := by rfl) : PA X (e :: es) (tCons te t) := by
  intro pos pins s σ H Q I h
  rw [hs]
  show wpAny _ _ (spliced ((false, eval e X.env) :: backTo pos (starEach es X.env))) _ _ s
  refine Calls.spliced_cons (thn (ha pins s σ H _ I h) fun u s1 ⟨x, H1, I1, r1, q1⟩ => ?_)
  exact thn (hr pos pins s1 σ H1 _ I1 q1) fun us s2 ⟨xs, H2, I2, r2, q2⟩ => ⟨x :: xs, H2, I2, .cons r1 r2, q2⟩

/-- a tuple, a list of written items -/
def tTup (t : TA) : TE := fun σ H Q => t σ H fun xs H1 => xs.length ≤ sizeLine ∧ ∀ p, H1 p = none → Q (.ref p) (upd H1 p (.tup xs))
def tLst (t : TA) : TE := fun σ H Q => t σ H fun xs H1 => xs.length ≤ sizeLine ∧ ∀ p, H1 p = none → Q (.ref p) (upd H1 p (.lst xs))
theorem pe_tup {x1} (h : PA X es t) : PE X (.Tuple es x1 pos) (tTup t) := by
  intro pins s σ H Q I hq
  refine wpAny_Tuple_spliced (thn (h pos pins s σ H _ I hq) fun us s1 ⟨xs, H1, I1, r, z, q⟩ => ⟨by rw [← r.length]; exact z, ?_⟩)
  have hf : H1 s1.heap.objs.size = none := I1.hok.fresh (Nat.le_refl _)
  refine ⟨.ref s1.heap.objs.size, upd H1 s1.heap.objs.size (.tup xs), I1.laid (t' := s1.toks) (fun b u e => Heap.get?_push_of_some _ e) (Nat.le_refl _) ?_, rfl, q _ hf⟩
  exact ⟨z, us, r, ⟨_, Heap.get?_push_size _ rfl, rfl, _, rfl⟩⟩
theorem pe_lst (h : PA X es t) : PE X (.List es pos) (tLst t) := by
  intro pins s σ H Q I hq
  refine wpAny_List_spliced (thn (h pos pins s σ H _ I hq) fun us s1 ⟨xs, H1, I1, r, z, q⟩ => ⟨by rw [← r.length]; exact z, ?_⟩)
  have hf : H1 s1.heap.objs.size = none := I1.hok.fresh (Nat.le_refl _)
  refine ⟨.ref s1.heap.objs.size, upd H1 s1.heap.objs.size (.lst xs), I1.laid (t' := s1.toks) (fun b u e => Heap.get?_push_of_some _ e) (Nat.le_refl _) ?_, rfl, q _ hf⟩
  exact ⟨z, us, 0, r, Heap.get?_push_size _ rfl⟩
end

/-! ### what a def promises -/
/-- a def's promise: the bound arguments in the parameters' order, the heap, the wanted end, the wanted exception -/
abbrev Sp := List V → Hp → VK → XK → Prop
/-- how an exception lies behind a call (file 08 gives it): the callers' frames, abstract heap and state ahead of the call, the wish, the exception, the state -/
abbrev CXT := List Env → Hp → Shared → XK → Value → Shared → Prop

/-- the state at a call -/
structure Env0 (P : Program) (w : World) (K : PySem.W.Frag) (mg : Str → Option Value) (base : Heap) (A : Around) (outer : List Env) (s : Shared) (H : Hp) : Prop where
  frames : A.frames = some outer
  mod : Mod K mg base
  bs : ∀ b o, base.get? b = some o → s.heap.get? b = some o ∧ H b = none
  bsz : base.objs.size ≤ s.heap.objs.size
  funs : s.heap.FunFrames base outer
  frf : ∀ b ∈ frs outer, H b = none
  hok : HOk P w H s.heap
  bare : AllBare s.gens
/-- a call's end -/
def CE (outer : List Env) (P : Program) (w : World) (H : Hp) (s : Shared) (Q : VK) (u : Value) (s' : Shared) : Prop :=
  ∃ v H', s'.os = s.os ∧ AllBare s'.gens ∧ Un (frs outer) [] H H' s.heap s'.heap ∧ HOk P w H' s'.heap ∧ RelV v u ∧ Q v H'
def CR (CX : CXT) (outer : List Env) (P : Program) (w : World) (H : Hp) (s : Shared) (Q : VK) (E : XK) (r : Result) (s' : Shared) : Prop :=
  match r with
  | .ok (.ret u) => CE outer P w H s Q u s'
  | .ok _ => False
  | .error e => CX outer H s E e s'
structure FnOk (P : Program) (w : World) (K : PySem.W.Frag) (mg : Str → Option Value) (base : Heap) (CX : CXT) (k : Nat) (f : Addr) (fd : FuncData) (ps : List Str) (sp : Sp) : Prop where
  len : ∀ vs H Q E, sp vs H Q E → vs.length = ps.length
  run : ∀ (A : Around) (outer : List Env) (s : Shared) (H : Hp) (args : Args) (us : List Value) (vs : List V) (Q : VK) (E : XK), Room k A → Env0 P w K mg base A outer s H → BindsTo s fd args (ps.zip us) → Vals vs us → sp vs H Q E →
    codeAny (model P w) A (.call (.ref f) args) (CR CX outer P w H s Q E) s
theorem FnOk.mono {P : Program} {w : World} {K : PySem.W.Frag} {mg : Str → Option Value} {base : Heap} {CX : CXT} {j k : Nat} {f : Addr} {fd : FuncData} {ps : List Str} {sp : Sp} (F : FnOk P w K mg base CX j f fd ps sp) (h : j ≤ k) :
    FnOk P w K mg base CX k f fd ps sp := ⟨F.len, fun A outer s H args us vs Q E hr => F.run A outer s H args us vs Q E (hr.mono h)⟩
/-- a weaker promise -/
theorem FnOk.imp {P : Program} {w : World} {K : PySem.W.Frag} {mg : Str → Option Value} {base : Heap} {CX : CXT} {k : Nat} {f : Addr} {fd : FuncData} {ps : List Str} {sp sp' : Sp} (F : FnOk P w K mg base CX k f fd ps sp)
    (h : ∀ vs H Q E, sp' vs H Q E → sp vs H Q E) : FnOk P w K mg base CX k f fd ps sp' :=
  ⟨fun vs H Q E q => F.len vs H Q E (h _ _ _ _ q), fun A outer s H args us vs Q E hr he hb hv hs => F.run A outer s H args us vs Q E hr he hb hv (h _ _ _ _ hs)⟩

theorem Env0.make {P : Program} {w : World} {K : PySem.W.Frag} {mg : Str → Option Value} {base : Heap} {A : Around} {outer : List Env} {s : Shared} {H : Hp} (e : Env0 P w K mg base A outer s H) (C : Addr) (us : List Value) (kw : List (Str × Value)) :
    Env0 P w K mg base (A.under (.builtin "type.__call__" ⟨.ref C :: us, kw⟩)) outer s H := ⟨by first | exact e.frames | (simpa [Around.under, Code.envs, Code.isFrame, pushEnvs] using e.frames), e.mod, e.bs, e.bsz, e.funs, e.frf, e.hok, e.bare⟩
theorem Env0.in1 {P : Program} {w : World} {K : PySem.W.Frag} {mg : Str → Option Value} {base : Heap} {A : Around} {outer : List Env} {s : Shared} {H : Hp} (e : Env0 P w K mg base A outer s H) :
    Env0 P w K mg base A.in1 outer s H := ⟨e.frames, e.mod, e.bs, e.bsz, e.funs, e.frf, e.hok, e.bare⟩

section
variable {X : Cx} {pins : List (Addr × Obj)} {σ : St} {H : Hp} {s s' : Shared}
/-- from a body: what a callee wants -/
theorem Inv.env0 (I : Inv X pins σ H s) : Env0 X.prog X.w X.K X.mg X.base X.A X.stack s H :=
  ⟨I.ok.frames, I.ok.mod, I.bs, Nat.le_trans I.ok.bsz I.sz, I.stack, I.stkFree, I.hok, I.bare⟩
/-- behind a call -/
theorem Inv.after {Q : VK} {u : Value} (I : Inv X pins σ H s) (h : CE X.stack X.prog X.w H s Q u s') : EP X pins σ Q u s' := by
  obtain ⟨v, H', os, bare, un, hok, r, q⟩ := h
  obtain ⟨hh, g, d, t, os'⟩ := s'
  obtain rfl : os' = s.os := os
  exact ⟨v, H', I.call (h' := hh) (g' := g) (d' := d) (t' := t) (ch := []) un hok bare (fun b z => absurd z (by simp)), r, q⟩
end

/-! ### calls -/
/-- f(..): the written arguments, then the defaults dvs; E: what is wanted of an exception -/
def tCall (sp : Sp) (dvs : List V) (E : XK) (t : TA) : TE := fun σ H Q => t σ H fun vs H1 => sp (vs ++ dvs) H1 Q E
/-- o.m(..) of an instance of the class at C -/
def tMeth (C : Addr) (m : Str) (sp : Sp) (dvs : List V) (E : XK) (ta : TE) (t : TA) : TE := fun σ H Q => ta σ H fun x H1 => ∃ a dx fs, x = .ref a ∧ H1 a = some (.ins C dx fs) ∧ fs.lookup m = none ∧
  t σ H1 fun vs H2 => sp (x :: (vs ++ dvs)) H2 Q E
/-- C(..): a new instance and its dict, then __init__ -/
def tMake (C : Addr) (sp : Sp) (dvs : List V) (E : XK) (t : TA) : TE := fun σ H Q => t σ H fun vs H1 => ∀ x dx, H1 x = none → H1 dx = none → dx ≠ x →
  sp (.ref x :: (vs ++ dvs)) (upd (upd H1 dx (.own x)) x (.ins C dx [])) (fun v H2 => v = .non ∧ Q (.ref x) H2) E

/-- how the parameters are bound: us the positional arguments, kw the keywords' values by name, ds the defaults that fill up -/
def Binds (K : PySem.W.Frag) (fd : FuncData) (ps : List Str) (ds : List Value) : Prop :=
  ∀ (s : Shared) (us : List Value), K.In s.heap → (us ++ ds).length = ps.length → BindsTo s fd ⟨us, []⟩ (ps.zip (us ++ ds))
/-- every parameter is given -/
theorem Binds.all {K : PySem.W.Frag} {fd : FuncData} {ps : List Str} (h : ∀ us : List Value, us.length = ps.length → bindArgs fd ⟨us, []⟩ = pure (ps.zip us)) : Binds K fd ps [] := fun s us _ hl => by
  rw [List.append_nil] at hl ⊢
  exact .of_eq (h us hl)

/-- an exception of a callee reaches what this body wants of exceptions -/
def Passes (CX : CXT) (X : Cx) (E : XK) : Prop := ∀ (pins : List (Addr × Obj)) (σ : St) (H : Hp) (s : Shared) (e : Value) (s' : Shared), Inv X pins σ H s → CX X.stack H s E e s' → X.xe e s'

section
variable {X : Cx} {CX : CXT} {k : Nat} {f C : Addr} {fd : FuncData} {ps : List Str} {sp : Sp} {dvs : List V} {ds : List Value} {E : XK} {x m : Str} {p pos apos : Pos} {e o : Expr} {es : List Expr} {ta : TE} {t : TA}

/-- the callee runs -/
theorem run_fn {pins : List (Addr × Obj)} {σ : St} {H : Hp} {s : Shared} {Q : VK} {us : List Value} {vs : List V} (F : FnOk X.prog X.w X.K X.mg X.base CX k f fd ps sp) (hr : Room k X.A) (hb : Binds X.K fd ps ds) (hd : Vals dvs ds) (hx : Passes CX X E)
    (I : Inv X pins σ H s) (r : Vals vs us) (h : sp (vs ++ dvs) H Q E) : wpAny (model X.prog X.w) X.A (call (.ref f) us) (EP X pins σ Q) X.xe s := by
  have r2 : Vals (vs ++ dvs) (us ++ ds) := r.append hd
  have hl : (us ++ ds).length = ps.length := by rw [← r2.length]; exact F.len _ _ _ _ h
  refine wpAny_call (codeAny_mono (F.run X.A X.stack s H ⟨us, []⟩ (us ++ ds) (vs ++ dvs) Q E hr I.env0 (hb s us I.kIn hl) r2 h) fun r s' hq => ?_)
  cases r with
  | error e => exact hx pins σ H s e s' I hq
  | ok fl =>
    cases fl with
    | ret u => exact I.after hq
    | next => exact False.elim hq
    | brk => exact False.elim hq
    | cont => exact False.elim hq

theorem pe_call (F : FnOk X.prog X.w X.K X.mg X.base CX k f fd ps sp) (hr : Room k X.A) (hg : Gl X x) (hm : X.mg x = some (.ref f)) (hk : PySem.W.keepIn X.K (.ref f) = true) (hb : Binds X.K fd ps ds) (hd : Vals dvs ds) (hx : Passes CX X E)
    (ha : PA X (e :: es) t) (hdb : (x == ("__debug__" : Str)) = false := by decide) (he : starEach (e :: es) X.env = (false, eval e X.env) :: starEach es X.env := by rfl) (hpl : (backTo pos (starEach es X.env)).any (·.1) = false := by rfl) :
    PE X (.Call (.Name x p) (e :: es) [] pos) (tCall sp dvs E t) := by
  intro pins s σ H Q I h
  refine wpAny_Call_Name_kw (ld_glob I hg hm ?_ hdb)
  refine PySem.W.callWith_K (h₀ := X.base) I.ok.mod.kin hk (thn (ha pos pins s σ H _ I h) fun us s1 ⟨vs, H1, I1, r, q⟩ => ⟨I1.kIn, ?_⟩) he hpl
  exact run_fn F hr hb hd hx I1 r q
theorem pe_call0 (F : FnOk X.prog X.w X.K X.mg X.base CX k f fd ps sp) (hr : Room k X.A) (hg : Gl X x) (hm : X.mg x = some (.ref f)) (hk : PySem.W.keepIn X.K (.ref f) = true) (hb : Binds X.K fd ps ds) (hd : Vals dvs ds) (hx : Passes CX X E)
    (hdb : (x == ("__debug__" : Str)) = false := by decide) : PE X (.Call (.Name x p) [] [] pos) (tCall sp dvs E tNil) := by
  intro pins s σ H Q I h
  refine wpAny_Call_Name_kw (ld_glob I hg hm ?_ hdb)
  exact PySem.W.callWith_K0 I.kIn hk (run_fn (us := []) F hr hb hd hx I .nil h)

/-- o.m(e, ..) -/
theorem pe_meth {pl : Sem Bool} (he : PE X o ta) (c : Cls X.K C) (hm : Meth X.K C m f) (F : FnOk X.prog X.w X.K X.mg X.base CX k f fd ps sp) (hr : Room k X.A) (hb : Binds X.K fd ps ds) (hd : Vals dvs ds) (hx : Passes CX X E) (ha : PA X (e :: es) t)
    (hst : starEach (e :: es) X.env = (false, eval e X.env) :: starEach es X.env := by rfl) (hpl : (backTo pos (starEach es X.env)).any (·.1) = false := by rfl)
    (ht : eval (.Call (.Attribute o m apos) (e :: es) [] pos) X.env = (do
      let ov ← eval o X.env
      standAt apos.atName
      let (f, first) ← holding [ov] (getMethod ov m pl)
      callWith pos f first (backTo pos (starEach (e :: es) X.env)) (backToKw pos (keywordEach [] X.env))) := by rfl) :
    PE X (.Call (.Attribute o m apos) (e :: es) [] pos) (tMeth C m sp dvs E ta t) := by
  intro pins s σ H Q I h
  refine PySem.W.methodCall_KW (pl := pl) (thn (he pins s σ H _ I h) fun u s1 ⟨x, H1, I1, rx, a, dx, fs, ex, ea, l, q⟩ => ?_) ht
  subst ex
  obtain rfl : u = Value.ref a := rx
  refine getmeth_ok I1 ea c hm l ?_
  refine PySem.W.callWith_K (first := [.ref a]) (h₀ := X.base) I.ok.mod.kin hm.kp (thn (ha pos pins s1 σ H1 _ I1 q) fun us s2 ⟨vs, H2, I2, r, q2⟩ => ⟨I2.kIn, ?_⟩) hst hpl
  exact run_fn (us := .ref a :: us) (vs := .ref a :: vs) F hr hb hd hx I2 (.cons rfl r) q2
/-- o.m() -/
theorem pe_meth0 {pl : Sem Bool} (he : PE X o ta) (c : Cls X.K C) (hm : Meth X.K C m f) (F : FnOk X.prog X.w X.K X.mg X.base CX k f fd ps sp) (hr : Room k X.A) (hb : Binds X.K fd ps ds) (hd : Vals dvs ds) (hx : Passes CX X E)
    (ht : eval (.Call (.Attribute o m apos) [] [] pos) X.env = (do
      let ov ← eval o X.env
      standAt apos.atName
      let (f, first) ← holding [ov] (getMethod ov m pl)
      callWith pos f first (backTo pos (starEach [] X.env)) (backToKw pos (keywordEach [] X.env))) := by rfl) :
    PE X (.Call (.Attribute o m apos) [] [] pos) (tMeth C m sp dvs E ta tNil) := by
  intro pins s σ H Q I h
  refine PySem.W.methodCall_KW (pl := pl) (thn (he pins s σ H _ I h) fun u s1 ⟨x, H1, I1, rx, a, dx, fs, ex, ea, l, q⟩ => ?_) ht
  subst ex
  obtain rfl : u = Value.ref a := rx
  refine getmeth_ok I1 ea c hm l ?_
  exact PySem.W.callWith_K0 (first := [.ref a]) I1.kIn hm.kp (run_fn (us := [.ref a]) (vs := [.ref a]) F hr hb hd hx I1 (.cons rfl .nil) q)

/-- what a class must have to be made -/
structure Mk (K : PySem.W.Frag) (C f : Addr) : Prop where
  makes : PySem.W.makesIn K C = true
  init : PySem.W.findIn K (.ref C) "__init__" = some (some (.ref f))
  fn : PySem.W.isFn K (.ref f) = true
  kp : PySem.W.keepIn K (.ref C) = true

theorem run_make {pins : List (Addr × Obj)} {σ : St} {H : Hp} {s : Shared} {Q : VK} {us : List Value} {vs : List V} (M : Mk X.K C f) (F : FnOk X.prog X.w X.K X.mg X.base CX k f fd ps sp) (hr : Room (k + 1) X.A) (hb : Binds X.K fd ps ds) (hd : Vals dvs ds)
    (hx : Passes CX X E) (I : Inv X pins σ H s) (r : Vals vs us)
    (h : ∀ x dx, H x = none → H dx = none → dx ≠ x → sp (.ref x :: (vs ++ dvs)) (upd (upd H dx (.own x)) x (.ins C dx [])) (fun v H2 => v = .non ∧ Q (.ref x) H2) E) :
    wpAny (model X.prog X.w) X.A (call (.ref C) us) (EP X pins σ Q) X.xe s := by
  have hq := h (s.heap.objs.size + 1) s.heap.objs.size (I.hok.fresh (Nat.le_succ _)) (I.hok.fresh (Nat.le_refl _)) (Nat.ne_of_lt (Nat.lt_succ_self _))
  have I2 := Inv.made (C := C) I
  have r2 : Vals (V.ref (s.heap.objs.size + 1) :: (vs ++ dvs)) (Value.ref (s.heap.objs.size + 1) :: (us ++ ds)) := .cons rfl (r.append hd)
  have hl : (Value.ref (s.heap.objs.size + 1) :: us ++ ds).length = ps.length := by
    have e := r2.length
    rw [F.len _ _ _ _ hq] at e
    exact e.symm
  refine wpAny_call (make_map (f := f) I.kIn M.makes M.init (beq_iff_eq.mp M.fn) (codeAny_mono (F.run _ X.stack _ _ ⟨Value.ref (s.heap.objs.size + 1) :: us, []⟩ (Value.ref (s.heap.objs.size + 1) :: (us ++ ds)) _ _ E (hr.make C us [])
    (I2.env0.make C us []) (hb _ (Value.ref (s.heap.objs.size + 1) :: us) I2.kIn hl) r2 hq) fun r s' hq' => ?_))
  cases r with
  | error e => exact hx pins σ _ _ e s' I2 hq'
  | ok fl =>
    cases fl with
    | ret u =>
      obtain ⟨v, H', I3, rv, ev, q3⟩ := I2.after hq'
      subst ev
      exact ⟨rv, ⟨V.ref (s.heap.objs.size + 1), H', I3, rfl, q3⟩⟩
    | next => exact False.elim hq'
    | brk => exact False.elim hq'
    | cont => exact False.elim hq'
theorem pe_make (M : Mk X.K C f) (F : FnOk X.prog X.w X.K X.mg X.base CX k f fd ps sp) (hr : Room (k + 1) X.A) (hg : Gl X x) (hm : X.mg x = some (.ref C)) (hb : Binds X.K fd ps ds) (hd : Vals dvs ds) (hx : Passes CX X E)
    (ha : PA X (e :: es) t) (hdb : (x == ("__debug__" : Str)) = false := by decide) (he : starEach (e :: es) X.env = (false, eval e X.env) :: starEach es X.env := by rfl) (hpl : (backTo pos (starEach es X.env)).any (·.1) = false := by rfl) :
    PE X (.Call (.Name x p) (e :: es) [] pos) (tMake C sp dvs E t) := by
  intro pins s σ H Q I h
  refine wpAny_Call_Name_kw (ld_glob I hg hm ?_ hdb)
  refine PySem.W.callWith_K (h₀ := X.base) I.ok.mod.kin M.kp (thn (ha pos pins s σ H _ I h) fun us s1 ⟨vs, H1, I1, r, q⟩ => ⟨I1.kIn, ?_⟩) he hpl
  exact run_make M F hr hb hd hx I1 r q
theorem pe_make0 (M : Mk X.K C f) (F : FnOk X.prog X.w X.K X.mg X.base CX k f fd ps sp) (hr : Room (k + 1) X.A) (hg : Gl X x) (hm : X.mg x = some (.ref C)) (hb : Binds X.K fd ps ds) (hd : Vals dvs ds) (hx : Passes CX X E)
    (hdb : (x == ("__debug__" : Str)) = false := by decide) : PE X (.Call (.Name x p) [] [] pos) (tMake C sp dvs E tNil) := by
  intro pins s σ H Q I h
  refine wpAny_Call_Name_kw (ld_glob I hg hm ?_ hdb)
  exact PySem.W.callWith_K0 I.kIn M.kp (run_make (us := []) M F hr hb hd hx I .nil h)
end

/-! ### keywords -/
/-- the values of the keywords, from the left -/
def PK (X : Cx) (kws : List Keyword) (t : TA) : Prop :=
  ∀ (pos : Pos) (pins : List (Addr × Obj)) (s : Shared) (σ : St) (H : Hp) (Q : List V → Hp → Prop), Inv X pins σ H s → t σ H Q → wpAny (model X.prog X.w) X.A (evalAll ((backToKw pos (keywordEach kws X.env)).map (·.2))) (AP X pins σ Q) X.xe s
section
variable {X : Cx} {CX : CXT} {k : Nat} {f C : Addr} {fd : FuncData} {ps ks : List Str} {sp : Sp} {E : XK} {x m : Str} {p pos apos kpos : Pos} {e o : Expr} {es : List Expr} {kws : List Keyword} {te ta : TE} {t tk : TA} {nm : Option Str}
theorem pk_nil : PK X [] tNil := fun _ _ _ _ H Q I h => wpAny_evalAll_nil ⟨[], H, I, .nil, h⟩
theorem pk_cons (ha : PE X e te) (hr : PK X kws t) : PK X (⟨nm, e, kpos⟩ :: kws) (tCons te t) := by
  intro pos pins s σ H Q I h
  show wpAny _ _ (evalAll ((do let v ← eval e X.env; standAt pos; pure v) :: (backToKw pos (keywordEach kws X.env)).map (·.2))) _ _ s
  refine wpAny_evalAll_cons (wpAny_bind (thn (ha pins s σ H _ I h) fun u s1 ⟨x, H1, I1, r1, q1⟩ => wpAny_bind (wpAny_standAt (wpAny_pure ?_))))
  exact thn (hr pos pins s1 σ H1 _ I1 q1) fun us s2 ⟨xs, H2, I2, r2, q2⟩ => ⟨x :: xs, H2, I2, .cons r1 r2, q2⟩

/-- how a call with keywords binds: g puts the positional values us and the keywords' values ws (names ks) in the parameters' order, defaults among them -/
structure KBinds (K : PySem.W.Frag) (fd : FuncData) (ps ks : List Str) (g : List Value → List Value → List Value) (gV : List V → List V → List V) : Prop where
  to : ∀ (s : Shared) (us ws : List Value), K.In s.heap → (g us ws).length = ps.length → BindsTo s fd ⟨us, ks.zip ws⟩ (ps.zip (g us ws))
  rel : ∀ {vs : List V} {us : List Value} {zs : List V} {ws : List Value}, Vals vs us → Vals zs ws → Vals (gV vs zs) (g us ws)
def tCallK (sp : Sp) (gV : List V → List V → List V) (E : XK) (t tk : TA) : TE := fun σ H Q => t σ H fun vs H1 => tk σ H1 fun zs H2 => sp (gV vs zs) H2 Q E
variable {g : List Value → List Value → List Value} {gV : List V → List V → List V}
theorem run_fnk {pins : List (Addr × Obj)} {σ : St} {H : Hp} {s : Shared} {Q : VK} {us ws : List Value} {vs zs : List V} (F : FnOk X.prog X.w X.K X.mg X.base CX k f fd ps sp) (hr : Room k X.A) (hb : KBinds X.K fd ps ks g gV) (hx : Passes CX X E)
    (I : Inv X pins σ H s) (r : Vals vs us) (rz : Vals zs ws) (h : sp (gV vs zs) H Q E) : wpAny (model X.prog X.w) X.A (call (.ref f) us (ks.zip ws)) (EP X pins σ Q) X.xe s := by
  have r2 := hb.rel r rz
  have hl : (g us ws).length = ps.length := by rw [← r2.length]; exact F.len _ _ _ _ h
  refine wpAny_call (codeAny_mono (F.run X.A X.stack s H ⟨us, ks.zip ws⟩ (g us ws) (gV vs zs) Q E hr I.env0 (hb.to s us ws I.kIn hl) r2 h) fun r s' hq => ?_)
  cases r with
  | error e => exact hx pins σ H s e s' I hq
  | ok fl =>
    cases fl with
    | ret u => exact I.after hq
    | next => exact False.elim hq
    | brk => exact False.elim hq
    | cont => exact False.elim hq
/-- f(e, .., k = v, ..) -/
theorem pe_callK (F : FnOk X.prog X.w X.K X.mg X.base CX k f fd ps sp) (hr : Room k X.A) (hg : Gl X x) (hm : X.mg x = some (.ref f)) (hk : PySem.W.keepIn X.K (.ref f) = true) (hb : KBinds X.K fd ps ks g gV) (hx : Passes CX X E)
    (ha : PA X (e :: es) t) (hkw : PK X kws tk) (hall : (backToKw pos (keywordEach kws X.env)).all (·.1.isSome) = true := by rfl) (hks : (backToKw pos (keywordEach kws X.env)).filterMap (·.1) = ks := by rfl)
    (hdb : (x == ("__debug__" : Str)) = false := by decide) (he : starEach (e :: es) X.env = (false, eval e X.env) :: starEach es X.env := by rfl)
    (hpl : ((backTo pos (starEach (e :: es) X.env)).any (·.1) || (backToKw pos (keywordEach kws X.env)).any (·.1.isNone)) = false := by rfl) :
    PE X (.Call (.Name x p) (e :: es) kws pos) (tCallK sp gV E t tk) := by
  intro pins s σ H Q I h
  refine wpAny_Call_Name_kw (ld_glob I hg hm ?_ hdb)
  refine PySem.W.callWith_KW (h₀ := X.base) I.ok.mod.kin hk hall (thn (ha pos pins s σ H _ I h) fun us s1 ⟨vs, H1, I1, r, q⟩ => ?_) hpl he
  refine thn (hkw pos pins s1 σ H1 _ I1 q) fun ws s2 ⟨zs, H2, I2, rz, q2⟩ => ⟨I2.kIn, ?_⟩
  rw [hks]
  exact run_fnk F hr hb hx I2 r rz q2
end

/-! ### a def's body keeps its promise -/
/-- names: the parameters first -/
structure FnScope (N P : List Str) (sc : Scope) : Prop where
  kind : sc.kind = .function
  co : sc.isCoroutine = false
  gen : sc.isGenerator = false
  nd : N.Nodup
  pre : N.take P.length = P
  par : ∀ x ∈ P, sc.names.lookup x = some .local ∨ sc.names.lookup x = some .cell
  nofree : ∀ y ∈ sc.names, y.2 ≠ .free

theorem bindL_out {kindOf : Str → Option NameKind} {x : Str} : ∀ {binds : List (Str × Value)} {m : Str → Option Value}, (∀ v, (x, v) ∉ binds) → bindL kindOf binds m x = m x
  | [], _, _ => rfl
  | (n, v) :: r, m, h => by
    unfold bindL
    rw [bindL_out fun w hw => h w (List.mem_cons_of_mem _ hw)]
    split
    · have : x ≠ n := by rintro rfl; exact h v List.mem_cons_self
      simp [this]
    · rfl
theorem bindC_out {kindOf : Str → Option NameKind} {x : Str} : ∀ {binds : List (Str × Value)} {m : Str → Option Value}, (∀ v, (x, v) ∉ binds) → bindC kindOf binds m x = m x
  | [], _, _ => rfl
  | (n, v) :: r, m, h => by
    unfold bindC
    rw [bindC_out fun w hw => h w (List.mem_cons_of_mem _ hw)]
    split
    · rfl
    · have : x ≠ n := by rintro rfl; exact h v List.mem_cons_self
      simp [this]
theorem bindL_get {kindOf : Str → Option NameKind} {x : Str} {v : Value} : ∀ {P : List Str} {vs : List Value} {i : Nat} {m : Str → Option Value}, P.Nodup → P[i]? = some x → vs[i]? = some v → kindOf x = some .local →
    bindL kindOf (P.zip vs) m x = some v
  | [], _, _, _, _, h, _, _ => by simp at h
  | _ :: _, [], _, _, _, _, h, _ => by simp at h
  | p :: P, w :: vs, 0, m, nd, h1, h2, hk => by
    simp at h1 h2; subst h1; subst h2
    show bindL kindOf ((p, w) :: P.zip vs) m p = _
    unfold bindL
    rw [bindL_out fun v hv => (List.nodup_cons.mp nd).1 (List.of_mem_zip hv).1, if_pos hk]
    simp
  | p :: P, w :: vs, i + 1, m, nd, h1, h2, hk => by
    show bindL kindOf ((p, w) :: P.zip vs) m x = _
    unfold bindL
    exact bindL_get (i := i) (List.nodup_cons.mp nd).2 (by simpa using h1) (by simpa using h2) hk
theorem bindC_get {kindOf : Str → Option NameKind} {x : Str} {v : Value} : ∀ {P : List Str} {vs : List Value} {i : Nat} {m : Str → Option Value}, P.Nodup → P[i]? = some x → vs[i]? = some v → kindOf x ≠ some .local →
    bindC kindOf (P.zip vs) m x = some v
  | [], _, _, _, _, h, _, _ => by simp at h
  | _ :: _, [], _, _, _, _, h, _ => by simp at h
  | p :: P, w :: vs, 0, m, nd, h1, h2, hk => by
    simp at h1 h2; subst h1; subst h2
    show bindC kindOf ((p, w) :: P.zip vs) m p = _
    unfold bindC
    rw [bindC_out fun v hv => (List.nodup_cons.mp nd).1 (List.of_mem_zip hv).1, if_neg hk]
    simp
  | p :: P, w :: vs, i + 1, m, nd, h1, h2, hk => by
    show bindC kindOf ((p, w) :: P.zip vs) m x = _
    unfold bindC
    exact bindC_get (i := i) (List.nodup_cons.mp nd).2 (by simpa using h1) (by simpa using h2) hk

/-- the names' values at the entry -/
def start (N : List Str) (vs : List V) : St := vs.map some ++ List.replicate (N.length - vs.length) none

/-- the context of a def's body, at its entry; an exception leaves the frame, then lies as CX says -/
def cxOf (CX : CXT) (P : Program) (w : World) (K : PySem.W.Frag) (mg : Str → Option Value) (base : Heap) (N : List Str) (qual : Str) (scope : Scope) (f : Addr) (cd : Value) (A : Around) (outer : List Env) (s : Shared) (H : Hp) (E : XK) : Cx where
  prog := P
  w := w
  K := K
  mg := mg
  base := base
  A := A.deeper (envOfC qual scope s.heap.objs.size f cd)
  N := N
  s₀ := s
  H₀ := H
  env := envOfC qual scope s.heap.objs.size f cd
  outer := outer
  stack := envOfC qual scope s.heap.objs.size f cd :: outer
  ex := []
  calm := true
  fn := fun _ => true
  pn := []
  xe := fun e s' => wpAny (model P w) (A.deeper (envOfC qual scope s.heap.objs.size f cd)) (leaving (envOfC qual scope s.heap.objs.size f cd) e) (fun _ s'' => CX outer H s E e s'') (fun e' s'' => CX outer H s E e' s'') s'

theorem cell_has {sc : Scope} {n : Nat} {x : Str} (h : sc.names.lookup x = some .cell) : ∃ c, (cellsFrom n sc.names []).lookup x = some c := by
  have q := PySem.W.cellsFrom_some sc.names n [] (.inl h)
  exact Option.isSome_iff_exists.mp q

theorem inv_start {CX : CXT} {P : Program} {w : World} {K : PySem.W.Frag} {mg : Str → Option Value} {base : Heap} {N ps : List Str} {qual : Str} {scope : Scope} {f : Addr} {cd : Value} {A : Around} {outer : List Env} {s s1 : Shared} {H : Hp} {E : XK} {us : List Value} {vs : List V}
    (S : FnScope N ps scope) (hd : A.handled = none) (e0 : Env0 P w K mg base A outer s H) (hl : vs.length = ps.length) (r : Vals vs us)
    (x : InCallC s s.heap.objs.size (bindL (envOfC qual scope s.heap.objs.size f cd).kindOf (ps.zip us) fun _ => none) (cellsFrom (s.heap.objs.size + 1) scope.names []) (bindC (envOfC qual scope s.heap.objs.size f cd).kindOf (ps.zip us) fun _ => none) s1) :
    Inv (cxOf CX P w K mg base N qual scope f cd A outer s H E) [] (start N vs) H s1 := by
  have hpl : ps.length ≤ N.length := by have := congrArg List.length S.pre; rw [List.length_take] at this; omega
  obtain ⟨h1, tk, rfl, hk⟩ := x.done
  have noA : ∀ b : Addr, b ∉ (cxOf CX P w K mg base N qual scope f cd A outer s H E).ex := fun b z => absurd (show b ∈ ([] : List Addr) from z) (by simp)
  refine ⟨⟨e0.mod, S.kind, rfl, rfl, Nat.le_refl _, fun y z c h1 h2 => ?_, fun y hy => ?_, fun y c _ h => ?_, fun _ => hd, Around.frames_deeper e0.frames, .inr ⟨rfl, rfl⟩, fun b z => absurd z (noA b), e0.bs, e0.bsz, fun b _ _ => noA b, fun b z => absurd z (noA b), e0.funs, e0.frf⟩,
    rfl, e0.bare, Un.kept hk, ⟨_, x.toInCall.ns, fun i y v h1 h2 h3 => ?_⟩, fun y c h => ⟨_, x.cell y c h⟩, e0.hok.fresh (Nat.le_refl _), fun y c h => ?_, fun p hp => absurd (show p ∈ ([] : List (Addr × Obj)) from hp) (by simp), e0.hok.kept hk, ?_⟩
  · exact name_of_addr x.apart (PySem.mem_of_lookup h1) (PySem.mem_of_lookup h2)
  · have hy : scope.names.lookup y = some .cell ∨ scope.names.lookup y = some .free := hy
    rcases hy with hy | hy
    · exact cell_has hy
    · exact absurd rfl (S.nofree _ (PySem.mem_of_lookup hy))
  · exact Nat.le_of_lt (x.above y c (PySem.mem_of_lookup h))
  · have hi : i < vs.length := by
      unfold start at h2
      by_cases hi : i < vs.length
      · exact hi
      · rw [List.getElem?_append_right (by simpa using hi)] at h2
        rw [List.getElem?_replicate] at h2
        split at h2 <;> cases h2
    have ha : vs[i]? = some v := by
      unfold start at h2
      rw [List.getElem?_append_left (by simpa using hi), List.getElem?_map] at h2
      cases e : vs[i]? with
      | none => rw [e] at h2; cases h2
      | some a => rw [e] at h2; cases h2; rfl
    obtain ⟨u, hu, rv⟩ := r.get ha
    have hp : ps[i]? = some y := by
      rw [← S.pre, List.getElem?_take_of_lt (by omega)]; exact h1
    have ndP : ps.Nodup := by rw [← S.pre]; exact S.nd.sublist (List.take_sublist _ _)
    refine ⟨u, rv, ?_⟩
    rcases S.par y (List.mem_of_getElem? hp) with k | k
    · exact .inl ⟨k, bindL_get ndP hp hu k⟩
    · obtain ⟨c, e⟩ := cell_has (n := s.heap.objs.size + 1) k
      refine .inr ⟨.inl k, c, e, ?_⟩
      have q := x.cell y c e
      rw [bindC_get ndP hp hu (by show scope.names.lookup y ≠ _; rw [k]; decide)] at q
      exact q
  · exact e0.hok.fresh (Nat.le_of_lt (x.above y c (PySem.mem_of_lookup h)))
  · unfold start
    show _ = N.length
    rw [List.length_append, List.length_map, List.length_replicate]
    omega

/-- THE RULE: a def (or a method) of the text, by its body. The body's reading t is chosen for each entry; it is run at the parameters' values -/
theorem fn_of {CX : CXT} {P : Program} {w : World} {K : PySem.W.Frag} {mg : Str → Option Value} {base : Heap} {k : Nat} {f : Addr} {name qual : Str} {params : Arguments} {body : List Stmt} {scope : Scope} {dV kV doc pm cdv ct oc : Value} {an od : Option Addr}
    {osl : Array (Option Value)} {N ps : List Str} {sp : Sp} (lk : K.lookup f = some ⟨oc, od, .func (PySem.W.fnOf name qual params body scope dV kV doc pm an cdv ct), osl⟩) (hcd : PySem.W.codeIn K cdv qual = true) (S : FnScope N ps scope)
    (len : ∀ vs H Q E, sp vs H Q E → vs.length = ps.length)
    (hbody : ∀ (A : Around) (outer : List Env) (s : Shared) (H : Hp) (vs : List V) (Q : VK) (E : XK), Room k (A.deeper (envOfC qual scope s.heap.objs.size f cdv)) → sp vs H Q E →
      ∃ t, PSs (cxOf CX P w K mg base N qual scope f cdv A outer s H E) body t ∧ t { nx := fun _ H' => Q .non H', rt := Q } (start N vs) H) :
    FnOk P w K mg base CX (k + 1) f (PySem.W.fnOf name qual params body scope dV kV doc pm an cdv ct) ps sp := by
  refine ⟨len, fun A outer s H args us vs Q E hr e0 hb r hsp => ?_⟩
  have hl := len _ _ _ _ hsp
  have KX : K.In s.heap := e0.mod.kin.keeps fun b o e => (e0.bs b o e).1
  have lim : s.heap.NoLimit := e0.mod.nolimit.keeps fun b o e => (e0.bs b o e).1
  have hkind : ∀ y ∈ ps.zip us, scope.names.lookup y.1 = some .local ∨ (scope.names.lookup y.1 = some .cell ∧ ((cellsFrom (s.heap.objs.size + 1) scope.names []).lookup y.1).isSome = true) := fun ⟨n, v⟩ hy => by
    rcases S.par n (List.of_mem_zip hy).1 with q | q
    · exact .inl q
    · exact .inr ⟨q, PySem.W.cellsFrom_some _ _ _ (.inl q)⟩
  refine codeAny_call_function hr.depth (KX _ _ lk) rfl S.co S.gen rfl (PySem.W.codeRec_of KX hcd) (hb _ _ _ _ ?_)
  refine wpAny_newFunctionEnv_cells S.kind hkind fun env he s1 x => ?_
  subst he
  refine ⟨lim.keeps x.toInCall.keep, codeAny_func ?_⟩
  obtain ⟨t, ht, hq⟩ := hbody A outer s H vs Q E (hr.deeper _) hsp
  have I : Inv (cxOf CX P w K mg base N qual scope f cdv A outer s H E) [] (start N vs) H s1 := inv_start S hr.hd e0 hl r x
  refine wpAny_mono (ht [] s1 (start N vs) H _ I hq) (fun fl s' hs => ?_) fun e s' hs => hs
  have fin : ∀ {σ' : St} {H' : Hp} {v : V} {u : Value}, Inv (cxOf CX P w K mg base N qual scope f cdv A outer s H E) [] σ' H' s' → RelV v u → Q v H' → CE outer P w H s Q u s' :=
    fun {σ' H' v u} J rv q => ⟨v, H', J.os, J.bare, J.base, J.hok, rv, q⟩
  cases fl with
  | ret u =>
    obtain ⟨v, σ', H', J, rv, q⟩ := hs
    exact fin J rv q
  | next =>
    obtain ⟨σ', H', J, q⟩ := hs
    exact fin (v := V.non) (u := Value.none) J rfl q
  | brk =>
    obtain ⟨_, _, _, q⟩ := hs
    exact False.elim q
  | cont =>
    obtain ⟨_, _, _, q⟩ := hs
    exact False.elim q
end L2

namespace L2
open PySem PySem.Spec PyProof.Rows
section
variable {X : Cx} {x : Str} {p pos : Pos} {e : Expr} {es : List Expr} {t : TA} {id T : String} {r : List V → Hp → VK → Prop}

def tCB (r : List V → Hp → VK → Prop) (t : TA) : TE := fun σ H Q => t σ H fun vs H1 => r vs H1 Q
/-- f(e, ..), f a built-in function -/
theorem pe_callB (hc : CallR X (.builtin id) r) (hg : Gl X x) (hm : X.mg x = none) (hv : bootBuiltins x = some (.builtin id)) (ha : PA X (e :: es) t) (hn : x ≠ "__name__" := by decide) (hdb : (x == ("__debug__" : Str)) = false := by decide)
    (he : starEach (e :: es) X.env = (false, eval e X.env) :: starEach es X.env := by rfl) (hpl : (backTo pos (starEach es X.env)).any (·.1) = false := by rfl) : PE X (.Call (.Name x p) (e :: es) [] pos) (tCB r t) := by
  intro pins s σ H Q I h
  refine wpAny_Call_Name_kw (ld_blt I hg hm hv ?_ hn hdb)
  exact PyProof.Rows.callWith_builtin1 (thn (ha pos pins s σ H _ I h) fun us s1 ⟨vs, H1, I1, r1, q1⟩ => hc pins s1 σ H1 vs us Q I1 r1 q1) he hpl
/-- T(e, ..), T a built-in type -/
theorem pe_callTy (hc : CallR X (.type T) r) (hg : Gl X x) (hm : X.mg x = none) (hv : bootBuiltins x = some (.type T)) (ha : PA X (e :: es) t) (hn : x ≠ "__name__" := by decide) (hdb : (x == ("__debug__" : Str)) = false := by decide)
    (he : starEach (e :: es) X.env = (false, eval e X.env) :: starEach es X.env := by rfl) (hpl : (backTo pos (starEach es X.env)).any (·.1) = false := by rfl) : PE X (.Call (.Name x p) (e :: es) [] pos) (tCB r t) := by
  intro pins s σ H Q I h
  refine wpAny_Call_Name_kw (ld_blt I hg hm hv ?_ hn hdb)
  exact PyProof.Rows.callWith_type1 (thn (ha pos pins s σ H _ I h) fun us s1 ⟨vs, H1, I1, r1, q1⟩ => hc pins s1 σ H1 vs us Q I1 r1 q1) he hpl
/-- T() -/
theorem pe_callTy0 (hc : CallR X (.type T) r) (hg : Gl X x) (hm : X.mg x = none) (hv : bootBuiltins x = some (.type T)) (hn : x ≠ "__name__" := by decide) (hdb : (x == ("__debug__" : Str)) = false := by decide) :
    PE X (.Call (.Name x p) [] [] pos) (tCB r tNil) := by
  intro pins s σ H Q I h
  refine wpAny_Call_Name_kw (ld_blt I hg hm hv ?_ hn hdb)
  exact PyProof.Rows.callWith_type0 (hc pins s σ H [] [] Q I .nil h)
end
end L2

namespace HT
open PySem PyProof.Rows

/-- t < u of tuples of ints -/
def lexLt : List Int → List Int → Bool
  | [], [] => false
  | [], _ :: _ => true
  | _ :: _, [] => false
  | x :: xs, y :: ys => if x = y then lexLt xs ys else decide (x < y)
theorem lexLt_cons (x y : Int) (xs ys : List Int) : lexLt (x :: xs) (y :: ys) = if x = y then lexLt xs ys else decide (x < y) := rfl
theorem lexLt_nil_nil : lexLt [] [] = false := rfl
theorem lexLt_nil_cons (y : Int) (ys : List Int) : lexLt [] (y :: ys) = true := rfl
theorem lexLt_cons_nil (x : Int) (xs : List Int) : lexLt (x :: xs) [] = false := rfl

theorem eqAt_int (A : Around) (s : Shared) (a : Int) (t : Tok) (c : Int) (u : Tok) : ∃ e, SeqAt.EqAt A s (.int a t) (.int c u) e ∧ (e = true ↔ a = c) :=
  ⟨(a == c), SeqAt.EqAt.int_int a t c u, by simp⟩
theorem rcLt_int (A : Around) (s : Shared) (a : Int) (t : Tok) (c : Int) (u : Tok) (prog : Program) (w : World) (E : Value → Shared → Prop) (Q : Value → Shared → Prop) (h : Q (.bool (decide (a < c))) s) :
    wpAny (model prog w) A (richCompare .Lt (.int a t) (.int c u)) Q E s :=
  (PyProof.Rows.lt_int h : wpAny (model prog w) A (compareOp .Lt (.int a t) (.int c u)) Q E s)

section
open PySem.SeqAt
open PySem.AutoSeq1 (wpAny_loadPart')
open PySem.MeetsSeq PySem.MeetsSeq2 PySem.MeetsSeq3

theorem tuple_lt_ints (l b : Addr) (items items2 : Array Value) (n n2 : Nat) (dd dd2 : Option Addr) (sl sl2 : Array (Option Value)) (ns ms : List Int) (hi : IntsAre items.toList ns) (hj : IntsAre items2.toList ms) :
    Meets (Builtin.«tuple.__lt__» ⟨[.ref l, .ref b], []⟩)
      (fun _ R s => s.heap.get? l = some { cls := .type "tuple", dict := dd, data := .seq items n, slots := sl } ∧ s.heap.get? b = some { cls := .type "tuple", dict := dd2, data := .seq items2 n2, slots := sl2 } ∧
        R (.ok (.ret (.bool (lexLt ns ms)))) s) :=
  .of_wp fun prog w A R s h => by
    obtain ⟨hp, g, d, tk, os⟩ := s; obtain ⟨hl, hb, h⟩ := h
    have f2 := AutoSeq1.sub_tuple_tuple
    have z1 : items.size = ns.length := by rw [← hi.length]; simp
    have z2 : items2.size = ms.length := by rw [← hj.length]; simp
    wp_walk using wpAny_loadPart' hl, wpAny_loadPart' hb, wpAny_forIn_list _ (fun rest b s' => b.1 = none ∧ s' = ⟨hp, g, d, tk, os⟩ ∧ ∃ (vs ws : List Value) (ns' ms' : List Int), rest = vs.zip ws ∧
      IntsAre vs ns' ∧ IntsAre ws ms' ∧ ns'.length + items2.size = ms'.length + items.size ∧ R (.ok (.ret (.bool (lexLt ns' ms')))) ⟨hp, g, d, tk, os⟩) _
    case turn =>
      rintro ⟨y, x⟩ rest b s' ⟨hb', rfl, vs, ws, ns', ms', hz, hvi, hwi, hlen, hR⟩
      cases hvi with
      | nil => rw [List.zip_nil_left] at hz; cases hz
      | cons a t hvi' =>
        cases hwi with
        | nil => rw [List.zip_nil_right] at hz; cases hz
        | cons c u hwi' =>
          rw [List.zip_cons_cons] at hz
          injection hz with hyx hrest
          injection hyx with hy hx
          subst hy hx
          rw [lexLt_cons] at hR
          simp only [List.length_cons] at hlen
          obtain ⟨e, he, hiff⟩ := eqAt_int A.in1 ⟨hp, g, d, tk, os⟩ a t c u
          refine wpAny_bind (he prog w _ _ ?_)
          cases e with
          | true =>
            rw [if_pos (hiff.mp rfl)] at hR
            wp_walk
            exact ⟨rfl, rfl, _, _, _, _, hrest, hvi', hwi', by omega, hR⟩
          | false =>
            rw [if_neg (fun q => absurd (hiff.mpr q) Bool.false_ne_true)] at hR
            have hri := rcLt_int A.in1 ⟨hp, g, d, tk, os⟩ a t c u prog w
            wp_walk using hri
            exact ⟨_, rfl, by simpa using hR⟩
    case fin =>
      rintro ⟨b1, b2⟩ s' ⟨hb', rfl, vs, ws, ns', ms', hz, hvi, hwi, hlen, hR⟩
      simp only at hb'
      subst hb'
      have hv : lexLt ns' ms' = decide (items.size < items2.size) := by
        cases hvi with
        | nil =>
          cases hwi with
          | nil =>
            simp only [List.length_nil] at hlen
            rw [lexLt_nil_nil]
            exact (decide_eq_false (by omega)).symm
          | cons c u hw =>
            simp only [List.length_nil, List.length_cons] at hlen
            rw [lexLt_nil_cons]
            exact (decide_eq_true (by omega)).symm
        | cons a t hv =>
          cases hwi with
          | nil =>
            simp only [List.length_nil, List.length_cons] at hlen
            rw [lexLt_cons_nil]
            exact (decide_eq_false (by omega)).symm
          | cons c u hw =>
            rw [List.zip_cons_cons] at hz
            cases hz
      rw [hv] at hR
      wp_walk
      exact ⟨_, rfl, by simpa [Builtin.Tuple.tupleCompareSizes] using hR⟩
    case h =>
      exact ⟨rfl, rfl, items.toList, items2.toList, ns, ms, rfl, hi, hj, by omega, h⟩
end

section
variable {prog : Program} {w : World} {A : Around} {E : Value → Shared → Prop} {s : Shared}

theorem lt_tupInts {l b : Addr} {items items2 : Array Value} {ns ms : List Int} {Q : Value → Shared → Prop} (hl : IsTup s.heap l items) (hb : IsTup s.heap b items2) (hi : IntsAre items.toList ns) (hj : IntsAre items2.toList ms)
    (hu : A.units < cLine) (h : Q (.bool (lexLt ns ms)) s) : wpAny (model prog w) A (compareOp .Lt (.ref l) (.ref b)) Q E s := by
  obtain ⟨⟨cls, dd, data, sl⟩, ho, hc, n, hd⟩ := id hl
  obtain ⟨⟨cls2, dd2, data2, sl2⟩, ho2, hc2, n2, hd2⟩ := id hb
  simp only at hc hd hc2 hd2
  subst hc hd hc2 hd2
  exact richCompare_meets_room (op := .Lt) ⟨_, ho, rfl⟩ ⟨_, ho2, rfl⟩ PySem.F.slot_tuple_lt PySem.F.entry_tuple_lt (PySem.F.args_tuple_lt_2 _ _) (tuple_lt_ints l b items items2 n n2 dd dd2 sl sl2 ns ms hi hj)
    ⟨ho, ho2, show Value.bool (lexLt ns ms) ≠ Value.notImplemented ∧ Q (.bool (lexLt ns ms)) s from ⟨(fun x => nomatch x), h⟩⟩ hu

/-- t + u, t not empty -/
theorem cat_tup {t b : Addr} {vs ws : List Value} {Q : Value → Shared → Prop} (ht : IsTup s.heap t vs.toArray) (hb : IsTup s.heap b ws.toArray) (hv : vs ≠ [])
    (h1 : ws = [] → Q (.ref t) s) (h2 : ws ≠ [] → Q (.ref s.heap.objs.size) { s with heap := s.heap.push { cls := .type "tuple", data := .seq (vs ++ ws).toArray } })
    (hsz : vs.length + ws.length ≤ sizeLine) : wpAny (model prog w) A (binaryOp .Add (.ref t) (.ref b)) Q E s := by
  obtain ⟨⟨cls, dd, data, sl⟩, ho, hc, n, hd⟩ := id ht
  obtain ⟨⟨cls2, dd2, data2, sl2⟩, ho2, hc2, n2, hd2⟩ := id hb
  simp only at hc hd hc2 hd2
  subst hc hd hc2 hd2
  have e : vs.toArray ++ ws.toArray = (vs ++ ws).toArray := by simp
  by_cases hw : ws = []
  · exact concat_meets ⟨_, ho, rfl⟩ ⟨_, ho2, rfl⟩ noFill_tuple_add seq_tuple_add PySem.F.slot_tuple_add PySem.F.entry_tuple_add (PySem.F.args_tuple_add_2 _ _)
      (tuple_addW1 t b vs.toArray ws.toArray n n2 dd dd2 sl sl2 (by simpa using hv) (by simp [hw])) ⟨ho, ho2, h1 hw⟩
  · refine concat_meets ⟨_, ho, rfl⟩ ⟨_, ho2, rfl⟩ noFill_tuple_add seq_tuple_add PySem.F.slot_tuple_add PySem.F.entry_tuple_add (PySem.F.args_tuple_add_2 _ _)
      (tuple_addW2 t b vs.toArray ws.toArray n n2 dd dd2 sl sl2 (by simpa using hv) (by simpa using hw) (by rw [List.size_toArray, List.size_toArray]; exact hsz)) ⟨ho, ho2, ?_⟩
    rw [e]
    exact h2 hw

/-! ### t[a:b], not the whole -/
/-- a slice's bound as a place among n (d where it is left out) -/
def sIx (n d : Nat) : Option Int → Nat
  | none => d
  | some v => if v < 0 then (v + (n : Int)).toNat else min v.toNat n
theorem sIx_none (n d : Nat) : sIx n d none = d := rfl
theorem sIx_nat (n d k : Nat) : sIx n d (some (k : Int)) = min k n := by
  show (if (k : Int) < 0 then ((k : Int) + (n : Int)).toNat else min (k : Int).toNat n) = min k n
  rw [if_neg (by omega), Int.toNat_natCast]
theorem sIx_le (n d : Nat) (hd : d ≤ n) (o : Option Int) : sIx n d o ≤ n := by
  cases o with
  | none => exact hd
  | some v =>
    show (if v < 0 then (v + (n : Int)).toNat else min v.toNat n) ≤ n
    by_cases hv : v < 0
    · rw [if_pos hv]; omega
    · rw [if_neg hv]; exact Nat.min_le_right _ _
theorem clip_eq (v : Int) (n d : Nat) : (if v < 0 then max (v + (n : Int)) 0 else min v (n : Int)) = ((sIx n d (some v) : Nat) : Int) := by
  show (if v < 0 then max (v + (n : Int)) 0 else min v (n : Int)) = (((if v < 0 then (v + (n : Int)).toNat else min v.toNat n) : Nat) : Int)
  by_cases hv : v < 0
  · simp only [if_pos hv]; omega
  · simp only [if_neg hv]; omega
theorem adjust_gen (lo hi : Option Int) (n : Nat) : Builtin.Slice.sliceAdjust lo hi 1 (n : Int) = (((sIx n 0 lo : Nat) : Int), ((sIx n n hi : Nat) : Int)) := by
  have h1 : ¬ ((1 : Int) < 0) := by omega
  unfold Builtin.Slice.sliceAdjust
  simp only [h1, if_false]
  refine Prod.ext ?_ ?_
  · cases lo with
    | none => rfl
    | some v => exact clip_eq v n 0
  · cases hi with
    | none => rfl
    | some v => exact clip_eq v n n
theorem places_gen (i j : Nat) : Builtin.Slice.slicePlaces (i : Int) (j : Int) 1 = j - i := by
  unfold Builtin.Slice.slicePlaces
  have h1 : (1 : Int) > 0 := by omega
  simp only [h1, if_true, Int.ediv_one]
  split <;> omega
theorem slicePart_ {v : Value} {o : Option Int} {Q : Option Int → Shared → Prop} (p : IsPart v o) (h : Q o s) : wpAny (model prog w) A (Builtin.Slice.slicePartIndex v) Q E s := by
  cases p with
  | none => exact slicePart_none h
  | int i t => exact slicePart_int h
theorem sliceApplied_gen {sl : Addr} {vl vu : Value} {lo hi : Option Int} {n : Nat} {Q : Int × Int × Nat → Shared → Prop} (hs : s.heap.IsSliceOf sl vl vu .none) (pl : IsPart vl lo) (pu : IsPart vu hi)
    (h : Q (((sIx n 0 lo : Nat) : Int), 1, sIx n n hi - sIx n 0 lo) s) : wpAny (model prog w) A (Builtin.Slice.sliceApplied (.ref sl) (pure (n : Int))) Q E s := by
  obtain ⟨os, hos, hcs, hds⟩ := id hs
  unfold Builtin.Slice.sliceApplied Builtin.Slice.sliceFields
  refine wpAny_bind (wpAny_bind (wpAny_field hos hds (x := vl) rfl (wpAny_bind (wpAny_field hos hds (x := vu) rfl (wpAny_bind (wpAny_field hos hds (x := .none) rfl (wpAny_pure ?_)))))))
  refine wpAny_bind (slicePart_none ?_)
  show wpAny _ _ (if ((1 : Int) == 0) = true then _ else _) _ _ s
  rw [if_neg (by decide)]
  refine wpAny_bind (slicePart_ pl (wpAny_bind (slicePart_ pu (wpAny_bind (wpAny_pure ?_)))))
  show wpAny _ _ (match Builtin.Slice.sliceAdjust lo hi 1 (n : Int) with | (lo, hi) => pure (lo, (1 : Int), Builtin.Slice.slicePlaces lo hi 1)) _ _ s
  rw [adjust_gen lo hi n]
  show wpAny _ _ (pure (((sIx n 0 lo : Nat) : Int), (1 : Int), Builtin.Slice.slicePlaces ((sIx n 0 lo : Nat) : Int) ((sIx n n hi : Nat) : Int) 1)) _ _ s
  rw [places_gen]
  exact wpAny_pure h
theorem pick_gen (xs : Array Value) (i k : Nat) : ((List.range k).filterMap fun (m : Nat) => xs[((i : Int) + (m : Int) * 1).toNat]?).toArray = ((xs.toList.drop i).take k).toArray := by
  have e : (fun (m : Nat) => xs[((i : Int) + (m : Int) * 1).toNat]?) = fun m => xs[i + m]? := by
    funext m
    have : ((i : Int) + (m : Int) * 1).toNat = i + m := by omega
    rw [this]
  rw [e]
  have := pick_run xs i k
  rw [List.filterMap_map] at this
  have e2 : ((fun x => xs[x]?) ∘ fun x => i + x) = fun m => xs[i + m]? := rfl
  rw [e2] at this
  rw [this]

theorem getItem_tuple_cut {t sl : Addr} {items : Array Value} {vl vu : Value} {lo hi : Option Int} {Q : Value → Shared → Prop} (ht : IsTup s.heap t items) (hs : s.heap.IsSliceOf sl vl vu .none) (pl : IsPart vl lo) (pu : IsPart vu hi)
    (hw : ¬ (sIx items.size 0 lo = 0 ∧ sIx items.size items.size hi = items.size))
    (h : Q (.ref s.heap.objs.size) { s with heap := s.heap.push { cls := .type "tuple", data := .seq ((items.toList.drop (sIx items.size 0 lo)).take (sIx items.size items.size hi - sIx items.size 0 lo)).toArray } })
    (hsz : items.size ≤ sizeLine) : wpAny (model prog w) A (getItem (.ref t) (.ref sl)) Q E s := by
  have htake : sizeOk (.seq ((items.toList.drop (sIx items.size 0 lo)).take (sIx items.size items.size hi - sIx items.size 0 lo)).toArray) := by
    show ((items.toList.drop (sIx items.size 0 lo)).take (sIx items.size items.size hi - sIx items.size 0 lo)).toArray.size ≤ sizeLine
    rw [List.size_toArray, List.length_take, List.length_drop, Array.length_toList]
    omega
  have hj : sIx items.size items.size hi ≤ items.size := sIx_le _ _ (Nat.le_refl _) hi
  obtain ⟨os, hos, hcs, hds⟩ := id hs
  have hTs : s.TypeIs (.ref sl) "slice" := ⟨os, hos, hcs⟩
  unfold getItem
  try with_reducible refine wpAny_holding ?_
  first | refine wpAny_bind (wpAny_pure ?_) | skip
  refine wpAny_bind (wpAny_sequenceKey ht.typeIs (by decide) ?_)
  refine wpAny_bind (wpAny_callSpecial?_slot (name := Str.ofString "__getitem__") ht.typeIs PyProof.Rows.slot_tuple_getitem
    (wpAny_call_entry PyProof.Rows.slot_tuple_getitem ht.typeIs entry_tuple_getitem ?_ (args_tuple_getitem _ _)))
  show wpAny _ _ (Builtin.Tuple.tupleItemsOf (.ref t) >>= _) _ _ s
  refine wpAny_bind (tupleItemsOf_ ht ?_)
  refine wpAny_bind (wpAny_typeOf hTs ?_)
  rw [if_pos (by decide)]
  refine wpAny_bind (sliceApplied_gen hs pl pu ?_)
  have hno : ¬ ((((sIx items.size 0 lo : Nat) : Int) == 0 && (1 : Int) == 1 && (sIx items.size items.size hi - sIx items.size 0 lo) == items.size) = true) := by
    intro q
    rw [Bool.and_eq_true, Bool.and_eq_true] at q
    have q1 : ((sIx items.size 0 lo : Nat) : Int) = 0 := eq_of_beq q.1.1
    have q2 : sIx items.size items.size hi - sIx items.size 0 lo = items.size := eq_of_beq q.2
    exact hw ⟨by omega, by omega⟩
  show wpAny _ _ (if (((sIx items.size 0 lo : Nat) : Int) == 0 && (1 : Int) == 1 && (sIx items.size items.size hi - sIx items.size 0 lo) == items.size) = true then _ else _) _ _ s
  rw [if_neg hno, pick_gen]
  first
    | exact wpAny_bind (m := Builtin.Tuple.tupleExact _) (wpAny_newObj_type (wpAny_pure ⟨_, rfl, wpAny_pure h⟩) htake)
    | exact wpAny_bind (m := Builtin.Tuple.tupleExact _) (wpAny_newObj_type (wpAny_bind (wpAny_pure (wpAny_pure ⟨_, rfl, wpAny_pure h⟩))) htake)
    | exact wpAny_bind (wpAny_bind (m := Builtin.Tuple.tupleExact _) (wpAny_newObj_type (wpAny_pure (wpAny_pure ⟨_, rfl, wpAny_pure h⟩)) htake))
    | exact wpAny_bind (wpAny_bind (m := Builtin.Tuple.tupleExact _) (wpAny_newObj_type (wpAny_pure ⟨_, rfl, wpAny_pure h⟩) htake))
end
end HT

namespace L2
open PySem PySem.Spec PyProof.Rows

/-! ### the parts of a slice -/
abbrev TO := St → Hp → (Option Int → Hp → Prop) → Prop
/-- a slice's part (left out, or an int) -/
def PO (X : Cx) (e : Option Expr) (t : TO) : Prop :=
  ∀ (pins : List (Addr × Obj)) (s : Shared) (σ : St) (H : Hp) (Q : Option Int → Hp → Prop), Inv X pins σ H s → t σ H Q →
    wpAny (model X.prog X.w) X.A (evalPart e X.env) (fun u s' => ∃ o H', Inv X pins σ H' s' ∧ IsPart u o ∧ Q o H') X.xe s
def tNoPart : TO := fun _ H Q => Q none H
def tPart (t : TE) : TO := fun σ H Q => t σ H fun x H1 => ∃ i, x = .int i ∧ Q (some i) H1

theorem intsAre_of {ns : List Int} : ∀ {us : List Value}, Vals (ns.map V.int) us → IntsAre us ns := by
  induction ns with
  | nil => intro us r; rw [List.map_nil] at r; cases r; exact .nil
  | cons n ns ih =>
    intro us r
    rw [List.map_cons] at r
    cases r with
    | cons r1 r2 =>
      obtain ⟨t, e⟩ := r1
      subst e
      exact .cons n t (ih r2)

section
variable {X : Cx} {e : Expr} {te : TE} {lo hi : Option Expr} {tl th : TO} {pos p2 : Pos}

theorem po_none : PO X none tNoPart := by
  intro pins s σ H Q I h
  rw [evalPart_none]
  exact wpAny_pure ⟨none, H, I, .none, h⟩
theorem po_some (h : PE X e te) : PO X (some e) (tPart te) := by
  intro pins s σ H Q I hw
  rw [evalPart_some]
  refine thn (h pins s σ H _ I hw) fun u s1 ⟨x, H1, I1, r1, q1⟩ => ?_
  obtain ⟨i, rfl, q⟩ := q1
  obtain ⟨t, rfl⟩ := r1
  exact ⟨some i, H1, I1, .int i t, q⟩

/-- what a slice of a value is, by values: the slice object stands at sl -/
def SlR (X : Cx) (r : V → Option Int → Option Int → Hp → VK → Prop) : Prop :=
  ∀ (pins : List (Addr × Obj)) (s : Shared) (σ : St) (H : Hp) (x : V) (v vl vu : Value) (lo hi : Option Int) (sl : Addr) (Q : VK), Inv X pins σ H s → RelV x v → s.heap.IsSliceOf sl vl vu .none → IsPart vl lo → IsPart vu hi → r x lo hi H Q →
    ∃ T id, typeLookup (.type T) "__getitem__" = pure (some (.builtin id)) ∧ s.TypeIs v T ∧ wpAny (model X.prog X.w) X.A (getItem v (.ref sl)) (EP X pins σ Q) X.xe s
theorem SlR.or {r r' : V → Option Int → Option Int → Hp → VK → Prop} (h : SlR X r) (h' : SlR X r') : SlR X (fun x lo hi H Q => r x lo hi H Q ∨ r' x lo hi H Q) := by
  intro pins s σ H x v vl vu lo hi sl Q I rx hs pl pu q
  rcases q with q | q
  · exact h pins s σ H x v vl vu lo hi sl Q I rx hs pl pu q
  · exact h' pins s σ H x v vl vu lo hi sl Q I rx hs pl pu q
def tSl (r : V → Option Int → Option Int → Hp → VK → Prop) (te : TE) (tl th : TO) : TE := fun σ H Q => te σ H fun x H1 => tl σ H1 fun l H2 => th σ H2 fun u H3 => r x l u H3 Q
/-- a[lo:hi], any a -/
theorem pe_slice {r : V → Option Int → Option Int → Hp → VK → Prop} (hr : SlR X r) (he : PE X e te) (hl : PO X lo tl) (hu : PO X hi th) : PE X (.Subscript e (.Slice lo hi none p2) pos) (tSl r te tl th) := by
  intro pins s σ H Q I h
  refine Subscript_ (thn (he pins s σ H _ I h) fun v s1 ⟨x, H1, I1, r1, q1⟩ => ?_)
  refine wpAny_Slice (thn (hl pins s1 σ H1 _ I1 q1) fun vl s2 ⟨l, H2, I2, pl, q2⟩ => thn (hu pins s2 σ H2 _ I2 q2) fun vu s3 ⟨u, H3, I3, pu, q3⟩ => ?_)
  rw [evalPart_none]
  refine wpAny_pure ?_
  have I4 : Inv X pins σ H3 { s3 with heap := s3.heap.push { cls := .type "slice", data := .fields #[vl, vu, .none] } } := I3.kept (t' := s3.toks) fun b ob q => Heap.get?_push_of_some _ q
  obtain ⟨T, id, hT, ht, hg⟩ := hr pins { s3 with heap := s3.heap.push { cls := .type "slice", data := .fields #[vl, vu, .none] } } σ H3 x v vl vu l u s3.heap.objs.size Q I4 r1 (Heap.IsSliceOf.new ..) pl pu q3
  show wpAny (model X.prog X.w) X.A (subscriptTail e (.Slice lo hi none p2) v (.ref s3.heap.objs.size)) (EP X pins σ Q) X.xe { s3 with heap := s3.heap.push { cls := .type "slice", data := .fields #[vl, vu, .none] } }
  exact tail_any (ops := [.ref s3.heap.objs.size, v]) ht hT hg (by with_unfolding_all rfl)

/-- the items of xs[lo:hi] -/
def cutV (xs : List V) (lo hi : Option Int) : List V := (xs.drop (HT.sIx xs.length 0 lo)).take (HT.sIx xs.length xs.length hi - HT.sIx xs.length 0 lo)
theorem cutV_length (xs : List V) (lo hi : Option Int) : (cutV xs lo hi).length ≤ xs.length := by
  unfold cutV
  rw [List.length_take, List.length_drop]
  omega
/-- t[lo:hi], not the whole of it (the whole would be t itself) -/
def rSlT (K : PySem.W.Frag) : V → Option Int → Option Int → Hp → VK → Prop := fun x lo hi H Q => ∃ a xs, x = .ref a ∧ SqT K H a xs ∧
  ¬ (HT.sIx xs.length 0 lo = 0 ∧ HT.sIx xs.length xs.length hi = xs.length) ∧ ∀ p, H p = none → Q (.ref p) (upd H p (.tup (cutV xs lo hi)))
theorem sl_tup : SlR X (rSlT X.K) := by
  intro pins s σ H x v vl vu lo hi sl Q I rx hs pl pu h
  obtain ⟨a, xs, rfl, hx, hw, q⟩ := h
  cases rx
  obtain ⟨its, r, ht, hz⟩ := I.tuple hx
  have hlen : its.toArray.size = xs.length := by rw [List.size_toArray]; exact r.length.symm
  refine ⟨"tuple", _, PyProof.Rows.slot_tuple_getitem.lookup, ht.typeIs, ?_⟩
  refine HT.getItem_tuple_cut ht hs pl pu (by rw [hlen]; exact hw) ?_ (by rw [hlen]; exact hz)
  rw [hlen]
  refine ⟨.ref s.heap.objs.size, _, I.laid (t' := s.toks) (o := .tup (cutV xs lo hi)) (fun b ob q => Heap.get?_push_of_some _ q) (Nat.le_refl _) ?_, rfl, q _ (I.hok.fresh (Nat.le_refl _))⟩
  exact ⟨Nat.le_trans (cutV_length xs lo hi) hz, _, (r.drop (HT.sIx xs.length 0 lo)).take (HT.sIx xs.length xs.length hi - HT.sIx xs.length 0 lo), IsTup.new _ _⟩

/-! ### t < u, t + u -/
def rLtT (K : PySem.W.Frag) : R2 := fun x y H Q => ∃ a b ns ms, x = .ref a ∧ y = .ref b ∧ SqT K H a (ns.map V.int) ∧ SqT K H b (ms.map V.int) ∧ Q (.bl (HT.lexLt ns ms)) H
theorem op_ltT (hu : X.A.units < cLine) : OpR X (compareOp .Lt) (rLtT X.K) := by
  intro pins s σ H x y v u Q I rx ry h
  obtain ⟨a, b, ns, ms, rfl, rfl, ha, hb, q⟩ := h
  cases rx
  cases ry
  obtain ⟨its, r1, p1, _⟩ := I.tuple ha
  obtain ⟨its2, r2, p2, _⟩ := I.tuple hb
  have i1 : IntsAre its.toArray.toList ns := intsAre_of r1
  have i2 : IntsAre its2.toArray.toList ms := intsAre_of r2
  exact HT.lt_tupInts p1 p2 i1 i2 hu ⟨.bl (HT.lexLt ns ms), H, I, rfl, q⟩
/-- t + u, t not empty: u empty gives t itself -/
def rCatT (K : PySem.W.Frag) : R2 := fun x y H Q => ∃ a b xs ys, x = .ref a ∧ y = .ref b ∧ SqT K H a xs ∧ SqT K H b ys ∧ xs ≠ [] ∧ xs.length + ys.length ≤ sizeLine ∧
  (ys = [] → Q (.ref a) H) ∧ (ys ≠ [] → ∀ p, H p = none → Q (.ref p) (upd H p (.tup (xs ++ ys))))
theorem Vals.nil_iff {xs : List V} {us : List Value} (r : Vals xs us) : us = [] ↔ xs = [] := by
  cases r with
  | nil => simp
  | cons _ _ => simp
theorem op_catT : OpR X (binaryOp .Add) (rCatT X.K) := by
  intro pins s σ H x y v u Q I rx ry h
  obtain ⟨a, b, xs, ys, rfl, rfl, ha, hb, hx, hz, q1, q2⟩ := h
  cases rx
  cases ry
  obtain ⟨its, r1, p1, _⟩ := I.tuple ha
  obtain ⟨its2, r2, p2, _⟩ := I.tuple hb
  refine HT.cat_tup p1 p2 (fun z => hx (r1.nil_iff.mp z)) (fun z => ⟨.ref a, H, I, rfl, q1 (r2.nil_iff.mp z)⟩) (fun z => ?_) (by rw [← r1.length, ← r2.length]; exact hz)
  refine ⟨.ref s.heap.objs.size, _, I.laid (t' := s.toks) (o := .tup (xs ++ ys)) (fun b ob q => Heap.get?_push_of_some _ q) (Nat.le_refl _) ?_, rfl, q2 (fun w => z (r2.nil_iff.mpr w)) _ (I.hok.fresh (Nat.le_refl _))⟩
  exact ⟨by rw [List.length_append]; exact hz, _, r1.append r2, IsTup.new _ _⟩
/-- tuple(t) -/
theorem call_tupleT : CallR X (.type "tuple") (fun xs H Q => ∃ a ys, xs = [.ref a] ∧ SqT X.K H a ys ∧ Q (.ref a) H) := by
  intro pins s σ H xs us Q I r h
  obtain ⟨a, ys, rfl, ha, q⟩ := h
  obtain ⟨u, rfl, ru⟩ := vals1 r
  cases ru
  obtain ⟨its, _, p1, _⟩ := I.tuple ha
  exact call_tuple_same (items := its.toArray) p1 ⟨.ref a, H, I, rfl, q⟩
end
end L2

namespace L2
open PySem PySem.Spec PyProof.Rows

/-! ### places -/
/-- the place that an index of any sign means -/
def ixN (n : Nat) (i : Int) : Option Nat := if 0 ≤ i then (if i < n then some i.toNat else none) else if -(n : Int) ≤ i then some (i + n).toNat else none
def atI {α : Type} (xs : List α) (i : Int) : Option α := (ixN xs.length i).bind fun j => xs[j]?
theorem ixN_seq {n : Nat} {i : Int} {j : Nat} (h : ixN n i = some j) : seqIndex? i n = some j ∧ j < n ∧ -(n : Int) ≤ i ∧ i < n := by
  unfold ixN at h
  by_cases h0 : 0 ≤ i
  · rw [if_pos h0] at h
    by_cases h1 : i < n
    · rw [if_pos h1] at h
      have e : i.toNat = j := Option.some.inj h
      exact ⟨by rw [seqIndex_of h0 h1, e], by omega, by omega, h1⟩
    · rw [if_neg h1] at h; cases h
  · rw [if_neg h0] at h
    by_cases h1 : -(n : Int) ≤ i
    · rw [if_pos h1] at h
      have e : (i + n).toNat = j := Option.some.inj h
      exact ⟨by rw [seqIndex_neg (by omega) h1, e], by omega, h1, by omega⟩
    · rw [if_neg h1] at h; cases h
theorem atI_get {α : Type} {xs : List α} {i : Int} {v : α} (h : atI xs i = some v) : ∃ j, seqIndex? i xs.length = some j ∧ xs[j]? = some v ∧ j < xs.length ∧ -(xs.length : Int) ≤ i ∧ i < xs.length := by
  unfold atI at h
  cases e : ixN xs.length i with
  | none => rw [e] at h; cases h
  | some j =>
    rw [e] at h
    obtain ⟨h1, h2, h3, h4⟩ := ixN_seq e
    exact ⟨j, h1, h, h2, h3, h4⟩
theorem atI_nat {α : Type} {xs : List α} {j : Nat} {v : α} (h : xs[j]? = some v) : atI xs (j : Int) = some v := by
  have hj : j < xs.length := (List.getElem?_eq_some_iff.mp h).1
  have e : ixN xs.length (j : Int) = some j := by
    unfold ixN
    rw [if_pos (by omega), if_pos (by omega)]; simp
  unfold atI; rw [e]; exact h
theorem atI_last {α : Type} (xs : List α) (v : α) : atI (xs ++ [v]) (-1) = some v := by
  have hl : (xs ++ [v]).length = xs.length + 1 := by simp
  have e : ixN (xs ++ [v]).length (-1) = some xs.length := by
    unfold ixN
    rw [hl, if_neg (by decide), if_pos (by omega)]
    congr 1
    omega
  unfold atI
  rw [e]
  show (xs ++ [v])[xs.length]? = some v
  simp

/-! ### what may be subscripted -/
/-- what stands as an index of a plain subscript -/
def PlainIx (b : Expr) : Prop := ∀ o i, subscripted b false o i = operate [o, i] (getItem o i)
/-- a subscript by values -/
def IxR (X : Cx) (r : R2) : Prop :=
  ∀ (value slice : Expr) (pins : List (Addr × Obj)) (s : Shared) (σ : St) (H : Hp) (x y : V) (v u : Value) (Q : VK), Inv X pins σ H s → RelV x v → RelV y u → r x y H Q →
    subscripted slice false v u = operate [v, u] (getItem v u) → wpAny (model X.prog X.w) X.A (subscriptTail value slice v u) (EP X pins σ Q) X.xe s
/-- a call of a builtin's method by values: the receiver, the arguments -/
def MtR (X : Cx) (id : String) (r : V → List V → Hp → VK → Prop) : Prop :=
  ∀ (pins : List (Addr × Obj)) (s : Shared) (σ : St) (H : Hp) (x : V) (xs : List V) (v : Value) (us : List Value) (Q : VK), Inv X pins σ H s → RelV x v → Vals xs us → r x xs H Q →
    wpAny (model X.prog X.w) X.A (call (.builtin id) (v :: us)) (EP X pins σ Q) X.xe s
section
variable {X : Cx} {a b : Expr} {ta tb : TE} {pos : Pos}
theorem IxR.or {r r' : R2} (h : IxR X r) (h' : IxR X r') : IxR X (fun x y H Q => r x y H Q ∨ r' x y H Q) := by
  intro value slice pins s σ H x y v u Q I rx ry q hs
  rcases q with q | q
  · exact h value slice pins s σ H x y v u Q I rx ry q hs
  · exact h' value slice pins s σ H x y v u Q I rx ry q hs
theorem MtR.or {id : String} {r r' : V → List V → Hp → VK → Prop} (h : MtR X id r) (h' : MtR X id r') : MtR X id (fun x xs H Q => r x xs H Q ∨ r' x xs H Q) := by
  intro pins s σ H x xs v us Q I rx rs q
  rcases q with q | q
  · exact h pins s σ H x xs v us Q I rx rs q
  · exact h' pins s σ H x xs v us Q I rx rs q
/-- a[b] -/
theorem pe_ix {r : R2} (hr : IxR X r) (ha : PE X a ta) (hb : PE X b tb) (hs : PlainIx b) : PE X (.Subscript a b pos) (tOp r ta tb) := by
  intro pins s σ H Q I h
  exact Subscript_ (binT ha hb I h fun v u s2 x y H2 I2 rx ry q => hr a b pins s2 σ H2 x y v u Q I2 rx ry q (hs _ _))

def rIxL (K : PySem.W.Frag) : R2 := fun x y H Q => ∃ p xs i v, x = .ref p ∧ y = .int i ∧ SqL K H p xs ∧ atI xs i = some v ∧ Q v H
def rIxT (K : PySem.W.Frag) : R2 := fun x y H Q => ∃ p xs i v, x = .ref p ∧ y = .int i ∧ SqT K H p xs ∧ atI xs i = some v ∧ Q v H
def rIxS : R2 := fun x y H Q => ∃ z i c, x = .str z ∧ y = .int i ∧ z.length ≤ sizeLine ∧ atI z.cps.toList i = some c ∧ Q (.str ⟨#[c]⟩) H
theorem ix_list : IxR X (rIxL X.K) := by
  intro value slice pins s σ H x y v u Q I rx ry h hs
  obtain ⟨p, xs, i, z, rfl, rfl, hq, he, q⟩ := h
  cases rx
  obtain ⟨t, rfl⟩ := ry
  obtain ⟨its, r, pl, hz⟩ := I.list hq
  obtain ⟨j, h1, h2, h3, h4, h5⟩ := atI_get he
  obtain ⟨w, ew, rw'⟩ := r.get h2
  have hl := r.length
  have hn := line63
  have fin : EP X pins σ Q w s := ⟨z, H, I, rw', q⟩
  by_cases h0 : 0 ≤ i
  · have hj : i.toNat = j := by
      rw [seqIndex_of h0 h5] at h1
      exact Option.some.inj h1
    exact item_listR pl.isList h0 (by omega) (by rw [hj]; simpa using ew) fin hs
  · have hj : (i + (its.toArray.size : Int)).toNat = j := by
      rw [seqIndex_neg (by omega) h4] at h1
      rw [List.size_toArray, ← hl]
      exact Option.some.inj h1
    exact subscriptTail_builtinR (x := w) pl.isList.typeIs slot_list_getitem.lookup
      (wpAny_getItem_list_neg (Q := fun r s' => r = w ∧ EP X pins σ Q r s') pl.isList (by omega) (by rw [List.size_toArray] <;> omega) (by omega) (by rw [hj]; simpa using ew) ⟨rfl, fin⟩) hs
theorem ix_tup : IxR X (rIxT X.K) := by
  intro value slice pins s σ H x y v u Q I rx ry h hs
  obtain ⟨p, xs, i, z, rfl, rfl, hq, he, q⟩ := h
  cases rx
  obtain ⟨t, rfl⟩ := ry
  obtain ⟨its, r, pl, hz⟩ := I.tuple hq
  obtain ⟨j, h1, h2, h3, h4, h5⟩ := atI_get he
  obtain ⟨w, ew, rw'⟩ := r.get h2
  have hl := r.length
  have hn := line63
  have fin : EP X pins σ Q w s := ⟨z, H, I, rw', q⟩
  exact subscriptTail_builtinR (x := w) pl.typeIs slot_tuple_getitem.lookup
    (getItem_tuple (j := j) (Q := fun r s' => r = w ∧ EP X pins σ Q r s') pl (by omega) (by omega) (by rw [List.size_toArray, ← hl]; exact h1) (by simpa using ew) ⟨rfl, fin⟩) hs
theorem ix_str : IxR X rIxS := by
  intro value slice pins s σ H x y v u Q I rx ry h hs
  obtain ⟨z, i, c, rfl, rfl, hz, he, q⟩ := h
  obtain ⟨t, rfl⟩ := rx
  obtain ⟨t', rfl⟩ := ry
  obtain ⟨j, h1, h2, h3, h4, h5⟩ := atI_get he
  have hl : z.cps.toList.length = z.length := by simp [Str.length]
  rw [hl] at h1 h4 h5
  have hn := line63
  exact tail_any (typeIs_str s z t) slot_str_getitem.lookup (getItem_str (c := c) (by
    have e1 : decide (i < -(2 ^ 63 : Int)) = false := decide_eq_false (by omega)
    have e2 : decide (i ≥ 2 ^ 63) = false := decide_eq_false (by omega)
    rw [e1, e2, Bool.or_false]) (by rw [h1]; simpa using h2) ⟨.str ⟨#[c]⟩, H, I.tok _, ⟨_, rfl⟩, q⟩) hs
/-- list, tuple or str -/
def rIx (K : PySem.W.Frag) : R2 := fun x y H Q => rIxL K x y H Q ∨ rIxT K x y H Q ∨ rIxS x y H Q
theorem ix_seq : IxR X (rIx X.K) := ix_list.or (ix_tup.or ix_str)

/-! ### xs[i] = v, any sign -/
/-- the list's object behind a store -/
theorem mapSeq_set (its : List Value) (n j : Nat) (u : Value) : Obj.mapSeq (·.setIfInBounds j u) { cls := .type "list", data := .seq its.toArray n } = { cls := .type "list", data := .seq (its.set j u).toArray n } := by
  simp [Obj.mapSeq]
theorem Inv.lst {pins : List (Addr × Obj)} {σ : St} {H : Hp} {s : Shared} {p : Addr} {xs : List V} (I : Inv X pins σ H s) (h : H p = some (.lst xs)) :
    ∃ (its : List Value) (n : Nat), Vals xs its ∧ s.heap.get? p = some { cls := .type "list", data := .seq its.toArray n } ∧ xs.length ≤ sizeLine := by
  obtain ⟨z, its, n, r, e⟩ := I.hok p _ h
  exact ⟨its, n, r, e, z⟩
/-- the list at p is written by an update of its object -/
theorem Inv.lstUpd {pins : List (Addr × Obj)} {σ : St} {H : Hp} {s : Shared} {p : Addr} {xs ys : List V} {its its' : List Value} {n n' : Nat} {f : Obj → Obj} (I : Inv X pins σ H s) (h : H p = some (.lst xs))
    (ho : s.heap.get? p = some { cls := .type "list", data := .seq its.toArray n }) (hf : f { cls := .type "list", data := .seq its.toArray n } = { cls := .type "list", data := .seq its'.toArray n' }) (r : Vals ys its') (hz : ys.length ≤ sizeLine) (t : Nat) :
    Inv X pins σ (upd H p (.lst ys)) { s with heap := s.heap.update p f, toks := t } := by
  have e : (s.heap.update p f).get? p = some { cls := .type "list", data := .seq its'.toArray n' } := by
    rw [Heap.get?_update_self f ho (by rw [hf] <;> rfl), hf]
  refine I.write (x := p) (e := p) (by rw [h]; trivial) (.inl rfl) (fun b u hb q => (Heap.get?_update_other _ _ (Ne.symm hb)).trans q) ⟨_, e⟩ ?_
  exact ⟨hz, its', n', r, e⟩
def rSetL : V → V → V → Hp → (Hp → Prop) → Prop := fun o i v H Q => ∃ p xs k j, o = .ref p ∧ i = .int k ∧ H p = some (.lst xs) ∧ ixN xs.length k = some j ∧ Q (upd H p (.lst (xs.set j v)))
theorem set_list : PSet X rSetL := by
  intro pins s σ H o i v ov iv u Q I ro ri rv h
  obtain ⟨p, xs, k, j, rfl, rfl, hp, hj, q⟩ := h
  cases ro
  obtain ⟨t, rfl⟩ := ri
  obtain ⟨its, n, r, ho, hz⟩ := I.lst hp
  obtain ⟨h1, h2, h3, h4⟩ := ixN_seq hj
  have hl := r.length
  have hn := line63
  have I' : Inv X pins σ (upd H p (.lst (xs.set j v))) { s with heap := s.heap.update p (Obj.mapSeq (·.setIfInBounds j u)) } :=
    I.lstUpd hp ho (mapSeq_set its n j u) (r.set rv j) (by rw [List.length_set]; exact hz) s.toks
  by_cases h0 : 0 ≤ k
  · have hk : k.toNat = j := by
      rw [seqIndex_of h0 h4] at h1
      exact Option.some.inj h1
    exact PySem.W.ki_setAt ho h0 (by omega) (by rw [List.size_toArray, ← hl]; exact h4) (by rw [hk]; exact ⟨_, I', q⟩)
  · have hk : (k + (its.toArray.size : Int)).toNat = j := by
      rw [seqIndex_neg (by omega) h3] at h1
      rw [List.size_toArray, ← hl]
      exact Option.some.inj h1
    exact PySem.W.ki_setBack ho (by omega) (by rw [List.size_toArray, ← hl]; exact h3) (by omega) (by rw [hk]; exact ⟨_, I', q⟩)

/-! ### slices -/
theorem slice_bounds (lo hi : Option Int) (n : Nat) : (sliceBounds lo hi none n).1 = ((HT.sIx n 0 lo : Nat) : Int) ∧ (sliceBounds lo hi none n).2.1 = ((HT.sIx n n hi : Nat) : Int) ∧ (sliceBounds lo hi none n).2.2 = 1 := by
  refine ⟨?_, ?_, rfl⟩
  · cases lo with
    | none => simp [sliceBounds, HT.sIx]
    | some i =>
      simp only [sliceBounds, HT.sIx, Option.getD_none, show (1 : Int) > 0 by decide, if_true]
      by_cases h : i < 0
      · simp only [h, if_true] <;> omega
      · simp only [h, if_false] <;> omega
  · cases hi with
    | none => simp [sliceBounds, HT.sIx]
    | some i =>
      simp only [sliceBounds, HT.sIx, Option.getD_none, show (1 : Int) > 0 by decide, if_true]
      by_cases h : i < 0
      · simp only [h, if_true] <;> omega
      · simp only [h, if_false] <;> omega
theorem slicePick_cut (its : List Value) (lo hi : Option Int) : slicePick its.toArray lo hi none = ((its.drop (HT.sIx its.length 0 lo)).take (HT.sIx its.length its.length hi - HT.sIx its.length 0 lo)).toArray := by
  obtain ⟨h1, h2, h3⟩ := slice_bounds lo hi its.toArray.size
  unfold slicePick
  rw [h1, h2, h3]
  simp only [sliceRange_one, pick_run, List.size_toArray] <;> rfl
/-- xs[lo:hi] of a list: a new list -/
def rSlL (K : PySem.W.Frag) : V → Option Int → Option Int → Hp → VK → Prop := fun x lo hi H Q => ∃ a xs, x = .ref a ∧ SqL K H a xs ∧ ∀ p, H p = none → Q (.ref p) (upd H p (.lst (cutV xs lo hi)))
theorem sl_list : SlR X (rSlL X.K) := by
  intro pins s σ H x v vl vu lo hi sl Q I rx hs pl pu h
  obtain ⟨a, xs, rfl, hx, q⟩ := h
  cases rx
  obtain ⟨its, r, ht, hz⟩ := I.list hx
  have hlen := r.length
  refine ⟨"list", _, slot_list_getitem.lookup, ht.isList.typeIs, ?_⟩
  refine wpAny_getItem_list_slice ht.isList hs pl pu .none (by simp) ?_ (by rw [List.size_toArray] <;> omega)
  rw [slicePick_cut, ← hlen]
  refine ⟨.ref s.heap.objs.size, _, I.laid (t' := s.toks) (o := .lst (cutV xs lo hi)) (fun b ob q => Heap.get?_push_of_some _ q) (Nat.le_refl _) ?_, rfl, q _ (I.hok.fresh (Nat.le_refl _))⟩
  exact ⟨Nat.le_trans (cutV_length xs lo hi) hz, _, 0, (r.drop (HT.sIx xs.length 0 lo)).take (HT.sIx xs.length xs.length hi - HT.sIx xs.length 0 lo), Heap.get?_push_size _ rfl⟩

/-! ### in, not in: flat items -/
def flatV : V → Bool
  | .non => true
  | .bl _ => true
  | .int _ => true
  | .str _ => true
  | _ => false
/-- == of flat values -/
def eqV : V → V → Bool
  | .non, .non => true
  | .bl a, .bl b => a == b
  | .bl a, .int b => (if a then 1 else 0) == b
  | .int a, .bl b => a == (if b then 1 else 0)
  | .int a, .int b => a == b
  | .str a, .str b => a == b
  | _, _ => false
theorem eqAt_V {A : Around} {s : Shared} {y x : V} {u v : Value} (ry : RelV y u) (rx : RelV x v) (fy : flatV y = true) (fx : flatV x = true) : SeqAt.EqAt A s u v (eqV y x) := by
  cases y with
  | non =>
    cases ry
    cases x with
    | non => cases rx; exact SeqAt.EqAt.same _
    | bl b => cases rx; exact SeqAt.EqAt.none_bool b
    | int b => obtain ⟨t, rfl⟩ := rx; exact SeqAt.EqAt.none_int b t
    | str b => obtain ⟨t, rfl⟩ := rx; exact SeqAt.EqAt.none_str b t
    | _ => exact absurd (show false = true from fx) Bool.false_ne_true
  | bl a =>
    cases ry
    cases x with
    | non => cases rx; exact SeqAt.EqAt.bool_none a
    | bl b => cases rx; exact SeqAt.EqAt.bool_bool a b
    | int b => obtain ⟨t, rfl⟩ := rx; exact SeqAt.EqAt.bool_int a b t
    | str b => obtain ⟨t, rfl⟩ := rx; exact SeqAt.EqAt.bool_str a b t
    | _ => exact absurd (show false = true from fx) Bool.false_ne_true
  | int a =>
    obtain ⟨t', rfl⟩ := ry
    cases x with
    | non => cases rx; exact SeqAt.EqAt.int_none a t'
    | bl b => cases rx; exact SeqAt.EqAt.int_bool a t' b
    | int b => obtain ⟨t, rfl⟩ := rx; exact SeqAt.EqAt.int_int a t' b t
    | str b => obtain ⟨t, rfl⟩ := rx; exact SeqAt.EqAt.int_str a t' b t
    | _ => exact absurd (show false = true from fx) Bool.false_ne_true
  | str a =>
    obtain ⟨t', rfl⟩ := ry
    cases x with
    | non => cases rx; exact SeqAt.EqAt.str_none a t'
    | bl b => cases rx; exact SeqAt.EqAt.str_bool a t' b
    | int b => obtain ⟨t, rfl⟩ := rx; exact SeqAt.EqAt.str_int a t' b t
    | str b => obtain ⟨t, rfl⟩ := rx; exact SeqAt.EqAt.str_str a t' b t
    | _ => exact absurd (show false = true from fx) Bool.false_ne_true
  | _ => exact absurd (show false = true from fy) Bool.false_ne_true
/-- the items' answers, read off the values (a value's own answer does not lean on its token) -/
def eqU (x : V) (u : Value) : Bool := match u with
  | .none => eqV .non x
  | .bool b => eqV (.bl b) x
  | .int i _ => eqV (.int i) x
  | .str z _ => eqV (.str z) x
  | _ => false
theorem eqU_of {x y : V} {u : Value} (r : RelV y u) (f : flatV y = true) : eqU x u = eqV y x := by
  cases y with
  | non => cases r; rfl
  | bl b => cases r; rfl
  | int i => obtain ⟨t, rfl⟩ := r; rfl
  | str z => obtain ⟨t, rfl⟩ := r; rfl
  | _ => exact absurd (show false = true from f) Bool.false_ne_true
theorem any_eqU {x : V} : ∀ {xs : List V} {us : List Value}, Vals xs us → xs.all flatV = true → us.any (eqU x) = xs.any fun y => eqV y x
  | _, _, .nil, _ => rfl
  | y :: xs, u :: us, .cons r t, f => by
    rw [List.all_cons, Bool.and_eq_true] at f
    rw [List.any_cons, List.any_cons, eqU_of r f.1, any_eqU t f.2]
theorem mem_eqAt {A : Around} {s : Shared} {x : V} {v : Value} (rx : RelV x v) (fx : flatV x = true) : ∀ {xs : List V} {us : List Value}, Vals xs us → xs.all flatV = true → ∀ u ∈ us, SeqAt.EqAt A s u v (eqU x u)
  | _, _, .nil, _ => fun u hu => by cases hu
  | y :: xs, u :: us, .cons r t, f => fun u' hu => by
    rw [List.all_cons, Bool.and_eq_true] at f
    rcases List.mem_cons.mp hu with rfl | hu
    · rw [eqU_of r f.1]; exact eqAt_V r rx f.1 fx
    · exact mem_eqAt rx fx t f.2 u' hu
def inV (x : V) (xs : List V) : Bool := xs.any fun y => eqV y x
/-- x in a list or tuple of flat items -/
def rIn (K : PySem.W.Frag) (neg : Bool) : R2 := fun x y H Q => ∃ p xs, y = .ref p ∧ (SqL K H p xs ∨ SqT K H p xs) ∧ flatV x = true ∧ xs.all flatV = true ∧ Q (.bl (if neg then !inV x xs else inV x xs)) H
theorem op_in_seq : OpR X (compareOp .In) (rIn X.K false) := by
  intro pins s σ H x y v u Q I rx ry h
  obtain ⟨p, xs, rfl, hq, fx, fs, q⟩ := h
  cases ry
  rcases hq with hq | hq
  · obtain ⟨its, r, pl, hz⟩ := I.list hq
    refine SeqAt.in_listAt (eqU x) pl.isList (fun w hw => mem_eqAt rx fx r fs w (by simpa using hw)) ⟨.bl _, H, I, rfl, ?_⟩
    rw [show its.toArray.any (eqU x) = its.any (eqU x) by simp, any_eqU r fs]
    exact q
  · obtain ⟨its, r, pl, hz⟩ := I.tuple hq
    refine SeqAt.in_tupleAt (eqU x) pl (fun w hw => mem_eqAt rx fx r fs w (by simpa using hw)) ⟨.bl _, H, I, rfl, ?_⟩
    rw [show its.toArray.any (eqU x) = its.any (eqU x) by simp, any_eqU r fs]
    exact q
theorem op_notIn_seq : OpR X (compareOp .NotIn) (rIn X.K true) := by
  intro pins s σ H x y v u Q I rx ry h
  obtain ⟨p, xs, rfl, hq, fx, fs, q⟩ := h
  cases ry
  rcases hq with hq | hq
  · obtain ⟨its, r, pl, hz⟩ := I.list hq
    refine SeqAt.notIn_listAt (eqU x) pl.isList (fun w hw => mem_eqAt rx fx r fs w (by simpa using hw)) ⟨.bl _, H, I, rfl, ?_⟩
    rw [show its.toArray.any (eqU x) = its.any (eqU x) by simp, any_eqU r fs]
    exact q
  · obtain ⟨its, r, pl, hz⟩ := I.tuple hq
    refine SeqAt.notIn_tupleAt (eqU x) pl (fun w hw => mem_eqAt rx fx r fs w (by simpa using hw)) ⟨.bl _, H, I, rfl, ?_⟩
    rw [show its.toArray.any (eqU x) = its.any (eqU x) by simp, any_eqU r fs]
    exact q
theorem op_notIn_str : OpR X (compareOp .NotIn) (fun x y H Q => ∃ i j, x = .str i ∧ y = .str j ∧ Q (.bl (!(!(Builtin.Str.occurrences j i 0 j.length 1).isEmpty))) H) := by
  intro pins s σ H x y v u Q I rx ry h
  obtain ⟨i, j, rfl, rfl, q⟩ := h
  obtain ⟨t, rfl⟩ := rx
  obtain ⟨t', rfl⟩ := ry
  exact notIn_str ⟨.bl _, H, I, rfl, q⟩

/-! ### len, list(x), tuple(x) of any list or tuple that is read -/
theorem call_len_seq : CallR X (.builtin "len") (fun xs H Q => ∃ p ys, xs = [.ref p] ∧ (SqL X.K H p ys ∨ SqT X.K H p ys) ∧ Q (.int ys.length) H) := by
  intro pins s σ H xs us Q I r h
  obtain ⟨p, ys, rfl, hq, q⟩ := h
  obtain ⟨u, rfl, rx⟩ := vals1 r
  cases rx
  have hn := line63
  rcases hq with hq | hq
  · obtain ⟨its, r', pl, hz⟩ := I.list hq
    have hlen := r'.length
    exact Calls.call_len_list pl.isList (by simp only [List.size_toArray] <;> omega) ⟨.int ys.length, H, I.tok _, ⟨s.toks + 1, by rw [List.size_toArray, hlen]⟩, q⟩
  · obtain ⟨its, r', pl, hz⟩ := I.tuple hq
    have hlen := r'.length
    exact len_tuple pl (by simp only [List.size_toArray] <;> omega) ⟨.int ys.length, H, I.tok _, ⟨s.toks + 1, by rw [List.size_toArray, hlen]⟩, q⟩
theorem call_len_str : CallR X (.builtin "len") (fun xs H Q => ∃ z, xs = [.str z] ∧ z.length ≤ sizeLine ∧ Q (.int z.length) H) := by
  intro pins s σ H xs us Q I r h
  obtain ⟨z, rfl, hz, q⟩ := h
  obtain ⟨u, rfl, t, rfl⟩ := vals1 r
  have hn := line63
  exact len_str (by omega) ⟨.int z.length, H, I.tok _, ⟨_, rfl⟩, q⟩
theorem CallR.or {f : Value} {r r' : List V → Hp → VK → Prop} (h : CallR X f r) (h' : CallR X f r') : CallR X f (fun xs H Q => r xs H Q ∨ r' xs H Q) := by
  intro pins s σ H xs us Q I rs q
  rcases q with q | q
  · exact h pins s σ H xs us Q I rs q
  · exact h' pins s σ H xs us Q I rs q
theorem call_list_of : CallR X (.type "list") (fun xs H Q => ∃ p ys, xs = [.ref p] ∧ (SqL X.K H p ys ∨ SqT X.K H p ys) ∧ ∀ l, H l = none → Q (.ref l) (upd H l (.lst ys))) := by
  intro pins s σ H xs us Q I r h
  obtain ⟨p, ys, rfl, hq, q⟩ := h
  obtain ⟨u, rfl, rx⟩ := vals1 r
  cases rx
  have fin : ∀ (its : List Value), Vals ys its → ys.length ≤ sizeLine → ∀ (h' : Heap) (c' : Nat), (∀ b o', s.heap.get? b = some o' → h'.get? b = some o') →
      h'.get? s.heap.objs.size = some { cls := .type "list", dict := none, data := .seq its.toArray c', slots := #[] } → EP X pins σ Q (.ref s.heap.objs.size) { s with heap := h' } := fun its r' hz h' c' kp e =>
    ⟨.ref s.heap.objs.size, _, I.laid (t' := s.toks) kp (Nat.le_refl _) (show ObjOk X.prog X.w _ h' _ (.lst ys) from ⟨hz, its, c', r', e⟩), rfl, q _ (I.hok.fresh (Nat.le_refl _))⟩
  rcases hq with hq | hq
  · obtain ⟨its, r', pl, hz⟩ := I.list hq
    have hlen := r'.length
    obtain ⟨o, ho, hc, n, hd⟩ := pl.isList
    exact call_list_seq p (.inl rfl) ho hc hd (fun h' c' kp e => fin its r' hz h' c' kp e) (by simp only [List.size_toArray] <;> omega)
  · obtain ⟨its, r', pl, hz⟩ := I.tuple hq
    have hlen := r'.length
    obtain ⟨o, ho, hc, n, hd⟩ := pl
    exact call_list_seq p (.inr rfl) ho hc hd (fun h' c' kp e => fin its r' hz h' c' kp e) (by simp only [List.size_toArray] <;> omega)
theorem call_tuple_of : CallR X (.type "tuple") (fun xs H Q => ∃ p ys, xs = [.ref p] ∧ ((SqL X.K H p ys ∧ ∀ l, H l = none → Q (.ref l) (upd H l (.tup ys))) ∨ (SqT X.K H p ys ∧ Q (.ref p) H))) := by
  intro pins s σ H xs us Q I r h
  obtain ⟨p, ys, rfl, h⟩ := h
  obtain ⟨u, rfl, rx⟩ := vals1 r
  cases rx
  rcases h with ⟨hq, q⟩ | ⟨hq, q⟩
  · obtain ⟨its, r', pl, hz⟩ := I.list hq
    have hlen := r'.length
    refine call_tuple_list pl.isList (fun h' kp => ?_) (by simp only [List.size_toArray] <;> omega)
    have I1 : Inv X pins σ H { s with heap := h' } := I.kept (t' := s.toks) kp
    have I2 : Inv X pins σ (upd H h'.objs.size (.tup ys)) { s with heap := h'.push { cls := .type "tuple", data := .seq its.toArray } } :=
      I1.laid (t' := s.toks) (fun b o e => Heap.get?_push_of_some _ e) (Nat.le_refl _) (show ObjOk X.prog X.w _ _ _ (.tup ys) from ⟨hz, its, r', IsTup.new _ _⟩)
    exact ⟨.ref h'.objs.size, _, I2, rfl, q _ (I1.hok.fresh (Nat.le_refl _))⟩
  · obtain ⟨its, r', pl, hz⟩ := I.tuple hq
    exact call_tuple_same pl ⟨.ref p, H, I, rfl, q⟩

/-! ### the call of a builtin's method: o.m(..) -/
/-- the value is of that builtin type -/
def tyV (K : PySem.W.Frag) (T : String) (x : V) (H : Hp) : Prop := match x with
  | .str _ => T = "str"
  | .int _ => T = "int"
  | .ref p => (T = "list" ∧ ∃ xs, SqL K H p xs) ∨ (T = "tuple" ∧ ∃ o, K.lookup p = some o ∧ o.cls = .type "tuple" ∧ o.dict = none) ∨
      (T = "dict" ∧ ((∃ kvs, H p = some (.dK kvs)) ∨ ∃ kvs, H p = some (.dT kvs))) ∨ (T = "set" ∧ ∃ S n, H p = some (.set S n))
  | _ => False
theorem tyV_is {pins : List (Addr × Obj)} {σ : St} {H : Hp} {s : Shared} {T : String} {x : V} {v : Value} (I : Inv X pins σ H s) (r : RelV x v) (ty : tyV X.K T x H) :
    s.TypeIs v T ∧ ∀ a, v = .ref a → ∃ ob, s.heap.get? a = some ob ∧ ob.dict = none := by
  cases x with
  | str z =>
    obtain ⟨t, rfl⟩ := r
    cases (show T = "str" from ty)
    exact ⟨typeIs_str s z t, fun _ e => nomatch e⟩
  | int i =>
    obtain ⟨t, rfl⟩ := r
    cases (show T = "int" from ty)
    exact ⟨typeIs_int s i t, fun _ e => nomatch e⟩
  | ref p =>
    cases r
    rcases ty with ⟨rfl, xs, hq⟩ | ⟨rfl, o, hk, hc, hd⟩ | ⟨rfl, hk⟩ | ⟨rfl, S, n, hk⟩
    · obtain ⟨its, _, pl, _⟩ := I.list hq
      refine ⟨pl.isList.typeIs, fun a e => ?_⟩
      cases e
      obtain ⟨o, n, e, c, hd, _⟩ := pl
      exact ⟨o, e, hd⟩
    · refine ⟨⟨o, I.kIn p o hk, hc⟩, fun a e => ?_⟩
      cases e
      exact ⟨o, I.kIn _ o hk, hd⟩
    · have z : ∃ o, s.heap.get? p = some o ∧ o.ExactDict := by
        rcases hk with ⟨kvs, hk⟩ | ⟨kvs, hk⟩
        · obtain ⟨_, _, _, _, o, _, _, e, ex, _⟩ := I.hok p _ hk
          exact ⟨o, e, ex⟩
        · obtain ⟨_, _, _, _, o, _, _, e, ex, _⟩ := I.hok p _ hk
          exact ⟨o, e, ex⟩
      obtain ⟨o, e, ex⟩ := z
      refine ⟨⟨o, e, ex.1⟩, fun a e2 => ?_⟩
      cases e2
      exact ⟨o, e, ex.2.1⟩
    · obtain ⟨o, _, _, _, e, ex, _⟩ := I.hok p _ hk
      refine ⟨⟨o, e, ex.1⟩, fun a e2 => ?_⟩
      cases e2
      exact ⟨o, e, ex.2.1⟩
  | _ => exact False.elim ty
def tBM0 (K : PySem.W.Frag) (T : String) (r : V → List V → Hp → VK → Prop) (to : TE) : TE := fun σ H Q => to σ H fun x H1 => tyV K T x H1 ∧ r x [] H1 Q
def tBM (K : PySem.W.Frag) (T : String) (r : V → List V → Hp → VK → Prop) (to : TE) (t : TA) : TE := fun σ H Q => to σ H fun x H1 => tyV K T x H1 ∧ t σ H1 fun xs H2 => r x xs H2 Q
variable {o e : Expr} {es : List Expr} {to : TE} {t : TA} {name : Str} {apos cpos : Pos} {T id : String} {r : V → List V → Hp → VK → Prop}
theorem pe_bm0 (pa : PlainAttrs T) (slot : Slot T name id) (hty : typeOf (.builtin id) = pure (.type "method_descriptor")) (hm : MtR X id r) (ho : PE X o to)
    (hbase : attributeBase o name X.env (eval o X.env) = eval o X.env := by rfl) (hline : (apos.endLine == cpos.line) = true := by rfl) : PE X (.Call (.Attribute o name apos) [] [] cpos) (tBM0 X.K T r to) := by
  intro pins s σ H Q I h
  refine wpAny_Call_method0_late hbase hline (thn (ho pins s σ H _ I h) fun v s1 ⟨x, H1, I1, r1, ty, q1⟩ => ?_)
  obtain ⟨h1, h2⟩ := tyV_is I1 r1 ty
  exact ⟨T, id, pa, slot, hty, h1, h2, Calls.callWith_builtin rfl (PySem.evalArgs_none (hm pins s1 σ H1 x [] v [] Q I1 r1 .nil q1))⟩
theorem pe_bm (pa : PlainAttrs T) (slot : Slot T name id) (hty : typeOf (.builtin id) = pure (.type "method_descriptor")) (hm : MtR X id r) (ho : PE X o to) (ha : PA X (e :: es) t)
    (hbase : attributeBase o name X.env (eval o X.env) = eval o X.env := by rfl)
    (hfew : ((backTo cpos (starEach (e :: es) X.env)).all (fun x => !x.1) && (backToKw cpos (keywordEach [] X.env)).all (fun x => x.1.isSome)
      && decide ((e :: es).length + ([] : List Keyword).length + (if ([] : List Keyword).isEmpty then 0 else 1) < 30)) = true := by rfl)
    (hline : (apos.endLine == cpos.line) = true := by rfl) (hs : starEach (e :: es) X.env = (false, eval e X.env) :: starEach es X.env := by rfl) (hplain : (backTo cpos (starEach es X.env)).any (·.1) = false := by rfl) :
    PE X (.Call (.Attribute o name apos) (e :: es) [] cpos) (tBM X.K T r to t) := by
  intro pins s σ H Q I h
  refine wpAny_Call_method_late hbase hfew hline rfl (thn (ho pins s σ H _ I h) fun v s1 ⟨x, H1, I1, r1, ty, q1⟩ => ?_)
  obtain ⟨h1, h2⟩ := tyV_is I1 r1 ty
  refine ⟨T, id, pa, slot, hty, h1, h2, ?_⟩
  have hA := ha cpos pins s1 σ H1 _ I1 q1
  rw [hs] at hA ⊢
  refine Calls.callWith_builtin (by show (false || (backTo cpos (starEach es X.env)).any (·.1)) = false; rw [hplain] <;> rfl) (Calls.evalArgs_plain ?_)
  exact thn hA fun us s2 ⟨vs, H2, I2, r2, q2⟩ => hm pins s2 σ H2 x vs v us Q I2 r1 r2 q2
/- xs.append(e), list.index on a module's tuple .. are MtR facts of 06m -/
end
end L2

namespace L2
open PySem PySem.Spec PyProof.Rows

def MtM (X : Cx) (id : String) (r : V → List V → Hp → VK → Prop) : Prop :=
  ∀ (pins : List (Addr × Obj)) (s : Shared) (σ : St) (H : Hp) (x : V) (xs : List V) (v : Value) (us : List Value) (Q : VK), Inv X pins σ H s → RelV x v → Vals xs us → r x xs H Q →
    wpAny (model X.prog X.w) X.A (call (.builtin id) (v :: us)) (EP X pins σ Q) X.xe s

/-! ### lists of values -/
theorem Vals.one : ∀ {x : V} {us : List Value}, Vals [x] us → ∃ u, us = [u] ∧ RelV x u
  | _, _, .cons r .nil => ⟨_, rfl, r⟩
theorem Vals.two : ∀ {x y : V} {us : List Value}, Vals [x, y] us → ∃ u v, us = [u, v] ∧ RelV x u ∧ RelV y v
  | _, _, _, .cons r (.cons q .nil) => ⟨_, _, rfl, r, q⟩
theorem Vals.zero : ∀ {us : List Value}, Vals [] us → us = []
  | _, .nil => rfl
theorem Vals.dropLast {xs : List V} {us : List Value} (h : Vals xs us) : Vals xs.dropLast us.dropLast := by
  induction h with
  | nil => exact .nil
  | cons r t ih =>
    cases t with
    | nil => exact .nil
    | cons q t' => exact .cons r ih
theorem Vals.eraseIdx : ∀ {xs : List V} {us : List Value} (i : Nat), Vals xs us → Vals (xs.eraseIdx i) (us.eraseIdx i)
  | _, _, _, .nil => .nil
  | _, _, 0, .cons _ t => t
  | _, _, i + 1, .cons r t => .cons r (Vals.eraseIdx i t)
theorem Vals.reverse {xs : List V} {us : List Value} (h : Vals xs us) : Vals xs.reverse us.reverse := by
  induction h with
  | nil => exact .nil
  | cons r t ih => rw [List.reverse_cons, List.reverse_cons]; exact Vals.append ih (.cons r .nil)
theorem Vals.rep {xs : List V} {us : List Value} (h : Vals xs us) : ∀ k : Nat, Vals (List.replicate k xs).flatten (List.replicate k us).flatten
  | 0 => .nil
  | k + 1 => by
    rw [List.replicate_succ, List.replicate_succ, List.flatten_cons, List.flatten_cons]
    exact Vals.append h (Vals.rep h k)
theorem erase_last {α : Type} (l : List α) : l.eraseIdx (l.length - 1) = l.dropLast := by
  induction l with
  | nil => rfl
  | cons a r ih =>
    cases r with
    | nil => rfl
    | cons b r =>
      have e : (a :: b :: r).length - 1 = ((b :: r).length - 1) + 1 := by
        have h1 : (a :: b :: r).length = r.length + 2 := rfl
        have h2 : (b :: r).length = r.length + 1 := rfl
        omega
      rw [e, List.eraseIdx_cons_succ, ih]
      all_goals rfl
theorem len_erase {α : Type} : ∀ (l : List α) (i : Nat), (l.eraseIdx i).length ≤ l.length
  | [], _ => Nat.le_refl _
  | _ :: _, 0 => Nat.le_succ _
  | _ :: r, i + 1 => Nat.succ_le_succ (len_erase r i)
theorem foldl_rep (its : List Value) : ∀ (k : Nat) (acc : List Value),
    List.foldl (fun x1 x2 => x1 ++ x2) acc.toArray (List.replicate k its.toArray) = (acc ++ (List.replicate k its).flatten).toArray
  | 0, acc => by simp
  | k + 1, acc => by
    have e : acc.toArray ++ its.toArray = (acc ++ its).toArray := by simp
    have e2 : (acc ++ its) ++ (List.replicate k its).flatten = acc ++ (List.replicate (k + 1) its).flatten := by
      rw [List.replicate_succ, List.flatten_cons, List.append_assoc]
    rw [← e2, ← foldl_rep its k (acc ++ its), ← e, List.replicate_succ, List.foldl_cons]

section
variable {X : Cx} {pins : List (Addr × Obj)} {σ : St} {H : Hp} {s : Shared} {l b : Addr} {xs ys zs : List V}

/-! ### the two steps: a tracked list is rewritten, a new list is laid -/
theorem Inv.lset {its its' : List Value} {n : Nat} {f : Array Value → Array Value} {t' : Nat} (I : Inv X pins σ H s) (hH : H l = some (.lst xs))
    (e : s.heap.get? l = some { cls := .type "list", data := .seq its.toArray n }) (hf : f its.toArray = its'.toArray) (hv : Vals ys its') (hz : ys.length ≤ sizeLine) :
    Inv X pins σ (upd H l (.lst ys)) { s with heap := s.heap.update l (Obj.mapSeq f), toks := t' } := by
  have q := PySem.IsL.update e f
  rw [hf] at q
  refine I.write (x := l) (e := l) (by rw [hH]; exact trivial) (.inl rfl) (fun b' u hb hu => (Heap.get?_update_other s.heap (Obj.mapSeq f) (Ne.symm hb)).trans hu) ⟨_, q⟩ ?_
  exact ⟨hz, its', _, hv, q⟩
theorem Inv.lnew {its : List Value} {t' : Nat} (I : Inv X pins σ H s) (hv : Vals ys its) (hz : ys.length ≤ sizeLine) :
    Inv X pins σ (upd H s.heap.objs.size (.lst ys)) { s with heap := s.heap.push { cls := .type "list", data := .seq its.toArray }, toks := t' } :=
  I.laid (fun _ _ q => Heap.get?_push_of_some _ q) (Nat.le_refl _) ⟨hz, its, 0, hv, Heap.get?_push_size _ rfl⟩
theorem Inv.fresh (I : Inv X pins σ H s) : H s.heap.objs.size = none := I.hok.fresh (Nat.le_refl _)
theorem Inv.lstM (I : Inv X pins σ H s) (hH : H l = some (.lst xs)) : xs.length ≤ sizeLine ∧ ∃ (its : List Value) (n : Nat), Vals xs its ∧ xs.length = its.length ∧ s.heap.get? l = some { cls := .type "list", data := .seq its.toArray n } := by
  obtain ⟨z, its, n, r, e⟩ := I.hok l _ hH
  exact ⟨z, its, n, r, r.length, e⟩

theorem notLongL {n : Nat} (h : n ≤ sizeLine) : Builtin.List.listTooLong n = false := by
  unfold Builtin.List.listTooLong
  exact decide_eq_false (by omega)
end

section
variable {X : Cx}

/-! ### methods -/
def rAppend : V → List V → Hp → VK → Prop := fun x vs H Q => ∃ l xs y, x = .ref l ∧ vs = [y] ∧ H l = some (.lst xs) ∧ xs.length < sizeLine ∧ Q .non (upd H l (.lst (xs ++ [y])))
theorem mt_append : MtM X "list.append" rAppend := by
  intro pins s σ H x vs v us Q I rx rv h
  obtain ⟨l, xs, y, rfl, rfl, hH, hz, q⟩ := h
  cases rx
  obtain ⟨u, rfl, ru⟩ := rv.one
  obtain ⟨z, its, n, r, hl, e⟩ := I.lstM hH
  refine call_meets F.slot_list_append ⟨_, e, rfl⟩ F.entry_list_append (F.args_list_append_2 _ _) (PySem.list_append l its.toArray n u (by rw [List.size_toArray]; omega)) ⟨e, ?_⟩
  refine ⟨.non, _, I.lset (its' := its ++ [u]) hH e (by simp) (r.append (.cons ru .nil)) ?_, rfl, q⟩
  rw [List.length_append, List.length_singleton]
  omega

def rExtend : V → List V → Hp → VK → Prop := fun x vs H Q => ∃ l b xs zs, x = .ref l ∧ vs = [.ref b] ∧ H l = some (.lst xs) ∧ H b = some (.lst zs) ∧ xs.length + zs.length ≤ sizeLine ∧ Q .non (upd H l (.lst (xs ++ zs)))
theorem mt_extend : MtM X "list.extend" rExtend := by
  intro pins s σ H x vs v us Q I rx rv h
  obtain ⟨l, b, xs, zs, rfl, rfl, hH, hB, hz, q⟩ := h
  cases rx
  obtain ⟨u, rfl, ru⟩ := rv.one
  cases ru
  obtain ⟨z, its, n, r, hl, e⟩ := I.lstM hH
  obtain ⟨z2, its2, n2, r2, hl2, e2⟩ := I.lstM hB
  have hsz : its.toArray.size + its2.toArray.size ≤ sizeLine := by rw [List.size_toArray, List.size_toArray]; omega
  have hlong : ¬ (!its.toArray.isEmpty && Builtin.List.listTooLong (its.toArray.size + its2.toArray.size)) = true := by
    rw [notLongL hsz, Bool.and_false]
    exact Bool.false_ne_true
  refine call_meets F.slot_list_extend ⟨_, e, rfl⟩ F.entry_list_extend (F.args_list_extend_2 _ _)
    (AutoSeq1.list_extend_list_list_0 l its.toArray n b its2.toArray n2 hlong (by rw [List.size_toArray]; omega) (by omega)) ⟨e, e2, ?_⟩
  refine ⟨.non, _, I.lset (its' := its ++ its2) hH e (by simp) (r.append r2) ?_, rfl, q⟩
  rw [List.length_append]
  omega

def rPop : V → List V → Hp → VK → Prop := fun x vs H Q => ∃ l xs y, x = .ref l ∧ vs = [] ∧ H l = some (.lst xs) ∧ xs[xs.length - 1]? = some y ∧ Q y (upd H l (.lst xs.dropLast))
theorem mt_pop : MtM X "list.pop" rPop := by
  intro pins s σ H x vs v us Q I rx rv h
  obtain ⟨l, xs, y, rfl, rfl, hH, hy, q⟩ := h
  cases rx
  have hus := rv.zero
  subst hus
  obtain ⟨z, its, n, r, hl, e⟩ := I.lstM hH
  obtain ⟨u, hu, ru⟩ := r.get hy
  have hy' : its.toArray[its.toArray.size - 1]? = some u := by
    show its.toArray[its.length - 1]? = some u
    rw [← Array.getElem?_toList, ← hl]
    exact hu
  refine call_meets F.slot_list_pop ⟨_, e, rfl⟩ F.entry_list_pop (F.args_list_pop_1 _) (MeetsSeq.list_pop_last l its.toArray n u hy' (by rw [List.size_toArray]; omega)) ⟨e, ?_⟩
  refine ⟨y, _, I.lset (its' := its.dropLast) hH e ?_ r.dropLast ?_, ru, q⟩
  · show its.toArray.eraseIdxIfInBounds (its.toArray.size - 1) = its.dropLast.toArray
    rw [List.size_toArray, List.eraseIdxIfInBounds_toArray, erase_last]
  · rw [List.length_dropLast]
    omega

def rPopAt : V → List V → Hp → VK → Prop := fun x vs H Q => ∃ l xs i k y, x = .ref l ∧ vs = [.int i] ∧ H l = some (.lst xs) ∧ -(2 ^ 63) ≤ i ∧ i < 2 ^ 63 ∧ seqIndex? i xs.length = some k ∧ xs[k]? = some y ∧ Q y (upd H l (.lst (xs.eraseIdx k)))
theorem mt_popAt : MtM X "list.pop" rPopAt := by
  intro pins s σ H x vs v us Q I rx rv h
  obtain ⟨l, xs, i, k, y, rfl, rfl, hH, h1, h2, hk, hy, q⟩ := h
  cases rx
  obtain ⟨u, rfl, ru⟩ := rv.one
  obtain ⟨t, rfl⟩ := ru
  obtain ⟨z, its, n, r, hl, e⟩ := I.lstM hH
  obtain ⟨w, hw, rw'⟩ := r.get hy
  refine call_meets F.slot_list_pop ⟨_, e, rfl⟩ F.entry_list_pop (F.args_list_pop_2 _ _)
    (MeetsSeq.list_pop_at l its.toArray n i t k w (fitsIndex_both h1 h2) (by rw [List.size_toArray, ← hl]; exact hk) (by rw [← Array.getElem?_toList]; exact hw) (by rw [List.size_toArray]; omega)) ⟨e, ?_⟩
  refine ⟨y, _, I.lset (its' := its.eraseIdx k) hH e ?_ (r.eraseIdx k) ?_, rw', q⟩
  · show its.toArray.eraseIdxIfInBounds k = (its.eraseIdx k).toArray
    rw [List.eraseIdxIfInBounds_toArray]
  · have := len_erase xs k
    omega

def rReverse : V → List V → Hp → VK → Prop := fun x vs H Q => ∃ l xs, x = .ref l ∧ vs = [] ∧ H l = some (.lst xs) ∧ Q .non (upd H l (.lst xs.reverse))
theorem mt_reverse : MtM X "list.reverse" rReverse := by
  intro pins s σ H x vs v us Q I rx rv h
  obtain ⟨l, xs, rfl, rfl, hH, q⟩ := h
  cases rx
  have hus := rv.zero
  subst hus
  obtain ⟨z, its, n, r, hl, e⟩ := I.lstM hH
  refine call_meets F.slot_list_reverse ⟨_, e, rfl⟩ F.entry_list_reverse (F.args_list_reverse_1 _) (AutoSeq1.list_reverse_list_0 l its.toArray n (by rw [List.size_toArray]; omega)) ⟨e, ?_⟩
  refine ⟨.non, _, I.lset (its' := its.reverse) hH e (by simp) r.reverse ?_, rfl, q⟩
  rw [List.length_reverse]
  omega

def rClear : V → List V → Hp → VK → Prop := fun x vs H Q => ∃ l xs, x = .ref l ∧ vs = [] ∧ H l = some (.lst xs) ∧ Q .non (upd H l (.lst []))
theorem mt_clear : MtM X "list.clear" rClear := by
  intro pins s σ H x vs v us Q I rx rv h
  obtain ⟨l, xs, rfl, rfl, hH, q⟩ := h
  cases rx
  have hus := rv.zero
  subst hus
  obtain ⟨z, its, n, r, hl, e⟩ := I.lstM hH
  refine call_meets F.slot_list_clear ⟨_, e, rfl⟩ F.entry_list_clear (F.args_list_clear_1 _) (AutoSeq1.list_clear_list_0 l its.toArray n (by rw [List.size_toArray]; omega)) ⟨e, ?_⟩
  exact ⟨.non, _, I.lset (its' := []) (ys := []) hH e rfl .nil (Nat.zero_le _), rfl, q⟩

/-! ### list + list, list += list, list * int -/
def rCat : R2 := fun x y H Q => ∃ l b xs zs, x = .ref l ∧ y = .ref b ∧ H l = some (.lst xs) ∧ H b = some (.lst zs) ∧ xs.length + zs.length ≤ sizeLine ∧ ∀ p, H p = none → Q (.ref p) (upd H p (.lst (xs ++ zs)))
theorem op_cat : OpR X (binaryOp .Add) rCat := by
  intro pins s σ H x y v u Q I rx ry h
  obtain ⟨l, b, xs, zs, rfl, rfl, hH, hB, hz, q⟩ := h
  cases rx
  cases ry
  obtain ⟨z, its, n, r, hl, e⟩ := I.lstM hH
  obtain ⟨z2, its2, n2, r2, hl2, e2⟩ := I.lstM hB
  refine PySem.P.add_list e e2 ?_ (by rw [List.size_toArray, List.size_toArray]; omega)
  have ea : its.toArray ++ its2.toArray = (its ++ its2).toArray := by simp
  rw [ea]
  exact ⟨.ref _, _, I.lnew (t' := s.toks) (r.append r2) (by rw [List.length_append]; omega), rfl, q _ I.fresh⟩
/-- a list times an int (a negative one is nothing) -/
def rRep : R2 := fun x y H Q => ∃ l k xs, x = .ref l ∧ y = .int k ∧ H l = some (.lst xs) ∧ -(2 ^ 63) ≤ k ∧ k < 2 ^ 63 ∧ xs.length * k.toNat ≤ sizeLine ∧
  ∀ p, H p = none → Q (.ref p) (upd H p (.lst (List.replicate k.toNat xs).flatten))
theorem len_rep {α : Type} (xs : List α) (k : Nat) : (List.replicate k xs).flatten.length = k * xs.length := by
  induction k with
  | zero => simp
  | succ k ih => rw [List.replicate_succ, List.flatten_cons, List.length_append, ih, Nat.succ_mul, Nat.add_comm]
theorem op_rep : OpR X (binaryOp .Mult) rRep := by
  intro pins s σ H x y v u Q I rx ry h
  obtain ⟨l, k, xs, rfl, rfl, hH, h1, h2, hz, q⟩ := h
  cases rx
  obtain ⟨t, rfl⟩ := ry
  obtain ⟨z, its, n, r, hl, e⟩ := I.lstM hH
  have hlen : its.toArray.size * k.toNat ≤ sizeLine := by rw [List.size_toArray, ← hl]; exact hz
  have hcap : ¬ its.toArray.size * k.toNat > (2 ^ 63 - 1) / 8 := by
    have : (sizeLine : Nat) ≤ (2 ^ 63 - 1) / 8 := by decide
    omega
  have hfit : ¬ (!Builtin.List.listFitsIndex k) = true := by
    rw [fitsIndex_both h1 h2]
    exact Bool.false_ne_true
  have hlong : ¬ Builtin.List.listTooLong (its.toArray.size * k.toNat) = true := by
    rw [notLongL hlen]
    exact Bool.false_ne_true
  have hnew : List.foldl (fun x1 x2 => x1 ++ x2) #[] (List.replicate (if its.toArray.isEmpty = true then 0 else k.toNat) its.toArray) = (List.replicate k.toNat its).flatten.toArray := by
    have f0 : ∀ m : Nat, List.foldl (fun x1 x2 => x1 ++ x2) #[] (List.replicate m its.toArray) = (List.replicate m its).flatten.toArray := fun m => by
      have := foldl_rep its m []
      rw [List.nil_append] at this
      exact this
    rw [f0]
    cases its with
    | nil => simp
    | cons a r' => rw [if_neg (by simp)]
  refine wpAny_binaryOp_repeat_ref (T := "list") (U := "int") (by decide) ⟨_, e, rfl⟩ (fun s' => typeIs_int s' k t) noFill_list_mul F.fills_int_mul F.slot_int_rmul repeat_list F.slot_int_index.lookup
    (call_meets F.slot_int_rmul (typeIs_int s k t) F.entry_int_rmul (F.args_int_rmul_2 _ _) (int___rmul___int_list k t l its.toArray n)
      ⟨e, rfl, ⟨_, e, rfl⟩, call_meets F.slot_list_mul ⟨_, e, rfl⟩ F.entry_list_mul (F.args_list_mul_2 _ _) (AutoListH.list___mul___list_int_3 l its.toArray n k t hfit hcap hlong) ⟨e, ?_⟩⟩)
  rw [hnew]
  exact ⟨.ref _, _, I.lnew (t' := s.toks) (r.rep k.toNat) (by rw [len_rep, Nat.mul_comm]; exact hz), rfl, q _ I.fresh⟩

/-! ### del xs[i] -/
theorem del_list {pins : List (Addr × Obj)} {s : Shared} {σ : St} {H : Hp} {l : Addr} {xs : List V} {i : Int} {t : Tok} {k : Nat} {Q : Unit → Shared → Prop} (I : Inv X pins σ H s) (hH : H l = some (.lst xs))
    (h1 : -(2 ^ 63) ≤ i) (h2 : i < 2 ^ 63) (hk : seqIndex? i xs.length = some k) (h : ∀ s', Inv X pins σ (upd H l (.lst (xs.eraseIdx k))) s' → Q () s') :
    wpAny (model X.prog X.w) X.A (delItem (.ref l) (.int i t)) Q X.xe s := by
  obtain ⟨z, its, n, r, hl, e⟩ := I.lstM hH
  refine PySem.P.delItem_list (k := k) e (fitsIndex_both h1 h2) (by rw [List.size_toArray, ← hl]; exact hk) (h _ ?_) (by rw [List.size_toArray]; omega)
  refine I.lset (its' := its.eraseIdx k) (t' := s.toks) hH e ?_ (r.eraseIdx k) ?_
  · show its.toArray.eraseIdxIfInBounds k = (its.eraseIdx k).toArray
    rw [List.eraseIdxIfInBounds_toArray]
  · have := len_erase xs k
    omega
end

/-! ### xs[a:b] = ys -/
section
variable {prog : Program} {w : World} {A : Around} {E : Value → Shared → Prop} {s : Shared}
theorem splice_eq (its its2 : List Value) (a c : Nat) : its.toArray.extract 0 a ++ its2.toArray ++ its.toArray.extract c its.toArray.size = (its.take a ++ its2 ++ its.drop c).toArray := by
  apply Array.toList_inj.mp
  first
    | (simp
       exact List.take_of_length_le (by simp))
    | simp [List.take_of_length_le]
    | simp
theorem bounds_run {a c n : Nat} (hac : a ≤ c) (hc : c ≤ n) : sliceBounds (some (a : Int)) (some (c : Int)) none n = ((a : Int), (c : Int), 1) := by
  simp only [sliceBounds, Option.getD_none]
  have h1 : ¬ ((a : Int) < 0) := by omega
  have h2 : ¬ ((c : Int) < 0) := by omega
  simp only [h1, h2, if_false, show (1 : Int) > 0 by decide, if_true]
  congr 1
  · omega
  · congr 1; omega
set_option maxRecDepth 100000 in
/-- list.__setitem__ with a slice of step one and another list -/
theorem setItem_slice {l b sl : Addr} {items new : Array Value} {n n2 : Nat} {vl vu : Value} {a c : Nat} {Q : Unit → Shared → Prop}
    (e : s.heap.get? l = some { cls := .type "list", data := .seq items n }) (e2 : s.heap.get? b = some { cls := .type "list", data := .seq new n2 }) (hne : l ≠ b)
    (hs : s.heap.IsSliceOf sl vl vu .none) (pl : IsPart vl (some (a : Int))) (pu : IsPart vu (some (c : Int))) (hac : a ≤ c) (hc : c ≤ items.size)
    (hsz : items.size + new.size ≤ sizeLine) (h : Q () { s with heap := s.heap.update l (Obj.mapSeq fun xs => xs.extract 0 a ++ new ++ xs.extract c xs.size) }) :
    wpAny (model prog w) A (setItem (.ref l) (.ref sl) (.ref b)) Q E s := by
  have hl : s.heap.IsList l items := PySem.IsL.isList e
  have hb : s.heap.IsList b new := PySem.IsL.isList e2
  obtain ⟨os, hos, hcs, hds⟩ := id hs
  have hTs : s.TypeIs (.ref sl) "slice" := ⟨os, hos, hcs⟩
  have hstep : ¬ ((rawPart none == rawInt 0) = true) := Bool.false_ne_true
  have hsame : Builtin.List.listSameRef (.ref l) (.ref b) = false := by
    unfold Builtin.List.listSameRef
    exact beq_eq_false_iff_ne.mpr hne
  have hmax : (max (a : Int) (c : Int)).toNat = c := by omega
  have hz' : ((fun xs : Array Value => xs.extract 0 a ++ new ++ xs.extract c xs.size) items).size ≤ sizeLine + 1 := by
    simp only [Array.size_append, Array.size_extract]
    omega
  unfold setItem
  try with_reducible refine wpAny_holding ?_
  first | refine wpAny_bind (wpAny_pure ?_) | skip
  refine wpAny_bind (wpAny_sequenceKey hl.typeIs (by decide) ?_)
  refine wpAny_bind (wpAny_callSpecial?_slot (name := Str.ofString "__setitem__") hl.typeIs slot_list_setitem
    (wpAny_call_entry slot_list_setitem hl.typeIs entry_list_setitem ?_ (args_list_setitem _ _ _)))
  show wpAny _ _ (Builtin.List.listSubscript? (.ref sl) >>= _) _ _ s
  refine wpAny_bind ?_
  unfold Builtin.List.listSubscript?
  refine wpAny_bind (wpAny_specialOf hTs slice_no_index ?_)
  simp only [Option.isNone_none, if_true]
  refine wpAny_pure ?_
  show wpAny _ _ (typeOf (.ref sl) >>= _) _ _ s
  refine wpAny_bind (wpAny_typeOf hTs ?_)
  first
    | rw [if_neg (by decide)]
    | refine PySem.W.KFB.if_not (by decide) ?_
  rw [listSliceParts_eq]
  refine wpAny_bind (wpAny_bind (wpAny_field hos hds (x := .none) rfl (wpAny_bind (wpAny_listPart .none ?_))))
  rw [if_neg hstep]
  refine wpAny_bind (wpAny_field hos hds (x := vl) rfl (wpAny_bind (wpAny_listPart pl ?_)))
  refine wpAny_bind (wpAny_field hos hds (x := vu) rfl (wpAny_bind (wpAny_listPart pu (wpAny_pure ?_))))
  first
    | simp only [hsame, Bool.false_eq_true, if_false]
    | refine PySem.W.KFB.if_not hsame ?_
    | (dsimp only
       rw [if_neg (by rw [hsame]; exact Bool.false_ne_true)])
  refine wpAny_bind (m := Builtin.List.listAllItems (.ref b) "must assign iterable to extended slice") ?_
  unfold Builtin.List.listAllItems
  refine wpAny_bind (wpAny_typeOf hb.typeIs ?_)
  first
    | refine PySem.W.KFB.if_so (by decide) ?_
    | rw [if_pos (by decide)]
    | simp only [beq_self_eq_true, Bool.true_or, if_true]
  unfold Builtin.List.listItems
  refine wpAny_bind (wpAny_seqItems e2 rfl (wpAny_pure ?_))
  refine wpAny_bind (wpAny_bind (wpAny_seqItems e rfl (wpAny_pure ?_)))
  refine wpAny_bind (wpAny_of_eq ((sliceIndices_raw (some (a : Int)) (some (c : Int)) none items.size (by simp)).trans (congrArg (pure : Int × Int × Int → Sem (Int × Int × Int)) (bounds_run hac hc))) ?_)
  show wpAny _ _ (if ((1 : Int) == 1) = true then _ else _) _ _ s
  rw [if_pos (by decide)]
  refine wpAny_bind (wpAny_rule ?_)
  first
    | simp only [notLongL hsz, Bool.false_eq_true, if_false]
    | refine PySem.W.KFB.if_not (notLongL hsz) ?_
  first | refine wpAny_bind (wpAny_pure ?_) | skip
  show wpAny _ _ (updateSeq l (fun xs => xs.extract 0 ((a : Int)).toNat ++ new ++ xs.extract (max (a : Int) (c : Int)).toNat xs.size) >>= _) _ _ s
  rw [hmax, Int.toNat_natCast]
  refine wpAny_bind (wpAny_updateSeq (hz := Nat.le_trans (Nat.le_add_right _ _) hsz) (_hz' := hz') e rfl ?_)
  refine wpAny_bind (wpAny_letGo ?_)
  first
    | exact wpAny_bind (wpAny_pure (wpAny_pure ⟨.none, rfl, wpAny_pure h⟩))
    | exact wpAny_pure ⟨.none, rfl, wpAny_pure h⟩
end

section
variable {X : Cx}
/-- xs[a:c] = ys of another list, at the value level: sl is the slice object that was just made -/
theorem set_slice {pins : List (Addr × Obj)} {s : Shared} {σ : St} {H : Hp} {l b sl : Addr} {xs ys : List V} {a c : Int} {vl vu : Value} {Q : Unit → Shared → Prop} (I : Inv X pins σ H s)
    (hH : H l = some (.lst xs)) (hB : H b = some (.lst ys)) (hne : l ≠ b) (hs : s.heap.IsSliceOf sl vl vu .none) (ra : RelV (.int a) vl) (rc : RelV (.int c) vu) (h0 : 0 ≤ a) (hac : a ≤ c) (hc : c ≤ xs.length)
    (hz : xs.length + ys.length ≤ sizeLine) (h : ∀ s', Inv X pins σ (upd H l (.lst (xs.take a.toNat ++ ys ++ xs.drop c.toNat))) s' → Q () s') :
    wpAny (model X.prog X.w) X.A (setItem (.ref l) (.ref sl) (.ref b)) Q X.xe s := by
  obtain ⟨ta, rfl⟩ := ra
  obtain ⟨tc, rfl⟩ := rc
  obtain ⟨z, its, n, r, hl, e⟩ := I.lstM hH
  obtain ⟨z2, its2, n2, r2, hl2, e2⟩ := I.lstM hB
  obtain ⟨a', rfl⟩ := Int.eq_ofNat_of_zero_le h0
  obtain ⟨c', rfl⟩ := Int.eq_ofNat_of_zero_le (Int.le_trans h0 hac)
  simp only [Int.toNat_natCast] at h
  refine setItem_slice (a := a') (c := c') e e2 hne hs (.int _ _) (.int _ _) (by omega) (by rw [List.size_toArray]; omega) (by rw [List.size_toArray, List.size_toArray]; omega) (h _ ?_)
  refine I.lset (its' := its.take a' ++ its2 ++ its.drop c') (t' := s.toks) hH e ?_ (Vals.append (Vals.append (r.take _) r2) (r.drop _)) ?_
  · exact splice_eq its its2 a' c'
  · rw [List.length_append, List.length_append, List.length_take, List.length_drop]
    omega
end
end L2

namespace Att
open PySem PySem.W PySem.Calls PyProof.Rows

/-! ### the script -/
theorem ints_of_wellAll {P : Params} {h : Heap} : ∀ (ns : List Int) (vs : List Value), WellAll P h vs (ns.map WData.int) → IntsAre vs ns := by
  intro ns
  induction ns with
  | nil =>
    intro vs w
    rw [List.map_nil] at w
    cases w
    exact .nil
  | cons n ns ih =>
    intro vs w
    rw [List.map_cons] at w
    cases w with
    | cons a b =>
      cases a
      exact .cons _ _ (ih _ b)

theorem script_of {l : OpenLaw} {n : Nat} (hn : l.most = some n) {P : Params} {h : Heap} {args : List WData} {vals : List Value}
    (hpre : l.row.toRowW.claim.pre args = true) (hwl : WellAll P h vals args) :
    ∃ a vs ns, vals = [Value.ref a] ∧ args = [WData.list (ns.map WData.int)] ∧ h.get? a = some { cls := .type "list", data := .seq vs.toArray } ∧ IntsAre vs ns ∧ ns.length ≤ n := by
  have hsh : WShape.hasAll [] args [.list .int] = true := (pre_splitW hpre).1
  have hc : l.pre.holds [] { args := args } = true := (pre_splitW hpre).2
  obtain ⟨d, r, rfl, h1, h2⟩ := hasAllW_cons hsh
  obtain rfl := hasAllW_nil h2
  obtain ⟨xs, rfl, h3⟩ := hasW_list h1
  obtain ⟨ns, rfl⟩ := items_int h3
  have hlen : ns.length ≤ n := by
    unfold OpenLaw.pre at hc
    have h4 : (WTm.not (.lt (.lit (.int (n : Int))) (.len (.arg 0)))).holds [] { args := [.list (ns.map .int)] } = true := by
      have h4 := (holds_andW hc).1
      rw [hn] at h4
      exact h4
    have h5 := condW_of h4 (w_not (w_lt w_lit (w_len_list (w_arg rfl))))
    rw [List.length_map] at h5
    refine Nat.le_of_not_lt fun q => ?_
    have q' : (n : Int) < ((ns.length : Nat) : Int) := by omega
    first
      | (rw [decide_eq_true q'] at h5; exact absurd h5 (by decide))
      | (simp at h5; omega)
  cases hwl with
  | cons w1 w2 =>
    cases w2
    cases w1 with
    | list ho hall => exact ⟨_, _, ns, rfl, rfl, ho, ints_of_wellAll ns _ hall, hlen⟩

theorem post_true (l : OpenLaw) (args : List WData) : l.row.toRowW.claim.post args (.bool true) args = true :=
  postW_of (r := l.row.toRowW) (X := (true == true))
    (show WShape.has [] (.bool true) .bool = true by first | rfl | decide | simp [WShape.has, WShape.arms, WShape.armsAll])
    (show (WTm.eq .res (.lit (.bool true))).value [] { args := args, res := some (.bool true), after := args } = some (.bool (true == true)) from w_eq_bool (w_res rfl) w_lit) rfl

/-! ### the attachment: holds_open's last premise (the goal 'hc' behind k_head) from a wpAny of the law's body -/
theorem attach {l : OpenLaw} {n : Nat} {q : Program} {loose : List Str} {XP : (Str → Option Value) → Heap → Prop} {YP : World → Heap → Prop} {d : DefRec} {x : Str}
    (hn : l.most = some n) (hdf : d.params.defaults = [])
    (hbind : ∀ pm cd doc v : Value, bindArgs (docDef d.name d.params d.body d.scope pm cd doc) ⟨[v], []⟩ = pure [(x, v)])
    (hx : d.scope.names.lookup x = some .local ∨ d.scope.names.lookup x = some .cell)
    (hk : d.scope.kind = .function) (hco : d.scope.isCoroutine = false) (hgen : d.scope.isGenerator = false)
    (body : ∀ (w : World) (s₀ s₁ s : Shared) (mg mb : Str → Option Value) (fa : Addr) (o : Obj) (pm cd doc : Value) (a : Addr) (vs : List Value) (ns : List Int),
      Ground q loose [] XP w s₀ mg mb s₁.heap → YP w s₁.heap →
      s₁.heap.get? fa = some o → o.data = .func (docDef d.name d.params d.body d.scope pm cd doc) → s₁.heap.CodeRec cd d.name → mg d.name = some (.ref fa) →
      s₁.heap.get? a = some { cls := .type "list", data := .seq vs.toArray } → IntsAre vs ns → ns.length ≤ n →
      s.gens = #[] → s.os = s₁.os →
      Fr s₁.heap s₁.heap.objs.size s.heap (bindL (envOfC d.name d.scope s₁.heap.objs.size fa cd).kindOf [(x, .ref a)] fun _ => none) →
      Cl s₁.heap.objs.size (cellsFrom (s₁.heap.objs.size + 1) d.scope.names []) s.heap (bindC (envOfC d.name d.scope s₁.heap.objs.size fa cd).kindOf [(x, .ref a)] fun _ => none) →
      wpAny (model l.prog w) (callerA.deeper (envOfC d.name d.scope s₁.heap.objs.size fa cd)) (execs d.body (envOfC d.name d.scope s₁.heap.objs.size fa cd))
        (fun f s' => f = .ret (.bool true) ∧ OldK s₁.heap s'.heap ∧ s'.os = s₁.os ∧ AllBare s'.gens) (fun _ _ => False) s) :
    WalkO q loose XP YP l.row.toRowW d [] (fun f vs => PySem.call f vs) := by
  intro w s₀ s₁ mg mb G Y fa o pm cd doc dV kV ho hd hcd hD hmg hg args vals as hpre hlay hrd hwl hlo
  obtain rfl : dV = .none := Dflts.none hD hdf
  obtain rfl : kV = .none := Dflts.noKw hD
  obtain ⟨a, vs, ns, rfl, rfl, hobj, hints, hlen⟩ := script_of hn hpre hwl
  refine enter_call ?_
  refine call_cells_ret (o := o) (by rw [depth_caller]; decide) ho (fd_plain hd) G.T.nolimit hcd (hbind pm cd doc (.ref a)) (fun y hy => ?_) (fun h₁ tk F X => ?_) hco hgen hk
  · obtain rfl : y = (x, Value.ref a) := List.mem_singleton.mp hy
    rcases hx with e | e
    · exact .inl e
    · exact .inr ⟨e, cellsFrom_some _ _ _ (.inl e)⟩
  · refine wpAny_mono (body w s₀ s₁ { s₁ with heap := h₁, toks := tk } mg mb fa o pm cd doc a vs ns G Y ho (fd_plain hd) hcd hmg hobj hints hlen hg rfl F X) (fun f s' hq => ?_) (fun _ _ hq => hq)
    obtain ⟨rfl, h2, h3, h4⟩ := hq
    exact ⟨.inl ⟨.bool true, .bool true, [], rfl, fun _ => rfl, .bool true, post_true l _, fun _ => ⟨List.Pairwise.nil, fun _ hm => (nomatch hm)⟩⟩, h2, h3, h4⟩

/-- the same from a codeAny of the CALL (for a layer whose function contracts speak of calls) -/
theorem attach_call {l : OpenLaw} {n : Nat} {q : Program} {loose : List Str} {XP : (Str → Option Value) → Heap → Prop} {YP : World → Heap → Prop} {d : DefRec}
    (hn : l.most = some n) (hdf : d.params.defaults = [])
    (call : ∀ (w : World) (s₀ s₁ : Shared) (mg mb : Str → Option Value) (fa : Addr) (o : Obj) (pm cd doc : Value) (a : Addr) (vs : List Value) (ns : List Int),
      Ground q loose [] XP w s₀ mg mb s₁.heap → YP w s₁.heap →
      s₁.heap.get? fa = some o → o.data = .func (docDef d.name d.params d.body d.scope pm cd doc) → s₁.heap.CodeRec cd d.name → mg d.name = some (.ref fa) →
      s₁.heap.get? a = some { cls := .type "list", data := .seq vs.toArray } → IntsAre vs ns → ns.length ≤ n → s₁.gens = #[] →
      codeAny (model l.prog w) callerA (.call (.ref fa) ⟨[.ref a], []⟩) (fun r s' => r = .ok (.ret (.bool true)) ∧ OldK s₁.heap s'.heap ∧ s'.os = s₁.os ∧ AllBare s'.gens) s₁) :
    WalkO q loose XP YP l.row.toRowW d [] (fun f vs => PySem.call f vs) := by
  intro w s₀ s₁ mg mb G Y fa o pm cd doc dV kV ho hd hcd hD hmg hg args vals as hpre hlay hrd hwl hlo
  obtain rfl : dV = .none := Dflts.none hD hdf
  obtain rfl : kV = .none := Dflts.noKw hD
  obtain ⟨a, vs, ns, rfl, rfl, hobj, hints, hlen⟩ := script_of hn hpre hwl
  refine enter_call (codeAny_mono (call w s₀ s₁ mg mb fa o pm cd doc a vs ns G Y ho (fd_plain hd) hcd hmg hobj hints hlen hg) fun r s' hq => ?_)
  obtain ⟨rfl, h2, h3, h4⟩ := hq
  exact ⟨.inl ⟨.bool true, .bool true, [], rfl, fun _ => rfl, .bool true, post_true l _, fun _ => ⟨List.Pairwise.nil, fun _ hm => (nomatch hm)⟩⟩, h2, h3, h4⟩

/-- the same where the top left finished generators (o_head chose holds_openN): nothing may have changed at all and no generator may be left -/
theorem attachN {l : OpenLaw} {n : Nat} {q : Program} {loose : List Str} {XP : (Str → Option Value) → Heap → Prop} {YP : World → Heap → Prop} {d : DefRec} {x : Str}
    (hn : l.most = some n) (hdf : d.params.defaults = [])
    (hbind : ∀ pm cd doc v : Value, bindArgs (docDef d.name d.params d.body d.scope pm cd doc) ⟨[v], []⟩ = pure [(x, v)])
    (hx : d.scope.names.lookup x = some .local ∨ d.scope.names.lookup x = some .cell)
    (hk : d.scope.kind = .function) (hco : d.scope.isCoroutine = false) (hgen : d.scope.isGenerator = false)
    (body : ∀ (w : World) (s₀ s₁ s : Shared) (mg mb : Str → Option Value) (fa : Addr) (o : Obj) (pm cd doc : Value) (a : Addr) (vs : List Value) (ns : List Int),
      Ground q loose [] XP w s₀ mg mb s₁.heap → YP w s₁.heap →
      s₁.heap.get? fa = some o → o.data = .func (docDef d.name d.params d.body d.scope pm cd doc) → s₁.heap.CodeRec cd d.name → mg d.name = some (.ref fa) →
      s₁.heap.get? a = some { cls := .type "list", data := .seq vs.toArray } → IntsAre vs ns → ns.length ≤ n →
      s.gens = #[] → s.os = s₁.os →
      Fr s₁.heap s₁.heap.objs.size s.heap (bindL (envOfC d.name d.scope s₁.heap.objs.size fa cd).kindOf [(x, .ref a)] fun _ => none) →
      Cl s₁.heap.objs.size (cellsFrom (s₁.heap.objs.size + 1) d.scope.names []) s.heap (bindC (envOfC d.name d.scope s₁.heap.objs.size fa cd).kindOf [(x, .ref a)] fun _ => none) →
      wpAny (model l.prog w) (callerA.deeper (envOfC d.name d.scope s₁.heap.objs.size fa cd)) (execs d.body (envOfC d.name d.scope s₁.heap.objs.size fa cd))
        (fun f s' => f = .ret (.bool true) ∧ (∀ b o, s₁.heap.get? b = some o → s'.heap.get? b = some o) ∧ s'.os = s₁.os ∧ s'.gens = #[]) (fun _ _ => False) s) :
    WalkN q loose XP YP l.row.toRowW d [] (fun f vs => PySem.call f vs) := by
  intro w s₀ s₁ mg mb G Y fa o pm cd doc dV kV ho hd hcd hD hmg hg args vals as hpre hlay hrd hwl hlo
  obtain rfl : dV = .none := Dflts.none hD hdf
  obtain rfl : kV = .none := Dflts.noKw hD
  obtain ⟨a, vs, ns, rfl, rfl, hobj, hints, hlen⟩ := script_of hn hpre hwl
  refine enter_callW ?_
  refine call_cells_ret (o := o) (by rw [depth_caller]; decide) ho (fd_plain hd) G.T.nolimit hcd (hbind pm cd doc (.ref a)) (fun y hy => ?_) (fun h₁ tk F X => ?_) hco hgen hk
  · obtain rfl : y = (x, Value.ref a) := List.mem_singleton.mp hy
    rcases hx with e | e
    · exact .inl e
    · exact .inr ⟨e, cellsFrom_some _ _ _ (.inl e)⟩
  · refine wpAny_mono (body w s₀ s₁ { s₁ with heap := h₁, toks := tk } mg mb fa o pm cd doc a vs ns G Y ho (fd_plain hd) hcd hmg hobj hints hlen hg rfl F X) (fun f s' hq => ?_) (fun _ _ hq => hq)
    obtain ⟨rfl, h2, h3, h4⟩ := hq
    exact ⟨.inl ⟨.bool true, .bool true, [], rfl, fun _ => rfl, .bool true, post_true l _, fun _ => ⟨List.Pairwise.nil, fun _ hm => (nomatch hm)⟩⟩, h2, h3, h4⟩

/-! ### rules over ANY heap (no ledger) from facts about the written part K: the library's own take a ledger (News) for what they write -/
section
variable {prog : Program} {w : World} {A : Around} {E : Value → Shared → Prop} {s : Shared} {K : Frag}

/-- a def of the module, or a method (qual 'C.m'), entered: the frame is the next address; cells behind it -/
theorem call_fn {R : Result → Shared → Prop} {name qual : Str} {params : Arguments} {body : List Stmt} {scope : Scope} {dV kV doc pm cdv ct oc : Value} {an od : Option Addr} {osl : Array (Option Value)} {f : Addr} {args : Args} {binds : List (Str × Value)}
    (X : K.In s.heap) (hlim : s.heap.NoLimit) (ho : K.lookup f = some ⟨oc, od, .func (fnOf name qual params body scope dV kV doc pm an cdv ct), osl⟩) (hcd : codeIn K cdv qual = true) (hroom : A.depth < recursionLimit)
    (hbind : BindsTo s (fnOf name qual params body scope dV kV doc pm an cdv ct) args binds)
    (hkind : (binds.all fun y => scope.names.lookup y.1 == some .local || scope.names.lookup y.1 == some .cell) = true)
    (h : ∀ s₁, InCallC s s.heap.objs.size (bindL (envOfC qual scope s.heap.objs.size f cdv).kindOf binds fun _ => none) (cellsFrom (s.heap.objs.size + 1) scope.names [])
        (bindC (envOfC qual scope s.heap.objs.size f cdv).kindOf binds fun _ => none) s₁ →
      wpAny (model prog w) (A.deeper (envOfC qual scope s.heap.objs.size f cdv)) (execs body (envOfC qual scope s.heap.objs.size f cdv))
        (fun fl s' => R (.ok (.ret (match fl with | .ret v => v | _ => .none))) s')
        (fun e s' => wpAny (model prog w) (A.deeper (envOfC qual scope s.heap.objs.size f cdv)) (leaving (envOfC qual scope s.heap.objs.size f cdv) e) (fun _ s'' => R (.error e) s'') (fun e' s'' => R (.error e') s'') s') s₁)
    (hco : scope.isCoroutine = false) (hgen : scope.isGenerator = false) (hk : scope.kind = .function) : codeAny (model prog w) A (.call (.ref f) args) R s := by
  refine codeAny_call_function hroom (X _ _ ho) rfl hco hgen rfl (codeRec_of X hcd) (hbind _ _ _ _ ?_)
  refine wpAny_newFunctionEnv_cells hk (kindsX hkind _) fun env he s₁ x => ?_
  subst he
  exact ⟨hlim.keeps x.toInCall.keep, codeAny_func (h s₁ x)⟩

/-- C(..): dict at size, instance at size + 1, then __init__ -/
theorem make_obj {R : Result → Shared → Prop} {C fI : Addr} {rest : List Value} {kw : List (Str × Value)}
    (X : K.In s.heap) (hm : makesIn K C = true) (hi : findIn K (.ref C) "__init__" = some (some (.ref fI))) (hf : isFn K (.ref fI) = true)
    (h : codeAny (model prog w) (A.under (.builtin "type.__call__" ⟨.ref C :: rest, kw⟩)) (.call (.ref fI) ⟨.ref (s.heap.objs.size + 1) :: rest, kw⟩) (InitBack (s.heap.objs.size + 1) R)
      { s with heap := (s.heap.push emptyDict).push (instObj C s.heap.objs.size) }) : codeAny (model prog w) A (.call (.ref C) ⟨rest, kw⟩) R s := by
  obtain ⟨hh, g, d, t, os⟩ := s
  exact make_core (makes_of X hm) (looks_findIn X hi) (fun self => bind_fn X self (beq_iff_eq.mp hf)) (.inl rfl) h

/-- x.name where the instance's dict holds the name and the class does not -/
theorem get_field {x C : Addr} {ox : Obj} {es : List DictEntry} {n : Nat} {name : Str} {expr : Bool} {v : Value} {Q : Value → Shared → Prop}
    (X : K.In s.heap) (I : PySem.W.InstAt s.heap x ox C (some (dictOf es n))) (hg : plainGet K C name = true) (hh : hasDictIn K C = true) (ha : findIn K (.ref C) name = some none)
    (hl : getL name es = some (some v)) (hv : handedIn v = true) (h : Q v { s with toks := s.toks + 1 }) : wpAny (model prog w) A (getAttr (.ref x) name expr) Q E s :=
  get_value X I (plainGet_of hg).1 (findObj_own hh ha rfl hl) hv h

/-- x.m(..): the method found in the class -/
theorem get_method {x C f : Addr} {ox : Obj} {es : List DictEntry} {n : Nat} {name : Str} {pl : Sem Bool} {Q : Value × List Value → Shared → Prop}
    (X : K.In s.heap) (I : PySem.W.InstAt s.heap x ox C (some (dictOf es n))) (hg : plainGet K C name = true) (hf : findIn K (.ref C) name = some (some (.ref f))) (ht : isFn K (.ref f) = true)
    (hl : getL name es = some none) (h : Q (.ref f, [.ref x]) s) : wpAny (model prog w) A (getMethod (.ref x) name pl) Q E s :=
  method_fn X I (plainGet_of hg).1 (plainGet_of hg).2 hf (beq_iff_eq.mp ht) (by show (lookIn name (dictOf es n)).map _ = _; rw [lookIn_dict, hl]; rfl) h

/-! the whole heap as the ledger: makes every rule that writes through a ledger a rule over any heap -/
def noObjs (h : Heap) : Heap := { h with objs := #[] }
theorem noObjs_get (h : Heap) (b : Addr) : (noObjs h).get? b = none := by
  cases e : (noObjs h).get? b with
  | none => rfl
  | some o => exact absurd (Heap.lt_size e) (Nat.not_lt_zero _)
def ledger (h : Heap) (L d : Addr) : List (Addr × Obj) := (List.range h.objs.size).filterMap fun a => if a = L ∨ a = d then none else (h.get? a).map fun o => (a, o)
theorem mem_ledger {h : Heap} {L d a : Addr} {o : Obj} : (a, o) ∈ ledger h L d ↔ a ≠ L ∧ a ≠ d ∧ h.get? a = some o := by
  unfold ledger
  rw [List.mem_filterMap]
  constructor
  · rintro ⟨b, _, e⟩
    split at e
    · cases e
    · rename_i hb
      obtain ⟨o', ho, e'⟩ := Option.map_eq_some_iff.mp e
      cases e'
      exact ⟨fun q => hb (.inl q), fun q => hb (.inr q), ho⟩
  · rintro ⟨n1, n2, ho⟩
    refine ⟨a, List.mem_range.mpr (Heap.lt_size ho), ?_⟩
    rw [if_neg (show ¬ (a = L ∨ a = d) from fun q => q.elim n1 n2), ho] <;> rfl
theorem news_ledger {h : Heap} {L d : Addr} {od : Obj} (hne : d ≠ L) (ho : h.get? d = some od) : News (noObjs h) L h ([] ++ (d, od) :: ledger h L d) := by
  rintro ⟨a, o⟩ hp
  rcases List.mem_cons.mp hp with e | hp
  · cases e
    exact ⟨ho, hne, noObjs_get _ _⟩
  · obtain ⟨n1, n2, e⟩ := mem_ledger.mp hp
    exact ⟨e, n1, noObjs_get _ _⟩
theorem fr_all {h : Heap} {L : Addr} {m : Str → Option Value} (n : h.Ns L m) : Fr (noObjs h) L h m :=
  ⟨n, fun b o e => (by rw [noObjs_get] at e; cases e), Nat.zero_le _⟩
/-- Upd of the head entry (for append_K, setItem_K ..) -/
theorem upd_ledger {h : Heap} {L d : Addr} {o o' : Obj} : Upd d o o' ((d, o) :: ledger h L d) ((d, o') :: ledger h L d) :=
  .head fun ⟨_, _⟩ hp => (mem_ledger.mp hp).2.1

/-- x.name = v over any heap: L is any namespace of the heap (the frame's, say): its map stays, its object is not told; all else but the dict stays -/
theorem set_field {x C dx L : Addr} {ox : Obj} {m : Str → Option Value} {es es' : List DictEntry} {n n' : Nat} {name : Str} {v : Value} {Q : Unit → Shared → Prop}
    (X : K.In s.heap) (I : PySem.W.InstAt s.heap x ox C (some (dictOf es n))) (hd : ox.dict = some dx) (hL : s.heap.Ns L m) (hne : dx ≠ L)
    (hs : findIn K (.ref C) "__setattr__" = some (some (.builtin "object.__setattr__"))) (hp : plainOver K C = true) (ht : takerIn K C name = some none) (hh : hasDictIn K C = true) (hl : (getL name es).isSome = true)
    (e : (putL name (PyData.keyHash w.params name) (.str name (s.toks + 1)) v es, putN name es n) = (es', n')) (hz : es'.length ≤ 1000)
    (h : ∀ h' : Heap, h'.Ns L m → h'.get? dx = some (dictOf es' n') → (∀ b o, b ≠ dx → b ≠ L → s.heap.get? b = some o → h'.get? b = some o) → Q () { s with heap := h', toks := s.toks + 2 }) :
    wpAny (model prog w) A (setAttr (.ref x) name v) Q E s := by
  obtain ⟨e1, e2⟩ := Prod.mk.inj e
  have hdx : s.heap.get? dx = some (dictOf es n) := by
    have := I.dict
    rw [hd] at this
    exact this
  refine set_plain X I hs (osa_dict (s := { s with toks := s.toks + 1 }) (h₀ := noObjs s.heap) (L := L) (m := m) (od := dictOf es n) (od' := dictOf es' n') (es := es') (n := n') (pre := []) (post := ledger s.heap L dx)
    (fr_all hL) (news_ledger hne hdx) X I hd hp ht hh hl (fun _ q => nomatch q) (fun ⟨_, _⟩ q => (mem_ledger.mp q).2.1) (by rw [putName_dict, e1, e2]) rfl hz fun h' F' N' => ?_)
  exact h h' F'.ns (N'.get (List.Mem.head _)) fun b o n1 n2 ho => N'.get (List.Mem.tail _ (mem_ledger.mpr ⟨n2, n1, ho⟩))
end
end Att

namespace L2
open PySem PySem.Spec PyProof.Rows

theorem vals_ints : ∀ {vs : List Value} {ns : List Int}, IntsAre vs ns → Vals (ns.map V.int) vs
  | _, _, .nil => .nil
  | _, _, .cons n t h => .cons ⟨t, rfl⟩ (vals_ints h)

/-- nothing is tracked but the script, known to the object (or it is an object of the module) -/
def Only (H : Hp) : Prop := ∀ b, H b = none ∨ ∃ o xs, H b = some (.frz o (.lst xs))

/-- THE HEAD: the law's promise, at the heap behind the top. F, the promise of the law's def, may use that base is part of the heap (so K.In base, base.Ns mainGlobals mg stand in Mod) -/
theorem law_call {P : Program} {w : World} {K : PySem.W.Frag} {mg mb : Str → Option Value} {CX : CXT} {k : Nat} {fa a : Addr} {fd : FuncData} {x : Str} {sp : Sp} {s₁ : Shared} {vs : List Value} {ns : List Int}
    (KX : K.In s₁.heap) (hns : s₁.heap.Ns mainGlobals mg) (hb : s₁.heap.Ns builtinsNs mb) (hbb : ∀ x : Str, x ≠ "__name__" → mb x = bootBuiltins x) (hlim : s₁.heap.NoLimit) (hg : s₁.gens = #[])
    (ha : s₁.heap.get? a = some { cls := .type "list", data := .seq vs.toArray }) (hi : IntsAre vs ns) (hl : ns.length ≤ sizeLine) (hr : Room k callerA)
    (F : ∀ base : Heap, K.In base → base.Ns mainGlobals mg → FnOk P w K mg base CX k fa fd [x] sp) (hbind : ∀ (s : Shared) (u : Value), BindsTo s fd ⟨[u], []⟩ [(x, u)])
    (hsp : ∀ H : Hp, Only H → SqL K H a (ns.map V.int) → sp [.ref a] H (fun v _ => v = .bl true) fun _ _ _ => False)
    (hCX : ∀ H e s', CX [] H s₁ (fun _ _ _ => False) e s' → False) :
    codeAny (model P w) callerA (.call (.ref fa) ⟨[.ref a], []⟩) (fun r s' => r = .ok (.ret (.bool true)) ∧ OldK s₁.heap s'.heap ∧ s'.os = s₁.os ∧ AllBare s'.gens) s₁ := by
  have rv := vals_ints hi
  have lenV := hi.length
  -- from an abstract heap in which nothing but the script may be tracked
  have core : ∀ H : Hp, Only H → SqL K H a (ns.map V.int) → HOk P w H s₁.heap → (∀ b, H b ≠ none → b = a) → (H a ≠ none → K.lookup a = none) →
      codeAny (model P w) callerA (.call (.ref fa) ⟨[.ref a], []⟩) (fun r s' => r = .ok (.ret (.bool true)) ∧ OldK s₁.heap s'.heap ∧ s'.os = s₁.os ∧ AllBare s'.gens) s₁ := by
    intro H hO hS hok hA hK
    have base_of : ∀ {b : Addr} {o : Obj}, s₁.heap.get? b = some o → H b = none → (hidT s₁.heap H).get? b = some o := fun e n => hidT_get e n
    have noA : ∀ {b : Addr} {o : Obj} {es : Array DictEntry} {ep : Nat}, s₁.heap.get? b = some o → o.data = .dict es ep → H b = none := fun {b o es ep} e d => by
      cases q : H b with
      | none => rfl
      | some u =>
        have e' : b = a := hA b (by rw [q]; simp)
        subst e'
        rw [ha] at e; cases e
        have d' : Data.seq vs.toArray _ = Data.dict es ep := d
        cases d'
    have nsK : ∀ {b : Addr} {m : Str → Option Value}, s₁.heap.Ns b m → (hidT s₁.heap H).Ns b m := fun {b m} ⟨o, es, ep, e, d, r⟩ => ⟨o, es, ep, base_of e (noA e d), d, r⟩
    have hKb : K.In (hidT s₁.heap H) := fun b o e => base_of (KX b o e) (by
      cases q : H b with
      | none => rfl
      | some u =>
        have e' : b = a := hA b (by rw [q]; simp)
        subst e'
        rw [hK (by rw [q]; simp)] at e; cases e)
    have hM : Mod K mg (hidT s₁.heap H) := ⟨hKb, nsK hns, ⟨mb, nsK hb, hbb⟩, let ⟨mc, h1, h2⟩ := hlim; ⟨mc, nsK h1, h2⟩⟩
    have e0 : Env0 P w K mg (hidT s₁.heap H) callerA [] s₁ H := ⟨rfl, hM, fun b o e => of_hidT e, Nat.le_of_eq (hidT_size _ _), trivial, fun b hb => absurd (show b ∈ ([] : List Addr) from hb) (by simp), hok, .of_eq hg⟩
    refine codeAny_mono ((F _ hKb (nsK hns)).run callerA [] s₁ H ⟨[.ref a], []⟩ [.ref a] [.ref a] _ _ hr e0 (hbind s₁ (.ref a)) (.cons rfl .nil) (hsp H hO hS)) fun r s' h => ?_
    cases r with
    | error e => exact (hCX H e s' h).elim
    | ok fl =>
      cases fl with
      | next => exact False.elim h
      | brk => exact False.elim h
      | cont => exact False.elim h
      | ret u =>
        obtain ⟨v, H', os, bare, un, hok', r', q⟩ := h
        have q' : v = .bl true := q
        subst q'
        obtain rfl : u = Value.bool true := r'
        refine ⟨rfl, OldK.of_keep fun b o e => ?_, os, bare⟩
        cases q : H b with
        | none => exact un.keep b o e q (by intro z; exact absurd (show b ∈ ([] : List Addr) from z) (by simp)) (by simp)
        | some u =>
          rcases hO b with z | ⟨ob, xs, z⟩
          · rw [q] at z; cases z
          · have z2 := un.frzs b ob _ z
            obtain ⟨e1, _⟩ := hok b _ z
            obtain ⟨e2, _⟩ := hok' b _ z2
            rw [e] at e1; cases e1
            exact e2
  cases hk : K.lookup a with
  | some o =>
    -- the script is one of the module's own objects
    have e := KX a o hk
    rw [ha] at e
    cases e
    refine core (fun _ => none) (fun _ => .inl rfl) (.inr ⟨_, vs.toArray, _, hk, rfl, rfl, rfl, by rw [List.size_toArray, lenV]; exact hl, by simpa using rv⟩) (fun b u z => by have z' : (none : Option HO) = some u := z; cases z') (fun b z => absurd rfl z) fun z => absurd rfl z
  | none =>
    refine core (fun b => if b = a then some (.frz { cls := .type "list", data := .seq vs.toArray } (.lst (ns.map V.int))) else none) (fun b => ?_) (.inl (.inr ⟨{ cls := .type "list", data := .seq vs.toArray }, if_pos rfl⟩)) (fun b u z => ?_) (fun b z => ?_) fun _ => hk
    · by_cases hb : b = a
      · exact .inr ⟨_, _, if_pos hb⟩
      · exact .inl (if_neg hb)
    · by_cases hb : b = a
      · have z' := (if_pos hb).symm.trans z
        cases z'
        subst hb
        exact ⟨ha, by rw [List.length_map]; exact hl, vs, _, rv, ha⟩
      · have z' := (if_neg hb).symm.trans z
        cases z'
    · by_cases hb : b = a
      · exact hb
      · exact absurd (if_neg hb) z
end L2

namespace L2
open PySem PySem.Spec PyProof.Rows

abbrev KOf {K : PySem.W.Frag} {h : Heap} (_ : K.In h) : PySem.W.Frag := K

/-- the goal that k_head leaves (case hc), from the law's promise. F gives the function object fd (K's own) once, then the promise over every base -/
theorem walk_of {l : PySem.W.OpenLaw} {n k : Nat} {q : Program} {loose : List Str} {XP : (Str → Option Value) → Heap → Prop} {YP : World → Heap → Prop} {d : DefRec} {K : Params → PySem.W.Frag} {CX : World → CXT} {sp : World → Sp} {x : Str}
    (hn : l.most = some n) (hn2 : n ≤ sizeLine) (hdf : d.params.defaults = []) (hr : Room k callerA)
    (hY : ∀ (w : World) (h : Heap), YP w h → (K w.params).In h)
    (F : ∀ (w : World) (mg : Str → Option Value) (fa : Addr) (h : Heap), (K w.params).In h → h.Ns mainGlobals mg → mg d.name = some (.ref fa) →
      ∃ fd : FuncData, (∀ (s : Shared) (u : Value), BindsTo s fd ⟨[u], []⟩ [(x, u)]) ∧
        ∀ base : Heap, (K w.params).In base → base.Ns mainGlobals mg → FnOk l.prog w (K w.params) mg base (CX w) k fa fd [x] (sp w))
    (hsp : ∀ (w : World) (H : Hp) (a : Addr) (ns : List Int), ns.length ≤ n → Only H → SqL (K w.params) H a (ns.map V.int) → sp w [.ref a] H (fun v _ => v = .bl true) fun _ _ _ => False)
    (hCX : ∀ (w : World) (H : Hp) (s : Shared) (e : Value) (s' : Shared), CX w [] H s (fun _ _ _ => False) e s' → False) :
    PySem.W.WalkO q loose XP YP l.row.toRowW d [] (fun f vs => PySem.call f vs) := by
  refine Att.attach_call hn hdf fun w s₀ s₁ mg mb fa o pm cd doc a vs ns G Y ho hd hcd hmg hobj hints hlen hg => ?_
  have KX := hY w _ Y
  obtain ⟨fd, hb, hF⟩ := F w mg fa _ KX G.T.g hmg
  exact law_call KX G.T.g G.T.b G.T.builtins G.T.nolimit hg hobj hints (Nat.le_trans hlen hn2) hr hF hb (fun H hO hS => hsp w H a ns hlen hO hS) fun H e s' => hCX w H s₁ e s'
/-- the same where the promise hangs on the written part alone: (sp := My.sp_law), no hole under a binder -/
theorem walk_ofK {l : PySem.W.OpenLaw} {n k : Nat} {q : Program} {loose : List Str} {XP : (Str → Option Value) → Heap → Prop} {YP : World → Heap → Prop} {d : DefRec} {K : Params → PySem.W.Frag} {CX : CXT} {sp : PySem.W.Frag → Sp} {x : Str}
    (hn : l.most = some n) (hn2 : n ≤ sizeLine) (hdf : d.params.defaults = []) (hr : Room k callerA)
    (hY : ∀ (w : World) (h : Heap), YP w h → (K w.params).In h)
    (F : ∀ (w : World) (mg : Str → Option Value) (fa : Addr) (h : Heap), (K w.params).In h → h.Ns mainGlobals mg → mg d.name = some (.ref fa) →
      ∃ fd : FuncData, (∀ (s : Shared) (u : Value), BindsTo s fd ⟨[u], []⟩ [(x, u)]) ∧
        ∀ base : Heap, (K w.params).In base → base.Ns mainGlobals mg → FnOk l.prog w (K w.params) mg base CX k fa fd [x] (sp (K w.params)))
    (hsp : ∀ (K : PySem.W.Frag) (H : Hp) (a : Addr) (ns : List Int), ns.length ≤ n → Only H → SqL K H a (ns.map V.int) → sp K [.ref a] H (fun v _ => v = .bl true) fun _ _ _ => False)
    (hCX : ∀ (H : Hp) (s : Shared) (e : Value) (s' : Shared), CX [] H s (fun _ _ _ => False) e s' → False) :
    PySem.W.WalkO q loose XP YP l.row.toRowW d [] (fun f vs => PySem.call f vs) :=
  walk_of (K := K) (CX := fun _ => CX) (sp := fun w => sp (K w.params)) hn hn2 hdf hr hY F (fun w H a ns h1 h2 h3 => hsp (K w.params) H a ns h1 h2 h3) fun _ H s e s' => hCX H s e s'
end L2

/- THE LAST THEOREM (shape; LID, My.* are yours):
   My.Adr: a structure of the addresses that your layer names (classes, functions); My.Txt K t: a structure (Prop) of the equations over K;
   My.txt_mk : {K} {implicit addresses ..} (e1 : nsIn K mainGlobals "law" = some (some (.ref f))) (e2 : K.lookup f = some ⟨oc, od, .func (fnOf "law" "law" params body scope dV kV doc pm an cdv ct), sl⟩) (e3 : codeIn K cdv "law" = true) .. : ∃ t, My.Txt K t

set_option maxRecDepth 100000 in
set_option maxHeartbeats 0 in
theorem PySem.Challenge.cw_LID_holds : PySem.Challenge.rw_LID.Holds := by
  w_on; o_law; k_head; (case hw => w_witness2)
  k_fill
  refine L2.walk_of (l := PySem.Challenge.rw_LID) (n := 63) (k := 40) (x := "script") (CX := fun w => ..) (sp := fun _ => My.sp_law) rfl (by decide) rfl ⟨rfl, by decide, by decide⟩ (fun w h Y => PySem.W.kIn_of Y) ?F ?S ?C
  case F =>
    intro w mg fa h KX G hmg
    have T : ∃ t, My.Txt (L2.KOf KX) t := by
      dsimp only [L2.KOf]                          -- K must stand as «<heap const> w.params» for k_is
      refine' My.txt_mk ?e1 ?e2 ?e3 ..
      (case e1 => PySem.W.k_is)                    -- in the order: a name -> its address -> its object -> its parts
      (case e2 => PySem.W.k_is)
      ..
    obtain ⟨t, T⟩ := T
    have e0 := hmg.symm.trans (PySem.W.mg_of KX G T.law)
    cases e0                                       -- fa is the law's own address
    exact ⟨_, fun s u => .of_eq rfl, fun base kb nb => My.law_fn T kb nb⟩     -- if «.of_eq rfl» comes too early: refine' ⟨_, ?b, fun base kb nb => My.law_fn T kb nb⟩; exact fun s u => .of_eq rfl
  case S => exact fun w H a ns hl hO hS => ..
  case C => exact ..
(the tactic k_is has no namespace: write k_is) -/

/-! SHORT WORDS over the layer: a def of the text, its body, what a loop and a test want. -/
namespace L2
open PySem PySem.Spec PyProof.Rows

/-! ### the text by places -/
/-- the j-th statement of a class's body -/
def inClass (s : Stmt) (j : Nat) : Stmt := match s with
  | .ClassDef _ _ _ body _ _ _ _ _ _ _ => body.getD j (.Pass ⟨0, 0, 0, 0⟩)
  | _ => .Pass ⟨0, 0, 0, 0⟩
def defArgs (s : Stmt) : Arguments := match s with
  | .FunctionDef _ a _ _ _ _ _ _ _ _ => a
  | _ => { posonlyargs := [], args := [], vararg := none, kwonlyargs := [], kw_defaults := [], kwarg := none, defaults := [] }
def defBody (s : Stmt) : List Stmt := match s with
  | .FunctionDef _ _ b _ _ _ _ _ _ _ => b
  | _ => []
def defScope (s : Stmt) : Scope := match s with
  | .FunctionDef _ _ _ _ _ _ sc _ _ _ => sc
  | _ => { kind := .function, names := [], isGenerator := false, isCoroutine := false }

/-! ### no exception leaves a def -/
abbrev CX0 : CXT := fun _ _ _ _ _ _ => False
abbrev E0 : XK := fun _ _ _ => False
theorem pass0 {X : Cx} : Passes CX0 X E0 := fun _ _ _ _ _ _ _ h => h.elim

/-! ### a def (or method) of the text as it stands behind the top -/
structure Fun (K : PySem.W.Frag) (x qual : Str) (st : Stmt) (f : Addr) (fd : FuncData) : Prop where
  ex : ∃ (oc : Value) (od : Option Addr) (kV doc pm : Value) (an : Option Addr) (cdv ct : Value) (osl : Array (Option Value)),
    fd = PySem.W.fnOf x qual (defArgs st) (defBody st) (defScope st) .none kV doc pm an cdv ct ∧ K.lookup f = some ⟨oc, od, .func fd, osl⟩ ∧ PySem.W.codeIn K cdv qual = true
  kp : PySem.W.keepIn K (.ref f) = true
section
variable {P : Program} {w : World} {K : PySem.W.Frag} {mg : Str → Option Value} {base : Heap}
/-- THE RULE for a def: its body as a term of rules, and the reading of that term -/
theorem Fun.ok {x qual : Str} {st : Stmt} {f : Addr} {fd : FuncData} {N ps : List Str} {k : Nat} {sp : Sp} (F : Fun K x qual st f fd) (S : FnScope N ps (defScope st)) (len : ∀ vs H Q E, sp vs H Q E → vs.length = ps.length)
    (hbody : ∀ (cdv : Value) (A : Around) (outer : List Env) (s : Shared) (H : Hp) (vs : List V) (Q : VK) (E : XK), Room k (A.deeper (envOfC qual (defScope st) s.heap.objs.size f cdv)) → sp vs H Q E →
      ∃ t, PSs (cxOf CX0 P w K mg base N qual (defScope st) f cdv A outer s H E).nox (defBody st) t ∧ t { nx := fun _ H' => Q .non H', rt := Q } (start N vs) H) : FnOk P w K mg base CX0 (k + 1) f fd ps sp := by
  obtain ⟨oc, od, kV, doc, pm, an, cdv, ct, osl, rfl, lk, hcd⟩ := F.ex
  refine fn_of lk hcd S len fun A outer s H vs Q E hr hsp => ?_
  obtain ⟨t, h, q⟩ := hbody cdv A outer s H vs Q E hr hsp
  exact ⟨t, h.nox, q⟩
/-- how its arguments bind (no defaults): h is «fun _ _ _ _ _ _ us hl => match us, hl with | [_, _], _ => rfl», one _ a parameter -/
theorem Fun.binds {x qual : Str} {st : Stmt} {f : Addr} {fd : FuncData} {ps : List Str} (F : Fun K x qual st f fd)
    (h : ∀ (kV doc pm : Value) (an : Option Addr) (cdv ct : Value) (us : List Value), us.length = ps.length → bindArgs (PySem.W.fnOf x qual (defArgs st) (defBody st) (defScope st) .none kV doc pm an cdv ct) ⟨us, []⟩ = pure (ps.zip us)) : Binds K fd ps [] := by
  obtain ⟨oc, od, kV, doc, pm, an, cdv, ct, osl, rfl, lk, hcd⟩ := F.ex
  exact .all (h kV doc pm an cdv ct)
theorem fun_mk {x qual : Str} {st : Stmt} {f : Addr} {oc : Value} {od an : Option Addr} {osl : Array (Option Value)} {kV doc pm cdv ct : Value} (l : K.lookup f = some ⟨oc, od, .func (PySem.W.fnOf x qual (defArgs st) (defBody st) (defScope st) .none kV doc pm an cdv ct), osl⟩)
    (c : PySem.W.codeIn K cdv qual = true) (k : PySem.W.keepIn K (.ref f) = true) : Fun K x qual st f (PySem.W.fnOf x qual (defArgs st) (defBody st) (defScope st) .none kV doc pm an cdv ct) := ⟨⟨oc, od, kV, doc, pm, an, cdv, ct, osl, rfl, l, c⟩, k⟩
end
theorem hu_of {A : Around} {k : Nat} (hr : Room k A) : A.units + 1 < cLine := Nat.lt_of_le_of_lt (Nat.add_le_add_left (by decide : 1 ≤ 64) _) hr.units
theorem small1000 {n : Nat} (h : n ≤ 1000) : n < sizeLine := Nat.lt_of_le_of_lt h (by decide)

/-! ### expressions in short: the name that stands in the i-th slot -/
section
variable {X : Cx}
theorem pv (i : Nat) {x : Str} {pos : Pos} (hN : X.N[i]? = some x := by rfl) (hv : Vis X.env.scope x := by first | exact Or.inl rfl | exact Or.inr (Or.inl rfl) | exact Or.inr (Or.inr rfl)) (hd : (x == ("__debug__" : Str)) = false := by decide)
    (hcd : (x == ("__classdict__" : Str)) = false := by decide) : PE X (.Name x pos) (tVar i) := pe_var hN hv hd hcd
end

/-! ### tests -/
theorem iteF {A B : Prop} (h : B) : if false = true then A else B := by
  rw [if_neg Bool.false_ne_true]
  exact h
theorem iteT {A B : Prop} (h : A) : if true = true then A else B := by
  rw [if_pos rfl]
  exact h
theorem ite2 {c A B : Prop} [Decidable c] (h1 : c → A) (h2 : ¬ c → B) : if c then A else B := by
  by_cases h : c
  · rw [if_pos h]
    exact h1 h
  · rw [if_neg h]
    exact h2 h
theorem iteNS {c A B : Prop} [Decidable c] (hc : c) (h : B) : if (!decide c) = true then A else B := by
  rw [decide_eq_true hc]
  exact iteF h

/-! ### heaps -/
/-- all that was tracked is as it was -/
def Same (H H' : Hp) : Prop := ∀ b o, H b = some o → H' b = some o
theorem Same.refl (H : Hp) : Same H H := fun _ _ h => h
theorem Same.trans {H H1 H2 : Hp} (a : Same H H1) (b : Same H1 H2) : Same H H2 := fun c o h => b c o (a c o h)
theorem Same.free {H H' : Hp} (e : Same H H') {l : Addr} (h : H' l = Option.none) : H l = Option.none := by
  cases q : H l with
  | none => rfl
  | some o =>
    rw [e l o q] at h
    cases h
theorem Same.seq {K : PySem.W.Frag} {H H' : Hp} {a : Addr} {xs : List V} (e : Same H H') (h : SqL K H a xs) : SqL K H' a xs := by
  rcases h with (h | ⟨o, h⟩) | h
  · exact .inl (.inl (e _ _ h))
  · exact .inl (.inr ⟨o, e _ _ h⟩)
  · exact .inr h

end L2

namespace L2
open PySem PySem.Spec PyProof.Rows

/-! ### the loop of a list comprehension of one clause -/
section
variable {prog : Program} {w : World} {A : Around} {R : Result → Shared → Prop} {s : Shared}
abbrev noE : Value → Shared → Prop := fun _ _ => False
theorem compLoop_any {elt target iter : Expr} {ifs : List Expr} {scope : Scope} {pos : Pos} {it acc : Value} {env : Env} (I : Nat → Shared → Prop)
    (turn : ∀ n s, I n s → wpAny (model prog w) A (pyNext it) (fun r s₁ => match r with
      | none => R (.ok .next) s₁
      | some v => wpAny (model prog w) A (letOwnedTupleGo target it v) (fun _ s₁' => wpAny (model prog w) A (assign target env v) (fun _ s₂ =>
          wpAny (model prog w) A (forIn ifs true fun c r => if r = true then do let ok ← isTrue c env (eval c env); pure (ForInStep.yield ok) else pure (ForInStep.yield r)) (fun ok s₃ =>
            if ok = true then wpAny (model prog w) A (eval elt env) (fun x s₄ =>
              wpAny (model prog w) A (call (.builtin "list.append") [acc, x]) (fun _ s₅ => ∃ m, m < n ∧ I m s₅) noE s₄) noE s₃
            else ∃ m, m < n ∧ I m s₃) noE s₂) noE s₁') noE s₁) noE s)
    (n : Nat) (h : I n s) :
    codeAny (model prog w) A (.compLoop (.ListComp elt [⟨target, iter, ifs, 0⟩] scope pos) 0 it acc env) R s := by
  refine codeAny_loop rfl I (fun n s hI => ?_) n h
  show wpAny _ A ((compTurn (.ListComp elt [⟨target, iter, ifs, 0⟩] scope pos) 0 it acc env).onRaise (fun x => do noteFrame x env; theTreesLotGoes x)) _ _ s
  refine wpAny_noted ?_
  rw [compTurn_list]
  refine wpAny_bind (wpAny_standAt (wpAny_bind (wpAny_mono (turn n s hI) (fun r s₁ h₁ => ?_) fun _ _ h' => h'.elim)))
  cases r with
  | none => exact wpAny_pure h₁
  | some v =>
    refine wpAny_bind (wpAny_mono h₁ (fun _ s₁' h₁' => ?_) fun _ _ h' => h'.elim)
    refine wpAny_bind (wpAny_mono h₁' (fun _ s₂ h₂ => wpAny_bind (wpAny_mono h₂ (fun ok s₃ h₃ => ?_) fun _ _ h' => h'.elim)) fun _ _ h' => h'.elim)
    cases ok with
    | false => exact wpAny_pure ⟨rfl, h₃⟩
    | true =>
      exact wpAny_bind (wpAny_bind (wpAny_mono h₃ (fun x s₄ h₄ => wpAny_bind (wpAny_mono h₄ (fun _ s₅ h₅ => wpAny_pure (wpAny_pure ⟨rfl, h₅⟩)) fun _ _ h' => h'.elim)) fun _ _ h' => h'.elim))
end

/-! ### the tests of a clause -/
def PIfs (X : Cx) (ifs : List Expr) (t : TT) : Prop :=
  ∀ (pins : List (Addr × Obj)) (s : Shared) (σ : St) (H : Hp) (Q : Bool → Hp → Prop), Inv X pins σ H s → t σ H Q →
    wpAny (model X.prog X.w) X.A (forIn ifs true fun c r => if r = true then do let ok ← isTrue c X.env (eval c X.env); pure (ForInStep.yield ok) else pure (ForInStep.yield r)) (TP X pins σ Q) X.xe s
def tIf0 : TT := fun _ H Q => Q true H
theorem pifs_nil {X : Cx} : PIfs X [] tIf0 := fun _ _ _ H _ I h => wpAny_tests_nil ⟨H, I, h⟩
theorem pifs_one {X : Cx} {c : Expr} {t : TT} (h : PT X c t) : PIfs X [c] t := fun pins s σ H Q I hw => wpAny_tests_one (h pins s σ H Q I hw)

/-! ### the closure -/
theorem cellsFrom_app : ∀ (names : List (Str × NameKind)) (n : Nat) (acc : List (Str × Addr)), cellsFrom n names acc = cellsFrom n names [] ++ acc
  | [], _, _ => rfl
  | (nm, k) :: r, n, acc => by
    unfold cellsFrom
    split
    · rw [cellsFrom_app r (n + 1) ((nm, n) :: acc), cellsFrom_app r (n + 1) [(nm, n)], List.append_assoc]; rfl
    · exact cellsFrom_app r n acc
/-- the cells of the free names -/
def closOf (cells : List (Str × Addr)) : List (Str × NameKind) → List (Str × Addr) → List (Str × Addr)
  | [], acc => acc
  | (n, k) :: r, acc => if k == .free then closOf cells r ((n, (cells.lookup n).getD 0) :: acc) else closOf cells r acc
theorem closFor_eq {env : Env} : ∀ (names : List (Str × NameKind)) (acc : List (Str × Addr)), (∀ y ∈ names, y.2 = .free → ∃ c, env.cells.lookup y.1 = some c) →
    (forIn names acc fun (x : Str × NameKind) cs => if x.2 == .free then do let a ← cellOf env x.1; pure (ForInStep.yield ((x.1, a) :: cs)) else pure (ForInStep.yield cs) : Sem _) = pure (closOf env.cells names acc)
  | [], acc, _ => rfl
  | (n, k) :: r, acc, h => by
    rw [List.forIn_cons]
    unfold closOf
    have hr := fun y hy => h y (List.mem_cons_of_mem _ hy)
    by_cases hk : (k == NameKind.free) = true
    · obtain ⟨c, hc⟩ := h (n, k) List.mem_cons_self (by simpa using hk)
      have hc' : env.cells.lookup n = some c := hc
      simp only [hk, if_true]
      unfold cellOf
      rw [hc']
      simp only [pure_bind, Option.getD_some]
      exact closFor_eq r _ hr
    · have hk' : (k == NameKind.free) = false := by simpa using hk
      simp only [hk', Bool.false_eq_true, if_false, pure_bind]
      exact closFor_eq r _ hr
theorem closureFor_eq {scope : Scope} {env : Env} (h : ∀ y ∈ scope.names, y.2 = .free → ∃ c, env.cells.lookup y.1 = some c) : closureFor scope env = pure (closOf env.cells scope.names []) := by
  have e := closFor_eq (env := env) scope.names [] h
  unfold closureFor
  simp only [bind_pure_comp] at e ⊢
  have e2 : (forIn scope.names ([] : List (Str × Addr)) fun (x : Str × NameKind) cs => if x.2 == .free then do let a ← cellOf env x.1; pure (ForInStep.yield ((x.1, a) :: cs)) else pure (ForInStep.yield cs) : Sem _) = pure (closOf env.cells scope.names []) := closFor_eq scope.names [] h
  simp only [bind_pure_comp] at e2
  first
    | exact e2
    | (rw [e2]; rfl)
    | simpa using e2
theorem closOf_lookup {cells : List (Str × Addr)} {x : Str} {c : Addr} : ∀ (names : List (Str × NameKind)) (acc : List (Str × Addr)), (closOf cells names acc).lookup x = some c →
    acc.lookup x = some c ∨ ((x, NameKind.free) ∈ names ∧ c = (cells.lookup x).getD 0)
  | [], acc, h => .inl h
  | (n, k) :: r, acc, h => by
    unfold closOf at h
    by_cases hk : (k == NameKind.free) = true
    · rw [if_pos hk] at h
      rcases closOf_lookup r _ h with h1 | ⟨h1, h2⟩
      · rw [List.lookup_cons] at h1
        cases hx : x == n with
        | true =>
          rw [hx] at h1
          have hxn : x = n := by simpa using hx
          subst hxn
          cases h1
          refine .inr ⟨?_, rfl⟩
          have : k = NameKind.free := by simpa using hk
          subst this
          exact List.mem_cons_self
        | false => rw [hx] at h1; exact .inl h1
      · exact .inr ⟨List.mem_cons_of_mem _ h1, h2⟩
    · rw [if_neg hk] at h
      rcases closOf_lookup r _ h with h1 | ⟨h1, h2⟩
      · exact .inl h1
      · exact .inr ⟨List.mem_cons_of_mem _ h1, h2⟩
theorem closOf_has {cells : List (Str × Addr)} {x : Str} : ∀ (names : List (Str × NameKind)) (acc : List (Str × Addr)), ((x, NameKind.free) ∈ names ∨ (acc.lookup x).isSome = true) → ((closOf cells names acc).lookup x).isSome = true
  | [], acc, h => by rcases h with h | h; · exact absurd h (by simp)
                     · exact h
  | (n, k) :: r, acc, h => by
    unfold closOf
    by_cases hk : (k == NameKind.free) = true
    · rw [if_pos hk]
      refine closOf_has r _ ?_
      rcases h with h | h
      · rcases List.mem_cons.mp h with e | h
        · cases e; right; simp [List.lookup_cons]
        · exact .inl h
      · right
        rw [List.lookup_cons]
        cases hx : x == n
        · exact h
        · rfl
    · rw [if_neg hk]
      refine closOf_has r _ ?_
      rcases h with h | h
      · rcases List.mem_cons.mp h with e | h
        · cases e; exact absurd rfl hk
        · exact .inl h
      · exact .inr h

/-! ### the new frame of the block -/
def compEnvL (scope : Scope) (L : Addr) (env : Env) : Env :=
  { scope := relabel scope env, locals := L, globals := env.globals, cells := cellsFrom (L + 1) scope.names (closOf env.cells scope.names []), qual := env.qual, func := none, code := env.code, frame := env.frame, builtins := env.builtins }
theorem newEnv_comp {M : Model} {A : Around} {E : Value → Shared → Prop} {s : Shared} {scope : Scope} {globals : Addr} {cl : List (Str × Addr)} {qual : Str} {outer : Env} {Q : Env → Shared → Prop}
    (hQ : ∀ h', (∀ b o, s.heap.get? b = some o → h'.get? b = some o) → h'.Ns s.heap.objs.size (fun _ => none) → CellsOk h' (s.heap.objs.size + 1) (cellsFrom (s.heap.objs.size + 1) scope.names []) →
      Q { scope := scope, locals := s.heap.objs.size, globals := globals, cells := cellsFrom (s.heap.objs.size + 1) scope.names cl, qual := qual, func := none, code := outer.code, frame := outer.frame, builtins := outer.builtins } { s with heap := h' }) :
    wpAny M A (newFunctionEnv scope globals cl [] qual none .none (some outer)) Q E s := by
  simp only [newFunctionEnv, Option.isSome_some, if_true]
  refine wpAny_bind (wpAny_alloc ?_)
  refine wpAny_bind (wpAny_layCells _ (fun name kind cells => by cases hkc : kind == NameKind.cell <;> simp [hkc]) _ _ _ _ ?_)
  have ok := cellsFrom_ok scope.names (s.heap.push { cls := .type "dict", data := .dict #[] }) (s.heap.objs.size + 1) [] ⟨fun _ _ hm => (nomatch hm), List.Pairwise.nil⟩ (by rw [Heap.size_push]; exact Nat.le_refl _)
  rw [Heap.size_push] at ok
  rw [show ({ s with heap := s.heap.push { cls := .type "dict", data := .dict #[] } } : Shared).heap.objs.size = s.heap.objs.size + 1 from Heap.size_push ..]
  simp only [List.forIn_nil]
  refine wpAny_bind (wpAny_pure (wpAny_pure ?_))
  exact hQ _ (fun b o e => pushCells_keeps _ _ b o (Heap.get?_push_of_some _ e)) ((Heap.Ns.new s.heap (.type "dict")).keeps (pushCells_keeps _ _)) ok
end L2

namespace L2
open PySem PySem.Spec PyProof.Rows

/-- the context of a comprehension's block -/
def compCx (X : Cx) (scope : Scope) (ts rest : List Str) (ex : List Addr) (s : Shared) (H : Hp) : Cx where
  prog := X.prog
  w := X.w
  K := X.K
  mg := X.mg
  base := X.base
  A := X.A
  N := ts ++ rest
  s₀ := s
  H₀ := H
  env := compEnvL scope s.heap.objs.size X.env
  outer := X.stack
  stack := X.stack
  ex := ex
  calm := X.calm
  fn := fun x => ((cellsFrom (s.heap.objs.size + 1) scope.names []).lookup x).isSome
  pn := X.pn
  xe := fun _ _ => False

/-- what is asked of the block's names: own ones in ts, free ones cells of the frame around -/
structure CompScope (X : Cx) (scope : Scope) (ts rest : List Str) : Prop where
  kind : scope.kind = .function
  own : ∀ y ∈ scope.names, y.2 = .local → scope.names.lookup y.1 = some .local
  free : ∀ y ∈ scope.names, y.2 = .free → X.env.kindOf y.1 = some .cell ∨ X.env.kindOf y.1 = some .free
  look : ∀ y ∈ scope.names, scope.names.lookup y.1 = some y.2
  len : rest.length = X.N.length
  at_ : ∀ (i : Nat) x, rest[i]? = some x → scope.names.lookup x = none ∨ (scope.names.lookup x = some .free ∧ X.N[i]? = some x) ∨ (∃ k, scope.names.lookup x = some k ∧ k ≠ .local ∧ k ≠ .cell ∧ k ≠ .free)
  nd : (ts ++ rest).Nodup

theorem relabel_lookup {env : Env} {x : Str} : ∀ (names : List (Str × NameKind)),
    (names.map fun (n, k) => if (k == NameKind.free && env.scope.kind == .function && env.kindOf n == some .cell) then (n, NameKind.cell) else (n, k)).lookup x =
      (names.lookup x).map fun k => if (k == NameKind.free && env.scope.kind == .function && env.kindOf x == some .cell) then NameKind.cell else k
  | [] => rfl
  | (n, k) :: r => by
    rw [List.map_cons]
    cases hx : x == n with
    | true =>
      have e : x = n := by simpa using hx
      subst e
      by_cases hc : (k == NameKind.free && env.scope.kind == .function && env.kindOf x == some .cell) = true
      · simp only [hc, if_true, List.lookup_cons, beq_self_eq_true, Option.map_some]
      · simp only [if_neg hc, List.lookup_cons, beq_self_eq_true, Option.map_some]
    | false =>
      have ih := relabel_lookup (env := env) (x := x) r
      by_cases hc : (k == NameKind.free && env.scope.kind == .function && env.kindOf n == some .cell) = true
      · simp only [hc, if_true, List.lookup_cons, hx]; exact ih
      · simp only [if_neg hc, List.lookup_cons, hx]; exact ih

section
variable {X : Cx} {scope : Scope} {ts rest : List Str} {pins : List (Addr × Obj)} {σ : St} {H : Hp} {s : Shared}

theorem lookup_app {l1 l2 : List (Str × Addr)} {x : Str} {c : Addr} (h : (l1 ++ l2).lookup x = some c) : l1.lookup x = some c ∨ (l1.lookup x = none ∧ l2.lookup x = some c) := by
  rw [List.lookup_append] at h
  cases e : l1.lookup x with
  | none => rw [e] at h; exact .inr ⟨rfl, by simpa using h⟩
  | some d => rw [e] at h; left; simpa using h

theorem cells_names : ∀ {names : List (Str × NameKind)} {n : Nat} {acc : List (Str × Addr)} {x : Str} {c : Addr}, (x, c) ∈ cellsFrom n names acc → (x, NameKind.cell) ∈ names ∨ (x, c) ∈ acc
  | [], _, _, _, _, h => .inr h
  | (nm, k) :: r, n, acc, x, c, h => by
    unfold cellsFrom at h
    split at h
    · rename_i hk
      rcases cells_names h with h | h
      · exact .inl (List.mem_cons_of_mem _ h)
      · rcases List.mem_cons.mp h with e | h
        · cases e
          have : k = NameKind.cell := by simpa using hk
          subst this
          exact .inl List.mem_cons_self
        · exact .inr h
    · rcases cells_names h with h | h
      · exact .inl (List.mem_cons_of_mem _ h)
      · exact .inr h

/-- the cells of the block: its own, or the closure's -/
theorem comp_cells {L : Addr} (S : CompScope X scope ts rest) {x : Str} {c : Addr} (h : (compEnvL scope L X.env).cells.lookup x = some c) :
    ((cellsFrom (L + 1) scope.names []).lookup x = some c ∧ scope.names.lookup x = some .cell) ∨ (scope.names.lookup x = some .free ∧ c = (X.env.cells.lookup x).getD 0) := by
  have h' : (cellsFrom (L + 1) scope.names (closOf X.env.cells scope.names [])).lookup x = some c := h
  rw [cellsFrom_app] at h'
  rcases lookup_app h' with h1 | ⟨_, h1⟩
  · refine .inl ⟨h1, ?_⟩
    rcases cells_names (PySem.mem_of_lookup h1) with z | z
    · exact S.look _ z
    · exact absurd z (by simp)
  · rcases closOf_lookup _ _ h1 with z | ⟨z1, z2⟩
    · exact absurd z (by simp)
    · exact .inr ⟨S.look _ z1, z2⟩

/-- the block begins -/
theorem comp_start (S : CompScope X scope ts rest) (I : Inv X pins σ H s) {fp : List Addr} {h' : Heap} (hf : ∀ b ∈ fp, FpOk X pins H b) (hfl : ∀ b ∈ fp, b < s.heap.objs.size)
    (hk : ∀ b o, s.heap.get? b = some o → h'.get? b = some o) (hn : h'.Ns s.heap.objs.size (fun _ => none)) (ck : CellsOk h' (s.heap.objs.size + 1) (cellsFrom (s.heap.objs.size + 1) scope.names [])) :
    Inv (compCx X scope ts rest fp s H) pins (List.replicate ts.length none ++ σ) H { s with heap := h' } := by
  have cell_of : ∀ x, scope.names.lookup x = some .free → ∃ c, X.env.cells.lookup x = some c := fun x hx => I.ok.has x (S.free _ (PySem.mem_of_lookup hx) rfl)
  have below : ∀ {b : Addr} {o : Obj}, s.heap.get? b = some o → b < s.heap.objs.size := fun e => Heap.lt_size e
  have cOld : ∀ x c, X.env.cells.lookup x = some c → c < s.heap.objs.size := fun x c e => by
    obtain ⟨v, o, ho, _⟩ := I.cell x c e
    exact below ho
  -- a cell of the block
  have cases_ : ∀ x c, (compEnvL scope s.heap.objs.size X.env).cells.lookup x = some c → (((x, c) ∈ cellsFrom (s.heap.objs.size + 1) scope.names [] ∧ h'.IsCell c none ∧ s.heap.objs.size + 1 ≤ c) ∨ (X.env.cells.lookup x = some c)) := fun x c e => by
    rcases comp_cells S e with ⟨z, _⟩ | ⟨z1, z2⟩
    · exact .inl ⟨PySem.mem_of_lookup z, ck.empty x c (PySem.mem_of_lookup z)⟩
    · obtain ⟨d, hd⟩ := cell_of x z1
      rw [hd] at z2
      exact .inr (by rw [hd, z2]; rfl)
  have I' := I
  refine ⟨⟨I.ok.mod, S.kind, I.ok.glob, I.ok.blt, Nat.le_refl _, fun x y c e1 e2 => ?_, fun x hx => ?_, fun x c hfn e => ?_, I.ok.hd, I.ok.frames, .inl rfl, fun b hb => ⟨Nat.ne_of_lt (hfl b hb), fun x c e => ?_⟩, I.bs, Nat.le_trans I.ok.bsz I.sz, fun b o e hb => ?_, fun b hb hz => ?_, I.stack, I.stkFree⟩,
    rfl, I.bare, Un.kept hk, ⟨_, hn, fun i x v e1 e2 e3 => ?_⟩, fun x c e => ?_, I.hok.fresh (Nat.le_refl _), fun x c e => ?_, fun p hp => ?_, I.hok.kept hk, ?_⟩
  · rcases cases_ x c e1 with ⟨m1, _, l1⟩ | z1 <;> rcases cases_ y c e2 with ⟨m2, _, l2⟩ | z2
    · exact name_of_addr ck.apart m1 m2
    · exact absurd (Nat.lt_of_lt_of_le (cOld y c z2) (Nat.le_of_succ_le l1)) (Nat.lt_irrefl _)
    · exact absurd (Nat.lt_of_lt_of_le (cOld x c z1) (Nat.le_of_succ_le l2)) (Nat.lt_irrefl _)
    · exact I.ok.inj x y c z1 z2
  · have hx' : (relabel scope X.env).names.lookup x = some .cell ∨ (relabel scope X.env).names.lookup x = some .free := hx
    have e : (relabel scope X.env).names.lookup x = (scope.names.lookup x).map fun k => if (k == NameKind.free && X.env.scope.kind == .function && X.env.kindOf x == some .cell) then NameKind.cell else k := relabel_lookup scope.names
    have hkk : scope.names.lookup x = some .cell ∨ scope.names.lookup x = some .free := by
      cases q : scope.names.lookup x with
      | none => rw [e, q] at hx'; rcases hx' with z | z <;> cases z
      | some k =>
        by_cases hc : (k == NameKind.free && X.env.scope.kind == .function && X.env.kindOf x == some .cell) = true
        · have : k = .free := by
            have := (Bool.and_eq_true _ _ ▸ hc : _ ∧ _).1
            have := (Bool.and_eq_true _ _ ▸ this : _ ∧ _).1
            simpa using this
          exact .inr (by rw [this])
        · rw [e, q] at hx'
          simp only [Option.map_some, if_neg hc] at hx'
          exact hx'
    show ∃ c, (cellsFrom (s.heap.objs.size + 1) scope.names (closOf X.env.cells scope.names [])).lookup x = some c
    refine Option.isSome_iff_exists.mp ?_
    rw [cellsFrom_app, List.lookup_append]
    rcases hkk with z | z
    · have q := PySem.W.cellsFrom_some scope.names (s.heap.objs.size + 1) [] (.inl z)
      cases q2 : (cellsFrom (s.heap.objs.size + 1) scope.names []).lookup x with
      | none => rw [q2] at q; cases q
      | some c => simp
    · have q := closOf_has (cells := X.env.cells) (x := x) scope.names [] (.inl (PySem.mem_of_lookup z))
      cases (cellsFrom (s.heap.objs.size + 1) scope.names []).lookup x with
      | none => simpa using q
      | some c => simp
  · have hfn' : ((cellsFrom (s.heap.objs.size + 1) scope.names []).lookup x).isSome = true := hfn
    have e' : (cellsFrom (s.heap.objs.size + 1) scope.names (closOf X.env.cells scope.names [])).lookup x = some c := e
    rw [cellsFrom_app, List.lookup_append] at e'
    cases q2 : (cellsFrom (s.heap.objs.size + 1) scope.names []).lookup x with
    | none => rw [q2] at hfn'; cases hfn'
    | some d =>
      rw [q2] at e'
      have e2 : d = c := by simpa using e'
      subst e2
      have := (ck.empty x d (PySem.mem_of_lookup q2)).2
      show s.heap.objs.size ≤ d
      omega
  · rcases cases_ x c e with ⟨_, _, l⟩ | z
    · exact Nat.ne_of_gt (Nat.lt_of_lt_of_le (hfl b hb) (Nat.le_of_succ_le l))
    · exact (hf b hb).2.2.2.2.1 x c z
  · rcases (hf b hb).2.2.2.1 with z | z
    · exact I.ok.noex b o e z
    · exact absurd (Nat.lt_of_lt_of_le (Heap.lt_size e) (Nat.le_trans I.ok.bsz z)) (Nat.lt_irrefl _)
  · rcases List.mem_cons.mp (I.stkSub b hz) with z | z
    · exact (hf b hb).2.1 z
    · exact (hf b hb).2.2.1 z
  · -- the names' values
    have e1' : (ts ++ rest)[i]? = some x := e1
    by_cases hi : i < ts.length
    · rw [List.getElem?_append_left (by simpa using hi), List.getElem?_replicate] at e2
      split at e2 <;> cases e2
    · have hi' : ts.length ≤ i := by omega
      rw [List.getElem?_append_right hi'] at e1'
      rw [List.getElem?_append_right (by simpa using hi'), List.length_replicate] at e2
      have e : (relabel scope X.env).names.lookup x = (scope.names.lookup x).map fun k => if (k == NameKind.free && X.env.scope.kind == .function && X.env.kindOf x == some .cell) then NameKind.cell else k := relabel_lookup scope.names
      have e3' : (relabel scope X.env).names.lookup x = some .local ∨ (relabel scope X.env).names.lookup x = some .cell ∨ (relabel scope X.env).names.lookup x = some .free := e3
      rcases S.at_ _ x e1' with z | ⟨z, hN⟩ | ⟨k, z, k1, k2, k3⟩
      · rw [e, z] at e3'; rcases e3' with q | q | q <;> cases q
      · obtain ⟨m, hm, hl⟩ := I.loc
        have hkd := S.free _ (PySem.mem_of_lookup z) rfl
        have hvis : Vis X.env.scope x := by
          rcases hkd with q | q
          · exact .inr (.inl q)
          · exact .inr (.inr q)
        obtain ⟨u, r, l⟩ := hl _ x v hN e2 hvis
        refine ⟨u, r, .inr ⟨?_, ?_⟩⟩
        · rcases e3' with q | q | q
          · rw [e, z] at q
            simp only [Option.map_some] at q
            split at q <;> cases q
          · exact .inl q
          · exact .inr q
        · rcases l with ⟨hk2, _⟩ | ⟨_, c, hc, hcell⟩
          · have hk2' : X.env.kindOf x = some .local := hk2
            rcases hkd with q | q <;> (have q' : X.env.kindOf x = _ := q; rw [hk2'] at q'; cases q')
          · refine ⟨c, ?_, hcell.keeps hk⟩
            have hh : ((compEnvL scope s.heap.objs.size X.env).cells.lookup x).isSome = true := by
              show ((cellsFrom (s.heap.objs.size + 1) scope.names (closOf X.env.cells scope.names [])).lookup x).isSome = true
              rw [cellsFrom_app, List.lookup_append]
              have q := closOf_has (cells := X.env.cells) (x := x) scope.names [] (.inl (PySem.mem_of_lookup z))
              cases (cellsFrom (s.heap.objs.size + 1) scope.names []).lookup x with
              | none => simpa using q
              | some c => simp
            obtain ⟨d, hd⟩ := Option.isSome_iff_exists.mp hh
            rcases comp_cells S hd with ⟨_, z1⟩ | ⟨_, z2⟩
            · rw [z] at z1; cases z1
            · rw [hc] at z2
              rw [z2] at hd
              exact hd
      · exfalso
        rw [e, z] at e3'
        simp only [Option.map_some] at e3'
        have : (k == NameKind.free) = false := by simpa using k3
        simp only [this, Bool.false_and, Bool.false_eq_true, if_false] at e3'
        rcases e3' with q | q | q <;> cases q
        · exact k1 rfl
        · exact k2 rfl
        · exact k3 rfl
  · rcases cases_ x c e with ⟨_, z, _⟩ | z
    · exact ⟨_, z⟩
    · obtain ⟨v, q⟩ := I.cell x c z
      exact ⟨v, q.keeps hk⟩
  · rcases cases_ x c e with ⟨_, _, l⟩ | z
    · exact I.hok.fresh (by omega)
    · exact I.freeC x c z
  · obtain ⟨e, n, ne, nf, d⟩ := I.pin p hp
    refine ⟨hk _ _ e, n, Nat.ne_of_lt (below e), fun hz => ?_, d⟩
    rcases List.mem_cons.mp (I.stkSub p.1 hz) with z | z
    · exact ne z
    · exact nf z
  · show _ = (ts ++ rest).length
    rw [List.length_append, List.length_append, List.length_replicate, I.len, S.len]

/-- behind the block: the frame around stands as it stood -/
theorem comp_done {fp : List Addr} {σ' : St} {H' : Hp} {s' : Shared} {h' : Heap} (I : Inv X pins σ H s) (hf : ∀ b ∈ fp, FpOk X pins H b) (J : Inv (compCx X scope ts rest fp s H) pins σ' H' s')
    (hb : Heap.SameBut s.heap.objs.size s'.heap h') : Inv X pins σ H' { s' with heap := h' } := by
  have fr : H' s.heap.objs.size = none := J.free
  have u : Un (frs X.stack) fp H H' s.heap s'.heap := J.base
  have ne : ∀ {b : Addr} {o : Obj}, s.heap.get? b = some o → b ≠ s.heap.objs.size := fun e => Nat.ne_of_lt (Heap.lt_size e)
  refine I.call' (s' := { s' with heap := h' }) (ch := fp) J.os ⟨fun b o e n h1 h2 => (hb.2 b (ne e)).trans (u.keep b o e n h1 h2), fun b o e n h1 h2 => ?_, u.free, fun b o e h2 => ?_, u.tups, u.frzs, u.tbls⟩ (fun b o e => ?_) J.bare fun b hb' => ?_
  · obtain ⟨sl, q⟩ := u.slot b o e n h1 h2
    exact ⟨sl, (hb.2 b (ne e)).trans q⟩
  · obtain ⟨o', q⟩ := u.there b o e h2
    exact ⟨o', (hb.2 b (ne e)).trans q⟩
  · refine (J.hok b o e).stay (fun c v hc q => (hb.2 c ?_).trans q) (fun _ q => q) fun _ _ q => q
    rintro rfl
    rcases hc with rfl | hc
    · rw [fr] at e; cases e
    · rw [fr] at hc; cases hc
  · obtain ⟨_, f1, f2, f3, f4, f5⟩ := hf b hb'
    exact ⟨f3, f1, f4, f5⟩
end
end L2

namespace L2
open PySem PySem.Spec PyProof.Rows

/-- a list comprehension: n own names; W by the turn, a measure, what is gathered, the block's names, the heap (the gathered list stands at D) -/
def tComp (n : Nat) (wi : TI) (g : TG) (tc : TT) (te : TE) : TE := fun σ H Q => wi σ H fun J H1 => ∀ D, H1 D = none → ∃ W : Nat → Nat → List V → St → Hp → Prop,
  (∃ m, W 0 m [] (List.replicate n none ++ σ) (upd H1 D (.lst []))) ∧ ∀ i m ys σ' H', W i m ys σ' H' →
    (J.stop i H' ∧ H' D = some (.lst ys) ∧ Q (.ref D) H') ∨
    (J.go i H' ∧ ∀ x H2, J.yld i H' x H2 → g x σ' H2 fun σ3 H3 => tc σ3 H3 fun b H4 => if b = true then
      te σ3 H4 fun y H5 => H5 D = some (.lst ys) ∧ ys.length < sizeLine ∧ ∃ m', m' < m ∧ W (i + 1) m' (ys ++ [y]) σ3 (upd H5 D (.lst (ys ++ [y])))
      else ∃ m', m' < m ∧ W (i + 1) m' ys σ3 H4)

section
variable {X : Cx} {scope : Scope} {ts rest : List Str} {pins : List (Addr × Obj)} {σ : St} {elt tg iter : Expr} {ifs : List Expr} {pos : Pos} {wi : TI} {g : TG} {tc : TT} {te : TE}
theorem comp_block (hc : X.calm = true) (S : CompScope X scope ts rest)
    (hg : ∀ fp s H, PG (compCx X scope ts rest fp s H) tg g) (ht : ∀ fp s H, PIfs (compCx X scope ts rest fp s H) ifs tc) (he : ∀ fp s H, PE (compCx X scope ts rest fp s H) elt te)
    {H1 : Hp} {s₂ : Shared} {it : Addr} {fp : List Addr} {tn : Nat → Heap → Prop} {J : It} (I2 : Inv X pins σ H1 s₂) (T : Turn X.prog X.w X.K tg J fp it tn) (st2 : tn 0 s₂.heap) (f2 : ∀ b ∈ fp, FpOk X pins H1 b) {Q : VK}
    (hw : ∀ D, H1 D = none → ∃ W : Nat → Nat → List V → St → Hp → Prop,
      (∃ m, W 0 m [] (List.replicate ts.length none ++ σ) (upd H1 D (.lst []))) ∧ ∀ i m ys σ' H', W i m ys σ' H' →
        (J.stop i H' ∧ H' D = some (.lst ys) ∧ Q (.ref D) H') ∨
        (J.go i H' ∧ ∀ x H2, J.yld i H' x H2 → g x σ' H2 fun σ3 H3 => tc σ3 H3 fun b H4 => if b = true then
          te σ3 H4 fun y H5 => H5 D = some (.lst ys) ∧ ys.length < sizeLine ∧ ∃ m', m' < m ∧ W (i + 1) m' (ys ++ [y]) σ3 (upd H5 D (.lst (ys ++ [y])))
          else ∃ m', m' < m ∧ W (i + 1) m' ys σ3 H4))
    {RR : Value → Addr → Result → Shared → Prop} {E : Value → Shared → Prop}
    (hRR : ∀ D s3 H3 σ' H' s', Inv X pins σ H3 s3 → (∀ b ∈ fp, FpOk X pins H3 b) → Inv (compCx X scope ts rest fp s3 H3) pins σ' H' s' → Q (.ref D) H' → RR (.ref D) s3.heap.objs.size (.ok .next) s') :
    wpAny (model X.prog X.w) X.A (newList []) (fun acc s₃ => wpAny (model X.prog X.w) X.A (newFunctionEnv scope X.env.globals (closOf X.env.cells scope.names []) [] X.env.qual none .none (some X.env)) (fun cenv s₄ =>
      codeAny (model X.prog X.w) X.A (.compStart (.ListComp elt [⟨tg, iter, ifs, 0⟩] scope pos) 0 (.ref it) acc { cenv with scope := relabel scope X.env }) (RR acc cenv.locals) s₄) E s₃) E s₂ := by
  obtain ⟨W, ⟨m0, w0⟩, turn⟩ := hw s₂.heap.objs.size (I2.hok.fresh (Nat.le_refl _))
  refine wpAny_newObj_type ?_
  generalize e3 : ({ s₂ with heap := s₂.heap.push { cls := .type "list", dict := none, data := .seq ([] : List Value).toArray } } : Shared) = s₃
  have hfl : ∀ b ∈ fp, b < s₂.heap.objs.size := fun b hb => by
    obtain ⟨o, e, _⟩ := T.obj _ _ st2 b hb
    exact Heap.lt_size e
  have I3 : Inv X pins σ (upd H1 s₂.heap.objs.size (.lst [])) s₃ := by
    subst e3
    exact I2.laid (t' := s₂.toks) (fun b u e => Heap.get?_push_of_some _ e) (Nat.le_refl _) ⟨Nat.zero_le _, [], 0, .nil, Heap.get?_push_size _ rfl⟩
  have hs3 : s₃.heap.objs.size = s₂.heap.objs.size + 1 := by subst e3; exact Heap.size_push ..
  have f3 : ∀ b ∈ fp, FpOk X pins (upd H1 s₂.heap.objs.size (.lst [])) b := fun b hb => ⟨by rw [upd_ne (Nat.ne_of_lt (hfl b hb))]; exact (f2 b hb).1, (f2 b hb).2⟩
  have st3 : tn 0 s₃.heap := by
    subst e3
    exact T.keep _ _ _ st2 fun b _ o e => Heap.get?_push_of_some _ e
  have hfl3 : ∀ b ∈ fp, b < s₃.heap.objs.size := fun b hb => by rw [hs3]; exact Nat.lt_succ_of_lt (hfl b hb)
  refine newEnv_comp fun h' hk hn ck => ?_
  have I4 := comp_start S I3 f3 hfl3 hk hn ck
  have st4 : tn 0 ({ s₃ with heap := h' } : Shared).heap := T.keep _ _ _ st3 fun b _ o e => hk b o e
  generalize eX : compCx X scope ts rest fp s₃ (upd H1 s₂.heap.objs.size (.lst [])) = X' at I4
  have hP : X'.prog = X.prog := by subst eX; rfl
  have hw' : X'.w = X.w := by subst eX; rfl
  have hK' : X'.K = X.K := by subst eX; rfl
  have hA : X'.A = X.A := by subst eX; rfl
  have hcalm : X'.calm = true := by subst eX; exact hc
  have hxe : X'.xe = noE := by subst eX; rfl
  have henv : X'.env = compEnvL scope s₃.heap.objs.size X.env := by subst eX; rfl
  have hg' : PG X' tg g := by subst eX; exact hg _ _ _
  have ht' : PIfs X' ifs tc := by subst eX; exact ht _ _ _
  have he' : PE X' elt te := by subst eX; exact he _ _ _
  have f4 : ∀ b ∈ fp, FpOk X' pins (upd H1 s₂.heap.objs.size (.lst [])) b := fun b hb => by
    obtain ⟨z0, z1, z2, z3, z4, z5⟩ := f3 b hb
    have ok4 := I4.ok
    refine ⟨z0, ?_, ?_, .inl ?_, ?_, ?_⟩
    · rw [henv]; exact Nat.ne_of_lt (hfl3 b hb)
    · have := ok4.exfs b (by subst eX; exact hb)
      exact this
    · subst eX; exact hb
    · exact (ok4.exf b (by subst eX; exact hb)).2
    · subst eX; exact z5
  have stat : ∀ {H' : Hp}, (∀ b ∈ fp, H' b = none) → ∀ b ∈ fp, FpOk X' pins H' b := fun hn b hb => ⟨hn b hb, (f4 b hb).2⟩
  have loop : ∀ s4 : Shared, s4 = { s₃ with heap := h' } → codeAny (model X.prog X.w) X.A (.compLoop (.ListComp elt [⟨tg, iter, ifs, 0⟩] scope pos) 0 (.ref it) (.ref s₂.heap.objs.size) (compEnvL scope s₃.heap.objs.size X.env))
      (RR (.ref s₂.heap.objs.size) s₃.heap.objs.size) s4 := by
    rintro s4 rfl
    refine compLoop_any (fun n s' => ∃ i ys σ' H', Inv X' pins σ' H' s' ∧ tn i s'.heap ∧ (∀ b ∈ fp, H' b = none) ∧ W i n ys σ' H') ?_ m0 ⟨0, [], _, _, I4, st4, fun b hb => (f4 b hb).1, w0⟩
    rintro n s5 ⟨i, ys, σ5, H5, I5, st5, fr5, w5⟩
    rw [← hP, ← hw', ← hA, ← henv, ← hxe]
    rcases turn i n ys σ5 H5 w5 with ⟨stop, eD, q⟩ | ⟨go, step⟩
    · have z := T.done X' hP hw' hK' hcalm i pins s5 σ5 H5 X'.xe I5 (stat fr5) st5 stop
      rw [← hP, ← hw'] at z
      refine thn z fun r s6 hz => ?_
      obtain ⟨hr, I6⟩ := hz
      subst hr
      subst eX
      exact hRR _ s₃ _ σ5 H5 s6 I3 f3 I6 q
    · have z := T.item X' hP hw' hK' hcalm i pins s5 σ5 H5 X'.xe I5 (stat fr5) st5 go
      rw [← hP, ← hw'] at z
      refine thn z fun r s6 hz => ?_
      obtain ⟨u, hr, h6⟩ := hz
      subst hr
      dsimp only
      refine thn h6 fun _ s7 ⟨x, H7, I7, r7, y7, st7, fr7⟩ => ?_
      have I7' := I7.pinned (stat fr7) (T.obj _ _ st7)
      refine thn (hg' _ s7 σ5 H7 x u _ I7' r7 (step x H7 y7)) fun _ s8 ⟨σ8, H8, I8, q8⟩ => ?_
      -- what stays of the iterator
      have back : ∀ {s9 : Shared} {σ9 : St} {H9 : Hp}, Inv X' (pins ++ pinsAt fp s7.heap) σ9 H9 s9 → Inv X' pins σ9 H9 s9 ∧ tn (i + 1) s9.heap ∧ ∀ b ∈ fp, H9 b = none := fun {s9 σ9 H9} I9 => by
        refine ⟨I9.unpinned, T.keep _ _ _ st7 fun b hb o e => (I9.pin (b, o) (List.mem_append_right _ (List.mem_append_right _ (mem_pinsAt hb e)))).1, fun b hb => ?_⟩
        obtain ⟨o, e, d⟩ := T.obj _ _ st7 b hb
        exact (I9.pin (b, o) (List.mem_append_right _ (List.mem_append_right _ (mem_pinsAt hb e)))).2.1
      refine thn (ht' _ s8 σ8 H8 _ I8 q8) fun ok s9 ⟨H9, I9, q9⟩ => ?_
      cases ok with
      | false =>
        simp only [Bool.false_eq_true, if_false] at q9 ⊢
        obtain ⟨m', hm, w9⟩ := q9
        obtain ⟨a1, a2, a3⟩ := back I9
        exact ⟨m', hm, i + 1, ys, σ8, H9, a1, a2, a3, w9⟩
      | true =>
        simp only [if_true] at q9 ⊢
        refine thn (he' _ s9 σ8 H9 _ I9 q9) fun v s10 ⟨y, H10, I10, r10, eD, hl, m', hm, w10⟩ => ?_
        refine thn (mt_append (X := X') _ s10 σ8 H10 (.ref s₂.heap.objs.size) [y] (.ref s₂.heap.objs.size) [v] (fun _ H11 => W (i + 1) m' (ys ++ [y]) σ8 H11) I10 rfl (.cons r10 .nil) ⟨_, ys, y, rfl, rfl, eD, hl, w10⟩) fun _ s11 ⟨_, H11, I11, _, w11⟩ => ?_
        obtain ⟨a1, a2, a3⟩ := back I11
        exact ⟨m', hm, i + 1, _, σ8, H11, a1, a2, a3, w11⟩
  exact codeAny_compStart_list (loop _ rfl) (T.self X.A 0 _ _ _ st4 (loop _ rfl))

theorem pe_comp (hc : X.calm = true) (S : CompScope X scope ts rest) (hi : PI X tg iter wi)
    (hg : ∀ fp s H, PG (compCx X scope ts rest fp s H) tg g) (ht : ∀ fp s H, PIfs (compCx X scope ts rest fp s H) ifs tc) (he : ∀ fp s H, PE (compCx X scope ts rest fp s H) elt te)
    (hs : ∀ x, foldedSetIterable iter X.env x = pure x := by intro _; rfl) : PE X (.ListComp elt [⟨tg, iter, ifs, 0⟩] scope pos) (tComp ts.length wi g tc te) := by
  intro pins s σ H Q I h
  rw [eval_ListComp]
  refine wpAny_comprehension_free (use := none) rfl hs (closureFor_eq fun y hy hk => I.ok.has _ (S.free y hy hk)) S.kind S.own (thn (hi pins s σ H _ I h) fun x s₁ h1 => thn h1 fun itv s₂ h2 => ?_)
  obtain ⟨it, fp, tn, J, H2, e, I2, T, st2, f2, hw⟩ := h2
  subst e
  refine comp_block hc S hg ht he I2 T st2 f2 hw (RR := fun acc C => compPost (model X.prog X.w) X.A X.xe none (EP X pins σ Q) acc C) fun D s3 H3 σ' H' s' I3 f3 J' q => ?_
  obtain ⟨m, hn, _⟩ := J'.loc
  exact ⟨m, hn, fun h' hb => ⟨.ref D, H', comp_done I3 f3 J' hb, rfl, q⟩⟩

/-- name = [..]: the name may be stored ahead of the block's own names going -/
theorem ps_set_comp {i : Nat} {x : Str} {pos' spos : Pos} (hc : X.calm = true) (S : CompScope X scope ts rest) (hi : PI X tg iter wi)
    (hg : ∀ fp s H, PG (compCx X scope ts rest fp s H) tg g) (ht : ∀ fp s H, PIfs (compCx X scope ts rest fp s H) ifs tc) (he : ∀ fp s H, PE (compCx X scope ts rest fp s H) elt te)
    (hN : X.N.Nodup) (hx : X.N[i]? = some x) (hl : Loc X.env.scope x)
    (hsw : swapsWith (.ListComp elt [⟨tg, iter, ifs, 0⟩] scope pos) (some (.Name x pos')) spos.line X.env = pure true)
    (hs : ∀ x, foldedSetIterable iter X.env x = pure x := by intro _; rfl) (hf : X.fn x = true ∨ X.env.scope.names.lookup x = some .local := by first | exact .inl rfl | exact .inr rfl | assumption) :
    PS X (.Assign [.Name x pos'] (.ListComp elt [⟨tg, iter, ifs, 0⟩] scope pos) spos) (tAsg (tComp ts.length wi g tc te) (gName i)) := by
  intro pins s σ H D I h
  rw [exec_Assign_Name_used _ _ _ _ hsw]
  refine wpAny_bind (wpAny_standAt (wpAny_bind ?_))
  show wpAny _ X.A (do let _ ← comprehension (.ListComp elt [⟨tg, iter, ifs, 0⟩] scope pos) scope X.env _ (newList []) false (eval iter X.env) (some (assign (.Name x pos') X.env))) _ _ s
  refine wpAny_bind (wpAny_mono (wpAny_comprehension_free (use := some (assign (.Name x pos') X.env)) (Q := fun _ s' => SP X pins D .next s') rfl hs (closureFor_eq fun y hy hk => I.ok.has _ (S.free y hy hk)) S.kind S.own
    (thn (hi pins s σ H _ I h) fun xv s₁ h1 => thn h1 fun itv s₂ h2 => ?_)) (fun _ s' hq => wpAny_pure (wpAny_pure hq)) fun _ _ e => e)
  obtain ⟨it, fp, tn, J, H2, e, I2, T, st2, f2, hw⟩ := h2
  subst e
  refine comp_block hc S hg ht he I2 T st2 f2 (Q := fun v H1 => gName i v σ H1 D.nx) hw (RR := fun acc C => compPost (model X.prog X.w) X.A X.xe (some (assign (.Name x pos') X.env)) (fun _ s' => SP X pins D .next s') acc C) fun D' s3 H3 σ' H' s' I3 f3 J' q => ?_
  obtain ⟨m, hn, _⟩ := J'.loc
  have IX : Inv X pins σ H' s' := by
    have := comp_done I3 f3 J' (Heap.SameBut.refl _ _)
    exact this
  obtain ⟨o, es, ep, ho, hd, hr⟩ := id hn
  have ho' : s'.heap.get? s3.heap.objs.size = some o := ho
  have hfr : H' s3.heap.objs.size = none := J'.free
  have hne : s3.heap.objs.size ≠ X.env.locals := Nat.ne_of_gt I3.lt
  have hnf : s3.heap.objs.size ∉ X.fs := I3.nofs (Nat.le_refl _)
  have hcl : ∀ v, o.data ≠ .cell v := fun v z => by rw [hd] at z; cases z
  have IP : Inv X (pins ++ [(s3.heap.objs.size, o)]) σ H' s' := IX.pins_of fun p hp => (List.mem_append.mp hp).elim (fun z => IX.pin p (List.mem_append_right _ z)) fun z => by
    have e : p = (s3.heap.objs.size, o) := by simpa using z
    subst e
    exact ⟨ho', hfr, hne, hnf, hcl⟩
  show wpAny _ X.A (assign (.Name x pos') X.env (.ref D')) _ _ _
  refine wpAny_assign_Name (store_ok IP hN hx hl (v := .ref D') (u := .ref D') rfl (fun s4 I4 => ?_) hf)
  have hp4 := (I4.pin (s3.heap.objs.size, o) (List.mem_append_right _ (List.mem_append_right _ List.mem_cons_self))).1
  refine ⟨m, ⟨o, es, ep, hp4, hd, hr⟩, fun h' hb => ⟨_, H', ?_, q⟩⟩
  refine Inv.turned (it := s3.heap.objs.size) (t' := s4.toks) I4.unpinned (fun b o' hbne e => (hb.2 b hbne).trans e) hfr hne (.inr I3.sz) (fun y c e z => ?_) (fun p hp z => ?_)
  · obtain ⟨v, o2, h2, _⟩ := I3.cell y c e
    exact absurd (Heap.lt_size h2) (by rw [z]; exact Nat.lt_irrefl _)
  · obtain ⟨e, _⟩ := I3.pin p hp
    exact absurd (Heap.lt_size e) (by rw [z]; exact Nat.lt_irrefl _)
end
end L2

namespace L2
open PySem PySem.Spec PyProof.Rows

/-! ## Values with their tuples and unchanging lists inside -/
inductive D where
  | non | bl (b : Bool) | int (i : Int) | str (x : Str) | ref (a : Addr) | ty (n : String) | tup (ds : List D) | lst (ds : List D)

/-- what may change -/
inductive OD where
  | lst (ds : List D)
abbrev HpD := Addr → Option OD
def updD (M : HpD) (a : Addr) (o : OD) : HpD := fun b => if b = a then some o else M b
def delD (M : HpD) (a : Addr) : HpD := fun b => if b = a then none else M b
theorem updD_same {M : HpD} {a : Addr} {o : OD} : updD M a o a = some o := by unfold updD; rw [if_pos rfl]
theorem updD_ne {M : HpD} {a b : Addr} {o : OD} (h : b ≠ a) : updD M a o b = M b := by unfold updD; rw [if_neg h]
theorem delD_same {M : HpD} {a : Addr} : delD M a a = none := by unfold delD; rw [if_pos rfl]
theorem delD_ne {M : HpD} {a b : Addr} (h : b ≠ a) : delD M a b = M b := by unfold delD; rw [if_neg h]
theorem updD_updD {M : HpD} {a : Addr} {o u : OD} : updD (updD M a o) a u = updD M a u := by
  funext b; unfold updD; split <;> rfl
theorem delD_updD {M : HpD} {a : Addr} {o : OD} (h : M a = none) : delD (updD M a o) a = M := by
  funext b; unfold delD updD
  by_cases e : b = a
  · rw [if_pos e, e, h]
  · rw [if_neg e, if_neg e]
theorem updD_self {M : HpD} {a : Addr} {o : OD} (h : M a = some o) : updD M a o = M := by
  funext b; unfold updD
  by_cases e : b = a
  · rw [if_pos e, e, h]
  · rw [if_neg e]

/-- the module's part, and the addresses that nothing told may pass through -/
structure KF where
  K : PySem.W.Frag
  F : Addr → Prop
/-- a list, a tuple that will not change -/
def FzL (K : KF) (H : Hp) (M : HpD) (a : Addr) (xs : List V) : Prop := (Rd H a (.lst xs) ∧ M a = none ∧ ¬ K.F a) ∨ SqL K.K (fun _ => none) a xs
def FzT (K : KF) (H : Hp) (M : HpD) (a : Addr) (xs : List V) : Prop := (Rd H a (.tup xs) ∧ M a = none ∧ ¬ K.F a) ∨ SqT K.K (fun _ => none) a xs
mutual
def RepD (K : KF) (H : Hp) (M : HpD) : D → V → Prop
  | .non, v => v = .non
  | .bl b, v => v = .bl b
  | .int i, v => v = .int i
  | .str x, v => v = .str x
  | .ref a, v => v = .ref a
  | .ty n, v => v = .ty n
  | .tup ds, v => ∃ a xs, v = .ref a ∧ FzT K H M a xs ∧ RepDs K H M ds xs
  | .lst ds, v => ∃ a xs, v = .ref a ∧ FzL K H M a xs ∧ RepDs K H M ds xs
def RepDs (K : KF) (H : Hp) (M : HpD) : List D → List V → Prop
  | [], xs => xs = []
  | d :: ds, xs => ∃ x r, xs = x :: r ∧ RepD K H M d x ∧ RepDs K H M ds r
end
def RepO (K : KF) (H : Hp) (M : HpD) : OD → HO → Prop
  | .lst ds, o => ∃ xs, o = .lst xs ∧ RepDs K H M ds xs
structure RepH (K : KF) (H : Hp) (M : HpD) : Prop where
  at_ : ∀ a o, M a = some o → ∃ o', H a = some o' ∧ RepO K H M o o'
  fb : ∀ a, K.F a → (∃ o, H a = some o) ∧ M a = none
/-- what is not among the changing things stays -/
def Fz (M : HpD) (H : Hp) (M' : HpD) (H' : Hp) : Prop := ∀ a o, H a = some o → M a = none → H' a = some o ∧ M' a = none

section
variable {K : KF} {H H' H2 : Hp} {M M' M2 : HpD}
theorem Fz.refl : Fz M H M H := fun _ _ h m => ⟨h, m⟩
theorem Fz.trans (a : Fz M H M' H') (b : Fz M' H' M2 H2) : Fz M H M2 H2 := fun c o h m => b c o (a c o h m).1 (a c o h m).2
theorem Sq0 {a : Addr} {xs : List V} (h : SqL K.K (fun _ => none) a xs) (H : Hp) : SqL K.K H a xs := by
  rcases h with (h | ⟨o, h⟩) | h
  · cases h
  · cases h
  · exact .inr h
theorem St0 {a : Addr} {xs : List V} (h : SqT K.K (fun _ => none) a xs) (H : Hp) : SqT K.K H a xs := by
  rcases h with (h | ⟨o, h⟩) | h
  · cases h
  · cases h
  · exact .inr h
theorem FzL.sq {a : Addr} {xs : List V} (h : FzL K H M a xs) : SqL K.K H a xs := by
  rcases h with ⟨h, _⟩ | h
  · exact .inl h
  · exact Sq0 h H
theorem FzT.sq {a : Addr} {xs : List V} (h : FzT K H M a xs) : SqT K.K H a xs := by
  rcases h with ⟨h, _⟩ | h
  · exact .inl h
  · exact St0 h H
theorem Rd.fz {a : Addr} {u : HO} (h : Rd H a u) (m : M a = none) (f : Fz M H M' H') : Rd H' a u ∧ M' a = none := by
  rcases h with h | ⟨o, h⟩
  · exact ⟨.inl (f _ _ h m).1, (f _ _ h m).2⟩
  · exact ⟨.inr ⟨o, (f _ _ h m).1⟩, (f _ _ h m).2⟩
theorem FzL.mono {a : Addr} {xs : List V} (h : FzL K H M a xs) (f : Fz M H M' H') : FzL K H' M' a xs := by
  rcases h with ⟨h, m, n⟩ | h
  · exact .inl ⟨(h.fz m f).1, (h.fz m f).2, n⟩
  · exact .inr h
theorem FzT.mono {a : Addr} {xs : List V} (h : FzT K H M a xs) (f : Fz M H M' H') : FzT K H' M' a xs := by
  rcases h with ⟨h, m, n⟩ | h
  · exact .inl ⟨(h.fz m f).1, (h.fz m f).2, n⟩
  · exact .inr h
mutual
theorem RepD.mono (f : Fz M H M' H') : ∀ {d : D} {v : V}, RepD K H M d v → RepD K H' M' d v
  | .non, _, h => by unfold RepD at h ⊢; exact h
  | .bl _, _, h => by unfold RepD at h ⊢; exact h
  | .int _, _, h => by unfold RepD at h ⊢; exact h
  | .str _, _, h => by unfold RepD at h ⊢; exact h
  | .ref _, _, h => by unfold RepD at h ⊢; exact h
  | .ty _, _, h => by unfold RepD at h ⊢; exact h
  | .tup ds, _, h => by
    unfold RepD at h ⊢
    obtain ⟨a, xs, e, h1, h2⟩ := h
    exact ⟨a, xs, e, h1.mono f, RepDs.mono f h2⟩
  | .lst ds, _, h => by
    unfold RepD at h ⊢
    obtain ⟨a, xs, e, h1, h2⟩ := h
    exact ⟨a, xs, e, h1.mono f, RepDs.mono f h2⟩
theorem RepDs.mono (f : Fz M H M' H') : ∀ {ds : List D} {vs : List V}, RepDs K H M ds vs → RepDs K H' M' ds vs
  | [], _, h => by unfold RepDs at h ⊢; exact h
  | d :: ds, _, h => by
    unfold RepDs at h ⊢
    obtain ⟨x, r, e, h1, h2⟩ := h
    exact ⟨x, r, e, RepD.mono f h1, RepDs.mono f h2⟩
end
/-- fewer changing things -/
theorem Fz.less (h : ∀ a, M a = none → M' a = none) : Fz M H M' H := fun a o e m => ⟨e, h a m⟩
theorem RepDs.length : ∀ {ds : List D} {vs : List V}, RepDs K H M ds vs → ds.length = vs.length
  | [], _, h => by unfold RepDs at h; subst h; rfl
  | d :: ds, _, h => by
    unfold RepDs at h
    obtain ⟨x, r, e, _, h2⟩ := h
    rw [e, List.length_cons, List.length_cons, RepDs.length h2]
theorem RepDs.get : ∀ {ds : List D} {vs : List V} {i : Nat} {d : D}, RepDs K H M ds vs → ds[i]? = some d → ∃ v, vs[i]? = some v ∧ RepD K H M d v
  | [], _, _, _, _, e => by simp at e
  | d :: ds, _, 0, d', h, e => by
    unfold RepDs at h
    obtain ⟨x, r, e1, h1, h2⟩ := h
    simp at e; subst e; subst e1
    exact ⟨x, rfl, h1⟩
  | d :: ds, _, i + 1, d', h, e => by
    unfold RepDs at h
    obtain ⟨x, r, e1, h1, h2⟩ := h
    subst e1
    obtain ⟨v, q1, q2⟩ := RepDs.get (i := i) h2 (by simpa using e)
    exact ⟨v, by simpa using q1, q2⟩
theorem RepDs.get' : ∀ {ds : List D} {vs : List V} {i : Nat} {v : V}, RepDs K H M ds vs → vs[i]? = some v → ∃ d, ds[i]? = some d ∧ RepD K H M d v := fun {ds vs i v} h e => by
  have hl := h.length
  have hi : i < vs.length := (List.getElem?_eq_some_iff.mp e).1
  have : ds[i]? = some (ds[i]'(by omega)) := List.getElem?_eq_getElem (by omega)
  obtain ⟨v', q1, q2⟩ := h.get this
  rw [e] at q1
  cases q1
  exact ⟨_, this, q2⟩
theorem RepDs.nil : RepDs K H M [] [] := by unfold RepDs; rfl
theorem RepDs.cons {d : D} {ds : List D} {v : V} {vs : List V} (h1 : RepD K H M d v) (h2 : RepDs K H M ds vs) : RepDs K H M (d :: ds) (v :: vs) := by
  unfold RepDs; exact ⟨v, vs, rfl, h1, h2⟩
theorem RepDs.append : ∀ {ds es : List D} {vs us : List V}, RepDs K H M ds vs → RepDs K H M es us → RepDs K H M (ds ++ es) (vs ++ us)
  | [], _, _, _, h, g => by unfold RepDs at h; rw [h]; exact g
  | d :: ds, es, _, us, h, g => by
    unfold RepDs at h
    obtain ⟨x, r, e, h1, h2⟩ := h
    rw [e]
    exact .cons h1 (RepDs.append h2 g)
theorem RepDs.take : ∀ {ds : List D} {vs : List V} (n : Nat), RepDs K H M ds vs → RepDs K H M (ds.take n) (vs.take n)
  | _, _, 0, _ => by simp; exact .nil
  | [], _, n + 1, h => by unfold RepDs at h; rw [h]; exact .nil
  | d :: ds, _, n + 1, h => by
    unfold RepDs at h
    obtain ⟨x, r, e, h1, h2⟩ := h
    rw [e]
    exact .cons h1 (RepDs.take n h2)
theorem RepDs.drop : ∀ {ds : List D} {vs : List V} (n : Nat), RepDs K H M ds vs → RepDs K H M (ds.drop n) (vs.drop n)
  | _, _, 0, h => h
  | [], _, n + 1, h => by unfold RepDs at h; rw [h]; exact .nil
  | d :: ds, _, n + 1, h => by
    unfold RepDs at h
    obtain ⟨x, r, e, h1, h2⟩ := h
    rw [e]
    exact RepDs.drop n h2
theorem RepDs.set : ∀ {ds : List D} {vs : List V} {d : D} {v : V} (i : Nat), RepDs K H M ds vs → RepD K H M d v → RepDs K H M (ds.set i d) (vs.set i v)
  | [], _, _, _, _, h, _ => by unfold RepDs at h; rw [h]; exact .nil
  | d :: ds, _, _, _, 0, h, g => by
    unfold RepDs at h
    obtain ⟨x, r, e, h1, h2⟩ := h
    rw [e]
    exact .cons g h2
  | d :: ds, _, _, _, i + 1, h, g => by
    unfold RepDs at h
    obtain ⟨x, r, e, h1, h2⟩ := h
    rw [e]
    exact .cons h1 (RepDs.set i h2 g)
theorem RepH.free {a : Addr} (h : RepH K H M) (e : H a = none) : M a = none := by
  cases q : M a with
  | none => rfl
  | some o =>
    obtain ⟨o', e', _⟩ := h.at_ a o q
    rw [e] at e'; cases e'
/-- a new thing that will not change -/
theorem fz_new {p : Addr} {o : HO} (hp : H p = none) : Fz M H M (upd H p o) := fun a u e m => ⟨by rw [upd_ne (ne_of_none e hp)]; exact e, m⟩
theorem RepO.mono {o : OD} {u : HO} (f : Fz M H M' H') (h : RepO K H M o u) : RepO K H' M' o u := by
  cases o with
  | lst ds =>
    obtain ⟨xs, e, r⟩ := h
    exact ⟨xs, e, r.mono f⟩
theorem RepH.new {p : Addr} {o : HO} (h : RepH K H M) (hp : H p = none) : RepH K (upd H p o) M := ⟨fun a u e => by
  obtain ⟨o', e', r⟩ := h.at_ a u e
  exact ⟨o', by rw [upd_ne (ne_of_none e' hp)]; exact e', r.mono (fz_new hp)⟩, fun a ha => by
  obtain ⟨⟨o', e'⟩, m'⟩ := h.fb a ha
  exact ⟨⟨o', by rw [upd_ne (ne_of_none e' hp)]; exact e'⟩, m'⟩⟩
theorem RepH.nf {p : Addr} (h : RepH K H M) (hp : H p = none) : ¬ K.F p := fun z => by
  obtain ⟨⟨o, e⟩, _⟩ := h.fb p z
  rw [hp] at e; cases e
theorem RepH.nfM {p : Addr} {d : OD} (h : RepH K H M) (hp : M p = some d) : ¬ K.F p := fun z => by
  rw [(h.fb p z).2] at hp; cases hp
/-- a new thing that may change -/
theorem fz_newM {p : Addr} {o : HO} {d : OD} (hp : H p = none) (hm : M p = none) : Fz M H (updD M p d) (upd H p o) := fun a u e m =>
  ⟨by rw [upd_ne (ne_of_none e hp)]; exact e, by rw [updD_ne (ne_of_none e hp)]; exact m⟩
theorem RepH.newM {p : Addr} {o : HO} {d : OD} (h : RepH K H M) (hp : H p = none) (r : RepO K H M d o) : RepH K (upd H p o) (updD M p d) := ⟨fun a u e => by
  have hm := h.free hp
  by_cases q : a = p
  · subst q
    rw [updD_same] at e; cases e
    exact ⟨o, upd_same, r.mono (fz_newM hp hm)⟩
  · rw [updD_ne q] at e
    obtain ⟨o', e', r'⟩ := h.at_ a u e
    exact ⟨o', by rw [upd_ne q]; exact e', r'.mono (fz_newM hp hm)⟩, fun a ha => by
  obtain ⟨⟨o', e'⟩, m'⟩ := h.fb a ha
  have q := ne_of_none e' hp
  exact ⟨⟨o', by rw [upd_ne q]; exact e'⟩, by rw [updD_ne q]; exact m'⟩⟩
/-- a changing thing changes -/
theorem fz_write {p : Addr} {o : HO} {d d' : OD} (hm : M p = some d) : Fz M H (updD M p d') (upd H p o) := fun a u e m => by
  have q : a ≠ p := fun z => by rw [z, hm] at m; cases m
  exact ⟨by rw [upd_ne q]; exact e, by rw [updD_ne q]; exact m⟩
theorem RepH.write {p : Addr} {o : HO} {d d' : OD} (h : RepH K H M) (hm : M p = some d) (r : RepO K H M d' o) : RepH K (upd H p o) (updD M p d') := ⟨fun a u e => by
  by_cases q : a = p
  · subst q
    rw [updD_same] at e; cases e
    exact ⟨o, upd_same, r.mono (fz_write hm)⟩
  · rw [updD_ne q] at e
    obtain ⟨o', e', r'⟩ := h.at_ a u e
    exact ⟨o', by rw [upd_ne q]; exact e', r'.mono (fz_write hm)⟩, fun a ha => by
  obtain ⟨⟨o', e'⟩, m'⟩ := h.fb a ha
  have q : a ≠ p := fun z => by rw [z, hm] at m'; cases m'
  exact ⟨⟨o', by rw [upd_ne q]; exact e'⟩, by rw [updD_ne q]; exact m'⟩⟩
/-- a changing list is frozen -/
theorem fz_del {p : Addr} : Fz M H (delD M p) H := fun a u e m => ⟨e, by unfold delD; split <;> first | rfl | exact m⟩
theorem RepH.del {p : Addr} (h : RepH K H M) : RepH K H (delD M p) := ⟨fun a u e => by
  have q : a ≠ p := fun z => by rw [z, delD_same] at e; cases e
  rw [delD_ne q] at e
  obtain ⟨o', e', r'⟩ := h.at_ a u e
  exact ⟨o', e', r'.mono fz_del⟩, fun a ha => ⟨(h.fb a ha).1, by unfold delD; split <;> first | rfl | exact (h.fb a ha).2⟩⟩
theorem RepD.frz {p : Addr} {ds : List D} (h : RepH K H M) (e : M p = some (.lst ds)) : RepD K H (delD M p) (.lst ds) (.ref p) := by
  obtain ⟨o', e', xs, rfl, r⟩ := h.at_ p _ e
  unfold RepD
  exact ⟨p, xs, rfl, .inl ⟨.inl e', delD_same, h.nfM e⟩, r.mono fz_del⟩
end

/-! ## States -/
abbrev SD := List (Option D)
abbrev KD := D → HpD → Prop
abbrev TDE := SD → HpD → KD → Prop
abbrev TDT := SD → HpD → (Bool → HpD → Prop) → Prop
abbrev TDA := SD → HpD → (List D → HpD → Prop) → Prop
structure EndsD where
  nx : SD → HpD → Prop
  rt : KD
  bk : SD → HpD → Prop := fun _ _ => False
  ct : SD → HpD → Prop := fun _ _ => False
abbrev TSD := EndsD → SD → HpD → Prop

structure Rel (K : KF) (σD : SD) (M : HpD) (σ : St) (H : Hp) : Prop where
  len : σD.length = σ.length
  st : ∀ (i : Nat) d, σD[i]? = some (some d) → ∃ v, σ[i]? = some (some v) ∧ RepD K H M d v
  hp : RepH K H M
section
variable {K : KF} {H H' : Hp} {M M' : HpD} {σ : St} {σD : SD}
theorem Rel.mono (r : Rel K σD M σ H) (f : Fz M H M' H') (h : RepH K H' M') : Rel K σD M' σ H' :=
  ⟨r.len, fun i d e => let ⟨v, e1, e2⟩ := r.st i d e; ⟨v, e1, e2.mono f⟩, h⟩
theorem Rel.set (r : Rel K σD M σ H) {d : D} {v : V} (i : Nat) (h : RepD K H M d v) : Rel K (σD.set i (some d)) M (σ.set i (some v)) H := by
  refine ⟨by simp [r.len], fun j e q => ?_, r.hp⟩
  by_cases hj : i = j
  · subst hj
    have hi : i < σD.length := by
      have := (List.getElem?_eq_some_iff.mp q).1
      simpa using this
    rw [List.getElem?_set_self hi] at q
    cases q
    exact ⟨v, by rw [List.getElem?_set_self (by rw [← r.len]; exact hi)], h⟩
  · rw [List.getElem?_set_ne hj] at q
    obtain ⟨u, e1, e2⟩ := r.st j e q
    exact ⟨u, by rw [List.getElem?_set_ne hj]; exact e1, e2⟩
theorem Rel.pad (r : Rel K σD M σ H) (n : Nat) : Rel K (List.replicate n none ++ σD) M (List.replicate n none ++ σ) H := by
  refine ⟨by simp [r.len], fun j d q => ?_, r.hp⟩
  by_cases hj : j < n
  · rw [List.getElem?_append_left (by simpa using hj), List.getElem?_replicate, if_pos hj] at q
    cases q
  · rw [List.getElem?_append_right (by simpa using hj), List.length_replicate] at q
    obtain ⟨u, e1, e2⟩ := r.st _ d q
    exact ⟨u, by rw [List.getElem?_append_right (by simpa using hj), List.length_replicate]; exact e1, e2⟩
end

/-! ## Lifting -/
def PostE (K : KF) (M : HpD) (H : Hp) (QD : KD) (Q : VK) : Prop := ∀ d M' v H', Fz M H M' H' → RepH K H' M' → RepD K H' M' d v → QD d M' → Q v H'
def PostT (K : KF) (M : HpD) (H : Hp) (QD : Bool → HpD → Prop) (Q : Bool → Hp → Prop) : Prop := ∀ b M' H', Fz M H M' H' → RepH K H' M' → QD b M' → Q b H'
def PostA (K : KF) (M : HpD) (H : Hp) (QD : List D → HpD → Prop) (Q : List V → Hp → Prop) : Prop := ∀ ds M' vs H', Fz M H M' H' → RepH K H' M' → RepDs K H' M' ds vs → QD ds M' → Q vs H'
structure PostS (K : KF) (M : HpD) (H : Hp) (DD : EndsD) (D' : Ends) : Prop where
  nx : ∀ σD' M' σ' H', Fz M H M' H' → Rel K σD' M' σ' H' → DD.nx σD' M' → D'.nx σ' H'
  rt : PostE K M H DD.rt D'.rt
  bk : ∀ σD' M' σ' H', Fz M H M' H' → Rel K σD' M' σ' H' → DD.bk σD' M' → D'.bk σ' H'
  ct : ∀ σD' M' σ' H', Fz M H M' H' → Rel K σD' M' σ' H' → DD.ct σD' M' → D'.ct σ' H'
def LiftE (K : PySem.W.Frag) (t : TDE) : TE := fun σ H Q => ∃ F σD M QD, Rel ⟨K, F⟩ σD M σ H ∧ t σD M QD ∧ PostE ⟨K, F⟩ M H QD Q
def LiftT (K : PySem.W.Frag) (t : TDT) : TT := fun σ H Q => ∃ F σD M QD, Rel ⟨K, F⟩ σD M σ H ∧ t σD M QD ∧ PostT ⟨K, F⟩ M H QD Q
def LiftA (K : PySem.W.Frag) (t : TDA) : TA := fun σ H Q => ∃ F σD M QD, Rel ⟨K, F⟩ σD M σ H ∧ t σD M QD ∧ PostA ⟨K, F⟩ M H QD Q
def LiftS (K : PySem.W.Frag) (t : TSD) : TS := fun D' σ H => ∃ F σD M DD, Rel ⟨K, F⟩ σD M σ H ∧ t DD σD M ∧ PostS ⟨K, F⟩ M H DD D'
section
variable {K : KF} {H H' : Hp} {M M' : HpD}
theorem PostE.mono {QD : KD} {Q : VK} (p : PostE K M H QD Q) (f : Fz M H M' H') : PostE K M' H' QD Q := fun d M2 v H2 f2 r q h => p d M2 v H2 (f.trans f2) r q h
theorem PostT.mono {QD : Bool → HpD → Prop} {Q : Bool → Hp → Prop} (p : PostT K M H QD Q) (f : Fz M H M' H') : PostT K M' H' QD Q := fun b M2 H2 f2 r h => p b M2 H2 (f.trans f2) r h
theorem PostA.mono {QD : List D → HpD → Prop} {Q : List V → Hp → Prop} (p : PostA K M H QD Q) (f : Fz M H M' H') : PostA K M' H' QD Q := fun d M2 v H2 f2 r q h => p d M2 v H2 (f.trans f2) r q h
theorem PostS.mono {DD : EndsD} {D' : Ends} (p : PostS K M H DD D') (f : Fz M H M' H') : PostS K M' H' DD D' :=
  ⟨fun a b c d f2 r h => p.nx a b c d (f.trans f2) r h, p.rt.mono f, fun a b c d f2 r h => p.bk a b c d (f.trans f2) r h, fun a b c d f2 r h => p.ct a b c d (f.trans f2) r h⟩
end
theorem PE.wk {X : Cx} {e : Expr} {t t' : TE} (h : PE X e t) (i : ∀ σ H Q, t' σ H Q → t σ H Q) : PE X e t' := fun pins s σ H Q I q => h pins s σ H Q I (i σ H Q q)
theorem PT.wk {X : Cx} {e : Expr} {t t' : TT} (h : PT X e t) (i : ∀ σ H Q, t' σ H Q → t σ H Q) : PT X e t' := fun pins s σ H Q I q => h pins s σ H Q I (i σ H Q q)
theorem PW.wk {X : Cx} {e : Expr} {t t' : TT} (h : PW X e t) (i : ∀ σ H Q, t' σ H Q → t σ H Q) : PW X e t' := fun wh pins s σ H Q I q => h wh pins s σ H Q I (i σ H Q q)
theorem PIfs.wk {X : Cx} {e : List Expr} {t t' : TT} (h : PIfs X e t) (i : ∀ σ H Q, t' σ H Q → t σ H Q) : PIfs X e t' := fun pins s σ H Q I q => h pins s σ H Q I (i σ H Q q)
theorem PA.wk {X : Cx} {e : List Expr} {t t' : TA} (h : PA X e t) (i : ∀ σ H Q, t' σ H Q → t σ H Q) : PA X e t' := fun pos pins s σ H Q I q => h pos pins s σ H Q I (i σ H Q q)
theorem PS.wk {X : Cx} {e : Stmt} {t t' : TS} (h : PS X e t) (i : ∀ D' σ H, t' D' σ H → t D' σ H) : PS X e t' := fun pins s σ H D' I q => h pins s σ H D' I (i D' σ H q)
theorem PSs.wk {X : Cx} {e : List Stmt} {t t' : TS} (h : PSs X e t) (i : ∀ D' σ H, t' D' σ H → t D' σ H) : PSs X e t' := fun pins s σ H D' I q => h pins s σ H D' I (i D' σ H q)
abbrev ED (X : Cx) (e : Expr) (t : TDE) : Prop := PE X e (LiftE X.K t)
abbrev TD (X : Cx) (e : Expr) (t : TDT) : Prop := PT X e (LiftT X.K t)
abbrev WD (X : Cx) (e : Expr) (t : TDT) : Prop := PW X e (LiftT X.K t)
abbrev FD (X : Cx) (e : List Expr) (t : TDT) : Prop := PIfs X e (LiftT X.K t)
abbrev AD (X : Cx) (e : List Expr) (t : TDA) : Prop := PA X e (LiftA X.K t)
abbrev StD (X : Cx) (st : Stmt) (t : TSD) : Prop := PS X st (LiftS X.K t)
abbrev SsD (X : Cx) (st : List Stmt) (t : TSD) : Prop := PSs X st (LiftS X.K t)
end L2

namespace L2
open PySem PySem.Spec PyProof.Rows

section
variable {K : PySem.W.Frag} {F : Addr → Prop} {σ : St} {H : Hp} {σD : SD} {M : HpD}
theorem lE {ta : TDE} {QD : KD} {R : VK} (rel : Rel ⟨K, F⟩ σD M σ H) (h : ta σD M QD) (k : ∀ d M1 v H1, Fz M H M1 H1 → Rel ⟨K, F⟩ σD M1 σ H1 → RepD ⟨K, F⟩ H1 M1 d v → QD d M1 → R v H1) : LiftE K ta σ H R :=
  ⟨F, σD, M, QD, rel, h, fun d M1 v H1 f rh rd q => k d M1 v H1 f (rel.mono f rh) rd q⟩
theorem lT {ta : TDT} {QD : Bool → HpD → Prop} {R : Bool → Hp → Prop} (rel : Rel ⟨K, F⟩ σD M σ H) (h : ta σD M QD) (k : ∀ b M1 H1, Fz M H M1 H1 → Rel ⟨K, F⟩ σD M1 σ H1 → QD b M1 → R b H1) : LiftT K ta σ H R :=
  ⟨F, σD, M, QD, rel, h, fun b M1 H1 f rh q => k b M1 H1 f (rel.mono f rh) q⟩
theorem lA {ta : TDA} {QD : List D → HpD → Prop} {R : List V → Hp → Prop} (rel : Rel ⟨K, F⟩ σD M σ H) (h : ta σD M QD) (k : ∀ d M1 v H1, Fz M H M1 H1 → Rel ⟨K, F⟩ σD M1 σ H1 → RepDs ⟨K, F⟩ H1 M1 d v → QD d M1 → R v H1) : LiftA K ta σ H R :=
  ⟨F, σD, M, QD, rel, h, fun d M1 v H1 f rh rd q => k d M1 v H1 f (rel.mono f rh) rd q⟩
end

/-! ### names, constants -/
@[irreducible] def tVarD (i : Nat) : TDE := fun σ M Q => ∃ d, σ[i]? = some (some d) ∧ Q d M
@[irreducible] def tCD (d : D) : TDE := fun _ M Q => Q d M
theorem rd_var {i : Nat} {σ : SD} {M : HpD} {Q : KD} {d : D} (h : σ[i]? = some (some d)) (q : Q d M) : tVarD i σ M Q := by unfold tVarD; exact ⟨d, h, q⟩
theorem rd_c {σ : SD} {M : HpD} {Q : KD} {d : D} (q : Q d M) : tCD d σ M Q := by unfold tCD; exact q
section
variable {X : Cx} {pos : Pos}
theorem ed_var (i : Nat) {x : Str} (hN : X.N[i]? = some x) (hv : Vis X.env.scope x) (hd : (x == ("__debug__" : Str)) = false := by decide) (hcd : (x == ("__classdict__" : Str)) = false := by decide) : ED X (.Name x pos) (tVarD i) := by
  refine (pe_var hN hv hd hcd).wk fun σ H Q ⟨F, σD, M, QD, rel, h, p⟩ => ?_
  unfold tVarD at h
  obtain ⟨d, e, q⟩ := h
  obtain ⟨v, e1, e2⟩ := rel.st i d e
  exact ⟨v, e1, p d M v H .refl rel.hp e2 q⟩
theorem ed_c {e : Expr} {v : V} {d : D} (h : PE X e (tC v)) (r : ∀ F H M, RepD ⟨X.K, F⟩ H M d v) : ED X e (tCD d) := by
  refine h.wk fun σ H Q ⟨F, σD, M, QD, rel, h, p⟩ => ?_
  unfold tCD at h
  exact p d M v H .refl rel.hp (r F H M) h
theorem ed_int {i j} : ED X (.Constant (.int i) j pos) (tCD (.int i)) := ed_c pe_int fun _ _ _ => by unfold RepD; rfl
theorem ed_bl {b j} : ED X (.Constant (.bool b) j pos) (tCD (.bl b)) := ed_c pe_bl fun _ _ _ => by unfold RepD; rfl
theorem ed_non {j} : ED X (.Constant .none j pos) (tCD .non) := ed_c pe_non fun _ _ _ => by unfold RepD; rfl
theorem ed_str {x j} : ED X (.Constant (.str x) j pos) (tCD (.str x)) := ed_c pe_str fun _ _ _ => by unfold RepD; rfl
theorem ed_globI {x : Str} {i : Int} {t : Tok} (hg : Gl X x) (hm : X.mg x = some (.int i t)) (hd : (x == ("__debug__" : Str)) = false := by decide) : ED X (.Name x pos) (tCD (.int i)) :=
  ed_c (pe_glob (v := .int i) hg hm ⟨t, rfl⟩ hd) fun _ _ _ => by unfold RepD; rfl
theorem ed_globS {x : Str} {i : Str} {t : Tok} (hg : Gl X x) (hm : X.mg x = some (.str i t)) (hd : (x == ("__debug__" : Str)) = false := by decide) : ED X (.Name x pos) (tCD (.str i)) :=
  ed_c (pe_glob (v := .str i) hg hm ⟨t, rfl⟩ hd) fun _ _ _ => by unfold RepD; rfl
theorem ed_bltT {x : Str} {n : String} (hg : Gl X x) (hm : X.mg x = none) (hv : bootBuiltins x = some (.type n)) (hn : x ≠ "__name__" := by decide) (hd : (x == ("__debug__" : Str)) = false := by decide) : ED X (.Name x pos) (tCD (.ty n)) :=
  ed_c (pe_bltn (v := .ty n) hg hm hv rfl hn hd) fun _ _ _ => by unfold RepD; rfl
end

/-! ### operations of two values -/
abbrev RD2 := D → D → HpD → KD → Prop
def LiftR (K : PySem.W.Frag) (r : RD2) : R2 := fun x y H Q => ∃ F d e M QD, RepD ⟨K, F⟩ H M d x ∧ RepD ⟨K, F⟩ H M e y ∧ RepH ⟨K, F⟩ H M ∧ r d e M QD ∧ PostE ⟨K, F⟩ M H QD Q
@[irreducible] def tOpD (r : RD2) (ta tb : TDE) : TDE := fun σ M Q => ta σ M fun x M1 => tb σ M1 fun y M2 => r x y M2 Q
theorem rd_op {r : RD2} {ta tb : TDE} {σ : SD} {M : HpD} {Q : KD} (h : ta σ M fun x M1 => tb σ M1 fun y M2 => r x y M2 Q) : tOpD r ta tb σ M Q := by unfold tOpD; exact h
theorem lift_op {K : PySem.W.Frag} {r : RD2} {ta tb : TDE} {σ : St} {H : Hp} {Q : VK} (h : LiftE K (tOpD r ta tb) σ H Q) : tOp (LiftR K r) (LiftE K ta) (LiftE K tb) σ H Q := by
  obtain ⟨F, σD, M, QD, rel, h, p⟩ := h
  unfold tOpD at h
  refine lE rel h fun d M1 v H1 f1 rel1 r1 h1 => ?_
  refine lE rel1 h1 fun e M2 u H2 f2 rel2 r2 h2 => ?_
  exact ⟨F, d, e, M2, QD, r1.mono f2, r2, rel2.hp, h2, p.mono (f1.trans f2)⟩
theorem OpR.wk {X : Cx} {f : Value → Value → Sem Value} {r r' : R2} (h : OpR X f r) (i : ∀ x y H Q, r' x y H Q → r x y H Q) : OpR X f r' := fun pins s σ H x y v u Q I rx ry q => h pins s σ H x y v u Q I rx ry (i _ _ _ _ q)
@[irreducible] def rID (C : Int → Int → Prop) (g : Int → Int → D) : RD2 := fun x y M Q => ∃ i j, x = .int i ∧ y = .int j ∧ C i j ∧ Q (g i j) M
theorem rd_rI {C : Int → Int → Prop} {g : Int → Int → D} {i j : Int} {M : HpD} {Q : KD} (c : C i j) (q : Q (g i j) M) : rID C g (.int i) (.int j) M Q := by unfold rID; exact ⟨i, j, rfl, rfl, c, q⟩
@[irreducible] def rIN (g : Int → Int → D) : RD2 := fun x y M Q => ∃ i j, x = .int i ∧ y = .int j ∧ Q (g i j) M
theorem rd_rN {g : Int → Int → D} {i j : Int} {M : HpD} {Q : KD} (q : Q (g i j) M) : rIN g (.int i) (.int j) M Q := by unfold rIN; exact ⟨i, j, rfl, rfl, q⟩
section
variable {X : Cx} {a b : Expr} {ta tb : TDE} {pos : Pos}
theorem ed_op {op : Operator} {r : RD2} (ho : OpR X (binaryOp op) (LiftR X.K r)) (ha : ED X a ta) (hb : ED X b tb) : ED X (.BinOp a op b pos) (tOpD r ta tb) := (pe_op ho ha hb).wk fun _ _ _ h => lift_op h
theorem lift_rI {f : Value → Value → Sem Value} {C : Int → Int → Prop} {g : Int → Int → V} {gD : Int → Int → D} (h : OpR X f (rI C g)) (hg : ∀ i j F H M, RepD ⟨X.K, F⟩ H M (gD i j) (g i j)) : OpR X f (LiftR X.K (rID C gD)) := by
  refine h.wk fun x y H Q ⟨F, d, e, M, QD, r1, r2, rh, hq, p⟩ => ?_
  unfold rID at hq
  obtain ⟨i, j, rfl, rfl, c, q⟩ := hq
  unfold RepD at r1 r2
  exact ⟨i, j, r1, r2, c, p _ M _ H .refl rh (hg i j F H M) q⟩
theorem lift_rN {f : Value → Value → Sem Value} {g : Int → Int → V} {gD : Int → Int → D} (h : OpR X f (rI0 g)) (hg : ∀ i j F H M, RepD ⟨X.K, F⟩ H M (gD i j) (g i j)) : OpR X f (LiftR X.K (rIN gD)) := by
  refine h.wk fun x y H Q ⟨F, d, e, M, QD, r1, r2, rh, hq, p⟩ => ?_
  unfold rIN at hq
  obtain ⟨i, j, rfl, rfl, q⟩ := hq
  unfold RepD at r1 r2
  exact ⟨i, j, r1, r2, p _ M _ H .refl rh (hg i j F H M) q⟩
theorem od_add : OpR X (binaryOp .Add) (LiftR X.K (rIN fun i j => .int (i + j))) := lift_rN op_add fun _ _ _ _ _ => by unfold RepD; rfl
theorem od_sub : OpR X (binaryOp .Sub) (LiftR X.K (rIN fun i j => .int (i - j))) := lift_rN op_sub fun _ _ _ _ _ => by unfold RepD; rfl
theorem od_mul : OpR X (binaryOp .Mult) (LiftR X.K (rID CMul fun i j => .int (i * j))) := lift_rI op_mul fun _ _ _ _ _ => by unfold RepD; rfl
theorem od_fdiv : OpR X (binaryOp .FloorDiv) (LiftR X.K (rID CDiv fun i j => .int (i / j))) := lift_rI op_fdiv fun _ _ _ _ _ => by unfold RepD; rfl
theorem od_mod : OpR X (binaryOp .Mod) (LiftR X.K (rID (fun _ j => 0 < j) fun i j => .int (i % j))) := lift_rI op_mod fun _ _ _ _ _ => by unfold RepD; rfl
theorem od_pow : OpR X (binaryOp .Pow) (LiftR X.K (rID CPow fun i j => .int (i ^ j.toNat))) := lift_rI op_pow fun _ _ _ _ _ => by unfold RepD; rfl
theorem od_lt : OpR X (compareOp .Lt) (LiftR X.K (rIN fun i j => .bl (decide (i < j)))) := lift_rN op_lt fun _ _ _ _ _ => by unfold RepD; rfl
theorem od_le : OpR X (compareOp .LtE) (LiftR X.K (rIN fun i j => .bl (decide (i ≤ j)))) := lift_rN op_le fun _ _ _ _ _ => by unfold RepD; rfl
theorem od_gt : OpR X (compareOp .Gt) (LiftR X.K (rIN fun i j => .bl (decide (j < i)))) := lift_rN op_gt fun _ _ _ _ _ => by unfold RepD; rfl
theorem od_ge : OpR X (compareOp .GtE) (LiftR X.K (rIN fun i j => .bl (decide (j ≤ i)))) := lift_rN op_ge fun _ _ _ _ _ => by unfold RepD; rfl
/-- ints, bools, texts compared -/
@[irreducible] def rEqD (neg : Bool) : RD2 := fun x y M Q => (∃ i j, x = .int i ∧ y = .int j ∧ Q (.bl (neg ^^ decide (i = j))) M) ∨ (∃ i j, x = .bl i ∧ y = .bl j ∧ Q (.bl (neg ^^ decide (i = j))) M) ∨ (∃ i j, x = .str i ∧ y = .str j ∧ Q (.bl (neg ^^ decide (i = j))) M)
theorem rd_eqI {neg : Bool} {i j : Int} {M : HpD} {Q : KD} (q : Q (.bl (neg ^^ decide (i = j))) M) : rEqD neg (.int i) (.int j) M Q := by unfold rEqD; exact .inl ⟨i, j, rfl, rfl, q⟩
theorem rd_eqB {neg : Bool} {i j : Bool} {M : HpD} {Q : KD} (q : Q (.bl (neg ^^ decide (i = j))) M) : rEqD neg (.bl i) (.bl j) M Q := by unfold rEqD; exact .inr (.inl ⟨i, j, rfl, rfl, q⟩)
theorem rd_eqS {neg : Bool} {i j : Str} {M : HpD} {Q : KD} (q : Q (.bl (neg ^^ decide (i = j))) M) : rEqD neg (.str i) (.str j) M Q := by unfold rEqD; exact .inr (.inr ⟨i, j, rfl, rfl, q⟩)
theorem decV_int {i j : Int} : decide (V.int i = V.int j) = decide (i = j) := by
  by_cases h : i = j
  · subst h; simp
  · have : V.int i ≠ V.int j := fun e => h (by injection e)
    simp [h, this]
theorem decV_bl {i j : Bool} : decide (V.bl i = V.bl j) = decide (i = j) := by cases i <;> cases j <;> rfl
theorem decV_str {i j : Str} : decide (V.str i = V.str j) = decide (i = j) := by
  by_cases h : i = j
  · subst h; simp
  · have : V.str i ≠ V.str j := fun e => h (by injection e)
    simp [h, this]
theorem od_eq : OpR X (compareOp .Eq) (LiftR X.K (rEqD false)) := by
  refine op_eq.wk fun x y H Q ⟨F, d, e, M, QD, r1, r2, rh, hq, p⟩ => ?_
  unfold rEqD at hq
  rcases hq with ⟨i, j, rfl, rfl, q⟩ | ⟨i, j, rfl, rfl, q⟩ | ⟨i, j, rfl, rfl, q⟩ <;> unfold RepD at r1 r2 <;> subst r1 r2
  · exact ⟨rfl, by rw [decV_int]; exact p _ M _ H .refl rh (by unfold RepD; simp) q⟩
  · exact ⟨rfl, by rw [decV_bl]; exact p _ M _ H .refl rh (by unfold RepD; simp) q⟩
  · exact ⟨rfl, by rw [decV_str]; exact p _ M _ H .refl rh (by unfold RepD; simp) q⟩
theorem od_ne : OpR X (compareOp .NotEq) (LiftR X.K (rEqD true)) := by
  refine op_ne.wk fun x y H Q ⟨F, d, e, M, QD, r1, r2, rh, hq, p⟩ => ?_
  unfold rEqD at hq
  rcases hq with ⟨i, j, rfl, rfl, q⟩ | ⟨i, j, rfl, rfl, q⟩ | ⟨i, j, rfl, rfl, q⟩ <;> unfold RepD at r1 r2 <;> subst r1 r2
  · exact ⟨rfl, by rw [decV_int]; exact p _ M _ H .refl rh (by unfold RepD; simp) q⟩
  · exact ⟨rfl, by rw [decV_bl]; exact p _ M _ H .refl rh (by unfold RepD; simp) q⟩
  · exact ⟨rfl, by rw [decV_str]; exact p _ M _ H .refl rh (by unfold RepD; simp) q⟩
theorem ed_cmp {op : CmpOp} {r : RD2} (ho : OpR X (compareOp op) (LiftR X.K r)) (ha : ED X a ta) (hb : ED X b tb) (hm : behindInMarks op b = false := by first | exact nomark _ | rfl) : ED X (.Compare a [op] [b] pos) (tOpD r ta tb) :=
  (pe_cmpR ho ha hb hm).wk fun _ _ _ h => lift_op h
theorem OpD.or {f : Value → Value → Sem Value} {r r' : RD2} (h : OpR X f (LiftR X.K r)) (h' : OpR X f (LiftR X.K r')) : OpR X f (LiftR X.K fun x y M Q => r x y M Q ∨ r' x y M Q) := by
  intro pins s σ H x y v u Q I rx ry q
  obtain ⟨F, d, e, M, QD, r1, r2, rh, hq, p⟩ := q
  rcases hq with hq | hq
  · exact h pins s σ H x y v u Q I rx ry ⟨F, d, e, M, QD, r1, r2, rh, hq, p⟩
  · exact h' pins s σ H x y v u Q I rx ry ⟨F, d, e, M, QD, r1, r2, rh, hq, p⟩
/-! ### tests -/
@[irreducible] def tTestD (t : TDE) : TDT := fun σ M Q => t σ M fun x M' => ∃ k, x = .bl k ∧ Q k M'
theorem rd_test {t : TDE} {σ : SD} {M : HpD} {Q : Bool → HpD → Prop} (h : t σ M fun x M' => ∃ k, x = .bl k ∧ Q k M') : tTestD t σ M Q := by unfold tTestD; exact h
theorem lift_test {K : PySem.W.Frag} {t : TDE} {σ : St} {H : Hp} {Q : Bool → Hp → Prop} (h : LiftT K (tTestD t) σ H Q) : tB (LiftE K t) σ H Q := by
  obtain ⟨F, σD, M, QD, rel, h, p⟩ := h
  unfold tTestD at h
  refine lE rel h fun d M1 v H1 f1 rel1 r1 h1 => ?_
  obtain ⟨k, rfl, q⟩ := h1
  unfold RepD at r1
  exact ⟨k, r1, p k M1 H1 f1 rel1.hp q⟩
theorem td_cmp {op : CmpOp} {r : RD2} (ho : OpR X (compareOp op) (LiftR X.K r)) (ha : ED X a ta) (hb : ED X b tb) (hm : behindInMarks op b = false := by first | exact nomark _ | rfl) : TD X (.Compare a [op] [b] pos) (tTestD (tOpD r ta tb)) := by
  refine (pt_cmpR ho ha hb hm).wk fun σ H Q h => ?_
  obtain ⟨F, σD, M, QD, rel, h, p⟩ := h
  unfold tTestD tOpD at h
  show (tOp (LiftR X.K r) (LiftE X.K ta) (LiftE X.K tb)) σ H fun x H' => ∃ k, x = .bl k ∧ Q k H'
  refine lE rel h fun d M1 v H1 f1 rel1 r1 h1 => ?_
  refine lE rel1 h1 fun e M2 u H2 f2 rel2 r2 h2 => ?_
  exact ⟨F, d, e, M2, _, r1.mono f2, r2, rel2.hp, h2, fun x M3 v3 H3 f3 rh3 r3 ⟨k, e3, q3⟩ => ⟨k, by subst e3; unfold RepD at r3; exact r3, p k M3 H3 ((f1.trans f2).trans f3) rh3 q3⟩⟩
theorem td_val {e : Expr} {t : TDE} (h : ED X e t) (he : ∀ whole, isTrue e X.env whole = (do let v ← whole; standAt e.pos; holding [v] (truthy v)) := by intro _; rfl) : TD X e (tTestD t) := (pt_val h he).wk fun _ _ _ h => lift_test h
/-- truth of any value -/
@[irreducible] def truD : D → HpD → Bool → Prop := fun d M k => match d with
  | .non => k = false
  | .bl b => k = b
  | .int i => k = (i != 0)
  | .str y => y.length ≤ sizeLine ∧ k = ((y.length : Int) != 0)
  | .lst ds => k = !ds.isEmpty
  | .tup ds => k = !ds.isEmpty
  | .ref p => ∃ ds, M p = some (.lst ds) ∧ k = !ds.isEmpty
  | _ => False
@[irreducible] def tTruD (t : TDE) : TDT := fun σ M Q => t σ M fun x M' => ∃ k, truD x M' k ∧ Q k M'
theorem rd_tru {t : TDE} {σ : SD} {M : HpD} {Q : Bool → HpD → Prop} (h : t σ M fun x M' => ∃ k, truD x M' k ∧ Q k M') : tTruD t σ M Q := by unfold tTruD; exact h
theorem isE_of {K : KF} {H : Hp} {M : HpD} {ds : List D} {xs : List V} (r : RepDs K H M ds xs) : (!ds.isEmpty) = !xs.isEmpty := by
  have := r.length
  cases ds <;> cases xs <;> simp_all
theorem td_tru {e : Expr} {t : TDE} (h : ED X e t) (he : ∀ whole, isTrue e X.env whole = (do let v ← whole; standAt e.pos; holding [v] (truthy v)) := by intro _; rfl) : TD X e (tTruD t) := by
  refine (pt_truth h he).wk fun σ H Q h => ?_
  obtain ⟨F, σD, M, QD, rel, h, p⟩ := h
  unfold tTruD at h
  refine lE rel h fun d M1 v H1 f1 rel1 r1 h1 => ?_
  obtain ⟨k, tr, q⟩ := h1
  refine ⟨k, ?_, p k M1 H1 f1 rel1.hp q⟩
  unfold truD at tr
  cases d with
  | non => unfold RepD at r1; subst r1; exact tr
  | bl b => unfold RepD at r1; subst r1; exact tr
  | int b => unfold RepD at r1; subst r1; exact tr
  | str b => unfold RepD at r1; subst r1; exact tr
  | ref a =>
    unfold RepD at r1; subst r1
    obtain ⟨ds, e1, e2⟩ := tr
    obtain ⟨o', e', xs, rfl, r⟩ := rel1.hp.at_ a _ e1
    exact .inl ⟨xs, .inl (.inl e'), by rw [e2]; exact isE_of r⟩
  | ty n => exact False.elim tr
  | tup ds =>
    unfold RepD at r1
    obtain ⟨a, xs, rfl, h1, h2⟩ := r1
    exact .inr (.inl ⟨xs, h1.sq, by rw [show k = _ from tr]; exact isE_of h2⟩)
  | lst ds =>
    unfold RepD at r1
    obtain ⟨a, xs, rfl, h1, h2⟩ := r1
    exact .inl ⟨xs, h1.sq, by rw [show k = _ from tr]; exact isE_of h2⟩
@[irreducible] def tAndD (t u : TDT) : TDT := fun σ M Q => t σ M fun c M1 => if c = true then u σ M1 Q else Q false M1
@[irreducible] def tOrD (t u : TDT) : TDT := fun σ M Q => t σ M fun c M1 => if c = true then Q true M1 else u σ M1 Q
@[irreducible] def tNotD (t : TDT) : TDT := fun σ M Q => t σ M fun c M1 => Q (!c) M1
theorem rd_and {t u : TDT} {σ : SD} {M : HpD} {Q : Bool → HpD → Prop} (h : t σ M fun c M1 => if c = true then u σ M1 Q else Q false M1) : tAndD t u σ M Q := by unfold tAndD; exact h
theorem rd_or {t u : TDT} {σ : SD} {M : HpD} {Q : Bool → HpD → Prop} (h : t σ M fun c M1 => if c = true then Q true M1 else u σ M1 Q) : tOrD t u σ M Q := by unfold tOrD; exact h
theorem rd_not {t : TDT} {σ : SD} {M : HpD} {Q : Bool → HpD → Prop} (h : t σ M fun c M1 => Q (!c) M1) : tNotD t σ M Q := by unfold tNotD; exact h
variable {rest : List Expr} {tA tB' : TDT}
theorem wd_and1 (ha : TD X a tA) : WD X (.BoolOp .And [a] pos) tA := pw_and1 ha
theorem wd_or1 (ha : TD X a tA) : WD X (.BoolOp .Or [a] pos) tA := pw_or1 ha
theorem wd_and (ha : TD X a tA) (hb : WD X (.BoolOp .And (b :: rest) pos) tB') : WD X (.BoolOp .And (a :: b :: rest) pos) (tAndD tA tB') := by
  refine (pw_and ha hb).wk fun σ H Q h => ?_
  obtain ⟨F, σD, M, QD, rel, h, p⟩ := h
  unfold tAndD at h
  refine lT rel h fun c M1 H1 f1 rel1 h1 => ?_
  cases c with
  | true => simp only [if_true] at h1 ⊢; exact lT rel1 h1 fun k M2 H2 f2 rel2 h2 => p k M2 H2 (f1.trans f2) rel2.hp h2
  | false => simp only [Bool.false_eq_true, if_false] at h1 ⊢; exact p _ M1 H1 f1 rel1.hp h1
theorem wd_or (ha : TD X a tA) (hb : WD X (.BoolOp .Or (b :: rest) pos) tB') : WD X (.BoolOp .Or (a :: b :: rest) pos) (tOrD tA tB') := by
  refine (pw_or ha hb).wk fun σ H Q h => ?_
  obtain ⟨F, σD, M, QD, rel, h, p⟩ := h
  unfold tOrD at h
  refine lT rel h fun c M1 H1 f1 rel1 h1 => ?_
  cases c with
  | true => simp only [if_true] at h1 ⊢; exact p _ M1 H1 f1 rel1.hp h1
  | false => simp only [Bool.false_eq_true, if_false] at h1 ⊢; exact lT rel1 h1 fun k M2 H2 f2 rel2 h2 => p k M2 H2 (f1.trans f2) rel2.hp h2
theorem td_w (h : WD X a tA) : TD X a tA := h.pt
theorem td_not (ha : TD X a tA) : TD X (.UnaryOp .Not a pos) (tNotD tA) := by
  refine (pt_not ha).wk fun σ H Q h => ?_
  obtain ⟨F, σD, M, QD, rel, h, p⟩ := h
  unfold tNotD at h
  exact lT rel h fun c M1 H1 f1 rel1 h1 => p _ M1 H1 f1 rel1.hp h1
/-- and, or, not as values (of bools) -/
@[irreducible] def tAndVD (ta tb : TDE) : TDE := fun σ M Q => ta σ M fun x M1 => ∃ c, x = .bl c ∧ if c = true then tb σ M1 Q else Q (.bl false) M1
@[irreducible] def tOrVD (ta tb : TDE) : TDE := fun σ M Q => ta σ M fun x M1 => ∃ c, x = .bl c ∧ if c = true then Q (.bl true) M1 else tb σ M1 Q
@[irreducible] def tNotVD (ta : TDE) : TDE := fun σ M Q => ta σ M fun x M1 => ∃ c, x = .bl c ∧ Q (.bl (!c)) M1
theorem rd_andV {ta tb : TDE} {σ : SD} {M : HpD} {Q : KD} (h : ta σ M fun x M1 => ∃ c, x = .bl c ∧ if c = true then tb σ M1 Q else Q (.bl false) M1) : tAndVD ta tb σ M Q := by unfold tAndVD; exact h
theorem rd_orV {ta tb : TDE} {σ : SD} {M : HpD} {Q : KD} (h : ta σ M fun x M1 => ∃ c, x = .bl c ∧ if c = true then Q (.bl true) M1 else tb σ M1 Q) : tOrVD ta tb σ M Q := by unfold tOrVD; exact h
theorem rd_notV {ta : TDE} {σ : SD} {M : HpD} {Q : KD} (h : ta σ M fun x M1 => ∃ c, x = .bl c ∧ Q (.bl (!c)) M1) : tNotVD ta σ M Q := by unfold tNotVD; exact h
theorem ed_one {op} {t : TDE} (h : ED X a t) : ED X (.BoolOp op [a] pos) t := pe_one h
theorem ed_and (ha : ED X a ta) (hb : ED X (.BoolOp .And (b :: rest) pos) tb) : ED X (.BoolOp .And (a :: b :: rest) pos) (tAndVD ta tb) := by
  refine (pe_and ha hb).wk fun σ H Q h => ?_
  obtain ⟨F, σD, M, QD, rel, h, p⟩ := h
  unfold tAndVD at h
  refine lE rel h fun d M1 v H1 f1 rel1 r1 h1 => ?_
  obtain ⟨c, rfl, h1⟩ := h1
  unfold RepD at r1
  refine ⟨c, r1, ?_⟩
  cases c with
  | true => simp only [if_true] at h1 ⊢; exact lE rel1 h1 fun k M2 v2 H2 f2 rel2 r2 h2 => p k M2 v2 H2 (f1.trans f2) rel2.hp r2 h2
  | false => simp only [Bool.false_eq_true, if_false] at h1 ⊢; exact p _ M1 _ H1 f1 rel1.hp (by unfold RepD; rfl) h1
theorem ed_or (ha : ED X a ta) (hb : ED X (.BoolOp .Or (b :: rest) pos) tb) : ED X (.BoolOp .Or (a :: b :: rest) pos) (tOrVD ta tb) := by
  refine (pe_or ha hb).wk fun σ H Q h => ?_
  obtain ⟨F, σD, M, QD, rel, h, p⟩ := h
  unfold tOrVD at h
  refine lE rel h fun d M1 v H1 f1 rel1 r1 h1 => ?_
  obtain ⟨c, rfl, h1⟩ := h1
  unfold RepD at r1
  refine ⟨c, r1, ?_⟩
  cases c with
  | true => simp only [if_true] at h1 ⊢; exact p _ M1 _ H1 f1 rel1.hp (by unfold RepD; rfl) h1
  | false => simp only [Bool.false_eq_true, if_false] at h1 ⊢; exact lE rel1 h1 fun k M2 v2 H2 f2 rel2 r2 h2 => p k M2 v2 H2 (f1.trans f2) rel2.hp r2 h2
theorem ed_not (ha : ED X a ta) : ED X (.UnaryOp .Not a pos) (tNotVD ta) := by
  refine (pe_not ha).wk fun σ H Q h => ?_
  obtain ⟨F, σD, M, QD, rel, h, p⟩ := h
  unfold tNotVD at h
  refine lE rel h fun d M1 v H1 f1 rel1 r1 h1 => ?_
  obtain ⟨c, rfl, h1⟩ := h1
  unfold RepD at r1
  exact ⟨c, r1, p _ M1 _ H1 f1 rel1.hp (by unfold RepD; rfl) h1⟩
@[irreducible] def tIfED (t : TDT) (ta tb : TDE) : TDE := fun σ M Q => t σ M fun c M1 => if c = true then ta σ M1 Q else tb σ M1 Q
theorem rd_ifE {t : TDT} {ta tb : TDE} {σ : SD} {M : HpD} {Q : KD} (h : t σ M fun c M1 => if c = true then ta σ M1 Q else tb σ M1 Q) : tIfED t ta tb σ M Q := by unfold tIfED; exact h
theorem ed_ifExp {c : Expr} (hc : TD X c tA) (ha : ED X a ta) (hb : ED X b tb) : ED X (.IfExp c a b pos) (tIfED tA ta tb) := by
  refine (pe_ifExp hc ha hb).wk fun σ H Q h => ?_
  obtain ⟨F, σD, M, QD, rel, h, p⟩ := h
  unfold tIfED at h
  refine lT rel h fun c M1 H1 f1 rel1 h1 => ?_
  cases c with
  | true => simp only [if_true] at h1 ⊢; exact lE rel1 h1 fun k M2 v2 H2 f2 rel2 r2 h2 => p k M2 v2 H2 (f1.trans f2) rel2.hp r2 h2
  | false => simp only [Bool.false_eq_true, if_false] at h1 ⊢; exact lE rel1 h1 fun k M2 v2 H2 f2 rel2 r2 h2 => p k M2 v2 H2 (f1.trans f2) rel2.hp r2 h2
end
end L2

namespace L2
open PySem PySem.Spec PyProof.Rows

/-! ### argument lists -/
@[irreducible] def tNilD : TDA := fun _ M Q => Q [] M
@[irreducible] def tConsD (ta : TDE) (tr : TDA) : TDA := fun σ M Q => ta σ M fun x M1 => tr σ M1 fun xs M2 => Q (x :: xs) M2
theorem rd_nil {σ : SD} {M : HpD} {Q : List D → HpD → Prop} (h : Q [] M) : tNilD σ M Q := by unfold tNilD; exact h
theorem rd_cons {ta : TDE} {tr : TDA} {σ : SD} {M : HpD} {Q : List D → HpD → Prop} (h : ta σ M fun x M1 => tr σ M1 fun xs M2 => Q (x :: xs) M2) : tConsD ta tr σ M Q := by unfold tConsD; exact h
/-- a new list: unchanging, or one that may change -/
@[irreducible] def newL (ds : List D) (M : HpD) (Q : KD) : Prop := ds.length ≤ sizeLine ∧ (Q (.lst ds) M ∨ ∀ p, M p = none → Q (.ref p) (updD M p (.lst ds)))
theorem newF {ds : List D} {M : HpD} {Q : KD} (h : ds.length ≤ sizeLine) (q : Q (.lst ds) M) : newL ds M Q := by unfold newL; exact ⟨h, .inl q⟩
theorem newM {ds : List D} {M : HpD} {Q : KD} (h : ds.length ≤ sizeLine) (q : ∀ p, M p = none → Q (.ref p) (updD M p (.lst ds))) : newL ds M Q := by unfold newL; exact ⟨h, .inr q⟩
section
variable {K : KF} {H : Hp} {M : HpD}
/-- a new list object, by either -/
theorem newL.post {ds : List D} {QD : KD} {Q : VK} {xs : List V} (h : newL ds M QD) (p : PostE K M H QD Q) (rh : RepH K H M) (r : RepDs K H M ds xs) : xs.length ≤ sizeLine ∧ ∀ l, H l = none → Q (.ref l) (upd H l (.lst xs)) := by
  unfold newL at h
  obtain ⟨hl, h⟩ := h
  refine ⟨by rw [← r.length]; exact hl, fun l e => ?_⟩
  rcases h with h | h
  · exact p _ M _ _ (fz_new e) (rh.new e) (by unfold RepD; exact ⟨l, xs, rfl, .inl ⟨.inl upd_same, rh.free e, rh.nf e⟩, r.mono (fz_new e)⟩) h
  · exact p _ (updD M l (.lst ds)) _ _ (fz_newM e (rh.free e)) (rh.newM e ⟨xs, rfl, r⟩) (by unfold RepD; rfl) (h l (rh.free e))
end
@[irreducible] def tTupD (t : TDA) : TDE := fun σ M Q => t σ M fun ds M1 => ds.length ≤ sizeLine ∧ Q (.tup ds) M1
@[irreducible] def tLstD (t : TDA) : TDE := fun σ M Q => t σ M fun ds M1 => newL ds M1 Q
theorem rd_tup {t : TDA} {σ : SD} {M : HpD} {Q : KD} (h : t σ M fun ds M1 => ds.length ≤ sizeLine ∧ Q (.tup ds) M1) : tTupD t σ M Q := by unfold tTupD; exact h
theorem rd_lst {t : TDA} {σ : SD} {M : HpD} {Q : KD} (h : t σ M fun ds M1 => newL ds M1 Q) : tLstD t σ M Q := by unfold tLstD; exact h
section
variable {X : Cx} {e : Expr} {es : List Expr} {te : TDE} {t : TDA} {pos : Pos}
theorem ad_nil : AD X [] tNilD := by
  refine pa_nil.wk fun σ H Q ⟨F, σD, M, QD, rel, h, p⟩ => ?_
  unfold tNilD at h
  exact p _ M _ H .refl rel.hp .nil h
theorem ad_cons (ha : ED X e te) (hr : AD X es t) (hs : starEach (e :: es) X.env = (false, eval e X.env) :: starEach es X.env := by rfl) : AD X (e :: es) (tConsD te t) := by
  refine (pa_cons ha hr hs).wk fun σ H Q ⟨F, σD, M, QD, rel, h, p⟩ => ?_
  unfold tConsD at h
  refine lE rel h fun d M1 v H1 f1 rel1 r1 h1 => ?_
  exact lA rel1 h1 fun ds M2 vs H2 f2 rel2 r2 h2 => p _ M2 _ H2 (f1.trans f2) rel2.hp (.cons (r1.mono f2) r2) h2
theorem ed_tup {x1} (h : AD X es t) : ED X (.Tuple es x1 pos) (tTupD t) := by
  refine (pe_tup h).wk fun σ H Q ⟨F, σD, M, QD, rel, h, p⟩ => ?_
  unfold tTupD at h
  refine lA rel h fun ds M1 vs H1 f1 rel1 r1 h1 => ?_
  refine ⟨by rw [← r1.length]; exact h1.1, fun l e => ?_⟩
  exact p _ M1 _ _ (f1.trans (fz_new e)) (rel1.hp.new e) (by unfold RepD; exact ⟨l, vs, rfl, .inl ⟨.inl upd_same, rel1.hp.free e, rel1.hp.nf e⟩, r1.mono (fz_new e)⟩) h1.2
theorem ed_lst (h : AD X es t) : ED X (.List es pos) (tLstD t) := by
  refine (pe_lst h).wk fun σ H Q ⟨F, σD, M, QD, rel, h, p⟩ => ?_
  unfold tLstD at h
  exact lA rel h fun ds M1 vs H1 f1 rel1 r1 h1 => h1.post (p.mono f1) rel1.hp r1
end

/-! ### an item -/
/-- the items of a list or tuple -/
def itemsD : D → HpD → Option (List D)
  | .lst ds, _ => some ds
  | .tup ds, _ => some ds
  | .ref p, M => match M p with | some (.lst ds) => some ds | _ => none
  | _, _ => none
theorem items_ref {p : Addr} {M : HpD} {ds : List D} (h : M p = some (.lst ds)) : itemsD (.ref p) M = some ds := by simp only [itemsD, h]
theorem items_rep {K : KF} {H : Hp} {M : HpD} {d : D} {v : V} {ds : List D} (rh : RepH K H M) (r : RepD K H M d v) (e : itemsD d M = some ds) : ∃ p xs, v = .ref p ∧ (SqL K.K H p xs ∨ SqT K.K H p xs) ∧ RepDs K H M ds xs := by
  cases d with
  | lst ds' =>
    cases e
    unfold RepD at r
    obtain ⟨a, xs, rfl, h1, h2⟩ := r
    exact ⟨a, xs, rfl, .inl h1.sq, h2⟩
  | tup ds' =>
    cases e
    unfold RepD at r
    obtain ⟨a, xs, rfl, h1, h2⟩ := r
    exact ⟨a, xs, rfl, .inr h1.sq, h2⟩
  | ref p =>
    cases q : M p with
    | none => simp only [itemsD, q] at e; cases e
    | some o =>
      cases o with
      | lst es =>
        simp only [itemsD, q] at e; cases e
        obtain ⟨o', e', xs, rfl, h2⟩ := rh.at_ p _ q
        unfold RepD at r
        exact ⟨p, xs, r, .inl (.inl (.inl e')), h2⟩
  | _ => cases e
theorem atI_rep {K : KF} {H : Hp} {M : HpD} {ds : List D} {xs : List V} {i : Int} {d : D} (r : RepDs K H M ds xs) (e : atI ds i = some d) : ∃ v, atI xs i = some v ∧ RepD K H M d v := by
  unfold atI at e ⊢
  rw [← r.length]
  cases q : ixN ds.length i with
  | none => rw [q] at e; cases e
  | some j =>
    rw [q] at e
    exact r.get e
@[irreducible] def rIxD : RD2 := fun x y M Q => ∃ ds i d, y = .int i ∧ itemsD x M = some ds ∧ atI ds i = some d ∧ Q d M
theorem rd_ix {x : D} {i : Int} {M : HpD} {Q : KD} {ds : List D} {d : D} (h : itemsD x M = some ds) (e : atI ds i = some d) (q : Q d M) : rIxD x (.int i) M Q := by unfold rIxD; exact ⟨ds, i, d, rfl, h, e, q⟩
theorem IxR.wk {X : Cx} {r r' : R2} (h : IxR X r) (i : ∀ x y H Q, r' x y H Q → r x y H Q) : IxR X r' := fun va sl pins s σ H x y v u Q I rx ry q => h va sl pins s σ H x y v u Q I rx ry (i _ _ _ _ q)
section
variable {X : Cx} {a b : Expr} {ta tb : TDE} {pos : Pos}
theorem xd_ix : IxR X (LiftR X.K rIxD) := by
  refine (ix_list.or ix_tup).wk fun x y H Q ⟨F, d, e, M, QD, r1, r2, rh, hq, p⟩ => ?_
  unfold rIxD at hq
  obtain ⟨ds, i, z, rfl, e1, e2, q⟩ := hq
  unfold RepD at r2
  obtain ⟨a, xs, rfl, hs, r⟩ := items_rep rh r1 e1
  obtain ⟨v, e3, r3⟩ := atI_rep r e2
  rcases hs with hs | hs
  · exact .inl ⟨a, xs, i, v, rfl, r2, hs, e3, p _ M _ H .refl rh r3 q⟩
  · exact .inr ⟨a, xs, i, v, rfl, r2, hs, e3, p _ M _ H .refl rh r3 q⟩
theorem ed_ix (ha : ED X a ta) (hb : ED X b tb) (hs : PlainIx b := by exact fun _ _ => rfl) : ED X (.Subscript a b pos) (tOpD rIxD ta tb) := (pe_ix xd_ix ha hb hs).wk fun _ _ _ h => lift_op h
end

/-! ### slices -/
abbrev TDO := SD → HpD → (Option Int → HpD → Prop) → Prop
def LiftO (K : PySem.W.Frag) (t : TDO) : TO := fun σ H Q => ∃ F σD M QD, Rel ⟨K, F⟩ σD M σ H ∧ t σD M QD ∧ ∀ b M' H', Fz M H M' H' → RepH ⟨K, F⟩ H' M' → QD b M' → Q b H'
@[irreducible] def tNoPartD : TDO := fun _ M Q => Q none M
@[irreducible] def tPartD (t : TDE) : TDO := fun σ M Q => t σ M fun x M1 => ∃ i, x = .int i ∧ Q (some i) M1
theorem rd_nopart {σ : SD} {M : HpD} {Q : Option Int → HpD → Prop} (h : Q none M) : tNoPartD σ M Q := by unfold tNoPartD; exact h
theorem rd_part {t : TDE} {σ : SD} {M : HpD} {Q : Option Int → HpD → Prop} (h : t σ M fun x M1 => ∃ i, x = .int i ∧ Q (some i) M1) : tPartD t σ M Q := by unfold tPartD; exact h
theorem PO.wk {X : Cx} {e : Option Expr} {t t' : TO} (h : PO X e t) (i : ∀ σ H Q, t' σ H Q → t σ H Q) : PO X e t' := fun pins s σ H Q I q => h pins s σ H Q I (i σ H Q q)
def cutD (ds : List D) (lo hi : Option Int) : List D := (ds.drop (HT.sIx ds.length 0 lo)).take (HT.sIx ds.length ds.length hi - HT.sIx ds.length 0 lo)
/-- the items of a list -/
def listD : D → HpD → Option (List D)
  | .lst ds, _ => some ds
  | .ref p, M => match M p with | some (.lst ds) => some ds | _ => none
  | _, _ => none
theorem list_ref {p : Addr} {M : HpD} {ds : List D} (h : M p = some (.lst ds)) : listD (.ref p) M = some ds := by simp only [listD, h]
theorem list_rep {K : KF} {H : Hp} {M : HpD} {d : D} {v : V} {ds : List D} (rh : RepH K H M) (r : RepD K H M d v) (e : listD d M = some ds) : ∃ p xs, v = .ref p ∧ SqL K.K H p xs ∧ RepDs K H M ds xs := by
  cases d with
  | lst ds' =>
    cases e
    unfold RepD at r
    obtain ⟨a, xs, rfl, h1, h2⟩ := r
    exact ⟨a, xs, rfl, h1.sq, h2⟩
  | ref p =>
    cases q : M p with
    | none => simp only [listD, q] at e; cases e
    | some o =>
      cases o with
      | lst es =>
        simp only [listD, q] at e; cases e
        obtain ⟨o', e', xs, rfl, h2⟩ := rh.at_ p _ q
        unfold RepD at r
        exact ⟨p, xs, r, .inl (.inl e'), h2⟩
  | _ => cases e
@[irreducible] def tSlD (te : TDE) (tl th : TDO) : TDE := fun σ M Q => te σ M fun x M1 => tl σ M1 fun l M2 => th σ M2 fun u M3 => ∃ ds, listD x M3 = some ds ∧ newL (cutD ds l u) M3 Q
theorem rd_sl {te : TDE} {tl th : TDO} {σ : SD} {M : HpD} {Q : KD} (h : te σ M fun x M1 => tl σ M1 fun l M2 => th σ M2 fun u M3 => ∃ ds, listD x M3 = some ds ∧ newL (cutD ds l u) M3 Q) : tSlD te tl th σ M Q := by unfold tSlD; exact h
section
variable {X : Cx} {e : Expr} {te : TDE} {lo hi : Option Expr} {tl th : TDO} {pos p2 : Pos}
theorem po_noneD : PO X none (LiftO X.K tNoPartD) := by
  refine po_none.wk fun σ H Q ⟨F, σD, M, QD, rel, h, p⟩ => ?_
  unfold tNoPartD at h
  exact p _ M H .refl rel.hp h
theorem po_someD (h : ED X e te) : PO X (some e) (LiftO X.K (tPartD te)) := by
  refine (po_some h).wk fun σ H Q ⟨F, σD, M, QD, rel, h, p⟩ => ?_
  unfold tPartD at h
  refine lE rel h fun d M1 v H1 f1 rel1 r1 h1 => ?_
  obtain ⟨i, rfl, q⟩ := h1
  unfold RepD at r1
  exact ⟨i, r1, p _ M1 H1 f1 rel1.hp q⟩
theorem RepDs.cut {K : KF} {H : Hp} {M : HpD} {ds : List D} {xs : List V} (r : RepDs K H M ds xs) (l u : Option Int) : RepDs K H M (cutD ds l u) (cutV xs l u) := by
  unfold cutD cutV
  rw [r.length]
  exact (r.drop _).take _
theorem ed_slice (he : ED X e te) (hl : PO X lo (LiftO X.K tl)) (hu : PO X hi (LiftO X.K th)) : ED X (.Subscript e (.Slice lo hi none p2) pos) (tSlD te tl th) := by
  refine (pe_slice sl_list he hl hu).wk fun σ H Q ⟨F, σD, M, QD, rel, h, p⟩ => ?_
  unfold tSlD at h
  refine lE rel h fun d M1 v H1 f1 rel1 r1 h1 => ?_
  refine ⟨F, σD, M1, _, rel1, h1, fun l M2 H2 f2 rh2 h2 => ?_⟩
  have rel2 := rel1.mono f2 rh2
  refine ⟨F, σD, M2, _, rel2, h2, fun u M3 H3 f3 rh3 h3 => ?_⟩
  obtain ⟨ds, e1, h3⟩ := h3
  have r3 := (r1.mono f2).mono f3
  have pp := p.mono ((f1.trans f2).trans f3)
  obtain ⟨a, xs, rfl, hs, r⟩ := list_rep rh3 r3 e1
  exact ⟨a, xs, rfl, hs, (h3.post pp rh3 (r.cut l u)).2⟩
end

/-! ### calls -/
/-- a def's promise over D -/
abbrev SpD := List D → HpD → KD → Prop
def LiftP (K : PySem.W.Frag) (sp : SpD) : Sp := fun vs H Q _ => ∃ F ds M QD, RepDs ⟨K, F⟩ H M ds vs ∧ RepH ⟨K, F⟩ H M ∧ sp ds M QD ∧ PostE ⟨K, F⟩ M H QD Q
/-- a def that may be called by its name: its promise -/
def Cal (P : Program) (w : World) (K : PySem.W.Frag) (mg : Str → Option Value) (base : Heap) (x : Str) (k : Nat) (sp : SpD) : Prop :=
  ∃ (f : Addr) (fd : FuncData) (ps : List Str), FnOk P w K mg base CX0 k f fd ps (LiftP K sp) ∧ mg x = some (.ref f) ∧ PySem.W.keepIn K (.ref f) = true ∧ Binds K fd ps []
@[irreducible] def tCallD (sp : SpD) (t : TDA) : TDE := fun σ M Q => t σ M fun ds M1 => sp ds M1 Q
theorem rd_call {sp : SpD} {t : TDA} {σ : SD} {M : HpD} {Q : KD} (h : t σ M fun ds M1 => sp ds M1 Q) : tCallD sp t σ M Q := by unfold tCallD; exact h
section
variable {X : Cx} {x : Str} {e : Expr} {es : List Expr} {t : TDA} {p pos : Pos} {sp : SpD} {k : Nat}
theorem lift_call {K : PySem.W.Frag} {σ : St} {H : Hp} {Q : VK} (h : LiftE K (tCallD sp t) σ H Q) : tCall (LiftP K sp) [] E0 (LiftA K t) σ H Q := by
  obtain ⟨F, σD, M, QD, rel, h, p⟩ := h
  unfold tCallD at h
  refine lA rel h fun ds M1 vs H1 f1 rel1 r1 h1 => ?_
  rw [List.append_nil]
  exact ⟨F, ds, M1, QD, r1, rel1.hp, h1, p.mono f1⟩
theorem ed_call (hc : Cal X.prog X.w X.K X.mg X.base x k sp) (hr : Room k X.A) (hg : Gl X x) (ha : AD X (e :: es) t) (hdb : (x == ("__debug__" : Str)) = false := by decide)
    (he : starEach (e :: es) X.env = (false, eval e X.env) :: starEach es X.env := by rfl) (hpl : (backTo pos (starEach es X.env)).any (·.1) = false := by rfl) : ED X (.Call (.Name x p) (e :: es) [] pos) (tCallD sp t) := by
  obtain ⟨f, fd, ps, F, hm, hk, hb⟩ := hc
  exact (pe_call F hr hg hm hk hb .nil pass0 ha hdb he hpl).wk fun _ _ _ h => lift_call h
theorem ed_call0 (hc : Cal X.prog X.w X.K X.mg X.base x k sp) (hr : Room k X.A) (hg : Gl X x) (hdb : (x == ("__debug__" : Str)) = false := by decide) : ED X (.Call (.Name x p) [] [] pos) (tCallD sp tNilD) := by
  obtain ⟨f, fd, ps, F, hm, hk, hb⟩ := hc
  refine (pe_call0 F hr hg hm hk hb .nil pass0 hdb).wk fun σ H Q h => ?_
  obtain ⟨F, σD, M, QD, rel, h, p⟩ := h
  unfold tCallD tNilD at h
  exact ⟨F, [], M, QD, .nil, rel.hp, h, p⟩
/-- a built-in by values -/
abbrev RDn := List D → HpD → KD → Prop
def LiftC (K : PySem.W.Frag) (r : RDn) : List V → Hp → VK → Prop := fun vs H Q => ∃ F ds M QD, RepDs ⟨K, F⟩ H M ds vs ∧ RepH ⟨K, F⟩ H M ∧ r ds M QD ∧ PostE ⟨K, F⟩ M H QD Q
theorem CallR.wk {f : Value} {r r' : List V → Hp → VK → Prop} (h : CallR X f r) (i : ∀ x H Q, r' x H Q → r x H Q) : CallR X f r' := fun pins s σ H xs us Q I rx q => h pins s σ H xs us Q I rx (i _ _ _ q)
theorem lift_cb {K : PySem.W.Frag} {r : RDn} {σ : St} {H : Hp} {Q : VK} (h : LiftE K (tCallD r t) σ H Q) : tCB (LiftC K r) (LiftA K t) σ H Q := by
  obtain ⟨F, σD, M, QD, rel, h, p⟩ := h
  unfold tCallD at h
  refine lA rel h fun ds M1 vs H1 f1 rel1 r1 h1 => ?_
  exact ⟨F, ds, M1, QD, r1, rel1.hp, h1, p.mono f1⟩
theorem ed_callB {id : String} {r : RDn} (hc : CallR X (.builtin id) (LiftC X.K r)) (hg : Gl X x) (hm : X.mg x = none) (hv : bootBuiltins x = some (.builtin id)) (ha : AD X (e :: es) t) (hn : x ≠ "__name__" := by decide) (hdb : (x == ("__debug__" : Str)) = false := by decide)
    (he : starEach (e :: es) X.env = (false, eval e X.env) :: starEach es X.env := by rfl) (hpl : (backTo pos (starEach es X.env)).any (·.1) = false := by rfl) : ED X (.Call (.Name x p) (e :: es) [] pos) (tCallD r t) :=
  (pe_callB hc hg hm hv ha hn hdb he hpl).wk fun _ _ _ h => lift_cb h
theorem ed_callTy {T : String} {r : RDn} (hc : CallR X (.type T) (LiftC X.K r)) (hg : Gl X x) (hm : X.mg x = none) (hv : bootBuiltins x = some (.type T)) (ha : AD X (e :: es) t) (hn : x ≠ "__name__" := by decide) (hdb : (x == ("__debug__" : Str)) = false := by decide)
    (he : starEach (e :: es) X.env = (false, eval e X.env) :: starEach es X.env := by rfl) (hpl : (backTo pos (starEach es X.env)).any (·.1) = false := by rfl) : ED X (.Call (.Name x p) (e :: es) [] pos) (tCallD r t) :=
  (pe_callTy hc hg hm hv ha hn hdb he hpl).wk fun _ _ _ h => lift_cb h
theorem CallD.or {f : Value} {r r' : RDn} (h : CallR X f (LiftC X.K r)) (h' : CallR X f (LiftC X.K r')) : CallR X f (LiftC X.K fun xs M Q => r xs M Q ∨ r' xs M Q) := by
  intro pins s σ H xs us Q I rx q
  obtain ⟨F, ds, M, QD, r1, rh, hq, p⟩ := q
  rcases hq with hq | hq
  · exact h pins s σ H xs us Q I rx ⟨F, ds, M, QD, r1, rh, hq, p⟩
  · exact h' pins s σ H xs us Q I rx ⟨F, ds, M, QD, r1, rh, hq, p⟩
theorem rep1 {K : KF} {H : Hp} {M : HpD} {d : D} {vs : List V} (r : RepDs K H M [d] vs) : ∃ v, vs = [v] ∧ RepD K H M d v := by
  unfold RepDs at r
  obtain ⟨x, r', e, h1, h2⟩ := r
  unfold RepDs at h2
  subst h2 e
  exact ⟨x, rfl, h1⟩
theorem rep2 {K : KF} {H : Hp} {M : HpD} {d e : D} {vs : List V} (r : RepDs K H M [d, e] vs) : ∃ v u, vs = [v, u] ∧ RepD K H M d v ∧ RepD K H M e u := by
  unfold RepDs at r
  obtain ⟨x, r', e, h1, h2⟩ := r
  obtain ⟨u, e2, h3⟩ := rep1 h2
  subst e2 e
  exact ⟨x, u, rfl, h1, h3⟩
@[irreducible] def cLen : RDn := fun xs M Q => ∃ d ds, xs = [d] ∧ itemsD d M = some ds ∧ Q (.int ds.length) M
theorem rd_len {d : D} {ds : List D} {M : HpD} {Q : KD} (h : itemsD d M = some ds) (q : Q (.int ds.length) M) : cLen [d] M Q := by unfold cLen; exact ⟨d, ds, rfl, h, q⟩
theorem cd_len : CallR X (.builtin "len") (LiftC X.K cLen) := by
  refine call_len_seq.wk fun xs H Q ⟨F, ds, M, QD, r, rh, hq, p⟩ => ?_
  unfold cLen at hq
  obtain ⟨d, es, rfl, e1, q⟩ := hq
  obtain ⟨v, rfl, r1⟩ := rep1 r
  obtain ⟨a, ys, rfl, hs, r2⟩ := items_rep rh r1 e1
  exact ⟨a, ys, rfl, hs, p _ M _ H .refl rh (by unfold RepD; rw [r2.length]) q⟩
@[irreducible] def cList : RDn := fun xs M Q => ∃ d ds, xs = [d] ∧ itemsD d M = some ds ∧ newL ds M Q
theorem rd_list {d : D} {ds : List D} {M : HpD} {Q : KD} (h : itemsD d M = some ds) (q : newL ds M Q) : cList [d] M Q := by unfold cList; exact ⟨d, ds, rfl, h, q⟩
theorem cd_list : CallR X (.type "list") (LiftC X.K cList) := by
  refine call_list_of.wk fun xs H Q ⟨F, ds, M, QD, r, rh, hq, p⟩ => ?_
  unfold cList at hq
  obtain ⟨d, es, rfl, e1, q⟩ := hq
  obtain ⟨v, rfl, r1⟩ := rep1 r
  obtain ⟨a, ys, rfl, hs, r2⟩ := items_rep rh r1 e1
  exact ⟨a, ys, rfl, hs, (q.post p rh r2).2⟩
@[irreducible] def cMax2 : RDn := fun xs M Q => ∃ i j, xs = [.int i, .int j] ∧ Q (.int (max i j)) M
@[irreducible] def cMin2 : RDn := fun xs M Q => ∃ i j, xs = [.int i, .int j] ∧ Q (.int (min i j)) M
theorem rd_max2 {i j : Int} {M : HpD} {Q : KD} (q : Q (.int (max i j)) M) : cMax2 [.int i, .int j] M Q := by unfold cMax2; exact ⟨i, j, rfl, q⟩
theorem rd_min2 {i j : Int} {M : HpD} {Q : KD} (q : Q (.int (min i j)) M) : cMin2 [.int i, .int j] M Q := by unfold cMin2; exact ⟨i, j, rfl, q⟩
theorem cd_max2 (hc : X.calm = true := by rfl) : CallR X (.builtin "max") (LiftC X.K cMax2) := by
  refine (call_max2 hc).wk fun xs H Q ⟨F, ds, M, QD, r, rh, hq, p⟩ => ?_
  unfold cMax2 at hq
  obtain ⟨i, j, rfl, q⟩ := hq
  obtain ⟨v, u, rfl, r1, r2⟩ := rep2 r
  unfold RepD at r1 r2
  subst r1 r2
  rw [← show (if j > i then j else i) = max i j by split <;> omega] at q
  exact ⟨i, j, rfl, p _ M _ H .refl rh (by unfold RepD; rfl) q⟩
theorem cd_min2 (hc : X.calm = true := by rfl) : CallR X (.builtin "min") (LiftC X.K cMin2) := by
  refine (call_min2 hc).wk fun xs H Q ⟨F, ds, M, QD, r, rh, hq, p⟩ => ?_
  unfold cMin2 at hq
  obtain ⟨i, j, rfl, q⟩ := hq
  obtain ⟨v, u, rfl, r1, r2⟩ := rep2 r
  unfold RepD at r1 r2
  subst r1 r2
  rw [← show (if j < i then j else i) = min i j by split <;> omega] at q
  exact ⟨i, j, rfl, p _ M _ H .refl rh (by unfold RepD; rfl) q⟩
end
end L2

namespace L2
open PySem PySem.Spec PyProof.Rows

section
variable {K : PySem.W.Frag} {F : Addr → Prop} {σ : St} {H : Hp} {σD : SD} {M : HpD}
theorem lS {ta : TSD} {DD : EndsD} {D' : Ends} (rel : Rel ⟨K, F⟩ σD M σ H) (h : ta DD σD M) (p : PostS ⟨K, F⟩ M H DD D') : LiftS K ta D' σ H := ⟨F, σD, M, DD, rel, h, p⟩
end
/-! ### targets -/
abbrev TDG := D → SD → HpD → (SD → HpD → Prop) → Prop
abbrev TDGs := List D → SD → HpD → (SD → HpD → Prop) → Prop
def PostG (K : KF) (M : HpD) (H : Hp) (QD : SD → HpD → Prop) (Q : St → Hp → Prop) : Prop := ∀ σD' M' σ' H', Fz M H M' H' → Rel K σD' M' σ' H' → QD σD' M' → Q σ' H'
theorem PostG.mono {K : KF} {H H' : Hp} {M M' : HpD} {QD : SD → HpD → Prop} {Q : St → Hp → Prop} (p : PostG K M H QD Q) (f : Fz M H M' H') : PostG K M' H' QD Q := fun a b c d f2 r h => p a b c d (f.trans f2) r h
def LiftG (K : PySem.W.Frag) (t : TDG) : TG := fun v σ H Q => ∃ F d σD M QD, Rel ⟨K, F⟩ σD M σ H ∧ RepD ⟨K, F⟩ H M d v ∧ t d σD M QD ∧ PostG ⟨K, F⟩ M H QD Q
def LiftGs (K : PySem.W.Frag) (t : TDGs) : TGs := fun v σ H Q => ∃ F d σD M QD, Rel ⟨K, F⟩ σD M σ H ∧ RepDs ⟨K, F⟩ H M d v ∧ t d σD M QD ∧ PostG ⟨K, F⟩ M H QD Q
theorem PG.wk {X : Cx} {e : Expr} {t t' : TG} (h : PG X e t) (i : ∀ v σ H Q, t' v σ H Q → t v σ H Q) : PG X e t' := fun pins s σ H v u Q I r q => h pins s σ H v u Q I r (i v σ H Q q)
theorem PGs.wk {X : Cx} {e : List Expr} {t t' : TGs} (h : PGs X e t) (i : ∀ v σ H Q, t' v σ H Q → t v σ H Q) : PGs X e t' := fun pins s σ H v u Q I r q => h pins s σ H v u Q I r (i v σ H Q q)
abbrev GD (X : Cx) (e : Expr) (t : TDG) : Prop := PG X e (LiftG X.K t)
abbrev GsD (X : Cx) (e : List Expr) (t : TDGs) : Prop := PGs X e (LiftGs X.K t)
@[irreducible] def gNameD (i : Nat) : TDG := fun d σ M Q => Q (σ.set i (some d)) M
@[irreducible] def gNilD : TDGs := fun ds σ M Q => ds = [] ∧ Q σ M
@[irreducible] def gConsD (t : TDG) (u : TDGs) : TDGs := fun ds σ M Q => ∃ d r, ds = d :: r ∧ t d σ M fun σ' M' => u r σ' M' Q
@[irreducible] def gTupD (n : Nat) (t : TDGs) : TDG := fun d σ M Q => ∃ ds, d = .tup ds ∧ ds.length = n ∧ t ds σ M Q
theorem rd_gname {i : Nat} {d : D} {σ : SD} {M : HpD} {Q : SD → HpD → Prop} (h : Q (σ.set i (some d)) M) : gNameD i d σ M Q := by unfold gNameD; exact h
theorem rd_gnil {σ : SD} {M : HpD} {Q : SD → HpD → Prop} (h : Q σ M) : gNilD [] σ M Q := by unfold gNilD; exact ⟨rfl, h⟩
theorem rd_gcons {t : TDG} {u : TDGs} {d : D} {r : List D} {σ : SD} {M : HpD} {Q : SD → HpD → Prop} (h : t d σ M fun σ' M' => u r σ' M' Q) : gConsD t u (d :: r) σ M Q := by unfold gConsD; exact ⟨d, r, rfl, h⟩
theorem rd_gtup {n : Nat} {t : TDGs} {ds : List D} {σ : SD} {M : HpD} {Q : SD → HpD → Prop} (hn : ds.length = n) (h : t ds σ M Q) : gTupD n t (.tup ds) σ M Q := by unfold gTupD; exact ⟨ds, rfl, hn, h⟩
section
variable {X : Cx} {pos : Pos}
theorem gd_name (i : Nat) {x : Str} (hN : X.N.Nodup) (hi : X.N[i]? = some x) (hx : Loc X.env.scope x) (hf : X.fn x = true ∨ X.env.scope.names.lookup x = some .local := by first | exact .inl rfl | exact .inr rfl | assumption) : GD X (.Name x pos) (gNameD i) := by
  refine (pg_name hN hi hx hf).wk fun v σ H Q ⟨F, d, σD, M, QD, rel, r, h, p⟩ => ?_
  unfold gNameD at h
  exact p _ M _ H .refl (rel.set i r) h
theorem gd_nil : GsD X [] gNilD := by
  refine pgs_nil.wk fun v σ H Q ⟨F, d, σD, M, QD, rel, r, h, p⟩ => ?_
  unfold gNilD at h
  obtain ⟨rfl, h⟩ := h
  unfold RepDs at r
  exact ⟨r, p _ M _ H .refl rel h⟩
theorem gd_cons {e : Expr} {es : List Expr} {t : TDG} {u : TDGs} (h1 : GD X e t) (h2 : GsD X es u)
    (hs : (assignEach (e :: es) X.env).map (·.2) = assign e X.env :: (assignEach es X.env).map (·.2) := by rfl) : GsD X (e :: es) (gConsD t u) := by
  refine (pgs_cons h1 h2 hs).wk fun v σ H Q ⟨F, d, σD, M, QD, rel, r, h, p⟩ => ?_
  unfold gConsD at h
  obtain ⟨d0, ds, rfl, h⟩ := h
  unfold RepDs at r
  obtain ⟨x, vr, rfl, r1, r2⟩ := r
  refine ⟨x, vr, rfl, F, d0, σD, M, _, rel, r1, h, fun σ1 M1 σ1' H1 f1 rel1 h1 => ?_⟩
  exact ⟨F, ds, σ1, M1, QD, rel1, r2.mono f1, h1, p.mono f1⟩
theorem gd_tup {es : List Expr} {k : Nat} {t : TDGs} {n : Nat} (h : GsD X es t) (hc : X.calm = true := by rfl)
    (hn : (assignEach es X.env).length = n := by rfl) (hst : (assignEach es X.env).findIdx? (·.1) = none := by rfl) : GD X (.Tuple es k pos) (gTupD n t) := by
  refine (pg_tup hc h hn hst).wk fun v σ H Q ⟨F, d, σD, M, QD, rel, r, h, p⟩ => ?_
  unfold gTupD at h
  obtain ⟨ds, rfl, hl, h⟩ := h
  unfold RepD at r
  obtain ⟨a, xs, rfl, hz, hr⟩ := r
  exact ⟨a, xs, rfl, hz.sq, by rw [← hr.length]; exact hl, F, ds, σD, M, QD, rel, hr, h, p⟩
/-- o[i] = v, o a list that may change -/
@[irreducible] def gSubD (to ti : TDE) : TDG := fun v σ M Q => to σ M fun o M1 => ti σ M1 fun i M2 => ∃ p ds k j, o = .ref p ∧ i = .int k ∧ M2 p = some (.lst ds) ∧ ixN ds.length k = some j ∧ Q σ (updD M2 p (.lst (ds.set j v)))
theorem rd_gsub {to ti : TDE} {v : D} {σ : SD} {M : HpD} {Q : SD → HpD → Prop} (h : to σ M fun o M1 => ti σ M1 fun i M2 => ∃ p ds k j, o = .ref p ∧ i = .int k ∧ M2 p = some (.lst ds) ∧ ixN ds.length k = some j ∧ Q σ (updD M2 p (.lst (ds.set j v)))) : gSubD to ti v σ M Q := by unfold gSubD; exact h
theorem gd_sub {o i : Expr} {to ti : TDE} (ho : ED X o to) (hi : ED X i ti)
    (ha : ∀ v, assign (.Subscript o i pos) X.env v = (do
      let ov ← holding [v] (eval o X.env)
      let iv ← holding [v, ov] (eval i X.env)
      standAt pos
      holding [v, ov, iv] (setItem ov iv v)
      release [v, ov, iv] []) := by intro _; rfl) : GD X (.Subscript o i pos) (gSubD to ti) := by
  refine (pg_sub ho hi set_list ha).wk fun v σ H Q ⟨F, d, σD, M, QD, rel, r, h, p⟩ => ?_
  unfold gSubD at h
  refine lE rel h fun od M1 ov H1 f1 rel1 r1 h1 => ?_
  refine lE rel1 h1 fun id M2 iv H2 f2 rel2 r2 h2 => ?_
  obtain ⟨a, ds, k, j, rfl, rfl, e1, e2, q⟩ := h2
  unfold RepD at r1 r2
  obtain ⟨o', e', xs, rfl, hr⟩ := rel2.hp.at_ a _ e1
  have rv := r.mono (f1.trans f2)
  have r3 : RepO ⟨X.K, F⟩ H2 M2 (.lst (ds.set j d)) (.lst (xs.set j v)) := ⟨_, rfl, hr.set j rv⟩
  exact ⟨a, xs, k, j, r1, r2, e', by rw [← hr.length]; exact e2, p _ _ _ _ ((f1.trans f2).trans (fz_write e1)) (rel2.mono (fz_write e1) (rel2.hp.write e1 r3)) q⟩
end

/-! ### statements -/
@[irreducible] def tNextD : TSD := fun DD σ M => DD.nx σ M
@[irreducible] def tSeqD (t u : TSD) : TSD := fun DD σ M => t { DD with nx := u DD } σ M
@[irreducible] def tBreakD : TSD := fun DD σ M => DD.bk σ M
@[irreducible] def tContD : TSD := fun DD σ M => DD.ct σ M
@[irreducible] def tDropD (te : TDE) : TSD := fun DD σ M => te σ M fun _ M1 => DD.nx σ M1
@[irreducible] def tRetD (te : TDE) : TSD := fun DD σ M => te σ M fun d M1 => DD.rt d M1 ∨ ∃ a ds, d = .ref a ∧ M1 a = some (.lst ds) ∧ DD.rt (.lst ds) (delD M1 a)
@[irreducible] def tRetND : TSD := fun DD _ M => DD.rt .non M
@[irreducible] def tIfSD (c : TDT) (t u : TSD) : TSD := fun DD σ M => c σ M fun b M1 => if b = true then t DD σ M1 else u DD σ M1
@[irreducible] def tAsgD (te : TDE) (g : TDG) : TSD := fun DD σ M => te σ M fun d M1 => g d σ M1 DD.nx
@[irreducible] def tNeverD : TSD := fun _ _ _ => False
section
variable {DD : EndsD} {σ : SD} {M : HpD}
theorem rd_next (h : DD.nx σ M) : tNextD DD σ M := by unfold tNextD; exact h
theorem rd_seq {t u : TSD} (h : t { DD with nx := u DD } σ M) : tSeqD t u DD σ M := by unfold tSeqD; exact h
theorem rd_break (h : DD.bk σ M) : tBreakD DD σ M := by unfold tBreakD; exact h
theorem rd_cont (h : DD.ct σ M) : tContD DD σ M := by unfold tContD; exact h
theorem rd_drop {te : TDE} (h : te σ M fun _ M1 => DD.nx σ M1) : tDropD te DD σ M := by unfold tDropD; exact h
theorem rd_ret {te : TDE} (h : te σ M fun d M1 => DD.rt d M1 ∨ ∃ a ds, d = .ref a ∧ M1 a = some (.lst ds) ∧ DD.rt (.lst ds) (delD M1 a)) : tRetD te DD σ M := by unfold tRetD; exact h
theorem rd_retN (h : DD.rt .non M) : tRetND DD σ M := by unfold tRetND; exact h
theorem rd_ifS {c : TDT} {t u : TSD} (h : c σ M fun b M1 => if b = true then t DD σ M1 else u DD σ M1) : tIfSD c t u DD σ M := by unfold tIfSD; exact h
theorem rd_asg {te : TDE} {g : TDG} (h : te σ M fun d M1 => g d σ M1 DD.nx) : tAsgD te g DD σ M := by unfold tAsgD; exact h
end
section
variable {X : Cx} {pos : Pos} {st : Stmt} {rest : List Stmt} {t u : TSD} {e : Expr} {te : TDE}
theorem ss_nil : SsD X [] tNextD := by
  refine pss_nil.wk fun D' σ H ⟨F, σD, M, DD, rel, h, p⟩ => ?_
  unfold tNextD at h
  exact p.nx _ M _ H .refl rel h
theorem ss_cons (h1 : StD X st t) (h2 : SsD X rest u) : SsD X (st :: rest) (tSeqD t u) := by
  refine (pss_cons h1 h2).wk fun D' σ H ⟨F, σD, M, DD, rel, h, p⟩ => ?_
  unfold tSeqD at h
  exact lS rel h ⟨fun σD' M' σ' H' f rel' q => lS rel' q (p.mono f), p.rt, p.bk, p.ct⟩
theorem ss_one (h1 : StD X st t) : SsD X [st] t := pss_one h1
theorem sd_pass : StD X (.Pass pos) tNextD := by
  refine ps_pass.wk fun D' σ H ⟨F, σD, M, DD, rel, h, p⟩ => ?_
  unfold tNextD at h
  exact p.nx _ M _ H .refl rel h
theorem sd_break : StD X (.Break pos) tBreakD := by
  refine ps_break.wk fun D' σ H ⟨F, σD, M, DD, rel, h, p⟩ => ?_
  unfold tBreakD at h
  exact p.bk _ M _ H .refl rel h
theorem sd_continue : StD X (.Continue pos) tContD := by
  refine ps_continue.wk fun D' σ H ⟨F, σD, M, DD, rel, h, p⟩ => ?_
  unfold tContD at h
  exact p.ct _ M _ H .refl rel h
theorem sd_expr (he : ED X e te) (hs : swapsWith e none pos.line X.env = pure false := by rfl) : StD X (.Expr e pos) (tDropD te) := by
  refine (ps_expr he hs).wk fun D' σ H ⟨F, σD, M, DD, rel, h, p⟩ => ?_
  unfold tDropD at h
  exact lE rel h fun d M1 v H1 f1 rel1 r1 h1 => p.nx _ M1 _ H1 f1 rel1 h1
theorem sd_ret (he : ED X e te) : StD X (.Return (some e) pos) (tRetD te) := by
  refine (ps_ret he).wk fun D' σ H ⟨F, σD, M, DD, rel, h, p⟩ => ?_
  unfold tRetD at h
  refine lE rel h fun d M1 v H1 f1 rel1 r1 h1 => ?_
  rcases h1 with h1 | ⟨a, ds, rfl, e1, h1⟩
  · exact p.rt d M1 v H1 f1 rel1.hp r1 h1
  · unfold RepD at r1
    subst r1
    exact p.rt _ _ _ H1 (f1.trans fz_del) rel1.hp.del (.frz rel1.hp e1) h1
theorem sd_retN : StD X (.Return none pos) tRetND := by
  refine ps_retN.wk fun D' σ H ⟨F, σD, M, DD, rel, h, p⟩ => ?_
  unfold tRetND at h
  exact p.rt _ M _ H .refl rel.hp (by unfold RepD; rfl) h
theorem sd_if {c : Expr} {a b : List Stmt} {tc : TDT} (hc : TD X c tc) (ha : SsD X a t) (hb : SsD X b u) : StD X (.If c a b pos) (tIfSD tc t u) := by
  refine (ps_if hc ha hb).wk fun D' σ H ⟨F, σD, M, DD, rel, h, p⟩ => ?_
  unfold tIfSD at h
  refine lT rel h fun b M1 H1 f1 rel1 h1 => ?_
  cases b with
  | true => simp only [if_true] at h1 ⊢; exact lS rel1 h1 (p.mono f1)
  | false => simp only [Bool.false_eq_true, if_false] at h1 ⊢; exact lS rel1 h1 (p.mono f1)
theorem PostS.g {K : KF} {M : HpD} {H : Hp} {DD : EndsD} {D' : Ends} (p : PostS K M H DD D') : PostG K M H DD.nx D'.nx := fun a b c d f r h => p.nx a b c d f r h
theorem sd_asg {tg : Expr} {g : TDG} (he : ED X e te) (hg : GD X tg g) (hs : swapsWithSole [tg] e pos.line X.env = pure false := by rfl) (hw : swappedStores [tg] e X.env = pure none := by rfl)
    (h1 : (assignEach [tg] X.env).map (·.2) = [assign tg X.env] := by rfl) : StD X (.Assign [tg] e pos) (tAsgD te g) := by
  refine (ps_asg he hg hs hw h1).wk fun D' σ H ⟨F, σD, M, DD, rel, h, p⟩ => ?_
  unfold tAsgD at h
  exact lE rel h fun d M1 v H1 f1 rel1 r1 h1 => ⟨F, d, σD, M1, DD.nx, rel1, r1, h1, (p.mono f1).g⟩
theorem sd_set (i : Nat) {x : Str} {pos' : Pos} (hN : X.N.Nodup) (hi : X.N[i]? = some x) (hx : Loc X.env.scope x) (he : ED X e te) (hs : swapsWith e (some (.Name x pos')) pos.line X.env = pure false := by rfl) (hf : X.fn x = true ∨ X.env.scope.names.lookup x = some .local := by first | exact .inl rfl | exact .inr rfl | assumption) :
    StD X (.Assign [.Name x pos'] e pos) (tAsgD te (gNameD i)) := by
  refine (ps_set hN hi hx he hs hf).wk fun D' σ H ⟨F, σD, M, DD, rel, h, p⟩ => ?_
  unfold tAsgD at h
  refine lE rel h fun d M1 v H1 f1 rel1 r1 h1 => ?_
  unfold gNameD at h1
  exact (p.mono f1).nx _ M1 _ H1 .refl (rel1.set i r1) h1
theorem sd_never : StD X st tNeverD := by
  refine ps_never.wk fun D' σ H ⟨F, σD, M, DD, rel, h, p⟩ => ?_
  unfold tNeverD at h
  exact h
theorem ss_never {sts : List Stmt} : SsD X sts tNeverD := by
  refine pss_never.wk fun D' σ H ⟨F, σD, M, DD, rel, h, p⟩ => ?_
  unfold tNeverD at h
  exact h
end

/-! ### what is walked -/
abbrev TDI := SD → HpD → (List D → HpD → Prop) → Prop
/-- the iterator yields these, one after another -/
def Ylds (K : PySem.W.Frag) (F : Addr → Prop) (J : It) (ds : List D) (M : HpD) (H : Hp) : Prop :=
  ∀ F' i M' H', (∀ a, F' a → F a ∨ H a = none) → Fz M H M' H' → RepH ⟨K, F'⟩ H' M' → (∀ d, ds[i]? = some d → J.go i H' ∧ ∀ x H3, J.yld i H' x H3 → Fz M' H' M' H3 ∧ RepH ⟨K, F'⟩ H3 M' ∧ RepD ⟨K, F'⟩ H3 M' d x) ∧ (ds.length ≤ i → J.stop i H')
def LiftI (K : PySem.W.Frag) (t : TDI) : TI := fun σ H R => ∃ F σD M RD, Rel ⟨K, F⟩ σD M σ H ∧ t σD M RD ∧ ∀ ds M' H' J, Fz M H M' H' → RepH ⟨K, F⟩ H' M' → Ylds K F J ds M' H' → RD ds M' → R J H'
/-- more is forbidden: new addresses -/
theorem FzL.more {K : PySem.W.Frag} {F F' : Addr → Prop} {H : Hp} {M : HpD} {a : Addr} {xs : List V} (h : FzL ⟨K, F⟩ H M a xs) (hf : ∀ a, F' a → F a ∨ H a = none) : FzL ⟨K, F'⟩ H M a xs := by
  rcases h with ⟨h, m, n⟩ | h
  · refine .inl ⟨h, m, fun z => ?_⟩
    rcases hf a z with q | q
    · exact n q
    · rcases h with h | ⟨o, h⟩ <;> rw [q] at h <;> cases h
  · exact .inr h
theorem FzT.more {K : PySem.W.Frag} {F F' : Addr → Prop} {H : Hp} {M : HpD} {a : Addr} {xs : List V} (h : FzT ⟨K, F⟩ H M a xs) (hf : ∀ a, F' a → F a ∨ H a = none) : FzT ⟨K, F'⟩ H M a xs := by
  rcases h with ⟨h, m, n⟩ | h
  · refine .inl ⟨h, m, fun z => ?_⟩
    rcases hf a z with q | q
    · exact n q
    · rcases h with h | ⟨o, h⟩ <;> rw [q] at h <;> cases h
  · exact .inr h
mutual
theorem RepD.more {K : PySem.W.Frag} {F F' : Addr → Prop} {H : Hp} {M : HpD} (hf : ∀ a, F' a → F a ∨ H a = none) : ∀ {d : D} {v : V}, RepD ⟨K, F⟩ H M d v → RepD ⟨K, F'⟩ H M d v
  | .non, _, h => by unfold RepD at h ⊢; exact h
  | .bl _, _, h => by unfold RepD at h ⊢; exact h
  | .int _, _, h => by unfold RepD at h ⊢; exact h
  | .str _, _, h => by unfold RepD at h ⊢; exact h
  | .ref _, _, h => by unfold RepD at h ⊢; exact h
  | .ty _, _, h => by unfold RepD at h ⊢; exact h
  | .tup ds, _, h => by
    unfold RepD at h ⊢
    obtain ⟨a, xs, e, h1, h2⟩ := h
    exact ⟨a, xs, e, h1.more hf, RepDs.more hf h2⟩
  | .lst ds, _, h => by
    unfold RepD at h ⊢
    obtain ⟨a, xs, e, h1, h2⟩ := h
    exact ⟨a, xs, e, h1.more hf, RepDs.more hf h2⟩
theorem RepDs.more {K : PySem.W.Frag} {F F' : Addr → Prop} {H : Hp} {M : HpD} (hf : ∀ a, F' a → F a ∨ H a = none) : ∀ {ds : List D} {vs : List V}, RepDs ⟨K, F⟩ H M ds vs → RepDs ⟨K, F'⟩ H M ds vs
  | [], _, h => by unfold RepDs at h ⊢; exact h
  | d :: ds, _, h => by
    unfold RepDs at h ⊢
    obtain ⟨x, r, e, h1, h2⟩ := h
    exact ⟨x, r, e, RepD.more hf h1, RepDs.more hf h2⟩
end
/-- an object that is forbidden is written: what is told does not pass through it -/
theorem FzL.past {K : KF} {H : Hp} {M : HpD} {a p : Addr} {o : HO} {xs : List V} (h : FzL K H M a xs) (hp : K.F p) : FzL K (upd H p o) M a xs := by
  rcases h with ⟨h, m, n⟩ | h
  · have q : a ≠ p := fun z => n (z ▸ hp)
    refine .inl ⟨?_, m, n⟩
    rcases h with h | ⟨u, h⟩
    · exact .inl (by rw [upd_ne q]; exact h)
    · exact .inr ⟨u, by rw [upd_ne q]; exact h⟩
  · exact .inr h
theorem FzT.past {K : KF} {H : Hp} {M : HpD} {a p : Addr} {o : HO} {xs : List V} (h : FzT K H M a xs) (hp : K.F p) : FzT K (upd H p o) M a xs := by
  rcases h with ⟨h, m, n⟩ | h
  · have q : a ≠ p := fun z => n (z ▸ hp)
    refine .inl ⟨?_, m, n⟩
    rcases h with h | ⟨u, h⟩
    · exact .inl (by rw [upd_ne q]; exact h)
    · exact .inr ⟨u, by rw [upd_ne q]; exact h⟩
  · exact .inr h
mutual
theorem RepD.past {K : KF} {H : Hp} {M : HpD} {p : Addr} {o : HO} (hp : K.F p) : ∀ {d : D} {v : V}, RepD K H M d v → RepD K (upd H p o) M d v
  | .non, _, h => by unfold RepD at h ⊢; exact h
  | .bl _, _, h => by unfold RepD at h ⊢; exact h
  | .int _, _, h => by unfold RepD at h ⊢; exact h
  | .str _, _, h => by unfold RepD at h ⊢; exact h
  | .ref _, _, h => by unfold RepD at h ⊢; exact h
  | .ty _, _, h => by unfold RepD at h ⊢; exact h
  | .tup ds, _, h => by
    unfold RepD at h ⊢
    obtain ⟨a, xs, e, h1, h2⟩ := h
    exact ⟨a, xs, e, h1.past hp, RepDs.past hp h2⟩
  | .lst ds, _, h => by
    unfold RepD at h ⊢
    obtain ⟨a, xs, e, h1, h2⟩ := h
    exact ⟨a, xs, e, h1.past hp, RepDs.past hp h2⟩
theorem RepDs.past {K : KF} {H : Hp} {M : HpD} {p : Addr} {o : HO} (hp : K.F p) : ∀ {ds : List D} {vs : List V}, RepDs K H M ds vs → RepDs K (upd H p o) M ds vs
  | [], _, h => by unfold RepDs at h ⊢; exact h
  | d :: ds, _, h => by
    unfold RepDs at h ⊢
    obtain ⟨x, r, e, h1, h2⟩ := h
    exact ⟨x, r, e, RepD.past hp h1, RepDs.past hp h2⟩
end
theorem RepO.more {K : PySem.W.Frag} {F F' : Addr → Prop} {H : Hp} {M : HpD} (hf : ∀ a, F' a → F a ∨ H a = none) {d : OD} {o : HO} (h : RepO ⟨K, F⟩ H M d o) : RepO ⟨K, F'⟩ H M d o := by
  cases d with
  | lst ds => obtain ⟨xs, e, r⟩ := h; exact ⟨xs, e, r.more hf⟩
theorem RepO.past {K : KF} {H : Hp} {M : HpD} {p : Addr} {o : HO} (hp : K.F p) {d : OD} {u : HO} (h : RepO K H M d u) : RepO K (upd H p o) M d u := by
  cases d with
  | lst ds => obtain ⟨xs, e, r⟩ := h; exact ⟨xs, e, r.past hp⟩
theorem FzL.own {K : PySem.W.Frag} {F F' : Addr → Prop} {H : Hp} {M : HpD} {p a : Addr} {o : OD} {xs : List V} (h : FzL ⟨K, F'⟩ H M a xs) (hp : F' p) (hf : ∀ a, F a → F' a ∨ H a = none) : FzL ⟨K, F⟩ H (updD M p o) a xs := by
  rcases h with ⟨h, m, n⟩ | h
  · refine .inl ⟨h, by rw [updD_ne (fun (z : a = p) => n (by show F' a; rw [z]; exact hp))]; exact m, fun z => ?_⟩
    rcases hf a z with q | q
    · exact n q
    · rcases h with h | ⟨o, h⟩ <;> rw [q] at h <;> cases h
  · exact .inr h
theorem FzT.own {K : PySem.W.Frag} {F F' : Addr → Prop} {H : Hp} {M : HpD} {p a : Addr} {o : OD} {xs : List V} (h : FzT ⟨K, F'⟩ H M a xs) (hp : F' p) (hf : ∀ a, F a → F' a ∨ H a = none) : FzT ⟨K, F⟩ H (updD M p o) a xs := by
  rcases h with ⟨h, m, n⟩ | h
  · refine .inl ⟨h, by rw [updD_ne (fun (z : a = p) => n (by show F' a; rw [z]; exact hp))]; exact m, fun z => ?_⟩
    rcases hf a z with q | q
    · exact n q
    · rcases h with h | ⟨o, h⟩ <;> rw [q] at h <;> cases h
  · exact .inr h
mutual
theorem RepD.own {K : PySem.W.Frag} {F F' : Addr → Prop} {H : Hp} {M : HpD} {p : Addr} {o : OD} (hp : F' p) (hf : ∀ a, F a → F' a ∨ H a = none) : ∀ {d : D} {v : V}, RepD ⟨K, F'⟩ H M d v → RepD ⟨K, F⟩ H (updD M p o) d v
  | .non, _, h => by unfold RepD at h ⊢; exact h
  | .bl _, _, h => by unfold RepD at h ⊢; exact h
  | .int _, _, h => by unfold RepD at h ⊢; exact h
  | .str _, _, h => by unfold RepD at h ⊢; exact h
  | .ref _, _, h => by unfold RepD at h ⊢; exact h
  | .ty _, _, h => by unfold RepD at h ⊢; exact h
  | .tup ds, _, h => by
    unfold RepD at h ⊢
    obtain ⟨a, xs, e, h1, h2⟩ := h
    exact ⟨a, xs, e, h1.own hp hf, RepDs.own hp hf h2⟩
  | .lst ds, _, h => by
    unfold RepD at h ⊢
    obtain ⟨a, xs, e, h1, h2⟩ := h
    exact ⟨a, xs, e, h1.own hp hf, RepDs.own hp hf h2⟩
theorem RepDs.own {K : PySem.W.Frag} {F F' : Addr → Prop} {H : Hp} {M : HpD} {p : Addr} {o : OD} (hp : F' p) (hf : ∀ a, F a → F' a ∨ H a = none) : ∀ {ds : List D} {vs : List V}, RepDs ⟨K, F'⟩ H M ds vs → RepDs ⟨K, F⟩ H (updD M p o) ds vs
  | [], _, h => by unfold RepDs at h ⊢; exact h
  | d :: ds, _, h => by
    unfold RepDs at h ⊢
    obtain ⟨x, r, e, h1, h2⟩ := h
    exact ⟨x, r, e, RepD.own hp hf h1, RepDs.own hp hf h2⟩
end
theorem RepO.own {K : PySem.W.Frag} {F F' : Addr → Prop} {H : Hp} {M : HpD} {p : Addr} {o : OD} (hp : F' p) (hf : ∀ a, F a → F' a ∨ H a = none) {d : OD} {u : HO} (h : RepO ⟨K, F'⟩ H M d u) : RepO ⟨K, F⟩ H (updD M p o) d u := by
  cases d with
  | lst ds => obtain ⟨xs, e, r⟩ := h; exact ⟨xs, e, r.own hp hf⟩
theorem RepH.past {K : KF} {H : Hp} {M : HpD} {p : Addr} {o : HO} (hp : K.F p) (h : RepH K H M) : RepH K (upd H p o) M := ⟨fun a d e => by
  obtain ⟨o', e', r⟩ := h.at_ a d e
  have q : a ≠ p := fun z => by rw [z, (h.fb p hp).2] at e; cases e
  exact ⟨o', by rw [upd_ne q]; exact e', r.past hp⟩, fun a ha => ⟨by
  by_cases q : a = p
  · subst q; exact ⟨o, upd_same⟩
  · rw [upd_ne q]; exact (h.fb a ha).1, (h.fb a ha).2⟩⟩
theorem Rel.past {K : KF} {σD : SD} {M : HpD} {σ : St} {H : Hp} {p : Addr} {o : HO} (hp : K.F p) (h : Rel K σD M σ H) : Rel K σD M σ (upd H p o) :=
  ⟨h.len, fun i d e => let ⟨v, e1, e2⟩ := h.st i d e; ⟨v, e1, e2.past hp⟩, h.hp.past hp⟩
theorem PI.wk {X : Cx} {tg e : Expr} {t t' : TI} (h : PI X tg e t) (i : ∀ σ H Q, t' σ H Q → t σ H Q) : PI X tg e t' := fun pins s σ H Q I q => h pins s σ H Q I (i σ H Q q)
abbrev IDD (X : Cx) (tg e : Expr) (t : TDI) : Prop := PI X tg e (LiftI X.K t)
/-- over an unchanging list or tuple -/
@[irreducible] def iSeqD (te : TDE) : TDI := fun σ M R => te σ M fun d M1 => ∃ ds, d = .lst ds ∧ R ds M1
@[irreducible] def iTupD (te : TDE) : TDI := fun σ M R => te σ M fun d M1 => ∃ ds, d = .tup ds ∧ R ds M1
theorem rd_iseq {te : TDE} {σ : SD} {M : HpD} {R : List D → HpD → Prop} (h : te σ M fun d M1 => ∃ ds, d = .lst ds ∧ R ds M1) : iSeqD te σ M R := by unfold iSeqD; exact h
theorem rd_itup {te : TDE} {σ : SD} {M : HpD} {R : List D → HpD → Prop} (h : te σ M fun d M1 => ∃ ds, d = .tup ds ∧ R ds M1) : iTupD te σ M R := by unfold iTupD; exact h
/-- lo, lo + 1, .. -/
def intsD (lo : Int) (n : Nat) : List D := (List.range n).map fun (k : Nat) => .int (lo + (k : Int))
theorem intsD_get {lo : Int} {n i : Nat} {d : D} (h : (intsD lo n)[i]? = some d) : i < n ∧ d = .int (lo + i) := by
  unfold intsD at h
  rw [List.getElem?_map] at h
  by_cases hi : i < n
  · rw [List.getElem?_range hi] at h
    cases h
    exact ⟨hi, rfl⟩
  · rw [List.getElem?_eq_none (by simpa using hi)] at h
    cases h
theorem intsD_len {lo : Int} {n : Nat} : (intsD lo n).length = n := by unfold intsD; simp
@[irreducible] def iRng1D (ta : TDA) : TDI := fun σ M R => ta σ M fun vs M1 => ∃ j : Int, vs = [.int j] ∧ -(2 ^ 62) ≤ j ∧ j < 2 ^ 62 ∧ R (intsD 0 j.toNat) M1
@[irreducible] def iRng2D (ta : TDA) : TDI := fun σ M R => ta σ M fun vs M1 => ∃ i j : Int, vs = [.int i, .int j] ∧ (-(2 ^ 62) ≤ i ∧ i < 2 ^ 62 ∧ -(2 ^ 62) ≤ j ∧ j < 2 ^ 62) ∧ R (intsD i (j - i).toNat) M1
theorem rd_irng1 {ta : TDA} {σ : SD} {M : HpD} {R : List D → HpD → Prop} (h : ta σ M fun vs M1 => ∃ j : Int, vs = [.int j] ∧ -(2 ^ 62) ≤ j ∧ j < 2 ^ 62 ∧ R (intsD 0 j.toNat) M1) : iRng1D ta σ M R := by unfold iRng1D; exact h
theorem rd_irng2 {ta : TDA} {σ : SD} {M : HpD} {R : List D → HpD → Prop} (h : ta σ M fun vs M1 => ∃ i j : Int, vs = [.int i, .int j] ∧ (-(2 ^ 62) ≤ i ∧ i < 2 ^ 62 ∧ -(2 ^ 62) ≤ j ∧ j < 2 ^ 62) ∧ R (intsD i (j - i).toNat) M1) : iRng2D ta σ M R := by unfold iRng2D; exact h
section
variable {X : Cx} {tg l : Expr} {tl : TDE} {pos p : Pos}
theorem ylds_list {K : PySem.W.Frag} {F : Addr → Prop} {H : Hp} {M : HpD} {a : Addr} {xs : List V} {ds : List D} (h : FzL ⟨K, F⟩ H M a xs) (r : RepDs ⟨K, F⟩ H M ds xs) : Ylds K F (Itl K a) ds M H := fun F' i M' H' hf f rh => by
  have h' := ((h.more hf).mono f).sq
  have r' := (r.more hf).mono f
  refine ⟨fun d e => ?_, fun e => ⟨xs, h', by rw [← r'.length]; exact e⟩⟩
  obtain ⟨v, e1, e2⟩ := r'.get e
  refine ⟨⟨xs, v, h', e1⟩, fun x H3 y => ?_⟩
  obtain ⟨rfl, y⟩ := y
  have := y xs h'
  rw [e1] at this; cases this
  exact ⟨.refl, rh, e2⟩
theorem ylds_tup {K : PySem.W.Frag} {F : Addr → Prop} {H : Hp} {M : HpD} {a : Addr} {xs : List V} {ds : List D} (h : FzT ⟨K, F⟩ H M a xs) (r : RepDs ⟨K, F⟩ H M ds xs) : Ylds K F (Itt K a) ds M H := fun F' i M' H' hf f rh => by
  have h' := ((h.more hf).mono f).sq
  have r' := (r.more hf).mono f
  refine ⟨fun d e => ?_, fun e => ⟨xs, h', by rw [← r'.length]; exact e⟩⟩
  obtain ⟨v, e1, e2⟩ := r'.get e
  refine ⟨⟨xs, v, h', e1⟩, fun x H3 y => ?_⟩
  obtain ⟨rfl, y⟩ := y
  have := y xs h'
  rw [e1] at this; cases this
  exact ⟨.refl, rh, e2⟩
theorem ylds_rng {K : PySem.W.Frag} {F : Addr → Prop} {H : Hp} {M : HpD} {lo : Int} {n : Nat} : Ylds K F (Itr lo n) (intsD lo n) M H := fun F' i M' H' hf f rh => by
  refine ⟨fun d e => ?_, fun e => by rw [intsD_len] at e; exact e⟩
  obtain ⟨hi, rfl⟩ := intsD_get e
  refine ⟨hi, fun x H3 y => ?_⟩
  obtain ⟨rfl, rfl⟩ := y
  exact ⟨.refl, rh, by unfold RepD; rfl⟩
theorem id_list (hl : ED X l tl) : IDD X tg l (iSeqD tl) := by
  refine (pi_list hl).wk fun σ H R ⟨F, σD, M, RD, rel, h, p⟩ => ?_
  unfold iSeqD at h
  refine lE rel h fun d M1 v H1 f1 rel1 r1 h1 => ?_
  obtain ⟨ds, rfl, q⟩ := h1
  unfold RepD at r1
  obtain ⟨a, xs, rfl, hz, hr⟩ := r1
  exact ⟨a, rfl, ⟨xs, hz.sq⟩, p ds M1 H1 _ f1 rel1.hp (ylds_list hz hr) q⟩
theorem id_tup (hl : ED X l tl) : IDD X tg l (iTupD tl) := by
  refine (pi_tup hl).wk fun σ H R ⟨F, σD, M, RD, rel, h, p⟩ => ?_
  unfold iTupD at h
  refine lE rel h fun d M1 v H1 f1 rel1 r1 h1 => ?_
  obtain ⟨ds, rfl, q⟩ := h1
  unfold RepD at r1
  obtain ⟨a, xs, rfl, hz, hr⟩ := r1
  exact ⟨a, rfl, ⟨xs, hz.sq⟩, p ds M1 H1 _ f1 rel1.hp (ylds_tup hz hr) q⟩
theorem id_rng1 {a : Expr} {ta : TDA} (hg : Gl X "range") (hm : X.mg "range" = none) (ha : AD X [a] ta) (hs : starEach [a] X.env = [(false, eval a X.env)] := by rfl) : IDD X tg (.Call (.Name "range" p) [a] [] pos) (iRng1D ta) := by
  refine (pi_range1 hg hm ha hs).wk fun σ H R ⟨F, σD, M, RD, rel, h, p⟩ => ?_
  unfold iRng1D at h
  refine lA rel h fun d M1 v H1 f1 rel1 r1 h1 => ?_
  obtain ⟨j, rfl, q1, q2, q⟩ := h1
  obtain ⟨u, rfl, r2⟩ := rep1 r1
  unfold RepD at r2
  subst r2
  exact ⟨j, rfl, q1, q2, p _ M1 H1 _ f1 rel1.hp ylds_rng q⟩
theorem id_rng2 {a b : Expr} {ta : TDA} (hg : Gl X "range") (hm : X.mg "range" = none) (ha : AD X [a, b] ta) (hs : starEach [a, b] X.env = [(false, eval a X.env), (false, eval b X.env)] := by rfl) (hs2 : starEach [b] X.env = [(false, eval b X.env)] := by rfl) :
    IDD X tg (.Call (.Name "range" p) [a, b] [] pos) (iRng2D ta) := by
  refine (pi_range2 hg hm ha hs hs2).wk fun σ H R ⟨F, σD, M, RD, rel, h, p⟩ => ?_
  unfold iRng2D at h
  refine lA rel h fun d M1 v H1 f1 rel1 r1 h1 => ?_
  obtain ⟨i, j, rfl, q1, q⟩ := h1
  obtain ⟨u, w', rfl, r2, r3⟩ := rep2 r1
  unfold RepD at r2 r3
  subst r2 r3
  exact ⟨i, j, rfl, q1, p _ M1 H1 _ f1 rel1.hp ylds_rng q⟩
end

/-! ### for -/
@[irreducible] def tForD (tI : TDI) (g : TDG) (tb : TSD) : TSD := fun DD σ M => tI σ M fun ds M1 => ∃ Pv : Nat → SD → HpD → Prop, Pv 0 σ M1 ∧
  (∀ i d σ M, ds[i]? = some d → Pv i σ M → g d σ M fun σ2 M2 => tb { DD with nx := Pv (i + 1), ct := Pv (i + 1), bk := DD.nx } σ2 M2) ∧ ∀ σ M, Pv ds.length σ M → DD.nx σ M
theorem rd_for {tI : TDI} {g : TDG} {tb : TSD} {DD : EndsD} {σ : SD} {M : HpD} (h : tI σ M fun ds M1 => ∃ Pv : Nat → SD → HpD → Prop, Pv 0 σ M1 ∧
  (∀ i d σ M, ds[i]? = some d → Pv i σ M → g d σ M fun σ2 M2 => tb { DD with nx := Pv (i + 1), ct := Pv (i + 1), bk := DD.nx } σ2 M2) ∧ ∀ σ M, Pv ds.length σ M → DD.nx σ M) : tForD tI g tb DD σ M := by unfold tForD; exact h
/-- a list comprehension -/
@[irreducible] def tCompD (n : Nat) (tI : TDI) (g : TDG) (tc : TDT) (te : TDE) : TDE := fun σ M Q => tI σ M fun ds M1 => ds.length ≤ sizeLine ∧ ∃ Pv : Nat → List D → SD → HpD → Prop, Pv 0 [] (List.replicate n none ++ σ) M1 ∧
  (∀ i d ys σ M, ds[i]? = some d → Pv i ys σ M → g d σ M fun σ2 M2 => tc σ2 M2 fun b M3 => if b = true then te σ2 M3 fun y M4 => Pv (i + 1) (ys ++ [y]) σ2 M4 else Pv (i + 1) ys σ2 M3) ∧ ∀ ys σ M, Pv ds.length ys σ M → newL ys M Q
theorem rd_comp {n : Nat} {tI : TDI} {g : TDG} {tc : TDT} {te : TDE} {σ : SD} {M : HpD} {Q : KD} (h : tI σ M fun ds M1 => ds.length ≤ sizeLine ∧ ∃ Pv : Nat → List D → SD → HpD → Prop, Pv 0 [] (List.replicate n none ++ σ) M1 ∧
  (∀ i d ys σ M, ds[i]? = some d → Pv i ys σ M → g d σ M fun σ2 M2 => tc σ2 M2 fun b M3 => if b = true then te σ2 M3 fun y M4 => Pv (i + 1) (ys ++ [y]) σ2 M4 else Pv (i + 1) ys σ2 M3) ∧ ∀ ys σ M, Pv ds.length ys σ M → newL ys M Q) : tCompD n tI g tc te σ M Q := by unfold tCompD; exact h
@[irreducible] def tIf0D : TDT := fun _ M Q => Q true M
theorem rd_if0 {σ : SD} {M : HpD} {Q : Bool → HpD → Prop} (h : Q true M) : tIf0D σ M Q := by unfold tIf0D; exact h
section
variable {X : Cx} {tg iter elt : Expr} {ifs : List Expr} {scope : Scope} {body : List Stmt} {tI : TDI} {g : TDG} {tb : TSD} {tc : TDT} {te : TDE} {ts rest : List Str} {pos : Pos}
theorem fd_nil : FD X [] tIf0D := by
  refine pifs_nil.wk fun σ H Q ⟨F, σD, M, QD, rel, h, p⟩ => ?_
  unfold tIf0D at h
  exact p true M H .refl rel.hp h
theorem fd_one {c : Expr} (h : TD X c tc) : FD X [c] tc := pifs_one h
theorem sd_for (hi : IDD X tg iter tI) (hg : GD X tg g) (hb : SsD X body tb) (hp : PassesOwn (model X.prog X.w) X.A X.env X.xe := by exact PassesOwn.never) (hc : X.calm = true := by rfl)
    (hs : ∀ x, foldedSetIterable iter X.env x = pure x := by intro _; rfl) : StD X (.For tg iter body [] pos) (tForD tI g tb) := by
  refine (ps_for hp hc hi hg hb hs).wk fun D' σ H ⟨F, σD, M, DD, rel, h, p⟩ => ?_
  unfold tForD at h
  refine ⟨F, σD, M, _, rel, h, fun ds M1 H1 J f1 rh1 y h1 => ?_⟩
  obtain ⟨Pv, p0, step, done⟩ := h1
  refine ⟨fun i m σ' H' => m = ds.length - i ∧ i ≤ ds.length ∧ ∃ σD' M', Rel ⟨X.K, F⟩ σD' M' σ' H' ∧ Fz M1 H1 M' H' ∧ Pv i σD' M', ⟨ds.length, by simp, Nat.zero_le _, σD, M1, rel.mono f1 rh1, .refl, p0⟩, ?_⟩
  rintro i m σ' H' ⟨rfl, hi, σD', M', rel', f', pv⟩
  by_cases hlt : i < ds.length
  · have e : ds[i]? = some ds[i] := List.getElem?_eq_getElem hlt
    obtain ⟨go, yl⟩ := (y F i M' H' (fun _ z => .inl z) f' rel'.hp).1 _ e
    refine .inr ⟨go, fun σ2 H2 => ∃ σD2 M2, Rel ⟨X.K, F⟩ σD2 M2 σ2 H2 ∧ Fz M1 H1 M2 H2 ∧ Pv (i + 1) σD2 M2, fun σ2 H2 ⟨σD2, M2, a1, a2, a3⟩ => ⟨ds.length - (i + 1), by omega, rfl, hlt, σD2, M2, a1, a2, a3⟩, fun x H2 yy => ?_⟩
    obtain ⟨fy, rhy, ry⟩ := yl x H2 yy
    have rel2 := rel'.mono fy rhy
    refine ⟨F, ds[i], σD', M', _, rel2, ry, step i _ σD' M' e pv, fun σD3 M3 σ3 H3 f3 rel3 h3 => ?_⟩
    have ff := (f'.trans fy).trans f3
    refine lS rel3 h3 ⟨fun a b c d f r q => ⟨a, b, r, ff.trans f, q⟩, (p.mono (f1.trans ff)).rt, fun a b c d f r q => (p.mono (f1.trans ff)).nx a b c d f r q, fun a b c d f r q => ⟨a, b, r, ff.trans f, q⟩⟩
  · have e : i = ds.length := by omega
    subst e
    exact .inl ⟨(y F _ M' H' (fun _ z => .inl z) f' rel'.hp).2 (Nat.le_refl _), p.nx _ _ _ _ (f1.trans f') rel' (done _ _ pv)⟩
theorem lift_comp {K : PySem.W.Frag} {n : Nat} {σ : St} {H : Hp} {Q : VK} (h : LiftE K (tCompD n tI g tc te) σ H Q) : tComp n (LiftI K tI) (LiftG K g) (LiftT K tc) (LiftE K te) σ H Q := by
  obtain ⟨F, σD, M, QD, rel, h, p⟩ := h
  unfold tCompD at h
  refine ⟨F, σD, M, _, rel, h, fun ds M1 H1 J f1 rh1 y h1 => ?_⟩
  intro D' hD
  obtain ⟨hsz, Pv, p0, step, done⟩ := h1
  have mD := rh1.free hD
  have fF : ∀ a, (F a ∨ a = D') → F a ∨ H1 a = none := fun a z => z.elim .inl fun e => .inr (e ▸ hD)
  have rel1 := rel.mono f1 rh1
  -- the start: D' is forbidden
  have relS : Rel ⟨K, fun a => F a ∨ a = D'⟩ (List.replicate n none ++ σD) M1 (List.replicate n none ++ σ) (upd H1 D' (.lst [])) := by
    have r1 : Rel ⟨K, F⟩ (List.replicate n none ++ σD) M1 (List.replicate n none ++ σ) H1 := rel1.pad n
    refine ⟨r1.len, fun i d e => ?_, ⟨fun a o e => ?_, fun a z => ?_⟩⟩
    · obtain ⟨v, e1, e2⟩ := r1.st i d e
      exact ⟨v, e1, (e2.more fF).mono (fz_new hD)⟩
    · obtain ⟨o', e', r⟩ := rh1.at_ a o e
      exact ⟨o', by rw [upd_ne (ne_of_none e' hD)]; exact e', (r.more fF).mono (fz_new hD)⟩
    · rcases z with z | rfl
      · obtain ⟨⟨o', e'⟩, m'⟩ := rh1.fb a z
        exact ⟨⟨o', by rw [upd_ne (ne_of_none e' hD)]; exact e'⟩, m'⟩
      · exact ⟨⟨_, upd_same⟩, mD⟩
  refine ⟨fun i m ys σ' H' => m = ds.length - i ∧ i ≤ ds.length ∧ ys.length ≤ i ∧ H' D' = some (.lst ys) ∧ ∃ σD' M' ysD, Rel ⟨K, fun a => F a ∨ a = D'⟩ σD' M' σ' H' ∧ Fz M1 H1 M' H' ∧ RepDs ⟨K, fun a => F a ∨ a = D'⟩ H' M' ysD ys ∧ Pv i ysD σD' M',
    ⟨ds.length, by simp, Nat.zero_le _, Nat.zero_le _, upd_same, _, M1, [], relS, fz_new hD, .nil, p0⟩, ?_⟩
  rintro i m ys σ' H' ⟨rfl, hi, hyl, eD, σD', M', ysD, rel', f', ry, pv⟩
  have mD' : M' D' = none := (rel'.hp.fb D' (.inr rfl)).2
  by_cases hlt : i < ds.length
  · have e : ds[i]? = some ds[i] := List.getElem?_eq_getElem hlt
    obtain ⟨go, yl⟩ := (y _ i M' H' fF f' rel'.hp).1 _ e
    refine .inr ⟨go, fun x H2 yy => ?_⟩
    obtain ⟨fy, rhy, rx⟩ := yl x H2 yy
    have eD2 := (fy D' _ eD mD').1
    refine ⟨_, ds[i], σD', M', _, rel'.mono fy rhy, rx, step i _ ysD σD' M' e pv, fun σD3 M3 σ3 H3 f3 rel3 h3 => ?_⟩
    refine lT rel3 h3 fun b M4 H4 f4 rel4 h4 => ?_
    have f14 : Fz M1 H1 M4 H4 := ((f'.trans fy).trans f3).trans f4
    have fD4 : Fz M' H' M4 H4 := (fy.trans f3).trans f4
    cases b with
    | false =>
      simp only [Bool.false_eq_true, if_false] at h4 ⊢
      exact ⟨ds.length - (i + 1), by omega, rfl, hlt, by omega, (fD4 D' _ eD mD').1, σD3, M4, ysD, rel4, f14, ry.mono fD4, h4⟩
    | true =>
      simp only [if_true] at h4 ⊢
      refine lE rel4 h4 fun yd M5 v H5 f5 rel5 r5 h5 => ?_
      have fD5 := fD4.trans f5
      obtain ⟨eD5, mD5⟩ := fD5 D' _ eD mD'
      have hF : (KF.mk K fun a => F a ∨ a = D').F D' := .inr rfl
      refine ⟨eD5, by omega, ds.length - (i + 1), by omega, rfl, hlt, by rw [List.length_append, List.length_singleton]; omega, upd_same, σD3, M5, ysD ++ [yd], rel5.past hF, fun a o q z => ?_, ((ry.mono fD5).append (.cons r5 .nil)).past hF, h5⟩
      obtain ⟨q1, q2⟩ := (f14.trans f5) a o q z
      exact ⟨by rw [upd_ne (ne_of_none q hD)]; exact q1, q2⟩
  · have e : i = ds.length := by omega
    subst e
    refine .inl ⟨(y _ _ M' H' fF f' rel'.hp).2 (Nat.le_refl _), eD, ?_⟩
    -- the end: D' is told
    have fL : ∀ a, F a → (F a ∨ a = D') ∨ H' a = none := fun a z => .inl (.inl z)
    have rhE : RepH ⟨K, F⟩ H' M' := ⟨fun a o q => by
      obtain ⟨o', e', r⟩ := rel'.hp.at_ a o q
      exact ⟨o', e', r.more fL⟩, fun a z => rel'.hp.fb a (.inl z)⟩
    have hn := done ysD σD' M' pv
    unfold newL at hn
    obtain ⟨hl, hn⟩ := hn
    have nf : ¬ F D' := rh1.nf hD
    rcases hn with hn | hn
    · exact p _ M' _ H' (f1.trans f') rhE (by unfold RepD; exact ⟨D', ys, rfl, .inl ⟨.inl eD, mD', nf⟩, ry.more fL⟩) hn
    · refine p _ (updD M' D' (.lst ysD)) _ H' (f1.trans fun a o q z => ?_) ⟨fun a o q => ?_, fun a z => ⟨(rhE.fb a z).1, ?_⟩⟩ (by unfold RepD; rfl) (hn D' mD')
      · obtain ⟨q1, q2⟩ := f' a o q z
        exact ⟨q1, by rw [updD_ne (ne_of_none q hD)]; exact q2⟩
      · by_cases qa : a = D'
        · rw [qa, updD_same] at q; cases q
          rw [qa]
          refine ⟨_, eD, ys, rfl, ?_⟩
          -- what is gathered does not pass through the list itself
          exact RepDs.own (F' := fun a => F a ∨ a = D') (.inr rfl) fL ry
        · rw [updD_ne qa] at q
          obtain ⟨o', e', r⟩ := rel'.hp.at_ a o q
          exact ⟨o', e', RepO.own (F' := fun a => F a ∨ a = D') (.inr rfl) fL r⟩
      · rw [updD_ne (fun (z' : a = D') => nf (by rw [← z']; exact z))]; exact (rhE.fb a z).2
theorem ed_comp (S : CompScope X scope ts rest) (hi : IDD X tg iter tI)
    (hg : ∀ fp s H, GD (compCx X scope ts rest fp s H) tg g) (ht : ∀ fp s H, FD (compCx X scope ts rest fp s H) ifs tc) (he : ∀ fp s H, ED (compCx X scope ts rest fp s H) elt te)
    (hc : X.calm = true := by rfl) (hs : ∀ x, foldedSetIterable iter X.env x = pure x := by intro _; rfl) : ED X (.ListComp elt [⟨tg, iter, ifs, 0⟩] scope pos) (tCompD ts.length tI g tc te) :=
  (pe_comp (g := LiftG X.K g) (tc := LiftT X.K tc) (te := LiftE X.K te) hc S hi hg ht he hs).wk fun _ _ _ h => lift_comp h
theorem sd_comp (i : Nat) {x : Str} {pos' spos : Pos} (S : CompScope X scope ts rest) (hi : IDD X tg iter tI)
    (hg : ∀ fp s H, GD (compCx X scope ts rest fp s H) tg g) (ht : ∀ fp s H, FD (compCx X scope ts rest fp s H) ifs tc) (he : ∀ fp s H, ED (compCx X scope ts rest fp s H) elt te)
    (hN : X.N.Nodup) (hx : X.N[i]? = some x) (hl : Loc X.env.scope x) (hc : X.calm = true := by rfl)
    (hsw : swapsWith (.ListComp elt [⟨tg, iter, ifs, 0⟩] scope pos) (some (.Name x pos')) spos.line X.env = pure true := by rfl)
    (hs : ∀ x, foldedSetIterable iter X.env x = pure x := by intro _; rfl) (hf : X.fn x = true ∨ X.env.scope.names.lookup x = some .local := by first | exact .inl rfl | exact .inr rfl | assumption) :
    StD X (.Assign [.Name x pos'] (.ListComp elt [⟨tg, iter, ifs, 0⟩] scope pos) spos) (tAsgD (tCompD ts.length tI g tc te) (gNameD i)) := by
  refine (ps_set_comp (g := LiftG X.K g) (tc := LiftT X.K tc) (te := LiftE X.K te) hc S hi hg ht he hN hx hl hsw hs hf).wk fun D' σ H ⟨F, σD, M, DD, rel, h, p⟩ => ?_
  unfold tAsgD at h
  refine lift_comp ⟨F, σD, M, _, rel, h, fun d M1 v H1 f1 rh1 r1 h1 => ?_⟩
  unfold gNameD at h1
  exact (p.mono f1).nx _ M1 _ H1 .refl ((rel.mono f1 rh1).set i r1) h1
end
end L2

namespace L2
open PySem PySem.Spec PyProof.Rows
theorem callKw_tree {prog : Program} {w : World} {A : Around} {E : Value → Shared → Prop} {s : Shared} {id : String} {b : Builtin} {args : List Value} {kw : List (Str × Value)} {Q : Value → Shared → Prop} (hk : builtinKind id = none) (hp : plainId id = true)
    (hb : entryFor table id = some b) (ha : argsOk id ⟨args, kw⟩)
    (hc : wpAny (model prog w) A.in1 (b ⟨args, kw⟩) (fun fin s' => match fin with
      | .done f => (match (Except.ok f : Result) with | .ok (.ret v) => Q v s' | .ok _ => False | .error e => E e s')
      | .again c' => c'.quiet = true ∧ codeAny (model prog w) A c' (fun r s' => match r with | .ok (.ret v) => Q v s' | .ok _ => False | .error e => E e s') s') E s) :
    wpAny (model prog w) A (call (.builtin id) args kw) Q E s := by
  refine wpAny_call (codeAny_call_builtin hp hb ?_)
  simp only [checkBuiltinCall, hk]
  cases hsig : Manifest.signature? id with
  | none => exact wpAny_pure hc
  | some sig =>
    simp only [argsOk, hsig] at ha
    have h2 : Bind.checkArgs id sig ⟨args, kw⟩ = pure () := ha
    show wpAny _ A.in1 (Bind.checkArgs id sig ⟨args, kw⟩) _ _ s
    rw [h2]
    exact wpAny_pure hc

/-! ### max over a list, with a default -/
section
variable {prog : Program} {w : World} {A : Around} {R : Result → Shared → Prop} {I : Addr} {fp wr : List Addr} {n : Nat} {P : Nat → Value → Prop} {St : Nat → Heap → Prop} {kw : List (Str × Value)}
theorem loopmax (W : Walks prog w A.in1 I fp wr n P St) (bt : Nat → Nat → Bool) (hcmp : CmpOf prog w A.in1 .Gt P bt) (S : Addr) (hSf : S ∉ fp) :
    ∀ (k j : Nat) (s : Shared) (vb : Value) (c : Nat), n - (j + 1) = k → j + 1 ≤ n → St (j + 1) s.heap → P (argBest bt j) vb →
    s.heap.get? S = some { cls := .type "list", dict := none, data := .seq #[vb, vb] c, slots := #[] } →
    (∀ v h' tk, P (argBest bt (n - 1)) v → (∀ b o, b ∉ wr → b ≠ S → s.heap.get? b = some o → h'.get? b = some o) → R (.ok (.ret v)) { s with heap := h', toks := tk }) →
    codeAny (model prog w) A (.builtin "max.loop" ⟨[.ref I, .none, .ref S], kw⟩) R s := by
  have nSw : S ∉ wr := fun z => hSf (W.sub _ z)
  have nm : (toString "max" ++ toString ".loop" : String) = "max.loop" := by decide
  intro k
  induction k with
  | zero =>
    intro j s vb c e1 e2 st pb eS hR
    have e3 : j + 1 = n := by omega
    refine codeAny_builtin PySem.F.entry_max_loop ?_
    rw [Around.under_plainId PySem.F.plain_max_loop _]
    show wpAny _ A.in1 (seqItems? (.ref S) >>= _) _ _ s
    refine wpAny_bind (wpAny_seqItems eS rfl ?_)
    show wpAny _ A.in1 (tryCatch (pyNext (.ref I)) _ >>= _) _ _ s
    refine wpAny_bind (wpAny_tryCatch (W.done s _ _ (e3 ▸ st) fun h1 t1 k1 => ?_))
    have eS1 := k1 S _ nSw eS
    show wpAny _ A.in1 (updateSeq S (fun _ => #[]) >>= _) _ _ _
    refine wpAny_bind ?_
    refine wpAny_updateSeq eS1 rfl (wpAny_bind (wpAny_letGo (wpAny_pure ?_)))
    refine hR vb _ t1 (by rw [← e3]; exact pb) fun b o z1 z2 q => ?_
    exact (Heap.get?_update_other _ _ (Ne.symm z2)).trans (k1 b o z1 q)
  | succ k ih =>
    intro j s vb c e1 e2 st pb eS hR
    have e3 : j + 1 < n := by omega
    refine codeAny_builtin PySem.F.entry_max_loop ?_
    rw [Around.under_plainId PySem.F.plain_max_loop _]
    show wpAny _ A.in1 (seqItems? (.ref S) >>= _) _ _ s
    refine wpAny_bind (wpAny_seqItems eS rfl ?_)
    show wpAny _ A.in1 (tryCatch (pyNext (.ref I)) _ >>= _) _ _ s
    refine wpAny_bind (wpAny_tryCatch (W.item (j + 1) s _ _ e3 st fun v h1 t1 pv st1 k1 => ?_))
    have eS1 := k1 S _ nSw eS
    show wpAny _ A.in1 (tryCatch (holding [v, v] (richCompare .Gt v vb >>= _)) _ >>= _) _ _ _
    refine wpAny_bind (wpAny_tryCatch (wpAny_holding (wpAny_bind (hcmp (j + 1) (argBest bt j) v vb _ _ _ pv pb ?_))))
    refine wpAny_bind (wpAny_holding (wpAny_truthy_bool ?_))
    refine wpAny_bind (wpAny_letGo (wpAny_pure ?_))
    cases hb : bt (j + 1) (argBest bt j) with
    | true =>
      simp only [if_true]
      refine wpAny_bind ?_
      refine wpAny_updateSeq eS1 rfl (wpAny_bind (wpAny_letGo ?_))
      rw [nm]
      refine wpAny_pure ⟨plainId_quiet PySem.F.plain_max_loop _, ih (j + 1) _ v _ (by omega) e3 (W.frame _ _ _ st1 fun b z o q => ?_) (by simp only [argBest, hb, if_true]; exact pv) (Heap.get?_update_self _ eS1 rfl) fun v2 h2 t2 pv2 k2 => ?_⟩
      · exact (Heap.get?_update_other _ _ (fun z2 : S = b => hSf (by rw [z2]; exact z))).trans q
      · exact hR v2 h2 t2 pv2 fun b o z1 z2 q => k2 b o z1 z2 ((Heap.get?_update_other _ _ (Ne.symm z2)).trans (k1 b o z1 q))
    | false =>
      simp only [Bool.false_eq_true, if_false]
      refine wpAny_bind (wpAny_letGo ?_)
      rw [nm]
      refine wpAny_pure ⟨plainId_quiet PySem.F.plain_max_loop _, ih (j + 1) _ vb c (by omega) e3 st1 (by simp only [argBest, hb, Bool.false_eq_true, if_false]; exact pb) eS1 fun v2 h2 t2 pv2 k2 => ?_⟩
      exact hR v2 h2 t2 pv2 fun b o z1 z2 q => k2 b o z1 z2 (k1 b o z1 q)
theorem loopmax0 (W : Walks prog w A.in1 I fp wr n P St) (bt : Nat → Nat → Bool) (hcmp : CmpOf prog w A.in1 .Gt P bt) (S : Addr) (hSf : S ∉ fp) {s : Shared} {c : Nat} {x : Str} {d : Value} (st : St 0 s.heap)
    (eS : s.heap.get? S = some { cls := .type "list", dict := none, data := .seq #[] c, slots := #[] })
    (hR : ∀ v h' tk, (if n = 0 then v = d else P (argBest bt (n - 1)) v) → (∀ b o, b ∉ wr → b ≠ S → s.heap.get? b = some o → h'.get? b = some o) → R (.ok (.ret v)) { s with heap := h', toks := tk }) :
    codeAny (model prog w) A (.builtin "max.loop" ⟨[.ref I, .none, .ref S], [(x, d)]⟩) R s := by
  have nSw : S ∉ wr := fun z => hSf (W.sub _ z)
  have nm : (toString "max" ++ toString ".loop" : String) = "max.loop" := by decide
  refine codeAny_builtin PySem.F.entry_max_loop ?_
  rw [Around.under_plainId PySem.F.plain_max_loop _]
  show wpAny _ A.in1 (seqItems? (.ref S) >>= _) _ _ s
  refine wpAny_bind (wpAny_seqItems eS rfl ?_)
  show wpAny _ A.in1 (tryCatch (pyNext (.ref I)) _ >>= _) _ _ s
  by_cases hn : n = 0
  · subst hn
    refine wpAny_bind (wpAny_tryCatch (W.done s _ _ st fun h1 t1 k1 => ?_))
    show wpAny _ A.in1 (rule _ >>= _) _ _ _
    refine wpAny_bind (wpAny_rule (wpAny_pure ?_))
    exact hR d h1 t1 (by rw [if_pos rfl]) fun b o z1 _ q => k1 b o z1 q
  · have hn' : 0 < n := Nat.pos_of_ne_zero hn
    refine wpAny_bind (wpAny_tryCatch (W.item 0 s _ _ hn' st fun v h1 t1 pv st1 k1 => ?_))
    have eS1 := k1 S _ nSw eS
    show wpAny _ A.in1 (updateSeq S (fun _ => #[v, v]) >>= _) _ _ _
    refine wpAny_bind ?_
    refine wpAny_updateSeq eS1 rfl ?_
    rw [nm]
    refine wpAny_pure ⟨plainId_quiet PySem.F.plain_max_loop _, loopmax W bt hcmp S hSf _ 0 _ v _ rfl hn' (W.frame _ _ _ st1 fun b z o q => ?_) pv (Heap.get?_update_self _ eS1 rfl) fun v2 h2 t2 pv2 k2 => ?_⟩
    · exact (Heap.get?_update_other _ _ (fun z2 : S = b => hSf (by rw [z2]; exact z))).trans q
    · exact hR v2 h2 t2 (by rw [if_neg hn]; exact pv2) fun b o z1 z2 q => k2 b o z1 z2 ((Heap.get?_update_other _ _ (Ne.symm z2)).trans (k1 b o z1 q))
end
theorem callmax_d {prog : Program} {w : World} {A : Around} {E : Value → Shared → Prop} {s : Shared} {x d : Value} {Q : Value → Shared → Prop}
    (h : wpAny (model prog w) A.in1 (pyIter x) (fun it s₂ => ∃ I fp wr n P St bt, it = .ref I ∧ Walks prog w A.in1 I fp wr n P St ∧ St 0 s₂.heap ∧ (∀ b ∈ fp, b < s₂.heap.objs.size) ∧ CmpOf prog w A.in1 .Gt P bt ∧
      ∀ v h' tk, (if n = 0 then v = d else P (argBest bt (n - 1)) v) → (∀ b o, b ∉ wr → s₂.heap.get? b = some o → h'.get? b = some o) → Q v { s₂ with heap := h', toks := tk }) E s) :
    wpAny (model prog w) A (call (.builtin "max") [x] [("default", d)]) Q E s := by
  have nm : (toString "max" ++ toString ".loop" : String) = "max.loop" := by decide
  refine callKw_tree PySem.F.kind_max PySem.F.plain_max PySem.F.entry_max (by unfold argsOk; kernel_rfl) ?_
  show wpAny _ A.in1 (Builtin.Builtins.bindParams "max" ["key", "default"] 0 ⟨[], [("default", d)]⟩ >>= _) _ _ s
  refine wpAny_bind (wpAny_of_eq (show Builtin.Builtins.bindParams "max" ["key", "default"] 0 ⟨[], [("default", d)]⟩ = pure [none, some d] from rfl) ?_)
  refine wpAny_bind (wpAny_pure ?_)
  refine wpAny_bind (wpAny_mono h (fun it s₂ h₂ => ?_) fun _ _ e => e)
  obtain ⟨I, fp, wr, n, P, St, bt, rfl, W, hst, hfp, hcmp, hQ⟩ := h₂
  refine wpAny_bind (wpAny_newObj_type ?_)
  have hSf : s₂.heap.objs.size ∉ fp := fun z => Nat.lt_irrefl _ (hfp _ z)
  rw [nm]
  refine wpAny_pure ⟨plainId_quiet PySem.F.plain_max_loop _, loopmax0 W bt hcmp s₂.heap.objs.size hSf (W.frame _ _ _ hst fun b _ o e => Heap.get?_push_of_some _ e) (Heap.get?_push_size _ rfl) fun v h1 t1 pv k1 => ?_⟩
  exact hQ v h1 t1 pv fun b o z e => k1 b o z (Nat.ne_of_lt (Heap.lt_size e)) (Heap.get?_push_of_some _ e)

/-! ### min over a list, with a default -/
section
variable {prog : Program} {w : World} {A : Around} {R : Result → Shared → Prop} {I : Addr} {fp wr : List Addr} {n : Nat} {P : Nat → Value → Prop} {St : Nat → Heap → Prop} {kw : List (Str × Value)}
theorem loopmin (W : Walks prog w A.in1 I fp wr n P St) (bt : Nat → Nat → Bool) (hcmp : CmpOf prog w A.in1 .Lt P bt) (S : Addr) (hSf : S ∉ fp) :
    ∀ (k j : Nat) (s : Shared) (vb : Value) (c : Nat), n - (j + 1) = k → j + 1 ≤ n → St (j + 1) s.heap → P (argBest bt j) vb →
    s.heap.get? S = some { cls := .type "list", dict := none, data := .seq #[vb, vb] c, slots := #[] } →
    (∀ v h' tk, P (argBest bt (n - 1)) v → (∀ b o, b ∉ wr → b ≠ S → s.heap.get? b = some o → h'.get? b = some o) → R (.ok (.ret v)) { s with heap := h', toks := tk }) →
    codeAny (model prog w) A (.builtin "min.loop" ⟨[.ref I, .none, .ref S], kw⟩) R s := by
  have nSw : S ∉ wr := fun z => hSf (W.sub _ z)
  have nm : (toString "min" ++ toString ".loop" : String) = "min.loop" := by decide
  intro k
  induction k with
  | zero =>
    intro j s vb c e1 e2 st pb eS hR
    have e3 : j + 1 = n := by omega
    refine codeAny_builtin PySem.F.entry_min_loop ?_
    rw [Around.under_plainId PySem.F.plain_min_loop _]
    show wpAny _ A.in1 (seqItems? (.ref S) >>= _) _ _ s
    refine wpAny_bind (wpAny_seqItems eS rfl ?_)
    show wpAny _ A.in1 (tryCatch (pyNext (.ref I)) _ >>= _) _ _ s
    refine wpAny_bind (wpAny_tryCatch (W.done s _ _ (e3 ▸ st) fun h1 t1 k1 => ?_))
    have eS1 := k1 S _ nSw eS
    show wpAny _ A.in1 (updateSeq S (fun _ => #[]) >>= _) _ _ _
    refine wpAny_bind ?_
    refine wpAny_updateSeq eS1 rfl (wpAny_bind (wpAny_letGo (wpAny_pure ?_)))
    refine hR vb _ t1 (by rw [← e3]; exact pb) fun b o z1 z2 q => ?_
    exact (Heap.get?_update_other _ _ (Ne.symm z2)).trans (k1 b o z1 q)
  | succ k ih =>
    intro j s vb c e1 e2 st pb eS hR
    have e3 : j + 1 < n := by omega
    refine codeAny_builtin PySem.F.entry_min_loop ?_
    rw [Around.under_plainId PySem.F.plain_min_loop _]
    show wpAny _ A.in1 (seqItems? (.ref S) >>= _) _ _ s
    refine wpAny_bind (wpAny_seqItems eS rfl ?_)
    show wpAny _ A.in1 (tryCatch (pyNext (.ref I)) _ >>= _) _ _ s
    refine wpAny_bind (wpAny_tryCatch (W.item (j + 1) s _ _ e3 st fun v h1 t1 pv st1 k1 => ?_))
    have eS1 := k1 S _ nSw eS
    show wpAny _ A.in1 (tryCatch (holding [v, v] (richCompare .Lt v vb >>= _)) _ >>= _) _ _ _
    refine wpAny_bind (wpAny_tryCatch (wpAny_holding (wpAny_bind (hcmp (j + 1) (argBest bt j) v vb _ _ _ pv pb ?_))))
    refine wpAny_bind (wpAny_holding (wpAny_truthy_bool ?_))
    refine wpAny_bind (wpAny_letGo (wpAny_pure ?_))
    cases hb : bt (j + 1) (argBest bt j) with
    | true =>
      simp only [if_true]
      refine wpAny_bind ?_
      refine wpAny_updateSeq eS1 rfl (wpAny_bind (wpAny_letGo ?_))
      rw [nm]
      refine wpAny_pure ⟨plainId_quiet PySem.F.plain_min_loop _, ih (j + 1) _ v _ (by omega) e3 (W.frame _ _ _ st1 fun b z o q => ?_) (by simp only [argBest, hb, if_true]; exact pv) (Heap.get?_update_self _ eS1 rfl) fun v2 h2 t2 pv2 k2 => ?_⟩
      · exact (Heap.get?_update_other _ _ (fun z2 : S = b => hSf (by rw [z2]; exact z))).trans q
      · exact hR v2 h2 t2 pv2 fun b o z1 z2 q => k2 b o z1 z2 ((Heap.get?_update_other _ _ (Ne.symm z2)).trans (k1 b o z1 q))
    | false =>
      simp only [Bool.false_eq_true, if_false]
      refine wpAny_bind (wpAny_letGo ?_)
      rw [nm]
      refine wpAny_pure ⟨plainId_quiet PySem.F.plain_min_loop _, ih (j + 1) _ vb c (by omega) e3 st1 (by simp only [argBest, hb, Bool.false_eq_true, if_false]; exact pb) eS1 fun v2 h2 t2 pv2 k2 => ?_⟩
      exact hR v2 h2 t2 pv2 fun b o z1 z2 q => k2 b o z1 z2 (k1 b o z1 q)
theorem loopmin0 (W : Walks prog w A.in1 I fp wr n P St) (bt : Nat → Nat → Bool) (hcmp : CmpOf prog w A.in1 .Lt P bt) (S : Addr) (hSf : S ∉ fp) {s : Shared} {c : Nat} {x : Str} {d : Value} (st : St 0 s.heap)
    (eS : s.heap.get? S = some { cls := .type "list", dict := none, data := .seq #[] c, slots := #[] })
    (hR : ∀ v h' tk, (if n = 0 then v = d else P (argBest bt (n - 1)) v) → (∀ b o, b ∉ wr → b ≠ S → s.heap.get? b = some o → h'.get? b = some o) → R (.ok (.ret v)) { s with heap := h', toks := tk }) :
    codeAny (model prog w) A (.builtin "min.loop" ⟨[.ref I, .none, .ref S], [(x, d)]⟩) R s := by
  have nSw : S ∉ wr := fun z => hSf (W.sub _ z)
  have nm : (toString "min" ++ toString ".loop" : String) = "min.loop" := by decide
  refine codeAny_builtin PySem.F.entry_min_loop ?_
  rw [Around.under_plainId PySem.F.plain_min_loop _]
  show wpAny _ A.in1 (seqItems? (.ref S) >>= _) _ _ s
  refine wpAny_bind (wpAny_seqItems eS rfl ?_)
  show wpAny _ A.in1 (tryCatch (pyNext (.ref I)) _ >>= _) _ _ s
  by_cases hn : n = 0
  · subst hn
    refine wpAny_bind (wpAny_tryCatch (W.done s _ _ st fun h1 t1 k1 => ?_))
    show wpAny _ A.in1 (rule _ >>= _) _ _ _
    refine wpAny_bind (wpAny_rule (wpAny_pure ?_))
    exact hR d h1 t1 (by rw [if_pos rfl]) fun b o z1 _ q => k1 b o z1 q
  · have hn' : 0 < n := Nat.pos_of_ne_zero hn
    refine wpAny_bind (wpAny_tryCatch (W.item 0 s _ _ hn' st fun v h1 t1 pv st1 k1 => ?_))
    have eS1 := k1 S _ nSw eS
    show wpAny _ A.in1 (updateSeq S (fun _ => #[v, v]) >>= _) _ _ _
    refine wpAny_bind ?_
    refine wpAny_updateSeq eS1 rfl ?_
    rw [nm]
    refine wpAny_pure ⟨plainId_quiet PySem.F.plain_min_loop _, loopmin W bt hcmp S hSf _ 0 _ v _ rfl hn' (W.frame _ _ _ st1 fun b z o q => ?_) pv (Heap.get?_update_self _ eS1 rfl) fun v2 h2 t2 pv2 k2 => ?_⟩
    · exact (Heap.get?_update_other _ _ (fun z2 : S = b => hSf (by rw [z2]; exact z))).trans q
    · exact hR v2 h2 t2 (by rw [if_neg hn]; exact pv2) fun b o z1 z2 q => k2 b o z1 z2 ((Heap.get?_update_other _ _ (Ne.symm z2)).trans (k1 b o z1 q))
end
theorem callmin_d {prog : Program} {w : World} {A : Around} {E : Value → Shared → Prop} {s : Shared} {x d : Value} {Q : Value → Shared → Prop}
    (h : wpAny (model prog w) A.in1 (pyIter x) (fun it s₂ => ∃ I fp wr n P St bt, it = .ref I ∧ Walks prog w A.in1 I fp wr n P St ∧ St 0 s₂.heap ∧ (∀ b ∈ fp, b < s₂.heap.objs.size) ∧ CmpOf prog w A.in1 .Lt P bt ∧
      ∀ v h' tk, (if n = 0 then v = d else P (argBest bt (n - 1)) v) → (∀ b o, b ∉ wr → s₂.heap.get? b = some o → h'.get? b = some o) → Q v { s₂ with heap := h', toks := tk }) E s) :
    wpAny (model prog w) A (call (.builtin "min") [x] [("default", d)]) Q E s := by
  have nm : (toString "min" ++ toString ".loop" : String) = "min.loop" := by decide
  refine callKw_tree PySem.F.kind_min PySem.F.plain_min PySem.F.entry_min (by unfold argsOk; kernel_rfl) ?_
  show wpAny _ A.in1 (Builtin.Builtins.bindParams "min" ["key", "default"] 0 ⟨[], [("default", d)]⟩ >>= _) _ _ s
  refine wpAny_bind (wpAny_of_eq (show Builtin.Builtins.bindParams "min" ["key", "default"] 0 ⟨[], [("default", d)]⟩ = pure [none, some d] from rfl) ?_)
  refine wpAny_bind (wpAny_pure ?_)
  refine wpAny_bind (wpAny_mono h (fun it s₂ h₂ => ?_) fun _ _ e => e)
  obtain ⟨I, fp, wr, n, P, St, bt, rfl, W, hst, hfp, hcmp, hQ⟩ := h₂
  refine wpAny_bind (wpAny_newObj_type ?_)
  have hSf : s₂.heap.objs.size ∉ fp := fun z => Nat.lt_irrefl _ (hfp _ z)
  rw [nm]
  refine wpAny_pure ⟨plainId_quiet PySem.F.plain_min_loop _, loopmin0 W bt hcmp s₂.heap.objs.size hSf (W.frame _ _ _ hst fun b _ o e => Heap.get?_push_of_some _ e) (Heap.get?_push_size _ rfl) fun v h1 t1 pv k1 => ?_⟩
  exact hQ v h1 t1 pv fun b o z e => k1 b o z (Nat.ne_of_lt (Heap.lt_size e)) (Heap.get?_push_of_some _ e)

/-! ### what a list's iterator is, inside a state -/
section
variable {X : Cx} {pins : List (Addr × Obj)} {σ : St} {H : Hp} {s : Shared}
/-- a list of the abstract heap is walked by a built-in -/
theorem walk_list {A : Around} {E : Value → Shared → Prop} {a : Addr} {xs : List V} {Q : Value → Shared → Prop} (I : Inv X pins σ H s) (hh : A.handled = none) (hs : SqL X.K H a xs)
    (h : ∀ (it : Addr) (its : List Value), Vals xs its → Walks X.prog X.w A it [it, a] [it] its.toArray.size (fun i v => its.toArray[i]? = some v) (fun i h => h.IsListIter it a i ∧ h.IsList a its.toArray) →
      ∀ s₂ : Shared, (∃ h2, s₂ = { s with heap := h2 } ∧ ∀ b o, s.heap.get? b = some o → h2.get? b = some o) → (s₂.heap.IsListIter it a 0 ∧ s₂.heap.IsList a its.toArray) → s.heap.objs.size ≤ it → (∀ b ∈ [it, a], b < s₂.heap.objs.size) → Q (.ref it) s₂) : wpAny (model X.prog X.w) A (pyIter (.ref a)) Q E s := by
  obtain ⟨its, rv, p, hz⟩ := I.list hs
  obtain ⟨o, ho, _⟩ := id p.isList
  have ha : a < s.heap.objs.size := Heap.lt_size ho
  refine wpAny_pyIter_list p.isList ?_
  refine h s.heap.objs.size its rv (Walks.list hh _ a (Nat.ne_of_lt ha) its.toArray) _ ⟨_, rfl, fun b o e => Heap.get?_push_of_some _ e⟩ ⟨⟨_, Heap.get?_push_size _ rfl, rfl, rfl⟩, p.isList.at fun o e => Heap.get?_push_of_some _ e⟩ (Nat.le_refl _) fun b hb => ?_
  have hz2 : (s.heap.push { cls := .type "list_iterator", data := .fields #[.ref a, rawInt 0] }).objs.size = s.heap.objs.size + 1 := Heap.size_push ..
  rcases List.mem_cons.mp hb with e | hb
  · rw [e, Heap.size_push]; exact Nat.lt_succ_self _
  · have e : b = a := by simpa using hb
    rw [e, Heap.size_push]; exact Nat.lt_succ_of_lt ha
end
end L2

namespace L2
open PySem PySem.Spec PyProof.Rows

section
variable {X : Cx}
/-! ### all, any of bools -/
theorem vals_bl : ∀ {bs : List Bool} {us : List Value}, Vals (bs.map V.bl) us → us = bs.map Value.bool
  | [], _, .nil => rfl
  | b :: r, _, .cons h t => by rw [vals_bl t]; cases h; rfl
theorem range_all (bs : List Bool) : (List.range bs.length).all (fun i => bs.getD i false) = bs.all id := by
  rw [Bool.eq_iff_iff, List.all_eq_true, List.all_eq_true]
  constructor
  · intro h x hx
    obtain ⟨i, hi, rfl⟩ := List.getElem_of_mem hx
    have := h i (List.mem_range.mpr hi)
    simpa [List.getD_eq_getElem?_getD, hi] using this
  · intro h i hi
    have hi' : i < bs.length := List.mem_range.mp hi
    have := h bs[i] (List.getElem_mem hi')
    simpa [List.getD_eq_getElem?_getD, hi'] using this
theorem range_any (bs : List Bool) : (List.range bs.length).any (fun i => bs.getD i false) = bs.any id := by
  rw [Bool.eq_iff_iff, List.any_eq_true, List.any_eq_true]
  constructor
  · rintro ⟨i, hi, h⟩
    have hi' : i < bs.length := List.mem_range.mp hi
    exact ⟨bs[i], List.getElem_mem hi', by simpa [List.getD_eq_getElem?_getD, hi'] using h⟩
  · rintro ⟨x, hx, h⟩
    obtain ⟨i, hi, rfl⟩ := List.getElem_of_mem hx
    exact ⟨i, List.mem_range.mpr hi, by simpa [List.getD_eq_getElem?_getD, hi] using h⟩
theorem call_allL (hc : X.calm = true) : CallR X (.builtin "all") (fun xs H Q => ∃ (a : Addr) (bs : List Bool), xs = [.ref a] ∧ SqL X.K H a (bs.map V.bl) ∧ Q (.bl (bs.all id)) H) := by
  intro pins s σ H xs us Q I rx h
  obtain ⟨a, bs, rfl, hs, q⟩ := h
  obtain ⟨u, rfl, ru⟩ := vals1 rx
  cases ru
  refine call_all_walk (walk_list I (A := X.A.in1) (I.ok.hd hc) hs fun it its rv W s₂ ⟨h2, e2, k2⟩ st hit hlt => ?_)
  subst e2
  have e := vals_bl rv
  refine ⟨it, _, _, _, _, _, fun i => bs.getD i false, rfl, W, st, fun i v s Q E hv hq => ?_, fun h' tk hk => ?_⟩
  · have : v = .bool (bs.getD i false) := by
      rw [e] at hv
      simp only [List.getElem?_toArray, List.getElem?_map] at hv
      cases z : bs[i]? with
      | none => rw [z] at hv; cases hv
      | some b => rw [z] at hv; cases hv; simp [List.getD_eq_getElem?_getD, z]
    subst this
    exact wpAny_truthy_bool hq
  · have hl : its.toArray.size = bs.length := by rw [e]; simp
    rw [hl, range_all]
    refine ⟨.bl _, H, I.kept fun b o eo => hk b o (fun z => ?_) (k2 b o eo), rfl, q⟩
    have : b = it := by simpa using z
    rw [this] at eo
    exact absurd (Nat.lt_of_lt_of_le (Heap.lt_size eo) hit) (Nat.lt_irrefl _)
theorem call_anyL (hc : X.calm = true) : CallR X (.builtin "any") (fun xs H Q => ∃ (a : Addr) (bs : List Bool), xs = [.ref a] ∧ SqL X.K H a (bs.map V.bl) ∧ Q (.bl (bs.any id)) H) := by
  intro pins s σ H xs us Q I rx h
  obtain ⟨a, bs, rfl, hs, q⟩ := h
  obtain ⟨u, rfl, ru⟩ := vals1 rx
  cases ru
  refine call_any_walk (walk_list I (A := X.A.in1) (I.ok.hd hc) hs fun it its rv W s₂ ⟨h2, e2, k2⟩ st hit hlt => ?_)
  subst e2
  have e := vals_bl rv
  refine ⟨it, _, _, _, _, _, fun i => bs.getD i false, rfl, W, st, fun i v s Q E hv hq => ?_, fun h' tk hk => ?_⟩
  · have : v = .bool (bs.getD i false) := by
      rw [e] at hv
      simp only [List.getElem?_toArray, List.getElem?_map] at hv
      cases z : bs[i]? with
      | none => rw [z] at hv; cases hv
      | some b => rw [z] at hv; cases hv; simp [List.getD_eq_getElem?_getD, z]
    subst this
    exact wpAny_truthy_bool hq
  · have hl : its.toArray.size = bs.length := by rw [e]; simp
    rw [hl, range_any]
    refine ⟨.bl _, H, I.kept fun b o eo => hk b o (fun z => ?_) (k2 b o eo), rfl, q⟩
    have : b = it := by simpa using z
    rw [this] at eo
    exact absurd (Nat.lt_of_lt_of_le (Heap.lt_size eo) hit) (Nat.lt_irrefl _)
theorem rep_bls {K : KF} {H : Hp} {M : HpD} : ∀ {bs : List Bool} {xs : List V}, RepDs K H M (bs.map D.bl) xs → xs = bs.map V.bl
  | [], _, h => by unfold RepDs at h; simpa using h
  | b :: r, _, h => by
    rw [List.map_cons] at h
    unfold RepDs at h
    obtain ⟨x, r', e, h1, h2⟩ := h
    unfold RepD at h1
    rw [e, h1, rep_bls h2]; rfl
theorem rep_ints {K : KF} {H : Hp} {M : HpD} : ∀ {bs : List Int} {xs : List V}, RepDs K H M (bs.map D.int) xs → xs = bs.map V.int
  | [], _, h => by unfold RepDs at h; simpa using h
  | b :: r, _, h => by
    rw [List.map_cons] at h
    unfold RepDs at h
    obtain ⟨x, r', e, h1, h2⟩ := h
    unfold RepD at h1
    rw [e, h1, rep_ints h2]; rfl
@[irreducible] def cAll : RDn := fun xs M Q => ∃ (d : D) (bs : List Bool), xs = [d] ∧ listD d M = some (bs.map D.bl) ∧ Q (.bl (bs.all id)) M
@[irreducible] def cAny : RDn := fun xs M Q => ∃ (d : D) (bs : List Bool), xs = [d] ∧ listD d M = some (bs.map D.bl) ∧ Q (.bl (bs.any id)) M
theorem rd_all {d : D} {bs : List Bool} {M : HpD} {Q : KD} (h : listD d M = some (bs.map D.bl)) (q : Q (.bl (bs.all id)) M) : cAll [d] M Q := by unfold cAll; exact ⟨d, bs, rfl, h, q⟩
theorem rd_any {d : D} {bs : List Bool} {M : HpD} {Q : KD} (h : listD d M = some (bs.map D.bl)) (q : Q (.bl (bs.any id)) M) : cAny [d] M Q := by unfold cAny; exact ⟨d, bs, rfl, h, q⟩
theorem cd_all (hc : X.calm = true := by rfl) : CallR X (.builtin "all") (LiftC X.K cAll) := by
  refine (call_allL hc).wk fun xs H Q ⟨F, ds, M, QD, r, rh, hq, p⟩ => ?_
  unfold cAll at hq
  obtain ⟨d, bs, rfl, e1, q⟩ := hq
  obtain ⟨v, rfl, r1⟩ := rep1 r
  obtain ⟨a, ys, rfl, hs, r2⟩ := list_rep rh r1 e1
  rw [rep_bls r2] at hs
  exact ⟨a, bs, rfl, hs, p _ M _ H .refl rh (by unfold RepD; rfl) q⟩
theorem cd_any (hc : X.calm = true := by rfl) : CallR X (.builtin "any") (LiftC X.K cAny) := by
  refine (call_anyL hc).wk fun xs H Q ⟨F, ds, M, QD, r, rh, hq, p⟩ => ?_
  unfold cAny at hq
  obtain ⟨d, bs, rfl, e1, q⟩ := hq
  obtain ⟨v, rfl, r1⟩ := rep1 r
  obtain ⟨a, ys, rfl, hs, r2⟩ := list_rep rh r1 e1
  rw [rep_bls r2] at hs
  exact ⟨a, bs, rfl, hs, p _ M _ H .refl rh (by unfold RepD; rfl) q⟩

/-! ### max, min of a list of ints, with a default -/
theorem best_mem (bt : Nat → Nat → Bool) : ∀ k, argBest bt k ≤ k
  | 0 => Nat.le_refl _
  | k + 1 => by
    unfold argBest
    split
    · exact Nat.le_refl _
    · exact Nat.le_succ_of_le (best_mem bt k)
theorem best_max (f : Nat → Int) : ∀ k i, i ≤ k → f i ≤ f (argBest (fun i j => decide (f i > f j)) k)
  | 0, i, h => by
    have : i = 0 := by omega
    subst this; exact Int.le_refl _
  | k + 1, i, h => by
    unfold argBest
    by_cases hb : (decide (f (k + 1) > f (argBest (fun i j => decide (f i > f j)) k))) = true
    · rw [if_pos hb]
      have hb' : f (k + 1) > f (argBest (fun i j => decide (f i > f j)) k) := of_decide_eq_true hb
      by_cases hi : i = k + 1
      · subst hi; exact Int.le_refl _
      · have := best_max f k i (by omega); omega
    · rw [if_neg hb]
      have hb' : ¬ f (k + 1) > f (argBest (fun i j => decide (f i > f j)) k) := fun z => hb (decide_eq_true z)
      by_cases hi : i = k + 1
      · subst hi; omega
      · exact best_max f k i (by omega)
theorem best_min (f : Nat → Int) : ∀ k i, i ≤ k → f (argBest (fun i j => decide (f i < f j)) k) ≤ f i
  | 0, i, h => by
    have : i = 0 := by omega
    subst this; exact Int.le_refl _
  | k + 1, i, h => by
    unfold argBest
    by_cases hb : (decide (f (k + 1) < f (argBest (fun i j => decide (f i < f j)) k))) = true
    · rw [if_pos hb]
      have hb' : f (k + 1) < f (argBest (fun i j => decide (f i < f j)) k) := of_decide_eq_true hb
      by_cases hi : i = k + 1
      · subst hi; exact Int.le_refl _
      · have := best_min f k i (by omega); omega
    · rw [if_neg hb]
      have hb' : ¬ f (k + 1) < f (argBest (fun i j => decide (f i < f j)) k) := fun z => hb (decide_eq_true z)
      by_cases hi : i = k + 1
      · subst hi; omega
      · exact best_min f k i (by omega)
theorem vals_int_at : ∀ {ns : List Int} {us : List Value} {i : Nat} {v : Value}, Vals (ns.map V.int) us → us.toArray[i]? = some v → ∃ t, v = .int (ns.getD i 0) t := fun {ns us i v} r e => by
  have hl := r.length
  have hi : i < us.length := by
    have := (Array.getElem?_eq_some_iff.mp e).1
    simpa using this
  have e1 : (ns.map V.int)[i]? = some (.int (ns.getD i 0)) := by
    rw [List.length_map] at hl
    rw [List.getElem?_map, List.getElem?_eq_getElem (by omega)]
    simp [List.getD_eq_getElem?_getD, show i < ns.length by omega]
  obtain ⟨u, e2, ru⟩ := r.get e1
  have e3 : us[i]? = some v := by simpa using e
  rw [e2] at e3; cases e3
  exact ru
theorem getD_at {ns : List Int} {i : Nat} (h : i < ns.length) : ns.getD i 0 = ns[i] := by simp [List.getD_eq_getElem?_getD, h]
theorem getD_mem {ns : List Int} {i : Nat} (h : i < ns.length) : ns.getD i 0 ∈ ns := by rw [getD_at h]; exact List.getElem_mem h
variable {e d : Expr} {te td : TE} {p pos kpos : Pos}
def Mx (mx : Bool) (K : PySem.W.Frag) (x y : V) (H : Hp) (Q : VK) : Prop := ∃ (a : Addr) (ns : List Int), x = .ref a ∧ SqL K H a (ns.map V.int) ∧
  ((ns = [] ∧ Q y H) ∨ (ns ≠ [] ∧ ∀ m, m ∈ ns → (∀ n ∈ ns, if mx = true then n ≤ m else m ≤ n) → Q (.int m) H))
def tMxL (mx : Bool) (K : PySem.W.Frag) (te td : TE) : TE := fun σ H Q => tCons te tNil σ H fun xs H1 => tCons td tNil σ H1 fun ys H2 => ∃ x y, xs = [x] ∧ ys = [y] ∧ Mx mx K x y H2 Q
theorem pe_maxD (hg : Gl X "max") (hm : X.mg "max" = none) (he : PE X e te) (hd : PE X d td) (hc : X.calm = true := by rfl) (hst : starEach [e] X.env = [(false, eval e X.env)] := by rfl) :
    PE X (.Call (.Name "max" p) [e] [⟨some "default", d, kpos⟩] pos) (tMxL true X.K te td) := by
  intro pins s σ H Q I h
  refine wpAny_Call_Name_kw (ld_blt I hg hm PyProof.Rows.boot_max ?_)
  have ha : PA X [e] (tCons te tNil) := pa_cons he pa_nil (by rw [hst]; rfl)
  have hk : PK X [⟨some "default", d, kpos⟩] (tCons td tNil) := pk_cons hd pk_nil
  refine callWith_kw ?_ (by rw [hst]; rfl) (by rw [hst]; rfl)
  refine thn (ha pos pins s σ H _ I h) fun us s1 hz => ?_
  obtain ⟨vs, H1, I1, r1, q1⟩ := hz
  refine thn (hk pos pins s1 σ H1 _ I1 q1) fun ws s2 hz2 => ?_
  obtain ⟨zs, H2, I2, r2, x, y, rfl, rfl, a, ns, rfl, hs, q2⟩ := hz2
  obtain ⟨u, rfl, ru⟩ := vals1 r1
  obtain ⟨w', rfl, rw'⟩ := vals1 r2
  cases ru
  show wpAny _ _ (call (.builtin "max") [.ref a] [("default", w')]) _ _ _
  refine callmax_d (walk_list I2 (A := X.A.in1) (I2.ok.hd hc) hs fun it its rv W s₂ hz3 st hit hlt => ?_)
  obtain ⟨h2, e2, k2⟩ := hz3
  subst e2
  refine ⟨it, _, _, _, _, _, _, rfl, W, st, hlt, CmpOf.ints_gt (fun i => ns.getD i 0) (fun i v hv => vals_int_at rv hv), fun v h' tk hv hk' => ?_⟩
  have hlen : its.toArray.size = ns.length := by
    have := rv.length
    rw [List.length_map] at this
    rw [List.size_toArray, this]
  have I3 : Inv X pins σ H2 { s2 with heap := h', toks := tk } := I2.kept fun b o eo => hk' b o (fun z => by
    have : b = it := by simpa using z
    rw [this] at eo
    exact absurd (Nat.lt_of_lt_of_le (Heap.lt_size eo) hit) (Nat.lt_irrefl _)) (k2 b o eo)
  rw [hlen] at hv
  rcases q2 with ⟨hn, q2⟩ | ⟨hn, q2⟩
  · subst hn
    have hv' : v = w' := hv
    subst hv'
    exact ⟨y, H2, I3, rw', q2⟩
  · have hpos : 0 < ns.length := List.length_pos_iff.mpr hn
    rw [if_neg (by omega)] at hv
    obtain ⟨t, rfl⟩ := vals_int_at rv hv
    have hb := best_mem (fun i j => decide (ns.getD i 0 > ns.getD j 0)) (ns.length - 1)
    have hlt2 : argBest (fun i j => decide (ns.getD i 0 > ns.getD j 0)) (ns.length - 1) < ns.length := by omega
    refine ⟨.int _, H2, I3, ⟨t, rfl⟩, q2 _ ?_ fun n hn' => ?_⟩
    · exact getD_mem hlt2
    · obtain ⟨i, hi, rfl⟩ := List.getElem_of_mem hn'
      have hbb := best_max (fun i => ns.getD i 0) (ns.length - 1) i (by omega)
      rw [if_pos rfl]
      rw [← getD_at hi]
      exact hbb
theorem pe_minD (hg : Gl X "min") (hm : X.mg "min" = none) (he : PE X e te) (hd : PE X d td) (hc : X.calm = true := by rfl) (hst : starEach [e] X.env = [(false, eval e X.env)] := by rfl) :
    PE X (.Call (.Name "min" p) [e] [⟨some "default", d, kpos⟩] pos) (tMxL false X.K te td) := by
  intro pins s σ H Q I h
  refine wpAny_Call_Name_kw (ld_blt I hg hm PyProof.Rows.boot_min ?_)
  have ha : PA X [e] (tCons te tNil) := pa_cons he pa_nil (by rw [hst]; rfl)
  have hk : PK X [⟨some "default", d, kpos⟩] (tCons td tNil) := pk_cons hd pk_nil
  refine callWith_kw ?_ (by rw [hst]; rfl) (by rw [hst]; rfl)
  refine thn (ha pos pins s σ H _ I h) fun us s1 hz => ?_
  obtain ⟨vs, H1, I1, r1, q1⟩ := hz
  refine thn (hk pos pins s1 σ H1 _ I1 q1) fun ws s2 hz2 => ?_
  obtain ⟨zs, H2, I2, r2, x, y, rfl, rfl, a, ns, rfl, hs, q2⟩ := hz2
  obtain ⟨u, rfl, ru⟩ := vals1 r1
  obtain ⟨w', rfl, rw'⟩ := vals1 r2
  cases ru
  show wpAny _ _ (call (.builtin "min") [.ref a] [("default", w')]) _ _ _
  refine callmin_d (walk_list I2 (A := X.A.in1) (I2.ok.hd hc) hs fun it its rv W s₂ hz3 st hit hlt => ?_)
  obtain ⟨h2, e2, k2⟩ := hz3
  subst e2
  refine ⟨it, _, _, _, _, _, _, rfl, W, st, hlt, CmpOf.ints_lt (fun i => ns.getD i 0) (fun i v hv => vals_int_at rv hv), fun v h' tk hv hk' => ?_⟩
  have hlen : its.toArray.size = ns.length := by
    have := rv.length
    rw [List.length_map] at this
    rw [List.size_toArray, this]
  have I3 : Inv X pins σ H2 { s2 with heap := h', toks := tk } := I2.kept fun b o eo => hk' b o (fun z => by
    have : b = it := by simpa using z
    rw [this] at eo
    exact absurd (Nat.lt_of_lt_of_le (Heap.lt_size eo) hit) (Nat.lt_irrefl _)) (k2 b o eo)
  rw [hlen] at hv
  rcases q2 with ⟨hn, q2⟩ | ⟨hn, q2⟩
  · subst hn
    have hv' : v = w' := hv
    subst hv'
    exact ⟨y, H2, I3, rw', q2⟩
  · have hpos : 0 < ns.length := List.length_pos_iff.mpr hn
    rw [if_neg (by omega)] at hv
    obtain ⟨t, rfl⟩ := vals_int_at rv hv
    have hb := best_mem (fun i j => decide (ns.getD i 0 < ns.getD j 0)) (ns.length - 1)
    have hlt2 : argBest (fun i j => decide (ns.getD i 0 < ns.getD j 0)) (ns.length - 1) < ns.length := by omega
    refine ⟨.int _, H2, I3, ⟨t, rfl⟩, q2 _ ?_ fun n hn' => ?_⟩
    · exact getD_mem hlt2
    · obtain ⟨i, hi, rfl⟩ := List.getElem_of_mem hn'
      have hbb := best_min (fun i => ns.getD i 0) (ns.length - 1) i (by omega)
      rw [if_neg Bool.false_ne_true]
      rw [← getD_at hi]
      exact hbb
end
/-- over D -/
@[irreducible] def tMxD (mx : Bool) (te td : TDE) : TDE := fun σ M Q => te σ M fun x M1 => td σ M1 fun y M2 => ∃ ns : List Int, listD x M2 = some (ns.map D.int) ∧
  ((ns = [] ∧ Q y M2) ∨ (ns ≠ [] ∧ ∀ m, m ∈ ns → (∀ n ∈ ns, if mx = true then n ≤ m else m ≤ n) → Q (.int m) M2))
theorem rd_mx {mx : Bool} {te td : TDE} {σ : SD} {M : HpD} {Q : KD} (h : te σ M fun x M1 => td σ M1 fun y M2 => ∃ ns : List Int, listD x M2 = some (ns.map D.int) ∧
  ((ns = [] ∧ Q y M2) ∨ (ns ≠ [] ∧ ∀ m, m ∈ ns → (∀ n ∈ ns, if mx = true then n ≤ m else m ≤ n) → Q (.int m) M2))) : tMxD mx te td σ M Q := by unfold tMxD; exact h
theorem lift_mx {K : PySem.W.Frag} {mx : Bool} {te td : TDE} {σ : St} {H : Hp} {Q : VK} (h : LiftE K (tMxD mx te td) σ H Q) : tMxL mx K (LiftE K te) (LiftE K td) σ H Q := by
  obtain ⟨F, σD, M, QD, rel, h, p⟩ := h
  unfold tMxD at h
  show LiftE K te σ H _
  refine lE rel h fun d M1 v H1 f1 rel1 r1 h1 => ?_
  show LiftE K td σ H1 _
  refine lE rel1 h1 fun e M2 u H2 f2 rel2 r2 h2 => ?_
  obtain ⟨ns, e1, q⟩ := h2
  obtain ⟨a, xs, rfl, hs, hr⟩ := list_rep rel2.hp (r1.mono f2) e1
  rw [rep_ints hr] at hs
  have pp := p.mono (f1.trans f2)
  refine ⟨_, _, rfl, rfl, a, ns, rfl, hs, ?_⟩
  rcases q with ⟨q1, q2⟩ | ⟨q1, q2⟩
  · exact .inl ⟨q1, pp _ M2 _ H2 .refl rel2.hp r2 q2⟩
  · exact .inr ⟨q1, fun m m1 m2 => pp _ M2 _ H2 .refl rel2.hp (by unfold RepD; rfl) (q2 m m1 m2)⟩
section
variable {X : Cx} {e d : Expr} {te td : TDE} {p pos kpos : Pos}
theorem ed_maxD (hg : Gl X "max") (hm : X.mg "max" = none) (he : ED X e te) (hd : ED X d td) (hc : X.calm = true := by rfl) (hst : starEach [e] X.env = [(false, eval e X.env)] := by rfl) :
    ED X (.Call (.Name "max" p) [e] [⟨some "default", d, kpos⟩] pos) (tMxD true te td) := (pe_maxD hg hm he hd hc hst).wk fun _ _ _ h => lift_mx h
theorem ed_minD (hg : Gl X "min") (hm : X.mg "min" = none) (he : ED X e te) (hd : ED X d td) (hc : X.calm = true := by rfl) (hst : starEach [e] X.env = [(false, eval e X.env)] := by rfl) :
    ED X (.Call (.Name "min" p) [e] [⟨some "default", d, kpos⟩] pos) (tMxD false te td) := (pe_minD hg hm he hd hc hst).wk fun _ _ _ h => lift_mx h
/-- -e -/
@[irreducible] def tNegD (te : TDE) : TDE := fun σ M Q => te σ M fun x M1 => ∃ i, x = .int i ∧ Q (.int (-i)) M1
theorem rd_neg {te : TDE} {σ : SD} {M : HpD} {Q : KD} (h : te σ M fun x M1 => ∃ i, x = .int i ∧ Q (.int (-i)) M1) : tNegD te σ M Q := by unfold tNegD; exact h
theorem ed_neg (he : ED X e te) : ED X (.UnaryOp .USub e pos) (tNegD te) := by
  refine (pe_un un_neg he).wk fun σ H Q ⟨F, σD, M, QD, rel, h, p⟩ => ?_
  unfold tNegD at h
  refine lE rel h fun d M1 v H1 f1 rel1 r1 h1 => ?_
  obtain ⟨i, rfl, q⟩ := h1
  unfold RepD at r1
  exact ⟨i, r1, p _ M1 _ H1 f1 rel1.hp (by unfold RepD; rfl) q⟩
end
end L2

namespace L2
open PySem PySem.Spec PyProof.Rows

/-! ### == of values, however deep -/
mutual
def eqD : D → D → Bool
  | .non, .non => true
  | .bl a, .bl b => a == b
  | .int a, .int b => a == b
  | .str a, .str b => a == b
  | .tup a, .tup b => eqDs a b
  | .lst a, .lst b => eqDs a b
  | _, _ => false
def eqDs : List D → List D → Bool
  | [], [] => true
  | a :: r, b :: s => eqD a b && eqDs r s
  | _, _ => false
end
/-! the two are of kinds that are compared here -/
mutual
def okD : D → D → Bool
  | .non, .non => true
  | .non, .int _ => true
  | .int _, .non => true
  | .non, .str _ => true
  | .str _, .non => true
  | .bl _, .bl _ => true
  | .int _, .int _ => true
  | .str _, .str _ => true
  | .int _, .str _ => true
  | .str _, .int _ => true
  | .tup a, .tup b => okDs a b
  | .lst a, .lst b => okDs a b
  | _, _ => false
def okDs : List D → List D → Bool
  | a :: r, b :: s => okD a b && okDs r s
  | _, _ => true
end
mutual
def depD : D → Nat
  | .tup a => depDs a + 1
  | .lst a => depDs a + 1
  | _ => 0
def depDs : List D → Nat
  | [] => 0
  | a :: r => max (depD a) (depDs r)
end
theorem eqDs_len : ∀ {a b : List D}, eqDs a b = true → a.length = b.length
  | [], [], _ => rfl
  | [], _ :: _, h => by unfold eqDs at h; cases h
  | _ :: _, [], h => by unfold eqDs at h; cases h
  | a :: r, b :: s, h => by
    unfold eqDs at h
    rw [Bool.and_eq_true] at h
    rw [List.length_cons, List.length_cons, eqDs_len h.2]
theorem eqDs_all : ∀ (a b : List D), ((List.range (min a.length b.length)).all (fun j => (List.zipWith eqD a b).getD j true) && a.length == b.length) = eqDs a b
  | [], [] => by unfold eqDs; rfl
  | [], _ :: _ => by unfold eqDs; rfl
  | _ :: _, [] => by unfold eqDs; rfl
  | a :: r, b :: s => by
    have ih := eqDs_all r s
    unfold eqDs
    rw [← ih]
    rw [show min (a :: r).length (b :: s).length = min r.length s.length + 1 by simp only [List.length_cons]; omega, List.range_succ_eq_map, List.all_cons, List.all_map]
    simp only [List.zipWith_cons_cons, List.getD_cons_zero, Function.comp_def, List.getD_cons_succ, List.length_cons, Bool.and_assoc]
    congr 1
    congr 1
    rw [Bool.eq_iff_iff, beq_iff_eq, beq_iff_eq]
    omega
theorem eqDs_all' {a b : List D} (h : a.length = b.length) : ((List.range a.length).all fun j => (List.zipWith eqD a b).getD j true) = eqDs a b := by
  have := eqDs_all a b
  rw [← h, Nat.min_self] at this
  rw [← this]
  simp
mutual
theorem eqD_refl : ∀ {d e : D}, okD d e = true → ∀ {K : KF} {H : Hp} {M : HpD} {v : V}, (∀ a xs ys, SqT K.K H a xs → SqT K.K H a ys → xs = ys) → (∀ a xs ys, SqL K.K H a xs → SqL K.K H a ys → xs = ys) → RepD K H M d v → RepD K H M e v → eqD d e = true
  | .non, e, ok, K, H, M, v, i1, i2, r1, r2 => by
    cases e <;> first | (unfold okD at ok; cases ok; done) | (unfold RepD at r1 r2; rw [r1] at r2; cases r2; done) | (unfold eqD; rfl)
  | .bl a, e, ok, K, H, M, v, i1, i2, r1, r2 => by
    cases e <;> first | (unfold okD at ok; cases ok; done) | (unfold RepD at r1 r2; rw [r1] at r2; cases r2; unfold eqD; simp)
  | .int a, e, ok, K, H, M, v, i1, i2, r1, r2 => by
    cases e <;> first | (unfold okD at ok; cases ok; done) | (unfold RepD at r1 r2; rw [r1] at r2; cases r2; unfold eqD; simp) | (unfold RepD at r1 r2; rw [r1] at r2; cases r2)
  | .str a, e, ok, K, H, M, v, i1, i2, r1, r2 => by
    cases e <;> first | (unfold okD at ok; cases ok; done) | (unfold RepD at r1 r2; rw [r1] at r2; cases r2; unfold eqD; simp) | (unfold RepD at r1 r2; rw [r1] at r2; cases r2)
  | .ref a, e, ok, K, H, M, v, i1, i2, r1, r2 => by cases e <;> (unfold okD at ok; cases ok)
  | .ty a, e, ok, K, H, M, v, i1, i2, r1, r2 => by cases e <;> (unfold okD at ok; cases ok)
  | .tup a, e, ok, K, H, M, v, i1, i2, r1, r2 => by
    cases e with
    | tup b =>
      unfold okD at ok
      unfold RepD at r1 r2
      obtain ⟨p, xs, e1, h1, h2⟩ := r1
      obtain ⟨q, ys, e2, h3, h4⟩ := r2
      rw [e1] at e2; cases e2
      have := i1 p xs ys h1.sq h3.sq
      subst this
      unfold eqD
      exact eqDs_refl ok i1 i2 h2 h4
    | _ => unfold okD at ok; cases ok
  | .lst a, e, ok, K, H, M, v, i1, i2, r1, r2 => by
    cases e with
    | lst b =>
      unfold okD at ok
      unfold RepD at r1 r2
      obtain ⟨p, xs, e1, h1, h2⟩ := r1
      obtain ⟨q, ys, e2, h3, h4⟩ := r2
      rw [e1] at e2; cases e2
      have := i2 p xs ys h1.sq h3.sq
      subst this
      unfold eqD
      exact eqDs_refl ok i1 i2 h2 h4
    | _ => unfold okD at ok; cases ok
theorem eqDs_refl : ∀ {d e : List D}, okDs d e = true → ∀ {K : KF} {H : Hp} {M : HpD} {v : List V}, (∀ a xs ys, SqT K.K H a xs → SqT K.K H a ys → xs = ys) → (∀ a xs ys, SqL K.K H a xs → SqL K.K H a ys → xs = ys) → RepDs K H M d v → RepDs K H M e v → eqDs d e = true
  | [], e, ok, K, H, M, v, i1, i2, r1, r2 => by
    have := r1.length.trans r2.length.symm
    cases e with
    | nil => unfold eqDs; rfl
    | cons _ _ => cases this
  | a :: r, e, ok, K, H, M, v, i1, i2, r1, r2 => by
    have := r1.length.trans r2.length.symm
    cases e with
    | nil => cases this
    | cons b s =>
      unfold okDs at ok
      rw [Bool.and_eq_true] at ok
      unfold RepDs at r1 r2
      obtain ⟨x, xr, e1, h1, h2⟩ := r1
      obtain ⟨y, yr, e2, h3, h4⟩ := r2
      rw [e1] at e2; cases e2
      unfold eqDs
      rw [eqD_refl ok.1 i1 i2 h1 h3, eqDs_refl ok.2 i1 i2 h2 h4]
      rfl
end
section
variable {X : Cx} {pins : List (Addr × Obj)} {σ : St} {H : Hp} {s : Shared} {F : Addr → Prop} {M : HpD}
mutual
theorem eqAtD (I : Inv X pins σ H s) : ∀ (d e : D) {x y : V} {u v : Value} (A : Around), okD d e = true → A.units + depD d < cLine → RepD ⟨X.K, F⟩ H M d x → RepD ⟨X.K, F⟩ H M e y → RelV x u → RelV y v → SeqAt.EqAt A s u v (eqD d e)
  | .non, e, x, y, u, v, A, ok, hu, r1, r2, q1, q2 => by
    unfold RepD at r1; subst r1
    cases e <;> first
      | (unfold okD at ok; cases ok; done)
      | (unfold RepD at r2; subst r2; have z := eqAt_V (A := A) (s := s) q1 q2 rfl rfl; unfold eqD; exact z)
  | .bl a, e, x, y, u, v, A, ok, hu, r1, r2, q1, q2 => by
    unfold RepD at r1; subst r1
    cases e <;> first
      | (unfold okD at ok; cases ok; done)
      | (unfold RepD at r2; subst r2; have z := eqAt_V (A := A) (s := s) q1 q2 rfl rfl; unfold eqD; exact z)
  | .int a, e, x, y, u, v, A, ok, hu, r1, r2, q1, q2 => by
    unfold RepD at r1; subst r1
    cases e <;> first
      | (unfold okD at ok; cases ok; done)
      | (unfold RepD at r2; subst r2; have z := eqAt_V (A := A) (s := s) q1 q2 rfl rfl; unfold eqD; exact z)
  | .str a, e, x, y, u, v, A, ok, hu, r1, r2, q1, q2 => by
    unfold RepD at r1; subst r1
    cases e <;> first
      | (unfold okD at ok; cases ok; done)
      | (unfold RepD at r2; subst r2; have z := eqAt_V (A := A) (s := s) q1 q2 rfl rfl; unfold eqD; exact z)
  | .ref a, e, x, y, u, v, A, ok, hu, r1, r2, q1, q2 => by cases e <;> (unfold okD at ok; cases ok)
  | .ty a, e, x, y, u, v, A, ok, hu, r1, r2, q1, q2 => by cases e <;> (unfold okD at ok; cases ok)
  | .tup a, e, x, y, u, v, A, ok, hu, r1, r2, q1, q2 => by
    cases e with
    | tup b =>
      have r1' := r1
      have r2' := r2
      unfold RepD at r1 r2
      obtain ⟨p, xs, rfl, h1, h2⟩ := r1
      obtain ⟨q, ys, rfl, h3, h4⟩ := r2
      cases q1
      cases q2
      by_cases hpq : p = q
      · subst hpq
        rw [eqD_refl ok (fun a xs ys => I.tuple_inj) (fun a xs ys => I.list_inj) r1' r2']
        exact SeqAt.EqAt.same _
      · obtain ⟨i1, v1, t1, _⟩ := I.tuple h1.sq
        obtain ⟨i2, v2, t2, _⟩ := I.tuple h3.sq
        unfold okD at ok
        unfold depD at hu
        have hu1 : A.units < cLine := by omega
        refine SeqAt.EqAt.of_refs hpq ?_
        have := SeqAt.RcAt.tuples (A := A) (s := s) (show s.heap.IsTuple p i1.toArray from t1) (show s.heap.IsTuple q i2.toArray from t2) hu1 (e := fun j => (List.zipWith eqD a b).getD j true) fun j z1 z2 =>
          eqAtDs I a b A.in1 ok (by show A.units + 1 + depDs a < cLine; omega) h2 h4 v1 v2 j _ _ (by simp) (by simp)
        have l1 : i1.toArray.size = a.length := by rw [List.size_toArray, ← v1.length, h2.length]
        have l2 : i2.toArray.size = b.length := by rw [List.size_toArray, ← v2.length, h4.length]
        rw [l1, l2, eqDs_all] at this
        unfold eqD
        exact this
    | _ => unfold okD at ok; cases ok
  | .lst a, e, x, y, u, v, A, ok, hu, r1, r2, q1, q2 => by
    cases e with
    | lst b =>
      have r1' := r1
      have r2' := r2
      unfold RepD at r1 r2
      obtain ⟨p, xs, rfl, h1, h2⟩ := r1
      obtain ⟨q, ys, rfl, h3, h4⟩ := r2
      cases q1
      cases q2
      by_cases hpq : p = q
      · subst hpq
        rw [eqD_refl ok (fun a xs ys => I.tuple_inj) (fun a xs ys => I.list_inj) r1' r2']
        exact SeqAt.EqAt.same _
      · obtain ⟨i1, v1, t1, _⟩ := I.list h1.sq
        obtain ⟨i2, v2, t2, _⟩ := I.list h3.sq
        unfold okD at ok
        unfold depD at hu
        have hu1 : A.units < cLine := by omega
        have l1 : i1.toArray.size = a.length := by rw [List.size_toArray, ← v1.length, h2.length]
        have l2 : i2.toArray.size = b.length := by rw [List.size_toArray, ← v2.length, h4.length]
        refine SeqAt.EqAt.of_refs hpq ?_
        unfold eqD
        by_cases hl : a.length = b.length
        · have := SeqAt.RcAt.lists (A := A) (s := s) t1.isList t2.isList (by rw [l1, l2]; exact hl) hu1 (e := fun j => (List.zipWith eqD a b).getD j true) fun j z1 z2 =>
            eqAtDs I a b A.in1 ok (by show A.units + 1 + depDs a < cLine; omega) h2 h4 v1 v2 j _ _ (by simp) (by simp)
          rw [l1, eqDs_all' hl] at this
          exact this
        · rw [show eqDs a b = false by
            cases q : eqDs a b with
            | false => rfl
            | true => exact absurd (eqDs_len q) hl]
          exact SeqAt.RcAt.lists_lengths t1.isList t2.isList (by rw [l1, l2]; simpa using hl) hu1
    | _ => unfold okD at ok; cases ok
theorem eqAtDs (I : Inv X pins σ H s) : ∀ (ds es : List D) {xs ys : List V} {us vs : List Value} (A : Around), okDs ds es = true → A.units + depDs ds < cLine → RepDs ⟨X.K, F⟩ H M ds xs → RepDs ⟨X.K, F⟩ H M es ys → Vals xs us → Vals ys vs →
    ∀ (j : Nat) (u v : Value), us[j]? = some u → vs[j]? = some v → SeqAt.EqAt A s u v ((List.zipWith eqD ds es).getD j true)
  | [], es, xs, ys, us, vs, A, ok, hu, r1, r2, q1, q2, j, u, v, e1, e2 => by
    have := r1.length.trans q1.length
    have hj : j < us.length := (List.getElem?_eq_some_iff.mp e1).1
    rw [← this] at hj
    cases hj
  | d :: ds, [], xs, ys, us, vs, A, ok, hu, r1, r2, q1, q2, j, u, v, e1, e2 => by
    have := r2.length.trans q2.length
    have hj : j < vs.length := (List.getElem?_eq_some_iff.mp e2).1
    rw [← this] at hj
    cases hj
  | d :: ds, e :: es, xs, ys, us, vs, A, ok, hu, r1, r2, q1, q2, j, u, v, e1, e2 => by
    unfold okDs at ok
    rw [Bool.and_eq_true] at ok
    unfold depDs at hu
    unfold RepDs at r1 r2
    obtain ⟨x, xr, rfl, h1, h2⟩ := r1
    obtain ⟨y, yr, rfl, h3, h4⟩ := r2
    cases q1 with
    | cons a1 b1 =>
      cases q2 with
      | cons a2 b2 =>
        cases j with
        | zero =>
          simp at e1 e2
          subst e1 e2
          simp only [List.zipWith_cons_cons, List.getD_cons_zero]
          exact eqAtD I d e A ok.1 (by omega) h1 h3 a1 a2
        | succ j =>
          simp only [List.zipWith_cons_cons, List.getD_cons_succ]
          exact eqAtDs I ds es A ok.2 (by omega) h2 h4 b1 b2 j u v (by simpa using e1) (by simpa using e2)
end
end
/-- what a list that may change looks like now -/
def viewD : D → HpD → D
  | .ref p, M => match M p with | some (.lst ds) => .lst ds | _ => .ref p
  | d, _ => d
def okT : D → D → Bool
  | .bl _, .bl _ => true
  | .int _, .int _ => true
  | .str _, .str _ => true
  | .tup a, .tup b => okDs a b
  | .lst a, .lst b => okDs a b
  | _, _ => false
theorem view_rep {K : KF} {H : Hp} {M : HpD} {d : D} {v : V} (rh : RepH K H M) (r : RepD K H M d v) : ∃ M', Fz M H M' H ∧ RepH K H M' ∧ RepD K H M' (viewD d M) v := by
  cases d with
  | ref p =>
    cases q : M p with
    | none => exact ⟨M, .refl, rh, by simp only [viewD, q]; exact r⟩
    | some o =>
      cases o with
      | lst ds =>
        refine ⟨delD M p, fz_del, rh.del, ?_⟩
        simp only [viewD, q]
        unfold RepD at r
        subst r
        exact .frz rh q
  | _ => exact ⟨M, .refl, rh, r⟩
theorem view_rep2 {K : KF} {H : Hp} {M : HpD} {d e : D} {v u : V} (rh : RepH K H M) (r : RepD K H M d v) (r2 : RepD K H M e u) : ∃ M', Fz M H M' H ∧ RepH K H M' ∧ RepD K H M' (viewD d M) v ∧ RepD K H M' (viewD e M) u := by
  obtain ⟨M1, f1, rh1, r1⟩ := view_rep rh r
  cases e with
  | ref q =>
    cases z : M q with
    | none => exact ⟨M1, f1, rh1, r1, by simp only [viewD, z]; exact r2.mono f1⟩
    | some o =>
      cases o with
      | lst es =>
        unfold RepD at r2
        subst r2
        have hv : viewD (.ref q) M = .lst es := by simp only [viewD, z]
        rw [hv]
        obtain ⟨o', e', xs, rfl, hr⟩ := rh.at_ q _ z
        refine ⟨delD M1 q, f1.trans fz_del, rh1.del, r1.mono fz_del, ?_⟩
        unfold RepD
        exact ⟨q, xs, rfl, .inl ⟨.inl e', delD_same, rh.nfM z⟩, (hr.mono f1).mono fz_del⟩
  | _ => exact ⟨M1, f1, rh1, r1, r2.mono f1⟩
@[irreducible] def rEqA (neg : Bool) : RD2 := fun x y M Q => okT (viewD x M) (viewD y M) = true ∧ depD (viewD x M) ≤ 60 ∧ Q (.bl (neg ^^ eqD (viewD x M) (viewD y M))) M
theorem rd_eqA {neg : Bool} {x y : D} {M : HpD} {Q : KD} (h : okT (viewD x M) (viewD y M) = true) (hd : depD (viewD x M) ≤ 60) (q : Q (.bl (neg ^^ eqD (viewD x M) (viewD y M))) M) : rEqA neg x y M Q := by unfold rEqA; exact ⟨h, hd, q⟩
section
variable {X : Cx} {k : Nat}
theorem od_eqA (hr : Room k X.A) : OpR X (compareOp .Eq) (LiftR X.K (rEqA false)) := by
  intro pins s σ H x y u v Q I rx ry h
  obtain ⟨F, d, e, M, QD, r1, r2, rh, hq, p⟩ := h
  unfold rEqA at hq
  obtain ⟨ok, hd, q⟩ := hq
  have hun := hr.units
  obtain ⟨M1, f1, rh1, r1', r2'⟩ := view_rep2 rh r1 r2
  have fin : ∀ b : Bool, b = eqD (viewD d M) (viewD e M) → EP X pins σ Q (.bool b) s := fun b hb => by
    subst hb
    exact ⟨.bl _, H, I, rfl, p (.bl (false ^^ eqD (viewD d M) (viewD e M))) M _ H .refl rh (by unfold RepD; simp) q⟩
  generalize viewD d M = d' at *
  generalize viewD e M = e' at *
  cases d' <;> cases e' <;> first | (unfold okT at ok; cases ok; done) | skip
  · rename_i a b
    unfold RepD at r1' r2'
    subst r1' r2'
    have q' : QD (.bl (decide (a = b))) M := by
      unfold eqD at q
      rw [Bool.beq_eq_decide_eq] at q
      simpa using q
    exact op_eq pins s σ H _ _ u v Q I rx ry ⟨rfl, by rw [decV_bl]; exact p _ M _ H .refl rh (by unfold RepD; rfl) q'⟩
  · rename_i a b
    unfold RepD at r1' r2'
    subst r1' r2'
    have q' : QD (.bl (decide (a = b))) M := by
      unfold eqD at q
      rw [Bool.beq_eq_decide_eq] at q
      simpa using q
    exact op_eq pins s σ H _ _ u v Q I rx ry ⟨rfl, by rw [decV_int]; exact p _ M _ H .refl rh (by unfold RepD; rfl) q'⟩
  · rename_i a b
    unfold RepD at r1' r2'
    subst r1' r2'
    have q' : QD (.bl (decide (a = b))) M := by
      unfold eqD at q
      rw [Bool.beq_eq_decide_eq] at q
      simpa using q
    exact op_eq pins s σ H _ _ u v Q I rx ry ⟨rfl, by rw [decV_str]; exact p _ M _ H .refl rh (by unfold RepD; rfl) q'⟩
  · rename_i a b
    unfold RepD at r1' r2'
    obtain ⟨pa, xs, rfl, h1, h2⟩ := r1'
    obtain ⟨pb, ys, rfl, h3, h4⟩ := r2'
    cases rx
    cases ry
    obtain ⟨i1, v1, t1, _⟩ := I.tuple h1.sq
    obtain ⟨i2, v2, t2, _⟩ := I.tuple h3.sq
    unfold okT at ok
    unfold depD at hd
    have l1 : i1.toArray.size = a.length := by rw [List.size_toArray, ← v1.length, h2.length]
    have l2 : i2.toArray.size = b.length := by rw [List.size_toArray, ← v2.length, h4.length]
    refine SeqAt.RcAt.tuples (A := X.A) (s := s) (show s.heap.IsTuple pa i1.toArray from t1) (show s.heap.IsTuple pb i2.toArray from t2) (by omega) (e := fun j => (List.zipWith eqD a b).getD j true) (fun j z1 z2 =>
      eqAtDs I a b X.A.in1 ok (by show X.A.units + 1 + depDs a < cLine; omega) h2 h4 v1 v2 j _ _ (by simp) (by simp)) X.prog X.w X.xe _ ?_
    rw [l1, l2, eqDs_all]
    exact fin _ (by unfold eqD; rfl)
  · rename_i a b
    unfold RepD at r1' r2'
    obtain ⟨pa, xs, rfl, h1, h2⟩ := r1'
    obtain ⟨pb, ys, rfl, h3, h4⟩ := r2'
    cases rx
    cases ry
    obtain ⟨i1, v1, t1, _⟩ := I.list h1.sq
    obtain ⟨i2, v2, t2, _⟩ := I.list h3.sq
    unfold okT at ok
    unfold depD at hd
    have l1 : i1.toArray.size = a.length := by rw [List.size_toArray, ← v1.length, h2.length]
    have l2 : i2.toArray.size = b.length := by rw [List.size_toArray, ← v2.length, h4.length]
    by_cases hl : a.length = b.length
    · refine SeqAt.RcAt.lists (A := X.A) (s := s) t1.isList t2.isList (by rw [l1, l2]; exact hl) (by omega) (e := fun j => (List.zipWith eqD a b).getD j true) (fun j z1 z2 =>
        eqAtDs I a b X.A.in1 ok (by show X.A.units + 1 + depDs a < cLine; omega) h2 h4 v1 v2 j _ _ (by simp) (by simp)) X.prog X.w X.xe _ ?_
      rw [l1, eqDs_all' hl]
      exact fin _ (by unfold eqD; rfl)
    · refine SeqAt.RcAt.lists_lengths t1.isList t2.isList (by rw [l1, l2]; simpa using hl) (by omega) X.prog X.w X.xe _ ?_
      have : eqDs a b = false := by
        cases q : eqDs a b with
        | false => rfl
        | true => exact absurd (eqDs_len q) hl
      exact fin _ (by unfold eqD; rw [this] <;> rfl)
theorem od_neA (hr : Room k X.A) : OpR X (compareOp .NotEq) (LiftR X.K (rEqA true)) := by
  intro pins s σ H x y u v Q I rx ry h
  obtain ⟨F, d, e, M, QD, r1, r2, rh, hq, p⟩ := h
  unfold rEqA at hq
  obtain ⟨ok, hd, q⟩ := hq
  have hun := hr.units
  obtain ⟨M1, f1, rh1, r1', r2'⟩ := view_rep2 rh r1 r2
  have fin : ∀ b : Bool, b = !eqD (viewD d M) (viewD e M) → EP X pins σ Q (.bool b) s := fun b hb => by
    subst hb
    exact ⟨.bl _, H, I, rfl, p (.bl (true ^^ eqD (viewD d M) (viewD e M))) M _ H .refl rh (by unfold RepD; simp) q⟩
  generalize viewD d M = d' at *
  generalize viewD e M = e' at *
  cases d' <;> cases e' <;> first | (unfold okT at ok; cases ok; done) | skip
  · rename_i a b
    unfold RepD at r1' r2'
    subst r1' r2'
    have q' : QD (.bl (!decide (a = b))) M := by
      unfold eqD at q
      rw [Bool.beq_eq_decide_eq] at q
      simpa using q
    exact op_ne pins s σ H _ _ u v Q I rx ry ⟨rfl, by rw [decV_bl]; exact p _ M _ H .refl rh (by unfold RepD; rfl) q'⟩
  · rename_i a b
    unfold RepD at r1' r2'
    subst r1' r2'
    have q' : QD (.bl (!decide (a = b))) M := by
      unfold eqD at q
      rw [Bool.beq_eq_decide_eq] at q
      simpa using q
    exact op_ne pins s σ H _ _ u v Q I rx ry ⟨rfl, by rw [decV_int]; exact p _ M _ H .refl rh (by unfold RepD; rfl) q'⟩
  · rename_i a b
    unfold RepD at r1' r2'
    subst r1' r2'
    have q' : QD (.bl (!decide (a = b))) M := by
      unfold eqD at q
      rw [Bool.beq_eq_decide_eq] at q
      simpa using q
    exact op_ne pins s σ H _ _ u v Q I rx ry ⟨rfl, by rw [decV_str]; exact p _ M _ H .refl rh (by unfold RepD; rfl) q'⟩
  · rename_i a b
    unfold RepD at r1' r2'
    obtain ⟨pa, xs, rfl, h1, h2⟩ := r1'
    obtain ⟨pb, ys, rfl, h3, h4⟩ := r2'
    cases rx
    cases ry
    obtain ⟨i1, v1, t1, _⟩ := I.tuple h1.sq
    obtain ⟨i2, v2, t2, _⟩ := I.tuple h3.sq
    unfold okT at ok
    unfold depD at hd
    have l1 : i1.toArray.size = a.length := by rw [List.size_toArray, ← v1.length, h2.length]
    have l2 : i2.toArray.size = b.length := by rw [List.size_toArray, ← v2.length, h4.length]
    refine SeqAt.RcNeAt.tuples (A := X.A) (s := s) (show s.heap.IsTuple pa i1.toArray from t1) (show s.heap.IsTuple pb i2.toArray from t2) (by omega) (e := fun j => (List.zipWith eqD a b).getD j true) (fun j z1 z2 =>
      eqAtDs I a b X.A.in1 ok (by show X.A.units + 1 + depDs a < cLine; omega) h2 h4 v1 v2 j _ _ (by simp) (by simp)) X.prog X.w X.xe _ ?_
    rw [l1, l2, eqDs_all]
    exact fin _ (by unfold eqD; rfl)
  · rename_i a b
    unfold RepD at r1' r2'
    obtain ⟨pa, xs, rfl, h1, h2⟩ := r1'
    obtain ⟨pb, ys, rfl, h3, h4⟩ := r2'
    cases rx
    cases ry
    obtain ⟨i1, v1, t1, _⟩ := I.list h1.sq
    obtain ⟨i2, v2, t2, _⟩ := I.list h3.sq
    unfold okT at ok
    unfold depD at hd
    have l1 : i1.toArray.size = a.length := by rw [List.size_toArray, ← v1.length, h2.length]
    have l2 : i2.toArray.size = b.length := by rw [List.size_toArray, ← v2.length, h4.length]
    by_cases hl : a.length = b.length
    · refine SeqAt.RcNeAt.lists (A := X.A) (s := s) t1.isList t2.isList (by rw [l1, l2]; exact hl) (by omega) (e := fun j => (List.zipWith eqD a b).getD j true) (fun j z1 z2 =>
        eqAtDs I a b X.A.in1 ok (by show X.A.units + 1 + depDs a < cLine; omega) h2 h4 v1 v2 j _ _ (by simp) (by simp)) X.prog X.w X.xe _ ?_
      rw [l1, eqDs_all' hl]
      exact fin _ (by unfold eqD; rfl)
    · refine SeqAt.RcNeAt.lists_lengths t1.isList t2.isList (by rw [l1, l2]; simpa using hl) (by omega) X.prog X.w X.xe _ ?_
      have : eqDs a b = false := by
        cases q : eqDs a b with
        | false => rfl
        | true => exact absurd (eqDs_len q) hl
      exact fin _ (by unfold eqD; rw [this] <;> rfl)

/-! ### isinstance -/
/-- the name of a value's type -/
def tyName : D → Option String
  | .non => some "NoneType"
  | .bl _ => some "bool"
  | .int _ => some "int"
  | .str _ => some "str"
  | .tup _ => some "tuple"
  | .lst _ => some "list"
  | _ => none
/-- is a type one of these the other, or under it -/
def isSub (a b : String) : Bool := a == b || (a == "bool" && b == "int")
def plainTys : List String := ["int", "bool", "str", "tuple", "list"]
theorem kit_plain (K : PySem.W.Frag) : (plainTys ++ ["NoneType"]).all (fun a => plainTys.all fun b => PySem.W.kitOne K (.type a) (.type b) == some (isSub a b)) = true := by
  first | rfl | decide +kernel | simp [plainTys, PySem.W.kitOne]
end
end L2

namespace L2
open PySem PySem.Spec PyProof.Rows

section
variable {X : Cx}
theorem kit_at (K : PySem.W.Frag) {a b : String} (ha : a ∈ plainTys ++ ["NoneType"]) (hb : b ∈ plainTys) : PySem.W.kitOne K (.type a) (.type b) = some (isSub a b) := by
  have h := kit_plain K
  rw [List.all_eq_true] at h
  have h1 := h a ha
  rw [List.all_eq_true] at h1
  exact beq_iff_eq.mp (h1 b hb)
@[irreducible] def cIsi : RDn := fun xs M Q => ∃ x n t, xs = [x, .ty n] ∧ tyName (viewD x M) = some t ∧ n ∈ plainTys ∧ Q (.bl (isSub t n)) M
theorem rd_isi {x : D} {n t : String} {M : HpD} {Q : KD} (h : tyName (viewD x M) = some t) (hn : n ∈ plainTys) (q : Q (.bl (isSub t n)) M) : cIsi [x, .ty n] M Q := by unfold cIsi; exact ⟨x, n, t, rfl, h, hn, q⟩
theorem cd_isi : CallR X (.builtin "isinstance") (LiftC X.K cIsi) := by
  intro pins s σ H xs us Q I rx h
  obtain ⟨F, ds, M, QD, r, rh, hq, p⟩ := h
  unfold cIsi at hq
  obtain ⟨d, n, t, rfl, ht, hn, q⟩ := hq
  obtain ⟨v, w', rfl, r1, r2⟩ := rep2 r
  unfold RepD at r2
  subst r2
  obtain ⟨u, z, rfl, ru, rz⟩ := vals2 rx
  obtain rfl : z = Value.type n := rz
  obtain ⟨M1, f1, rh1, rv⟩ := view_rep rh r1
  have fin : ∀ tk, EP X pins σ Q (.bool (isSub t n)) { s with toks := tk } := fun tk => ⟨.bl _, H, I.tok tk, rfl, p _ M _ H .refl rh (by unfold RepD; rfl) q⟩
  generalize viewD d M = d' at *
  cases d' with
  | non => cases ht; unfold RepD at rv; subst rv; exact isinst_ok I ru .non (kit_at _ (by simp [plainTys]) hn) fin
  | bl b => cases ht; unfold RepD at rv; subst rv; exact isinst_ok I ru (.bl b) (kit_at _ (by simp [plainTys]) hn) fin
  | int b => cases ht; unfold RepD at rv; subst rv; exact isinst_ok I ru (.int b) (kit_at _ (by simp [plainTys]) hn) fin
  | str b => cases ht; unfold RepD at rv; subst rv; exact isinst_ok I ru (.str b) (kit_at _ (by simp [plainTys]) hn) fin
  | ref b => cases ht
  | ty b => cases ht
  | tup ds =>
    cases ht
    unfold RepD at rv
    obtain ⟨a, xs, rfl, h1, h2⟩ := rv
    cases (show u = Value.ref a from ru)
    obtain ⟨its, _, ⟨o, e1, e2, _⟩, _⟩ := I.tuple h1.sq
    exact PySem.W.kia_one PySem.W.kitx_tuple I.kIn ⟨o, e1, e2⟩ (kit_at _ (by simp [plainTys]) hn) (fun z => nomatch z) fin
  | lst ds =>
    cases ht
    unfold RepD at rv
    obtain ⟨a, xs, rfl, h1, h2⟩ := rv
    cases (show u = Value.ref a from ru)
    obtain ⟨its, _, pl, _⟩ := I.list h1.sq
    obtain ⟨o, e1, e2, _⟩ := pl.isList
    exact PySem.W.kia_one PySem.W.kitx_list I.kIn ⟨o, e1, e2⟩ (kit_at _ (by simp [plainTys]) hn) (fun z => nomatch z) fin
/-! ### xs.append(e) -/
@[irreducible] def tAppD (to te : TDE) : TDE := fun σ M Q => to σ M fun x M1 => ∃ p, x = .ref p ∧ (∃ ds1, M1 p = some (.lst ds1)) ∧ te σ M1 fun y M2 => ∃ ds, M2 p = some (.lst ds) ∧ ds.length < sizeLine ∧ Q .non (updD M2 p (.lst (ds ++ [y])))
theorem rd_app {to te : TDE} {σ : SD} {M : HpD} {Q : KD} (h : to σ M fun x M1 => ∃ p, x = .ref p ∧ (∃ ds1, M1 p = some (.lst ds1)) ∧ te σ M1 fun y M2 => ∃ ds, M2 p = some (.lst ds) ∧ ds.length < sizeLine ∧ Q .non (updD M2 p (.lst (ds ++ [y])))) : tAppD to te σ M Q := by unfold tAppD; exact h
variable {o e : Expr} {to te : TDE} {apos cpos : Pos}
theorem ed_app (ho : ED X o to) (he : ED X e te) (hbase : attributeBase o "append" X.env (eval o X.env) = eval o X.env := by rfl)
    (hfew : ((backTo cpos (starEach (e :: []) X.env)).all (fun x => !x.1) && (backToKw cpos (keywordEach [] X.env)).all (fun x => x.1.isSome)
      && decide ((e :: []).length + ([] : List Keyword).length + (if ([] : List Keyword).isEmpty then 0 else 1) < 30)) = true := by rfl)
    (hline : (apos.endLine == cpos.line) = true := by rfl) (hs : starEach (e :: []) X.env = (false, eval e X.env) :: starEach [] X.env := by rfl) (hplain : (backTo cpos (starEach [] X.env)).any (·.1) = false := by rfl) :
    ED X (.Call (.Attribute o "append" apos) [e] [] cpos) (tAppD to te) := by
  refine (pe_bm PySem.F.plainAttrs_list PySem.F.slot_list_append PySem.F.type_list_append (r := rAppend) mt_append ho (pa_cons he pa_nil hs) hbase hfew hline hs hplain).wk fun σ H Q h => ?_
  obtain ⟨F, σD, M, QD, rel, h, p⟩ := h
  unfold tAppD at h
  refine lE rel h fun d M1 v H1 f1 rel1 r1 h1 => ?_
  obtain ⟨l, rfl, ⟨ds1, e1⟩, h1⟩ := h1
  unfold RepD at r1
  subst r1
  obtain ⟨o', e', xs, rfl, hr⟩ := rel1.hp.at_ l _ e1
  refine ⟨.inl ⟨rfl, xs, .inl (.inl e')⟩, ?_⟩
  show LiftE X.K te σ H1 _
  refine lE rel1 h1 fun y M2 u H2 f2 rel2 r2 h2 => ?_
  obtain ⟨ds, e2, hl, q⟩ := h2
  obtain ⟨o2, e2', ys, rfl, hr2⟩ := rel2.hp.at_ l _ e2
  have r3 : RepO ⟨X.K, F⟩ H2 M2 (.lst (ds ++ [y])) (.lst (ys ++ [u])) := ⟨_, rfl, hr2.append (.cons r2 .nil)⟩
  exact ⟨l, ys, u, rfl, rfl, e2', by rw [← hr2.length]; exact hl, p _ _ _ _ ((f1.trans f2).trans (fz_write e2)) (rel2.hp.write e2 r3) (by unfold RepD; rfl) q⟩
end

/-! ### a def's body over D -/
def startD (N : List Str) (ds : List D) : SD := ds.map some ++ List.replicate (N.length - ds.length) none
theorem start_rel {K : KF} {H : Hp} {M : HpD} {N : List Str} {ds : List D} {vs : List V} (r : RepDs K H M ds vs) (rh : RepH K H M) : Rel K (startD N ds) M (start N vs) H := by
  have hl := r.length
  refine ⟨by unfold startD start; simp [hl], fun i d e => ?_, rh⟩
  unfold startD at e
  by_cases hi : i < ds.length
  · rw [List.getElem?_append_left (by simpa using hi), List.getElem?_map] at e
    cases q : ds[i]? with
    | none => rw [q] at e; cases e
    | some d' =>
      rw [q] at e; cases e
      obtain ⟨v, e1, e2⟩ := r.get q
      refine ⟨v, ?_, e2⟩
      unfold start
      rw [List.getElem?_append_left (by rw [List.length_map, ← hl]; exact hi), List.getElem?_map, e1]
      rfl
  · rw [List.getElem?_append_right (by simpa using hi), List.getElem?_replicate] at e
    split at e <;> cases e
section
variable {P : Program} {w : World} {K : PySem.W.Frag} {mg : Str → Option Value} {base : Heap}
theorem Fun.okD {x qual : Str} {st : Stmt} {f : Addr} {fd : FuncData} {N ps : List Str} {k : Nat} {sp : SpD} {t : TSD} (F : Fun K x qual st f fd) (S : FnScope N ps (defScope st)) (len : ∀ ds M Q, sp ds M Q → ds.length = ps.length)
    (hterm : ∀ (cdv : Value) (A : Around) (outer : List Env) (s : Shared) (H : Hp) (E : XK), Room k (A.deeper (envOfC qual (defScope st) s.heap.objs.size f cdv)) →
      SsD (cxOf CX0 P w K mg base N qual (defScope st) f cdv A outer s H E).nox (defBody st) t)
    (hread : ∀ ds M Q, sp ds M Q → t { nx := fun _ M' => Q .non M', rt := Q } (startD N ds) M) : FnOk P w K mg base CX0 (k + 1) f fd ps (LiftP K sp) := by
  refine F.ok S (fun vs H Q E h => ?_) (fun cdv A outer s H vs Q E hr h => ?_)
  · obtain ⟨F', ds, M, QD, r, rh, hsp, p⟩ := h
    rw [← r.length]
    exact len _ _ _ hsp
  · obtain ⟨F', ds, M, QD, r, rh, hsp, p⟩ := h
    refine ⟨LiftS K t, hterm cdv A outer s H E hr, F', startD N ds, M, _, start_rel r rh, hread ds M QD hsp, ⟨fun σD' M' σ' H' f rel q => p _ M' _ H' f rel.hp (by unfold RepD; rfl) q, p, fun _ _ _ _ _ _ h => h.elim, fun _ _ _ _ _ _ h => h.elim⟩⟩
/-- .. as it is called -/
theorem Fun.cal {x qual : Str} {st : Stmt} {f : Addr} {fd : FuncData} {ps : List Str} {k : Nat} {sp : SpD} (F : Fun K x qual st f fd) (ok : FnOk P w K mg base CX0 k f fd ps (LiftP K sp)) (hm : mg x = some (.ref f)) (hb : Binds K fd ps []) : Cal P w K mg base x k sp :=
  ⟨f, fd, ps, ok, hm, F.kp, hb⟩
end

/-! ### a comprehension's names, checked -/
def compChk (scope out : Scope) (N ts rest : List Str) : Bool :=
  scope.kind == .function && scope.names.all (fun y => scope.names.lookup y.1 == some y.2) &&
  scope.names.all (fun y => y.2 != .free || out.names.lookup y.1 == some .cell || out.names.lookup y.1 == some .free) && rest.length == N.length &&
  (rest.zip N).all (fun q => match scope.names.lookup q.1 with | none => true | some .free => q.1 == q.2 | some .local => false | some .cell => false | _ => true) && decide (ts ++ rest).Nodup
theorem compChk_ok {X : Cx} {scope out : Scope} {N ts rest : List Str} (h : compChk scope out N ts rest = true) (hs : X.env.scope.names = out.names := by rfl) (hN : X.N = N := by rfl) : CompScope X scope ts rest := by
  unfold compChk at h
  simp only [Bool.and_eq_true] at h
  obtain ⟨⟨⟨⟨⟨h1, h2⟩, h3⟩, h4⟩, h5⟩, h6⟩ := h
  rw [List.all_eq_true] at h2 h3 h5
  have look : ∀ y ∈ scope.names, scope.names.lookup y.1 = some y.2 := fun y hy => beq_iff_eq.mp (h2 y hy)
  refine ⟨beq_iff_eq.mp h1, fun y hy e => by rw [look y hy, e], fun y hy e => ?_, look, by rw [hN]; exact beq_iff_eq.mp h4, fun i x e => ?_, of_decide_eq_true h6⟩
  · have := h3 y hy
    rw [e] at this
    simp only [bne_self_eq_false, Bool.false_or, Bool.or_eq_true, beq_iff_eq] at this
    show X.env.scope.names.lookup y.1 = _ ∨ X.env.scope.names.lookup y.1 = _
    rw [hs]
    exact this
  · have hi : i < rest.length := (List.getElem?_eq_some_iff.mp e).1
    have hl : rest.length = N.length := beq_iff_eq.mp h4
    have hz : (rest.zip N)[i]? = some (x, N[i]'(by omega)) := by
      rw [List.getElem?_zip_eq_some]
      exact ⟨e, List.getElem?_eq_getElem (by omega)⟩
    have := h5 _ (List.mem_of_getElem? hz)
    cases q : scope.names.lookup x with
    | none => exact .inl rfl
    | some k =>
      rw [show scope.names.lookup (x, N[i]'(by omega)).1 = some k from q] at this
      cases k with
      | free =>
        refine .inr (.inl ⟨rfl, ?_⟩)
        have : x = N[i]'(by omega) := beq_iff_eq.mp this
        rw [hN, List.getElem?_eq_getElem (by omega)]
        exact congrArg some this.symm
      | «local» => cases this
      | cell => cases this
      | _ => exact .inr (.inr ⟨_, rfl, by decide, by decide, by decide⟩)
end L2

namespace L2
open PySem PySem.Spec PyProof.Rows
def relabelS (scope out : Scope) : Scope :=
  { scope with names := scope.names.map fun (n, k) => if (k == .free && out.kind == .function && out.names.lookup n == some .cell) then (n, .cell) else (n, k) }
abbrev rAddD : RD2 := rIN fun i j => .int (i + j)
abbrev rSubD : RD2 := rIN fun i j => .int (i - j)
abbrev rMulD : RD2 := rID CMul fun i j => .int (i * j)
abbrev rDivD : RD2 := rID CDiv fun i j => .int (i / j)
abbrev rModD : RD2 := rID (fun _ j => 0 < j) fun i j => .int (i % j)
abbrev rPowD : RD2 := rID CPow fun i j => .int (i ^ j.toNat)
abbrev rLtD : RD2 := rIN fun i j => .bl (decide (i < j))
abbrev rLeD : RD2 := rIN fun i j => .bl (decide (i ≤ j))
abbrev rGtD : RD2 := rIN fun i j => .bl (decide (j < i))
abbrev rGeD : RD2 := rIN fun i j => .bl (decide (j ≤ i))
/-- law's promise: a list of at most 63 ints is handed in, True comes out -/
def spLaw : SpD := fun ds M Q => ∃ ns : List Int, ds = [.lst (ns.map D.int)] ∧ ns.length ≤ 63 ∧ M = (fun _ => none) ∧ ∀ M', Q (.bl true) M'
theorem law_in {K : PySem.W.Frag} {H : Hp} {a : Addr} {ns : List Int} (hl : ns.length ≤ 63) (hS : SqL K H a (ns.map V.int)) : LiftP K spLaw [.ref a] H (fun v _ => v = .bl true) fun _ _ _ => False := by
  have ri : ∀ {K : KF} {H : Hp} {M : HpD} (l : List Int), RepDs K H M (l.map D.int) (l.map V.int) := fun {K H M} l => by
    induction l with
    | nil => exact .nil
    | cons x r ih => exact .cons (by unfold RepD; rfl) ih
  refine ⟨fun _ => False, [.lst (ns.map D.int)], fun _ => none, fun d _ => d = .bl true, .cons ?_ .nil, ⟨(fun _ _ e => nomatch e), fun _ z => False.elim z⟩, ⟨ns, rfl, hl, rfl, fun _ => rfl⟩, fun d M' v H' _ _ r e => ?_⟩
  · unfold RepD
    refine ⟨a, _, rfl, ?_, ri ns⟩
    rcases hS with h | h
    · exact .inl ⟨h, rfl, fun z => z⟩
    · exact .inr (.inr h)
  · subst e
    unfold RepD at r
    exact r
end L2

namespace L2
open PySem PySem.W PyProof.Rows

/-! ### sorting: what a run of questions tells, where the answers follow ranks -/
def okS {α : Type} (lt : Nat → Nat → Bool) (n : Nat) : KasT α → (α → Prop) → Prop
  | .ret a, P => P a
  | .ask i j k, P => i < n ∧ j < n ∧ okS lt n (k (lt i j)) P
theorem okS_mono {α : Type} {lt : Nat → Nat → Bool} {n : Nat} {P P' : α → Prop} (h : ∀ a, P a → P' a) : ∀ (t : KasT α), okS lt n t P → okS lt n t P'
  | .ret a, z => h a z
  | .ask i j k, ⟨z1, z2, z⟩ => ⟨z1, z2, okS_mono h (k (lt i j)) z⟩
theorem okS_bind {α β : Type} {lt : Nat → Nat → Bool} {n : Nat} {f : α → KasT β} {P : β → Prop} : ∀ (t : KasT α), okS lt n t (fun a => okS lt n (f a) P) → okS lt n (t.bind f) P
  | .ret _, z => z
  | .ask i j k, ⟨z1, z2, z⟩ => ⟨z1, z2, okS_bind (k (lt i j)) z⟩
theorem okS_wp {α : Type} {lt : Nat → Nat → Bool} {n : Nat} {s : Shared} {cmp : Nat → Nat → (Bool → Shared → Prop) → Shared → Prop} (hc : ∀ i j, i < n → j < n → ∀ C : Bool → Shared → Prop, C (lt i j) s → cmp i j C s) {Q : α → Shared → Prop} : ∀ (t : KasT α), okS lt n t (fun a => Q a s) → t.kasWp cmp Q s
  | .ret _, z => z
  | .ask i j k, ⟨z1, z2, z⟩ => hc i j z1 z2 _ (okS_wp hc (k (lt i j)) z)

section
variable {r : Nat → Int} {n : Nat}
def PermN (n : Nat) (p : Array Nat) : Prop := p.Perm (List.range n).toArray
theorem PermN.size {p : Array Nat} (h : PermN n p) : p.size = n := by
  have := h.size_eq
  simpa using this
theorem PermN.lt {p : Array Nat} (h : PermN n p) {k : Nat} (hk : k < n) : p.getD k 0 < n := by
  have hs := h.size
  have hk' : k < p.size := by omega
  have e : p.getD k 0 = p[k] := by simp [Array.getD, hk']
  have m : p[k] ∈ (List.range n).toArray := h.mem_iff.mp (Array.getElem_mem hk')
  rw [e]
  simpa using m
def rkV (r : Nat → Int) (p : Array Nat) (k : Nat) : Int := r (p.getD k 0)
def Srt (r : Nat → Int) (p : Array Nat) (m : Nat) : Prop := ∀ i j, i ≤ j → j < m → rkV r p i ≤ rkV r p j
def Fall (r : Nat → Int) (p : Array Nat) (m : Nat) : Prop := ∀ i j, i ≤ j → j < m → rkV r p j ≤ rkV r p i
def Lev (r : Nat → Int) (p : Array Nat) (a b : Nat) : Prop := ∀ k, a ≤ k → k < b → rkV r p k = rkV r p (b - 1)
theorem getD_of {p q : Array Nat} {i j : Nat} (h : p[i]? = q[j]?) : p.getD i 0 = q.getD j 0 := by
  rw [Array.getD_eq_getD_getElem?, Array.getD_eq_getD_getElem?, h]
theorem rkV_rev {p : Array Nat} {i j : Nat} (hj : j ≤ p.size) (k : Nat) : rkV r (kas_rev p i j) k = if i ≤ k ∧ k < j then rkV r p (i + j - 1 - k) else rkV r p k := by
  have e := getElem?_mirror_all (i := i) hj k
  unfold rkV kas_rev
  by_cases h : i ≤ k ∧ k < j
  · rw [if_pos h] at e ⊢; rw [getD_of e]
  · rw [if_neg h] at e ⊢; rw [getD_of e]
theorem rkV_lev {p : Array Nat} {i j : Nat} (hj : j ≤ p.size) (h : Lev r p i j) (k : Nat) : rkV r (kas_rev p i j) k = rkV r p k := by
  rw [rkV_rev hj]
  by_cases z : i ≤ k ∧ k < j
  · rw [if_pos z, h _ (by omega) (by omega), h k z.1 z.2]
  · rw [if_neg z]
theorem PermN.rev {p : Array Nat} (h : PermN n p) (i j : Nat) : PermN n (kas_rev p i j) := (mirror_perm _ _ _ _).trans h
theorem rkV_bub {p : Array Nat} {k l : Nat} (hk : k < p.size) (hl : l ≤ k) (i : Nat) : rkV r (bubble p k (k - l)) i = if i = l then rkV r p k else if l < i ∧ i ≤ k then rkV r p (i - 1) else rkV r p i := by
  have e := getElem?_bubble hk (k - l) (by omega) i
  rw [show k - (k - l) = l by omega] at e
  unfold rkV
  by_cases h : i = l
  · rw [if_pos h] at e ⊢; rw [getD_of e]
  · rw [if_neg h] at e ⊢
    by_cases h2 : l < i ∧ i ≤ k
    · rw [if_pos h2] at e ⊢; rw [getD_of e]
    · rw [if_neg h2] at e ⊢; rw [getD_of e]

abbrev rlt (r : Nat → Int) : Nat → Nat → Bool := fun i j => decide (r i < r j)
theorem ok_asc {p : Array Nat} (hp : PermN n p) : ∀ (f m : Nat), 1 ≤ m → m + f ≤ n → Srt r p m → okS (rlt r) n (kas_asc p f m) (fun m' => m ≤ m' ∧ m' ≤ m + f ∧ Srt r p m' ∧ (m' < m + f → rkV r p m' < rkV r p (m' - 1)))
  | 0, m, _, _, hs => ⟨Nat.le_refl _, Nat.le_refl _, hs, fun z => absurd z (by omega)⟩
  | f + 1, m, h1, h2, hs => by
    unfold kas_asc
    refine ⟨hp.lt (by omega), hp.lt (by omega), ?_⟩
    by_cases c : rkV r p m < rkV r p (m - 1)
    · rw [show rlt r (p.getD m 0) (p.getD (m - 1) 0) = true from decide_eq_true c]; dsimp only; rw [if_pos rfl]
      exact ⟨Nat.le_refl _, by omega, hs, fun _ => c⟩
    · rw [show rlt r (p.getD m 0) (p.getD (m - 1) 0) = false from decide_eq_false c]; dsimp only; rw [if_neg Bool.false_ne_true]
      refine okS_mono ?_ _ (ok_asc hp f (m + 1) (by omega) (by omega) fun i j hij hj => ?_)
      · rintro a ⟨z1, z2, z3, z4⟩
        exact ⟨by omega, by omega, z3, fun z => z4 (by omega)⟩
      · by_cases z : j = m
        · subst z
          by_cases y : i = j
          · rw [y]; exact Int.le_refl _
          · have := hs i (j - 1) (by omega) (by omega)
            omega
        · exact hs i j hij (by omega)
theorem ok_desc : ∀ (f : Nat) (p : Array Nat) (m q : Nat), PermN n p → q + 1 ≤ m → m + f ≤ n → Fall r p m → Lev r p (m - (q + 1)) m → okS (rlt r) n (kas_desc f p m q) (fun t => PermN n t.1 ∧ t.2.2 + 1 ≤ t.2.1 ∧ m ≤ t.2.1 ∧ t.2.1 ≤ m + f ∧ Fall r t.1 t.2.1 ∧ Lev r t.1 (t.2.1 - (t.2.2 + 1)) t.2.1)
  | 0, p, m, q, hp, h1, h2, hf, hl => ⟨hp, h1, Nat.le_refl _, Nat.le_refl _, hf, hl⟩
  | f + 1, p, m, q, hp, h1, h2, hf, hl => by
    unfold kas_desc
    refine ⟨hp.lt (by omega), hp.lt (by omega), ?_⟩
    have hz := hp.size
    by_cases c : rkV r p m < rkV r p (m - 1)
    · rw [show rlt r (p.getD m 0) (p.getD (m - 1) 0) = true from decide_eq_true c]; dsimp only; rw [if_pos rfl]
      have hf2 : Fall r p (m + 1) := fun i j hij hj => by
        by_cases z : j = m
        · subst z
          by_cases y : i = j
          · rw [y]; exact Int.le_refl _
          · have := hf i (j - 1) (by omega) (by omega)
            omega
        · exact hf i j hij (by omega)
      by_cases hq : q > 0
      · rw [if_pos hq]
        have ev := rkV_lev (r := r) (p := p) (i := m - (q + 1)) (j := m) (by omega) hl
        refine okS_mono ?_ _ (ok_desc f (kas_rev p (m - (q + 1)) m) (m + 1) 0 (hp.rev _ _) (by omega) (by omega) (fun i j hij hj => ?_) (fun k z1 z2 => ?_))
        · rintro a ⟨z1, z2, z3, z4, z5⟩
          exact ⟨z1, z2, by omega, by omega, z5⟩
        · rw [ev, ev]; exact hf2 i j hij hj
        · rw [show k = m + 1 - 1 by omega]
      · rw [if_neg hq]
        refine okS_mono ?_ _ (ok_desc f p (m + 1) 0 hp (by omega) (by omega) hf2 (fun k z1 z2 => ?_))
        · rintro a ⟨z1, z2, z3, z4, z5⟩
          exact ⟨z1, z2, by omega, by omega, z5⟩
        · rw [show k = m + 1 - 1 by omega]
    · rw [show rlt r (p.getD m 0) (p.getD (m - 1) 0) = false from decide_eq_false c]; dsimp only; rw [if_neg Bool.false_ne_true]
      refine ⟨hp.lt (by omega), hp.lt (by omega), ?_⟩
      by_cases d : rkV r p (m - 1) < rkV r p m
      · rw [show rlt r (p.getD (m - 1) 0) (p.getD m 0) = true from decide_eq_true d]; dsimp only; rw [if_pos rfl]
        exact ⟨hp, h1, Nat.le_refl _, by show m ≤ m + (f + 1); omega, hf, hl⟩
      · rw [show rlt r (p.getD (m - 1) 0) (p.getD m 0) = false from decide_eq_false d]; dsimp only; rw [if_neg Bool.false_ne_true]
        refine okS_mono ?_ _ (ok_desc f p (m + 1) (q + 1) hp (by omega) (by omega) (fun i j hij hj => ?_) (fun k z1 z2 => ?_))
        · rintro a ⟨z1, z2, z3, z4, z5⟩
          exact ⟨z1, z2, by omega, by omega, z5⟩
        · by_cases z : j = m
          · subst z
            by_cases y : i = j
            · rw [y]; exact Int.le_refl _
            · have := hf i (j - 1) (by omega) (by omega)
              omega
          · exact hf i j hij (by omega)
        · rw [show m + 1 - 1 = m by omega]
          by_cases y : k = m
          · rw [y]
          · have := hl k (by omega) (by omega)
            omega
theorem ok_tail3 {p : Array Nat} (hp : PermN n p) {m : Nat} (h1 : 1 ≤ m) (h2 : m ≤ n) (hf : Fall r p m) : okS (rlt r) n (kas_tail3 m n p) (fun t => PermN n t.2 ∧ t.1 ≤ n ∧ Srt r t.2 t.1) := by
  unfold kas_tail3
  have hz := hp.size
  have hs : Srt r (kas_rev p 0 m) m := fun i j hij hj => by
    rw [rkV_rev (by omega), rkV_rev (by omega), if_pos (by omega), if_pos (by omega)]
    exact hf _ _ (by omega) (by omega)
  refine okS_bind _ (okS_mono ?_ _ (ok_asc (hp.rev 0 m) (n - m) m h1 (by omega) hs))
  rintro a ⟨z1, z2, z3, _⟩
  exact ⟨hp.rev 0 m, by show a ≤ n; omega, z3⟩
theorem ok_descPart {p : Array Nat} (hp : PermN n p) {m : Nat} (h1 : 1 ≤ m) (h2 : m + 1 ≤ n) (hf : Fall r p (m + 1)) : okS (rlt r) n (kas_descPart m n p) (fun t => PermN n t.2 ∧ t.1 ≤ n ∧ Srt r t.2 t.1) := by
  unfold kas_descPart
  refine okS_bind _ (okS_mono ?_ _ (ok_desc (n - (m + 1)) p (m + 1) 0 hp (by omega) (by omega) hf (fun k z1 z2 => by rw [show k = m + 1 - 1 by omega])))
  rintro ⟨p', m', q⟩ ⟨z1, z2, z3, z4, z5, z6⟩
  dsimp only at *
  have hz := z1.size
  by_cases hq : q > 0
  · rw [if_pos hq]
    have ev := rkV_lev (r := r) (p := p') (i := m' - (q + 1)) (j := m') (by omega) z6
    exact ok_tail3 (z1.rev _ _) (by omega) (by omega) fun i j hij hj => by rw [ev, ev]; exact z5 i j hij hj
  · rw [if_neg hq]
    exact ok_tail3 z1 (by omega) (by omega) z5
theorem ok_count {p : Array Nat} (hp : PermN n p) (hn : 1 ≤ n) : okS (rlt r) n (kas_count n p) (fun t => PermN n t.2 ∧ t.1 ≤ n ∧ Srt r t.2 t.1) := by
  unfold kas_count
  have hz := hp.size
  refine okS_bind _ (okS_mono ?_ _ (ok_asc hp (n - 1) 1 (Nat.le_refl _) (by omega) (fun i j hij hj => by rw [show i = j by omega]; exact Int.le_refl _)))
  rintro m ⟨z1, z2, z3, z4⟩
  by_cases h : m = n
  · rw [if_pos (by rw [h]; exact beq_self_eq_true n)]
    exact ⟨hp, by show m ≤ n; omega, z3⟩
  · rw [if_neg (by intro z; exact h (beq_iff_eq.mp z))]
    have lt := z4 (by omega)
    by_cases h1 : m > 1
    · rw [if_pos h1]
      refine ⟨hp.lt (by omega), hp.lt (by omega), ?_⟩
      by_cases c : rkV r p 0 < rkV r p (m - 1)
      · rw [show rlt r (p.getD 0 0) (p.getD (m - 1) 0) = true from decide_eq_true c]; dsimp only; rw [if_pos rfl]
        exact ⟨hp, by show m ≤ n; omega, z3⟩
      · rw [show rlt r (p.getD 0 0) (p.getD (m - 1) 0) = false from decide_eq_false c]; dsimp only; rw [if_neg Bool.false_ne_true]
        have hl : Lev r p 0 m := fun k y1 y2 => by
          have := z3 0 k (by omega) y2
          have := z3 k (m - 1) (by omega) (by omega)
          omega
        have ev := rkV_lev (r := r) (p := p) (i := 0) (j := m) (by omega) hl
        refine ok_descPart (hp.rev _ _) (by omega) (by omega) fun i j hij hj => ?_
        rw [ev, ev]
        by_cases y : j = m
        · by_cases y2 : i = m
          · rw [y, y2]; exact Int.le_refl _
          · have := hl i (by omega) (by omega)
            rw [y]; omega
        · have := hl i (by omega) (by omega)
          have := hl j (by omega) (by omega)
          omega
    · rw [if_neg h1]
      have : m = 1 := by omega
      subst this
      refine ok_descPart hp (by omega) (by omega) fun i j hij hj => ?_
      by_cases y : i = j
      · rw [y]; exact Int.le_refl _
      · rw [show j = 1 by omega, show i = 0 by omega]
        exact Int.le_of_lt lt
theorem ok_place {p : Array Nat} (hp : PermN n p) {k : Nat} (hk : k < n) (hs : Srt r p k) : ∀ (f l u : Nat), l ≤ u → u ≤ k → u - l ≤ f → (∀ i, i < l → rkV r p i ≤ rkV r p k) → (∀ i, u ≤ i → i < k → rkV r p k < rkV r p i) →
    okS (rlt r) n (kas_place p k f l u) (fun l' => l' ≤ k ∧ (∀ i, i < l' → rkV r p i ≤ rkV r p k) ∧ ∀ i, l' ≤ i → i < k → rkV r p k < rkV r p i)
  | 0, l, u, h1, h2, h3, a, b => by
    unfold kas_place
    have : l = u := by omega
    subst this
    exact ⟨h2, a, b⟩
  | f + 1, l, u, h1, h2, h3, a, b => by
    unfold kas_place
    by_cases h : l ≥ u
    · rw [if_pos h]
      have : l = u := by omega
      subst this
      exact ⟨h2, a, b⟩
    · rw [if_neg h]
      refine ⟨hp.lt hk, hp.lt (by omega), ?_⟩
      by_cases c : rkV r p k < rkV r p ((l + u) / 2)
      · rw [show rlt r (p.getD k 0) (p.getD ((l + u) / 2) 0) = true from decide_eq_true c]; dsimp only; rw [if_pos rfl]
        refine ok_place hp hk hs f l ((l + u) / 2) (by omega) (by omega) (by omega) a fun i y1 y2 => ?_
        have := hs ((l + u) / 2) i y1 y2
        omega
      · rw [show rlt r (p.getD k 0) (p.getD ((l + u) / 2) 0) = false from decide_eq_false c]; dsimp only; rw [if_neg Bool.false_ne_true]
        refine ok_place hp hk hs f ((l + u) / 2 + 1) u (by omega) h2 (by omega) (fun i y => ?_) b
        have := hs i ((l + u) / 2) (by omega) (by omega)
        omega
theorem ok_bin : ∀ (f : Nat) (p : Array Nat) (k : Nat), PermN n p → Srt r p k → k + f = n → okS (rlt r) n (kas_bin f p k) (fun p' => PermN n p' ∧ Srt r p' n)
  | 0, p, k, hp, hs, hn => ⟨hp, by rw [show n = k by omega]; exact hs⟩
  | f + 1, p, k, hp, hs, hn => by
    unfold kas_bin
    have hz := hp.size
    refine okS_bind _ (okS_mono ?_ _ (ok_place hp (k := k) (by omega) hs k 0 k (Nat.zero_le _) (Nat.le_refl _) (by omega) (fun i z => absurd z (by omega)) (fun i z1 z2 => absurd z1 (by omega))))
    rintro l ⟨z1, z2, z3⟩
    refine ok_bin f (bubble p k (k - l)) (k + 1) ((bubble_perm _ _ _).trans hp) (fun i j hij hj => ?_) (by omega)
    rw [rkV_bub (by omega) z1, rkV_bub (by omega) z1]
    by_cases ei : i = l
    · rw [if_pos ei]
      by_cases ej : j = l
      · rw [if_pos ej]; exact Int.le_refl _
      · rw [if_neg ej, if_pos (by omega)]
        exact Int.le_of_lt (z3 _ (by omega) (by omega))
    · rw [if_neg ei]
      by_cases ej : j = l
      · rw [if_pos ej, if_neg (by omega)]
        exact z2 _ (by omega)
      · rw [if_neg ej]
        by_cases ci : l < i ∧ i ≤ k
        · rw [if_pos ci, if_pos (by omega)]
          exact hs _ _ (by omega) (by omega)
        · rw [if_neg ci]
          by_cases cj : l < j ∧ j ≤ k
          · rw [if_pos cj]
            exact hs _ _ (by omega) (by omega)
          · rw [if_neg cj]
            exact hs _ _ (by omega) (by omega)
theorem ok_sort (hn : 1 ≤ n) : okS (rlt r) n (kas_sort n) (fun p => PermN n p ∧ Srt r p n) := by
  unfold kas_sort
  refine okS_bind _ (okS_mono ?_ _ (ok_count (Array.Perm.refl _) hn))
  rintro ⟨m, p⟩ ⟨z1, z2, z3⟩
  dsimp only at *
  by_cases h : m < n
  · rw [if_pos h]
    refine ok_bin _ _ _ z1 (fun i j hij hj => ?_) (by omega)
    by_cases y : i = j
    · rw [y]; exact Int.le_refl _
    · exact z3 i j hij (by omega)
  · rw [if_neg h]
    exact ⟨z1, by rw [show n = m by omega]; exact z3⟩
end
end L2

namespace L2
open PySem PySem.W PyProof.Rows

section
variable {prog : Program} {w : World} {A : Around} {E : Value → Shared → Prop} {s : Shared}
def sortAns (vs : List Value) (p : Array Nat) : Array Value := (p.toList.map fun i => vs.getD i Value.none).toArray
theorem sortAns_id (vs : List Value) : sortAns vs (List.range vs.length).toArray = vs.toArray := by
  unfold sortAns
  congr 1
  apply List.ext_getElem?
  intro i
  rw [List.getElem?_map]
  by_cases h : i < vs.length
  · rw [List.getElem?_range h, List.getElem?_eq_getElem h]
    simp [List.getD_eq_getElem?_getD, h]
  · rw [List.getElem?_eq_none (by simp; omega), List.getElem?_eq_none (by omega)]
    rfl
/-- the questions of a sort are answered by ranks, whatever else the heap holds by then -/
def AskRk (prog : Program) (w : World) (A : Around) (s : Shared) (vs ks : List Value) (a : Addr) (r : Nat → Int) : Prop :=
  2 ≤ vs.length → ∀ h' : Heap, (∀ b o, b ≠ a → s.heap.get? b = some o → h'.get? b = some o) → ∃ κ : SortKind,
    (∀ (Q : SortKind → Shared → Prop) (E : Value → Shared → Prop), Q κ { s with heap := h' } → wpAny (model prog w) A (keyKind' ks.toArray) Q E { s with heap := h' }) ∧
    ∀ i j, i < vs.length → j < vs.length → ∀ C : Bool → Shared → Prop, C (rlt r i j) { s with heap := h' } → wpAny (model prog w) A (keyLt' κ (ks.getD i Value.none) (ks.getD j Value.none)) C (fun _ _ => False) { s with heap := h' }
theorem list_sort_rk {a : Addr} {vs : List Value} {n : Nat} {r : Nat → Int} {P : PySem.Fin → Shared → Prop} (ho : s.heap.get? a = some (seqObj "list" vs.toArray n)) (h64 : vs.length < 64) (ask : AskRk prog w A s vs vs a r)
    (h : ∀ p : Array Nat, PermN vs.length p → Srt r p vs.length → P (.done (.ret .none)) { s with heap := sortedHeap s.heap a vs (sortAns vs p) }) :
    wpAny (model prog w) A (Builtin.«list.sort» ⟨[.ref a], []⟩) P E s := by
  rw [list_sort_plain]
  have ha : a < s.heap.objs.size := Heap.lt_size ho
  refine wpAny_bind (listItems_at ho rfl ?_)
  refine wpAny_bind (listUpdate_at ho rfl ?_)
  obtain ⟨e1, ho1⟩ : ∃ e1, (s.heap.update a (Obj.mapSeq fun _ => #[])).get? a = some (seqObj "list" #[] e1) := ⟨_, get?_update_seq ho (fun _ => #[])⟩
  refine wpAny_bind (seqEpoch_at ho1 rfl ?_)
  refine wpAny_bind (wpAny_newTuple ?_)
  refine wpAny_bind (wpAny_newList ?_)
  refine wpAny_holding ?_
  have ho6 : (((s.heap.update a (Obj.mapSeq fun _ => #[])).push (seqObj "tuple" vs.toArray 0)).push (seqObj "list" #[] 0)).get? a = some (seqObj "list" #[] e1) := by
    rw [Heap.get?_push_ne _ _ _ (by rw [size_push', Heap.size_update]; exact Nat.ne_of_lt (Nat.lt_succ_of_lt ha)), Heap.get?_push_ne _ _ _ (by rw [Heap.size_update]; exact Nat.ne_of_lt ha)]
    exact ho1
  have keep : ∀ b o, b ≠ a → s.heap.get? b = some o → (((s.heap.update a (Obj.mapSeq fun _ => #[])).push (seqObj "tuple" vs.toArray 0)).push (seqObj "list" #[] 0)).get? b = some o := fun b o hb q =>
    Heap.get?_push_of_some _ (Heap.get?_push_of_some _ ((Heap.get?_update_ne _ _ _ _ hb).trans q))
  show wpAny (model prog w) A _ P E { s with heap := ((s.heap.update a (Obj.mapSeq fun _ => #[])).push (seqObj "tuple" vs.toArray 0)).push (seqObj "list" #[] 0) }
  dsimp only
  have hsz : vs.toArray.size = vs.length := by simp
  by_cases h2 : vs.toArray.size < 2
  · rw [if_pos h2, if_pos h2]
    refine wpAny_bind (wpAny_pure ?_)
    rw [StateT.run_pure]
    refine wpAny_bind (wpAny_pure ?_)
    dsimp only
    have e2 : (arrOf (SortSt.mk' general' (vs.toArray.zip vs.toArray) #[] 7 none)).map (·.2) = sortAns vs (List.range vs.length).toArray := by
      rw [sortAns_id]
      show (vs.toArray.zip vs.toArray).map (·.2) = vs.toArray
      apply Array.ext
      · simp
      · intro i _ _; simp
    rw [e2]
    refine wpAny_bind (seqEpoch_at ho6 rfl ?_)
    refine wpAny_bind (listUpdate_at ho6 rfl ?_ (hsz2 := by rw [sortAns_id, sizeLine_eq]; omega))
    simp only [bne_self_eq_false, Bool.false_eq_true, if_false]
    refine wpAny_pure (h _ (Array.Perm.refl _) ?_)
    intro i j hij hj
    rw [show i = j by omega]; exact Int.le_refl _
  · rw [if_neg h2, if_neg h2]
    obtain ⟨κ, hk, hc⟩ := ask (by omega) _ keep
    refine wpAny_bind (hk _ _ ?_)
    refine wpAny_bind (wpAny_mono (kat_run (ks := vs) (vs := vs) (Q := fun st' s' => s' = { s with heap := ((s.heap.update a (Obj.mapSeq fun _ => #[])).push (seqObj "tuple" vs.toArray 0)).push (seqObj "list" #[] 0) } ∧ ∃ p : Array Nat, PermN vs.length p ∧ Srt r p vs.length ∧ arrOf st' = p.map (kas_item (vs.toArray.zip vs.toArray)) ∧ failedOf st' = none)
      (G := fun p s' => s' = { s with heap := ((s.heap.update a (Obj.mapSeq fun _ => #[])).push (seqObj "tuple" vs.toArray 0)).push (seqObj "list" #[] 0) } ∧ PermN vs.length p ∧ Srt r p vs.length)
      rfl (by omega) h64 (fun p st' s' a1 a2 a3 a4 => ⟨a4.1, p, a4.2.1, a4.2.2, a2, a3⟩) (okS_wp (n := vs.length) (lt := rlt r) hc _ (okS_mono (fun p z => ⟨rfl, z⟩) _ (ok_sort (by omega))))) ?_ fun _ _ e => e)
    rintro ⟨⟨⟩, st'⟩ s' ⟨rfl, p, hp, hs, har, hf⟩
    dsimp only at *
    have hout := kat_snds (ks := vs) (vs := vs) rfl har
    rw [show (arrOf st').map (fun x => x.2) = sortAns vs p from hout]
    have hpz := hp.size
    refine wpAny_bind (seqEpoch_at ho6 rfl ?_)
    refine wpAny_bind (listUpdate_at ho6 rfl ?_ (hsz2 := by unfold sortAns; rw [List.size_toArray, List.length_map, Array.length_toList, hpz, sizeLine_eq]; omega))
    rw [hf]
    simp only [bne_self_eq_false, Bool.false_eq_true, if_false]
    exact wpAny_pure (h p hp hs)
theorem sorted_rk {l : Addr} {vs : List Value} {r : Nat → Int} {Q : Value → Shared → Prop} (hl : s.heap.IsList l vs.toArray) (h64 : vs.length < 64)
    (ask : 2 ≤ vs.length → ∀ h' : Heap, (∀ b o, s.heap.get? b = some o → h'.get? b = some o) → ∃ κ : SortKind,
      (∀ (Q : SortKind → Shared → Prop) (E : Value → Shared → Prop), Q κ { s with heap := h' } → wpAny (model prog w) A.in1.in1 (keyKind' vs.toArray) Q E { s with heap := h' }) ∧
      ∀ i j, i < vs.length → j < vs.length → ∀ C : Bool → Shared → Prop, C (rlt r i j) { s with heap := h' } → wpAny (model prog w) A.in1.in1 (keyLt' κ (vs.getD i Value.none) (vs.getD j Value.none)) C (fun _ _ => False) { s with heap := h' })
    (h : ∀ p : Array Nat, PermN vs.length p → Srt r p vs.length → Q (.ref (s.heap.objs.size + 1)) { s with heap := sortedAll s.heap vs (sortAns vs p) }) :
    wpAny (model prog w) A (call (.builtin "sorted") [.ref l]) Q E s := by
  refine Calls.call_function_entry kind_sorted plain_sorted entry_sorted (args_sorted1 _) ?_
  unfold Builtin.«sorted»
  refine wpAny_bind (m := checkCount "sorted" 1 1 _) (wpAny_pure ?_)
  refine wpAny_bind (collect_list hl ?_)
  refine wpAny_bind (wpAny_newList ?_)
  have hsz : ((s.heap.push (seqObj "list" #[] 0)).update s.heap.objs.size (Obj.mapSeq (· ++ vs.toArray))).objs.size = s.heap.objs.size + 1 := by
    rw [Heap.size_update, size_push']
  have hoL : (((s.heap.push (seqObj "list" #[] 0)).update s.heap.objs.size (Obj.mapSeq (· ++ vs.toArray))).push (seqObj "list" vs.toArray 0)).get? (s.heap.objs.size + 1) = some (seqObj "list" vs.toArray 0) := by
    rw [← hsz]; exact Heap.get?_push_size _ rfl
  have keep : ∀ b o, s.heap.get? b = some o → (((s.heap.push (seqObj "list" #[] 0)).update s.heap.objs.size (Obj.mapSeq (· ++ vs.toArray))).push (seqObj "list" vs.toArray 0)).get? b = some o ∧ b ≠ s.heap.objs.size + 1 := fun b o q => by
    have hlt : b < s.heap.objs.size := Heap.lt_size q
    rw [Heap.get?_push_ne _ _ _ (by rw [hsz]; exact Nat.ne_of_lt (Nat.lt_succ_of_lt hlt)), Heap.get?_update_ne _ _ _ _ (Nat.ne_of_lt hlt), Heap.get?_push_ne _ _ _ (Nat.ne_of_lt hlt)]
    exact ⟨q, Nat.ne_of_lt (Nat.lt_succ_of_lt hlt)⟩
  show wpAny _ _ _ _ _ { s with heap := ((s.heap.push (seqObj "list" #[] 0)).update s.heap.objs.size (Obj.mapSeq (· ++ vs.toArray))).push (seqObj "list" vs.toArray 0) }
  rw [hsz]
  refine wpAny_bind (wpAny_holding (wpAny_call_entry slot_list_sort ⟨_, hoL, rfl⟩ entry_list_sort (list_sort_rk (r := r) hoL h64 (fun h2 h' kp => ask h2 h' fun b o q => kp b o (keep b o q).2 (keep b o q).1) fun p a1 a2 => ⟨_, rfl, ?_⟩) (args_list_sort _)))
  exact wpAny_pure ⟨_, rfl, h p a1 a2⟩
end
end L2

namespace L2
open PySem PySem.Spec PyProof.Rows

/-! ### ranks out of an order -/
structure LinLt {α : Type} (lt : α → α → Bool) : Prop where
  irr : ∀ a, lt a a = false
  tr : ∀ a b c, lt a b = true → lt b c = true → lt a c = true
  tot : ∀ a b, lt a b = false → lt b a = false → a = b
def rankA {α : Type} (lt : α → α → Bool) (as : List α) (a : α) : Int := ((as.countP fun b => lt b a : Nat) : Int)
theorem countP_lt {α : Type} {p q : α → Bool} : ∀ {l : List α}, (∀ x ∈ l, p x = true → q x = true) → ∀ {y : α}, y ∈ l → q y = true → p y = false → l.countP p < l.countP q
  | [], _, _, h, _, _ => nomatch h
  | x :: r, hpq, y, h, hq, hp => by
    have hle : r.countP p ≤ r.countP q := List.countP_mono_left fun z hz => hpq z (List.mem_cons_of_mem _ hz)
    rcases List.mem_cons.mp h with rfl | h
    · rw [List.countP_cons_of_neg (by rw [hp]; exact Bool.false_ne_true), List.countP_cons_of_pos hq]; omega
    · have ih := countP_lt (l := r) (fun z hz => hpq z (List.mem_cons_of_mem _ hz)) h hq hp
      by_cases a : p x = true
      · rw [List.countP_cons_of_pos a, List.countP_cons_of_pos (hpq x List.mem_cons_self a)]; omega
      · rw [List.countP_cons_of_neg a]
        by_cases b : q x = true
        · rw [List.countP_cons_of_pos b]; omega
        · rw [List.countP_cons_of_neg b]; exact ih
theorem rank_lt {α : Type} {lt : α → α → Bool} (L : LinLt lt) {as : List α} {a b : α} (ha : a ∈ as) (hb : b ∈ as) : decide (rankA lt as a < rankA lt as b) = lt a b := by
  unfold rankA
  cases q : lt a b with
  | true =>
    have := countP_lt (p := fun c => lt c a) (q := fun c => lt c b) (l := as) (fun x _ h => L.tr x a b h q) ha q (L.irr a)
    exact decide_eq_true (by omega)
  | false =>
    have : as.countP (fun c => lt c b) ≤ as.countP (fun c => lt c a) := List.countP_mono_left fun x _ h => by
      cases z : lt b a with
      | true => exact L.tr x b a h z
      | false => rw [L.tot a b q z]; exact h
    exact decide_eq_false (by omega)

/-! ### the order of values -/
def ltF : D → D → Bool
  | .int a, .int b => decide (a < b)
  | .str a, .str b => decide (a.cps.toList < b.cps.toList)
  | _, _ => false
def cmpF : D → D → Bool
  | .int _, .int _ => true
  | .str _, .str _ => true
  | _, _ => false
def ltT : List D → List D → Bool
  | a :: r, b :: s => if eqD a b = true then ltT r s else ltF a b
  | [], _ :: _ => true
  | _, _ => false
def cmpT : List D → List D → Bool
  | a :: r, b :: s => okD a b && (if eqD a b = true then cmpT r s else cmpF a b)
  | _, _ => true
def ltD : D → D → Bool
  | .tup a, .tup b => ltT a b
  | d, e => ltF d e
/-- values that can be sorted together: ints, texts, or tuples whose first items are ints, or texts -/
inductive SrtK (ds : List D) : Prop
  | kI (h : ∀ d ∈ ds, ∃ i, d = .int i)
  | kS (h : ∀ d ∈ ds, ∃ i, d = .str i)
  | tupI (h : ∀ d ∈ ds, ∃ i r, d = .tup (.int i :: r) ∧ depDs (.int i :: r) ≤ 60) (c : ∀ a b, D.tup a ∈ ds → D.tup b ∈ ds → cmpT a b = true)
  | tupS (h : ∀ d ∈ ds, ∃ i r, d = .tup (.str i :: r) ∧ depDs (.str i :: r) ≤ 60) (c : ∀ a b, D.tup a ∈ ds → D.tup b ∈ ds → cmpT a b = true)

section
variable {X : Cx} {pins : List (Addr × Obj)} {σ : St} {H : Hp} {s : Shared} {F : Addr → Prop} {M : HpD}
theorem oneLt_D {fl : Bool} {A : Around} {E : Value → Shared → Prop} {a b : D} {x y : V} {u v : Value} {Q : Bool → Shared → Prop} (c : cmpF a b = true) (r1 : RepD ⟨X.K, F⟩ H M a x) (r2 : RepD ⟨X.K, F⟩ H M b y) (q1 : RelV x u) (q2 : RelV y v) (h : Q (ltF a b) s) :
    wpAny (model X.prog X.w) A (oneLt' fl u v) Q E s := by
  cases a <;> cases b <;> first | (unfold cmpF at c; cases c; done) | skip
  · unfold RepD at r1 r2
    subst r1 r2
    obtain ⟨t1, rfl⟩ := q1
    obtain ⟨t2, rfl⟩ := q2
    cases fl with
    | true => exact oneLt_int h
    | false => exact PySem.W.kat_one _ _ (PyProof.Rows.lt_int h)
  · unfold RepD at r1 r2
    subst r1 r2
    obtain ⟨t1, rfl⟩ := q1
    obtain ⟨t2, rfl⟩ := q2
    cases fl with
    | true => exact oneLt_str h
    | false => exact PySem.W.kat_one _ _ (PyProof.Rows.lt_str h)
theorem katlex_D (I : Inv X pins σ H s) {A : Around} {fin : Bool} {Q : Bool → Shared → Prop} : ∀ (as bs : List D) {xs ys : List V} {us vs : List Value} (i : Nat), cmpT as bs = true → A.units + depDs as < cLine → RepDs ⟨X.K, F⟩ H M as xs → RepDs ⟨X.K, F⟩ H M bs ys → Vals xs us → Vals ys vs → fin = decide (us.length < vs.length) → Q (ltT as bs) s → PySem.W.KatLex X.prog X.w A true fin Q (us.zip vs) i s
  | [], bs, xs, ys, us, vs, i, c, hu, r1, r2, q1, q2, hf, h => by
    have l1 : us.length = 0 := by rw [← q1.length, ← r1.length]; rfl
    have : us = [] := List.length_eq_zero_iff.mp l1
    subst this
    rw [List.zip_nil_left]
    refine PySem.W.kat_nil ?_
    have l2 : vs.length = bs.length := by rw [← q2.length, ← r2.length]
    rw [hf]
    cases bs with
    | nil => rw [show decide (([] : List Value).length < vs.length) = false from decide_eq_false (by rw [l2]; exact Nat.lt_irrefl _)]; unfold ltT at h; exact h
    | cons b t => rw [show decide (([] : List Value).length < vs.length) = true from decide_eq_true (by rw [l2]; exact Nat.succ_pos _)]; unfold ltT at h; exact h
  | a :: r, bs, xs, ys, us, vs, i, c, hu, r1, r2, q1, q2, hf, h => by
    cases bs with
    | nil =>
      have l2 : vs.length = 0 := by rw [← q2.length, ← r2.length]; rfl
      have : vs = [] := List.length_eq_zero_iff.mp l2
      subst this
      rw [List.zip_nil_right]
      refine PySem.W.kat_nil ?_
      rw [hf, show decide (us.length < ([] : List Value).length) = false from decide_eq_false (Nat.not_lt_zero _)]
      unfold ltT at h
      exact h
    | cons b t =>
      unfold RepDs at r1 r2
      obtain ⟨x, xr, rfl, ra, rr⟩ := r1
      obtain ⟨y, yr, rfl, rb, rt⟩ := r2
      cases q1 with
      | cons p1 p2 =>
        cases q2 with
        | cons p3 p4 =>
          rw [List.zip_cons_cons]
          unfold cmpT at c
          rw [Bool.and_eq_true] at c
          unfold depDs at hu
          refine PySem.W.kat_cons ?_
          refine eqAtD I a b A c.1 (by omega) ra rb p1 p3 X.prog X.w _ _ ?_
          unfold ltT at h
          cases e : eqD a b with
          | true =>
            rw [e] at c h
            rw [if_pos rfl] at h
            refine PySem.W.kat_yes ?_
            refine katlex_D I r t (i + 1) (by simpa using c.2) (by omega) rr rt p2 p4 ?_ h
            rw [hf]
            simp only [List.length_cons]
            congr 1
            simp
          | false =>
            rw [e] at c h
            rw [if_neg Bool.false_ne_true] at h
            refine PySem.W.kat_no ?_
            exact oneLt_D (by simpa using c.2) ra rb p1 p3 h
theorem katTups_D (I : Inv X pins σ H s) : ∀ (ds : List D) {xs : List V} {us : List Value}, (∀ d ∈ ds, ∃ h r, d = .tup (h :: r)) → RepDs ⟨X.K, F⟩ H M ds xs → Vals xs us →
    ∃ (fs : List Value), fs.length = us.length ∧ PySem.W.KatTups s.heap us fs ∧ ∀ f ∈ fs, ∃ h r x, D.tup (h :: r) ∈ ds ∧ RepD ⟨X.K, F⟩ H M h x ∧ RelV x f
  | [], xs, us, _, r, q => by
    unfold RepDs at r
    subst r
    cases q
    exact ⟨[], rfl, .nil, fun f hf => nomatch hf⟩
  | d :: ds, xs, us, hd, r, q => by
    unfold RepDs at r
    obtain ⟨x, xr, rfl, r1, r2⟩ := r
    cases q with
    | cons q1 q2 =>
      obtain ⟨hh, tl, rfl⟩ := hd _ List.mem_cons_self
      obtain ⟨fs, l, kt, hf⟩ := katTups_D I ds (fun d h => hd d (List.mem_cons_of_mem _ h)) r2 q2
      unfold RepD at r1
      obtain ⟨p, ys, rfl, h1, h2⟩ := r1
      cases q1
      obtain ⟨its, v1, ⟨o, ho, hc, n, hdt⟩, _⟩ := I.tuple h1.sq
      unfold RepDs at h2
      obtain ⟨y, yr, rfl, ry, _⟩ := h2
      cases v1 with
      | @cons _ u0 _ _ z1 z2 =>
        refine ⟨u0 :: fs, by simp [l], .cons ho hc hdt (by simp) kt, fun f hf' => ?_⟩
        rcases List.mem_cons.mp hf' with rfl | hf'
        · exact ⟨hh, tl, y, List.mem_cons_self, ry, z1⟩
        · obtain ⟨h', r', x', m1, m2, m3⟩ := hf f hf'
          exact ⟨h', r', x', List.mem_cons_of_mem _ m1, m2, m3⟩
/-- the questions of the sort -/
theorem ask_D (I : Inv X pins σ H s) {A : Around} {ds : List D} {xs : List V} {us : List Value} (hA : A.units + 70 < cLine) (h2 : 2 ≤ us.length) (k : SrtK ds) (r : RepDs ⟨X.K, F⟩ H M ds xs) (q : Vals xs us) : ∃ κ : SortKind,
    (∀ (Q : SortKind → Shared → Prop) (E : Value → Shared → Prop), Q κ s → wpAny (model X.prog X.w) A (keyKind' us.toArray) Q E s) ∧
    ∀ (i j : Nat) (d e : D), ds[i]? = some d → ds[j]? = some e → ∀ C : Bool → Shared → Prop, C (ltD d e) s → wpAny (model X.prog X.w) A (keyLt' κ (us.getD i Value.none) (us.getD j Value.none)) C (fun _ _ => False) s := by
  have at_ : ∀ (i : Nat) (d : D), ds[i]? = some d → ∃ x u, RepD ⟨X.K, F⟩ H M d x ∧ RelV x u ∧ us.getD i Value.none = u ∧ u ∈ us := fun i d e => by
    obtain ⟨x, e1, r1⟩ := r.get e
    obtain ⟨u, e2, q1⟩ := q.get e1
    exact ⟨x, u, r1, q1, by rw [List.getD_eq_getElem?_getD, e2]; rfl, List.mem_of_getElem? e2⟩
  have back : ∀ u ∈ us, ∃ d x, d ∈ ds ∧ RepD ⟨X.K, F⟩ H M d x ∧ RelV x u := fun u hu => by
    obtain ⟨i, hi, e⟩ := List.getElem_of_mem hu
    have hx : i < xs.length := by rw [q.length]; exact hi
    obtain ⟨u', e2, q1⟩ := q.get (List.getElem?_eq_getElem hx)
    rw [List.getElem?_eq_getElem hi, e] at e2
    cases e2
    obtain ⟨d, e3, r1⟩ := r.get' (List.getElem?_eq_getElem hx)
    exact ⟨d, _, List.mem_of_getElem? e3, r1, q1⟩
  have tups : (∀ d ∈ ds, ∃ h t, d = .tup (h :: t)) → ∀ (T : String), (∀ h t x u, D.tup (h :: t) ∈ ds → RepD ⟨X.K, F⟩ H M h x → RelV x u → PySem.W.Looks (model X.prog X.w) s.heap (typeOf u) (.type T)) → ((Value.type T != Value.type "tuple") = true) → ((Value.type T == Value.type T) = true) →
      (∀ d ∈ ds, ∃ l, d = .tup l ∧ depDs l ≤ 60) → (∀ a b, D.tup a ∈ ds → D.tup b ∈ ds → cmpT a b = true) → ∃ κ : SortKind,
    (∀ (Q : SortKind → Shared → Prop) (E : Value → Shared → Prop), Q κ s → wpAny (model X.prog X.w) A (keyKind' us.toArray) Q E s) ∧
    ∀ (i j : Nat) (d e : D), ds[i]? = some d → ds[j]? = some e → ∀ C : Bool → Shared → Prop, C (ltD d e) s → wpAny (model X.prog X.w) A (keyLt' κ (us.getD i Value.none) (us.getD j Value.none)) C (fun _ _ => False) s := by
    intro hd T hT hT1 hT2 hdep hc
    obtain ⟨fs, hl, kt, hf⟩ := katTups_D I ds hd r q
    refine ⟨tuples' true, fun Q E h => ?_, fun i j d e e1 e2 C h => ?_⟩
    · refine PySem.W.kat_kind (T := .type T) kt (by omega) (fun f hf' => ?_) hT2 (by rw [hT1]; exact h)
      obtain ⟨h', t', x', m1, m2, m3⟩ := hf f hf'
      exact hT h' t' x' f m1 m2 m3
    · obtain ⟨x1, u1, r1, q1, g1, _⟩ := at_ i d e1
      obtain ⟨x2, u2, r2, q2, g2, _⟩ := at_ j e e2
      have md := List.mem_of_getElem? e1
      have me := List.mem_of_getElem? e2
      obtain ⟨l1, rfl, dp⟩ := hdep d md
      obtain ⟨l2, rfl, _⟩ := hdep e me
      rw [g1, g2]
      unfold RepD at r1 r2
      obtain ⟨p1, ys1, rfl, s1, rs1⟩ := r1
      obtain ⟨p2, ys2, rfl, s2, rs2⟩ := r2
      cases q1
      cases q2
      obtain ⟨i1, v1, ⟨o1, ho1, _, n1, hd1⟩, _⟩ := I.tuple s1.sq
      obtain ⟨i2, v2, ⟨o2, ho2, _, n2, hd2⟩, _⟩ := I.tuple s2.sq
      refine PySem.W.kat_lt ho1 hd1 ho2 hd2 ?_
      exact katlex_D I l1 l2 0 (hc _ _ md me) (by omega) rs1 rs2 v1 v2 (by simp) h
  cases k with
  | kI h =>
    refine ⟨oneType', fun Q E hq => ?_, fun i j d e e1 e2 C hC => ?_⟩
    · refine PySem.W.kas_kind (T := .type "int") h2 (fun u hu => ?_) (by decide) (by decide) hq
      obtain ⟨d, x, md, r1, q1⟩ := back u hu
      obtain ⟨n, rfl⟩ := h d md
      unfold RepD at r1
      subst r1
      obtain ⟨t, rfl⟩ := q1
      exact PySem.W.Looks.of_pure rfl
    · obtain ⟨x1, u1, r1, q1, g1, _⟩ := at_ i d e1
      obtain ⟨x2, u2, r2, q2, g2, _⟩ := at_ j e e2
      obtain ⟨n1, rfl⟩ := h d (List.mem_of_getElem? e1)
      obtain ⟨n2, rfl⟩ := h e (List.mem_of_getElem? e2)
      rw [g1, g2, keyLt'_oneType]
      exact oneLt_D (by rfl) r1 r2 q1 q2 hC
  | kS h =>
    refine ⟨oneType', fun Q E hq => ?_, fun i j d e e1 e2 C hC => ?_⟩
    · refine PySem.W.kas_kind (T := .type "str") h2 (fun u hu => ?_) (by decide) (by decide) hq
      obtain ⟨d, x, md, r1, q1⟩ := back u hu
      obtain ⟨n, rfl⟩ := h d md
      unfold RepD at r1
      subst r1
      obtain ⟨t, rfl⟩ := q1
      exact PySem.W.Looks.of_pure rfl
    · obtain ⟨x1, u1, r1, q1, g1, _⟩ := at_ i d e1
      obtain ⟨x2, u2, r2, q2, g2, _⟩ := at_ j e e2
      obtain ⟨n1, rfl⟩ := h d (List.mem_of_getElem? e1)
      obtain ⟨n2, rfl⟩ := h e (List.mem_of_getElem? e2)
      rw [g1, g2, keyLt'_oneType]
      exact oneLt_D (by rfl) r1 r2 q1 q2 hC
  | tupI h c =>
    refine tups (fun d hd => ?_) "int" (fun hh t x u m r1 q1 => ?_) (by decide) (by decide) (fun d hd => ?_) c
    · obtain ⟨i, r, rfl, _⟩ := h d hd; exact ⟨_, _, rfl⟩
    · obtain ⟨i, r, e, _⟩ := h _ m
      cases e
      unfold RepD at r1
      subst r1
      obtain ⟨t, rfl⟩ := q1
      exact PySem.W.Looks.of_pure rfl
    · obtain ⟨i, r, rfl, z⟩ := h d hd; exact ⟨_, rfl, z⟩
  | tupS h c =>
    refine tups (fun d hd => ?_) "str" (fun hh t x u m r1 q1 => ?_) (by decide) (by decide) (fun d hd => ?_) c
    · obtain ⟨i, r, rfl, _⟩ := h d hd; exact ⟨_, _, rfl⟩
    · obtain ⟨i, r, e, _⟩ := h _ m
      cases e
      unfold RepD at r1
      subst r1
      obtain ⟨t, rfl⟩ := q1
      exact PySem.W.Looks.of_pure rfl
    · obtain ⟨i, r, rfl, z⟩ := h d hd; exact ⟨_, rfl, z⟩
end
end L2

namespace L2
open PySem PySem.Spec PyProof.Rows

def rankAt {α : Type} (lt : α → α → Bool) (as : List α) (i : Nat) : Int := match as[i]? with
  | some a => rankA lt as a
  | none => 0
theorem rankAt_eq {α : Type} {lt : α → α → Bool} {as : List α} {i : Nat} {a : α} (h : as[i]? = some a) : rankAt lt as i = rankA lt as a := by unfold rankAt; rw [h]
theorem pick_take {α : Type} (as : List α) : ∀ n : Nat, (List.range n).filterMap (fun i => as[i]?) = as.take n
  | 0 => rfl
  | n + 1 => by
    rw [List.range_succ, List.filterMap_append, pick_take as n, List.take_add_one]
    congr 1
theorem pick_range {α : Type} (as : List α) : (List.range as.length).filterMap (fun i => as[i]?) = as := by
  rw [pick_take, List.take_length]
section
variable {K : KF} {H : Hp} {M : HpD}
theorem pick_rep {ds : List D} {xs : List V} (r : RepDs K H M ds xs) : ∀ (l : List Nat), (∀ i ∈ l, i < ds.length) → RepDs K H M (l.filterMap fun i => ds[i]?) (l.filterMap fun i => xs[i]?)
  | [], _ => .nil
  | i :: l, h => by
    have hi := h i List.mem_cons_self
    obtain ⟨x, e1, r1⟩ := r.get (List.getElem?_eq_getElem hi)
    rw [List.filterMap_cons_some (List.getElem?_eq_getElem hi), List.filterMap_cons_some e1]
    exact .cons r1 (pick_rep r l fun j hj => h j (List.mem_cons_of_mem _ hj))
theorem pick_vals {xs : List V} {us : List Value} (q : Vals xs us) : ∀ (l : List Nat), (∀ i ∈ l, i < xs.length) → Vals (l.filterMap fun i => xs[i]?) (l.map fun i => us.getD i Value.none)
  | [], _ => .nil
  | i :: l, h => by
    have hi := h i List.mem_cons_self
    obtain ⟨u, e1, r1⟩ := q.get (List.getElem?_eq_getElem hi)
    rw [List.filterMap_cons_some (List.getElem?_eq_getElem hi), List.map_cons, List.getD_eq_getElem?_getD, e1]
    exact .cons r1 (pick_vals q l fun j hj => h j (List.mem_cons_of_mem _ hj))
end
theorem pick_map {α : Type} (enc : α → D) (as : List α) (l : List Nat) : (l.filterMap fun i => (as.map enc)[i]?) = (l.filterMap fun i => as[i]?).map enc := by
  rw [List.map_filterMap]
  congr 1
  funext i
  rw [List.getElem?_map]
/-- what a run of the sort leaves, by its values -/
theorem pick_sorted {α : Type} {lt : α → α → Bool} (L : LinLt lt) {as : List α} {p : Array Nat} (hp : PermN as.length p) (hs : Srt (rankAt lt as) p as.length) :
    (∀ i ∈ p.toList, i < as.length) ∧ (p.toList.filterMap fun i => as[i]?).Perm as ∧ (p.toList.filterMap fun i => as[i]?).Pairwise (fun a b => lt b a = false) := by
  have hl : p.toList.Perm (List.range as.length) := by
    have := hp.toList
    simpa using this
  have hb : ∀ i ∈ p.toList, i < as.length := fun i hi => List.mem_range.mp (hl.mem_iff.mp hi)
  refine ⟨hb, ?_, ?_⟩
  · have := hl.filterMap (fun i => as[i]?)
    rw [pick_range] at this
    exact this
  · have hpw : p.toList.Pairwise fun i j => rankAt lt as i ≤ rankAt lt as j := by
      rw [List.pairwise_iff_getElem]
      intro i j hi hj hij
      have hz := hp.size
      have e : ∀ k (hk : k < p.toList.length), p.toList[k] = p.getD k 0 := fun k hk => by
        have : k < p.size := by simpa using hk
        simp [Array.getD, this]
      rw [e, e]
      exact hs i j (by omega) (by rw [Array.length_toList] at hj; omega)
    rw [List.pairwise_filterMap]
    refine hpw.imp_of_mem ?_
    intro i j hi hj hr a ea b eb
    rw [rankAt_eq ea, rankAt_eq eb] at hr
    have := rank_lt L (List.mem_of_getElem? eb) (List.mem_of_getElem? ea)
    rw [← this]
    exact decide_eq_false (by omega)
/-- sorted(xs), fewer than 64 of them -/
@[irreducible] def cSorted : RDn := fun xs M Q => ∃ (α : Type) (enc : α → D) (lt : α → α → Bool) (as : List α) (d : D), xs = [d] ∧ listD d M = some (as.map enc) ∧ as.length < 64 ∧ LinLt lt ∧ SrtK (as.map enc) ∧ (∀ a ∈ as, ∀ b ∈ as, ltD (enc a) (enc b) = lt a b) ∧
  ∀ bs : List α, bs.Perm as → bs.Pairwise (fun a b => lt b a = false) → newL (bs.map enc) M Q
theorem rd_sorted {α : Type} {enc : α → D} {lt : α → α → Bool} {as : List α} {d : D} {M : HpD} {Q : KD} (h : listD d M = some (as.map enc)) (h64 : as.length < 64) (L : LinLt lt) (k : SrtK (as.map enc)) (hlt : ∀ a ∈ as, ∀ b ∈ as, ltD (enc a) (enc b) = lt a b)
    (q : ∀ bs : List α, bs.Perm as → bs.Pairwise (fun a b => lt b a = false) → newL (bs.map enc) M Q) : cSorted [d] M Q := by
  unfold cSorted; exact ⟨α, enc, lt, as, d, rfl, h, h64, L, k, hlt, q⟩
theorem cd_sorted {X : Cx} {k : Nat} (hr : Room k X.A) : CallR X (.builtin "sorted") (LiftC X.K cSorted) := by
  intro pins s σ H xs us Q I rx h
  obtain ⟨F, ds, M, QD, r, rh, hq, pp⟩ := h
  unfold cSorted at hq
  obtain ⟨α, enc, lt, as, d, rfl, hd, h64, L, sk, hlt, q⟩ := hq
  obtain ⟨v, rfl, r1⟩ := rep1 r
  obtain ⟨a, ys, rfl, hs, rd⟩ := list_rep rh r1 hd
  obtain ⟨u, rfl, ru⟩ := vals1 rx
  cases ru
  obtain ⟨its, vi, pl, hz⟩ := I.list hs
  have lds : (as.map enc).length = as.length := List.length_map _
  have l1 : ys.length = as.length := by rw [← rd.length, lds]
  have l2 : its.length = as.length := by rw [← vi.length, l1]
  have hun := hr.un
  refine sorted_rk (r := rankAt lt as) pl.isList (by omega) (fun h2 h' kp => ?_) fun p hp hsr => ?_
  · have I' : Inv X pins σ H { s with heap := h' } := I.kept (t' := s.toks) kp
    obtain ⟨κ, hk, hc⟩ := ask_D I' (A := X.A.in1.in1) (by show X.A.units + 1 + 1 + 70 < cLine; omega) (by omega) sk rd vi
    refine ⟨κ, hk, fun i j hi hj C hC => ?_⟩
    have ei : as[i]? = some (as[i]'(by omega)) := List.getElem?_eq_getElem (by omega)
    have ej : as[j]? = some (as[j]'(by omega)) := List.getElem?_eq_getElem (by omega)
    refine hc i j _ _ (by rw [List.getElem?_map, ei]; rfl) (by rw [List.getElem?_map, ej]; rfl) C ?_
    rw [hlt _ (List.mem_of_getElem? ei) _ (List.mem_of_getElem? ej), ← rank_lt L (List.mem_of_getElem? ei) (List.mem_of_getElem? ej), ← rankAt_eq ei, ← rankAt_eq ej]
    exact hC
  · rw [l2] at hp hsr
    obtain ⟨hb, hperm, hpw⟩ := pick_sorted L hp hsr
    have rr : RepDs ⟨X.K, F⟩ H M ((p.toList.filterMap fun i => as[i]?).map enc) (p.toList.filterMap fun i => ys[i]?) := by
      rw [← pick_map]
      exact pick_rep rd _ fun i hi => by rw [lds]; exact hb i hi
    have rv := pick_vals vi p.toList fun i hi => by rw [l1]; exact hb i hi
    have nl := (q _ hperm hpw).post pp rh rr
    obtain ⟨e, he⟩ := sortedAll_at s.heap its (sortAns its p)
    refine ⟨.ref (s.heap.objs.size + 1), _, I.laid (t' := s.toks) (fun b o z => sortedAll_old z) (Nat.le_succ _) (show ObjOk X.prog X.w _ _ _ (.lst _) from ⟨nl.1, _, e, rv, he⟩), rfl, nl.2 _ (I.hok.fresh (Nat.le_succ _))⟩
end L2

namespace L2
open PySem PySem.Spec PyProof.Rows

/-! ### iterables whose items may lie in a list that may change: a guard says that it stands as it was -/
abbrev TGI := SD → HpD → (List D → (HpD → Prop) → HpD → Prop) → Prop
def YldsG (K : PySem.W.Frag) (F : Addr → Prop) (J : It) (ds : List D) (Gd : HpD → Prop) (M : HpD) (H : Hp) : Prop :=
  ∀ F' i M' H', (∀ a, F' a → F a ∨ H a = none) → Fz M H M' H' → RepH ⟨K, F'⟩ H' M' → Gd M' → (∀ d, ds[i]? = some d → J.go i H' ∧ ∀ x H3, J.yld i H' x H3 → Fz M' H' M' H3 ∧ RepH ⟨K, F'⟩ H3 M' ∧ RepD ⟨K, F'⟩ H3 M' d x) ∧ (ds.length ≤ i → J.stop i H')
def LiftIG (K : PySem.W.Frag) (t : TGI) : TI := fun σ H R => ∃ F σD M RD, Rel ⟨K, F⟩ σD M σ H ∧ t σD M RD ∧ ∀ ds Gd M' H' J, Fz M H M' H' → RepH ⟨K, F⟩ H' M' → YldsG K F J ds Gd M' H' → RD ds Gd M' → R J H'
abbrev IDG (X : Cx) (tg e : Expr) (t : TGI) : Prop := PI X tg e (LiftIG X.K t)
@[irreducible] def tForG (tI : TGI) (g : TDG) (tb : TSD) : TSD := fun DD σ M => tI σ M fun ds Gd M1 => ∃ Pv : Nat → SD → HpD → Prop, Pv 0 σ M1 ∧ (∀ i σ M, Pv i σ M → Gd M) ∧
  (∀ i d σ M, ds[i]? = some d → Pv i σ M → g d σ M fun σ2 M2 => tb { DD with nx := Pv (i + 1), ct := Pv (i + 1), bk := DD.nx } σ2 M2) ∧ ∀ σ M, Pv ds.length σ M → DD.nx σ M
theorem rd_forG {tI : TGI} {g : TDG} {tb : TSD} {DD : EndsD} {σ : SD} {M : HpD} (h : tI σ M fun ds Gd M1 => ∃ Pv : Nat → SD → HpD → Prop, Pv 0 σ M1 ∧ (∀ i σ M, Pv i σ M → Gd M) ∧
  (∀ i d σ M, ds[i]? = some d → Pv i σ M → g d σ M fun σ2 M2 => tb { DD with nx := Pv (i + 1), ct := Pv (i + 1), bk := DD.nx } σ2 M2) ∧ ∀ σ M, Pv ds.length σ M → DD.nx σ M) : tForG tI g tb DD σ M := by unfold tForG; exact h
@[irreducible] def tCompG (n : Nat) (tI : TGI) (g : TDG) (tc : TDT) (te : TDE) : TDE := fun σ M Q => tI σ M fun ds Gd M1 => ds.length ≤ sizeLine ∧ ∃ Pv : Nat → List D → SD → HpD → Prop, Pv 0 [] (List.replicate n none ++ σ) M1 ∧ (∀ i ys σ M, Pv i ys σ M → Gd M) ∧
  (∀ i d ys σ M, ds[i]? = some d → Pv i ys σ M → g d σ M fun σ2 M2 => tc σ2 M2 fun b M3 => if b = true then te σ2 M3 fun y M4 => Pv (i + 1) (ys ++ [y]) σ2 M4 else Pv (i + 1) ys σ2 M3) ∧ ∀ ys σ M, Pv ds.length ys σ M → newL ys M Q
theorem rd_compG {n : Nat} {tI : TGI} {g : TDG} {tc : TDT} {te : TDE} {σ : SD} {M : HpD} {Q : KD} (h : tI σ M fun ds Gd M1 => ds.length ≤ sizeLine ∧ ∃ Pv : Nat → List D → SD → HpD → Prop, Pv 0 [] (List.replicate n none ++ σ) M1 ∧ (∀ i ys σ M, Pv i ys σ M → Gd M) ∧
  (∀ i d ys σ M, ds[i]? = some d → Pv i ys σ M → g d σ M fun σ2 M2 => tc σ2 M2 fun b M3 => if b = true then te σ2 M3 fun y M4 => Pv (i + 1) (ys ++ [y]) σ2 M4 else Pv (i + 1) ys σ2 M3) ∧ ∀ ys σ M, Pv ds.length ys σ M → newL ys M Q) : tCompG n tI g tc te σ M Q := by unfold tCompG; exact h
section
variable {X : Cx} {tg iter elt : Expr} {ifs : List Expr} {scope : Scope} {body : List Stmt} {tI : TGI} {g : TDG} {tb : TSD} {tc : TDT} {te : TDE} {ts rest : List Str} {pos : Pos}
theorem sd_forG (hi : IDG X tg iter tI) (hg : GD X tg g) (hb : SsD X body tb) (hp : PassesOwn (model X.prog X.w) X.A X.env X.xe := by exact PassesOwn.never) (hc : X.calm = true := by rfl)
    (hs : ∀ x, foldedSetIterable iter X.env x = pure x := by intro _; rfl) : StD X (.For tg iter body [] pos) (tForG tI g tb) := by
  refine (ps_for hp hc hi hg hb hs).wk fun D' σ H ⟨F, σD, M, DD, rel, h, p⟩ => ?_
  unfold tForG at h
  refine ⟨F, σD, M, _, rel, h, fun ds Gd M1 H1 J f1 rh1 y h1 => ?_⟩
  obtain ⟨Pv, p0, gd, step, done⟩ := h1
  refine ⟨fun i m σ' H' => m = ds.length - i ∧ i ≤ ds.length ∧ ∃ σD' M', Rel ⟨X.K, F⟩ σD' M' σ' H' ∧ Fz M1 H1 M' H' ∧ Pv i σD' M', ⟨ds.length, by simp, Nat.zero_le _, σD, M1, rel.mono f1 rh1, .refl, p0⟩, ?_⟩
  rintro i m σ' H' ⟨rfl, hi, σD', M', rel', f', pv⟩
  by_cases hlt : i < ds.length
  · have e : ds[i]? = some ds[i] := List.getElem?_eq_getElem hlt
    obtain ⟨go, yl⟩ := (y F i M' H' (fun _ z => .inl z) f' rel'.hp (gd _ _ _ pv)).1 _ e
    refine .inr ⟨go, fun σ2 H2 => ∃ σD2 M2, Rel ⟨X.K, F⟩ σD2 M2 σ2 H2 ∧ Fz M1 H1 M2 H2 ∧ Pv (i + 1) σD2 M2, fun σ2 H2 ⟨σD2, M2, a1, a2, a3⟩ => ⟨ds.length - (i + 1), by omega, rfl, hlt, σD2, M2, a1, a2, a3⟩, fun x H2 yy => ?_⟩
    obtain ⟨fy, rhy, ry⟩ := yl x H2 yy
    have rel2 := rel'.mono fy rhy
    refine ⟨F, ds[i], σD', M', _, rel2, ry, step i _ σD' M' e pv, fun σD3 M3 σ3 H3 f3 rel3 h3 => ?_⟩
    have ff := (f'.trans fy).trans f3
    refine lS rel3 h3 ⟨fun a b c d f r q => ⟨a, b, r, ff.trans f, q⟩, (p.mono (f1.trans ff)).rt, fun a b c d f r q => (p.mono (f1.trans ff)).nx a b c d f r q, fun a b c d f r q => ⟨a, b, r, ff.trans f, q⟩⟩
  · have e : i = ds.length := by omega
    subst e
    exact .inl ⟨(y F _ M' H' (fun _ z => .inl z) f' rel'.hp (gd _ _ _ pv)).2 (Nat.le_refl _), p.nx _ _ _ _ (f1.trans f') rel' (done _ _ pv)⟩
theorem lift_compG {K : PySem.W.Frag} {n : Nat} {σ : St} {H : Hp} {Q : VK} (h : LiftE K (tCompG n tI g tc te) σ H Q) : tComp n (LiftIG K tI) (LiftG K g) (LiftT K tc) (LiftE K te) σ H Q := by
  obtain ⟨F, σD, M, QD, rel, h, p⟩ := h
  unfold tCompG at h
  refine ⟨F, σD, M, _, rel, h, fun ds Gd M1 H1 J f1 rh1 y h1 => ?_⟩
  intro D' hD
  obtain ⟨hsz, Pv, p0, gd, step, done⟩ := h1
  have mD := rh1.free hD
  have fF : ∀ a, (F a ∨ a = D') → F a ∨ H1 a = none := fun a z => z.elim .inl fun e => .inr (e ▸ hD)
  have rel1 := rel.mono f1 rh1
  -- the start: D' is forbidden
  have relS : Rel ⟨K, fun a => F a ∨ a = D'⟩ (List.replicate n none ++ σD) M1 (List.replicate n none ++ σ) (upd H1 D' (.lst [])) := by
    have r1 : Rel ⟨K, F⟩ (List.replicate n none ++ σD) M1 (List.replicate n none ++ σ) H1 := rel1.pad n
    refine ⟨r1.len, fun i d e => ?_, ⟨fun a o e => ?_, fun a z => ?_⟩⟩
    · obtain ⟨v, e1, e2⟩ := r1.st i d e
      exact ⟨v, e1, (e2.more fF).mono (fz_new hD)⟩
    · obtain ⟨o', e', r⟩ := rh1.at_ a o e
      exact ⟨o', by rw [upd_ne (ne_of_none e' hD)]; exact e', (r.more fF).mono (fz_new hD)⟩
    · rcases z with z | rfl
      · obtain ⟨⟨o', e'⟩, m'⟩ := rh1.fb a z
        exact ⟨⟨o', by rw [upd_ne (ne_of_none e' hD)]; exact e'⟩, m'⟩
      · exact ⟨⟨_, upd_same⟩, mD⟩
  refine ⟨fun i m ys σ' H' => m = ds.length - i ∧ i ≤ ds.length ∧ ys.length ≤ i ∧ H' D' = some (.lst ys) ∧ ∃ σD' M' ysD, Rel ⟨K, fun a => F a ∨ a = D'⟩ σD' M' σ' H' ∧ Fz M1 H1 M' H' ∧ RepDs ⟨K, fun a => F a ∨ a = D'⟩ H' M' ysD ys ∧ Pv i ysD σD' M',
    ⟨ds.length, by simp, Nat.zero_le _, Nat.zero_le _, upd_same, _, M1, [], relS, fz_new hD, .nil, p0⟩, ?_⟩
  rintro i m ys σ' H' ⟨rfl, hi, hyl, eD, σD', M', ysD, rel', f', ry, pv⟩
  have mD' : M' D' = none := (rel'.hp.fb D' (.inr rfl)).2
  by_cases hlt : i < ds.length
  · have e : ds[i]? = some ds[i] := List.getElem?_eq_getElem hlt
    obtain ⟨go, yl⟩ := (y _ i M' H' fF f' rel'.hp (gd _ _ _ _ pv)).1 _ e
    refine .inr ⟨go, fun x H2 yy => ?_⟩
    obtain ⟨fy, rhy, rx⟩ := yl x H2 yy
    have eD2 := (fy D' _ eD mD').1
    refine ⟨_, ds[i], σD', M', _, rel'.mono fy rhy, rx, step i _ ysD σD' M' e pv, fun σD3 M3 σ3 H3 f3 rel3 h3 => ?_⟩
    refine lT rel3 h3 fun b M4 H4 f4 rel4 h4 => ?_
    have f14 : Fz M1 H1 M4 H4 := ((f'.trans fy).trans f3).trans f4
    have fD4 : Fz M' H' M4 H4 := (fy.trans f3).trans f4
    cases b with
    | false =>
      simp only [Bool.false_eq_true, if_false] at h4 ⊢
      exact ⟨ds.length - (i + 1), by omega, rfl, hlt, by omega, (fD4 D' _ eD mD').1, σD3, M4, ysD, rel4, f14, ry.mono fD4, h4⟩
    | true =>
      simp only [if_true] at h4 ⊢
      refine lE rel4 h4 fun yd M5 v H5 f5 rel5 r5 h5 => ?_
      have fD5 := fD4.trans f5
      obtain ⟨eD5, mD5⟩ := fD5 D' _ eD mD'
      have hF : (KF.mk K fun a => F a ∨ a = D').F D' := .inr rfl
      refine ⟨eD5, by omega, ds.length - (i + 1), by omega, rfl, hlt, by rw [List.length_append, List.length_singleton]; omega, upd_same, σD3, M5, ysD ++ [yd], rel5.past hF, fun a o q z => ?_, ((ry.mono fD5).append (.cons r5 .nil)).past hF, h5⟩
      obtain ⟨q1, q2⟩ := (f14.trans f5) a o q z
      exact ⟨by rw [upd_ne (ne_of_none q hD)]; exact q1, q2⟩
  · have e : i = ds.length := by omega
    subst e
    refine .inl ⟨(y _ _ M' H' fF f' rel'.hp (gd _ _ _ _ pv)).2 (Nat.le_refl _), eD, ?_⟩
    -- the end: D' is told
    have fL : ∀ a, F a → (F a ∨ a = D') ∨ H' a = none := fun a z => .inl (.inl z)
    have rhE : RepH ⟨K, F⟩ H' M' := ⟨fun a o q => by
      obtain ⟨o', e', r⟩ := rel'.hp.at_ a o q
      exact ⟨o', e', r.more fL⟩, fun a z => rel'.hp.fb a (.inl z)⟩
    have hn := done ysD σD' M' pv
    unfold newL at hn
    obtain ⟨hl, hn⟩ := hn
    have nf : ¬ F D' := rh1.nf hD
    rcases hn with hn | hn
    · exact p _ M' _ H' (f1.trans f') rhE (by unfold RepD; exact ⟨D', ys, rfl, .inl ⟨.inl eD, mD', nf⟩, ry.more fL⟩) hn
    · refine p _ (updD M' D' (.lst ysD)) _ H' (f1.trans fun a o q z => ?_) ⟨fun a o q => ?_, fun a z => ⟨(rhE.fb a z).1, ?_⟩⟩ (by unfold RepD; rfl) (hn D' mD')
      · obtain ⟨q1, q2⟩ := f' a o q z
        exact ⟨q1, by rw [updD_ne (ne_of_none q hD)]; exact q2⟩
      · by_cases qa : a = D'
        · rw [qa, updD_same] at q; cases q
          rw [qa]
          refine ⟨_, eD, ys, rfl, ?_⟩
          -- what is gathered does not pass through the list itself
          exact RepDs.own (F' := fun a => F a ∨ a = D') (.inr rfl) fL ry
        · rw [updD_ne qa] at q
          obtain ⟨o', e', r⟩ := rel'.hp.at_ a o q
          exact ⟨o', e', RepO.own (F' := fun a => F a ∨ a = D') (.inr rfl) fL r⟩
      · rw [updD_ne (fun (z' : a = D') => nf (by rw [← z']; exact z))]; exact (rhE.fb a z).2
theorem ed_compG (S : CompScope X scope ts rest) (hi : IDG X tg iter tI)
    (hg : ∀ fp s H, GD (compCx X scope ts rest fp s H) tg g) (ht : ∀ fp s H, FD (compCx X scope ts rest fp s H) ifs tc) (he : ∀ fp s H, ED (compCx X scope ts rest fp s H) elt te)
    (hc : X.calm = true := by rfl) (hs : ∀ x, foldedSetIterable iter X.env x = pure x := by intro _; rfl) : ED X (.ListComp elt [⟨tg, iter, ifs, 0⟩] scope pos) (tCompG ts.length tI g tc te) :=
  (pe_comp (g := LiftG X.K g) (tc := LiftT X.K tc) (te := LiftE X.K te) hc S hi hg ht he hs).wk fun _ _ _ h => lift_compG h
theorem sd_compG (i : Nat) {x : Str} {pos' spos : Pos} (S : CompScope X scope ts rest) (hi : IDG X tg iter tI)
    (hg : ∀ fp s H, GD (compCx X scope ts rest fp s H) tg g) (ht : ∀ fp s H, FD (compCx X scope ts rest fp s H) ifs tc) (he : ∀ fp s H, ED (compCx X scope ts rest fp s H) elt te)
    (hN : X.N.Nodup) (hx : X.N[i]? = some x) (hl : Loc X.env.scope x) (hc : X.calm = true := by rfl)
    (hsw : swapsWith (.ListComp elt [⟨tg, iter, ifs, 0⟩] scope pos) (some (.Name x pos')) spos.line X.env = pure true := by rfl)
    (hs : ∀ x, foldedSetIterable iter X.env x = pure x := by intro _; rfl) (hf : X.fn x = true ∨ X.env.scope.names.lookup x = some .local := by first | exact .inl rfl | exact .inr rfl | assumption) :
    StD X (.Assign [.Name x pos'] (.ListComp elt [⟨tg, iter, ifs, 0⟩] scope pos) spos) (tAsgD (tCompG ts.length tI g tc te) (gNameD i)) := by
  refine (ps_set_comp (g := LiftG X.K g) (tc := LiftT X.K tc) (te := LiftE X.K te) hc S hi hg ht he hN hx hl hsw hs hf).wk fun D' σ H ⟨F, σD, M, DD, rel, h, p⟩ => ?_
  unfold tAsgD at h
  refine lift_compG ⟨F, σD, M, _, rel, h, fun d M1 v H1 f1 rh1 r1 h1 => ?_⟩
  unfold gNameD at h1
  exact (p.mono f1).nx _ M1 _ H1 .refl ((rel.mono f1 rh1).set i r1) h1
end
/-! the iterables -/
@[irreducible] def iSeqG (te : TDE) : TGI := fun σ M R => te σ M fun d M1 => ∃ ds, listD d M1 = some ds ∧ R ds (fun M => listD d M = some ds) M1
theorem rd_iseqG {te : TDE} {σ : SD} {M : HpD} {R : List D → (HpD → Prop) → HpD → Prop} (h : te σ M fun d M1 => ∃ ds, listD d M1 = some ds ∧ R ds (fun M => listD d M = some ds) M1) : iSeqG te σ M R := by unfold iSeqG; exact h
section
variable {X : Cx} {tg l : Expr} {tl : TDE} {pos p : Pos}
theorem list_at {K : KF} {H : Hp} {M : HpD} {d : D} {a : Addr} {ds : List D} (rh : RepH K H M) (r : RepD K H M d (.ref a)) (e : listD d M = some ds) : ∃ xs, SqL K.K H a xs ∧ RepDs K H M ds xs := by
  obtain ⟨p, xs, e1, h, r'⟩ := list_rep rh r e
  cases e1
  exact ⟨xs, h, r'⟩
theorem sqL_inj {K : KF} {H : Hp} {a : Addr} {xs ys : List V} (hok : ∀ a xs ys, SqL K.K H a xs → SqL K.K H a ys → xs = ys) (h : SqL K.K H a xs) (h' : SqL K.K H a ys) : xs = ys := hok a xs ys h h'
theorem ylds_listG {K : PySem.W.Frag} {F : Addr → Prop} {H : Hp} {M : HpD} {a : Addr} {d : D} {ds : List D} (r : RepD ⟨K, F⟩ H M d (.ref a)) : YldsG K F (Itl K a) ds (fun M => listD d M = some ds) M H := fun F' i M' H' hf f rh gd => by
  have r' : RepD ⟨K, F'⟩ H' M' d (.ref a) := (r.more hf).mono f
  obtain ⟨xs, h', rs⟩ := list_at rh r' gd
  refine ⟨fun d e => ?_, fun e => ⟨xs, h', by rw [← rs.length]; exact e⟩⟩
  obtain ⟨v, e1, e2⟩ := rs.get e
  refine ⟨⟨xs, v, h', e1⟩, fun x H3 y => ?_⟩
  obtain ⟨rfl, y⟩ := y
  have := y xs h'
  rw [e1] at this; cases this
  exact ⟨.refl, rh, e2⟩
theorem id_listG (hl : ED X l tl) : IDG X tg l (iSeqG tl) := by
  refine (pi_list hl).wk fun σ H R ⟨F, σD, M, RD, rel, h, p⟩ => ?_
  unfold iSeqG at h
  refine lE rel h fun d M1 v H1 f1 rel1 r1 h1 => ?_
  obtain ⟨ds, gd, q⟩ := h1
  obtain ⟨a, xs, rfl, hz, hr⟩ := list_rep rel1.hp r1 gd
  exact ⟨a, rfl, ⟨xs, hz⟩, p ds _ M1 H1 _ f1 rel1.hp (ylds_listG r1) q⟩
end
end L2

namespace L2
open PySem PySem.Spec PyProof.Rows

section
variable {X : Cx} {pins : List (Addr × Obj)} {σ : St} {H : Hp} {s : Shared}
/-- records of ours have turned, and a new object has come -/
theorem Inv.turnedNew {h' : Heap} {t' : Nat} {fp : List Addr} {T : Addr} {o : HO} (I : Inv X pins σ H s) (k : ∀ b u, b ∉ fp → s.heap.get? b = some u → h'.get? b = some u) (hf : ∀ b ∈ fp, FpOk X pins H b) (hT : s.heap.objs.size ≤ T)
    (new : ObjOk X.prog X.w (upd H T o) h' T o) : Inv X pins σ (upd H T o) { s with heap := h', toks := t' } := by
  have hn := I.hok.fresh hT
  have nf : ∀ b u, H b = some u → b ∉ fp := fun b u e z => by rw [(hf b z).1] at e; cases e
  have fT : FpOk X pins H T := I.fpOk hT hn
  refine I.call (g' := s.gens) (d' := s.drawn) (ch := T :: fp) ⟨fun b u e n _ hc => k b u (fun z => hc (List.mem_cons_of_mem _ z)) e, fun b u e n _ hc => ⟨u.slots, k b u (fun z => hc (List.mem_cons_of_mem _ z)) e⟩,
    fun b u e n hc => by rw [upd_ne (fun z => hc (by simp [z]))]; exact n, fun b u e hc => ⟨u, k b u (fun z => hc (List.mem_cons_of_mem _ z)) e⟩, fun b xs e => by rw [upd_ne (ne_of_none e hn)]; exact e,
    fun b x u e => by rw [upd_ne (ne_of_none e hn)]; exact e, fun b ps e => ⟨#[], by rw [upd_ne (ne_of_none e hn), e]; simp⟩⟩ (fun b u e => ?_) I.bare (fun b hb => ?_)
  · by_cases hb : b = T
    · subst hb; rw [upd_same] at e; cases e; exact new
    · rw [upd_ne hb] at e
      refine (I.hok b u e).stay (fun c v hc q => k c v ?_ q) (fun c q => by rw [upd_ne (ne_of_none q hn)]; exact q) fun c xs q => by rw [upd_ne (ne_of_none q hn)]; exact q
      rcases hc with z | z
      · rw [z]; exact nf b u e
      · exact nf c _ z
  · rcases List.mem_cons.mp hb with rfl | hb
    · exact ⟨fT.2.2.2.1, fT.2.1, fT.2.2.2.2.1, fT.2.2.2.2.2⟩
    · have z := hf b hb
      exact ⟨z.2.2.2.1, z.2.1, z.2.2.2.2.1, z.2.2.2.2.2⟩
theorem Inv.turnedL {h' : Heap} {t' : Nat} {fp : List Addr} (I : Inv X pins σ H s) (k : ∀ b u, b ∉ fp → s.heap.get? b = some u → h'.get? b = some u) (hf : ∀ b ∈ fp, FpOk X pins H b) : Inv X pins σ H { s with heap := h', toks := t' } := by
  have nf : ∀ b u, H b = some u → b ∉ fp := fun b u e z => by rw [(hf b z).1] at e; cases e
  refine I.call (g' := s.gens) (d' := s.drawn) (ch := fp) ⟨fun b u e n _ hc => k b u hc e, fun b u e n _ hc => ⟨u.slots, k b u hc e⟩,
    fun b u e n hc => n, fun b u e hc => ⟨u, k b u hc e⟩, fun b xs e => e, fun b x u e => e, fun b ps e => ⟨#[], by rw [e]; simp⟩⟩ (fun b u e => ?_) I.bare (fun b hb => ?_)
  · refine (I.hok b u e).stay (fun c v hc q => k c v ?_ q) (fun c q => q) fun c xs q => q
    rcases hc with z | z
    · rw [z]; exact nf b u e
    · exact nf c _ z
  · have z := hf b hb
    exact ⟨z.2.2.2.1, z.2.1, z.2.2.2.2.1, z.2.2.2.2.2⟩
end

/-! ### enumerate of a list, into a tuple of targets -/
/-- the pairs of place and item, each a new tuple -/
def Ite (K : PySem.W.Frag) (a : Addr) : It :=
  ⟨fun i H => ∃ xs x, SqL K H a xs ∧ xs[i]? = some x, fun i H x H' => ∃ T y, x = .ref T ∧ H T = none ∧ H' = upd H T (.tup [.int i, y]) ∧ ∀ xs, SqL K H a xs → xs[i]? = some y, fun i H => ∃ xs, SqL K H a xs ∧ xs.length ≤ i⟩
theorem turn_enum {P : Program} {w : World} {K : PySem.W.Frag} {elts : List Expr} {tk : Nat} {tpos : Pos} (a e it : Addr) (hne : e ≠ it) : Turn P w K (.Tuple elts tk tpos) (Ite K a) [e, it] e (fun i h => (∃ old, IsEnum h e it i old) ∧ h.IsListIter it a i) where
  mem := by simp
  obj := fun i h st b hb => by
    obtain ⟨⟨old, he⟩, o, eo, c, d⟩ := st
    rcases List.mem_cons.mp hb with rfl | hb
    · exact ⟨_, he, fun v z => by cases z⟩
    · have : b = it := by simpa using hb
      subst this
      exact ⟨o, eo, fun v z => by rw [d] at z; cases z⟩
  keep := fun i h h' st k => by
    obtain ⟨⟨old, he⟩, hit⟩ := st
    exact ⟨⟨old, k e (by simp) _ he⟩, hit.at fun o eo => k it (by simp) o eo⟩
  item := by
    intro X hP hw hK hc i pins s σ H E I hf st hg
    subst hP hw hK
    obtain ⟨⟨old, he⟩, hit⟩ := st
    obtain ⟨xs, x, hq, hx⟩ := hg
    obtain ⟨its, rv, p, hz⟩ := I.list hq
    obtain ⟨u, hu, ru⟩ := rv.get hx
    refine wpAny_pyNext_enum_item he hit p.isList (x := u) (by simpa using hu) hne fun h1 ho hit1 hT hsz hk => ?_
    refine ⟨_, rfl, ?_⟩
    refine wpAny_letOwnedTupleGo_enum ho fun h2 he2 sb => ?_
    have hT2 : h2.get? s.heap.objs.size = some { cls := .type "tuple", data := .seq #[.int i s.toks, u] } := by
      refine (sb.2 _ (Nat.ne_of_gt (Heap.lt_size he))).trans hT
    have hfe : FpOk X pins H e := hf e (by simp)
    have I1 : Inv X pins σ (upd H s.heap.objs.size (.tup [.int i, x])) { s with heap := h2, toks := s.toks + 1 } :=
      I.turnedNew (fp := [e, it]) (fun b v hb q => by
        have h1' : b ≠ e := fun z => hb (by simp [z])
        have h2' : b ≠ it := fun z => hb (by simp [z])
        exact (sb.2 b h1').trans (hk b v h1' h2' q)) hf (Nat.le_refl _) (show ObjOk X.prog X.w _ h2 _ (.tup [.int i, x]) from ⟨by show 2 ≤ sizeLine; decide, [.int i s.toks, u], .cons ⟨_, rfl⟩ (.cons ru .nil), _, hT2, rfl, _, rfl⟩)
    refine ⟨.ref s.heap.objs.size, _, I1, rfl, ⟨_, x, rfl, I.hok.fresh (Nat.le_refl _), rfl, fun ys hy => by rw [I.list_inj hy hq]; exact hx⟩, ⟨⟨u, by simpa using he2⟩, hit1.at fun o eo => (sb.2 it hne.symm).trans eo⟩, fun b hb => ?_⟩
    rw [upd_ne]
    · exact (hf b hb).1
    · rcases List.mem_cons.mp hb with rfl | hb
      · exact Nat.ne_of_lt (Heap.lt_size he)
      · have : b = it := by simpa using hb
        subst this
        obtain ⟨o, eo, _⟩ := hit
        exact Nat.ne_of_lt (Heap.lt_size eo)
  done := by
    intro X hP hw hK hc i pins s σ H E I hf st hg
    subst hP hw hK
    obtain ⟨⟨old, he⟩, hit⟩ := st
    obtain ⟨xs, hq, hx⟩ := hg
    obtain ⟨its, rv, p, hz⟩ := I.list hq
    have hl := rv.length
    refine wpAny_pyNext_enum_end (I.ok.hd hc) he hit p.isList (by simp; omega) fun h' eb => ⟨rfl, I.turnedL (t' := s.toks) (fp := [e, it]) (fun b v hb q => eb b v (fun z => hb (by simp [z])) q) hf⟩
  self := fun _ _ _ _ _ st h => by
    obtain ⟨⟨old, he⟩, _⟩ := st
    exact wpAny_pyIter_enum he h
def iEnumV (K : PySem.W.Frag) (ta : TA) : TI := fun σ H R => ta σ H fun vs H1 => ∃ a, vs = [.ref a] ∧ (∃ xs, SqL K H1 a xs) ∧ R (Ite K a) H1
theorem boot_enumerate : bootBuiltins "enumerate" = some (.type "enumerate") := by decide +kernel
theorem pi_enum {X : Cx} {l : Expr} {ta : TA} {p pos : Pos} {elts : List Expr} {tk : Nat} {tpos : Pos} (hg : Gl X "enumerate") (hm : X.mg "enumerate" = none) (ha : PA X [l] ta) (hs : starEach [l] X.env = [(false, eval l X.env)] := by rfl) :
    PI X (.Tuple elts tk tpos) (.Call (.Name "enumerate" p) [l] [] pos) (iEnumV X.K ta) := by
  intro pins s σ H R I h
  refine Call_ (ld_blt I hg hm boot_enumerate (PyProof.Rows.callWith_type1 (thn (ha pos pins s σ H _ I h) fun us s1 ⟨vs, H1, I1, r1, q1⟩ => ?_) hs rfl))
  obtain ⟨a, e, ⟨xs, hq⟩, q⟩ := q1
  subst e
  cases r1 with
  | cons r rr =>
    cases rr
    cases r
    obtain ⟨its, rv, pl, hz⟩ := I1.list hq
    refine call_enumerate_list pl.isList fun h' he hit hsz hk => ?_
    refine wpAny_pyIter_enum he ?_
    refine ⟨s1.heap.objs.size + 1, [s1.heap.objs.size + 1, s1.heap.objs.size], _, _, H1, rfl, I1.kept (t' := s1.toks) hk, turn_enum a _ _ (Nat.succ_ne_self _), ⟨⟨_, he⟩, hit⟩, fun b hb => ?_, q⟩
    rcases List.mem_cons.mp hb with rfl | hb
    · exact I1.fpOk (Nat.le_succ _) (I1.hok.fresh (Nat.le_succ _))
    · have : b = s1.heap.objs.size := by simpa using hb
      subst this
      exact I1.fpOk (Nat.le_refl _) (I1.hok.fresh (Nat.le_refl _))
def enumD (ds : List D) : List D := ds.mapIdx fun i d => .tup [.int i, d]
@[irreducible] def iEnumG (ta : TDA) : TGI := fun σ M R => ta σ M fun vs M1 => ∃ d ds, vs = [d] ∧ listD d M1 = some ds ∧ R (enumD ds) (fun M => listD d M = some ds) M1
theorem rd_ienum {ta : TDA} {σ : SD} {M : HpD} {R : List D → (HpD → Prop) → HpD → Prop} (h : ta σ M fun vs M1 => ∃ d ds, vs = [d] ∧ listD d M1 = some ds ∧ R (enumD ds) (fun M => listD d M = some ds) M1) : iEnumG ta σ M R := by unfold iEnumG; exact h
theorem enumD_get {ds : List D} {i : Nat} {d : D} (h : (enumD ds)[i]? = some d) : ∃ e, ds[i]? = some e ∧ d = .tup [.int i, e] := by
  unfold enumD at h
  rw [List.getElem?_mapIdx] at h
  cases e : ds[i]? with
  | none => rw [e] at h; cases h
  | some x => rw [e] at h; cases h; exact ⟨x, rfl, rfl⟩
theorem enumD_len {ds : List D} : (enumD ds).length = ds.length := by unfold enumD; simp
theorem ylds_enum {K : PySem.W.Frag} {F : Addr → Prop} {H : Hp} {M : HpD} {a : Addr} {d : D} {ds : List D} (r : RepD ⟨K, F⟩ H M d (.ref a)) : YldsG K F (Ite K a) (enumD ds) (fun M => listD d M = some ds) M H := fun F' i M' H' hf f rh gd => by
  have r' : RepD ⟨K, F'⟩ H' M' d (.ref a) := (r.more hf).mono f
  obtain ⟨xs, h', rs⟩ := list_at rh r' gd
  refine ⟨fun d e => ?_, fun e => ⟨xs, h', by rw [← rs.length, ← enumD_len]; exact e⟩⟩
  obtain ⟨d1, e0, rfl⟩ := enumD_get e
  obtain ⟨v, e1, e2⟩ := rs.get e0
  refine ⟨⟨xs, v, h', e1⟩, fun x H3 y => ?_⟩
  obtain ⟨T, y1, rfl, hT, rfl, y⟩ := y
  have := y xs h'
  rw [e1] at this; cases this
  refine ⟨fz_new hT, rh.new hT, ?_⟩
  unfold RepD
  exact ⟨T, _, rfl, .inl ⟨.inl upd_same, rh.free hT, rh.nf hT⟩, RepDs.mono (fz_new hT) (.cons (by unfold RepD; rfl) (.cons e2 .nil))⟩
theorem id_enum {X : Cx} {l : Expr} {ta : TDA} {p pos : Pos} {elts : List Expr} {tk : Nat} {tpos : Pos} (hg : Gl X "enumerate") (hm : X.mg "enumerate" = none) (ha : AD X [l] ta) (hs : starEach [l] X.env = [(false, eval l X.env)] := by rfl) :
    IDG X (.Tuple elts tk tpos) (.Call (.Name "enumerate" p) [l] [] pos) (iEnumG ta) := by
  refine (pi_enum hg hm ha hs).wk fun σ H R ⟨F, σD, M, RD, rel, h, p⟩ => ?_
  unfold iEnumG at h
  refine lA rel h fun d M1 v H1 f1 rel1 r1 h1 => ?_
  obtain ⟨d, ds, rfl, gd, q⟩ := h1
  obtain ⟨u, rfl, r2⟩ := rep1 r1
  obtain ⟨a, xs, rfl, hz, hr⟩ := list_rep rel1.hp r2 gd
  exact ⟨a, rfl, ⟨xs, hz⟩, p _ _ M1 H1 _ f1 rel1.hp (ylds_enum r2) q⟩
end L2

namespace L2
open PySem PySem.Spec PyProof.Rows

/-! ### zip of two lists, into a tuple of targets -/
def Itz (K : PySem.W.Frag) (a b : Addr) : It :=
  ⟨fun i H => ∃ xs x ys y, SqL K H a xs ∧ xs[i]? = some x ∧ SqL K H b ys ∧ ys[i]? = some y,
   fun i H v H' => ∃ T x y, v = .ref T ∧ H T = none ∧ H' = upd H T (.tup [x, y]) ∧ (∀ xs, SqL K H a xs → xs[i]? = some x) ∧ ∀ ys, SqL K H b ys → ys[i]? = some y,
   fun i H => ∃ xs ys, SqL K H a xs ∧ SqL K H b ys ∧ (xs.length ≤ i ∨ ys.length ≤ i)⟩
def ZipSt (z TI TO i1 i2 a b : Addr) (i : Nat) (h : Heap) : Prop := IsZip h z TI TO .none ∧ IsPair h TI (.ref i1) (.ref i2) ∧ (∃ p q, IsPair h TO p q) ∧ h.IsListIter i1 a i ∧ h.IsListIter i2 b i
theorem ZipSt.apart {z TI TO i1 i2 a b : Addr} {i : Nat} {h : Heap} {xs ys : Array Value} (st : ZipSt z TI TO i1 i2 a b i h) (h12 : i1 ≠ i2) (hT : TI ≠ TO) (l1 : h.IsList a xs) (l2 : h.IsList b ys) : ZipApart z TI TO i1 i2 a b := by
  obtain ⟨hz, hI, ⟨p, q, hO⟩, ⟨o1, g1, c1, d1⟩, ⟨o2, g2, c2, d2⟩⟩ := st
  obtain ⟨ol, gl, cl, _⟩ := l1
  obtain ⟨om, gm, cm, _⟩ := l2
  have ne : ∀ {x y : Addr} {ox oy : Obj} {m n : String}, h.get? x = some ox → h.get? y = some oy → ox.cls = .type m → oy.cls = .type n → m ≠ n → x ≠ y := fun e1 e2 c1 c2 hmn z => by
    subst z
    rw [e1] at e2; cases e2
    rw [c1] at c2; cases c2
    exact hmn rfl
  exact ⟨ne hI hz rfl rfl (by decide), ne hO hz rfl rfl (by decide), ne g1 hz c1 rfl (by decide), ne g2 hz c2 rfl (by decide), hT, ne hI g1 rfl c1 (by decide), ne hI g2 rfl c2 (by decide), ne hO g1 rfl c1 (by decide), ne hO g2 rfl c2 (by decide), h12,
    ne gl hz cl rfl (by decide), ne gl hO cl rfl (by decide), ne gl g1 cl c1 (by decide), ne gl g2 cl c2 (by decide), ne gm hz cm rfl (by decide), ne gm hO cm rfl (by decide), ne gm g1 cm c1 (by decide), ne gm g2 cm c2 (by decide)⟩
theorem turn_zip {P : Program} {w : World} {K : PySem.W.Frag} {elts : List Expr} {tk : Nat} {tpos : Pos} (a b z TI TO i1 i2 : Addr) (h12 : i1 ≠ i2) (hT : TI ≠ TO) : Turn P w K (.Tuple elts tk tpos) (Itz K a b) [z, TI, TO, i1, i2] z (ZipSt z TI TO i1 i2 a b) where
  mem := by simp
  obj := fun i h st b' hb => by
    obtain ⟨hz, hI, ⟨p, q, hO⟩, ⟨o1, g1, c1, d1⟩, ⟨o2, g2, c2, d2⟩⟩ := st
    simp only [List.mem_cons, List.not_mem_nil, or_false] at hb
    rcases hb with rfl | rfl | rfl | rfl | rfl
    · exact ⟨_, hz, fun v e => by cases e⟩
    · exact ⟨_, hI, fun v e => by cases e⟩
    · exact ⟨_, hO, fun v e => by cases e⟩
    · exact ⟨_, g1, fun v e => by rw [d1] at e; cases e⟩
    · exact ⟨_, g2, fun v e => by rw [d2] at e; cases e⟩
  keep := fun i h h' st k => by
    obtain ⟨hz, hI, ⟨p, q, hO⟩, h1, h2⟩ := st
    exact ⟨k z (by simp) _ hz, k TI (by simp) _ hI, ⟨p, q, k TO (by simp) _ hO⟩, h1.at fun o eo => k i1 (by simp) o eo, h2.at fun o eo => k i2 (by simp) o eo⟩
  item := by
    intro X hP hw hK hc i pins s σ H E I hf st hg
    subst hP hw hK
    obtain ⟨xs, x, ys, y, hq1, hx, hq2, hy⟩ := hg
    obtain ⟨its, rv, p1, hz1⟩ := I.list hq1
    obtain ⟨jts, rw', p2, hz2⟩ := I.list hq2
    obtain ⟨u, hu, ru⟩ := rv.get hx
    obtain ⟨v, hv, rw2⟩ := rw'.get hy
    have D := st.apart h12 hT p1.isList p2.isList
    obtain ⟨hz, hI, ⟨p, q, hO⟩, h1, h2⟩ := st
    refine wpAny_pyNext_zip_item D hz hI hO h1 h2 p1.isList p2.isList (x := u) (y := v) (by simpa using hu) (by simpa using hv) fun h' a1 a2 a3 a4 a5 a6 a7 => ?_
    refine ⟨_, rfl, ?_⟩
    refine wpAny_letOwnedTupleGo_zip a1 fun h2' hz2' sb => ?_
    have zl : z < s.heap.objs.size := Heap.lt_size hz
    have hT2 : h2'.get? s.heap.objs.size = some { cls := .type "tuple", data := .seq #[u, v] } := (sb.2 _ (Nat.ne_of_gt zl)).trans a5
    have I1 : Inv X pins σ (upd H s.heap.objs.size (.tup [x, y])) { s with heap := h2', toks := s.toks } :=
      I.turnedNew (fp := [z, TI, TO, i1, i2]) (fun c o hb e => by
        simp only [List.mem_cons, List.not_mem_nil, or_false, not_or] at hb
        exact (sb.2 c hb.1).trans (a7 c o hb.1 hb.2.2.1 hb.2.2.2.1 hb.2.2.2.2 e)) hf (Nat.le_refl _) (show ObjOk X.prog X.w _ h2' _ (.tup [x, y]) from ⟨by show 2 ≤ sizeLine; decide, [u, v], .cons ru (.cons rw2 .nil), _, hT2, rfl, _, rfl⟩)
    refine ⟨.ref s.heap.objs.size, _, I1, rfl, ⟨_, x, y, rfl, I.hok.fresh (Nat.le_refl _), rfl, fun zs hzs => by rw [I.list_inj hzs hq1]; exact hx, fun zs hzs => by rw [I.list_inj hzs hq2]; exact hy⟩, ⟨hz2', (sb.2 TI D.TIz).trans (a7 TI _ D.TIz D.TITO D.TIi1 D.TIi2 hI), ⟨u, v, (sb.2 TO D.TOz).trans a2⟩, a3.at fun o eo => (sb.2 i1 D.i1z).trans eo, a4.at fun o eo => (sb.2 i2 D.i2z).trans eo⟩, fun c hc' => ?_⟩
    rw [upd_ne]
    · exact (hf c hc').1
    · simp only [List.mem_cons, List.not_mem_nil, or_false] at hc'
      obtain ⟨o1, g1, _⟩ := h1
      obtain ⟨o2, g2, _⟩ := h2
      rcases hc' with rfl | rfl | rfl | rfl | rfl
      · exact Nat.ne_of_lt zl
      · exact Nat.ne_of_lt (Heap.lt_size hI)
      · exact Nat.ne_of_lt (Heap.lt_size hO)
      · exact Nat.ne_of_lt (Heap.lt_size g1)
      · exact Nat.ne_of_lt (Heap.lt_size g2)
  done := by
    intro X hP hw hK hc i pins s σ H E I hf st hg
    subst hP hw hK
    obtain ⟨xs, ys, hq1, hq2, hx⟩ := hg
    obtain ⟨its, rv, p1, hz1⟩ := I.list hq1
    obtain ⟨jts, rw', p2, hz2⟩ := I.list hq2
    have l1 := rv.length
    have l2 := rw'.length
    have D := st.apart h12 hT p1.isList p2.isList
    obtain ⟨hz, hI, ⟨p, q, hO⟩, h1, h2⟩ := st
    refine wpAny_pyNext_zip_end (I.ok.hd hc) D hz hI hO h1 h2 p1.isList p2.isList (by
      rcases hx with hx | hx
      · exact .inl (by simp; omega)
      · exact .inr (by simp; omega)) fun h' k => ⟨rfl, I.turnedL (t' := s.toks) (fp := [z, TI, TO, i1, i2]) (fun c o hb e => ?_) hf⟩
    simp only [List.mem_cons, List.not_mem_nil, or_false, not_or] at hb
    exact k c o hb.1 hb.2.2.1 hb.2.2.2.1 hb.2.2.2.2 e
  self := fun _ _ _ _ _ st h => wpAny_pyIter_zip st.1 h
def iZipV (K : PySem.W.Frag) (ta : TA) : TI := fun σ H R => ta σ H fun vs H1 => ∃ a b, vs = [.ref a, .ref b] ∧ (∃ xs, SqL K H1 a xs) ∧ (∃ ys, SqL K H1 b ys) ∧ R (Itz K a b) H1
theorem boot_zip : bootBuiltins "zip" = some (.type "zip") := by decide +kernel
theorem pi_zip {X : Cx} {l m : Expr} {ta : TA} {p pos : Pos} {elts : List Expr} {tk : Nat} {tpos : Pos} (hg : Gl X "zip") (hm : X.mg "zip" = none) (ha : PA X [l, m] ta) (hs : starEach [l, m] X.env = [(false, eval l X.env), (false, eval m X.env)] := by rfl) (hs2 : starEach [m] X.env = [(false, eval m X.env)] := by rfl) :
    PI X (.Tuple elts tk tpos) (.Call (.Name "zip" p) [l, m] [] pos) (iZipV X.K ta) := by
  intro pins s σ H R I h
  refine Call_ (ld_blt I hg hm boot_zip (PyProof.Rows.callWith_type1 (thn (ha pos pins s σ H _ I h) fun us s1 ⟨vs, H1, I1, r1, q1⟩ => ?_) (by rw [hs, hs2]) (by rw [hs2]; rfl)))
  obtain ⟨a, b, e, ⟨xs, hq1⟩, ⟨ys, hq2⟩, q⟩ := q1
  subst e
  cases r1 with
  | cons r rr =>
    cases rr with
    | cons r' rr =>
      cases rr
      cases r
      cases r'
      obtain ⟨its, rv, p1, hz⟩ := I1.list hq1
      obtain ⟨jts, rw', p2, hz'⟩ := I1.list hq2
      refine call_zip_2 p1.isList p2.isList fun h' a1 a2 a3 a4 a5 a6 a7 => ?_
      refine wpAny_pyIter_zip a1 ?_
      refine ⟨s1.heap.objs.size + 4, [s1.heap.objs.size + 4, s1.heap.objs.size + 2, s1.heap.objs.size + 3, s1.heap.objs.size, s1.heap.objs.size + 1], _, _, H1, rfl, I1.kept (t' := s1.toks) a7, turn_zip a b _ _ _ _ _ (fun z => Nat.succ_ne_self _ z.symm) (fun z => by have : s1.heap.objs.size + 2 = s1.heap.objs.size + 3 := z; omega), ⟨a1, a2, ⟨_, _, a3⟩, a4, a5⟩, fun c hc => ?_, q⟩
      have hle : s1.heap.objs.size ≤ c := by
        simp only [List.mem_cons, List.not_mem_nil, or_false] at hc
        rcases hc with rfl | rfl | rfl | rfl | rfl
        · exact Nat.le_add_right _ _
        · exact Nat.le_add_right _ _
        · exact Nat.le_add_right _ _
        · exact Nat.le_refl _
        · exact Nat.le_add_right _ _
      exact I1.fpOk hle (I1.hok.fresh hle)
def zipD (ds es : List D) : List D := List.zipWith (fun d e => .tup [d, e]) ds es
@[irreducible] def iZipG (ta : TDA) : TGI := fun σ M R => ta σ M fun vs M1 => ∃ d e ds es, vs = [d, e] ∧ listD d M1 = some ds ∧ listD e M1 = some es ∧ R (zipD ds es) (fun M => listD d M = some ds ∧ listD e M = some es) M1
theorem rd_izip {ta : TDA} {σ : SD} {M : HpD} {R : List D → (HpD → Prop) → HpD → Prop} (h : ta σ M fun vs M1 => ∃ d e ds es, vs = [d, e] ∧ listD d M1 = some ds ∧ listD e M1 = some es ∧ R (zipD ds es) (fun M => listD d M = some ds ∧ listD e M = some es) M1) : iZipG ta σ M R := by unfold iZipG; exact h
theorem zipD_get {ds es : List D} {i : Nat} {d : D} (h : (zipD ds es)[i]? = some d) : ∃ x y, ds[i]? = some x ∧ es[i]? = some y ∧ d = .tup [x, y] := by
  unfold zipD at h
  rw [List.getElem?_zipWith] at h
  cases e1 : ds[i]? with
  | none => rw [e1] at h; cases h
  | some x =>
    cases e2 : es[i]? with
    | none => rw [e1, e2] at h; cases h
    | some y => rw [e1, e2] at h; cases h; exact ⟨x, y, rfl, rfl, rfl⟩
theorem zipD_len {ds es : List D} : (zipD ds es).length = min ds.length es.length := by unfold zipD; simp
theorem ylds_zip {K : PySem.W.Frag} {F : Addr → Prop} {H : Hp} {M : HpD} {a b : Addr} {d e : D} {ds es : List D} (r : RepD ⟨K, F⟩ H M d (.ref a)) (r2 : RepD ⟨K, F⟩ H M e (.ref b)) : YldsG K F (Itz K a b) (zipD ds es) (fun M => listD d M = some ds ∧ listD e M = some es) M H := fun F' i M' H' hf f rh gd => by
  obtain ⟨xs, h1, rs1⟩ := list_at rh (show RepD ⟨K, F'⟩ H' M' d (.ref a) from (r.more hf).mono f) gd.1
  obtain ⟨ys, h2, rs2⟩ := list_at rh (show RepD ⟨K, F'⟩ H' M' e (.ref b) from (r2.more hf).mono f) gd.2
  refine ⟨fun d e => ?_, fun e => ⟨xs, ys, h1, h2, by rw [zipD_len] at e; rw [← rs1.length, ← rs2.length]; omega⟩⟩
  obtain ⟨d1, d2, e1, e2, rfl⟩ := zipD_get e
  obtain ⟨v1, g1, q1⟩ := rs1.get e1
  obtain ⟨v2, g2, q2⟩ := rs2.get e2
  refine ⟨⟨xs, v1, ys, v2, h1, g1, h2, g2⟩, fun x H3 y => ?_⟩
  obtain ⟨T, y1, y2, rfl, hT, rfl, ya, yb⟩ := y
  have k1 := ya xs h1
  have k2 := yb ys h2
  rw [g1] at k1; cases k1
  rw [g2] at k2; cases k2
  refine ⟨fz_new hT, rh.new hT, ?_⟩
  unfold RepD
  exact ⟨T, _, rfl, .inl ⟨.inl upd_same, rh.free hT, rh.nf hT⟩, RepDs.mono (fz_new hT) (.cons q1 (.cons q2 .nil))⟩
theorem id_zip {X : Cx} {l m : Expr} {ta : TDA} {p pos : Pos} {elts : List Expr} {tk : Nat} {tpos : Pos} (hg : Gl X "zip") (hm : X.mg "zip" = none) (ha : AD X [l, m] ta) (hs : starEach [l, m] X.env = [(false, eval l X.env), (false, eval m X.env)] := by rfl) (hs2 : starEach [m] X.env = [(false, eval m X.env)] := by rfl) :
    IDG X (.Tuple elts tk tpos) (.Call (.Name "zip" p) [l, m] [] pos) (iZipG ta) := by
  refine (pi_zip hg hm ha hs hs2).wk fun σ H R ⟨F, σD, M, RD, rel, h, p⟩ => ?_
  unfold iZipG at h
  refine lA rel h fun d M1 v H1 f1 rel1 r1 h1 => ?_
  obtain ⟨d, e, ds, es, rfl, g1, g2, q⟩ := h1
  obtain ⟨u, v', rfl, r2, r3⟩ := rep2 r1
  obtain ⟨a, xs, rfl, hz, hr⟩ := list_rep rel1.hp r2 g1
  obtain ⟨b, ys, rfl, hz2, hr2⟩ := list_rep rel1.hp r3 g2
  exact ⟨a, b, rfl, ⟨xs, hz⟩, ⟨ys, hz2⟩, p _ _ M1 H1 _ f1 rel1.hp (ylds_zip r2 r3) q⟩
end L2

namespace V15
open PySem PySem.Spec PyProof.Rows L2
/-- _law_box(_law_script): 0 _law_script 1 _law_seed 2 _law_cell -/
def t__law_box : TSD :=
  (tSeqD (tAsgD (tCD (.int 0)) (gNameD 1))
  (tSeqD (tForD (iSeqD (tSlD (tVarD 0) tNoPartD (tPartD (tCD (.int 63))))) (gNameD 2) (tAsgD (tOpD rModD (tOpD rAddD (tOpD rAddD (tOpD rMulD (tVarD 1) (tCD (.int 31))) (tVarD 2)) (tCD (.int 17))) (tCD (.int 2147483647))) (gNameD 1)))
  (tRetD (tLstD (tConsD (tCallD cList (tConsD (tSlD (tVarD 0) tNoPartD (tPartD (tCD (.int 63)))) tNilD)) (tConsD (tCD (.int 0)) (tConsD (tCD (.int 0)) (tConsD (tCD (.int 0)) (tConsD (tVarD 1) tNilD)))))))))
/-- _law_mixed(_law_number, _law_turn): 0 _law_number 1 _law_turn 2 _law_one 3 _law_two -/
def t__law_mixed : TSD :=
  (tSeqD (tAsgD (tOpD rModD (tOpD rAddD (tOpD rAddD (tOpD rMulD (tVarD 0) (tCD (.int 48271))) (tOpD rMulD (tVarD 1) (tCD (.int 69621)))) (tCD (.int 12345))) (tCD (.int 2147483647))) (gNameD 2))
  (tSeqD (tAsgD (tOpD rModD (tOpD rAddD (tOpD rAddD (tOpD rMulD (tVarD 2) (tOpD rAddD (tOpD rModD (tVarD 2) (tCD (.int 65521))) (tCD (.int 7)))) (tOpD rMulD (tVarD 1) (tCD (.int 40692)))) (tOpD rModD (tVarD 0) (tCD (.int 104729)))) (tCD (.int 998244353))) (gNameD 3))
  (tRetD (tOpD rDivD (tVarD 3) (tCD (.int 7))))))
/-- _law_take(_law_box_here, _law_size): 0 _law_box_here 1 _law_size 2 _law_left 3 _law_cell -/
def t__law_take (sp__law_mixed : SpD) : TSD :=
  (tSeqD (tAsgD (tOpD rAddD (tOpD rIxD (tVarD 0) (tCD (.int 3))) (tCD (.int 1))) (gSubD (tVarD 0) (tCD (.int 3))))
  (tSeqD (tIfSD (tTestD (tOpD rGtD (tOpD rIxD (tVarD 0) (tCD (.int 2))) (tCD (.int 0)))) (tSeqD (tAsgD (tOpD rIxD (tVarD 0) (tCD (.int 2))) (gNameD 2))
  (tSeqD (tAsgD (tOpD rDivD (tVarD 2) (tVarD 1)) (gSubD (tVarD 0) (tCD (.int 2))))
  (tRetD (tOpD rModD (tVarD 2) (tVarD 1))))) tNextD)
  (tSeqD (tIfSD (tTestD (tOpD rGeD (tOpD rIxD (tVarD 0) (tCD (.int 1))) (tCallD cLen (tConsD (tOpD rIxD (tVarD 0) (tCD (.int 0))) tNilD)))) (tRetD (tOpD rModD (tCallD sp__law_mixed (tConsD (tOpD rIxD (tVarD 0) (tCD (.int 4))) (tConsD (tOpD rIxD (tVarD 0) (tCD (.int 3))) tNilD))) (tVarD 1))) tNextD)
  (tSeqD (tAsgD (tOpD rIxD (tOpD rIxD (tVarD 0) (tCD (.int 0))) (tOpD rIxD (tVarD 0) (tCD (.int 1)))) (gNameD 3))
  (tSeqD (tAsgD (tOpD rAddD (tOpD rIxD (tVarD 0) (tCD (.int 1))) (tCD (.int 1))) (gSubD (tVarD 0) (tCD (.int 1))))
  (tSeqD (tIfSD (tTestD (tOpD rLtD (tVarD 3) (tOpD rPowD (tCD (.int 10)) (tCD (.int 18))))) (tRetD (tOpD rModD (tCallD sp__law_mixed (tConsD (tVarD 3) (tConsD (tOpD rIxD (tVarD 0) (tCD (.int 3))) tNilD))) (tVarD 1))) tNextD)
  (tSeqD (tAsgD (tOpD rDivD (tVarD 3) (tVarD 1)) (gSubD (tVarD 0) (tCD (.int 2))))
  (tRetD (tOpD rModD (tVarD 3) (tVarD 1))))))))))
/-- _law_ranges(_law_box_here, _law_size): 0 _law_box_here 1 _law_size 2 _law_found 3 _law_k 4 _law_low 5 _law_high 6 _law_other -/
def t__law_ranges (sp__law_take : SpD) : TSD :=
  (tSeqD (tAsgD (tLstD tNilD) (gNameD 2))
  (tSeqD (tForD (iRng1D (tConsD (tVarD 1) tNilD)) (gNameD 3) (tSeqD (tAsgD (tCallD sp__law_take (tConsD (tVarD 0) (tConsD (tCD (.int 101)) tNilD))) (gNameD 4))
  (tSeqD (tAsgD (tCallD cMin2 (tConsD (tCD (.int 100)) (tConsD (tOpD rAddD (tVarD 4) (tOpD rIxD (tLstD (tConsD (tCD (.int 0)) (tConsD (tCallD sp__law_take (tConsD (tVarD 0) (tConsD (tCD (.int 10)) tNilD))) (tConsD (tCallD sp__law_take (tConsD (tVarD 0) (tConsD (tCD (.int 101)) tNilD))) tNilD)))) (tCallD sp__law_take (tConsD (tVarD 0) (tConsD (tCD (.int 3)) tNilD))))) tNilD))) (gNameD 5))
  (tSeqD (tIfSD (tTestD (tOpD (rEqA false) (tCallD sp__law_take (tConsD (tVarD 0) (tConsD (tCD (.int 8)) tNilD))) (tCD (.int 0)))) (tAsgD (tCD (.int 100)) (gNameD 5)) tNextD)
  (tSeqD (tIfSD (tAndD (tTestD (tOpD rGtD (tCallD cLen (tConsD (tVarD 2) tNilD)) (tCD (.int 0)))) (tTestD (tOpD (rEqA false) (tCallD sp__law_take (tConsD (tVarD 0) (tConsD (tCD (.int 4)) tNilD))) (tCD (.int 0))))) (tSeqD (tAsgD (tOpD rIxD (tVarD 2) (tCallD sp__law_take (tConsD (tVarD 0) (tConsD (tCallD cLen (tConsD (tVarD 2) tNilD)) tNilD)))) (gNameD 6))
  (tSeqD (tAsgD (tCallD cMin2 (tConsD (tCD (.int 100)) (tConsD (tOpD rAddD (tOpD rIxD (tVarD 6) (tCD (.int 1))) (tCallD sp__law_take (tConsD (tVarD 0) (tConsD (tCD (.int 2)) tNilD)))) tNilD))) (gNameD 4))
  (tAsgD (tCallD cMax2 (tConsD (tVarD 4) (tConsD (tVarD 5) tNilD))) (gNameD 5)))) tNextD)
  (tDropD (tAppD (tVarD 2) (tTupD (tConsD (tVarD 4) (tConsD (tVarD 5) tNilD))))))))))
  (tRetD (tVarD 2))))
/-- _law_count(_law_box_here, _law_few, _law_most): 0 _law_box_here 1 _law_few 2 _law_most -/
def t__law_count (sp__law_take : SpD) : TSD :=
  (tSeqD (tIfSD (tTestD (tOpD (rEqA false) (tCallD sp__law_take (tConsD (tVarD 0) (tConsD (tCD (.int 8)) tNilD))) (tCD (.int 0)))) (tRetD (tCallD sp__law_take (tConsD (tVarD 0) (tConsD (tOpD rAddD (tVarD 2) (tCD (.int 1))) tNilD)))) tNextD)
  (tRetD (tCallD sp__law_take (tConsD (tVarD 0) (tConsD (tOpD rAddD (tVarD 1) (tCD (.int 1))) tNilD)))))
end V15

namespace V15
open PySem PySem.Spec PyProof.Rows L2
theorem line_of {n : Nat} (h : n ≤ 1000) : n ≤ sizeLine := Nat.le_of_lt (small1000 h)
local macro_rules | `(tactic| walk_at "r1") => `(tactic| first
  | refine rd_seq ?_
  | refine rd_asg ?_
  | refine rd_gname ?_
  | refine rd_op ?_
  | refine rd_c ?_
  | refine rd_var rfl ?_
  | refine rd_rN ?_
  | refine rd_rI (by first | exact .inl ⟨by decide, by decide⟩ | exact .inr ⟨by decide, by decide⟩ | exact ⟨by decide, by decide⟩ | (show (0 : Int) < _; first | decide | omega) | (constructor <;> omega)) ?_
  | refine rd_ret ?_
  | refine rd_cons ?_
  | refine rd_nil ?_
  | refine rd_tup ?_
  | refine rd_lst ?_
  | refine rd_test ?_
  | refine rd_ifS ?_
  | refine rd_call ?_
  | refine rd_next ?_
  | refine rd_drop ?_
  | refine rd_sl ?_
  | refine rd_nopart ?_
  | refine rd_part ?_
  | refine rd_iseq ?_
  | refine rd_for ?_
  | refine ⟨line_of (Nat.le_of_ble_eq_true rfl), ?_⟩
  | refine rd_gsub ?_
  | refine rd_irng1 ?_
  | refine rd_irng2 ?_
  | refine ⟨_, rfl, ?_⟩)
local macro_rules | `(tactic| walk_at "r") => `(tactic| repeat walk_at "r1")


theorem ite_d {p : Prop} [Decidable p] {A B : Prop} (h1 : p → A) (h2 : ¬ p → B) : if decide p = true then A else B := by
  by_cases h : p
  · rw [if_pos (decide_eq_true h)]; exact h1 h
  · rw [if_neg (by rw [decide_eq_false h]; exact Bool.false_ne_true)]; exact h2 h
theorem ite_x {p : Prop} [Decidable p] {A B : Prop} (h1 : p → A) (h2 : ¬ p → B) : if (false ^^ decide p) = true then A else B := by
  rw [Bool.false_xor]; exact ite_d h1 h2
theorem cut_map {α : Type} (f : α → D) (l : List α) (lo hi : Option Int) : ∃ r : List α, L2.cutD (l.map f) lo hi = r.map f ∧ r.length ≤ l.length := by
  unfold L2.cutD
  rw [← List.map_drop, ← List.map_take]
  exact ⟨_, rfl, by simp only [List.length_take, List.length_drop]; omega⟩

theorem rd_eqAI {neg : Bool} {i j : Int} {M : HpD} {Q : KD} (q : Q (.bl (neg ^^ decide (i = j))) M) : rEqA neg (.int i) (.int j) M Q := by
  refine rd_eqA rfl (Nat.zero_le _) ?_
  have e : eqD (viewD (.int i) M) (viewD (.int j) M) = decide (i = j) := by
    show eqD (.int i) (.int j) = _
    unfold eqD
    by_cases z : i = j
    · subst z; simp
    · simp [z]
  rw [e]
  exact q
def sp__law_mixed : SpD := fun ds M Q => ∃ n t, ds = [.int n, .int t] ∧ ∀ m, Q (.int m) M
theorem rd__law_mixed (ds : List D) (M : HpD) (Q : KD) (h : sp__law_mixed ds M Q) : t__law_mixed { nx := fun _ M' => Q .non M', rt := Q } (startD ["_law_number", "_law_turn", "_law_one", "_law_two"] ds) M := by
  obtain ⟨n, t, rfl, h⟩ := h
  unfold t__law_mixed
  walk_at "r"
  exact .inl (h _)

/-! the box -/
def BoxO (o : OD) : Prop := ∃ (cells : List Int) (i l c s : Int), o = .lst [.lst (cells.map D.int), .int i, .int l, .int c, .int s] ∧ 0 ≤ i
def Fr (b : Addr) (M M' : HpD) : Prop := (∃ o, M' b = some o ∧ BoxO o) ∧ ∀ a, a ≠ b → M' a = M a
theorem Fr.upd {b : Addr} {M : HpD} {o : OD} (h : BoxO o) : Fr b M (updD M b o) := ⟨⟨o, updD_same, h⟩, fun a z => updD_ne z⟩
theorem Fr.trans {b : Addr} {M M1 M2 : HpD} (x : Fr b M M1) (y : Fr b M1 M2) : Fr b M M2 := ⟨y.1, fun a z => (y.2 a z).trans (x.2 a z)⟩
def sp__law_box : SpD := fun ds M Q => ∃ ns : List Int, ds = [.lst (ns.map D.int)] ∧ ns.length ≤ 63 ∧ ∀ p M', M p = none → Fr p M M' → Q (.ref p) M'
theorem rd__law_box (ds : List D) (M : HpD) (Q : KD) (h : sp__law_box ds M Q) : t__law_box { nx := fun _ M' => Q .non M', rt := Q } (startD ["_law_script", "_law_seed", "_law_cell"] ds) M := by
  obtain ⟨ns, rfl, hl, h⟩ := h
  obtain ⟨r, er, hr⟩ := cut_map D.int ns none (some 63)
  unfold t__law_box
  walk_at "r"
  rw [er]
  refine newF (line_of (by rw [List.length_map]; omega)) ⟨_, rfl, fun i σ M' => (∃ s v, σ = [some (.lst (ns.map D.int)), some (.int s), v]) ∧ M' = M, ⟨⟨_, _, rfl⟩, rfl⟩, ?_, ?_⟩
  · rintro i d σ M' e ⟨⟨s, v, rfl⟩, rfl⟩
    rw [List.getElem?_map] at e
    cases q : r[i]? with
    | none => rw [q] at e; cases e
    | some z =>
      rw [q] at e; cases e
      walk_at "r"
      exact ⟨⟨_, _, rfl⟩, rfl⟩
  · rintro σ M' ⟨⟨s, v, rfl⟩, rfl⟩
    walk_at "r"
    rw [er]
    refine newF (line_of (by rw [List.length_map]; omega)) ?_
    walk_at "r"
    refine rd_list rfl (newF (line_of (by rw [List.length_map]; omega)) ?_)
    walk_at "r"
    refine newM (line_of (Nat.le_of_ble_eq_true rfl)) fun p hp => .inl (h p _ hp (.upd ⟨_, _, _, _, _, rfl, Int.le_refl 0⟩))

def sp__law_take : SpD := fun ds M Q => ∃ (b : Addr) (n : Int) (o : OD), ds = [.ref b, .int n] ∧ 0 < n ∧ n < 1000000 ∧ M b = some o ∧ BoxO o ∧ ∀ r M', 0 ≤ r → r < n → Fr b M M' → Q (.int r) M'
theorem rd__law_take (ds : List D) (M : HpD) (Q : KD) (h : sp__law_take ds M Q) : t__law_take sp__law_mixed { nx := fun _ M' => Q .non M', rt := Q } (startD ["_law_box_here", "_law_size", "_law_left", "_law_cell"] ds) M := by
  obtain ⟨b, n, o, rfl, n0, n1, eM, ⟨cells, i, l, c, s, rfl, hi⟩, h⟩ := h
  unfold t__law_take
  walk_at "r"
  refine rd_ix (items_ref eM) rfl ?_
  walk_at "r"
  refine ⟨b, _, _, _, rfl, rfl, eM, rfl, ?_⟩
  walk_at "r"
  refine rd_ix (items_ref updD_same) rfl ?_
  walk_at "r"
  refine ite_d (fun hc => ?_) (fun hc => ?_)
  · walk_at "r"
    refine rd_ix (items_ref updD_same) rfl ?_
    walk_at "r"
    refine ⟨b, _, _, _, rfl, rfl, updD_same, rfl, ?_⟩
    walk_at "r"
    refine .inl (h _ _ (Int.emod_nonneg _ (by omega)) (Int.emod_lt_of_pos _ n0) ?_)
    rw [updD_updD]
    exact .upd ⟨_, _, _, _, _, rfl, hi⟩
  · walk_at "r"
    refine rd_ix (items_ref updD_same) rfl ?_
    walk_at "r"
    refine rd_ix (items_ref updD_same) rfl ?_
    walk_at "r"
    refine rd_len rfl ?_
    walk_at "r"
    refine ite_d (fun hc2 => ?_) (fun hc2 => ?_)
    · walk_at "r"
      refine rd_ix (items_ref updD_same) rfl ?_
      walk_at "r"
      refine rd_ix (items_ref updD_same) rfl ?_
      walk_at "r"
      refine ⟨_, _, rfl, fun m => ?_⟩
      walk_at "r"
      exact .inl (h _ _ (Int.emod_nonneg _ (by omega)) (Int.emod_lt_of_pos _ n0) (.upd ⟨_, _, _, _, _, rfl, hi⟩))
    · walk_at "r"
      refine rd_ix (items_ref updD_same) rfl ?_
      walk_at "r"
      refine rd_ix (items_ref updD_same) rfl ?_
      have hlt : i.toNat < cells.length := by
        rw [List.length_map] at hc2
        omega
      have hat : atI (cells.map D.int) i = some (.int cells[i.toNat]) := by
        have := atI_nat (xs := cells.map D.int) (j := i.toNat) (v := .int cells[i.toNat]) (by rw [List.getElem?_map, List.getElem?_eq_getElem hlt]; rfl)
        rw [Int.toNat_of_nonneg hi] at this
        exact this
      refine rd_ix rfl hat ?_
      walk_at "r"
      refine rd_ix (items_ref updD_same) rfl ?_
      walk_at "r"
      refine ⟨b, _, _, _, rfl, rfl, updD_same, rfl, ?_⟩
      rw [updD_updD]
      walk_at "r"
      refine ite_d (fun hc3 => ?_) (fun hc3 => ?_)
      · walk_at "r"
        refine rd_ix (items_ref updD_same) rfl ?_
        walk_at "r"
        refine ⟨_, _, rfl, fun m => ?_⟩
        walk_at "r"
        exact .inl (h _ _ (Int.emod_nonneg _ (by omega)) (Int.emod_lt_of_pos _ n0) (.upd ⟨_, _, _, _, _, rfl, by omega⟩))
      · walk_at "r"
        refine ⟨b, _, _, _, rfl, rfl, updD_same, rfl, ?_⟩
        rw [updD_updD]
        walk_at "r"
        exact .inl (h _ _ (Int.emod_nonneg _ (by omega)) (Int.emod_lt_of_pos _ n0) (.upd ⟨_, _, _, _, _, rfl, by omega⟩))

end V15

namespace V15
open PySem PySem.Spec PyProof.Rows L2
local macro_rules | `(tactic| walk_at "st1") => `(tactic| first
  | refine rd_seq ?_
  | refine rd_asg ?_
  | refine rd_gname ?_
  | refine rd_op ?_
  | refine rd_c ?_
  | refine rd_var rfl ?_
  | refine rd_rN ?_
  | refine rd_rI (by first | exact .inl ⟨by decide, by decide⟩ | exact .inr ⟨by decide, by decide⟩ | exact ⟨by decide, by decide⟩ | (show (0 : Int) < _; first | decide | omega) | (constructor <;> omega)) ?_
  | refine rd_eqAI ?_
  | refine rd_app ?_
  | refine rd_ret ?_
  | refine rd_max2 ?_
  | refine rd_min2 ?_
  | refine rd_and ?_
  | refine rd_or ?_
  | refine rd_not ?_
  | refine rd_gtup rfl ?_
  | refine rd_gcons ?_
  | refine rd_gnil ?_
  | refine rd_comp ?_
  | refine rd_if0 ?_
  | refine rd_neg ?_
  | refine rd_tru ?_
  | refine rd_andV ?_
  | refine rd_notV ?_
  | refine rd_mx ?_
  | refine rd_cons ?_
  | refine rd_nil ?_
  | refine rd_tup ?_
  | refine rd_lst ?_
  | refine rd_test ?_
  | refine rd_ifS ?_
  | refine rd_call ?_
  | refine rd_next ?_
  | refine rd_drop ?_
  | refine rd_sl ?_
  | refine rd_nopart ?_
  | refine rd_part ?_
  | refine rd_iseq ?_
  | refine rd_for ?_
  | refine ⟨line_of (Nat.le_of_ble_eq_true rfl), ?_⟩
  | refine rd_gsub ?_
  | refine rd_irng1 ?_
  | refine rd_irng2 ?_
  | refine ⟨_, rfl, ?_⟩)
local macro_rules | `(tactic| walk_at "st") => `(tactic| repeat walk_at "st1")

/-! numbers of ranges -/
def sp__law_count : SpD := fun ds M Q => ∃ (b : Addr) (few most : Int) (o : OD), ds = [.ref b, .int few, .int most] ∧ 0 ≤ few ∧ few ≤ 100 ∧ 0 ≤ most ∧ most ≤ 100 ∧ M b = some o ∧ BoxO o ∧ ∀ r M', 0 ≤ r → (r ≤ few ∨ r ≤ most) → Fr b M M' → Q (.int r) M'
theorem rd__law_count (ds : List D) (M : HpD) (Q : KD) (h : sp__law_count ds M Q) : t__law_count sp__law_take { nx := fun _ M' => Q .non M', rt := Q } (startD ["_law_box_here", "_law_few", "_law_most"] ds) M := by
  obtain ⟨b, few, most, o, rfl, f0, f1, m0, m1, eM, hb, h⟩ := h
  unfold t__law_count
  walk_at "st"
  refine ⟨b, _, o, rfl, by decide, by decide, eM, hb, fun r M1 r0 r1 fr => ?_⟩
  obtain ⟨o1, e1, b1⟩ := id fr.1
  walk_at "st"
  refine ite_x (fun hc => ?_) (fun hc => ?_)
  · walk_at "st"
    exact ⟨b, _, o1, rfl, by omega, by omega, e1, b1, fun r M2 r0 r1 fr2 => .inl (h _ _ r0 (.inr (by omega)) (fr.trans fr2))⟩
  · walk_at "st"
    exact ⟨b, _, o1, rfl, by omega, by omega, e1, b1, fun r M2 r0 r1 fr2 => .inl (h _ _ r0 (.inl (by omega)) (fr.trans fr2))⟩

def encR (p : Int × Int) : D := .tup [.int p.1, .int p.2]
def OkR (p : Int × Int) : Prop := 0 ≤ p.1 ∧ p.1 ≤ p.2 ∧ p.2 ≤ 100
def sp__law_ranges : SpD := fun ds M Q => ∃ (b : Addr) (n : Int) (o : OD), ds = [.ref b, .int n] ∧ 0 ≤ n ∧ n ≤ 60 ∧ M b = some o ∧ BoxO o ∧ ∀ (rs : List (Int × Int)) M', rs.length ≤ 60 → (∀ p ∈ rs, OkR p) → Fr b M M' → Q (.lst (rs.map encR)) M'
/-- the box and the list that grows -/
structure Two (b p : Addr) (M M1 : HpD) (rs : List (Int × Int)) : Prop where
  bx : ∃ o, M1 b = some o ∧ BoxO o
  ls : M1 p = some (.lst (rs.map encR))
  fr : ∀ a, a ≠ b → a ≠ p → M1 a = M a
theorem Two.step {b p : Addr} {M M1 M2 : HpD} {rs : List (Int × Int)} (t : Two b p M M1 rs) (hn : p ≠ b) (f : Fr b M1 M2) : Two b p M M2 rs :=
  ⟨f.1, (f.2 p hn).trans t.ls, fun a z1 z2 => (f.2 a z1).trans (t.fr a z1 z2)⟩
theorem tail_ok {b p : Addr} {n : Int} {M M1 : HpD} {rs : List (Int × Int)} {i : Nat} {lo hi : Int} {v3 v6 : Option D} (tw : Two b p M M1 rs) (hpb : p ≠ b) (hl : rs.length = i) (hok : ∀ q ∈ rs, OkR q) (ho : OkR (lo, hi)) :
    ∃ rs' v3' v4' v5' v6', [some (.ref b), some (.int n), some (.ref p), v3, some (.int lo), some (.int hi), v6] = [some (.ref b), some (.int n), some (.ref p), v3', v4', v5', v6'] ∧ rs'.length = i + 1 ∧ (∀ q ∈ rs', OkR q) ∧ Two b p M (updD M1 p (.lst (rs.map encR ++ [.tup [.int lo, .int hi]]))) rs' := by
  refine ⟨rs ++ [(lo, hi)], _, _, _, _, rfl, by simp [hl], ?_, ?_⟩
  · intro q hq
    rcases List.mem_append.mp hq with z | z
    · exact hok q z
    · rw [List.mem_singleton.mp z]; exact ho
  · obtain ⟨o1, e1, b1⟩ := tw.bx
    exact ⟨⟨o1, by rw [updD_ne (Ne.symm hpb)]; exact e1, b1⟩, by rw [updD_same, List.map_append]; rfl, fun a z1 z2 => by rw [updD_ne z2]; exact tw.fr a z1 z2⟩
theorem rd__law_ranges (ds : List D) (M : HpD) (Q : KD) (h : sp__law_ranges ds M Q) : t__law_ranges sp__law_take { nx := fun _ M' => Q .non M', rt := Q } (startD ["_law_box_here", "_law_size", "_law_found", "_law_k", "_law_low", "_law_high", "_law_other"] ds) M := by
  obtain ⟨b, n, o, rfl, n0, n1, eM, hb, h⟩ := h
  unfold t__law_ranges
  walk_at "st"
  refine newM (Nat.zero_le _) fun p hp => ?_
  have hpb : p ≠ b := fun z => by rw [z, eM] at hp; cases hp
  have t0 : Two b p M (updD M p (.lst [])) [] := ⟨⟨o, by rw [updD_ne (Ne.symm hpb)]; exact eM, hb⟩, updD_same, fun a _ z => updD_ne z⟩
  generalize updD M p (.lst []) = M0 at t0
  walk_at "st"
  refine ⟨by omega, by omega, fun i σ M1 => ∃ rs v3 v4 v5 v6, σ = [some (.ref b), some (.int n), some (.ref p), v3, v4, v5, v6] ∧ rs.length = i ∧ (∀ q ∈ rs, OkR q) ∧ Two b p M M1 rs, ⟨[], _, _, _, _, rfl, rfl, by simp, t0⟩, ?_, ?_⟩
  · rintro i d σ M1 e ⟨rs, v3, v4, v5, v6, rfl, hl, hok, tw⟩
    obtain ⟨hi, rfl⟩ := intsD_get e
    obtain ⟨o1, e1, b1⟩ := id tw.bx
    walk_at "st"
    refine ⟨b, _, o1, rfl, by decide, by decide, e1, b1, fun low M2 l0 l1 f2 => ?_⟩
    have tw2 := tw.step hpb f2
    obtain ⟨o2, e2, b2⟩ := id tw2.bx
    walk_at "st"
    refine ⟨b, _, o2, rfl, by decide, by decide, e2, b2, fun x1 M3 x10 x11 f3 => ?_⟩
    have tw3 := tw2.step hpb f3
    obtain ⟨o3, e3, b3⟩ := id tw3.bx
    walk_at "st"
    refine ⟨b, _, o3, rfl, by decide, by decide, e3, b3, fun x2 M4 x20 x21 f4 => ?_⟩
    have tw4 := tw3.step hpb f4
    obtain ⟨o4, e4, b4⟩ := id tw4.bx
    walk_at "st"
    refine newF (line_of (Nat.le_of_ble_eq_true rfl)) ?_
    walk_at "st"
    refine ⟨b, _, o4, rfl, by decide, by decide, e4, b4, fun r M5 r0 r1 f5 => ?_⟩
    have tw5 := tw4.step hpb f5
    obtain ⟨o5, e5, b5⟩ := id tw5.bx
    obtain ⟨w, w0, hw⟩ : ∃ w : Int, 0 ≤ w ∧ atI [D.int 0, .int x1, .int x2] r = some (.int w) := by
      obtain rfl | rfl | rfl : r = 0 ∨ r = 1 ∨ r = 2 := by omega
      · exact ⟨0, by decide, rfl⟩
      · exact ⟨x1, x10, rfl⟩
      · exact ⟨x2, x20, rfl⟩
    refine rd_ix rfl hw ?_
    walk_at "st"
    refine ⟨b, _, o5, rfl, by decide, by decide, e5, b5, fun r8 M6 r80 r81 f6 => ?_⟩
    have tw6 := tw5.step hpb f6
    obtain ⟨o6, e6, b6⟩ := id tw6.bx
    walk_at "st"
    refine ite_x (fun _ => ?_) (fun _ => ?_)
    all_goals
      walk_at "st"
      refine rd_len (items_ref tw6.ls) ?_
      walk_at "st"
      refine ite_d (fun hgt => ?_) (fun hgt => ?_)
      · walk_at "st"
        refine ⟨b, _, o6, rfl, by decide, by decide, e6, b6, fun r4 M7 r40 r41 f7 => ?_⟩
        have tw7 := tw6.step hpb f7
        obtain ⟨o7, e7, b7⟩ := id tw7.bx
        walk_at "st"
        refine ite_x (fun _ => ?_) (fun _ => ?_)
        · walk_at "st"
          refine rd_len (items_ref tw7.ls) ?_
          walk_at "st"
          rw [List.length_map] at hgt
          refine ⟨b, _, o7, rfl, by rw [List.length_map]; omega, by rw [List.length_map]; omega, e7, b7, fun j M8 j0 j1 f8 => ?_⟩
          have tw8 := tw7.step hpb f8
          obtain ⟨o8, e8, b8⟩ := id tw8.bx
          rw [List.length_map] at j1
          have hj : j.toNat < rs.length := by omega
          have hat : atI (rs.map encR) j = some (encR rs[j.toNat]) := by
            have := atI_nat (xs := rs.map encR) (j := j.toNat) (v := encR rs[j.toNat]) (by rw [List.getElem?_map, List.getElem?_eq_getElem hj]; rfl)
            rw [Int.toNat_of_nonneg j0] at this
            exact this
          have hr := hok _ (List.getElem_mem hj)
          unfold OkR at hr
          refine rd_ix (items_ref tw8.ls) hat ?_
          walk_at "st"
          refine rd_ix rfl rfl ?_
          walk_at "st"
          refine ⟨b, _, o8, rfl, by decide, by decide, e8, b8, fun y M9 y0 y1 f9 => ?_⟩
          have tw9 := tw8.step hpb f9
          walk_at "st"
          refine ⟨⟨_, tw9.ls⟩, ?_⟩
          walk_at "st"
          refine ⟨_, tw9.ls, small1000 (by rw [List.length_map]; omega), ?_⟩
          refine tail_ok tw9 hpb hl hok ?_
          unfold OkR
          dsimp only
          omega
        · walk_at "st"
          refine ⟨⟨_, tw7.ls⟩, ?_⟩
          walk_at "st"
          refine ⟨_, tw7.ls, small1000 (by rw [List.length_map]; omega), ?_⟩
          refine tail_ok tw7 hpb hl hok ?_
          unfold OkR
          dsimp only
          omega
      · walk_at "st"
        refine ⟨⟨_, tw6.ls⟩, ?_⟩
        walk_at "st"
        refine ⟨_, tw6.ls, small1000 (by rw [List.length_map]; omega), ?_⟩
        refine tail_ok tw6 hpb hl hok ?_
        unfold OkR
        dsimp only
        omega
  · rintro σ M1 ⟨rs, v3, v4, v5, v6, rfl, hl, hok, tw⟩
    rw [intsD_len] at hl
    walk_at "st"
    refine .inr ⟨p, _, rfl, tw.ls, h rs _ (by omega) hok ⟨?_, fun a ha => ?_⟩⟩
    · obtain ⟨o1, e1, b1⟩ := tw.bx
      exact ⟨o1, by rw [delD_ne (Ne.symm hpb)]; exact e1, b1⟩
    · by_cases hap : a = p
      · rw [hap, delD_same, hp]
      · rw [delD_ne hap]; exact tw.fr a ha hap
end V15

namespace V15
open PySem PySem.Spec PyProof.Rows L2
/-- settings(ranges): 0 ranges 1 at 2 by_end 3 dampnesses 4 places 5 high -/
def t_settings : TSD :=
  (tSeqD (tAsgD (tCallD cSorted (tConsD (tCompG 2 (iEnumG (tConsD (tVarD 0) tNilD)) (gTupD 2 (gConsD (gNameD 0) (gConsD (gNameD 1) gNilD))) tIf0D (tTupD (tConsD (tOpD rIxD (tVarD 1) (tCD (.int 1))) (tConsD (tVarD 0) tNilD)))) tNilD)) (gNameD 2))
  (tSeqD (tAsgD (tLstD tNilD) (gNameD 3))
  (tSeqD (tAsgD (tLstD tNilD) (gNameD 4))
  (tSeqD (tForG (iSeqG (tVarD 2)) (gTupD 2 (gConsD (gNameD 5) (gConsD (gNameD 1) gNilD))) (tIfSD (tOrD (tNotD (tTruD (tVarD 3))) (tTestD (tOpD rGtD (tOpD rIxD (tOpD rIxD (tVarD 0) (tVarD 1)) (tCD (.int 0))) (tOpD rIxD (tVarD 3) (tNegD (tCD (.int 1))))))) (tSeqD (tDropD (tAppD (tVarD 3) (tVarD 5)))
  (tDropD (tAppD (tVarD 4) (tVarD 1)))) tNextD))
  (tRetD (tTupD (tConsD (tVarD 3) (tConsD (tCallD cSorted (tConsD (tVarD 4) tNilD)) tNilD))))))))
/-- _law_whole(_law_found): 0 _law_found -/
def t__law_whole : TSD :=
  (tRetD (tAndVD (tCallD cIsi (tConsD (tVarD 0) (tConsD (tCD (.ty "int")) tNilD))) (tNotVD (tCallD cIsi (tConsD (tVarD 0) (tConsD (tCD (.ty "bool")) tNilD))))))
/-- _law_wholes(_law_found): 0 _law_found -/
def t__law_wholes (sp__law_whole : SpD) : TSD :=
  (tRetD (tAndVD (tCallD cIsi (tConsD (tVarD 0) (tConsD (tCD (.ty "list")) tNilD))) (tCallD cAll (tConsD (tCompG 1 (iSeqG (tVarD 0)) (gNameD 0) tIf0D (tCallD sp__law_whole (tConsD (tVarD 0) tNilD))) tNilD))))
/-- _law_meet(_law_one, _law_other): 0 _law_one 1 _law_other -/
def t__law_meet : TSD :=
  (tRetD (tOpD rLeD (tCallD cMax2 (tConsD (tOpD rIxD (tVarD 0) (tCD (.int 0))) (tConsD (tOpD rIxD (tVarD 1) (tCD (.int 0))) tNilD))) (tCallD cMin2 (tConsD (tOpD rIxD (tVarD 0) (tCD (.int 1))) (tConsD (tOpD rIxD (tVarD 1) (tCD (.int 1))) tNilD)))))
/-- law(_law_script): 0 _law_script 1 _law_box_here 2 _law_ranges_here 3 _law_handed 4 _law_turn 5 _law_found 6 _law_damps 7 _law_shown 8 _law_row 9 _law_at 10 _law_low 11 _law_high -/
def t_law (sp__law_box sp__law_ranges sp__law_count sp_settings sp__law_wholes sp__law_meet : SpD) : TSD :=
  (tSeqD (tAsgD (tCallD sp__law_box (tConsD (tVarD 0) tNilD)) (gNameD 1))
  (tSeqD (tAsgD (tCallD sp__law_ranges (tConsD (tVarD 1) (tConsD (tCallD sp__law_count (tConsD (tVarD 1) (tConsD (tCD (.int 12)) (tConsD (tCD (.int 40)) tNilD)))) tNilD))) (gNameD 2))
  (tSeqD (tAsgD (tCallD cList (tConsD (tVarD 2) tNilD)) (gNameD 3))
  (tSeqD (tForD (iRng1D (tConsD (tCD (.int 2)) tNilD)) (gNameD 4) (tSeqD (tAsgD (tCallD sp_settings (tConsD (tVarD 3) tNilD)) (gNameD 5))
  (tSeqD (tIfSD (tOrD (tNotD (tTruD (tCallD cIsi (tConsD (tVarD 5) (tConsD (tCD (.ty "tuple")) tNilD))))) (tOrD (tTestD (tOpD (rEqA true) (tCallD cLen (tConsD (tVarD 5) tNilD)) (tCD (.int 2)))) (tTestD (tOpD (rEqA true) (tVarD 3) (tVarD 2))))) (tRetD (tCD (.bl false))) tNextD)
  (tSeqD (tAsgD (tVarD 5) (gTupD 2 (gConsD (gNameD 6) (gConsD (gNameD 7) gNilD))))
  (tSeqD (tIfSD (tOrD (tNotD (tTruD (tCallD sp__law_wholes (tConsD (tVarD 6) tNilD)))) (tOrD (tNotD (tTruD (tCallD sp__law_wholes (tConsD (tVarD 7) tNilD)))) (tTestD (tOpD (rEqA true) (tCallD cLen (tConsD (tVarD 6) tNilD)) (tCallD cLen (tConsD (tVarD 7) tNilD)))))) (tRetD (tCD (.bl false))) tNextD)
  (tSeqD (tForG (iSeqG (tLstD (tConsD (tVarD 6) (tConsD (tVarD 7) tNilD)))) (gNameD 8) (tIfSD (tNotD (tTruD (tCallD cAll (tConsD (tCompG 2 (iZipG (tConsD (tVarD 8) (tConsD (tSlD (tVarD 8) (tPartD (tCD (.int 1))) tNoPartD) tNilD))) (gTupD 2 (gConsD (gNameD 0) (gConsD (gNameD 1) gNilD))) tIf0D (tOpD rLtD (tVarD 0) (tVarD 1))) tNilD)))) (tRetD (tCD (.bl false))) tNextD))
  (tSeqD (tIfSD (tNotD (tTruD (tCallD cAll (tConsD (tCompG 1 (iSeqG (tVarD 7)) (gNameD 0) tIf0D (tAndVD (tOpD rLeD (tCD (.int 0)) (tVarD 0)) (tOpD rLtD (tVarD 0) (tCallD cLen (tConsD (tVarD 3) tNilD))))) tNilD)))) (tRetD (tCD (.bl false))) tNextD)
  (tSeqD (tForG (iSeqG (tVarD 2)) (gTupD 2 (gConsD (gNameD 10) (gConsD (gNameD 11) gNilD))) (tIfSD (tNotD (tTruD (tCallD cAny (tConsD (tCompG 1 (iSeqG (tVarD 6)) (gNameD 0) tIf0D (tAndVD (tOpD rLeD (tVarD 11) (tVarD 0)) (tOpD rLeD (tVarD 0) (tVarD 12)))) tNilD)))) (tRetD (tCD (.bl false))) tNextD))
  (tSeqD (tForG (iSeqG (tVarD 7)) (gNameD 9) (tIfSD (tTruD (tCallD cAny (tConsD (tCompG 1 (iSeqG (tVarD 7)) (gNameD 0) tIf0D (tAndVD (tOpD (rEqA true) (tVarD 0) (tVarD 10)) (tCallD sp__law_meet (tConsD (tOpD rIxD (tVarD 3) (tVarD 10)) (tConsD (tOpD rIxD (tVarD 3) (tVarD 0)) tNilD))))) tNilD))) (tRetD (tCD (.bl false))) tNextD))
  (tSeqD (tDropD (tAppD (tVarD 6) (tCD (.int 200))))
  (tDropD (tAppD (tVarD 7) (tCD (.int 0))))))))))))))
  (tRetD (tCD (.bl true)))))))
end V15

namespace V15
open PySem PySem.Spec PyProof.Rows L2

/-! ### the order of pairs of ints, of ints -/
def lexI (a b : Int × Int) : Bool := decide (a.1 < b.1 ∨ (a.1 = b.1 ∧ a.2 < b.2))
theorem lexI_lin : LinLt lexI := by
  refine ⟨fun a => ?_, fun a b c h1 h2 => ?_, fun a b h1 h2 => ?_⟩
  · exact decide_eq_false (by omega)
  · have := of_decide_eq_true h1
    have := of_decide_eq_true h2
    exact decide_eq_true (by omega)
  · have := of_decide_eq_false h1
    have := of_decide_eq_false h2
    exact Prod.ext (by omega) (by omega)
def ltI (a b : Int) : Bool := decide (a < b)
theorem ltI_lin : LinLt ltI := by
  refine ⟨fun a => ?_, fun a b c h1 h2 => ?_, fun a b h1 h2 => ?_⟩
  · exact decide_eq_false (by omega)
  · have := of_decide_eq_true h1
    have := of_decide_eq_true h2
    exact decide_eq_true (by omega)
  · have := of_decide_eq_false h1
    have := of_decide_eq_false h2
    omega
theorem srtK_int (as : List Int) : SrtK (as.map D.int) := .kI fun d hd => by
  obtain ⟨i, _, rfl⟩ := List.mem_map.mp hd
  exact ⟨i, rfl⟩
theorem ltD_int (a b : Int) : ltD (.int a) (.int b) = ltI a b := rfl
abbrev encP (p : Int × Int) : D := .tup [.int p.1, .int p.2]
theorem eqD_int (a b : Int) : eqD (.int a) (.int b) = decide (a = b) := by
  unfold eqD
  by_cases z : a = b
  · subst z; simp
  · simp [z]
theorem ltD_pair (a b : Int × Int) : ltD (encP a) (encP b) = lexI a b := by
  show ltT [.int a.1, .int a.2] [.int b.1, .int b.2] = _
  unfold lexI
  simp only [ltT, ltF, eqD_int]
  by_cases h1 : a.1 = b.1 <;> by_cases h2 : a.2 = b.2 <;> simp [h1, h2]
theorem srtK_pair (as : List (Int × Int)) : SrtK (as.map encP) := .tupI (fun d hd => by
    obtain ⟨p, _, rfl⟩ := List.mem_map.mp hd
    exact ⟨_, _, rfl, by simp [depDs, depD]⟩) fun a b ha hb => by
  obtain ⟨p, _, e1⟩ := List.mem_map.mp ha
  obtain ⟨q, _, e2⟩ := List.mem_map.mp hb
  cases e1
  cases e2
  simp only [cmpT, okD, cmpF, eqD_int]
  by_cases h1 : p.1 = q.1 <;> by_cases h2 : p.2 = q.2 <;> simp [h1, h2]

/-! ### the greedy choice -/
/-- what is chosen when the ranges of these ends (high, place) were looked at -/
structure Pick (rs : List (Int × Int)) (done : List (Int × Int)) (ds ps : List Int) : Prop where
  len : ds.length = ps.length
  small : ds.length ≤ done.length
  at_ : ∀ (k : Nat) (d s : Int), ds[k]? = some d → ps[k]? = some s → 0 ≤ s ∧ s < rs.length ∧ (rs.getD s.toNat (0, 0)).2 = d ∧ (d, s) ∈ done
  up : ∀ (k l : Nat) (d e s : Int), k < l → ds[k]? = some d → ds[l]? = some e → ps[l]? = some s → d < (rs.getD s.toNat (0, 0)).1 ∧ d < e
  suit : ∀ h a : Int, (h, a) ∈ done → ∃ d ∈ ds, (rs.getD a.toNat (0, 0)).1 ≤ d ∧ d ≤ h
  last : ∀ d ∈ ds, ∃ p ∈ done, d = p.1
theorem Pick.nil (rs : List (Int × Int)) : Pick rs [] [] [] := ⟨rfl, Nat.le_refl _, fun _ _ _ e => by simp at e, fun _ _ _ _ _ _ e => by simp at e, fun _ _ h => by simp at h, fun _ h => by simp at h⟩
/-- the end of a range: its high, its place -/
def EndOf (rs : List (Int × Int)) (p : Int × Int) : Prop := 0 ≤ p.2 ∧ p.2 < rs.length ∧ (rs.getD p.2.toNat (0, 0)).2 = p.1 ∧ (rs.getD p.2.toNat (0, 0)).1 ≤ p.1
theorem get_snoc {α : Type} {l : List α} {x y : α} {k : Nat} (h : (l ++ [x])[k]? = some y) : (k < l.length ∧ l[k]? = some y) ∨ (k = l.length ∧ y = x) := by
  by_cases hk : k < l.length
  · rw [List.getElem?_append_left hk] at h; exact .inl ⟨hk, h⟩
  · rw [List.getElem?_append_right (by omega)] at h
    have : k = l.length := by
      by_cases z : k = l.length
      · exact z
      · rw [List.getElem?_eq_none (by simp; omega)] at h; cases h
    subst this
    simp at h
    exact .inr ⟨rfl, h.symm⟩
theorem Pick.take {rs done : List (Int × Int)} {ds ps : List Int} {p : Int × Int} (h : Pick rs done ds ps) (ok : EndOf rs p) (hd : ∀ d, ds.getLast? = some d → d < (rs.getD p.2.toNat (0, 0)).1) (hs : ∀ q ∈ done, q.1 ≤ p.1) : Pick rs (done ++ [p]) (ds ++ [p.1]) (ps ++ [p.2]) := by
  have lens := h.len
  have below : ∀ k d, ds[k]? = some d → d < (rs.getD p.2.toNat (0, 0)).1 := fun k d e => by
    have hk : k < ds.length := (List.getElem?_eq_some_iff.mp e).1
    have hne : ds ≠ [] := fun z => by rw [z] at hk; cases hk
    obtain ⟨z, hz⟩ : ∃ z, ds.getLast? = some z := ⟨_, List.getLast?_eq_some_getLast hne⟩
    have hz2 := hd z hz
    rw [List.getLast?_eq_getElem?] at hz
    by_cases q : k = ds.length - 1
    · rw [q] at e; rw [e] at hz; cases hz; exact hz2
    · obtain ⟨s, es⟩ : ∃ s, ps[ds.length - 1]? = some s := ⟨_, List.getElem?_eq_getElem (by omega)⟩
      have := (h.up k (ds.length - 1) d z s (by omega) e hz es).2
      omega
  refine ⟨by simp [lens], by simp; exact h.small, fun k d s e1 e2 => ?_, fun k l d e s hkl e1 e2 e3 => ?_, fun hh a hm => ?_, fun d hm => ?_⟩
  · rcases get_snoc e1 with ⟨k1, e1⟩ | ⟨k1, rfl⟩ <;> rcases get_snoc e2 with ⟨k2, e2⟩ | ⟨k2, rfl⟩
    · obtain ⟨z1, z2, z3, z4⟩ := h.at_ k d s e1 e2
      exact ⟨z1, z2, z3, List.mem_append_left _ z4⟩
    · omega
    · omega
    · exact ⟨ok.1, ok.2.1, ok.2.2.1, by simp⟩
  · rcases get_snoc e1 with ⟨k1, e1⟩ | ⟨k1, rfl⟩
    · rcases get_snoc e2 with ⟨l1, e2⟩ | ⟨l1, rfl⟩ <;> rcases get_snoc e3 with ⟨l2, e3⟩ | ⟨l2, rfl⟩
      · exact h.up k l d e s hkl e1 e2 e3
      · omega
      · omega
      · have b1 := below k d e1
        have b2 := ok.2.2.2
        exact ⟨b1, by omega⟩
    · have : l < ds.length + 1 := by
        have := (List.getElem?_eq_some_iff.mp e2).1
        simpa using this
      omega
  · rcases List.mem_append.mp hm with hm | hm
    · obtain ⟨d, hd1, hd2⟩ := h.suit hh a hm
      exact ⟨d, List.mem_append_left _ hd1, hd2⟩
    · have : (hh, a) = p := by simpa using hm
      subst this
      exact ⟨hh, by simp, ok.2.2.2, Int.le_refl _⟩
  · rcases List.mem_append.mp hm with hm | hm
    · obtain ⟨q, hq, e⟩ := h.last d hm
      exact ⟨q, List.mem_append_left _ hq, e⟩
    · have : d = p.1 := by simpa using hm
      exact ⟨p, by simp, this⟩
theorem Pick.pass {rs done : List (Int × Int)} {ds ps : List Int} {p : Int × Int} {d : Int} (h : Pick rs done ds ps) (hl : ds.getLast? = some d) (hd : (rs.getD p.2.toNat (0, 0)).1 ≤ d) (hs : ∀ q ∈ done, q.1 ≤ p.1) : Pick rs (done ++ [p]) ds ps := by
  have hm : d ∈ ds := List.mem_of_getLast? hl
  refine ⟨h.len, by rw [List.length_append]; have := h.small; omega, fun k d s e1 e2 => ?_, h.up, fun hh a hm' => ?_, fun d hm => ?_⟩
  · obtain ⟨z1, z2, z3, z4⟩ := h.at_ k d s e1 e2
    exact ⟨z1, z2, z3, List.mem_append_left _ z4⟩
  · rcases List.mem_append.mp hm' with hm' | hm'
    · exact h.suit hh a hm'
    · have : (hh, a) = p := by simpa using hm'
      subst this
      obtain ⟨q, hq, e⟩ := h.last d hm
      have := hs q hq
      exact ⟨d, hm, hd, by omega⟩
  · obtain ⟨q, hq, e⟩ := h.last d hm
    exact ⟨q, List.mem_append_left _ hq, e⟩
end V15

namespace V15
open PySem PySem.Spec PyProof.Rows L2
local macro_rules | `(tactic| walk_at "st1") => `(tactic| first
  | refine rd_seq ?_
  | refine rd_asg ?_
  | refine rd_gname ?_
  | refine rd_op ?_
  | refine rd_c ?_
  | refine rd_var rfl ?_
  | refine rd_rN ?_
  | refine rd_rI (by first | exact .inl ⟨by decide, by decide⟩ | exact .inr ⟨by decide, by decide⟩ | exact ⟨by decide, by decide⟩ | (show (0 : Int) < _; first | decide | omega) | (constructor <;> omega)) ?_
  | refine rd_eqAI ?_
  | refine rd_app ?_
  | refine rd_ret ?_
  | refine rd_max2 ?_
  | refine rd_min2 ?_
  | refine rd_and ?_
  | refine rd_or ?_
  | refine rd_not ?_
  | refine rd_gtup rfl ?_
  | refine rd_gcons ?_
  | refine rd_gnil ?_
  | refine rd_comp ?_
  | refine rd_if0 ?_
  | refine rd_neg ?_
  | refine rd_tru ?_
  | refine rd_andV ?_
  | refine rd_notV ?_
  | refine rd_mx ?_
  | refine rd_cons ?_
  | refine rd_nil ?_
  | refine rd_tup ?_
  | refine rd_lst ?_
  | refine rd_test ?_
  | refine rd_ifS ?_
  | refine rd_call ?_
  | refine rd_next ?_
  | refine rd_drop ?_
  | refine rd_sl ?_
  | refine rd_nopart ?_
  | refine rd_part ?_
  | refine rd_iseq ?_
  | refine rd_for ?_
  | refine rd_forG ?_
  | refine rd_compG ?_
  | refine rd_iseqG ?_
  | refine rd_ienum ?_
  | refine rd_izip ?_
  | refine ⟨line_of (Nat.le_of_ble_eq_true rfl), ?_⟩
  | refine rd_gsub ?_
  | refine rd_irng1 ?_
  | refine rd_irng2 ?_
  | refine ⟨_, rfl, ?_⟩)
local macro_rules | `(tactic| walk_at "st") => `(tactic| repeat walk_at "st1")

def apartB (p q : Int × Int) : Bool := decide (min p.2 q.2 < max p.1 q.1)
def sp__law_meet : SpD := fun ds M Q => ∃ p q, ds = [encR p, encR q] ∧ Q (.bl (!apartB p q)) M
theorem rd__law_meet (ds : List D) (M : HpD) (Q : KD) (h : sp__law_meet ds M Q) : t__law_meet { nx := fun _ M' => Q .non M', rt := Q } (startD ["_law_one", "_law_other"] ds) M := by
  obtain ⟨p, q, rfl, h⟩ := h
  unfold t__law_meet
  walk_at "st"
  refine rd_ix rfl rfl ?_
  walk_at "st"
  refine rd_ix rfl rfl ?_
  walk_at "st"
  refine rd_ix rfl rfl ?_
  walk_at "st"
  refine rd_ix rfl rfl ?_
  walk_at "st"
  have e : (!apartB p q) = decide (max p.1 q.1 ≤ min p.2 q.2) := by
    unfold apartB
    by_cases z : min p.2 q.2 < max p.1 q.1
    · rw [decide_eq_true z, decide_eq_false (by omega)]; rfl
    · rw [decide_eq_false z, decide_eq_true (by omega)]; rfl
  rw [e] at h
  exact .inl h
def sp__law_whole : SpD := fun ds M Q => ∃ i, ds = [.int i] ∧ Q (.bl true) M
theorem rd__law_whole (ds : List D) (M : HpD) (Q : KD) (h : sp__law_whole ds M Q) : t__law_whole { nx := fun _ M' => Q .non M', rt := Q } (startD ["_law_found"] ds) M := by
  obtain ⟨i, rfl, h⟩ := h
  unfold t__law_whole
  walk_at "st"
  refine rd_isi rfl (by decide) ?_
  refine ⟨true, rfl, ?_⟩
  rw [if_pos rfl]
  walk_at "st"
  refine rd_isi rfl (by decide) ?_
  exact ⟨false, rfl, .inl h⟩


theorem ref_list {p : Addr} {M : HpD} {ds : List D} (h : listD (.ref p) M = some ds) : M p = some (.lst ds) := by
  cases e : M p with
  | none => simp only [listD, e] at h; cases h
  | some o =>
    cases o with
    | lst l => simp only [listD, e] at h; cases h; rfl
theorem view_list {d : D} {M : HpD} {ds : List D} (h : listD d M = some ds) : viewD d M = .lst ds := by
  cases d with
  | lst l => cases h; rfl
  | ref p => simp only [viewD, ref_list h]
  | _ => cases h
theorem items_list {d : D} {M : HpD} {ds : List D} (h : listD d M = some ds) : itemsD d M = some ds := by
  cases d with
  | lst l => cases h; rfl
  | ref p => exact items_ref (ref_list h)
  | _ => cases h
theorem tru_list {d : D} {M : HpD} {ds : List D} (h : listD d M = some ds) : truD d M (!ds.isEmpty) := by
  cases d with
  | lst l => cases h; unfold truD; rfl
  | ref p => unfold truD; exact ⟨_, ref_list h, rfl⟩
  | _ => cases h
def sp__law_wholes : SpD := fun ds M Q => ∃ (d : D) (ns : List Int), ds = [d] ∧ listD d M = some (ns.map D.int) ∧ ns.length ≤ 100 ∧ Q (.bl true) M
theorem rd__law_wholes (ds : List D) (M : HpD) (Q : KD) (h : sp__law_wholes ds M Q) : t__law_wholes sp__law_whole { nx := fun _ M' => Q .non M', rt := Q } (startD ["_law_found"] ds) M := by
  obtain ⟨d, ns, rfl, hd, hl, h⟩ := h
  unfold t__law_wholes
  walk_at "st"
  refine rd_isi (t := "list") (by rw [view_list hd]; rfl) (by decide) ?_
  refine ⟨true, rfl, ?_⟩
  rw [if_pos rfl]
  walk_at "st"
  refine ⟨_, hd, line_of (by rw [List.length_map]; omega), fun i ys σ M' => M' = M ∧ (∃ v, σ = [v, some d]) ∧ ys = List.replicate i (.bl true), ⟨rfl, ⟨_, rfl⟩, rfl⟩, fun i ys σ M' z => by rw [z.1]; exact hd, ?_, ?_⟩
  · rintro i e ys σ M' he ⟨rfl, ⟨v, rfl⟩, rfl⟩
    rw [List.getElem?_map] at he
    cases q : ns[i]? with
    | none => rw [q] at he; cases he
    | some z =>
      rw [q] at he; cases he
      walk_at "st"
      exact ⟨rfl, ⟨_, rfl⟩, by rw [List.replicate_succ']⟩
  · rintro ys σ M' ⟨rfl, _, rfl⟩
    refine newF (line_of (by rw [List.length_replicate, List.length_map]; omega)) ?_
    refine rd_nil (rd_all (bs := List.replicate _ true) (by show some _ = some _; rw [List.map_replicate]) ?_)
    have e : ∀ n, (List.replicate n true).all id = true := fun n => by
      rw [List.all_eq_true]; intro x hx; rw [(List.mem_replicate.mp hx).2]; rfl
    rw [e]
    exact .inl h
end V15

namespace V15
open PySem PySem.Spec PyProof.Rows L2
local macro_rules | `(tactic| walk_at "st1") => `(tactic| first
  | refine rd_seq ?_
  | refine rd_asg ?_
  | refine rd_gname ?_
  | refine rd_op ?_
  | refine rd_c ?_
  | refine rd_var rfl ?_
  | refine rd_rN ?_
  | refine rd_rI (by first | exact .inl ⟨by decide, by decide⟩ | exact .inr ⟨by decide, by decide⟩ | exact ⟨by decide, by decide⟩ | (show (0 : Int) < _; first | decide | omega) | (constructor <;> omega)) ?_
  | refine rd_eqAI ?_
  | refine rd_app ?_
  | refine rd_ret ?_
  | refine rd_max2 ?_
  | refine rd_min2 ?_
  | refine rd_and ?_
  | refine rd_or ?_
  | refine rd_not ?_
  | refine rd_gtup rfl ?_
  | refine rd_gcons ?_
  | refine rd_gnil ?_
  | refine rd_comp ?_
  | refine rd_if0 ?_
  | refine rd_neg ?_
  | refine rd_tru ?_
  | refine rd_andV ?_
  | refine rd_notV ?_
  | refine rd_mx ?_
  | refine rd_cons ?_
  | refine rd_nil ?_
  | refine rd_tup ?_
  | refine rd_lst ?_
  | refine rd_test ?_
  | refine rd_ifS ?_
  | refine rd_call ?_
  | refine rd_next ?_
  | refine rd_drop ?_
  | refine rd_sl ?_
  | refine rd_nopart ?_
  | refine rd_part ?_
  | refine rd_iseq ?_
  | refine rd_for ?_
  | refine rd_forG ?_
  | refine rd_compG ?_
  | refine rd_iseqG ?_
  | refine rd_ienum ?_
  | refine rd_izip ?_
  | refine ⟨line_of (Nat.le_of_ble_eq_true rfl), ?_⟩
  | refine rd_gsub ?_
  | refine rd_irng1 ?_
  | refine rd_irng2 ?_
  | refine ⟨_, rfl, ?_⟩)
local macro_rules | `(tactic| walk_at "st") => `(tactic| repeat walk_at "st1")


/-- what settings tells -/
structure GoodS (rs : List (Int × Int)) (ds bs : List Int) : Prop where
  len : ds.length = bs.length
  small : ds.length ≤ 60
  up1 : ds.Pairwise (· < ·)
  up2 : bs.Pairwise (· < ·)
  inn : ∀ s ∈ bs, 0 ≤ s ∧ s < rs.length
  suit : ∀ p ∈ rs, ∃ d ∈ ds, p.1 ≤ d ∧ d ≤ p.2
  apart : ∀ s ∈ bs, ∀ t ∈ bs, s ≠ t → apartB (rs.getD s.toNat (0, 0)) (rs.getD t.toNat (0, 0)) = true
theorem Pick.good {rs done : List (Int × Int)} {ds ps bs : List Int} (h : Pick rs done ds ps) (hl : done.length ≤ 60) (ho : ∀ p ∈ rs, OkR p) (all : ∀ i (hi : i < rs.length), (rs[i].2, (i : Int)) ∈ done) (hp : bs.Perm ps) (hs : bs.Pairwise fun a b => ltI b a = false) : GoodS rs ds bs := by
  have okat : ∀ s : Int, 0 ≤ s → s < rs.length → OkR (rs.getD s.toNat (0, 0)) := fun s h0 h1 => by
    have e : rs.getD s.toNat (0, 0) = rs[s.toNat]'(by omega) := by
      rw [List.getD_eq_getElem?_getD, List.getElem?_eq_getElem (by omega)]; rfl
    rw [e]
    exact ho _ (List.getElem_mem _)
  have pat : ∀ (l : Nat) (s : Int), ps[l]? = some s → ∃ d, ds[l]? = some d := fun l s e => by
    have := (List.getElem?_eq_some_iff.mp e).1
    have := h.len
    exact ⟨_, List.getElem?_eq_getElem (by omega)⟩
  have key : ∀ (k l : Nat) (s t : Int), k < l → ps[k]? = some s → ps[l]? = some t → (rs.getD s.toNat (0, 0)).2 < (rs.getD t.toNat (0, 0)).1 := fun k l s t hkl e1 e2 => by
    obtain ⟨d, ed⟩ := pat k s e1
    obtain ⟨e, ee⟩ := pat l t e2
    have a := h.at_ k d s ed e1
    have b := (h.up k l d e t hkl ed ee e2).1
    omega
  have inn : ∀ s ∈ ps, 0 ≤ s ∧ s < rs.length := fun s hs => by
    obtain ⟨k, hk⟩ := List.getElem?_of_mem hs
    obtain ⟨d, ed⟩ := pat k s hk
    have a := h.at_ k d s ed hk
    exact ⟨a.1, a.2.1⟩
  have nd : ps.Nodup := by
    show ps.Pairwise (· ≠ ·)
    rw [List.pairwise_iff_getElem]
    intro k l hk hl hkl e
    obtain ⟨s, es⟩ : ∃ s, ps[l]? = some s := ⟨_, List.getElem?_eq_getElem hl⟩
    have a := key k l s s hkl (by rw [List.getElem?_eq_getElem hk, e, ← List.getElem?_eq_getElem hl]; exact es) es
    have b := inn s (List.mem_of_getElem? es)
    have c := (okat s b.1 b.2).2.1
    omega
  refine ⟨h.len.trans hp.length_eq.symm, by have := h.small; omega, ?_, ?_, fun s hs => inn s (hp.mem_iff.mp hs), fun p hm => ?_, fun s hs t ht hne => ?_⟩
  · rw [List.pairwise_iff_getElem]
    intro i j hi hj hij
    obtain ⟨s, es⟩ : ∃ s, ps[j]? = some s := ⟨_, List.getElem?_eq_getElem (by have := h.len; omega)⟩
    exact (h.up i j _ _ s hij (List.getElem?_eq_getElem hi) (List.getElem?_eq_getElem hj) es).2
  · have nb : bs.Nodup := hp.nodup_iff.mpr nd
    exact (hs.and nb).imp fun {a b} z => by
      have := of_decide_eq_false z.1
      have := z.2
      omega
  · obtain ⟨i, hi, e⟩ := List.getElem_of_mem hm
    obtain ⟨d, hd, h1, h2⟩ := h.suit _ _ (all i hi)
    have e2 : rs.getD ((i : Int).toNat) (0, 0) = p := by
      rw [Int.toNat_natCast, List.getD_eq_getElem?_getD, List.getElem?_eq_getElem hi, e]; rfl
    rw [e2] at h1
    rw [e] at h2
    exact ⟨d, hd, h1, h2⟩
  · obtain ⟨k, ek⟩ := List.getElem?_of_mem (hp.mem_iff.mp hs)
    obtain ⟨l, el⟩ := List.getElem?_of_mem (hp.mem_iff.mp ht)
    unfold apartB
    have is := inn s (List.mem_of_getElem? ek)
    have it := inn t (List.mem_of_getElem? el)
    have o1 := (okat s is.1 is.2).2.1
    have o2 := (okat t it.1 it.2).2.1
    rcases Nat.lt_trichotomy k l with z | z | z
    · have := key k l s t z ek el
      exact decide_eq_true (by omega)
    · subst z; rw [ek] at el; cases el; exact absurd rfl hne
    · have := key l k t s z el ek
      exact decide_eq_true (by omega)
theorem encP_eq : (fun p : Int × Int => encP p) = encR := by funext p; rfl
def ends (rs : List (Int × Int)) : List (Int × Int) := rs.mapIdx fun i p => (p.2, (i : Int))
theorem ends_take (rs : List (Int × Int)) (i : Nat) {p : Int × Int} (h : rs[i]? = some p) : ((ends rs).take (i + 1)) = (ends rs).take i ++ [(p.2, (i : Int))] := by
  rw [List.take_add_one]
  congr 1
  unfold ends
  rw [List.getElem?_mapIdx, h]
  rfl
theorem ends_ok {rs : List (Int × Int)} (ho : ∀ p ∈ rs, OkR p) {p : Int × Int} (h : p ∈ ends rs) : EndOf rs p := by
  obtain ⟨i, e⟩ := List.getElem?_of_mem h
  unfold ends at e
  rw [List.getElem?_mapIdx] at e
  cases q : rs[i]? with
  | none => rw [q] at e; cases e
  | some z =>
    rw [q] at e; cases e
    have hi : i < rs.length := (List.getElem?_eq_some_iff.mp q).1
    have g : rs.getD ((i : Int).toNat) (0, 0) = z := by rw [Int.toNat_natCast, List.getD_eq_getElem?_getD, q]; rfl
    have hz := ho z (List.mem_of_getElem? q)
    unfold EndOf
    dsimp only
    rw [g]
    exact ⟨by omega, by omega, rfl, hz.2.1⟩
theorem ends_all (rs : List (Int × Int)) (i : Nat) (hi : i < rs.length) : (rs[i].2, (i : Int)) ∈ ends rs := by
  refine List.mem_of_getElem? (i := i) ?_
  unfold ends
  rw [List.getElem?_mapIdx, List.getElem?_eq_getElem hi]; rfl
theorem atS {rs : List (Int × Int)} {s : Int} (h0 : 0 ≤ s) (h1 : s < rs.length) : atI (rs.map encR) s = some (encR (rs.getD s.toNat (0, 0))) := by
  have e : ((s.toNat : Nat) : Int) = s := by omega
  rw [← e, Int.toNat_natCast]
  exact atI_nat (by rw [List.getElem?_map, List.getElem?_eq_getElem (by omega)]; simp [List.getD_eq_getElem?_getD, show s.toNat < rs.length by omega])
theorem at_last {ds : List Int} {d : Int} (h : ds.getLast? = some d) : atI (ds.map D.int) (-1) = some (.int d) := by
  have hne : ds ≠ [] := fun z => by rw [z] at h; cases h
  have hl : 0 < ds.length := List.length_pos_iff.mpr hne
  unfold atI ixN
  rw [List.length_map, if_neg (by decide), if_pos (by omega), show (-1 + (ds.length : Int)).toNat = ds.length - 1 by omega]
  show (ds.map D.int)[ds.length - 1]? = _
  rw [List.getElem?_map, ← List.getLast?_eq_getElem?, h]; rfl
def sp_settings : SpD := fun ds M Q => ∃ rs : List (Int × Int), ds = [.lst (rs.map encR)] ∧ rs.length ≤ 60 ∧ (∀ p ∈ rs, OkR p) ∧ ∀ (a b : Addr) (M' : HpD) (us vs : List Int), GoodS rs us vs → a ≠ b → M' a = some (.lst (us.map D.int)) → M' b = some (.lst (vs.map D.int)) → Q (.tup [.ref a, .ref b]) M'
theorem rd_settings (ds : List D) (M : HpD) (Q : KD) (h : sp_settings ds M Q) : t_settings { nx := fun _ M' => Q .non M', rt := Q } (startD ["ranges", "at", "by_end", "dampnesses", "places", "high"] ds) M := by
  obtain ⟨rs, rfl, hl, ho, h⟩ := h
  unfold t_settings
  walk_at "st"
  refine ⟨_, _, rfl, rfl, line_of (by rw [enumD_len, List.length_map]; omega), fun i ys σ M' => M' = M ∧ (∃ v0 v1, σ = [v0, v1, some (.lst (rs.map encR)), none, none, none, none, none]) ∧ ys = ((ends rs).take i).map encP, ⟨rfl, ⟨_, _, rfl⟩, rfl⟩, fun _ _ _ _ _ => rfl, ?_, ?_⟩
  · rintro i d ys σ M' e ⟨rfl, ⟨v0, v1, rfl⟩, rfl⟩
    obtain ⟨d', e1, rfl⟩ := enumD_get e
    rw [List.getElem?_map] at e1
    cases q : rs[i]? with
    | none => rw [q] at e1; cases e1
    | some z =>
      rw [q] at e1; cases e1
      walk_at "st"
      refine rd_ix rfl rfl ?_
      walk_at "st"
      refine ⟨rfl, ⟨_, _, rfl⟩, ?_⟩
      rw [ends_take rs i q]
      simp
  · rintro ys σ M' ⟨rfl, _, rfl⟩
    have el : (enumD (rs.map encR)).length = (ends rs).length := by rw [enumD_len]; unfold ends; simp
    have el2 : (ends rs).length = rs.length := by unfold ends; simp
    rw [el, List.take_length]
    refine newF (line_of (by rw [List.length_map]; omega)) ?_
    refine rd_nil (rd_sorted (enc := encP) (lt := lexI) rfl (by omega) lexI_lin (srtK_pair _) (fun a _ b _ => ltD_pair a b) fun bs hperm hpw => ?_)
    have bl : bs.length = rs.length := hperm.length_eq.trans el2
    refine newF (line_of (by rw [List.length_map]; omega)) ?_
    walk_at "st"
    refine newM (line_of (Nat.zero_le _)) fun a hMa => ?_
    walk_at "st"
    refine newM (line_of (Nat.zero_le _)) fun b hMb => ?_
    have hab : a ≠ b := fun z => by rw [z, updD_same] at hMb; cases hMb
    walk_at "st"
    refine ⟨fun i σ M2 => ∃ (us ps : List Int) (v1 v5 : Option D), σ = [some (.lst (rs.map encR)), v1, some (.lst (bs.map encP)), some (.ref a), some (.ref b), v5] ∧ M2 a = some (.lst (us.map D.int)) ∧ M2 b = some (.lst (ps.map D.int)) ∧ Pick rs (bs.take i) us ps, ⟨[], [], _, _, rfl, by rw [updD_ne hab]; exact updD_same, updD_same, .nil rs⟩, fun _ _ _ _ => rfl, ?_, ?_⟩
    · rintro i d σ M2 e ⟨us, ps, v1, v5, rfl, ha, hb, pk⟩
      rw [List.getElem?_map] at e
      cases q : bs[i]? with
      | none => rw [q] at e; cases e
      | some z =>
        rw [q] at e; cases e
        have hi : i < bs.length := (List.getElem?_eq_some_iff.mp q).1
        have ok := ends_ok ho (hperm.mem_iff.mp (List.mem_of_getElem? q))
        have below : ∀ y ∈ bs.take i, y.1 ≤ z.1 := fun y hy => by
          obtain ⟨j, hj⟩ := List.getElem?_of_mem hy
          have hji : j < i := by
            have := (List.getElem?_eq_some_iff.mp hj).1
            rw [List.length_take] at this; omega
          rw [List.getElem?_take_of_lt hji] at hj
          rw [List.pairwise_iff_getElem] at hpw
          have hj' := List.getElem?_eq_some_iff.mp hj
          have hi' := List.getElem?_eq_some_iff.mp q
          have := hpw j i hj'.1 hi'.1 hji
          rw [hj'.2, hi'.2] at this
          have := of_decide_eq_false this
          omega
        have tk : bs.take (i + 1) = bs.take i ++ [z] := by rw [List.take_add_one, q]; rfl
        have ul : us.length ≤ 60 := by have := pk.small; rw [List.length_take] at this; omega
        have pl : ps.length ≤ 60 := by rw [← pk.len]; exact ul
        have add : (∀ d, us.getLast? = some d → d < (rs.getD z.2.toNat (0, 0)).1) → ∀ DD : EndsD, (∀ σ M3, (∃ (us ps : List Int) (v1 v5 : Option D), σ = [some (.lst (rs.map encR)), v1, some (.lst (bs.map encP)), some (.ref a), some (.ref b), v5] ∧ M3 a = some (.lst (us.map D.int)) ∧ M3 b = some (.lst (ps.map D.int)) ∧ Pick rs (bs.take (i + 1)) us ps) → DD.nx σ M3) → (tSeqD (tDropD (tAppD (tVarD 3) (tVarD 5))) (tDropD (tAppD (tVarD 4) (tVarD 1)))) DD [some (.lst (rs.map encR)), some (.int z.2), some (.lst (bs.map encP)), some (.ref a), some (.ref b), some (.int z.1)] M2 := fun hlast DD hDD => by
          walk_at "st"
          refine ⟨⟨_, ha⟩, ?_⟩
          walk_at "st"
          refine ⟨_, ha, Nat.lt_of_lt_of_le (by rw [List.length_map]; omega) (line_of (n := 100) (by decide)), ?_⟩
          walk_at "st"
          refine ⟨⟨_, by rw [updD_ne (Ne.symm hab)]; exact hb⟩, ?_⟩
          walk_at "st"
          refine ⟨_, by rw [updD_ne (Ne.symm hab)]; exact hb, Nat.lt_of_lt_of_le (by rw [List.length_map]; omega) (line_of (n := 100) (by decide)), ?_⟩
          refine hDD _ _ ⟨us ++ [z.1], ps ++ [z.2], _, _, rfl, by rw [updD_ne hab, updD_same, List.map_append]; rfl, by rw [updD_same, List.map_append]; rfl, ?_⟩
          rw [tk]
          exact pk.take ok hlast below
        walk_at "st"
        refine ⟨_, tru_list (list_ref ha), ?_⟩
        by_cases hu : us = []
        · subst hu
          rw [if_pos (by rfl), if_pos rfl]
          exact add (fun d e => by cases e) _ fun _ _ z => z
        · obtain ⟨d, hd⟩ : ∃ d, us.getLast? = some d := ⟨_, List.getLast?_eq_some_getLast hu⟩
          rw [if_neg (by cases us with | nil => exact absurd rfl hu | cons _ _ => exact Bool.false_ne_true)]
          walk_at "st"
          refine rd_ix rfl (atS ok.1 ok.2.1) ?_
          walk_at "st"
          refine rd_ix rfl rfl ?_
          walk_at "st"
          refine rd_ix (items_ref ha) (at_last hd) ?_
          walk_at "st"
          refine ite_d (fun lt => ?_) (fun nlt => ?_)
          · refine add (fun d' e => ?_) _ fun _ _ z => z
            rw [hd] at e; cases e
            exact lt
          · refine rd_next ⟨us, ps, _, _, rfl, ha, hb, ?_⟩
            rw [tk]
            exact pk.pass hd (by omega) below
    · rintro σ M2 ⟨us, ps, v1, v5, rfl, ha, hb, pk⟩
      rw [List.length_map, List.take_length] at pk
      walk_at "st"
      refine rd_sorted (enc := D.int) (lt := ltI) (as := ps) (list_ref hb) (by have := pk.small; have := pk.len; omega) ltI_lin (srtK_int _) (fun a _ b _ => ltD_int a b) fun cs hp2 hpw2 => ?_
      have cl := hp2.length_eq
      refine newM (line_of (by rw [List.length_map]; have := pk.small; have := pk.len; omega)) fun c hMc => ?_
      have hac : a ≠ c := fun z => by rw [z, hMc] at ha; cases ha
      walk_at "st"
      refine .inl (h a c _ us cs (pk.good (by omega) ho (fun i hi => hperm.mem_iff.mpr (ends_all rs i hi)) hp2 hpw2) hac (by rw [updD_ne hac]; exact ha) updD_same)
end V15

namespace V15
open PySem PySem.Spec PyProof.Rows L2
local macro_rules | `(tactic| walk_at "st1") => `(tactic| first
  | refine rd_seq ?_
  | refine rd_asg ?_
  | refine rd_gname ?_
  | refine rd_op ?_
  | refine rd_c ?_
  | refine rd_var rfl ?_
  | refine rd_rN ?_
  | refine rd_rI (by first | exact .inl ⟨by decide, by decide⟩ | exact .inr ⟨by decide, by decide⟩ | exact ⟨by decide, by decide⟩ | (show (0 : Int) < _; first | decide | omega) | (constructor <;> omega)) ?_
  | refine rd_eqAI ?_
  | refine rd_app ?_
  | refine rd_ret ?_
  | refine rd_max2 ?_
  | refine rd_min2 ?_
  | refine rd_and ?_
  | refine rd_or ?_
  | refine rd_not ?_
  | refine rd_gtup rfl ?_
  | refine rd_gcons ?_
  | refine rd_gnil ?_
  | refine rd_comp ?_
  | refine rd_if0 ?_
  | refine rd_neg ?_
  | refine rd_tru ?_
  | refine rd_andV ?_
  | refine rd_notV ?_
  | refine rd_mx ?_
  | refine rd_cons ?_
  | refine rd_nil ?_
  | refine rd_tup ?_
  | refine rd_lst ?_
  | refine rd_test ?_
  | refine rd_ifS ?_
  | refine rd_call ?_
  | refine rd_next ?_
  | refine rd_drop ?_
  | refine rd_sl ?_
  | refine rd_nopart ?_
  | refine rd_part ?_
  | refine rd_iseq ?_
  | refine rd_for ?_
  | refine rd_forG ?_
  | refine rd_compG ?_
  | refine rd_iseqG ?_
  | refine rd_ienum ?_
  | refine rd_izip ?_
  | refine ⟨line_of (Nat.le_of_ble_eq_true rfl), ?_⟩
  | refine rd_gsub ?_
  | refine rd_irng1 ?_
  | refine rd_irng2 ?_
  | refine ⟨_, rfl, ?_⟩)
local macro_rules | `(tactic| walk_at "st") => `(tactic| repeat walk_at "st1")

theorem okDs_encR : ∀ rs : List (Int × Int), okDs (rs.map encR) (rs.map encR) = true
  | [] => by unfold okDs; rfl
  | p :: r => by
    rw [List.map_cons]
    unfold okDs
    rw [okDs_encR r, Bool.and_true]
    unfold encR
    simp [okD, okDs]
theorem eqDs_encR : ∀ rs : List (Int × Int), eqDs (rs.map encR) (rs.map encR) = true
  | [] => by unfold eqDs; rfl
  | p :: r => by
    rw [List.map_cons]
    unfold eqDs
    rw [eqDs_encR r, Bool.and_true]
    unfold encR
    simp [eqD, eqDs]
theorem depDs_encR : ∀ rs : List (Int × Int), depDs (rs.map encR) ≤ 1
  | [] => by unfold depDs; exact Nat.zero_le _
  | p :: r => by
    rw [List.map_cons]
    unfold depDs
    have := depDs_encR r
    have e : depD (encR p) = 1 := by unfold encR; simp only [depD, depDs]; rfl
    omega

theorem allT (n : Nat) : (List.replicate n true).all id = true := by
  rw [List.all_eq_true]; intro x hx; rw [(List.mem_replicate.mp hx).2]; rfl
theorem repT (n : Nat) : List.replicate n (D.bl true) = (List.replicate n true).map D.bl := by rw [List.map_replicate]
theorem tailD (ds : List D) : L2.cutD ds (some 1) none = ds.drop 1 := by
  unfold L2.cutD
  rw [HT.sIx_none, show (some (1 : Int)) = some ((1 : Nat) : Int) from rfl, HT.sIx_nat]
  cases ds with
  | nil => rfl
  | cons a r =>
    rw [show min 1 (a :: r).length = 1 by simp only [List.length_cons]; omega]
    simp
theorem anyF (n : Nat) : (List.replicate n false).any id = false := by
  rw [List.any_eq_false]; intro x hx; rw [(List.mem_replicate.mp hx).2]; exact Bool.false_ne_true
theorem repF (n : Nat) : List.replicate n (D.bl false) = (List.replicate n false).map D.bl := by rw [List.map_replicate]
theorem int_at {ws : List Int} {i : Nat} {d : D} (h : (ws.map D.int)[i]? = some d) : ∃ n, ws[i]? = some n ∧ d = .int n := by
  rw [List.getElem?_map] at h
  cases q : ws[i]? with
  | none => rw [q] at h; cases h
  | some n => rw [q] at h; cases h; exact ⟨n, rfl, rfl⟩
theorem rise_pair {ws : List Int} (up : ws.Pairwise (· < ·)) {i : Nat} {d : D} (h : (zipD (ws.map D.int) ((ws.map D.int).drop 1))[i]? = some d) : ∃ m n : Int, d = .tup [.int m, .int n] ∧ m < n := by
  obtain ⟨p, q, e1, e2, rfl⟩ := zipD_get h
  rw [List.getElem?_drop] at e2
  obtain ⟨m, hm, rfl⟩ := int_at e1
  obtain ⟨n, hn, rfl⟩ := int_at e2
  rw [List.pairwise_iff_getElem] at up
  have a := List.getElem?_eq_some_iff.mp hm
  have b := List.getElem?_eq_some_iff.mp hn
  have := up i (1 + i) a.1 b.1 (by omega)
  rw [a.2, b.2] at this
  exact ⟨m, n, rfl, this⟩
def Rest16 : TSD := (tSeqD (tIfSD (tOrD (tNotD (tTruD (tCallD sp__law_wholes (tConsD (tVarD 6) tNilD)))) (tOrD (tNotD (tTruD (tCallD sp__law_wholes (tConsD (tVarD 7) tNilD)))) (tTestD (tOpD (rEqA true) (tCallD cLen (tConsD (tVarD 6) tNilD)) (tCallD cLen (tConsD (tVarD 7) tNilD)))))) (tRetD (tCD (.bl false))) tNextD)
  (tSeqD (tForG (iSeqG (tLstD (tConsD (tVarD 6) (tConsD (tVarD 7) tNilD)))) (gNameD 8) (tIfSD (tNotD (tTruD (tCallD cAll (tConsD (tCompG 2 (iZipG (tConsD (tVarD 8) (tConsD (tSlD (tVarD 8) (tPartD (tCD (.int 1))) tNoPartD) tNilD))) (gTupD 2 (gConsD (gNameD 0) (gConsD (gNameD 1) gNilD))) tIf0D (tOpD rLtD (tVarD 0) (tVarD 1))) tNilD)))) (tRetD (tCD (.bl false))) tNextD))
  (tSeqD (tIfSD (tNotD (tTruD (tCallD cAll (tConsD (tCompG 1 (iSeqG (tVarD 7)) (gNameD 0) tIf0D (tAndVD (tOpD rLeD (tCD (.int 0)) (tVarD 0)) (tOpD rLtD (tVarD 0) (tCallD cLen (tConsD (tVarD 3) tNilD))))) tNilD)))) (tRetD (tCD (.bl false))) tNextD)
  (tSeqD (tForG (iSeqG (tVarD 2)) (gTupD 2 (gConsD (gNameD 10) (gConsD (gNameD 11) gNilD))) (tIfSD (tNotD (tTruD (tCallD cAny (tConsD (tCompG 1 (iSeqG (tVarD 6)) (gNameD 0) tIf0D (tAndVD (tOpD rLeD (tVarD 11) (tVarD 0)) (tOpD rLeD (tVarD 0) (tVarD 12)))) tNilD)))) (tRetD (tCD (.bl false))) tNextD))
  (tSeqD (tForG (iSeqG (tVarD 7)) (gNameD 9) (tIfSD (tTruD (tCallD cAny (tConsD (tCompG 1 (iSeqG (tVarD 7)) (gNameD 0) tIf0D (tAndVD (tOpD (rEqA true) (tVarD 0) (tVarD 10)) (tCallD sp__law_meet (tConsD (tOpD rIxD (tVarD 3) (tVarD 10)) (tConsD (tOpD rIxD (tVarD 3) (tVarD 0)) tNilD))))) tNilD))) (tRetD (tCD (.bl false))) tNextD))
  (tSeqD (tDropD (tAppD (tVarD 6) (tCD (.int 200))))
  (tDropD (tAppD (tVarD 7) (tCD (.int 0))))))))))
theorem rd_rest16 {rs : List (Int × Int)} {us vs : List Int} {x y : Addr} {M : HpD} {DD : EndsD} {a b c d : D} {v4 v8 v9 v10 v11 : Option D} (hrl : rs.length ≤ 60) (hok : ∀ p ∈ rs, OkR p) (good : GoodS rs us vs) (hab : x ≠ y) (ha : M x = some (.lst (us.map D.int))) (hb : M y = some (.lst (vs.map D.int)))
    (hnx : ∀ σ M', (∃ v4 v5 v6 v7 v8 v9 v10 v11, σ = [some a, some b, some (.lst (rs.map encR)), some (.lst (rs.map encR)), v4, v5, v6, v7, v8, v9, v10, v11]) → DD.nx σ M') :
    Rest16 DD [some a, some b, some (.lst (rs.map encR)), some (.lst (rs.map encR)), v4, some (.tup [.ref x, .ref y]), some (.ref x), some (.ref y), v8, v9, v10, v11] M := by
  have ul := good.small
  have vl : vs.length ≤ 60 := by rw [← good.len]; exact ul
  unfold Rest16
  walk_at "st"
  refine ⟨_, us, rfl, list_ref ha, by omega, ?_⟩
  refine ⟨_, by unfold truD; rfl, ?_⟩
  walk_at "st"
  refine ⟨_, vs, rfl, list_ref hb, by omega, ?_⟩
  refine ⟨_, by unfold truD; rfl, ?_⟩
  walk_at "st"
  refine rd_len (items_ref ha) ?_
  walk_at "st"
  refine rd_len (items_ref hb) ?_
  walk_at "st"
  rw [show (true ^^ decide (((us.map D.int).length : Int) = ((vs.map D.int).length : Int))) = false by rw [List.length_map, List.length_map, good.len]; simp]
  walk_at "st"
  refine newF (line_of (by show 2 ≤ 1000; decide)) ?_
  walk_at "st"
  refine ⟨fun i σ M' => M' = M ∧ ∃ v8, σ = [some a, some b, some (.lst (rs.map encR)), some (.lst (rs.map encR)), v4, some (.tup [.ref x, .ref y]), some (.ref x), some (.ref y), v8, v9, v10, v11], ⟨rfl, _, rfl⟩, fun _ _ _ _ => rfl, ?_, ?_⟩
  · rintro i e σ M' he ⟨rfl, v8', rfl⟩
    obtain ⟨ws, hd, up, wl⟩ : ∃ ws : List Int, listD e M' = some (ws.map D.int) ∧ ws.Pairwise (· < ·) ∧ ws.length ≤ 60 := by
      match i, he with
      | 0, he => cases he; exact ⟨us, list_ref ha, good.up1, ul⟩
      | 1, he => cases he; exact ⟨vs, list_ref hb, good.up2, vl⟩
      | _ + 2, he => cases he
    walk_at "st"
    refine ⟨_, hd, newF (line_of (by rw [tailD, List.length_drop, List.length_map]; omega)) ?_⟩
    rw [tailD]
    refine rd_nil ⟨_, _, _, _, rfl, hd, rfl, line_of (by rw [zipD_len, List.length_map]; omega), fun k ys σ M2 => M2 = M' ∧ (∃ w0 w1, σ = [w0, w1, some a, some b, some (.lst (rs.map encR)), some (.lst (rs.map encR)), v4, some (.tup [.ref x, .ref y]), some (.ref x), some (.ref y), some e, v9, v10, v11]) ∧ ys = List.replicate k (.bl true), ⟨rfl, ⟨_, _, rfl⟩, rfl⟩, fun _ _ _ _ z => by rw [z.1]; exact ⟨hd, rfl⟩, ?_, ?_⟩
    · rintro k f ys σ M2 hf ⟨rfl, ⟨w0, w1, rfl⟩, rfl⟩
      obtain ⟨m, n, rfl, hmn⟩ := rise_pair up hf
      walk_at "st"
      refine ⟨rfl, ⟨_, _, rfl⟩, ?_⟩
      rw [decide_eq_true hmn, List.replicate_succ']
    · rintro ys σ M2 ⟨rfl, _, rfl⟩
      refine newF (line_of (by rw [List.length_replicate, zipD_len, List.length_map]; omega)) ?_
      refine rd_nil (rd_all (bs := List.replicate _ true) (by show some _ = some _; rw [repT]) ?_)
      rw [allT]
      refine ⟨_, by unfold truD; rfl, ?_⟩
      walk_at "st"
      exact ⟨rfl, _, rfl⟩
  rintro σ M' ⟨rfl, v8', rfl⟩
  walk_at "st"
  refine ⟨_, list_ref hb, line_of (by rw [List.length_map]; omega), fun k ys σ M2 => M2 = M' ∧ (∃ w0, σ = [w0, some a, some b, some (.lst (rs.map encR)), some (.lst (rs.map encR)), v4, some (.tup [.ref x, .ref y]), some (.ref x), some (.ref y), v8', v9, v10, v11]) ∧ ys = List.replicate k (.bl true), ⟨rfl, ⟨_, rfl⟩, rfl⟩, fun _ _ _ _ z => by rw [z.1]; exact list_ref hb, ?_, ?_⟩
  · rintro k f ys σ M2 hf ⟨rfl, ⟨w0, rfl⟩, rfl⟩
    obtain ⟨n, hn, rfl⟩ := int_at hf
    have inn := good.inn n (List.mem_of_getElem? hn)
    walk_at "st"
    rw [if_pos (decide_eq_true inn.1)]
    walk_at "st"
    refine rd_len rfl ?_
    walk_at "st"
    refine ⟨rfl, ⟨_, rfl⟩, ?_⟩
    rw [decide_eq_true (by rw [List.length_map]; exact inn.2), List.replicate_succ']
  rintro ys σ M2 ⟨rfl, _, rfl⟩
  refine newF (line_of (by rw [List.length_replicate, List.length_map]; omega)) ?_
  refine rd_nil (rd_all (bs := List.replicate _ true) (by show some _ = some _; rw [repT]) ?_)
  rw [allT]
  refine ⟨_, by unfold truD; rfl, ?_⟩
  walk_at "st"
  refine ⟨fun i σ M' => M' = M2 ∧ ∃ v10 v11, σ = [some a, some b, some (.lst (rs.map encR)), some (.lst (rs.map encR)), v4, some (.tup [.ref x, .ref y]), some (.ref x), some (.ref y), v8', v9, v10, v11], ⟨rfl, _, _, rfl⟩, fun _ _ _ _ => rfl, ?_, ?_⟩
  · rintro i e σ M' he ⟨rfl, w10, w11, rfl⟩
    rw [List.getElem?_map] at he
    cases q : rs[i]? with
    | none => rw [q] at he; cases he
    | some z =>
      rw [q] at he; cases he
      have suit := good.suit z (List.mem_of_getElem? q)
      walk_at "st"
      refine ⟨_, list_ref ha, line_of (by rw [List.length_map]; omega), fun k ys σ M2 => M2 = M' ∧ (∃ w0, σ = [w0, some a, some b, some (.lst (rs.map encR)), some (.lst (rs.map encR)), v4, some (.tup [.ref x, .ref y]), some (.ref x), some (.ref y), v8', v9, some (.int z.1), some (.int z.2)]) ∧ ys = ((us.take k).map fun d => decide (z.1 ≤ d) && decide (d ≤ z.2)).map D.bl, ⟨rfl, ⟨_, rfl⟩, rfl⟩, fun _ _ _ _ z => by rw [z.1]; exact list_ref ha, ?_, ?_⟩
      · rintro k f ys σ M2 hf ⟨rfl, ⟨w0, rfl⟩, rfl⟩
        obtain ⟨n, hn, rfl⟩ := int_at hf
        have hz : ∀ c : Bool, c = (decide (z.1 ≤ n) && decide (n ≤ z.2)) → ((us.take k).map fun d => decide (z.1 ≤ d) && decide (d ≤ z.2)).map D.bl ++ [.bl c] = ((us.take (k + 1)).map fun d => decide (z.1 ≤ d) && decide (d ≤ z.2)).map D.bl := by
          intro c hc
          rw [List.take_add_one, hn, hc]
          simp
        walk_at "st"
        refine ite_d (fun z1 => ?_) (fun z1 => ?_)
        · walk_at "st"
          refine ⟨rfl, ⟨_, rfl⟩, hz _ ?_⟩
          rw [decide_eq_true z1, Bool.true_and]
        · refine ⟨rfl, ⟨_, rfl⟩, hz _ ?_⟩
          rw [decide_eq_false z1, Bool.false_and]
      · rintro ys σ M2 ⟨rfl, _, rfl⟩
        rw [List.length_map, List.take_length]
        refine newF (line_of (by rw [List.length_map, List.length_map]; omega)) ?_
        refine rd_nil (rd_any rfl ?_)
        rw [show (us.map fun d => decide (z.1 ≤ d) && decide (d ≤ z.2)).any id = true by
          obtain ⟨d, hd, h1, h2⟩ := suit
          rw [List.any_eq_true]
          exact ⟨true, List.mem_map.mpr ⟨d, hd, by rw [decide_eq_true h1, decide_eq_true h2]; rfl⟩, rfl⟩]
        refine ⟨_, by unfold truD; rfl, ?_⟩
        walk_at "st"
        exact ⟨rfl, _, _, rfl⟩
  rintro σ M' ⟨rfl, w10, w11, rfl⟩
  walk_at "st"
  refine ⟨_, list_ref hb, fun i σ M2 => M2 = M' ∧ ∃ v9, σ = [some a, some b, some (.lst (rs.map encR)), some (.lst (rs.map encR)), v4, some (.tup [.ref x, .ref y]), some (.ref x), some (.ref y), v8', v9, w10, w11], ⟨rfl, _, rfl⟩, fun _ _ _ z => by rw [z.1]; exact list_ref hb, ?_, ?_⟩
  · rintro i e σ M2 he ⟨rfl, w9, rfl⟩
    obtain ⟨s, hs, rfl⟩ := int_at he
    have ms := List.mem_of_getElem? hs
    have is := good.inn s ms
    walk_at "st"
    refine ⟨_, list_ref hb, line_of (by rw [List.length_map]; omega), fun k ys σ M3 => M3 = M2 ∧ (∃ w0, σ = [w0, some a, some b, some (.lst (rs.map encR)), some (.lst (rs.map encR)), v4, some (.tup [.ref x, .ref y]), some (.ref x), some (.ref y), v8', some (.int s), w10, w11]) ∧ ys = List.replicate k (.bl false), ⟨rfl, ⟨_, rfl⟩, rfl⟩, fun _ _ _ _ z => by rw [z.1]; exact list_ref hb, ?_, ?_⟩
    · rintro k f ys σ M3 hf ⟨rfl, ⟨w0, rfl⟩, rfl⟩
      obtain ⟨t, ht, rfl⟩ := int_at hf
      have mt := List.mem_of_getElem? ht
      have it := good.inn t mt
      walk_at "st"
      by_cases z : t = s
      · subst z
        rw [if_neg (by simp)]
        exact ⟨rfl, ⟨_, rfl⟩, by rw [List.replicate_succ']⟩
      · rw [if_pos (by simp [z])]
        walk_at "st"
        refine rd_ix rfl (atS is.1 is.2) ?_
        walk_at "st"
        refine rd_ix rfl (atS it.1 it.2) ?_
        walk_at "st"
        refine ⟨_, _, rfl, rfl, ⟨_, rfl⟩, ?_⟩
        rw [good.apart s ms t mt (fun q => z q.symm), List.replicate_succ']
        rfl
    · rintro ys σ M3 ⟨rfl, _, rfl⟩
      refine newF (line_of (by rw [List.length_replicate, List.length_map]; omega)) ?_
      refine rd_nil (rd_any (bs := List.replicate _ false) (by show some _ = some _; rw [repF]) ?_)
      rw [anyF]
      refine ⟨_, by unfold truD; rfl, ?_⟩
      walk_at "st"
      exact ⟨rfl, _, rfl⟩
  rintro σ M2 ⟨rfl, w9, rfl⟩
  walk_at "st"
  refine ⟨⟨_, ha⟩, ?_⟩
  walk_at "st"
  refine ⟨_, ha, Nat.lt_of_lt_of_le (by rw [List.length_map]; omega) (line_of (n := 100) (by decide)), ?_⟩
  walk_at "st"
  refine ⟨⟨_, by rw [updD_ne (Ne.symm hab)]; exact hb⟩, ?_⟩
  walk_at "st"
  refine ⟨_, by rw [updD_ne (Ne.symm hab)]; exact hb, Nat.lt_of_lt_of_le (by rw [List.length_map]; omega) (line_of (n := 100) (by decide)), ?_⟩
  exact hnx _ _ ⟨_, _, _, _, _, _, _, _, rfl⟩
end V15

namespace V15
open PySem PySem.Spec PyProof.Rows L2
local macro_rules | `(tactic| walk_at "st1") => `(tactic| first
  | refine rd_seq ?_
  | refine rd_asg ?_
  | refine rd_gname ?_
  | refine rd_op ?_
  | refine rd_c ?_
  | refine rd_var rfl ?_
  | refine rd_rN ?_
  | refine rd_rI (by first | exact .inl ⟨by decide, by decide⟩ | exact .inr ⟨by decide, by decide⟩ | exact ⟨by decide, by decide⟩ | (show (0 : Int) < _; first | decide | omega) | (constructor <;> omega)) ?_
  | refine rd_eqAI ?_
  | refine rd_app ?_
  | refine rd_ret ?_
  | refine rd_max2 ?_
  | refine rd_min2 ?_
  | refine rd_and ?_
  | refine rd_or ?_
  | refine rd_not ?_
  | refine rd_gtup rfl ?_
  | refine rd_gcons ?_
  | refine rd_gnil ?_
  | refine rd_comp ?_
  | refine rd_if0 ?_
  | refine rd_neg ?_
  | refine rd_tru ?_
  | refine rd_andV ?_
  | refine rd_notV ?_
  | refine rd_mx ?_
  | refine rd_cons ?_
  | refine rd_nil ?_
  | refine rd_tup ?_
  | refine rd_lst ?_
  | refine rd_test ?_
  | refine rd_ifS ?_
  | refine rd_call ?_
  | refine rd_next ?_
  | refine rd_drop ?_
  | refine rd_sl ?_
  | refine rd_nopart ?_
  | refine rd_part ?_
  | refine rd_iseq ?_
  | refine rd_for ?_
  | refine rd_forG ?_
  | refine rd_compG ?_
  | refine rd_iseqG ?_
  | refine rd_ienum ?_
  | refine rd_izip ?_
  | refine ⟨line_of (Nat.le_of_ble_eq_true rfl), ?_⟩
  | refine rd_gsub ?_
  | refine rd_irng1 ?_
  | refine rd_irng2 ?_
  | refine ⟨_, rfl, ?_⟩)
local macro_rules | `(tactic| walk_at "st") => `(tactic| repeat walk_at "st1")
theorem rd_law (ds : List D) (M : HpD) (Q : KD) (h : spLaw ds M Q) : t_law sp__law_box sp__law_ranges sp__law_count sp_settings sp__law_wholes sp__law_meet { nx := fun _ M' => Q .non M', rt := Q } (startD ["_law_script", "_law_box_here", "_law_ranges_here", "_law_handed", "_law_turn", "_law_found", "_law_damps", "_law_shown", "_law_row", "_law_at", "_law_low", "_law_high"] ds) M := by
  obtain ⟨ns, rfl, hl, rfl, h⟩ := h
  unfold t_law
  walk_at "st"
  refine ⟨hl, fun b M1 _ f1 => ?_⟩
  obtain ⟨o1, e1, b1⟩ := id f1.1
  walk_at "st"
  refine ⟨b, _, _, o1, rfl, by decide, by decide, by decide, by decide, e1, b1, fun n M2 n0 n1 f2 => ?_⟩
  obtain ⟨o2, e2, b2⟩ := id f2.1
  walk_at "st"
  refine ⟨b, n, o2, rfl, n0, by omega, e2, b2, fun rs M3 hrl hok f3 => ?_⟩
  walk_at "st"
  refine rd_list rfl (newF (line_of (by rw [List.length_map]; omega)) ?_)
  walk_at "st"
  refine ⟨by decide, by decide, fun i σ M' => ∃ v4 v5 v6 v7 v8 v9 v10 v11, σ = [some (.lst (ns.map D.int)), some (.ref b), some (.lst (rs.map encR)), some (.lst (rs.map encR)), v4, v5, v6, v7, v8, v9, v10, v11], ⟨_, _, _, _, _, _, _, _, rfl⟩, ?_, ?_⟩
  · rintro i d σ M' e ⟨v4, v5, v6, v7, v8, v9, v10, v11, rfl⟩
    walk_at "st"
    refine ⟨hrl, hok, fun x y M4 us vs good hab ha hb => ?_⟩
    walk_at "st"
    refine rd_isi rfl (by decide) ?_
    refine ⟨_, by unfold truD; rfl, ?_⟩
    rw [if_neg (by decide)]
    walk_at "st"
    refine rd_len rfl ?_
    walk_at "st"
    refine rd_eqA (okDs_encR rs) (by show depD (.lst (rs.map encR)) ≤ 60; unfold depD; have := depDs_encR rs; omega) ?_
    have e1 : eqD (viewD (.lst (rs.map encR)) M4) (viewD (.lst (rs.map encR)) M4) = true := by
      show eqD (.lst (rs.map encR)) (.lst (rs.map encR)) = true
      unfold eqD; exact eqDs_encR rs
    rw [e1]
    refine ⟨_, rfl, ?_⟩
    rw [if_neg (by decide)]
    refine rd_next (rd_seq (rd_asg (rd_var rfl (rd_gtup rfl (rd_gcons (rd_gname (rd_gcons (rd_gname (rd_gnil ?_)))))))))
    exact rd_rest16 (c := .non) (d := .non) hrl hok good hab ha hb fun _ _ z => z
  · rintro σ M' ⟨v4, v5, v6, v7, v8, v9, v10, v11, rfl⟩
    walk_at "st"
    exact .inl (h _)
end V15

namespace V15
open PySem PySem.Spec PyProof.Rows L2
def top (i : Nat) : Stmt := PySem.Challenge.pw_vitrine_k16_whole_fewest_settings.main.body.getD i (.Pass ⟨0, 0, 0, 0⟩)
abbrev s__law_box : Stmt := top 3
abbrev s__law_mixed : Stmt := top 5
abbrev s__law_take : Stmt := top 4
abbrev s__law_ranges : Stmt := top 9
abbrev s__law_count : Stmt := top 8
abbrev s_settings : Stmt := top 1
abbrev s__law_whole : Stmt := top 6
abbrev s__law_wholes : Stmt := top 7
abbrev s__law_meet : Stmt := top 10
abbrev s_law : Stmt := top 11
theorem sc__law_box : FnScope ["_law_script", "_law_seed", "_law_cell"] ["_law_script"] (defScope s__law_box) := ⟨rfl, rfl, rfl, by decide +kernel, rfl, by decide +kernel, by decide +kernel⟩
theorem sc__law_mixed : FnScope ["_law_number", "_law_turn", "_law_one", "_law_two"] ["_law_number", "_law_turn"] (defScope s__law_mixed) := ⟨rfl, rfl, rfl, by decide +kernel, rfl, by decide +kernel, by decide +kernel⟩
theorem sc__law_take : FnScope ["_law_box_here", "_law_size", "_law_left", "_law_cell"] ["_law_box_here", "_law_size"] (defScope s__law_take) := ⟨rfl, rfl, rfl, by decide +kernel, rfl, by decide +kernel, by decide +kernel⟩
theorem sc__law_ranges : FnScope ["_law_box_here", "_law_size", "_law_found", "_law_k", "_law_low", "_law_high", "_law_other"] ["_law_box_here", "_law_size"] (defScope s__law_ranges) := ⟨rfl, rfl, rfl, by decide +kernel, rfl, by decide +kernel, by decide +kernel⟩
theorem sc__law_count : FnScope ["_law_box_here", "_law_few", "_law_most"] ["_law_box_here", "_law_few", "_law_most"] (defScope s__law_count) := ⟨rfl, rfl, rfl, by decide +kernel, rfl, by decide +kernel, by decide +kernel⟩
theorem sc_settings : FnScope ["ranges", "at", "by_end", "dampnesses", "places", "high"] ["ranges"] (defScope s_settings) := ⟨rfl, rfl, rfl, by decide +kernel, rfl, by decide +kernel, by decide +kernel⟩
theorem chk_settings_0 : compChk ({ kind := .function, names := [((".0" : Str), NameKind.«local»), (("at" : Str), NameKind.«local»), (("pair" : Str), NameKind.«local»)], isGenerator := false, isCoroutine := false, more := [] } : Scope) (defScope s_settings) ["ranges", "at", "by_end", "dampnesses", "places", "high"] ["at", "pair"] ["ranges", ".at", "by_end", "dampnesses", "places", "high"] = true := by decide +kernel
theorem nd_settings_0 : ((["at", "pair"] : List Str) ++ (["ranges", ".at", "by_end", "dampnesses", "places", "high"] : List Str)).Nodup := by decide +kernel
theorem sc__law_whole : FnScope ["_law_found"] ["_law_found"] (defScope s__law_whole) := ⟨rfl, rfl, rfl, by decide +kernel, rfl, by decide +kernel, by decide +kernel⟩
theorem sc__law_wholes : FnScope ["_law_found"] ["_law_found"] (defScope s__law_wholes) := ⟨rfl, rfl, rfl, by decide +kernel, rfl, by decide +kernel, by decide +kernel⟩
theorem chk__law_wholes_0 : compChk ({ kind := .function, names := [((".0" : Str), NameKind.«local»), (("_law_one" : Str), NameKind.«local»), (("_law_whole" : Str), NameKind.globalImplicit)], isGenerator := false, isCoroutine := false, more := [] } : Scope) (defScope s__law_wholes) ["_law_found"] ["_law_one"] ["_law_found"] = true := by decide +kernel
theorem nd__law_wholes_0 : ((["_law_one"] : List Str) ++ (["_law_found"] : List Str)).Nodup := by decide +kernel
theorem sc__law_meet : FnScope ["_law_one", "_law_other"] ["_law_one", "_law_other"] (defScope s__law_meet) := ⟨rfl, rfl, rfl, by decide +kernel, rfl, by decide +kernel, by decide +kernel⟩
theorem sc_law : FnScope ["_law_script", "_law_box_here", "_law_ranges_here", "_law_handed", "_law_turn", "_law_found", "_law_damps", "_law_shown", "_law_row", "_law_at", "_law_low", "_law_high"] ["_law_script"] (defScope s_law) := ⟨rfl, rfl, rfl, by decide +kernel, rfl, by decide +kernel, by decide +kernel⟩
theorem chk_law_0 : compChk ({ kind := .function, names := [((".0" : Str), NameKind.«local»), (("_law_one" : Str), NameKind.«local»), (("_law_other" : Str), NameKind.«local»)], isGenerator := false, isCoroutine := false, more := [] } : Scope) (defScope s_law) ["_law_script", "_law_box_here", "_law_ranges_here", "_law_handed", "_law_turn", "_law_found", "_law_damps", "_law_shown", "_law_row", "_law_at", "_law_low", "_law_high"] ["_law_one", "_law_other"] ["_law_script", "_law_box_here", "_law_ranges_here", "_law_handed", "_law_turn", "_law_found", "_law_damps", "_law_shown", "_law_row", "_law_at", "_law_low", "_law_high"] = true := by decide +kernel
theorem nd_law_0 : ((["_law_one", "_law_other"] : List Str) ++ (["_law_script", "_law_box_here", "_law_ranges_here", "_law_handed", "_law_turn", "_law_found", "_law_damps", "_law_shown", "_law_row", "_law_at", "_law_low", "_law_high"] : List Str)).Nodup := by decide +kernel
theorem chk_law_2 : compChk ({ kind := .function, names := [((".0" : Str), NameKind.«local»), (("_law_at" : Str), NameKind.«local»), (("len" : Str), NameKind.globalImplicit), (("_law_ranges_here" : Str), NameKind.free)], isGenerator := false, isCoroutine := false, more := [] } : Scope) (defScope s_law) ["_law_script", "_law_box_here", "_law_ranges_here", "_law_handed", "_law_turn", "_law_found", "_law_damps", "_law_shown", "_law_row", "_law_at", "_law_low", "_law_high"] ["_law_at"] ["_law_script", "_law_box_here", "_law_ranges_here", "_law_handed", "_law_turn", "_law_found", "_law_damps", "_law_shown", "_law_row", "._law_at", "_law_low", "_law_high"] = true := by decide +kernel
theorem nd_law_2 : ((["_law_at"] : List Str) ++ (["_law_script", "_law_box_here", "_law_ranges_here", "_law_handed", "_law_turn", "_law_found", "_law_damps", "_law_shown", "_law_row", "._law_at", "_law_low", "_law_high"] : List Str)).Nodup := by decide +kernel
theorem chk_law_4 : compChk ({ kind := .function, names := [((".0" : Str), NameKind.«local»), (("_law_damp" : Str), NameKind.«local»), (("_law_high" : Str), NameKind.free), (("_law_low" : Str), NameKind.free)], isGenerator := false, isCoroutine := false, more := [] } : Scope) (defScope s_law) ["_law_script", "_law_box_here", "_law_ranges_here", "_law_handed", "_law_turn", "_law_found", "_law_damps", "_law_shown", "_law_row", "_law_at", "_law_low", "_law_high"] ["_law_damp"] ["_law_script", "_law_box_here", "_law_ranges_here", "_law_handed", "_law_turn", "_law_found", "_law_damps", "_law_shown", "_law_row", "_law_at", "_law_low", "_law_high"] = true := by decide +kernel
theorem nd_law_4 : ((["_law_damp"] : List Str) ++ (["_law_script", "_law_box_here", "_law_ranges_here", "_law_handed", "_law_turn", "_law_found", "_law_damps", "_law_shown", "_law_row", "_law_at", "_law_low", "_law_high"] : List Str)).Nodup := by decide +kernel
theorem chk_law_6 : compChk ({ kind := .function, names := [((".0" : Str), NameKind.«local»), (("_law_other" : Str), NameKind.«local»), (("_law_meet" : Str), NameKind.globalImplicit), (("_law_at" : Str), NameKind.free), (("_law_ranges_here" : Str), NameKind.free)], isGenerator := false, isCoroutine := false, more := [] } : Scope) (defScope s_law) ["_law_script", "_law_box_here", "_law_ranges_here", "_law_handed", "_law_turn", "_law_found", "_law_damps", "_law_shown", "_law_row", "_law_at", "_law_low", "_law_high"] ["_law_other"] ["_law_script", "_law_box_here", "_law_ranges_here", "_law_handed", "_law_turn", "_law_found", "_law_damps", "_law_shown", "_law_row", "_law_at", "_law_low", "_law_high"] = true := by decide +kernel
theorem nd_law_6 : ((["_law_other"] : List Str) ++ (["_law_script", "_law_box_here", "_law_ranges_here", "_law_handed", "_law_turn", "_law_found", "_law_damps", "_law_shown", "_law_row", "_law_at", "_law_low", "_law_high"] : List Str)).Nodup := by decide +kernel
theorem bt_all : bootBuiltins "all" = some (.builtin "all") := by decide +kernel
theorem bt_any : bootBuiltins "any" = some (.builtin "any") := by decide +kernel
theorem bt_bool : bootBuiltins "bool" = some (.type "bool") := by decide +kernel
theorem bt_int : bootBuiltins "int" = some (.type "int") := by decide +kernel
theorem bt_isinstance : bootBuiltins "isinstance" = some (.builtin "isinstance") := by decide +kernel
theorem bt_len : bootBuiltins "len" = some (.builtin "len") := by decide +kernel
theorem bt_list : bootBuiltins "list" = some (.type "list") := by decide +kernel
theorem bt_max : bootBuiltins "max" = some (.builtin "max") := by decide +kernel
theorem bt_min : bootBuiltins "min" = some (.builtin "min") := by decide +kernel
theorem bt_sorted : bootBuiltins "sorted" = some (.builtin "sorted") := by decide +kernel
theorem bt_tuple : bootBuiltins "tuple" = some (.type "tuple") := by decide +kernel
section
variable {P : Program} {w : World} {K : PySem.W.Frag} {mg : Str → Option Value} {base : Heap}
set_option maxHeartbeats 4000000 in
theorem ok__law_box {f : Addr} {fd : FuncData} {sp : SpD} (F : Fun K "_law_box" "_law_box" s__law_box f fd) (g_list : mg "list" = none) (len : ∀ ds M Q, sp ds M Q → ds.length = 1)
    (read : ∀ ds M Q, sp ds M Q → t__law_box { nx := fun _ M' => Q .non M', rt := Q } (startD ["_law_script", "_law_seed", "_law_cell"] ds) M) : FnOk P w K mg base CX0 1 f fd ["_law_script"] (LiftP K sp) :=
  F.okD (t := t__law_box) sc__law_box len (fun cdv A outer s H E hr => (ss_cons (sd_set 1 sc__law_box.nd rfl (Or.inl rfl) ed_int)
  (ss_cons (sd_for (id_list (ed_slice (ed_var 0 rfl (Or.inl rfl)) po_noneD (po_someD ed_int))) (gd_name 2 sc__law_box.nd rfl (Or.inl rfl)) (ss_one (sd_set 1 sc__law_box.nd rfl (Or.inl rfl) (ed_op od_mod (ed_op od_add (ed_op od_add (ed_op od_mul (ed_var 1 rfl (Or.inl rfl)) ed_int) (ed_var 2 rfl (Or.inl rfl))) ed_int) ed_int))))
  (ss_one (sd_ret (ed_lst (ad_cons (ed_callTy cd_list rfl g_list bt_list (ad_cons (ed_slice (ed_var 0 rfl (Or.inl rfl)) po_noneD (po_someD ed_int)) ad_nil)) (ad_cons ed_int (ad_cons ed_int (ad_cons ed_int (ad_cons (ed_var 1 rfl (Or.inl rfl)) ad_nil))))))))))) read
set_option maxHeartbeats 4000000 in
theorem ok__law_mixed {f : Addr} {fd : FuncData} {sp : SpD} (F : Fun K "_law_mixed" "_law_mixed" s__law_mixed f fd) (len : ∀ ds M Q, sp ds M Q → ds.length = 2)
    (read : ∀ ds M Q, sp ds M Q → t__law_mixed { nx := fun _ M' => Q .non M', rt := Q } (startD ["_law_number", "_law_turn", "_law_one", "_law_two"] ds) M) : FnOk P w K mg base CX0 1 f fd ["_law_number", "_law_turn"] (LiftP K sp) :=
  F.okD (t := t__law_mixed) sc__law_mixed len (fun cdv A outer s H E hr => (ss_cons (sd_set 2 sc__law_mixed.nd rfl (Or.inl rfl) (ed_op od_mod (ed_op od_add (ed_op od_add (ed_op od_mul (ed_var 0 rfl (Or.inl rfl)) ed_int) (ed_op od_mul (ed_var 1 rfl (Or.inl rfl)) ed_int)) ed_int) ed_int))
  (ss_cons (sd_set 3 sc__law_mixed.nd rfl (Or.inl rfl) (ed_op od_mod (ed_op od_add (ed_op od_add (ed_op od_mul (ed_var 2 rfl (Or.inl rfl)) (ed_op od_add (ed_op od_mod (ed_var 2 rfl (Or.inl rfl)) ed_int) ed_int)) (ed_op od_mul (ed_var 1 rfl (Or.inl rfl)) ed_int)) (ed_op od_mod (ed_var 0 rfl (Or.inl rfl)) ed_int)) ed_int))
  (ss_one (sd_ret (ed_op od_fdiv (ed_var 3 rfl (Or.inl rfl)) ed_int)))))) read
set_option maxHeartbeats 4000000 in
theorem ok__law_take {f : Addr} {fd : FuncData} {sp__law_mixed : SpD} {sp : SpD} (F : Fun K "_law_take" "_law_take" s__law_take f fd) (h__law_mixed : Cal P w K mg base "_law_mixed" 1 sp__law_mixed) (g_len : mg "len" = none) (len : ∀ ds M Q, sp ds M Q → ds.length = 2)
    (read : ∀ ds M Q, sp ds M Q → t__law_take sp__law_mixed { nx := fun _ M' => Q .non M', rt := Q } (startD ["_law_box_here", "_law_size", "_law_left", "_law_cell"] ds) M) : FnOk P w K mg base CX0 2 f fd ["_law_box_here", "_law_size"] (LiftP K sp) :=
  F.okD (t := t__law_take sp__law_mixed) sc__law_take len (fun cdv A outer s H E hr => (ss_cons (sd_asg (ed_op od_add (ed_ix (ed_var 0 rfl (Or.inl rfl)) ed_int) ed_int) (gd_sub (ed_var 0 rfl (Or.inl rfl)) ed_int))
  (ss_cons (sd_if (td_cmp od_gt (ed_ix (ed_var 0 rfl (Or.inl rfl)) ed_int) ed_int) (ss_cons (sd_set 2 sc__law_take.nd rfl (Or.inl rfl) (ed_ix (ed_var 0 rfl (Or.inl rfl)) ed_int))
  (ss_cons (sd_asg (ed_op od_fdiv (ed_var 2 rfl (Or.inl rfl)) (ed_var 1 rfl (Or.inl rfl))) (gd_sub (ed_var 0 rfl (Or.inl rfl)) ed_int))
  (ss_one (sd_ret (ed_op od_mod (ed_var 2 rfl (Or.inl rfl)) (ed_var 1 rfl (Or.inl rfl))))))) ss_nil)
  (ss_cons (sd_if (td_cmp od_ge (ed_ix (ed_var 0 rfl (Or.inl rfl)) ed_int) (ed_callB cd_len rfl g_len bt_len (ad_cons (ed_ix (ed_var 0 rfl (Or.inl rfl)) ed_int) ad_nil))) (ss_one (sd_ret (ed_op od_mod (ed_call h__law_mixed (hr.mono (by decide)) rfl (ad_cons (ed_ix (ed_var 0 rfl (Or.inl rfl)) ed_int) (ad_cons (ed_ix (ed_var 0 rfl (Or.inl rfl)) ed_int) ad_nil))) (ed_var 1 rfl (Or.inl rfl))))) ss_nil)
  (ss_cons (sd_set 3 sc__law_take.nd rfl (Or.inl rfl) (ed_ix (ed_ix (ed_var 0 rfl (Or.inl rfl)) ed_int) (ed_ix (ed_var 0 rfl (Or.inl rfl)) ed_int)))
  (ss_cons (sd_asg (ed_op od_add (ed_ix (ed_var 0 rfl (Or.inl rfl)) ed_int) ed_int) (gd_sub (ed_var 0 rfl (Or.inl rfl)) ed_int))
  (ss_cons (sd_if (td_cmp od_lt (ed_var 3 rfl (Or.inl rfl)) (ed_op od_pow ed_int ed_int)) (ss_one (sd_ret (ed_op od_mod (ed_call h__law_mixed (hr.mono (by decide)) rfl (ad_cons (ed_var 3 rfl (Or.inl rfl)) (ad_cons (ed_ix (ed_var 0 rfl (Or.inl rfl)) ed_int) ad_nil))) (ed_var 1 rfl (Or.inl rfl))))) ss_nil)
  (ss_cons (sd_asg (ed_op od_fdiv (ed_var 3 rfl (Or.inl rfl)) (ed_var 1 rfl (Or.inl rfl))) (gd_sub (ed_var 0 rfl (Or.inl rfl)) ed_int))
  (ss_one (sd_ret (ed_op od_mod (ed_var 3 rfl (Or.inl rfl)) (ed_var 1 rfl (Or.inl rfl))))))))))))) read
set_option maxHeartbeats 4000000 in
theorem ok__law_ranges {f : Addr} {fd : FuncData} {sp__law_take : SpD} {sp : SpD} (F : Fun K "_law_ranges" "_law_ranges" s__law_ranges f fd) (h__law_take : Cal P w K mg base "_law_take" 2 sp__law_take) (g_len : mg "len" = none) (g_max : mg "max" = none) (g_min : mg "min" = none) (g_range : mg "range" = none) (len : ∀ ds M Q, sp ds M Q → ds.length = 2)
    (read : ∀ ds M Q, sp ds M Q → t__law_ranges sp__law_take { nx := fun _ M' => Q .non M', rt := Q } (startD ["_law_box_here", "_law_size", "_law_found", "_law_k", "_law_low", "_law_high", "_law_other"] ds) M) : FnOk P w K mg base CX0 3 f fd ["_law_box_here", "_law_size"] (LiftP K sp) :=
  F.okD (t := t__law_ranges sp__law_take) sc__law_ranges len (fun cdv A outer s H E hr => (ss_cons (sd_set 2 sc__law_ranges.nd rfl (Or.inl rfl) (ed_lst ad_nil))
  (ss_cons (sd_for (id_rng1 rfl g_range (ad_cons (ed_var 1 rfl (Or.inl rfl)) ad_nil)) (gd_name 3 sc__law_ranges.nd rfl (Or.inl rfl)) (ss_cons (sd_set 4 sc__law_ranges.nd rfl (Or.inl rfl) (ed_call h__law_take (hr.mono (by decide)) rfl (ad_cons (ed_var 0 rfl (Or.inl rfl)) (ad_cons ed_int ad_nil))))
  (ss_cons (sd_set 5 sc__law_ranges.nd rfl (Or.inl rfl) (ed_callB cd_min2 rfl g_min bt_min (ad_cons ed_int (ad_cons (ed_op od_add (ed_var 4 rfl (Or.inl rfl)) (ed_ix (ed_lst (ad_cons ed_int (ad_cons (ed_call h__law_take (hr.mono (by decide)) rfl (ad_cons (ed_var 0 rfl (Or.inl rfl)) (ad_cons ed_int ad_nil))) (ad_cons (ed_call h__law_take (hr.mono (by decide)) rfl (ad_cons (ed_var 0 rfl (Or.inl rfl)) (ad_cons ed_int ad_nil))) ad_nil)))) (ed_call h__law_take (hr.mono (by decide)) rfl (ad_cons (ed_var 0 rfl (Or.inl rfl)) (ad_cons ed_int ad_nil))))) ad_nil))))
  (ss_cons (sd_if (td_cmp (od_eqA hr) (ed_call h__law_take (hr.mono (by decide)) rfl (ad_cons (ed_var 0 rfl (Or.inl rfl)) (ad_cons ed_int ad_nil))) ed_int) (ss_one (sd_set 5 sc__law_ranges.nd rfl (Or.inl rfl) ed_int)) ss_nil)
  (ss_cons (sd_if (td_w (wd_and (td_cmp od_gt (ed_callB cd_len rfl g_len bt_len (ad_cons (ed_var 2 rfl (Or.inl rfl)) ad_nil)) ed_int) (wd_and1 (td_cmp (od_eqA hr) (ed_call h__law_take (hr.mono (by decide)) rfl (ad_cons (ed_var 0 rfl (Or.inl rfl)) (ad_cons ed_int ad_nil))) ed_int)))) (ss_cons (sd_set 6 sc__law_ranges.nd rfl (Or.inl rfl) (ed_ix (ed_var 2 rfl (Or.inl rfl)) (ed_call h__law_take (hr.mono (by decide)) rfl (ad_cons (ed_var 0 rfl (Or.inl rfl)) (ad_cons (ed_callB cd_len rfl g_len bt_len (ad_cons (ed_var 2 rfl (Or.inl rfl)) ad_nil)) ad_nil)))))
  (ss_cons (sd_set 4 sc__law_ranges.nd rfl (Or.inl rfl) (ed_callB cd_min2 rfl g_min bt_min (ad_cons ed_int (ad_cons (ed_op od_add (ed_ix (ed_var 6 rfl (Or.inl rfl)) ed_int) (ed_call h__law_take (hr.mono (by decide)) rfl (ad_cons (ed_var 0 rfl (Or.inl rfl)) (ad_cons ed_int ad_nil)))) ad_nil))))
  (ss_one (sd_set 5 sc__law_ranges.nd rfl (Or.inl rfl) (ed_callB cd_max2 rfl g_max bt_max (ad_cons (ed_var 4 rfl (Or.inl rfl)) (ad_cons (ed_var 5 rfl (Or.inl rfl)) ad_nil))))))) ss_nil)
  (ss_one (sd_expr (ed_app (ed_var 2 rfl (Or.inl rfl)) (ed_tup (ad_cons (ed_var 4 rfl (Or.inl rfl)) (ad_cons (ed_var 5 rfl (Or.inl rfl)) ad_nil)))))))))))
  (ss_one (sd_ret (ed_var 2 rfl (Or.inl rfl))))))) read
set_option maxHeartbeats 4000000 in
theorem ok__law_count {f : Addr} {fd : FuncData} {sp__law_take : SpD} {sp : SpD} (F : Fun K "_law_count" "_law_count" s__law_count f fd) (h__law_take : Cal P w K mg base "_law_take" 2 sp__law_take) (len : ∀ ds M Q, sp ds M Q → ds.length = 3)
    (read : ∀ ds M Q, sp ds M Q → t__law_count sp__law_take { nx := fun _ M' => Q .non M', rt := Q } (startD ["_law_box_here", "_law_few", "_law_most"] ds) M) : FnOk P w K mg base CX0 3 f fd ["_law_box_here", "_law_few", "_law_most"] (LiftP K sp) :=
  F.okD (t := t__law_count sp__law_take) sc__law_count len (fun cdv A outer s H E hr => (ss_cons (sd_if (td_cmp (od_eqA hr) (ed_call h__law_take (hr.mono (by decide)) rfl (ad_cons (ed_var 0 rfl (Or.inl rfl)) (ad_cons ed_int ad_nil))) ed_int) (ss_one (sd_ret (ed_call h__law_take (hr.mono (by decide)) rfl (ad_cons (ed_var 0 rfl (Or.inl rfl)) (ad_cons (ed_op od_add (ed_var 2 rfl (Or.inl rfl)) ed_int) ad_nil))))) ss_nil)
  (ss_one (sd_ret (ed_call h__law_take (hr.mono (by decide)) rfl (ad_cons (ed_var 0 rfl (Or.inl rfl)) (ad_cons (ed_op od_add (ed_var 1 rfl (Or.inl rfl)) ed_int) ad_nil))))))) read
set_option maxHeartbeats 4000000 in
theorem ok_settings {f : Addr} {fd : FuncData} {sp : SpD} (F : Fun K "settings" "settings" s_settings f fd) (g_enumerate : mg "enumerate" = none) (g_sorted : mg "sorted" = none) (len : ∀ ds M Q, sp ds M Q → ds.length = 1)
    (read : ∀ ds M Q, sp ds M Q → t_settings { nx := fun _ M' => Q .non M', rt := Q } (startD ["ranges", "at", "by_end", "dampnesses", "places", "high"] ds) M) : FnOk P w K mg base CX0 1 f fd ["ranges"] (LiftP K sp) :=
  F.okD (t := t_settings) sc_settings len (fun cdv A outer s H E hr => (ss_cons (sd_set 2 sc_settings.nd rfl (Or.inl rfl) (ed_callB (cd_sorted hr) rfl g_sorted bt_sorted (ad_cons (ed_compG (ts := ["at", "pair"]) (rest := ["ranges", ".at", "by_end", "dampnesses", "places", "high"]) (compChk_ok (out := (defScope s_settings)) (N := ["ranges", "at", "by_end", "dampnesses", "places", "high"]) chk_settings_0) (id_enum rfl g_enumerate (ad_cons (ed_var 0 rfl (Or.inl rfl)) ad_nil)) (fun _ _ _ => (gd_tup (gd_cons (gd_name 0 nd_settings_0 rfl (Or.inl rfl)) (gd_cons (gd_name 1 nd_settings_0 rfl (Or.inl rfl)) gd_nil)))) (fun _ _ _ => fd_nil) (fun _ _ _ => (ed_tup (ad_cons (ed_ix (ed_var 1 rfl (Or.inl rfl)) ed_int) (ad_cons (ed_var 0 rfl (Or.inl rfl)) ad_nil))))) ad_nil)))
  (ss_cons (sd_set 3 sc_settings.nd rfl (Or.inl rfl) (ed_lst ad_nil))
  (ss_cons (sd_set 4 sc_settings.nd rfl (Or.inl rfl) (ed_lst ad_nil))
  (ss_cons (sd_forG (id_listG (ed_var 2 rfl (Or.inl rfl))) (gd_tup (gd_cons (gd_name 5 sc_settings.nd rfl (Or.inl rfl)) (gd_cons (gd_name 1 sc_settings.nd rfl (Or.inl rfl)) gd_nil))) (ss_one (sd_if (td_w (wd_or (td_not (td_tru (ed_var 3 rfl (Or.inl rfl)))) (wd_or1 (td_cmp od_gt (ed_ix (ed_ix (ed_var 0 rfl (Or.inl rfl)) (ed_var 1 rfl (Or.inl rfl))) ed_int) (ed_ix (ed_var 3 rfl (Or.inl rfl)) (ed_neg ed_int)))))) (ss_cons (sd_expr (ed_app (ed_var 3 rfl (Or.inl rfl)) (ed_var 5 rfl (Or.inl rfl))))
  (ss_one (sd_expr (ed_app (ed_var 4 rfl (Or.inl rfl)) (ed_var 1 rfl (Or.inl rfl)))))) ss_nil)))
  (ss_one (sd_ret (ed_tup (ad_cons (ed_var 3 rfl (Or.inl rfl)) (ad_cons (ed_callB (cd_sorted hr) rfl g_sorted bt_sorted (ad_cons (ed_var 4 rfl (Or.inl rfl)) ad_nil)) ad_nil)))))))))) read
set_option maxHeartbeats 4000000 in
theorem ok__law_whole {f : Addr} {fd : FuncData} {sp : SpD} (F : Fun K "_law_whole" "_law_whole" s__law_whole f fd) (g_bool : mg "bool" = none) (g_int : mg "int" = none) (g_isinstance : mg "isinstance" = none) (len : ∀ ds M Q, sp ds M Q → ds.length = 1)
    (read : ∀ ds M Q, sp ds M Q → t__law_whole { nx := fun _ M' => Q .non M', rt := Q } (startD ["_law_found"] ds) M) : FnOk P w K mg base CX0 1 f fd ["_law_found"] (LiftP K sp) :=
  F.okD (t := t__law_whole) sc__law_whole len (fun cdv A outer s H E hr => (ss_one (sd_ret (ed_and (ed_callB cd_isi rfl g_isinstance bt_isinstance (ad_cons (ed_var 0 rfl (Or.inl rfl)) (ad_cons (ed_bltT rfl g_int bt_int) ad_nil))) (ed_one (ed_not (ed_callB cd_isi rfl g_isinstance bt_isinstance (ad_cons (ed_var 0 rfl (Or.inl rfl)) (ad_cons (ed_bltT rfl g_bool bt_bool) ad_nil))))))))) read
set_option maxHeartbeats 4000000 in
theorem ok__law_wholes {f : Addr} {fd : FuncData} {sp__law_whole : SpD} {sp : SpD} (F : Fun K "_law_wholes" "_law_wholes" s__law_wholes f fd) (h__law_whole : Cal P w K mg base "_law_whole" 1 sp__law_whole) (g_all : mg "all" = none) (g_isinstance : mg "isinstance" = none) (g_list : mg "list" = none) (len : ∀ ds M Q, sp ds M Q → ds.length = 1)
    (read : ∀ ds M Q, sp ds M Q → t__law_wholes sp__law_whole { nx := fun _ M' => Q .non M', rt := Q } (startD ["_law_found"] ds) M) : FnOk P w K mg base CX0 2 f fd ["_law_found"] (LiftP K sp) :=
  F.okD (t := t__law_wholes sp__law_whole) sc__law_wholes len (fun cdv A outer s H E hr => (ss_one (sd_ret (ed_and (ed_callB cd_isi rfl g_isinstance bt_isinstance (ad_cons (ed_var 0 rfl (Or.inl rfl)) (ad_cons (ed_bltT rfl g_list bt_list) ad_nil))) (ed_one (ed_callB cd_all rfl g_all bt_all (ad_cons (ed_compG (ts := ["_law_one"]) (rest := ["_law_found"]) (compChk_ok (out := (defScope s__law_wholes)) (N := ["_law_found"]) chk__law_wholes_0) (id_listG (ed_var 0 rfl (Or.inl rfl))) (fun _ _ _ => (gd_name 0 nd__law_wholes_0 rfl (Or.inl rfl))) (fun _ _ _ => fd_nil) (fun _ _ _ => (ed_call h__law_whole (hr.mono (by decide)) rfl (ad_cons (ed_var 0 rfl (Or.inl rfl)) ad_nil)))) ad_nil))))))) read
set_option maxHeartbeats 4000000 in
theorem ok__law_meet {f : Addr} {fd : FuncData} {sp : SpD} (F : Fun K "_law_meet" "_law_meet" s__law_meet f fd) (g_max : mg "max" = none) (g_min : mg "min" = none) (len : ∀ ds M Q, sp ds M Q → ds.length = 2)
    (read : ∀ ds M Q, sp ds M Q → t__law_meet { nx := fun _ M' => Q .non M', rt := Q } (startD ["_law_one", "_law_other"] ds) M) : FnOk P w K mg base CX0 1 f fd ["_law_one", "_law_other"] (LiftP K sp) :=
  F.okD (t := t__law_meet) sc__law_meet len (fun cdv A outer s H E hr => (ss_one (sd_ret (ed_cmp od_le (ed_callB cd_max2 rfl g_max bt_max (ad_cons (ed_ix (ed_var 0 rfl (Or.inl rfl)) ed_int) (ad_cons (ed_ix (ed_var 1 rfl (Or.inl rfl)) ed_int) ad_nil))) (ed_callB cd_min2 rfl g_min bt_min (ad_cons (ed_ix (ed_var 0 rfl (Or.inl rfl)) ed_int) (ad_cons (ed_ix (ed_var 1 rfl (Or.inl rfl)) ed_int) ad_nil))))))) read
set_option maxHeartbeats 4000000 in
theorem ok_law {f : Addr} {fd : FuncData} {sp__law_box : SpD} {sp__law_ranges : SpD} {sp__law_count : SpD} {sp_settings : SpD} {sp__law_wholes : SpD} {sp__law_meet : SpD} {sp : SpD} (F : Fun K "law" "law" s_law f fd) (h__law_box : Cal P w K mg base "_law_box" 1 sp__law_box) (h__law_ranges : Cal P w K mg base "_law_ranges" 3 sp__law_ranges) (h__law_count : Cal P w K mg base "_law_count" 3 sp__law_count) (h_settings : Cal P w K mg base "settings" 1 sp_settings) (h__law_wholes : Cal P w K mg base "_law_wholes" 2 sp__law_wholes) (h__law_meet : Cal P w K mg base "_law_meet" 1 sp__law_meet) (g_all : mg "all" = none) (g_any : mg "any" = none) (g_isinstance : mg "isinstance" = none) (g_len : mg "len" = none) (g_list : mg "list" = none) (g_range : mg "range" = none) (g_tuple : mg "tuple" = none) (g_zip : mg "zip" = none) (len : ∀ ds M Q, sp ds M Q → ds.length = 1)
    (read : ∀ ds M Q, sp ds M Q → t_law sp__law_box sp__law_ranges sp__law_count sp_settings sp__law_wholes sp__law_meet { nx := fun _ M' => Q .non M', rt := Q } (startD ["_law_script", "_law_box_here", "_law_ranges_here", "_law_handed", "_law_turn", "_law_found", "_law_damps", "_law_shown", "_law_row", "_law_at", "_law_low", "_law_high"] ds) M) : FnOk P w K mg base CX0 4 f fd ["_law_script"] (LiftP K sp) :=
  F.okD (t := t_law sp__law_box sp__law_ranges sp__law_count sp_settings sp__law_wholes sp__law_meet) sc_law len (fun cdv A outer s H E hr => (ss_cons (sd_set 1 sc_law.nd rfl (Or.inl rfl) (ed_call h__law_box (hr.mono (by decide)) rfl (ad_cons (ed_var 0 rfl (Or.inl rfl)) ad_nil)))
  (ss_cons (sd_set 2 sc_law.nd rfl (Or.inr rfl) (ed_call h__law_ranges (hr.mono (by decide)) rfl (ad_cons (ed_var 1 rfl (Or.inl rfl)) (ad_cons (ed_call h__law_count (hr.mono (by decide)) rfl (ad_cons (ed_var 1 rfl (Or.inl rfl)) (ad_cons ed_int (ad_cons ed_int ad_nil)))) ad_nil))))
  (ss_cons (sd_set 3 sc_law.nd rfl (Or.inl rfl) (ed_callTy cd_list rfl g_list bt_list (ad_cons (ed_var 2 rfl (Or.inr (Or.inl rfl))) ad_nil)))
  (ss_cons (sd_for (id_rng1 rfl g_range (ad_cons ed_int ad_nil)) (gd_name 4 sc_law.nd rfl (Or.inl rfl)) (ss_cons (sd_set 5 sc_law.nd rfl (Or.inl rfl) (ed_call h_settings (hr.mono (by decide)) rfl (ad_cons (ed_var 3 rfl (Or.inl rfl)) ad_nil)))
  (ss_cons (sd_if (td_w (wd_or (td_not (td_tru (ed_callB cd_isi rfl g_isinstance bt_isinstance (ad_cons (ed_var 5 rfl (Or.inl rfl)) (ad_cons (ed_bltT rfl g_tuple bt_tuple) ad_nil))))) (wd_or (td_cmp (od_neA hr) (ed_callB cd_len rfl g_len bt_len (ad_cons (ed_var 5 rfl (Or.inl rfl)) ad_nil)) ed_int) (wd_or1 (td_cmp (od_neA hr) (ed_var 3 rfl (Or.inl rfl)) (ed_var 2 rfl (Or.inr (Or.inl rfl)))))))) (ss_one (sd_ret ed_bl)) ss_nil)
  (ss_cons (sd_asg (ed_var 5 rfl (Or.inl rfl)) (gd_tup (gd_cons (gd_name 6 sc_law.nd rfl (Or.inl rfl)) (gd_cons (gd_name 7 sc_law.nd rfl (Or.inl rfl)) gd_nil))))
  (ss_cons (sd_if (td_w (wd_or (td_not (td_tru (ed_call h__law_wholes (hr.mono (by decide)) rfl (ad_cons (ed_var 6 rfl (Or.inl rfl)) ad_nil)))) (wd_or (td_not (td_tru (ed_call h__law_wholes (hr.mono (by decide)) rfl (ad_cons (ed_var 7 rfl (Or.inl rfl)) ad_nil)))) (wd_or1 (td_cmp (od_neA hr) (ed_callB cd_len rfl g_len bt_len (ad_cons (ed_var 6 rfl (Or.inl rfl)) ad_nil)) (ed_callB cd_len rfl g_len bt_len (ad_cons (ed_var 7 rfl (Or.inl rfl)) ad_nil))))))) (ss_one (sd_ret ed_bl)) ss_nil)
  (ss_cons (sd_forG (id_listG (ed_lst (ad_cons (ed_var 6 rfl (Or.inl rfl)) (ad_cons (ed_var 7 rfl (Or.inl rfl)) ad_nil)))) (gd_name 8 sc_law.nd rfl (Or.inl rfl)) (ss_one (sd_if (td_not (td_tru (ed_callB cd_all rfl g_all bt_all (ad_cons (ed_compG (ts := ["_law_one", "_law_other"]) (rest := ["_law_script", "_law_box_here", "_law_ranges_here", "_law_handed", "_law_turn", "_law_found", "_law_damps", "_law_shown", "_law_row", "_law_at", "_law_low", "_law_high"]) (compChk_ok (out := (defScope s_law)) (N := ["_law_script", "_law_box_here", "_law_ranges_here", "_law_handed", "_law_turn", "_law_found", "_law_damps", "_law_shown", "_law_row", "_law_at", "_law_low", "_law_high"]) chk_law_0) (id_zip rfl g_zip (ad_cons (ed_var 8 rfl (Or.inl rfl)) (ad_cons (ed_slice (ed_var 8 rfl (Or.inl rfl)) (po_someD ed_int) po_noneD) ad_nil))) (fun _ _ _ => (gd_tup (gd_cons (gd_name 0 nd_law_0 rfl (Or.inl rfl)) (gd_cons (gd_name 1 nd_law_0 rfl (Or.inl rfl)) gd_nil)))) (fun _ _ _ => fd_nil) (fun _ _ _ => (ed_cmp od_lt (ed_var 0 rfl (Or.inl rfl)) (ed_var 1 rfl (Or.inl rfl))))) ad_nil)))) (ss_one (sd_ret ed_bl)) ss_nil)))
  (ss_cons (sd_if (td_not (td_tru (ed_callB cd_all rfl g_all bt_all (ad_cons (ed_compG (ts := ["_law_at"]) (rest := ["_law_script", "_law_box_here", "_law_ranges_here", "_law_handed", "_law_turn", "_law_found", "_law_damps", "_law_shown", "_law_row", "._law_at", "_law_low", "_law_high"]) (compChk_ok (out := (defScope s_law)) (N := ["_law_script", "_law_box_here", "_law_ranges_here", "_law_handed", "_law_turn", "_law_found", "_law_damps", "_law_shown", "_law_row", "_law_at", "_law_low", "_law_high"]) chk_law_2) (id_listG (ed_var 7 rfl (Or.inl rfl))) (fun _ _ _ => (gd_name 0 nd_law_2 rfl (Or.inl rfl))) (fun _ _ _ => fd_nil) (fun _ _ _ => (ed_and (ed_cmp od_le ed_int (ed_var 0 rfl (Or.inl rfl))) (ed_one (ed_cmp od_lt (ed_var 0 rfl (Or.inl rfl)) (ed_callB cd_len rfl g_len bt_len (ad_cons (ed_var 3 rfl (Or.inr (Or.inl rfl))) ad_nil))))))) ad_nil)))) (ss_one (sd_ret ed_bl)) ss_nil)
  (ss_cons (sd_forG (id_listG (ed_var 2 rfl (Or.inr (Or.inl rfl)))) (gd_tup (gd_cons (gd_name 10 sc_law.nd rfl (Or.inr rfl)) (gd_cons (gd_name 11 sc_law.nd rfl (Or.inr rfl)) gd_nil))) (ss_one (sd_if (td_not (td_tru (ed_callB cd_any rfl g_any bt_any (ad_cons (ed_compG (ts := ["_law_damp"]) (rest := ["_law_script", "_law_box_here", "_law_ranges_here", "_law_handed", "_law_turn", "_law_found", "_law_damps", "_law_shown", "_law_row", "_law_at", "_law_low", "_law_high"]) (compChk_ok (out := (defScope s_law)) (N := ["_law_script", "_law_box_here", "_law_ranges_here", "_law_handed", "_law_turn", "_law_found", "_law_damps", "_law_shown", "_law_row", "_law_at", "_law_low", "_law_high"]) chk_law_4) (id_listG (ed_var 6 rfl (Or.inl rfl))) (fun _ _ _ => (gd_name 0 nd_law_4 rfl (Or.inl rfl))) (fun _ _ _ => fd_nil) (fun _ _ _ => (ed_and (ed_cmp od_le (ed_var 11 rfl (Or.inr (Or.inl rfl))) (ed_var 0 rfl (Or.inl rfl))) (ed_one (ed_cmp od_le (ed_var 0 rfl (Or.inl rfl)) (ed_var 12 rfl (Or.inr (Or.inl rfl)))))))) ad_nil)))) (ss_one (sd_ret ed_bl)) ss_nil)))
  (ss_cons (sd_forG (id_listG (ed_var 7 rfl (Or.inl rfl))) (gd_name 9 sc_law.nd rfl (Or.inr rfl)) (ss_one (sd_if (td_tru (ed_callB cd_any rfl g_any bt_any (ad_cons (ed_compG (ts := ["_law_other"]) (rest := ["_law_script", "_law_box_here", "_law_ranges_here", "_law_handed", "_law_turn", "_law_found", "_law_damps", "_law_shown", "_law_row", "_law_at", "_law_low", "_law_high"]) (compChk_ok (out := (defScope s_law)) (N := ["_law_script", "_law_box_here", "_law_ranges_here", "_law_handed", "_law_turn", "_law_found", "_law_damps", "_law_shown", "_law_row", "_law_at", "_law_low", "_law_high"]) chk_law_6) (id_listG (ed_var 7 rfl (Or.inl rfl))) (fun _ _ _ => (gd_name 0 nd_law_6 rfl (Or.inl rfl))) (fun _ _ _ => fd_nil) (fun _ _ _ => (ed_and (ed_cmp (od_neA hr) (ed_var 0 rfl (Or.inl rfl)) (ed_var 10 rfl (Or.inr (Or.inl rfl)))) (ed_one (ed_call h__law_meet (hr.mono (by decide)) rfl (ad_cons (ed_ix (ed_var 3 rfl (Or.inr (Or.inl rfl))) (ed_var 10 rfl (Or.inr (Or.inl rfl)))) (ad_cons (ed_ix (ed_var 3 rfl (Or.inr (Or.inl rfl))) (ed_var 0 rfl (Or.inl rfl))) ad_nil))))))) ad_nil))) (ss_one (sd_ret ed_bl)) ss_nil)))
  (ss_cons (sd_expr (ed_app (ed_var 6 rfl (Or.inl rfl)) ed_int))
  (ss_one (sd_expr (ed_app (ed_var 7 rfl (Or.inl rfl)) ed_int)))))))))))))
  (ss_one (sd_ret ed_bl))))))) read
end
theorem len__law_mixed (ds : List D) (M : HpD) (Q : KD) (h : sp__law_mixed ds M Q) : ds.length = 2 := by obtain ⟨_, _, rfl, _⟩ := h; rfl
theorem len__law_box (ds : List D) (M : HpD) (Q : KD) (h : sp__law_box ds M Q) : ds.length = 1 := by obtain ⟨_, rfl, _⟩ := h; rfl
theorem len__law_take (ds : List D) (M : HpD) (Q : KD) (h : sp__law_take ds M Q) : ds.length = 2 := by obtain ⟨_, _, _, rfl, _⟩ := h; rfl
theorem len__law_count (ds : List D) (M : HpD) (Q : KD) (h : sp__law_count ds M Q) : ds.length = 3 := by obtain ⟨_, _, _, _, rfl, _⟩ := h; rfl
theorem len__law_ranges (ds : List D) (M : HpD) (Q : KD) (h : sp__law_ranges ds M Q) : ds.length = 2 := by obtain ⟨_, _, _, rfl, _⟩ := h; rfl
theorem len__law_meet (ds : List D) (M : HpD) (Q : KD) (h : sp__law_meet ds M Q) : ds.length = 2 := by obtain ⟨_, _, rfl, _⟩ := h; rfl
theorem len__law_whole (ds : List D) (M : HpD) (Q : KD) (h : sp__law_whole ds M Q) : ds.length = 1 := by obtain ⟨_, rfl, _⟩ := h; rfl
theorem len__law_wholes (ds : List D) (M : HpD) (Q : KD) (h : sp__law_wholes ds M Q) : ds.length = 1 := by obtain ⟨_, _, rfl, _⟩ := h; rfl
theorem len_settings (ds : List D) (M : HpD) (Q : KD) (h : sp_settings ds M Q) : ds.length = 1 := by obtain ⟨_, rfl, _⟩ := h; rfl
theorem len_law (ds : List D) (M : HpD) (Q : KD) (h : spLaw ds M Q) : ds.length = 1 := by obtain ⟨_, rfl, _⟩ := h; rfl
theorem all_mk {l : PySem.W.OpenLaw} {w : World} {K : PySem.W.Frag} {h : Heap} {mg : Str → Option Value} {fa f__law_box f__law_mixed f__law_take f__law_ranges f__law_count f_settings f__law_whole f__law_wholes f__law_meet f_law : Addr} (X : K.In h) (G : h.Ns mainGlobals mg) (hfa : mg "law" = some (.ref fa))
    {od__law_box an__law_box : Option Addr} {sl__law_box : Array (Option Value)} {oc__law_box kV__law_box dc__law_box pm__law_box cd__law_box ct__law_box : Value}
    {od__law_mixed an__law_mixed : Option Addr} {sl__law_mixed : Array (Option Value)} {oc__law_mixed kV__law_mixed dc__law_mixed pm__law_mixed cd__law_mixed ct__law_mixed : Value}
    {od__law_take an__law_take : Option Addr} {sl__law_take : Array (Option Value)} {oc__law_take kV__law_take dc__law_take pm__law_take cd__law_take ct__law_take : Value}
    {od__law_ranges an__law_ranges : Option Addr} {sl__law_ranges : Array (Option Value)} {oc__law_ranges kV__law_ranges dc__law_ranges pm__law_ranges cd__law_ranges ct__law_ranges : Value}
    {od__law_count an__law_count : Option Addr} {sl__law_count : Array (Option Value)} {oc__law_count kV__law_count dc__law_count pm__law_count cd__law_count ct__law_count : Value}
    {od_settings an_settings : Option Addr} {sl_settings : Array (Option Value)} {oc_settings kV_settings dc_settings pm_settings cd_settings ct_settings : Value}
    {od__law_whole an__law_whole : Option Addr} {sl__law_whole : Array (Option Value)} {oc__law_whole kV__law_whole dc__law_whole pm__law_whole cd__law_whole ct__law_whole : Value}
    {od__law_wholes an__law_wholes : Option Addr} {sl__law_wholes : Array (Option Value)} {oc__law_wholes kV__law_wholes dc__law_wholes pm__law_wholes cd__law_wholes ct__law_wholes : Value}
    {od__law_meet an__law_meet : Option Addr} {sl__law_meet : Array (Option Value)} {oc__law_meet kV__law_meet dc__law_meet pm__law_meet cd__law_meet ct__law_meet : Value}
    {od_law an_law : Option Addr} {sl_law : Array (Option Value)} {oc_law kV_law dc_law pm_law cd_law ct_law : Value}
    (a__law_box : PySem.W.nsIn K mainGlobals "_law_box" = some (some (.ref f__law_box)))
    (l__law_box : K.lookup f__law_box = some ⟨oc__law_box, od__law_box, .func (PySem.W.fnOf "_law_box" "_law_box" (defArgs s__law_box) (defBody s__law_box) (defScope s__law_box) .none kV__law_box dc__law_box pm__law_box an__law_box cd__law_box ct__law_box), sl__law_box⟩)
    (c__law_box : PySem.W.codeIn K cd__law_box "_law_box" = true)
    (k__law_box : PySem.W.keepIn K (.ref f__law_box) = true)
    (a__law_mixed : PySem.W.nsIn K mainGlobals "_law_mixed" = some (some (.ref f__law_mixed)))
    (l__law_mixed : K.lookup f__law_mixed = some ⟨oc__law_mixed, od__law_mixed, .func (PySem.W.fnOf "_law_mixed" "_law_mixed" (defArgs s__law_mixed) (defBody s__law_mixed) (defScope s__law_mixed) .none kV__law_mixed dc__law_mixed pm__law_mixed an__law_mixed cd__law_mixed ct__law_mixed), sl__law_mixed⟩)
    (c__law_mixed : PySem.W.codeIn K cd__law_mixed "_law_mixed" = true)
    (k__law_mixed : PySem.W.keepIn K (.ref f__law_mixed) = true)
    (a__law_take : PySem.W.nsIn K mainGlobals "_law_take" = some (some (.ref f__law_take)))
    (l__law_take : K.lookup f__law_take = some ⟨oc__law_take, od__law_take, .func (PySem.W.fnOf "_law_take" "_law_take" (defArgs s__law_take) (defBody s__law_take) (defScope s__law_take) .none kV__law_take dc__law_take pm__law_take an__law_take cd__law_take ct__law_take), sl__law_take⟩)
    (c__law_take : PySem.W.codeIn K cd__law_take "_law_take" = true)
    (k__law_take : PySem.W.keepIn K (.ref f__law_take) = true)
    (a__law_ranges : PySem.W.nsIn K mainGlobals "_law_ranges" = some (some (.ref f__law_ranges)))
    (l__law_ranges : K.lookup f__law_ranges = some ⟨oc__law_ranges, od__law_ranges, .func (PySem.W.fnOf "_law_ranges" "_law_ranges" (defArgs s__law_ranges) (defBody s__law_ranges) (defScope s__law_ranges) .none kV__law_ranges dc__law_ranges pm__law_ranges an__law_ranges cd__law_ranges ct__law_ranges), sl__law_ranges⟩)
    (c__law_ranges : PySem.W.codeIn K cd__law_ranges "_law_ranges" = true)
    (k__law_ranges : PySem.W.keepIn K (.ref f__law_ranges) = true)
    (a__law_count : PySem.W.nsIn K mainGlobals "_law_count" = some (some (.ref f__law_count)))
    (l__law_count : K.lookup f__law_count = some ⟨oc__law_count, od__law_count, .func (PySem.W.fnOf "_law_count" "_law_count" (defArgs s__law_count) (defBody s__law_count) (defScope s__law_count) .none kV__law_count dc__law_count pm__law_count an__law_count cd__law_count ct__law_count), sl__law_count⟩)
    (c__law_count : PySem.W.codeIn K cd__law_count "_law_count" = true)
    (k__law_count : PySem.W.keepIn K (.ref f__law_count) = true)
    (a_settings : PySem.W.nsIn K mainGlobals "settings" = some (some (.ref f_settings)))
    (l_settings : K.lookup f_settings = some ⟨oc_settings, od_settings, .func (PySem.W.fnOf "settings" "settings" (defArgs s_settings) (defBody s_settings) (defScope s_settings) .none kV_settings dc_settings pm_settings an_settings cd_settings ct_settings), sl_settings⟩)
    (c_settings : PySem.W.codeIn K cd_settings "settings" = true)
    (k_settings : PySem.W.keepIn K (.ref f_settings) = true)
    (a__law_whole : PySem.W.nsIn K mainGlobals "_law_whole" = some (some (.ref f__law_whole)))
    (l__law_whole : K.lookup f__law_whole = some ⟨oc__law_whole, od__law_whole, .func (PySem.W.fnOf "_law_whole" "_law_whole" (defArgs s__law_whole) (defBody s__law_whole) (defScope s__law_whole) .none kV__law_whole dc__law_whole pm__law_whole an__law_whole cd__law_whole ct__law_whole), sl__law_whole⟩)
    (c__law_whole : PySem.W.codeIn K cd__law_whole "_law_whole" = true)
    (k__law_whole : PySem.W.keepIn K (.ref f__law_whole) = true)
    (a__law_wholes : PySem.W.nsIn K mainGlobals "_law_wholes" = some (some (.ref f__law_wholes)))
    (l__law_wholes : K.lookup f__law_wholes = some ⟨oc__law_wholes, od__law_wholes, .func (PySem.W.fnOf "_law_wholes" "_law_wholes" (defArgs s__law_wholes) (defBody s__law_wholes) (defScope s__law_wholes) .none kV__law_wholes dc__law_wholes pm__law_wholes an__law_wholes cd__law_wholes ct__law_wholes), sl__law_wholes⟩)
    (c__law_wholes : PySem.W.codeIn K cd__law_wholes "_law_wholes" = true)
    (k__law_wholes : PySem.W.keepIn K (.ref f__law_wholes) = true)
    (a__law_meet : PySem.W.nsIn K mainGlobals "_law_meet" = some (some (.ref f__law_meet)))
    (l__law_meet : K.lookup f__law_meet = some ⟨oc__law_meet, od__law_meet, .func (PySem.W.fnOf "_law_meet" "_law_meet" (defArgs s__law_meet) (defBody s__law_meet) (defScope s__law_meet) .none kV__law_meet dc__law_meet pm__law_meet an__law_meet cd__law_meet ct__law_meet), sl__law_meet⟩)
    (c__law_meet : PySem.W.codeIn K cd__law_meet "_law_meet" = true)
    (k__law_meet : PySem.W.keepIn K (.ref f__law_meet) = true)
    (a_law : PySem.W.nsIn K mainGlobals "law" = some (some (.ref f_law)))
    (l_law : K.lookup f_law = some ⟨oc_law, od_law, .func (PySem.W.fnOf "law" "law" (defArgs s_law) (defBody s_law) (defScope s_law) .none kV_law dc_law pm_law an_law cd_law ct_law), sl_law⟩)
    (c_law : PySem.W.codeIn K cd_law "law" = true)
    (k_law : PySem.W.keepIn K (.ref f_law) = true)
    (z_all : PySem.W.nsIn K mainGlobals "all" = some none)
    (z_any : PySem.W.nsIn K mainGlobals "any" = some none)
    (z_bool : PySem.W.nsIn K mainGlobals "bool" = some none)
    (z_enumerate : PySem.W.nsIn K mainGlobals "enumerate" = some none)
    (z_int : PySem.W.nsIn K mainGlobals "int" = some none)
    (z_isinstance : PySem.W.nsIn K mainGlobals "isinstance" = some none)
    (z_len : PySem.W.nsIn K mainGlobals "len" = some none)
    (z_list : PySem.W.nsIn K mainGlobals "list" = some none)
    (z_max : PySem.W.nsIn K mainGlobals "max" = some none)
    (z_min : PySem.W.nsIn K mainGlobals "min" = some none)
    (z_range : PySem.W.nsIn K mainGlobals "range" = some none)
    (z_sorted : PySem.W.nsIn K mainGlobals "sorted" = some none)
    (z_tuple : PySem.W.nsIn K mainGlobals "tuple" = some none)
    (z_zip : PySem.W.nsIn K mainGlobals "zip" = some none) :
    ∃ fd : FuncData, (∀ (s : Shared) (v : Value), BindsTo s fd ⟨[v], []⟩ [("_law_script", v)]) ∧ ∀ base : Heap, K.In base → base.Ns mainGlobals mg → FnOk l.prog w K mg base CX0 4 fa fd ["_law_script"] (LiftP K spLaw) := by
  have e := hfa.symm.trans (PySem.W.mg_of X G a_law)
  cases e
  have g_all := PySem.W.mg_none_of X G z_all
  have g_any := PySem.W.mg_none_of X G z_any
  have g_bool := PySem.W.mg_none_of X G z_bool
  have g_enumerate := PySem.W.mg_none_of X G z_enumerate
  have g_int := PySem.W.mg_none_of X G z_int
  have g_isinstance := PySem.W.mg_none_of X G z_isinstance
  have g_len := PySem.W.mg_none_of X G z_len
  have g_list := PySem.W.mg_none_of X G z_list
  have g_max := PySem.W.mg_none_of X G z_max
  have g_min := PySem.W.mg_none_of X G z_min
  have g_range := PySem.W.mg_none_of X G z_range
  have g_sorted := PySem.W.mg_none_of X G z_sorted
  have g_tuple := PySem.W.mg_none_of X G z_tuple
  have g_zip := PySem.W.mg_none_of X G z_zip
  have F__law_box := fun_mk (st := s__law_box) l__law_box c__law_box k__law_box
  have b__law_box := F__law_box.binds (ps := ["_law_script"]) fun _ _ _ _ _ _ us hl => match us, hl with | [_], _ => rfl
  have F__law_mixed := fun_mk (st := s__law_mixed) l__law_mixed c__law_mixed k__law_mixed
  have b__law_mixed := F__law_mixed.binds (ps := ["_law_number", "_law_turn"]) fun _ _ _ _ _ _ us hl => match us, hl with | [_, _], _ => rfl
  have F__law_take := fun_mk (st := s__law_take) l__law_take c__law_take k__law_take
  have b__law_take := F__law_take.binds (ps := ["_law_box_here", "_law_size"]) fun _ _ _ _ _ _ us hl => match us, hl with | [_, _], _ => rfl
  have F__law_ranges := fun_mk (st := s__law_ranges) l__law_ranges c__law_ranges k__law_ranges
  have b__law_ranges := F__law_ranges.binds (ps := ["_law_box_here", "_law_size"]) fun _ _ _ _ _ _ us hl => match us, hl with | [_, _], _ => rfl
  have F__law_count := fun_mk (st := s__law_count) l__law_count c__law_count k__law_count
  have b__law_count := F__law_count.binds (ps := ["_law_box_here", "_law_few", "_law_most"]) fun _ _ _ _ _ _ us hl => match us, hl with | [_, _, _], _ => rfl
  have F_settings := fun_mk (st := s_settings) l_settings c_settings k_settings
  have b_settings := F_settings.binds (ps := ["ranges"]) fun _ _ _ _ _ _ us hl => match us, hl with | [_], _ => rfl
  have F__law_whole := fun_mk (st := s__law_whole) l__law_whole c__law_whole k__law_whole
  have b__law_whole := F__law_whole.binds (ps := ["_law_found"]) fun _ _ _ _ _ _ us hl => match us, hl with | [_], _ => rfl
  have F__law_wholes := fun_mk (st := s__law_wholes) l__law_wholes c__law_wholes k__law_wholes
  have b__law_wholes := F__law_wholes.binds (ps := ["_law_found"]) fun _ _ _ _ _ _ us hl => match us, hl with | [_], _ => rfl
  have F__law_meet := fun_mk (st := s__law_meet) l__law_meet c__law_meet k__law_meet
  have b__law_meet := F__law_meet.binds (ps := ["_law_one", "_law_other"]) fun _ _ _ _ _ _ us hl => match us, hl with | [_, _], _ => rfl
  have F_law := fun_mk (st := s_law) l_law c_law k_law
  refine ⟨PySem.W.fnOf "law" "law" (defArgs s_law) (defBody s_law) (defScope s_law) .none kV_law dc_law pm_law an_law cd_law ct_law, fun s v => .of_eq rfl, fun base _ _ => ?_⟩
  have h__law_box : Cal l.prog w K mg base "_law_box" 1 sp__law_box := F__law_box.cal (ok__law_box (P := l.prog) (w := w) (base := base) (sp := sp__law_box) F__law_box g_list len__law_box rd__law_box) (PySem.W.mg_of X G a__law_box) b__law_box
  have h__law_mixed : Cal l.prog w K mg base "_law_mixed" 1 sp__law_mixed := F__law_mixed.cal (ok__law_mixed (P := l.prog) (w := w) (base := base) (sp := sp__law_mixed) F__law_mixed len__law_mixed rd__law_mixed) (PySem.W.mg_of X G a__law_mixed) b__law_mixed
  have h__law_take : Cal l.prog w K mg base "_law_take" 2 sp__law_take := F__law_take.cal (ok__law_take (P := l.prog) (w := w) (base := base) (sp := sp__law_take) F__law_take h__law_mixed g_len len__law_take rd__law_take) (PySem.W.mg_of X G a__law_take) b__law_take
  have h__law_ranges : Cal l.prog w K mg base "_law_ranges" 3 sp__law_ranges := F__law_ranges.cal (ok__law_ranges (P := l.prog) (w := w) (base := base) (sp := sp__law_ranges) F__law_ranges h__law_take g_len g_max g_min g_range len__law_ranges rd__law_ranges) (PySem.W.mg_of X G a__law_ranges) b__law_ranges
  have h__law_count : Cal l.prog w K mg base "_law_count" 3 sp__law_count := F__law_count.cal (ok__law_count (P := l.prog) (w := w) (base := base) (sp := sp__law_count) F__law_count h__law_take len__law_count rd__law_count) (PySem.W.mg_of X G a__law_count) b__law_count
  have h_settings : Cal l.prog w K mg base "settings" 1 sp_settings := F_settings.cal (ok_settings (P := l.prog) (w := w) (base := base) (sp := sp_settings) F_settings g_enumerate g_sorted len_settings rd_settings) (PySem.W.mg_of X G a_settings) b_settings
  have h__law_whole : Cal l.prog w K mg base "_law_whole" 1 sp__law_whole := F__law_whole.cal (ok__law_whole (P := l.prog) (w := w) (base := base) (sp := sp__law_whole) F__law_whole g_bool g_int g_isinstance len__law_whole rd__law_whole) (PySem.W.mg_of X G a__law_whole) b__law_whole
  have h__law_wholes : Cal l.prog w K mg base "_law_wholes" 2 sp__law_wholes := F__law_wholes.cal (ok__law_wholes (P := l.prog) (w := w) (base := base) (sp := sp__law_wholes) F__law_wholes h__law_whole g_all g_isinstance g_list len__law_wholes rd__law_wholes) (PySem.W.mg_of X G a__law_wholes) b__law_wholes
  have h__law_meet : Cal l.prog w K mg base "_law_meet" 1 sp__law_meet := F__law_meet.cal (ok__law_meet (P := l.prog) (w := w) (base := base) (sp := sp__law_meet) F__law_meet g_max g_min len__law_meet rd__law_meet) (PySem.W.mg_of X G a__law_meet) b__law_meet
  exact ok_law (sp := spLaw) F_law h__law_box h__law_ranges h__law_count h_settings h__law_wholes h__law_meet g_all g_any g_isinstance g_len g_list g_range g_tuple g_zip len_law rd_law
theorem walk {l : PySem.W.OpenLaw} {q : Program} {loose : List Str} {XP : (Str → Option Value) → Heap → Prop} {YP : World → Heap → Prop} {d : DefRec} {K : Params → PySem.W.Frag} (hn : l.most = some 63) (hdf : d.params.defaults = [])
    (hY : ∀ (w : World) (h : Heap), YP w h → (K w.params).In h)
    (F : ∀ (w : World) (mg : Str → Option Value) (fa : Addr) (h : Heap), (K w.params).In h → h.Ns mainGlobals mg → mg d.name = some (.ref fa) →
      ∃ fd : FuncData, (∀ (s : Shared) (u : Value), BindsTo s fd ⟨[u], []⟩ [("_law_script", u)]) ∧ ∀ base : Heap, (K w.params).In base → base.Ns mainGlobals mg → FnOk l.prog w (K w.params) mg base CX0 4 fa fd ["_law_script"] (LiftP (K w.params) spLaw)) :
    PySem.W.WalkO q loose XP YP l.row.toRowW d [] (fun f vs => PySem.call f vs) :=
  L2.walk_of (n := 63) (k := 4) (x := "_law_script") (CX := fun _ => CX0) (sp := fun w => LiftP (K w.params) spLaw) hn (by decide) hdf ⟨rfl, by decide, by decide⟩ hY F (fun _ _ a ns hl _ hS => law_in hl hS) fun _ _ _ _ _ z => z
end V15
open PySem PySem.W PyProof.Rows
set_option maxRecDepth 100000 in
set_option maxHeartbeats 0 in
theorem PySem.Challenge.cw_vitrine_k16_whole_fewest_settings_holds : PySem.Challenge.rw_vitrine_k16_whole_fewest_settings.Holds := by
  w_on; o_law; k_head; (case hw => w_witness2)
  k_fill
  refine V15.walk (l := PySem.Challenge.rw_vitrine_k16_whole_fewest_settings) rfl rfl (fun w h Y => PySem.W.kIn_of Y) ?F
  case F =>
    intro w mg fa h KX G hmg
    refine' V15.all_mk KX G hmg ?a__law_box ?l__law_box ?c__law_box ?k__law_box ?a__law_mixed ?l__law_mixed ?c__law_mixed ?k__law_mixed ?a__law_take ?l__law_take ?c__law_take ?k__law_take ?a__law_ranges ?l__law_ranges ?c__law_ranges ?k__law_ranges ?a__law_count ?l__law_count ?c__law_count ?k__law_count ?a_settings ?l_settings ?c_settings ?k_settings ?a__law_whole ?l__law_whole ?c__law_whole ?k__law_whole ?a__law_wholes ?l__law_wholes ?c__law_wholes ?k__law_wholes ?a__law_meet ?l__law_meet ?c__law_meet ?k__law_meet ?a_law ?l_law ?c_law ?k_law ?z_all ?z_any ?z_bool ?z_enumerate ?z_int ?z_isinstance ?z_len ?z_list ?z_max ?z_min ?z_range ?z_sorted ?z_tuple ?z_zip
    (case a__law_box => k_is)
    (case l__law_box => k_is)
    (case c__law_box => k_is)
    (case k__law_box => k_is)
    (case a__law_mixed => k_is)
    (case l__law_mixed => k_is)
    (case c__law_mixed => k_is)
    (case k__law_mixed => k_is)
    (case a__law_take => k_is)
    (case l__law_take => k_is)
    (case c__law_take => k_is)
    (case k__law_take => k_is)
    (case a__law_ranges => k_is)
    (case l__law_ranges => k_is)
    (case c__law_ranges => k_is)
    (case k__law_ranges => k_is)
    (case a__law_count => k_is)
    (case l__law_count => k_is)
    (case c__law_count => k_is)
    (case k__law_count => k_is)
    (case a_settings => k_is)
    (case l_settings => k_is)
    (case c_settings => k_is)
    (case k_settings => k_is)
    (case a__law_whole => k_is)
    (case l__law_whole => k_is)
    (case c__law_whole => k_is)
    (case k__law_whole => k_is)
    (case a__law_wholes => k_is)
    (case l__law_wholes => k_is)
    (case c__law_wholes => k_is)
    (case k__law_wholes => k_is)
    (case a__law_meet => k_is)
    (case l__law_meet => k_is)
    (case c__law_meet => k_is)
    (case k__law_meet => k_is)
    (case a_law => k_is)
    (case l_law => k_is)
    (case c_law => k_is)
    (case k_law => k_is)
    (case z_all => k_is)
    (case z_any => k_is)
    (case z_bool => k_is)
    (case z_enumerate => k_is)
    (case z_int => k_is)
    (case z_isinstance => k_is)
    (case z_len => k_is)
    (case z_list => k_is)
    (case z_max => k_is)
    (case z_min => k_is)
    (case z_range => k_is)
    (case z_sorted => k_is)
    (case z_tuple => k_is)
    (case z_zip => k_is)
