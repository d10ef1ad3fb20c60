import PyProof.Rows.All
import Wide.All
import OpenK.AllK
import Wide.FinOn
import Lean
import PyProof.EqAt
import PyProof.EqKinds
import PyProof.TupleCall
import PySem.Challenge.RW_vitrine_k17_neighbours_that_clash
set_option Elab.async false
set_option linter.all false
set_option maxRecDepth 100000
set_option maxHeartbeats 8000000
set_option bootstrap.genMatcherCode false
set_option compiler.extract_closed false
namespace L2
open PySem PySem.Spec PyProof.Rows
noncomputable abbrev Key := Sum Int Str
noncomputable def keyIs : Key → Value → Bool
  | .inl k, v => Value.isInt k v
  | .inr x, v => Value.isStrOf x v
noncomputable def keyH (w : World) : Key → Int
  | .inl k => hashInt k
  | .inr x => hashStr w x
theorem keyIs_shape : ∀ {k : Key} {v : Value}, keyIs k v = true → (∃ i t, k = Sum.inl i ∧ v = Value.int i t) ∨ (∃ x t, k = Sum.inr x ∧ v = Value.str x t)
  | .inl i, v, h => by
    obtain ⟨t, e⟩ := Value.isInt_shape (k := i) (v := v) h
    exact .inl ⟨i, t, rfl, e⟩
  | .inr x, v, h => by
    obtain ⟨t, e⟩ := Value.isStrOf_shape (x := x) (v := v) h
    exact .inr ⟨x, t, rfl, e⟩
theorem key_ll (a b : Int) : decide ((Sum.inl a : Key) = Sum.inl b) = (a == b) := by
  by_cases e : a = b
  · subst e; simp
  · have h : ¬ (Sum.inl a : Key) = Sum.inl b := fun q => e (Sum.inl.inj q)
    rw [decide_eq_false h]
    exact (beq_eq_false_iff_ne.mpr e).symm
theorem key_rr (a b : Str) : decide ((Sum.inr a : Key) = Sum.inr b) = decide (a = b) := by
  by_cases e : a = b
  · subst e; simp
  · have h : ¬ (Sum.inr a : Key) = Sum.inr b := fun q => e (Sum.inr.inj q)
    rw [decide_eq_false h, decide_eq_false e]
theorem key_lr (a : Int) (b : Str) : decide ((Sum.inl a : Key) = Sum.inr b) = false := decide_eq_false (fun q => nomatch q)
theorem key_rl (a : Str) (b : Int) : decide ((Sum.inr a : Key) = Sum.inl b) = false := decide_eq_false (fun q => nomatch q)
noncomputable def mixKind (prog : Program) (w : World) : PySem.KeyKind prog w Key where
  is := keyIs
  hash := keyH w
  inj := fun v a b ha hb => by
    rcases keyIs_shape ha with ⟨i, t, rfl, rfl⟩ | ⟨x, t, rfl, rfl⟩
    · rcases keyIs_shape hb with ⟨j, u, rfl, e⟩ | ⟨y, u, rfl, e⟩
      · injection e with e1 _; rw [e1]
      · exact nomatch e
    · rcases keyIs_shape hb with ⟨j, u, rfl, e⟩ | ⟨y, u, rfl, e⟩
      · exact nomatch e
      · injection e with e1 _; rw [e1]
  byValue := fun k v h => by
    rcases keyIs_shape h with ⟨i, t, rfl, rfl⟩ | ⟨x, t, rfl, rfl⟩ <;> rfl
  pyHash := fun hv h => by
    rcases keyIs_shape hv with ⟨i, t, rfl, rfl⟩ | ⟨x, t, rfl, rfl⟩
    · exact wpAny_pyHash_int h
    · exact wpAny_pyHash_str h
  eqBool := fun hu hv h => by
    rcases keyIs_shape hu with ⟨i, t, rfl, rfl⟩ | ⟨x, t, rfl, rfl⟩
    · rcases keyIs_shape hv with ⟨j, u, rfl, rfl⟩ | ⟨y, u, rfl, rfl⟩
      · rw [key_ll] at h; exact wpAny_eqBool_int h
      · rw [key_lr] at h; exact SeqAt.EqAt.int_str i t y u _ _ _ _ h
    · rcases keyIs_shape hv with ⟨j, u, rfl, rfl⟩ | ⟨y, u, rfl, rfl⟩
      · rw [key_rl] at h; exact SeqAt.EqAt.str_int x t j u _ _ _ _ h
      · rw [key_rr] at h; exact wpAny_eqBool_str h
  «strs» := fun k x t v h => by
    rcases keyIs_shape h with ⟨i, u, rfl, e⟩ | ⟨y, u, rfl, e⟩
    · exact nomatch e
    · injection e with e1 _
      subst e1
      cases v <;> rfl
end L2
namespace L2
open PySem PySem.Spec PyProof.Rows
inductive V where
  | non | bl (b : Bool) | int (i : Int) | str (x : Str) | byt (b : Array UInt8) | flt (b : UInt64) | ref (a : Addr) | ty (n : String)
  deriving DecidableEq
noncomputable def RelV : V → Value → Prop
  | .non, u => u = Value.none
  | .bl b, u => u = Value.bool b
  | .int i, u => ∃ t, u = Value.int i t
  | .str x, u => ∃ t, u = Value.str x t
  | .byt b, u => ∃ t, u = Value.bytes b t
  | .flt b, u => ∃ t, u = Value.float b t
  | .ref a, u => u = Value.ref a
  | .ty n, u => u = Value.type n
noncomputable abbrev Vals : List V → List Value → Prop := Paired RelV
theorem Vals.length {xs : List V} {us : List Value} (r : Vals xs us) : xs.length = us.length := Paired.length r
theorem Vals.get : ∀ {xs : List V} {us : List Value} {i : Nat} {x : V}, Vals xs us → xs[i]? = some x → ∃ u, us[i]? = some u ∧ RelV x u
  | _, _, _, _, .nil, e => by simp at e
  | _, _, 0, _, .cons r _, e => by simp at e; subst e; exact ⟨_, rfl, r⟩
  | _, _, i + 1, x, .cons _ t, e => by
    obtain ⟨u, h1, h2⟩ := Vals.get (i := i) (x := x) t (by simpa using e)
    exact ⟨u, by simpa using h1, h2⟩
theorem Vals.set {x : V} {u : Value} (r : RelV x u) : ∀ {xs : List V} {us : List Value} (i : Nat), Vals xs us → Vals (xs.set i x) (us.set i u)
  | _, _, _, .nil => .nil
  | _, _, 0, .cons _ t => .cons r t
  | _, _, i + 1, .cons q t => .cons q (Vals.set r i t)
theorem Vals.append : ∀ {xs ys : List V} {us ws : List Value}, Vals xs us → Vals ys ws → Vals (xs ++ ys) (us ++ ws)
  | _, _, _, _, .nil, s => s
  | _, _, _, _, .cons r t, s => .cons r (Vals.append t s)
theorem Vals.take : ∀ {xs : List V} {us : List Value} (n : Nat), Vals xs us → Vals (xs.take n) (us.take n)
  | _, _, 0, _ => .nil
  | _, _, _ + 1, .nil => .nil
  | _, _, n + 1, .cons r t => .cons r (Vals.take n t)
theorem Vals.drop : ∀ {xs : List V} {us : List Value} (n : Nat), Vals xs us → Vals (xs.drop n) (us.drop n)
  | _, _, 0, r => r
  | _, _, _ + 1, .nil => .nil
  | _, _, n + 1, .cons _ t => Vals.drop n t
noncomputable def RelO : Option V → Option Value → Prop
  | some v, some u => RelV v u
  | none, none => True
  | _, _ => False
noncomputable def KV {κ : Type} : List (κ × V) → List (κ × Value) → Prop := Paired fun (p : κ × V) (q : κ × Value) => p.1 = q.1 ∧ RelV p.2 q.2
noncomputable def kV : Key → V
  | .inl i => .int i
  | .inr x => .str x
inductive HO where
  /-- a list -/
  | lst (xs : List V)
  /-- a tuple (never changes) -/
  | tup (xs : List V)
  /-- a dict whose keys are ints and texts; one whose keys are tuples of ints and texts (the empty one is both) -/
  | dK (kvs : List (Key × V)) | dT (kvs : List (List Key × V))
  /-- a set of ints: its members, its size -/
  | set (S : Int → Bool) (n : Nat)
  /-- an instance of the class at C, its dict at dx, its attributes -/
  | ins (C dx : Addr) (fs : List (Str × V))
  /-- the dict of the instance at x -/
  | own (x : Addr)
  /-- the dict of an exception -/
  | xd (fs : List (Str × V))
  /-- a bound method, f of x -/
  | met (f x : Addr)
  /-- a range object lo, lo + 1, .. below hi -/
  | rng (lo hi : Int)
  /-- a thing that is known to the object (the script; a dict while a loop walks it): read, never written while it is so -/
  | frz (o : Obj) (u : HO)
  /-- a code object's table -/
  | tbl (ps : Array Value)
  /-- any other thing, by what is true of its one object (a def of one's own: SetO a S n := HO.ext fun h => ..) -/
  | ext (φ : Heap → Prop)
noncomputable abbrev Hp := Addr → Option HO
noncomputable def upd (H : Hp) (a : Addr) (o : HO) : Hp := fun b => if b = a then some o else H b
theorem upd_same {H : Hp} {a : Addr} {o : HO} : upd H a o a = some o := by unfold upd; rw [if_pos rfl]
theorem upd_ne {H : Hp} {a b : Addr} {o : HO} (h : b ≠ a) : upd H a o b = H b := by unfold upd; rw [if_neg h]
theorem ne_of_none {H : Hp} {a b : Addr} {o : HO} (h : H a = some o) (h' : H b = none) : a ≠ b := by
  intro e; subst e; rw [h] at h'; cases h'
section
variable (P : Program) (w : World)
noncomputable def ObjOk (H : Hp) (h : Heap) (a : Addr) : HO → Prop
  | .lst xs => xs.length ≤ sizeLine ∧ ∃ (its : List Value) (n : Nat), Vals xs its ∧ h.get? a = some { cls := .type "list", data := .seq its.toArray n }
  | .tup xs => xs.length ≤ sizeLine ∧ ∃ its : List Value, Vals xs its ∧ IsTup h a its.toArray
  | .dK kvs => kvs.length ≤ sizeLine ∧ (a == sysModules) = false ∧ ∃ vs, KV kvs vs ∧ h.DictOf (mixKind P w) a vs
  | .dT kvs => kvs.length ≤ sizeLine ∧ (a == sysModules) = false ∧ ∃ xs : List (List Key × Addr × Value),
      Paired (fun (p : List Key × V) (q : List Key × Addr × Value) => p.1 = q.1 ∧ H q.2.1 = some (.tup (p.1.map kV)) ∧ RelV p.2 q.2.2) kvs xs ∧
      ∃ o es ep, h.get? a = some o ∧ o.ExactDict ∧ o.data = .dict es ep ∧ es.toList = xs.map (entryOfKey (tupleKind (mixKind P w))) ∧ (xs.map (·.1)).Nodup
  | .set S n => h.SetOf (intKind P w) a S n
  | .ins C dx fs => H dx = some (.own a) ∧ fs.length ≤ 1000 ∧ dx ≠ a ∧ h.get? a = some (PySem.W.instObj C dx) ∧
      ∃ mA, h.Ns1 dx mA ∧ (∀ f, RelO (fs.lookup f) (mA f)) ∧ PySem.Within mA (fs.map (·.1))
  | .own _ => ∃ o, h.get? a = some o
  | .xd fs => ∃ mA, h.Ns1 a mA ∧ ∀ f, RelO (fs.lookup f) (mA f)
  | .rng lo hi => ∃ t u v, h.get? a = some { cls := .type "range", data := .fields #[.int lo t, .int hi u, .int 1 v] }
  | .frz o u => h.get? a = some o ∧ ObjOk H h a u
  | .tbl ps => h.get? a = some { cls := .none, data := .fields ps }
  | .met f x => h.get? a = some (PySem.W.methodObj (.ref f) (.ref x))
  | .ext φ => φ h ∧ (∃ o, h.get? a = some o) ∧ ∀ h1 h2 : Heap, φ h1 → (∀ o, h1.get? a = some o → h2.get? a = some o) → φ h2
noncomputable def HOk (H : Hp) (h : Heap) : Prop := ∀ a o, H a = some o → ObjOk P w H h a o
end
section
variable {P : Program} {w : World} {H H' : Hp} {h h' : Heap} {a : Addr} {o : HO}
theorem ObjOk.lt (x : ObjOk P w H h a o) : a < h.objs.size := by
  cases o with
  | lst xs => obtain ⟨_, _, _, _, e⟩ := x; exact Heap.lt_size e
  | tup xs => obtain ⟨_, _, _, p⟩ := x; exact p.lt
  | dK kvs => obtain ⟨_, _, _, _, o, _, _, e, _⟩ := x; exact Heap.lt_size e
  | dT kvs => obtain ⟨_, _, _, _, o, _, _, e, _⟩ := x; exact Heap.lt_size e
  | set S n => obtain ⟨o, _, _, _, e, _⟩ := x; exact Heap.lt_size e
  | ins C dx fs => obtain ⟨_, _, _, e, _⟩ := x; exact Heap.lt_size e
  | own y => obtain ⟨_, e⟩ := x; exact Heap.lt_size e
  | xd fs => obtain ⟨_, ⟨_, _, _, e, _⟩, _⟩ := x; exact Heap.lt_size e
  | rng lo hi => obtain ⟨_, _, _, e⟩ := x; exact Heap.lt_size e
  | frz ob u => obtain ⟨e, _⟩ := x; exact Heap.lt_size e
  | tbl ps => exact Heap.lt_size (show h.get? a = some _ from x)
  | met f y => exact Heap.lt_size (show h.get? a = some _ from x)
  | ext φ => obtain ⟨_, ⟨_, e⟩, _⟩ := x; exact Heap.lt_size e
theorem Paired.mapP {α β : Type} {F G : α → β → Prop} : ∀ {l₁ : List α} {l₂ : List β}, Paired F l₁ l₂ → (∀ a b, F a b → G a b) → Paired G l₁ l₂
  | _, _, .nil, _ => .nil
  | _, _, .cons r t, f => .cons (f _ _ r) (Paired.mapP t f)
theorem ObjOk.stay (x : ObjOk P w H h a o) (k : ∀ b u, (b = a ∨ H b = some (.own a)) → h.get? b = some u → h'.get? b = some u)
    (ho : ∀ b, H b = some (.own a) → H' b = some (.own a)) (ht : ∀ b xs, H b = some (.tup xs) → H' b = some (.tup xs)) : ObjOk P w H' h' a o := by
  induction o with
  | lst xs => obtain ⟨z, its, n, r, e⟩ := x; exact ⟨z, its, n, r, k _ _ (.inl rfl) e⟩
  | tup xs => obtain ⟨z, its, r, ob, e, c⟩ := x; exact ⟨z, its, r, ob, k _ _ (.inl rfl) e, c⟩
  | dK kvs => obtain ⟨z, y, vs, r, ob, es, ep, e, c⟩ := x; exact ⟨z, y, vs, r, ob, es, ep, k _ _ (.inl rfl) e, c⟩
  | dT kvs =>
    obtain ⟨z, y, xs, r, ob, es, ep, e, c⟩ := x
    exact ⟨z, y, xs, Paired.mapP r fun p q z => ⟨z.1, ht _ _ z.2.1, z.2.2⟩, ob, es, ep, k _ _ (.inl rfl) e, c⟩
  | set S n => obtain ⟨ob, es, ep, t, e, c⟩ := x; exact ⟨ob, es, ep, t, k _ _ (.inl rfl) e, c⟩
  | ins C dx fs =>
    obtain ⟨d, z, ne, e, mA, ⟨od, es, ep, e2, c⟩, r⟩ := x
    exact ⟨ho _ d, z, ne, k _ _ (.inl rfl) e, mA, ⟨od, es, ep, k _ _ (.inr d) e2, c⟩, r⟩
  | own y => obtain ⟨ob, e⟩ := x; exact ⟨ob, k _ _ (.inl rfl) e⟩
  | xd fs => obtain ⟨mA, ⟨od, es, ep, e, c⟩, r⟩ := x; exact ⟨mA, ⟨od, es, ep, k _ _ (.inl rfl) e, c⟩, r⟩
  | rng lo hi => obtain ⟨t, u, v, e⟩ := x; exact ⟨t, u, v, k _ _ (.inl rfl) e⟩
  | frz ob u ih => obtain ⟨e, q⟩ := x; exact ⟨k _ _ (.inl rfl) e, ih q⟩
  | tbl ps =>
    have e : h.get? a = some { cls := .none, data := .fields ps } := x
    show h'.get? a = some { cls := .none, data := .fields ps }
    exact k a _ (.inl rfl) e
  | met f y =>
    have e : h.get? a = some (PySem.W.methodObj (.ref f) (.ref y)) := x
    show h'.get? a = some (PySem.W.methodObj (.ref f) (.ref y))
    exact k a _ (.inl rfl) e
  | ext φ => obtain ⟨p, ⟨o, e⟩, st⟩ := x; exact ⟨st _ _ p fun o q => k _ _ (.inl rfl) q, ⟨o, k _ _ (.inl rfl) e⟩, st⟩
theorem HOk.lt (x : HOk P w H h) (e : H a = some o) : a < h.objs.size := (x a o e).lt
theorem HOk.fresh (x : HOk P w H h) (e : h.objs.size ≤ a) : H a = none := by
  cases q : H a with
  | none => rfl
  | some u => exact absurd (Nat.lt_of_lt_of_le (x.lt q) e) (Nat.lt_irrefl _)
theorem HOk.kept (x : HOk P w H h) (k : ∀ b u, h.get? b = some u → h'.get? b = some u) : HOk P w H h' := fun a o e =>
  (x a o e).stay (fun b u _ q => k b u q) (fun _ q => q) fun _ _ q => q
theorem HOk.laid (x : HOk P w H h) (k : ∀ b u, h.get? b = some u → h'.get? b = some u) (hp : h.objs.size ≤ a) (new : ObjOk P w (upd H a o) h' a o) : HOk P w (upd H a o) h' := fun b u e => by
  have hn := x.fresh hp
  by_cases hb : b = a
  · subst hb; rw [upd_same] at e; cases e; exact new
  · rw [upd_ne hb] at e
    exact (x b u e).stay (fun c v _ q => k c v q) (fun c q => by rw [upd_ne (ne_of_none q hn)]; exact q) fun c xs q => by rw [upd_ne (ne_of_none q hn)]; exact q
end
noncomputable def Rd (H : Hp) (a : Addr) (u : HO) : Prop := H a = some u ∨ ∃ o, H a = some (.frz o u)
theorem Rd.ok {P : Program} {w : World} {H : Hp} {h : Heap} {a : Addr} {u : HO} (r : Rd H a u) (x : HOk P w H h) : ObjOk P w H h a u := by
  rcases r with r | ⟨o, r⟩
  · exact x a u r
  · obtain ⟨_, q⟩ := x a _ r
    exact q
noncomputable def Mut : Option HO → Prop
  | some (.lst _) => True
  | some (.dK _) => True
  | some (.dT _) => True
  | some (.set _ _) => True
  | some (.ins _ _ _) => True
  | some (.ext _) => True
  | _ => False
section
variable {P : Program} {w : World} {H : Hp} {h h' : Heap} {x e : Addr} {o' : HO}
theorem HOk.write (ok : HOk P w H h) (mu : Mut (H x)) (he : e = x ∨ H e = some (.own x)) (k : ∀ b u, b ≠ e → h.get? b = some u → h'.get? b = some u) (heo : ∃ u, h'.get? e = some u)
    (new : ObjOk P w (upd H x o') h' x o') : HOk P w (upd H x o') h' := fun b u q => by
  have nown : ∀ c y, H c = some (.own y) → c ≠ x := fun c y r z => by subst z; rw [r] at mu; exact mu
  have ntup : ∀ c xs, H c = some (.tup xs) → c ≠ x := fun c xs r z => by subst z; rw [r] at mu; exact mu
  by_cases hb : b = x
  · subst hb; rw [upd_same] at q; cases q; exact new
  · rw [upd_ne hb] at q
    by_cases hbe : b = e
    · have q' : H b = some (.own x) := by
        rcases he with z | z
        · exact absurd (hbe.trans z) hb
        · rw [hbe]; exact z
      rw [q] at q'; cases q'
      obtain ⟨v, hv⟩ := heo
      exact ⟨v, by rw [hbe]; exact hv⟩
    · refine (ok b u q).stay (fun c v hc r => k c v ?_ r) (fun c r => by rw [upd_ne (nown c b r)]; exact r) fun c xs r => by rw [upd_ne (ntup c xs r)]; exact r
      rcases hc with rfl | hc
      · exact hbe
      · rintro rfl
        rcases he with z | z
        · exact nown c b hc z
        · rw [hc] at z; cases z; exact hb rfl
end
structure Un (fs ex : List Addr) (H H' : Hp) (h h' : Heap) : Prop where
  keep : ∀ b o, h.get? b = some o → H b = none → b ∉ fs → b ∉ ex → h'.get? b = some o
  slot : ∀ b o, h.get? b = some o → H b = none → b ∈ fs → b ∉ ex → ∃ sl, h'.get? b = some { o with slots := sl }
  free : ∀ b o, h.get? b = some o → H b = none → b ∉ ex → H' b = none
  there : ∀ b o, h.get? b = some o → b ∉ ex → ∃ o', h'.get? b = some o'
  tups : ∀ b xs, H b = some (.tup xs) → H' b = some (.tup xs)
  frzs : ∀ b o u, H b = some (.frz o u) → H' b = some (.frz o u)
  tbls : ∀ b ps, H b = some (.tbl ps) → ∃ more, H' b = some (.tbl (ps ++ more))
section
variable {fs fs' ex ex' : List Addr} {H H1 H2 : Hp} {h h1 h2 h' : Heap} {a x e : Addr} {o : HO}
theorem Un.any (u : Un fs ex H H1 h h1) {b : Addr} {ob : Obj} (q : h.get? b = some ob) (n : H b = none) (hx : b ∉ ex) : ∃ sl, h1.get? b = some { ob with slots := sl } := by
  by_cases hb : b ∈ fs
  · exact u.slot b ob q n hb hx
  · exact ⟨ob.slots, u.keep b ob q n hb hx⟩
theorem Un.kept (k : ∀ b u, h.get? b = some u → h'.get? b = some u) : Un fs ex H H h h' :=
  ⟨fun b ob q _ _ _ => k b ob q, fun b ob q _ _ _ => ⟨ob.slots, k b ob q⟩, fun _ _ _ n _ => n, fun b ob q _ => ⟨ob, k b ob q⟩, fun _ _ q => q, fun _ _ _ q => q, fun _ ps q => ⟨#[], by rw [q]; simp⟩⟩
theorem Un.refl : Un fs ex H H h h := Un.kept fun _ _ q => q
theorem Un.laid (k : ∀ b u, h.get? b = some u → h'.get? b = some u) (hp : h.objs.size ≤ a) (hn : H a = none) : Un fs ex H (upd H a o) h h' where
  keep := fun b u q _ _ _ => k b u q
  slot := fun b u q _ _ _ => ⟨u.slots, k b u q⟩
  free := fun b u q n _ => by rw [upd_ne (Nat.ne_of_lt (Nat.lt_of_lt_of_le (Heap.lt_size q) hp))]; exact n
  there := fun b u q _ => ⟨u, k b u q⟩
  tups := fun b xs q => by rw [upd_ne (ne_of_none q hn)]; exact q
  frzs := fun b u xs q => by rw [upd_ne (ne_of_none q hn)]; exact q
  tbls := fun b ps q => ⟨#[], by rw [upd_ne (ne_of_none q hn), q]; simp⟩
theorem Un.write (mu : Mut (H x)) (he : e = x ∨ H e = some (.own x)) (k : ∀ b u, b ≠ e → h.get? b = some u → h'.get? b = some u) (heo : ∃ u, h'.get? e = some u) : Un fs ex H (upd H x o) h h' := by
  have hx : ∀ b, H b = none → b ≠ x := fun b n z => by subst z; rw [n] at mu; exact mu
  have hb : ∀ b, H b = none → b ≠ e := fun b n z => by
    subst z
    rcases he with r | r
    · exact hx b n r
    · rw [n] at r; cases r
  have hm : ∀ b u, H b = some u → ¬ Mut (some u) → b ≠ x := fun b u q nm z => by subst z; rw [q] at mu; exact nm mu
  refine ⟨fun b u q n _ _ => k b u (hb b n) q, fun b u q n _ _ => ⟨u.slots, k b u (hb b n) q⟩, fun b u q n _ => by rw [upd_ne (hx b n)]; exact n, fun b u q _ => ?_,
    fun b xs q => by rw [upd_ne (hm b _ q fun z => z)]; exact q, fun b u xs q => by rw [upd_ne (hm b _ q fun z => z)]; exact q, fun b ps q => ⟨#[], by rw [upd_ne (hm b _ q fun z => z), q]; simp⟩⟩
  by_cases hbe : b = e
  · subst hbe; exact heo
  · exact ⟨u, k b u hbe q⟩
end
noncomputable def trk (h : Heap) (H : Hp) : List Addr := (List.range h.objs.size).filter fun a => (H a).isSome
noncomputable def hidT (h : Heap) (H : Hp) : Heap := PySem.W.hideAll h (trk h H)
theorem hidT_size (h : Heap) (H : Hp) : (hidT h H).objs.size = h.objs.size := PySem.W.hideAll_size _ _
theorem hidT_get {h : Heap} {H : Hp} {b : Addr} {o : Obj} (e : h.get? b = some o) (n : H b = none) : (hidT h H).get? b = some o :=
  PySem.W.hideAll_get _ e fun hm => by
    have q : (H b).isSome = true := (List.mem_filter.mp hm).2
    rw [n] at q; simp at q
theorem of_hidT {h : Heap} {H : Hp} {b : Addr} {o : Obj} (e : (hidT h H).get? b = some o) : h.get? b = some o ∧ H b = none := by
  have e' : h.get? b = some o := PySem.W.of_hideAll (trk h H) e
  refine ⟨e', ?_⟩
  cases q : H b with
  | none => rfl
  | some x =>
    have hm : b ∈ trk h H := List.mem_filter.mpr ⟨List.mem_range.mpr (Heap.lt_size e'), by simp [q]⟩
    have z : (hidT h H).get? b = none := PySem.W.hideAll_none (trk h H) hm
    rw [z] at e; cases e
noncomputable def allNews (g h : Heap) (L : Addr) : List (Addr × Obj) := (List.range h.objs.size).filterMap fun a => if a = L ∨ (g.get? a).isSome = true then none else (h.get? a).map fun o => (a, o)
noncomputable def rest (g h : Heap) (L d : Addr) : List (Addr × Obj) := (allNews g h L).filter fun p => decide (p.1 ≠ d)
end L2
namespace L2
open PySem PySem.Spec PyProof.Rows
structure Mod (K : PySem.W.Frag) (mg : Str → Option Value) (base : Heap) : Prop where
  kin : K.In base
  glob : base.Ns mainGlobals mg
  blt : ∃ mb, base.Ns builtinsNs mb ∧ ∀ x : Str, x ≠ "__name__" → mb x = bootBuiltins x
  nolimit : base.NoLimit
structure Cx where
  prog : Program
  w : World
  K : PySem.W.Frag
  mg : Str → Option Value
  base : Heap
  A : Around
  N : List Str
  s₀ : Shared
  H₀ : Hp
  env : Env
  outer : List Env
  stack : List Env
  ex : List Addr
  fn : Str → Bool
  calm : Bool
  pn : List (Addr × Obj)
  xe : Value → Shared → Prop
noncomputable def frs (l : List Env) : List Addr := l.filterMap (·.frame)
noncomputable abbrev Cx.fs (X : Cx) : List Addr := frs X.outer
noncomputable def Vis (sc : Scope) (x : Str) : Prop := sc.names.lookup x = some .local ∨ sc.names.lookup x = some .cell ∨ sc.names.lookup x = some .free
noncomputable def Loc (sc : Scope) (x : Str) : Prop := sc.names.lookup x = some .local ∨ sc.names.lookup x = some .cell
noncomputable def Look (env : Env) (h : Heap) (m : Str → Option Value) (x : Str) (u : Value) : Prop :=
  (env.kindOf x = some .local ∧ m x = some u) ∨ ((env.kindOf x = some .cell ∨ env.kindOf x = some .free) ∧ ∃ c, env.cells.lookup x = some c ∧ h.IsCell c (some u))
structure Cx.Ok (X : Cx) : Prop where
  mod : Mod X.K X.mg X.base
  kind : X.env.scope.kind = .function
  glob : X.env.globals = mainGlobals
  blt : X.env.builtins = builtinsNs
  above : X.s₀.heap.objs.size ≤ X.env.locals
  inj : ∀ x y c, X.env.cells.lookup x = some c → X.env.cells.lookup y = some c → x = y
  has : ∀ x, (X.env.kindOf x = some .cell ∨ X.env.kindOf x = some .free) → ∃ c, X.env.cells.lookup x = some c
  cab : ∀ x c, X.fn x = true → X.env.cells.lookup x = some c → X.s₀.heap.objs.size ≤ c
  hd : X.calm = true → X.A.handled = none
  frames : X.A.frames = some X.stack
  stk : X.stack = X.outer ∨ (X.stack = X.env :: X.outer ∧ X.env.frame = some X.env.locals)
  exf : ∀ b ∈ X.ex, b ≠ X.env.locals ∧ ∀ x c, X.env.cells.lookup x = some c → c ≠ b
  bs : ∀ b o, X.base.get? b = some o → X.s₀.heap.get? b = some o ∧ X.H₀ b = none
  bsz : X.base.objs.size ≤ X.s₀.heap.objs.size
  noex : ∀ b o, X.base.get? b = some o → b ∉ X.ex
  exfs : ∀ b ∈ X.ex, b ∉ X.fs
  funs : X.s₀.heap.FunFrames X.base X.outer
  frf : ∀ b ∈ X.fs, X.H₀ b = none
structure Inv (X : Cx) (pins : List (Addr × Obj)) (σ : List (Option V)) (H : Hp) (s : Shared) : Prop where
  ok : X.Ok
  os : s.os = X.s₀.os
  bare : AllBare s.gens
  base : Un X.fs X.ex X.H₀ H X.s₀.heap s.heap
  loc : ∃ m, s.heap.Ns X.env.locals m ∧ ∀ (i : Nat) (x : Str) (v : V), X.N[i]? = some x → σ[i]? = some (some v) → Vis X.env.scope x → ∃ u, RelV v u ∧ Look X.env s.heap m x u
  cell : ∀ x c, X.env.cells.lookup x = some c → ∃ v, s.heap.IsCell c v
  free : H X.env.locals = none
  freeC : ∀ x c, X.env.cells.lookup x = some c → H c = none
  pin : ∀ p ∈ X.pn ++ pins, s.heap.get? p.1 = some p.2 ∧ H p.1 = none ∧ p.1 ≠ X.env.locals ∧ p.1 ∉ X.fs ∧ ∀ v, p.2.data ≠ .cell v
  hok : HOk X.prog X.w H s.heap
  len : σ.length = X.N.length
section
variable {X : Cx} {pins : List (Addr × Obj)} {σ : List (Option V)} {H H' : Hp} {s : Shared} {h' : Heap}
theorem Cx.Ok.nofr (ok : X.Ok) {b : Addr} {o : Obj} (e : X.base.get? b = some o) : b ∉ X.fs := fun hb => by
  have := (ok.funs.mem hb).1
  rw [e] at this; cases this
theorem Inv.bs (I : Inv X pins σ H s) : ∀ b o, X.base.get? b = some o → s.heap.get? b = some o ∧ H b = none := fun b o e =>
  ⟨I.base.keep b o (I.ok.bs b o e).1 (I.ok.bs b o e).2 (I.ok.nofr e) (I.ok.noex b o e), I.base.free b o (I.ok.bs b o e).1 (I.ok.bs b o e).2 (I.ok.noex b o e)⟩
theorem Inv.bk (I : Inv X pins σ H s) : ∀ b o, X.base.get? b = some o → s.heap.get? b = some o := fun b o e => (I.bs b o e).1
theorem Inv.mod (I : Inv X pins σ H s) : Mod X.K X.mg X.base := I.ok.mod
theorem Inv.kIn (I : Inv X pins σ H s) : X.K.In s.heap := I.ok.mod.kin.keeps I.bk
theorem Inv.lt (I : Inv X pins σ H s) : X.env.locals < s.heap.objs.size := let ⟨_, hn, _⟩ := I.loc; hn.lt
theorem Inv.sz (I : Inv X pins σ H s) : X.s₀.heap.objs.size ≤ s.heap.objs.size := Nat.le_trans I.ok.above (Nat.le_of_lt I.lt)
theorem Inv.nofs (I : Inv X pins σ H s) {a : Addr} (h : s.heap.objs.size ≤ a) : a ∉ X.fs := fun hb => by
  obtain ⟨_, o, ho, _⟩ := I.ok.funs.mem hb
  exact absurd (Nat.lt_of_lt_of_le (Heap.lt_size ho) (Nat.le_trans I.sz h)) (Nat.lt_irrefl _)
theorem Inv.cne (I : Inv X pins σ H s) : ∀ x c, X.env.cells.lookup x = some c → c ≠ X.env.locals := fun x c e z => by
  obtain ⟨v, o, ho, hd⟩ := I.cell x c e
  obtain ⟨m, ⟨o', es, ep, ho', hd', _⟩, _⟩ := I.loc
  rw [z, ho'] at ho; cases ho; rw [hd'] at hd; cases hd
theorem Inv.funs (I : Inv X pins σ H s) : s.heap.FunFrames X.base X.outer := by
  have all : ∀ (l : List Env), (∀ b ∈ frs l, b ∈ X.fs) → X.s₀.heap.FunFrames X.base l → s.heap.FunFrames X.base l := by
    intro l
    induction l with
    | nil => intro _ _; trivial
    | cons env r ih =>
      intro hs hl
      obtain ⟨hk, ⟨L, o, hf, hn, ho, hd⟩, hr⟩ := hl
      have hL : L ∈ X.fs := hs L (by unfold frs; rw [List.filterMap_cons, hf]; exact List.mem_cons_self)
      obtain ⟨sl, e⟩ := I.base.slot L o ho (I.ok.frf L hL) hL fun z => I.ok.exfs L z hL
      exact ⟨hk, ⟨L, _, hf, hn, e, hd⟩, ih (fun b hb => hs b (by unfold frs; rw [List.filterMap_cons, hf]; exact List.mem_cons_of_mem _ hb)) hr⟩
  exact all X.outer (fun _ hb => hb) I.ok.funs
theorem Inv.stack (I : Inv X pins σ H s) : s.heap.FunFrames X.base X.stack := by
  rcases I.ok.stk with e | ⟨e, hf⟩
  · rw [e]; exact I.funs
  · rw [e]
    obtain ⟨m, hn, _⟩ := I.loc
    refine .cons (by rw [I.ok.kind]; decide) hf hn ?_ I.funs
    exact Heap.get?_none_of_le (Nat.le_trans I.ok.bsz I.ok.above)
theorem Inv.stkSub (I : Inv X pins σ H s) : ∀ b ∈ frs X.stack, b ∈ X.env.locals :: X.fs := fun b hb => by
  rcases I.ok.stk with e | ⟨e, hf⟩
  · rw [e] at hb; exact List.mem_cons_of_mem _ hb
  · rw [e] at hb
    unfold frs at hb
    rw [List.filterMap_cons, hf] at hb
    exact hb
theorem Inv.stkFree (I : Inv X pins σ H s) : ∀ b ∈ frs X.stack, H b = none := fun b hb => by
  rcases List.mem_cons.mp (I.stkSub b hb) with e | hb
  · rw [e]; exact I.free
  · obtain ⟨_, o, ho, _⟩ := I.ok.funs.mem hb
    exact I.base.free b o ho (I.ok.frf b hb) fun z => I.ok.exfs b z hb
theorem Inv.step {g' : Array GenState} {t' : Nat} {d' : Drawn} {ch : List Addr} (I : Inv X pins σ H s)
    (hch : ∀ b ∈ ch, (b ∈ X.ex ∨ X.s₀.heap.objs.size ≤ b) ∧ b ≠ X.env.locals ∧ (∀ x c, X.env.cells.lookup x = some c → c ≠ b) ∧ ∀ p ∈ X.pn ++ pins, p.1 ≠ b)
    (keep : ∀ b o, b ≠ X.env.locals → b ∉ X.fs → b ∉ ch → s.heap.get? b = some o → H b = none → h'.get? b = some o)
    (slot : ∀ b o, b ≠ X.env.locals → b ∈ X.fs → b ∉ ch → s.heap.get? b = some o → H b = none → ∃ sl, h'.get? b = some { o with slots := sl }) (free : ∀ b o, b ∉ ch → s.heap.get? b = some o → H b = none → H' b = none)
    (there : ∀ b o, b ∉ ch → s.heap.get? b = some o → ∃ o', h'.get? b = some o')
    (tups : ∀ b xs, H b = some (.tup xs) → H' b = some (.tup xs)) (frzs : ∀ b o u, H b = some (.frz o u) → H' b = some (.frz o u)) (tbls : ∀ b ps, H b = some (.tbl ps) → ∃ more, H' b = some (.tbl (ps ++ more)))
    (ns : ∀ m, s.heap.Ns X.env.locals m → h'.Ns X.env.locals m) (hok : HOk X.prog X.w H' h') (hg : AllBare g') :
    Inv X pins σ H' { s with heap := h', gens := g', drawn := d', toks := t' } := by
  have neL : ∀ b o, X.s₀.heap.get? b = some o → b ≠ X.env.locals := fun b o e => Nat.ne_of_lt (Nat.lt_of_lt_of_le (Heap.lt_size e) I.ok.above)
  have neC : ∀ b o, X.s₀.heap.get? b = some o → b ∉ X.ex → b ∉ ch := fun b o e hx hb => by
    rcases (hch b hb).1 with z | z
    · exact hx z
    · exact absurd (Nat.lt_of_lt_of_le (Heap.lt_size e) z) (Nat.lt_irrefl _)
  have cellK : ∀ x c, X.env.cells.lookup x = some c → ∀ v, s.heap.IsCell c v → h'.IsCell c v := fun x c e v w1_ => w1_.elim fun o z_ => z_.elim fun ho hd => by
    have nch : c ∉ ch := fun z => (hch c z).2.2.1 x c e rfl
    by_cases hc : c ∈ X.fs
    · obtain ⟨sl, q⟩ := slot c o (I.cne x c e) hc nch ho (I.freeC x c e)
      exact ⟨_, q, hd⟩
    · exact ⟨o, keep c o (I.cne x c e) hc nch ho (I.freeC x c e), hd⟩
  refine ⟨I.ok, I.os, hg, ⟨fun b o e n hb hx => ?_, fun b o e n hb hx => ?_, fun b o e n hx => ?_, fun b o e hx => ?_, fun b xs e => tups b xs (I.base.tups b xs e), fun b o xs e => frzs b o xs (I.base.frzs b o xs e), fun b ps e => ?_⟩, ?_, fun x c e => ?_, ?_, fun x c e => ?_, fun p hp => ?_, hok, I.len⟩
  · exact keep b o (neL b o e) hb (neC b o e hx) (I.base.keep b o e n hb hx) (I.base.free b o e n hx)
  · obtain ⟨sl, e1⟩ := I.base.slot b o e n hb hx
    obtain ⟨sl', e2⟩ := slot b _ (neL b o e) hb (neC b o e hx) e1 (I.base.free b o e n hx)
    exact ⟨sl', e2⟩
  · obtain ⟨o', e1⟩ := I.base.there b o e hx
    exact free b o' (neC b o e hx) e1 (I.base.free b o e n hx)
  · obtain ⟨o', e1⟩ := I.base.there b o e hx
    exact there b o' (neC b o e hx) e1
  · obtain ⟨m1, e1⟩ := I.base.tbls b ps e
    obtain ⟨m2, e2⟩ := tbls b _ e1
    exact ⟨m1 ++ m2, by rw [e2, Array.append_assoc]⟩
  · obtain ⟨m, hn, hl⟩ := I.loc
    refine ⟨m, ns m hn, fun i x v e1 e2 e3 => ?_⟩
    obtain ⟨u, r, l⟩ := hl i x v e1 e2 e3
    refine ⟨u, r, ?_⟩
    rcases l with l | ⟨k, c, e, z⟩
    · exact .inl l
    · exact .inr ⟨k, c, e, cellK x c e _ z⟩
  · obtain ⟨v, z⟩ := I.cell x c e
    exact ⟨v, cellK x c e v z⟩
  · obtain ⟨m, ⟨o, _, _, ho, _⟩, _⟩ := I.loc
    exact free _ o (fun z => (hch _ z).2.1 rfl) ho I.free
  · obtain ⟨v, o, ho, hd⟩ := I.cell x c e
    exact free c o (fun z => (hch c z).2.2.1 x c e rfl) ho (I.freeC x c e)
  · obtain ⟨e, n, ne, nf, d⟩ := I.pin p hp
    have nch : p.1 ∉ ch := fun z => (hch p.1 z).2.2.2 p hp rfl
    exact ⟨keep p.1 p.2 ne nf nch e n, free p.1 p.2 nch e n, ne, nf, d⟩
theorem Inv.un {t' : Nat} (I : Inv X pins σ H s) (u : Un X.fs [] H H' s.heap h') (hok : HOk X.prog X.w H' h') : Inv X pins σ H' { s with heap := h', toks := t' } := by
  obtain ⟨m, ⟨o, es, ep, ho, r⟩, _⟩ := id I.loc
  obtain ⟨sl, hL⟩ := u.any ho I.free (by simp)
  exact I.step (g' := s.gens) (d' := s.drawn) (ch := []) (fun _ z => nomatch z) (fun b o _ hb _ e n => u.keep b o e n hb (by simp)) (fun b o _ hb _ e n => u.slot b o e n hb (by simp)) (fun b o _ e n => u.free b o e n (by simp)) (fun b o _ e => u.there b o e (by simp)) u.tups u.frzs u.tbls (fun m' hm => by
    obtain ⟨o', es', ep', ho', r'⟩ := hm
    rw [ho] at ho'; cases ho'
    exact ⟨_, es', ep', hL, r'⟩) hok I.bare
theorem Inv.call {g' : Array GenState} {t' : Nat} {d' : Drawn} {ch : List Addr} (I : Inv X pins σ H s) (u : Un (frs X.stack) ch H H' s.heap h') (hok : HOk X.prog X.w H' h') (hg : AllBare g')
    (hch : ∀ b ∈ ch, (b ∈ X.ex ∨ X.s₀.heap.objs.size ≤ b) ∧ b ≠ X.env.locals ∧ (∀ x c, X.env.cells.lookup x = some c → c ≠ b) ∧ ∀ p ∈ X.pn ++ pins, p.1 ≠ b) :
    Inv X pins σ H' { s with heap := h', gens := g', drawn := d', toks := t' } := by
  obtain ⟨m, ⟨o, es, ep, ho, r⟩, _⟩ := id I.loc
  obtain ⟨sl, hL⟩ := u.any ho I.free fun z => (hch _ z).2.1 rfl
  exact I.step (ch := ch) hch (fun b o hL hb hc e n => u.keep b o e n (fun z => (List.mem_cons.mp (I.stkSub b z)).elim hL hb) hc) (fun b o _ _ hc e n => u.any e n hc) (fun b o hc e n => u.free b o e n hc) (fun b o hc e => u.there b o e hc) u.tups u.frzs u.tbls (fun m' hm => by
    obtain ⟨o', es', ep', ho', r'⟩ := hm
    rw [ho] at ho'; cases ho'
    exact ⟨_, es', ep', hL, r'⟩) hok hg
theorem Inv.turned {t' : Nat} {it : Addr} (I : Inv X pins σ H s) (k : ∀ b o, b ≠ it → s.heap.get? b = some o → h'.get? b = some o) (hn : H it = none) (hL : it ≠ X.env.locals)
    (h1 : it ∈ X.ex ∨ X.s₀.heap.objs.size ≤ it) (h2 : ∀ x c, X.env.cells.lookup x = some c → c ≠ it) (h3 : ∀ p ∈ X.pn ++ pins, p.1 ≠ it) : Inv X pins σ H { s with heap := h', toks := t' } := by
  have nit : ∀ b u, H b = some u → b ≠ it := fun b u e z => by rw [z, hn] at e; cases e
  refine I.step (g' := s.gens) (d' := s.drawn) (ch := [it]) (fun b hb => ?_) (fun b o _ _ hc e _ => k b o (fun z => hc (by simp [z])) e) (fun b o _ _ hc e _ => ⟨o.slots, k b o (fun z => hc (by simp [z])) e⟩) (fun _ _ _ _ n => n)
    (fun b o hc e => ⟨o, k b o (fun z => hc (by simp [z])) e⟩) (fun _ _ e => e) (fun _ _ _ e => e) (fun b ps e => ⟨#[], by rw [e]; simp⟩) (fun m hm => ?_) (fun b u e => ?_) I.bare
  · have e : b = it := by simpa using hb
    subst e
    exact ⟨h1, hL, h2, h3⟩
  · obtain ⟨o, es, ep, ho, r⟩ := hm
    exact ⟨o, es, ep, k _ o (Ne.symm hL) ho, r⟩
  · refine (I.hok b u e).stay (fun c v hc q => k c v ?_ q) (fun _ q => q) fun _ _ q => q
    rcases hc with z | z
    · rw [z]; exact nit b u e
    · exact nit c _ z
theorem Inv.tok (I : Inv X pins σ H s) (t : Nat) : Inv X pins σ H { s with toks := t } := I.un (h' := s.heap) (t' := t) Un.refl I.hok
theorem Inv.kept {t' : Nat} (I : Inv X pins σ H s) (k : ∀ b u, s.heap.get? b = some u → h'.get? b = some u) : Inv X pins σ H { s with heap := h', toks := t' } := I.un (Un.kept k) (I.hok.kept k)
theorem Inv.laid {a : Addr} {o : HO} {t' : Nat} (I : Inv X pins σ H s) (k : ∀ b u, s.heap.get? b = some u → h'.get? b = some u) (hp : s.heap.objs.size ≤ a) (new : ObjOk X.prog X.w (upd H a o) h' a o) :
    Inv X pins σ (upd H a o) { s with heap := h', toks := t' } := I.un (Un.laid k hp (I.hok.fresh hp)) (I.hok.laid k hp new)
theorem Inv.write {x e : Addr} {o : HO} {t' : Nat} (I : Inv X pins σ H s) (mu : Mut (H x)) (he : e = x ∨ H e = some (.own x)) (k : ∀ b u, b ≠ e → s.heap.get? b = some u → h'.get? b = some u) (heo : ∃ u, h'.get? e = some u)
    (new : ObjOk X.prog X.w (upd H x o) h' x o) : Inv X pins σ (upd H x o) { s with heap := h', toks := t' } := I.un (Un.write mu he k heo) (I.hok.write mu he k heo new)
theorem Inv.pins_of {pins' : List (Addr × Obj)} (I : Inv X pins σ H s) (h : ∀ p ∈ pins', s.heap.get? p.1 = some p.2 ∧ H p.1 = none ∧ p.1 ≠ X.env.locals ∧ p.1 ∉ X.fs ∧ ∀ v, p.2.data ≠ .cell v) : Inv X pins' σ H s :=
  ⟨I.ok, I.os, I.bare, I.base, I.loc, I.cell, I.free, I.freeC, fun p hp => (List.mem_append.mp hp).elim (fun z => I.pin p (List.mem_append_left _ z)) (h p), I.hok, I.len⟩
theorem nodup_ix {N : List Str} (hN : N.Nodup) {i j : Nat} {x : Str} (a : N[i]? = some x) (b : N[j]? = some x) : i = j := by
  obtain ⟨h1, e1⟩ := List.getElem?_eq_some_iff.mp a
  obtain ⟨h2, e2⟩ := List.getElem?_eq_some_iff.mp b
  exact (List.getElem_inj hN).mp (e1.trans e2.symm)
theorem store_ok2 {M : Model} {A : Around} {E : Value → Shared → Prop} {i : Nat} {x : Str} {v : V} {u : Value} {Q : Unit → Shared → Prop} (I : Inv X pins σ H s) (hN : X.N.Nodup) (hi : X.N[i]? = some x) (hx : Loc X.env.scope x) (r : RelV v u)
    (h : ∀ s', Inv X pins (σ.set i (some v)) H s' → (∃ a, Heap.SameBut a s.heap s'.heap ∧ (a = X.env.locals ∨ X.env.cells.lookup x = some a)) → Q () s') (hf : X.fn x = true ∨ X.env.scope.names.lookup x = some .local := by first | exact .inl rfl | exact .inr rfl | assumption) : wpAny M A (storeName X.env x u) Q E s := by
  obtain ⟨m, hn, hl⟩ := id I.loc
  have hcls : (X.env.scope.kind == .class || (X.env.scope.kind == .module && X.env.locals != X.env.globals)) = false := by rw [I.ok.kind]; rfl
  have hiσ : i < σ.length := by rw [I.len]; exact (List.getElem?_eq_some_iff.mp hi).1
  have cne := I.cne
  have tracked : ∀ {a : Addr} {h' : Heap}, (∃ o, s.heap.get? a = some o ∧ H a = none) → Heap.SameBut a s.heap h' → HOk X.prog X.w H h' := fun {a h'} ha hs b ob e => by
    obtain ⟨_, _, hfree⟩ := ha
    refine (I.hok b ob e).stay (fun c w' hc q => (hs.2 c ?_).trans q) (fun _ q => q) fun _ _ q => q
    rintro rfl
    rcases hc with rfl | hc
    · rw [hfree] at e; cases e
    · rw [hfree] at hc; cases hc
  rcases hx with hk | hk
  · refine wpAny_storeName_local hk hn (fun h' hn' hs => ?_) hcls
    obtain ⟨oL, _, _, hoL, _⟩ := id hn
    refine h _ ⟨I.ok, I.os, I.bare, ⟨fun b o e n hb hx => ?_, fun b o e n hb hx => ?_, I.base.free, fun b o e hx => ?_, I.base.tups, I.base.frzs, I.base.tbls⟩, ⟨_, hn', fun j y v' e1 e2 e3 => ?_⟩, fun y c e => ?_, I.free, I.freeC, fun p hp => ?_, tracked ⟨oL, hoL, I.free⟩ hs, by simpa using I.len⟩ ⟨_, hs, .inl rfl⟩
    · exact (hs.2 b (Nat.ne_of_lt (Nat.lt_of_lt_of_le (Heap.lt_size e) I.ok.above))).trans (I.base.keep b o e n hb hx)
    · obtain ⟨sl, e1⟩ := I.base.slot b o e n hb hx
      exact ⟨sl, (hs.2 b (Nat.ne_of_lt (Nat.lt_of_lt_of_le (Heap.lt_size e) I.ok.above))).trans e1⟩
    · obtain ⟨o', e1⟩ := I.base.there b o e hx
      exact ⟨o', (hs.2 b (Nat.ne_of_lt (Nat.lt_of_lt_of_le (Heap.lt_size e) I.ok.above))).trans e1⟩
    · by_cases hj : j = i
      · subst hj
        rw [hi] at e1; cases e1
        rw [List.getElem?_set_self hiσ] at e2
        cases e2
        exact ⟨u, r, .inl ⟨hk, by simp⟩⟩
      · rw [List.getElem?_set_ne (Ne.symm hj)] at e2
        obtain ⟨u', r', q⟩ := hl j y v' e1 e2 e3
        refine ⟨u', r', ?_⟩
        rcases q with ⟨k, e⟩ | ⟨k, c, e, z⟩
        · refine .inl ⟨k, ?_⟩
          have : y ≠ x := fun e => hj (nodup_ix hN e1 (e ▸ hi))
          simp [this, e]
        · exact .inr ⟨k, c, e, z.sameBut hs (cne y c e)⟩
    · obtain ⟨w', z⟩ := I.cell y c e
      exact ⟨w', z.sameBut hs (cne y c e)⟩
    · obtain ⟨e, n, ne, nf, d⟩ := I.pin p hp
      exact ⟨(hs.2 p.1 ne).trans e, n, ne, nf, d⟩
  · have hfn : X.fn x = true := by
      rcases hf with z | z
      · exact z
      · rw [z] at hk; cases hk
    obtain ⟨c, hc⟩ := I.ok.has x (.inl hk)
    obtain ⟨w', z⟩ := I.cell x c hc
    refine wpAny_storeName_cell I.ok.kind hk hc z (fun h' hc' hs => ?_)
    obtain ⟨oc, hoc, hocd⟩ := id z
    refine h { s with heap := h' } ⟨I.ok, I.os, I.bare, ⟨fun b o e n hb hx => ?_, fun b o e n hb hx => ?_, I.base.free, fun b o e hx => ?_, I.base.tups, I.base.frzs, I.base.tbls⟩, ⟨m, hn.sameBut hs (Ne.symm (cne x c hc)), fun j y v' e1 e2 e3 => ?_⟩, fun y c' e => ?_, I.free, I.freeC, fun p hp => ?_, tracked ⟨oc, hoc, I.freeC x c hc⟩ hs, by simpa using I.len⟩ ⟨c, hs, .inr hc⟩
    · exact (hs.2 b (Nat.ne_of_lt (Nat.lt_of_lt_of_le (Heap.lt_size e) (I.ok.cab x c hfn hc)))).trans (I.base.keep b o e n hb hx)
    · obtain ⟨sl, e1⟩ := I.base.slot b o e n hb hx
      exact ⟨sl, (hs.2 b (Nat.ne_of_lt (Nat.lt_of_lt_of_le (Heap.lt_size e) (I.ok.cab x c hfn hc)))).trans e1⟩
    · obtain ⟨o', e1⟩ := I.base.there b o e hx
      exact ⟨o', (hs.2 b (Nat.ne_of_lt (Nat.lt_of_lt_of_le (Heap.lt_size e) (I.ok.cab x c hfn hc)))).trans e1⟩
    · by_cases hj : j = i
      · subst hj
        rw [hi] at e1; cases e1
        rw [List.getElem?_set_self hiσ] at e2
        cases e2
        exact ⟨u, r, .inr ⟨.inl hk, c, hc, hc'⟩⟩
      · rw [List.getElem?_set_ne (Ne.symm hj)] at e2
        obtain ⟨u', r', q⟩ := hl j y v' e1 e2 e3
        refine ⟨u', r', ?_⟩
        rcases q with q | ⟨k, c', e, z'⟩
        · exact .inl q
        · refine .inr ⟨k, c', e, z'.sameBut hs ?_⟩
          rintro rfl
          exact hj (nodup_ix hN e1 (I.ok.inj _ _ _ e hc ▸ hi))
    · by_cases hcc : c' = c
      · subst hcc; exact ⟨_, hc'⟩
      · obtain ⟨w2, z2⟩ := I.cell y c' e
        exact ⟨w2, z2.sameBut hs hcc⟩
    · obtain ⟨e, n, ne, nf, d⟩ := I.pin p hp
      refine ⟨(hs.2 p.1 ?_).trans e, n, ne, nf, d⟩
      intro q
      rw [q, hoc] at e
      have q' : oc = p.2 := Option.some.inj e
      exact d w' (by rw [← q']; exact hocd)
theorem store_ok {M : Model} {A : Around} {E : Value → Shared → Prop} {i : Nat} {x : Str} {v : V} {u : Value} {Q : Unit → Shared → Prop} (I : Inv X pins σ H s) (hN : X.N.Nodup) (hi : X.N[i]? = some x) (hx : Loc X.env.scope x) (r : RelV v u)
    (h : ∀ s', Inv X pins (σ.set i (some v)) H s' → Q () s') (hf : X.fn x = true ∨ X.env.scope.names.lookup x = some .local := by first | exact .inl rfl | exact .inr rfl | assumption) : wpAny M A (storeName X.env x u) Q E s :=
  store_ok2 I hN hi hx r (fun s' I' _ => h s' I') hf
theorem Inv.call' {s' : Shared} {ch : List Addr} (I : Inv X pins σ H s) (ho : s'.os = s.os) (u : Un (frs X.stack) ch H H' s.heap s'.heap) (hok : HOk X.prog X.w H' s'.heap) (hg : AllBare s'.gens)
    (hch : ∀ b ∈ ch, (b ∈ X.ex ∨ X.s₀.heap.objs.size ≤ b) ∧ b ≠ X.env.locals ∧ (∀ x c, X.env.cells.lookup x = some c → c ≠ b) ∧ ∀ p ∈ X.pn ++ pins, p.1 ≠ b) : Inv X pins σ H' s' := by
  obtain ⟨h', g', d', t', o'⟩ := s'
  have e : o' = s.os := ho
  subst e
  exact I.call (g' := g') (t' := t') (d' := d') u hok hg hch
end
noncomputable abbrev XK := Value → Option Addr → Hp → Prop
noncomputable abbrev St := List (Option V)
noncomputable abbrev VK := V → Hp → Prop
noncomputable abbrev TE := St → Hp → VK → Prop
noncomputable abbrev TT := St → Hp → (Bool → Hp → Prop) → Prop
noncomputable abbrev TA := St → Hp → (List V → Hp → Prop) → Prop
structure Ends where
  nx : St → Hp → Prop
  rt : VK
  bk : St → Hp → Prop := fun _ _ => False
  ct : St → Hp → Prop := fun _ _ => False
noncomputable abbrev TS := Ends → St → Hp → Prop
noncomputable def EP (X : Cx) (pins : List (Addr × Obj)) (σ : St) (Q : VK) (u : Value) (s' : Shared) : Prop := ∃ v H', Inv X pins σ H' s' ∧ RelV v u ∧ Q v H'
noncomputable def TP (X : Cx) (pins : List (Addr × Obj)) (σ : St) (Q : Bool → Hp → Prop) (b : Bool) (s' : Shared) : Prop := ∃ H', Inv X pins σ H' s' ∧ Q b H'
noncomputable def AP (X : Cx) (pins : List (Addr × Obj)) (σ : St) (Q : List V → Hp → Prop) (us : List Value) (s' : Shared) : Prop := ∃ vs H', Inv X pins σ H' s' ∧ Vals vs us ∧ Q vs H'
noncomputable def SP (X : Cx) (pins : List (Addr × Obj)) (D : Ends) (f : Flow) (s' : Shared) : Prop :=
  match f with
  | .next => ∃ σ' H', Inv X pins σ' H' s' ∧ D.nx σ' H'
  | .brk => ∃ σ' H', Inv X pins σ' H' s' ∧ D.bk σ' H'
  | .cont => ∃ σ' H', Inv X pins σ' H' s' ∧ D.ct σ' H'
  | .ret u => ∃ v σ' H', Inv X pins σ' H' s' ∧ RelV v u ∧ D.rt v H'
noncomputable def PE (X : Cx) (e : Expr) (t : TE) : Prop :=
  ∀ (pins : List (Addr × Obj)) (s : Shared) (σ : St) (H : Hp) (Q : VK), Inv X pins σ H s → t σ H Q → wpAny (model X.prog X.w) X.A (eval e X.env) (EP X pins σ Q) X.xe s
noncomputable def PT (X : Cx) (e : Expr) (t : TT) : Prop :=
  ∀ (pins : List (Addr × Obj)) (s : Shared) (σ : St) (H : Hp) (Q : Bool → Hp → Prop), Inv X pins σ H s → t σ H Q → wpAny (model X.prog X.w) X.A (isTrue e X.env (eval e X.env)) (TP X pins σ Q) X.xe s
noncomputable def PW (X : Cx) (e : Expr) (t : TT) : Prop :=
  ∀ (whole : Sem Value) (pins : List (Addr × Obj)) (s : Shared) (σ : St) (H : Hp) (Q : Bool → Hp → Prop), Inv X pins σ H s → t σ H Q → wpAny (model X.prog X.w) X.A (isTrue e X.env whole) (TP X pins σ Q) X.xe s
theorem PW.pt {X : Cx} {e : Expr} {t : TT} (h : PW X e t) : PT X e t := h _
noncomputable def PA (X : Cx) (es : List Expr) (t : TA) : Prop :=
  ∀ (pos : Pos) (pins : List (Addr × Obj)) (s : Shared) (σ : St) (H : Hp) (Q : List V → Hp → Prop), Inv X pins σ H s → t σ H Q → wpAny (model X.prog X.w) X.A (spliced (backTo pos (starEach es X.env))) (AP X pins σ Q) X.xe s
noncomputable def PS (X : Cx) (st : Stmt) (t : TS) : Prop :=
  ∀ (pins : List (Addr × Obj)) (s : Shared) (σ : St) (H : Hp) (D : Ends), Inv X pins σ H s → t D σ H → wpAny (model X.prog X.w) X.A (exec st X.env) (SP X pins D) X.xe s
noncomputable def PSs (X : Cx) (st : List Stmt) (t : TS) : Prop :=
  ∀ (pins : List (Addr × Obj)) (s : Shared) (σ : St) (H : Hp) (D : Ends), Inv X pins σ H s → t D σ H → wpAny (model X.prog X.w) X.A (execs st X.env) (SP X pins D) X.xe s
theorem thn {α : Type} {t : Sem α} {Q Q' : α → Shared → Prop} {M : Model} {A : Around} {E : Value → Shared → Prop} {s : Shared} (h : wpAny M A t Q E s) (hQ : ∀ a s, Q a s → Q' a s) : wpAny M A t Q' E s := wpAny_mono h hQ fun _ _ x => x
theorem thnE {t : Sem Value} {X : Cx} {pins : List (Addr × Obj)} {σ : St} {Q : VK} {Q' : Value → Shared → Prop} {M : Model} {A : Around} {E : Value → Shared → Prop} {s : Shared} (h : wpAny M A t (EP X pins σ Q) E s) (k : ∀ u s' v H', Inv X pins σ H' s' → RelV v u → Q v H' → Q' u s') : wpAny M A t Q' E s := thn h fun u s' z => by
  obtain ⟨v, H', a, b, c⟩ := z
  exact k u s' v H' a b c
theorem thnT {t : Sem Bool} {X : Cx} {pins : List (Addr × Obj)} {σ : St} {Q : Bool → Hp → Prop} {Q' : Bool → Shared → Prop} {M : Model} {A : Around} {E : Value → Shared → Prop} {s : Shared} (h : wpAny M A t (TP X pins σ Q) E s) (k : ∀ u s' H', Inv X pins σ H' s' → Q u H' → Q' u s') : wpAny M A t Q' E s := thn h fun u s' z => by
  obtain ⟨H', a, c⟩ := z
  exact k u s' H' a c
theorem thnA {t : Sem (List Value)} {X : Cx} {pins : List (Addr × Obj)} {σ : St} {Q : List V → Hp → Prop} {Q' : List Value → Shared → Prop} {M : Model} {A : Around} {E : Value → Shared → Prop} {s : Shared} (h : wpAny M A t (AP X pins σ Q) E s) (k : ∀ u s' v H', Inv X pins σ H' s' → Vals v u → Q v H' → Q' u s') : wpAny M A t Q' E s := thn h fun u s' z => by
  obtain ⟨v, H', a, b, c⟩ := z
  exact k u s' v H' a b c
end L2
namespace L2
open PySem PySem.Spec PyProof.Rows
section
variable {X : Cx}
noncomputable def tVar (i : Nat) : TE := fun σ H Q => ∃ v, σ[i]? = some (some v) ∧ Q v H
noncomputable def tC (v : V) : TE := fun _ H Q => Q v H
theorem pe_var {i : Nat} {x : Str} {pos : Pos} (hN : X.N[i]? = some x) (hv : Vis X.env.scope x) (hd : (x == ("__debug__" : Str)) = false := by decide) (hcd : (x == ("__classdict__" : Str)) = false := by decide) : PE X (.Name x pos) (tVar i) := by
  intro pins s σ H Q I h
  obtain ⟨v, e, h⟩ := h
  obtain ⟨m, hn, hl⟩ := I.loc
  obtain ⟨u, r, l⟩ := hl i x v hN e hv
  have fin : EP X pins σ Q u s := ⟨v, H, I, r, h⟩
  rcases l with ⟨hk, hm⟩ | ⟨hk, c, hc, hcell⟩
  · exact wpAny_Name (wpAny_loadName_local I.ok.kind hk hn hm fin) hd
  · rcases hk with hk | hk
    · exact wpAny_Name (wpAny_loadName_cell I.ok.kind hk hc hcell fin) hd
    · exact wpAny_Name (wpAny_loadName_free I.ok.kind hk hc hcell fin hcd) hd
theorem pe_int {i j pos} : PE X (.Constant (.int i) j pos) (tC (.int i)) := fun _ _ _ H _ I h => wpAny_Constant_int ⟨.int i, H, I.tok _, ⟨_, rfl⟩, h⟩
theorem pe_bl {b j pos} : PE X (.Constant (.bool b) j pos) (tC (.bl b)) := fun _ _ _ H _ I h => Constant_bool ⟨.bl b, H, I, rfl, h⟩
theorem pe_str {x j pos} : PE X (.Constant (.str x) j pos) (tC (.str x)) := fun _ _ _ H _ I h => Calls.Constant_str ⟨.str x, H, I.tok _, ⟨_, rfl⟩, h⟩
noncomputable def Gl (X : Cx) (x : Str) : Prop := X.env.kindOf x = some .globalImplicit
theorem ld_glob {E : Value → Shared → Prop} {pins : List (Addr × Obj)} {s : Shared} {σ : St} {H : Hp} {x : Str} {u : Value} {pos : Pos} {Q : Value → Shared → Prop} (I : Inv X pins σ H s) (hg : Gl X x) (hm : X.mg x = some u) (h : Q u s)
    (hd : (x == ("__debug__" : Str)) = false := by decide) : wpAny (model X.prog X.w) X.A (eval (.Name x pos) X.env) Q E s :=
  Calls.Name_function_global I.ok.kind hg (Calls.loadGlobal_global (by rw [I.ok.glob]; exact I.mod.glob.keeps I.bk) hm h) hd
theorem ld_blt {E : Value → Shared → Prop} {pins : List (Addr × Obj)} {s : Shared} {σ : St} {H : Hp} {x : Str} {u : Value} {pos : Pos} {Q : Value → Shared → Prop} (I : Inv X pins σ H s) (hg : Gl X x) (hm : X.mg x = none) (hv : bootBuiltins x = some u) (h : Q u s)
    (hn : x ≠ "__name__" := by decide) (hd : (x == ("__debug__" : Str)) = false := by decide) : wpAny (model X.prog X.w) X.A (eval (.Name x pos) X.env) Q E s := by
  obtain ⟨mb, h1, h2⟩ := I.mod.blt
  exact Calls.Name_function_global I.ok.kind hg (Calls.loadGlobal_builtin (by rw [I.ok.glob]; exact I.mod.glob.keeps I.bk) hm (by rw [I.ok.blt]; exact h1.keeps I.bk) ((h2 x hn).trans hv) h) hd
theorem pe_bltn {x : Str} {v : V} {u : Value} {pos : Pos} (hg : Gl X x) (hm : X.mg x = none) (hv : bootBuiltins x = some u) (r : RelV v u) (hn : x ≠ "__name__" := by decide) (hd : (x == ("__debug__" : Str)) = false := by decide) : PE X (.Name x pos) (tC v) :=
  fun _ _ _ H _ I h => ld_blt I hg hm hv ⟨v, H, I, r, h⟩ hn hd
variable {a b : Expr} {ta tb : TE} {pos : Pos}
variable {tA tB' : TT} {rest : List Expr}
noncomputable def tAnd (t u : TT) : TT := fun σ H Q => t σ H fun c H1 => if c = true then u σ H1 Q else Q false H1
noncomputable def tOr (t u : TT) : TT := fun σ H Q => t σ H fun c H1 => if c = true then Q true H1 else u σ H1 Q
noncomputable def tNot (t : TT) : TT := fun σ H Q => t σ H fun c H1 => Q (!c) H1
theorem pw_and1 (ha : PT X a tA) : PW X (.BoolOp .And [a] pos) tA := by
  intro wh pins s σ H Q I h
  refine isTrue_and (thn (ha pins s σ H Q I h) fun c s1 e => ?_)
  cases c with
  | true => exact isTrue_and_nil e
  | false => exact e
theorem pw_or1 (ha : PT X a tA) : PW X (.BoolOp .Or [a] pos) tA := by
  intro wh pins s σ H Q I h
  refine isTrue_or (thn (ha pins s σ H Q I h) fun c s1 e => ?_)
  cases c with
  | false => exact isTrue_or_nil e
  | true => exact e
theorem pw_and (ha : PT X a tA) (hb : PW X (.BoolOp .And (b :: rest) pos) tB') : PW X (.BoolOp .And (a :: b :: rest) pos) (tAnd tA tB') := by
  intro wh pins s σ H Q I h
  refine isTrue_and (thnT (ha pins s σ H _ I h) fun c s1 H1 I1 q1 => ?_)
  cases c with
  | true => exact hb wh pins s1 σ H1 Q I1 q1
  | false => exact ⟨H1, I1, q1⟩
theorem pw_or (ha : PT X a tA) (hb : PW X (.BoolOp .Or (b :: rest) pos) tB') : PW X (.BoolOp .Or (a :: b :: rest) pos) (tOr tA tB') := by
  intro wh pins s σ H Q I h
  refine isTrue_or (thnT (ha pins s σ H _ I h) fun c s1 H1 I1 q1 => ?_)
  cases c with
  | true => exact ⟨H1, I1, q1⟩
  | false => exact hb wh pins s1 σ H1 Q I1 q1
theorem pt_not (ha : PT X a tA) : PT X (.UnaryOp .Not a pos) (tNot tA) := by
  intro pins s σ H Q I h
  exact isTrue_not (ha pins s σ H (fun c H1 => Q (!c) H1) I h)
noncomputable def tAndV (ta tb : TE) : TE := fun σ H Q => ta σ H fun x H1 => ∃ c, x = .bl c ∧ if c = true then tb σ H1 Q else Q (.bl false) H1
noncomputable def tOrV (ta tb : TE) : TE := fun σ H Q => ta σ H fun x H1 => ∃ c, x = .bl c ∧ if c = true then Q (.bl true) H1 else tb σ H1 Q
noncomputable def tNotV (ta : TE) : TE := fun σ H Q => ta σ H fun x H1 => ∃ c, x = .bl c ∧ Q (.bl (!c)) H1
theorem pe_one {op} {t : TE} (h : PE X a t) : PE X (.BoolOp op [a] pos) t := fun pins s σ H Q I hw => BoolOp_one (h pins s σ H Q I hw)
theorem pe_and (ha : PE X a ta) (hb : PE X (.BoolOp .And (b :: rest) pos) tb) : PE X (.BoolOp .And (a :: b :: rest) pos) (tAndV ta tb) := by
  intro pins s σ H Q I h
  refine BoolOp_and (thnE (ha pins s σ H _ I h) fun v s1 x H1 I1 r1 q1 => ?_)
  obtain ⟨c, rfl, q1⟩ := q1
  cases r1
  refine wpAny_truthy_bool ?_
  cases c with
  | true => exact hb pins s1 σ H1 Q I1 q1
  | false => exact ⟨.bl false, H1, I1, rfl, q1⟩
theorem pe_or (ha : PE X a ta) (hb : PE X (.BoolOp .Or (b :: rest) pos) tb) : PE X (.BoolOp .Or (a :: b :: rest) pos) (tOrV ta tb) := by
  intro pins s σ H Q I h
  refine BoolOp_or (thnE (ha pins s σ H _ I h) fun v s1 x H1 I1 r1 q1 => ?_)
  obtain ⟨c, rfl, q1⟩ := q1
  cases r1
  refine wpAny_truthy_bool ?_
  cases c with
  | false => exact hb pins s1 σ H1 Q I1 q1
  | true => exact ⟨.bl true, H1, I1, rfl, q1⟩
theorem pe_not (ha : PE X a ta) : PE X (.UnaryOp .Not a pos) (tNotV ta) := by
  intro pins s σ H Q I h
  refine UnaryOp_ (thnE (ha pins s σ H _ I h) fun v s1 x H1 I1 r1 q1 => ?_)
  obtain ⟨c, rfl, q1⟩ := q1
  cases r1
  exact not_of (wpAny_truthy_bool ⟨.bl (!c), H1, I1, rfl, q1⟩)
end
end L2
namespace L2
open PySem PySem.Spec PyProof.Rows
noncomputable def SqL (K : PySem.W.Frag) (H : Hp) (a : Addr) (xs : List V) : Prop :=
  Rd H a (.lst xs) ∨
    ∃ (o : Obj) (its : Array Value) (n : Nat), K.lookup a = some o ∧ o.cls = .type "list" ∧ o.dict = none ∧ o.data = .seq its n ∧ its.size ≤ sizeLine ∧ Vals xs its.toList
noncomputable def SqT (K : PySem.W.Frag) (H : Hp) (a : Addr) (xs : List V) : Prop :=
  Rd H a (.tup xs) ∨
    ∃ (o : Obj) (its : Array Value) (n : Nat), K.lookup a = some o ∧ o.cls = .type "tuple" ∧ o.data = .seq its n ∧ its.size ≤ sizeLine ∧ Vals xs its.toList
noncomputable def absV : Value → Option V
  | .none => some .non
  | .bool b => some (.bl b)
  | .int i _ => some (.int i)
  | .str x _ => some (.str x)
  | .bytes b _ => some (.byt b)
  | .float b _ => some (.flt b)
  | .ref a => some (.ref a)
  | .type n => some (.ty n)
  | _ => none
theorem RelV.abs {x : V} {u : Value} (r : RelV x u) : absV u = some x := by
  cases x with
  | non => cases r; rfl
  | bl _ => cases r; rfl
  | int _ => obtain ⟨t, rfl⟩ := r; rfl
  | str _ => obtain ⟨t, rfl⟩ := r; rfl
  | byt _ => obtain ⟨t, rfl⟩ := r; rfl
  | flt _ => obtain ⟨t, rfl⟩ := r; rfl
  | ref _ => cases r; rfl
  | ty _ => cases r; rfl
theorem RelV.inj {x y : V} {u : Value} (r : RelV x u) (q : RelV y u) : x = y := Option.some.inj (r.abs.symm.trans q.abs)
theorem Vals.inj : ∀ {xs ys : List V} {us : List Value}, Vals xs us → Vals ys us → xs = ys
  | _, _, _, .nil, .nil => rfl
  | _, _, _, .cons r t, .cons r' t' => by rw [r.inj r', Vals.inj t t']
section
variable {X : Cx} {pins : List (Addr × Obj)} {σ : St} {H : Hp} {s : Shared} {a : Addr} {xs ys : List V}
theorem Inv.list (I : Inv X pins σ H s) (h : SqL X.K H a xs) : ∃ its : List Value, Vals xs its ∧ PlainL s.heap a its.toArray ∧ xs.length ≤ sizeLine := by
  rcases h with h | ⟨o, its, n, hk, hc, hd, hs, hz, r⟩
  · obtain ⟨z, its, n, r, e⟩ := h.ok I.hok
    exact ⟨its, r, ⟨_, n, e, rfl, rfl, rfl⟩, z⟩
  · refine ⟨its.toList, r, ⟨o, n, I.kIn a o hk, hc, hd, by simpa using hs⟩, ?_⟩
    have e := r.length
    simp only [Array.length_toList] at e
    omega
theorem Inv.tuple (I : Inv X pins σ H s) (h : SqT X.K H a xs) : ∃ its : List Value, Vals xs its ∧ IsTup s.heap a its.toArray ∧ xs.length ≤ sizeLine := by
  rcases h with h | ⟨o, its, n, hk, hc, hs, hz, r⟩
  · obtain ⟨z, its, r, p⟩ := h.ok I.hok
    exact ⟨its, r, p, z⟩
  · refine ⟨its.toList, r, ⟨o, I.kIn a o hk, hc, n, by simpa using hs⟩, ?_⟩
    have e := r.length
    simp only [Array.length_toList] at e
    omega
theorem Inv.list_inj (I : Inv X pins σ H s) (h : SqL X.K H a xs) (h' : SqL X.K H a ys) : xs = ys := by
  obtain ⟨its, r, ⟨o, n, e, _, _, d⟩, _⟩ := I.list h
  obtain ⟨its', r', ⟨o', n', e', _, _, d'⟩, _⟩ := I.list h'
  rw [e] at e'; cases e'
  rw [d] at d'
  injection d' with d1 _
  have : its = its' := by simpa using congrArg Array.toList d1
  subst this
  exact r.inj r'
theorem Inv.tuple_inj (I : Inv X pins σ H s) (h : SqT X.K H a xs) (h' : SqT X.K H a ys) : xs = ys := by
  obtain ⟨its, r, ⟨o, e, _, n, d⟩, _⟩ := I.tuple h
  obtain ⟨its', r', ⟨o', e', _, n', d'⟩, _⟩ := I.tuple h'
  rw [e] at e'; cases e'
  rw [d] at d'
  injection d' with d1 _
  have : its = its' := by simpa using congrArg Array.toList d1
  subst this
  exact r.inj r'
end
noncomputable abbrev Cx.wish (X : Cx) (E : Value → Shared → Prop) : Cx := { X with xe := E }
noncomputable abbrev Cx.nox (X : Cx) : Cx := X.wish fun _ _ => False
theorem Cx.Ok.wish {X : Cx} (ok : X.Ok) (E : Value → Shared → Prop) : (X.wish E).Ok :=
  ⟨ok.mod, ok.kind, ok.glob, ok.blt, ok.above, ok.inj, ok.has, ok.cab, ok.hd, ok.frames, ok.stk, ok.exf, ok.bs, ok.bsz, ok.noex, ok.exfs, ok.funs, ok.frf⟩
theorem Cx.Ok.unwish {X : Cx} {E : Value → Shared → Prop} (ok : (X.wish E).Ok) : X.Ok :=
  ⟨ok.mod, ok.kind, ok.glob, ok.blt, ok.above, ok.inj, ok.has, ok.cab, ok.hd, ok.frames, ok.stk, ok.exf, ok.bs, ok.bsz, ok.noex, ok.exfs, ok.funs, ok.frf⟩
section
variable {X : Cx} {pins : List (Addr × Obj)} {σ : St} {H : Hp} {s : Shared} {E : Value → Shared → Prop}
theorem Inv.wish (I : Inv X pins σ H s) (E : Value → Shared → Prop) : Inv (X.wish E) pins σ H s := ⟨I.ok.wish E, I.os, I.bare, I.base, I.loc, I.cell, I.free, I.freeC, I.pin, I.hok, I.len⟩
theorem Inv.unwish (I : Inv (X.wish E) pins σ H s) : Inv X pins σ H s := ⟨I.ok.unwish, I.os, I.bare, I.base, I.loc, I.cell, I.free, I.freeC, I.pin, I.hok, I.len⟩
theorem SP.unwish {D : Ends} {f : Flow} {s' : Shared} (h : SP (X.wish E) pins D f s') : SP X pins D f s' := by
  cases f with
  | next => obtain ⟨σ', H', I, q⟩ := h; exact ⟨σ', H', I.unwish, q⟩
  | brk => obtain ⟨σ', H', I, q⟩ := h; exact ⟨σ', H', I.unwish, q⟩
  | cont => obtain ⟨σ', H', I, q⟩ := h; exact ⟨σ', H', I.unwish, q⟩
  | ret u => obtain ⟨v, σ', H', I, r, q⟩ := h; exact ⟨v, σ', H', I.unwish, r, q⟩
theorem PSs.nox {st : List Stmt} {t : TS} (h : PSs X.nox st t) : PSs X st t := fun pins s σ H D I hw =>
  wpAny_mono (h pins s σ H D (I.wish _) hw) (fun _ _ q => q.unwish) fun _ _ z => False.elim z
end
section
variable {X : Cx} {st : Stmt} {rest : List Stmt} {t u : TS} {e : Expr} {te : TE} {pos : Pos}
noncomputable def tNext : TS := fun D σ H => D.nx σ H
noncomputable def tSeq (t u : TS) : TS := fun D σ H => t { D with nx := u D } σ H
theorem pss_nil : PSs X [] tNext := fun _ _ σ H _ I h => wpAny_execs_nil ⟨σ, H, I, h⟩
theorem pss_cons (h1 : PS X st t) (h2 : PSs X rest u) : PSs X (st :: rest) (tSeq t u) := by
  intro pins s σ H D I h
  refine wpAny_execs_cons (thn (h1 pins s σ H { D with nx := u D } I h) fun f s1 q => ?_)
  cases f with
  | next =>
    obtain ⟨σ', H', I', q⟩ := q
    exact h2 pins s1 σ' H' D I' q
  | ret v => exact q
  | brk => exact q
  | cont => exact q
theorem pss_one (h1 : PS X st t) : PSs X [st] t := by
  intro pins s σ H D I h
  refine wpAny_execs_cons (thn (h1 pins s σ H D I h) fun f s1 q => ?_)
  cases f with
  | next => exact wpAny_execs_nil q
  | ret v => exact q
  | brk => exact q
  | cont => exact q
theorem Inv.quiet {pins : List (Addr × Obj)} {σ : St} {H : Hp} {s : Shared} (I : Inv X pins σ H s) : interactive X.env = false := by simp [interactive, I.ok.kind]
noncomputable def tDrop (te : TE) : TS := fun D σ H => te σ H fun _ H1 => D.nx σ H1
theorem ps_expr (he : PE X e te) (hs : swapsWith e none pos.line X.env = pure false := by rfl) : PS X (.Expr e pos) (tDrop te) := by
  intro pins s σ H D I h
  exact wpAny_Expr_any (thnE (he pins s σ H _ I h) fun v s1 x H1 I1 r1 q1 => ⟨σ, H1, I1, q1⟩) I.quiet hs
noncomputable def tRet (te : TE) : TS := fun D σ H => te σ H D.rt
theorem ps_ret (he : PE X e te) : PS X (.Return (some e) pos) (tRet te) := by
  intro pins s σ H D I h
  exact wpAny_Return_some (thnE (he pins s σ H _ I h) fun v s1 x H1 I1 r1 q1 => ⟨x, σ, H1, I1, r1, q1⟩)
noncomputable def tIfS (c : TT) (t u : TS) : TS := fun D σ H => c σ H fun b H1 => if b = true then t D σ H1 else u D σ H1
theorem ps_if {c : Expr} {a b : List Stmt} {tc : TT} (hc : PT X c tc) (ha : PSs X a t) (hb : PSs X b u) : PS X (.If c a b pos) (tIfS tc t u) := by
  intro pins s σ H D I h
  refine wpAny_If (thnT (hc pins s σ H _ I h) fun d s1 H1 I1 q1 => ?_)
  cases d with
  | true => exact ha pins s1 σ H1 D I1 q1
  | false => exact hb pins s1 σ H1 D I1 q1
end
noncomputable abbrev TG := V → St → Hp → (St → Hp → Prop) → Prop
noncomputable abbrev TGs := List V → St → Hp → (St → Hp → Prop) → Prop
noncomputable def PG (X : Cx) (target : Expr) (t : TG) : Prop :=
  ∀ (pins : List (Addr × Obj)) (s : Shared) (σ : St) (H : Hp) (v : V) (u : Value) (Q : St → Hp → Prop), Inv X pins σ H s → RelV v u → t v σ H Q →
    wpAny (model X.prog X.w) X.A (assign target X.env u) (fun _ s' => ∃ σ' H', Inv X pins σ' H' s' ∧ Q σ' H') X.xe s
noncomputable def PGs (X : Cx) (ts : List Expr) (t : TGs) : Prop :=
  ∀ (pins : List (Addr × Obj)) (s : Shared) (σ : St) (H : Hp) (vs : List V) (us : List Value) (Q : St → Hp → Prop), Inv X pins σ H s → Vals vs us → t vs σ H Q →
    wpAny (model X.prog X.w) X.A (assignInOrder ((assignEach ts X.env).map (·.2)) us) (fun _ s' => ∃ σ' H', Inv X pins σ' H' s' ∧ Q σ' H') X.xe s
noncomputable abbrev TSet := V → V → V → Hp → (Hp → Prop) → Prop
noncomputable def PSet (X : Cx) (t : TSet) : Prop :=
  ∀ (pins : List (Addr × Obj)) (s : Shared) (σ : St) (H : Hp) (o i v : V) (ov iv u : Value) (Q : Hp → Prop), Inv X pins σ H s → RelV o ov → RelV i iv → RelV v u → t o i v H Q →
    wpAny (model X.prog X.w) X.A (setItem ov iv u) (fun _ s' => ∃ H', Inv X pins σ H' s' ∧ Q H') X.xe s
section
variable {X : Cx} {pos : Pos}
noncomputable def gName (i : Nat) : TG := fun v σ H Q => Q (σ.set i (some v)) H
theorem pg_name {i : Nat} {x : Str} (hN : X.N.Nodup) (hi : X.N[i]? = some x) (hx : Loc X.env.scope x) (hf : X.fn x = true ∨ X.env.scope.names.lookup x = some .local := by first | exact .inl rfl | exact .inr rfl | assumption) : PG X (.Name x pos) (gName i) := by
  intro pins s σ H v u Q I r h
  exact wpAny_assign_Name (store_ok I hN hi hx r (fun s' I' => ⟨_, H, I', h⟩) hf)
noncomputable def gNil : TGs := fun vs σ H Q => vs = [] ∧ Q σ H
noncomputable def gCons (t : TG) (u : TGs) : TGs := fun vs σ H Q => ∃ v r, vs = v :: r ∧ t v σ H fun σ' H' => u r σ' H' Q
theorem pgs_nil : PGs X [] gNil := by
  intro pins s σ H vs us Q I r h
  obtain ⟨e, h⟩ := h
  subst e
  cases r
  exact assignInOrder_nil ⟨σ, H, I, h⟩
theorem pgs_cons {e : Expr} {es : List Expr} {t : TG} {u : TGs} (h1 : PG X e t) (h2 : PGs X es u)
    (hs : (assignEach (e :: es) X.env).map (·.2) = assign e X.env :: (assignEach es X.env).map (·.2) := by rfl) : PGs X (e :: es) (gCons t u) := by
  intro pins s σ H vs us Q I r h
  obtain ⟨v, vr, e1, h⟩ := h
  subst e1
  cases r with
  | cons r rr =>
    rw [hs]
    refine assignInOrder_cons (thn (h1 pins s σ H _ _ _ I r h) fun _ s1 w1_ => w1_.elim fun σ1 z_ => z_.elim fun H1 z_ => z_.elim fun I1 q1 => ?_)
    exact h2 pins s1 σ1 H1 _ _ Q I1 rr q1
noncomputable def gTup (K : PySem.W.Frag) (n : Nat) (t : TGs) : TG := fun v σ H Q => ∃ a xs, v = .ref a ∧ SqT K H a xs ∧ xs.length = n ∧ t xs σ H Q
theorem pg_tup {es : List Expr} {k : Nat} {t : TGs} {n : Nat} (hc : X.calm = true) (h : PGs X es t)
    (hn : (assignEach es X.env).length = n := by rfl) (hst : (assignEach es X.env).findIdx? (·.1) = none := by rfl) : PG X (.Tuple es k pos) (gTup X.K n t) := by
  intro pins s σ H v u Q I r hw
  obtain ⟨a, xs, e1, hq, hl, hw⟩ := hw
  subst e1
  cases r
  obtain ⟨its, rv, ht, hz⟩ := I.tuple hq
  refine assign_Tuple_tuple (I.ok.hd hc) ht (by simp [hn, ← hl, rv.length]) hst fun h' hx => ?_
  have I1 : Inv X pins σ H { s with heap := h' } := I.kept (t' := s.toks) fun b o e => hx b o (Nat.ne_of_lt (Heap.lt_size e)) e
  exact h pins _ σ H xs _ Q I1 (by simpa using rv) hw
noncomputable def gSub (to ti : TE) (t : TSet) : TG := fun v σ H Q => to σ H fun o H1 => ti σ H1 fun i H2 => t o i v H2 fun H3 => Q σ H3
theorem pg_sub {o i : Expr} {to ti : TE} {t : TSet} (ho : PE X o to) (hi : PE X i ti) (hs : PSet X t)
    (ha : ∀ v, assign (.Subscript o i pos) X.env v = (do
      let ov ← holding [v] (eval o X.env)
      let iv ← holding [v, ov] (eval i X.env)
      standAt pos
      holding [v, ov, iv] (setItem ov iv v)
      release [v, ov, iv] []) := by intro _; rfl) : PG X (.Subscript o i pos) (gSub to ti t) := by
  intro pins s σ H v u Q I r h
  rw [ha]
  refine wpAny_bind (wpAny_holding (thnE (ho pins s σ H _ I h) fun ov s1 x H1 I1 r1 q1 => ?_))
  refine wpAny_bind (wpAny_holding (thnE (hi pins s1 σ H1 _ I1 q1) fun iv s2 y H2 I2 r2 q2 => ?_))
  refine wpAny_bind (wpAny_standAt (wpAny_bind (wpAny_holding (thn (hs pins s2 σ H2 x y v ov iv u _ I2 r1 r2 r q2) fun _ s3 w1_ => w1_.elim fun H3 z_ => z_.elim fun I3 q3 => ?_))))
  exact wpAny_release ⟨σ, H3, I3, q3⟩
noncomputable def tAsg (te : TE) (g : TG) : TS := fun D σ H => te σ H fun x H1 => g x σ H1 D.nx
theorem ps_asg {tg e : Expr} {te : TE} {g : TG} (he : PE X e te) (hg : PG X tg g) (hs : swapsWithSole [tg] e pos.line X.env = pure false := by rfl) (hw : swappedStores [tg] e X.env = pure none := by rfl)
    (h1 : (assignEach [tg] X.env).map (·.2) = [assign tg X.env] := by rfl) : PS X (.Assign [tg] e pos) (tAsg te g) := by
  intro pins s σ H D I h
  refine wpAny_Assign_stores (thnE (he pins s σ H _ I h) fun v s1 x H1 I1 r1 q1 => ?_) hs hw
  rw [h1]
  exact thn (hg pins s1 σ H1 x v _ I1 r1 q1) fun _ s2 q => q
theorem ps_set {i : Nat} {x : Str} {e : Expr} {te : TE} {pos' : Pos} (hN : X.N.Nodup) (hi : X.N[i]? = some x) (hx : Loc X.env.scope x) (he : PE X e te) (hs : swapsWith e (some (.Name x pos')) pos.line X.env = pure false := by rfl) (hf : X.fn x = true ∨ X.env.scope.names.lookup x = some .local := by first | exact .inl rfl | exact .inr rfl | assumption) :
    PS X (.Assign [.Name x pos'] e pos) (tAsg te (gName i)) := by
  intro pins s σ H D I h
  refine wpAny_Assign_Name (thnE (he pins s σ H _ I h) fun v s1 y H1 I1 r1 q1 => ?_) hs
  exact store_ok I1 hN hi hx r1 (fun s2 I2 => ⟨_, H1, I2, q1⟩) hf
end
structure It where
  go : Nat → Hp → Prop
  yld : Nat → Hp → V → Hp → Prop
  stop : Nat → Hp → Prop
noncomputable def FpOk (X : Cx) (pins : List (Addr × Obj)) (H : Hp) (b : Addr) : Prop :=
  H b = none ∧ b ≠ X.env.locals ∧ b ∉ X.fs ∧ (b ∈ X.ex ∨ X.s₀.heap.objs.size ≤ b) ∧ (∀ x c, X.env.cells.lookup x = some c → c ≠ b) ∧ ∀ p ∈ X.pn ++ pins, p.1 ≠ b
theorem Inv.fpOk {X : Cx} {pins : List (Addr × Obj)} {σ : St} {H H' : Hp} {s : Shared} {b : Addr} (I : Inv X pins σ H s) (hb : s.heap.objs.size ≤ b) (hn : H' b = none) : FpOk X pins H' b := by
  refine ⟨hn, Nat.ne_of_gt (Nat.lt_of_lt_of_le I.lt hb), I.nofs hb, .inr (Nat.le_trans I.sz hb), fun x c e z => ?_, fun p hp z => ?_⟩
  · obtain ⟨v, q⟩ := I.cell x c e
    exact absurd (Nat.lt_of_lt_of_le q.lt (by rw [z]; exact hb)) (Nat.lt_irrefl _)
  · exact absurd (Nat.lt_of_lt_of_le (Heap.lt_size (I.pin p hp).1) (by rw [z]; exact hb)) (Nat.lt_irrefl _)
structure Turn (P : Program) (w : World) (K : PySem.W.Frag) (tg : Expr) (J : It) (fp : List Addr) (it : Addr) (tn : Nat → Heap → Prop) : Prop where
  mem : it ∈ fp
  obj : ∀ i h, tn i h → ∀ b ∈ fp, ∃ o, h.get? b = some o ∧ ∀ v, o.data ≠ .cell v
  keep : ∀ i h h', tn i h → (∀ b ∈ fp, ∀ o, h.get? b = some o → h'.get? b = some o) → tn i h'
  item : ∀ (X : Cx), X.prog = P → X.w = w → X.K = K → X.calm = true → ∀ (i : Nat) (pins : List (Addr × Obj)) (s : Shared) (σ : St) (H : Hp) (E : Value → Shared → Prop), Inv X pins σ H s → (∀ b ∈ fp, FpOk X pins H b) → tn i s.heap → J.go i H →
    wpAny (model P w) X.A (pyNext (.ref it)) (fun r s1 => ∃ u, r = some u ∧
      wpAny (model P w) X.A (letOwnedTupleGo tg (.ref it) u) (fun _ s2 => ∃ x H', Inv X pins σ H' s2 ∧ RelV x u ∧ J.yld i H x H' ∧ tn (i + 1) s2.heap ∧ ∀ b ∈ fp, H' b = none) E s1) E s
  done : ∀ (X : Cx), X.prog = P → X.w = w → X.K = K → X.calm = true → ∀ (i : Nat) (pins : List (Addr × Obj)) (s : Shared) (σ : St) (H : Hp) (E : Value → Shared → Prop), Inv X pins σ H s → (∀ b ∈ fp, FpOk X pins H b) → tn i s.heap → J.stop i H →
    wpAny (model P w) X.A (pyNext (.ref it)) (fun r s1 => r = none ∧ Inv X pins σ H s1) E s
  self : ∀ (A : Around) (i : Nat) (s : Shared) (Q : Value → Shared → Prop) (E : Value → Shared → Prop), tn i s.heap → Q (.ref it) s → wpAny (model P w) A (pyIter (.ref it)) Q E s
noncomputable abbrev TI := St → Hp → (It → Hp → Prop) → Prop
noncomputable def PIE (X : Cx) (pins : List (Addr × Obj)) (σ : St) (tg : Expr) (R : It → Hp → Prop) (itv : Value) (s2 : Shared) : Prop :=
  ∃ (it : Addr) (fp : List Addr) (tn : Nat → Heap → Prop) (J : It) (H' : Hp), itv = .ref it ∧ Inv X pins σ H' s2 ∧ Turn X.prog X.w X.K tg J fp it tn ∧ tn 0 s2.heap ∧ (∀ b ∈ fp, FpOk X pins H' b) ∧ R J H'
noncomputable def PI (X : Cx) (tg iter : Expr) (wi : TI) : Prop :=
  ∀ (pins : List (Addr × Obj)) (s : Shared) (σ : St) (H : Hp) (R : It → Hp → Prop), Inv X pins σ H s → wi σ H R →
    wpAny (model X.prog X.w) X.A (eval iter X.env) (fun v s1 => wpAny (model X.prog X.w) X.A (pyIter v) (PIE X pins σ tg R) X.xe s1) X.xe s
theorem go_of {M : Model} {A : Around} {E : Value → Shared → Prop} {s : Shared} {tg : Expr} {it : Addr} {u : Value} {o : Obj} {n : String} {vs : Array Value} {Q : Unit → Shared → Prop} (ho : s.heap.get? it = some o) (hc : o.cls = .type n) (hd : o.data = .fields vs)
    (hn : ["enumerate", "zip", "dict_itemiterator", "dict_reverseitemiterator", "odict_iterator", "itertools.zip_longest", "itertools.pairwise"].contains n = false) (hQ : Q () s) : wpAny M A (letOwnedTupleGo tg (.ref it) u) Q E s := by
  unfold letOwnedTupleGo
  cases tg <;> first
    | exact wpAny_pure hQ
    | (cases u <;> first
        | exact wpAny_pure hQ
        | (refine wpAny_bind (wpAny_load ho ?_)
           rw [hc, hd]
           show wpAny M A (if (["enumerate", "zip", "dict_itemiterator", "dict_reverseitemiterator", "odict_iterator", "itertools.zip_longest", "itertools.pairwise"].contains n && vs[0]? == some (rawInt _)) = true then _ else _) Q E s
           rw [if_neg (by intro h; rw [hn, Bool.false_and] at h; cases h)]
           exact wpAny_pure hQ))
noncomputable def Itl (K : PySem.W.Frag) (a : Addr) : It :=
  ⟨fun i H => ∃ xs x, SqL K H a xs ∧ xs[i]? = some x, fun i H x H' => H' = H ∧ ∀ xs, SqL K H a xs → xs[i]? = some x, fun i H => ∃ xs, SqL K H a xs ∧ xs.length ≤ i⟩
noncomputable def Itr (lo : Int) (n : Nat) : It := ⟨fun i _ => i < n, fun i H x H' => H' = H ∧ x = .int (lo + i), fun i _ => n ≤ i⟩
theorem turn_list {P : Program} {w : World} {K : PySem.W.Frag} {tg : Expr} (a it : Addr) : Turn P w K tg (Itl K a) [it] it (fun i h => h.IsListIter it a i) where
  mem := by simp
  obj := fun i h st b hb => by
    have e : b = it := by simpa using hb
    subst e
    obtain ⟨o, e, c, d⟩ := st
    exact ⟨o, e, fun v z => by rw [d] at z; cases z⟩
  keep := fun i h h' st k => st.at fun o e => k it (by simp) o e
  item := by
    intro X hP hw hK hc i pins s σ H E I hf st hg
    subst hP hw hK
    obtain ⟨xs, x, hq, hx⟩ := hg
    obtain ⟨its, rv, p, hz⟩ := I.list hq
    obtain ⟨u, hu, ru⟩ := rv.get hx
    obtain ⟨f0, f1, f2, f3, f4, f5⟩ := hf it (by simp)
    refine wpAny_pyNext_list_item st p.isList (x := u) (by simpa using hu) fun h' st' sb => ?_
    have I1 : Inv X pins σ H { s with heap := h' } := I.turned (t' := s.toks) (fun b o hb e => (sb.2 b hb).trans e) f0 f1 f3 f4 f5
    obtain ⟨o, e, c, d⟩ := id st'
    exact ⟨u, rfl, go_of (s := { s with heap := h' }) e c d (by decide) ⟨x, H, I1, ru, ⟨rfl, fun ys hy => by rw [I.list_inj hy hq]; exact hx⟩, st', fun b hb => (hf b hb).1⟩⟩
  done := by
    intro X hP hw hK hc i pins s σ H E I hf st hg
    subst hP hw hK
    obtain ⟨xs, hq, hx⟩ := hg
    obtain ⟨its, rv, p, hz⟩ := I.list hq
    obtain ⟨f0, f1, f2, f3, f4, f5⟩ := hf it (by simp)
    have hl := rv.length
    exact wpAny_pyNext_list_end (I.ok.hd hc) st p.isList (by simp; omega) fun h' eb => ⟨rfl, I.turned (t' := s.toks) (fun b o hb e => eb b o hb e) f0 f1 f3 f4 f5⟩
  self := fun _ _ _ _ _ st h => wpAny_pyIter_listiter st h
theorem turn_range {P : Program} {w : World} {K : PySem.W.Frag} {tg : Expr} (it : Addr) (lo : Int) (n : Nat) : Turn P w K tg (Itr lo n) [it] it (fun i h => IsRangeIter h it (lo + (i : Nat) * 1) ((n : Int) - (i : Nat)) 1) where
  mem := by simp
  obj := fun i h st b hb => by
    have e : b = it := by simpa using hb
    subst e
    exact ⟨_, st, fun v z => by
      have z' : Data.fields _ = Data.cell v := z
      cases z'⟩
  keep := fun i h h' st k => k it (by simp) _ st
  item := by
    intro X hP hw hK hc i pins s σ H E I hf st hg
    subst hP hw hK
    obtain ⟨f0, f1, f2, f3, f4, f5⟩ := hf it (by simp)
    have W := Walks.range (prog := X.prog) (w := X.w) (I.ok.hd hc) it lo 1 n
    refine W.item i s _ _ hg st fun v h' tk hv st' kk => ?_
    obtain ⟨t, rfl⟩ := hv
    have I1 : Inv X pins σ H { s with heap := h', toks := tk } := I.turned (fun b o hb e => kk b o (by simpa using hb) e) f0 f1 f3 f4 f5
    refine ⟨_, rfl, go_of (s := { s with heap := h', toks := tk }) (n := "range_iterator") st' rfl rfl (by decide) ⟨.int (lo + i), H, I1, ⟨t, ?_⟩, ⟨rfl, rfl⟩, st', fun b hb => (hf b hb).1⟩⟩
    rw [Int.mul_one]
  done := by
    intro X hP hw hK hc i pins s σ H E I hf st hg
    subst hP hw hK
    obtain ⟨f0, f1, f2, f3, f4, f5⟩ := hf it (by simp)
    exact wpAny_pyNext_range_end (I.ok.hd hc) st (by have : n ≤ i := hg; omega) fun h' eb => ⟨rfl, I.turned (t' := s.toks) (fun b o hb e => eb b o hb e) f0 f1 f3 f4 f5⟩
  self := fun _ _ _ _ _ st h => wpAny_pyIter_rangeiter st h
end L2
namespace L2
open PySem PySem.Spec PyProof.Rows
section
variable {X : Cx} {tg : Expr}
noncomputable def iList (K : PySem.W.Frag) (tl : TE) : TI := fun σ H R => tl σ H fun x H1 => ∃ a, x = .ref a ∧ (∃ xs, SqL K H1 a xs) ∧ R (Itl K a) H1
theorem pi_list {l : Expr} {tl : TE} (hl : PE X l tl) : PI X tg l (iList X.K tl) := by
  intro pins s σ H R I h
  refine thnE (hl pins s σ H _ I h) fun v s1 x H1 I1 r1 q1 => ?_
  obtain ⟨a, e, ⟨xs, hq⟩, q⟩ := q1
  subst e
  cases r1
  obtain ⟨its, rv, p, hz⟩ := I1.list hq
  refine wpAny_pyIter_list p.isList ?_
  refine ⟨s1.heap.objs.size, [s1.heap.objs.size], _, _, H1, rfl, I1.kept (t' := s1.toks) fun b o e => Heap.get?_push_of_some _ e, turn_list a _, ⟨_, Heap.get?_push_size _ rfl, rfl, rfl⟩, fun b hb => ?_, q⟩
  have e : b = s1.heap.objs.size := by simpa using hb
  subst e
  exact I1.fpOk (Nat.le_refl _) (I1.hok.fresh (Nat.le_refl _))
theorem range_it {pins : List (Addr × Obj)} {σ : St} {H : Hp} {s : Shared} {R : It → Hp → Prop} {E : Value → Shared → Prop} {lo hi : Int} {t u v : Tok} {tk : Nat} (I : Inv X pins σ H s) (h1 : -(2 ^ 62) ≤ lo) (h2 : lo < 2 ^ 62) (h3 : -(2 ^ 62) ≤ hi) (h4 : hi < 2 ^ 62)
    (q : R (Itr lo (hi - lo).toNat) H) : wpAny (model X.prog X.w) X.A (pyIter (.ref s.heap.objs.size)) (PIE X pins σ tg R) E { s with heap := s.heap.push { cls := .type "range", data := .fields #[.int lo t, .int hi u, .int 1 v] }, toks := tk } := by
  refine wpAny_pyIter_range (IsRange.new ..) (small_one h1 h2 h3 h4) ?_
  have I1 : Inv X pins σ H { s with heap := s.heap.push { cls := .type "range", data := .fields #[.int lo t, .int hi u, .int 1 v] }, toks := tk } := I.kept fun b o e => Heap.get?_push_of_some _ e
  refine ⟨(s.heap.push { cls := .type "range", data := .fields #[.int lo t, .int hi u, .int 1 v] }).objs.size, [(s.heap.push { cls := .type "range", data := .fields #[.int lo t, .int hi u, .int 1 v] }).objs.size], _, _, H, rfl,
    I1.kept (t' := tk) fun b o e => Heap.get?_push_of_some _ e, turn_range _ lo (hi - lo).toNat, ?_, fun b hb => ?_, q⟩
  · have e1 : lo + ((0 : Nat) : Int) * 1 = lo := by simp
    have e2 : (((hi - lo).toNat : Nat) : Int) - ((0 : Nat) : Int) = Builtin.Range.rangeSize lo hi 1 := by rw [rangeSize_one]; split <;> omega
    show IsRangeIter _ _ (lo + ((0 : Nat) : Int) * 1) ((((hi - lo).toNat : Nat) : Int) - ((0 : Nat) : Int)) 1
    rw [e1, e2]
    exact Heap.get?_push_size _ rfl
  · have e : b = (s.heap.push { cls := .type "range", data := .fields #[.int lo t, .int hi u, .int 1 v] }).objs.size := by simpa using hb
    subst e
    exact I1.fpOk (Nat.le_refl _) (I1.hok.fresh (Nat.le_refl _))
noncomputable def iRng1 (ta : TA) : TI := fun σ H R => ta σ H fun vs H1 => ∃ j : Int, vs = [.int j] ∧ -(2 ^ 62) ≤ j ∧ j < 2 ^ 62 ∧ R (Itr 0 j.toNat) H1
theorem pi_range1 {a : Expr} {ta : TA} {p pos : Pos} (hg : Gl X "range") (hm : X.mg "range" = none) (ha : PA X [a] ta) (hs : starEach [a] X.env = [(false, eval a X.env)] := by rfl) : PI X tg (.Call (.Name "range" p) [a] [] pos) (iRng1 ta) := by
  intro pins s σ H R I h
  refine Call_ (ld_blt I hg hm boot_range (PyProof.Rows.callWith_type1 (thnA (ha pos pins s σ H _ I h) fun us s1 vs H1 I1 r1 q1 => ?_) hs rfl))
  obtain ⟨j, e, q1, q2, q⟩ := q1
  subst e
  cases r1 with
  | cons r rr =>
    cases rr
    obtain ⟨t, rfl⟩ := r
    exact call_range_1 (range_it I1 (by omega) (by omega) q1 q2 (by simpa using q))
noncomputable def tFor (wi : TI) (g : TG) (tb : TS) : TS := fun D σ H => wi σ H fun J H1 => ∃ W : Nat → Nat → St → Hp → Prop, (∃ m, W 0 m σ H1) ∧ ∀ i m σ H, W i m σ H →
  (J.stop i H ∧ D.nx σ H) ∨ (J.go i H ∧ ∃ N : St → Hp → Prop, (∀ σ' H', N σ' H' → ∃ m', m' < m ∧ W (i + 1) m' σ' H') ∧ ∀ x H', J.yld i H x H' → g x σ H' fun σ2 H2 => tb { D with nx := N, ct := N, bk := D.nx } σ2 H2)
noncomputable def pinsAt (fp : List Addr) (h : Heap) : List (Addr × Obj) := fp.filterMap fun b => (h.get? b).map fun o => (b, o)
theorem mem_pinsAt {fp : List Addr} {h : Heap} {b : Addr} {o : Obj} (hb : b ∈ fp) (e : h.get? b = some o) : (b, o) ∈ pinsAt fp h := List.mem_filterMap.mpr ⟨b, hb, by rw [e]; rfl⟩
theorem of_pinsAt {fp : List Addr} {h : Heap} {p : Addr × Obj} (hp : p ∈ pinsAt fp h) : p.1 ∈ fp ∧ h.get? p.1 = some p.2 := by
  obtain ⟨b, hb, e⟩ := List.mem_filterMap.mp hp
  cases q : h.get? b with
  | none => rw [q] at e; cases e
  | some o =>
    rw [q] at e
    have e' : (b, o) = p := Option.some.inj e
    subst e'
    exact ⟨hb, q⟩
theorem Inv.pinned {pins : List (Addr × Obj)} {σ : St} {H : Hp} {s : Shared} {fp : List Addr} (I : Inv X pins σ H s) (hf : ∀ b ∈ fp, FpOk X pins H b) (ho : ∀ b ∈ fp, ∃ o, s.heap.get? b = some o ∧ ∀ v, o.data ≠ .cell v) : Inv X (pins ++ pinsAt fp s.heap) σ H s :=
  I.pins_of fun p hp => (List.mem_append.mp hp).elim (fun z => I.pin p (List.mem_append_right _ z)) fun z => by
    obtain ⟨hb, e⟩ := of_pinsAt z
    obtain ⟨f0, f1, f2, _⟩ := hf p.1 hb
    obtain ⟨o, e', d⟩ := ho p.1 hb
    rw [e] at e'; cases e'
    exact ⟨e, f0, f1, f2, d⟩
theorem Inv.unpinned {pins pl : List (Addr × Obj)} {σ : St} {H : Hp} {s : Shared} (I : Inv X (pins ++ pl) σ H s) : Inv X pins σ H s := I.pins_of fun p hp => I.pin p (List.mem_append_right _ (List.mem_append_left _ hp))
theorem ps_for {iter : Expr} {body : List Stmt} {wi : TI} {g : TG} {tb : TS} {pos : Pos} (hp : PassesOwn (model X.prog X.w) X.A X.env X.xe) (hc : X.calm = true) (hi : PI X tg iter wi) (hg : PG X tg g) (hb : PSs X body tb)
    (hs : ∀ x, foldedSetIterable iter X.env x = pure x := by intro _; rfl) : PS X (.For tg iter body [] pos) (tFor wi g tb) := by
  intro pins s σ H D I h
  refine wpAny_For (thn (hi pins s σ H _ I h) fun v s1 h1 => thn h1 fun itv s2 h2 => ?_) hs
  obtain ⟨it, fp, tn, J, H2, e, I2, T, st2, f2, W, ⟨m0, w0⟩, turn⟩ := h2
  subst e
  -- what stays true of the iterator's objects through the loop
  have stat : ∀ {H' : Hp}, (∀ b ∈ fp, H' b = none) → ∀ b ∈ fp, FpOk X pins H' b := fun hn b hb => ⟨hn b hb, (f2 b hb).2⟩
  refine codeAny_forLoop_any (fun n s' => ∃ i σ' H', Inv X pins σ' H' s' ∧ tn i s'.heap ∧ (∀ b ∈ fp, H' b = none) ∧ W i n σ' H') ?_ m0 ⟨0, σ, H2, I2, st2, fun b hb => (f2 b hb).1, w0⟩
  rintro n s3 ⟨i, σ3, H3, I3, st3, fr3, w3⟩
  rcases turn i n σ3 H3 w3 with ⟨stop, qn⟩ | ⟨go, N, hN, step⟩
  · refine wpAny_passesOwn hp (thn (T.done X rfl rfl rfl hc i pins s3 σ3 H3 X.xe I3 (stat fr3) st3 stop) fun r s4 w1_ => w1_.elim fun hr I4 => ?_)
    subst hr
    exact wpAny_execs_nil ⟨σ3, H3, I4, qn⟩
  · refine wpAny_passesOwn hp (thn (T.item X rfl rfl rfl hc i pins s3 σ3 H3 X.xe I3 (stat fr3) st3 go) fun r s4 w1_ => w1_.elim fun u z_ => z_.elim fun hr h4 => ?_)
    subst hr
    refine wpAny_passesOwn hp (thn h4 fun _ s5 w1_ => w1_.elim fun x z_ => z_.elim fun H5 z_ => z_.elim fun I5 z_ => z_.elim fun r5 z_ => z_.elim fun y5 z_ => z_.elim fun st5 fr5 => ?_)
    have I5' := I5.pinned (stat fr5) (T.obj _ _ st5)
    refine wpAny_passesOwn hp (thn (hg _ s5 σ3 H5 x u _ I5' r5 (step x H5 y5)) fun _ s6 w1_ => w1_.elim fun σ6 z_ => z_.elim fun H6 z_ => z_.elim fun I6 q6 => ?_)
    refine wpAny_passesOwn hp (thn (hb _ s6 σ6 H6 _ I6 q6) fun f s7 q7 => ?_)
    have again : ∀ {σ7 : St} {H7 : Hp}, Inv X (pins ++ pinsAt fp s5.heap) σ7 H7 s7 → N σ7 H7 → ∃ m, m < n ∧ ∃ i σ' H', Inv X pins σ' H' s7 ∧ tn i s7.heap ∧ (∀ b ∈ fp, H' b = none) ∧ W i m σ' H' := fun {σ7 H7} I7 n7 => by
      obtain ⟨m', hm, w7⟩ := hN σ7 H7 n7
      refine ⟨m', hm, i + 1, σ7, H7, I7.unpinned, T.keep _ _ _ st5 fun b hb o e => (I7.pin (b, o) (List.mem_append_right _ (List.mem_append_right _ (mem_pinsAt hb e)))).1, fun b hb => ?_, w7⟩
      obtain ⟨o, e, d⟩ := T.obj _ _ st5 b hb
      exact (I7.pin (b, o) (List.mem_append_right _ (List.mem_append_right _ (mem_pinsAt hb e)))).2.1
    cases f with
    | next => obtain ⟨σ7, H7, I7, n7⟩ := q7; exact again I7 n7
    | cont => obtain ⟨σ7, H7, I7, n7⟩ := q7; exact again I7 n7
    | brk => obtain ⟨σ7, H7, I7, q7⟩ := q7; exact ⟨σ7, H7, I7.unpinned, q7⟩
    | ret v => obtain ⟨x7, σ7, H7, I7, r7, q7⟩ := q7; exact ⟨x7, σ7, H7, I7.unpinned, r7, q7⟩
end
end L2
namespace L2
open PySem PySem.Spec PyProof.Rows
noncomputable abbrev R2 := V → V → Hp → VK → Prop
noncomputable def OpR (X : Cx) (f : Value → Value → Sem Value) (r : R2) : Prop :=
  ∀ (pins : List (Addr × Obj)) (s : Shared) (σ : St) (H : Hp) (x y : V) (v u : Value) (Q : VK), Inv X pins σ H s → RelV x v → RelV y u → r x y H Q →
    wpAny (model X.prog X.w) X.A (f v u) (EP X pins σ Q) X.xe s
noncomputable def CallR (X : Cx) (f : Value) (r : List V → Hp → VK → Prop) : Prop :=
  ∀ (pins : List (Addr × Obj)) (s : Shared) (σ : St) (H : Hp) (xs : List V) (us : List Value) (Q : VK), Inv X pins σ H s → Vals xs us → r xs H Q →
    wpAny (model X.prog X.w) X.A (call f us) (EP X pins σ Q) X.xe s
noncomputable def TruR (X : Cx) (r : V → Hp → (Bool → Hp → Prop) → Prop) : Prop :=
  ∀ (pins : List (Addr × Obj)) (s : Shared) (σ : St) (H : Hp) (x : V) (v : Value) (Q : Bool → Hp → Prop), Inv X pins σ H s → RelV x v → r x H Q →
    wpAny (model X.prog X.w) X.A (truthy v) (TP X pins σ Q) X.xe s
noncomputable def tOp (r : R2) (ta tb : TE) : TE := fun σ H Q => ta σ H fun x H1 => tb σ H1 fun y H2 => r x y H2 Q
noncomputable def rI (C : Int → Int → Prop) (g : Int → Int → V) : R2 := fun x y H Q => ∃ i j, x = .int i ∧ y = .int j ∧ C i j ∧ Q (g i j) H
noncomputable def rI0 (g : Int → Int → V) : R2 := fun x y H Q => ∃ i j, x = .int i ∧ y = .int j ∧ Q (g i j) H
section
variable {X : Cx} {a b c : Expr} {ta tb tc : TE} {pos : Pos}
theorem binT (ha : PE X a ta) (hb : PE X b tb) {pins : List (Addr × Obj)} {s : Shared} {σ : St} {H : Hp} {R : V → V → Hp → Prop} (I : Inv X pins σ H s)
    (h : ta σ H fun x H1 => tb σ H1 fun y H2 => R x y H2) {Q : Value → Shared → Prop} {f : Value → Value → Sem Value}
    (hf : ∀ v u s2 x y H2, Inv X pins σ H2 s2 → RelV x v → RelV y u → R x y H2 → wpAny (model X.prog X.w) X.A (f v u) Q X.xe s2) :
    wpAny (model X.prog X.w) X.A (eval a X.env) (fun v s₁ => wpAny (model X.prog X.w) X.A (eval b X.env) (fun u s₂ => wpAny (model X.prog X.w) X.A (f v u) Q X.xe s₂) X.xe s₁) X.xe s := by
  refine thnE (ha pins s σ H _ I h) fun v s1 x H1 I1 r1 q1 => ?_
  refine thnE (hb pins s1 σ H1 _ I1 q1) fun u s2 y H2 I2 r2 q2 => ?_
  exact hf v u s2 x y H2 I2 r1 r2 q2
theorem pe_op {op : Operator} {r : R2} (ho : OpR X (binaryOp op) r) (ha : PE X a ta) (hb : PE X b tb) : PE X (.BinOp a op b pos) (tOp r ta tb) := by
  intro pins s σ H Q I h
  exact wpAny_BinOp (binT ha hb I h fun v u s2 x y H2 I2 rx ry q => ho pins s2 σ H2 x y v u Q I2 rx ry q)
theorem opI {f : Value → Value → Sem Value} {C : Int → Int → Prop} {g : Int → Int → Int}
    (rule : ∀ (i j : Int) (t u : Tok) (s : Shared) (Q : Value → Shared → Prop) (E : Value → Shared → Prop), C i j → Q (.int (g i j) s.toks) { s with toks := s.toks + 1 } → wpAny (model X.prog X.w) X.A (f (.int i t) (.int j u)) Q E s) :
    OpR X f (rI C fun i j => .int (g i j)) := by
  intro pins s σ H x y v u Q I rx ry h
  obtain ⟨i, j, rfl, rfl, hc, q⟩ := h
  obtain ⟨t, rfl⟩ := rx
  obtain ⟨t', rfl⟩ := ry
  exact rule i j t t' s _ _ hc ⟨.int (g i j), H, I.tok _, ⟨_, rfl⟩, q⟩
theorem opI0 {f : Value → Value → Sem Value} {g : Int → Int → Int}
    (rule : ∀ (i j : Int) (t u : Tok) (s : Shared) (Q : Value → Shared → Prop) (E : Value → Shared → Prop), Q (.int (g i j) s.toks) { s with toks := s.toks + 1 } → wpAny (model X.prog X.w) X.A (f (.int i t) (.int j u)) Q E s) :
    OpR X f (rI0 fun i j => .int (g i j)) := by
  intro pins s σ H x y v u Q I rx ry h
  obtain ⟨i, j, rfl, rfl, q⟩ := h
  obtain ⟨t, rfl⟩ := rx
  obtain ⟨t', rfl⟩ := ry
  exact rule i j t t' s _ _ ⟨.int (g i j), H, I.tok _, ⟨_, rfl⟩, q⟩
theorem opB0 {f : Value → Value → Sem Value} {g : Int → Int → Bool}
    (rule : ∀ (i j : Int) (t u : Tok) (s : Shared) (Q : Value → Shared → Prop) (E : Value → Shared → Prop), Q (.bool (g i j)) s → wpAny (model X.prog X.w) X.A (f (.int i t) (.int j u)) Q E s) :
    OpR X f (rI0 fun i j => .bl (g i j)) := by
  intro pins s σ H x y v u Q I rx ry h
  obtain ⟨i, j, rfl, rfl, q⟩ := h
  obtain ⟨t, rfl⟩ := rx
  obtain ⟨t', rfl⟩ := ry
  exact rule i j t t' s _ _ ⟨.bl (g i j), H, I, rfl, q⟩
noncomputable def CDiv (i j : Int) : Prop := 0 < j ∧ j < 1073741824
noncomputable def CPow (i j : Int) : Prop := 0 ≤ j ∧ j ≤ 1000000 ∧ i.natAbs < 2 ^ 64
noncomputable def CMul (i j : Int) : Prop := (-(2 ^ 64) < i ∧ i < 2 ^ 64) ∨ (-(2 ^ 64) < j ∧ j < 2 ^ 64)
theorem CMul.ok {i j : Int} (h : CMul i j) : IntMulOk i j := by
  rcases h with ⟨h1, h2⟩ | ⟨h1, h2⟩
  · exact .of_left (intBits_le_64 h1 h2)
  · exact .of_right (intBits_le_64 h1 h2)
theorem op_add : OpR X (binaryOp .Add) (rI0 fun i j => .int (i + j)) := opI0 fun _ _ _ _ _ _ _ q => add_int q
theorem op_mul : OpR X (binaryOp .Mult) (rI CMul fun i j => .int (i * j)) := opI fun _ _ _ _ _ _ _ hc q => mul_int q hc.ok
theorem op_fdiv : OpR X (binaryOp .FloorDiv) (rI CDiv fun i j => .int (i / j)) := opI fun i j _ _ _ _ _ hc q => by
  have h1 : (0 : Int) < j := hc.1
  have h2 : j < 1073741824 := hc.2
  exact floordiv_int (by omega) (by rw [Int.fdiv_eq_ediv_of_nonneg i (by omega)]; exact q) (.inl (PyProof.noPylong_small (by omega)))
theorem op_mod : OpR X (binaryOp .Mod) (rI (fun _ j => 0 < j) fun i j => .int (i % j)) := opI fun i j _ _ _ _ _ hc q => by
  have h1 : (0 : Int) < j := hc
  exact mod_int' (by omega) (by rw [Int.fmod_eq_emod_of_nonneg i (by omega)]; exact q)
theorem op_pow : OpR X (binaryOp .Pow) (rI CPow fun i j => .int (i ^ j.toNat)) := opI fun _ _ _ _ _ _ _ hc q => pow_int_small hc.1 hc.2.1 hc.2.2 q
end
noncomputable def scal : V → V → Bool
  | .non, .non => true | .non, .int _ => true | .int _, .non => true | .non, .bl _ => true | .bl _, .non => true | .non, .str _ => true | .str _, .non => true
  | .int _, .int _ => true | .bl _, .bl _ => true | .str _, .str _ => true | .byt _, .byt _ => true
  | .int _, .str _ => true | .str _, .int _ => true | .bl _, .str _ => true | .str _, .bl _ => true
  | _, _ => false
noncomputable def rEq : R2 := fun x y H Q => scal x y = true ∧ Q (.bl (decide (x = y))) H
noncomputable def rNe : R2 := fun x y H Q => scal x y = true ∧ Q (.bl (!decide (x = y))) H
theorem dec_int {i j : Int} : decide (V.int i = V.int j) = (i == j) := by
  rw [Bool.eq_iff_iff]
  simp
theorem dec_bl {i j : Bool} : decide (V.bl i = V.bl j) = (i == j) := by
  rw [Bool.eq_iff_iff]
  simp
theorem dec_str {i j : Str} : decide (V.str i = V.str j) = (i == j) := by
  rw [Bool.eq_iff_iff]
  simp
theorem dec_byt {i j : Array UInt8} : decide (V.byt i = V.byt j) = (i.toList == j.toList) := by
  rw [Bool.eq_iff_iff]
  cases i
  cases j
  simp
section
variable {X : Cx} {a b c : Expr} {ta tb tc : TE} {pos : Pos}
theorem fin_bl {pins : List (Addr × Obj)} {σ : St} {H : Hp} {s : Shared} {Q : VK} {k k' : Bool} (I : Inv X pins σ H s) (q : Q (.bl k) H) (e : k = k') : EP X pins σ Q (.bool k') s := by
  subst e
  exact ⟨.bl k, H, I, rfl, q⟩
theorem op_eq : OpR X (compareOp .Eq) rEq := by
  intro pins s σ H x y v u Q I rx ry h
  obtain ⟨hs, q⟩ := h
  cases x with
  | non =>
    cases rx
    cases y with
    | non => cases ry; exact PySem.EqNone.eq_none_none (fin_bl I q (by simp))
    | bl j => cases ry; exact PySem.EqNone.eq_none_bool (fin_bl I q (by simp))
    | int j => obtain ⟨t', rfl⟩ := ry; exact PySem.EqNone.eq_none_int (fin_bl I q (by simp))
    | str j => obtain ⟨t', rfl⟩ := ry; exact PySem.EqNone.eq_none_str (fin_bl I q (by simp))
    | _ => exact absurd (show false = true from hs) Bool.false_ne_true
  | bl i =>
    cases rx
    cases y with
    | non => cases ry; exact PySem.EqNone.eq_bool_none (fin_bl I q (by simp))
    | bl j => cases ry; exact eq_bool (fin_bl I q dec_bl)
    | str j => obtain ⟨t', rfl⟩ := ry; exact PySem.EqMixed.eq_bool_str (fin_bl I q (by simp))
    | _ => exact absurd (show false = true from hs) Bool.false_ne_true
  | int i =>
    obtain ⟨t, rfl⟩ := rx
    cases y with
    | non => cases ry; exact PySem.EqNone.eq_int_none (fin_bl I q (by simp))
    | int j => obtain ⟨t', rfl⟩ := ry; exact eq_int (fin_bl I q dec_int)
    | str j => obtain ⟨t', rfl⟩ := ry; exact PySem.EqMixed.eq_int_str (fin_bl I q (by simp))
    | _ => exact absurd (show false = true from hs) Bool.false_ne_true
  | str i =>
    obtain ⟨t, rfl⟩ := rx
    cases y with
    | non => cases ry; exact PySem.EqNone.eq_str_none (fin_bl I q (by simp))
    | bl j => cases ry; exact PySem.EqMixed.eq_str_bool (fin_bl I q (by simp))
    | int j => obtain ⟨t', rfl⟩ := ry; exact PySem.EqMixed.eq_str_int (fin_bl I q (by simp))
    | str j => obtain ⟨t', rfl⟩ := ry; exact eq_str (fin_bl I q dec_str)
    | _ => exact absurd (show false = true from hs) Bool.false_ne_true
  | byt i =>
    obtain ⟨t, rfl⟩ := rx
    cases y with
    | byt j => obtain ⟨t', rfl⟩ := ry; exact PySem.W.eq_bytes (fin_bl I q dec_byt)
    | _ => exact absurd (show false = true from hs) Bool.false_ne_true
  | _ => cases y <;> exact absurd (show false = true from hs) Bool.false_ne_true
theorem op_ne : OpR X (compareOp .NotEq) rNe := by
  intro pins s σ H x y v u Q I rx ry h
  obtain ⟨hs, q⟩ := h
  cases x with
  | non =>
    cases rx
    cases y with
    | non => cases ry; exact PySem.EqNone.ne_none_none (fin_bl I q (by simp))
    | bl j => cases ry; exact PySem.EqNone.ne_none_bool (fin_bl I q (by simp))
    | int j => obtain ⟨t', rfl⟩ := ry; exact PySem.EqNone.ne_none_int (fin_bl I q (by simp))
    | str j => obtain ⟨t', rfl⟩ := ry; exact PySem.EqNone.ne_none_str (fin_bl I q (by simp))
    | _ => exact absurd (show false = true from hs) Bool.false_ne_true
  | bl i =>
    cases rx
    cases y with
    | non => cases ry; exact PySem.EqNone.ne_bool_none (fin_bl I q (by simp))
    | bl j => cases ry; exact ne_bool (fin_bl I q (congrArg not dec_bl))
    | str j => obtain ⟨t', rfl⟩ := ry; exact PySem.EqMixed.ne_bool_str (fin_bl I q (by simp))
    | _ => exact absurd (show false = true from hs) Bool.false_ne_true
  | int i =>
    obtain ⟨t, rfl⟩ := rx
    cases y with
    | non => cases ry; exact PySem.EqNone.ne_int_none (fin_bl I q (by simp))
    | int j => obtain ⟨t', rfl⟩ := ry; exact ne_int (fin_bl I q (congrArg not dec_int))
    | str j => obtain ⟨t', rfl⟩ := ry; exact PySem.EqMixed.ne_int_str (fin_bl I q (by simp))
    | _ => exact absurd (show false = true from hs) Bool.false_ne_true
  | str i =>
    obtain ⟨t, rfl⟩ := rx
    cases y with
    | non => cases ry; exact PySem.EqNone.ne_str_none (fin_bl I q (by simp))
    | bl j => cases ry; exact PySem.EqMixed.ne_str_bool (fin_bl I q (by simp))
    | int j => obtain ⟨t', rfl⟩ := ry; exact PySem.EqMixed.ne_str_int (fin_bl I q (by simp))
    | str j => obtain ⟨t', rfl⟩ := ry; exact ne_str (fin_bl I q (congrArg not dec_str))
    | _ => exact absurd (show false = true from hs) Bool.false_ne_true
  | byt i =>
    obtain ⟨t, rfl⟩ := rx
    cases y with
    | byt j => obtain ⟨t', rfl⟩ := ry; exact PySem.W.ne_bytes (fin_bl I q (congrArg not dec_byt))
    | _ => exact absurd (show false = true from hs) Bool.false_ne_true
  | _ => cases y <;> exact absurd (show false = true from hs) Bool.false_ne_true
theorem op_lt : OpR X (compareOp .Lt) (rI0 fun i j => .bl (decide (i < j))) := opB0 fun _ _ _ _ _ _ _ q => lt_int q
theorem op_le : OpR X (compareOp .LtE) (rI0 fun i j => .bl (decide (i ≤ j))) := opB0 fun _ _ _ _ _ _ _ q => le_int q
theorem op_gt : OpR X (compareOp .Gt) (rI0 fun i j => .bl (decide (j < i))) := opB0 fun _ _ _ _ _ _ _ q => gt_int q
theorem op_ge : OpR X (compareOp .GtE) (rI0 fun i j => .bl (decide (j ≤ i))) := opB0 fun _ _ _ _ _ _ _ q => ge_int q
theorem op_lt_str : OpR X (compareOp .Lt) (fun x y H Q => ∃ i j, x = .str i ∧ y = .str j ∧ Q (.bl (decide (i.cps.toList < j.cps.toList))) H) := by
  intro pins s σ H x y v u Q I rx ry h
  obtain ⟨i, j, rfl, rfl, q⟩ := h
  obtain ⟨t, rfl⟩ := rx
  obtain ⟨t', rfl⟩ := ry
  exact lt_str (fin_bl I q rfl)
theorem nomark (b : Expr) {op : CmpOp} (h : op ≠ .In := by decide) (h2 : op ≠ .NotIn := by decide) : behindInMarks op b = false := by
  have e1 : (op == CmpOp.In) = false := by cases op <;> first | rfl | exact absurd rfl h
  have e2 : (op == CmpOp.NotIn) = false := by cases op <;> first | rfl | exact absurd rfl h2
  cases b <;> simp [behindInMarks, e1, e2]
theorem pe_cmpR {op : CmpOp} {r : R2} (ho : OpR X (compareOp op) r) (ha : PE X a ta) (hb : PE X b tb) (hm : behindInMarks op b = false) : PE X (.Compare a [op] [b] pos) (tOp r ta tb) := by
  intro pins s σ H Q I h
  exact wpAny_Compare1 (binT ha hb I h fun v u s2 x y H2 I2 rx ry q => ho pins s2 σ H2 x y v u Q I2 rx ry q) hm
noncomputable def tTest (t : TE) : TT := fun σ H Q => t σ H fun x H' => ∃ k, x = .bl k ∧ Q k H'
theorem pt_cmpR {op : CmpOp} {r : R2} (ho : OpR X (compareOp op) r) (ha : PE X a ta) (hb : PE X b tb) (hm : behindInMarks op b = false) : PT X (.Compare a [op] [b] pos) (tTest (tOp r ta tb)) := by
  intro pins s σ H Q I h
  refine wpAny_isTrue_Compare1 (thnE (ha pins s σ H _ I h) fun v s1 x H1 I1 r1 q1 => thnE (hb pins s1 σ H1 _ I1 q1) fun u s2 y H2 I2 r2 q2 =>
    thn (ho pins s2 σ H2 x y v u _ I2 r1 r2 q2) fun c s3 w1_ => w1_.elim fun z z_ => z_.elim fun H3 z_ => z_.elim fun I3 z_ => z_.elim fun r3 z_ => z_.elim fun k z_ => z_.elim fun e q3 => ?_) hm
  subst e
  cases r3
  exact wpAny_truthy_bool ⟨H3, I3, q3⟩
noncomputable def TruV (K : PySem.W.Frag) (x : V) (H : Hp) (k : Bool) : Prop :=
  match x with
  | .non => k = false
  | .bl b => k = b
  | .int i => k = (i != 0)
  | .str y => y.length ≤ sizeLine ∧ k = ((y.length : Int) != 0)
  | .byt y => y.size ≤ sizeLine ∧ k = ((y.size : Int) != 0)
  | .ref p => (∃ xs, SqL K H p xs ∧ k = !xs.isEmpty) ∨ (∃ xs, SqT K H p xs ∧ k = !xs.isEmpty) ∨ ∃ kvs, H p = some (.dK kvs) ∧ k = !kvs.isEmpty
  | _ => False
theorem isEmpty_kv {κ : Type} {kvs : List (κ × V)} {vs : List (κ × Value)} (r : KV kvs vs) : (!vs.isEmpty) = !kvs.isEmpty := by
  cases r <;> rfl
theorem isEmpty_of {xs : List V} {its : List Value} (r : Vals xs its) : (!its.toArray.isEmpty) = !xs.isEmpty := by
  cases r <;> simp
theorem line63 : (sizeLine : Nat) < 2 ^ 63 := by rw [sizeLine_eq]; decide
theorem tru_ok : TruR X (fun x H Q => ∃ k, TruV X.K x H k ∧ Q k H) := by
  intro pins s σ H x v Q I rx h
  obtain ⟨k, e, q⟩ := h
  have hl := line63
  have hs : sizeLine = 16777216 := sizeLine_eq
  cases x with
  | non =>
    cases rx
    have e' : k = false := e
    subst e'
    exact truthy_none ⟨H, I, q⟩
  | bl b =>
    cases rx
    have e' : k = b := e
    subst e'
    exact wpAny_truthy_bool ⟨H, I, q⟩
  | int i =>
    obtain ⟨t, rfl⟩ := rx
    have e' : k = (i != 0) := e
    subst e'
    exact PySem.P.truthy_int ⟨H, I, q⟩
  | str y =>
    obtain ⟨t, rfl⟩ := rx
    obtain ⟨hy, e'⟩ : y.length ≤ sizeLine ∧ k = ((y.length : Int) != 0) := e
    subst e'
    exact PySem.P.truthy_str (by omega) ⟨H, I.tok _, q⟩
  | byt y =>
    obtain ⟨t, rfl⟩ := rx
    obtain ⟨hy, e'⟩ : y.size ≤ sizeLine ∧ k = ((y.size : Int) != 0) := e
    subst e'
    exact PySem.W.truthy_bytes (by omega) ⟨H, I.tok _, q⟩
  | ref p =>
    cases rx
    have e' : (∃ xs, SqL X.K H p xs ∧ k = !xs.isEmpty) ∨ (∃ xs, SqT X.K H p xs ∧ k = !xs.isEmpty) ∨ ∃ kvs, H p = some (.dK kvs) ∧ k = !kvs.isEmpty := e
    rcases e' with ⟨xs, hx, e'⟩ | ⟨xs, hx, e'⟩ | ⟨kvs, hx, e'⟩
    · subst e'
      obtain ⟨its, r, pl, hz⟩ := I.list hx
      have hlen := r.length
      exact wpAny_truthy_list pl.isList (by simp only [List.size_toArray]; omega) ⟨H, I.tok _, by rw [isEmpty_of r]; exact q⟩
    · subst e'
      obtain ⟨its, r, pl, hz⟩ := I.tuple hx
      have hlen := r.length
      exact truthy_tuple pl (by simp only [List.size_toArray]; omega) ⟨H, I.tok _, by rw [isEmpty_of r]; exact q⟩
    · subst e'
      obtain ⟨hz, hS, vs, r, m⟩ : kvs.length ≤ sizeLine ∧ (p == sysModules) = false ∧ ∃ vs, KV kvs vs ∧ s.heap.DictOf (mixKind X.prog X.w) p vs := I.hok p _ hx
      have hlen : kvs.length = vs.length := Paired.length r
      exact wpAny_truthy_dict hS m (by omega) ⟨H, I.tok _, by rw [isEmpty_kv r]; exact q⟩
  | _ => exact (show False from e).elim
theorem pt_truth (ha : PE X a ta) (he : ∀ whole, isTrue a X.env whole = (do let v ← whole; standAt a.pos; holding [v] (truthy v))) :
    PT X a (fun σ H Q => ta σ H fun x H' => ∃ k, TruV X.K x H' k ∧ Q k H') := by
  intro pins s σ H Q I h
  exact isTrue_plain (thnE (ha pins s σ H _ I h) fun v s1 x H1 I1 r1 q1 => tru_ok pins s1 σ H1 x v Q I1 r1 q1) (he _)
theorem vals1 {x : V} {us : List Value} (r : Vals [x] us) : ∃ u, us = [u] ∧ RelV x u := by
  cases r with
  | cons r1 r2 => cases r2; exact ⟨_, rfl, r1⟩
theorem vals2 {x y : V} {us : List Value} (r : Vals [x, y] us) : ∃ u w', us = [u, w'] ∧ RelV x u ∧ RelV y w' := by
  cases r with
  | cons r1 r2 =>
    cases r2 with
    | cons r3 r4 => cases r4; exact ⟨_, _, rfl, r1, r3⟩
theorem call_max2 (hc : X.calm = true) : CallR X (.builtin "max") (fun xs H Q => ∃ i j, xs = [.int i, .int j] ∧ Q (.int (if j > i then j else i)) H) := by
  intro pins s σ H xs us Q I r h
  obtain ⟨i, j, rfl, q⟩ := h
  obtain ⟨u, w', rfl, ⟨t, rfl⟩, ⟨t', rfl⟩⟩ := vals2 r
  refine max_two_ints (I.ok.hd hc) fun h' tk k => ⟨_, H, I.kept k, ?_, q⟩
  by_cases hj : j > i
  · rw [if_pos hj, if_pos hj]; exact ⟨_, rfl⟩
  · rw [if_neg hj, if_neg hj]; exact ⟨_, rfl⟩
theorem call_min2 (hc : X.calm = true) : CallR X (.builtin "min") (fun xs H Q => ∃ i j, xs = [.int i, .int j] ∧ Q (.int (if j < i then j else i)) H) := by
  intro pins s σ H xs us Q I r h
  obtain ⟨i, j, rfl, q⟩ := h
  obtain ⟨u, w', rfl, ⟨t, rfl⟩, ⟨t', rfl⟩⟩ := vals2 r
  refine min_two_ints (I.ok.hd hc) fun h' tk k => ⟨_, H, I.kept k, ?_, q⟩
  by_cases hj : j < i
  · rw [if_pos hj, if_pos hj]; exact ⟨_, rfl⟩
  · rw [if_neg hj, if_neg hj]; exact ⟨_, rfl⟩
end
end L2
namespace L2
open PySem PySem.Spec PyProof.Rows
structure ObjM (h : Heap) (x dx C : Addr) (mA : Str → Option Value) : Prop where
  obj : h.get? x = some (PySem.W.instObj C dx)
  ns : h.Ns1 dx mA
  ne : dx ≠ x
theorem lookIn_ns {h : Heap} {dx : Addr} {mA : Str → Option Value} (n : h.Ns1 dx mA) : ∃ od, h.get? dx = some od ∧ ∀ name, PySem.W.lookIn name od = some (mA name) := by
  obtain ⟨o, es, ep, ho, hd, hk, _, hm⟩ := n
  refine ⟨o, ho, fun name => ?_⟩
  have e := hm name
  unfold nsFind findBy at e
  rw [← Array.find?_toList] at e
  unfold PySem.W.lookIn
  rw [hd]
  dsimp only
  split
  · rename_i y q
    rw [q] at e
    exact congrArg some e
  · rename_i q
    rw [q] at e
    have a : es.toList.any (·.refKey) = false := by
      rw [List.any_eq_false]
      intro y hy
      obtain ⟨z, t, hkey⟩ := hk y (Array.mem_toList_iff.mp hy)
      simp [DictEntry.refKey, hkey]
    have a' : ¬ es.toList.any (·.refKey) = true := by rw [a]; exact Bool.false_ne_true
    rw [if_neg a']
    exact congrArg some e
theorem ObjM.look {h : Heap} {x dx C : Addr} {mA : Str → Option Value} (I : ObjM h x dx C mA) : ∃ od, PySem.W.InstAt h x (PySem.W.instObj C dx) C (some od) ∧ ∀ name, PySem.W.lookIn name od = some (mA name) :=
  let ⟨od, ho, hl⟩ := lookIn_ns I.ns
  ⟨od, ⟨I.obj, rfl, rfl, ho⟩, hl⟩
section
variable {P : Program} {w : World} {H H' : Hp} {h h' : Heap} {a C dx : Addr} {fs fs' : List (Str × V)}
theorem ins_get (hok : HOk P w H h) (e : H a = some (.ins C dx fs)) : ∃ mA, ObjM h a dx C mA ∧ (∀ f, RelO (fs.lookup f) (mA f)) ∧ PySem.Within mA (fs.map (·.1)) ∧ fs.length ≤ 1000 ∧ H dx = some (.own a) := by
  obtain ⟨d, z, ne, ob, mA, n, r, q⟩ := (show ObjOk P w H h a (.ins C dx fs) from hok a _ e)
  exact ⟨mA, ⟨ob, n, ne⟩, r, q, z, d⟩
end
structure Cls (K : PySem.W.Frag) (C : Addr) : Prop where
  pg : PySem.W.plainGet K C Str.empty = true
  hd : PySem.W.hasDictIn K C = true
  po : PySem.W.plainOver K C = true
  sa : PySem.W.findIn K (.ref C) "__setattr__" = some (some (.builtin "object.__setattr__"))
theorem Cls.get {K : PySem.W.Frag} {C : Addr} (c : Cls K C) (f : Str) : PySem.W.plainGet K C f = true := c.pg
section
variable {X : Cx} {pins : List (Addr × Obj)} {σ : St} {H : Hp} {s : Shared} {A : Around} {E : Value → Shared → Prop} {Q : Value → Shared → Prop} {c : Value} {b : Bool}
inductive TyOf (K : PySem.W.Frag) (H : Hp) : V → Value → Prop where
  | non : TyOf K H .non (.type "NoneType")
  | bl (x : Bool) : TyOf K H (.bl x) (.type "bool")
  | int (i : Int) : TyOf K H (.int i) (.type "int")
  | str (x : Str) : TyOf K H (.str x) (.type "str")
  | flt (x : UInt64) : TyOf K H (.flt x) (.type "float")
  | lst {a : Addr} {xs : List V} (e : H a = some (.lst xs)) : TyOf K H (.ref a) (.type "list")
  | frz {a : Addr} {o : Obj} {xs : List V} (e : H a = some (.frz o (.lst xs))) : TyOf K H (.ref a) (.type "list")
  | tup {a : Addr} {xs : List V} (e : H a = some (.tup xs)) : TyOf K H (.ref a) (.type "tuple")
  | dK {a : Addr} {kvs : List (Key × V)} (e : H a = some (.dK kvs)) : TyOf K H (.ref a) (.type "dict")
  | dT {a : Addr} {kvs : List (List Key × V)} (e : H a = some (.dT kvs)) : TyOf K H (.ref a) (.type "dict")
  | ins {a C dx : Addr} {fs : List (Str × V)} (e : H a = some (.ins C dx fs)) (cl : Cls K C) (ha : PySem.W.findIn K (.ref C) "__class__" = some (some (.builtin "object.__class__")))
      (hn : PySem.W.specialIn K (.builtin "object.__class__") "__get__" = some (some (.builtin "getset_descriptor.__get__"))) (htk : PySem.W.takesIn K (.builtin "object.__class__") = some true)
      (hm : PySem.W.mroIn K C (.type "object") = some true) : TyOf K H (.ref a) (.ref C)
theorem isinst_ok {x : V} {u t : Value} (I : Inv X pins σ H s) (rx : RelV x u) (ty : TyOf X.K H x t) (e : PySem.W.kitOne X.K t c = some b) (h : ∀ tk, Q (.bool b) { s with toks := tk }) :
    wpAny (model X.prog X.w) A (call (.builtin "isinstance") [u, c]) Q E s := by
  cases ty with
  | non => cases (show u = Value.none from rx); exact PySem.W.kia_one PySem.W.kitx_none I.kIn True.intro e (fun z => nomatch z) h
  | bl y => cases (show u = Value.bool y from rx); exact PySem.W.kia_one PySem.W.kitx_bool I.kIn True.intro e (fun z => nomatch z) h
  | int i => obtain ⟨t, q⟩ := (show ∃ t, u = Value.int i t from rx); cases q; exact PySem.W.kia_one PySem.W.kitx_int I.kIn True.intro e (fun z => nomatch z) h
  | str y => obtain ⟨t, q⟩ := (show ∃ t, u = Value.str y t from rx); cases q; exact PySem.W.kia_one PySem.W.kitx_str I.kIn True.intro e (fun z => nomatch z) h
  | flt y => obtain ⟨t, q⟩ := (show ∃ t, u = Value.float y t from rx); cases q; exact PySem.W.kia_one PySem.W.kitx_float I.kIn True.intro e (fun z => nomatch z) h
  | @lst a xs ea =>
    cases (show u = Value.ref a from rx)
    obtain ⟨_, _, n, _, h1⟩ := (show ObjOk X.prog X.w H s.heap a (.lst xs) from I.hok a _ ea)
    exact PySem.W.kia_one PySem.W.kitx_list I.kIn ⟨_, h1, rfl⟩ e (fun z => nomatch z) h
  | @frz a ob xs ea =>
    cases (show u = Value.ref a from rx)
    obtain ⟨_, _, _, n, _, h1⟩ := (show ObjOk X.prog X.w H s.heap a (.frz ob (.lst xs)) from I.hok a _ ea)
    exact PySem.W.kia_one PySem.W.kitx_list I.kIn ⟨_, h1, rfl⟩ e (fun z => nomatch z) h
  | @tup a xs ea =>
    cases (show u = Value.ref a from rx)
    obtain ⟨_, _, _, p⟩ := (show ObjOk X.prog X.w H s.heap a (.tup xs) from I.hok a _ ea)
    obtain ⟨o, h1, h2, _⟩ := p
    exact PySem.W.kia_one PySem.W.kitx_tuple I.kIn ⟨o, h1, h2⟩ e (fun z => nomatch z) h
  | @dK a kvs ea =>
    cases (show u = Value.ref a from rx)
    obtain ⟨_, _, vs, _, p⟩ := (show ObjOk X.prog X.w H s.heap a (.dK kvs) from I.hok a _ ea)
    obtain ⟨o, es, ep, h1, h2, _⟩ := p
    exact PySem.W.kia_one PySem.W.kitx_dict I.kIn ⟨o, h1, h2.1⟩ e (fun z => nomatch z) h
  | @dT a kvs ea =>
    cases (show u = Value.ref a from rx)
    obtain ⟨_, _, xs, _, o, es, ep, h1, h2, _⟩ := (show ObjOk X.prog X.w H s.heap a (.dT kvs) from I.hok a _ ea)
    exact PySem.W.kia_one PySem.W.kitx_dict I.kIn ⟨o, h1, h2.1⟩ e (fun z => nomatch z) h
  | @ins a C dx fs ea cl ha hn htk hm =>
    cases (show u = Value.ref a from rx)
    obtain ⟨mA, O, _⟩ := ins_get I.hok ea
    obtain ⟨od, J, _⟩ := O.look
    exact PySem.W.kia_one (PySem.W.kitx_own (cl.get _) cl.hd ha hn htk hm) I.kIn J e (fun z => nomatch z) h
end
end L2
namespace L2
open PySem PySem.Spec PyProof.Rows
structure Room (k : Nat) (A : Around) : Prop where
  hd : A.handled = none
  dp : A.depth + 3 * k + 5 < recursionLimit
  un : A.units + 16 * k + 200 < cLine
theorem Room.mono {j k : Nat} {A : Around} (r : Room k A) (h : j ≤ k) : Room j A := ⟨r.hd, by have := r.dp; omega, by have := r.un; omega⟩
theorem Room.deeper {k : Nat} {A : Around} (r : Room (k + 1) A) (env : Env) : Room k (A.deeper env) :=
  ⟨r.hd, by have := r.dp; show A.depth + 1 + 3 * k + 5 < _; omega, by have := r.un; show A.units + 3 + 16 * k + 200 < _; omega⟩
theorem Room.depth {k : Nat} {A : Around} (r : Room k A) : A.depth < recursionLimit := by have := r.dp; omega
theorem Room.units {k : Nat} {A : Around} (r : Room k A) : A.units + 64 < cLine := by have := r.un; omega
noncomputable def tNil : TA := fun _ H Q => Q [] H
noncomputable def tCons (ta : TE) (tr : TA) : TA := fun σ H Q => ta σ H fun x H1 => tr σ H1 fun xs H2 => Q (x :: xs) H2
section
variable {X : Cx} {e : Expr} {es : List Expr} {te : TE} {t : TA} {pos : Pos}
theorem pa_nil : PA X [] tNil := fun _ _ _ _ H Q I h => Calls.spliced_nil ⟨[], H, I, .nil, h⟩
theorem pa_cons (ha : PE X e te) (hr : PA X es t) (hs : starEach (e :: es) X.env = (false, eval e X.env) :: starEach es X.env := by rfl) : PA X (e :: es) (tCons te t) := by
  intro pos pins s σ H Q I h
  rw [hs]
  show wpAny _ _ (spliced ((false, eval e X.env) :: backTo pos (starEach es X.env))) _ _ s
  refine Calls.spliced_cons (thnE (ha pins s σ H _ I h) fun u s1 x H1 I1 r1 q1 => ?_)
  exact thnA (hr pos pins s1 σ H1 _ I1 q1) fun us s2 xs H2 I2 r2 q2 => ⟨x :: xs, H2, I2, .cons r1 r2, q2⟩
noncomputable def tTup (t : TA) : TE := fun σ H Q => t σ H fun xs H1 => xs.length ≤ sizeLine ∧ ∀ p, H1 p = none → Q (.ref p) (upd H1 p (.tup xs))
noncomputable def tLst (t : TA) : TE := fun σ H Q => t σ H fun xs H1 => xs.length ≤ sizeLine ∧ ∀ p, H1 p = none → Q (.ref p) (upd H1 p (.lst xs))
theorem pe_tup {x1} (h : PA X es t) : PE X (.Tuple es x1 pos) (tTup t) := by
  intro pins s σ H Q I hq
  refine wpAny_Tuple_spliced (thn (h pos pins s σ H _ I hq) fun us s1 w1_ => w1_.elim fun xs z_ => z_.elim fun H1 z_ => z_.elim fun I1 z_ => z_.elim fun r z_ => z_.elim fun z q => ⟨by rw [← r.length]; exact z, ?_⟩)
  have hf : H1 s1.heap.objs.size = none := I1.hok.fresh (Nat.le_refl _)
  refine ⟨.ref s1.heap.objs.size, upd H1 s1.heap.objs.size (.tup xs), I1.laid (t' := s1.toks) (fun b u e => Heap.get?_push_of_some _ e) (Nat.le_refl _) ?_, rfl, q _ hf⟩
  exact ⟨z, us, r, ⟨_, Heap.get?_push_size _ rfl, rfl, _, rfl⟩⟩
theorem pe_lst (h : PA X es t) : PE X (.List es pos) (tLst t) := by
  intro pins s σ H Q I hq
  refine wpAny_List_spliced (thn (h pos pins s σ H _ I hq) fun us s1 w1_ => w1_.elim fun xs z_ => z_.elim fun H1 z_ => z_.elim fun I1 z_ => z_.elim fun r z_ => z_.elim fun z q => ⟨by rw [← r.length]; exact z, ?_⟩)
  have hf : H1 s1.heap.objs.size = none := I1.hok.fresh (Nat.le_refl _)
  refine ⟨.ref s1.heap.objs.size, upd H1 s1.heap.objs.size (.lst xs), I1.laid (t' := s1.toks) (fun b u e => Heap.get?_push_of_some _ e) (Nat.le_refl _) ?_, rfl, q _ hf⟩
  exact ⟨z, us, 0, r, Heap.get?_push_size _ rfl⟩
end
noncomputable abbrev Sp := List V → Hp → VK → XK → Prop
noncomputable abbrev CXT := List Env → Hp → Shared → XK → Value → Shared → Prop
structure Env0 (P : Program) (w : World) (K : PySem.W.Frag) (mg : Str → Option Value) (base : Heap) (A : Around) (outer : List Env) (s : Shared) (H : Hp) : Prop where
  frames : A.frames = some outer
  mod : Mod K mg base
  bs : ∀ b o, base.get? b = some o → s.heap.get? b = some o ∧ H b = none
  bsz : base.objs.size ≤ s.heap.objs.size
  funs : s.heap.FunFrames base outer
  frf : ∀ b ∈ frs outer, H b = none
  hok : HOk P w H s.heap
  bare : AllBare s.gens
noncomputable def CE (outer : List Env) (P : Program) (w : World) (H : Hp) (s : Shared) (Q : VK) (u : Value) (s' : Shared) : Prop :=
  ∃ v H', s'.os = s.os ∧ AllBare s'.gens ∧ Un (frs outer) [] H H' s.heap s'.heap ∧ HOk P w H' s'.heap ∧ RelV v u ∧ Q v H'
noncomputable def CR (CX : CXT) (outer : List Env) (P : Program) (w : World) (H : Hp) (s : Shared) (Q : VK) (E : XK) (r : Result) (s' : Shared) : Prop :=
  match r with
  | .ok (.ret u) => CE outer P w H s Q u s'
  | .ok _ => False
  | .error e => CX outer H s E e s'
structure FnOk (P : Program) (w : World) (K : PySem.W.Frag) (mg : Str → Option Value) (base : Heap) (CX : CXT) (k : Nat) (f : Addr) (fd : FuncData) (ps : List Str) (sp : Sp) : Prop where
  len : ∀ vs H Q E, sp vs H Q E → vs.length = ps.length
  run : ∀ (A : Around) (outer : List Env) (s : Shared) (H : Hp) (args : Args) (us : List Value) (vs : List V) (Q : VK) (E : XK), Room k A → Env0 P w K mg base A outer s H → BindsTo s fd args (ps.zip us) → Vals vs us → sp vs H Q E →
    codeAny (model P w) A (.call (.ref f) args) (CR CX outer P w H s Q E) s
section
variable {X : Cx} {pins : List (Addr × Obj)} {σ : St} {H : Hp} {s s' : Shared}
theorem Inv.env0 (I : Inv X pins σ H s) : Env0 X.prog X.w X.K X.mg X.base X.A X.stack s H :=
  ⟨I.ok.frames, I.ok.mod, I.bs, Nat.le_trans I.ok.bsz I.sz, I.stack, I.stkFree, I.hok, I.bare⟩
theorem Inv.after {Q : VK} {u : Value} (I : Inv X pins σ H s) (h : CE X.stack X.prog X.w H s Q u s') : EP X pins σ Q u s' := by
  obtain ⟨v, H', os, bare, un, hok, r, q⟩ := h
  obtain ⟨hh, g, d, t, os'⟩ := s'
  obtain rfl : os' = s.os := os
  exact ⟨v, H', I.call (h' := hh) (g' := g) (d' := d) (t' := t) (ch := []) un hok bare (fun b z => absurd z (by simp)), r, q⟩
end
noncomputable def tCall (sp : Sp) (dvs : List V) (E : XK) (t : TA) : TE := fun σ H Q => t σ H fun vs H1 => sp (vs ++ dvs) H1 Q E
noncomputable def Binds (K : PySem.W.Frag) (fd : FuncData) (ps : List Str) (ds : List Value) : Prop :=
  ∀ (s : Shared) (us : List Value), K.In s.heap → (us ++ ds).length = ps.length → BindsTo s fd ⟨us, []⟩ (ps.zip (us ++ ds))
theorem Binds.all {K : PySem.W.Frag} {fd : FuncData} {ps : List Str} (h : ∀ us : List Value, us.length = ps.length → bindArgs fd ⟨us, []⟩ = pure (ps.zip us)) : Binds K fd ps [] := fun s us _ hl => by
  rw [List.append_nil] at hl ⊢
  exact .of_eq (h us hl)
noncomputable def Passes (CX : CXT) (X : Cx) (E : XK) : Prop := ∀ (pins : List (Addr × Obj)) (σ : St) (H : Hp) (s : Shared) (e : Value) (s' : Shared), Inv X pins σ H s → CX X.stack H s E e s' → X.xe e s'
section
variable {X : Cx} {CX : CXT} {k : Nat} {f C : Addr} {fd : FuncData} {ps : List Str} {sp : Sp} {dvs : List V} {ds : List Value} {E : XK} {x m : Str} {p pos apos : Pos} {e o : Expr} {es : List Expr} {ta : TE} {t : TA}
theorem run_fn {pins : List (Addr × Obj)} {σ : St} {H : Hp} {s : Shared} {Q : VK} {us : List Value} {vs : List V} (F : FnOk X.prog X.w X.K X.mg X.base CX k f fd ps sp) (hr : Room k X.A) (hb : Binds X.K fd ps ds) (hd : Vals dvs ds) (hx : Passes CX X E)
    (I : Inv X pins σ H s) (r : Vals vs us) (h : sp (vs ++ dvs) H Q E) : wpAny (model X.prog X.w) X.A (call (.ref f) us) (EP X pins σ Q) X.xe s := by
  have r2 : Vals (vs ++ dvs) (us ++ ds) := r.append hd
  have hl : (us ++ ds).length = ps.length := by rw [← r2.length]; exact F.len _ _ _ _ h
  refine wpAny_call (codeAny_mono (F.run X.A X.stack s H ⟨us, []⟩ (us ++ ds) (vs ++ dvs) Q E hr I.env0 (hb s us I.kIn hl) r2 h) fun r s' hq => ?_)
  cases r with
  | error e => exact hx pins σ H s e s' I hq
  | ok fl =>
    cases fl with
    | ret u => exact I.after hq
    | next => exact False.elim hq
    | brk => exact False.elim hq
    | cont => exact False.elim hq
theorem pe_call (F : FnOk X.prog X.w X.K X.mg X.base CX k f fd ps sp) (hr : Room k X.A) (hg : Gl X x) (hm : X.mg x = some (.ref f)) (hk : PySem.W.keepIn X.K (.ref f) = true) (hb : Binds X.K fd ps ds) (hd : Vals dvs ds) (hx : Passes CX X E)
    (ha : PA X (e :: es) t) (hdb : (x == ("__debug__" : Str)) = false := by decide) (he : starEach (e :: es) X.env = (false, eval e X.env) :: starEach es X.env := by rfl) (hpl : (backTo pos (starEach es X.env)).any (·.1) = false := by rfl) :
    PE X (.Call (.Name x p) (e :: es) [] pos) (tCall sp dvs E t) := by
  intro pins s σ H Q I h
  refine wpAny_Call_Name_kw (ld_glob I hg hm ?_ hdb)
  refine PySem.W.callWith_K (h₀ := X.base) I.ok.mod.kin hk (thnA (ha pos pins s σ H _ I h) fun us s1 vs H1 I1 r q => ⟨I1.kIn, ?_⟩) he hpl
  exact run_fn F hr hb hd hx I1 r q
theorem pe_call0 (F : FnOk X.prog X.w X.K X.mg X.base CX k f fd ps sp) (hr : Room k X.A) (hg : Gl X x) (hm : X.mg x = some (.ref f)) (hk : PySem.W.keepIn X.K (.ref f) = true) (hb : Binds X.K fd ps ds) (hd : Vals dvs ds) (hx : Passes CX X E)
    (hdb : (x == ("__debug__" : Str)) = false := by decide) : PE X (.Call (.Name x p) [] [] pos) (tCall sp dvs E tNil) := by
  intro pins s σ H Q I h
  refine wpAny_Call_Name_kw (ld_glob I hg hm ?_ hdb)
  exact PySem.W.callWith_K0 I.kIn hk (run_fn (us := []) F hr hb hd hx I .nil h)
end
section
variable {X : Cx} {CX : CXT} {k : Nat} {f C : Addr} {fd : FuncData} {ps ks : List Str} {sp : Sp} {E : XK} {x m : Str} {p pos apos kpos : Pos} {e o : Expr} {es : List Expr} {kws : List Keyword} {te ta : TE} {t tk : TA} {nm : Option Str}
variable {g : List Value → List Value → List Value} {gV : List V → List V → List V}
end
structure FnScope (N P : List Str) (sc : Scope) : Prop where
  kind : sc.kind = .function
  co : sc.isCoroutine = false
  gen : sc.isGenerator = false
  nd : N.Nodup
  pre : N.take P.length = P
  par : ∀ x ∈ P, sc.names.lookup x = some .local ∨ sc.names.lookup x = some .cell
  nofree : ∀ y ∈ sc.names, y.2 ≠ .free
theorem bindL_out {kindOf : Str → Option NameKind} {x : Str} : ∀ {binds : List (Str × Value)} {m : Str → Option Value}, (∀ v, (x, v) ∉ binds) → bindL kindOf binds m x = m x
  | [], _, _ => rfl
  | (n, v) :: r, m, h => by
    unfold bindL
    rw [bindL_out fun w hw => h w (List.mem_cons_of_mem _ hw)]
    split
    · have : x ≠ n := by rintro rfl; exact h v List.mem_cons_self
      simp [this]
    · rfl
theorem bindC_out {kindOf : Str → Option NameKind} {x : Str} : ∀ {binds : List (Str × Value)} {m : Str → Option Value}, (∀ v, (x, v) ∉ binds) → bindC kindOf binds m x = m x
  | [], _, _ => rfl
  | (n, v) :: r, m, h => by
    unfold bindC
    rw [bindC_out fun w hw => h w (List.mem_cons_of_mem _ hw)]
    split
    · rfl
    · have : x ≠ n := by rintro rfl; exact h v List.mem_cons_self
      simp [this]
theorem bindL_get {kindOf : Str → Option NameKind} {x : Str} {v : Value} : ∀ {P : List Str} {vs : List Value} {i : Nat} {m : Str → Option Value}, P.Nodup → P[i]? = some x → vs[i]? = some v → kindOf x = some .local →
    bindL kindOf (P.zip vs) m x = some v
  | [], _, _, _, _, h, _, _ => by simp at h
  | _ :: _, [], _, _, _, _, h, _ => by simp at h
  | p :: P, w :: vs, 0, m, nd, h1, h2, hk => by
    simp at h1 h2; subst h1; subst h2
    show bindL kindOf ((p, w) :: P.zip vs) m p = _
    unfold bindL
    rw [bindL_out fun v hv => (List.nodup_cons.mp nd).1 (List.of_mem_zip hv).1, if_pos hk]
    simp
  | p :: P, w :: vs, i + 1, m, nd, h1, h2, hk => by
    show bindL kindOf ((p, w) :: P.zip vs) m x = _
    unfold bindL
    exact bindL_get (i := i) (List.nodup_cons.mp nd).2 (by simpa using h1) (by simpa using h2) hk
theorem bindC_get {kindOf : Str → Option NameKind} {x : Str} {v : Value} : ∀ {P : List Str} {vs : List Value} {i : Nat} {m : Str → Option Value}, P.Nodup → P[i]? = some x → vs[i]? = some v → kindOf x ≠ some .local →
    bindC kindOf (P.zip vs) m x = some v
  | [], _, _, _, _, h, _, _ => by simp at h
  | _ :: _, [], _, _, _, _, h, _ => by simp at h
  | p :: P, w :: vs, 0, m, nd, h1, h2, hk => by
    simp at h1 h2; subst h1; subst h2
    show bindC kindOf ((p, w) :: P.zip vs) m p = _
    unfold bindC
    rw [bindC_out fun v hv => (List.nodup_cons.mp nd).1 (List.of_mem_zip hv).1, if_neg hk]
    simp
  | p :: P, w :: vs, i + 1, m, nd, h1, h2, hk => by
    show bindC kindOf ((p, w) :: P.zip vs) m x = _
    unfold bindC
    exact bindC_get (i := i) (List.nodup_cons.mp nd).2 (by simpa using h1) (by simpa using h2) hk
noncomputable def start (N : List Str) (vs : List V) : St := vs.map some ++ List.replicate (N.length - vs.length) none
noncomputable def cxOf (CX : CXT) (P : Program) (w : World) (K : PySem.W.Frag) (mg : Str → Option Value) (base : Heap) (N : List Str) (qual : Str) (scope : Scope) (f : Addr) (cd : Value) (A : Around) (outer : List Env) (s : Shared) (H : Hp) (E : XK) : Cx where
  prog := P
  w := w
  K := K
  mg := mg
  base := base
  A := A.deeper (envOfC qual scope s.heap.objs.size f cd)
  N := N
  s₀ := s
  H₀ := H
  env := envOfC qual scope s.heap.objs.size f cd
  outer := outer
  stack := envOfC qual scope s.heap.objs.size f cd :: outer
  ex := []
  calm := true
  fn := fun _ => true
  pn := []
  xe := fun e s' => wpAny (model P w) (A.deeper (envOfC qual scope s.heap.objs.size f cd)) (leaving (envOfC qual scope s.heap.objs.size f cd) e) (fun _ s'' => CX outer H s E e s'') (fun e' s'' => CX outer H s E e' s'') s'
theorem cell_has {sc : Scope} {n : Nat} {x : Str} (h : sc.names.lookup x = some .cell) : ∃ c, (cellsFrom n sc.names []).lookup x = some c := by
  have q := PySem.W.cellsFrom_some sc.names n [] (.inl h)
  exact Option.isSome_iff_exists.mp q
theorem inv_start {CX : CXT} {P : Program} {w : World} {K : PySem.W.Frag} {mg : Str → Option Value} {base : Heap} {N ps : List Str} {qual : Str} {scope : Scope} {f : Addr} {cd : Value} {A : Around} {outer : List Env} {s s1 : Shared} {H : Hp} {E : XK} {us : List Value} {vs : List V}
    (S : FnScope N ps scope) (hd : A.handled = none) (e0 : Env0 P w K mg base A outer s H) (hl : vs.length = ps.length) (r : Vals vs us)
    (x : InCallC s s.heap.objs.size (bindL (envOfC qual scope s.heap.objs.size f cd).kindOf (ps.zip us) fun _ => none) (cellsFrom (s.heap.objs.size + 1) scope.names []) (bindC (envOfC qual scope s.heap.objs.size f cd).kindOf (ps.zip us) fun _ => none) s1) :
    Inv (cxOf CX P w K mg base N qual scope f cd A outer s H E) [] (start N vs) H s1 := by
  have hpl : ps.length ≤ N.length := by have := congrArg List.length S.pre; rw [List.length_take] at this; omega
  obtain ⟨h1, tk, rfl, hk⟩ := x.done
  have noA : ∀ b : Addr, b ∉ (cxOf CX P w K mg base N qual scope f cd A outer s H E).ex := fun b z => absurd (show b ∈ ([] : List Addr) from z) (by simp)
  refine ⟨⟨e0.mod, S.kind, rfl, rfl, Nat.le_refl _, fun y z c h1 h2 => ?_, fun y hy => ?_, fun y c _ h => ?_, fun _ => hd, Around.frames_deeper e0.frames, .inr ⟨rfl, rfl⟩, fun b z => absurd z (noA b), e0.bs, e0.bsz, fun b _ _ => noA b, fun b z => absurd z (noA b), e0.funs, e0.frf⟩,
    rfl, e0.bare, Un.kept hk, ⟨_, x.toInCall.ns, fun i y v h1 h2 h3 => ?_⟩, fun y c h => ⟨_, x.cell y c h⟩, e0.hok.fresh (Nat.le_refl _), fun y c h => ?_, fun p hp => absurd (show p ∈ ([] : List (Addr × Obj)) from hp) (by simp), e0.hok.kept hk, ?_⟩
  · exact name_of_addr x.apart (PySem.mem_of_lookup h1) (PySem.mem_of_lookup h2)
  · have hy : scope.names.lookup y = some .cell ∨ scope.names.lookup y = some .free := hy
    rcases hy with hy | hy
    · exact cell_has hy
    · exact absurd rfl (S.nofree _ (PySem.mem_of_lookup hy))
  · exact Nat.le_of_lt (x.above y c (PySem.mem_of_lookup h))
  · have hi : i < vs.length := by
      unfold start at h2
      by_cases hi : i < vs.length
      · exact hi
      · rw [List.getElem?_append_right (by simpa using hi)] at h2
        rw [List.getElem?_replicate] at h2
        split at h2 <;> cases h2
    have ha : vs[i]? = some v := by
      unfold start at h2
      rw [List.getElem?_append_left (by simpa using hi), List.getElem?_map] at h2
      cases e : vs[i]? with
      | none => rw [e] at h2; cases h2
      | some a => rw [e] at h2; cases h2; rfl
    obtain ⟨u, hu, rv⟩ := r.get ha
    have hp : ps[i]? = some y := by
      rw [← S.pre, List.getElem?_take_of_lt (by omega)]; exact h1
    have ndP : ps.Nodup := by rw [← S.pre]; exact S.nd.sublist (List.take_sublist _ _)
    refine ⟨u, rv, ?_⟩
    rcases S.par y (List.mem_of_getElem? hp) with k | k
    · exact .inl ⟨k, bindL_get ndP hp hu k⟩
    · obtain ⟨c, e⟩ := cell_has (n := s.heap.objs.size + 1) k
      refine .inr ⟨.inl k, c, e, ?_⟩
      have q := x.cell y c e
      rw [bindC_get ndP hp hu (by show scope.names.lookup y ≠ _; rw [k]; decide)] at q
      exact q
  · exact e0.hok.fresh (Nat.le_of_lt (x.above y c (PySem.mem_of_lookup h)))
  · unfold start
    show _ = N.length
    rw [List.length_append, List.length_map, List.length_replicate]
    omega
theorem fn_of {CX : CXT} {P : Program} {w : World} {K : PySem.W.Frag} {mg : Str → Option Value} {base : Heap} {k : Nat} {f : Addr} {name qual : Str} {params : Arguments} {body : List Stmt} {scope : Scope} {dV kV doc pm cdv ct oc : Value} {an od : Option Addr}
    {osl : Array (Option Value)} {N ps : List Str} {sp : Sp} (lk : K.lookup f = some ⟨oc, od, .func (PySem.W.fnOf name qual params body scope dV kV doc pm an cdv ct), osl⟩) (hcd : PySem.W.codeIn K cdv qual = true) (S : FnScope N ps scope)
    (len : ∀ vs H Q E, sp vs H Q E → vs.length = ps.length)
    (hbody : ∀ (A : Around) (outer : List Env) (s : Shared) (H : Hp) (vs : List V) (Q : VK) (E : XK), Room k (A.deeper (envOfC qual scope s.heap.objs.size f cdv)) → sp vs H Q E →
      ∃ t, PSs (cxOf CX P w K mg base N qual scope f cdv A outer s H E) body t ∧ t { nx := fun _ H' => Q .non H', rt := Q } (start N vs) H) :
    FnOk P w K mg base CX (k + 1) f (PySem.W.fnOf name qual params body scope dV kV doc pm an cdv ct) ps sp := by
  refine ⟨len, fun A outer s H args us vs Q E hr e0 hb r hsp => ?_⟩
  have hl := len _ _ _ _ hsp
  have KX : K.In s.heap := e0.mod.kin.keeps fun b o e => (e0.bs b o e).1
  have lim : s.heap.NoLimit := e0.mod.nolimit.keeps fun b o e => (e0.bs b o e).1
  have hkind : ∀ y ∈ ps.zip us, scope.names.lookup y.1 = some .local ∨ (scope.names.lookup y.1 = some .cell ∧ ((cellsFrom (s.heap.objs.size + 1) scope.names []).lookup y.1).isSome = true) := fun ⟨n, v⟩ hy => by
    rcases S.par n (List.of_mem_zip hy).1 with q | q
    · exact .inl q
    · exact .inr ⟨q, PySem.W.cellsFrom_some _ _ _ (.inl q)⟩
  refine codeAny_call_function hr.depth (KX _ _ lk) rfl S.co S.gen rfl (PySem.W.codeRec_of KX hcd) (hb _ _ _ _ ?_)
  refine wpAny_newFunctionEnv_cells S.kind hkind fun env he s1 x => ?_
  subst he
  refine ⟨lim.keeps x.toInCall.keep, codeAny_func ?_⟩
  obtain ⟨t, ht, hq⟩ := hbody A outer s H vs Q E (hr.deeper _) hsp
  have I : Inv (cxOf CX P w K mg base N qual scope f cdv A outer s H E) [] (start N vs) H s1 := inv_start S hr.hd e0 hl r x
  refine wpAny_mono (ht [] s1 (start N vs) H _ I hq) (fun fl s' hs => ?_) fun e s' hs => hs
  have fin : ∀ {σ' : St} {H' : Hp} {v : V} {u : Value}, Inv (cxOf CX P w K mg base N qual scope f cdv A outer s H E) [] σ' H' s' → RelV v u → Q v H' → CE outer P w H s Q u s' :=
    fun {σ' H' v u} J rv q => ⟨v, H', J.os, J.bare, J.base, J.hok, rv, q⟩
  cases fl with
  | ret u =>
    obtain ⟨v, σ', H', J, rv, q⟩ := hs
    exact fin J rv q
  | next =>
    obtain ⟨σ', H', J, q⟩ := hs
    exact fin (v := V.non) (u := Value.none) J rfl q
  | brk =>
    obtain ⟨_, _, _, q⟩ := hs
    exact False.elim q
  | cont =>
    obtain ⟨_, _, _, q⟩ := hs
    exact False.elim q
end L2
namespace L2
open PySem PySem.Spec PyProof.Rows
section
variable {X : Cx} {x : Str} {p pos : Pos} {e : Expr} {es : List Expr} {t : TA} {id T : String} {r : List V → Hp → VK → Prop}
noncomputable def tCB (r : List V → Hp → VK → Prop) (t : TA) : TE := fun σ H Q => t σ H fun vs H1 => r vs H1 Q
theorem pe_callB (hc : CallR X (.builtin id) r) (hg : Gl X x) (hm : X.mg x = none) (hv : bootBuiltins x = some (.builtin id)) (ha : PA X (e :: es) t) (hn : x ≠ "__name__" := by decide) (hdb : (x == ("__debug__" : Str)) = false := by decide)
    (he : starEach (e :: es) X.env = (false, eval e X.env) :: starEach es X.env := by rfl) (hpl : (backTo pos (starEach es X.env)).any (·.1) = false := by rfl) : PE X (.Call (.Name x p) (e :: es) [] pos) (tCB r t) := by
  intro pins s σ H Q I h
  refine wpAny_Call_Name_kw (ld_blt I hg hm hv ?_ hn hdb)
  exact PyProof.Rows.callWith_builtin1 (thnA (ha pos pins s σ H _ I h) fun us s1 vs H1 I1 r1 q1 => hc pins s1 σ H1 vs us Q I1 r1 q1) he hpl
theorem pe_callTy (hc : CallR X (.type T) r) (hg : Gl X x) (hm : X.mg x = none) (hv : bootBuiltins x = some (.type T)) (ha : PA X (e :: es) t) (hn : x ≠ "__name__" := by decide) (hdb : (x == ("__debug__" : Str)) = false := by decide)
    (he : starEach (e :: es) X.env = (false, eval e X.env) :: starEach es X.env := by rfl) (hpl : (backTo pos (starEach es X.env)).any (·.1) = false := by rfl) : PE X (.Call (.Name x p) (e :: es) [] pos) (tCB r t) := by
  intro pins s σ H Q I h
  refine wpAny_Call_Name_kw (ld_blt I hg hm hv ?_ hn hdb)
  exact PyProof.Rows.callWith_type1 (thnA (ha pos pins s σ H _ I h) fun us s1 vs H1 I1 r1 q1 => hc pins s1 σ H1 vs us Q I1 r1 q1) he hpl
end
end L2
namespace HT
open PySem PyProof.Rows
section
open PySem.SeqAt
open PySem.AutoSeq1 (wpAny_loadPart')
open PySem.MeetsSeq PySem.MeetsSeq2 PySem.MeetsSeq3
end
section
variable {prog : Program} {w : World} {A : Around} {E : Value → Shared → Prop} {s : Shared}
theorem cat_tup {t b : Addr} {vs ws : List Value} {Q : Value → Shared → Prop} (ht : IsTup s.heap t vs.toArray) (hb : IsTup s.heap b ws.toArray) (hv : vs ≠ [])
    (h1 : ws = [] → Q (.ref t) s) (h2 : ws ≠ [] → Q (.ref s.heap.objs.size) { s with heap := s.heap.push { cls := .type "tuple", data := .seq (vs ++ ws).toArray } })
    (hsz : vs.length + ws.length ≤ sizeLine) : wpAny (model prog w) A (binaryOp .Add (.ref t) (.ref b)) Q E s := by
  obtain ⟨⟨cls, dd, data, sl⟩, ho, hc, n, hd⟩ := id ht
  obtain ⟨⟨cls2, dd2, data2, sl2⟩, ho2, hc2, n2, hd2⟩ := id hb
  simp only at hc hd hc2 hd2
  subst hc hd hc2 hd2
  have e : vs.toArray ++ ws.toArray = (vs ++ ws).toArray := by simp
  by_cases hw : ws = []
  · exact concat_meets ⟨_, ho, rfl⟩ ⟨_, ho2, rfl⟩ noFill_tuple_add seq_tuple_add PySem.F.slot_tuple_add PySem.F.entry_tuple_add (PySem.F.args_tuple_add_2 _ _)
      (tuple_addW1 t b vs.toArray ws.toArray n n2 dd dd2 sl sl2 (by simpa using hv) (by simp [hw])) ⟨ho, ho2, h1 hw⟩
  · refine concat_meets ⟨_, ho, rfl⟩ ⟨_, ho2, rfl⟩ noFill_tuple_add seq_tuple_add PySem.F.slot_tuple_add PySem.F.entry_tuple_add (PySem.F.args_tuple_add_2 _ _)
      (tuple_addW2 t b vs.toArray ws.toArray n n2 dd dd2 sl sl2 (by simpa using hv) (by simpa using hw) (by rw [List.size_toArray, List.size_toArray]; exact hsz)) ⟨ho, ho2, ?_⟩
    rw [e]
    exact h2 hw
noncomputable def sIx (n d : Nat) : Option Int → Nat
  | none => d
  | some v => if v < 0 then (v + (n : Int)).toNat else min v.toNat n
theorem sIx_le (n d : Nat) (hd : d ≤ n) (o : Option Int) : sIx n d o ≤ n := by
  cases o with
  | none => exact hd
  | some v =>
    show (if v < 0 then (v + (n : Int)).toNat else min v.toNat n) ≤ n
    by_cases hv : v < 0
    · rw [if_pos hv]; omega
    · rw [if_neg hv]; exact Nat.min_le_right _ _
theorem clip_eq (v : Int) (n d : Nat) : (if v < 0 then max (v + (n : Int)) 0 else min v (n : Int)) = ((sIx n d (some v) : Nat) : Int) := by
  show (if v < 0 then max (v + (n : Int)) 0 else min v (n : Int)) = (((if v < 0 then (v + (n : Int)).toNat else min v.toNat n) : Nat) : Int)
  by_cases hv : v < 0
  · simp only [if_pos hv]; omega
  · simp only [if_neg hv]; omega
theorem adjust_gen (lo hi : Option Int) (n : Nat) : Builtin.Slice.sliceAdjust lo hi 1 (n : Int) = (((sIx n 0 lo : Nat) : Int), ((sIx n n hi : Nat) : Int)) := by
  have h1 : ¬ ((1 : Int) < 0) := by omega
  unfold Builtin.Slice.sliceAdjust
  simp only [h1, if_false]
  refine Prod.ext ?_ ?_
  · cases lo with
    | none => rfl
    | some v => exact clip_eq v n 0
  · cases hi with
    | none => rfl
    | some v => exact clip_eq v n n
theorem places_gen (i j : Nat) : Builtin.Slice.slicePlaces (i : Int) (j : Int) 1 = j - i := by
  unfold Builtin.Slice.slicePlaces
  have h1 : (1 : Int) > 0 := by omega
  simp only [h1, if_true, Int.ediv_one]
  split <;> omega
theorem slicePart_ {v : Value} {o : Option Int} {Q : Option Int → Shared → Prop} (p : IsPart v o) (h : Q o s) : wpAny (model prog w) A (Builtin.Slice.slicePartIndex v) Q E s := by
  cases p with
  | none => exact slicePart_none h
  | int i t => exact slicePart_int h
theorem sliceApplied_gen {sl : Addr} {vl vu : Value} {lo hi : Option Int} {n : Nat} {Q : Int × Int × Nat → Shared → Prop} (hs : s.heap.IsSliceOf sl vl vu .none) (pl : IsPart vl lo) (pu : IsPart vu hi)
    (h : Q (((sIx n 0 lo : Nat) : Int), 1, sIx n n hi - sIx n 0 lo) s) : wpAny (model prog w) A (Builtin.Slice.sliceApplied (.ref sl) (pure (n : Int))) Q E s := by
  obtain ⟨os, hos, hcs, hds⟩ := id hs
  unfold Builtin.Slice.sliceApplied Builtin.Slice.sliceFields
  refine wpAny_bind (wpAny_bind (wpAny_field hos hds (x := vl) rfl (wpAny_bind (wpAny_field hos hds (x := vu) rfl (wpAny_bind (wpAny_field hos hds (x := .none) rfl (wpAny_pure ?_)))))))
  refine wpAny_bind (slicePart_none ?_)
  show wpAny _ _ (if ((1 : Int) == 0) = true then _ else _) _ _ s
  rw [if_neg (by decide)]
  refine wpAny_bind (slicePart_ pl (wpAny_bind (slicePart_ pu (wpAny_bind (wpAny_pure ?_)))))
  show wpAny _ _ (match Builtin.Slice.sliceAdjust lo hi 1 (n : Int) with | (lo, hi) => pure (lo, (1 : Int), Builtin.Slice.slicePlaces lo hi 1)) _ _ s
  rw [adjust_gen lo hi n]
  show wpAny _ _ (pure (((sIx n 0 lo : Nat) : Int), (1 : Int), Builtin.Slice.slicePlaces ((sIx n 0 lo : Nat) : Int) ((sIx n n hi : Nat) : Int) 1)) _ _ s
  rw [places_gen]
  exact wpAny_pure h
theorem pick_gen (xs : Array Value) (i k : Nat) : ((List.range k).filterMap fun (m : Nat) => xs[((i : Int) + (m : Int) * 1).toNat]?).toArray = ((xs.toList.drop i).take k).toArray := by
  have e : (fun (m : Nat) => xs[((i : Int) + (m : Int) * 1).toNat]?) = fun m => xs[i + m]? := by
    funext m
    have : ((i : Int) + (m : Int) * 1).toNat = i + m := by omega
    rw [this]
  rw [e]
  have := pick_run xs i k
  rw [List.filterMap_map] at this
  have e2 : ((fun x => xs[x]?) ∘ fun x => i + x) = fun m => xs[i + m]? := rfl
  rw [e2] at this
  rw [this]
theorem getItem_tuple_cut {t sl : Addr} {items : Array Value} {vl vu : Value} {lo hi : Option Int} {Q : Value → Shared → Prop} (ht : IsTup s.heap t items) (hs : s.heap.IsSliceOf sl vl vu .none) (pl : IsPart vl lo) (pu : IsPart vu hi)
    (hw : ¬ (sIx items.size 0 lo = 0 ∧ sIx items.size items.size hi = items.size))
    (h : Q (.ref s.heap.objs.size) { s with heap := s.heap.push { cls := .type "tuple", data := .seq ((items.toList.drop (sIx items.size 0 lo)).take (sIx items.size items.size hi - sIx items.size 0 lo)).toArray } })
    (hsz : items.size ≤ sizeLine) : wpAny (model prog w) A (getItem (.ref t) (.ref sl)) Q E s := by
  have htake : sizeOk (.seq ((items.toList.drop (sIx items.size 0 lo)).take (sIx items.size items.size hi - sIx items.size 0 lo)).toArray) := by
    show ((items.toList.drop (sIx items.size 0 lo)).take (sIx items.size items.size hi - sIx items.size 0 lo)).toArray.size ≤ sizeLine
    rw [List.size_toArray, List.length_take, List.length_drop, Array.length_toList]
    omega
  have hj : sIx items.size items.size hi ≤ items.size := sIx_le _ _ (Nat.le_refl _) hi
  obtain ⟨os, hos, hcs, hds⟩ := id hs
  have hTs : s.TypeIs (.ref sl) "slice" := ⟨os, hos, hcs⟩
  unfold getItem
  try with_reducible refine wpAny_holding ?_
  first | refine wpAny_bind (wpAny_pure ?_) | skip
  refine wpAny_bind (wpAny_sequenceKey ht.typeIs (by decide) ?_)
  refine wpAny_bind (wpAny_callSpecial?_slot (name := Str.ofString "__getitem__") ht.typeIs PyProof.Rows.slot_tuple_getitem
    (wpAny_call_entry PyProof.Rows.slot_tuple_getitem ht.typeIs entry_tuple_getitem ?_ (args_tuple_getitem _ _)))
  show wpAny _ _ (Builtin.Tuple.tupleItemsOf (.ref t) >>= _) _ _ s
  refine wpAny_bind (tupleItemsOf_ ht ?_)
  refine wpAny_bind (wpAny_typeOf hTs ?_)
  rw [if_pos (by decide)]
  refine wpAny_bind (sliceApplied_gen hs pl pu ?_)
  have hno : ¬ ((((sIx items.size 0 lo : Nat) : Int) == 0 && (1 : Int) == 1 && (sIx items.size items.size hi - sIx items.size 0 lo) == items.size) = true) := by
    intro q
    rw [Bool.and_eq_true, Bool.and_eq_true] at q
    have q1 : ((sIx items.size 0 lo : Nat) : Int) = 0 := eq_of_beq q.1.1
    have q2 : sIx items.size items.size hi - sIx items.size 0 lo = items.size := eq_of_beq q.2
    exact hw ⟨by omega, by omega⟩
  show wpAny _ _ (if (((sIx items.size 0 lo : Nat) : Int) == 0 && (1 : Int) == 1 && (sIx items.size items.size hi - sIx items.size 0 lo) == items.size) = true then _ else _) _ _ s
  rw [if_neg hno, pick_gen]
  first
    | exact wpAny_bind (m := Builtin.Tuple.tupleExact _) (wpAny_newObj_type (wpAny_pure ⟨_, rfl, wpAny_pure h⟩) htake)
    | exact wpAny_bind (m := Builtin.Tuple.tupleExact _) (wpAny_newObj_type (wpAny_bind (wpAny_pure (wpAny_pure ⟨_, rfl, wpAny_pure h⟩))) htake)
    | exact wpAny_bind (wpAny_bind (m := Builtin.Tuple.tupleExact _) (wpAny_newObj_type (wpAny_pure (wpAny_pure ⟨_, rfl, wpAny_pure h⟩)) htake))
    | exact wpAny_bind (wpAny_bind (m := Builtin.Tuple.tupleExact _) (wpAny_newObj_type (wpAny_pure ⟨_, rfl, wpAny_pure h⟩) htake))
end
end HT
namespace L2
open PySem PySem.Spec PyProof.Rows
noncomputable abbrev TO := St → Hp → (Option Int → Hp → Prop) → Prop
noncomputable def PO (X : Cx) (e : Option Expr) (t : TO) : Prop :=
  ∀ (pins : List (Addr × Obj)) (s : Shared) (σ : St) (H : Hp) (Q : Option Int → Hp → Prop), Inv X pins σ H s → t σ H Q →
    wpAny (model X.prog X.w) X.A (evalPart e X.env) (fun u s' => ∃ o H', Inv X pins σ H' s' ∧ IsPart u o ∧ Q o H') X.xe s
noncomputable def tNoPart : TO := fun _ H Q => Q none H
noncomputable def tPart (t : TE) : TO := fun σ H Q => t σ H fun x H1 => ∃ i, x = .int i ∧ Q (some i) H1
section
variable {X : Cx} {e : Expr} {te : TE} {lo hi : Option Expr} {tl th : TO} {pos p2 : Pos}
theorem po_none : PO X none tNoPart := by
  intro pins s σ H Q I h
  rw [evalPart_none]
  exact wpAny_pure ⟨none, H, I, .none, h⟩
theorem po_some (h : PE X e te) : PO X (some e) (tPart te) := by
  intro pins s σ H Q I hw
  rw [evalPart_some]
  refine thnE (h pins s σ H _ I hw) fun u s1 x H1 I1 r1 q1 => ?_
  obtain ⟨i, rfl, q⟩ := q1
  obtain ⟨t, rfl⟩ := r1
  exact ⟨some i, H1, I1, .int i t, q⟩
noncomputable def SlR (X : Cx) (r : V → Option Int → Option Int → Hp → VK → Prop) : Prop :=
  ∀ (pins : List (Addr × Obj)) (s : Shared) (σ : St) (H : Hp) (x : V) (v vl vu : Value) (lo hi : Option Int) (sl : Addr) (Q : VK), Inv X pins σ H s → RelV x v → s.heap.IsSliceOf sl vl vu .none → IsPart vl lo → IsPart vu hi → r x lo hi H Q →
    ∃ T id, typeLookup (.type T) "__getitem__" = pure (some (.builtin id)) ∧ s.TypeIs v T ∧ wpAny (model X.prog X.w) X.A (getItem v (.ref sl)) (EP X pins σ Q) X.xe s
noncomputable def tSl (r : V → Option Int → Option Int → Hp → VK → Prop) (te : TE) (tl th : TO) : TE := fun σ H Q => te σ H fun x H1 => tl σ H1 fun l H2 => th σ H2 fun u H3 => r x l u H3 Q
theorem pe_slice {r : V → Option Int → Option Int → Hp → VK → Prop} (hr : SlR X r) (he : PE X e te) (hl : PO X lo tl) (hu : PO X hi th) : PE X (.Subscript e (.Slice lo hi none p2) pos) (tSl r te tl th) := by
  intro pins s σ H Q I h
  refine Subscript_ (thnE (he pins s σ H _ I h) fun v s1 x H1 I1 r1 q1 => ?_)
  refine wpAny_Slice (thn (hl pins s1 σ H1 _ I1 q1) fun vl s2 w1_ => w1_.elim fun l z_ => z_.elim fun H2 z_ => z_.elim fun I2 z_ => z_.elim fun pl q2 => thn (hu pins s2 σ H2 _ I2 q2) fun vu s3 w1_ => w1_.elim fun u z_ => z_.elim fun H3 z_ => z_.elim fun I3 z_ => z_.elim fun pu q3 => ?_)
  rw [evalPart_none]
  refine wpAny_pure ?_
  have I4 : Inv X pins σ H3 { s3 with heap := s3.heap.push { cls := .type "slice", data := .fields #[vl, vu, .none] } } := I3.kept (t' := s3.toks) fun b ob q => Heap.get?_push_of_some _ q
  obtain ⟨T, id, hT, ht, hg⟩ := hr pins { s3 with heap := s3.heap.push { cls := .type "slice", data := .fields #[vl, vu, .none] } } σ H3 x v vl vu l u s3.heap.objs.size Q I4 r1 (Heap.IsSliceOf.new ..) pl pu q3
  show wpAny (model X.prog X.w) X.A (subscriptTail e (.Slice lo hi none p2) v (.ref s3.heap.objs.size)) (EP X pins σ Q) X.xe { s3 with heap := s3.heap.push { cls := .type "slice", data := .fields #[vl, vu, .none] } }
  exact tail_any (ops := [.ref s3.heap.objs.size, v]) ht hT hg (by with_unfolding_all rfl)
noncomputable def cutV (xs : List V) (lo hi : Option Int) : List V := (xs.drop (HT.sIx xs.length 0 lo)).take (HT.sIx xs.length xs.length hi - HT.sIx xs.length 0 lo)
theorem cutV_length (xs : List V) (lo hi : Option Int) : (cutV xs lo hi).length ≤ xs.length := by
  unfold cutV
  rw [List.length_take, List.length_drop]
  omega
noncomputable def rSlT (K : PySem.W.Frag) : V → Option Int → Option Int → Hp → VK → Prop := fun x lo hi H Q => ∃ a xs, x = .ref a ∧ SqT K H a xs ∧
  ¬ (HT.sIx xs.length 0 lo = 0 ∧ HT.sIx xs.length xs.length hi = xs.length) ∧ ∀ p, H p = none → Q (.ref p) (upd H p (.tup (cutV xs lo hi)))
theorem sl_tup : SlR X (rSlT X.K) := by
  intro pins s σ H x v vl vu lo hi sl Q I rx hs pl pu h
  obtain ⟨a, xs, rfl, hx, hw, q⟩ := h
  cases rx
  obtain ⟨its, r, ht, hz⟩ := I.tuple hx
  have hlen : its.toArray.size = xs.length := by rw [List.size_toArray]; exact r.length.symm
  refine ⟨"tuple", _, PyProof.Rows.slot_tuple_getitem.lookup, ht.typeIs, ?_⟩
  refine HT.getItem_tuple_cut ht hs pl pu (by rw [hlen]; exact hw) ?_ (by rw [hlen]; exact hz)
  rw [hlen]
  refine ⟨.ref s.heap.objs.size, _, I.laid (t' := s.toks) (o := .tup (cutV xs lo hi)) (fun b ob q => Heap.get?_push_of_some _ q) (Nat.le_refl _) ?_, rfl, q _ (I.hok.fresh (Nat.le_refl _))⟩
  exact ⟨Nat.le_trans (cutV_length xs lo hi) hz, _, (r.drop (HT.sIx xs.length 0 lo)).take (HT.sIx xs.length xs.length hi - HT.sIx xs.length 0 lo), IsTup.new _ _⟩
noncomputable def rCatT (K : PySem.W.Frag) : R2 := fun x y H Q => ∃ a b xs ys, x = .ref a ∧ y = .ref b ∧ SqT K H a xs ∧ SqT K H b ys ∧ xs ≠ [] ∧ xs.length + ys.length ≤ sizeLine ∧
  (ys = [] → Q (.ref a) H) ∧ (ys ≠ [] → ∀ p, H p = none → Q (.ref p) (upd H p (.tup (xs ++ ys))))
theorem Vals.nil_iff {xs : List V} {us : List Value} (r : Vals xs us) : us = [] ↔ xs = [] := by
  cases r with
  | nil => simp
  | cons _ _ => simp
theorem op_catT : OpR X (binaryOp .Add) (rCatT X.K) := by
  intro pins s σ H x y v u Q I rx ry h
  obtain ⟨a, b, xs, ys, rfl, rfl, ha, hb, hx, hz, q1, q2⟩ := h
  cases rx
  cases ry
  obtain ⟨its, r1, p1, _⟩ := I.tuple ha
  obtain ⟨its2, r2, p2, _⟩ := I.tuple hb
  refine HT.cat_tup p1 p2 (fun z => hx (r1.nil_iff.mp z)) (fun z => ⟨.ref a, H, I, rfl, q1 (r2.nil_iff.mp z)⟩) (fun z => ?_) (by rw [← r1.length, ← r2.length]; exact hz)
  refine ⟨.ref s.heap.objs.size, _, I.laid (t' := s.toks) (o := .tup (xs ++ ys)) (fun b ob q => Heap.get?_push_of_some _ q) (Nat.le_refl _) ?_, rfl, q2 (fun w => z (r2.nil_iff.mpr w)) _ (I.hok.fresh (Nat.le_refl _))⟩
  exact ⟨by rw [List.length_append]; exact hz, _, r1.append r2, IsTup.new _ _⟩
end
end L2
namespace L2
open PySem PySem.Spec PyProof.Rows
noncomputable def ixN (n : Nat) (i : Int) : Option Nat := if 0 ≤ i then (if i < n then some i.toNat else none) else if -(n : Int) ≤ i then some (i + n).toNat else none
noncomputable def atI {α : Type} (xs : List α) (i : Int) : Option α := (ixN xs.length i).bind fun j => xs[j]?
theorem ixN_seq {n : Nat} {i : Int} {j : Nat} (h : ixN n i = some j) : seqIndex? i n = some j ∧ j < n ∧ -(n : Int) ≤ i ∧ i < n := by
  unfold ixN at h
  by_cases h0 : 0 ≤ i
  · rw [if_pos h0] at h
    by_cases h1 : i < n
    · rw [if_pos h1] at h
      have e : i.toNat = j := Option.some.inj h
      exact ⟨by rw [seqIndex_of h0 h1, e], by omega, by omega, h1⟩
    · rw [if_neg h1] at h; cases h
  · rw [if_neg h0] at h
    by_cases h1 : -(n : Int) ≤ i
    · rw [if_pos h1] at h
      have e : (i + n).toNat = j := Option.some.inj h
      exact ⟨by rw [seqIndex_neg (by omega) h1, e], by omega, h1, by omega⟩
    · rw [if_neg h1] at h; cases h
theorem atI_get {α : Type} {xs : List α} {i : Int} {v : α} (h : atI xs i = some v) : ∃ j, seqIndex? i xs.length = some j ∧ xs[j]? = some v ∧ j < xs.length ∧ -(xs.length : Int) ≤ i ∧ i < xs.length := by
  unfold atI at h
  cases e : ixN xs.length i with
  | none => rw [e] at h; cases h
  | some j =>
    rw [e] at h
    obtain ⟨h1, h2, h3, h4⟩ := ixN_seq e
    exact ⟨j, h1, h, h2, h3, h4⟩
theorem atI_nat {α : Type} {xs : List α} {j : Nat} {v : α} (h : xs[j]? = some v) : atI xs (j : Int) = some v := by
  have hj : j < xs.length := (List.getElem?_eq_some_iff.mp h).1
  have e : ixN xs.length (j : Int) = some j := by
    unfold ixN
    rw [if_pos (by omega), if_pos (by omega)]; simp
  unfold atI; rw [e]; exact h
noncomputable def PlainIx (b : Expr) : Prop := ∀ o i, subscripted b false o i = operate [o, i] (getItem o i)
noncomputable def IxR (X : Cx) (r : R2) : Prop :=
  ∀ (value slice : Expr) (pins : List (Addr × Obj)) (s : Shared) (σ : St) (H : Hp) (x y : V) (v u : Value) (Q : VK), Inv X pins σ H s → RelV x v → RelV y u → r x y H Q →
    subscripted slice false v u = operate [v, u] (getItem v u) → wpAny (model X.prog X.w) X.A (subscriptTail value slice v u) (EP X pins σ Q) X.xe s
noncomputable def MtR (X : Cx) (id : String) (r : V → List V → Hp → VK → Prop) : Prop :=
  ∀ (pins : List (Addr × Obj)) (s : Shared) (σ : St) (H : Hp) (x : V) (xs : List V) (v : Value) (us : List Value) (Q : VK), Inv X pins σ H s → RelV x v → Vals xs us → r x xs H Q →
    wpAny (model X.prog X.w) X.A (call (.builtin id) (v :: us)) (EP X pins σ Q) X.xe s
section
variable {X : Cx} {a b : Expr} {ta tb : TE} {pos : Pos}
theorem IxR.or {r r' : R2} (h : IxR X r) (h' : IxR X r') : IxR X (fun x y H Q => r x y H Q ∨ r' x y H Q) := by
  intro value slice pins s σ H x y v u Q I rx ry q hs
  rcases q with q | q
  · exact h value slice pins s σ H x y v u Q I rx ry q hs
  · exact h' value slice pins s σ H x y v u Q I rx ry q hs
theorem pe_ix {r : R2} (hr : IxR X r) (ha : PE X a ta) (hb : PE X b tb) (hs : PlainIx b) : PE X (.Subscript a b pos) (tOp r ta tb) := by
  intro pins s σ H Q I h
  exact Subscript_ (binT ha hb I h fun v u s2 x y H2 I2 rx ry q => hr a b pins s2 σ H2 x y v u Q I2 rx ry q (hs _ _))
noncomputable def rIxL (K : PySem.W.Frag) : R2 := fun x y H Q => ∃ p xs i v, x = .ref p ∧ y = .int i ∧ SqL K H p xs ∧ atI xs i = some v ∧ Q v H
noncomputable def rIxT (K : PySem.W.Frag) : R2 := fun x y H Q => ∃ p xs i v, x = .ref p ∧ y = .int i ∧ SqT K H p xs ∧ atI xs i = some v ∧ Q v H
noncomputable def rIxS : R2 := fun x y H Q => ∃ z i c, x = .str z ∧ y = .int i ∧ z.length ≤ sizeLine ∧ atI z.cps.toList i = some c ∧ Q (.str ⟨#[c]⟩) H
theorem ix_list : IxR X (rIxL X.K) := by
  intro value slice pins s σ H x y v u Q I rx ry h hs
  obtain ⟨p, xs, i, z, rfl, rfl, hq, he, q⟩ := h
  cases rx
  obtain ⟨t, rfl⟩ := ry
  obtain ⟨its, r, pl, hz⟩ := I.list hq
  obtain ⟨j, h1, h2, h3, h4, h5⟩ := atI_get he
  obtain ⟨w, ew, rw'⟩ := r.get h2
  have hl := r.length
  have hn := line63
  have fin : EP X pins σ Q w s := ⟨z, H, I, rw', q⟩
  by_cases h0 : 0 ≤ i
  · have hj : i.toNat = j := by
      rw [seqIndex_of h0 h5] at h1
      exact Option.some.inj h1
    exact item_listR pl.isList h0 (by omega) (by rw [hj]; simpa using ew) fin hs
  · have hj : (i + (its.toArray.size : Int)).toNat = j := by
      rw [seqIndex_neg (by omega) h4] at h1
      rw [List.size_toArray, ← hl]
      exact Option.some.inj h1
    exact subscriptTail_builtinR (x := w) pl.isList.typeIs slot_list_getitem.lookup
      (wpAny_getItem_list_neg (Q := fun r s' => r = w ∧ EP X pins σ Q r s') pl.isList (by omega) (by rw [List.size_toArray] <;> omega) (by omega) (by rw [hj]; simpa using ew) ⟨rfl, fin⟩) hs
theorem ix_tup : IxR X (rIxT X.K) := by
  intro value slice pins s σ H x y v u Q I rx ry h hs
  obtain ⟨p, xs, i, z, rfl, rfl, hq, he, q⟩ := h
  cases rx
  obtain ⟨t, rfl⟩ := ry
  obtain ⟨its, r, pl, hz⟩ := I.tuple hq
  obtain ⟨j, h1, h2, h3, h4, h5⟩ := atI_get he
  obtain ⟨w, ew, rw'⟩ := r.get h2
  have hl := r.length
  have hn := line63
  have fin : EP X pins σ Q w s := ⟨z, H, I, rw', q⟩
  exact subscriptTail_builtinR (x := w) pl.typeIs slot_tuple_getitem.lookup
    (getItem_tuple (j := j) (Q := fun r s' => r = w ∧ EP X pins σ Q r s') pl (by omega) (by omega) (by rw [List.size_toArray, ← hl]; exact h1) (by simpa using ew) ⟨rfl, fin⟩) hs
theorem ix_str : IxR X rIxS := by
  intro value slice pins s σ H x y v u Q I rx ry h hs
  obtain ⟨z, i, c, rfl, rfl, hz, he, q⟩ := h
  obtain ⟨t, rfl⟩ := rx
  obtain ⟨t', rfl⟩ := ry
  obtain ⟨j, h1, h2, h3, h4, h5⟩ := atI_get he
  have hl : z.cps.toList.length = z.length := by simp [Str.length]
  rw [hl] at h1 h4 h5
  have hn := line63
  exact tail_any (typeIs_str s z t) slot_str_getitem.lookup (getItem_str (c := c) (by
    have e1 : decide (i < -(2 ^ 63 : Int)) = false := decide_eq_false (by omega)
    have e2 : decide (i ≥ 2 ^ 63) = false := decide_eq_false (by omega)
    rw [e1, e2, Bool.or_false]) (by rw [h1]; simpa using h2) ⟨.str ⟨#[c]⟩, H, I.tok _, ⟨_, rfl⟩, q⟩) hs
theorem mapSeq_set (its : List Value) (n j : Nat) (u : Value) : Obj.mapSeq (·.setIfInBounds j u) { cls := .type "list", data := .seq its.toArray n } = { cls := .type "list", data := .seq (its.set j u).toArray n } := by
  simp [Obj.mapSeq]
theorem Inv.lst {pins : List (Addr × Obj)} {σ : St} {H : Hp} {s : Shared} {p : Addr} {xs : List V} (I : Inv X pins σ H s) (h : H p = some (.lst xs)) :
    ∃ (its : List Value) (n : Nat), Vals xs its ∧ s.heap.get? p = some { cls := .type "list", data := .seq its.toArray n } ∧ xs.length ≤ sizeLine := by
  obtain ⟨z, its, n, r, e⟩ := I.hok p _ h
  exact ⟨its, n, r, e, z⟩
theorem Inv.lstUpd {pins : List (Addr × Obj)} {σ : St} {H : Hp} {s : Shared} {p : Addr} {xs ys : List V} {its its' : List Value} {n n' : Nat} {f : Obj → Obj} (I : Inv X pins σ H s) (h : H p = some (.lst xs))
    (ho : s.heap.get? p = some { cls := .type "list", data := .seq its.toArray n }) (hf : f { cls := .type "list", data := .seq its.toArray n } = { cls := .type "list", data := .seq its'.toArray n' }) (r : Vals ys its') (hz : ys.length ≤ sizeLine) (t : Nat) :
    Inv X pins σ (upd H p (.lst ys)) { s with heap := s.heap.update p f, toks := t } := by
  have e : (s.heap.update p f).get? p = some { cls := .type "list", data := .seq its'.toArray n' } := by
    rw [Heap.get?_update_self f ho (by rw [hf] <;> rfl), hf]
  refine I.write (x := p) (e := p) (by rw [h]; trivial) (.inl rfl) (fun b u hb q => (Heap.get?_update_other _ _ (Ne.symm hb)).trans q) ⟨_, e⟩ ?_
  exact ⟨hz, its', n', r, e⟩
noncomputable def rSetL : V → V → V → Hp → (Hp → Prop) → Prop := fun o i v H Q => ∃ p xs k j, o = .ref p ∧ i = .int k ∧ H p = some (.lst xs) ∧ ixN xs.length k = some j ∧ Q (upd H p (.lst (xs.set j v)))
theorem set_list : PSet X rSetL := by
  intro pins s σ H o i v ov iv u Q I ro ri rv h
  obtain ⟨p, xs, k, j, rfl, rfl, hp, hj, q⟩ := h
  cases ro
  obtain ⟨t, rfl⟩ := ri
  obtain ⟨its, n, r, ho, hz⟩ := I.lst hp
  obtain ⟨h1, h2, h3, h4⟩ := ixN_seq hj
  have hl := r.length
  have hn := line63
  have I' : Inv X pins σ (upd H p (.lst (xs.set j v))) { s with heap := s.heap.update p (Obj.mapSeq (·.setIfInBounds j u)) } :=
    I.lstUpd hp ho (mapSeq_set its n j u) (r.set rv j) (by rw [List.length_set]; exact hz) s.toks
  by_cases h0 : 0 ≤ k
  · have hk : k.toNat = j := by
      rw [seqIndex_of h0 h4] at h1
      exact Option.some.inj h1
    exact PySem.W.ki_setAt ho h0 (by omega) (by rw [List.size_toArray, ← hl]; exact h4) (by rw [hk]; exact ⟨_, I', q⟩)
  · have hk : (k + (its.toArray.size : Int)).toNat = j := by
      rw [seqIndex_neg (by omega) h3] at h1
      rw [List.size_toArray, ← hl]
      exact Option.some.inj h1
    exact PySem.W.ki_setBack ho (by omega) (by rw [List.size_toArray, ← hl]; exact h3) (by omega) (by rw [hk]; exact ⟨_, I', q⟩)
theorem slice_bounds (lo hi : Option Int) (n : Nat) : (sliceBounds lo hi none n).1 = ((HT.sIx n 0 lo : Nat) : Int) ∧ (sliceBounds lo hi none n).2.1 = ((HT.sIx n n hi : Nat) : Int) ∧ (sliceBounds lo hi none n).2.2 = 1 := by
  refine ⟨?_, ?_, rfl⟩
  · cases lo with
    | none => simp [sliceBounds, HT.sIx]
    | some i =>
      simp only [sliceBounds, HT.sIx, Option.getD_none, show (1 : Int) > 0 by decide, if_true]
      by_cases h : i < 0
      · simp only [h, if_true] <;> omega
      · simp only [h, if_false] <;> omega
  · cases hi with
    | none => simp [sliceBounds, HT.sIx]
    | some i =>
      simp only [sliceBounds, HT.sIx, Option.getD_none, show (1 : Int) > 0 by decide, if_true]
      by_cases h : i < 0
      · simp only [h, if_true] <;> omega
      · simp only [h, if_false] <;> omega
theorem slicePick_cut (its : List Value) (lo hi : Option Int) : slicePick its.toArray lo hi none = ((its.drop (HT.sIx its.length 0 lo)).take (HT.sIx its.length its.length hi - HT.sIx its.length 0 lo)).toArray := by
  obtain ⟨h1, h2, h3⟩ := slice_bounds lo hi its.toArray.size
  unfold slicePick
  rw [h1, h2, h3]
  simp only [sliceRange_one, pick_run, List.size_toArray] <;> rfl
noncomputable def rSlL (K : PySem.W.Frag) : V → Option Int → Option Int → Hp → VK → Prop := fun x lo hi H Q => ∃ a xs, x = .ref a ∧ SqL K H a xs ∧ ∀ p, H p = none → Q (.ref p) (upd H p (.lst (cutV xs lo hi)))
theorem sl_list : SlR X (rSlL X.K) := by
  intro pins s σ H x v vl vu lo hi sl Q I rx hs pl pu h
  obtain ⟨a, xs, rfl, hx, q⟩ := h
  cases rx
  obtain ⟨its, r, ht, hz⟩ := I.list hx
  have hlen := r.length
  refine ⟨"list", _, slot_list_getitem.lookup, ht.isList.typeIs, ?_⟩
  refine wpAny_getItem_list_slice ht.isList hs pl pu .none (by simp) ?_ (by rw [List.size_toArray] <;> omega)
  rw [slicePick_cut, ← hlen]
  refine ⟨.ref s.heap.objs.size, _, I.laid (t' := s.toks) (o := .lst (cutV xs lo hi)) (fun b ob q => Heap.get?_push_of_some _ q) (Nat.le_refl _) ?_, rfl, q _ (I.hok.fresh (Nat.le_refl _))⟩
  exact ⟨Nat.le_trans (cutV_length xs lo hi) hz, _, 0, (r.drop (HT.sIx xs.length 0 lo)).take (HT.sIx xs.length xs.length hi - HT.sIx xs.length 0 lo), Heap.get?_push_size _ rfl⟩
noncomputable def flatV : V → Bool
  | .non => true
  | .bl _ => true
  | .int _ => true
  | .str _ => true
  | _ => false
noncomputable def eqV : V → V → Bool
  | .non, .non => true
  | .bl a, .bl b => a == b
  | .bl a, .int b => (if a then 1 else 0) == b
  | .int a, .bl b => a == (if b then 1 else 0)
  | .int a, .int b => a == b
  | .str a, .str b => a == b
  | _, _ => false
theorem eqAt_V {A : Around} {s : Shared} {y x : V} {u v : Value} (ry : RelV y u) (rx : RelV x v) (fy : flatV y = true) (fx : flatV x = true) : SeqAt.EqAt A s u v (eqV y x) := by
  cases y with
  | non =>
    cases ry
    cases x with
    | non => cases rx; exact SeqAt.EqAt.same _
    | bl b => cases rx; exact SeqAt.EqAt.none_bool b
    | int b => obtain ⟨t, rfl⟩ := rx; exact SeqAt.EqAt.none_int b t
    | str b => obtain ⟨t, rfl⟩ := rx; exact SeqAt.EqAt.none_str b t
    | _ => exact absurd (show false = true from fx) Bool.false_ne_true
  | bl a =>
    cases ry
    cases x with
    | non => cases rx; exact SeqAt.EqAt.bool_none a
    | bl b => cases rx; exact SeqAt.EqAt.bool_bool a b
    | int b => obtain ⟨t, rfl⟩ := rx; exact SeqAt.EqAt.bool_int a b t
    | str b => obtain ⟨t, rfl⟩ := rx; exact SeqAt.EqAt.bool_str a b t
    | _ => exact absurd (show false = true from fx) Bool.false_ne_true
  | int a =>
    obtain ⟨t', rfl⟩ := ry
    cases x with
    | non => cases rx; exact SeqAt.EqAt.int_none a t'
    | bl b => cases rx; exact SeqAt.EqAt.int_bool a t' b
    | int b => obtain ⟨t, rfl⟩ := rx; exact SeqAt.EqAt.int_int a t' b t
    | str b => obtain ⟨t, rfl⟩ := rx; exact SeqAt.EqAt.int_str a t' b t
    | _ => exact absurd (show false = true from fx) Bool.false_ne_true
  | str a =>
    obtain ⟨t', rfl⟩ := ry
    cases x with
    | non => cases rx; exact SeqAt.EqAt.str_none a t'
    | bl b => cases rx; exact SeqAt.EqAt.str_bool a t' b
    | int b => obtain ⟨t, rfl⟩ := rx; exact SeqAt.EqAt.str_int a t' b t
    | str b => obtain ⟨t, rfl⟩ := rx; exact SeqAt.EqAt.str_str a t' b t
    | _ => exact absurd (show false = true from fx) Bool.false_ne_true
  | _ => exact absurd (show false = true from fy) Bool.false_ne_true
noncomputable def eqU (x : V) (u : Value) : Bool := match u with
  | .none => eqV .non x
  | .bool b => eqV (.bl b) x
  | .int i _ => eqV (.int i) x
  | .str z _ => eqV (.str z) x
  | _ => false
theorem eqU_of {x y : V} {u : Value} (r : RelV y u) (f : flatV y = true) : eqU x u = eqV y x := by
  cases y with
  | non => cases r; rfl
  | bl b => cases r; rfl
  | int i => obtain ⟨t, rfl⟩ := r; rfl
  | str z => obtain ⟨t, rfl⟩ := r; rfl
  | _ => exact absurd (show false = true from f) Bool.false_ne_true
theorem any_eqU {x : V} : ∀ {xs : List V} {us : List Value}, Vals xs us → xs.all flatV = true → us.any (eqU x) = xs.any fun y => eqV y x
  | _, _, .nil, _ => rfl
  | y :: xs, u :: us, .cons r t, f => by
    rw [List.all_cons, Bool.and_eq_true] at f
    rw [List.any_cons, List.any_cons, eqU_of r f.1, any_eqU t f.2]
theorem mem_eqAt {A : Around} {s : Shared} {x : V} {v : Value} (rx : RelV x v) (fx : flatV x = true) : ∀ {xs : List V} {us : List Value}, Vals xs us → xs.all flatV = true → ∀ u ∈ us, SeqAt.EqAt A s u v (eqU x u)
  | _, _, .nil, _ => fun u hu => by cases hu
  | y :: xs, u :: us, .cons r t, f => fun u' hu => by
    rw [List.all_cons, Bool.and_eq_true] at f
    rcases List.mem_cons.mp hu with rfl | hu
    · rw [eqU_of r f.1]; exact eqAt_V r rx f.1 fx
    · exact mem_eqAt rx fx t f.2 u' hu
noncomputable def inV (x : V) (xs : List V) : Bool := xs.any fun y => eqV y x
noncomputable def rIn (K : PySem.W.Frag) (neg : Bool) : R2 := fun x y H Q => ∃ p xs, y = .ref p ∧ (SqL K H p xs ∨ SqT K H p xs) ∧ flatV x = true ∧ xs.all flatV = true ∧ Q (.bl (if neg then !inV x xs else inV x xs)) H
theorem op_notIn_seq : OpR X (compareOp .NotIn) (rIn X.K true) := by
  intro pins s σ H x y v u Q I rx ry h
  obtain ⟨p, xs, rfl, hq, fx, fs, q⟩ := h
  cases ry
  rcases hq with hq | hq
  · obtain ⟨its, r, pl, hz⟩ := I.list hq
    refine SeqAt.notIn_listAt (eqU x) pl.isList (fun w hw => mem_eqAt rx fx r fs w (by simpa using hw)) ⟨.bl _, H, I, rfl, ?_⟩
    rw [show its.toArray.any (eqU x) = its.any (eqU x) by simp, any_eqU r fs]
    exact q
  · obtain ⟨its, r, pl, hz⟩ := I.tuple hq
    refine SeqAt.notIn_tupleAt (eqU x) pl (fun w hw => mem_eqAt rx fx r fs w (by simpa using hw)) ⟨.bl _, H, I, rfl, ?_⟩
    rw [show its.toArray.any (eqU x) = its.any (eqU x) by simp, any_eqU r fs]
    exact q
theorem call_len_seq : CallR X (.builtin "len") (fun xs H Q => ∃ p ys, xs = [.ref p] ∧ (SqL X.K H p ys ∨ SqT X.K H p ys) ∧ Q (.int ys.length) H) := by
  intro pins s σ H xs us Q I r h
  obtain ⟨p, ys, rfl, hq, q⟩ := h
  obtain ⟨u, rfl, rx⟩ := vals1 r
  cases rx
  have hn := line63
  rcases hq with hq | hq
  · obtain ⟨its, r', pl, hz⟩ := I.list hq
    have hlen := r'.length
    exact Calls.call_len_list pl.isList (by simp only [List.size_toArray] <;> omega) ⟨.int ys.length, H, I.tok _, ⟨s.toks + 1, by rw [List.size_toArray, hlen]⟩, q⟩
  · obtain ⟨its, r', pl, hz⟩ := I.tuple hq
    have hlen := r'.length
    exact len_tuple pl (by simp only [List.size_toArray] <;> omega) ⟨.int ys.length, H, I.tok _, ⟨s.toks + 1, by rw [List.size_toArray, hlen]⟩, q⟩
theorem call_len_str : CallR X (.builtin "len") (fun xs H Q => ∃ z, xs = [.str z] ∧ z.length ≤ sizeLine ∧ Q (.int z.length) H) := by
  intro pins s σ H xs us Q I r h
  obtain ⟨z, rfl, hz, q⟩ := h
  obtain ⟨u, rfl, t, rfl⟩ := vals1 r
  have hn := line63
  exact len_str (by omega) ⟨.int z.length, H, I.tok _, ⟨_, rfl⟩, q⟩
theorem call_list_of : CallR X (.type "list") (fun xs H Q => ∃ p ys, xs = [.ref p] ∧ (SqL X.K H p ys ∨ SqT X.K H p ys) ∧ ∀ l, H l = none → Q (.ref l) (upd H l (.lst ys))) := by
  intro pins s σ H xs us Q I r h
  obtain ⟨p, ys, rfl, hq, q⟩ := h
  obtain ⟨u, rfl, rx⟩ := vals1 r
  cases rx
  have fin : ∀ (its : List Value), Vals ys its → ys.length ≤ sizeLine → ∀ (h' : Heap) (c' : Nat), (∀ b o', s.heap.get? b = some o' → h'.get? b = some o') →
      h'.get? s.heap.objs.size = some { cls := .type "list", dict := none, data := .seq its.toArray c', slots := #[] } → EP X pins σ Q (.ref s.heap.objs.size) { s with heap := h' } := fun its r' hz h' c' kp e =>
    ⟨.ref s.heap.objs.size, _, I.laid (t' := s.toks) kp (Nat.le_refl _) (show ObjOk X.prog X.w _ h' _ (.lst ys) from ⟨hz, its, c', r', e⟩), rfl, q _ (I.hok.fresh (Nat.le_refl _))⟩
  rcases hq with hq | hq
  · obtain ⟨its, r', pl, hz⟩ := I.list hq
    have hlen := r'.length
    obtain ⟨o, ho, hc, n, hd⟩ := pl.isList
    exact call_list_seq p (.inl rfl) ho hc hd (fun h' c' kp e => fin its r' hz h' c' kp e) (by simp only [List.size_toArray] <;> omega)
  · obtain ⟨its, r', pl, hz⟩ := I.tuple hq
    have hlen := r'.length
    obtain ⟨o, ho, hc, n, hd⟩ := pl
    exact call_list_seq p (.inr rfl) ho hc hd (fun h' c' kp e => fin its r' hz h' c' kp e) (by simp only [List.size_toArray] <;> omega)
noncomputable def tyV (K : PySem.W.Frag) (T : String) (x : V) (H : Hp) : Prop := match x with
  | .str _ => T = "str"
  | .int _ => T = "int"
  | .ref p => (T = "list" ∧ ∃ xs, SqL K H p xs) ∨ (T = "tuple" ∧ ∃ o, K.lookup p = some o ∧ o.cls = .type "tuple" ∧ o.dict = none) ∨
      (T = "dict" ∧ ((∃ kvs, H p = some (.dK kvs)) ∨ ∃ kvs, H p = some (.dT kvs))) ∨ (T = "set" ∧ ∃ S n, H p = some (.set S n))
  | _ => False
theorem tyV_is {pins : List (Addr × Obj)} {σ : St} {H : Hp} {s : Shared} {T : String} {x : V} {v : Value} (I : Inv X pins σ H s) (r : RelV x v) (ty : tyV X.K T x H) :
    s.TypeIs v T ∧ ∀ a, v = .ref a → ∃ ob, s.heap.get? a = some ob ∧ ob.dict = none := by
  cases x with
  | str z =>
    obtain ⟨t, rfl⟩ := r
    cases (show T = "str" from ty)
    exact ⟨typeIs_str s z t, fun _ e => nomatch e⟩
  | int i =>
    obtain ⟨t, rfl⟩ := r
    cases (show T = "int" from ty)
    exact ⟨typeIs_int s i t, fun _ e => nomatch e⟩
  | ref p =>
    cases r
    rcases ty with ⟨rfl, xs, hq⟩ | ⟨rfl, o, hk, hc, hd⟩ | ⟨rfl, hk⟩ | ⟨rfl, S, n, hk⟩
    · obtain ⟨its, _, pl, _⟩ := I.list hq
      refine ⟨pl.isList.typeIs, fun a e => ?_⟩
      cases e
      obtain ⟨o, n, e, c, hd, _⟩ := pl
      exact ⟨o, e, hd⟩
    · refine ⟨⟨o, I.kIn p o hk, hc⟩, fun a e => ?_⟩
      cases e
      exact ⟨o, I.kIn _ o hk, hd⟩
    · have z : ∃ o, s.heap.get? p = some o ∧ o.ExactDict := by
        rcases hk with ⟨kvs, hk⟩ | ⟨kvs, hk⟩
        · obtain ⟨_, _, _, _, o, _, _, e, ex, _⟩ := I.hok p _ hk
          exact ⟨o, e, ex⟩
        · obtain ⟨_, _, _, _, o, _, _, e, ex, _⟩ := I.hok p _ hk
          exact ⟨o, e, ex⟩
      obtain ⟨o, e, ex⟩ := z
      refine ⟨⟨o, e, ex.1⟩, fun a e2 => ?_⟩
      cases e2
      exact ⟨o, e, ex.2.1⟩
    · obtain ⟨o, _, _, _, e, ex, _⟩ := I.hok p _ hk
      refine ⟨⟨o, e, ex.1⟩, fun a e2 => ?_⟩
      cases e2
      exact ⟨o, e, ex.2.1⟩
  | _ => exact False.elim ty
noncomputable def tBM (K : PySem.W.Frag) (T : String) (r : V → List V → Hp → VK → Prop) (to : TE) (t : TA) : TE := fun σ H Q => to σ H fun x H1 => tyV K T x H1 ∧ t σ H1 fun xs H2 => r x xs H2 Q
variable {o e : Expr} {es : List Expr} {to : TE} {t : TA} {name : Str} {apos cpos : Pos} {T id : String} {r : V → List V → Hp → VK → Prop}
theorem pe_bm (pa : PlainAttrs T) (slot : Slot T name id) (hty : typeOf (.builtin id) = pure (.type "method_descriptor")) (hm : MtR X id r) (ho : PE X o to) (ha : PA X (e :: es) t)
    (hbase : attributeBase o name X.env (eval o X.env) = eval o X.env := by rfl)
    (hfew : ((backTo cpos (starEach (e :: es) X.env)).all (fun x => !x.1) && (backToKw cpos (keywordEach [] X.env)).all (fun x => x.1.isSome)
      && decide ((e :: es).length + ([] : List Keyword).length + (if ([] : List Keyword).isEmpty then 0 else 1) < 30)) = true := by rfl)
    (hline : (apos.endLine == cpos.line) = true := by rfl) (hs : starEach (e :: es) X.env = (false, eval e X.env) :: starEach es X.env := by rfl) (hplain : (backTo cpos (starEach es X.env)).any (·.1) = false := by rfl) :
    PE X (.Call (.Attribute o name apos) (e :: es) [] cpos) (tBM X.K T r to t) := by
  intro pins s σ H Q I h
  refine wpAny_Call_method_late hbase hfew hline rfl (thn (ho pins s σ H _ I h) fun v s1 w1_ => w1_.elim fun x z_ => z_.elim fun H1 z_ => z_.elim fun I1 z_ => z_.elim fun r1 z_ => z_.elim fun ty q1 => ?_)
  obtain ⟨h1, h2⟩ := tyV_is I1 r1 ty
  refine ⟨T, id, pa, slot, hty, h1, h2, ?_⟩
  have hA := ha cpos pins s1 σ H1 _ I1 q1
  rw [hs] at hA ⊢
  refine Calls.callWith_builtin (by show (false || (backTo cpos (starEach es X.env)).any (·.1)) = false; rw [hplain] <;> rfl) (Calls.evalArgs_plain ?_)
  exact thnA hA fun us s2 vs H2 I2 r2 q2 => hm pins s2 σ H2 x vs v us Q I2 r1 r2 q2
end
end L2
namespace L2
open PySem PySem.Spec PyProof.Rows
noncomputable def MtM (X : Cx) (id : String) (r : V → List V → Hp → VK → Prop) : Prop :=
  ∀ (pins : List (Addr × Obj)) (s : Shared) (σ : St) (H : Hp) (x : V) (xs : List V) (v : Value) (us : List Value) (Q : VK), Inv X pins σ H s → RelV x v → Vals xs us → r x xs H Q →
    wpAny (model X.prog X.w) X.A (call (.builtin id) (v :: us)) (EP X pins σ Q) X.xe s
theorem Vals.one : ∀ {x : V} {us : List Value}, Vals [x] us → ∃ u, us = [u] ∧ RelV x u
  | _, _, .cons r .nil => ⟨_, rfl, r⟩
section
variable {X : Cx} {pins : List (Addr × Obj)} {σ : St} {H : Hp} {s : Shared} {l b : Addr} {xs ys zs : List V}
theorem Inv.lset {its its' : List Value} {n : Nat} {f : Array Value → Array Value} {t' : Nat} (I : Inv X pins σ H s) (hH : H l = some (.lst xs))
    (e : s.heap.get? l = some { cls := .type "list", data := .seq its.toArray n }) (hf : f its.toArray = its'.toArray) (hv : Vals ys its') (hz : ys.length ≤ sizeLine) :
    Inv X pins σ (upd H l (.lst ys)) { s with heap := s.heap.update l (Obj.mapSeq f), toks := t' } := by
  have q := PySem.IsL.update e f
  rw [hf] at q
  refine I.write (x := l) (e := l) (by rw [hH]; exact trivial) (.inl rfl) (fun b' u hb hu => (Heap.get?_update_other s.heap (Obj.mapSeq f) (Ne.symm hb)).trans hu) ⟨_, q⟩ ?_
  exact ⟨hz, its', _, hv, q⟩
theorem Inv.lstM (I : Inv X pins σ H s) (hH : H l = some (.lst xs)) : xs.length ≤ sizeLine ∧ ∃ (its : List Value) (n : Nat), Vals xs its ∧ xs.length = its.length ∧ s.heap.get? l = some { cls := .type "list", data := .seq its.toArray n } := by
  obtain ⟨z, its, n, r, e⟩ := I.hok l _ hH
  exact ⟨z, its, n, r, r.length, e⟩
end
section
variable {X : Cx}
noncomputable def rAppend : V → List V → Hp → VK → Prop := fun x vs H Q => ∃ l xs y, x = .ref l ∧ vs = [y] ∧ H l = some (.lst xs) ∧ xs.length < sizeLine ∧ Q .non (upd H l (.lst (xs ++ [y])))
theorem mt_append : MtM X "list.append" rAppend := by
  intro pins s σ H x vs v us Q I rx rv h
  obtain ⟨l, xs, y, rfl, rfl, hH, hz, q⟩ := h
  cases rx
  obtain ⟨u, rfl, ru⟩ := rv.one
  obtain ⟨z, its, n, r, hl, e⟩ := I.lstM hH
  refine call_meets F.slot_list_append ⟨_, e, rfl⟩ F.entry_list_append (F.args_list_append_2 _ _) (PySem.list_append l its.toArray n u (by rw [List.size_toArray]; omega)) ⟨e, ?_⟩
  refine ⟨.non, _, I.lset (its' := its ++ [u]) hH e (by simp) (r.append (.cons ru .nil)) ?_, rfl, q⟩
  rw [List.length_append, List.length_singleton]
  omega
end
end L2
namespace Att
open PySem PySem.W PySem.Calls PyProof.Rows
theorem ints_of_wellAll {P : Params} {h : Heap} : ∀ (ns : List Int) (vs : List Value), WellAll P h vs (ns.map WData.int) → IntsAre vs ns := by
  intro ns
  induction ns with
  | nil =>
    intro vs w
    rw [List.map_nil] at w
    cases w
    exact .nil
  | cons n ns ih =>
    intro vs w
    rw [List.map_cons] at w
    cases w with
    | cons a b =>
      cases a
      exact .cons _ _ (ih _ b)
theorem script_of {l : OpenLaw} {n : Nat} (hn : l.most = some n) {P : Params} {h : Heap} {args : List WData} {vals : List Value}
    (hpre : l.row.toRowW.claim.pre args = true) (hwl : WellAll P h vals args) :
    ∃ a vs ns, vals = [Value.ref a] ∧ args = [WData.list (ns.map WData.int)] ∧ h.get? a = some { cls := .type "list", data := .seq vs.toArray } ∧ IntsAre vs ns ∧ ns.length ≤ n := by
  have hsh : WShape.hasAll [] args [.list .int] = true := (pre_splitW hpre).1
  have hc : l.pre.holds [] { args := args } = true := (pre_splitW hpre).2
  obtain ⟨d, r, rfl, h1, h2⟩ := hasAllW_cons hsh
  obtain rfl := hasAllW_nil h2
  obtain ⟨xs, rfl, h3⟩ := hasW_list h1
  obtain ⟨ns, rfl⟩ := items_int h3
  have hlen : ns.length ≤ n := by
    unfold OpenLaw.pre at hc
    have h4 : (WTm.not (.lt (.lit (.int (n : Int))) (.len (.arg 0)))).holds [] { args := [.list (ns.map .int)] } = true := by
      have h4 := (holds_andW hc).1
      rw [hn] at h4
      exact h4
    have h5 := condW_of h4 (w_not (w_lt w_lit (w_len_list (w_arg rfl))))
    rw [List.length_map] at h5
    refine Nat.le_of_not_lt fun q => ?_
    have q' : (n : Int) < ((ns.length : Nat) : Int) := by omega
    first
      | (rw [decide_eq_true q'] at h5; exact absurd h5 (by decide))
      | (simp at h5; omega)
  cases hwl with
  | cons w1 w2 =>
    cases w2
    cases w1 with
    | list ho hall => exact ⟨_, _, ns, rfl, rfl, ho, ints_of_wellAll ns _ hall, hlen⟩
theorem post_true (l : OpenLaw) (args : List WData) : l.row.toRowW.claim.post args (.bool true) args = true :=
  postW_of (r := l.row.toRowW) (X := (true == true))
    (show WShape.has [] (.bool true) .bool = true by first | rfl | decide | simp [WShape.has, WShape.arms, WShape.armsAll])
    (show (WTm.eq .res (.lit (.bool true))).value [] { args := args, res := some (.bool true), after := args } = some (.bool (true == true)) from w_eq_bool (w_res rfl) w_lit) rfl
theorem attach_call {l : OpenLaw} {n : Nat} {q : Program} {loose : List Str} {XP : (Str → Option Value) → Heap → Prop} {YP : World → Heap → Prop} {d : DefRec}
    (hn : l.most = some n) (hdf : d.params.defaults = [])
    (call : ∀ (w : World) (s₀ s₁ : Shared) (mg mb : Str → Option Value) (fa : Addr) (o : Obj) (pm cd doc : Value) (a : Addr) (vs : List Value) (ns : List Int),
      Ground q loose [] XP w s₀ mg mb s₁.heap → YP w s₁.heap →
      s₁.heap.get? fa = some o → o.data = .func (docDef d.name d.params d.body d.scope pm cd doc) → s₁.heap.CodeRec cd d.name → mg d.name = some (.ref fa) →
      s₁.heap.get? a = some { cls := .type "list", data := .seq vs.toArray } → IntsAre vs ns → ns.length ≤ n → s₁.gens = #[] →
      codeAny (model l.prog w) callerA (.call (.ref fa) ⟨[.ref a], []⟩) (fun r s' => r = .ok (.ret (.bool true)) ∧ OldK s₁.heap s'.heap ∧ s'.os = s₁.os ∧ AllBare s'.gens) s₁) :
    WalkO q loose XP YP l.row.toRowW d [] (fun f vs => PySem.call f vs) := by
  intro w s₀ s₁ mg mb G Y fa o pm cd doc dV kV ho hd hcd hD hmg hg args vals as hpre hlay hrd hwl hlo
  obtain rfl : dV = .none := Dflts.none hD hdf
  obtain rfl : kV = .none := Dflts.noKw hD
  obtain ⟨a, vs, ns, rfl, rfl, hobj, hints, hlen⟩ := script_of hn hpre hwl
  refine enter_call (codeAny_mono (call w s₀ s₁ mg mb fa o pm cd doc a vs ns G Y ho (fd_plain hd) hcd hmg hobj hints hlen hg) fun r s' hq => ?_)
  obtain ⟨rfl, h2, h3, h4⟩ := hq
  exact ⟨.inl ⟨.bool true, .bool true, [], rfl, fun _ => rfl, .bool true, post_true l _, fun _ => ⟨List.Pairwise.nil, fun _ hm => (nomatch hm)⟩⟩, h2, h3, h4⟩
end Att
namespace L2
open PySem PySem.Spec PyProof.Rows
theorem vals_ints : ∀ {vs : List Value} {ns : List Int}, IntsAre vs ns → Vals (ns.map V.int) vs
  | _, _, .nil => .nil
  | _, _, .cons n t h => .cons ⟨t, rfl⟩ (vals_ints h)
noncomputable def Only (H : Hp) : Prop := ∀ b, H b = none ∨ ∃ o xs, H b = some (.frz o (.lst xs))
theorem law_call {P : Program} {w : World} {K : PySem.W.Frag} {mg mb : Str → Option Value} {CX : CXT} {k : Nat} {fa a : Addr} {fd : FuncData} {x : Str} {sp : Sp} {s₁ : Shared} {vs : List Value} {ns : List Int}
    (KX : K.In s₁.heap) (hns : s₁.heap.Ns mainGlobals mg) (hb : s₁.heap.Ns builtinsNs mb) (hbb : ∀ x : Str, x ≠ "__name__" → mb x = bootBuiltins x) (hlim : s₁.heap.NoLimit) (hg : s₁.gens = #[])
    (ha : s₁.heap.get? a = some { cls := .type "list", data := .seq vs.toArray }) (hi : IntsAre vs ns) (hl : ns.length ≤ sizeLine) (hr : Room k callerA)
    (F : ∀ base : Heap, K.In base → base.Ns mainGlobals mg → FnOk P w K mg base CX k fa fd [x] sp) (hbind : ∀ (s : Shared) (u : Value), BindsTo s fd ⟨[u], []⟩ [(x, u)])
    (hsp : ∀ H : Hp, Only H → SqL K H a (ns.map V.int) → sp [.ref a] H (fun v _ => v = .bl true) fun _ _ _ => False)
    (hCX : ∀ H e s', CX [] H s₁ (fun _ _ _ => False) e s' → False) :
    codeAny (model P w) callerA (.call (.ref fa) ⟨[.ref a], []⟩) (fun r s' => r = .ok (.ret (.bool true)) ∧ OldK s₁.heap s'.heap ∧ s'.os = s₁.os ∧ AllBare s'.gens) s₁ := by
  have rv := vals_ints hi
  have lenV := hi.length
  -- from an abstract heap in which nothing but the script may be tracked
  have core : ∀ H : Hp, Only H → SqL K H a (ns.map V.int) → HOk P w H s₁.heap → (∀ b, H b ≠ none → b = a) → (H a ≠ none → K.lookup a = none) →
      codeAny (model P w) callerA (.call (.ref fa) ⟨[.ref a], []⟩) (fun r s' => r = .ok (.ret (.bool true)) ∧ OldK s₁.heap s'.heap ∧ s'.os = s₁.os ∧ AllBare s'.gens) s₁ := by
    intro H hO hS hok hA hK
    have base_of : ∀ {b : Addr} {o : Obj}, s₁.heap.get? b = some o → H b = none → (hidT s₁.heap H).get? b = some o := fun e n => hidT_get e n
    have noA : ∀ {b : Addr} {o : Obj} {es : Array DictEntry} {ep : Nat}, s₁.heap.get? b = some o → o.data = .dict es ep → H b = none := fun {b o es ep} e d => by
      cases q : H b with
      | none => rfl
      | some u =>
        have e' : b = a := hA b (by rw [q]; simp)
        subst e'
        rw [ha] at e; cases e
        have d' : Data.seq vs.toArray _ = Data.dict es ep := d
        cases d'
    have nsK : ∀ {b : Addr} {m : Str → Option Value}, s₁.heap.Ns b m → (hidT s₁.heap H).Ns b m := fun {b m} w1_ => w1_.elim fun o z_ => z_.elim fun es z_ => z_.elim fun ep z_ => z_.elim fun e z_ => z_.elim fun d r => ⟨o, es, ep, base_of e (noA e d), d, r⟩
    have hKb : K.In (hidT s₁.heap H) := fun b o e => base_of (KX b o e) (by
      cases q : H b with
      | none => rfl
      | some u =>
        have e' : b = a := hA b (by rw [q]; simp)
        subst e'
        rw [hK (by rw [q]; simp)] at e; cases e)
    have hM : Mod K mg (hidT s₁.heap H) := ⟨hKb, nsK hns, ⟨mb, nsK hb, hbb⟩, let ⟨mc, h1, h2⟩ := hlim; ⟨mc, nsK h1, h2⟩⟩
    have e0 : Env0 P w K mg (hidT s₁.heap H) callerA [] s₁ H := ⟨rfl, hM, fun b o e => of_hidT e, Nat.le_of_eq (hidT_size _ _), trivial, fun b hb => absurd (show b ∈ ([] : List Addr) from hb) (by simp), hok, .of_eq hg⟩
    refine codeAny_mono ((F _ hKb (nsK hns)).run callerA [] s₁ H ⟨[.ref a], []⟩ [.ref a] [.ref a] _ _ hr e0 (hbind s₁ (.ref a)) (.cons rfl .nil) (hsp H hO hS)) fun r s' h => ?_
    cases r with
    | error e => exact (hCX H e s' h).elim
    | ok fl =>
      cases fl with
      | next => exact False.elim h
      | brk => exact False.elim h
      | cont => exact False.elim h
      | ret u =>
        obtain ⟨v, H', os, bare, un, hok', r', q⟩ := h
        have q' : v = .bl true := q
        subst q'
        obtain rfl : u = Value.bool true := r'
        refine ⟨rfl, OldK.of_keep fun b o e => ?_, os, bare⟩
        cases q : H b with
        | none => exact un.keep b o e q (by intro z; exact absurd (show b ∈ ([] : List Addr) from z) (by simp)) (by simp)
        | some u =>
          rcases hO b with z | ⟨ob, xs, z⟩
          · rw [q] at z; cases z
          · have z2 := un.frzs b ob _ z
            obtain ⟨e1, _⟩ := hok b _ z
            obtain ⟨e2, _⟩ := hok' b _ z2
            rw [e] at e1; cases e1
            exact e2
  cases hk : K.lookup a with
  | some o =>
    -- the script is one of the module's own objects
    have e := KX a o hk
    rw [ha] at e
    cases e
    refine core (fun _ => none) (fun _ => .inl rfl) (.inr ⟨_, vs.toArray, _, hk, rfl, rfl, rfl, by rw [List.size_toArray, lenV]; exact hl, by simpa using rv⟩) (fun b u z => by have z' : (none : Option HO) = some u := z; cases z') (fun b z => absurd rfl z) fun z => absurd rfl z
  | none =>
    refine core (fun b => if b = a then some (.frz { cls := .type "list", data := .seq vs.toArray } (.lst (ns.map V.int))) else none) (fun b => ?_) (.inl (.inr ⟨{ cls := .type "list", data := .seq vs.toArray }, if_pos rfl⟩)) (fun b u z => ?_) (fun b z => ?_) fun _ => hk
    · by_cases hb : b = a
      · exact .inr ⟨_, _, if_pos hb⟩
      · exact .inl (if_neg hb)
    · by_cases hb : b = a
      · have z' := (if_pos hb).symm.trans z
        cases z'
        subst hb
        exact ⟨ha, by rw [List.length_map]; exact hl, vs, _, rv, ha⟩
      · have z' := (if_neg hb).symm.trans z
        cases z'
    · by_cases hb : b = a
      · exact hb
      · exact absurd (if_neg hb) z
end L2
namespace L2
open PySem PySem.Spec PyProof.Rows
theorem walk_of {l : PySem.W.OpenLaw} {n k : Nat} {q : Program} {loose : List Str} {XP : (Str → Option Value) → Heap → Prop} {YP : World → Heap → Prop} {d : DefRec} {K : Params → PySem.W.Frag} {CX : World → CXT} {sp : World → Sp} {x : Str}
    (hn : l.most = some n) (hn2 : n ≤ sizeLine) (hdf : d.params.defaults = []) (hr : Room k callerA)
    (hY : ∀ (w : World) (h : Heap), YP w h → (K w.params).In h)
    (F : ∀ (w : World) (mg : Str → Option Value) (fa : Addr) (h : Heap), (K w.params).In h → h.Ns mainGlobals mg → mg d.name = some (.ref fa) →
      ∃ fd : FuncData, (∀ (s : Shared) (u : Value), BindsTo s fd ⟨[u], []⟩ [(x, u)]) ∧
        ∀ base : Heap, (K w.params).In base → base.Ns mainGlobals mg → FnOk l.prog w (K w.params) mg base (CX w) k fa fd [x] (sp w))
    (hsp : ∀ (w : World) (H : Hp) (a : Addr) (ns : List Int), ns.length ≤ n → Only H → SqL (K w.params) H a (ns.map V.int) → sp w [.ref a] H (fun v _ => v = .bl true) fun _ _ _ => False)
    (hCX : ∀ (w : World) (H : Hp) (s : Shared) (e : Value) (s' : Shared), CX w [] H s (fun _ _ _ => False) e s' → False) :
    PySem.W.WalkO q loose XP YP l.row.toRowW d [] (fun f vs => PySem.call f vs) := by
  refine Att.attach_call hn hdf fun w s₀ s₁ mg mb fa o pm cd doc a vs ns G Y ho hd hcd hmg hobj hints hlen hg => ?_
  have KX := hY w _ Y
  obtain ⟨fd, hb, hF⟩ := F w mg fa _ KX G.T.g hmg
  exact law_call KX G.T.g G.T.b G.T.builtins G.T.nolimit hg hobj hints (Nat.le_trans hlen hn2) hr hF hb (fun H hO hS => hsp w H a ns hlen hO hS) fun H e s' => hCX w H s₁ e s'
end L2
namespace L2
open PySem PySem.Spec PyProof.Rows
noncomputable def defArgs (s : Stmt) : Arguments := match s with
  | .FunctionDef _ a _ _ _ _ _ _ _ _ => a
  | _ => { posonlyargs := [], args := [], vararg := none, kwonlyargs := [], kw_defaults := [], kwarg := none, defaults := [] }
noncomputable def defBody (s : Stmt) : List Stmt := match s with
  | .FunctionDef _ _ b _ _ _ _ _ _ _ => b
  | _ => []
noncomputable def defScope (s : Stmt) : Scope := match s with
  | .FunctionDef _ _ _ _ _ _ sc _ _ _ => sc
  | _ => { kind := .function, names := [], isGenerator := false, isCoroutine := false }
noncomputable abbrev CX0 : CXT := fun _ _ _ _ _ _ => False
noncomputable abbrev E0 : XK := fun _ _ _ => False
theorem pass0 {X : Cx} : Passes CX0 X E0 := fun _ _ _ _ _ _ _ h => h.elim
structure Fun (K : PySem.W.Frag) (x qual : Str) (st : Stmt) (f : Addr) (fd : FuncData) : Prop where
  ex : ∃ (oc : Value) (od : Option Addr) (kV doc pm : Value) (an : Option Addr) (cdv ct : Value) (osl : Array (Option Value)),
    fd = PySem.W.fnOf x qual (defArgs st) (defBody st) (defScope st) .none kV doc pm an cdv ct ∧ K.lookup f = some ⟨oc, od, .func fd, osl⟩ ∧ PySem.W.codeIn K cdv qual = true
  kp : PySem.W.keepIn K (.ref f) = true
section
variable {P : Program} {w : World} {K : PySem.W.Frag} {mg : Str → Option Value} {base : Heap}
theorem Fun.ok {x qual : Str} {st : Stmt} {f : Addr} {fd : FuncData} {N ps : List Str} {k : Nat} {sp : Sp} (F : Fun K x qual st f fd) (S : FnScope N ps (defScope st)) (len : ∀ vs H Q E, sp vs H Q E → vs.length = ps.length)
    (hbody : ∀ (cdv : Value) (A : Around) (outer : List Env) (s : Shared) (H : Hp) (vs : List V) (Q : VK) (E : XK), Room k (A.deeper (envOfC qual (defScope st) s.heap.objs.size f cdv)) → sp vs H Q E →
      ∃ t, PSs (cxOf CX0 P w K mg base N qual (defScope st) f cdv A outer s H E).nox (defBody st) t ∧ t { nx := fun _ H' => Q .non H', rt := Q } (start N vs) H) : FnOk P w K mg base CX0 (k + 1) f fd ps sp := by
  obtain ⟨oc, od, kV, doc, pm, an, cdv, ct, osl, rfl, lk, hcd⟩ := F.ex
  refine fn_of lk hcd S len fun A outer s H vs Q E hr hsp => ?_
  obtain ⟨t, h, q⟩ := hbody cdv A outer s H vs Q E hr hsp
  exact ⟨t, h.nox, q⟩
theorem Fun.binds {x qual : Str} {st : Stmt} {f : Addr} {fd : FuncData} {ps : List Str} (F : Fun K x qual st f fd)
    (h : ∀ (kV doc pm : Value) (an : Option Addr) (cdv ct : Value) (us : List Value), us.length = ps.length → bindArgs (PySem.W.fnOf x qual (defArgs st) (defBody st) (defScope st) .none kV doc pm an cdv ct) ⟨us, []⟩ = pure (ps.zip us)) : Binds K fd ps [] := by
  obtain ⟨oc, od, kV, doc, pm, an, cdv, ct, osl, rfl, lk, hcd⟩ := F.ex
  exact .all (h kV doc pm an cdv ct)
theorem fun_mk {x qual : Str} {st : Stmt} {f : Addr} {oc : Value} {od an : Option Addr} {osl : Array (Option Value)} {kV doc pm cdv ct : Value} (l : K.lookup f = some ⟨oc, od, .func (PySem.W.fnOf x qual (defArgs st) (defBody st) (defScope st) .none kV doc pm an cdv ct), osl⟩)
    (c : PySem.W.codeIn K cdv qual = true) (k : PySem.W.keepIn K (.ref f) = true) : Fun K x qual st f (PySem.W.fnOf x qual (defArgs st) (defBody st) (defScope st) .none kV doc pm an cdv ct) := ⟨⟨oc, od, kV, doc, pm, an, cdv, ct, osl, rfl, l, c⟩, k⟩
end
theorem small1000 {n : Nat} (h : n ≤ 1000) : n < sizeLine := Nat.lt_of_le_of_lt h (by decide)
end L2
namespace L2
open PySem PySem.Spec PyProof.Rows
end L2
namespace L2
open PySem PySem.Spec PyProof.Rows
section
variable {prog : Program} {w : World} {A : Around} {R : Result → Shared → Prop} {s : Shared}
noncomputable abbrev noE : Value → Shared → Prop := fun _ _ => False
theorem compLoop_any {elt target iter : Expr} {ifs : List Expr} {scope : Scope} {pos : Pos} {it acc : Value} {env : Env} (I : Nat → Shared → Prop)
    (turn : ∀ n s, I n s → wpAny (model prog w) A (pyNext it) (fun r s₁ => match r with
      | none => R (.ok .next) s₁
      | some v => wpAny (model prog w) A (letOwnedTupleGo target it v) (fun _ s₁' => wpAny (model prog w) A (assign target env v) (fun _ s₂ =>
          wpAny (model prog w) A (forIn ifs true fun c r => if r = true then do let ok ← isTrue c env (eval c env); pure (ForInStep.yield ok) else pure (ForInStep.yield r)) (fun ok s₃ =>
            if ok = true then wpAny (model prog w) A (eval elt env) (fun x s₄ =>
              wpAny (model prog w) A (call (.builtin "list.append") [acc, x]) (fun _ s₅ => ∃ m, m < n ∧ I m s₅) noE s₄) noE s₃
            else ∃ m, m < n ∧ I m s₃) noE s₂) noE s₁') noE s₁) noE s)
    (n : Nat) (h : I n s) :
    codeAny (model prog w) A (.compLoop (.ListComp elt [⟨target, iter, ifs, 0⟩] scope pos) 0 it acc env) R s := by
  refine codeAny_loop rfl I (fun n s hI => ?_) n h
  show wpAny _ A ((compTurn (.ListComp elt [⟨target, iter, ifs, 0⟩] scope pos) 0 it acc env).onRaise (fun x => do noteFrame x env; theTreesLotGoes x)) _ _ s
  refine wpAny_noted ?_
  rw [compTurn_list]
  refine wpAny_bind (wpAny_standAt (wpAny_bind (wpAny_mono (turn n s hI) (fun r s₁ h₁ => ?_) fun _ _ h' => h'.elim)))
  cases r with
  | none => exact wpAny_pure h₁
  | some v =>
    refine wpAny_bind (wpAny_mono h₁ (fun _ s₁' h₁' => ?_) fun _ _ h' => h'.elim)
    refine wpAny_bind (wpAny_mono h₁' (fun _ s₂ h₂ => wpAny_bind (wpAny_mono h₂ (fun ok s₃ h₃ => ?_) fun _ _ h' => h'.elim)) fun _ _ h' => h'.elim)
    cases ok with
    | false => exact wpAny_pure ⟨rfl, h₃⟩
    | true =>
      exact wpAny_bind (wpAny_bind (wpAny_mono h₃ (fun x s₄ h₄ => wpAny_bind (wpAny_mono h₄ (fun _ s₅ h₅ => wpAny_pure (wpAny_pure ⟨rfl, h₅⟩)) fun _ _ h' => h'.elim)) fun _ _ h' => h'.elim))
end
noncomputable def PIfs (X : Cx) (ifs : List Expr) (t : TT) : Prop :=
  ∀ (pins : List (Addr × Obj)) (s : Shared) (σ : St) (H : Hp) (Q : Bool → Hp → Prop), Inv X pins σ H s → t σ H Q →
    wpAny (model X.prog X.w) X.A (forIn ifs true fun c r => if r = true then do let ok ← isTrue c X.env (eval c X.env); pure (ForInStep.yield ok) else pure (ForInStep.yield r)) (TP X pins σ Q) X.xe s
noncomputable def tIf0 : TT := fun _ H Q => Q true H
theorem pifs_nil {X : Cx} : PIfs X [] tIf0 := fun _ _ _ H _ I h => wpAny_tests_nil ⟨H, I, h⟩
theorem cellsFrom_app : ∀ (names : List (Str × NameKind)) (n : Nat) (acc : List (Str × Addr)), cellsFrom n names acc = cellsFrom n names [] ++ acc
  | [], _, _ => rfl
  | (nm, k) :: r, n, acc => by
    unfold cellsFrom
    split
    · rw [cellsFrom_app r (n + 1) ((nm, n) :: acc), cellsFrom_app r (n + 1) [(nm, n)], List.append_assoc]; rfl
    · exact cellsFrom_app r n acc
noncomputable def closOf (cells : List (Str × Addr)) : List (Str × NameKind) → List (Str × Addr) → List (Str × Addr)
  | [], acc => acc
  | (n, k) :: r, acc => if k == .free then closOf cells r ((n, (cells.lookup n).getD 0) :: acc) else closOf cells r acc
theorem closFor_eq {env : Env} : ∀ (names : List (Str × NameKind)) (acc : List (Str × Addr)), (∀ y ∈ names, y.2 = .free → ∃ c, env.cells.lookup y.1 = some c) →
    (forIn names acc fun (x : Str × NameKind) cs => if x.2 == .free then do let a ← cellOf env x.1; pure (ForInStep.yield ((x.1, a) :: cs)) else pure (ForInStep.yield cs) : Sem _) = pure (closOf env.cells names acc)
  | [], acc, _ => rfl
  | (n, k) :: r, acc, h => by
    rw [List.forIn_cons]
    unfold closOf
    have hr := fun y hy => h y (List.mem_cons_of_mem _ hy)
    by_cases hk : (k == NameKind.free) = true
    · obtain ⟨c, hc⟩ := h (n, k) List.mem_cons_self (by simpa using hk)
      have hc' : env.cells.lookup n = some c := hc
      simp only [hk, if_true]
      unfold cellOf
      rw [hc']
      simp only [pure_bind, Option.getD_some]
      exact closFor_eq r _ hr
    · have hk' : (k == NameKind.free) = false := by simpa using hk
      simp only [hk', Bool.false_eq_true, if_false, pure_bind]
      exact closFor_eq r _ hr
theorem closureFor_eq {scope : Scope} {env : Env} (h : ∀ y ∈ scope.names, y.2 = .free → ∃ c, env.cells.lookup y.1 = some c) : closureFor scope env = pure (closOf env.cells scope.names []) := by
  have e := closFor_eq (env := env) scope.names [] h
  unfold closureFor
  simp only [bind_pure_comp] at e ⊢
  have e2 : (forIn scope.names ([] : List (Str × Addr)) fun (x : Str × NameKind) cs => if x.2 == .free then do let a ← cellOf env x.1; pure (ForInStep.yield ((x.1, a) :: cs)) else pure (ForInStep.yield cs) : Sem _) = pure (closOf env.cells scope.names []) := closFor_eq scope.names [] h
  simp only [bind_pure_comp] at e2
  first
    | exact e2
    | (rw [e2]; rfl)
    | simpa using e2
theorem closOf_lookup {cells : List (Str × Addr)} {x : Str} {c : Addr} : ∀ (names : List (Str × NameKind)) (acc : List (Str × Addr)), (closOf cells names acc).lookup x = some c →
    acc.lookup x = some c ∨ ((x, NameKind.free) ∈ names ∧ c = (cells.lookup x).getD 0)
  | [], acc, h => .inl h
  | (n, k) :: r, acc, h => by
    unfold closOf at h
    by_cases hk : (k == NameKind.free) = true
    · rw [if_pos hk] at h
      rcases closOf_lookup r _ h with h1 | ⟨h1, h2⟩
      · rw [List.lookup_cons] at h1
        cases hx : x == n with
        | true =>
          rw [hx] at h1
          have hxn : x = n := by simpa using hx
          subst hxn
          cases h1
          refine .inr ⟨?_, rfl⟩
          have : k = NameKind.free := by simpa using hk
          subst this
          exact List.mem_cons_self
        | false => rw [hx] at h1; exact .inl h1
      · exact .inr ⟨List.mem_cons_of_mem _ h1, h2⟩
    · rw [if_neg hk] at h
      rcases closOf_lookup r _ h with h1 | ⟨h1, h2⟩
      · exact .inl h1
      · exact .inr ⟨List.mem_cons_of_mem _ h1, h2⟩
theorem closOf_has {cells : List (Str × Addr)} {x : Str} : ∀ (names : List (Str × NameKind)) (acc : List (Str × Addr)), ((x, NameKind.free) ∈ names ∨ (acc.lookup x).isSome = true) → ((closOf cells names acc).lookup x).isSome = true
  | [], acc, h => by rcases h with h | h; · exact absurd h (by simp)
                     · exact h
  | (n, k) :: r, acc, h => by
    unfold closOf
    by_cases hk : (k == NameKind.free) = true
    · rw [if_pos hk]
      refine closOf_has r _ ?_
      rcases h with h | h
      · rcases List.mem_cons.mp h with e | h
        · cases e; right; simp [List.lookup_cons]
        · exact .inl h
      · right
        rw [List.lookup_cons]
        cases hx : x == n
        · exact h
        · rfl
    · rw [if_neg hk]
      refine closOf_has r _ ?_
      rcases h with h | h
      · rcases List.mem_cons.mp h with e | h
        · cases e; exact absurd rfl hk
        · exact .inl h
      · exact .inr h
noncomputable def compEnvL (scope : Scope) (L : Addr) (env : Env) : Env :=
  { scope := relabel scope env, locals := L, globals := env.globals, cells := cellsFrom (L + 1) scope.names (closOf env.cells scope.names []), qual := env.qual, func := none, code := env.code, frame := env.frame, builtins := env.builtins }
theorem newEnv_comp {M : Model} {A : Around} {E : Value → Shared → Prop} {s : Shared} {scope : Scope} {globals : Addr} {cl : List (Str × Addr)} {qual : Str} {outer : Env} {Q : Env → Shared → Prop}
    (hQ : ∀ h', (∀ b o, s.heap.get? b = some o → h'.get? b = some o) → h'.Ns s.heap.objs.size (fun _ => none) → CellsOk h' (s.heap.objs.size + 1) (cellsFrom (s.heap.objs.size + 1) scope.names []) →
      Q { scope := scope, locals := s.heap.objs.size, globals := globals, cells := cellsFrom (s.heap.objs.size + 1) scope.names cl, qual := qual, func := none, code := outer.code, frame := outer.frame, builtins := outer.builtins } { s with heap := h' }) :
    wpAny M A (newFunctionEnv scope globals cl [] qual none .none (some outer)) Q E s := by
  simp only [newFunctionEnv, Option.isSome_some, if_true]
  refine wpAny_bind (wpAny_alloc ?_)
  refine wpAny_bind (wpAny_layCells _ (fun name kind cells => by cases hkc : kind == NameKind.cell <;> simp [hkc]) _ _ _ _ ?_)
  have ok := cellsFrom_ok scope.names (s.heap.push { cls := .type "dict", data := .dict #[] }) (s.heap.objs.size + 1) [] ⟨fun _ _ hm => (nomatch hm), List.Pairwise.nil⟩ (by rw [Heap.size_push]; exact Nat.le_refl _)
  rw [Heap.size_push] at ok
  rw [show ({ s with heap := s.heap.push { cls := .type "dict", data := .dict #[] } } : Shared).heap.objs.size = s.heap.objs.size + 1 from Heap.size_push ..]
  simp only [List.forIn_nil]
  refine wpAny_bind (wpAny_pure (wpAny_pure ?_))
  exact hQ _ (fun b o e => pushCells_keeps _ _ b o (Heap.get?_push_of_some _ e)) ((Heap.Ns.new s.heap (.type "dict")).keeps (pushCells_keeps _ _)) ok
end L2
namespace L2
open PySem PySem.Spec PyProof.Rows
noncomputable def compCx (X : Cx) (scope : Scope) (ts rest : List Str) (ex : List Addr) (s : Shared) (H : Hp) : Cx where
  prog := X.prog
  w := X.w
  K := X.K
  mg := X.mg
  base := X.base
  A := X.A
  N := ts ++ rest
  s₀ := s
  H₀ := H
  env := compEnvL scope s.heap.objs.size X.env
  outer := X.stack
  stack := X.stack
  ex := ex
  calm := X.calm
  fn := fun x => ((cellsFrom (s.heap.objs.size + 1) scope.names []).lookup x).isSome
  pn := X.pn
  xe := fun _ _ => False
structure CompScope (X : Cx) (scope : Scope) (ts rest : List Str) : Prop where
  kind : scope.kind = .function
  own : ∀ y ∈ scope.names, y.2 = .local → scope.names.lookup y.1 = some .local
  free : ∀ y ∈ scope.names, y.2 = .free → X.env.kindOf y.1 = some .cell ∨ X.env.kindOf y.1 = some .free
  look : ∀ y ∈ scope.names, scope.names.lookup y.1 = some y.2
  len : rest.length = X.N.length
  at_ : ∀ (i : Nat) x, rest[i]? = some x → scope.names.lookup x = none ∨ (scope.names.lookup x = some .free ∧ X.N[i]? = some x) ∨ (∃ k, scope.names.lookup x = some k ∧ k ≠ .local ∧ k ≠ .cell ∧ k ≠ .free)
  nd : (ts ++ rest).Nodup
theorem relabel_lookup {env : Env} {x : Str} : ∀ (names : List (Str × NameKind)),
    (names.map fun (n, k) => if (k == NameKind.free && env.scope.kind == .function && env.kindOf n == some .cell) then (n, NameKind.cell) else (n, k)).lookup x =
      (names.lookup x).map fun k => if (k == NameKind.free && env.scope.kind == .function && env.kindOf x == some .cell) then NameKind.cell else k
  | [] => rfl
  | (n, k) :: r => by
    rw [List.map_cons]
    cases hx : x == n with
    | true =>
      have e : x = n := by simpa using hx
      subst e
      by_cases hc : (k == NameKind.free && env.scope.kind == .function && env.kindOf x == some .cell) = true
      · simp only [hc, if_true, List.lookup_cons, beq_self_eq_true, Option.map_some]
      · simp only [if_neg hc, List.lookup_cons, beq_self_eq_true, Option.map_some]
    | false =>
      have ih := relabel_lookup (env := env) (x := x) r
      by_cases hc : (k == NameKind.free && env.scope.kind == .function && env.kindOf n == some .cell) = true
      · simp only [hc, if_true, List.lookup_cons, hx]; exact ih
      · simp only [if_neg hc, List.lookup_cons, hx]; exact ih
section
variable {X : Cx} {scope : Scope} {ts rest : List Str} {pins : List (Addr × Obj)} {σ : St} {H : Hp} {s : Shared}
theorem lookup_app {l1 l2 : List (Str × Addr)} {x : Str} {c : Addr} (h : (l1 ++ l2).lookup x = some c) : l1.lookup x = some c ∨ (l1.lookup x = none ∧ l2.lookup x = some c) := by
  rw [List.lookup_append] at h
  cases e : l1.lookup x with
  | none => rw [e] at h; exact .inr ⟨rfl, by simpa using h⟩
  | some d => rw [e] at h; left; simpa using h
theorem cells_names : ∀ {names : List (Str × NameKind)} {n : Nat} {acc : List (Str × Addr)} {x : Str} {c : Addr}, (x, c) ∈ cellsFrom n names acc → (x, NameKind.cell) ∈ names ∨ (x, c) ∈ acc
  | [], _, _, _, _, h => .inr h
  | (nm, k) :: r, n, acc, x, c, h => by
    unfold cellsFrom at h
    split at h
    · rename_i hk
      rcases cells_names h with h | h
      · exact .inl (List.mem_cons_of_mem _ h)
      · rcases List.mem_cons.mp h with e | h
        · cases e
          have : k = NameKind.cell := by simpa using hk
          subst this
          exact .inl List.mem_cons_self
        · exact .inr h
    · rcases cells_names h with h | h
      · exact .inl (List.mem_cons_of_mem _ h)
      · exact .inr h
theorem comp_cells {L : Addr} (S : CompScope X scope ts rest) {x : Str} {c : Addr} (h : (compEnvL scope L X.env).cells.lookup x = some c) :
    ((cellsFrom (L + 1) scope.names []).lookup x = some c ∧ scope.names.lookup x = some .cell) ∨ (scope.names.lookup x = some .free ∧ c = (X.env.cells.lookup x).getD 0) := by
  have h' : (cellsFrom (L + 1) scope.names (closOf X.env.cells scope.names [])).lookup x = some c := h
  rw [cellsFrom_app] at h'
  rcases lookup_app h' with h1 | ⟨_, h1⟩
  · refine .inl ⟨h1, ?_⟩
    rcases cells_names (PySem.mem_of_lookup h1) with z | z
    · exact S.look _ z
    · exact absurd z (by simp)
  · rcases closOf_lookup _ _ h1 with z | ⟨z1, z2⟩
    · exact absurd z (by simp)
    · exact .inr ⟨S.look _ z1, z2⟩
theorem comp_start (S : CompScope X scope ts rest) (I : Inv X pins σ H s) {fp : List Addr} {h' : Heap} (hf : ∀ b ∈ fp, FpOk X pins H b) (hfl : ∀ b ∈ fp, b < s.heap.objs.size)
    (hk : ∀ b o, s.heap.get? b = some o → h'.get? b = some o) (hn : h'.Ns s.heap.objs.size (fun _ => none)) (ck : CellsOk h' (s.heap.objs.size + 1) (cellsFrom (s.heap.objs.size + 1) scope.names [])) :
    Inv (compCx X scope ts rest fp s H) pins (List.replicate ts.length none ++ σ) H { s with heap := h' } := by
  have cell_of : ∀ x, scope.names.lookup x = some .free → ∃ c, X.env.cells.lookup x = some c := fun x hx => I.ok.has x (S.free _ (PySem.mem_of_lookup hx) rfl)
  have below : ∀ {b : Addr} {o : Obj}, s.heap.get? b = some o → b < s.heap.objs.size := fun e => Heap.lt_size e
  have cOld : ∀ x c, X.env.cells.lookup x = some c → c < s.heap.objs.size := fun x c e => by
    obtain ⟨v, o, ho, _⟩ := I.cell x c e
    exact below ho
  -- a cell of the block
  have cases_ : ∀ x c, (compEnvL scope s.heap.objs.size X.env).cells.lookup x = some c → (((x, c) ∈ cellsFrom (s.heap.objs.size + 1) scope.names [] ∧ h'.IsCell c none ∧ s.heap.objs.size + 1 ≤ c) ∨ (X.env.cells.lookup x = some c)) := fun x c e => by
    rcases comp_cells S e with ⟨z, _⟩ | ⟨z1, z2⟩
    · exact .inl ⟨PySem.mem_of_lookup z, ck.empty x c (PySem.mem_of_lookup z)⟩
    · obtain ⟨d, hd⟩ := cell_of x z1
      rw [hd] at z2
      exact .inr (by rw [hd, z2]; rfl)
  have I' := I
  refine ⟨⟨I.ok.mod, S.kind, I.ok.glob, I.ok.blt, Nat.le_refl _, fun x y c e1 e2 => ?_, fun x hx => ?_, fun x c hfn e => ?_, I.ok.hd, I.ok.frames, .inl rfl, fun b hb => ⟨Nat.ne_of_lt (hfl b hb), fun x c e => ?_⟩, I.bs, Nat.le_trans I.ok.bsz I.sz, fun b o e hb => ?_, fun b hb hz => ?_, I.stack, I.stkFree⟩,
    rfl, I.bare, Un.kept hk, ⟨_, hn, fun i x v e1 e2 e3 => ?_⟩, fun x c e => ?_, I.hok.fresh (Nat.le_refl _), fun x c e => ?_, fun p hp => ?_, I.hok.kept hk, ?_⟩
  · rcases cases_ x c e1 with ⟨m1, _, l1⟩ | z1 <;> rcases cases_ y c e2 with ⟨m2, _, l2⟩ | z2
    · exact name_of_addr ck.apart m1 m2
    · exact absurd (Nat.lt_of_lt_of_le (cOld y c z2) (Nat.le_of_succ_le l1)) (Nat.lt_irrefl _)
    · exact absurd (Nat.lt_of_lt_of_le (cOld x c z1) (Nat.le_of_succ_le l2)) (Nat.lt_irrefl _)
    · exact I.ok.inj x y c z1 z2
  · have hx' : (relabel scope X.env).names.lookup x = some .cell ∨ (relabel scope X.env).names.lookup x = some .free := hx
    have e : (relabel scope X.env).names.lookup x = (scope.names.lookup x).map fun k => if (k == NameKind.free && X.env.scope.kind == .function && X.env.kindOf x == some .cell) then NameKind.cell else k := relabel_lookup scope.names
    have hkk : scope.names.lookup x = some .cell ∨ scope.names.lookup x = some .free := by
      cases q : scope.names.lookup x with
      | none => rw [e, q] at hx'; rcases hx' with z | z <;> cases z
      | some k =>
        by_cases hc : (k == NameKind.free && X.env.scope.kind == .function && X.env.kindOf x == some .cell) = true
        · have : k = .free := by
            have := (Bool.and_eq_true _ _ ▸ hc : _ ∧ _).1
            have := (Bool.and_eq_true _ _ ▸ this : _ ∧ _).1
            simpa using this
          exact .inr (by rw [this])
        · rw [e, q] at hx'
          simp only [Option.map_some, if_neg hc] at hx'
          exact hx'
    show ∃ c, (cellsFrom (s.heap.objs.size + 1) scope.names (closOf X.env.cells scope.names [])).lookup x = some c
    refine Option.isSome_iff_exists.mp ?_
    rw [cellsFrom_app, List.lookup_append]
    rcases hkk with z | z
    · have q := PySem.W.cellsFrom_some scope.names (s.heap.objs.size + 1) [] (.inl z)
      cases q2 : (cellsFrom (s.heap.objs.size + 1) scope.names []).lookup x with
      | none => rw [q2] at q; cases q
      | some c => simp
    · have q := closOf_has (cells := X.env.cells) (x := x) scope.names [] (.inl (PySem.mem_of_lookup z))
      cases (cellsFrom (s.heap.objs.size + 1) scope.names []).lookup x with
      | none => simpa using q
      | some c => simp
  · have hfn' : ((cellsFrom (s.heap.objs.size + 1) scope.names []).lookup x).isSome = true := hfn
    have e' : (cellsFrom (s.heap.objs.size + 1) scope.names (closOf X.env.cells scope.names [])).lookup x = some c := e
    rw [cellsFrom_app, List.lookup_append] at e'
    cases q2 : (cellsFrom (s.heap.objs.size + 1) scope.names []).lookup x with
    | none => rw [q2] at hfn'; cases hfn'
    | some d =>
      rw [q2] at e'
      have e2 : d = c := by simpa using e'
      subst e2
      have := (ck.empty x d (PySem.mem_of_lookup q2)).2
      show s.heap.objs.size ≤ d
      omega
  · rcases cases_ x c e with ⟨_, _, l⟩ | z
    · exact Nat.ne_of_gt (Nat.lt_of_lt_of_le (hfl b hb) (Nat.le_of_succ_le l))
    · exact (hf b hb).2.2.2.2.1 x c z
  · rcases (hf b hb).2.2.2.1 with z | z
    · exact I.ok.noex b o e z
    · exact absurd (Nat.lt_of_lt_of_le (Heap.lt_size e) (Nat.le_trans I.ok.bsz z)) (Nat.lt_irrefl _)
  · rcases List.mem_cons.mp (I.stkSub b hz) with z | z
    · exact (hf b hb).2.1 z
    · exact (hf b hb).2.2.1 z
  · -- the names' values
    have e1' : (ts ++ rest)[i]? = some x := e1
    by_cases hi : i < ts.length
    · rw [List.getElem?_append_left (by simpa using hi), List.getElem?_replicate] at e2
      split at e2 <;> cases e2
    · have hi' : ts.length ≤ i := by omega
      rw [List.getElem?_append_right hi'] at e1'
      rw [List.getElem?_append_right (by simpa using hi'), List.length_replicate] at e2
      have e : (relabel scope X.env).names.lookup x = (scope.names.lookup x).map fun k => if (k == NameKind.free && X.env.scope.kind == .function && X.env.kindOf x == some .cell) then NameKind.cell else k := relabel_lookup scope.names
      have e3' : (relabel scope X.env).names.lookup x = some .local ∨ (relabel scope X.env).names.lookup x = some .cell ∨ (relabel scope X.env).names.lookup x = some .free := e3
      rcases S.at_ _ x e1' with z | ⟨z, hN⟩ | ⟨k, z, k1, k2, k3⟩
      · rw [e, z] at e3'; rcases e3' with q | q | q <;> cases q
      · obtain ⟨m, hm, hl⟩ := I.loc
        have hkd := S.free _ (PySem.mem_of_lookup z) rfl
        have hvis : Vis X.env.scope x := by
          rcases hkd with q | q
          · exact .inr (.inl q)
          · exact .inr (.inr q)
        obtain ⟨u, r, l⟩ := hl _ x v hN e2 hvis
        refine ⟨u, r, .inr ⟨?_, ?_⟩⟩
        · rcases e3' with q | q | q
          · rw [e, z] at q
            simp only [Option.map_some] at q
            split at q <;> cases q
          · exact .inl q
          · exact .inr q
        · rcases l with ⟨hk2, _⟩ | ⟨_, c, hc, hcell⟩
          · have hk2' : X.env.kindOf x = some .local := hk2
            rcases hkd with q | q <;> (have q' : X.env.kindOf x = _ := q; rw [hk2'] at q'; cases q')
          · refine ⟨c, ?_, hcell.keeps hk⟩
            have hh : ((compEnvL scope s.heap.objs.size X.env).cells.lookup x).isSome = true := by
              show ((cellsFrom (s.heap.objs.size + 1) scope.names (closOf X.env.cells scope.names [])).lookup x).isSome = true
              rw [cellsFrom_app, List.lookup_append]
              have q := closOf_has (cells := X.env.cells) (x := x) scope.names [] (.inl (PySem.mem_of_lookup z))
              cases (cellsFrom (s.heap.objs.size + 1) scope.names []).lookup x with
              | none => simpa using q
              | some c => simp
            obtain ⟨d, hd⟩ := Option.isSome_iff_exists.mp hh
            rcases comp_cells S hd with ⟨_, z1⟩ | ⟨_, z2⟩
            · rw [z] at z1; cases z1
            · rw [hc] at z2
              rw [z2] at hd
              exact hd
      · exfalso
        rw [e, z] at e3'
        simp only [Option.map_some] at e3'
        have : (k == NameKind.free) = false := by simpa using k3
        simp only [this, Bool.false_and, Bool.false_eq_true, if_false] at e3'
        rcases e3' with q | q | q <;> cases q
        · exact k1 rfl
        · exact k2 rfl
        · exact k3 rfl
  · rcases cases_ x c e with ⟨_, z, _⟩ | z
    · exact ⟨_, z⟩
    · obtain ⟨v, q⟩ := I.cell x c z
      exact ⟨v, q.keeps hk⟩
  · rcases cases_ x c e with ⟨_, _, l⟩ | z
    · exact I.hok.fresh (by omega)
    · exact I.freeC x c z
  · obtain ⟨e, n, ne, nf, d⟩ := I.pin p hp
    refine ⟨hk _ _ e, n, Nat.ne_of_lt (below e), fun hz => ?_, d⟩
    rcases List.mem_cons.mp (I.stkSub p.1 hz) with z | z
    · exact ne z
    · exact nf z
  · show _ = (ts ++ rest).length
    rw [List.length_append, List.length_append, List.length_replicate, I.len, S.len]
theorem comp_done {fp : List Addr} {σ' : St} {H' : Hp} {s' : Shared} {h' : Heap} (I : Inv X pins σ H s) (hf : ∀ b ∈ fp, FpOk X pins H b) (J : Inv (compCx X scope ts rest fp s H) pins σ' H' s')
    (hb : Heap.SameBut s.heap.objs.size s'.heap h') : Inv X pins σ H' { s' with heap := h' } := by
  have fr : H' s.heap.objs.size = none := J.free
  have u : Un (frs X.stack) fp H H' s.heap s'.heap := J.base
  have ne : ∀ {b : Addr} {o : Obj}, s.heap.get? b = some o → b ≠ s.heap.objs.size := fun e => Nat.ne_of_lt (Heap.lt_size e)
  refine I.call' (s' := { s' with heap := h' }) (ch := fp) J.os ⟨fun b o e n h1 h2 => (hb.2 b (ne e)).trans (u.keep b o e n h1 h2), fun b o e n h1 h2 => ?_, u.free, fun b o e h2 => ?_, u.tups, u.frzs, u.tbls⟩ (fun b o e => ?_) J.bare fun b hb' => ?_
  · obtain ⟨sl, q⟩ := u.slot b o e n h1 h2
    exact ⟨sl, (hb.2 b (ne e)).trans q⟩
  · obtain ⟨o', q⟩ := u.there b o e h2
    exact ⟨o', (hb.2 b (ne e)).trans q⟩
  · refine (J.hok b o e).stay (fun c v hc q => (hb.2 c ?_).trans q) (fun _ q => q) fun _ _ q => q
    rintro rfl
    rcases hc with rfl | hc
    · rw [fr] at e; cases e
    · rw [fr] at hc; cases hc
  · obtain ⟨_, f1, f2, f3, f4, f5⟩ := hf b hb'
    exact ⟨f3, f1, f4, f5⟩
end
end L2
namespace L2
open PySem PySem.Spec PyProof.Rows
noncomputable def tComp (n : Nat) (wi : TI) (g : TG) (tc : TT) (te : TE) : TE := fun σ H Q => wi σ H fun J H1 => ∀ D, H1 D = none → ∃ W : Nat → Nat → List V → St → Hp → Prop,
  (∃ m, W 0 m [] (List.replicate n none ++ σ) (upd H1 D (.lst []))) ∧ ∀ i m ys σ' H', W i m ys σ' H' →
    (J.stop i H' ∧ H' D = some (.lst ys) ∧ Q (.ref D) H') ∨
    (J.go i H' ∧ ∀ x H2, J.yld i H' x H2 → g x σ' H2 fun σ3 H3 => tc σ3 H3 fun b H4 => if b = true then
      te σ3 H4 fun y H5 => H5 D = some (.lst ys) ∧ ys.length < sizeLine ∧ ∃ m', m' < m ∧ W (i + 1) m' (ys ++ [y]) σ3 (upd H5 D (.lst (ys ++ [y])))
      else ∃ m', m' < m ∧ W (i + 1) m' ys σ3 H4)
section
variable {X : Cx} {scope : Scope} {ts rest : List Str} {pins : List (Addr × Obj)} {σ : St} {elt tg iter : Expr} {ifs : List Expr} {pos : Pos} {wi : TI} {g : TG} {tc : TT} {te : TE}
theorem comp_block (hc : X.calm = true) (S : CompScope X scope ts rest)
    (hg : ∀ fp s H, PG (compCx X scope ts rest fp s H) tg g) (ht : ∀ fp s H, PIfs (compCx X scope ts rest fp s H) ifs tc) (he : ∀ fp s H, PE (compCx X scope ts rest fp s H) elt te)
    {H1 : Hp} {s₂ : Shared} {it : Addr} {fp : List Addr} {tn : Nat → Heap → Prop} {J : It} (I2 : Inv X pins σ H1 s₂) (T : Turn X.prog X.w X.K tg J fp it tn) (st2 : tn 0 s₂.heap) (f2 : ∀ b ∈ fp, FpOk X pins H1 b) {Q : VK}
    (hw : ∀ D, H1 D = none → ∃ W : Nat → Nat → List V → St → Hp → Prop,
      (∃ m, W 0 m [] (List.replicate ts.length none ++ σ) (upd H1 D (.lst []))) ∧ ∀ i m ys σ' H', W i m ys σ' H' →
        (J.stop i H' ∧ H' D = some (.lst ys) ∧ Q (.ref D) H') ∨
        (J.go i H' ∧ ∀ x H2, J.yld i H' x H2 → g x σ' H2 fun σ3 H3 => tc σ3 H3 fun b H4 => if b = true then
          te σ3 H4 fun y H5 => H5 D = some (.lst ys) ∧ ys.length < sizeLine ∧ ∃ m', m' < m ∧ W (i + 1) m' (ys ++ [y]) σ3 (upd H5 D (.lst (ys ++ [y])))
          else ∃ m', m' < m ∧ W (i + 1) m' ys σ3 H4))
    {RR : Value → Addr → Result → Shared → Prop} {E : Value → Shared → Prop}
    (hRR : ∀ D s3 H3 σ' H' s', Inv X pins σ H3 s3 → (∀ b ∈ fp, FpOk X pins H3 b) → Inv (compCx X scope ts rest fp s3 H3) pins σ' H' s' → Q (.ref D) H' → RR (.ref D) s3.heap.objs.size (.ok .next) s') :
    wpAny (model X.prog X.w) X.A (newList []) (fun acc s₃ => wpAny (model X.prog X.w) X.A (newFunctionEnv scope X.env.globals (closOf X.env.cells scope.names []) [] X.env.qual none .none (some X.env)) (fun cenv s₄ =>
      codeAny (model X.prog X.w) X.A (.compStart (.ListComp elt [⟨tg, iter, ifs, 0⟩] scope pos) 0 (.ref it) acc { cenv with scope := relabel scope X.env }) (RR acc cenv.locals) s₄) E s₃) E s₂ := by
  obtain ⟨W, ⟨m0, w0⟩, turn⟩ := hw s₂.heap.objs.size (I2.hok.fresh (Nat.le_refl _))
  refine wpAny_newObj_type ?_
  generalize e3 : ({ s₂ with heap := s₂.heap.push { cls := .type "list", dict := none, data := .seq ([] : List Value).toArray } } : Shared) = s₃
  have hfl : ∀ b ∈ fp, b < s₂.heap.objs.size := fun b hb => by
    obtain ⟨o, e, _⟩ := T.obj _ _ st2 b hb
    exact Heap.lt_size e
  have I3 : Inv X pins σ (upd H1 s₂.heap.objs.size (.lst [])) s₃ := by
    subst e3
    exact I2.laid (t' := s₂.toks) (fun b u e => Heap.get?_push_of_some _ e) (Nat.le_refl _) ⟨Nat.zero_le _, [], 0, .nil, Heap.get?_push_size _ rfl⟩
  have hs3 : s₃.heap.objs.size = s₂.heap.objs.size + 1 := by subst e3; exact Heap.size_push ..
  have f3 : ∀ b ∈ fp, FpOk X pins (upd H1 s₂.heap.objs.size (.lst [])) b := fun b hb => ⟨by rw [upd_ne (Nat.ne_of_lt (hfl b hb))]; exact (f2 b hb).1, (f2 b hb).2⟩
  have st3 : tn 0 s₃.heap := by
    subst e3
    exact T.keep _ _ _ st2 fun b _ o e => Heap.get?_push_of_some _ e
  have hfl3 : ∀ b ∈ fp, b < s₃.heap.objs.size := fun b hb => by rw [hs3]; exact Nat.lt_succ_of_lt (hfl b hb)
  refine newEnv_comp fun h' hk hn ck => ?_
  have I4 := comp_start S I3 f3 hfl3 hk hn ck
  have st4 : tn 0 ({ s₃ with heap := h' } : Shared).heap := T.keep _ _ _ st3 fun b _ o e => hk b o e
  generalize eX : compCx X scope ts rest fp s₃ (upd H1 s₂.heap.objs.size (.lst [])) = X' at I4
  have hP : X'.prog = X.prog := by subst eX; rfl
  have hw' : X'.w = X.w := by subst eX; rfl
  have hK' : X'.K = X.K := by subst eX; rfl
  have hA : X'.A = X.A := by subst eX; rfl
  have hcalm : X'.calm = true := by subst eX; exact hc
  have hxe : X'.xe = noE := by subst eX; rfl
  have henv : X'.env = compEnvL scope s₃.heap.objs.size X.env := by subst eX; rfl
  have hg' : PG X' tg g := by subst eX; exact hg _ _ _
  have ht' : PIfs X' ifs tc := by subst eX; exact ht _ _ _
  have he' : PE X' elt te := by subst eX; exact he _ _ _
  have f4 : ∀ b ∈ fp, FpOk X' pins (upd H1 s₂.heap.objs.size (.lst [])) b := fun b hb => by
    obtain ⟨z0, z1, z2, z3, z4, z5⟩ := f3 b hb
    have ok4 := I4.ok
    refine ⟨z0, ?_, ?_, .inl ?_, ?_, ?_⟩
    · rw [henv]; exact Nat.ne_of_lt (hfl3 b hb)
    · have := ok4.exfs b (by subst eX; exact hb)
      exact this
    · subst eX; exact hb
    · exact (ok4.exf b (by subst eX; exact hb)).2
    · subst eX; exact z5
  have stat : ∀ {H' : Hp}, (∀ b ∈ fp, H' b = none) → ∀ b ∈ fp, FpOk X' pins H' b := fun hn b hb => ⟨hn b hb, (f4 b hb).2⟩
  have loop : ∀ s4 : Shared, s4 = { s₃ with heap := h' } → codeAny (model X.prog X.w) X.A (.compLoop (.ListComp elt [⟨tg, iter, ifs, 0⟩] scope pos) 0 (.ref it) (.ref s₂.heap.objs.size) (compEnvL scope s₃.heap.objs.size X.env))
      (RR (.ref s₂.heap.objs.size) s₃.heap.objs.size) s4 := by
    rintro s4 rfl
    refine compLoop_any (fun n s' => ∃ i ys σ' H', Inv X' pins σ' H' s' ∧ tn i s'.heap ∧ (∀ b ∈ fp, H' b = none) ∧ W i n ys σ' H') ?_ m0 ⟨0, [], _, _, I4, st4, fun b hb => (f4 b hb).1, w0⟩
    rintro n s5 ⟨i, ys, σ5, H5, I5, st5, fr5, w5⟩
    rw [← hP, ← hw', ← hA, ← henv, ← hxe]
    rcases turn i n ys σ5 H5 w5 with ⟨stop, eD, q⟩ | ⟨go, step⟩
    · have z := T.done X' hP hw' hK' hcalm i pins s5 σ5 H5 X'.xe I5 (stat fr5) st5 stop
      rw [← hP, ← hw'] at z
      refine thn z fun r s6 hz => ?_
      obtain ⟨hr, I6⟩ := hz
      subst hr
      subst eX
      exact hRR _ s₃ _ σ5 H5 s6 I3 f3 I6 q
    · have z := T.item X' hP hw' hK' hcalm i pins s5 σ5 H5 X'.xe I5 (stat fr5) st5 go
      rw [← hP, ← hw'] at z
      refine thn z fun r s6 hz => ?_
      obtain ⟨u, hr, h6⟩ := hz
      subst hr
      dsimp only
      refine thn h6 fun _ s7 w1_ => w1_.elim fun x z_ => z_.elim fun H7 z_ => z_.elim fun I7 z_ => z_.elim fun r7 z_ => z_.elim fun y7 z_ => z_.elim fun st7 fr7 => ?_
      have I7' := I7.pinned (stat fr7) (T.obj _ _ st7)
      refine thn (hg' _ s7 σ5 H7 x u _ I7' r7 (step x H7 y7)) fun _ s8 w1_ => w1_.elim fun σ8 z_ => z_.elim fun H8 z_ => z_.elim fun I8 q8 => ?_
      -- what stays of the iterator
      have back : ∀ {s9 : Shared} {σ9 : St} {H9 : Hp}, Inv X' (pins ++ pinsAt fp s7.heap) σ9 H9 s9 → Inv X' pins σ9 H9 s9 ∧ tn (i + 1) s9.heap ∧ ∀ b ∈ fp, H9 b = none := fun {s9 σ9 H9} I9 => by
        refine ⟨I9.unpinned, T.keep _ _ _ st7 fun b hb o e => (I9.pin (b, o) (List.mem_append_right _ (List.mem_append_right _ (mem_pinsAt hb e)))).1, fun b hb => ?_⟩
        obtain ⟨o, e, d⟩ := T.obj _ _ st7 b hb
        exact (I9.pin (b, o) (List.mem_append_right _ (List.mem_append_right _ (mem_pinsAt hb e)))).2.1
      refine thn (ht' _ s8 σ8 H8 _ I8 q8) fun ok s9 w1_ => w1_.elim fun H9 z_ => z_.elim fun I9 q9 => ?_
      cases ok with
      | false =>
        simp only [Bool.false_eq_true, if_false] at q9 ⊢
        obtain ⟨m', hm, w9⟩ := q9
        obtain ⟨a1, a2, a3⟩ := back I9
        exact ⟨m', hm, i + 1, ys, σ8, H9, a1, a2, a3, w9⟩
      | true =>
        simp only [if_true] at q9 ⊢
        refine thn (he' _ s9 σ8 H9 _ I9 q9) fun v s10 w1_ => w1_.elim fun y z_ => z_.elim fun H10 z_ => z_.elim fun I10 z_ => z_.elim fun r10 z_ => z_.elim fun eD z_ => z_.elim fun hl z_ => z_.elim fun m' z_ => z_.elim fun hm w10 => ?_
        refine thn (mt_append (X := X') _ s10 σ8 H10 (.ref s₂.heap.objs.size) [y] (.ref s₂.heap.objs.size) [v] (fun _ H11 => W (i + 1) m' (ys ++ [y]) σ8 H11) I10 rfl (.cons r10 .nil) ⟨_, ys, y, rfl, rfl, eD, hl, w10⟩) fun _ s11 w1_ => w1_.elim fun _ z_ => z_.elim fun H11 z_ => z_.elim fun I11 z_ => z_.elim fun _ w11 => ?_
        obtain ⟨a1, a2, a3⟩ := back I11
        exact ⟨m', hm, i + 1, _, σ8, H11, a1, a2, a3, w11⟩
  exact codeAny_compStart_list (loop _ rfl) (T.self X.A 0 _ _ _ st4 (loop _ rfl))
theorem pe_comp (hc : X.calm = true) (S : CompScope X scope ts rest) (hi : PI X tg iter wi)
    (hg : ∀ fp s H, PG (compCx X scope ts rest fp s H) tg g) (ht : ∀ fp s H, PIfs (compCx X scope ts rest fp s H) ifs tc) (he : ∀ fp s H, PE (compCx X scope ts rest fp s H) elt te)
    (hs : ∀ x, foldedSetIterable iter X.env x = pure x := by intro _; rfl) : PE X (.ListComp elt [⟨tg, iter, ifs, 0⟩] scope pos) (tComp ts.length wi g tc te) := by
  intro pins s σ H Q I h
  rw [eval_ListComp]
  refine wpAny_comprehension_free (use := none) rfl hs (closureFor_eq fun y hy hk => I.ok.has _ (S.free y hy hk)) S.kind S.own (thn (hi pins s σ H _ I h) fun x s₁ h1 => thn h1 fun itv s₂ h2 => ?_)
  obtain ⟨it, fp, tn, J, H2, e, I2, T, st2, f2, hw⟩ := h2
  subst e
  refine comp_block hc S hg ht he I2 T st2 f2 hw (RR := fun acc C => compPost (model X.prog X.w) X.A X.xe none (EP X pins σ Q) acc C) fun D s3 H3 σ' H' s' I3 f3 J' q => ?_
  obtain ⟨m, hn, _⟩ := J'.loc
  exact ⟨m, hn, fun h' hb => ⟨.ref D, H', comp_done I3 f3 J' hb, rfl, q⟩⟩
theorem ps_set_comp {i : Nat} {x : Str} {pos' spos : Pos} (hc : X.calm = true) (S : CompScope X scope ts rest) (hi : PI X tg iter wi)
    (hg : ∀ fp s H, PG (compCx X scope ts rest fp s H) tg g) (ht : ∀ fp s H, PIfs (compCx X scope ts rest fp s H) ifs tc) (he : ∀ fp s H, PE (compCx X scope ts rest fp s H) elt te)
    (hN : X.N.Nodup) (hx : X.N[i]? = some x) (hl : Loc X.env.scope x)
    (hsw : swapsWith (.ListComp elt [⟨tg, iter, ifs, 0⟩] scope pos) (some (.Name x pos')) spos.line X.env = pure true)
    (hs : ∀ x, foldedSetIterable iter X.env x = pure x := by intro _; rfl) (hf : X.fn x = true ∨ X.env.scope.names.lookup x = some .local := by first | exact .inl rfl | exact .inr rfl | assumption) :
    PS X (.Assign [.Name x pos'] (.ListComp elt [⟨tg, iter, ifs, 0⟩] scope pos) spos) (tAsg (tComp ts.length wi g tc te) (gName i)) := by
  intro pins s σ H D I h
  rw [exec_Assign_Name_used _ _ _ _ hsw]
  refine wpAny_bind (wpAny_standAt (wpAny_bind ?_))
  show wpAny _ X.A (do let _ ← comprehension (.ListComp elt [⟨tg, iter, ifs, 0⟩] scope pos) scope X.env _ (newList []) false (eval iter X.env) (some (assign (.Name x pos') X.env))) _ _ s
  refine wpAny_bind (wpAny_mono (wpAny_comprehension_free (use := some (assign (.Name x pos') X.env)) (Q := fun _ s' => SP X pins D .next s') rfl hs (closureFor_eq fun y hy hk => I.ok.has _ (S.free y hy hk)) S.kind S.own
    (thn (hi pins s σ H _ I h) fun xv s₁ h1 => thn h1 fun itv s₂ h2 => ?_)) (fun _ s' hq => wpAny_pure (wpAny_pure hq)) fun _ _ e => e)
  obtain ⟨it, fp, tn, J, H2, e, I2, T, st2, f2, hw⟩ := h2
  subst e
  refine comp_block hc S hg ht he I2 T st2 f2 (Q := fun v H1 => gName i v σ H1 D.nx) hw (RR := fun acc C => compPost (model X.prog X.w) X.A X.xe (some (assign (.Name x pos') X.env)) (fun _ s' => SP X pins D .next s') acc C) fun D' s3 H3 σ' H' s' I3 f3 J' q => ?_
  obtain ⟨m, hn, _⟩ := J'.loc
  have IX : Inv X pins σ H' s' := by
    have := comp_done I3 f3 J' (Heap.SameBut.refl _ _)
    exact this
  obtain ⟨o, es, ep, ho, hd, hr⟩ := id hn
  have ho' : s'.heap.get? s3.heap.objs.size = some o := ho
  have hfr : H' s3.heap.objs.size = none := J'.free
  have hne : s3.heap.objs.size ≠ X.env.locals := Nat.ne_of_gt I3.lt
  have hnf : s3.heap.objs.size ∉ X.fs := I3.nofs (Nat.le_refl _)
  have hcl : ∀ v, o.data ≠ .cell v := fun v z => by rw [hd] at z; cases z
  have IP : Inv X (pins ++ [(s3.heap.objs.size, o)]) σ H' s' := IX.pins_of fun p hp => (List.mem_append.mp hp).elim (fun z => IX.pin p (List.mem_append_right _ z)) fun z => by
    have e : p = (s3.heap.objs.size, o) := by simpa using z
    subst e
    exact ⟨ho', hfr, hne, hnf, hcl⟩
  show wpAny _ X.A (assign (.Name x pos') X.env (.ref D')) _ _ _
  refine wpAny_assign_Name (store_ok IP hN hx hl (v := .ref D') (u := .ref D') rfl (fun s4 I4 => ?_) hf)
  have hp4 := (I4.pin (s3.heap.objs.size, o) (List.mem_append_right _ (List.mem_append_right _ List.mem_cons_self))).1
  refine ⟨m, ⟨o, es, ep, hp4, hd, hr⟩, fun h' hb => ⟨_, H', ?_, q⟩⟩
  refine Inv.turned (it := s3.heap.objs.size) (t' := s4.toks) I4.unpinned (fun b o' hbne e => (hb.2 b hbne).trans e) hfr hne (.inr I3.sz) (fun y c e z => ?_) (fun p hp z => ?_)
  · obtain ⟨v, o2, h2, _⟩ := I3.cell y c e
    exact absurd (Heap.lt_size h2) (by rw [z]; exact Nat.lt_irrefl _)
  · obtain ⟨e, _⟩ := I3.pin p hp
    exact absurd (Heap.lt_size e) (by rw [z]; exact Nat.lt_irrefl _)
end
end L2
namespace L2
open PySem PySem.Spec PyProof.Rows
end L2
namespace L2
open PySem PySem.Spec PyProof.Rows
inductive D where
  | non | bl (b : Bool) | int (i : Int) | str (x : Str) | ref (a : Addr) | ty (n : String) | tup (ds : List D) | lst (ds : List D)
inductive OD where
  | lst (ds : List D) | dct (kvs : List (Key × D)) | tab (q : Str)
noncomputable abbrev HpD := Addr → Option OD
noncomputable def updD (M : HpD) (a : Addr) (o : OD) : HpD := fun b => if b = a then some o else M b
noncomputable def delD (M : HpD) (a : Addr) : HpD := fun b => if b = a then none else M b
theorem updD_same {M : HpD} {a : Addr} {o : OD} : updD M a o a = some o := by unfold updD; rw [if_pos rfl]
theorem updD_ne {M : HpD} {a b : Addr} {o : OD} (h : b ≠ a) : updD M a o b = M b := by unfold updD; rw [if_neg h]
theorem delD_same {M : HpD} {a : Addr} : delD M a a = none := by unfold delD; rw [if_pos rfl]
theorem delD_ne {M : HpD} {a b : Addr} (h : b ≠ a) : delD M a b = M b := by unfold delD; rw [if_neg h]
theorem updD_updD {M : HpD} {a : Addr} {o u : OD} : updD (updD M a o) a u = updD M a u := by
  funext b; unfold updD; split <;> rfl
structure KF where
  K : PySem.W.Frag
  F : Addr → Prop
noncomputable def FzL (K : KF) (H : Hp) (M : HpD) (a : Addr) (xs : List V) : Prop := (Rd H a (.lst xs) ∧ M a = none ∧ ¬ K.F a) ∨ SqL K.K (fun _ => none) a xs
noncomputable def FzT (K : KF) (H : Hp) (M : HpD) (a : Addr) (xs : List V) : Prop := (Rd H a (.tup xs) ∧ M a = none ∧ ¬ K.F a) ∨ SqT K.K (fun _ => none) a xs
mutual
noncomputable def RepD (K : KF) (H : Hp) (M : HpD) : D → V → Prop
  | .non, v => v = .non
  | .bl b, v => v = .bl b
  | .int i, v => v = .int i
  | .str x, v => v = .str x
  | .ref a, v => v = .ref a
  | .ty n, v => v = .ty n
  | .tup ds, v => ∃ a xs, v = .ref a ∧ FzT K H M a xs ∧ RepDs K H M ds xs
  | .lst ds, v => ∃ a xs, v = .ref a ∧ FzL K H M a xs ∧ RepDs K H M ds xs
noncomputable def RepDs (K : KF) (H : Hp) (M : HpD) : List D → List V → Prop
  | [], xs => xs = []
  | d :: ds, xs => ∃ x r, xs = x :: r ∧ RepD K H M d x ∧ RepDs K H M ds r
end
noncomputable def CodeE (K : KF) (H : Hp) (M : HpD) (q : Str) (cv : Value) : Prop := ∃ c oc vs t, cv = .ref c ∧ H c = some (.frz oc (.own c)) ∧ M c = none ∧ ¬ K.F c ∧ oc.data = .fields vs ∧ vs[1]? = some (.str q t)
noncomputable def TabE (K : KF) (H : Hp) (M : HpD) (q : Str) (o : HO) : Prop := ∃ ps : Array Value, o = .tbl ps ∧ TriplesOk ps.toList ∧ ∀ pos cv, codeAmong pos ps.toList = some cv → CodeE K H M q cv
noncomputable def RepO (K : KF) (H : Hp) (M : HpD) : OD → HO → Prop
  | .lst ds, o => ∃ xs, o = .lst xs ∧ RepDs K H M ds xs
  | .dct kvs, o => ∃ vs : List (Key × V), o = .dK vs ∧ vs.map (·.1) = kvs.map (·.1) ∧ RepDs K H M (kvs.map (·.2)) (vs.map (·.2))
  | .tab q, o => TabE K H M q o
structure RepH (K : KF) (H : Hp) (M : HpD) : Prop where
  at_ : ∀ a o, M a = some o → ∃ o', H a = some o' ∧ RepO K H M o o'
  fb : ∀ a, K.F a → (∃ o, H a = some o) ∧ M a = none
noncomputable def Fz (M : HpD) (H : Hp) (M' : HpD) (H' : Hp) : Prop := ∀ a o, H a = some o → M a = none → H' a = some o ∧ M' a = none
section
variable {K : KF} {H H' H2 : Hp} {M M' M2 : HpD}
theorem Fz.refl : Fz M H M H := fun _ _ h m => ⟨h, m⟩
theorem Fz.trans (a : Fz M H M' H') (b : Fz M' H' M2 H2) : Fz M H M2 H2 := fun c o h m => b c o (a c o h m).1 (a c o h m).2
theorem Sq0 {a : Addr} {xs : List V} (h : SqL K.K (fun _ => none) a xs) (H : Hp) : SqL K.K H a xs := by
  rcases h with (h | ⟨o, h⟩) | h
  · cases h
  · cases h
  · exact .inr h
theorem St0 {a : Addr} {xs : List V} (h : SqT K.K (fun _ => none) a xs) (H : Hp) : SqT K.K H a xs := by
  rcases h with (h | ⟨o, h⟩) | h
  · cases h
  · cases h
  · exact .inr h
theorem FzL.sq {a : Addr} {xs : List V} (h : FzL K H M a xs) : SqL K.K H a xs := by
  rcases h with ⟨h, _⟩ | h
  · exact .inl h
  · exact Sq0 h H
theorem FzT.sq {a : Addr} {xs : List V} (h : FzT K H M a xs) : SqT K.K H a xs := by
  rcases h with ⟨h, _⟩ | h
  · exact .inl h
  · exact St0 h H
theorem Rd.fz {a : Addr} {u : HO} (h : Rd H a u) (m : M a = none) (f : Fz M H M' H') : Rd H' a u ∧ M' a = none := by
  rcases h with h | ⟨o, h⟩
  · exact ⟨.inl (f _ _ h m).1, (f _ _ h m).2⟩
  · exact ⟨.inr ⟨o, (f _ _ h m).1⟩, (f _ _ h m).2⟩
theorem FzL.mono {a : Addr} {xs : List V} (h : FzL K H M a xs) (f : Fz M H M' H') : FzL K H' M' a xs := by
  rcases h with ⟨h, m, n⟩ | h
  · exact .inl ⟨(h.fz m f).1, (h.fz m f).2, n⟩
  · exact .inr h
theorem FzT.mono {a : Addr} {xs : List V} (h : FzT K H M a xs) (f : Fz M H M' H') : FzT K H' M' a xs := by
  rcases h with ⟨h, m, n⟩ | h
  · exact .inl ⟨(h.fz m f).1, (h.fz m f).2, n⟩
  · exact .inr h
mutual
theorem RepD.mono (f : Fz M H M' H') : ∀ {d : D} {v : V}, RepD K H M d v → RepD K H' M' d v
  | .non, _, h => by unfold RepD at h ⊢; exact h
  | .bl _, _, h => by unfold RepD at h ⊢; exact h
  | .int _, _, h => by unfold RepD at h ⊢; exact h
  | .str _, _, h => by unfold RepD at h ⊢; exact h
  | .ref _, _, h => by unfold RepD at h ⊢; exact h
  | .ty _, _, h => by unfold RepD at h ⊢; exact h
  | .tup ds, _, h => by
    unfold RepD at h ⊢
    obtain ⟨a, xs, e, h1, h2⟩ := h
    exact ⟨a, xs, e, h1.mono f, RepDs.mono f h2⟩
  | .lst ds, _, h => by
    unfold RepD at h ⊢
    obtain ⟨a, xs, e, h1, h2⟩ := h
    exact ⟨a, xs, e, h1.mono f, RepDs.mono f h2⟩
theorem RepDs.mono (f : Fz M H M' H') : ∀ {ds : List D} {vs : List V}, RepDs K H M ds vs → RepDs K H' M' ds vs
  | [], _, h => by unfold RepDs at h ⊢; exact h
  | d :: ds, _, h => by
    unfold RepDs at h ⊢
    obtain ⟨x, r, e, h1, h2⟩ := h
    exact ⟨x, r, e, RepD.mono f h1, RepDs.mono f h2⟩
end
theorem RepDs.length : ∀ {ds : List D} {vs : List V}, RepDs K H M ds vs → ds.length = vs.length
  | [], _, h => by unfold RepDs at h; subst h; rfl
  | d :: ds, _, h => by
    unfold RepDs at h
    obtain ⟨x, r, e, _, h2⟩ := h
    rw [e, List.length_cons, List.length_cons, RepDs.length h2]
theorem RepDs.get : ∀ {ds : List D} {vs : List V} {i : Nat} {d : D}, RepDs K H M ds vs → ds[i]? = some d → ∃ v, vs[i]? = some v ∧ RepD K H M d v
  | [], _, _, _, _, e => by simp at e
  | d :: ds, _, 0, d', h, e => by
    unfold RepDs at h
    obtain ⟨x, r, e1, h1, h2⟩ := h
    simp at e; subst e; subst e1
    exact ⟨x, rfl, h1⟩
  | d :: ds, _, i + 1, d', h, e => by
    unfold RepDs at h
    obtain ⟨x, r, e1, h1, h2⟩ := h
    subst e1
    obtain ⟨v, q1, q2⟩ := RepDs.get (i := i) h2 (by simpa using e)
    exact ⟨v, by simpa using q1, q2⟩
theorem RepDs.get' : ∀ {ds : List D} {vs : List V} {i : Nat} {v : V}, RepDs K H M ds vs → vs[i]? = some v → ∃ d, ds[i]? = some d ∧ RepD K H M d v := fun {ds vs i v} h e => by
  have hl := h.length
  have hi : i < vs.length := (List.getElem?_eq_some_iff.mp e).1
  have : ds[i]? = some (ds[i]'(by omega)) := List.getElem?_eq_getElem (by omega)
  obtain ⟨v', q1, q2⟩ := h.get this
  rw [e] at q1
  cases q1
  exact ⟨_, this, q2⟩
theorem RepDs.nil : RepDs K H M [] [] := by unfold RepDs; rfl
theorem RepDs.cons {d : D} {ds : List D} {v : V} {vs : List V} (h1 : RepD K H M d v) (h2 : RepDs K H M ds vs) : RepDs K H M (d :: ds) (v :: vs) := by
  unfold RepDs; exact ⟨v, vs, rfl, h1, h2⟩
theorem RepDs.append : ∀ {ds es : List D} {vs us : List V}, RepDs K H M ds vs → RepDs K H M es us → RepDs K H M (ds ++ es) (vs ++ us)
  | [], _, _, _, h, g => by unfold RepDs at h; rw [h]; exact g
  | d :: ds, es, _, us, h, g => by
    unfold RepDs at h
    obtain ⟨x, r, e, h1, h2⟩ := h
    rw [e]
    exact .cons h1 (RepDs.append h2 g)
theorem RepDs.take : ∀ {ds : List D} {vs : List V} (n : Nat), RepDs K H M ds vs → RepDs K H M (ds.take n) (vs.take n)
  | _, _, 0, _ => by simp; exact .nil
  | [], _, n + 1, h => by unfold RepDs at h; rw [h]; exact .nil
  | d :: ds, _, n + 1, h => by
    unfold RepDs at h
    obtain ⟨x, r, e, h1, h2⟩ := h
    rw [e]
    exact .cons h1 (RepDs.take n h2)
theorem RepDs.drop : ∀ {ds : List D} {vs : List V} (n : Nat), RepDs K H M ds vs → RepDs K H M (ds.drop n) (vs.drop n)
  | _, _, 0, h => h
  | [], _, n + 1, h => by unfold RepDs at h; rw [h]; exact .nil
  | d :: ds, _, n + 1, h => by
    unfold RepDs at h
    obtain ⟨x, r, e, h1, h2⟩ := h
    rw [e]
    exact RepDs.drop n h2
theorem RepDs.set : ∀ {ds : List D} {vs : List V} {d : D} {v : V} (i : Nat), RepDs K H M ds vs → RepD K H M d v → RepDs K H M (ds.set i d) (vs.set i v)
  | [], _, _, _, _, h, _ => by unfold RepDs at h; rw [h]; exact .nil
  | d :: ds, _, _, _, 0, h, g => by
    unfold RepDs at h
    obtain ⟨x, r, e, h1, h2⟩ := h
    rw [e]
    exact .cons g h2
  | d :: ds, _, _, _, i + 1, h, g => by
    unfold RepDs at h
    obtain ⟨x, r, e, h1, h2⟩ := h
    rw [e]
    exact .cons h1 (RepDs.set i h2 g)
theorem RepH.free {a : Addr} (h : RepH K H M) (e : H a = none) : M a = none := by
  cases q : M a with
  | none => rfl
  | some o =>
    obtain ⟨o', e', _⟩ := h.at_ a o q
    rw [e] at e'; cases e'
theorem fz_new {p : Addr} {o : HO} (hp : H p = none) : Fz M H M (upd H p o) := fun a u e m => ⟨by rw [upd_ne (ne_of_none e hp)]; exact e, m⟩
theorem TabE.imp {K2 : KF} {q : Str} {o : HO} (h : TabE K H M q o) (i : ∀ c oc u, H c = some (.frz oc u) → M c = none → ¬ K.F c → H' c = some (.frz oc u) ∧ M' c = none ∧ ¬ K2.F c) : TabE K2 H' M' q o := by
  obtain ⟨ps, e, t, a⟩ := h
  refine ⟨ps, e, t, fun pos cv z => ?_⟩
  obtain ⟨c, oc, vs, t, e1, e2, e3, e4, e5⟩ := a pos cv z
  obtain ⟨k1, k2, k3⟩ := i c oc _ e2 e3 e4
  exact ⟨c, oc, vs, t, e1, k1, k2, k3, e5⟩
theorem RepO.mono {o : OD} {u : HO} (f : Fz M H M' H') (h : RepO K H M o u) : RepO K H' M' o u := by
  cases o with
  | lst ds =>
    obtain ⟨xs, e, r⟩ := h
    exact ⟨xs, e, r.mono f⟩
  | dct kvs =>
    obtain ⟨vs, e, k, r⟩ := h
    exact ⟨vs, e, k, r.mono f⟩
  | tab q => exact TabE.imp h fun c oc u e m n => ⟨(f c _ e m).1, (f c _ e m).2, n⟩
theorem RepH.new {p : Addr} {o : HO} (h : RepH K H M) (hp : H p = none) : RepH K (upd H p o) M := ⟨fun a u e => by
  obtain ⟨o', e', r⟩ := h.at_ a u e
  exact ⟨o', by rw [upd_ne (ne_of_none e' hp)]; exact e', r.mono (fz_new hp)⟩, fun a ha => by
  obtain ⟨⟨o', e'⟩, m'⟩ := h.fb a ha
  exact ⟨⟨o', by rw [upd_ne (ne_of_none e' hp)]; exact e'⟩, m'⟩⟩
theorem RepH.nf {p : Addr} (h : RepH K H M) (hp : H p = none) : ¬ K.F p := fun z => by
  obtain ⟨⟨o, e⟩, _⟩ := h.fb p z
  rw [hp] at e; cases e
theorem RepH.nfM {p : Addr} {d : OD} (h : RepH K H M) (hp : M p = some d) : ¬ K.F p := fun z => by
  rw [(h.fb p z).2] at hp; cases hp
theorem fz_newM {p : Addr} {o : HO} {d : OD} (hp : H p = none) (hm : M p = none) : Fz M H (updD M p d) (upd H p o) := fun a u e m =>
  ⟨by rw [upd_ne (ne_of_none e hp)]; exact e, by rw [updD_ne (ne_of_none e hp)]; exact m⟩
theorem RepH.newM {p : Addr} {o : HO} {d : OD} (h : RepH K H M) (hp : H p = none) (r : RepO K H M d o) : RepH K (upd H p o) (updD M p d) := ⟨fun a u e => by
  have hm := h.free hp
  by_cases q : a = p
  · subst q
    rw [updD_same] at e; cases e
    exact ⟨o, upd_same, r.mono (fz_newM hp hm)⟩
  · rw [updD_ne q] at e
    obtain ⟨o', e', r'⟩ := h.at_ a u e
    exact ⟨o', by rw [upd_ne q]; exact e', r'.mono (fz_newM hp hm)⟩, fun a ha => by
  obtain ⟨⟨o', e'⟩, m'⟩ := h.fb a ha
  have q := ne_of_none e' hp
  exact ⟨⟨o', by rw [upd_ne q]; exact e'⟩, by rw [updD_ne q]; exact m'⟩⟩
theorem fz_write {p : Addr} {o : HO} {d d' : OD} (hm : M p = some d) : Fz M H (updD M p d') (upd H p o) := fun a u e m => by
  have q : a ≠ p := fun z => by rw [z, hm] at m; cases m
  exact ⟨by rw [upd_ne q]; exact e, by rw [updD_ne q]; exact m⟩
theorem RepH.write {p : Addr} {o : HO} {d d' : OD} (h : RepH K H M) (hm : M p = some d) (r : RepO K H M d' o) : RepH K (upd H p o) (updD M p d') := ⟨fun a u e => by
  by_cases q : a = p
  · subst q
    rw [updD_same] at e; cases e
    exact ⟨o, upd_same, r.mono (fz_write hm)⟩
  · rw [updD_ne q] at e
    obtain ⟨o', e', r'⟩ := h.at_ a u e
    exact ⟨o', by rw [upd_ne q]; exact e', r'.mono (fz_write hm)⟩, fun a ha => by
  obtain ⟨⟨o', e'⟩, m'⟩ := h.fb a ha
  have q : a ≠ p := fun z => by rw [z, hm] at m'; cases m'
  exact ⟨⟨o', by rw [upd_ne q]; exact e'⟩, by rw [updD_ne q]; exact m'⟩⟩
theorem fz_del {p : Addr} : Fz M H (delD M p) H := fun a u e m => ⟨e, by unfold delD; split <;> first | rfl | exact m⟩
theorem RepH.del {p : Addr} (h : RepH K H M) : RepH K H (delD M p) := ⟨fun a u e => by
  have q : a ≠ p := fun z => by rw [z, delD_same] at e; cases e
  rw [delD_ne q] at e
  obtain ⟨o', e', r'⟩ := h.at_ a u e
  exact ⟨o', e', r'.mono fz_del⟩, fun a ha => ⟨(h.fb a ha).1, by unfold delD; split <;> first | rfl | exact (h.fb a ha).2⟩⟩
theorem RepD.frz {p : Addr} {ds : List D} (h : RepH K H M) (e : M p = some (.lst ds)) : RepD K H (delD M p) (.lst ds) (.ref p) := by
  obtain ⟨o', e', xs, rfl, r⟩ := h.at_ p _ e
  unfold RepD
  exact ⟨p, xs, rfl, .inl ⟨.inl e', delD_same, h.nfM e⟩, r.mono fz_del⟩
end
noncomputable abbrev SD := List (Option D)
noncomputable abbrev KD := D → HpD → Prop
noncomputable abbrev TDE := SD → HpD → KD → Prop
noncomputable abbrev TDT := SD → HpD → (Bool → HpD → Prop) → Prop
noncomputable abbrev TDA := SD → HpD → (List D → HpD → Prop) → Prop
structure EndsD where
  nx : SD → HpD → Prop
  rt : KD
  bk : SD → HpD → Prop := fun _ _ => False
  ct : SD → HpD → Prop := fun _ _ => False
noncomputable abbrev TSD := EndsD → SD → HpD → Prop
structure Rel (K : KF) (σD : SD) (M : HpD) (σ : St) (H : Hp) : Prop where
  len : σD.length = σ.length
  st : ∀ (i : Nat) d, σD[i]? = some (some d) → ∃ v, σ[i]? = some (some v) ∧ RepD K H M d v
  hp : RepH K H M
section
variable {K : KF} {H H' : Hp} {M M' : HpD} {σ : St} {σD : SD}
theorem Rel.mono (r : Rel K σD M σ H) (f : Fz M H M' H') (h : RepH K H' M') : Rel K σD M' σ H' :=
  ⟨r.len, fun i d e => let ⟨v, e1, e2⟩ := r.st i d e; ⟨v, e1, e2.mono f⟩, h⟩
theorem Rel.set (r : Rel K σD M σ H) {d : D} {v : V} (i : Nat) (h : RepD K H M d v) : Rel K (σD.set i (some d)) M (σ.set i (some v)) H := by
  refine ⟨by simp [r.len], fun j e q => ?_, r.hp⟩
  by_cases hj : i = j
  · subst hj
    have hi : i < σD.length := by
      have := (List.getElem?_eq_some_iff.mp q).1
      simpa using this
    rw [List.getElem?_set_self hi] at q
    cases q
    exact ⟨v, by rw [List.getElem?_set_self (by rw [← r.len]; exact hi)], h⟩
  · rw [List.getElem?_set_ne hj] at q
    obtain ⟨u, e1, e2⟩ := r.st j e q
    exact ⟨u, by rw [List.getElem?_set_ne hj]; exact e1, e2⟩
theorem Rel.pad (r : Rel K σD M σ H) (n : Nat) : Rel K (List.replicate n none ++ σD) M (List.replicate n none ++ σ) H := by
  refine ⟨by simp [r.len], fun j d q => ?_, r.hp⟩
  by_cases hj : j < n
  · rw [List.getElem?_append_left (by simpa using hj), List.getElem?_replicate, if_pos hj] at q
    cases q
  · rw [List.getElem?_append_right (by simpa using hj), List.length_replicate] at q
    obtain ⟨u, e1, e2⟩ := r.st _ d q
    exact ⟨u, by rw [List.getElem?_append_right (by simpa using hj), List.length_replicate]; exact e1, e2⟩
end
noncomputable def PostE (K : KF) (M : HpD) (H : Hp) (QD : KD) (Q : VK) : Prop := ∀ d M' v H', Fz M H M' H' → RepH K H' M' → RepD K H' M' d v → QD d M' → Q v H'
noncomputable def PostT (K : KF) (M : HpD) (H : Hp) (QD : Bool → HpD → Prop) (Q : Bool → Hp → Prop) : Prop := ∀ b M' H', Fz M H M' H' → RepH K H' M' → QD b M' → Q b H'
noncomputable def PostA (K : KF) (M : HpD) (H : Hp) (QD : List D → HpD → Prop) (Q : List V → Hp → Prop) : Prop := ∀ ds M' vs H', Fz M H M' H' → RepH K H' M' → RepDs K H' M' ds vs → QD ds M' → Q vs H'
structure PostS (K : KF) (M : HpD) (H : Hp) (DD : EndsD) (D' : Ends) : Prop where
  nx : ∀ σD' M' σ' H', Fz M H M' H' → Rel K σD' M' σ' H' → DD.nx σD' M' → D'.nx σ' H'
  rt : PostE K M H DD.rt D'.rt
  bk : ∀ σD' M' σ' H', Fz M H M' H' → Rel K σD' M' σ' H' → DD.bk σD' M' → D'.bk σ' H'
  ct : ∀ σD' M' σ' H', Fz M H M' H' → Rel K σD' M' σ' H' → DD.ct σD' M' → D'.ct σ' H'
noncomputable def LiftE (K : PySem.W.Frag) (t : TDE) : TE := fun σ H Q => ∃ F σD M QD, Rel ⟨K, F⟩ σD M σ H ∧ t σD M QD ∧ PostE ⟨K, F⟩ M H QD Q
noncomputable def LiftT (K : PySem.W.Frag) (t : TDT) : TT := fun σ H Q => ∃ F σD M QD, Rel ⟨K, F⟩ σD M σ H ∧ t σD M QD ∧ PostT ⟨K, F⟩ M H QD Q
noncomputable def LiftA (K : PySem.W.Frag) (t : TDA) : TA := fun σ H Q => ∃ F σD M QD, Rel ⟨K, F⟩ σD M σ H ∧ t σD M QD ∧ PostA ⟨K, F⟩ M H QD Q
noncomputable def LiftS (K : PySem.W.Frag) (t : TSD) : TS := fun D' σ H => ∃ F σD M DD, Rel ⟨K, F⟩ σD M σ H ∧ t DD σD M ∧ PostS ⟨K, F⟩ M H DD D'
section
variable {K : KF} {H H' : Hp} {M M' : HpD}
theorem PostE.mono {QD : KD} {Q : VK} (p : PostE K M H QD Q) (f : Fz M H M' H') : PostE K M' H' QD Q := fun d M2 v H2 f2 r q h => p d M2 v H2 (f.trans f2) r q h
theorem PostS.mono {DD : EndsD} {D' : Ends} (p : PostS K M H DD D') (f : Fz M H M' H') : PostS K M' H' DD D' :=
  ⟨fun a b c d f2 r h => p.nx a b c d (f.trans f2) r h, p.rt.mono f, fun a b c d f2 r h => p.bk a b c d (f.trans f2) r h, fun a b c d f2 r h => p.ct a b c d (f.trans f2) r h⟩
end
theorem PE.wk {X : Cx} {e : Expr} {t t' : TE} (h : PE X e t) (i : ∀ σ H Q, t' σ H Q → t σ H Q) : PE X e t' := fun pins s σ H Q I q => h pins s σ H Q I (i σ H Q q)
theorem PT.wk {X : Cx} {e : Expr} {t t' : TT} (h : PT X e t) (i : ∀ σ H Q, t' σ H Q → t σ H Q) : PT X e t' := fun pins s σ H Q I q => h pins s σ H Q I (i σ H Q q)
theorem PW.wk {X : Cx} {e : Expr} {t t' : TT} (h : PW X e t) (i : ∀ σ H Q, t' σ H Q → t σ H Q) : PW X e t' := fun wh pins s σ H Q I q => h wh pins s σ H Q I (i σ H Q q)
theorem PIfs.wk {X : Cx} {e : List Expr} {t t' : TT} (h : PIfs X e t) (i : ∀ σ H Q, t' σ H Q → t σ H Q) : PIfs X e t' := fun pins s σ H Q I q => h pins s σ H Q I (i σ H Q q)
theorem PA.wk {X : Cx} {e : List Expr} {t t' : TA} (h : PA X e t) (i : ∀ σ H Q, t' σ H Q → t σ H Q) : PA X e t' := fun pos pins s σ H Q I q => h pos pins s σ H Q I (i σ H Q q)
theorem PS.wk {X : Cx} {e : Stmt} {t t' : TS} (h : PS X e t) (i : ∀ D' σ H, t' D' σ H → t D' σ H) : PS X e t' := fun pins s σ H D' I q => h pins s σ H D' I (i D' σ H q)
theorem PSs.wk {X : Cx} {e : List Stmt} {t t' : TS} (h : PSs X e t) (i : ∀ D' σ H, t' D' σ H → t D' σ H) : PSs X e t' := fun pins s σ H D' I q => h pins s σ H D' I (i D' σ H q)
noncomputable abbrev ED (X : Cx) (e : Expr) (t : TDE) : Prop := PE X e (LiftE X.K t)
noncomputable abbrev TD (X : Cx) (e : Expr) (t : TDT) : Prop := PT X e (LiftT X.K t)
noncomputable abbrev WD (X : Cx) (e : Expr) (t : TDT) : Prop := PW X e (LiftT X.K t)
noncomputable abbrev FD (X : Cx) (e : List Expr) (t : TDT) : Prop := PIfs X e (LiftT X.K t)
noncomputable abbrev AD (X : Cx) (e : List Expr) (t : TDA) : Prop := PA X e (LiftA X.K t)
noncomputable abbrev StD (X : Cx) (st : Stmt) (t : TSD) : Prop := PS X st (LiftS X.K t)
noncomputable abbrev SsD (X : Cx) (st : List Stmt) (t : TSD) : Prop := PSs X st (LiftS X.K t)
end L2
namespace L2
open PySem PySem.Spec PyProof.Rows
section
variable {K : PySem.W.Frag} {F : Addr → Prop} {σ : St} {H : Hp} {σD : SD} {M : HpD}
theorem lE {ta : TDE} {QD : KD} {R : VK} (rel : Rel ⟨K, F⟩ σD M σ H) (h : ta σD M QD) (k : ∀ d M1 v H1, Fz M H M1 H1 → Rel ⟨K, F⟩ σD M1 σ H1 → RepD ⟨K, F⟩ H1 M1 d v → QD d M1 → R v H1) : LiftE K ta σ H R :=
  ⟨F, σD, M, QD, rel, h, fun d M1 v H1 f rh rd q => k d M1 v H1 f (rel.mono f rh) rd q⟩
theorem lT {ta : TDT} {QD : Bool → HpD → Prop} {R : Bool → Hp → Prop} (rel : Rel ⟨K, F⟩ σD M σ H) (h : ta σD M QD) (k : ∀ b M1 H1, Fz M H M1 H1 → Rel ⟨K, F⟩ σD M1 σ H1 → QD b M1 → R b H1) : LiftT K ta σ H R :=
  ⟨F, σD, M, QD, rel, h, fun b M1 H1 f rh q => k b M1 H1 f (rel.mono f rh) q⟩
theorem lA {ta : TDA} {QD : List D → HpD → Prop} {R : List V → Hp → Prop} (rel : Rel ⟨K, F⟩ σD M σ H) (h : ta σD M QD) (k : ∀ d M1 v H1, Fz M H M1 H1 → Rel ⟨K, F⟩ σD M1 σ H1 → RepDs ⟨K, F⟩ H1 M1 d v → QD d M1 → R v H1) : LiftA K ta σ H R :=
  ⟨F, σD, M, QD, rel, h, fun d M1 v H1 f rh rd q => k d M1 v H1 f (rel.mono f rh) rd q⟩
end
@[irreducible] noncomputable def tVarD (i : Nat) : TDE := fun σ M Q => ∃ d, σ[i]? = some (some d) ∧ Q d M
@[irreducible] noncomputable def tCD (d : D) : TDE := fun _ M Q => Q d M
theorem rd_var {i : Nat} {σ : SD} {M : HpD} {Q : KD} {d : D} (h : σ[i]? = some (some d)) (q : Q d M) : tVarD i σ M Q := by unfold tVarD; exact ⟨d, h, q⟩
theorem rd_c {σ : SD} {M : HpD} {Q : KD} {d : D} (q : Q d M) : tCD d σ M Q := by unfold tCD; exact q
section
variable {X : Cx} {pos : Pos}
theorem ed_var (i : Nat) {x : Str} (hN : X.N[i]? = some x) (hv : Vis X.env.scope x) (hd : (x == ("__debug__" : Str)) = false := by decide) (hcd : (x == ("__classdict__" : Str)) = false := by decide) : ED X (.Name x pos) (tVarD i) := by
  refine (pe_var hN hv hd hcd).wk fun σ H Q w1_ => w1_.elim fun F z_ => z_.elim fun σD z_ => z_.elim fun M z_ => z_.elim fun QD z_ => z_.elim fun rel z_ => z_.elim fun h p => ?_
  unfold tVarD at h
  obtain ⟨d, e, q⟩ := h
  obtain ⟨v, e1, e2⟩ := rel.st i d e
  exact ⟨v, e1, p d M v H .refl rel.hp e2 q⟩
theorem ed_c {e : Expr} {v : V} {d : D} (h : PE X e (tC v)) (r : ∀ F H M, RepD ⟨X.K, F⟩ H M d v) : ED X e (tCD d) := by
  refine h.wk fun σ H Q w1_ => w1_.elim fun F z_ => z_.elim fun σD z_ => z_.elim fun M z_ => z_.elim fun QD z_ => z_.elim fun rel z_ => z_.elim fun h p => ?_
  unfold tCD at h
  exact p d M v H .refl rel.hp (r F H M) h
theorem ed_int {i j} : ED X (.Constant (.int i) j pos) (tCD (.int i)) := ed_c pe_int fun _ _ _ => by unfold RepD; rfl
theorem ed_bl {b j} : ED X (.Constant (.bool b) j pos) (tCD (.bl b)) := ed_c pe_bl fun _ _ _ => by unfold RepD; rfl
theorem ed_str {x j} : ED X (.Constant (.str x) j pos) (tCD (.str x)) := ed_c pe_str fun _ _ _ => by unfold RepD; rfl
theorem ed_bltT {x : Str} {n : String} (hg : Gl X x) (hm : X.mg x = none) (hv : bootBuiltins x = some (.type n)) (hn : x ≠ "__name__" := by decide) (hd : (x == ("__debug__" : Str)) = false := by decide) : ED X (.Name x pos) (tCD (.ty n)) :=
  ed_c (pe_bltn (v := .ty n) hg hm hv rfl hn hd) fun _ _ _ => by unfold RepD; rfl
end
noncomputable abbrev RD2 := D → D → HpD → KD → Prop
noncomputable def LiftR (K : PySem.W.Frag) (r : RD2) : R2 := fun x y H Q => ∃ F d e M QD, RepD ⟨K, F⟩ H M d x ∧ RepD ⟨K, F⟩ H M e y ∧ RepH ⟨K, F⟩ H M ∧ r d e M QD ∧ PostE ⟨K, F⟩ M H QD Q
@[irreducible] noncomputable def tOpD (r : RD2) (ta tb : TDE) : TDE := fun σ M Q => ta σ M fun x M1 => tb σ M1 fun y M2 => r x y M2 Q
theorem rd_op {r : RD2} {ta tb : TDE} {σ : SD} {M : HpD} {Q : KD} (h : ta σ M fun x M1 => tb σ M1 fun y M2 => r x y M2 Q) : tOpD r ta tb σ M Q := by unfold tOpD; exact h
theorem lift_op {K : PySem.W.Frag} {r : RD2} {ta tb : TDE} {σ : St} {H : Hp} {Q : VK} (h : LiftE K (tOpD r ta tb) σ H Q) : tOp (LiftR K r) (LiftE K ta) (LiftE K tb) σ H Q := by
  obtain ⟨F, σD, M, QD, rel, h, p⟩ := h
  unfold tOpD at h
  refine lE rel h fun d M1 v H1 f1 rel1 r1 h1 => ?_
  refine lE rel1 h1 fun e M2 u H2 f2 rel2 r2 h2 => ?_
  exact ⟨F, d, e, M2, QD, r1.mono f2, r2, rel2.hp, h2, p.mono (f1.trans f2)⟩
theorem OpR.wk {X : Cx} {f : Value → Value → Sem Value} {r r' : R2} (h : OpR X f r) (i : ∀ x y H Q, r' x y H Q → r x y H Q) : OpR X f r' := fun pins s σ H x y v u Q I rx ry q => h pins s σ H x y v u Q I rx ry (i _ _ _ _ q)
@[irreducible] noncomputable def rID (C : Int → Int → Prop) (g : Int → Int → D) : RD2 := fun x y M Q => ∃ i j, x = .int i ∧ y = .int j ∧ C i j ∧ Q (g i j) M
theorem rd_rI {C : Int → Int → Prop} {g : Int → Int → D} {i j : Int} {M : HpD} {Q : KD} (c : C i j) (q : Q (g i j) M) : rID C g (.int i) (.int j) M Q := by unfold rID; exact ⟨i, j, rfl, rfl, c, q⟩
@[irreducible] noncomputable def rIN (g : Int → Int → D) : RD2 := fun x y M Q => ∃ i j, x = .int i ∧ y = .int j ∧ Q (g i j) M
theorem rd_rN {g : Int → Int → D} {i j : Int} {M : HpD} {Q : KD} (q : Q (g i j) M) : rIN g (.int i) (.int j) M Q := by unfold rIN; exact ⟨i, j, rfl, rfl, q⟩
section
variable {X : Cx} {a b : Expr} {ta tb : TDE} {pos : Pos}
theorem ed_op {op : Operator} {r : RD2} (ho : OpR X (binaryOp op) (LiftR X.K r)) (ha : ED X a ta) (hb : ED X b tb) : ED X (.BinOp a op b pos) (tOpD r ta tb) := (pe_op ho ha hb).wk fun _ _ _ h => lift_op h
theorem lift_rI {f : Value → Value → Sem Value} {C : Int → Int → Prop} {g : Int → Int → V} {gD : Int → Int → D} (h : OpR X f (rI C g)) (hg : ∀ i j F H M, RepD ⟨X.K, F⟩ H M (gD i j) (g i j)) : OpR X f (LiftR X.K (rID C gD)) := by
  refine h.wk fun x y H Q w1_ => w1_.elim fun F z_ => z_.elim fun d z_ => z_.elim fun e z_ => z_.elim fun M z_ => z_.elim fun QD z_ => z_.elim fun r1 z_ => z_.elim fun r2 z_ => z_.elim fun rh z_ => z_.elim fun hq p => ?_
  unfold rID at hq
  obtain ⟨i, j, rfl, rfl, c, q⟩ := hq
  unfold RepD at r1 r2
  exact ⟨i, j, r1, r2, c, p _ M _ H .refl rh (hg i j F H M) q⟩
theorem lift_rN {f : Value → Value → Sem Value} {g : Int → Int → V} {gD : Int → Int → D} (h : OpR X f (rI0 g)) (hg : ∀ i j F H M, RepD ⟨X.K, F⟩ H M (gD i j) (g i j)) : OpR X f (LiftR X.K (rIN gD)) := by
  refine h.wk fun x y H Q w1_ => w1_.elim fun F z_ => z_.elim fun d z_ => z_.elim fun e z_ => z_.elim fun M z_ => z_.elim fun QD z_ => z_.elim fun r1 z_ => z_.elim fun r2 z_ => z_.elim fun rh z_ => z_.elim fun hq p => ?_
  unfold rIN at hq
  obtain ⟨i, j, rfl, rfl, q⟩ := hq
  unfold RepD at r1 r2
  exact ⟨i, j, r1, r2, p _ M _ H .refl rh (hg i j F H M) q⟩
theorem od_add : OpR X (binaryOp .Add) (LiftR X.K (rIN fun i j => .int (i + j))) := lift_rN op_add fun _ _ _ _ _ => by unfold RepD; rfl
theorem od_mul : OpR X (binaryOp .Mult) (LiftR X.K (rID CMul fun i j => .int (i * j))) := lift_rI op_mul fun _ _ _ _ _ => by unfold RepD; rfl
theorem od_fdiv : OpR X (binaryOp .FloorDiv) (LiftR X.K (rID CDiv fun i j => .int (i / j))) := lift_rI op_fdiv fun _ _ _ _ _ => by unfold RepD; rfl
theorem od_mod : OpR X (binaryOp .Mod) (LiftR X.K (rID (fun _ j => 0 < j) fun i j => .int (i % j))) := lift_rI op_mod fun _ _ _ _ _ => by unfold RepD; rfl
theorem od_pow : OpR X (binaryOp .Pow) (LiftR X.K (rID CPow fun i j => .int (i ^ j.toNat))) := lift_rI op_pow fun _ _ _ _ _ => by unfold RepD; rfl
theorem od_lt : OpR X (compareOp .Lt) (LiftR X.K (rIN fun i j => .bl (decide (i < j)))) := lift_rN op_lt fun _ _ _ _ _ => by unfold RepD; rfl
theorem od_le : OpR X (compareOp .LtE) (LiftR X.K (rIN fun i j => .bl (decide (i ≤ j)))) := lift_rN op_le fun _ _ _ _ _ => by unfold RepD; rfl
theorem od_gt : OpR X (compareOp .Gt) (LiftR X.K (rIN fun i j => .bl (decide (j < i)))) := lift_rN op_gt fun _ _ _ _ _ => by unfold RepD; rfl
theorem od_ge : OpR X (compareOp .GtE) (LiftR X.K (rIN fun i j => .bl (decide (j ≤ i)))) := lift_rN op_ge fun _ _ _ _ _ => by unfold RepD; rfl
@[irreducible] noncomputable def rEqD (neg : Bool) : RD2 := fun x y M Q => (∃ i j, x = .int i ∧ y = .int j ∧ Q (.bl (neg ^^ decide (i = j))) M) ∨ (∃ i j, x = .bl i ∧ y = .bl j ∧ Q (.bl (neg ^^ decide (i = j))) M) ∨ (∃ i j, x = .str i ∧ y = .str j ∧ Q (.bl (neg ^^ decide (i = j))) M)
theorem rd_eqS {neg : Bool} {i j : Str} {M : HpD} {Q : KD} (q : Q (.bl (neg ^^ decide (i = j))) M) : rEqD neg (.str i) (.str j) M Q := by unfold rEqD; exact .inr (.inr ⟨i, j, rfl, rfl, q⟩)
theorem decV_int {i j : Int} : decide (V.int i = V.int j) = decide (i = j) := by
  by_cases h : i = j
  · subst h; simp
  · have : V.int i ≠ V.int j := fun e => h (by injection e)
    simp [h, this]
theorem decV_bl {i j : Bool} : decide (V.bl i = V.bl j) = decide (i = j) := by cases i <;> cases j <;> rfl
theorem decV_str {i j : Str} : decide (V.str i = V.str j) = decide (i = j) := by
  by_cases h : i = j
  · subst h; simp
  · have : V.str i ≠ V.str j := fun e => h (by injection e)
    simp [h, this]
theorem ed_cmp {op : CmpOp} {r : RD2} (ho : OpR X (compareOp op) (LiftR X.K r)) (ha : ED X a ta) (hb : ED X b tb) (hm : behindInMarks op b = false := by first | exact nomark _ | rfl) : ED X (.Compare a [op] [b] pos) (tOpD r ta tb) :=
  (pe_cmpR ho ha hb hm).wk fun _ _ _ h => lift_op h
@[irreducible] noncomputable def tTestD (t : TDE) : TDT := fun σ M Q => t σ M fun x M' => ∃ k, x = .bl k ∧ Q k M'
theorem rd_test {t : TDE} {σ : SD} {M : HpD} {Q : Bool → HpD → Prop} (h : t σ M fun x M' => ∃ k, x = .bl k ∧ Q k M') : tTestD t σ M Q := by unfold tTestD; exact h
theorem td_cmp {op : CmpOp} {r : RD2} (ho : OpR X (compareOp op) (LiftR X.K r)) (ha : ED X a ta) (hb : ED X b tb) (hm : behindInMarks op b = false := by first | exact nomark _ | rfl) : TD X (.Compare a [op] [b] pos) (tTestD (tOpD r ta tb)) := by
  refine (pt_cmpR ho ha hb hm).wk fun σ H Q h => ?_
  obtain ⟨F, σD, M, QD, rel, h, p⟩ := h
  unfold tTestD tOpD at h
  show (tOp (LiftR X.K r) (LiftE X.K ta) (LiftE X.K tb)) σ H fun x H' => ∃ k, x = .bl k ∧ Q k H'
  refine lE rel h fun d M1 v H1 f1 rel1 r1 h1 => ?_
  refine lE rel1 h1 fun e M2 u H2 f2 rel2 r2 h2 => ?_
  exact ⟨F, d, e, M2, _, r1.mono f2, r2, rel2.hp, h2, fun x M3 v3 H3 f3 rh3 r3 w1_ => w1_.elim fun k z_ => z_.elim fun e3 q3 => ⟨k, by subst e3; unfold RepD at r3; exact r3, p k M3 H3 ((f1.trans f2).trans f3) rh3 q3⟩⟩
@[irreducible] noncomputable def truD : D → HpD → Bool → Prop := fun d M k => match d with
  | .non => k = false
  | .bl b => k = b
  | .int i => k = (i != 0)
  | .str y => y.length ≤ sizeLine ∧ k = ((y.length : Int) != 0)
  | .lst ds => k = !ds.isEmpty
  | .tup ds => k = !ds.isEmpty
  | .ref p => ∃ ds, M p = some (.lst ds) ∧ k = !ds.isEmpty
  | _ => False
@[irreducible] noncomputable def tTruD (t : TDE) : TDT := fun σ M Q => t σ M fun x M' => ∃ k, truD x M' k ∧ Q k M'
theorem rd_tru {t : TDE} {σ : SD} {M : HpD} {Q : Bool → HpD → Prop} (h : t σ M fun x M' => ∃ k, truD x M' k ∧ Q k M') : tTruD t σ M Q := by unfold tTruD; exact h
theorem isE_of {K : KF} {H : Hp} {M : HpD} {ds : List D} {xs : List V} (r : RepDs K H M ds xs) : (!ds.isEmpty) = !xs.isEmpty := by
  have := r.length
  cases ds <;> cases xs <;> simp_all
theorem td_tru {e : Expr} {t : TDE} (h : ED X e t) (he : ∀ whole, isTrue e X.env whole = (do let v ← whole; standAt e.pos; holding [v] (truthy v)) := by intro _; rfl) : TD X e (tTruD t) := by
  refine (pt_truth h he).wk fun σ H Q h => ?_
  obtain ⟨F, σD, M, QD, rel, h, p⟩ := h
  unfold tTruD at h
  refine lE rel h fun d M1 v H1 f1 rel1 r1 h1 => ?_
  obtain ⟨k, tr, q⟩ := h1
  refine ⟨k, ?_, p k M1 H1 f1 rel1.hp q⟩
  unfold truD at tr
  cases d with
  | non => unfold RepD at r1; subst r1; exact tr
  | bl b => unfold RepD at r1; subst r1; exact tr
  | int b => unfold RepD at r1; subst r1; exact tr
  | str b => unfold RepD at r1; subst r1; exact tr
  | ref a =>
    unfold RepD at r1; subst r1
    obtain ⟨ds, e1, e2⟩ := tr
    obtain ⟨o', e', xs, rfl, r⟩ := rel1.hp.at_ a _ e1
    exact .inl ⟨xs, .inl (.inl e'), by rw [e2]; exact isE_of r⟩
  | ty n => exact False.elim tr
  | tup ds =>
    unfold RepD at r1
    obtain ⟨a, xs, rfl, h1, h2⟩ := r1
    exact .inr (.inl ⟨xs, h1.sq, by rw [show k = _ from tr]; exact isE_of h2⟩)
  | lst ds =>
    unfold RepD at r1
    obtain ⟨a, xs, rfl, h1, h2⟩ := r1
    exact .inl ⟨xs, h1.sq, by rw [show k = _ from tr]; exact isE_of h2⟩
@[irreducible] noncomputable def tAndD (t u : TDT) : TDT := fun σ M Q => t σ M fun c M1 => if c = true then u σ M1 Q else Q false M1
@[irreducible] noncomputable def tOrD (t u : TDT) : TDT := fun σ M Q => t σ M fun c M1 => if c = true then Q true M1 else u σ M1 Q
@[irreducible] noncomputable def tNotD (t : TDT) : TDT := fun σ M Q => t σ M fun c M1 => Q (!c) M1
theorem rd_and {t u : TDT} {σ : SD} {M : HpD} {Q : Bool → HpD → Prop} (h : t σ M fun c M1 => if c = true then u σ M1 Q else Q false M1) : tAndD t u σ M Q := by unfold tAndD; exact h
theorem rd_or {t u : TDT} {σ : SD} {M : HpD} {Q : Bool → HpD → Prop} (h : t σ M fun c M1 => if c = true then Q true M1 else u σ M1 Q) : tOrD t u σ M Q := by unfold tOrD; exact h
theorem rd_not {t : TDT} {σ : SD} {M : HpD} {Q : Bool → HpD → Prop} (h : t σ M fun c M1 => Q (!c) M1) : tNotD t σ M Q := by unfold tNotD; exact h
variable {rest : List Expr} {tA tB' : TDT}
theorem wd_and1 (ha : TD X a tA) : WD X (.BoolOp .And [a] pos) tA := pw_and1 ha
theorem wd_or1 (ha : TD X a tA) : WD X (.BoolOp .Or [a] pos) tA := pw_or1 ha
theorem wd_and (ha : TD X a tA) (hb : WD X (.BoolOp .And (b :: rest) pos) tB') : WD X (.BoolOp .And (a :: b :: rest) pos) (tAndD tA tB') := by
  refine (pw_and ha hb).wk fun σ H Q h => ?_
  obtain ⟨F, σD, M, QD, rel, h, p⟩ := h
  unfold tAndD at h
  refine lT rel h fun c M1 H1 f1 rel1 h1 => ?_
  cases c with
  | true => simp only [if_true] at h1 ⊢; exact lT rel1 h1 fun k M2 H2 f2 rel2 h2 => p k M2 H2 (f1.trans f2) rel2.hp h2
  | false => simp only [Bool.false_eq_true, if_false] at h1 ⊢; exact p _ M1 H1 f1 rel1.hp h1
theorem wd_or (ha : TD X a tA) (hb : WD X (.BoolOp .Or (b :: rest) pos) tB') : WD X (.BoolOp .Or (a :: b :: rest) pos) (tOrD tA tB') := by
  refine (pw_or ha hb).wk fun σ H Q h => ?_
  obtain ⟨F, σD, M, QD, rel, h, p⟩ := h
  unfold tOrD at h
  refine lT rel h fun c M1 H1 f1 rel1 h1 => ?_
  cases c with
  | true => simp only [if_true] at h1 ⊢; exact p _ M1 H1 f1 rel1.hp h1
  | false => simp only [Bool.false_eq_true, if_false] at h1 ⊢; exact lT rel1 h1 fun k M2 H2 f2 rel2 h2 => p k M2 H2 (f1.trans f2) rel2.hp h2
theorem td_w (h : WD X a tA) : TD X a tA := h.pt
theorem td_not (ha : TD X a tA) : TD X (.UnaryOp .Not a pos) (tNotD tA) := by
  refine (pt_not ha).wk fun σ H Q h => ?_
  obtain ⟨F, σD, M, QD, rel, h, p⟩ := h
  unfold tNotD at h
  exact lT rel h fun c M1 H1 f1 rel1 h1 => p _ M1 H1 f1 rel1.hp h1
@[irreducible] noncomputable def tAndVD (ta tb : TDE) : TDE := fun σ M Q => ta σ M fun x M1 => ∃ c, x = .bl c ∧ if c = true then tb σ M1 Q else Q (.bl false) M1
@[irreducible] noncomputable def tOrVD (ta tb : TDE) : TDE := fun σ M Q => ta σ M fun x M1 => ∃ c, x = .bl c ∧ if c = true then Q (.bl true) M1 else tb σ M1 Q
@[irreducible] noncomputable def tNotVD (ta : TDE) : TDE := fun σ M Q => ta σ M fun x M1 => ∃ c, x = .bl c ∧ Q (.bl (!c)) M1
theorem rd_andV {ta tb : TDE} {σ : SD} {M : HpD} {Q : KD} (h : ta σ M fun x M1 => ∃ c, x = .bl c ∧ if c = true then tb σ M1 Q else Q (.bl false) M1) : tAndVD ta tb σ M Q := by unfold tAndVD; exact h
theorem rd_orV {ta tb : TDE} {σ : SD} {M : HpD} {Q : KD} (h : ta σ M fun x M1 => ∃ c, x = .bl c ∧ if c = true then Q (.bl true) M1 else tb σ M1 Q) : tOrVD ta tb σ M Q := by unfold tOrVD; exact h
theorem rd_notV {ta : TDE} {σ : SD} {M : HpD} {Q : KD} (h : ta σ M fun x M1 => ∃ c, x = .bl c ∧ Q (.bl (!c)) M1) : tNotVD ta σ M Q := by unfold tNotVD; exact h
theorem ed_one {op} {t : TDE} (h : ED X a t) : ED X (.BoolOp op [a] pos) t := pe_one h
theorem ed_and (ha : ED X a ta) (hb : ED X (.BoolOp .And (b :: rest) pos) tb) : ED X (.BoolOp .And (a :: b :: rest) pos) (tAndVD ta tb) := by
  refine (pe_and ha hb).wk fun σ H Q h => ?_
  obtain ⟨F, σD, M, QD, rel, h, p⟩ := h
  unfold tAndVD at h
  refine lE rel h fun d M1 v H1 f1 rel1 r1 h1 => ?_
  obtain ⟨c, rfl, h1⟩ := h1
  unfold RepD at r1
  refine ⟨c, r1, ?_⟩
  cases c with
  | true => simp only [if_true] at h1 ⊢; exact lE rel1 h1 fun k M2 v2 H2 f2 rel2 r2 h2 => p k M2 v2 H2 (f1.trans f2) rel2.hp r2 h2
  | false => simp only [Bool.false_eq_true, if_false] at h1 ⊢; exact p _ M1 _ H1 f1 rel1.hp (by unfold RepD; rfl) h1
theorem ed_or (ha : ED X a ta) (hb : ED X (.BoolOp .Or (b :: rest) pos) tb) : ED X (.BoolOp .Or (a :: b :: rest) pos) (tOrVD ta tb) := by
  refine (pe_or ha hb).wk fun σ H Q h => ?_
  obtain ⟨F, σD, M, QD, rel, h, p⟩ := h
  unfold tOrVD at h
  refine lE rel h fun d M1 v H1 f1 rel1 r1 h1 => ?_
  obtain ⟨c, rfl, h1⟩ := h1
  unfold RepD at r1
  refine ⟨c, r1, ?_⟩
  cases c with
  | true => simp only [if_true] at h1 ⊢; exact p _ M1 _ H1 f1 rel1.hp (by unfold RepD; rfl) h1
  | false => simp only [Bool.false_eq_true, if_false] at h1 ⊢; exact lE rel1 h1 fun k M2 v2 H2 f2 rel2 r2 h2 => p k M2 v2 H2 (f1.trans f2) rel2.hp r2 h2
theorem ed_not (ha : ED X a ta) : ED X (.UnaryOp .Not a pos) (tNotVD ta) := by
  refine (pe_not ha).wk fun σ H Q h => ?_
  obtain ⟨F, σD, M, QD, rel, h, p⟩ := h
  unfold tNotVD at h
  refine lE rel h fun d M1 v H1 f1 rel1 r1 h1 => ?_
  obtain ⟨c, rfl, h1⟩ := h1
  unfold RepD at r1
  exact ⟨c, r1, p _ M1 _ H1 f1 rel1.hp (by unfold RepD; rfl) h1⟩
end
end L2
namespace L2
open PySem PySem.Spec PyProof.Rows
@[irreducible] noncomputable def tNilD : TDA := fun _ M Q => Q [] M
@[irreducible] noncomputable def tConsD (ta : TDE) (tr : TDA) : TDA := fun σ M Q => ta σ M fun x M1 => tr σ M1 fun xs M2 => Q (x :: xs) M2
theorem rd_nil {σ : SD} {M : HpD} {Q : List D → HpD → Prop} (h : Q [] M) : tNilD σ M Q := by unfold tNilD; exact h
theorem rd_cons {ta : TDE} {tr : TDA} {σ : SD} {M : HpD} {Q : List D → HpD → Prop} (h : ta σ M fun x M1 => tr σ M1 fun xs M2 => Q (x :: xs) M2) : tConsD ta tr σ M Q := by unfold tConsD; exact h
@[irreducible] noncomputable def newL (ds : List D) (M : HpD) (Q : KD) : Prop := ds.length ≤ sizeLine ∧ (Q (.lst ds) M ∨ ∀ p, M p = none → Q (.ref p) (updD M p (.lst ds)))
theorem newF {ds : List D} {M : HpD} {Q : KD} (h : ds.length ≤ sizeLine) (q : Q (.lst ds) M) : newL ds M Q := by unfold newL; exact ⟨h, .inl q⟩
theorem newM {ds : List D} {M : HpD} {Q : KD} (h : ds.length ≤ sizeLine) (q : ∀ p, M p = none → Q (.ref p) (updD M p (.lst ds))) : newL ds M Q := by unfold newL; exact ⟨h, .inr q⟩
section
variable {K : KF} {H : Hp} {M : HpD}
theorem newL.post {ds : List D} {QD : KD} {Q : VK} {xs : List V} (h : newL ds M QD) (p : PostE K M H QD Q) (rh : RepH K H M) (r : RepDs K H M ds xs) : xs.length ≤ sizeLine ∧ ∀ l, H l = none → Q (.ref l) (upd H l (.lst xs)) := by
  unfold newL at h
  obtain ⟨hl, h⟩ := h
  refine ⟨by rw [← r.length]; exact hl, fun l e => ?_⟩
  rcases h with h | h
  · exact p _ M _ _ (fz_new e) (rh.new e) (by unfold RepD; exact ⟨l, xs, rfl, .inl ⟨.inl upd_same, rh.free e, rh.nf e⟩, r.mono (fz_new e)⟩) h
  · exact p _ (updD M l (.lst ds)) _ _ (fz_newM e (rh.free e)) (rh.newM e ⟨xs, rfl, r⟩) (by unfold RepD; rfl) (h l (rh.free e))
end
@[irreducible] noncomputable def tTupD (t : TDA) : TDE := fun σ M Q => t σ M fun ds M1 => ds.length ≤ sizeLine ∧ Q (.tup ds) M1
@[irreducible] noncomputable def tLstD (t : TDA) : TDE := fun σ M Q => t σ M fun ds M1 => newL ds M1 Q
theorem rd_tup {t : TDA} {σ : SD} {M : HpD} {Q : KD} (h : t σ M fun ds M1 => ds.length ≤ sizeLine ∧ Q (.tup ds) M1) : tTupD t σ M Q := by unfold tTupD; exact h
theorem rd_lst {t : TDA} {σ : SD} {M : HpD} {Q : KD} (h : t σ M fun ds M1 => newL ds M1 Q) : tLstD t σ M Q := by unfold tLstD; exact h
section
variable {X : Cx} {e : Expr} {es : List Expr} {te : TDE} {t : TDA} {pos : Pos}
theorem ad_nil : AD X [] tNilD := by
  refine pa_nil.wk fun σ H Q w1_ => w1_.elim fun F z_ => z_.elim fun σD z_ => z_.elim fun M z_ => z_.elim fun QD z_ => z_.elim fun rel z_ => z_.elim fun h p => ?_
  unfold tNilD at h
  exact p _ M _ H .refl rel.hp .nil h
theorem ad_cons (ha : ED X e te) (hr : AD X es t) (hs : starEach (e :: es) X.env = (false, eval e X.env) :: starEach es X.env := by rfl) : AD X (e :: es) (tConsD te t) := by
  refine (pa_cons ha hr hs).wk fun σ H Q w1_ => w1_.elim fun F z_ => z_.elim fun σD z_ => z_.elim fun M z_ => z_.elim fun QD z_ => z_.elim fun rel z_ => z_.elim fun h p => ?_
  unfold tConsD at h
  refine lE rel h fun d M1 v H1 f1 rel1 r1 h1 => ?_
  exact lA rel1 h1 fun ds M2 vs H2 f2 rel2 r2 h2 => p _ M2 _ H2 (f1.trans f2) rel2.hp (.cons (r1.mono f2) r2) h2
theorem ed_tup {x1} (h : AD X es t) : ED X (.Tuple es x1 pos) (tTupD t) := by
  refine (pe_tup h).wk fun σ H Q w1_ => w1_.elim fun F z_ => z_.elim fun σD z_ => z_.elim fun M z_ => z_.elim fun QD z_ => z_.elim fun rel z_ => z_.elim fun h p => ?_
  unfold tTupD at h
  refine lA rel h fun ds M1 vs H1 f1 rel1 r1 h1 => ?_
  refine ⟨by rw [← r1.length]; exact h1.1, fun l e => ?_⟩
  exact p _ M1 _ _ (f1.trans (fz_new e)) (rel1.hp.new e) (by unfold RepD; exact ⟨l, vs, rfl, .inl ⟨.inl upd_same, rel1.hp.free e, rel1.hp.nf e⟩, r1.mono (fz_new e)⟩) h1.2
theorem ed_lst (h : AD X es t) : ED X (.List es pos) (tLstD t) := by
  refine (pe_lst h).wk fun σ H Q w1_ => w1_.elim fun F z_ => z_.elim fun σD z_ => z_.elim fun M z_ => z_.elim fun QD z_ => z_.elim fun rel z_ => z_.elim fun h p => ?_
  unfold tLstD at h
  exact lA rel h fun ds M1 vs H1 f1 rel1 r1 h1 => h1.post (p.mono f1) rel1.hp r1
end
noncomputable def itemsD : D → HpD → Option (List D)
  | .lst ds, _ => some ds
  | .tup ds, _ => some ds
  | .ref p, M => match M p with | some (.lst ds) => some ds | _ => none
  | _, _ => none
theorem items_ref {p : Addr} {M : HpD} {ds : List D} (h : M p = some (.lst ds)) : itemsD (.ref p) M = some ds := by simp only [itemsD, h]
theorem items_rep {K : KF} {H : Hp} {M : HpD} {d : D} {v : V} {ds : List D} (rh : RepH K H M) (r : RepD K H M d v) (e : itemsD d M = some ds) : ∃ p xs, v = .ref p ∧ (SqL K.K H p xs ∨ SqT K.K H p xs) ∧ RepDs K H M ds xs := by
  cases d with
  | lst ds' =>
    cases e
    unfold RepD at r
    obtain ⟨a, xs, rfl, h1, h2⟩ := r
    exact ⟨a, xs, rfl, .inl h1.sq, h2⟩
  | tup ds' =>
    cases e
    unfold RepD at r
    obtain ⟨a, xs, rfl, h1, h2⟩ := r
    exact ⟨a, xs, rfl, .inr h1.sq, h2⟩
  | ref p =>
    cases q : M p with
    | none => simp only [itemsD, q] at e; cases e
    | some o =>
      cases o with
      | lst es =>
        simp only [itemsD, q] at e; cases e
        obtain ⟨o', e', xs, rfl, h2⟩ := rh.at_ p _ q
        unfold RepD at r
        exact ⟨p, xs, r, .inl (.inl (.inl e')), h2⟩
      | dct kvs => simp only [itemsD, q] at e; cases e
      | tab _ => simp only [itemsD, q] at e; cases e
  | _ => cases e
theorem atI_rep {K : KF} {H : Hp} {M : HpD} {ds : List D} {xs : List V} {i : Int} {d : D} (r : RepDs K H M ds xs) (e : atI ds i = some d) : ∃ v, atI xs i = some v ∧ RepD K H M d v := by
  unfold atI at e ⊢
  rw [← r.length]
  cases q : ixN ds.length i with
  | none => rw [q] at e; cases e
  | some j =>
    rw [q] at e
    exact r.get e
@[irreducible] noncomputable def rIxD : RD2 := fun x y M Q => ∃ ds i d, y = .int i ∧ itemsD x M = some ds ∧ atI ds i = some d ∧ Q d M
theorem rd_ix {x : D} {i : Int} {M : HpD} {Q : KD} {ds : List D} {d : D} (h : itemsD x M = some ds) (e : atI ds i = some d) (q : Q d M) : rIxD x (.int i) M Q := by unfold rIxD; exact ⟨ds, i, d, rfl, h, e, q⟩
theorem IxR.wk {X : Cx} {r r' : R2} (h : IxR X r) (i : ∀ x y H Q, r' x y H Q → r x y H Q) : IxR X r' := fun va sl pins s σ H x y v u Q I rx ry q => h va sl pins s σ H x y v u Q I rx ry (i _ _ _ _ q)
section
variable {X : Cx} {a b : Expr} {ta tb : TDE} {pos : Pos}
theorem xd_ix : IxR X (LiftR X.K rIxD) := by
  refine (ix_list.or ix_tup).wk fun x y H Q w1_ => w1_.elim fun F z_ => z_.elim fun d z_ => z_.elim fun e z_ => z_.elim fun M z_ => z_.elim fun QD z_ => z_.elim fun r1 z_ => z_.elim fun r2 z_ => z_.elim fun rh z_ => z_.elim fun hq p => ?_
  unfold rIxD at hq
  obtain ⟨ds, i, z, rfl, e1, e2, q⟩ := hq
  unfold RepD at r2
  obtain ⟨a, xs, rfl, hs, r⟩ := items_rep rh r1 e1
  obtain ⟨v, e3, r3⟩ := atI_rep r e2
  rcases hs with hs | hs
  · exact .inl ⟨a, xs, i, v, rfl, r2, hs, e3, p _ M _ H .refl rh r3 q⟩
  · exact .inr ⟨a, xs, i, v, rfl, r2, hs, e3, p _ M _ H .refl rh r3 q⟩
theorem ed_ix (ha : ED X a ta) (hb : ED X b tb) (hs : PlainIx b := by exact fun _ _ => rfl) : ED X (.Subscript a b pos) (tOpD rIxD ta tb) := (pe_ix xd_ix ha hb hs).wk fun _ _ _ h => lift_op h
end
noncomputable abbrev TDO := SD → HpD → (Option Int → HpD → Prop) → Prop
noncomputable def LiftO (K : PySem.W.Frag) (t : TDO) : TO := fun σ H Q => ∃ F σD M QD, Rel ⟨K, F⟩ σD M σ H ∧ t σD M QD ∧ ∀ b M' H', Fz M H M' H' → RepH ⟨K, F⟩ H' M' → QD b M' → Q b H'
@[irreducible] noncomputable def tNoPartD : TDO := fun _ M Q => Q none M
@[irreducible] noncomputable def tPartD (t : TDE) : TDO := fun σ M Q => t σ M fun x M1 => ∃ i, x = .int i ∧ Q (some i) M1
theorem rd_nopart {σ : SD} {M : HpD} {Q : Option Int → HpD → Prop} (h : Q none M) : tNoPartD σ M Q := by unfold tNoPartD; exact h
theorem rd_part {t : TDE} {σ : SD} {M : HpD} {Q : Option Int → HpD → Prop} (h : t σ M fun x M1 => ∃ i, x = .int i ∧ Q (some i) M1) : tPartD t σ M Q := by unfold tPartD; exact h
theorem PO.wk {X : Cx} {e : Option Expr} {t t' : TO} (h : PO X e t) (i : ∀ σ H Q, t' σ H Q → t σ H Q) : PO X e t' := fun pins s σ H Q I q => h pins s σ H Q I (i σ H Q q)
noncomputable def cutD (ds : List D) (lo hi : Option Int) : List D := (ds.drop (HT.sIx ds.length 0 lo)).take (HT.sIx ds.length ds.length hi - HT.sIx ds.length 0 lo)
noncomputable def listD : D → HpD → Option (List D)
  | .lst ds, _ => some ds
  | .ref p, M => match M p with | some (.lst ds) => some ds | _ => none
  | _, _ => none
theorem list_ref {p : Addr} {M : HpD} {ds : List D} (h : M p = some (.lst ds)) : listD (.ref p) M = some ds := by simp only [listD, h]
theorem list_rep {K : KF} {H : Hp} {M : HpD} {d : D} {v : V} {ds : List D} (rh : RepH K H M) (r : RepD K H M d v) (e : listD d M = some ds) : ∃ p xs, v = .ref p ∧ SqL K.K H p xs ∧ RepDs K H M ds xs := by
  cases d with
  | lst ds' =>
    cases e
    unfold RepD at r
    obtain ⟨a, xs, rfl, h1, h2⟩ := r
    exact ⟨a, xs, rfl, h1.sq, h2⟩
  | ref p =>
    cases q : M p with
    | none => simp only [listD, q] at e; cases e
    | some o =>
      cases o with
      | lst es =>
        simp only [listD, q] at e; cases e
        obtain ⟨o', e', xs, rfl, h2⟩ := rh.at_ p _ q
        unfold RepD at r
        exact ⟨p, xs, r, .inl (.inl e'), h2⟩
      | dct kvs => simp only [listD, q] at e; cases e
      | tab _ => simp only [listD, q] at e; cases e
  | _ => cases e
@[irreducible] noncomputable def tSlD (te : TDE) (tl th : TDO) : TDE := fun σ M Q => te σ M fun x M1 => tl σ M1 fun l M2 => th σ M2 fun u M3 => ∃ ds, listD x M3 = some ds ∧ newL (cutD ds l u) M3 Q
theorem rd_sl {te : TDE} {tl th : TDO} {σ : SD} {M : HpD} {Q : KD} (h : te σ M fun x M1 => tl σ M1 fun l M2 => th σ M2 fun u M3 => ∃ ds, listD x M3 = some ds ∧ newL (cutD ds l u) M3 Q) : tSlD te tl th σ M Q := by unfold tSlD; exact h
section
variable {X : Cx} {e : Expr} {te : TDE} {lo hi : Option Expr} {tl th : TDO} {pos p2 : Pos}
theorem po_noneD : PO X none (LiftO X.K tNoPartD) := by
  refine po_none.wk fun σ H Q w1_ => w1_.elim fun F z_ => z_.elim fun σD z_ => z_.elim fun M z_ => z_.elim fun QD z_ => z_.elim fun rel z_ => z_.elim fun h p => ?_
  unfold tNoPartD at h
  exact p _ M H .refl rel.hp h
theorem po_someD (h : ED X e te) : PO X (some e) (LiftO X.K (tPartD te)) := by
  refine (po_some h).wk fun σ H Q w1_ => w1_.elim fun F z_ => z_.elim fun σD z_ => z_.elim fun M z_ => z_.elim fun QD z_ => z_.elim fun rel z_ => z_.elim fun h p => ?_
  unfold tPartD at h
  refine lE rel h fun d M1 v H1 f1 rel1 r1 h1 => ?_
  obtain ⟨i, rfl, q⟩ := h1
  unfold RepD at r1
  exact ⟨i, r1, p _ M1 H1 f1 rel1.hp q⟩
theorem RepDs.cut {K : KF} {H : Hp} {M : HpD} {ds : List D} {xs : List V} (r : RepDs K H M ds xs) (l u : Option Int) : RepDs K H M (cutD ds l u) (cutV xs l u) := by
  unfold cutD cutV
  rw [r.length]
  exact (r.drop _).take _
theorem ed_slice (he : ED X e te) (hl : PO X lo (LiftO X.K tl)) (hu : PO X hi (LiftO X.K th)) : ED X (.Subscript e (.Slice lo hi none p2) pos) (tSlD te tl th) := by
  refine (pe_slice sl_list he hl hu).wk fun σ H Q w1_ => w1_.elim fun F z_ => z_.elim fun σD z_ => z_.elim fun M z_ => z_.elim fun QD z_ => z_.elim fun rel z_ => z_.elim fun h p => ?_
  unfold tSlD at h
  refine lE rel h fun d M1 v H1 f1 rel1 r1 h1 => ?_
  refine ⟨F, σD, M1, _, rel1, h1, fun l M2 H2 f2 rh2 h2 => ?_⟩
  have rel2 := rel1.mono f2 rh2
  refine ⟨F, σD, M2, _, rel2, h2, fun u M3 H3 f3 rh3 h3 => ?_⟩
  obtain ⟨ds, e1, h3⟩ := h3
  have r3 := (r1.mono f2).mono f3
  have pp := p.mono ((f1.trans f2).trans f3)
  obtain ⟨a, xs, rfl, hs, r⟩ := list_rep rh3 r3 e1
  exact ⟨a, xs, rfl, hs, (h3.post pp rh3 (r.cut l u)).2⟩
end
noncomputable abbrev SpD := List D → HpD → KD → Prop
noncomputable def LiftP (K : PySem.W.Frag) (sp : SpD) : Sp := fun vs H Q _ => ∃ F ds M QD, RepDs ⟨K, F⟩ H M ds vs ∧ RepH ⟨K, F⟩ H M ∧ sp ds M QD ∧ PostE ⟨K, F⟩ M H QD Q
noncomputable def Cal (P : Program) (w : World) (K : PySem.W.Frag) (mg : Str → Option Value) (base : Heap) (x : Str) (k : Nat) (sp : SpD) : Prop :=
  ∃ (f : Addr) (fd : FuncData) (ps : List Str), FnOk P w K mg base CX0 k f fd ps (LiftP K sp) ∧ mg x = some (.ref f) ∧ PySem.W.keepIn K (.ref f) = true ∧ Binds K fd ps []
@[irreducible] noncomputable def tCallD (sp : SpD) (t : TDA) : TDE := fun σ M Q => t σ M fun ds M1 => sp ds M1 Q
theorem rd_call {sp : SpD} {t : TDA} {σ : SD} {M : HpD} {Q : KD} (h : t σ M fun ds M1 => sp ds M1 Q) : tCallD sp t σ M Q := by unfold tCallD; exact h
section
variable {X : Cx} {x : Str} {e : Expr} {es : List Expr} {t : TDA} {p pos : Pos} {sp : SpD} {k : Nat}
theorem lift_call {K : PySem.W.Frag} {σ : St} {H : Hp} {Q : VK} (h : LiftE K (tCallD sp t) σ H Q) : tCall (LiftP K sp) [] E0 (LiftA K t) σ H Q := by
  obtain ⟨F, σD, M, QD, rel, h, p⟩ := h
  unfold tCallD at h
  refine lA rel h fun ds M1 vs H1 f1 rel1 r1 h1 => ?_
  rw [List.append_nil]
  exact ⟨F, ds, M1, QD, r1, rel1.hp, h1, p.mono f1⟩
theorem ed_call (hc : Cal X.prog X.w X.K X.mg X.base x k sp) (hr : Room k X.A) (hg : Gl X x) (ha : AD X (e :: es) t) (hdb : (x == ("__debug__" : Str)) = false := by decide)
    (he : starEach (e :: es) X.env = (false, eval e X.env) :: starEach es X.env := by rfl) (hpl : (backTo pos (starEach es X.env)).any (·.1) = false := by rfl) : ED X (.Call (.Name x p) (e :: es) [] pos) (tCallD sp t) := by
  obtain ⟨f, fd, ps, F, hm, hk, hb⟩ := hc
  exact (pe_call F hr hg hm hk hb .nil pass0 ha hdb he hpl).wk fun _ _ _ h => lift_call h
theorem ed_call0 (hc : Cal X.prog X.w X.K X.mg X.base x k sp) (hr : Room k X.A) (hg : Gl X x) (hdb : (x == ("__debug__" : Str)) = false := by decide) : ED X (.Call (.Name x p) [] [] pos) (tCallD sp tNilD) := by
  obtain ⟨f, fd, ps, F, hm, hk, hb⟩ := hc
  refine (pe_call0 F hr hg hm hk hb .nil pass0 hdb).wk fun σ H Q h => ?_
  obtain ⟨F, σD, M, QD, rel, h, p⟩ := h
  unfold tCallD tNilD at h
  exact ⟨F, [], M, QD, .nil, rel.hp, h, p⟩
noncomputable abbrev RDn := List D → HpD → KD → Prop
noncomputable def LiftC (K : PySem.W.Frag) (r : RDn) : List V → Hp → VK → Prop := fun vs H Q => ∃ F ds M QD, RepDs ⟨K, F⟩ H M ds vs ∧ RepH ⟨K, F⟩ H M ∧ r ds M QD ∧ PostE ⟨K, F⟩ M H QD Q
theorem CallR.wk {f : Value} {r r' : List V → Hp → VK → Prop} (h : CallR X f r) (i : ∀ x H Q, r' x H Q → r x H Q) : CallR X f r' := fun pins s σ H xs us Q I rx q => h pins s σ H xs us Q I rx (i _ _ _ q)
theorem lift_cb {K : PySem.W.Frag} {r : RDn} {σ : St} {H : Hp} {Q : VK} (h : LiftE K (tCallD r t) σ H Q) : tCB (LiftC K r) (LiftA K t) σ H Q := by
  obtain ⟨F, σD, M, QD, rel, h, p⟩ := h
  unfold tCallD at h
  refine lA rel h fun ds M1 vs H1 f1 rel1 r1 h1 => ?_
  exact ⟨F, ds, M1, QD, r1, rel1.hp, h1, p.mono f1⟩
theorem ed_callB {id : String} {r : RDn} (hc : CallR X (.builtin id) (LiftC X.K r)) (hg : Gl X x) (hm : X.mg x = none) (hv : bootBuiltins x = some (.builtin id)) (ha : AD X (e :: es) t) (hn : x ≠ "__name__" := by decide) (hdb : (x == ("__debug__" : Str)) = false := by decide)
    (he : starEach (e :: es) X.env = (false, eval e X.env) :: starEach es X.env := by rfl) (hpl : (backTo pos (starEach es X.env)).any (·.1) = false := by rfl) : ED X (.Call (.Name x p) (e :: es) [] pos) (tCallD r t) :=
  (pe_callB hc hg hm hv ha hn hdb he hpl).wk fun _ _ _ h => lift_cb h
theorem ed_callTy {T : String} {r : RDn} (hc : CallR X (.type T) (LiftC X.K r)) (hg : Gl X x) (hm : X.mg x = none) (hv : bootBuiltins x = some (.type T)) (ha : AD X (e :: es) t) (hn : x ≠ "__name__" := by decide) (hdb : (x == ("__debug__" : Str)) = false := by decide)
    (he : starEach (e :: es) X.env = (false, eval e X.env) :: starEach es X.env := by rfl) (hpl : (backTo pos (starEach es X.env)).any (·.1) = false := by rfl) : ED X (.Call (.Name x p) (e :: es) [] pos) (tCallD r t) :=
  (pe_callTy hc hg hm hv ha hn hdb he hpl).wk fun _ _ _ h => lift_cb h
theorem rep1 {K : KF} {H : Hp} {M : HpD} {d : D} {vs : List V} (r : RepDs K H M [d] vs) : ∃ v, vs = [v] ∧ RepD K H M d v := by
  unfold RepDs at r
  obtain ⟨x, r', e, h1, h2⟩ := r
  unfold RepDs at h2
  subst h2 e
  exact ⟨x, rfl, h1⟩
theorem rep2 {K : KF} {H : Hp} {M : HpD} {d e : D} {vs : List V} (r : RepDs K H M [d, e] vs) : ∃ v u, vs = [v, u] ∧ RepD K H M d v ∧ RepD K H M e u := by
  unfold RepDs at r
  obtain ⟨x, r', e, h1, h2⟩ := r
  obtain ⟨u, e2, h3⟩ := rep1 h2
  subst e2 e
  exact ⟨x, u, rfl, h1, h3⟩
@[irreducible] noncomputable def cLen : RDn := fun xs M Q => ∃ d ds, xs = [d] ∧ itemsD d M = some ds ∧ Q (.int ds.length) M
theorem rd_len {d : D} {ds : List D} {M : HpD} {Q : KD} (h : itemsD d M = some ds) (q : Q (.int ds.length) M) : cLen [d] M Q := by unfold cLen; exact ⟨d, ds, rfl, h, q⟩
theorem cd_len : CallR X (.builtin "len") (LiftC X.K cLen) := by
  refine call_len_seq.wk fun xs H Q w1_ => w1_.elim fun F z_ => z_.elim fun ds z_ => z_.elim fun M z_ => z_.elim fun QD z_ => z_.elim fun r z_ => z_.elim fun rh z_ => z_.elim fun hq p => ?_
  unfold cLen at hq
  obtain ⟨d, es, rfl, e1, q⟩ := hq
  obtain ⟨v, rfl, r1⟩ := rep1 r
  obtain ⟨a, ys, rfl, hs, r2⟩ := items_rep rh r1 e1
  exact ⟨a, ys, rfl, hs, p _ M _ H .refl rh (by unfold RepD; rw [r2.length]) q⟩
@[irreducible] noncomputable def cList : RDn := fun xs M Q => ∃ d ds, xs = [d] ∧ itemsD d M = some ds ∧ newL ds M Q
theorem rd_list {d : D} {ds : List D} {M : HpD} {Q : KD} (h : itemsD d M = some ds) (q : newL ds M Q) : cList [d] M Q := by unfold cList; exact ⟨d, ds, rfl, h, q⟩
theorem cd_list : CallR X (.type "list") (LiftC X.K cList) := by
  refine call_list_of.wk fun xs H Q w1_ => w1_.elim fun F z_ => z_.elim fun ds z_ => z_.elim fun M z_ => z_.elim fun QD z_ => z_.elim fun r z_ => z_.elim fun rh z_ => z_.elim fun hq p => ?_
  unfold cList at hq
  obtain ⟨d, es, rfl, e1, q⟩ := hq
  obtain ⟨v, rfl, r1⟩ := rep1 r
  obtain ⟨a, ys, rfl, hs, r2⟩ := items_rep rh r1 e1
  exact ⟨a, ys, rfl, hs, (q.post p rh r2).2⟩
@[irreducible] noncomputable def cMax2 : RDn := fun xs M Q => ∃ i j, xs = [.int i, .int j] ∧ Q (.int (max i j)) M
@[irreducible] noncomputable def cMin2 : RDn := fun xs M Q => ∃ i j, xs = [.int i, .int j] ∧ Q (.int (min i j)) M
theorem rd_max2 {i j : Int} {M : HpD} {Q : KD} (q : Q (.int (max i j)) M) : cMax2 [.int i, .int j] M Q := by unfold cMax2; exact ⟨i, j, rfl, q⟩
theorem rd_min2 {i j : Int} {M : HpD} {Q : KD} (q : Q (.int (min i j)) M) : cMin2 [.int i, .int j] M Q := by unfold cMin2; exact ⟨i, j, rfl, q⟩
theorem cd_max2 (hc : X.calm = true := by rfl) : CallR X (.builtin "max") (LiftC X.K cMax2) := by
  refine (call_max2 hc).wk fun xs H Q w1_ => w1_.elim fun F z_ => z_.elim fun ds z_ => z_.elim fun M z_ => z_.elim fun QD z_ => z_.elim fun r z_ => z_.elim fun rh z_ => z_.elim fun hq p => ?_
  unfold cMax2 at hq
  obtain ⟨i, j, rfl, q⟩ := hq
  obtain ⟨v, u, rfl, r1, r2⟩ := rep2 r
  unfold RepD at r1 r2
  subst r1 r2
  rw [← show (if j > i then j else i) = max i j by split <;> omega] at q
  exact ⟨i, j, rfl, p _ M _ H .refl rh (by unfold RepD; rfl) q⟩
theorem cd_min2 (hc : X.calm = true := by rfl) : CallR X (.builtin "min") (LiftC X.K cMin2) := by
  refine (call_min2 hc).wk fun xs H Q w1_ => w1_.elim fun F z_ => z_.elim fun ds z_ => z_.elim fun M z_ => z_.elim fun QD z_ => z_.elim fun r z_ => z_.elim fun rh z_ => z_.elim fun hq p => ?_
  unfold cMin2 at hq
  obtain ⟨i, j, rfl, q⟩ := hq
  obtain ⟨v, u, rfl, r1, r2⟩ := rep2 r
  unfold RepD at r1 r2
  subst r1 r2
  rw [← show (if j < i then j else i) = min i j by split <;> omega] at q
  exact ⟨i, j, rfl, p _ M _ H .refl rh (by unfold RepD; rfl) q⟩
end
end L2
namespace L2
open PySem PySem.Spec PyProof.Rows
section
variable {K : PySem.W.Frag} {F : Addr → Prop} {σ : St} {H : Hp} {σD : SD} {M : HpD}
theorem lS {ta : TSD} {DD : EndsD} {D' : Ends} (rel : Rel ⟨K, F⟩ σD M σ H) (h : ta DD σD M) (p : PostS ⟨K, F⟩ M H DD D') : LiftS K ta D' σ H := ⟨F, σD, M, DD, rel, h, p⟩
end
noncomputable abbrev TDG := D → SD → HpD → (SD → HpD → Prop) → Prop
noncomputable abbrev TDGs := List D → SD → HpD → (SD → HpD → Prop) → Prop
noncomputable def PostG (K : KF) (M : HpD) (H : Hp) (QD : SD → HpD → Prop) (Q : St → Hp → Prop) : Prop := ∀ σD' M' σ' H', Fz M H M' H' → Rel K σD' M' σ' H' → QD σD' M' → Q σ' H'
theorem PostG.mono {K : KF} {H H' : Hp} {M M' : HpD} {QD : SD → HpD → Prop} {Q : St → Hp → Prop} (p : PostG K M H QD Q) (f : Fz M H M' H') : PostG K M' H' QD Q := fun a b c d f2 r h => p a b c d (f.trans f2) r h
noncomputable def LiftG (K : PySem.W.Frag) (t : TDG) : TG := fun v σ H Q => ∃ F d σD M QD, Rel ⟨K, F⟩ σD M σ H ∧ RepD ⟨K, F⟩ H M d v ∧ t d σD M QD ∧ PostG ⟨K, F⟩ M H QD Q
noncomputable def LiftGs (K : PySem.W.Frag) (t : TDGs) : TGs := fun v σ H Q => ∃ F d σD M QD, Rel ⟨K, F⟩ σD M σ H ∧ RepDs ⟨K, F⟩ H M d v ∧ t d σD M QD ∧ PostG ⟨K, F⟩ M H QD Q
theorem PG.wk {X : Cx} {e : Expr} {t t' : TG} (h : PG X e t) (i : ∀ v σ H Q, t' v σ H Q → t v σ H Q) : PG X e t' := fun pins s σ H v u Q I r q => h pins s σ H v u Q I r (i v σ H Q q)
theorem PGs.wk {X : Cx} {e : List Expr} {t t' : TGs} (h : PGs X e t) (i : ∀ v σ H Q, t' v σ H Q → t v σ H Q) : PGs X e t' := fun pins s σ H v u Q I r q => h pins s σ H v u Q I r (i v σ H Q q)
noncomputable abbrev GD (X : Cx) (e : Expr) (t : TDG) : Prop := PG X e (LiftG X.K t)
noncomputable abbrev GsD (X : Cx) (e : List Expr) (t : TDGs) : Prop := PGs X e (LiftGs X.K t)
@[irreducible] noncomputable def gNameD (i : Nat) : TDG := fun d σ M Q => Q (σ.set i (some d)) M
@[irreducible] noncomputable def gNilD : TDGs := fun ds σ M Q => ds = [] ∧ Q σ M
@[irreducible] noncomputable def gConsD (t : TDG) (u : TDGs) : TDGs := fun ds σ M Q => ∃ d r, ds = d :: r ∧ t d σ M fun σ' M' => u r σ' M' Q
@[irreducible] noncomputable def gTupD (n : Nat) (t : TDGs) : TDG := fun d σ M Q => ∃ ds, d = .tup ds ∧ ds.length = n ∧ t ds σ M Q
theorem rd_gname {i : Nat} {d : D} {σ : SD} {M : HpD} {Q : SD → HpD → Prop} (h : Q (σ.set i (some d)) M) : gNameD i d σ M Q := by unfold gNameD; exact h
theorem rd_gnil {σ : SD} {M : HpD} {Q : SD → HpD → Prop} (h : Q σ M) : gNilD [] σ M Q := by unfold gNilD; exact ⟨rfl, h⟩
theorem rd_gcons {t : TDG} {u : TDGs} {d : D} {r : List D} {σ : SD} {M : HpD} {Q : SD → HpD → Prop} (h : t d σ M fun σ' M' => u r σ' M' Q) : gConsD t u (d :: r) σ M Q := by unfold gConsD; exact ⟨d, r, rfl, h⟩
theorem rd_gtup {n : Nat} {t : TDGs} {ds : List D} {σ : SD} {M : HpD} {Q : SD → HpD → Prop} (hn : ds.length = n) (h : t ds σ M Q) : gTupD n t (.tup ds) σ M Q := by unfold gTupD; exact ⟨ds, rfl, hn, h⟩
section
variable {X : Cx} {pos : Pos}
theorem gd_name (i : Nat) {x : Str} (hN : X.N.Nodup) (hi : X.N[i]? = some x) (hx : Loc X.env.scope x) (hf : X.fn x = true ∨ X.env.scope.names.lookup x = some .local := by first | exact .inl rfl | exact .inr rfl | assumption) : GD X (.Name x pos) (gNameD i) := by
  refine (pg_name hN hi hx hf).wk fun v σ H Q w1_ => w1_.elim fun F z_ => z_.elim fun d z_ => z_.elim fun σD z_ => z_.elim fun M z_ => z_.elim fun QD z_ => z_.elim fun rel z_ => z_.elim fun r z_ => z_.elim fun h p => ?_
  unfold gNameD at h
  exact p _ M _ H .refl (rel.set i r) h
theorem gd_nil : GsD X [] gNilD := by
  refine pgs_nil.wk fun v σ H Q w1_ => w1_.elim fun F z_ => z_.elim fun d z_ => z_.elim fun σD z_ => z_.elim fun M z_ => z_.elim fun QD z_ => z_.elim fun rel z_ => z_.elim fun r z_ => z_.elim fun h p => ?_
  unfold gNilD at h
  obtain ⟨rfl, h⟩ := h
  unfold RepDs at r
  exact ⟨r, p _ M _ H .refl rel h⟩
theorem gd_cons {e : Expr} {es : List Expr} {t : TDG} {u : TDGs} (h1 : GD X e t) (h2 : GsD X es u)
    (hs : (assignEach (e :: es) X.env).map (·.2) = assign e X.env :: (assignEach es X.env).map (·.2) := by rfl) : GsD X (e :: es) (gConsD t u) := by
  refine (pgs_cons h1 h2 hs).wk fun v σ H Q w1_ => w1_.elim fun F z_ => z_.elim fun d z_ => z_.elim fun σD z_ => z_.elim fun M z_ => z_.elim fun QD z_ => z_.elim fun rel z_ => z_.elim fun r z_ => z_.elim fun h p => ?_
  unfold gConsD at h
  obtain ⟨d0, ds, rfl, h⟩ := h
  unfold RepDs at r
  obtain ⟨x, vr, rfl, r1, r2⟩ := r
  refine ⟨x, vr, rfl, F, d0, σD, M, _, rel, r1, h, fun σ1 M1 σ1' H1 f1 rel1 h1 => ?_⟩
  exact ⟨F, ds, σ1, M1, QD, rel1, r2.mono f1, h1, p.mono f1⟩
theorem gd_tup {es : List Expr} {k : Nat} {t : TDGs} {n : Nat} (h : GsD X es t) (hc : X.calm = true := by rfl)
    (hn : (assignEach es X.env).length = n := by rfl) (hst : (assignEach es X.env).findIdx? (·.1) = none := by rfl) : GD X (.Tuple es k pos) (gTupD n t) := by
  refine (pg_tup hc h hn hst).wk fun v σ H Q w1_ => w1_.elim fun F z_ => z_.elim fun d z_ => z_.elim fun σD z_ => z_.elim fun M z_ => z_.elim fun QD z_ => z_.elim fun rel z_ => z_.elim fun r z_ => z_.elim fun h p => ?_
  unfold gTupD at h
  obtain ⟨ds, rfl, hl, h⟩ := h
  unfold RepD at r
  obtain ⟨a, xs, rfl, hz, hr⟩ := r
  exact ⟨a, xs, rfl, hz.sq, by rw [← hr.length]; exact hl, F, ds, σD, M, QD, rel, hr, h, p⟩
@[irreducible] noncomputable def gSubD (to ti : TDE) : TDG := fun v σ M Q => to σ M fun o M1 => ti σ M1 fun i M2 => ∃ p ds k j, o = .ref p ∧ i = .int k ∧ M2 p = some (.lst ds) ∧ ixN ds.length k = some j ∧ Q σ (updD M2 p (.lst (ds.set j v)))
theorem rd_gsub {to ti : TDE} {v : D} {σ : SD} {M : HpD} {Q : SD → HpD → Prop} (h : to σ M fun o M1 => ti σ M1 fun i M2 => ∃ p ds k j, o = .ref p ∧ i = .int k ∧ M2 p = some (.lst ds) ∧ ixN ds.length k = some j ∧ Q σ (updD M2 p (.lst (ds.set j v)))) : gSubD to ti v σ M Q := by unfold gSubD; exact h
theorem gd_sub {o i : Expr} {to ti : TDE} (ho : ED X o to) (hi : ED X i ti)
    (ha : ∀ v, assign (.Subscript o i pos) X.env v = (do
      let ov ← holding [v] (eval o X.env)
      let iv ← holding [v, ov] (eval i X.env)
      standAt pos
      holding [v, ov, iv] (setItem ov iv v)
      release [v, ov, iv] []) := by intro _; rfl) : GD X (.Subscript o i pos) (gSubD to ti) := by
  refine (pg_sub ho hi set_list ha).wk fun v σ H Q w1_ => w1_.elim fun F z_ => z_.elim fun d z_ => z_.elim fun σD z_ => z_.elim fun M z_ => z_.elim fun QD z_ => z_.elim fun rel z_ => z_.elim fun r z_ => z_.elim fun h p => ?_
  unfold gSubD at h
  refine lE rel h fun od M1 ov H1 f1 rel1 r1 h1 => ?_
  refine lE rel1 h1 fun id M2 iv H2 f2 rel2 r2 h2 => ?_
  obtain ⟨a, ds, k, j, rfl, rfl, e1, e2, q⟩ := h2
  unfold RepD at r1 r2
  obtain ⟨o', e', xs, rfl, hr⟩ := rel2.hp.at_ a _ e1
  have rv := r.mono (f1.trans f2)
  have r3 : RepO ⟨X.K, F⟩ H2 M2 (.lst (ds.set j d)) (.lst (xs.set j v)) := ⟨_, rfl, hr.set j rv⟩
  exact ⟨a, xs, k, j, r1, r2, e', by rw [← hr.length]; exact e2, p _ _ _ _ ((f1.trans f2).trans (fz_write e1)) (rel2.mono (fz_write e1) (rel2.hp.write e1 r3)) q⟩
end
@[irreducible] noncomputable def tNextD : TSD := fun DD σ M => DD.nx σ M
@[irreducible] noncomputable def tSeqD (t u : TSD) : TSD := fun DD σ M => t { DD with nx := u DD } σ M
@[irreducible] noncomputable def tDropD (te : TDE) : TSD := fun DD σ M => te σ M fun _ M1 => DD.nx σ M1
@[irreducible] noncomputable def tRetD (te : TDE) : TSD := fun DD σ M => te σ M fun d M1 => DD.rt d M1 ∨ ∃ a ds, d = .ref a ∧ M1 a = some (.lst ds) ∧ DD.rt (.lst ds) (delD M1 a)
@[irreducible] noncomputable def tIfSD (c : TDT) (t u : TSD) : TSD := fun DD σ M => c σ M fun b M1 => if b = true then t DD σ M1 else u DD σ M1
@[irreducible] noncomputable def tAsgD (te : TDE) (g : TDG) : TSD := fun DD σ M => te σ M fun d M1 => g d σ M1 DD.nx
section
variable {DD : EndsD} {σ : SD} {M : HpD}
theorem rd_next (h : DD.nx σ M) : tNextD DD σ M := by unfold tNextD; exact h
theorem rd_seq {t u : TSD} (h : t { DD with nx := u DD } σ M) : tSeqD t u DD σ M := by unfold tSeqD; exact h
theorem rd_drop {te : TDE} (h : te σ M fun _ M1 => DD.nx σ M1) : tDropD te DD σ M := by unfold tDropD; exact h
theorem rd_ret {te : TDE} (h : te σ M fun d M1 => DD.rt d M1 ∨ ∃ a ds, d = .ref a ∧ M1 a = some (.lst ds) ∧ DD.rt (.lst ds) (delD M1 a)) : tRetD te DD σ M := by unfold tRetD; exact h
theorem rd_ifS {c : TDT} {t u : TSD} (h : c σ M fun b M1 => if b = true then t DD σ M1 else u DD σ M1) : tIfSD c t u DD σ M := by unfold tIfSD; exact h
theorem rd_asg {te : TDE} {g : TDG} (h : te σ M fun d M1 => g d σ M1 DD.nx) : tAsgD te g DD σ M := by unfold tAsgD; exact h
end
section
variable {X : Cx} {pos : Pos} {st : Stmt} {rest : List Stmt} {t u : TSD} {e : Expr} {te : TDE}
theorem ss_nil : SsD X [] tNextD := by
  refine pss_nil.wk fun D' σ H w1_ => w1_.elim fun F z_ => z_.elim fun σD z_ => z_.elim fun M z_ => z_.elim fun DD z_ => z_.elim fun rel z_ => z_.elim fun h p => ?_
  unfold tNextD at h
  exact p.nx _ M _ H .refl rel h
theorem ss_cons (h1 : StD X st t) (h2 : SsD X rest u) : SsD X (st :: rest) (tSeqD t u) := by
  refine (pss_cons h1 h2).wk fun D' σ H w1_ => w1_.elim fun F z_ => z_.elim fun σD z_ => z_.elim fun M z_ => z_.elim fun DD z_ => z_.elim fun rel z_ => z_.elim fun h p => ?_
  unfold tSeqD at h
  exact lS rel h ⟨fun σD' M' σ' H' f rel' q => lS rel' q (p.mono f), p.rt, p.bk, p.ct⟩
theorem ss_one (h1 : StD X st t) : SsD X [st] t := pss_one h1
theorem sd_expr (he : ED X e te) (hs : swapsWith e none pos.line X.env = pure false := by rfl) : StD X (.Expr e pos) (tDropD te) := by
  refine (ps_expr he hs).wk fun D' σ H w1_ => w1_.elim fun F z_ => z_.elim fun σD z_ => z_.elim fun M z_ => z_.elim fun DD z_ => z_.elim fun rel z_ => z_.elim fun h p => ?_
  unfold tDropD at h
  exact lE rel h fun d M1 v H1 f1 rel1 r1 h1 => p.nx _ M1 _ H1 f1 rel1 h1
theorem sd_ret (he : ED X e te) : StD X (.Return (some e) pos) (tRetD te) := by
  refine (ps_ret he).wk fun D' σ H w1_ => w1_.elim fun F z_ => z_.elim fun σD z_ => z_.elim fun M z_ => z_.elim fun DD z_ => z_.elim fun rel z_ => z_.elim fun h p => ?_
  unfold tRetD at h
  refine lE rel h fun d M1 v H1 f1 rel1 r1 h1 => ?_
  rcases h1 with h1 | ⟨a, ds, rfl, e1, h1⟩
  · exact p.rt d M1 v H1 f1 rel1.hp r1 h1
  · unfold RepD at r1
    subst r1
    exact p.rt _ _ _ H1 (f1.trans fz_del) rel1.hp.del (.frz rel1.hp e1) h1
theorem sd_if {c : Expr} {a b : List Stmt} {tc : TDT} (hc : TD X c tc) (ha : SsD X a t) (hb : SsD X b u) : StD X (.If c a b pos) (tIfSD tc t u) := by
  refine (ps_if hc ha hb).wk fun D' σ H w1_ => w1_.elim fun F z_ => z_.elim fun σD z_ => z_.elim fun M z_ => z_.elim fun DD z_ => z_.elim fun rel z_ => z_.elim fun h p => ?_
  unfold tIfSD at h
  refine lT rel h fun b M1 H1 f1 rel1 h1 => ?_
  cases b with
  | true => simp only [if_true] at h1 ⊢; exact lS rel1 h1 (p.mono f1)
  | false => simp only [Bool.false_eq_true, if_false] at h1 ⊢; exact lS rel1 h1 (p.mono f1)
theorem PostS.g {K : KF} {M : HpD} {H : Hp} {DD : EndsD} {D' : Ends} (p : PostS K M H DD D') : PostG K M H DD.nx D'.nx := fun a b c d f r h => p.nx a b c d f r h
theorem sd_asg {tg : Expr} {g : TDG} (he : ED X e te) (hg : GD X tg g) (hs : swapsWithSole [tg] e pos.line X.env = pure false := by rfl) (hw : swappedStores [tg] e X.env = pure none := by rfl)
    (h1 : (assignEach [tg] X.env).map (·.2) = [assign tg X.env] := by rfl) : StD X (.Assign [tg] e pos) (tAsgD te g) := by
  refine (ps_asg he hg hs hw h1).wk fun D' σ H w1_ => w1_.elim fun F z_ => z_.elim fun σD z_ => z_.elim fun M z_ => z_.elim fun DD z_ => z_.elim fun rel z_ => z_.elim fun h p => ?_
  unfold tAsgD at h
  exact lE rel h fun d M1 v H1 f1 rel1 r1 h1 => ⟨F, d, σD, M1, DD.nx, rel1, r1, h1, (p.mono f1).g⟩
theorem sd_set (i : Nat) {x : Str} {pos' : Pos} (hN : X.N.Nodup) (hi : X.N[i]? = some x) (hx : Loc X.env.scope x) (he : ED X e te) (hs : swapsWith e (some (.Name x pos')) pos.line X.env = pure false := by rfl) (hf : X.fn x = true ∨ X.env.scope.names.lookup x = some .local := by first | exact .inl rfl | exact .inr rfl | assumption) :
    StD X (.Assign [.Name x pos'] e pos) (tAsgD te (gNameD i)) := by
  refine (ps_set hN hi hx he hs hf).wk fun D' σ H w1_ => w1_.elim fun F z_ => z_.elim fun σD z_ => z_.elim fun M z_ => z_.elim fun DD z_ => z_.elim fun rel z_ => z_.elim fun h p => ?_
  unfold tAsgD at h
  refine lE rel h fun d M1 v H1 f1 rel1 r1 h1 => ?_
  unfold gNameD at h1
  exact (p.mono f1).nx _ M1 _ H1 .refl (rel1.set i r1) h1
end
noncomputable abbrev TDI := SD → HpD → (List D → HpD → Prop) → Prop
noncomputable def Ylds (K : PySem.W.Frag) (F : Addr → Prop) (J : It) (ds : List D) (M : HpD) (H : Hp) : Prop :=
  ∀ F' i M' H', (∀ a, F' a → F a ∨ H a = none) → Fz M H M' H' → RepH ⟨K, F'⟩ H' M' → (∀ d, ds[i]? = some d → J.go i H' ∧ ∀ x H3, J.yld i H' x H3 → Fz M' H' M' H3 ∧ RepH ⟨K, F'⟩ H3 M' ∧ RepD ⟨K, F'⟩ H3 M' d x) ∧ (ds.length ≤ i → J.stop i H')
noncomputable def LiftI (K : PySem.W.Frag) (t : TDI) : TI := fun σ H R => ∃ F σD M RD, Rel ⟨K, F⟩ σD M σ H ∧ t σD M RD ∧ ∀ ds M' H' J, Fz M H M' H' → RepH ⟨K, F⟩ H' M' → Ylds K F J ds M' H' → RD ds M' → R J H'
theorem FzL.more {K : PySem.W.Frag} {F F' : Addr → Prop} {H : Hp} {M : HpD} {a : Addr} {xs : List V} (h : FzL ⟨K, F⟩ H M a xs) (hf : ∀ a, F' a → F a ∨ H a = none) : FzL ⟨K, F'⟩ H M a xs := by
  rcases h with ⟨h, m, n⟩ | h
  · refine .inl ⟨h, m, fun z => ?_⟩
    rcases hf a z with q | q
    · exact n q
    · rcases h with h | ⟨o, h⟩ <;> rw [q] at h <;> cases h
  · exact .inr h
theorem FzT.more {K : PySem.W.Frag} {F F' : Addr → Prop} {H : Hp} {M : HpD} {a : Addr} {xs : List V} (h : FzT ⟨K, F⟩ H M a xs) (hf : ∀ a, F' a → F a ∨ H a = none) : FzT ⟨K, F'⟩ H M a xs := by
  rcases h with ⟨h, m, n⟩ | h
  · refine .inl ⟨h, m, fun z => ?_⟩
    rcases hf a z with q | q
    · exact n q
    · rcases h with h | ⟨o, h⟩ <;> rw [q] at h <;> cases h
  · exact .inr h
mutual
theorem RepD.more {K : PySem.W.Frag} {F F' : Addr → Prop} {H : Hp} {M : HpD} (hf : ∀ a, F' a → F a ∨ H a = none) : ∀ {d : D} {v : V}, RepD ⟨K, F⟩ H M d v → RepD ⟨K, F'⟩ H M d v
  | .non, _, h => by unfold RepD at h ⊢; exact h
  | .bl _, _, h => by unfold RepD at h ⊢; exact h
  | .int _, _, h => by unfold RepD at h ⊢; exact h
  | .str _, _, h => by unfold RepD at h ⊢; exact h
  | .ref _, _, h => by unfold RepD at h ⊢; exact h
  | .ty _, _, h => by unfold RepD at h ⊢; exact h
  | .tup ds, _, h => by
    unfold RepD at h ⊢
    obtain ⟨a, xs, e, h1, h2⟩ := h
    exact ⟨a, xs, e, h1.more hf, RepDs.more hf h2⟩
  | .lst ds, _, h => by
    unfold RepD at h ⊢
    obtain ⟨a, xs, e, h1, h2⟩ := h
    exact ⟨a, xs, e, h1.more hf, RepDs.more hf h2⟩
theorem RepDs.more {K : PySem.W.Frag} {F F' : Addr → Prop} {H : Hp} {M : HpD} (hf : ∀ a, F' a → F a ∨ H a = none) : ∀ {ds : List D} {vs : List V}, RepDs ⟨K, F⟩ H M ds vs → RepDs ⟨K, F'⟩ H M ds vs
  | [], _, h => by unfold RepDs at h ⊢; exact h
  | d :: ds, _, h => by
    unfold RepDs at h ⊢
    obtain ⟨x, r, e, h1, h2⟩ := h
    exact ⟨x, r, e, RepD.more hf h1, RepDs.more hf h2⟩
end
theorem FzL.past {K : KF} {H : Hp} {M : HpD} {a p : Addr} {o : HO} {xs : List V} (h : FzL K H M a xs) (hp : K.F p) : FzL K (upd H p o) M a xs := by
  rcases h with ⟨h, m, n⟩ | h
  · have q : a ≠ p := fun z => n (z ▸ hp)
    refine .inl ⟨?_, m, n⟩
    rcases h with h | ⟨u, h⟩
    · exact .inl (by rw [upd_ne q]; exact h)
    · exact .inr ⟨u, by rw [upd_ne q]; exact h⟩
  · exact .inr h
theorem FzT.past {K : KF} {H : Hp} {M : HpD} {a p : Addr} {o : HO} {xs : List V} (h : FzT K H M a xs) (hp : K.F p) : FzT K (upd H p o) M a xs := by
  rcases h with ⟨h, m, n⟩ | h
  · have q : a ≠ p := fun z => n (z ▸ hp)
    refine .inl ⟨?_, m, n⟩
    rcases h with h | ⟨u, h⟩
    · exact .inl (by rw [upd_ne q]; exact h)
    · exact .inr ⟨u, by rw [upd_ne q]; exact h⟩
  · exact .inr h
mutual
theorem RepD.past {K : KF} {H : Hp} {M : HpD} {p : Addr} {o : HO} (hp : K.F p) : ∀ {d : D} {v : V}, RepD K H M d v → RepD K (upd H p o) M d v
  | .non, _, h => by unfold RepD at h ⊢; exact h
  | .bl _, _, h => by unfold RepD at h ⊢; exact h
  | .int _, _, h => by unfold RepD at h ⊢; exact h
  | .str _, _, h => by unfold RepD at h ⊢; exact h
  | .ref _, _, h => by unfold RepD at h ⊢; exact h
  | .ty _, _, h => by unfold RepD at h ⊢; exact h
  | .tup ds, _, h => by
    unfold RepD at h ⊢
    obtain ⟨a, xs, e, h1, h2⟩ := h
    exact ⟨a, xs, e, h1.past hp, RepDs.past hp h2⟩
  | .lst ds, _, h => by
    unfold RepD at h ⊢
    obtain ⟨a, xs, e, h1, h2⟩ := h
    exact ⟨a, xs, e, h1.past hp, RepDs.past hp h2⟩
theorem RepDs.past {K : KF} {H : Hp} {M : HpD} {p : Addr} {o : HO} (hp : K.F p) : ∀ {ds : List D} {vs : List V}, RepDs K H M ds vs → RepDs K (upd H p o) M ds vs
  | [], _, h => by unfold RepDs at h ⊢; exact h
  | d :: ds, _, h => by
    unfold RepDs at h ⊢
    obtain ⟨x, r, e, h1, h2⟩ := h
    exact ⟨x, r, e, RepD.past hp h1, RepDs.past hp h2⟩
end
theorem RepO.more {K : PySem.W.Frag} {F F' : Addr → Prop} {H : Hp} {M : HpD} (hf : ∀ a, F' a → F a ∨ H a = none) {d : OD} {o : HO} (h : RepO ⟨K, F⟩ H M d o) : RepO ⟨K, F'⟩ H M d o := by
  cases d with
  | lst ds => obtain ⟨xs, e, r⟩ := h; exact ⟨xs, e, r.more hf⟩
  | dct kvs => obtain ⟨vs, e, k, r⟩ := h; exact ⟨vs, e, k, r.more hf⟩
  | tab q => exact TabE.imp h fun c oc u e m n => ⟨e, m, fun z => (hf c z).elim n fun y => by rw [e] at y; cases y⟩
theorem RepO.past {K : KF} {H : Hp} {M : HpD} {p : Addr} {o : HO} (hp : K.F p) {d : OD} {u : HO} (h : RepO K H M d u) : RepO K (upd H p o) M d u := by
  cases d with
  | lst ds => obtain ⟨xs, e, r⟩ := h; exact ⟨xs, e, r.past hp⟩
  | dct kvs => obtain ⟨vs, e, k, r⟩ := h; exact ⟨vs, e, k, r.past hp⟩
  | tab q => exact TabE.imp h fun c oc u e m n => ⟨by rw [upd_ne (fun z => n (by rw [z]; exact hp))]; exact e, m, n⟩
theorem FzL.own {K : PySem.W.Frag} {F F' : Addr → Prop} {H : Hp} {M : HpD} {p a : Addr} {o : OD} {xs : List V} (h : FzL ⟨K, F'⟩ H M a xs) (hp : F' p) (hf : ∀ a, F a → F' a ∨ H a = none) : FzL ⟨K, F⟩ H (updD M p o) a xs := by
  rcases h with ⟨h, m, n⟩ | h
  · refine .inl ⟨h, by rw [updD_ne (fun (z : a = p) => n (by show F' a; rw [z]; exact hp))]; exact m, fun z => ?_⟩
    rcases hf a z with q | q
    · exact n q
    · rcases h with h | ⟨o, h⟩ <;> rw [q] at h <;> cases h
  · exact .inr h
theorem FzT.own {K : PySem.W.Frag} {F F' : Addr → Prop} {H : Hp} {M : HpD} {p a : Addr} {o : OD} {xs : List V} (h : FzT ⟨K, F'⟩ H M a xs) (hp : F' p) (hf : ∀ a, F a → F' a ∨ H a = none) : FzT ⟨K, F⟩ H (updD M p o) a xs := by
  rcases h with ⟨h, m, n⟩ | h
  · refine .inl ⟨h, by rw [updD_ne (fun (z : a = p) => n (by show F' a; rw [z]; exact hp))]; exact m, fun z => ?_⟩
    rcases hf a z with q | q
    · exact n q
    · rcases h with h | ⟨o, h⟩ <;> rw [q] at h <;> cases h
  · exact .inr h
mutual
theorem RepD.own {K : PySem.W.Frag} {F F' : Addr → Prop} {H : Hp} {M : HpD} {p : Addr} {o : OD} (hp : F' p) (hf : ∀ a, F a → F' a ∨ H a = none) : ∀ {d : D} {v : V}, RepD ⟨K, F'⟩ H M d v → RepD ⟨K, F⟩ H (updD M p o) d v
  | .non, _, h => by unfold RepD at h ⊢; exact h
  | .bl _, _, h => by unfold RepD at h ⊢; exact h
  | .int _, _, h => by unfold RepD at h ⊢; exact h
  | .str _, _, h => by unfold RepD at h ⊢; exact h
  | .ref _, _, h => by unfold RepD at h ⊢; exact h
  | .ty _, _, h => by unfold RepD at h ⊢; exact h
  | .tup ds, _, h => by
    unfold RepD at h ⊢
    obtain ⟨a, xs, e, h1, h2⟩ := h
    exact ⟨a, xs, e, h1.own hp hf, RepDs.own hp hf h2⟩
  | .lst ds, _, h => by
    unfold RepD at h ⊢
    obtain ⟨a, xs, e, h1, h2⟩ := h
    exact ⟨a, xs, e, h1.own hp hf, RepDs.own hp hf h2⟩
theorem RepDs.own {K : PySem.W.Frag} {F F' : Addr → Prop} {H : Hp} {M : HpD} {p : Addr} {o : OD} (hp : F' p) (hf : ∀ a, F a → F' a ∨ H a = none) : ∀ {ds : List D} {vs : List V}, RepDs ⟨K, F'⟩ H M ds vs → RepDs ⟨K, F⟩ H (updD M p o) ds vs
  | [], _, h => by unfold RepDs at h ⊢; exact h
  | d :: ds, _, h => by
    unfold RepDs at h ⊢
    obtain ⟨x, r, e, h1, h2⟩ := h
    exact ⟨x, r, e, RepD.own hp hf h1, RepDs.own hp hf h2⟩
end
theorem RepO.own {K : PySem.W.Frag} {F F' : Addr → Prop} {H : Hp} {M : HpD} {p : Addr} {o : OD} (hp : F' p) (hf : ∀ a, F a → F' a ∨ H a = none) {d : OD} {u : HO} (h : RepO ⟨K, F'⟩ H M d u) : RepO ⟨K, F⟩ H (updD M p o) d u := by
  cases d with
  | lst ds => obtain ⟨xs, e, r⟩ := h; exact ⟨xs, e, r.own hp hf⟩
  | dct kvs => obtain ⟨vs, e, k, r⟩ := h; exact ⟨vs, e, k, r.own hp hf⟩
  | tab q => exact TabE.imp h fun c oc u e m n => ⟨e, by rw [updD_ne (fun (z : c = p) => n (by show F' c; rw [z]; exact hp))]; exact m, fun z => (hf c z).elim n fun y => by rw [e] at y; cases y⟩
theorem RepH.past {K : KF} {H : Hp} {M : HpD} {p : Addr} {o : HO} (hp : K.F p) (h : RepH K H M) : RepH K (upd H p o) M := ⟨fun a d e => by
  obtain ⟨o', e', r⟩ := h.at_ a d e
  have q : a ≠ p := fun z => by rw [z, (h.fb p hp).2] at e; cases e
  exact ⟨o', by rw [upd_ne q]; exact e', r.past hp⟩, fun a ha => ⟨by
  by_cases q : a = p
  · subst q; exact ⟨o, upd_same⟩
  · rw [upd_ne q]; exact (h.fb a ha).1, (h.fb a ha).2⟩⟩
theorem Rel.past {K : KF} {σD : SD} {M : HpD} {σ : St} {H : Hp} {p : Addr} {o : HO} (hp : K.F p) (h : Rel K σD M σ H) : Rel K σD M σ (upd H p o) :=
  ⟨h.len, fun i d e => let ⟨v, e1, e2⟩ := h.st i d e; ⟨v, e1, e2.past hp⟩, h.hp.past hp⟩
theorem PI.wk {X : Cx} {tg e : Expr} {t t' : TI} (h : PI X tg e t) (i : ∀ σ H Q, t' σ H Q → t σ H Q) : PI X tg e t' := fun pins s σ H Q I q => h pins s σ H Q I (i σ H Q q)
noncomputable abbrev IDD (X : Cx) (tg e : Expr) (t : TDI) : Prop := PI X tg e (LiftI X.K t)
@[irreducible] noncomputable def iSeqD (te : TDE) : TDI := fun σ M R => te σ M fun d M1 => ∃ ds, d = .lst ds ∧ R ds M1
theorem rd_iseq {te : TDE} {σ : SD} {M : HpD} {R : List D → HpD → Prop} (h : te σ M fun d M1 => ∃ ds, d = .lst ds ∧ R ds M1) : iSeqD te σ M R := by unfold iSeqD; exact h
noncomputable def intsD (lo : Int) (n : Nat) : List D := (List.range n).map fun (k : Nat) => .int (lo + (k : Int))
theorem intsD_get {lo : Int} {n i : Nat} {d : D} (h : (intsD lo n)[i]? = some d) : i < n ∧ d = .int (lo + i) := by
  unfold intsD at h
  rw [List.getElem?_map] at h
  by_cases hi : i < n
  · rw [List.getElem?_range hi] at h
    cases h
    exact ⟨hi, rfl⟩
  · rw [List.getElem?_eq_none (by simpa using hi)] at h
    cases h
theorem intsD_len {lo : Int} {n : Nat} : (intsD lo n).length = n := by unfold intsD; simp
@[irreducible] noncomputable def iRng1D (ta : TDA) : TDI := fun σ M R => ta σ M fun vs M1 => ∃ j : Int, vs = [.int j] ∧ -(2 ^ 62) ≤ j ∧ j < 2 ^ 62 ∧ R (intsD 0 j.toNat) M1
theorem rd_irng1 {ta : TDA} {σ : SD} {M : HpD} {R : List D → HpD → Prop} (h : ta σ M fun vs M1 => ∃ j : Int, vs = [.int j] ∧ -(2 ^ 62) ≤ j ∧ j < 2 ^ 62 ∧ R (intsD 0 j.toNat) M1) : iRng1D ta σ M R := by unfold iRng1D; exact h
section
variable {X : Cx} {tg l : Expr} {tl : TDE} {pos p : Pos}
theorem ylds_list {K : PySem.W.Frag} {F : Addr → Prop} {H : Hp} {M : HpD} {a : Addr} {xs : List V} {ds : List D} (h : FzL ⟨K, F⟩ H M a xs) (r : RepDs ⟨K, F⟩ H M ds xs) : Ylds K F (Itl K a) ds M H := fun F' i M' H' hf f rh => by
  have h' := ((h.more hf).mono f).sq
  have r' := (r.more hf).mono f
  refine ⟨fun d e => ?_, fun e => ⟨xs, h', by rw [← r'.length]; exact e⟩⟩
  obtain ⟨v, e1, e2⟩ := r'.get e
  refine ⟨⟨xs, v, h', e1⟩, fun x H3 y => ?_⟩
  obtain ⟨rfl, y⟩ := y
  have := y xs h'
  rw [e1] at this; cases this
  exact ⟨.refl, rh, e2⟩
theorem ylds_rng {K : PySem.W.Frag} {F : Addr → Prop} {H : Hp} {M : HpD} {lo : Int} {n : Nat} : Ylds K F (Itr lo n) (intsD lo n) M H := fun F' i M' H' hf f rh => by
  refine ⟨fun d e => ?_, fun e => by rw [intsD_len] at e; exact e⟩
  obtain ⟨hi, rfl⟩ := intsD_get e
  refine ⟨hi, fun x H3 y => ?_⟩
  obtain ⟨rfl, rfl⟩ := y
  exact ⟨.refl, rh, by unfold RepD; rfl⟩
theorem id_list (hl : ED X l tl) : IDD X tg l (iSeqD tl) := by
  refine (pi_list hl).wk fun σ H R w1_ => w1_.elim fun F z_ => z_.elim fun σD z_ => z_.elim fun M z_ => z_.elim fun RD z_ => z_.elim fun rel z_ => z_.elim fun h p => ?_
  unfold iSeqD at h
  refine lE rel h fun d M1 v H1 f1 rel1 r1 h1 => ?_
  obtain ⟨ds, rfl, q⟩ := h1
  unfold RepD at r1
  obtain ⟨a, xs, rfl, hz, hr⟩ := r1
  exact ⟨a, rfl, ⟨xs, hz.sq⟩, p ds M1 H1 _ f1 rel1.hp (ylds_list hz hr) q⟩
theorem id_rng1 {a : Expr} {ta : TDA} (hg : Gl X "range") (hm : X.mg "range" = none) (ha : AD X [a] ta) (hs : starEach [a] X.env = [(false, eval a X.env)] := by rfl) : IDD X tg (.Call (.Name "range" p) [a] [] pos) (iRng1D ta) := by
  refine (pi_range1 hg hm ha hs).wk fun σ H R w1_ => w1_.elim fun F z_ => z_.elim fun σD z_ => z_.elim fun M z_ => z_.elim fun RD z_ => z_.elim fun rel z_ => z_.elim fun h p => ?_
  unfold iRng1D at h
  refine lA rel h fun d M1 v H1 f1 rel1 r1 h1 => ?_
  obtain ⟨j, rfl, q1, q2, q⟩ := h1
  obtain ⟨u, rfl, r2⟩ := rep1 r1
  unfold RepD at r2
  subst r2
  exact ⟨j, rfl, q1, q2, p _ M1 H1 _ f1 rel1.hp ylds_rng q⟩
end
@[irreducible] noncomputable def tForD (tI : TDI) (g : TDG) (tb : TSD) : TSD := fun DD σ M => tI σ M fun ds M1 => ∃ Pv : Nat → SD → HpD → Prop, Pv 0 σ M1 ∧
  (∀ i d σ M, ds[i]? = some d → Pv i σ M → g d σ M fun σ2 M2 => tb { DD with nx := Pv (i + 1), ct := Pv (i + 1), bk := DD.nx } σ2 M2) ∧ ∀ σ M, Pv ds.length σ M → DD.nx σ M
theorem rd_for {tI : TDI} {g : TDG} {tb : TSD} {DD : EndsD} {σ : SD} {M : HpD} (h : tI σ M fun ds M1 => ∃ Pv : Nat → SD → HpD → Prop, Pv 0 σ M1 ∧
  (∀ i d σ M, ds[i]? = some d → Pv i σ M → g d σ M fun σ2 M2 => tb { DD with nx := Pv (i + 1), ct := Pv (i + 1), bk := DD.nx } σ2 M2) ∧ ∀ σ M, Pv ds.length σ M → DD.nx σ M) : tForD tI g tb DD σ M := by unfold tForD; exact h
@[irreducible] noncomputable def tCompD (n : Nat) (tI : TDI) (g : TDG) (tc : TDT) (te : TDE) : TDE := fun σ M Q => tI σ M fun ds M1 => ds.length ≤ sizeLine ∧ ∃ Pv : Nat → List D → SD → HpD → Prop, Pv 0 [] (List.replicate n none ++ σ) M1 ∧
  (∀ i d ys σ M, ds[i]? = some d → Pv i ys σ M → g d σ M fun σ2 M2 => tc σ2 M2 fun b M3 => if b = true then te σ2 M3 fun y M4 => Pv (i + 1) (ys ++ [y]) σ2 M4 else Pv (i + 1) ys σ2 M3) ∧ ∀ ys σ M, Pv ds.length ys σ M → newL ys M Q
theorem rd_comp {n : Nat} {tI : TDI} {g : TDG} {tc : TDT} {te : TDE} {σ : SD} {M : HpD} {Q : KD} (h : tI σ M fun ds M1 => ds.length ≤ sizeLine ∧ ∃ Pv : Nat → List D → SD → HpD → Prop, Pv 0 [] (List.replicate n none ++ σ) M1 ∧
  (∀ i d ys σ M, ds[i]? = some d → Pv i ys σ M → g d σ M fun σ2 M2 => tc σ2 M2 fun b M3 => if b = true then te σ2 M3 fun y M4 => Pv (i + 1) (ys ++ [y]) σ2 M4 else Pv (i + 1) ys σ2 M3) ∧ ∀ ys σ M, Pv ds.length ys σ M → newL ys M Q) : tCompD n tI g tc te σ M Q := by unfold tCompD; exact h
@[irreducible] noncomputable def tIf0D : TDT := fun _ M Q => Q true M
theorem rd_if0 {σ : SD} {M : HpD} {Q : Bool → HpD → Prop} (h : Q true M) : tIf0D σ M Q := by unfold tIf0D; exact h
section
variable {X : Cx} {tg iter elt : Expr} {ifs : List Expr} {scope : Scope} {body : List Stmt} {tI : TDI} {g : TDG} {tb : TSD} {tc : TDT} {te : TDE} {ts rest : List Str} {pos : Pos}
theorem fd_nil : FD X [] tIf0D := by
  refine pifs_nil.wk fun σ H Q w1_ => w1_.elim fun F z_ => z_.elim fun σD z_ => z_.elim fun M z_ => z_.elim fun QD z_ => z_.elim fun rel z_ => z_.elim fun h p => ?_
  unfold tIf0D at h
  exact p true M H .refl rel.hp h
theorem sd_for (hi : IDD X tg iter tI) (hg : GD X tg g) (hb : SsD X body tb) (hp : PassesOwn (model X.prog X.w) X.A X.env X.xe := by exact PassesOwn.never) (hc : X.calm = true := by rfl)
    (hs : ∀ x, foldedSetIterable iter X.env x = pure x := by intro _; rfl) : StD X (.For tg iter body [] pos) (tForD tI g tb) := by
  refine (ps_for hp hc hi hg hb hs).wk fun D' σ H w1_ => w1_.elim fun F z_ => z_.elim fun σD z_ => z_.elim fun M z_ => z_.elim fun DD z_ => z_.elim fun rel z_ => z_.elim fun h p => ?_
  unfold tForD at h
  refine ⟨F, σD, M, _, rel, h, fun ds M1 H1 J f1 rh1 y h1 => ?_⟩
  obtain ⟨Pv, p0, step, done⟩ := h1
  refine ⟨fun i m σ' H' => m = ds.length - i ∧ i ≤ ds.length ∧ ∃ σD' M', Rel ⟨X.K, F⟩ σD' M' σ' H' ∧ Fz M1 H1 M' H' ∧ Pv i σD' M', ⟨ds.length, by simp, Nat.zero_le _, σD, M1, rel.mono f1 rh1, .refl, p0⟩, ?_⟩
  rintro i m σ' H' ⟨rfl, hi, σD', M', rel', f', pv⟩
  by_cases hlt : i < ds.length
  · have e : ds[i]? = some ds[i] := List.getElem?_eq_getElem hlt
    obtain ⟨go, yl⟩ := (y F i M' H' (fun _ z => .inl z) f' rel'.hp).1 _ e
    refine .inr ⟨go, fun σ2 H2 => ∃ σD2 M2, Rel ⟨X.K, F⟩ σD2 M2 σ2 H2 ∧ Fz M1 H1 M2 H2 ∧ Pv (i + 1) σD2 M2, fun σ2 H2 w1_ => w1_.elim fun σD2 z_ => z_.elim fun M2 z_ => z_.elim fun a1 z_ => z_.elim fun a2 a3 => ⟨ds.length - (i + 1), by omega, rfl, hlt, σD2, M2, a1, a2, a3⟩, fun x H2 yy => ?_⟩
    obtain ⟨fy, rhy, ry⟩ := yl x H2 yy
    have rel2 := rel'.mono fy rhy
    refine ⟨F, ds[i], σD', M', _, rel2, ry, step i _ σD' M' e pv, fun σD3 M3 σ3 H3 f3 rel3 h3 => ?_⟩
    have ff := (f'.trans fy).trans f3
    refine lS rel3 h3 ⟨fun a b c d f r q => ⟨a, b, r, ff.trans f, q⟩, (p.mono (f1.trans ff)).rt, fun a b c d f r q => (p.mono (f1.trans ff)).nx a b c d f r q, fun a b c d f r q => ⟨a, b, r, ff.trans f, q⟩⟩
  · have e : i = ds.length := by omega
    subst e
    exact .inl ⟨(y F _ M' H' (fun _ z => .inl z) f' rel'.hp).2 (Nat.le_refl _), p.nx _ _ _ _ (f1.trans f') rel' (done _ _ pv)⟩
theorem lift_comp {K : PySem.W.Frag} {n : Nat} {σ : St} {H : Hp} {Q : VK} (h : LiftE K (tCompD n tI g tc te) σ H Q) : tComp n (LiftI K tI) (LiftG K g) (LiftT K tc) (LiftE K te) σ H Q := by
  obtain ⟨F, σD, M, QD, rel, h, p⟩ := h
  unfold tCompD at h
  refine ⟨F, σD, M, _, rel, h, fun ds M1 H1 J f1 rh1 y h1 => ?_⟩
  intro D' hD
  obtain ⟨hsz, Pv, p0, step, done⟩ := h1
  have mD := rh1.free hD
  have fF : ∀ a, (F a ∨ a = D') → F a ∨ H1 a = none := fun a z => z.elim .inl fun e => .inr (e ▸ hD)
  have rel1 := rel.mono f1 rh1
  -- the start: D' is forbidden
  have relS : Rel ⟨K, fun a => F a ∨ a = D'⟩ (List.replicate n none ++ σD) M1 (List.replicate n none ++ σ) (upd H1 D' (.lst [])) := by
    have r1 : Rel ⟨K, F⟩ (List.replicate n none ++ σD) M1 (List.replicate n none ++ σ) H1 := rel1.pad n
    refine ⟨r1.len, fun i d e => ?_, ⟨fun a o e => ?_, fun a z => ?_⟩⟩
    · obtain ⟨v, e1, e2⟩ := r1.st i d e
      exact ⟨v, e1, (e2.more fF).mono (fz_new hD)⟩
    · obtain ⟨o', e', r⟩ := rh1.at_ a o e
      exact ⟨o', by rw [upd_ne (ne_of_none e' hD)]; exact e', (r.more fF).mono (fz_new hD)⟩
    · rcases z with z | rfl
      · obtain ⟨⟨o', e'⟩, m'⟩ := rh1.fb a z
        exact ⟨⟨o', by rw [upd_ne (ne_of_none e' hD)]; exact e'⟩, m'⟩
      · exact ⟨⟨_, upd_same⟩, mD⟩
  refine ⟨fun i m ys σ' H' => m = ds.length - i ∧ i ≤ ds.length ∧ ys.length ≤ i ∧ H' D' = some (.lst ys) ∧ ∃ σD' M' ysD, Rel ⟨K, fun a => F a ∨ a = D'⟩ σD' M' σ' H' ∧ Fz M1 H1 M' H' ∧ RepDs ⟨K, fun a => F a ∨ a = D'⟩ H' M' ysD ys ∧ Pv i ysD σD' M',
    ⟨ds.length, by simp, Nat.zero_le _, Nat.zero_le _, upd_same, _, M1, [], relS, fz_new hD, .nil, p0⟩, ?_⟩
  rintro i m ys σ' H' ⟨rfl, hi, hyl, eD, σD', M', ysD, rel', f', ry, pv⟩
  have mD' : M' D' = none := (rel'.hp.fb D' (.inr rfl)).2
  by_cases hlt : i < ds.length
  · have e : ds[i]? = some ds[i] := List.getElem?_eq_getElem hlt
    obtain ⟨go, yl⟩ := (y _ i M' H' fF f' rel'.hp).1 _ e
    refine .inr ⟨go, fun x H2 yy => ?_⟩
    obtain ⟨fy, rhy, rx⟩ := yl x H2 yy
    have eD2 := (fy D' _ eD mD').1
    refine ⟨_, ds[i], σD', M', _, rel'.mono fy rhy, rx, step i _ ysD σD' M' e pv, fun σD3 M3 σ3 H3 f3 rel3 h3 => ?_⟩
    refine lT rel3 h3 fun b M4 H4 f4 rel4 h4 => ?_
    have f14 : Fz M1 H1 M4 H4 := ((f'.trans fy).trans f3).trans f4
    have fD4 : Fz M' H' M4 H4 := (fy.trans f3).trans f4
    cases b with
    | false =>
      simp only [Bool.false_eq_true, if_false] at h4 ⊢
      exact ⟨ds.length - (i + 1), by omega, rfl, hlt, by omega, (fD4 D' _ eD mD').1, σD3, M4, ysD, rel4, f14, ry.mono fD4, h4⟩
    | true =>
      simp only [if_true] at h4 ⊢
      refine lE rel4 h4 fun yd M5 v H5 f5 rel5 r5 h5 => ?_
      have fD5 := fD4.trans f5
      obtain ⟨eD5, mD5⟩ := fD5 D' _ eD mD'
      have hF : (KF.mk K fun a => F a ∨ a = D').F D' := .inr rfl
      refine ⟨eD5, by omega, ds.length - (i + 1), by omega, rfl, hlt, by rw [List.length_append, List.length_singleton]; omega, upd_same, σD3, M5, ysD ++ [yd], rel5.past hF, fun a o q z => ?_, ((ry.mono fD5).append (.cons r5 .nil)).past hF, h5⟩
      obtain ⟨q1, q2⟩ := (f14.trans f5) a o q z
      exact ⟨by rw [upd_ne (ne_of_none q hD)]; exact q1, q2⟩
  · have e : i = ds.length := by omega
    subst e
    refine .inl ⟨(y _ _ M' H' fF f' rel'.hp).2 (Nat.le_refl _), eD, ?_⟩
    -- the end: D' is told
    have fL : ∀ a, F a → (F a ∨ a = D') ∨ H' a = none := fun a z => .inl (.inl z)
    have rhE : RepH ⟨K, F⟩ H' M' := ⟨fun a o q => by
      obtain ⟨o', e', r⟩ := rel'.hp.at_ a o q
      exact ⟨o', e', r.more fL⟩, fun a z => rel'.hp.fb a (.inl z)⟩
    have hn := done ysD σD' M' pv
    unfold newL at hn
    obtain ⟨hl, hn⟩ := hn
    have nf : ¬ F D' := rh1.nf hD
    rcases hn with hn | hn
    · exact p _ M' _ H' (f1.trans f') rhE (by unfold RepD; exact ⟨D', ys, rfl, .inl ⟨.inl eD, mD', nf⟩, ry.more fL⟩) hn
    · refine p _ (updD M' D' (.lst ysD)) _ H' (f1.trans fun a o q z => ?_) ⟨fun a o q => ?_, fun a z => ⟨(rhE.fb a z).1, ?_⟩⟩ (by unfold RepD; rfl) (hn D' mD')
      · obtain ⟨q1, q2⟩ := f' a o q z
        exact ⟨q1, by rw [updD_ne (ne_of_none q hD)]; exact q2⟩
      · by_cases qa : a = D'
        · rw [qa, updD_same] at q; cases q
          rw [qa]
          refine ⟨_, eD, ys, rfl, ?_⟩
          -- what is gathered does not pass through the list itself
          exact RepDs.own (F' := fun a => F a ∨ a = D') (.inr rfl) fL ry
        · rw [updD_ne qa] at q
          obtain ⟨o', e', r⟩ := rel'.hp.at_ a o q
          exact ⟨o', e', RepO.own (F' := fun a => F a ∨ a = D') (.inr rfl) fL r⟩
      · rw [updD_ne (fun (z' : a = D') => nf (by rw [← z']; exact z))]; exact (rhE.fb a z).2
theorem ed_comp (S : CompScope X scope ts rest) (hi : IDD X tg iter tI)
    (hg : ∀ fp s H, GD (compCx X scope ts rest fp s H) tg g) (ht : ∀ fp s H, FD (compCx X scope ts rest fp s H) ifs tc) (he : ∀ fp s H, ED (compCx X scope ts rest fp s H) elt te)
    (hc : X.calm = true := by rfl) (hs : ∀ x, foldedSetIterable iter X.env x = pure x := by intro _; rfl) : ED X (.ListComp elt [⟨tg, iter, ifs, 0⟩] scope pos) (tCompD ts.length tI g tc te) :=
  (pe_comp (g := LiftG X.K g) (tc := LiftT X.K tc) (te := LiftE X.K te) hc S hi hg ht he hs).wk fun _ _ _ h => lift_comp h
end
end L2
namespace L2
open PySem PySem.Spec PyProof.Rows
end L2
namespace L2
open PySem PySem.Spec PyProof.Rows
section
variable {X : Cx}
variable {e d : Expr} {te td : TE} {p pos kpos : Pos}
end
end L2
namespace L2
open PySem PySem.Spec PyProof.Rows
mutual
noncomputable def eqD : D → D → Bool
  | .non, .non => true
  | .bl a, .bl b => a == b
  | .int a, .int b => a == b
  | .str a, .str b => a == b
  | .tup a, .tup b => eqDs a b
  | .lst a, .lst b => eqDs a b
  | _, _ => false
noncomputable def eqDs : List D → List D → Bool
  | [], [] => true
  | a :: r, b :: s => eqD a b && eqDs r s
  | _, _ => false
end
mutual
noncomputable def okD : D → D → Bool
  | .non, .non => true
  | .non, .int _ => true
  | .int _, .non => true
  | .non, .str _ => true
  | .str _, .non => true
  | .bl _, .bl _ => true
  | .int _, .int _ => true
  | .str _, .str _ => true
  | .int _, .str _ => true
  | .str _, .int _ => true
  | .tup a, .tup b => okDs a b
  | .lst a, .lst b => okDs a b
  | _, _ => false
noncomputable def okDs : List D → List D → Bool
  | a :: r, b :: s => okD a b && okDs r s
  | _, _ => true
end
mutual
noncomputable def depD : D → Nat
  | .tup a => depDs a + 1
  | .lst a => depDs a + 1
  | _ => 0
noncomputable def depDs : List D → Nat
  | [] => 0
  | a :: r => max (depD a) (depDs r)
end
theorem eqDs_len : ∀ {a b : List D}, eqDs a b = true → a.length = b.length
  | [], [], _ => rfl
  | [], _ :: _, h => by unfold eqDs at h; cases h
  | _ :: _, [], h => by unfold eqDs at h; cases h
  | a :: r, b :: s, h => by
    unfold eqDs at h
    rw [Bool.and_eq_true] at h
    rw [List.length_cons, List.length_cons, eqDs_len h.2]
theorem eqDs_all : ∀ (a b : List D), ((List.range (min a.length b.length)).all (fun j => (List.zipWith eqD a b).getD j true) && a.length == b.length) = eqDs a b
  | [], [] => by unfold eqDs; rfl
  | [], _ :: _ => by unfold eqDs; rfl
  | _ :: _, [] => by unfold eqDs; rfl
  | a :: r, b :: s => by
    have ih := eqDs_all r s
    unfold eqDs
    rw [← ih]
    rw [show min (a :: r).length (b :: s).length = min r.length s.length + 1 by simp only [List.length_cons]; omega, List.range_succ_eq_map, List.all_cons, List.all_map]
    simp only [List.zipWith_cons_cons, List.getD_cons_zero, Function.comp_def, List.getD_cons_succ, List.length_cons, Bool.and_assoc]
    congr 1
    congr 1
    rw [Bool.eq_iff_iff, beq_iff_eq, beq_iff_eq]
    omega
theorem eqDs_all' {a b : List D} (h : a.length = b.length) : ((List.range a.length).all fun j => (List.zipWith eqD a b).getD j true) = eqDs a b := by
  have := eqDs_all a b
  rw [← h, Nat.min_self] at this
  rw [← this]
  simp
mutual
theorem eqD_refl : ∀ {d e : D}, okD d e = true → ∀ {K : KF} {H : Hp} {M : HpD} {v : V}, (∀ a xs ys, SqT K.K H a xs → SqT K.K H a ys → xs = ys) → (∀ a xs ys, SqL K.K H a xs → SqL K.K H a ys → xs = ys) → RepD K H M d v → RepD K H M e v → eqD d e = true
  | .non, e, ok, K, H, M, v, i1, i2, r1, r2 => by
    cases e <;> first | (unfold okD at ok; cases ok; done) | (unfold RepD at r1 r2; rw [r1] at r2; cases r2; done) | (unfold eqD; rfl)
  | .bl a, e, ok, K, H, M, v, i1, i2, r1, r2 => by
    cases e <;> first | (unfold okD at ok; cases ok; done) | (unfold RepD at r1 r2; rw [r1] at r2; cases r2; unfold eqD; simp)
  | .int a, e, ok, K, H, M, v, i1, i2, r1, r2 => by
    cases e <;> first | (unfold okD at ok; cases ok; done) | (unfold RepD at r1 r2; rw [r1] at r2; cases r2; unfold eqD; simp) | (unfold RepD at r1 r2; rw [r1] at r2; cases r2)
  | .str a, e, ok, K, H, M, v, i1, i2, r1, r2 => by
    cases e <;> first | (unfold okD at ok; cases ok; done) | (unfold RepD at r1 r2; rw [r1] at r2; cases r2; unfold eqD; simp) | (unfold RepD at r1 r2; rw [r1] at r2; cases r2)
  | .ref a, e, ok, K, H, M, v, i1, i2, r1, r2 => by cases e <;> (unfold okD at ok; cases ok)
  | .ty a, e, ok, K, H, M, v, i1, i2, r1, r2 => by cases e <;> (unfold okD at ok; cases ok)
  | .tup a, e, ok, K, H, M, v, i1, i2, r1, r2 => by
    cases e with
    | tup b =>
      unfold okD at ok
      unfold RepD at r1 r2
      obtain ⟨p, xs, e1, h1, h2⟩ := r1
      obtain ⟨q, ys, e2, h3, h4⟩ := r2
      rw [e1] at e2; cases e2
      have := i1 p xs ys h1.sq h3.sq
      subst this
      unfold eqD
      exact eqDs_refl ok i1 i2 h2 h4
    | _ => unfold okD at ok; cases ok
  | .lst a, e, ok, K, H, M, v, i1, i2, r1, r2 => by
    cases e with
    | lst b =>
      unfold okD at ok
      unfold RepD at r1 r2
      obtain ⟨p, xs, e1, h1, h2⟩ := r1
      obtain ⟨q, ys, e2, h3, h4⟩ := r2
      rw [e1] at e2; cases e2
      have := i2 p xs ys h1.sq h3.sq
      subst this
      unfold eqD
      exact eqDs_refl ok i1 i2 h2 h4
    | _ => unfold okD at ok; cases ok
theorem eqDs_refl : ∀ {d e : List D}, okDs d e = true → ∀ {K : KF} {H : Hp} {M : HpD} {v : List V}, (∀ a xs ys, SqT K.K H a xs → SqT K.K H a ys → xs = ys) → (∀ a xs ys, SqL K.K H a xs → SqL K.K H a ys → xs = ys) → RepDs K H M d v → RepDs K H M e v → eqDs d e = true
  | [], e, ok, K, H, M, v, i1, i2, r1, r2 => by
    have := r1.length.trans r2.length.symm
    cases e with
    | nil => unfold eqDs; rfl
    | cons _ _ => cases this
  | a :: r, e, ok, K, H, M, v, i1, i2, r1, r2 => by
    have := r1.length.trans r2.length.symm
    cases e with
    | nil => cases this
    | cons b s =>
      unfold okDs at ok
      rw [Bool.and_eq_true] at ok
      unfold RepDs at r1 r2
      obtain ⟨x, xr, e1, h1, h2⟩ := r1
      obtain ⟨y, yr, e2, h3, h4⟩ := r2
      rw [e1] at e2; cases e2
      unfold eqDs
      rw [eqD_refl ok.1 i1 i2 h1 h3, eqDs_refl ok.2 i1 i2 h2 h4]
      rfl
end
section
variable {X : Cx} {pins : List (Addr × Obj)} {σ : St} {H : Hp} {s : Shared} {F : Addr → Prop} {M : HpD}
mutual
theorem eqAtD (I : Inv X pins σ H s) : ∀ (d e : D) {x y : V} {u v : Value} (A : Around), okD d e = true → A.units + depD d < cLine → RepD ⟨X.K, F⟩ H M d x → RepD ⟨X.K, F⟩ H M e y → RelV x u → RelV y v → SeqAt.EqAt A s u v (eqD d e)
  | .non, e, x, y, u, v, A, ok, hu, r1, r2, q1, q2 => by
    unfold RepD at r1; subst r1
    cases e <;> first
      | (unfold okD at ok; cases ok; done)
      | (unfold RepD at r2; subst r2; have z := eqAt_V (A := A) (s := s) q1 q2 rfl rfl; unfold eqD; exact z)
  | .bl a, e, x, y, u, v, A, ok, hu, r1, r2, q1, q2 => by
    unfold RepD at r1; subst r1
    cases e <;> first
      | (unfold okD at ok; cases ok; done)
      | (unfold RepD at r2; subst r2; have z := eqAt_V (A := A) (s := s) q1 q2 rfl rfl; unfold eqD; exact z)
  | .int a, e, x, y, u, v, A, ok, hu, r1, r2, q1, q2 => by
    unfold RepD at r1; subst r1
    cases e <;> first
      | (unfold okD at ok; cases ok; done)
      | (unfold RepD at r2; subst r2; have z := eqAt_V (A := A) (s := s) q1 q2 rfl rfl; unfold eqD; exact z)
  | .str a, e, x, y, u, v, A, ok, hu, r1, r2, q1, q2 => by
    unfold RepD at r1; subst r1
    cases e <;> first
      | (unfold okD at ok; cases ok; done)
      | (unfold RepD at r2; subst r2; have z := eqAt_V (A := A) (s := s) q1 q2 rfl rfl; unfold eqD; exact z)
  | .ref a, e, x, y, u, v, A, ok, hu, r1, r2, q1, q2 => by cases e <;> (unfold okD at ok; cases ok)
  | .ty a, e, x, y, u, v, A, ok, hu, r1, r2, q1, q2 => by cases e <;> (unfold okD at ok; cases ok)
  | .tup a, e, x, y, u, v, A, ok, hu, r1, r2, q1, q2 => by
    cases e with
    | tup b =>
      have r1' := r1
      have r2' := r2
      unfold RepD at r1 r2
      obtain ⟨p, xs, rfl, h1, h2⟩ := r1
      obtain ⟨q, ys, rfl, h3, h4⟩ := r2
      cases q1
      cases q2
      by_cases hpq : p = q
      · subst hpq
        rw [eqD_refl ok (fun a xs ys => I.tuple_inj) (fun a xs ys => I.list_inj) r1' r2']
        exact SeqAt.EqAt.same _
      · obtain ⟨i1, v1, t1, _⟩ := I.tuple h1.sq
        obtain ⟨i2, v2, t2, _⟩ := I.tuple h3.sq
        unfold okD at ok
        unfold depD at hu
        have hu1 : A.units < cLine := by omega
        refine SeqAt.EqAt.of_refs hpq ?_
        have := SeqAt.RcAt.tuples (A := A) (s := s) (show s.heap.IsTuple p i1.toArray from t1) (show s.heap.IsTuple q i2.toArray from t2) hu1 (e := fun j => (List.zipWith eqD a b).getD j true) fun j z1 z2 =>
          eqAtDs I a b A.in1 ok (by show A.units + 1 + depDs a < cLine; omega) h2 h4 v1 v2 j _ _ (by simp) (by simp)
        have l1 : i1.toArray.size = a.length := by rw [List.size_toArray, ← v1.length, h2.length]
        have l2 : i2.toArray.size = b.length := by rw [List.size_toArray, ← v2.length, h4.length]
        rw [l1, l2, eqDs_all] at this
        unfold eqD
        exact this
    | _ => unfold okD at ok; cases ok
  | .lst a, e, x, y, u, v, A, ok, hu, r1, r2, q1, q2 => by
    cases e with
    | lst b =>
      have r1' := r1
      have r2' := r2
      unfold RepD at r1 r2
      obtain ⟨p, xs, rfl, h1, h2⟩ := r1
      obtain ⟨q, ys, rfl, h3, h4⟩ := r2
      cases q1
      cases q2
      by_cases hpq : p = q
      · subst hpq
        rw [eqD_refl ok (fun a xs ys => I.tuple_inj) (fun a xs ys => I.list_inj) r1' r2']
        exact SeqAt.EqAt.same _
      · obtain ⟨i1, v1, t1, _⟩ := I.list h1.sq
        obtain ⟨i2, v2, t2, _⟩ := I.list h3.sq
        unfold okD at ok
        unfold depD at hu
        have hu1 : A.units < cLine := by omega
        have l1 : i1.toArray.size = a.length := by rw [List.size_toArray, ← v1.length, h2.length]
        have l2 : i2.toArray.size = b.length := by rw [List.size_toArray, ← v2.length, h4.length]
        refine SeqAt.EqAt.of_refs hpq ?_
        unfold eqD
        by_cases hl : a.length = b.length
        · have := SeqAt.RcAt.lists (A := A) (s := s) t1.isList t2.isList (by rw [l1, l2]; exact hl) hu1 (e := fun j => (List.zipWith eqD a b).getD j true) fun j z1 z2 =>
            eqAtDs I a b A.in1 ok (by show A.units + 1 + depDs a < cLine; omega) h2 h4 v1 v2 j _ _ (by simp) (by simp)
          rw [l1, eqDs_all' hl] at this
          exact this
        · rw [show eqDs a b = false by
            cases q : eqDs a b with
            | false => rfl
            | true => exact absurd (eqDs_len q) hl]
          exact SeqAt.RcAt.lists_lengths t1.isList t2.isList (by rw [l1, l2]; simpa using hl) hu1
    | _ => unfold okD at ok; cases ok
theorem eqAtDs (I : Inv X pins σ H s) : ∀ (ds es : List D) {xs ys : List V} {us vs : List Value} (A : Around), okDs ds es = true → A.units + depDs ds < cLine → RepDs ⟨X.K, F⟩ H M ds xs → RepDs ⟨X.K, F⟩ H M es ys → Vals xs us → Vals ys vs →
    ∀ (j : Nat) (u v : Value), us[j]? = some u → vs[j]? = some v → SeqAt.EqAt A s u v ((List.zipWith eqD ds es).getD j true)
  | [], es, xs, ys, us, vs, A, ok, hu, r1, r2, q1, q2, j, u, v, e1, e2 => by
    have := r1.length.trans q1.length
    have hj : j < us.length := (List.getElem?_eq_some_iff.mp e1).1
    rw [← this] at hj
    cases hj
  | d :: ds, [], xs, ys, us, vs, A, ok, hu, r1, r2, q1, q2, j, u, v, e1, e2 => by
    have := r2.length.trans q2.length
    have hj : j < vs.length := (List.getElem?_eq_some_iff.mp e2).1
    rw [← this] at hj
    cases hj
  | d :: ds, e :: es, xs, ys, us, vs, A, ok, hu, r1, r2, q1, q2, j, u, v, e1, e2 => by
    unfold okDs at ok
    rw [Bool.and_eq_true] at ok
    unfold depDs at hu
    unfold RepDs at r1 r2
    obtain ⟨x, xr, rfl, h1, h2⟩ := r1
    obtain ⟨y, yr, rfl, h3, h4⟩ := r2
    cases q1 with
    | cons a1 b1 =>
      cases q2 with
      | cons a2 b2 =>
        cases j with
        | zero =>
          simp at e1 e2
          subst e1 e2
          simp only [List.zipWith_cons_cons, List.getD_cons_zero]
          exact eqAtD I d e A ok.1 (by omega) h1 h3 a1 a2
        | succ j =>
          simp only [List.zipWith_cons_cons, List.getD_cons_succ]
          exact eqAtDs I ds es A ok.2 (by omega) h2 h4 b1 b2 j u v (by simpa using e1) (by simpa using e2)
end
end
noncomputable def viewD : D → HpD → D
  | .ref p, M => match M p with | some (.lst ds) => .lst ds | _ => .ref p
  | d, _ => d
noncomputable def okT : D → D → Bool
  | .bl _, .bl _ => true
  | .int _, .int _ => true
  | .str _, .str _ => true
  | .tup a, .tup b => okDs a b
  | .lst a, .lst b => okDs a b
  | _, _ => false
theorem view_rep {K : KF} {H : Hp} {M : HpD} {d : D} {v : V} (rh : RepH K H M) (r : RepD K H M d v) : ∃ M', Fz M H M' H ∧ RepH K H M' ∧ RepD K H M' (viewD d M) v := by
  cases d with
  | ref p =>
    cases q : M p with
    | none => exact ⟨M, .refl, rh, by simp only [viewD, q]; exact r⟩
    | some o =>
      cases o with
      | lst ds =>
        refine ⟨delD M p, fz_del, rh.del, ?_⟩
        simp only [viewD, q]
        unfold RepD at r
        subst r
        exact .frz rh q
      | dct kvs => exact ⟨M, .refl, rh, by simp only [viewD, q]; exact r⟩
      | tab _ => exact ⟨M, .refl, rh, by simp only [viewD, q]; exact r⟩
  | _ => exact ⟨M, .refl, rh, r⟩
theorem view_rep2 {K : KF} {H : Hp} {M : HpD} {d e : D} {v u : V} (rh : RepH K H M) (r : RepD K H M d v) (r2 : RepD K H M e u) : ∃ M', Fz M H M' H ∧ RepH K H M' ∧ RepD K H M' (viewD d M) v ∧ RepD K H M' (viewD e M) u := by
  obtain ⟨M1, f1, rh1, r1⟩ := view_rep rh r
  cases e with
  | ref q =>
    cases z : M q with
    | none => exact ⟨M1, f1, rh1, r1, by simp only [viewD, z]; exact r2.mono f1⟩
    | some o =>
      cases o with
      | lst es =>
        unfold RepD at r2
        subst r2
        have hv : viewD (.ref q) M = .lst es := by simp only [viewD, z]
        rw [hv]
        obtain ⟨o', e', xs, rfl, hr⟩ := rh.at_ q _ z
        refine ⟨delD M1 q, f1.trans fz_del, rh1.del, r1.mono fz_del, ?_⟩
        unfold RepD
        exact ⟨q, xs, rfl, .inl ⟨.inl e', delD_same, rh.nfM z⟩, (hr.mono f1).mono fz_del⟩
      | dct kvs => exact ⟨M1, f1, rh1, r1, by simp only [viewD, z]; exact r2.mono f1⟩
      | tab _ => exact ⟨M1, f1, rh1, r1, by simp only [viewD, z]; exact r2.mono f1⟩
  | _ => exact ⟨M1, f1, rh1, r1, r2.mono f1⟩
@[irreducible] noncomputable def rEqA (neg : Bool) : RD2 := fun x y M Q => okT (viewD x M) (viewD y M) = true ∧ depD (viewD x M) ≤ 60 ∧ Q (.bl (neg ^^ eqD (viewD x M) (viewD y M))) M
theorem rd_eqA {neg : Bool} {x y : D} {M : HpD} {Q : KD} (h : okT (viewD x M) (viewD y M) = true) (hd : depD (viewD x M) ≤ 60) (q : Q (.bl (neg ^^ eqD (viewD x M) (viewD y M))) M) : rEqA neg x y M Q := by unfold rEqA; exact ⟨h, hd, q⟩
section
variable {X : Cx} {k : Nat}
theorem od_eqA (hr : Room k X.A) : OpR X (compareOp .Eq) (LiftR X.K (rEqA false)) := by
  intro pins s σ H x y u v Q I rx ry h
  obtain ⟨F, d, e, M, QD, r1, r2, rh, hq, p⟩ := h
  unfold rEqA at hq
  obtain ⟨ok, hd, q⟩ := hq
  have hun := hr.units
  obtain ⟨M1, f1, rh1, r1', r2'⟩ := view_rep2 rh r1 r2
  have fin : ∀ b : Bool, b = eqD (viewD d M) (viewD e M) → EP X pins σ Q (.bool b) s := fun b hb => by
    subst hb
    exact ⟨.bl _, H, I, rfl, p (.bl (false ^^ eqD (viewD d M) (viewD e M))) M _ H .refl rh (by unfold RepD; simp) q⟩
  generalize viewD d M = d' at *
  generalize viewD e M = e' at *
  cases d' <;> cases e' <;> first | (unfold okT at ok; cases ok; done) | skip
  · rename_i a b
    unfold RepD at r1' r2'
    subst r1' r2'
    have q' : QD (.bl (decide (a = b))) M := by
      unfold eqD at q
      rw [Bool.beq_eq_decide_eq] at q
      simpa using q
    exact op_eq pins s σ H _ _ u v Q I rx ry ⟨rfl, by rw [decV_bl]; exact p _ M _ H .refl rh (by unfold RepD; rfl) q'⟩
  · rename_i a b
    unfold RepD at r1' r2'
    subst r1' r2'
    have q' : QD (.bl (decide (a = b))) M := by
      unfold eqD at q
      rw [Bool.beq_eq_decide_eq] at q
      simpa using q
    exact op_eq pins s σ H _ _ u v Q I rx ry ⟨rfl, by rw [decV_int]; exact p _ M _ H .refl rh (by unfold RepD; rfl) q'⟩
  · rename_i a b
    unfold RepD at r1' r2'
    subst r1' r2'
    have q' : QD (.bl (decide (a = b))) M := by
      unfold eqD at q
      rw [Bool.beq_eq_decide_eq] at q
      simpa using q
    exact op_eq pins s σ H _ _ u v Q I rx ry ⟨rfl, by rw [decV_str]; exact p _ M _ H .refl rh (by unfold RepD; rfl) q'⟩
  · rename_i a b
    unfold RepD at r1' r2'
    obtain ⟨pa, xs, rfl, h1, h2⟩ := r1'
    obtain ⟨pb, ys, rfl, h3, h4⟩ := r2'
    cases rx
    cases ry
    obtain ⟨i1, v1, t1, _⟩ := I.tuple h1.sq
    obtain ⟨i2, v2, t2, _⟩ := I.tuple h3.sq
    unfold okT at ok
    unfold depD at hd
    have l1 : i1.toArray.size = a.length := by rw [List.size_toArray, ← v1.length, h2.length]
    have l2 : i2.toArray.size = b.length := by rw [List.size_toArray, ← v2.length, h4.length]
    refine SeqAt.RcAt.tuples (A := X.A) (s := s) (show s.heap.IsTuple pa i1.toArray from t1) (show s.heap.IsTuple pb i2.toArray from t2) (by omega) (e := fun j => (List.zipWith eqD a b).getD j true) (fun j z1 z2 =>
      eqAtDs I a b X.A.in1 ok (by show X.A.units + 1 + depDs a < cLine; omega) h2 h4 v1 v2 j _ _ (by simp) (by simp)) X.prog X.w X.xe _ ?_
    rw [l1, l2, eqDs_all]
    exact fin _ (by unfold eqD; rfl)
  · rename_i a b
    unfold RepD at r1' r2'
    obtain ⟨pa, xs, rfl, h1, h2⟩ := r1'
    obtain ⟨pb, ys, rfl, h3, h4⟩ := r2'
    cases rx
    cases ry
    obtain ⟨i1, v1, t1, _⟩ := I.list h1.sq
    obtain ⟨i2, v2, t2, _⟩ := I.list h3.sq
    unfold okT at ok
    unfold depD at hd
    have l1 : i1.toArray.size = a.length := by rw [List.size_toArray, ← v1.length, h2.length]
    have l2 : i2.toArray.size = b.length := by rw [List.size_toArray, ← v2.length, h4.length]
    by_cases hl : a.length = b.length
    · refine SeqAt.RcAt.lists (A := X.A) (s := s) t1.isList t2.isList (by rw [l1, l2]; exact hl) (by omega) (e := fun j => (List.zipWith eqD a b).getD j true) (fun j z1 z2 =>
        eqAtDs I a b X.A.in1 ok (by show X.A.units + 1 + depDs a < cLine; omega) h2 h4 v1 v2 j _ _ (by simp) (by simp)) X.prog X.w X.xe _ ?_
      rw [l1, eqDs_all' hl]
      exact fin _ (by unfold eqD; rfl)
    · refine SeqAt.RcAt.lists_lengths t1.isList t2.isList (by rw [l1, l2]; simpa using hl) (by omega) X.prog X.w X.xe _ ?_
      have : eqDs a b = false := by
        cases q : eqDs a b with
        | false => rfl
        | true => exact absurd (eqDs_len q) hl
      exact fin _ (by unfold eqD; rw [this] <;> rfl)
theorem od_neA (hr : Room k X.A) : OpR X (compareOp .NotEq) (LiftR X.K (rEqA true)) := by
  intro pins s σ H x y u v Q I rx ry h
  obtain ⟨F, d, e, M, QD, r1, r2, rh, hq, p⟩ := h
  unfold rEqA at hq
  obtain ⟨ok, hd, q⟩ := hq
  have hun := hr.units
  obtain ⟨M1, f1, rh1, r1', r2'⟩ := view_rep2 rh r1 r2
  have fin : ∀ b : Bool, b = !eqD (viewD d M) (viewD e M) → EP X pins σ Q (.bool b) s := fun b hb => by
    subst hb
    exact ⟨.bl _, H, I, rfl, p (.bl (true ^^ eqD (viewD d M) (viewD e M))) M _ H .refl rh (by unfold RepD; simp) q⟩
  generalize viewD d M = d' at *
  generalize viewD e M = e' at *
  cases d' <;> cases e' <;> first | (unfold okT at ok; cases ok; done) | skip
  · rename_i a b
    unfold RepD at r1' r2'
    subst r1' r2'
    have q' : QD (.bl (!decide (a = b))) M := by
      unfold eqD at q
      rw [Bool.beq_eq_decide_eq] at q
      simpa using q
    exact op_ne pins s σ H _ _ u v Q I rx ry ⟨rfl, by rw [decV_bl]; exact p _ M _ H .refl rh (by unfold RepD; rfl) q'⟩
  · rename_i a b
    unfold RepD at r1' r2'
    subst r1' r2'
    have q' : QD (.bl (!decide (a = b))) M := by
      unfold eqD at q
      rw [Bool.beq_eq_decide_eq] at q
      simpa using q
    exact op_ne pins s σ H _ _ u v Q I rx ry ⟨rfl, by rw [decV_int]; exact p _ M _ H .refl rh (by unfold RepD; rfl) q'⟩
  · rename_i a b
    unfold RepD at r1' r2'
    subst r1' r2'
    have q' : QD (.bl (!decide (a = b))) M := by
      unfold eqD at q
      rw [Bool.beq_eq_decide_eq] at q
      simpa using q
    exact op_ne pins s σ H _ _ u v Q I rx ry ⟨rfl, by rw [decV_str]; exact p _ M _ H .refl rh (by unfold RepD; rfl) q'⟩
  · rename_i a b
    unfold RepD at r1' r2'
    obtain ⟨pa, xs, rfl, h1, h2⟩ := r1'
    obtain ⟨pb, ys, rfl, h3, h4⟩ := r2'
    cases rx
    cases ry
    obtain ⟨i1, v1, t1, _⟩ := I.tuple h1.sq
    obtain ⟨i2, v2, t2, _⟩ := I.tuple h3.sq
    unfold okT at ok
    unfold depD at hd
    have l1 : i1.toArray.size = a.length := by rw [List.size_toArray, ← v1.length, h2.length]
    have l2 : i2.toArray.size = b.length := by rw [List.size_toArray, ← v2.length, h4.length]
    refine SeqAt.RcNeAt.tuples (A := X.A) (s := s) (show s.heap.IsTuple pa i1.toArray from t1) (show s.heap.IsTuple pb i2.toArray from t2) (by omega) (e := fun j => (List.zipWith eqD a b).getD j true) (fun j z1 z2 =>
      eqAtDs I a b X.A.in1 ok (by show X.A.units + 1 + depDs a < cLine; omega) h2 h4 v1 v2 j _ _ (by simp) (by simp)) X.prog X.w X.xe _ ?_
    rw [l1, l2, eqDs_all]
    exact fin _ (by unfold eqD; rfl)
  · rename_i a b
    unfold RepD at r1' r2'
    obtain ⟨pa, xs, rfl, h1, h2⟩ := r1'
    obtain ⟨pb, ys, rfl, h3, h4⟩ := r2'
    cases rx
    cases ry
    obtain ⟨i1, v1, t1, _⟩ := I.list h1.sq
    obtain ⟨i2, v2, t2, _⟩ := I.list h3.sq
    unfold okT at ok
    unfold depD at hd
    have l1 : i1.toArray.size = a.length := by rw [List.size_toArray, ← v1.length, h2.length]
    have l2 : i2.toArray.size = b.length := by rw [List.size_toArray, ← v2.length, h4.length]
    by_cases hl : a.length = b.length
    · refine SeqAt.RcNeAt.lists (A := X.A) (s := s) t1.isList t2.isList (by rw [l1, l2]; exact hl) (by omega) (e := fun j => (List.zipWith eqD a b).getD j true) (fun j z1 z2 =>
        eqAtDs I a b X.A.in1 ok (by show X.A.units + 1 + depDs a < cLine; omega) h2 h4 v1 v2 j _ _ (by simp) (by simp)) X.prog X.w X.xe _ ?_
      rw [l1, eqDs_all' hl]
      exact fin _ (by unfold eqD; rfl)
    · refine SeqAt.RcNeAt.lists_lengths t1.isList t2.isList (by rw [l1, l2]; simpa using hl) (by omega) X.prog X.w X.xe _ ?_
      have : eqDs a b = false := by
        cases q : eqDs a b with
        | false => rfl
        | true => exact absurd (eqDs_len q) hl
      exact fin _ (by unfold eqD; rw [this] <;> rfl)
noncomputable def tyName : D → Option String
  | .non => some "NoneType"
  | .bl _ => some "bool"
  | .int _ => some "int"
  | .str _ => some "str"
  | .tup _ => some "tuple"
  | .lst _ => some "list"
  | _ => none
noncomputable def isSub (a b : String) : Bool := a == b || (a == "bool" && b == "int")
noncomputable def plainTys : List String := ["int", "bool", "str", "tuple", "list"]
theorem kit_plain (K : PySem.W.Frag) : (plainTys ++ ["NoneType"]).all (fun a => plainTys.all fun b => PySem.W.kitOne K (.type a) (.type b) == some (isSub a b)) = true := by
  first | rfl | decide +kernel | simp [plainTys, PySem.W.kitOne]
end
end L2
namespace L2
open PySem PySem.Spec PyProof.Rows
section
variable {X : Cx}
theorem kit_at (K : PySem.W.Frag) {a b : String} (ha : a ∈ plainTys ++ ["NoneType"]) (hb : b ∈ plainTys) : PySem.W.kitOne K (.type a) (.type b) = some (isSub a b) := by
  have h := kit_plain K
  rw [List.all_eq_true] at h
  have h1 := h a ha
  rw [List.all_eq_true] at h1
  exact beq_iff_eq.mp (h1 b hb)
@[irreducible] noncomputable def cIsi : RDn := fun xs M Q => ∃ x n t, xs = [x, .ty n] ∧ tyName (viewD x M) = some t ∧ n ∈ plainTys ∧ Q (.bl (isSub t n)) M
theorem rd_isi {x : D} {n t : String} {M : HpD} {Q : KD} (h : tyName (viewD x M) = some t) (hn : n ∈ plainTys) (q : Q (.bl (isSub t n)) M) : cIsi [x, .ty n] M Q := by unfold cIsi; exact ⟨x, n, t, rfl, h, hn, q⟩
theorem cd_isi : CallR X (.builtin "isinstance") (LiftC X.K cIsi) := by
  intro pins s σ H xs us Q I rx h
  obtain ⟨F, ds, M, QD, r, rh, hq, p⟩ := h
  unfold cIsi at hq
  obtain ⟨d, n, t, rfl, ht, hn, q⟩ := hq
  obtain ⟨v, w', rfl, r1, r2⟩ := rep2 r
  unfold RepD at r2
  subst r2
  obtain ⟨u, z, rfl, ru, rz⟩ := vals2 rx
  obtain rfl : z = Value.type n := rz
  obtain ⟨M1, f1, rh1, rv⟩ := view_rep rh r1
  have fin : ∀ tk, EP X pins σ Q (.bool (isSub t n)) { s with toks := tk } := fun tk => ⟨.bl _, H, I.tok tk, rfl, p _ M _ H .refl rh (by unfold RepD; rfl) q⟩
  generalize viewD d M = d' at *
  cases d' with
  | non => cases ht; unfold RepD at rv; subst rv; exact isinst_ok I ru .non (kit_at _ (by simp [plainTys]) hn) fin
  | bl b => cases ht; unfold RepD at rv; subst rv; exact isinst_ok I ru (.bl b) (kit_at _ (by simp [plainTys]) hn) fin
  | int b => cases ht; unfold RepD at rv; subst rv; exact isinst_ok I ru (.int b) (kit_at _ (by simp [plainTys]) hn) fin
  | str b => cases ht; unfold RepD at rv; subst rv; exact isinst_ok I ru (.str b) (kit_at _ (by simp [plainTys]) hn) fin
  | ref b => cases ht
  | ty b => cases ht
  | tup ds =>
    cases ht
    unfold RepD at rv
    obtain ⟨a, xs, rfl, h1, h2⟩ := rv
    cases (show u = Value.ref a from ru)
    obtain ⟨its, _, ⟨o, e1, e2, _⟩, _⟩ := I.tuple h1.sq
    exact PySem.W.kia_one PySem.W.kitx_tuple I.kIn ⟨o, e1, e2⟩ (kit_at _ (by simp [plainTys]) hn) (fun z => nomatch z) fin
  | lst ds =>
    cases ht
    unfold RepD at rv
    obtain ⟨a, xs, rfl, h1, h2⟩ := rv
    cases (show u = Value.ref a from ru)
    obtain ⟨its, _, pl, _⟩ := I.list h1.sq
    obtain ⟨o, e1, e2, _⟩ := pl.isList
    exact PySem.W.kia_one PySem.W.kitx_list I.kIn ⟨o, e1, e2⟩ (kit_at _ (by simp [plainTys]) hn) (fun z => nomatch z) fin
@[irreducible] noncomputable def tAppD (to te : TDE) : TDE := fun σ M Q => to σ M fun x M1 => ∃ p, x = .ref p ∧ (∃ ds1, M1 p = some (.lst ds1)) ∧ te σ M1 fun y M2 => ∃ ds, M2 p = some (.lst ds) ∧ ds.length < sizeLine ∧ Q .non (updD M2 p (.lst (ds ++ [y])))
theorem rd_app {to te : TDE} {σ : SD} {M : HpD} {Q : KD} (h : to σ M fun x M1 => ∃ p, x = .ref p ∧ (∃ ds1, M1 p = some (.lst ds1)) ∧ te σ M1 fun y M2 => ∃ ds, M2 p = some (.lst ds) ∧ ds.length < sizeLine ∧ Q .non (updD M2 p (.lst (ds ++ [y])))) : tAppD to te σ M Q := by unfold tAppD; exact h
variable {o e : Expr} {to te : TDE} {apos cpos : Pos}
theorem ed_app (ho : ED X o to) (he : ED X e te) (hbase : attributeBase o "append" X.env (eval o X.env) = eval o X.env := by rfl)
    (hfew : ((backTo cpos (starEach (e :: []) X.env)).all (fun x => !x.1) && (backToKw cpos (keywordEach [] X.env)).all (fun x => x.1.isSome)
      && decide ((e :: []).length + ([] : List Keyword).length + (if ([] : List Keyword).isEmpty then 0 else 1) < 30)) = true := by rfl)
    (hline : (apos.endLine == cpos.line) = true := by rfl) (hs : starEach (e :: []) X.env = (false, eval e X.env) :: starEach [] X.env := by rfl) (hplain : (backTo cpos (starEach [] X.env)).any (·.1) = false := by rfl) :
    ED X (.Call (.Attribute o "append" apos) [e] [] cpos) (tAppD to te) := by
  refine (pe_bm PySem.F.plainAttrs_list PySem.F.slot_list_append PySem.F.type_list_append (r := rAppend) mt_append ho (pa_cons he pa_nil hs) hbase hfew hline hs hplain).wk fun σ H Q h => ?_
  obtain ⟨F, σD, M, QD, rel, h, p⟩ := h
  unfold tAppD at h
  refine lE rel h fun d M1 v H1 f1 rel1 r1 h1 => ?_
  obtain ⟨l, rfl, ⟨ds1, e1⟩, h1⟩ := h1
  unfold RepD at r1
  subst r1
  obtain ⟨o', e', xs, rfl, hr⟩ := rel1.hp.at_ l _ e1
  refine ⟨.inl ⟨rfl, xs, .inl (.inl e')⟩, ?_⟩
  show LiftE X.K te σ H1 _
  refine lE rel1 h1 fun y M2 u H2 f2 rel2 r2 h2 => ?_
  obtain ⟨ds, e2, hl, q⟩ := h2
  obtain ⟨o2, e2', ys, rfl, hr2⟩ := rel2.hp.at_ l _ e2
  have r3 : RepO ⟨X.K, F⟩ H2 M2 (.lst (ds ++ [y])) (.lst (ys ++ [u])) := ⟨_, rfl, hr2.append (.cons r2 .nil)⟩
  exact ⟨l, ys, u, rfl, rfl, e2', by rw [← hr2.length]; exact hl, p _ _ _ _ ((f1.trans f2).trans (fz_write e2)) (rel2.hp.write e2 r3) (by unfold RepD; rfl) q⟩
end
noncomputable def startD (N : List Str) (ds : List D) : SD := ds.map some ++ List.replicate (N.length - ds.length) none
theorem start_rel {K : KF} {H : Hp} {M : HpD} {N : List Str} {ds : List D} {vs : List V} (r : RepDs K H M ds vs) (rh : RepH K H M) : Rel K (startD N ds) M (start N vs) H := by
  have hl := r.length
  refine ⟨by unfold startD start; simp [hl], fun i d e => ?_, rh⟩
  unfold startD at e
  by_cases hi : i < ds.length
  · rw [List.getElem?_append_left (by simpa using hi), List.getElem?_map] at e
    cases q : ds[i]? with
    | none => rw [q] at e; cases e
    | some d' =>
      rw [q] at e; cases e
      obtain ⟨v, e1, e2⟩ := r.get q
      refine ⟨v, ?_, e2⟩
      unfold start
      rw [List.getElem?_append_left (by rw [List.length_map, ← hl]; exact hi), List.getElem?_map, e1]
      rfl
  · rw [List.getElem?_append_right (by simpa using hi), List.getElem?_replicate] at e
    split at e <;> cases e
section
variable {P : Program} {w : World} {K : PySem.W.Frag} {mg : Str → Option Value} {base : Heap}
theorem Fun.okD {x qual : Str} {st : Stmt} {f : Addr} {fd : FuncData} {N ps : List Str} {k : Nat} {sp : SpD} {t : TSD} (F : Fun K x qual st f fd) (S : FnScope N ps (defScope st)) (len : ∀ ds M Q, sp ds M Q → ds.length = ps.length)
    (hterm : ∀ (cdv : Value) (A : Around) (outer : List Env) (s : Shared) (H : Hp) (E : XK), Room k (A.deeper (envOfC qual (defScope st) s.heap.objs.size f cdv)) →
      SsD (cxOf CX0 P w K mg base N qual (defScope st) f cdv A outer s H E).nox (defBody st) t)
    (hread : ∀ ds M Q, sp ds M Q → t { nx := fun _ M' => Q .non M', rt := Q } (startD N ds) M) : FnOk P w K mg base CX0 (k + 1) f fd ps (LiftP K sp) := by
  refine F.ok S (fun vs H Q E h => ?_) (fun cdv A outer s H vs Q E hr h => ?_)
  · obtain ⟨F', ds, M, QD, r, rh, hsp, p⟩ := h
    rw [← r.length]
    exact len _ _ _ hsp
  · obtain ⟨F', ds, M, QD, r, rh, hsp, p⟩ := h
    refine ⟨LiftS K t, hterm cdv A outer s H E hr, F', startD N ds, M, _, start_rel r rh, hread ds M QD hsp, ⟨fun σD' M' σ' H' f rel q => p _ M' _ H' f rel.hp (by unfold RepD; rfl) q, p, fun _ _ _ _ _ _ h => h.elim, fun _ _ _ _ _ _ h => h.elim⟩⟩
theorem Fun.cal {x qual : Str} {st : Stmt} {f : Addr} {fd : FuncData} {ps : List Str} {k : Nat} {sp : SpD} (F : Fun K x qual st f fd) (ok : FnOk P w K mg base CX0 k f fd ps (LiftP K sp)) (hm : mg x = some (.ref f)) (hb : Binds K fd ps []) : Cal P w K mg base x k sp :=
  ⟨f, fd, ps, ok, hm, F.kp, hb⟩
end
noncomputable def compChk (scope out : Scope) (N ts rest : List Str) : Bool :=
  scope.kind == .function && scope.names.all (fun y => scope.names.lookup y.1 == some y.2) &&
  scope.names.all (fun y => y.2 != .free || out.names.lookup y.1 == some .cell || out.names.lookup y.1 == some .free) && rest.length == N.length &&
  (rest.zip N).all (fun q => match scope.names.lookup q.1 with | none => true | some .free => q.1 == q.2 | some .local => false | some .cell => false | _ => true) && decide (ts ++ rest).Nodup
theorem compChk_ok {X : Cx} {scope out : Scope} {N ts rest : List Str} (h : compChk scope out N ts rest = true) (hs : X.env.scope.names = out.names := by rfl) (hN : X.N = N := by rfl) : CompScope X scope ts rest := by
  unfold compChk at h
  simp only [Bool.and_eq_true] at h
  obtain ⟨⟨⟨⟨⟨h1, h2⟩, h3⟩, h4⟩, h5⟩, h6⟩ := h
  rw [List.all_eq_true] at h2 h3 h5
  have look : ∀ y ∈ scope.names, scope.names.lookup y.1 = some y.2 := fun y hy => beq_iff_eq.mp (h2 y hy)
  refine ⟨beq_iff_eq.mp h1, fun y hy e => by rw [look y hy, e], fun y hy e => ?_, look, by rw [hN]; exact beq_iff_eq.mp h4, fun i x e => ?_, of_decide_eq_true h6⟩
  · have := h3 y hy
    rw [e] at this
    simp only [bne_self_eq_false, Bool.false_or, Bool.or_eq_true, beq_iff_eq] at this
    show X.env.scope.names.lookup y.1 = _ ∨ X.env.scope.names.lookup y.1 = _
    rw [hs]
    exact this
  · have hi : i < rest.length := (List.getElem?_eq_some_iff.mp e).1
    have hl : rest.length = N.length := beq_iff_eq.mp h4
    have hz : (rest.zip N)[i]? = some (x, N[i]'(by omega)) := by
      rw [List.getElem?_zip_eq_some]
      exact ⟨e, List.getElem?_eq_getElem (by omega)⟩
    have := h5 _ (List.mem_of_getElem? hz)
    cases q : scope.names.lookup x with
    | none => exact .inl rfl
    | some k =>
      rw [show scope.names.lookup (x, N[i]'(by omega)).1 = some k from q] at this
      cases k with
      | free =>
        refine .inr (.inl ⟨rfl, ?_⟩)
        have : x = N[i]'(by omega) := beq_iff_eq.mp this
        rw [hN, List.getElem?_eq_getElem (by omega)]
        exact congrArg some this.symm
      | «local» => cases this
      | cell => cases this
      | _ => exact .inr (.inr ⟨_, rfl, by decide, by decide, by decide⟩)
end L2
namespace L2
open PySem PySem.Spec PyProof.Rows
noncomputable abbrev rAddD : RD2 := rIN fun i j => .int (i + j)
noncomputable abbrev rMulD : RD2 := rID CMul fun i j => .int (i * j)
noncomputable abbrev rDivD : RD2 := rID CDiv fun i j => .int (i / j)
noncomputable abbrev rModD : RD2 := rID (fun _ j => 0 < j) fun i j => .int (i % j)
noncomputable abbrev rPowD : RD2 := rID CPow fun i j => .int (i ^ j.toNat)
noncomputable abbrev rLtD : RD2 := rIN fun i j => .bl (decide (i < j))
noncomputable abbrev rLeD : RD2 := rIN fun i j => .bl (decide (i ≤ j))
noncomputable abbrev rGtD : RD2 := rIN fun i j => .bl (decide (j < i))
noncomputable abbrev rGeD : RD2 := rIN fun i j => .bl (decide (j ≤ i))
noncomputable def spLaw : SpD := fun ds M Q => ∃ ns : List Int, ds = [.lst (ns.map D.int)] ∧ ns.length ≤ 63 ∧ M = (fun _ => none) ∧ ∀ M', Q (.bl true) M'
theorem law_in {K : PySem.W.Frag} {H : Hp} {a : Addr} {ns : List Int} (hl : ns.length ≤ 63) (hS : SqL K H a (ns.map V.int)) : LiftP K spLaw [.ref a] H (fun v _ => v = .bl true) fun _ _ _ => False := by
  have ri : ∀ {K : KF} {H : Hp} {M : HpD} (l : List Int), RepDs K H M (l.map D.int) (l.map V.int) := fun {K H M} l => by
    induction l with
    | nil => exact .nil
    | cons x r ih => exact .cons (by unfold RepD; rfl) ih
  refine ⟨fun _ => False, [.lst (ns.map D.int)], fun _ => none, fun d _ => d = .bl true, .cons ?_ .nil, ⟨(fun _ _ e => nomatch e), fun _ z => False.elim z⟩, ⟨ns, rfl, hl, rfl, fun _ => rfl⟩, fun d M' v H' _ _ r e => ?_⟩
  · unfold RepD
    refine ⟨a, _, rfl, ?_, ri ns⟩
    rcases hS with h | h
    · exact .inl ⟨h, rfl, fun z => z⟩
    · exact .inr (.inr h)
  · subst e
    unfold RepD at r
    exact r
end L2
namespace L2
open PySem PySem.W PyProof.Rows
section
variable {r : Nat → Int} {n : Nat}
noncomputable def PermN (n : Nat) (p : Array Nat) : Prop := p.Perm (List.range n).toArray
theorem PermN.size {p : Array Nat} (h : PermN n p) : p.size = n := by
  have := h.size_eq
  simpa using this
noncomputable def rkV (r : Nat → Int) (p : Array Nat) (k : Nat) : Int := r (p.getD k 0)
noncomputable def Srt (r : Nat → Int) (p : Array Nat) (m : Nat) : Prop := ∀ i j, i ≤ j → j < m → rkV r p i ≤ rkV r p j
noncomputable abbrev rlt (r : Nat → Int) : Nat → Nat → Bool := fun i j => decide (r i < r j)
end
end L2
namespace L2
open PySem PySem.W PyProof.Rows
section
variable {prog : Program} {w : World} {A : Around} {E : Value → Shared → Prop} {s : Shared}
noncomputable def sortAns (vs : List Value) (p : Array Nat) : Array Value := (p.toList.map fun i => vs.getD i Value.none).toArray
theorem sortAns_id (vs : List Value) : sortAns vs (List.range vs.length).toArray = vs.toArray := by
  unfold sortAns
  congr 1
  apply List.ext_getElem?
  intro i
  rw [List.getElem?_map]
  by_cases h : i < vs.length
  · rw [List.getElem?_range h, List.getElem?_eq_getElem h]
    simp [List.getD_eq_getElem?_getD, h]
  · rw [List.getElem?_eq_none (by simp; omega), List.getElem?_eq_none (by omega)]
    rfl
noncomputable def AskRk (prog : Program) (w : World) (A : Around) (s : Shared) (vs ks : List Value) (a : Addr) (r : Nat → Int) : Prop :=
  2 ≤ vs.length → ∀ h' : Heap, (∀ b o, b ≠ a → s.heap.get? b = some o → h'.get? b = some o) → ∃ κ : SortKind,
    (∀ (Q : SortKind → Shared → Prop) (E : Value → Shared → Prop), Q κ { s with heap := h' } → wpAny (model prog w) A (keyKind' ks.toArray) Q E { s with heap := h' }) ∧
    ∀ i j, i < vs.length → j < vs.length → ∀ C : Bool → Shared → Prop, C (rlt r i j) { s with heap := h' } → wpAny (model prog w) A (keyLt' κ (ks.getD i Value.none) (ks.getD j Value.none)) C (fun _ _ => False) { s with heap := h' }
end
end L2
namespace L2
open PySem PySem.Spec PyProof.Rows
structure LinLt {α : Type} (lt : α → α → Bool) : Prop where
  irr : ∀ a, lt a a = false
  tr : ∀ a b c, lt a b = true → lt b c = true → lt a c = true
  tot : ∀ a b, lt a b = false → lt b a = false → a = b
noncomputable def rankA {α : Type} (lt : α → α → Bool) (as : List α) (a : α) : Int := ((as.countP fun b => lt b a : Nat) : Int)
theorem countP_lt {α : Type} {p q : α → Bool} : ∀ {l : List α}, (∀ x ∈ l, p x = true → q x = true) → ∀ {y : α}, y ∈ l → q y = true → p y = false → l.countP p < l.countP q
  | [], _, _, h, _, _ => nomatch h
  | x :: r, hpq, y, h, hq, hp => by
    have hle : r.countP p ≤ r.countP q := List.countP_mono_left fun z hz => hpq z (List.mem_cons_of_mem _ hz)
    rcases List.mem_cons.mp h with rfl | h
    · rw [List.countP_cons_of_neg (by rw [hp]; exact Bool.false_ne_true), List.countP_cons_of_pos hq]; omega
    · have ih := countP_lt (l := r) (fun z hz => hpq z (List.mem_cons_of_mem _ hz)) h hq hp
      by_cases a : p x = true
      · rw [List.countP_cons_of_pos a, List.countP_cons_of_pos (hpq x List.mem_cons_self a)]; omega
      · rw [List.countP_cons_of_neg a]
        by_cases b : q x = true
        · rw [List.countP_cons_of_pos b]; omega
        · rw [List.countP_cons_of_neg b]; exact ih
theorem rank_lt {α : Type} {lt : α → α → Bool} (L : LinLt lt) {as : List α} {a b : α} (ha : a ∈ as) (hb : b ∈ as) : decide (rankA lt as a < rankA lt as b) = lt a b := by
  unfold rankA
  cases q : lt a b with
  | true =>
    have := countP_lt (p := fun c => lt c a) (q := fun c => lt c b) (l := as) (fun x _ h => L.tr x a b h q) ha q (L.irr a)
    exact decide_eq_true (by omega)
  | false =>
    have : as.countP (fun c => lt c b) ≤ as.countP (fun c => lt c a) := List.countP_mono_left fun x _ h => by
      cases z : lt b a with
      | true => exact L.tr x b a h z
      | false => rw [L.tot a b q z]; exact h
    exact decide_eq_false (by omega)
noncomputable def ltF : D → D → Bool
  | .int a, .int b => decide (a < b)
  | .str a, .str b => decide (a.cps.toList < b.cps.toList)
  | _, _ => false
noncomputable def cmpF : D → D → Bool
  | .int _, .int _ => true
  | .str _, .str _ => true
  | _, _ => false
noncomputable def ltT : List D → List D → Bool
  | a :: r, b :: s => if eqD a b = true then ltT r s else ltF a b
  | [], _ :: _ => true
  | _, _ => false
noncomputable def cmpT : List D → List D → Bool
  | a :: r, b :: s => okD a b && (if eqD a b = true then cmpT r s else cmpF a b)
  | _, _ => true
noncomputable def ltD : D → D → Bool
  | .tup a, .tup b => ltT a b
  | d, e => ltF d e
inductive SrtK (ds : List D) : Prop
  | kI (h : ∀ d ∈ ds, ∃ i, d = .int i)
  | kS (h : ∀ d ∈ ds, ∃ i, d = .str i)
  | tupI (h : ∀ d ∈ ds, ∃ i r, d = .tup (.int i :: r) ∧ depDs (.int i :: r) ≤ 60) (c : ∀ a b, D.tup a ∈ ds → D.tup b ∈ ds → cmpT a b = true)
  | tupS (h : ∀ d ∈ ds, ∃ i r, d = .tup (.str i :: r) ∧ depDs (.str i :: r) ≤ 60) (c : ∀ a b, D.tup a ∈ ds → D.tup b ∈ ds → cmpT a b = true)
section
variable {X : Cx} {pins : List (Addr × Obj)} {σ : St} {H : Hp} {s : Shared} {F : Addr → Prop} {M : HpD}
theorem oneLt_D {fl : Bool} {A : Around} {E : Value → Shared → Prop} {a b : D} {x y : V} {u v : Value} {Q : Bool → Shared → Prop} (c : cmpF a b = true) (r1 : RepD ⟨X.K, F⟩ H M a x) (r2 : RepD ⟨X.K, F⟩ H M b y) (q1 : RelV x u) (q2 : RelV y v) (h : Q (ltF a b) s) :
    wpAny (model X.prog X.w) A (oneLt' fl u v) Q E s := by
  cases a <;> cases b <;> first | (unfold cmpF at c; cases c; done) | skip
  · unfold RepD at r1 r2
    subst r1 r2
    obtain ⟨t1, rfl⟩ := q1
    obtain ⟨t2, rfl⟩ := q2
    cases fl with
    | true => exact oneLt_int h
    | false => exact PySem.W.kat_one _ _ (PyProof.Rows.lt_int h)
  · unfold RepD at r1 r2
    subst r1 r2
    obtain ⟨t1, rfl⟩ := q1
    obtain ⟨t2, rfl⟩ := q2
    cases fl with
    | true => exact oneLt_str h
    | false => exact PySem.W.kat_one _ _ (PyProof.Rows.lt_str h)
theorem katlex_D (I : Inv X pins σ H s) {A : Around} {fin : Bool} {Q : Bool → Shared → Prop} : ∀ (as bs : List D) {xs ys : List V} {us vs : List Value} (i : Nat), cmpT as bs = true → A.units + depDs as < cLine → RepDs ⟨X.K, F⟩ H M as xs → RepDs ⟨X.K, F⟩ H M bs ys → Vals xs us → Vals ys vs → fin = decide (us.length < vs.length) → Q (ltT as bs) s → PySem.W.KatLex X.prog X.w A true fin Q (us.zip vs) i s
  | [], bs, xs, ys, us, vs, i, c, hu, r1, r2, q1, q2, hf, h => by
    have l1 : us.length = 0 := by rw [← q1.length, ← r1.length]; rfl
    have : us = [] := List.length_eq_zero_iff.mp l1
    subst this
    rw [List.zip_nil_left]
    refine PySem.W.kat_nil ?_
    have l2 : vs.length = bs.length := by rw [← q2.length, ← r2.length]
    rw [hf]
    cases bs with
    | nil => rw [show decide (([] : List Value).length < vs.length) = false from decide_eq_false (by rw [l2]; exact Nat.lt_irrefl _)]; unfold ltT at h; exact h
    | cons b t => rw [show decide (([] : List Value).length < vs.length) = true from decide_eq_true (by rw [l2]; exact Nat.succ_pos _)]; unfold ltT at h; exact h
  | a :: r, bs, xs, ys, us, vs, i, c, hu, r1, r2, q1, q2, hf, h => by
    cases bs with
    | nil =>
      have l2 : vs.length = 0 := by rw [← q2.length, ← r2.length]; rfl
      have : vs = [] := List.length_eq_zero_iff.mp l2
      subst this
      rw [List.zip_nil_right]
      refine PySem.W.kat_nil ?_
      rw [hf, show decide (us.length < ([] : List Value).length) = false from decide_eq_false (Nat.not_lt_zero _)]
      unfold ltT at h
      exact h
    | cons b t =>
      unfold RepDs at r1 r2
      obtain ⟨x, xr, rfl, ra, rr⟩ := r1
      obtain ⟨y, yr, rfl, rb, rt⟩ := r2
      cases q1 with
      | cons p1 p2 =>
        cases q2 with
        | cons p3 p4 =>
          rw [List.zip_cons_cons]
          unfold cmpT at c
          rw [Bool.and_eq_true] at c
          unfold depDs at hu
          refine PySem.W.kat_cons ?_
          refine eqAtD I a b A c.1 (by omega) ra rb p1 p3 X.prog X.w _ _ ?_
          unfold ltT at h
          cases e : eqD a b with
          | true =>
            rw [e] at c h
            rw [if_pos rfl] at h
            refine PySem.W.kat_yes ?_
            refine katlex_D I r t (i + 1) (by simpa using c.2) (by omega) rr rt p2 p4 ?_ h
            rw [hf]
            simp only [List.length_cons]
            congr 1
            simp
          | false =>
            rw [e] at c h
            rw [if_neg Bool.false_ne_true] at h
            refine PySem.W.kat_no ?_
            exact oneLt_D (by simpa using c.2) ra rb p1 p3 h
theorem katTups_D (I : Inv X pins σ H s) : ∀ (ds : List D) {xs : List V} {us : List Value}, (∀ d ∈ ds, ∃ h r, d = .tup (h :: r)) → RepDs ⟨X.K, F⟩ H M ds xs → Vals xs us →
    ∃ (fs : List Value), fs.length = us.length ∧ PySem.W.KatTups s.heap us fs ∧ ∀ f ∈ fs, ∃ h r x, D.tup (h :: r) ∈ ds ∧ RepD ⟨X.K, F⟩ H M h x ∧ RelV x f
  | [], xs, us, _, r, q => by
    unfold RepDs at r
    subst r
    cases q
    exact ⟨[], rfl, .nil, fun f hf => nomatch hf⟩
  | d :: ds, xs, us, hd, r, q => by
    unfold RepDs at r
    obtain ⟨x, xr, rfl, r1, r2⟩ := r
    cases q with
    | cons q1 q2 =>
      obtain ⟨hh, tl, rfl⟩ := hd _ List.mem_cons_self
      obtain ⟨fs, l, kt, hf⟩ := katTups_D I ds (fun d h => hd d (List.mem_cons_of_mem _ h)) r2 q2
      unfold RepD at r1
      obtain ⟨p, ys, rfl, h1, h2⟩ := r1
      cases q1
      obtain ⟨its, v1, ⟨o, ho, hc, n, hdt⟩, _⟩ := I.tuple h1.sq
      unfold RepDs at h2
      obtain ⟨y, yr, rfl, ry, _⟩ := h2
      cases v1 with
      | @cons _ u0 _ _ z1 z2 =>
        refine ⟨u0 :: fs, by simp [l], .cons ho hc hdt (by simp) kt, fun f hf' => ?_⟩
        rcases List.mem_cons.mp hf' with rfl | hf'
        · exact ⟨hh, tl, y, List.mem_cons_self, ry, z1⟩
        · obtain ⟨h', r', x', m1, m2, m3⟩ := hf f hf'
          exact ⟨h', r', x', List.mem_cons_of_mem _ m1, m2, m3⟩
theorem ask_D (I : Inv X pins σ H s) {A : Around} {ds : List D} {xs : List V} {us : List Value} (hA : A.units + 70 < cLine) (h2 : 2 ≤ us.length) (k : SrtK ds) (r : RepDs ⟨X.K, F⟩ H M ds xs) (q : Vals xs us) : ∃ κ : SortKind,
    (∀ (Q : SortKind → Shared → Prop) (E : Value → Shared → Prop), Q κ s → wpAny (model X.prog X.w) A (keyKind' us.toArray) Q E s) ∧
    ∀ (i j : Nat) (d e : D), ds[i]? = some d → ds[j]? = some e → ∀ C : Bool → Shared → Prop, C (ltD d e) s → wpAny (model X.prog X.w) A (keyLt' κ (us.getD i Value.none) (us.getD j Value.none)) C (fun _ _ => False) s := by
  have at_ : ∀ (i : Nat) (d : D), ds[i]? = some d → ∃ x u, RepD ⟨X.K, F⟩ H M d x ∧ RelV x u ∧ us.getD i Value.none = u ∧ u ∈ us := fun i d e => by
    obtain ⟨x, e1, r1⟩ := r.get e
    obtain ⟨u, e2, q1⟩ := q.get e1
    exact ⟨x, u, r1, q1, by rw [List.getD_eq_getElem?_getD, e2]; rfl, List.mem_of_getElem? e2⟩
  have back : ∀ u ∈ us, ∃ d x, d ∈ ds ∧ RepD ⟨X.K, F⟩ H M d x ∧ RelV x u := fun u hu => by
    obtain ⟨i, hi, e⟩ := List.getElem_of_mem hu
    have hx : i < xs.length := by rw [q.length]; exact hi
    obtain ⟨u', e2, q1⟩ := q.get (List.getElem?_eq_getElem hx)
    rw [List.getElem?_eq_getElem hi, e] at e2
    cases e2
    obtain ⟨d, e3, r1⟩ := r.get' (List.getElem?_eq_getElem hx)
    exact ⟨d, _, List.mem_of_getElem? e3, r1, q1⟩
  have tups : (∀ d ∈ ds, ∃ h t, d = .tup (h :: t)) → ∀ (T : String), (∀ h t x u, D.tup (h :: t) ∈ ds → RepD ⟨X.K, F⟩ H M h x → RelV x u → PySem.W.Looks (model X.prog X.w) s.heap (typeOf u) (.type T)) → ((Value.type T != Value.type "tuple") = true) → ((Value.type T == Value.type T) = true) →
      (∀ d ∈ ds, ∃ l, d = .tup l ∧ depDs l ≤ 60) → (∀ a b, D.tup a ∈ ds → D.tup b ∈ ds → cmpT a b = true) → ∃ κ : SortKind,
    (∀ (Q : SortKind → Shared → Prop) (E : Value → Shared → Prop), Q κ s → wpAny (model X.prog X.w) A (keyKind' us.toArray) Q E s) ∧
    ∀ (i j : Nat) (d e : D), ds[i]? = some d → ds[j]? = some e → ∀ C : Bool → Shared → Prop, C (ltD d e) s → wpAny (model X.prog X.w) A (keyLt' κ (us.getD i Value.none) (us.getD j Value.none)) C (fun _ _ => False) s := by
    intro hd T hT hT1 hT2 hdep hc
    obtain ⟨fs, hl, kt, hf⟩ := katTups_D I ds hd r q
    refine ⟨tuples' true, fun Q E h => ?_, fun i j d e e1 e2 C h => ?_⟩
    · refine PySem.W.kat_kind (T := .type T) kt (by omega) (fun f hf' => ?_) hT2 (by rw [hT1]; exact h)
      obtain ⟨h', t', x', m1, m2, m3⟩ := hf f hf'
      exact hT h' t' x' f m1 m2 m3
    · obtain ⟨x1, u1, r1, q1, g1, _⟩ := at_ i d e1
      obtain ⟨x2, u2, r2, q2, g2, _⟩ := at_ j e e2
      have md := List.mem_of_getElem? e1
      have me := List.mem_of_getElem? e2
      obtain ⟨l1, rfl, dp⟩ := hdep d md
      obtain ⟨l2, rfl, _⟩ := hdep e me
      rw [g1, g2]
      unfold RepD at r1 r2
      obtain ⟨p1, ys1, rfl, s1, rs1⟩ := r1
      obtain ⟨p2, ys2, rfl, s2, rs2⟩ := r2
      cases q1
      cases q2
      obtain ⟨i1, v1, ⟨o1, ho1, _, n1, hd1⟩, _⟩ := I.tuple s1.sq
      obtain ⟨i2, v2, ⟨o2, ho2, _, n2, hd2⟩, _⟩ := I.tuple s2.sq
      refine PySem.W.kat_lt ho1 hd1 ho2 hd2 ?_
      exact katlex_D I l1 l2 0 (hc _ _ md me) (by omega) rs1 rs2 v1 v2 (by simp) h
  cases k with
  | kI h =>
    refine ⟨oneType', fun Q E hq => ?_, fun i j d e e1 e2 C hC => ?_⟩
    · refine PySem.W.kas_kind (T := .type "int") h2 (fun u hu => ?_) (by decide) (by decide) hq
      obtain ⟨d, x, md, r1, q1⟩ := back u hu
      obtain ⟨n, rfl⟩ := h d md
      unfold RepD at r1
      subst r1
      obtain ⟨t, rfl⟩ := q1
      exact PySem.W.Looks.of_pure rfl
    · obtain ⟨x1, u1, r1, q1, g1, _⟩ := at_ i d e1
      obtain ⟨x2, u2, r2, q2, g2, _⟩ := at_ j e e2
      obtain ⟨n1, rfl⟩ := h d (List.mem_of_getElem? e1)
      obtain ⟨n2, rfl⟩ := h e (List.mem_of_getElem? e2)
      rw [g1, g2, keyLt'_oneType]
      exact oneLt_D (by rfl) r1 r2 q1 q2 hC
  | kS h =>
    refine ⟨oneType', fun Q E hq => ?_, fun i j d e e1 e2 C hC => ?_⟩
    · refine PySem.W.kas_kind (T := .type "str") h2 (fun u hu => ?_) (by decide) (by decide) hq
      obtain ⟨d, x, md, r1, q1⟩ := back u hu
      obtain ⟨n, rfl⟩ := h d md
      unfold RepD at r1
      subst r1
      obtain ⟨t, rfl⟩ := q1
      exact PySem.W.Looks.of_pure rfl
    · obtain ⟨x1, u1, r1, q1, g1, _⟩ := at_ i d e1
      obtain ⟨x2, u2, r2, q2, g2, _⟩ := at_ j e e2
      obtain ⟨n1, rfl⟩ := h d (List.mem_of_getElem? e1)
      obtain ⟨n2, rfl⟩ := h e (List.mem_of_getElem? e2)
      rw [g1, g2, keyLt'_oneType]
      exact oneLt_D (by rfl) r1 r2 q1 q2 hC
  | tupI h c =>
    refine tups (fun d hd => ?_) "int" (fun hh t x u m r1 q1 => ?_) (by decide) (by decide) (fun d hd => ?_) c
    · obtain ⟨i, r, rfl, _⟩ := h d hd; exact ⟨_, _, rfl⟩
    · obtain ⟨i, r, e, _⟩ := h _ m
      cases e
      unfold RepD at r1
      subst r1
      obtain ⟨t, rfl⟩ := q1
      exact PySem.W.Looks.of_pure rfl
    · obtain ⟨i, r, rfl, z⟩ := h d hd; exact ⟨_, rfl, z⟩
  | tupS h c =>
    refine tups (fun d hd => ?_) "str" (fun hh t x u m r1 q1 => ?_) (by decide) (by decide) (fun d hd => ?_) c
    · obtain ⟨i, r, rfl, _⟩ := h d hd; exact ⟨_, _, rfl⟩
    · obtain ⟨i, r, e, _⟩ := h _ m
      cases e
      unfold RepD at r1
      subst r1
      obtain ⟨t, rfl⟩ := q1
      exact PySem.W.Looks.of_pure rfl
    · obtain ⟨i, r, rfl, z⟩ := h d hd; exact ⟨_, rfl, z⟩
end
end L2
namespace L2
open PySem PySem.Spec PyProof.Rows
noncomputable def rankAt {α : Type} (lt : α → α → Bool) (as : List α) (i : Nat) : Int := match as[i]? with
  | some a => rankA lt as a
  | none => 0
theorem rankAt_eq {α : Type} {lt : α → α → Bool} {as : List α} {i : Nat} {a : α} (h : as[i]? = some a) : rankAt lt as i = rankA lt as a := by unfold rankAt; rw [h]
theorem pick_take {α : Type} (as : List α) : ∀ n : Nat, (List.range n).filterMap (fun i => as[i]?) = as.take n
  | 0 => rfl
  | n + 1 => by
    rw [List.range_succ, List.filterMap_append, pick_take as n, List.take_add_one]
    congr 1
theorem pick_range {α : Type} (as : List α) : (List.range as.length).filterMap (fun i => as[i]?) = as := by
  rw [pick_take, List.take_length]
section
variable {K : KF} {H : Hp} {M : HpD}
theorem pick_rep {ds : List D} {xs : List V} (r : RepDs K H M ds xs) : ∀ (l : List Nat), (∀ i ∈ l, i < ds.length) → RepDs K H M (l.filterMap fun i => ds[i]?) (l.filterMap fun i => xs[i]?)
  | [], _ => .nil
  | i :: l, h => by
    have hi := h i List.mem_cons_self
    obtain ⟨x, e1, r1⟩ := r.get (List.getElem?_eq_getElem hi)
    rw [List.filterMap_cons_some (List.getElem?_eq_getElem hi), List.filterMap_cons_some e1]
    exact .cons r1 (pick_rep r l fun j hj => h j (List.mem_cons_of_mem _ hj))
theorem pick_vals {xs : List V} {us : List Value} (q : Vals xs us) : ∀ (l : List Nat), (∀ i ∈ l, i < xs.length) → Vals (l.filterMap fun i => xs[i]?) (l.map fun i => us.getD i Value.none)
  | [], _ => .nil
  | i :: l, h => by
    have hi := h i List.mem_cons_self
    obtain ⟨u, e1, r1⟩ := q.get (List.getElem?_eq_getElem hi)
    rw [List.filterMap_cons_some (List.getElem?_eq_getElem hi), List.map_cons, List.getD_eq_getElem?_getD, e1]
    exact .cons r1 (pick_vals q l fun j hj => h j (List.mem_cons_of_mem _ hj))
end
theorem pick_map {α : Type} (enc : α → D) (as : List α) (l : List Nat) : (l.filterMap fun i => (as.map enc)[i]?) = (l.filterMap fun i => as[i]?).map enc := by
  rw [List.map_filterMap]
  congr 1
  funext i
  rw [List.getElem?_map]
theorem pick_sorted {α : Type} {lt : α → α → Bool} (L : LinLt lt) {as : List α} {p : Array Nat} (hp : PermN as.length p) (hs : Srt (rankAt lt as) p as.length) :
    (∀ i ∈ p.toList, i < as.length) ∧ (p.toList.filterMap fun i => as[i]?).Perm as ∧ (p.toList.filterMap fun i => as[i]?).Pairwise (fun a b => lt b a = false) := by
  have hl : p.toList.Perm (List.range as.length) := by
    have := hp.toList
    simpa using this
  have hb : ∀ i ∈ p.toList, i < as.length := fun i hi => List.mem_range.mp (hl.mem_iff.mp hi)
  refine ⟨hb, ?_, ?_⟩
  · have := hl.filterMap (fun i => as[i]?)
    rw [pick_range] at this
    exact this
  · have hpw : p.toList.Pairwise fun i j => rankAt lt as i ≤ rankAt lt as j := by
      rw [List.pairwise_iff_getElem]
      intro i j hi hj hij
      have hz := hp.size
      have e : ∀ k (hk : k < p.toList.length), p.toList[k] = p.getD k 0 := fun k hk => by
        have : k < p.size := by simpa using hk
        simp [Array.getD, this]
      rw [e, e]
      exact hs i j (by omega) (by rw [Array.length_toList] at hj; omega)
    rw [List.pairwise_filterMap]
    refine hpw.imp_of_mem ?_
    intro i j hi hj hr a ea b eb
    rw [rankAt_eq ea, rankAt_eq eb] at hr
    have := rank_lt L (List.mem_of_getElem? eb) (List.mem_of_getElem? ea)
    rw [← this]
    exact decide_eq_false (by omega)
end L2
namespace L2
open PySem PySem.Spec PyProof.Rows
noncomputable abbrev TGI := SD → HpD → (List D → (HpD → Prop) → HpD → Prop) → Prop
noncomputable def YldsG (K : PySem.W.Frag) (F : Addr → Prop) (J : It) (ds : List D) (Gd : HpD → Prop) (M : HpD) (H : Hp) : Prop :=
  ∀ F' i M' H', (∀ a, F' a → F a ∨ H a = none) → Fz M H M' H' → RepH ⟨K, F'⟩ H' M' → Gd M' → (∀ d, ds[i]? = some d → J.go i H' ∧ ∀ x H3, J.yld i H' x H3 → Fz M' H' M' H3 ∧ RepH ⟨K, F'⟩ H3 M' ∧ RepD ⟨K, F'⟩ H3 M' d x) ∧ (ds.length ≤ i → J.stop i H')
noncomputable def LiftIG (K : PySem.W.Frag) (t : TGI) : TI := fun σ H R => ∃ F σD M RD, Rel ⟨K, F⟩ σD M σ H ∧ t σD M RD ∧ ∀ ds Gd M' H' J, Fz M H M' H' → RepH ⟨K, F⟩ H' M' → YldsG K F J ds Gd M' H' → RD ds Gd M' → R J H'
noncomputable abbrev IDG (X : Cx) (tg e : Expr) (t : TGI) : Prop := PI X tg e (LiftIG X.K t)
@[irreducible] noncomputable def tForG (tI : TGI) (g : TDG) (tb : TSD) : TSD := fun DD σ M => tI σ M fun ds Gd M1 => ∃ Pv : Nat → SD → HpD → Prop, Pv 0 σ M1 ∧ (∀ i σ M, Pv i σ M → Gd M) ∧
  (∀ i d σ M, ds[i]? = some d → Pv i σ M → g d σ M fun σ2 M2 => tb { DD with nx := Pv (i + 1), ct := Pv (i + 1), bk := DD.nx } σ2 M2) ∧ ∀ σ M, Pv ds.length σ M → DD.nx σ M
theorem rd_forG {tI : TGI} {g : TDG} {tb : TSD} {DD : EndsD} {σ : SD} {M : HpD} (h : tI σ M fun ds Gd M1 => ∃ Pv : Nat → SD → HpD → Prop, Pv 0 σ M1 ∧ (∀ i σ M, Pv i σ M → Gd M) ∧
  (∀ i d σ M, ds[i]? = some d → Pv i σ M → g d σ M fun σ2 M2 => tb { DD with nx := Pv (i + 1), ct := Pv (i + 1), bk := DD.nx } σ2 M2) ∧ ∀ σ M, Pv ds.length σ M → DD.nx σ M) : tForG tI g tb DD σ M := by unfold tForG; exact h
@[irreducible] noncomputable def tCompG (n : Nat) (tI : TGI) (g : TDG) (tc : TDT) (te : TDE) : TDE := fun σ M Q => tI σ M fun ds Gd M1 => ds.length ≤ sizeLine ∧ ∃ Pv : Nat → List D → SD → HpD → Prop, Pv 0 [] (List.replicate n none ++ σ) M1 ∧ (∀ i ys σ M, Pv i ys σ M → Gd M) ∧
  (∀ i d ys σ M, ds[i]? = some d → Pv i ys σ M → g d σ M fun σ2 M2 => tc σ2 M2 fun b M3 => if b = true then te σ2 M3 fun y M4 => Pv (i + 1) (ys ++ [y]) σ2 M4 else Pv (i + 1) ys σ2 M3) ∧ ∀ ys σ M, Pv ds.length ys σ M → newL ys M Q
theorem rd_compG {n : Nat} {tI : TGI} {g : TDG} {tc : TDT} {te : TDE} {σ : SD} {M : HpD} {Q : KD} (h : tI σ M fun ds Gd M1 => ds.length ≤ sizeLine ∧ ∃ Pv : Nat → List D → SD → HpD → Prop, Pv 0 [] (List.replicate n none ++ σ) M1 ∧ (∀ i ys σ M, Pv i ys σ M → Gd M) ∧
  (∀ i d ys σ M, ds[i]? = some d → Pv i ys σ M → g d σ M fun σ2 M2 => tc σ2 M2 fun b M3 => if b = true then te σ2 M3 fun y M4 => Pv (i + 1) (ys ++ [y]) σ2 M4 else Pv (i + 1) ys σ2 M3) ∧ ∀ ys σ M, Pv ds.length ys σ M → newL ys M Q) : tCompG n tI g tc te σ M Q := by unfold tCompG; exact h
section
variable {X : Cx} {tg iter elt : Expr} {ifs : List Expr} {scope : Scope} {body : List Stmt} {tI : TGI} {g : TDG} {tb : TSD} {tc : TDT} {te : TDE} {ts rest : List Str} {pos : Pos}
theorem sd_forG (hi : IDG X tg iter tI) (hg : GD X tg g) (hb : SsD X body tb) (hp : PassesOwn (model X.prog X.w) X.A X.env X.xe := by exact PassesOwn.never) (hc : X.calm = true := by rfl)
    (hs : ∀ x, foldedSetIterable iter X.env x = pure x := by intro _; rfl) : StD X (.For tg iter body [] pos) (tForG tI g tb) := by
  refine (ps_for hp hc hi hg hb hs).wk fun D' σ H w1_ => w1_.elim fun F z_ => z_.elim fun σD z_ => z_.elim fun M z_ => z_.elim fun DD z_ => z_.elim fun rel z_ => z_.elim fun h p => ?_
  unfold tForG at h
  refine ⟨F, σD, M, _, rel, h, fun ds Gd M1 H1 J f1 rh1 y h1 => ?_⟩
  obtain ⟨Pv, p0, gd, step, done⟩ := h1
  refine ⟨fun i m σ' H' => m = ds.length - i ∧ i ≤ ds.length ∧ ∃ σD' M', Rel ⟨X.K, F⟩ σD' M' σ' H' ∧ Fz M1 H1 M' H' ∧ Pv i σD' M', ⟨ds.length, by simp, Nat.zero_le _, σD, M1, rel.mono f1 rh1, .refl, p0⟩, ?_⟩
  rintro i m σ' H' ⟨rfl, hi, σD', M', rel', f', pv⟩
  by_cases hlt : i < ds.length
  · have e : ds[i]? = some ds[i] := List.getElem?_eq_getElem hlt
    obtain ⟨go, yl⟩ := (y F i M' H' (fun _ z => .inl z) f' rel'.hp (gd _ _ _ pv)).1 _ e
    refine .inr ⟨go, fun σ2 H2 => ∃ σD2 M2, Rel ⟨X.K, F⟩ σD2 M2 σ2 H2 ∧ Fz M1 H1 M2 H2 ∧ Pv (i + 1) σD2 M2, fun σ2 H2 w1_ => w1_.elim fun σD2 z_ => z_.elim fun M2 z_ => z_.elim fun a1 z_ => z_.elim fun a2 a3 => ⟨ds.length - (i + 1), by omega, rfl, hlt, σD2, M2, a1, a2, a3⟩, fun x H2 yy => ?_⟩
    obtain ⟨fy, rhy, ry⟩ := yl x H2 yy
    have rel2 := rel'.mono fy rhy
    refine ⟨F, ds[i], σD', M', _, rel2, ry, step i _ σD' M' e pv, fun σD3 M3 σ3 H3 f3 rel3 h3 => ?_⟩
    have ff := (f'.trans fy).trans f3
    refine lS rel3 h3 ⟨fun a b c d f r q => ⟨a, b, r, ff.trans f, q⟩, (p.mono (f1.trans ff)).rt, fun a b c d f r q => (p.mono (f1.trans ff)).nx a b c d f r q, fun a b c d f r q => ⟨a, b, r, ff.trans f, q⟩⟩
  · have e : i = ds.length := by omega
    subst e
    exact .inl ⟨(y F _ M' H' (fun _ z => .inl z) f' rel'.hp (gd _ _ _ pv)).2 (Nat.le_refl _), p.nx _ _ _ _ (f1.trans f') rel' (done _ _ pv)⟩
theorem lift_compG {K : PySem.W.Frag} {n : Nat} {σ : St} {H : Hp} {Q : VK} (h : LiftE K (tCompG n tI g tc te) σ H Q) : tComp n (LiftIG K tI) (LiftG K g) (LiftT K tc) (LiftE K te) σ H Q := by
  obtain ⟨F, σD, M, QD, rel, h, p⟩ := h
  unfold tCompG at h
  refine ⟨F, σD, M, _, rel, h, fun ds Gd M1 H1 J f1 rh1 y h1 => ?_⟩
  intro D' hD
  obtain ⟨hsz, Pv, p0, gd, step, done⟩ := h1
  have mD := rh1.free hD
  have fF : ∀ a, (F a ∨ a = D') → F a ∨ H1 a = none := fun a z => z.elim .inl fun e => .inr (e ▸ hD)
  have rel1 := rel.mono f1 rh1
  -- the start: D' is forbidden
  have relS : Rel ⟨K, fun a => F a ∨ a = D'⟩ (List.replicate n none ++ σD) M1 (List.replicate n none ++ σ) (upd H1 D' (.lst [])) := by
    have r1 : Rel ⟨K, F⟩ (List.replicate n none ++ σD) M1 (List.replicate n none ++ σ) H1 := rel1.pad n
    refine ⟨r1.len, fun i d e => ?_, ⟨fun a o e => ?_, fun a z => ?_⟩⟩
    · obtain ⟨v, e1, e2⟩ := r1.st i d e
      exact ⟨v, e1, (e2.more fF).mono (fz_new hD)⟩
    · obtain ⟨o', e', r⟩ := rh1.at_ a o e
      exact ⟨o', by rw [upd_ne (ne_of_none e' hD)]; exact e', (r.more fF).mono (fz_new hD)⟩
    · rcases z with z | rfl
      · obtain ⟨⟨o', e'⟩, m'⟩ := rh1.fb a z
        exact ⟨⟨o', by rw [upd_ne (ne_of_none e' hD)]; exact e'⟩, m'⟩
      · exact ⟨⟨_, upd_same⟩, mD⟩
  refine ⟨fun i m ys σ' H' => m = ds.length - i ∧ i ≤ ds.length ∧ ys.length ≤ i ∧ H' D' = some (.lst ys) ∧ ∃ σD' M' ysD, Rel ⟨K, fun a => F a ∨ a = D'⟩ σD' M' σ' H' ∧ Fz M1 H1 M' H' ∧ RepDs ⟨K, fun a => F a ∨ a = D'⟩ H' M' ysD ys ∧ Pv i ysD σD' M',
    ⟨ds.length, by simp, Nat.zero_le _, Nat.zero_le _, upd_same, _, M1, [], relS, fz_new hD, .nil, p0⟩, ?_⟩
  rintro i m ys σ' H' ⟨rfl, hi, hyl, eD, σD', M', ysD, rel', f', ry, pv⟩
  have mD' : M' D' = none := (rel'.hp.fb D' (.inr rfl)).2
  by_cases hlt : i < ds.length
  · have e : ds[i]? = some ds[i] := List.getElem?_eq_getElem hlt
    obtain ⟨go, yl⟩ := (y _ i M' H' fF f' rel'.hp (gd _ _ _ _ pv)).1 _ e
    refine .inr ⟨go, fun x H2 yy => ?_⟩
    obtain ⟨fy, rhy, rx⟩ := yl x H2 yy
    have eD2 := (fy D' _ eD mD').1
    refine ⟨_, ds[i], σD', M', _, rel'.mono fy rhy, rx, step i _ ysD σD' M' e pv, fun σD3 M3 σ3 H3 f3 rel3 h3 => ?_⟩
    refine lT rel3 h3 fun b M4 H4 f4 rel4 h4 => ?_
    have f14 : Fz M1 H1 M4 H4 := ((f'.trans fy).trans f3).trans f4
    have fD4 : Fz M' H' M4 H4 := (fy.trans f3).trans f4
    cases b with
    | false =>
      simp only [Bool.false_eq_true, if_false] at h4 ⊢
      exact ⟨ds.length - (i + 1), by omega, rfl, hlt, by omega, (fD4 D' _ eD mD').1, σD3, M4, ysD, rel4, f14, ry.mono fD4, h4⟩
    | true =>
      simp only [if_true] at h4 ⊢
      refine lE rel4 h4 fun yd M5 v H5 f5 rel5 r5 h5 => ?_
      have fD5 := fD4.trans f5
      obtain ⟨eD5, mD5⟩ := fD5 D' _ eD mD'
      have hF : (KF.mk K fun a => F a ∨ a = D').F D' := .inr rfl
      refine ⟨eD5, by omega, ds.length - (i + 1), by omega, rfl, hlt, by rw [List.length_append, List.length_singleton]; omega, upd_same, σD3, M5, ysD ++ [yd], rel5.past hF, fun a o q z => ?_, ((ry.mono fD5).append (.cons r5 .nil)).past hF, h5⟩
      obtain ⟨q1, q2⟩ := (f14.trans f5) a o q z
      exact ⟨by rw [upd_ne (ne_of_none q hD)]; exact q1, q2⟩
  · have e : i = ds.length := by omega
    subst e
    refine .inl ⟨(y _ _ M' H' fF f' rel'.hp (gd _ _ _ _ pv)).2 (Nat.le_refl _), eD, ?_⟩
    -- the end: D' is told
    have fL : ∀ a, F a → (F a ∨ a = D') ∨ H' a = none := fun a z => .inl (.inl z)
    have rhE : RepH ⟨K, F⟩ H' M' := ⟨fun a o q => by
      obtain ⟨o', e', r⟩ := rel'.hp.at_ a o q
      exact ⟨o', e', r.more fL⟩, fun a z => rel'.hp.fb a (.inl z)⟩
    have hn := done ysD σD' M' pv
    unfold newL at hn
    obtain ⟨hl, hn⟩ := hn
    have nf : ¬ F D' := rh1.nf hD
    rcases hn with hn | hn
    · exact p _ M' _ H' (f1.trans f') rhE (by unfold RepD; exact ⟨D', ys, rfl, .inl ⟨.inl eD, mD', nf⟩, ry.more fL⟩) hn
    · refine p _ (updD M' D' (.lst ysD)) _ H' (f1.trans fun a o q z => ?_) ⟨fun a o q => ?_, fun a z => ⟨(rhE.fb a z).1, ?_⟩⟩ (by unfold RepD; rfl) (hn D' mD')
      · obtain ⟨q1, q2⟩ := f' a o q z
        exact ⟨q1, by rw [updD_ne (ne_of_none q hD)]; exact q2⟩
      · by_cases qa : a = D'
        · rw [qa, updD_same] at q; cases q
          rw [qa]
          refine ⟨_, eD, ys, rfl, ?_⟩
          -- what is gathered does not pass through the list itself
          exact RepDs.own (F' := fun a => F a ∨ a = D') (.inr rfl) fL ry
        · rw [updD_ne qa] at q
          obtain ⟨o', e', r⟩ := rel'.hp.at_ a o q
          exact ⟨o', e', RepO.own (F' := fun a => F a ∨ a = D') (.inr rfl) fL r⟩
      · rw [updD_ne (fun (z' : a = D') => nf (by rw [← z']; exact z))]; exact (rhE.fb a z).2
theorem sd_compG (i : Nat) {x : Str} {pos' spos : Pos} (S : CompScope X scope ts rest) (hi : IDG X tg iter tI)
    (hg : ∀ fp s H, GD (compCx X scope ts rest fp s H) tg g) (ht : ∀ fp s H, FD (compCx X scope ts rest fp s H) ifs tc) (he : ∀ fp s H, ED (compCx X scope ts rest fp s H) elt te)
    (hN : X.N.Nodup) (hx : X.N[i]? = some x) (hl : Loc X.env.scope x) (hc : X.calm = true := by rfl)
    (hsw : swapsWith (.ListComp elt [⟨tg, iter, ifs, 0⟩] scope pos) (some (.Name x pos')) spos.line X.env = pure true := by rfl)
    (hs : ∀ x, foldedSetIterable iter X.env x = pure x := by intro _; rfl) (hf : X.fn x = true ∨ X.env.scope.names.lookup x = some .local := by first | exact .inl rfl | exact .inr rfl | assumption) :
    StD X (.Assign [.Name x pos'] (.ListComp elt [⟨tg, iter, ifs, 0⟩] scope pos) spos) (tAsgD (tCompG ts.length tI g tc te) (gNameD i)) := by
  refine (ps_set_comp (g := LiftG X.K g) (tc := LiftT X.K tc) (te := LiftE X.K te) hc S hi hg ht he hN hx hl hsw hs hf).wk fun D' σ H w1_ => w1_.elim fun F z_ => z_.elim fun σD z_ => z_.elim fun M z_ => z_.elim fun DD z_ => z_.elim fun rel z_ => z_.elim fun h p => ?_
  unfold tAsgD at h
  refine lift_compG ⟨F, σD, M, _, rel, h, fun d M1 v H1 f1 rh1 r1 h1 => ?_⟩
  unfold gNameD at h1
  exact (p.mono f1).nx _ M1 _ H1 .refl ((rel.mono f1 rh1).set i r1) h1
end
@[irreducible] noncomputable def iSeqG (te : TDE) : TGI := fun σ M R => te σ M fun d M1 => ∃ ds, listD d M1 = some ds ∧ R ds (fun M => listD d M = some ds) M1
theorem rd_iseqG {te : TDE} {σ : SD} {M : HpD} {R : List D → (HpD → Prop) → HpD → Prop} (h : te σ M fun d M1 => ∃ ds, listD d M1 = some ds ∧ R ds (fun M => listD d M = some ds) M1) : iSeqG te σ M R := by unfold iSeqG; exact h
section
variable {X : Cx} {tg l : Expr} {tl : TDE} {pos p : Pos}
theorem list_at {K : KF} {H : Hp} {M : HpD} {d : D} {a : Addr} {ds : List D} (rh : RepH K H M) (r : RepD K H M d (.ref a)) (e : listD d M = some ds) : ∃ xs, SqL K.K H a xs ∧ RepDs K H M ds xs := by
  obtain ⟨p, xs, e1, h, r'⟩ := list_rep rh r e
  cases e1
  exact ⟨xs, h, r'⟩
theorem ylds_listG {K : PySem.W.Frag} {F : Addr → Prop} {H : Hp} {M : HpD} {a : Addr} {d : D} {ds : List D} (r : RepD ⟨K, F⟩ H M d (.ref a)) : YldsG K F (Itl K a) ds (fun M => listD d M = some ds) M H := fun F' i M' H' hf f rh gd => by
  have r' : RepD ⟨K, F'⟩ H' M' d (.ref a) := (r.more hf).mono f
  obtain ⟨xs, h', rs⟩ := list_at rh r' gd
  refine ⟨fun d e => ?_, fun e => ⟨xs, h', by rw [← rs.length]; exact e⟩⟩
  obtain ⟨v, e1, e2⟩ := rs.get e
  refine ⟨⟨xs, v, h', e1⟩, fun x H3 y => ?_⟩
  obtain ⟨rfl, y⟩ := y
  have := y xs h'
  rw [e1] at this; cases this
  exact ⟨.refl, rh, e2⟩
theorem id_listG (hl : ED X l tl) : IDG X tg l (iSeqG tl) := by
  refine (pi_list hl).wk fun σ H R w1_ => w1_.elim fun F z_ => z_.elim fun σD z_ => z_.elim fun M z_ => z_.elim fun RD z_ => z_.elim fun rel z_ => z_.elim fun h p => ?_
  unfold iSeqG at h
  refine lE rel h fun d M1 v H1 f1 rel1 r1 h1 => ?_
  obtain ⟨ds, gd, q⟩ := h1
  obtain ⟨a, xs, rfl, hz, hr⟩ := list_rep rel1.hp r1 gd
  exact ⟨a, rfl, ⟨xs, hz⟩, p ds _ M1 H1 _ f1 rel1.hp (ylds_listG r1) q⟩
end
end L2
namespace L2
open PySem PySem.Spec PyProof.Rows
section
variable {X : Cx} {pins : List (Addr × Obj)} {σ : St} {H : Hp} {s : Shared}
theorem Inv.turnedNew {h' : Heap} {t' : Nat} {fp : List Addr} {T : Addr} {o : HO} (I : Inv X pins σ H s) (k : ∀ b u, b ∉ fp → s.heap.get? b = some u → h'.get? b = some u) (hf : ∀ b ∈ fp, FpOk X pins H b) (hT : s.heap.objs.size ≤ T)
    (new : ObjOk X.prog X.w (upd H T o) h' T o) : Inv X pins σ (upd H T o) { s with heap := h', toks := t' } := by
  have hn := I.hok.fresh hT
  have nf : ∀ b u, H b = some u → b ∉ fp := fun b u e z => by rw [(hf b z).1] at e; cases e
  have fT : FpOk X pins H T := I.fpOk hT hn
  refine I.call (g' := s.gens) (d' := s.drawn) (ch := T :: fp) ⟨fun b u e n _ hc => k b u (fun z => hc (List.mem_cons_of_mem _ z)) e, fun b u e n _ hc => ⟨u.slots, k b u (fun z => hc (List.mem_cons_of_mem _ z)) e⟩,
    fun b u e n hc => by rw [upd_ne (fun z => hc (by simp [z]))]; exact n, fun b u e hc => ⟨u, k b u (fun z => hc (List.mem_cons_of_mem _ z)) e⟩, fun b xs e => by rw [upd_ne (ne_of_none e hn)]; exact e,
    fun b x u e => by rw [upd_ne (ne_of_none e hn)]; exact e, fun b ps e => ⟨#[], by rw [upd_ne (ne_of_none e hn), e]; simp⟩⟩ (fun b u e => ?_) I.bare (fun b hb => ?_)
  · by_cases hb : b = T
    · subst hb; rw [upd_same] at e; cases e; exact new
    · rw [upd_ne hb] at e
      refine (I.hok b u e).stay (fun c v hc q => k c v ?_ q) (fun c q => by rw [upd_ne (ne_of_none q hn)]; exact q) fun c xs q => by rw [upd_ne (ne_of_none q hn)]; exact q
      rcases hc with z | z
      · rw [z]; exact nf b u e
      · exact nf c _ z
  · rcases List.mem_cons.mp hb with rfl | hb
    · exact ⟨fT.2.2.2.1, fT.2.1, fT.2.2.2.2.1, fT.2.2.2.2.2⟩
    · have z := hf b hb
      exact ⟨z.2.2.2.1, z.2.1, z.2.2.2.2.1, z.2.2.2.2.2⟩
theorem Inv.turnedL {h' : Heap} {t' : Nat} {fp : List Addr} (I : Inv X pins σ H s) (k : ∀ b u, b ∉ fp → s.heap.get? b = some u → h'.get? b = some u) (hf : ∀ b ∈ fp, FpOk X pins H b) : Inv X pins σ H { s with heap := h', toks := t' } := by
  have nf : ∀ b u, H b = some u → b ∉ fp := fun b u e z => by rw [(hf b z).1] at e; cases e
  refine I.call (g' := s.gens) (d' := s.drawn) (ch := fp) ⟨fun b u e n _ hc => k b u hc e, fun b u e n _ hc => ⟨u.slots, k b u hc e⟩,
    fun b u e n hc => n, fun b u e hc => ⟨u, k b u hc e⟩, fun b xs e => e, fun b x u e => e, fun b ps e => ⟨#[], by rw [e]; simp⟩⟩ (fun b u e => ?_) I.bare (fun b hb => ?_)
  · refine (I.hok b u e).stay (fun c v hc q => k c v ?_ q) (fun c q => q) fun c xs q => q
    rcases hc with z | z
    · rw [z]; exact nf b u e
    · exact nf c _ z
  · have z := hf b hb
    exact ⟨z.2.2.2.1, z.2.1, z.2.2.2.2.1, z.2.2.2.2.2⟩
end
noncomputable def Ite (K : PySem.W.Frag) (a : Addr) : It :=
  ⟨fun i H => ∃ xs x, SqL K H a xs ∧ xs[i]? = some x, fun i H x H' => ∃ T y, x = .ref T ∧ H T = none ∧ H' = upd H T (.tup [.int i, y]) ∧ ∀ xs, SqL K H a xs → xs[i]? = some y, fun i H => ∃ xs, SqL K H a xs ∧ xs.length ≤ i⟩
theorem turn_enum {P : Program} {w : World} {K : PySem.W.Frag} {elts : List Expr} {tk : Nat} {tpos : Pos} (a e it : Addr) (hne : e ≠ it) : Turn P w K (.Tuple elts tk tpos) (Ite K a) [e, it] e (fun i h => (∃ old, IsEnum h e it i old) ∧ h.IsListIter it a i) where
  mem := by simp
  obj := fun i h st b hb => by
    obtain ⟨⟨old, he⟩, o, eo, c, d⟩ := st
    rcases List.mem_cons.mp hb with rfl | hb
    · exact ⟨_, he, fun v z => by cases z⟩
    · have : b = it := by simpa using hb
      subst this
      exact ⟨o, eo, fun v z => by rw [d] at z; cases z⟩
  keep := fun i h h' st k => by
    obtain ⟨⟨old, he⟩, hit⟩ := st
    exact ⟨⟨old, k e (by simp) _ he⟩, hit.at fun o eo => k it (by simp) o eo⟩
  item := by
    intro X hP hw hK hc i pins s σ H E I hf st hg
    subst hP hw hK
    obtain ⟨⟨old, he⟩, hit⟩ := st
    obtain ⟨xs, x, hq, hx⟩ := hg
    obtain ⟨its, rv, p, hz⟩ := I.list hq
    obtain ⟨u, hu, ru⟩ := rv.get hx
    refine wpAny_pyNext_enum_item he hit p.isList (x := u) (by simpa using hu) hne fun h1 ho hit1 hT hsz hk => ?_
    refine ⟨_, rfl, ?_⟩
    refine wpAny_letOwnedTupleGo_enum ho fun h2 he2 sb => ?_
    have hT2 : h2.get? s.heap.objs.size = some { cls := .type "tuple", data := .seq #[.int i s.toks, u] } := by
      refine (sb.2 _ (Nat.ne_of_gt (Heap.lt_size he))).trans hT
    have hfe : FpOk X pins H e := hf e (by simp)
    have I1 : Inv X pins σ (upd H s.heap.objs.size (.tup [.int i, x])) { s with heap := h2, toks := s.toks + 1 } :=
      I.turnedNew (fp := [e, it]) (fun b v hb q => by
        have h1' : b ≠ e := fun z => hb (by simp [z])
        have h2' : b ≠ it := fun z => hb (by simp [z])
        exact (sb.2 b h1').trans (hk b v h1' h2' q)) hf (Nat.le_refl _) (show ObjOk X.prog X.w _ h2 _ (.tup [.int i, x]) from ⟨by show 2 ≤ sizeLine; decide, [.int i s.toks, u], .cons ⟨_, rfl⟩ (.cons ru .nil), _, hT2, rfl, _, rfl⟩)
    refine ⟨.ref s.heap.objs.size, _, I1, rfl, ⟨_, x, rfl, I.hok.fresh (Nat.le_refl _), rfl, fun ys hy => by rw [I.list_inj hy hq]; exact hx⟩, ⟨⟨u, by simpa using he2⟩, hit1.at fun o eo => (sb.2 it hne.symm).trans eo⟩, fun b hb => ?_⟩
    rw [upd_ne]
    · exact (hf b hb).1
    · rcases List.mem_cons.mp hb with rfl | hb
      · exact Nat.ne_of_lt (Heap.lt_size he)
      · have : b = it := by simpa using hb
        subst this
        obtain ⟨o, eo, _⟩ := hit
        exact Nat.ne_of_lt (Heap.lt_size eo)
  done := by
    intro X hP hw hK hc i pins s σ H E I hf st hg
    subst hP hw hK
    obtain ⟨⟨old, he⟩, hit⟩ := st
    obtain ⟨xs, hq, hx⟩ := hg
    obtain ⟨its, rv, p, hz⟩ := I.list hq
    have hl := rv.length
    refine wpAny_pyNext_enum_end (I.ok.hd hc) he hit p.isList (by simp; omega) fun h' eb => ⟨rfl, I.turnedL (t' := s.toks) (fp := [e, it]) (fun b v hb q => eb b v (fun z => hb (by simp [z])) q) hf⟩
  self := fun _ _ _ _ _ st h => by
    obtain ⟨⟨old, he⟩, _⟩ := st
    exact wpAny_pyIter_enum he h
noncomputable def iEnumV (K : PySem.W.Frag) (ta : TA) : TI := fun σ H R => ta σ H fun vs H1 => ∃ a, vs = [.ref a] ∧ (∃ xs, SqL K H1 a xs) ∧ R (Ite K a) H1
theorem boot_enumerate : bootBuiltins "enumerate" = some (.type "enumerate") := by decide +kernel
theorem pi_enum {X : Cx} {l : Expr} {ta : TA} {p pos : Pos} {elts : List Expr} {tk : Nat} {tpos : Pos} (hg : Gl X "enumerate") (hm : X.mg "enumerate" = none) (ha : PA X [l] ta) (hs : starEach [l] X.env = [(false, eval l X.env)] := by rfl) :
    PI X (.Tuple elts tk tpos) (.Call (.Name "enumerate" p) [l] [] pos) (iEnumV X.K ta) := by
  intro pins s σ H R I h
  refine Call_ (ld_blt I hg hm boot_enumerate (PyProof.Rows.callWith_type1 (thn (ha pos pins s σ H _ I h) fun us s1 w1_ => w1_.elim fun vs z_ => z_.elim fun H1 z_ => z_.elim fun I1 z_ => z_.elim fun r1 q1 => ?_) hs rfl))
  obtain ⟨a, e, ⟨xs, hq⟩, q⟩ := q1
  subst e
  cases r1 with
  | cons r rr =>
    cases rr
    cases r
    obtain ⟨its, rv, pl, hz⟩ := I1.list hq
    refine call_enumerate_list pl.isList fun h' he hit hsz hk => ?_
    refine wpAny_pyIter_enum he ?_
    refine ⟨s1.heap.objs.size + 1, [s1.heap.objs.size + 1, s1.heap.objs.size], _, _, H1, rfl, I1.kept (t' := s1.toks) hk, turn_enum a _ _ (Nat.succ_ne_self _), ⟨⟨_, he⟩, hit⟩, fun b hb => ?_, q⟩
    rcases List.mem_cons.mp hb with rfl | hb
    · exact I1.fpOk (Nat.le_succ _) (I1.hok.fresh (Nat.le_succ _))
    · have : b = s1.heap.objs.size := by simpa using hb
      subst this
      exact I1.fpOk (Nat.le_refl _) (I1.hok.fresh (Nat.le_refl _))
noncomputable def enumD (ds : List D) : List D := ds.mapIdx fun i d => .tup [.int i, d]
@[irreducible] noncomputable def iEnumG (ta : TDA) : TGI := fun σ M R => ta σ M fun vs M1 => ∃ d ds, vs = [d] ∧ listD d M1 = some ds ∧ R (enumD ds) (fun M => listD d M = some ds) M1
theorem rd_ienum {ta : TDA} {σ : SD} {M : HpD} {R : List D → (HpD → Prop) → HpD → Prop} (h : ta σ M fun vs M1 => ∃ d ds, vs = [d] ∧ listD d M1 = some ds ∧ R (enumD ds) (fun M => listD d M = some ds) M1) : iEnumG ta σ M R := by unfold iEnumG; exact h
theorem enumD_get {ds : List D} {i : Nat} {d : D} (h : (enumD ds)[i]? = some d) : ∃ e, ds[i]? = some e ∧ d = .tup [.int i, e] := by
  unfold enumD at h
  rw [List.getElem?_mapIdx] at h
  cases e : ds[i]? with
  | none => rw [e] at h; cases h
  | some x => rw [e] at h; cases h; exact ⟨x, rfl, rfl⟩
theorem enumD_len {ds : List D} : (enumD ds).length = ds.length := by unfold enumD; simp
theorem ylds_enum {K : PySem.W.Frag} {F : Addr → Prop} {H : Hp} {M : HpD} {a : Addr} {d : D} {ds : List D} (r : RepD ⟨K, F⟩ H M d (.ref a)) : YldsG K F (Ite K a) (enumD ds) (fun M => listD d M = some ds) M H := fun F' i M' H' hf f rh gd => by
  have r' : RepD ⟨K, F'⟩ H' M' d (.ref a) := (r.more hf).mono f
  obtain ⟨xs, h', rs⟩ := list_at rh r' gd
  refine ⟨fun d e => ?_, fun e => ⟨xs, h', by rw [← rs.length, ← enumD_len]; exact e⟩⟩
  obtain ⟨d1, e0, rfl⟩ := enumD_get e
  obtain ⟨v, e1, e2⟩ := rs.get e0
  refine ⟨⟨xs, v, h', e1⟩, fun x H3 y => ?_⟩
  obtain ⟨T, y1, rfl, hT, rfl, y⟩ := y
  have := y xs h'
  rw [e1] at this; cases this
  refine ⟨fz_new hT, rh.new hT, ?_⟩
  unfold RepD
  exact ⟨T, _, rfl, .inl ⟨.inl upd_same, rh.free hT, rh.nf hT⟩, RepDs.mono (fz_new hT) (.cons (by unfold RepD; rfl) (.cons e2 .nil))⟩
theorem id_enum {X : Cx} {l : Expr} {ta : TDA} {p pos : Pos} {elts : List Expr} {tk : Nat} {tpos : Pos} (hg : Gl X "enumerate") (hm : X.mg "enumerate" = none) (ha : AD X [l] ta) (hs : starEach [l] X.env = [(false, eval l X.env)] := by rfl) :
    IDG X (.Tuple elts tk tpos) (.Call (.Name "enumerate" p) [l] [] pos) (iEnumG ta) := by
  refine (pi_enum hg hm ha hs).wk fun σ H R w1_ => w1_.elim fun F z_ => z_.elim fun σD z_ => z_.elim fun M z_ => z_.elim fun RD z_ => z_.elim fun rel z_ => z_.elim fun h p => ?_
  unfold iEnumG at h
  refine lA rel h fun d M1 v H1 f1 rel1 r1 h1 => ?_
  obtain ⟨d, ds, rfl, gd, q⟩ := h1
  obtain ⟨u, rfl, r2⟩ := rep1 r1
  obtain ⟨a, xs, rfl, hz, hr⟩ := list_rep rel1.hp r2 gd
  exact ⟨a, rfl, ⟨xs, hz⟩, p _ _ M1 H1 _ f1 rel1.hp (ylds_enum r2) q⟩
end L2
namespace L2
open PySem PySem.Spec PyProof.Rows
noncomputable def Itz (K : PySem.W.Frag) (a b : Addr) : It :=
  ⟨fun i H => ∃ xs x ys y, SqL K H a xs ∧ xs[i]? = some x ∧ SqL K H b ys ∧ ys[i]? = some y,
   fun i H v H' => ∃ T x y, v = .ref T ∧ H T = none ∧ H' = upd H T (.tup [x, y]) ∧ (∀ xs, SqL K H a xs → xs[i]? = some x) ∧ ∀ ys, SqL K H b ys → ys[i]? = some y,
   fun i H => ∃ xs ys, SqL K H a xs ∧ SqL K H b ys ∧ (xs.length ≤ i ∨ ys.length ≤ i)⟩
noncomputable def ZipSt (z TI TO i1 i2 a b : Addr) (i : Nat) (h : Heap) : Prop := IsZip h z TI TO .none ∧ IsPair h TI (.ref i1) (.ref i2) ∧ (∃ p q, IsPair h TO p q) ∧ h.IsListIter i1 a i ∧ h.IsListIter i2 b i
theorem ZipSt.apart {z TI TO i1 i2 a b : Addr} {i : Nat} {h : Heap} {xs ys : Array Value} (st : ZipSt z TI TO i1 i2 a b i h) (h12 : i1 ≠ i2) (hT : TI ≠ TO) (l1 : h.IsList a xs) (l2 : h.IsList b ys) : ZipApart z TI TO i1 i2 a b := by
  obtain ⟨hz, hI, ⟨p, q, hO⟩, ⟨o1, g1, c1, d1⟩, ⟨o2, g2, c2, d2⟩⟩ := st
  obtain ⟨ol, gl, cl, _⟩ := l1
  obtain ⟨om, gm, cm, _⟩ := l2
  have ne : ∀ {x y : Addr} {ox oy : Obj} {m n : String}, h.get? x = some ox → h.get? y = some oy → ox.cls = .type m → oy.cls = .type n → m ≠ n → x ≠ y := fun e1 e2 c1 c2 hmn z => by
    subst z
    rw [e1] at e2; cases e2
    rw [c1] at c2; cases c2
    exact hmn rfl
  exact ⟨ne hI hz rfl rfl (by decide), ne hO hz rfl rfl (by decide), ne g1 hz c1 rfl (by decide), ne g2 hz c2 rfl (by decide), hT, ne hI g1 rfl c1 (by decide), ne hI g2 rfl c2 (by decide), ne hO g1 rfl c1 (by decide), ne hO g2 rfl c2 (by decide), h12,
    ne gl hz cl rfl (by decide), ne gl hO cl rfl (by decide), ne gl g1 cl c1 (by decide), ne gl g2 cl c2 (by decide), ne gm hz cm rfl (by decide), ne gm hO cm rfl (by decide), ne gm g1 cm c1 (by decide), ne gm g2 cm c2 (by decide)⟩
theorem turn_zip {P : Program} {w : World} {K : PySem.W.Frag} {elts : List Expr} {tk : Nat} {tpos : Pos} (a b z TI TO i1 i2 : Addr) (h12 : i1 ≠ i2) (hT : TI ≠ TO) : Turn P w K (.Tuple elts tk tpos) (Itz K a b) [z, TI, TO, i1, i2] z (ZipSt z TI TO i1 i2 a b) where
  mem := by simp
  obj := fun i h st b' hb => by
    obtain ⟨hz, hI, ⟨p, q, hO⟩, ⟨o1, g1, c1, d1⟩, ⟨o2, g2, c2, d2⟩⟩ := st
    simp only [List.mem_cons, List.not_mem_nil, or_false] at hb
    rcases hb with rfl | rfl | rfl | rfl | rfl
    · exact ⟨_, hz, fun v e => by cases e⟩
    · exact ⟨_, hI, fun v e => by cases e⟩
    · exact ⟨_, hO, fun v e => by cases e⟩
    · exact ⟨_, g1, fun v e => by rw [d1] at e; cases e⟩
    · exact ⟨_, g2, fun v e => by rw [d2] at e; cases e⟩
  keep := fun i h h' st k => by
    obtain ⟨hz, hI, ⟨p, q, hO⟩, h1, h2⟩ := st
    exact ⟨k z (by simp) _ hz, k TI (by simp) _ hI, ⟨p, q, k TO (by simp) _ hO⟩, h1.at fun o eo => k i1 (by simp) o eo, h2.at fun o eo => k i2 (by simp) o eo⟩
  item := by
    intro X hP hw hK hc i pins s σ H E I hf st hg
    subst hP hw hK
    obtain ⟨xs, x, ys, y, hq1, hx, hq2, hy⟩ := hg
    obtain ⟨its, rv, p1, hz1⟩ := I.list hq1
    obtain ⟨jts, rw', p2, hz2⟩ := I.list hq2
    obtain ⟨u, hu, ru⟩ := rv.get hx
    obtain ⟨v, hv, rw2⟩ := rw'.get hy
    have D := st.apart h12 hT p1.isList p2.isList
    obtain ⟨hz, hI, ⟨p, q, hO⟩, h1, h2⟩ := st
    refine wpAny_pyNext_zip_item D hz hI hO h1 h2 p1.isList p2.isList (x := u) (y := v) (by simpa using hu) (by simpa using hv) fun h' a1 a2 a3 a4 a5 a6 a7 => ?_
    refine ⟨_, rfl, ?_⟩
    refine wpAny_letOwnedTupleGo_zip a1 fun h2' hz2' sb => ?_
    have zl : z < s.heap.objs.size := Heap.lt_size hz
    have hT2 : h2'.get? s.heap.objs.size = some { cls := .type "tuple", data := .seq #[u, v] } := (sb.2 _ (Nat.ne_of_gt zl)).trans a5
    have I1 : Inv X pins σ (upd H s.heap.objs.size (.tup [x, y])) { s with heap := h2', toks := s.toks } :=
      I.turnedNew (fp := [z, TI, TO, i1, i2]) (fun c o hb e => by
        simp only [List.mem_cons, List.not_mem_nil, or_false, not_or] at hb
        exact (sb.2 c hb.1).trans (a7 c o hb.1 hb.2.2.1 hb.2.2.2.1 hb.2.2.2.2 e)) hf (Nat.le_refl _) (show ObjOk X.prog X.w _ h2' _ (.tup [x, y]) from ⟨by show 2 ≤ sizeLine; decide, [u, v], .cons ru (.cons rw2 .nil), _, hT2, rfl, _, rfl⟩)
    refine ⟨.ref s.heap.objs.size, _, I1, rfl, ⟨_, x, y, rfl, I.hok.fresh (Nat.le_refl _), rfl, fun zs hzs => by rw [I.list_inj hzs hq1]; exact hx, fun zs hzs => by rw [I.list_inj hzs hq2]; exact hy⟩, ⟨hz2', (sb.2 TI D.TIz).trans (a7 TI _ D.TIz D.TITO D.TIi1 D.TIi2 hI), ⟨u, v, (sb.2 TO D.TOz).trans a2⟩, a3.at fun o eo => (sb.2 i1 D.i1z).trans eo, a4.at fun o eo => (sb.2 i2 D.i2z).trans eo⟩, fun c hc' => ?_⟩
    rw [upd_ne]
    · exact (hf c hc').1
    · simp only [List.mem_cons, List.not_mem_nil, or_false] at hc'
      obtain ⟨o1, g1, _⟩ := h1
      obtain ⟨o2, g2, _⟩ := h2
      rcases hc' with rfl | rfl | rfl | rfl | rfl
      · exact Nat.ne_of_lt zl
      · exact Nat.ne_of_lt (Heap.lt_size hI)
      · exact Nat.ne_of_lt (Heap.lt_size hO)
      · exact Nat.ne_of_lt (Heap.lt_size g1)
      · exact Nat.ne_of_lt (Heap.lt_size g2)
  done := by
    intro X hP hw hK hc i pins s σ H E I hf st hg
    subst hP hw hK
    obtain ⟨xs, ys, hq1, hq2, hx⟩ := hg
    obtain ⟨its, rv, p1, hz1⟩ := I.list hq1
    obtain ⟨jts, rw', p2, hz2⟩ := I.list hq2
    have l1 := rv.length
    have l2 := rw'.length
    have D := st.apart h12 hT p1.isList p2.isList
    obtain ⟨hz, hI, ⟨p, q, hO⟩, h1, h2⟩ := st
    refine wpAny_pyNext_zip_end (I.ok.hd hc) D hz hI hO h1 h2 p1.isList p2.isList (by
      rcases hx with hx | hx
      · exact .inl (by simp; omega)
      · exact .inr (by simp; omega)) fun h' k => ⟨rfl, I.turnedL (t' := s.toks) (fp := [z, TI, TO, i1, i2]) (fun c o hb e => ?_) hf⟩
    simp only [List.mem_cons, List.not_mem_nil, or_false, not_or] at hb
    exact k c o hb.1 hb.2.2.1 hb.2.2.2.1 hb.2.2.2.2 e
  self := fun _ _ _ _ _ st h => wpAny_pyIter_zip st.1 h
noncomputable def iZipV (K : PySem.W.Frag) (ta : TA) : TI := fun σ H R => ta σ H fun vs H1 => ∃ a b, vs = [.ref a, .ref b] ∧ (∃ xs, SqL K H1 a xs) ∧ (∃ ys, SqL K H1 b ys) ∧ R (Itz K a b) H1
theorem boot_zip : bootBuiltins "zip" = some (.type "zip") := by decide +kernel
theorem pi_zip {X : Cx} {l m : Expr} {ta : TA} {p pos : Pos} {elts : List Expr} {tk : Nat} {tpos : Pos} (hg : Gl X "zip") (hm : X.mg "zip" = none) (ha : PA X [l, m] ta) (hs : starEach [l, m] X.env = [(false, eval l X.env), (false, eval m X.env)] := by rfl) (hs2 : starEach [m] X.env = [(false, eval m X.env)] := by rfl) :
    PI X (.Tuple elts tk tpos) (.Call (.Name "zip" p) [l, m] [] pos) (iZipV X.K ta) := by
  intro pins s σ H R I h
  refine Call_ (ld_blt I hg hm boot_zip (PyProof.Rows.callWith_type1 (thn (ha pos pins s σ H _ I h) fun us s1 w1_ => w1_.elim fun vs z_ => z_.elim fun H1 z_ => z_.elim fun I1 z_ => z_.elim fun r1 q1 => ?_) (by rw [hs, hs2]) (by rw [hs2]; rfl)))
  obtain ⟨a, b, e, ⟨xs, hq1⟩, ⟨ys, hq2⟩, q⟩ := q1
  subst e
  cases r1 with
  | cons r rr =>
    cases rr with
    | cons r' rr =>
      cases rr
      cases r
      cases r'
      obtain ⟨its, rv, p1, hz⟩ := I1.list hq1
      obtain ⟨jts, rw', p2, hz'⟩ := I1.list hq2
      refine call_zip_2 p1.isList p2.isList fun h' a1 a2 a3 a4 a5 a6 a7 => ?_
      refine wpAny_pyIter_zip a1 ?_
      refine ⟨s1.heap.objs.size + 4, [s1.heap.objs.size + 4, s1.heap.objs.size + 2, s1.heap.objs.size + 3, s1.heap.objs.size, s1.heap.objs.size + 1], _, _, H1, rfl, I1.kept (t' := s1.toks) a7, turn_zip a b _ _ _ _ _ (fun z => Nat.succ_ne_self _ z.symm) (fun z => by have : s1.heap.objs.size + 2 = s1.heap.objs.size + 3 := z; omega), ⟨a1, a2, ⟨_, _, a3⟩, a4, a5⟩, fun c hc => ?_, q⟩
      have hle : s1.heap.objs.size ≤ c := by
        simp only [List.mem_cons, List.not_mem_nil, or_false] at hc
        rcases hc with rfl | rfl | rfl | rfl | rfl
        · exact Nat.le_add_right _ _
        · exact Nat.le_add_right _ _
        · exact Nat.le_add_right _ _
        · exact Nat.le_refl _
        · exact Nat.le_add_right _ _
      exact I1.fpOk hle (I1.hok.fresh hle)
noncomputable def zipD (ds es : List D) : List D := List.zipWith (fun d e => .tup [d, e]) ds es
@[irreducible] noncomputable def iZipG (ta : TDA) : TGI := fun σ M R => ta σ M fun vs M1 => ∃ d e ds es, vs = [d, e] ∧ listD d M1 = some ds ∧ listD e M1 = some es ∧ R (zipD ds es) (fun M => listD d M = some ds ∧ listD e M = some es) M1
theorem rd_izip {ta : TDA} {σ : SD} {M : HpD} {R : List D → (HpD → Prop) → HpD → Prop} (h : ta σ M fun vs M1 => ∃ d e ds es, vs = [d, e] ∧ listD d M1 = some ds ∧ listD e M1 = some es ∧ R (zipD ds es) (fun M => listD d M = some ds ∧ listD e M = some es) M1) : iZipG ta σ M R := by unfold iZipG; exact h
theorem zipD_get {ds es : List D} {i : Nat} {d : D} (h : (zipD ds es)[i]? = some d) : ∃ x y, ds[i]? = some x ∧ es[i]? = some y ∧ d = .tup [x, y] := by
  unfold zipD at h
  rw [List.getElem?_zipWith] at h
  cases e1 : ds[i]? with
  | none => rw [e1] at h; cases h
  | some x =>
    cases e2 : es[i]? with
    | none => rw [e1, e2] at h; cases h
    | some y => rw [e1, e2] at h; cases h; exact ⟨x, y, rfl, rfl, rfl⟩
theorem zipD_len {ds es : List D} : (zipD ds es).length = min ds.length es.length := by unfold zipD; simp
theorem ylds_zip {K : PySem.W.Frag} {F : Addr → Prop} {H : Hp} {M : HpD} {a b : Addr} {d e : D} {ds es : List D} (r : RepD ⟨K, F⟩ H M d (.ref a)) (r2 : RepD ⟨K, F⟩ H M e (.ref b)) : YldsG K F (Itz K a b) (zipD ds es) (fun M => listD d M = some ds ∧ listD e M = some es) M H := fun F' i M' H' hf f rh gd => by
  obtain ⟨xs, h1, rs1⟩ := list_at rh (show RepD ⟨K, F'⟩ H' M' d (.ref a) from (r.more hf).mono f) gd.1
  obtain ⟨ys, h2, rs2⟩ := list_at rh (show RepD ⟨K, F'⟩ H' M' e (.ref b) from (r2.more hf).mono f) gd.2
  refine ⟨fun d e => ?_, fun e => ⟨xs, ys, h1, h2, by rw [zipD_len] at e; rw [← rs1.length, ← rs2.length]; omega⟩⟩
  obtain ⟨d1, d2, e1, e2, rfl⟩ := zipD_get e
  obtain ⟨v1, g1, q1⟩ := rs1.get e1
  obtain ⟨v2, g2, q2⟩ := rs2.get e2
  refine ⟨⟨xs, v1, ys, v2, h1, g1, h2, g2⟩, fun x H3 y => ?_⟩
  obtain ⟨T, y1, y2, rfl, hT, rfl, ya, yb⟩ := y
  have k1 := ya xs h1
  have k2 := yb ys h2
  rw [g1] at k1; cases k1
  rw [g2] at k2; cases k2
  refine ⟨fz_new hT, rh.new hT, ?_⟩
  unfold RepD
  exact ⟨T, _, rfl, .inl ⟨.inl upd_same, rh.free hT, rh.nf hT⟩, RepDs.mono (fz_new hT) (.cons q1 (.cons q2 .nil))⟩
theorem id_zip {X : Cx} {l m : Expr} {ta : TDA} {p pos : Pos} {elts : List Expr} {tk : Nat} {tpos : Pos} (hg : Gl X "zip") (hm : X.mg "zip" = none) (ha : AD X [l, m] ta) (hs : starEach [l, m] X.env = [(false, eval l X.env), (false, eval m X.env)] := by rfl) (hs2 : starEach [m] X.env = [(false, eval m X.env)] := by rfl) :
    IDG X (.Tuple elts tk tpos) (.Call (.Name "zip" p) [l, m] [] pos) (iZipG ta) := by
  refine (pi_zip hg hm ha hs hs2).wk fun σ H R w1_ => w1_.elim fun F z_ => z_.elim fun σD z_ => z_.elim fun M z_ => z_.elim fun RD z_ => z_.elim fun rel z_ => z_.elim fun h p => ?_
  unfold iZipG at h
  refine lA rel h fun d M1 v H1 f1 rel1 r1 h1 => ?_
  obtain ⟨d, e, ds, es, rfl, g1, g2, q⟩ := h1
  obtain ⟨u, v', rfl, r2, r3⟩ := rep2 r1
  obtain ⟨a, xs, rfl, hz, hr⟩ := list_rep rel1.hp r2 g1
  obtain ⟨b, ys, rfl, hz2, hr2⟩ := list_rep rel1.hp r3 g2
  exact ⟨a, b, rfl, ⟨xs, hz⟩, ⟨ys, hz2⟩, p _ _ M1 H1 _ f1 rel1.hp (ylds_zip r2 r3) q⟩
end L2
namespace L2
open PySem PySem.Spec PyProof.Rows
section
variable {X : Cx} {a b : Expr} {ta tb : TDE} {pos : Pos}
@[irreducible] noncomputable def rIxSD : RD2 := fun x y M Q => ∃ z i c, x = .str z ∧ y = .int i ∧ z.length ≤ sizeLine ∧ atI z.cps.toList i = some c ∧ Q (.str ⟨#[c]⟩) M
theorem rd_ixS {z : Str} {i : Int} {c : Nat} {M : HpD} {Q : KD} (hz : z.length ≤ sizeLine) (e : atI z.cps.toList i = some c) (q : Q (.str ⟨#[c]⟩) M) : rIxSD (.str z) (.int i) M Q := by unfold rIxSD; exact ⟨z, i, c, rfl, rfl, hz, e, q⟩
theorem ed_ixS (ha : ED X a ta) (hb : ED X b tb) (hs : PlainIx b := by exact fun _ _ => rfl) : ED X (.Subscript a b pos) (tOpD rIxSD ta tb) := by
  refine (pe_ix ix_str ha hb hs).wk fun σ H Q h => ?_
  obtain ⟨F, σD, M, QD, rel, h, p⟩ := h
  unfold tOpD at h
  refine lE rel h fun d M1 v H1 f1 rel1 r1 h1 => ?_
  refine lE rel1 h1 fun e M2 u H2 f2 rel2 r2 h2 => ?_
  unfold rIxSD at h2
  obtain ⟨z, i, c, rfl, rfl, hz, he, q⟩ := h2
  unfold RepD at r1 r2
  exact ⟨z, i, c, r1, r2, hz, he, p _ _ _ _ (f1.trans f2) rel2.hp (by unfold RepD; rfl) q⟩
noncomputable def flatD : D → Bool
  | .non => true
  | .bl _ => true
  | .int _ => true
  | .str _ => true
  | _ => false
theorem flat_rep {K : KF} {H : Hp} {M : HpD} {d : D} {v : V} (f : flatD d = true) (r : RepD K H M d v) : flatV v = true := by
  cases d <;> first | (unfold flatD at f; cases f; done) | (unfold RepD at r; subst r; rfl)
theorem eqV_rep {K : KF} {H : Hp} {M : HpD} {d e : D} {v u : V} (f : flatD d = true) (g : flatD e = true) (ok : okD d e = true) (r : RepD K H M d v) (r2 : RepD K H M e u) : eqV v u = eqD d e := by
  cases d <;> first | (unfold flatD at f; cases f; done) | skip
  all_goals (cases e <;> first | (unfold flatD at g; cases g; done) | (unfold okD at ok; cases ok; done) | skip)
  all_goals (unfold RepD at r r2; subst r r2; unfold eqD; first | rfl | (simp [eqV]))
noncomputable def inD (x : D) (ds : List D) : Bool := ds.any fun d => eqD d x
theorem inV_rep {K : KF} {H : Hp} {M : HpD} {x : D} {v : V} (fx : flatD x = true) (rx : RepD K H M x v) : ∀ {ds : List D} {xs : List V}, (∀ d ∈ ds, flatD d = true ∧ okD d x = true) → RepDs K H M ds xs → xs.all flatV = true ∧ inV v xs = inD x ds
  | [], xs, _, r => by
    unfold RepDs at r
    subst r
    exact ⟨rfl, rfl⟩
  | d :: ds, xs, h, r => by
    unfold RepDs at r
    obtain ⟨y, yr, rfl, r1, r2⟩ := r
    obtain ⟨hd, hk⟩ := h d List.mem_cons_self
    obtain ⟨ih1, ih2⟩ := inV_rep fx rx (fun d h' => h d (List.mem_cons_of_mem _ h')) r2
    refine ⟨by rw [List.all_cons, flat_rep hd r1, ih1]; rfl, ?_⟩
    unfold inV inD at ih2 ⊢
    rw [List.any_cons, List.any_cons, eqV_rep hd fx hk r1 rx, ih2]
@[irreducible] noncomputable def rInD (neg : Bool) : RD2 := fun x y M Q => ∃ ds, itemsD y M = some ds ∧ flatD x = true ∧ (∀ d ∈ ds, flatD d = true ∧ okD d x = true) ∧ Q (.bl (if neg then !inD x ds else inD x ds)) M
theorem rd_in {neg : Bool} {x y : D} {ds : List D} {M : HpD} {Q : KD} (h : itemsD y M = some ds) (fx : flatD x = true) (fs : ∀ d ∈ ds, flatD d = true ∧ okD d x = true) (q : Q (.bl (if neg then !inD x ds else inD x ds)) M) : rInD neg x y M Q := by unfold rInD; exact ⟨ds, h, fx, fs, q⟩
theorem lift_in {K : PySem.W.Frag} {neg : Bool} {x y : V} {H : Hp} {Q : VK} (h : LiftR K (rInD neg) x y H Q) : rIn K neg x y H Q := by
  obtain ⟨F, d, e, M, QD, r1, r2, rh, hq, p⟩ := h
  unfold rInD at hq
  obtain ⟨ds, hd, fx, fs, q⟩ := hq
  obtain ⟨a, ys, rfl, hs, rs⟩ := items_rep rh r2 hd
  obtain ⟨f1, f2⟩ := inV_rep fx r1 fs rs
  exact ⟨a, ys, rfl, hs, flat_rep fx r1, f1, p _ M _ H .refl rh (by unfold RepD; rw [f2]) q⟩
theorem od_notIn : OpR X (compareOp .NotIn) (LiftR X.K (rInD true)) := fun pins s σ H x y v u Q I rx ry h => op_notIn_seq pins s σ H x y v u Q I rx ry (lift_in h)
@[irreducible] noncomputable def cLenS : RDn := fun xs M Q => ∃ z, xs = [.str z] ∧ z.length ≤ sizeLine ∧ Q (.int z.length) M
theorem rd_lenS {z : Str} {M : HpD} {Q : KD} (hz : z.length ≤ sizeLine) (q : Q (.int z.length) M) : cLenS [.str z] M Q := by unfold cLenS; exact ⟨z, rfl, hz, q⟩
theorem cd_lenS : CallR X (.builtin "len") (LiftC X.K cLenS) := by
  refine call_len_str.wk fun xs H Q ⟨F, ds, M, QD, r, rh, hq, p⟩ => ?_
  unfold cLenS at hq
  obtain ⟨z, rfl, hz, q⟩ := hq
  obtain ⟨v, rfl, r1⟩ := rep1 r
  unfold RepD at r1
  subst r1
  exact ⟨z, rfl, hz, p _ M _ H .refl rh (by unfold RepD; rfl) q⟩
end
section
variable {X : Cx} {o e e2 : Expr} {to te te2 : TDE} {apos cpos : Pos}
noncomputable def rJoinV (K : PySem.W.Frag) : V → List V → Hp → VK → Prop := fun x vs H Q => ∃ sep l ts, x = .str sep ∧ vs = [.ref l] ∧ SqL K H l (ts.map V.str) ∧ JoinOk sep ts = true ∧ Q (.str (Txt.join sep ts)) H
theorem strs_vals : ∀ {ts : List Str} {us : List Value}, Vals (ts.map V.str) us → ∃ l : List (Str × Tok), us = strValues l ∧ l.map (·.1) = ts
  | [], us, h => by cases h; exact ⟨[], rfl, rfl⟩
  | t :: ts, us, h => by
    cases h with
    | cons r h =>
      obtain ⟨k, rfl⟩ := r
      obtain ⟨l, rfl, rfl⟩ := strs_vals h
      exact ⟨(t, k) :: l, rfl, rfl⟩
theorem mt_join : MtR X "str.join" (rJoinV X.K) := by
  intro pins s σ H x vs v us Q I rx rv h
  obtain ⟨sep, l, ts, rfl, rfl, hl, ok, q⟩ := h
  obtain ⟨t, rfl⟩ := rx
  obtain ⟨u, rfl, ru⟩ := rv.one
  cases ru
  obtain ⟨its, vi, pl, hz⟩ := I.list hl
  obtain ⟨lt, rfl, et⟩ := strs_vals vi
  exact SC.join pl.isList et ok fun t' k => ⟨.str _, H, I.tok _, ⟨_, rfl⟩, q⟩
@[irreducible] noncomputable def tJoinD (to te : TDE) : TDE := fun σ M Q => to σ M fun x M1 => ∃ sep, x = .str sep ∧ te σ M1 fun y M2 => ∃ ts, listD y M2 = some (ts.map D.str) ∧ JoinOk sep ts = true ∧ Q (.str (Txt.join sep ts)) M2
theorem rd_join {σ : SD} {M : HpD} {Q : KD} (h : to σ M fun x M1 => ∃ sep, x = .str sep ∧ te σ M1 fun y M2 => ∃ ts, listD y M2 = some (ts.map D.str) ∧ JoinOk sep ts = true ∧ Q (.str (Txt.join sep ts)) M2) : tJoinD to te σ M Q := by unfold tJoinD; exact h
theorem rep_strs {K : KF} {H : Hp} {M : HpD} : ∀ {ts : List Str} {xs : List V}, RepDs K H M (ts.map D.str) xs → xs = ts.map V.str
  | [], xs, r => by unfold RepDs at r; exact r
  | t :: ts, xs, r => by
    rw [List.map_cons] at r
    unfold RepDs at r
    obtain ⟨y, yr, rfl, r1, r2⟩ := r
    unfold RepD at r1
    subst r1
    rw [rep_strs r2]; rfl
theorem ed_join (ho : ED X o to) (he : ED X e te) (hbase : attributeBase o "join" X.env (eval o X.env) = eval o X.env := by rfl)
    (hfew : ((backTo cpos (starEach (e :: []) X.env)).all (fun x => !x.1) && (backToKw cpos (keywordEach [] X.env)).all (fun x => x.1.isSome)
      && decide ((e :: []).length + ([] : List Keyword).length + (if ([] : List Keyword).isEmpty then 0 else 1) < 30)) = true := by rfl)
    (hline : (apos.endLine == cpos.line) = true := by rfl) (hs : starEach (e :: []) X.env = (false, eval e X.env) :: starEach [] X.env := by rfl) (hplain : (backTo cpos (starEach [] X.env)).any (·.1) = false := by rfl) :
    ED X (.Call (.Attribute o "join" apos) [e] [] cpos) (tJoinD to te) := by
  refine (pe_bm PySem.F.plainAttrs_str PySem.F.slot_str_join PySem.F.type_str_join (r := rJoinV X.K) mt_join ho (pa_cons he pa_nil hs) hbase hfew hline hs hplain).wk fun σ H Q h => ?_
  obtain ⟨F, σD, M, QD, rel, h, p⟩ := h
  unfold tJoinD at h
  refine lE rel h fun d M1 v H1 f1 rel1 r1 h1 => ?_
  obtain ⟨sep, rfl, h1⟩ := h1
  unfold RepD at r1
  subst r1
  refine ⟨rfl, ?_⟩
  show LiftE X.K te σ H1 _
  refine lE rel1 h1 fun y M2 u H2 f2 rel2 r2 h2 => ?_
  obtain ⟨ts, hd, ok, q⟩ := h2
  obtain ⟨l, xs, rfl, hl, rs⟩ := list_rep rel2.hp r2 hd
  have := rep_strs rs
  subst this
  exact ⟨sep, l, ts, rfl, rfl, hl, ok, p _ _ _ _ (f1.trans f2) rel2.hp (by unfold RepD; rfl) q⟩
end
end L2
namespace L2
open PySem PySem.Spec PyProof.Rows
end L2
namespace L2
open PySem PySem.Spec PyProof.Rows
end L2
namespace L2
open PySem PySem.Spec PyProof.Rows
end L2
namespace L2
open PySem PySem.Spec PyProof.Rows
end L2
namespace L2
open PySem PySem.Spec PyProof.Rows
end L2
namespace L2
open PySem PySem.Spec PyProof.Rows
end L2
namespace L2
open PySem PySem.Spec PyProof.Rows
end L2
namespace L2
open PySem PySem.Spec PyProof.Rows
structure ZApart (z TI TO i1 i2 : Addr) (f1 f2 : List Addr) : Prop where
  TIz : TI ≠ z
  TOz : TO ≠ z
  i1z : i1 ≠ z
  i2z : i2 ≠ z
  TITO : TI ≠ TO
  TIi1 : TI ≠ i1
  TIi2 : TI ≠ i2
  TOi1 : TO ≠ i1
  TOi2 : TO ≠ i2
  i12 : i1 ≠ i2
  zf1 : z ∉ f1
  zf2 : z ∉ f2
  Tf1 : TO ∉ f1
  Tf2 : TO ∉ f2
  i1f : i1 ∉ f2
  i2f : i2 ∉ f1
section
variable {prog : Program} {w : World} {A : Around} {E : Value → Shared → Prop} {s : Shared}
theorem nextOf_tup_item {it t : Addr} {i : Nat} {items : Array Value} {x : Value} {Q : Value → Shared → Prop} (hit : s.heap.IsTupleIter it t i)
    (ht : s.heap.IsTuple t items) (hx : items[i]? = some x)
    (hQ : ∀ h', h'.IsTupleIter it t (i + 1) → Heap.SameBut it s.heap h' → Q x { s with heap := h' }) :
    wpAny (model prog w) A (Builtin.SmallTypes.nextOf (.ref it)) Q E s := by
  obtain ⟨o, ho, hc, hd⟩ := id hit
  obtain ⟨ol, hol, _, nl, hdl⟩ := ht
  unfold Builtin.SmallTypes.nextOf
  refine wpAny_bind (wpAny_callSpecial?_slot (name := Str.ofString "__next__") hit.typeIs PySem.F.slot_tuple_iterator_next
    (wpAny_call_entry PySem.F.slot_tuple_iterator_next hit.typeIs PySem.F.entry_tuple_iterator_next ?_ (PySem.F.args_tuple_iterator_next_1 _)))
  show wpAny _ _ (field (.ref it) 0 >>= _) _ _ s
  refine wpAny_bind (wpAny_field ho hd (x := .ref t) rfl ?_)
  show wpAny _ _ (if (Value.ref t == Value.none) = true then _ else _) _ _ s
  rw [if_neg (show ¬ ((Value.ref t == Value.none) = true) from Bool.false_ne_true)]
  show wpAny _ _ (field (.ref it) 1 >>= _) _ _ s
  refine wpAny_bind (wpAny_field ho hd (x := .int i 0) rfl ?_)
  show wpAny _ _ (seqItems? (.ref t) >>= _) _ _ s
  refine wpAny_bind (wpAny_seqItems hol hdl ?_)
  simp only [Int.toNat_natCast, hx]
  refine wpAny_bind (wpAny_setField ho hd (by simp) (wpAny_pure ⟨x, rfl, wpAny_pure (hQ _ ?_ (Heap.SameBut.update ..))⟩))
  exact ⟨_, Heap.get?_update_self _ ho (Obj.isFreed_of_fields (Obj.data_mapFields hd _)), (Obj.cls_mapFields ..).trans hc, by
    rw [Obj.data_mapFields hd]; simp [rawInt]⟩
theorem nextOf_tup_end {it t : Addr} {i : Nat} {items : Array Value} {Q : Value → Shared → Prop} (hh : A.handled = none)
    (hit : s.heap.IsTupleIter it t i) (ht : s.heap.IsTuple t items) (hx : items[i]? = none)
    (hE : ∀ h' e, Heap.ExtBut it s.heap h' → (∃ o, h'.get? e = some o ∧ o.cls = .type "StopIteration") → E (.ref e) { s with heap := h' }) : wpAny (model prog w) A (Builtin.SmallTypes.nextOf (.ref it)) Q E s := by
  obtain ⟨o, ho, hc, hd⟩ := id hit
  obtain ⟨ol, hol, _, nl, hdl⟩ := ht
  unfold Builtin.SmallTypes.nextOf
  refine wpAny_bind (wpAny_callSpecial?_slot (name := Str.ofString "__next__") hit.typeIs PySem.F.slot_tuple_iterator_next
    (wpAny_call_entry PySem.F.slot_tuple_iterator_next hit.typeIs PySem.F.entry_tuple_iterator_next ?_ (PySem.F.args_tuple_iterator_next_1 _)))
  show wpAny _ _ (field (.ref it) 0 >>= _) _ _ s
  refine wpAny_bind (wpAny_field ho hd (x := .ref t) rfl ?_)
  show wpAny _ _ (if (Value.ref t == Value.none) = true then _ else _) _ _ s
  rw [if_neg (show ¬ ((Value.ref t == Value.none) = true) from Bool.false_ne_true)]
  show wpAny _ _ (field (.ref it) 1 >>= _) _ _ s
  refine wpAny_bind (wpAny_field ho hd (x := .int i 0) rfl ?_)
  show wpAny _ _ (seqItems? (.ref t) >>= _) _ _ s
  refine wpAny_bind (wpAny_seqItems hol hdl ?_)
  simp only [Int.toNat_natCast, hx]
  refine wpAny_bind (wpAny_rule (wpAny_bind (wpAny_setField ho hd (by simp) ?_)))
  show wpAny _ _ (newExc (.type "StopIteration") [] >>= _) _ _ _
  refine wpAny_bind ?_
  simp only [newExc, newTuple]
  refine wpAny_bind (wpAny_newObj_type ?_ (by size_fits))
  refine wpAny_bind (m := firstArgMember _ _) (wpAny_of_eq (a := Value.none) (by first | rfl | (simp only [firstArgMember]; rfl)) ?_)
  refine wpAny_newObj_type ?_ (by size_fits)
  simp only [raiseNew]
  refine wpAny_bind (wpAny_handled ?_)
  first | rw [show A.in1.handled = none from hh] | rw [hh]
  refine wpAny_bind (wpAny_pure (wpAny_throw ?_))
  exact hE _ _ (((Heap.SameBut.update ..).extBut.push _).push _) ⟨_, Heap.get?_push_size _ rfl, rfl⟩
theorem draws_tup (hh : A.handled = none) (it t : Addr) (hne : t ≠ it) (items : Array Value) :
    Draws prog w A it [it, t] items.size (fun i v => items[i]? = some v) (fun i h => h.IsTupleIter it t i ∧ h.IsTuple t items) where
  live := fun _ _ st => let ⟨o, ho, _⟩ := st.1; ⟨o, ho⟩
  frame := fun _ _ _ st hk => let ⟨⟨o, ho, r⟩, ⟨o', ho', r'⟩⟩ := st; ⟨⟨o, hk it (by simp) o ho, r⟩, ⟨o', hk t (by simp) o' ho', r'⟩⟩
  item := fun i s Q E hi st hQ => by
    refine nextOf_tup_item st.1 st.2 (x := items[i]) (by simp [hi]) fun h' hit' hs' => ?_
    exact hQ _ h' s.toks (by simp [hi]) ⟨hit', st.2.extBut hs'.extBut hne⟩ hs'
  done := fun s Q E st hE => nextOf_tup_end hh st.1 st.2 (by simp) hE
noncomputable def DoneAt (prog : Program) (w : World) (A : Around) (it : Addr) (St : Nat → Heap → Prop) (k : Nat) : Prop := ∀ (s : Shared) (Q : Value → Shared → Prop) (E : Value → Shared → Prop), St k s.heap →
    (∀ h' e, Heap.ExtBut it s.heap h' → (∃ o, h'.get? e = some o ∧ o.cls = .type "StopIteration") → E (.ref e) { s with heap := h' }) → wpAny (model prog w) A (Builtin.SmallTypes.nextOf (.ref it)) Q E s
variable {z TI TO i1 i2 : Addr} {f1 f2 : List Addr} {n1 n2 k : Nat} {P1 P2 : Nat → Value → Prop} {St1 St2 : Nat → Heap → Prop}
theorem zipW_item {a b : Value} {Q : Value → Shared → Prop} (D1 : Draws prog w A i1 f1 n1 P1 St1) (D2 : Draws prog w A i2 f2 n2 P2 St2) (D : ZApart z TI TO i1 i2 f1 f2)
    (hz : IsZip s.heap z TI TO .none) (hTI : IsPair s.heap TI (.ref i1) (.ref i2)) (hTO : IsPair s.heap TO a b) (h1 : St1 k s.heap) (h2 : St2 k s.heap) (k1 : k < n1) (k2 : k < n2)
    (hQ : ∀ x y h' tk, P1 k x → P2 k y → IsZip h' z TI TO (rawInt s.heap.objs.size) → IsPair h' TO x y → St1 (k + 1) h' → St2 (k + 1) h' → IsPair h' s.heap.objs.size x y → h'.objs.size = s.heap.objs.size + 1 →
      (∀ c o, c ≠ z → c ≠ TO → c ≠ i1 → c ≠ i2 → s.heap.get? c = some o → h'.get? c = some o) → Q (.ref s.heap.objs.size) { s with heap := h', toks := tk }) :
    wpAny (model prog w) A (Builtin.«zip.__next__» ⟨[.ref z], []⟩) (fun fin s' => ∃ v, fin = .done (.ret v) ∧ Q v s') E s := by
  have fr1 : ∀ {h h' : Heap} {c : Addr} {j : Nat}, St1 j h → Heap.SameBut c h h' → c ∉ f1 → St1 j h' := fun st hs hc => D1.frame _ _ _ st fun b hb o e => (hs.2 b fun q => hc (q ▸ hb)).trans e
  have fr2 : ∀ {h h' : Heap} {c : Addr} {j : Nat}, St2 j h → Heap.SameBut c h h' → c ∉ f2 → St2 j h' := fun st hs hc => D2.frame _ _ _ st fun b hb o e => (hs.2 b fun q => hc (q ▸ hb)).trans e
  show wpAny _ _ (field (.ref z) 2 >>= _) _ _ _
  refine wpAny_bind (wpAny_field hz rfl (x := .bool false) rfl ?_)
  show wpAny _ _ (field (.ref z) 3 >>= _) _ _ _
  refine wpAny_bind (wpAny_field hz rfl (x := .ref TI) rfl ?_)
  refine wpAny_bind (wpAny_seqItems hTI rfl ?_)
  show wpAny _ _ (Builtin.SmallTypes.ownedTupleIsFree (.ref z) >>= _) _ _ _
  refine wpAny_bind ?_
  unfold Builtin.SmallTypes.ownedTupleIsFree
  refine wpAny_bind (wpAny_field hz rfl (x := .none) rfl (wpAny_pure ?_))
  simp only [if_true]
  refine wpAny_bind (wpAny_rule ?_)
  refine wpAny_bind (wpAny_field hz rfl (x := .ref TO) rfl ?_)
  refine wpAny_bind (wpAny_setField_rec hz (by simp) fun h₁ hz₁ hs₁ => ?_)
  replace hz₁ : IsZip h₁ z TI TO .ellipsis := hz₁
  refine wpAny_bind ?_
  simp only [List.zipIdx_cons, List.zipIdx_nil, List.forIn_cons, List.forIn_nil]
  refine wpAny_bind (wpAny_bind (wpAny_onRaise ?_))
  show wpAny _ _ (Builtin.SmallTypes.nextOf (.ref i1) >>= _) _ _ _
  refine wpAny_bind (D1.item k _ _ _ k1 (fr1 h1 hs₁ D.zf1) fun x h₂ tk₂ px h1₂ hs₂ => wpAny_pure ?_)
  replace hs₂ : Heap.SameBut i1 h₁ h₂ := hs₂
  have hTO₂ : IsPair h₂ TO a b := hs₂.extBut _ _ D.TOi1 (hs₁.extBut _ _ D.TOz hTO)
  refine wpAny_bind (wpAny_seqItems hTO₂ rfl ?_)
  refine wpAny_bind (wpAny_updateSeq_pair hTO₂ fun h₃ hTO₃ hs₃ => ?_)
  replace hTO₃ : IsPair h₃ TO x b := hTO₃
  replace hs₃ : Heap.SameBut TO h₂ h₃ := hs₃
  refine wpAny_bind (wpAny_letGo (wpAny_pure ?_))
  refine wpAny_bind (wpAny_bind (wpAny_onRaise ?_))
  show wpAny _ _ (Builtin.SmallTypes.nextOf (.ref i2) >>= _) _ _ _
  refine wpAny_bind (D2.item k _ _ _ k2 (fr2 (fr2 (fr2 h2 hs₁ D.zf2) hs₂ D.i1f) hs₃ D.Tf2) fun y h₄ tk₄ py h2₄ hs₄ => wpAny_pure ?_)
  replace hs₄ : Heap.SameBut i2 h₃ h₄ := hs₄
  have hTO₄ : IsPair h₄ TO x b := hs₄.extBut _ _ D.TOi2 hTO₃
  refine wpAny_bind (wpAny_seqItems hTO₄ rfl ?_)
  refine wpAny_bind (wpAny_updateSeq_pair hTO₄ fun h₅ hTO₅ hs₅ => ?_)
  replace hTO₅ : IsPair h₅ TO x y := hTO₅
  replace hs₅ : Heap.SameBut TO h₄ h₅ := hs₅
  refine wpAny_bind (wpAny_letGo (wpAny_pure (wpAny_pure ?_)))
  refine wpAny_bind (wpAny_seqItems hTO₅ rfl ?_)
  refine wpAny_bind (wpAny_newTuple ?_)
  have hsz : h₅.objs.size = s.heap.objs.size := by rw [hs₅.1, hs₄.1, hs₃.1, hs₂.1, hs₁.1]
  have hz₅ : IsZip h₅ z TI TO .ellipsis := hs₅.extBut _ _ D.TOz.symm (hs₄.extBut _ _ D.i2z.symm (hs₃.extBut _ _ D.TOz.symm (hs₂.extBut _ _ D.i1z.symm hz₁)))
  have hk₅ : ∀ c o, c ≠ z → c ≠ TO → c ≠ i1 → c ≠ i2 → s.heap.get? c = some o → h₅.get? c = some o := fun c o c1 c2 c3 c4 e =>
    hs₅.extBut _ _ c2 (hs₄.extBut _ _ c4 (hs₃.extBut _ _ c2 (hs₂.extBut _ _ c3 (hs₁.extBut _ _ c1 e))))
  have h1₅ : St1 (k + 1) h₅ := fr1 (fr1 (fr1 h1₂ hs₃ D.Tf1) hs₄ D.i2f) hs₅ D.Tf1
  have h2₅ : St2 (k + 1) h₅ := fr2 h2₄ hs₅ D.Tf2
  have hzlt : z < h₅.objs.size := Heap.lt_size hz₅
  show wpAny _ _ (Builtin.SmallTypes.ownedTupleHandOut (.ref z) (.ref h₅.objs.size) >>= _) _ _ _
  refine wpAny_bind ?_
  unfold Builtin.SmallTypes.ownedTupleHandOut
  have hz₆ : IsZip (h₅.push { cls := .type "tuple", data := .seq #[x, y] }) z TI TO .ellipsis := Heap.get?_push_of_some _ hz₅
  refine wpAny_bind (wpAny_setField_rec hz₆ (by simp) fun h₇ hz₇ hs₇ => ?_)
  replace hz₇ : IsZip h₇ z TI TO (rawInt h₅.objs.size) := hz₇
  refine wpAny_setField_rec hz₇ (by simp) fun h₈ hz₈ hs₈ => ?_
  replace hz₈ : IsZip h₈ z TI TO (rawInt h₅.objs.size) := hz₈
  have up : ∀ c o, c ≠ z → h₅.get? c = some o → h₈.get? c = some o := fun c o c1 e => hs₈.extBut _ _ c1 (hs₇.extBut _ _ c1 (Heap.get?_push_of_some _ e))
  have hT₈ : IsPair h₈ h₅.objs.size x y := hs₈.extBut _ _ (Nat.ne_of_gt hzlt) (hs₇.extBut _ _ (Nat.ne_of_gt hzlt) (Heap.get?_push_size _ rfl))
  have hz8 : h₈.objs.size = h₅.objs.size + 1 := by rw [hs₈.1, hs₇.1, Heap.size_push]
  rw [hsz] at hz₈ hT₈ hz8
  refine wpAny_pure ⟨_, rfl, ?_⟩
  show Q (.ref h₅.objs.size) _
  rw [hsz]
  exact hQ x y h₈ tk₄ px py hz₈ (up _ _ D.TOz hTO₅) (D1.frame _ _ _ h1₅ fun b hb o e => up b o (fun q => D.zf1 (q ▸ hb)) e) (D2.frame _ _ _ h2₅ fun b hb o e => up b o (fun q => D.zf2 (q ▸ hb)) e) hT₈ hz8 fun c o c1 c2 c3 c4 e => up c o c1 (hk₅ c o c1 c2 c3 c4 e)
theorem zipW_end {a b : Value} {Q : PySem.Fin → Shared → Prop} (D1 : Draws prog w A i1 f1 n1 P1 St1) (D2 : Draws prog w A i2 f2 n2 P2 St2) (D : ZApart z TI TO i1 i2 f1 f2)
    (hz : IsZip s.heap z TI TO .none) (hTI : IsPair s.heap TI (.ref i1) (.ref i2)) (hTO : IsPair s.heap TO a b) (h1 : St1 k s.heap) (h2 : St2 k s.heap) (hend : DoneAt prog w A i1 St1 k ∨ (k < n1 ∧ DoneAt prog w A i2 St2 k))
    (hE : ∀ h' tk e, (∀ c o, c ≠ z → c ≠ TO → c ≠ i1 → c ≠ i2 → s.heap.get? c = some o → h'.get? c = some o) → (∃ o, h'.get? e = some o ∧ o.cls = .type "StopIteration") → E (.ref e) { s with heap := h', toks := tk }) :
    wpAny (model prog w) A (Builtin.«zip.__next__» ⟨[.ref z], []⟩) Q E s := by
  have fr1 : ∀ {h h' : Heap} {c : Addr} {j : Nat}, St1 j h → Heap.SameBut c h h' → c ∉ f1 → St1 j h' := fun st hs hc => D1.frame _ _ _ st fun b hb o e => (hs.2 b fun q => hc (q ▸ hb)).trans e
  have fr2 : ∀ {h h' : Heap} {c : Addr} {j : Nat}, St2 j h → Heap.SameBut c h h' → c ∉ f2 → St2 j h' := fun st hs hc => D2.frame _ _ _ st fun b hb o e => (hs.2 b fun q => hc (q ▸ hb)).trans e
  show wpAny _ _ (field (.ref z) 2 >>= _) _ _ _
  refine wpAny_bind (wpAny_field hz rfl (x := .bool false) rfl ?_)
  show wpAny _ _ (field (.ref z) 3 >>= _) _ _ _
  refine wpAny_bind (wpAny_field hz rfl (x := .ref TI) rfl ?_)
  refine wpAny_bind (wpAny_seqItems hTI rfl ?_)
  show wpAny _ _ (Builtin.SmallTypes.ownedTupleIsFree (.ref z) >>= _) _ _ _
  refine wpAny_bind ?_
  unfold Builtin.SmallTypes.ownedTupleIsFree
  refine wpAny_bind (wpAny_field hz rfl (x := .none) rfl (wpAny_pure ?_))
  simp only [if_true]
  refine wpAny_bind (wpAny_rule ?_)
  refine wpAny_bind (wpAny_field hz rfl (x := .ref TO) rfl ?_)
  refine wpAny_bind (wpAny_setField_rec hz (by simp) fun h₁ hz₁ hs₁ => ?_)
  replace hz₁ : IsZip h₁ z TI TO .ellipsis := hz₁
  refine wpAny_bind ?_
  simp only [List.zipIdx_cons, List.zipIdx_nil, List.forIn_cons, List.forIn_nil]
  refine wpAny_bind (wpAny_bind (wpAny_onRaise ?_))
  show wpAny _ _ (Builtin.SmallTypes.nextOf (.ref i1) >>= _) _ _ _
  rcases hend with N | ⟨k1, N⟩
  · refine wpAny_bind (N _ _ _ (fr1 h1 hs₁ D.zf1) fun h₂ e hs₂ he => ?_)
    obtain ⟨oe, hoe, hce⟩ := he
    have hz₂ : IsZip h₂ z TI TO .ellipsis := hs₂ _ _ D.i1z.symm hz₁
    have hez : e ≠ z := fun x => by subst x; rw [hz₂] at hoe; cases hoe; simp at hce
    refine wpAny_setField_rec hz₂ (by simp) fun h₃ _ hs₃ => hE h₃ _ e (fun c o c1 _ c3 _ x => hs₃.extBut _ _ c1 (hs₂ _ _ c3 (hs₁.extBut _ _ c1 x))) ⟨oe, hs₃.extBut _ _ hez hoe, hce⟩
  · refine wpAny_bind (D1.item k _ _ _ k1 (fr1 h1 hs₁ D.zf1) fun x h₂ tk₂ px h1₂ hs₂ => wpAny_pure ?_)
    replace hs₂ : Heap.SameBut i1 h₁ h₂ := hs₂
    have hTO₂ : IsPair h₂ TO a b := hs₂.extBut _ _ D.TOi1 (hs₁.extBut _ _ D.TOz hTO)
    refine wpAny_bind (wpAny_seqItems hTO₂ rfl ?_)
    refine wpAny_bind (wpAny_updateSeq_pair hTO₂ fun h₃ hTO₃ hs₃ => ?_)
    replace hs₃ : Heap.SameBut TO h₂ h₃ := hs₃
    refine wpAny_bind (wpAny_letGo (wpAny_pure ?_))
    refine wpAny_bind (wpAny_bind (wpAny_onRaise ?_))
    show wpAny _ _ (Builtin.SmallTypes.nextOf (.ref i2) >>= _) _ _ _
    refine wpAny_bind (N _ _ _ (fr2 (fr2 (fr2 h2 hs₁ D.zf2) hs₂ D.i1f) hs₃ D.Tf2) fun h₄ e hs₄ he => ?_)
    obtain ⟨oe, hoe, hce⟩ := he
    have hz₄ : IsZip h₄ z TI TO .ellipsis := hs₄ _ _ D.i2z.symm (hs₃.extBut _ _ D.TOz.symm (hs₂.extBut _ _ D.i1z.symm hz₁))
    have hez : e ≠ z := fun x => by subst x; rw [hz₄] at hoe; cases hoe; simp at hce
    refine wpAny_setField_rec hz₄ (by simp) fun h₅ _ hs₅ => hE h₅ _ e (fun c o c1 c2 c3 c4 x => hs₅.extBut _ _ c1 (hs₄ _ _ c4 (hs₃.extBut _ _ c2 (hs₂.extBut _ _ c3 (hs₁.extBut _ _ c1 x))))) ⟨oe, hs₅.extBut _ _ hez hoe, hce⟩
theorem pyNext_zipW_item {a b : Value} {Q : Option Value → Shared → Prop} (D1 : Draws prog w A.in1 i1 f1 n1 P1 St1) (D2 : Draws prog w A.in1 i2 f2 n2 P2 St2) (D : ZApart z TI TO i1 i2 f1 f2)
    (hz : IsZip s.heap z TI TO .none) (hTI : IsPair s.heap TI (.ref i1) (.ref i2)) (hTO : IsPair s.heap TO a b) (h1 : St1 k s.heap) (h2 : St2 k s.heap) (k1 : k < n1) (k2 : k < n2)
    (hQ : ∀ x y h' tk, P1 k x → P2 k y → IsZip h' z TI TO (rawInt s.heap.objs.size) → IsPair h' TO x y → St1 (k + 1) h' → St2 (k + 1) h' → IsPair h' s.heap.objs.size x y → h'.objs.size = s.heap.objs.size + 1 →
      (∀ c o, c ≠ z → c ≠ TO → c ≠ i1 → c ≠ i2 → s.heap.get? c = some o → h'.get? c = some o) → Q (some (.ref s.heap.objs.size)) { s with heap := h', toks := tk }) :
    wpAny (model prog w) A (pyNext (.ref z)) Q E s := by
  have hT : s.TypeIs (.ref z) "zip" := ⟨_, hz, rfl⟩
  unfold pyNext
  exact wpAny_bind (wpAny_attempt (wpAny_callSpecial?_slot (name := Str.ofString "__next__") hT PySem.F.slot_zip_next
    (wpAny_call_entry PySem.F.slot_zip_next hT PySem.F.entry_zip_next
      (zipW_item D1 D2 D hz hTI hTO h1 h2 k1 k2 fun x y h' tk p1 p2 a1 a2 a3 a4 a5 a6 a7 => wpAny_pure (hQ x y h' tk p1 p2 a1 a2 a3 a4 a5 a6 a7)) (PySem.F.args_zip_next_1 _))))
theorem pyNext_zipW_end {a b : Value} {Q : Option Value → Shared → Prop} (D1 : Draws prog w A.in1 i1 f1 n1 P1 St1) (D2 : Draws prog w A.in1 i2 f2 n2 P2 St2) (D : ZApart z TI TO i1 i2 f1 f2)
    (hz : IsZip s.heap z TI TO .none) (hTI : IsPair s.heap TI (.ref i1) (.ref i2)) (hTO : IsPair s.heap TO a b) (h1 : St1 k s.heap) (h2 : St2 k s.heap) (hend : DoneAt prog w A.in1 i1 St1 k ∨ (k < n1 ∧ DoneAt prog w A.in1 i2 St2 k))
    (hQ : ∀ h' tk, (∀ c o, c ≠ z → c ≠ TO → c ≠ i1 → c ≠ i2 → s.heap.get? c = some o → h'.get? c = some o) → Q none { s with heap := h', toks := tk }) : wpAny (model prog w) A (pyNext (.ref z)) Q E s := by
  have hT : s.TypeIs (.ref z) "zip" := ⟨_, hz, rfl⟩
  unfold pyNext
  refine wpAny_bind (wpAny_attempt (wpAny_callSpecial?_slot (name := Str.ofString "__next__") hT PySem.F.slot_zip_next
    (wpAny_call_entry PySem.F.slot_zip_next hT PySem.F.entry_zip_next (zipW_end D1 D2 D hz hTI hTO h1 h2 hend fun h' tk e hk he => ?_) (PySem.F.args_zip_next_1 _))))
  obtain ⟨o, ho, hc⟩ := he
  refine wpAny_bind (wpAny_isInstance (T := "StopIteration") (b := true) ⟨o, ho, hc⟩ isSubtype_stop ?_)
  exact wpAny_pure (hQ _ _ hk)
end
noncomputable abbrev zt1 (h : Heap) (t : Addr) : Heap := h.push { cls := .type "tuple_iterator", data := .fields #[.ref t, .int 0 0] }
noncomputable abbrev zt2 (h : Heap) (t : Addr) (x : Str) (k : Tok) : Heap := (zt1 h t).push { cls := .type "str_ascii_iterator", data := .fields #[.str x k, .int 0 0] }
noncomputable abbrev zt3 (h : Heap) (t : Addr) (x : Str) (k : Tok) : Heap := (zt2 h t x k).push { cls := .type "tuple", data := .seq #[.ref h.objs.size, .ref (zt1 h t).objs.size] }
noncomputable abbrev zt4 (h : Heap) (t : Addr) (x : Str) (k : Tok) : Heap := (zt3 h t x k).push { cls := .type "tuple", data := .seq #[.none, .none] }
noncomputable abbrev zt5 (h : Heap) (t : Addr) (x : Str) (k : Tok) : Heap := (zt4 h t x k).push { cls := .type "zip", data := .fields #[.none, .bool false, .bool false, .ref (zt2 h t x k).objs.size, .ref (zt3 h t x k).objs.size] }
theorem meets_zip_ts (t : Addr) (x : Str) (k : Tok) (xs : Array Value) (ha : x.cps.all (· < 128) = true) :
    Meets (Builtin.«zip.__new__» ⟨[.type "zip", .ref t, .str x k], []⟩) (fun _ R s => s.heap.IsTuple t xs ∧
      R (.ok (.ret (.ref (zt4 s.heap t x k).objs.size))) { s with heap := zt5 s.heap t x k }) :=
  .of_wp fun prog w A R s h => by
    obtain ⟨hp, g, d, tk, os⟩ := s; obtain ⟨hl1, h⟩ := h
    have hsub := sub_zip
    have hL1 : Heap.IsTuple (Shared.heap ⟨hp, g, d, tk, os⟩) t xs := hl1
    wp_walk using wpAny_pyIter_tuple hL1, wpAny_pyIter_ascii ha
    exact ⟨_, rfl, h⟩
theorem call_zip_ts {prog : Program} {w : World} {A : Around} {E : Value → Shared → Prop} {s : Shared} {t : Addr} {x : Str} {k : Tok} {xs : Array Value} {Q : Value → Shared → Prop} (ha : x.cps.all (· < 128) = true) (hl1 : s.heap.IsTuple t xs)
    (h : ∀ h', IsZip h' (s.heap.objs.size + 4) (s.heap.objs.size + 2) (s.heap.objs.size + 3) .none → IsPair h' (s.heap.objs.size + 2) (.ref s.heap.objs.size) (.ref (s.heap.objs.size + 1)) →
      IsPair h' (s.heap.objs.size + 3) .none .none → h'.IsTupleIter s.heap.objs.size t 0 → h'.IsStrIter (s.heap.objs.size + 1) "str_ascii_iterator" x k 0 → h'.objs.size = s.heap.objs.size + 5 →
      (∀ c o, s.heap.get? c = some o → h'.get? c = some o) → Q (.ref (s.heap.objs.size + 4)) { s with heap := h' }) :
    wpAny (model prog w) A (call (.type "zip") [.ref t, .str x k]) Q E s := by
  refine callType_new PySem.F.called_zip (by decide) (PySem.F.typeCall_zip_2 _ _) (PySem.F.newCall_zip_2 _ _) (fun obj => PySem.F.args_object_init_3 obj _ _) PySem.F.entry_zip_new
    (meets_zip_ts t x k xs ha) ⟨hl1, ?_⟩
  have z1 : (zt1 s.heap t).objs.size = s.heap.objs.size + 1 := Heap.size_push ..
  have z2 : (zt2 s.heap t x k).objs.size = s.heap.objs.size + 2 := by rw [Heap.size_push, z1]
  have z3 : (zt3 s.heap t x k).objs.size = s.heap.objs.size + 3 := by rw [Heap.size_push, z2]
  have z4 : (zt4 s.heap t x k).objs.size = s.heap.objs.size + 4 := by rw [Heap.size_push, z3]
  have z5 : (zt5 s.heap t x k).objs.size = s.heap.objs.size + 5 := by rw [Heap.size_push, z4]
  have g5 : (zt5 s.heap t x k).get? (zt4 s.heap t x k).objs.size = some _ := Heap.get?_push_size _ rfl
  have g4 : (zt5 s.heap t x k).get? (zt3 s.heap t x k).objs.size = some _ := Heap.get?_push_of_some _ (Heap.get?_push_size _ rfl)
  have g3 : (zt5 s.heap t x k).get? (zt2 s.heap t x k).objs.size = some _ := Heap.get?_push_of_some _ (Heap.get?_push_of_some _ (Heap.get?_push_size _ rfl))
  have g2 : (zt5 s.heap t x k).get? (zt1 s.heap t).objs.size = some _ := Heap.get?_push_of_some _ (Heap.get?_push_of_some _ (Heap.get?_push_of_some _ (Heap.get?_push_size _ rfl)))
  have g1 : (zt5 s.heap t x k).get? s.heap.objs.size = some _ := Heap.get?_push_of_some _ (Heap.get?_push_of_some _ (Heap.get?_push_of_some _ (Heap.get?_push_of_some _ (Heap.get?_push_size _ rfl))))
  show _ ∧ _
  rw [z2, z3, z4] at g5
  rw [z1, z2] at g3
  rw [z3] at g4
  rw [z1] at g2
  rw [z4]
  exact ⟨⟨_, g5, rfl⟩, h _ g5 g3 g4 ⟨_, g1, rfl, rfl⟩ ⟨_, g2, rfl, rfl⟩ z5 fun c o y =>
    Heap.get?_push_of_some _ (Heap.get?_push_of_some _ (Heap.get?_push_of_some _ (Heap.get?_push_of_some _ (Heap.get?_push_of_some _ y))))⟩
end L2
namespace L2
open PySem PySem.Spec PyProof.Rows
noncomputable def Itzs (K : PySem.W.Frag) (a : Addr) (x : Str) : It :=
  ⟨fun i H => ∃ xs v c, SqT K H a xs ∧ xs[i]? = some v ∧ x.cps[i]? = some c,
   fun i H v H' => ∃ T u c, v = .ref T ∧ H T = none ∧ H' = upd H T (.tup [u, .str ⟨#[c]⟩]) ∧ (∀ xs, SqT K H a xs → xs[i]? = some u) ∧ x.cps[i]? = some c,
   fun i H => ∃ xs, SqT K H a xs ∧ (xs.length ≤ i ∨ x.cps.size ≤ i)⟩
noncomputable def ZTs (z TI TO i1 i2 a : Addr) (x : Str) (tk : Tok) (i : Nat) (h : Heap) : Prop := IsZip h z TI TO .none ∧ IsPair h TI (.ref i1) (.ref i2) ∧ (∃ p q, IsPair h TO p q) ∧ h.IsTupleIter i1 a i ∧ h.IsStrIter i2 "str_ascii_iterator" x tk i
theorem ZTs.apart {z TI TO i1 i2 a : Addr} {x : Str} {tk : Tok} {i : Nat} {h : Heap} {xs : Array Value} (st : ZTs z TI TO i1 i2 a x tk i h) (hT : TI ≠ TO) (ha : a ≠ TO) (l1 : h.IsTuple a xs) : ZApart z TI TO i1 i2 [i1, a] [i2] := by
  obtain ⟨hz, hI, ⟨p, q, hO⟩, ⟨o1, g1, c1, d1⟩, ⟨o2, g2, c2, d2⟩⟩ := st
  obtain ⟨ol, gl, cl, _⟩ := l1
  have ne : ∀ {x y : Addr} {ox oy : Obj} {m n : String}, h.get? x = some ox → h.get? y = some oy → ox.cls = .type m → oy.cls = .type n → m ≠ n → x ≠ y := fun e1 e2 c1 c2 hmn z => by
    subst z
    rw [e1] at e2; cases e2
    rw [c1] at c2; cases c2
    exact hmn rfl
  have e1 : TI ≠ z := ne hI hz rfl rfl (by decide)
  have e2 : TO ≠ z := ne hO hz rfl rfl (by decide)
  have e3 : i1 ≠ z := ne g1 hz c1 rfl (by decide)
  have e4 : i2 ≠ z := ne g2 hz c2 rfl (by decide)
  have e5 : TI ≠ i1 := ne hI g1 rfl c1 (by decide)
  have e6 : TI ≠ i2 := ne hI g2 rfl c2 (by decide)
  have e7 : TO ≠ i1 := ne hO g1 rfl c1 (by decide)
  have e8 : TO ≠ i2 := ne hO g2 rfl c2 (by decide)
  have e9 : i1 ≠ i2 := ne g1 g2 c1 c2 (by decide)
  have ea : a ≠ z := ne gl hz cl rfl (by decide)
  have eb : a ≠ i2 := ne gl g2 cl c2 (by decide)
  exact ⟨e1, e2, e3, e4, hT, e5, e6, e7, e8, e9, by simp [e3.symm, ea.symm], by simp [e4.symm], by simp [e7, ha.symm], by simp [e8], by simp [e9], by simp [e9.symm, eb.symm]⟩
theorem turn_zts {P : Program} {w : World} {K : PySem.W.Frag} {elts : List Expr} {tk : Nat} {tpos : Pos} (a z TI TO i1 i2 : Addr) (x : Str) (xt : Tok) (hT : TI ≠ TO) (ha : a ≠ TO) (hai : a ≠ i1) : Turn P w K (.Tuple elts tk tpos) (Itzs K a x) [z, TI, TO, i1, i2] z (ZTs z TI TO i1 i2 a x xt) where
  mem := by simp
  obj := fun i h st b' hb => by
    obtain ⟨hz, hI, ⟨p, q, hO⟩, ⟨o1, g1, c1, d1⟩, ⟨o2, g2, c2, d2⟩⟩ := st
    simp only [List.mem_cons, List.not_mem_nil, or_false] at hb
    rcases hb with rfl | rfl | rfl | rfl | rfl
    · exact ⟨_, hz, fun v e => by cases e⟩
    · exact ⟨_, hI, fun v e => by cases e⟩
    · exact ⟨_, hO, fun v e => by cases e⟩
    · exact ⟨_, g1, fun v e => by rw [d1] at e; cases e⟩
    · exact ⟨_, g2, fun v e => by rw [d2] at e; cases e⟩
  keep := fun i h h' st k => by
    obtain ⟨hz, hI, ⟨p, q, hO⟩, ⟨o1, g1, r1⟩, ⟨o2, g2, r2⟩⟩ := st
    exact ⟨k z (by simp) _ hz, k TI (by simp) _ hI, ⟨p, q, k TO (by simp) _ hO⟩, ⟨o1, k i1 (by simp) o1 g1, r1⟩, ⟨o2, k i2 (by simp) o2 g2, r2⟩⟩
  item := by
    intro X hP hw hK hc i pins s σ H E I hf st hg
    subst hP hw hK
    obtain ⟨xs, x0, c, hq1, hx, hy⟩ := hg
    obtain ⟨its, rv, p1, hz1⟩ := I.tuple hq1
    obtain ⟨u, hu, ru⟩ := rv.get hx
    have hh := I.ok.hd hc
    have D := st.apart hT ha p1
    obtain ⟨hz, hI, ⟨p, q, hO⟩, h1, h2⟩ := st
    have k1 : i < its.toArray.size := by have := (List.getElem?_eq_some_iff.mp hu).1; simpa using this
    have k2 : i < x.cps.size := (Array.getElem?_eq_some_iff.mp hy).1
    refine pyNext_zipW_item (draws_tup (A := X.A.in1) hh i1 a hai its.toArray) (Draws.strAscii (A := X.A.in1) hh i2 x xt) D hz hI hO ⟨h1, p1⟩ h2 k1 k2 fun u' v h' tk' e1 e2 a1 a2 a3 a4 a5 a6 a7 => ?_
    have eu : u' = u := by
      have : its[i]? = some u' := by simpa using e1
      rw [hu] at this; cases this; rfl
    subst eu
    obtain ⟨c', t', ec, rfl⟩ := e2
    rw [hy] at ec; cases ec
    refine ⟨_, rfl, ?_⟩
    refine wpAny_letOwnedTupleGo_zip a1 fun h2' hz2' sb => ?_
    have zl : z < s.heap.objs.size := Heap.lt_size hz
    have hT2 : h2'.get? s.heap.objs.size = some { cls := .type "tuple", data := .seq #[u', .str ⟨#[c]⟩ t'] } := (sb.2 _ (Nat.ne_of_gt zl)).trans a5
    have I1 : Inv X pins σ (upd H s.heap.objs.size (.tup [x0, .str ⟨#[c]⟩])) { s with heap := h2', toks := tk' } :=
      I.turnedNew (fp := [z, TI, TO, i1, i2]) (fun c o hb e => by
        simp only [List.mem_cons, List.not_mem_nil, or_false, not_or] at hb
        exact (sb.2 c hb.1).trans (a7 c o hb.1 hb.2.2.1 hb.2.2.2.1 hb.2.2.2.2 e)) hf (Nat.le_refl _) (show ObjOk X.prog X.w _ h2' _ (.tup [x0, .str ⟨#[c]⟩]) from ⟨by show 2 ≤ sizeLine; decide, [u', .str ⟨#[c]⟩ t'], .cons ru (.cons ⟨t', rfl⟩ .nil), _, hT2, rfl, _, rfl⟩)
    refine ⟨.ref s.heap.objs.size, _, I1, rfl, ⟨_, x0, c, rfl, I.hok.fresh (Nat.le_refl _), rfl, fun zs hzs => by rw [I.tuple_inj hzs hq1]; exact hx, hy⟩, ⟨hz2', (sb.2 TI D.TIz).trans (a7 TI _ D.TIz D.TITO D.TIi1 D.TIi2 hI), ⟨_, _, (sb.2 TO D.TOz).trans a2⟩, a3.1.extBut sb.extBut D.i1z, a4.extBut sb.extBut D.i2z⟩, fun c hc' => ?_⟩
    rw [upd_ne]
    · exact (hf c hc').1
    · simp only [List.mem_cons, List.not_mem_nil, or_false] at hc'
      obtain ⟨o1, g1, _⟩ := h1
      obtain ⟨o2, g2, _⟩ := h2
      rcases hc' with rfl | rfl | rfl | rfl | rfl
      · exact Nat.ne_of_lt zl
      · exact Nat.ne_of_lt (Heap.lt_size hI)
      · exact Nat.ne_of_lt (Heap.lt_size hO)
      · exact Nat.ne_of_lt (Heap.lt_size g1)
      · exact Nat.ne_of_lt (Heap.lt_size g2)
  done := by
    intro X hP hw hK hc i pins s σ H E I hf st hg
    subst hP hw hK
    obtain ⟨xs, hq1, hx⟩ := hg
    obtain ⟨its, rv, p1, hz1⟩ := I.tuple hq1
    have l1 := rv.length
    have hh := I.ok.hd hc
    have D := st.apart hT ha p1
    obtain ⟨hz, hI, ⟨p, q, hO⟩, h1, h2⟩ := st
    refine pyNext_zipW_end (draws_tup (A := X.A.in1) hh i1 a hai its.toArray) (Draws.strAscii (A := X.A.in1) hh i2 x xt) D hz hI hO ⟨h1, p1⟩ h2 (k := i) ?_ fun h' tk' k => ⟨rfl, I.turnedL (t' := tk') (fp := [z, TI, TO, i1, i2]) (fun c o hb e => ?_) hf⟩
    · by_cases q1 : its.toArray.size ≤ i
      · exact .inl fun s Q E st hE => nextOf_tup_end hh st.1 st.2 (by simpa using q1) hE
      · refine .inr ⟨by omega, fun s Q E st hE => wpAny_nextOf_ascii_end hh st (Array.getElem?_eq_none ?_) hE⟩
        have : its.toArray.size = its.length := by simp
        rcases hx with hx | hx
        · omega
        · exact hx
    · simp only [List.mem_cons, List.not_mem_nil, or_false, not_or] at hb
      exact k c o hb.1 hb.2.2.1 hb.2.2.2.1 hb.2.2.2.2 e
  self := fun _ _ _ _ _ st h => wpAny_pyIter_zip st.1 h
noncomputable def iZtsV (K : PySem.W.Frag) (ta : TA) : TI := fun σ H R => ta σ H fun vs H1 => ∃ a x, vs = [.ref a, .str x] ∧ x.cps.all (· < 128) = true ∧ (∃ xs, SqT K H1 a xs) ∧ R (Itzs K a x) H1
theorem pi_zts {X : Cx} {l m : Expr} {ta : TA} {p pos : Pos} {elts : List Expr} {tk : Nat} {tpos : Pos} (hg : Gl X "zip") (hm : X.mg "zip" = none) (ha : PA X [l, m] ta) (hs : starEach [l, m] X.env = [(false, eval l X.env), (false, eval m X.env)] := by rfl) (hs2 : starEach [m] X.env = [(false, eval m X.env)] := by rfl) :
    PI X (.Tuple elts tk tpos) (.Call (.Name "zip" p) [l, m] [] pos) (iZtsV X.K ta) := by
  intro pins s σ H R I h
  refine Call_ (ld_blt I hg hm boot_zip (PyProof.Rows.callWith_type1 (thn (ha pos pins s σ H _ I h) fun us s1 w1_ => w1_.elim fun vs z_ => z_.elim fun H1 z_ => z_.elim fun I1 z_ => z_.elim fun r1 q1 => ?_) (by rw [hs, hs2]) (by rw [hs2]; rfl)))
  obtain ⟨a, x, e, hx, ⟨xs, hq1⟩, q⟩ := q1
  subst e
  cases r1 with
  | cons r rr =>
    cases rr with
    | cons r' rr =>
      cases rr
      cases r
      obtain ⟨xt, rfl⟩ := r'
      obtain ⟨its, rv, p1, hz⟩ := I1.tuple hq1
      have al : a < s1.heap.objs.size := by obtain ⟨o, e, _⟩ := p1; exact Heap.lt_size e
      refine call_zip_ts hx p1 fun h' a1 a2 a3 a4 a5 a6 a7 => ?_
      refine wpAny_pyIter_zip a1 ?_
      refine ⟨s1.heap.objs.size + 4, [s1.heap.objs.size + 4, s1.heap.objs.size + 2, s1.heap.objs.size + 3, s1.heap.objs.size, s1.heap.objs.size + 1], _, _, H1, rfl, I1.kept (t' := s1.toks) a7, turn_zts a _ _ _ _ _ x xt (fun z => by have : s1.heap.objs.size + 2 = s1.heap.objs.size + 3 := z; omega) (Nat.ne_of_lt (Nat.lt_of_lt_of_le al (Nat.le_add_right _ 3))) (Nat.ne_of_lt al), ⟨a1, a2, ⟨_, _, a3⟩, a4, a5⟩, fun c hc => ?_, q⟩
      have hle : s1.heap.objs.size ≤ c := by
        simp only [List.mem_cons, List.not_mem_nil, or_false] at hc
        rcases hc with rfl | rfl | rfl | rfl | rfl
        · exact Nat.le_add_right _ _
        · exact Nat.le_add_right _ _
        · exact Nat.le_add_right _ _
        · exact Nat.le_refl _
        · exact Nat.le_add_right _ _
      exact I1.fpOk hle (I1.hok.fresh hle)
noncomputable def zipT (us : List D) (x : Str) : List D := List.zipWith (fun d c => .tup [d, .str ⟨#[c]⟩]) us x.cps.toList
theorem zipT_get {us : List D} {x : Str} {i : Nat} {d : D} (h : (zipT us x)[i]? = some d) : ∃ u c, us[i]? = some u ∧ x.cps[i]? = some c ∧ d = .tup [u, .str ⟨#[c]⟩] := by
  unfold zipT at h
  rw [List.getElem?_zipWith] at h
  cases e1 : us[i]? with
  | none => rw [e1] at h; cases h
  | some u =>
    cases e2 : x.cps.toList[i]? with
    | none => rw [e1, e2] at h; cases h
    | some c => rw [e1, e2] at h; cases h; exact ⟨u, c, rfl, by rw [← Array.getElem?_toList]; exact e2, rfl⟩
theorem zipT_len {us : List D} {x : Str} : (zipT us x).length = min us.length x.cps.size := by unfold zipT; simp
@[irreducible] noncomputable def iZipTS (ta : TDA) : TGI := fun σ M R => ta σ M fun vs M1 => ∃ us x, vs = [.tup us, .str x] ∧ x.cps.all (· < 128) = true ∧ R (zipT us x) (fun _ => True) M1
theorem rd_izts {ta : TDA} {σ : SD} {M : HpD} {R : List D → (HpD → Prop) → HpD → Prop} (h : ta σ M fun vs M1 => ∃ us x, vs = [.tup us, .str x] ∧ x.cps.all (· < 128) = true ∧ R (zipT us x) (fun _ => True) M1) : iZipTS ta σ M R := by unfold iZipTS; exact h
theorem ylds_zts {K : PySem.W.Frag} {F : Addr → Prop} {H : Hp} {M : HpD} {a : Addr} {us : List D} {x : Str} (r : RepD ⟨K, F⟩ H M (.tup us) (.ref a)) : YldsG K F (Itzs K a x) (zipT us x) (fun _ => True) M H := fun F' i M' H' hf f rh gd => by
  have r' : RepD ⟨K, F'⟩ H' M' (.tup us) (.ref a) := (r.more hf).mono f
  unfold RepD at r'
  obtain ⟨a', xs, ea, ft, rs1⟩ := r'
  cases ea
  have h1 : SqT K H' a xs := ft.sq
  refine ⟨fun d e => ?_, fun e => ⟨xs, h1, by rw [zipT_len] at e; rw [← rs1.length]; omega⟩⟩
  obtain ⟨d1, c, e1, e2, rfl⟩ := zipT_get e
  obtain ⟨v1, g1, q1⟩ := rs1.get e1
  refine ⟨⟨xs, v1, c, h1, g1, e2⟩, fun y H3 yy => ?_⟩
  obtain ⟨T, u, c', rfl, hT, rfl, ya, yb⟩ := yy
  have k1 := ya xs h1
  rw [g1] at k1; cases k1
  rw [e2] at yb; cases yb
  refine ⟨fz_new hT, rh.new hT, ?_⟩
  unfold RepD
  exact ⟨T, _, rfl, .inl ⟨.inl upd_same, rh.free hT, rh.nf hT⟩, RepDs.mono (fz_new hT) (.cons q1 (.cons (by unfold RepD; rfl) .nil))⟩
theorem id_zts {X : Cx} {l m : Expr} {ta : TDA} {p pos : Pos} {elts : List Expr} {tk : Nat} {tpos : Pos} (hg : Gl X "zip") (hm : X.mg "zip" = none) (ha : AD X [l, m] ta) (hs : starEach [l, m] X.env = [(false, eval l X.env), (false, eval m X.env)] := by rfl) (hs2 : starEach [m] X.env = [(false, eval m X.env)] := by rfl) :
    IDG X (.Tuple elts tk tpos) (.Call (.Name "zip" p) [l, m] [] pos) (iZipTS ta) := by
  refine (pi_zts hg hm ha hs hs2).wk fun σ H R w1_ => w1_.elim fun F z_ => z_.elim fun σD z_ => z_.elim fun M z_ => z_.elim fun RD z_ => z_.elim fun rel z_ => z_.elim fun h p => ?_
  unfold iZipTS at h
  refine lA rel h fun d M1 v H1 f1 rel1 r1 h1 => ?_
  obtain ⟨us, x, rfl, hx, q⟩ := h1
  obtain ⟨u, v', rfl, r2, r3⟩ := rep2 r1
  have r2' := r2
  unfold RepD at r2'
  obtain ⟨a, xs, rfl, ft, _⟩ := r2'
  unfold RepD at r3
  subst r3
  exact ⟨a, x, rfl, hx, ⟨xs, ft.sq⟩, p _ _ M1 H1 _ f1 rel1.hp (ylds_zts r2) q⟩
end L2
namespace L2
open PySem PySem.Spec PyProof.Rows
end L2
namespace L2
open PySem PySem.Spec PyProof.Rows
structure FunC (K : PySem.W.Frag) (x qual : Str) (st : Stmt) (f : Addr) (fd : FuncData) (cdv : Value) : Prop where
  ex : ∃ (oc : Value) (od : Option Addr) (kV doc pm : Value) (an : Option Addr) (ct : Value) (osl : Array (Option Value)), fd = PySem.W.fnOf x qual (defArgs st) (defBody st) (defScope st) .none kV doc pm an cdv ct ∧
    K.lookup f = some ⟨oc, od, .func (PySem.W.fnOf x qual (defArgs st) (defBody st) (defScope st) .none kV doc pm an cdv ct), osl⟩ ∧ PySem.W.codeIn K cdv qual = true
theorem FunC.okD {P : Program} {w : World} {K : PySem.W.Frag} {mg : Str → Option Value} {base : Heap} {x qual : Str} {st : Stmt} {f : Addr} {fd : FuncData} {cdv : Value} {N ps : List Str} {k : Nat} {sp : SpD} {t : TSD} (F : FunC K x qual st f fd cdv) (S : FnScope N ps (defScope st)) (len : ∀ ds M Q, sp ds M Q → ds.length = ps.length)
    (hterm : ∀ (A : Around) (outer : List Env) (s : Shared) (H : Hp) (E : XK), Room k (A.deeper (envOfC qual (defScope st) s.heap.objs.size f cdv)) →
      SsD (cxOf CX0 P w K mg base N qual (defScope st) f cdv A outer s H E).nox (defBody st) t)
    (hread : ∀ ds M Q, sp ds M Q → t { nx := fun _ M' => Q .non M', rt := Q } (startD N ds) M) : FnOk P w K mg base CX0 (k + 1) f fd ps (LiftP K sp) := by
  obtain ⟨oc, od, kV, doc, pm, an, ct, osl, rfl, lk, hcd⟩ := F.ex
  refine fn_of lk hcd S (fun vs H Q E h => ?_) fun A outer s H vs Q E hr h => ?_
  · obtain ⟨F', ds, M, QD, r, rh, hsp, p⟩ := h
    rw [← r.length]
    exact len _ _ _ hsp
  · obtain ⟨F', ds, M, QD, r, rh, hsp, p⟩ := h
    exact ⟨LiftS K t, (hterm A outer s H E hr).nox, F', startD N ds, M, _, start_rel r rh, hread ds M QD hsp, ⟨fun σD' M' σ' H' f rel q => p _ M' _ H' f rel.hp (by unfold RepD; rfl) q, p, fun _ _ _ _ _ _ h => h.elim, fun _ _ _ _ _ _ h => h.elim⟩⟩
end L2
namespace L2
open PySem PySem.Spec PyProof.Rows
end L2
namespace L2
open PySem PySem.Spec PyProof.Rows
end L2
namespace L2
open PySem PySem.Spec PyProof.Rows
end L2
namespace L2
open PySem PySem.Spec PyProof.Rows
open PySem.AutoSeq1 (wpAny_loadPart')
open PySem.MeetsSeq PySem.MeetsSeq2 PySem.MeetsSeq3
end L2
namespace L2
open PySem PySem.Spec PyProof.Rows
open PySem.AutoSeq1 (wpAny_loadPart')
open PySem.MeetsSeq PySem.MeetsSeq2 PySem.MeetsSeq3 PySem.SeqRoads2 PySem.SeqAt
theorem contains_loopI (l : Addr) (items : Array Value) (n : Nat) (dd : Option Addr) (sl : Array (Option Value)) (x : Value) (e : Nat → Bool) (k : Nat) :
    ∀ i : Nat, items.size - i = k → Meets (Builtin.«list.__contains__.loop» ⟨[.ref l, x, rawInt i], []⟩)
      (fun A R s => s.heap.get? l = some { cls := .type "list", dict := dd, data := .seq items n, slots := sl } ∧ (∀ j (h : j < items.size), SeqAt.EqAt A.in1 s items[j] x (e j)) ∧ R (.ok (.ret (.bool (((List.range items.size).drop i).any e)))) s) := by
  induction k with
  | zero =>
    intro i hk prog w A R s h
    obtain ⟨hp, g, d, tk, os⟩ := s; obtain ⟨hl, he, h⟩ := h
    wp_walk using wpAny_loadPart' hl
    have hi : items[((i : Nat) : Int).toNat]? = none := by simp; omega
    have hd : (List.range items.size).drop i = [] := by simp; omega
    rw [hd] at h
    rw [hi]
    wp_walk
    exact h
  | succ k ih =>
    intro i hk prog w A R s h
    obtain ⟨hp, g, d, tk, os⟩ := s; obtain ⟨hl, he, h⟩ := h
    wp_walk using wpAny_loadPart' hl
    have hlt : i < items.size := by omega
    have hi : items[((i : Nat) : Int).toNat]? = some items[i] := by simp [hlt]
    have hd : (List.range items.size).drop i = i :: (List.range items.size).drop (i + 1) := by simp [List.drop_eq_getElem_cons, hlt]
    rw [hd, List.any_cons] at h
    rw [hi]
    refine wpAny_bind (he i hlt prog w _ _ ?_)
    cases hb : e i with
    | true =>
      rw [hb] at h
      wp_walk
      exact h
    | false =>
      rw [hb] at h
      have hc : ((i : Int) + 1) = ((i + 1 : Nat) : Int) := by push_cast; rfl
      wp_walk
      rw [hc]
      exact ⟨plainId_quiet plain_contains_loop _, codeAny_builtin entry_contains_loop (by
        rw [Around.under_plainId plain_contains_loop _]
        exact ih (i + 1) (by omega) prog w A R _ ⟨hl, he, by simpa using h⟩)⟩
theorem list_containsI (l : Addr) (items : Array Value) (n : Nat) (dd : Option Addr) (sl : Array (Option Value)) (x : Value) (e : Nat → Bool) :
    Meets (Builtin.«list.__contains__» ⟨[.ref l, x], []⟩)
      (fun A R s => s.heap.get? l = some { cls := .type "list", dict := dd, data := .seq items n, slots := sl } ∧ (∀ j (h : j < items.size), SeqAt.EqAt A.in1 s items[j] x (e j)) ∧ R (.ok (.ret (.bool ((List.range items.size).any e)))) s) := by
  intro prog w A R s h
  obtain ⟨hp, g, d, tk, os⟩ := s; obtain ⟨hl, he, h⟩ := h
  wp_walk using wpAny_loadPart' hl
  exact ⟨plainId_quiet plain_contains_loop _, codeAny_builtin entry_contains_loop (by
    rw [Around.under_plainId plain_contains_loop _]
    exact contains_loopI l items n dd sl x e _ 0 rfl prog w A R _ ⟨hl, he, by simpa using h⟩)⟩
section
variable {prog : Program} {w : World} {A : Around} {E : Value → Shared → Prop} {s : Shared}
theorem in_listI {l : Addr} {items : Array Value} {x : Value} {Q : Value → Shared → Prop} (e : Nat → Bool) (hl : s.heap.IsList l items) (he : ∀ j (h : j < items.size), SeqAt.EqAt A.in1 s items[j] x (e j))
    (h : Q (.bool ((List.range items.size).any e)) s) : wpAny (model prog w) A (compareOp .In x (.ref l)) Q E s := by
  obtain ⟨⟨cls, dd, data, sl⟩, ho, hc, n, hd⟩ := id hl
  simp only at hc hd
  subst hc hd
  exact in_meets ⟨_, ho, rfl⟩ F.slot_list_contains F.entry_list_contains (F.args_list_contains_2 _ _) (list_containsI l items n dd sl x e) ⟨ho, he, _, rfl, h⟩
theorem notIn_listI {l : Addr} {items : Array Value} {x : Value} {Q : Value → Shared → Prop} (e : Nat → Bool) (hl : s.heap.IsList l items) (he : ∀ j (h : j < items.size), SeqAt.EqAt A.in1 s items[j] x (e j))
    (h : Q (.bool (!(List.range items.size).any e)) s) : wpAny (model prog w) A (compareOp .NotIn x (.ref l)) Q E s := by
  obtain ⟨⟨cls, dd, data, sl⟩, ho, hc, n, hd⟩ := id hl
  simp only at hc hd
  subst hc hd
  exact notIn_meets ⟨_, ho, rfl⟩ F.slot_list_contains F.entry_list_contains (F.args_list_contains_2 _ _) (list_containsI l items n dd sl x e) ⟨ho, he, _, rfl, h⟩
end
@[irreducible] noncomputable def rInA (neg : Bool) : RD2 := fun x y M Q => ∃ ds, listD y M = some ds ∧ (∀ d ∈ ds, okD d x = true ∧ depD d ≤ 50) ∧ Q (.bl (if neg then !ds.any (fun d => eqD d x) else ds.any (fun d => eqD d x))) M
theorem rd_inA {neg : Bool} {x y : D} {ds : List D} {M : HpD} {Q : KD} (h : listD y M = some ds) (fs : ∀ d ∈ ds, okD d x = true ∧ depD d ≤ 50) (q : Q (.bl (if neg then !ds.any (fun d => eqD d x) else ds.any (fun d => eqD d x))) M) : rInA neg x y M Q := by unfold rInA; exact ⟨ds, h, fs, q⟩
theorem any_range (ds : List D) (x : D) : (List.range ds.length).any (fun j => (ds[j]?.map fun d => eqD d x).getD false) = ds.any fun d => eqD d x := by
  rw [Bool.eq_iff_iff, List.any_eq_true, List.any_eq_true]
  constructor
  · rintro ⟨j, hj, e⟩
    have hj := List.mem_range.mp hj
    rw [List.getElem?_eq_getElem hj] at e
    exact ⟨ds[j], List.getElem_mem hj, e⟩
  · rintro ⟨d, hd, e⟩
    obtain ⟨j, hj, rfl⟩ := List.mem_iff_getElem.mp hd
    exact ⟨j, List.mem_range.mpr hj, by rw [List.getElem?_eq_getElem hj]; exact e⟩
section
variable {X : Cx} {k : Nat}
theorem inA_at (hr : Room k X.A) {pins : List (Addr × Obj)} {σ : St} {H : Hp} {s : Shared} {F : Addr → Prop} {M : HpD} {d : D} {x : V} {v : Value} {ds : List D} {xs : List V} {its : List Value} (I : Inv X pins σ H s) (r1 : RepD ⟨X.K, F⟩ H M d x) (rx : RelV x v)
    (rs : RepDs ⟨X.K, F⟩ H M ds xs) (vs : Vals xs its) (fs : ∀ e ∈ ds, okD e d = true ∧ depD e ≤ 50) (j : Nat) (h : j < its.toArray.size) : SeqAt.EqAt X.A.in1 s its.toArray[j] v ((ds[j]?.map fun e => eqD e d).getD false) := by
  have hun := hr.units
  have hj : j < its.length := by simpa using h
  have hj2 : j < xs.length := by rw [vs.length]; exact hj
  obtain ⟨u, eu, ry⟩ := vs.get (List.getElem?_eq_getElem hj2)
  rw [List.getElem?_eq_getElem hj] at eu
  cases eu
  obtain ⟨e, ee, re⟩ := rs.get' (List.getElem?_eq_getElem hj2)
  obtain ⟨f1, f2⟩ := fs e (List.mem_of_getElem? ee)
  rw [ee]
  have := eqAtD I e d X.A.in1 f1 (by show X.A.units + 1 + depD e < cLine; omega) re r1 ry rx
  simpa using this
theorem od_inA (hr : Room k X.A) : OpR X (compareOp .In) (LiftR X.K (rInA false)) := by
  intro pins s σ H x y v u Q I rx ry h
  obtain ⟨F, d, e, M, QD, r1, r2, rh, hq, p⟩ := h
  unfold rInA at hq
  obtain ⟨ds, hd, fs, q⟩ := hq
  obtain ⟨a, ys, rfl, hs, rd⟩ := list_rep rh r2 hd
  cases ry
  obtain ⟨its, vi, pl, hz⟩ := I.list hs
  have l1 : its.toArray.size = ds.length := by rw [List.size_toArray, ← vi.length, rd.length]
  refine in_listI _ pl.isList (inA_at hr I r1 rx rd vi fs) ?_
  rw [l1, any_range]
  exact ⟨.bl _, H, I, rfl, p _ M _ H .refl rh (by unfold RepD; rfl) q⟩
theorem od_notInA (hr : Room k X.A) : OpR X (compareOp .NotIn) (LiftR X.K (rInA true)) := by
  intro pins s σ H x y v u Q I rx ry h
  obtain ⟨F, d, e, M, QD, r1, r2, rh, hq, p⟩ := h
  unfold rInA at hq
  obtain ⟨ds, hd, fs, q⟩ := hq
  obtain ⟨a, ys, rfl, hs, rd⟩ := list_rep rh r2 hd
  cases ry
  obtain ⟨its, vi, pl, hz⟩ := I.list hs
  have l1 : its.toArray.size = ds.length := by rw [List.size_toArray, ← vi.length, rd.length]
  refine notIn_listI _ pl.isList (inA_at hr I r1 rx rd vi fs) ?_
  rw [l1, any_range]
  exact ⟨.bl _, H, I, rfl, p _ M _ H .refl rh (by unfold RepD; rfl) q⟩
@[irreducible] noncomputable def rLtS : RD2 := fun x y M Q => ∃ i j, x = .str i ∧ y = .str j ∧ Q (.bl (decide (i.cps.toList < j.cps.toList))) M
theorem rd_ltS {i j : Str} {M : HpD} {Q : KD} (q : Q (.bl (decide (i.cps.toList < j.cps.toList))) M) : rLtS (.str i) (.str j) M Q := by unfold rLtS; exact ⟨i, j, rfl, rfl, q⟩
theorem od_ltS : OpR X (compareOp .Lt) (LiftR X.K rLtS) := by
  refine op_lt_str.wk fun x y H Q h => ?_
  obtain ⟨F, d, e, M, QD, r1, r2, rh, hq, p⟩ := h
  unfold rLtS at hq
  obtain ⟨i, j, rfl, rfl, q⟩ := hq
  unfold RepD at r1 r2
  exact ⟨i, j, r1, r2, p _ M _ H .refl rh (by unfold RepD; rfl) q⟩
@[irreducible] noncomputable def rCatTD : RD2 := fun x y M Q => ∃ a b, x = .tup a ∧ y = .tup b ∧ a ≠ [] ∧ b ≠ [] ∧ a.length + b.length ≤ sizeLine ∧ Q (.tup (a ++ b)) M
theorem rd_catT {a b : List D} {M : HpD} {Q : KD} (ha : a ≠ []) (hb : b ≠ []) (hl : a.length + b.length ≤ sizeLine) (q : Q (.tup (a ++ b)) M) : rCatTD (.tup a) (.tup b) M Q := by unfold rCatTD; exact ⟨a, b, rfl, rfl, ha, hb, hl, q⟩
theorem od_catT : OpR X (binaryOp .Add) (LiftR X.K rCatTD) := by
  refine op_catT.wk fun x y H Q h => ?_
  obtain ⟨F, d, e, M, QD, r1, r2, rh, hq, p⟩ := h
  unfold rCatTD at hq
  obtain ⟨a, b, rfl, rfl, ha, hb, hl, q⟩ := hq
  unfold RepD at r1 r2
  obtain ⟨pa, xs, rfl, h1, k1⟩ := r1
  obtain ⟨pb, ys, rfl, h2, k2⟩ := r2
  have l1 := k1.length
  have l2 := k2.length
  refine ⟨pa, pb, xs, ys, rfl, rfl, h1.sq, h2.sq, fun z => ha ?_, by omega, fun z => absurd ?_ hb, fun _ l e => ?_⟩
  · rw [z] at l1; exact List.length_eq_zero_iff.mp l1
  · rw [z] at l2; exact List.length_eq_zero_iff.mp l2
  · exact p _ M _ _ (fz_new e) (rh.new e) (by unfold RepD; exact ⟨l, xs ++ ys, rfl, .inl ⟨.inl upd_same, rh.free e, rh.nf e⟩, (k1.append k2).mono (fz_new e)⟩) q
@[irreducible] noncomputable def tSlTD (te : TDE) (tl th : TDO) : TDE := fun σ M Q => te σ M fun x M1 => tl σ M1 fun l M2 => th σ M2 fun u M3 => ∃ ds, x = .tup ds ∧ ¬ (HT.sIx ds.length 0 l = 0 ∧ HT.sIx ds.length ds.length u = ds.length) ∧ Q (.tup (cutD ds l u)) M3
theorem rd_slT {te : TDE} {tl th : TDO} {σ : SD} {M : HpD} {Q : KD} (h : te σ M fun x M1 => tl σ M1 fun l M2 => th σ M2 fun u M3 => ∃ ds, x = .tup ds ∧ ¬ (HT.sIx ds.length 0 l = 0 ∧ HT.sIx ds.length ds.length u = ds.length) ∧ Q (.tup (cutD ds l u)) M3) : tSlTD te tl th σ M Q := by unfold tSlTD; exact h
theorem ed_sliceT {e : Expr} {te : TDE} {lo hi : Option Expr} {tl th : TDO} {pos p2 : Pos} (he : ED X e te) (hl : PO X lo (LiftO X.K tl)) (hu : PO X hi (LiftO X.K th)) : ED X (.Subscript e (.Slice lo hi none p2) pos) (tSlTD te tl th) := by
  refine (pe_slice sl_tup he hl hu).wk fun σ H Q h => ?_
  obtain ⟨F, σD, M, QD, rel, h, p⟩ := h
  unfold tSlTD at h
  refine lE rel h fun d M1 v H1 f1 rel1 r1 h1 => ?_
  refine ⟨F, σD, M1, _, rel1, h1, fun l M2 H2 f2 rh2 h2 => ?_⟩
  have rel2 := rel1.mono f2 rh2
  refine ⟨F, σD, M2, _, rel2, h2, fun u M3 H3 f3 rh3 h3 => ?_⟩
  obtain ⟨ds, rfl, hw, q⟩ := h3
  have r3 := r1.mono (f2.trans f3)
  unfold RepD at r3
  obtain ⟨a, xs, rfl, hx, rs⟩ := r3
  have ln := rs.length
  refine ⟨a, xs, rfl, hx.sq, by rw [← ln]; exact hw, fun q2 e => ?_⟩
  exact p _ M3 _ _ (((f1.trans f2).trans f3).trans (fz_new e)) (rh3.new e) (by unfold RepD; exact ⟨q2, _, rfl, .inl ⟨.inl upd_same, rh3.free e, rh3.nf e⟩, (rs.cut l u).mono (fz_new e)⟩) q
end
end L2
namespace L2
open PySem PySem.Spec PyProof.Rows
@[irreducible] noncomputable def rNeP : RD2 := fun x y M Q => ∃ ds es p fs, x = .lst ds ∧ y = .lst (es ++ [.ref p]) ∧ M p = some (.lst fs) ∧ okDs ds (es ++ [.lst fs]) = true ∧ depDs ds ≤ 58 ∧ Q (.bl (true ^^ eqDs ds (es ++ [.lst fs]))) M
theorem rd_neP {ds es fs : List D} {p : Addr} {M : HpD} {Q : KD} (hp : M p = some (.lst fs)) (ok : okDs ds (es ++ [.lst fs]) = true) (hd : depDs ds ≤ 58) (q : Q (.bl (true ^^ eqDs ds (es ++ [.lst fs]))) M) : rNeP (.lst ds) (.lst (es ++ [.ref p])) M Q := by unfold rNeP; exact ⟨ds, es, p, fs, rfl, rfl, hp, ok, hd, q⟩
theorem snoc_rep {K : KF} {H : Hp} {M M' : HpD} {d d' : D} (f : Fz M H M' H) (hd : ∀ v, RepD K H M d v → RepD K H M' d' v) : ∀ {es : List D} {vs : List V}, RepDs K H M (es ++ [d]) vs → RepDs K H M' (es ++ [d']) vs
  | [], vs, h => by
    rw [List.nil_append] at h ⊢
    unfold RepDs at h ⊢
    obtain ⟨x, r, e, h1, h2⟩ := h
    exact ⟨x, r, e, hd x h1, h2.mono f⟩
  | e :: es, vs, h => by
    rw [List.cons_append] at h ⊢
    unfold RepDs at h ⊢
    obtain ⟨x, r, e', h1, h2⟩ := h
    exact ⟨x, r, e', h1.mono f, snoc_rep f hd h2⟩
section
variable {X : Cx} {k : Nat}
theorem od_neP (hr : Room k X.A) : OpR X (compareOp .NotEq) (LiftR X.K rNeP) := by
  intro pins s σ H x y v u Q I rx ry h
  obtain ⟨F, d, e, M, QD, r1, r2, rh, hq, pp⟩ := h
  unfold rNeP at hq
  obtain ⟨ds, es, p, fs, rfl, rfl, hp, ok, hd, q⟩ := hq
  have r1' : RepD ⟨X.K, F⟩ H (delD M p) (.lst ds) x := r1.mono fz_del
  have r2' : RepD ⟨X.K, F⟩ H (delD M p) (.lst (es ++ [.lst fs])) y := by
    unfold RepD at r2 ⊢
    obtain ⟨a, xs, e1, h1, h2⟩ := r2
    refine ⟨a, xs, e1, h1.mono fz_del, snoc_rep fz_del (fun w hw => ?_) h2⟩
    unfold RepD at hw
    rw [hw]
    exact .frz rh hp
  have hun := hr.units
  have fin : ∀ b : Bool, b = !eqDs ds (es ++ [.lst fs]) → EP X pins σ Q (.bool b) s := fun b hb => by
    subst hb
    exact ⟨.bl _, H, I, rfl, pp (.bl (true ^^ eqDs ds (es ++ [.lst fs]))) M _ H .refl rh (by unfold RepD; simp) q⟩
  generalize es ++ [D.lst fs] = b at *
  unfold RepD at r1' r2'
  obtain ⟨pa, xs, rfl, h1, h2⟩ := r1'
  obtain ⟨pb, ys, rfl, h3, h4⟩ := r2'
  cases rx
  cases ry
  obtain ⟨i1, v1, t1, _⟩ := I.list h1.sq
  obtain ⟨i2, v2, t2, _⟩ := I.list h3.sq
  have l1 : i1.toArray.size = ds.length := by rw [List.size_toArray, ← v1.length, h2.length]
  have l2 : i2.toArray.size = b.length := by rw [List.size_toArray, ← v2.length, h4.length]
  by_cases hl : ds.length = b.length
  · refine SeqAt.RcNeAt.lists (A := X.A) (s := s) t1.isList t2.isList (by rw [l1, l2]; exact hl) (by omega) (e := fun j => (List.zipWith eqD ds b).getD j true) (fun j z1 z2 =>
      eqAtDs I ds b X.A.in1 ok (by show X.A.units + 1 + depDs ds < cLine; omega) h2 h4 v1 v2 j _ _ (by simp) (by simp)) X.prog X.w X.xe _ ?_
    rw [l1, eqDs_all' hl]
    exact fin _ rfl
  · refine SeqAt.RcNeAt.lists_lengths t1.isList t2.isList (by rw [l1, l2]; simpa using hl) (by omega) X.prog X.w X.xe _ ?_
    have : eqDs ds b = false := by
      cases q : eqDs ds b with
      | false => rfl
      | true => exact absurd (eqDs_len q) hl
    exact fin _ (by rw [this]; rfl)
end
end L2
namespace L2
open PySem PySem.W PyProof.Rows
noncomputable def gallop' : Bool → Keyed → Array Keyed → Nat → Nat → Nat → StateT SortSt Sem (Option Nat) := sortPriv% PySem.Builtin.gallop
noncomputable def mergeLo' : Array Keyed → Array Keyed → StateT SortSt Sem (Array Keyed) := sortPriv% PySem.Builtin.mergeLo
noncomputable def mergeHi' : Array Keyed → Array Keyed → StateT SortSt Sem (Array Keyed) := sortPriv% PySem.Builtin.mergeHi
noncomputable def setMinGallop' : Nat → StateT SortSt Sem Unit := sortPriv% PySem.Builtin.setMinGallop
theorem gallop'_eq (left : Bool) (key : Keyed) (arr : Array Keyed) (base n hint : Nat) : gallop' left key arr base n hint = (do
  let beyond (i : Nat) : StateT SortSt Sem (Option Bool) := do
    let x ← elem' arr (base + i)
    if left then lt' x key else return (← lt' key x).map (!·)
  let mut lastofs := 0
  let mut ofs := 1
  let mut lo := 0
  let mut hi := 0
  let some right ← beyond hint | return none
  if right then
    let maxofs := n - hint
    for _ in [0:n] do
      if ofs ≥ maxofs then break
      let some more ← beyond (hint + ofs) | return none
      if !more then break
      lastofs := ofs
      ofs := 2 * ofs + 1
    lo := hint + lastofs + 1
    hi := hint + min ofs maxofs
  else
    let maxofs := hint + 1
    for _ in [0:n] do
      if ofs ≥ maxofs then break
      let some found ← beyond (hint - ofs) | return none
      if found then break
      lastofs := ofs
      ofs := 2 * ofs + 1
    lo := hint + 1 - min ofs maxofs
    hi := hint - lastofs
  for _ in [0:n] do
    if lo ≥ hi then break
    let m := lo + (hi - lo) / 2
    let some more ← beyond m | return none
    if more then lo := m + 1 else hi := m
  return some hi) := rfl
section
variable {prog : Program} {w : World} {A : Around} {E : Value → Shared → Prop} {s : Shared}
theorem wpS_gallop {left : Bool} {key : Keyed} {arr : Array Keyed} {base n hint : Nat} {bey : Nat → Bool} {st : SortSt} {Q : Option Nat → SortSt → Prop}
    (hb : ∀ i, i < n → ∀ Q' : Option Bool → SortSt → Prop, Q' (some (bey i)) st → wpS (model prog w) A E s (do
      let x ← elem' arr (base + i)
      if left then lt' x key else return (← lt' key x).map (!·)) Q' st)
    (mono : ∀ i j, i ≤ j → j < n → bey j = true → bey i = true) (hh : hint < n)
    (h : ∀ k, k ≤ n → (∀ i, i < k → bey i = true) → (∀ i, k ≤ i → i < n → bey i = false) → Q (some k) st) : wpS (model prog w) A E s (gallop' left key arr base n hint) Q st := by
  have monoF : ∀ i j, i ≤ j → j < n → bey i = false → bey j = false := fun i j hij hj z => by
    cases q : bey j with
    | false => rfl
    | true => rw [mono i j hij hj q] at z; cases z
  have fin : ∀ lo hi : Nat, lo ≤ hi → hi ≤ n → (∀ i, i < lo → bey i = true) → (∀ i, hi ≤ i → i < n → bey i = false) →
      wpS (model prog w) A E s (do
        let mut lo := lo
        let mut hi := hi
        for _ in [0:n] do
          if lo ≥ hi then break
          let m := lo + (hi - lo) / 2
          let some more ← (do
            let x ← elem' arr (base + m)
            if left then lt' x key else return (← lt' key x).map (!·)) | return none
          if more then lo := m + 1 else hi := m
        return some hi) Q st := by
    intro lo hi h1 h2 h3 h4
    dsimp only
    refine wpS_bind (wpS_mono (wpS_forRange (I := fun x c st' => st' = st ∧ ∃ l u, c = (none, l, u) ∧ l ≤ u ∧ u ≤ n ∧ (∀ i, i < l → bey i = true) ∧ (∀ i, u ≤ i → i < n → bey i = false) ∧ (u - l) + x ≤ n)
      (Q := fun c st' => st' = st ∧ ∃ l u, c = (none, l, u) ∧ l = u ∧ u ≤ n ∧ (∀ i, i < l → bey i = true) ∧ (∀ i, u ≤ i → i < n → bey i = false)) ?step ?fin ⟨rfl, lo, hi, rfl, h1, h2, h3, h4, by omega⟩) ?post)
    case fin =>
      rintro c st' ⟨rfl, l, u, rfl, z1, z2, z3, z4, z5⟩
      exact ⟨rfl, l, u, rfl, by omega, z2, z3, z4⟩
    case post =>
      rintro c st' ⟨rfl, l, u, rfl, z1, z2, z3, z4⟩
      subst z1
      exact wpS_pure (h l z2 z3 z4)
    case step =>
      rintro x c st' _ hx ⟨rfl, l, u, rfl, z1, z2, z3, z4, z5⟩
      dsimp only
      by_cases c : l ≥ u
      · rw [if_pos c]
        exact wpS_pure ⟨rfl, l, u, rfl, by omega, z2, z3, z4⟩
      · rw [if_neg c]
        refine wpS_bind (hb _ (by omega) _ ?_)
        dsimp only
        cases e : bey (l + (u - l) / 2) with
        | true =>
          rw [if_pos rfl]
          exact wpS_pure ⟨rfl, _, u, rfl, by omega, z2, fun i hi => mono i _ (by omega) (by omega) e, z4, by omega⟩
        | false =>
          rw [if_neg Bool.false_ne_true]
          exact wpS_pure ⟨rfl, l, _, rfl, by omega, by omega, z3, fun i hi hn => monoF _ i hi hn e, by omega⟩
  rw [gallop'_eq]
  dsimp only
  refine wpS_bind (hb hint hh _ ?_)
  dsimp only
  cases e0 : bey hint with
  | true =>
    rw [if_pos rfl]
    refine wpS_bind (wpS_mono (wpS_forRange (I := fun x c st' => st' = st ∧ ∃ l o, c = (none, l, o) ∧ l < o ∧ hint + l < n ∧ bey (hint + l) = true ∧ x + 1 ≤ o)
      (Q := fun c st' => st' = st ∧ ∃ l o, c = (none, l, o) ∧ l < o ∧ hint + l < n ∧ bey (hint + l) = true ∧ (n - hint ≤ o ∨ bey (hint + o) = false)) ?step ?fin ⟨rfl, 0, 1, rfl, by omega, hh, e0, by omega⟩) ?post)
    case fin =>
      rintro c st' ⟨rfl, l, o, rfl, z1, z2, z3, z4⟩
      exact ⟨rfl, l, o, rfl, z1, z2, z3, .inl (by omega)⟩
    case post =>
      rintro c st' ⟨rfl, l, o, rfl, z1, z2, z3, z4⟩
      dsimp only
      refine fin (hint + l + 1) (hint + min o (n - hint)) (by omega) (by omega) (fun i hi => mono i _ (by omega) z2 z3) fun i hi hn => ?_
      rcases z4 with z4 | z4
      · omega
      · by_cases c : n - hint ≤ o
        · omega
        · exact monoF _ i (by omega) hn z4
    case step =>
      rintro x c st' _ hx ⟨rfl, l, o, rfl, z1, z2, z3, z4⟩
      dsimp only
      by_cases c : o ≥ n - hint
      · rw [if_pos c]
        exact wpS_pure ⟨rfl, l, o, rfl, z1, z2, z3, .inl c⟩
      · rw [if_neg c]
        refine wpS_bind (hb _ (by omega) _ ?_)
        dsimp only
        cases e : bey (hint + o) with
        | true =>
          rw [if_neg (by decide)]
          exact wpS_pure ⟨rfl, o, _, rfl, by omega, by omega, e, by omega⟩
        | false =>
          rw [if_pos (by decide)]
          exact wpS_pure ⟨rfl, l, o, rfl, z1, z2, z3, .inr e⟩
  | false =>
    rw [if_neg Bool.false_ne_true]
    refine wpS_bind (wpS_mono (wpS_forRange (I := fun x c st' => st' = st ∧ ∃ l o, c = (none, l, o) ∧ l < o ∧ l ≤ hint ∧ bey (hint - l) = false ∧ x + 1 ≤ o)
      (Q := fun c st' => st' = st ∧ ∃ l o, c = (none, l, o) ∧ l < o ∧ l ≤ hint ∧ bey (hint - l) = false ∧ (hint + 1 ≤ o ∨ bey (hint - o) = true)) ?step ?fin ⟨rfl, 0, 1, rfl, by omega, by omega, e0, by omega⟩) ?post)
    case fin =>
      rintro c st' ⟨rfl, l, o, rfl, z1, z2, z3, z4⟩
      exact ⟨rfl, l, o, rfl, z1, z2, z3, .inl (by omega)⟩
    case post =>
      rintro c st' ⟨rfl, l, o, rfl, z1, z2, z3, z4⟩
      dsimp only
      refine fin (hint + 1 - min o (hint + 1)) (hint - l) (by omega) (by omega) (fun i hi => ?_) fun i hi hn => monoF _ i hi hn z3
      rcases z4 with z4 | z4
      · omega
      · exact mono i (hint - o) (by omega) (by omega) z4
    case step =>
      rintro x c st' _ hx ⟨rfl, l, o, rfl, z1, z2, z3, z4⟩
      dsimp only
      by_cases c : o ≥ hint + 1
      · rw [if_pos c]
        exact wpS_pure ⟨rfl, l, o, rfl, z1, z2, z3, .inl c⟩
      · rw [if_neg c]
        refine wpS_bind (hb _ (by omega) _ ?_)
        dsimp only
        cases e : bey (hint - o) with
        | true =>
          rw [if_pos rfl]
          exact wpS_pure ⟨rfl, l, o, rfl, z1, z2, z3, .inr e⟩
        | false =>
          rw [if_neg Bool.false_ne_true]
          exact wpS_pure ⟨rfl, o, _, rfl, by omega, by omega, e, by omega⟩
end
end L2
namespace L2
open PySem PySem.W PyProof.Rows
theorem setMinGallop'_eq (g : Nat) : setMinGallop' g = modify (fun s => SortSt.mk' (kindOf s) (arrOf s) (pendingOf s) g (failedOf s)) := rfl
noncomputable abbrev LoC := Option (Array Keyed) × Array Keyed × Nat × Nat × Nat × Nat × Nat
noncomputable def loEnd (a b out : Array Keyed) (ia ib mg ac bc : Nat) : StateT SortSt Sem (ForInStep LoC) := do
  let x ← elem' a ia
  if ia + 1 + 1 == a.size then pure (.done (some (out.push x ++ b.extract ib b.size ++ a.extract (ia + 1) a.size), out.push x, ia + 1, ib, mg, ac, bc))
  else if ac < 7 && bc < 7 then pure (.done (none, out.push x, ia + 1, ib, mg, ac, bc)) else pure (.yield (none, out.push x, ia + 1, ib, mg, ac, bc))
noncomputable def loMid (a b out : Array Keyed) (ia ib mg ac bc : Nat) : StateT SortSt Sem (ForInStep LoC) := do
  let y ← elem' b ib
  if ib + 1 == b.size then pure (.done (some (out.push y ++ a.extract ia a.size ++ b.extract (ib + 1) b.size), out.push y, ia, ib + 1, mg, ac, bc))
  else
    let x ← elem' a ia
    let some k ← gallop' true x b (ib + 1) (b.size - (ib + 1)) 0 | pure (.done (some (out.push y ++ a.extract ia a.size ++ b.extract (ib + 1) b.size), out.push y, ia, ib + 1, mg, ac, bc))
    if k > 0 then
        if ib + 1 + k == b.size then pure (.done (some (out.push y ++ b.extract (ib + 1) (ib + 1 + k) ++ a.extract ia a.size ++ b.extract (ib + 1 + k) b.size), out.push y ++ b.extract (ib + 1) (ib + 1 + k), ia, ib + 1 + k, mg, ac, k))
        else loEnd a b (out.push y ++ b.extract (ib + 1) (ib + 1 + k)) ia (ib + 1 + k) mg ac k
    else loEnd a b (out.push y) ia (ib + 1) mg ac k
noncomputable def loTop (a b out : Array Keyed) (ia ib mg ac bc : Nat) : StateT SortSt Sem (ForInStep LoC) := do
  setMinGallop' mg
  let y ← elem' b ib
  let some k ← gallop' false y a ia (a.size - ia) 0 | pure (.done (some (out ++ a.extract ia a.size ++ b.extract ib b.size), out, ia, ib, mg, ac, bc))
  if k > 0 then
      if ia + k + 1 == a.size then pure (.done (some (out ++ a.extract ia (ia + k) ++ b.extract ib b.size ++ a.extract (ia + k) a.size), out ++ a.extract ia (ia + k), ia + k, ib, mg, k, bc))
      else if ia + k == a.size then pure (.done (some (out ++ a.extract ia (ia + k) ++ a.extract (ia + k) a.size ++ b.extract ib b.size), out ++ a.extract ia (ia + k), ia + k, ib, mg, k, bc))
      else loMid a b (out ++ a.extract ia (ia + k)) (ia + k) ib mg k bc
  else loMid a b out ia ib mg k bc
noncomputable abbrev LoD := Option (Array Keyed) × Array Keyed × Nat × Nat × Nat × Nat
noncomputable def loOne (a b : Array Keyed) (mg : Nat) (c : LoD) : StateT SortSt Sem (ForInStep LoD) := do
  let y ← elem' b c.2.2.2.1
  let x ← elem' a c.2.2.1
  let some bWins ← lt' y x | pure (.done (some (c.2.1 ++ a.extract c.2.2.1 a.size ++ b.extract c.2.2.2.1 b.size), c.2.1, c.2.2.1, c.2.2.2.1, c.2.2.2.2.1, c.2.2.2.2.2))
  if bWins = true then
      let y ← elem' b c.2.2.2.1
      if c.2.2.2.1 + 1 == b.size then pure (.done (some (c.2.1.push y ++ a.extract c.2.2.1 a.size ++ b.extract (c.2.2.2.1 + 1) b.size), c.2.1.push y, c.2.2.1, c.2.2.2.1 + 1, 0, c.2.2.2.2.2 + 1))
      else if c.2.2.2.2.2 + 1 ≥ mg then pure (.done (none, c.2.1.push y, c.2.2.1, c.2.2.2.1 + 1, 0, c.2.2.2.2.2 + 1)) else pure (.yield (none, c.2.1.push y, c.2.2.1, c.2.2.2.1 + 1, 0, c.2.2.2.2.2 + 1))
  else
      let x ← elem' a c.2.2.1
      if c.2.2.1 + 1 + 1 == a.size then pure (.done (some (c.2.1.push x ++ b.extract c.2.2.2.1 b.size ++ a.extract (c.2.2.1 + 1) a.size), c.2.1.push x, c.2.2.1 + 1, c.2.2.2.1, c.2.2.2.2.1 + 1, 0))
      else if c.2.2.2.2.1 + 1 ≥ mg then pure (.done (none, c.2.1.push x, c.2.2.1 + 1, c.2.2.2.1, c.2.2.2.2.1 + 1, 0)) else pure (.yield (none, c.2.1.push x, c.2.2.1 + 1, c.2.2.2.1, c.2.2.2.2.1 + 1, 0))
theorem mergeLo'_eq0 (a b : Array Keyed) : mergeLo' a b = (do
  rule "list.sort.merge-lo"
  let total := a.size + b.size
  let done (out : Array Keyed) (ia ib : Nat) := out ++ a.extract ia a.size ++ b.extract ib b.size
  let lastOfA (out : Array Keyed) (ia ib : Nat) := out ++ b.extract ib b.size ++ a.extract ia a.size
  let mut out : Array Keyed := #[← elem' b 0]
  let mut ia := 0
  let mut ib := 1
  if ib == b.size then return done out ia ib
  if ia + 1 == a.size then return lastOfA out ia ib
  let mut minGallop := gallopOf (← get)
  for _ in [0:total] do
    let mut acount := 0
    let mut bcount := 0
    for _ in [0:total] do
      let some bWins ← lt' (← elem' b ib) (← elem' a ia) | return done out ia ib
      if bWins then
        out := out.push (← elem' b ib); ib := ib + 1; bcount := bcount + 1; acount := 0
        if ib == b.size then return done out ia ib
        if bcount ≥ minGallop then break
      else
        out := out.push (← elem' a ia); ia := ia + 1; acount := acount + 1; bcount := 0
        if ia + 1 == a.size then return lastOfA out ia ib
        if acount ≥ minGallop then break
    rule "list.sort.gallop"
    minGallop := minGallop + 1
    for _ in [0:total] do
      if minGallop > 1 then minGallop := minGallop - 1
      setMinGallop' minGallop
      let some k ← gallop' false (← elem' b ib) a ia (a.size - ia) 0 | return done out ia ib
      acount := k
      if k > 0 then
        out := out ++ a.extract ia (ia + k); ia := ia + k
        if ia + 1 == a.size then return lastOfA out ia ib
        if ia == a.size then return done out ia ib
      out := out.push (← elem' b ib); ib := ib + 1
      if ib == b.size then return done out ia ib
      let some k ← gallop' true (← elem' a ia) b ib (b.size - ib) 0 | return done out ia ib
      bcount := k
      if k > 0 then
        out := out ++ b.extract ib (ib + k); ib := ib + k
        if ib == b.size then return done out ia ib
      out := out.push (← elem' a ia); ia := ia + 1
      if ia + 1 == a.size then return lastOfA out ia ib
      if acount < 7 && bcount < 7 then break
    minGallop := minGallop + 1
    setMinGallop' minGallop
  unsupported "internal:list.sort.merge-bound") := rfl
noncomputable def ar (f : Nat → Keyed) (p : List Nat) : Array Keyed := (p.map f).toArray
section
variable {f : Nat → Keyed} {r : Nat → Int}
theorem ar_size (p : List Nat) : (ar f p).size = p.length := by simp [ar]
theorem ar_get {p : List Nat} {i : Nat} (h : i < p.length) : (ar f p)[i]? = some (f (p.getD i 0)) := by simp [ar, h]
theorem ar_push (p : List Nat) (i : Nat) : (ar f p).push (f i) = ar f (p ++ [i]) := by simp [ar]
theorem ar_app (p q : List Nat) : ar f p ++ ar f q = ar f (p ++ q) := by simp [ar]
theorem ar_rev (p : List Nat) : (ar f p).reverse = ar f p.reverse := by simp [ar]
theorem ar_ext (p : List Nat) (i j : Nat) : (ar f p).extract i j = ar f ((p.drop i).take (j - i)) := by
  unfold ar
  rw [List.extract_toArray, List.extract_eq_take_drop, ← List.map_drop, ← List.map_take]
theorem ar_tail (p : List Nat) (i : Nat) : (ar f p).extract i p.length = ar f (p.drop i) := by
  rw [ar_ext, List.take_of_length_le (by simp)]
noncomputable def SrtL (r : Nat → Int) (l : List Nat) : Prop := l.Pairwise fun x y => r x ≤ r y
theorem SrtL.app {l m : List Nat} (h1 : SrtL r l) (h2 : SrtL r m) (h : ∀ x ∈ l, ∀ y ∈ m, r x ≤ r y) : SrtL r (l ++ m) := List.pairwise_append.mpr ⟨h1, h2, h⟩
structure MI (r : Nat → Int) (pa pb : List Nat) (ia ib : Nat) (po : List Nat) : Prop where
  perm : po.Perm (pa.take ia ++ pb.take ib)
  srt : SrtL r po
  la : ∀ x ∈ po, ∀ y ∈ pa.drop ia, r x ≤ r y
  lb : ∀ x ∈ po, ∀ y ∈ pb.drop ib, r x ≤ r y
  ha : ia ≤ pa.length
  hb : ib ≤ pb.length
variable {pa pb po : List Nat} {ia ib : Nat}
theorem MI.len (h : MI r pa pb ia ib po) : po.length = ia + ib := by
  have := h.perm.length_eq
  have h1 := h.ha
  have h2 := h.hb
  simp at this
  omega
theorem MI.aK (h : MI r pa pb ia ib po) (sa : SrtL r pa) {k : Nat} (hk : ia + k ≤ pa.length) (hl : ∀ x ∈ (pa.drop ia).take k, ∀ y ∈ pb.drop ib, r x ≤ r y) : MI r pa pb (ia + k) ib (po ++ (pa.drop ia).take k) := by
  have sd : SrtL r (pa.drop ia) := sa.sublist (List.drop_sublist _ _)
  have e : (pa.drop ia).take k ++ pa.drop (ia + k) = pa.drop ia := by rw [← List.drop_drop]; exact List.take_append_drop k _
  rw [← e] at sd
  obtain ⟨s1, s2, s3⟩ := List.pairwise_append.mp sd
  refine ⟨?_, h.srt.app s1 fun x hx y hy => h.la x hx y (List.mem_of_mem_take hy), ?_, ?_, hk, h.hb⟩
  · have e2 : pa.take (ia + k) = pa.take ia ++ (pa.drop ia).take k := by rw [List.take_add]
    rw [e2]
    refine (h.perm.append_right _).trans ?_
    rw [List.append_assoc, List.append_assoc]
    exact List.Perm.append_left _ List.perm_append_comm
  · intro x hx y hy
    rcases List.mem_append.mp hx with hx | hx
    · exact h.la x hx y (by rw [← e]; exact List.mem_append_right _ hy)
    · exact s3 x hx y hy
  · intro x hx y hy
    rcases List.mem_append.mp hx with hx | hx
    · exact h.lb x hx y hy
    · exact hl x hx y hy
theorem MI.swap (h : MI r pa pb ia ib po) : MI r pb pa ib ia po := ⟨h.perm.trans List.perm_append_comm, h.srt, h.lb, h.la, h.hb, h.ha⟩
theorem MI.bK (h : MI r pa pb ia ib po) (sb : SrtL r pb) {k : Nat} (hk : ib + k ≤ pb.length) (hl : ∀ x ∈ (pb.drop ib).take k, ∀ y ∈ pa.drop ia, r x ≤ r y) : MI r pa pb ia (ib + k) (po ++ (pb.drop ib).take k) := (h.swap.aK sb hk hl).swap
theorem drop_one {p : List Nat} {i : Nat} (h : i < p.length) : (p.drop i).take 1 = [p.getD i 0] := by
  rw [List.drop_eq_getElem_cons h, List.take_succ_cons, List.take_zero, List.getD_eq_getElem?_getD, List.getElem?_eq_getElem h]
  rfl
theorem mem_drop_at {p : List Nat} {i : Nat} {x : Nat} (h : x ∈ p.drop i) : ∃ j, i ≤ j ∧ j < p.length ∧ x = p.getD j 0 := by
  obtain ⟨k, hk, e⟩ := List.mem_iff_getElem.mp h
  rw [List.length_drop] at hk
  refine ⟨i + k, by omega, by omega, ?_⟩
  rw [List.getElem_drop] at e
  rw [← e]
  simp [show i + k < p.length by omega]
theorem SrtL.at_ {p : List Nat} (s : SrtL r p) {i j : Nat} (hij : i ≤ j) (hj : j < p.length) : r (p.getD i 0) ≤ r (p.getD j 0) := by
  have hi : i < p.length := by omega
  have e1 : p.getD i 0 = p[i] := by simp [hi]
  have e2 : p.getD j 0 = p[j] := by simp [hj]
  rw [e1, e2]
  rcases Nat.lt_or_eq_of_le hij with z | z
  · exact List.pairwise_iff_getElem.mp s i j hi hj z
  · subst z; exact Int.le_refl _
theorem MI.a1 (h : MI r pa pb ia ib po) (sa : SrtL r pa) (hk : ia < pa.length) (hl : ∀ y ∈ pb.drop ib, r (pa.getD ia 0) ≤ r y) : MI r pa pb (ia + 1) ib (po ++ [pa.getD ia 0]) := by
  have := h.aK sa (k := 1) hk (by rw [drop_one hk]; intro x hx; rw [List.mem_singleton.mp hx]; exact hl)
  rw [drop_one hk] at this
  exact this
theorem MI.b1 (h : MI r pa pb ia ib po) (sb : SrtL r pb) (hk : ib < pb.length) (hl : ∀ y ∈ pa.drop ia, r (pb.getD ib 0) ≤ r y) : MI r pa pb ia (ib + 1) (po ++ [pb.getD ib 0]) := (h.swap.a1 sb hk hl).swap
theorem MI.done (h : MI r pa pb ia ib po) (sa : SrtL r pa) (sb : SrtL r pb) (hl : ∀ x ∈ pa.drop ia, ∀ y ∈ pb.drop ib, r x ≤ r y) : (po ++ pa.drop ia ++ pb.drop ib).Perm (pa ++ pb) ∧ SrtL r (po ++ pa.drop ia ++ pb.drop ib) := by
  have h1 := h.aK sa (k := pa.length - ia) (by have := h.ha; omega) (fun x hx y hy => hl x (List.mem_of_mem_take hx) y hy)
  have e : (pa.drop ia).take (pa.length - ia) = pa.drop ia := List.take_of_length_le (by simp)
  rw [e] at h1
  have h2 := h1.bK sb (k := pb.length - ib) (by have := h.hb; omega) (fun x hx y hy => by
    rw [show ia + (pa.length - ia) = pa.length by have := h.ha; omega, List.drop_length] at hy
    cases hy)
  have e2 : (pb.drop ib).take (pb.length - ib) = pb.drop ib := List.take_of_length_le (by simp)
  rw [e2] at h2
  refine ⟨?_, h2.srt⟩
  have := h2.perm
  rw [List.take_of_length_le (by have := h.ha; omega), List.take_of_length_le (by have := h.hb; omega)] at this
  exact this
end
end L2
namespace L2
open PySem PySem.W PyProof.Rows
noncomputable def setG (st : SortSt) (g : Nat) : SortSt := SortSt.mk' (kindOf st) (arrOf st) (pendingOf st) g (failedOf st)
structure SameS (st st' : SortSt) : Prop where
  kind : kindOf st' = kindOf st
  arr : arrOf st' = arrOf st
  pend : pendingOf st' = pendingOf st
  fail : failedOf st' = failedOf st
theorem SameS.refl (st : SortSt) : SameS st st := ⟨rfl, rfl, rfl, rfl⟩
theorem SameS.g {st st' : SortSt} (h : SameS st st') (g : Nat) : SameS st (setG st' g) := ⟨h.kind, h.arr, h.pend, h.fail⟩
section
variable {prog : Program} {w : World} {A : Around} {E : Value → Shared → Prop} {s : Shared} {f : Nat → Keyed} {r : Nat → Int} {n : Nat} {κ : SortKind}
noncomputable def LtOk (prog : Program) (w : World) (A : Around) (E : Value → Shared → Prop) (s : Shared) (f : Nat → Keyed) (r : Nat → Int) (n : Nat) (κ : SortKind) : Prop :=
  ∀ i j, i < n → j < n → ∀ (st : SortSt) (Q : Option Bool → SortSt → Prop), kindOf st = κ → Q (some (decide (r i < r j))) st → wpS (model prog w) A E s (lt' (f i) (f j)) Q st
theorem wpS_ite_neg {α : Type} {c : Prop} [Decidable c] {x y : StateT SortSt Sem α} {st : SortSt} {Q : α → SortSt → Prop} (h : ¬ c) (q : wpS (model prog w) A E s y Q st) : wpS (model prog w) A E s (if c then x else y) Q st := by rw [if_neg h]; exact q
theorem wpS_ite_pos {α : Type} {c : Prop} [Decidable c] {x y : StateT SortSt Sem α} {st : SortSt} {Q : α → SortSt → Prop} (h : c) (q : wpS (model prog w) A E s x Q st) : wpS (model prog w) A E s (if c then x else y) Q st := by rw [if_pos h]; exact q
theorem wpS_elem {p : List Nat} {i : Nat} {st : SortSt} {Q : Keyed → SortSt → Prop} (h : i < p.length) (q : Q (f (p.getD i 0)) st) : wpS (model prog w) A E s (elem' (ar f p) i) Q st := by
  rw [elem'_eq, ar_get h]
  exact wpS_pure q
theorem wpS_galS {left : Bool} {p : List Nat} {key base m hint : Nat} {st : SortSt} {Q : Option Nat → SortSt → Prop} (L : LtOk prog w A E s f r n κ) (hk : kindOf st = κ) (hp : ∀ x ∈ p, x < n) (hkey : key < n) (sp : ∀ i j, i ≤ j → j < m → r (p.getD (base + i) 0) ≤ r (p.getD (base + j) 0)) (hm : base + m ≤ p.length) (hh : hint < m)
    (h : ∀ k, k ≤ m → (∀ i, i < k → if left then r (p.getD (base + i) 0) < r key else r (p.getD (base + i) 0) ≤ r key) → (∀ i, k ≤ i → i < m → if left then r key ≤ r (p.getD (base + i) 0) else r key < r (p.getD (base + i) 0)) → Q (some k) st) :
    wpS (model prog w) A E s (gallop' left (f key) (ar f p) base m hint) Q st := by
  have inP : ∀ i, i < m → p.getD (base + i) 0 < n := fun i hi => hp _ (by
    have : base + i < p.length := by omega
    have e : p.getD (base + i) 0 = p[base + i] := by simp [this]
    rw [e]; exact List.getElem_mem this)
  refine wpS_gallop (bey := fun i => if left then decide (r (p.getD (base + i) 0) < r key) else !decide (r key < r (p.getD (base + i) 0))) (fun i hi Q' q => ?_) (fun i j hij hj z => ?_) hh fun k k1 k2 k3 => h k k1 (fun i hi => ?_) fun i hi hi2 => ?_
  · refine wpS_bind (wpS_elem (by omega) ?_)
    cases left with
    | true =>
      rw [if_pos rfl]
      exact L _ _ (inP i hi) hkey st Q' hk q
    | false =>
      rw [if_neg Bool.false_ne_true]
      exact wpS_bind (L _ _ hkey (inP i hi) st _ hk (wpS_pure q))
  · have le := sp i j hij hj
    cases left with
    | true =>
      have z' : r (p.getD (base + j) 0) < r key := of_decide_eq_true z
      exact decide_eq_true (by omega : r (p.getD (base + i) 0) < r key)
    | false =>
      have z' : ¬ r key < r (p.getD (base + j) 0) := of_decide_eq_false (by simpa using z)
      have z2 : ¬ r key < r (p.getD (base + i) 0) := by omega
      show (!decide (r key < r (p.getD (base + i) 0))) = true
      rw [decide_eq_false z2]; rfl
  · have z := k2 i hi
    cases left with
    | true => exact of_decide_eq_true z
    | false =>
      have z' : (!decide (r key < r (p.getD (base + i) 0))) = true := z
      have := of_decide_eq_false (by rw [Bool.not_eq_true'] at z'; exact z')
      exact Int.not_lt.mp this
  · have z := k3 i hi hi2
    cases left with
    | true => exact Int.not_lt.mp (of_decide_eq_false z)
    | false =>
      have z' : (!decide (r key < r (p.getD (base + i) 0))) = false := z
      exact of_decide_eq_true (by rw [Bool.not_eq_false'] at z'; exact z')
theorem wpS_gal {left : Bool} {p : List Nat} {key base m hint : Nat} {st : SortSt} {Q : Option Nat → SortSt → Prop} (L : LtOk prog w A E s f r n κ) (hk : kindOf st = κ) (hp : ∀ x ∈ p, x < n) (hkey : key < n) (sp : SrtL r p) (hm : base + m ≤ p.length) (hh : hint < m)
    (h : ∀ k, k ≤ m → (∀ i, i < k → if left then r (p.getD (base + i) 0) < r key else r (p.getD (base + i) 0) ≤ r key) → (∀ i, k ≤ i → i < m → if left then r key ≤ r (p.getD (base + i) 0) else r key < r (p.getD (base + i) 0)) → Q (some k) st) :
    wpS (model prog w) A E s (gallop' left (f key) (ar f p) base m hint) Q st := wpS_galS L hk hp hkey (fun i j hij hj => sp.at_ (by omega) (by omega)) hm hh h
theorem ar_done {pa pb : List Nat} (po : List Nat) (ia ib : Nat) : ar f po ++ (ar f pa).extract ia (ar f pa).size ++ (ar f pb).extract ib (ar f pb).size = ar f (po ++ pa.drop ia ++ pb.drop ib) := by
  rw [ar_size, ar_size, ar_tail, ar_tail, ar_app, ar_app]
theorem ar_put {pa : List Nat} (po : List Nat) (ia k : Nat) : ar f po ++ (ar f pa).extract ia (ia + k) = ar f (po ++ (pa.drop ia).take k) := by
  rw [ar_ext, ar_app, Nat.add_sub_cancel_left]
theorem MI.last {pa pb po : List Nat} {ia ib : Nat} (h : MI r pa pb ia ib po) (sa : SrtL r pa) (sb : SrtL r pb) (hz : ∀ y ∈ pb, r y ≤ r (pa.getD (pa.length - 1) 0)) (hi : ia + 1 = pa.length) : (po ++ pb.drop ib ++ pa.drop ia).Perm (pa ++ pb) ∧ SrtL r (po ++ pb.drop ib ++ pa.drop ia) := by
  have := h.swap.done sb sa fun x hx y hy => by
    obtain ⟨j, j1, j2, rfl⟩ := mem_drop_at hy
    rw [show j = pa.length - 1 by omega]
    exact hz x (List.mem_of_mem_drop hx)
  exact ⟨this.1.trans List.perm_append_comm, this.2⟩
theorem MI.full {pa pb po : List Nat} {ia ib : Nat} (h : MI r pa pb ia ib po) (sa : SrtL r pa) (sb : SrtL r pb) (hi : ia = pa.length ∨ ib = pb.length) : (po ++ pa.drop ia ++ pb.drop ib).Perm (pa ++ pb) ∧ SrtL r (po ++ pa.drop ia ++ pb.drop ib) :=
  h.done sa sb fun x hx y hy => by
    rcases hi with z | z
    · rw [z, List.drop_length] at hx; cases hx
    · rw [z, List.drop_length] at hy; cases hy
noncomputable def LoP (st : SortSt) (f : Nat → Keyed) (r : Nat → Int) (pa pb : List Nat) (x : Nat) (d : LoC) (st2 : SortSt) : Prop := SameS st st2 ∧ ∃ po2 ia2 ib2 g ac bc, d = (none, ar f po2, ia2, ib2, g, ac, bc) ∧ MI r pa pb ia2 ib2 po2 ∧ ia2 + 1 < pa.length ∧ ib2 < pb.length ∧ x ≤ po2.length
noncomputable def LoF (st : SortSt) (f : Nat → Keyed) (r : Nat → Int) (pa pb : List Nat) (d : Option (Array Keyed)) (st2 : SortSt) : Prop := SameS st st2 ∧ ∃ po2, d = some (ar f po2) ∧ po2.Perm (pa ++ pb) ∧ SrtL r po2
noncomputable def LoQ (st : SortSt) (f : Nat → Keyed) (r : Nat → Int) (pa pb : List Nat) (x : Nat) : ForInStep LoC → SortSt → Prop
  | .done d, st2 => LoP st f r pa pb x d st2 ∨ LoF st f r pa pb d.1 st2
  | .yield d, st2 => LoP st f r pa pb x d st2
structure LoH (prog : Program) (w : World) (A : Around) (E : Value → Shared → Prop) (s : Shared) (f : Nat → Keyed) (r : Nat → Int) (n : Nat) (κ : SortKind) (pa pb : List Nat) : Prop where
  L : LtOk prog w A E s f r n κ
  ra : ∀ x ∈ pa, x < n
  rb : ∀ x ∈ pb, x < n
  sa : SrtL r pa
  sb : SrtL r pb
  hz : ∀ y ∈ pb, r y ≤ r (pa.getD (pa.length - 1) 0)
theorem mem_getD {p : List Nat} {i : Nat} (h : i < p.length) : p.getD i 0 ∈ p := by
  have e : p.getD i 0 = p[i] := by simp [h]
  rw [e]; exact List.getElem_mem h
variable {pa pb : List Nat} {st st2 : SortSt}
theorem wpS_loEnd (H : LoH prog w A E s f r n κ pa pb) (same : SameS st st2) {x : Nat} {po : List Nat} {ia ib mg ac bc : Nat} (mi : MI r pa pb ia ib po) (hia : ia + 1 < pa.length) (hib : ib < pb.length) (hx : x ≤ po.length) (hl : ∀ y ∈ pb.drop ib, r (pa.getD ia 0) ≤ r y) :
    wpS (model prog w) A E s (loEnd (ar f pa) (ar f pb) (ar f po) ia ib mg ac bc) (LoQ st f r pa pb x) st2 := by
  unfold loEnd
  refine wpS_bind (wpS_elem (by omega) ?_)
  have m2 := mi.a1 H.sa (by omega) hl
  rw [ar_push, ar_done (pa := pb) (pb := pa), ar_size]
  by_cases c : ia + 1 + 1 = pa.length
  · refine wpS_ite_pos (by simpa using c) (wpS_pure (.inr ⟨same, _, rfl, ?_⟩))
    exact m2.last H.sa H.sb H.hz c
  · refine wpS_ite_neg (by simpa using c) ?_
    have P : LoP st f r pa pb x (none, ar f (po ++ [pa.getD ia 0]), ia + 1, ib, mg, ac, bc) st2 := ⟨same, _, _, _, _, _, _, rfl, m2, by omega, hib, by rw [List.length_append]; omega⟩
    by_cases c2 : (decide (ac < 7) && decide (bc < 7)) = true
    · exact wpS_ite_pos c2 (wpS_pure (.inl P))
    · exact wpS_ite_neg c2 (wpS_pure P)
theorem wpS_loMid (H : LoH prog w A E s f r n κ pa pb) (same : SameS st st2) (hk : kindOf st2 = κ) {x : Nat} {po : List Nat} {ia ib mg ac bc : Nat} (mi : MI r pa pb ia ib po) (hia : ia + 1 < pa.length) (hib : ib < pb.length) (hx : x ≤ po.length) (hl : ∀ y ∈ pa.drop ia, r (pb.getD ib 0) ≤ r y) :
    wpS (model prog w) A E s (loMid (ar f pa) (ar f pb) (ar f po) ia ib mg ac bc) (LoQ st f r pa pb x) st2 := by
  unfold loMid
  refine wpS_bind (wpS_elem hib ?_)
  have m2 := mi.b1 H.sb hib hl
  have hx2 : x ≤ (po ++ [pb.getD ib 0]).length := by rw [List.length_append]; omega
  rw [ar_push]
  by_cases c : ib + 1 = pb.length
  · refine wpS_ite_pos (by rw [ar_size]; simpa using c) (wpS_pure (.inr ⟨same, _, ?_, m2.full H.sa H.sb (.inr c)⟩))
    rw [ar_done]
  · refine wpS_ite_neg (by rw [ar_size]; simpa using c) ?_
    refine wpS_bind (wpS_elem (by omega) ?_)
    rw [ar_size]
    refine wpS_bind (wpS_gal (left := true) (m := pb.length - (ib + 1)) H.L hk H.rb (H.ra _ (mem_getD (by omega))) H.sb (by omega) (by omega) fun k k1 k2 k3 => ?_)
    have ge : ∀ y ∈ pb.drop (ib + 1 + k), r (pa.getD ia 0) ≤ r y := fun y hy => by
      obtain ⟨j, j1, j2, rfl⟩ := mem_drop_at hy
      have := k3 (j - (ib + 1)) (by omega) (by omega)
      rw [if_pos rfl, show ib + 1 + (j - (ib + 1)) = j by omega] at this
      exact this
    dsimp only
    by_cases k0 : k > 0
    · refine wpS_ite_pos k0 ?_
      have m3 := m2.bK H.sb (k := k) (by omega) fun z hz y hy => by
        obtain ⟨j, j1, j2, rfl⟩ := mem_drop_at hy
        obtain ⟨t, t1, e⟩ := List.mem_iff_getElem.mp hz
        rw [List.length_take, List.length_drop] at t1
        rw [List.getElem_take, List.getElem_drop] at e
        have a1 := k2 t (by omega)
        rw [if_pos rfl] at a1
        have e2 : pb.getD (ib + 1 + t) 0 = z := by rw [← e]; simp [show ib + 1 + t < pb.length by omega]
        rw [e2] at a1
        have a2 := H.sa.at_ (i := ia) (j := j) j1 j2
        omega
      rw [ar_put]
      by_cases c3 : ib + 1 + k = pb.length
      · refine wpS_ite_pos (by simpa using c3) (wpS_pure (.inr ⟨same, _, ?_, m3.full H.sa H.sb (.inr c3)⟩))
        rw [← ar_size (f := f) pb, ar_done]
      · refine wpS_ite_neg (by simpa using c3) ?_
        exact wpS_loEnd H same m3 hia (by omega) (by rw [List.length_append]; omega) ge
    · refine wpS_ite_neg k0 ?_
      have : k = 0 := by omega
      subst this
      exact wpS_loEnd H same m2 hia (by omega) hx2 ge
theorem wpS_loTop (H : LoH prog w A E s f r n κ pa pb) (same : SameS st st2) (hk : kindOf st2 = κ) {x : Nat} {po : List Nat} {ia ib mg ac bc : Nat} (mi : MI r pa pb ia ib po) (hia : ia + 1 < pa.length) (hib : ib < pb.length) (hx : x ≤ po.length) :
    wpS (model prog w) A E s (loTop (ar f pa) (ar f pb) (ar f po) ia ib mg ac bc) (LoQ st f r pa pb x) st2 := by
  unfold loTop
  rw [setMinGallop'_eq]
  refine wpS_bind (wpS_modify ?_)
  have same2 := same.g mg
  have hk2 : kindOf (setG st2 mg) = κ := hk
  show wpS _ _ _ _ _ _ (setG st2 mg)
  refine wpS_bind (wpS_elem hib ?_)
  rw [ar_size]
  refine wpS_bind (wpS_gal (left := false) (m := pa.length - ia) H.L hk2 H.ra (H.rb _ (mem_getD hib)) H.sa (by omega) (by omega) fun k k1 k2 k3 => ?_)
  have gt : ∀ y ∈ pa.drop (ia + k), r (pb.getD ib 0) ≤ r y := fun y hy => by
    obtain ⟨j, j1, j2, rfl⟩ := mem_drop_at hy
    have := k3 (j - ia) (by omega) (by omega)
    rw [if_neg Bool.false_ne_true, show ia + (j - ia) = j by omega] at this
    omega
  dsimp only
  by_cases k0 : k > 0
  · refine wpS_ite_pos k0 ?_
    have m3 := mi.aK H.sa (k := k) (by omega) fun z hz y hy => by
      obtain ⟨j, j1, j2, rfl⟩ := mem_drop_at hy
      obtain ⟨t, t1, e⟩ := List.mem_iff_getElem.mp hz
      rw [List.length_take, List.length_drop] at t1
      rw [List.getElem_take, List.getElem_drop] at e
      have a1 := k2 t (by omega)
      rw [if_neg Bool.false_ne_true] at a1
      have e2 : pa.getD (ia + t) 0 = z := by rw [← e]; simp [show ia + t < pa.length by omega]
      rw [e2] at a1
      have a2 := H.sb.at_ (i := ib) (j := j) j1 j2
      omega
    rw [ar_put]
    by_cases c1 : ia + k + 1 = pa.length
    · refine wpS_ite_pos (by simpa using c1) (wpS_pure (.inr ⟨same2, _, ?_, m3.last H.sa H.sb H.hz c1⟩))
      rw [← ar_size (f := f) pa, ar_done (pa := pb) (pb := pa)]
    · refine wpS_ite_neg (by simpa using c1) ?_
      by_cases c2 : ia + k = pa.length
      · refine wpS_ite_pos (by simpa using c2) (wpS_pure (.inr ⟨same2, _, ?_, m3.full H.sa H.sb (.inl c2)⟩))
        rw [← ar_size (f := f) pa, ar_done]
      · refine wpS_ite_neg (by simpa using c2) ?_
        exact wpS_loMid H same2 hk2 m3 (by omega) hib (by rw [List.length_append]; omega) gt
  · refine wpS_ite_neg k0 ?_
    have : k = 0 := by omega
    subst this
    exact wpS_loMid H same2 hk2 mi hia hib hx gt
theorem wpS_mergeLo {Q : Array Keyed → SortSt → Prop} (H : LoH prog w A E s f r n κ pa pb) (hk : kindOf st = κ) (na : 0 < pa.length) (nb : 0 < pb.length) (h0 : r (pb.getD 0 0) ≤ r (pa.getD 0 0))
    (h : ∀ po st', po.Perm (pa ++ pb) → SrtL r po → SameS st st' → Q (ar f po) st') : wpS (model prog w) A E s (mergeLo' (ar f pa) (ar f pb)) Q st := by
  have m0 : MI r pa pb 0 0 [] := ⟨by simp, List.Pairwise.nil, fun x hx => (nomatch hx), fun x hx => (nomatch hx), Nat.zero_le _, Nat.zero_le _⟩
  have m1 : MI r pa pb 0 1 [pb.getD 0 0] := m0.b1 H.sb nb fun y hy => by
    obtain ⟨j, j1, j2, rfl⟩ := mem_drop_at hy
    have := H.sa.at_ (i := 0) (j := j) j1 j2
    omega
  rw [mergeLo'_eq0]
  refine wpS_bind (wpS_lift (wpAny_rule ⟨rfl, ?_⟩))
  refine wpS_bind (wpS_elem nb ?_)
  have e1 : #[f (pb.getD 0 0)] = ar f [pb.getD 0 0] := rfl
  rw [e1]
  by_cases c1 : 1 = pb.length
  · refine wpS_ite_pos (by rw [ar_size]; simpa using c1) (wpS_pure ?_)
    dsimp only
    rw [ar_done]
    have := m1.full H.sa H.sb (.inr c1)
    exact h _ _ this.1 this.2 (SameS.refl _)
  refine wpS_ite_neg (by rw [ar_size]; simpa using c1) ?_
  by_cases c2 : 1 = pa.length
  · refine wpS_ite_pos (by rw [ar_size]; simpa using c2) (wpS_pure ?_)
    dsimp only
    rw [ar_done (pa := pb) (pb := pa)]
    have := m1.last H.sa H.sb H.hz (by omega)
    exact h _ _ this.1 this.2 (SameS.refl _)
  refine wpS_ite_neg (by rw [ar_size]; simpa using c2) ?_
  refine wpS_bind (wpS_get ?_)
  refine wpS_bind (wpS_mono (wpS_forRange (I := fun x c st' => SameS st st' ∧ ∃ po ia ib mg, c = (none, ar f po, ia, ib, mg) ∧ MI r pa pb ia ib po ∧ ia + 1 < pa.length ∧ ib < pb.length ∧ x + 1 ≤ po.length)
    (Q := fun c st' => LoF st f r pa pb c.1 st') ?step ?fin ?init) ?post)
  case init => exact ⟨SameS.refl _, _, 0, 1, _, rfl, m1, by omega, by omega, by simp⟩
  case fin =>
    rintro c st' ⟨same, po, ia, ib, mg, rfl, mi, hia, hib, hpo⟩
    have := mi.len
    rw [ar_size, ar_size] at hpo
    omega
  case post =>
    rintro c st' ⟨same, po, hc, pm, sr⟩
    obtain ⟨c1, c2⟩ := c
    dsimp only at hc
    subst hc
    exact wpS_pure (h po st' pm sr same)
  case step =>
    rintro x c st' _ hx ⟨same, po, ia, ib, mg, rfl, mi, hia, hib, hpo⟩
    refine wpS_bind (wpS_mono (wpS_forRange (I := fun y d st2 => SameS st st2 ∧ ∃ po2 ia2 ib2 ac bc, d = (none, ar f po2, ia2, ib2, ac, bc) ∧ MI r pa pb ia2 ib2 po2 ∧ ia2 + 1 < pa.length ∧ ib2 < pb.length ∧ x + 1 + y ≤ po2.length)
      (Q := fun d st2 => (SameS st st2 ∧ ∃ po2 ia2 ib2 ac bc, d = (none, ar f po2, ia2, ib2, ac, bc) ∧ MI r pa pb ia2 ib2 po2 ∧ ia2 + 1 < pa.length ∧ ib2 < pb.length ∧ x + 2 ≤ po2.length) ∨ LoF st f r pa pb d.1 st2) ?step1 ?fin1 ?init1) ?post1)
    case init1 => exact ⟨same, po, ia, ib, 0, 0, rfl, mi, hia, hib, by omega⟩
    case fin1 =>
      rintro d st2 ⟨same2, po2, ia2, ib2, ac, bc, rfl, mi2, hia2, hib2, hpo2⟩
      have := mi2.len
      rw [ar_size, ar_size] at hpo2
      omega
    case step1 =>
      rintro y d st2 _ hy ⟨same2, po2, ia2, ib2, ac, bc, rfl, mi2, hia2, hib2, hpo2⟩
      show wpS _ _ _ _ (loOne (ar f pa) (ar f pb) mg (none, ar f po2, ia2, ib2, ac, bc)) _ _
      unfold loOne
      dsimp only
      refine wpS_bind (wpS_elem hib2 (wpS_bind (wpS_elem (by omega) (wpS_bind (H.L _ _ (H.rb _ (mem_getD hib2)) (H.ra _ (mem_getD (by omega))) _ _ (same2.kind.trans hk) ?_)))))
      dsimp only
      by_cases lt : r (pb.getD ib2 0) < r (pa.getD ia2 0)
      · refine wpS_ite_pos (decide_eq_true lt) (wpS_bind (wpS_elem hib2 ?_))
        have m3 := mi2.b1 H.sb hib2 fun z hz => by
          obtain ⟨j, j1, j2, rfl⟩ := mem_drop_at hz
          have := H.sa.at_ (i := ia2) (j := j) j1 j2
          omega
        rw [ar_push]
        by_cases c3 : ib2 + 1 = pb.length
        · refine wpS_ite_pos (by rw [ar_size]; simpa using c3) (wpS_pure (.inr ⟨same2, _, ?_, m3.full H.sa H.sb (.inr c3)⟩))
          rw [ar_done]
        · refine wpS_ite_neg (by rw [ar_size]; simpa using c3) ?_
          by_cases c4 : bc + 1 ≥ mg
          · exact wpS_ite_pos c4 (wpS_pure (.inl ⟨same2, _, _, _, _, _, rfl, m3, hia2, by omega, by rw [List.length_append, List.length_singleton]; omega⟩))
          · exact wpS_ite_neg c4 (wpS_pure ⟨same2, _, _, _, _, _, rfl, m3, hia2, by omega, by rw [List.length_append, List.length_singleton]; omega⟩)
      · refine wpS_ite_neg (by rw [decide_eq_false lt]; exact Bool.false_ne_true) (wpS_bind (wpS_elem (by omega) ?_))
        have m3 := mi2.a1 H.sa (by omega) fun z hz => by
          obtain ⟨j, j1, j2, rfl⟩ := mem_drop_at hz
          have := H.sb.at_ (i := ib2) (j := j) j1 j2
          omega
        rw [ar_push]
        by_cases c3 : ia2 + 1 + 1 = pa.length
        · refine wpS_ite_pos (by rw [ar_size]; simpa using c3) (wpS_pure (.inr ⟨same2, _, ?_, m3.last H.sa H.sb H.hz c3⟩))
          rw [ar_done (pa := pb) (pb := pa)]
        · refine wpS_ite_neg (by rw [ar_size]; simpa using c3) ?_
          by_cases c4 : ac + 1 ≥ mg
          · exact wpS_ite_pos c4 (wpS_pure (.inl ⟨same2, _, _, _, _, _, rfl, m3, by omega, hib2, by rw [List.length_append, List.length_singleton]; omega⟩))
          · exact wpS_ite_neg c4 (wpS_pure ⟨same2, _, _, _, _, _, rfl, m3, by omega, hib2, by rw [List.length_append, List.length_singleton]; omega⟩)
    case post1 =>
      rintro d st2 (⟨same2, po2, ia2, ib2, ac, bc, rfl, mi2, hia2, hib2, hpo2⟩ | ⟨same2, po2, hd, pm, sr⟩)
      · refine wpS_bind (wpS_lift (wpAny_rule ⟨rfl, ?_⟩))
        refine wpS_bind (wpS_mono (wpS_forRange (I := fun y d st2 => LoP st f r pa pb (x + 2) d st2) (Q := fun d st2 => LoP st f r pa pb (x + 2) d st2 ∨ LoF st f r pa pb d.1 st2) ?step2 ?fin2 ?init2) ?post2)
        case init2 => exact ⟨same2, po2, ia2, ib2, _, ac, bc, rfl, mi2, hia2, hib2, hpo2⟩
        case fin2 => exact fun d st3 h3 => .inl h3
        case step2 =>
          rintro y d st3 _ hy ⟨same3, po3, ia3, ib3, g3, ac3, bc3, rfl, mi3, hia3, hib3, hpo3⟩
          show wpS _ _ _ _ (if g3 > 1 then loTop (ar f pa) (ar f pb) (ar f po3) ia3 ib3 (g3 - 1) ac3 bc3 else loTop (ar f pa) (ar f pb) (ar f po3) ia3 ib3 g3 ac3 bc3) _ _
          by_cases c : g3 > 1
          · exact wpS_ite_pos c (wpS_mono (wpS_loTop H same3 (same3.kind.trans hk) mi3 hia3 hib3 hpo3) fun a st4 ha => by cases a <;> exact ha)
          · exact wpS_ite_neg c (wpS_mono (wpS_loTop H same3 (same3.kind.trans hk) mi3 hia3 hib3 hpo3) fun a st4 ha => by cases a <;> exact ha)
        case post2 =>
          rintro d st3 (⟨same3, po3, ia3, ib3, g3, ac3, bc3, rfl, mi3, hia3, hib3, hpo3⟩ | ⟨same3, po3, hd, pm, sr⟩)
          · refine wpS_bind ?_
            rw [setMinGallop'_eq]
            exact wpS_modify (wpS_pure ⟨same3.g _, po3, ia3, ib3, _, rfl, mi3, hia3, hib3, by omega⟩)
          · obtain ⟨d1, d2⟩ := d
            dsimp only at hd
            subst hd
            exact wpS_pure ⟨same3, po3, rfl, pm, sr⟩
      · obtain ⟨d1, d2⟩ := d
        dsimp only at hd
        subst hd
        exact wpS_pure ⟨same2, po2, rfl, pm, sr⟩
end
end L2
namespace L2
open PySem PySem.W PyProof.Rows
theorem mergeHi'_eq0 (a b : Array Keyed) : mergeHi' a b = (do
  rule "list.sort.merge-hi"
  let total := a.size + b.size
  let done (out : Array Keyed) (na nb : Nat) := a.extract 0 na ++ b.extract 0 nb ++ out.reverse
  let firstOfB (out : Array Keyed) (na nb : Nat) := b.extract 0 nb ++ a.extract 0 na ++ out.reverse
  let mut na := a.size - 1
  let mut nb := b.size
  let mut out : Array Keyed := #[← elem' a na]
  if na == 0 then return done out na nb
  if nb == 1 then return firstOfB out na nb
  let mut minGallop := gallopOf (← get)
  for _ in [0:total] do
    let mut acount := 0
    let mut bcount := 0
    for _ in [0:total] do
      let some aWins ← lt' (← elem' b (nb - 1)) (← elem' a (na - 1)) | return done out na nb
      if aWins then
        na := na - 1; out := out.push (← elem' a na); acount := acount + 1; bcount := 0
        if na == 0 then return done out na nb
        if acount ≥ minGallop then break
      else
        nb := nb - 1; out := out.push (← elem' b nb); bcount := bcount + 1; acount := 0
        if nb == 1 then return firstOfB out na nb
        if bcount ≥ minGallop then break
    rule "list.sort.gallop"
    minGallop := minGallop + 1
    for _ in [0:total] do
      if minGallop > 1 then minGallop := minGallop - 1
      setMinGallop' minGallop
      let some at_ ← gallop' false (← elem' b (nb - 1)) a 0 na (na - 1) | return done out na nb
      let k := na - at_
      acount := k
      if k > 0 then
        out := out ++ (a.extract at_ na).reverse; na := at_
        if na == 0 then return done out na nb
      nb := nb - 1; out := out.push (← elem' b nb)
      if nb == 1 then return firstOfB out na nb
      let some at_ ← gallop' true (← elem' a (na - 1)) b 0 nb (nb - 1) | return done out na nb
      let k := nb - at_
      bcount := k
      if k > 0 then
        out := out ++ (b.extract at_ nb).reverse; nb := at_
        if nb == 1 then return firstOfB out na nb
        if nb == 0 then return done out na nb
      na := na - 1; out := out.push (← elem' a na)
      if na == 0 then return done out na nb
      if acount < 7 && bcount < 7 then break
    minGallop := minGallop + 1
    setMinGallop' minGallop
  unsupported "internal:list.sort.merge-bound") := rfl
noncomputable abbrev HiC := Option (Array Keyed) × Nat × Nat × Array Keyed × Nat × Nat × Nat
noncomputable def hiEnd (a b out : Array Keyed) (na nb mg ac bc : Nat) : StateT SortSt Sem (ForInStep HiC) := do
  let x ← elem' a (na - 1)
  if na - 1 == 0 then pure (.done (some (a.extract 0 (na - 1) ++ b.extract 0 nb ++ (out.push x).reverse), na - 1, nb, out.push x, mg, ac, bc))
  else if ac < 7 && bc < 7 then pure (.done (none, na - 1, nb, out.push x, mg, ac, bc)) else pure (.yield (none, na - 1, nb, out.push x, mg, ac, bc))
noncomputable def hiMid (a b out : Array Keyed) (na nb mg ac bc : Nat) : StateT SortSt Sem (ForInStep HiC) := do
  let y ← elem' b (nb - 1)
  if nb - 1 == 1 then pure (.done (some (b.extract 0 (nb - 1) ++ a.extract 0 na ++ (out.push y).reverse), na, nb - 1, out.push y, mg, ac, bc))
  else
    let x ← elem' a (na - 1)
    let some k ← gallop' true x b 0 (nb - 1) (nb - 1 - 1) | pure (.done (some (a.extract 0 na ++ b.extract 0 (nb - 1) ++ (out.push y).reverse), na, nb - 1, out.push y, mg, ac, bc))
    if nb - 1 - k > 0 then
      if k == 1 then pure (.done (some (b.extract 0 k ++ a.extract 0 na ++ (out.push y ++ (b.extract k (nb - 1)).reverse).reverse), na, k, out.push y ++ (b.extract k (nb - 1)).reverse, mg, ac, nb - 1 - k))
      else if k == 0 then pure (.done (some (a.extract 0 na ++ b.extract 0 k ++ (out.push y ++ (b.extract k (nb - 1)).reverse).reverse), na, k, out.push y ++ (b.extract k (nb - 1)).reverse, mg, ac, nb - 1 - k))
      else hiEnd a b (out.push y ++ (b.extract k (nb - 1)).reverse) na k mg ac (nb - 1 - k)
    else hiEnd a b (out.push y) na (nb - 1) mg ac (nb - 1 - k)
noncomputable def hiTop (a b out : Array Keyed) (na nb mg ac bc : Nat) : StateT SortSt Sem (ForInStep HiC) := do
  setMinGallop' mg
  let y ← elem' b (nb - 1)
  let some k ← gallop' false y a 0 na (na - 1) | pure (.done (some (a.extract 0 na ++ b.extract 0 nb ++ out.reverse), na, nb, out, mg, ac, bc))
  if na - k > 0 then
    if k == 0 then pure (.done (some (a.extract 0 k ++ b.extract 0 nb ++ (out ++ (a.extract k na).reverse).reverse), k, nb, out ++ (a.extract k na).reverse, mg, na - k, bc))
    else hiMid a b (out ++ (a.extract k na).reverse) k nb mg (na - k) bc
  else hiMid a b out na nb mg (na - k) bc
noncomputable abbrev HiD := Option (Array Keyed) × Nat × Nat × Array Keyed × Nat × Nat
noncomputable def hiOne (a b : Array Keyed) (mg : Nat) (c : HiD) : StateT SortSt Sem (ForInStep HiD) := do
  let y ← elem' b (c.2.2.1 - 1)
  let x ← elem' a (c.2.1 - 1)
  let some aWins ← lt' y x | pure (.done (some (a.extract 0 c.2.1 ++ b.extract 0 c.2.2.1 ++ c.2.2.2.1.reverse), c.2.1, c.2.2.1, c.2.2.2.1, c.2.2.2.2.1, c.2.2.2.2.2))
  if aWins = true then
    let x ← elem' a (c.2.1 - 1)
    if c.2.1 - 1 == 0 then pure (.done (some (a.extract 0 (c.2.1 - 1) ++ b.extract 0 c.2.2.1 ++ (c.2.2.2.1.push x).reverse), c.2.1 - 1, c.2.2.1, c.2.2.2.1.push x, c.2.2.2.2.1 + 1, 0))
    else if c.2.2.2.2.1 + 1 ≥ mg then pure (.done (none, c.2.1 - 1, c.2.2.1, c.2.2.2.1.push x, c.2.2.2.2.1 + 1, 0)) else pure (.yield (none, c.2.1 - 1, c.2.2.1, c.2.2.2.1.push x, c.2.2.2.2.1 + 1, 0))
  else
    let y ← elem' b (c.2.2.1 - 1)
    if c.2.2.1 - 1 == 1 then pure (.done (some (b.extract 0 (c.2.2.1 - 1) ++ a.extract 0 c.2.1 ++ (c.2.2.2.1.push y).reverse), c.2.1, c.2.2.1 - 1, c.2.2.2.1.push y, 0, c.2.2.2.2.2 + 1))
    else if c.2.2.2.2.2 + 1 ≥ mg then pure (.done (none, c.2.1, c.2.2.1 - 1, c.2.2.2.1.push y, 0, c.2.2.2.2.2 + 1)) else pure (.yield (none, c.2.1, c.2.2.1 - 1, c.2.2.2.1.push y, 0, c.2.2.2.2.2 + 1))
structure MH (r : Nat → Int) (pa pb : List Nat) (na nb : Nat) (po : List Nat) : Prop where
  perm : po.Perm (pa.drop na ++ pb.drop nb)
  srt : po.Pairwise fun x y => r y ≤ r x
  la : ∀ x ∈ po, ∀ y ∈ pa.take na, r y ≤ r x
  lb : ∀ x ∈ po, ∀ y ∈ pb.take nb, r y ≤ r x
  ha : na ≤ pa.length
  hb : nb ≤ pb.length
section
variable {r : Nat → Int} {pa pb po : List Nat} {na nb : Nat}
theorem MH.len (h : MH r pa pb na nb po) : po.length = (pa.length - na) + (pb.length - nb) := by
  have := h.perm.length_eq
  simpa using this
theorem MH.swap (h : MH r pa pb na nb po) : MH r pb pa nb na po := ⟨h.perm.trans List.perm_append_comm, h.srt, h.lb, h.la, h.hb, h.ha⟩
theorem seg_eq {p : List Nat} {m k : Nat} (hm : m ≤ k) : (p.drop m).take (k - m) = (p.take k).drop m := by rw [List.drop_take]
theorem MH.aK (h : MH r pa pb na nb po) (sa : SrtL r pa) {m : Nat} (hm : m ≤ na) (hl : ∀ x ∈ (pa.drop m).take (na - m), ∀ y ∈ pb.take nb, r y ≤ r x) : MH r pa pb m nb (po ++ ((pa.drop m).take (na - m)).reverse) := by
  have sp : SrtL r (pa.take na) := sa.sublist (List.take_sublist _ _)
  have e : pa.take m ++ (pa.drop m).take (na - m) = pa.take na := by
    rw [seg_eq hm]
    have := List.take_append_drop m (pa.take na)
    rw [List.take_take, Nat.min_eq_left hm] at this
    exact this
  rw [← e] at sp
  obtain ⟨s1, s2, s3⟩ := List.pairwise_append.mp sp
  have e2 : pa.drop m = (pa.drop m).take (na - m) ++ pa.drop na := by
    have := List.take_append_drop (na - m) (pa.drop m)
    rw [List.drop_drop, show m + (na - m) = na by omega] at this
    exact this.symm
  refine ⟨?_, List.pairwise_append.mpr ⟨h.srt, List.pairwise_reverse.mpr s2, fun x hx y hy => ?_⟩, fun x hx y hy => ?_, fun x hx y hy => ?_, by have := h.ha; omega, h.hb⟩
  · refine List.Perm.trans ?_ (List.Perm.of_eq (congrArg (· ++ pb.drop nb) e2.symm))
    refine (h.perm.append (List.reverse_perm _)).trans ?_
    rw [List.append_assoc]
    have : (pa.drop na ++ (pb.drop nb ++ (pa.drop m).take (na - m))).Perm ((pa.drop m).take (na - m) ++ (pa.drop na ++ pb.drop nb)) := by
      rw [← List.append_assoc]
      exact List.perm_append_comm
    rw [List.append_assoc]
    exact this
  · exact h.la x hx y (by rw [← e]; exact List.mem_append_right _ (List.mem_reverse.mp hy))
  · rcases List.mem_append.mp hx with hx | hx
    · exact h.la x hx y (by rw [← e]; exact List.mem_append_left _ hy)
    · exact s3 y hy x (List.mem_reverse.mp hx)
  · rcases List.mem_append.mp hx with hx | hx
    · exact h.lb x hx y hy
    · exact hl x (List.mem_reverse.mp hx) y hy
theorem MH.bK (h : MH r pa pb na nb po) (sb : SrtL r pb) {m : Nat} (hm : m ≤ nb) (hl : ∀ x ∈ (pb.drop m).take (nb - m), ∀ y ∈ pa.take na, r y ≤ r x) : MH r pa pb na m (po ++ ((pb.drop m).take (nb - m)).reverse) := (h.swap.aK sb hm hl).swap
theorem seg_one {p : List Nat} {k : Nat} (h0 : 0 < k) (h : k ≤ p.length) : (p.drop (k - 1)).take (k - (k - 1)) = [p.getD (k - 1) 0] := by
  rw [show k - (k - 1) = 1 by omega]
  exact drop_one (by omega)
theorem MH.a1 (h : MH r pa pb na nb po) (sa : SrtL r pa) (h0 : 0 < na) (hl : ∀ y ∈ pb.take nb, r y ≤ r (pa.getD (na - 1) 0)) : MH r pa pb (na - 1) nb (po ++ [pa.getD (na - 1) 0]) := by
  have := h.aK sa (m := na - 1) (by omega) (by rw [seg_one h0 h.ha]; intro x hx; rw [List.mem_singleton.mp hx]; exact hl)
  rw [seg_one h0 h.ha] at this
  exact this
theorem MH.b1 (h : MH r pa pb na nb po) (sb : SrtL r pb) (h0 : 0 < nb) (hl : ∀ y ∈ pa.take na, r y ≤ r (pb.getD (nb - 1) 0)) : MH r pa pb na (nb - 1) (po ++ [pb.getD (nb - 1) 0]) := (h.swap.a1 sb h0 hl).swap
theorem mem_take_at {p : List Nat} {i : Nat} {x : Nat} (h : x ∈ p.take i) : ∃ j, j < i ∧ j < p.length ∧ x = p.getD j 0 := by
  obtain ⟨k, hk, e⟩ := List.mem_iff_getElem.mp h
  rw [List.length_take] at hk
  refine ⟨k, by omega, by omega, ?_⟩
  rw [List.getElem_take] at e
  rw [← e]
  simp [show k < p.length by omega]
theorem MH.done (h : MH r pa pb na nb po) (sa : SrtL r pa) (sb : SrtL r pb) (hl : ∀ x ∈ pa.take na, ∀ y ∈ pb.take nb, r x ≤ r y) : (pa.take na ++ pb.take nb ++ po.reverse).Perm (pa ++ pb) ∧ SrtL r (pa.take na ++ pb.take nb ++ po.reverse) := by
  constructor
  · refine (List.Perm.append_left _ ((List.reverse_perm _).trans h.perm)).trans ?_
    have : (pa.take na ++ pb.take nb ++ (pa.drop na ++ pb.drop nb)).Perm ((pa.take na ++ pa.drop na) ++ (pb.take nb ++ pb.drop nb)) := by
      rw [List.append_assoc, List.append_assoc]
      refine List.Perm.append_left _ ?_
      rw [← List.append_assoc, ← List.append_assoc]
      exact List.Perm.append_right _ List.perm_append_comm
    rw [List.take_append_drop, List.take_append_drop] at this
    exact this
  · refine List.pairwise_append.mpr ⟨List.pairwise_append.mpr ⟨sa.sublist (List.take_sublist _ _), sb.sublist (List.take_sublist _ _), hl⟩, List.pairwise_reverse.mpr h.srt, fun x hx y hy => ?_⟩
    have hy := List.mem_reverse.mp hy
    rcases List.mem_append.mp hx with hx | hx
    · exact h.la y hy x hx
    · exact h.lb y hy x hx
theorem MH.full (h : MH r pa pb na nb po) (sa : SrtL r pa) (sb : SrtL r pb) (hi : na = 0 ∨ nb = 0) : (pa.take na ++ pb.take nb ++ po.reverse).Perm (pa ++ pb) ∧ SrtL r (pa.take na ++ pb.take nb ++ po.reverse) :=
  h.done sa sb fun x hx y hy => by
    rcases hi with z | z
    · rw [z] at hx; cases hx
    · rw [z] at hy; cases hy
theorem MH.first (h : MH r pa pb na nb po) (sa : SrtL r pa) (sb : SrtL r pb) (hz : ∀ y ∈ pa, r (pb.getD 0 0) ≤ r y) (hi : nb = 1) : (pb.take nb ++ pa.take na ++ po.reverse).Perm (pa ++ pb) ∧ SrtL r (pb.take nb ++ pa.take na ++ po.reverse) := by
  have := h.swap.done sb sa fun x hx y hy => by
    obtain ⟨j, j1, j2, rfl⟩ := mem_take_at hx
    rw [show j = 0 by omega]
    exact hz y (List.mem_of_mem_take hy)
  exact ⟨this.1.trans List.perm_append_comm, this.2⟩
end
section
variable {prog : Program} {w : World} {A : Around} {E : Value → Shared → Prop} {s : Shared} {f : Nat → Keyed} {r : Nat → Int} {n : Nat} {κ : SortKind}
theorem ar_hdone {pa pb : List Nat} (po : List Nat) (na nb : Nat) : (ar f pa).extract 0 na ++ (ar f pb).extract 0 nb ++ (ar f po).reverse = ar f (pa.take na ++ pb.take nb ++ po.reverse) := by
  rw [ar_ext, ar_ext, ar_rev, ar_app, ar_app]; rfl
theorem ar_hput {pa : List Nat} (po : List Nat) (m k : Nat) : ar f po ++ ((ar f pa).extract m k).reverse = ar f (po ++ ((pa.drop m).take (k - m)).reverse) := by
  rw [ar_ext, ar_rev, ar_app]
noncomputable def HiP (st : SortSt) (f : Nat → Keyed) (r : Nat → Int) (pa pb : List Nat) (x : Nat) (d : HiC) (st2 : SortSt) : Prop := SameS st st2 ∧ ∃ po2 na2 nb2 g ac bc, d = (none, na2, nb2, ar f po2, g, ac, bc) ∧ MH r pa pb na2 nb2 po2 ∧ 0 < na2 ∧ 1 < nb2 ∧ x ≤ po2.length
noncomputable def HiQ (st : SortSt) (f : Nat → Keyed) (r : Nat → Int) (pa pb : List Nat) (x : Nat) : ForInStep HiC → SortSt → Prop
  | .done d, st2 => HiP st f r pa pb x d st2 ∨ LoF st f r pa pb d.1 st2
  | .yield d, st2 => HiP st f r pa pb x d st2
structure HiH (prog : Program) (w : World) (A : Around) (E : Value → Shared → Prop) (s : Shared) (f : Nat → Keyed) (r : Nat → Int) (n : Nat) (κ : SortKind) (pa pb : List Nat) : Prop where
  L : LtOk prog w A E s f r n κ
  ra : ∀ x ∈ pa, x < n
  rb : ∀ x ∈ pb, x < n
  sa : SrtL r pa
  sb : SrtL r pb
  hz : ∀ y ∈ pa, r (pb.getD 0 0) ≤ r y
variable {pa pb : List Nat} {st st2 : SortSt}
theorem wpS_hiEnd (H : HiH prog w A E s f r n κ pa pb) (same : SameS st st2) {x : Nat} {po : List Nat} {na nb mg ac bc : Nat} (mi : MH r pa pb na nb po) (hna : 0 < na) (hnb : 1 < nb) (hx : x ≤ po.length) (hl : ∀ y ∈ pb.take nb, r y ≤ r (pa.getD (na - 1) 0)) :
    wpS (model prog w) A E s (hiEnd (ar f pa) (ar f pb) (ar f po) na nb mg ac bc) (HiQ st f r pa pb x) st2 := by
  unfold hiEnd
  have ha := mi.ha
  refine wpS_bind (wpS_elem (by omega) ?_)
  have m2 := mi.a1 H.sa hna hl
  rw [ar_push, ar_hdone]
  by_cases c : na - 1 = 0
  · exact wpS_ite_pos (by simpa using c) (wpS_pure (.inr ⟨same, _, rfl, m2.full H.sa H.sb (.inl c)⟩))
  · refine wpS_ite_neg (by simpa using c) ?_
    have P : HiP st f r pa pb x (none, na - 1, nb, ar f (po ++ [pa.getD (na - 1) 0]), mg, ac, bc) st2 := ⟨same, _, _, _, _, _, _, rfl, m2, by omega, hnb, by rw [List.length_append]; omega⟩
    by_cases c2 : (decide (ac < 7) && decide (bc < 7)) = true
    · exact wpS_ite_pos c2 (wpS_pure (.inl P))
    · exact wpS_ite_neg c2 (wpS_pure P)
theorem wpS_hiMid (H : HiH prog w A E s f r n κ pa pb) (same : SameS st st2) (hk : kindOf st2 = κ) {x : Nat} {po : List Nat} {na nb mg ac bc : Nat} (mi : MH r pa pb na nb po) (hna : 0 < na) (hnb : 1 < nb) (hx : x ≤ po.length) (hl : ∀ y ∈ pa.take na, r y ≤ r (pb.getD (nb - 1) 0)) :
    wpS (model prog w) A E s (hiMid (ar f pa) (ar f pb) (ar f po) na nb mg ac bc) (HiQ st f r pa pb x) st2 := by
  unfold hiMid
  have ha := mi.ha
  have hb := mi.hb
  refine wpS_bind (wpS_elem (by omega) ?_)
  have m2 := mi.b1 H.sb (by omega) hl
  have hx2 : x ≤ (po ++ [pb.getD (nb - 1) 0]).length := by rw [List.length_append]; omega
  rw [ar_push]
  by_cases c : nb - 1 = 1
  · refine wpS_ite_pos (by simpa using c) (wpS_pure (.inr ⟨same, _, ?_, m2.first H.sa H.sb H.hz c⟩))
    rw [ar_hdone]
  · refine wpS_ite_neg (by simpa using c) ?_
    refine wpS_bind (wpS_elem (by omega) ?_)
    refine wpS_bind (wpS_gal (left := true) (base := 0) (m := nb - 1) H.L hk H.rb (H.ra _ (mem_getD (by omega))) H.sb (by omega) (by omega) fun k k1 k2 k3 => ?_)
    have ge : ∀ y ∈ pb.take k, r y ≤ r (pa.getD (na - 1) 0) := fun y hy => by
      obtain ⟨j, j1, j2, rfl⟩ := mem_take_at hy
      have := k2 j j1
      rw [if_pos rfl, Nat.zero_add] at this
      omega
    dsimp only
    by_cases k0 : nb - 1 - k > 0
    · refine wpS_ite_pos k0 ?_
      have m3 := m2.bK H.sb (m := k) (by omega) fun z hz y hy => by
        obtain ⟨j, j1, j2, rfl⟩ := mem_take_at hy
        rw [seg_eq (by omega)] at hz
        obtain ⟨t, t1, t2, rfl⟩ := mem_drop_at hz
        rw [List.length_take] at t2
        have a1 := k3 t t1 (by omega)
        rw [if_pos rfl, Nat.zero_add] at a1
        have e2 : (pb.take (nb - 1)).getD t 0 = pb.getD t 0 := by simp [List.getElem?_take, show t < nb - 1 by omega]
        rw [e2]
        have a2 := H.sa.at_ (i := j) (j := na - 1) (by omega) (by omega)
        omega
      rw [ar_hput]
      by_cases c3 : k = 1
      · refine wpS_ite_pos (by simpa using c3) (wpS_pure (.inr ⟨same, _, ?_, m3.first H.sa H.sb H.hz c3⟩))
        rw [ar_hdone]
      · refine wpS_ite_neg (by simpa using c3) ?_
        by_cases c4 : k = 0
        · refine wpS_ite_pos (by simpa using c4) (wpS_pure (.inr ⟨same, _, ?_, m3.full H.sa H.sb (.inr c4)⟩))
          rw [ar_hdone]
        · refine wpS_ite_neg (by simpa using c4) ?_
          exact wpS_hiEnd H same m3 hna (by omega) (by rw [List.length_append]; omega) ge
    · refine wpS_ite_neg k0 ?_
      have : k = nb - 1 := by omega
      subst this
      exact wpS_hiEnd H same m2 hna (by omega) hx2 ge
theorem wpS_hiTop (H : HiH prog w A E s f r n κ pa pb) (same : SameS st st2) (hk : kindOf st2 = κ) {x : Nat} {po : List Nat} {na nb mg ac bc : Nat} (mi : MH r pa pb na nb po) (hna : 0 < na) (hnb : 1 < nb) (hx : x ≤ po.length) :
    wpS (model prog w) A E s (hiTop (ar f pa) (ar f pb) (ar f po) na nb mg ac bc) (HiQ st f r pa pb x) st2 := by
  unfold hiTop
  have ha := mi.ha
  have hb := mi.hb
  rw [setMinGallop'_eq]
  refine wpS_bind (wpS_modify ?_)
  have same2 := same.g mg
  have hk2 : kindOf (setG st2 mg) = κ := hk
  show wpS _ _ _ _ _ _ (setG st2 mg)
  refine wpS_bind (wpS_elem (by omega) ?_)
  refine wpS_bind (wpS_gal (left := false) (base := 0) (m := na) H.L hk2 H.ra (H.rb _ (mem_getD (by omega))) H.sa (by omega) (by omega) fun k k1 k2 k3 => ?_)
  have le : ∀ y ∈ pa.take k, r y ≤ r (pb.getD (nb - 1) 0) := fun y hy => by
    obtain ⟨j, j1, j2, rfl⟩ := mem_take_at hy
    have := k2 j j1
    rw [if_neg Bool.false_ne_true, Nat.zero_add] at this
    exact this
  dsimp only
  by_cases k0 : na - k > 0
  · refine wpS_ite_pos k0 ?_
    have m3 := mi.aK H.sa (m := k) (by omega) fun z hz y hy => by
      obtain ⟨j, j1, j2, rfl⟩ := mem_take_at hy
      rw [seg_eq (by omega)] at hz
      obtain ⟨t, t1, t2, rfl⟩ := mem_drop_at hz
      rw [List.length_take] at t2
      have a1 := k3 t t1 (by omega)
      rw [if_neg Bool.false_ne_true, Nat.zero_add] at a1
      have e2 : (pa.take na).getD t 0 = pa.getD t 0 := by simp [List.getElem?_take, show t < na by omega]
      rw [e2]
      have a2 := H.sb.at_ (i := j) (j := nb - 1) (by omega) (by omega)
      omega
    rw [ar_hput]
    by_cases c1 : k = 0
    · refine wpS_ite_pos (by simpa using c1) (wpS_pure (.inr ⟨same2, _, ?_, m3.full H.sa H.sb (.inl c1)⟩))
      rw [ar_hdone]
    · refine wpS_ite_neg (by simpa using c1) ?_
      exact wpS_hiMid H same2 hk2 m3 (by omega) hnb (by rw [List.length_append]; omega) le
  · refine wpS_ite_neg k0 ?_
    have : k = na := by omega
    subst this
    exact wpS_hiMid H same2 hk2 mi hna hnb hx le
theorem wpS_mergeHi {Q : Array Keyed → SortSt → Prop} (H : HiH prog w A E s f r n κ pa pb) (hk : kindOf st = κ) (ha : 0 < pa.length) (hb : 0 < pb.length) (h0 : r (pb.getD (pb.length - 1) 0) ≤ r (pa.getD (pa.length - 1) 0))
    (h : ∀ po st', po.Perm (pa ++ pb) → SrtL r po → SameS st st' → Q (ar f po) st') : wpS (model prog w) A E s (mergeHi' (ar f pa) (ar f pb)) Q st := by
  have m0 : MH r pa pb pa.length pb.length [] := ⟨by simp, List.Pairwise.nil, fun x hx => (nomatch hx), fun x hx => (nomatch hx), Nat.le_refl _, Nat.le_refl _⟩
  have m1 : MH r pa pb (pa.length - 1) pb.length [pa.getD (pa.length - 1) 0] := m0.a1 H.sa ha fun y hy => by
    obtain ⟨j, j1, j2, rfl⟩ := mem_take_at hy
    have := H.sb.at_ (i := j) (j := pb.length - 1) (by omega) (by omega)
    omega
  rw [mergeHi'_eq0]
  refine wpS_bind (wpS_lift (wpAny_rule ⟨rfl, ?_⟩))
  simp only [ar_size]
  refine wpS_bind (wpS_elem (by omega) ?_)
  have e1 : #[f (pa.getD (pa.length - 1) 0)] = ar f [pa.getD (pa.length - 1) 0] := rfl
  rw [e1]
  by_cases c1 : pa.length - 1 = 0
  · refine wpS_ite_pos (by simpa using c1) (wpS_pure ?_)
    rw [ar_hdone]
    have := m1.full H.sa H.sb (.inl c1)
    exact h _ _ this.1 this.2 (SameS.refl _)
  refine wpS_ite_neg (by simpa using c1) ?_
  by_cases c2 : pb.length = 1
  · refine wpS_ite_pos (by simpa using c2) (wpS_pure ?_)
    rw [ar_hdone (pa := pb) (pb := pa)]
    have := m1.first H.sa H.sb H.hz c2
    exact h _ _ this.1 this.2 (SameS.refl _)
  refine wpS_ite_neg (by simpa using c2) ?_
  refine wpS_bind (wpS_get ?_)
  refine wpS_bind (wpS_mono (wpS_forRange (I := fun x c st' => SameS st st' ∧ ∃ po na nb mg, c = (none, na, nb, ar f po, mg) ∧ MH r pa pb na nb po ∧ 0 < na ∧ 1 < nb ∧ x + 1 ≤ po.length)
    (Q := fun c st' => LoF st f r pa pb c.1 st') ?step ?fin ?init) ?post)
  case init => exact ⟨SameS.refl _, _, _, _, _, rfl, m1, by omega, by omega, by simp⟩
  case fin =>
    rintro c st' ⟨same, po, na, nb, mg, rfl, mi, hna, hnb, hpo⟩
    have := mi.len
    have := mi.ha
    have := mi.hb
    omega
  case post =>
    rintro c st' ⟨same, po, hc, pm, sr⟩
    obtain ⟨c1, c2⟩ := c
    dsimp only at hc
    subst hc
    exact wpS_pure (h po st' pm sr same)
  case step =>
    rintro x c st' _ hx ⟨same, po, na, nb, mg, rfl, mi, hna, hnb, hpo⟩
    refine wpS_bind (wpS_mono (wpS_forRange (I := fun y d st2 => SameS st st2 ∧ ∃ po2 na2 nb2 ac bc, d = (none, na2, nb2, ar f po2, ac, bc) ∧ MH r pa pb na2 nb2 po2 ∧ 0 < na2 ∧ 1 < nb2 ∧ x + 1 + y ≤ po2.length)
      (Q := fun d st2 => (SameS st st2 ∧ ∃ po2 na2 nb2 ac bc, d = (none, na2, nb2, ar f po2, ac, bc) ∧ MH r pa pb na2 nb2 po2 ∧ 0 < na2 ∧ 1 < nb2 ∧ x + 2 ≤ po2.length) ∨ LoF st f r pa pb d.1 st2) ?step1 ?fin1 ?init1) ?post1)
    case init1 => exact ⟨same, po, na, nb, 0, 0, rfl, mi, hna, hnb, by omega⟩
    case fin1 =>
      rintro d st2 ⟨same2, po2, na2, nb2, ac, bc, rfl, mi2, hna2, hnb2, hpo2⟩
      have := mi2.len
      have := mi2.ha
      have := mi2.hb
      omega
    case step1 =>
      rintro y d st2 _ hy ⟨same2, po2, na2, nb2, ac, bc, rfl, mi2, hna2, hnb2, hpo2⟩
      show wpS _ _ _ _ (hiOne (ar f pa) (ar f pb) mg (none, na2, nb2, ar f po2, ac, bc)) _ _
      unfold hiOne
      dsimp only
      have ha2 := mi2.ha
      have hb2 := mi2.hb
      refine wpS_bind (wpS_elem (by omega) (wpS_bind (wpS_elem (by omega) (wpS_bind (H.L _ _ (H.rb _ (mem_getD (by omega))) (H.ra _ (mem_getD (by omega))) _ _ (same2.kind.trans hk) ?_)))))
      dsimp only
      by_cases lt : r (pb.getD (nb2 - 1) 0) < r (pa.getD (na2 - 1) 0)
      · refine wpS_ite_pos (decide_eq_true lt) (wpS_bind (wpS_elem (by omega) ?_))
        have m3 := mi2.a1 H.sa hna2 fun z hz => by
          obtain ⟨j, j1, j2, rfl⟩ := mem_take_at hz
          have := H.sb.at_ (i := j) (j := nb2 - 1) (by omega) (by omega)
          omega
        rw [ar_push]
        by_cases c3 : na2 - 1 = 0
        · refine wpS_ite_pos (by simpa using c3) (wpS_pure (.inr ⟨same2, _, ?_, m3.full H.sa H.sb (.inl c3)⟩))
          rw [ar_hdone]
        · refine wpS_ite_neg (by simpa using c3) ?_
          by_cases c4 : ac + 1 ≥ mg
          · exact wpS_ite_pos c4 (wpS_pure (.inl ⟨same2, _, _, _, _, _, rfl, m3, by omega, hnb2, by rw [List.length_append, List.length_singleton]; omega⟩))
          · exact wpS_ite_neg c4 (wpS_pure ⟨same2, _, _, _, _, _, rfl, m3, by omega, hnb2, by rw [List.length_append, List.length_singleton]; omega⟩)
      · refine wpS_ite_neg (by rw [decide_eq_false lt]; exact Bool.false_ne_true) (wpS_bind (wpS_elem (by omega) ?_))
        have m3 := mi2.b1 H.sb (by omega) fun z hz => by
          obtain ⟨j, j1, j2, rfl⟩ := mem_take_at hz
          have := H.sa.at_ (i := j) (j := na2 - 1) (by omega) (by omega)
          omega
        rw [ar_push]
        by_cases c3 : nb2 - 1 = 1
        · refine wpS_ite_pos (by simpa using c3) (wpS_pure (.inr ⟨same2, _, ?_, m3.first H.sa H.sb H.hz c3⟩))
          rw [ar_hdone]
        · refine wpS_ite_neg (by simpa using c3) ?_
          by_cases c4 : bc + 1 ≥ mg
          · exact wpS_ite_pos c4 (wpS_pure (.inl ⟨same2, _, _, _, _, _, rfl, m3, hna2, by omega, by rw [List.length_append, List.length_singleton]; omega⟩))
          · exact wpS_ite_neg c4 (wpS_pure ⟨same2, _, _, _, _, _, rfl, m3, hna2, by omega, by rw [List.length_append, List.length_singleton]; omega⟩)
    case post1 =>
      rintro d st2 (⟨same2, po2, na2, nb2, ac, bc, rfl, mi2, hna2, hnb2, hpo2⟩ | ⟨same2, po2, hd, pm, sr⟩)
      · refine wpS_bind (wpS_lift (wpAny_rule ⟨rfl, ?_⟩))
        refine wpS_bind (wpS_mono (wpS_forRange (I := fun y d st2 => HiP st f r pa pb (x + 2) d st2) (Q := fun d st2 => HiP st f r pa pb (x + 2) d st2 ∨ LoF st f r pa pb d.1 st2) ?step2 ?fin2 ?init2) ?post2)
        case init2 => exact ⟨same2, po2, na2, nb2, _, ac, bc, rfl, mi2, hna2, hnb2, hpo2⟩
        case fin2 => exact fun d st3 h3 => .inl h3
        case step2 =>
          rintro y d st3 _ hy ⟨same3, po3, na3, nb3, g3, ac3, bc3, rfl, mi3, hna3, hnb3, hpo3⟩
          show wpS _ _ _ _ (if g3 > 1 then hiTop (ar f pa) (ar f pb) (ar f po3) na3 nb3 (g3 - 1) ac3 bc3 else hiTop (ar f pa) (ar f pb) (ar f po3) na3 nb3 g3 ac3 bc3) _ _
          by_cases c : g3 > 1
          · exact wpS_ite_pos c (wpS_mono (wpS_hiTop H same3 (same3.kind.trans hk) mi3 hna3 hnb3 hpo3) fun a st4 ha => by cases a <;> exact ha)
          · exact wpS_ite_neg c (wpS_mono (wpS_hiTop H same3 (same3.kind.trans hk) mi3 hna3 hnb3 hpo3) fun a st4 ha => by cases a <;> exact ha)
        case post2 =>
          rintro d st3 (⟨same3, po3, na3, nb3, g3, ac3, bc3, rfl, mi3, hna3, hnb3, hpo3⟩ | ⟨same3, po3, hd, pm, sr⟩)
          · refine wpS_bind ?_
            rw [setMinGallop'_eq]
            exact wpS_modify (wpS_pure ⟨same3.g _, po3, na3, nb3, _, rfl, mi3, hna3, hnb3, by omega⟩)
          · obtain ⟨d1, d2⟩ := d
            dsimp only at hd
            subst hd
            exact wpS_pure ⟨same3, po3, rfl, pm, sr⟩
      · obtain ⟨d1, d2⟩ := d
        dsimp only at hd
        subst hd
        exact wpS_pure ⟨same2, po2, rfl, pm, sr⟩
end
end L2
namespace L2
open PySem PySem.W PyProof.Rows
section
variable {prog : Program} {w : World} {A : Around} {E : Value → Shared → Prop} {s : Shared} {f : Nat → Keyed} {r : Nat → Int} {n : Nat} {κ : SortKind}
noncomputable abbrev kv (r : Nat → Int) (p : List Nat) (k : Nat) : Int := r (p.getD k 0)
theorem getD_arr {a : Array Nat} {k : Nat} : a.toList.getD k 0 = (a[k]?).getD 0 := by
  rw [List.getD_eq_getElem?_getD, Array.getElem?_toList]
theorem ar_of {p : List Nat} {a : Array Keyed} {b : Array Nat} (hs : a.size = b.size) (h : ∀ k, k < a.size → a[k]? = (b[k]?).map f) : a = ar f b.toList := by
  apply Array.ext_getElem?
  intro k
  by_cases c : k < a.size
  · rw [h k c]; simp [ar]
  · rw [Array.getElem?_eq_none (by omega), Array.getElem?_eq_none (by rw [ar_size, Array.length_toList]; omega)]
theorem ar_get? (p : List Nat) (k : Nat) : (ar f p)[k]? = (p.toArray[k]?).map f := by simp [ar]
theorem mirror_ar {p : List Nat} {i j : Nat} (hj : j ≤ p.length) : ∃ p', mirror (ar f p) i j ((j - i) / 2) = ar f p' ∧ p'.Perm p ∧ ∀ k, p'.getD k 0 = if i ≤ k ∧ k < j then p.getD (i + j - 1 - k) 0 else p.getD k 0 := by
  refine ⟨(mirror p.toArray i j ((j - i) / 2)).toList, ar_of (p := p) (by rw [mirror_size, mirror_size, ar_size]; simp) fun k _ => ?_, ?_, fun k => ?_⟩
  · rw [getElem?_mirror_all (by rw [ar_size]; exact hj), getElem?_mirror_all (by simpa using hj)]
    split <;> exact ar_get? _ _
  · have := mirror_perm p.toArray i j ((j - i) / 2)
    simpa using Array.perm_iff_toList_perm.mp this
  · rw [getD_arr, getElem?_mirror_all (by simpa using hj)]
    split <;> simp [List.getD_eq_getElem?_getD]
theorem bubble_ar {p : List Nat} {src d : Nat} (hs : src < p.length) (hd : d ≤ src) : ∃ p', bubble (ar f p) src d = ar f p' ∧ p'.Perm p ∧ ∀ k, p'.getD k 0 = if k = src - d then p.getD src 0 else if src - d < k ∧ k ≤ src then p.getD (k - 1) 0 else p.getD k 0 := by
  refine ⟨(bubble p.toArray src d).toList, ar_of (p := p) (by rw [bubble_size, bubble_size, ar_size]; simp) fun k _ => ?_, ?_, fun k => ?_⟩
  · rw [getElem?_bubble (by rw [ar_size]; exact hs) d hd, getElem?_bubble (by simpa using hs) d hd]
    split
    · exact ar_get? _ _
    · split <;> exact ar_get? _ _
  · have := bubble_perm p.toArray src d
    simpa using Array.perm_iff_toList_perm.mp this
  · rw [getD_arr, getElem?_bubble (by simpa using hs) d hd]
    split
    · simp [List.getD_eq_getElem?_getD]
    · split <;> simp [List.getD_eq_getElem?_getD]
structure RunS (f : Nat → Keyed) (st : SortSt) (lo : Nat) (p : List Nat) (st' : SortSt) (p' : List Nat) : Prop where
  kind : kindOf st' = kindOf st
  pend : pendingOf st' = pendingOf st
  fail : failedOf st' = failedOf st
  arr : arrOf st' = ar f p'
  perm : p'.Perm p
  pre : ∀ k, k < lo → p'.getD k 0 = p.getD k 0
theorem RunS.len {st st' : SortSt} {lo : Nat} {p p' : List Nat} (h : RunS f st lo p st' p') : p'.length = p.length := h.perm.length_eq
theorem RunS.set {st st' : SortSt} {lo : Nat} {p p' p2 : List Nat} (h : RunS f st lo p st' p') (pm : p2.Perm p') (pr : ∀ k, k < lo → p2.getD k 0 = p'.getD k 0) : RunS f st lo p (setArr st' (ar f p2)) p2 :=
  ⟨h.kind, h.pend, h.fail, rfl, pm.trans h.perm, fun k hk => (pr k hk).trans (h.pre k hk)⟩
theorem wpS_ltA {p : List Nat} {i j : Nat} {st : SortSt} {Q : Option Bool → SortSt → Prop} (L : LtOk prog w A E s f r n κ) (hk : kindOf st = κ) (ha : arrOf st = ar f p) (hp : ∀ x ∈ p, x < n) (hi : i < p.length) (hj : j < p.length) (q : Q (some (decide (kv r p i < kv r p j))) st) :
    wpS (model prog w) A E s (ltAt' i j) Q st := by
  rw [ltAt'_eq]
  refine wpS_bind (wpS_get ?_)
  dsimp only
  rw [ha]
  exact wpS_bind (wpS_elem hi (wpS_bind (wpS_elem hj (L _ _ (hp _ (mem_getD hi)) (hp _ (mem_getD hj)) st Q hk q))))
theorem wpS_rev {p : List Nat} {i j : Nat} {st : SortSt} {Q : Unit → SortSt → Prop} (ha : arrOf st = ar f p) (hj : j ≤ p.length)
    (q : ∀ p', p'.Perm p → (∀ k, p'.getD k 0 = if i ≤ k ∧ k < j then p.getD (i + j - 1 - k) 0 else p.getD k 0) → Q () (setArr st (ar f p'))) : wpS (model prog w) A E s (reverseSlice' i j) Q st := by
  rw [reverseSlice'_eq]
  refine wpS_modify ?_
  rw [ha]
  obtain ⟨p', e, pm, g⟩ := mirror_ar (f := f) (i := i) hj
  rw [e]
  exact q p' pm g
noncomputable def Sg (r : Nat → Int) (p : List Nat) (lo m : Nat) : Prop := ∀ i j, i ≤ j → j < m → kv r p (lo + i) ≤ kv r p (lo + j)
noncomputable def Fl (r : Nat → Int) (p : List Nat) (lo m : Nat) : Prop := ∀ i j, i ≤ j → j < m → kv r p (lo + j) ≤ kv r p (lo + i)
noncomputable def Lv (r : Nat → Int) (p : List Nat) (lo a b : Nat) : Prop := ∀ k, a ≤ k → k < b → kv r p (lo + k) = kv r p (lo + b - 1)
theorem kv_lev {p p' : List Nat} {lo a b i j : Nat} (h : Lv r p lo a b) (hi : i = lo + a) (hj : j = lo + b) (g : ∀ k, p'.getD k 0 = if i ≤ k ∧ k < j then p.getD (i + j - 1 - k) 0 else p.getD k 0) (k : Nat) : kv r p' k = kv r p k := by
  subst hi hj
  unfold kv
  rw [g k]
  by_cases c : lo + a ≤ k ∧ k < lo + b
  · rw [if_pos c]
    have h1 := h (a + b - 1 - (k - lo)) (by omega) (by omega)
    have h2 := h (k - lo) (by omega) (by omega)
    unfold kv at h1 h2
    rw [show lo + a + (lo + b) - 1 - k = lo + (a + b - 1 - (k - lo)) by omega, h1, ← h2, show lo + (k - lo) = k by omega]
  · rw [if_neg c]
theorem wpS_asc {p : List Nat} {lo nrem m : Nat} {st' : SortSt} {Q : Option (Option Nat) × Nat → SortSt → Prop} (L : LtOk prog w A E s f r n κ) (hk : kindOf st' = κ) (ha : arrOf st' = ar f p) (hp : ∀ x ∈ p, x < n) (hl : lo + nrem ≤ p.length) (h1 : 1 ≤ m) (hm : m ≤ nrem) (hs : Sg r p lo m)
    (h : ∀ m', m ≤ m' → m' ≤ nrem → Sg r p lo m' → (m' < nrem → kv r p (lo + m') < kv r p (lo + m' - 1)) → Q (none, m') st') :
    wpS (model prog w) A E s (forIn [m:nrem] ((none, m) : Option (Option Nat) × Nat) fun _ c => do
      let some smaller ← ltAt' (lo + c.2) (lo + c.2 - 1) | pure (.done (some none, c.2))
      if smaller then pure (.done (none, c.2)) else pure (.yield (none, c.2 + 1))) Q st' := by
  refine wpS_mono (wpS_forRange (I := fun x c st2 => st2 = st' ∧ c = (none, x) ∧ m ≤ x ∧ Sg r p lo x) (Q := fun c st2 => st2 = st' ∧ ∃ m', c = (none, m') ∧ m ≤ m' ∧ m' ≤ nrem ∧ Sg r p lo m' ∧ (m' < nrem → kv r p (lo + m') < kv r p (lo + m' - 1))) ?step ?fin ⟨rfl, rfl, Nat.le_refl _, hs⟩) ?post
  case fin =>
    rintro c st2 ⟨rfl, rfl, z1, z2⟩
    rw [Nat.max_eq_right hm] at *
    exact ⟨rfl, nrem, rfl, z1, Nat.le_refl _, z2, fun z => absurd z (Nat.lt_irrefl _)⟩
  case post =>
    rintro c st2 ⟨rfl, m', rfl, z1, z2, z3, z4⟩
    exact h m' z1 z2 z3 z4
  case step =>
    rintro x c st2 _ hx ⟨rfl, rfl, z1, z2⟩
    refine wpS_bind (wpS_ltA L hk ha hp (by show lo + x < _; omega) (by show lo + x - 1 < _; omega) ?_)
    dsimp only
    by_cases lt : kv r p (lo + x) < kv r p (lo + x - 1)
    · exact wpS_ite_pos (decide_eq_true lt) (wpS_pure ⟨rfl, x, rfl, z1, by omega, z2, fun _ => lt⟩)
    · refine wpS_ite_neg (by rw [decide_eq_false lt]; exact Bool.false_ne_true) (wpS_pure ⟨rfl, rfl, by omega, fun i j hij hj => ?_⟩)
      by_cases c : j = x
      · by_cases c2 : i = x
        · rw [c, c2]; exact Int.le_refl _
        · have := z2 i (x - 1) (by omega) (by omega)
          rw [show lo + (x - 1) = lo + x - 1 by omega] at this
          rw [c]; omega
      · exact z2 i j hij (by omega)
noncomputable def cTail (lo m nrem : Nat) : StateT SortSt Sem (Option Nat) := do
  reverseSlice' lo (lo + m)
  let c ← forIn [m:nrem] ((none, m) : Option (Option Nat) × Nat) fun _ c => do
      let some smaller ← ltAt' (lo + c.2) (lo + c.2 - 1) | pure (.done (some none, c.2))
      if smaller then pure (.done (none, c.2)) else pure (.yield (none, c.2 + 1))
  match c.1 with
  | some r => pure r
  | none => pure (some c.2)
noncomputable def cDown (lo : Nat) (c : Option (Option Nat) × Nat × Nat) : StateT SortSt Sem (ForInStep (Option (Option Nat) × Nat × Nat)) := do
  let some smaller ← ltAt' (lo + c.2.1) (lo + c.2.1 - 1) | pure (.done (some none, c.2.1, c.2.2))
  if smaller then
    if c.2.2 > 0 then
      reverseSlice' (lo + c.2.1 - (c.2.2 + 1)) (lo + c.2.1)
      pure (.yield (none, c.2.1 + 1, 0))
    else pure (.yield (none, c.2.1 + 1, 0))
  else
    let some larger ← ltAt' (lo + c.2.1 - 1) (lo + c.2.1) | pure (.done (some none, c.2.1, c.2.2))
    if larger then pure (.done (none, c.2.1, c.2.2)) else pure (.yield (none, c.2.1 + 1, c.2.2 + 1))
noncomputable def cRest (lo m nrem : Nat) : StateT SortSt Sem (Option Nat) := do
  rule "list.sort.descending-run"
  let c ← forIn [m + 1:nrem] ((none, m + 1, 0) : Option (Option Nat) × Nat × Nat) fun _ c => cDown lo c
  match c.1 with
  | some r => pure r
  | none =>
    if c.2.2 > 0 then
      reverseSlice' (lo + c.2.1 - (c.2.2 + 1)) (lo + c.2.1)
      cTail lo c.2.1 nrem
    else cTail lo c.2.1 nrem
theorem wpS_congr {α : Type} {x y : StateT SortSt Sem α} {st : SortSt} {Q : α → SortSt → Prop} (e : x = y) (h : wpS (model prog w) A E s y Q st) : wpS (model prog w) A E s x Q st := by rw [e]; exact h
section
variable {p : List Nat} {lo nrem : Nat} {st st' : SortSt} {p' : List Nat}
theorem wpS_cTail {Q : Option Nat → SortSt → Prop} (L : LtOk prog w A E s f r n κ) (hk : kindOf st = κ) (hp : ∀ x ∈ p, x < n) (hl : lo + nrem ≤ p.length) (R : RunS f st lo p st' p') {m : Nat} (h1 : 1 ≤ m) (hm : m ≤ nrem) (hf : Fl r p' lo m)
    (h : ∀ m p' st', RunS f st lo p st' p' → 1 ≤ m → m ≤ nrem → Sg r p' lo m → Q (some m) st') : wpS (model prog w) A E s (cTail lo m nrem) Q st' := by
  unfold cTail
  have ln := R.len
  refine wpS_bind (wpS_rev R.arr (by omega) fun p2 pm g => ?_)
  have R2 := R.set pm fun k hk => by rw [g k, if_neg (by omega)]
  have ln2 := R2.len
  refine wpS_bind (wpS_asc L (R2.kind.trans hk) R2.arr (fun x hx => hp x (R2.perm.mem_iff.mp hx)) (by omega) h1 hm (fun i j hij hj => ?_) fun m' m1 m2 sg _ => ?_)
  · unfold kv
    rw [g, g, if_pos (by omega), if_pos (by omega)]
    have := hf (m - 1 - j) (m - 1 - i) (by omega) (by omega)
    unfold kv at this
    rw [show lo + (lo + m) - 1 - (lo + i) = lo + (m - 1 - i) by omega, show lo + (lo + m) - 1 - (lo + j) = lo + (m - 1 - j) by omega]
    exact this
  · exact wpS_pure (h m' p2 _ R2 (by omega) m2 sg)
theorem wpS_cRest {Q : Option Nat → SortSt → Prop} (L : LtOk prog w A E s f r n κ) (hk : kindOf st = κ) (hp : ∀ x ∈ p, x < n) (hl : lo + nrem ≤ p.length) (R : RunS f st lo p st' p') {m : Nat} (h1 : 1 ≤ m) (hm : m < nrem) (hf : Fl r p' lo (m + 1))
    (h : ∀ m p' st', RunS f st lo p st' p' → 1 ≤ m → m ≤ nrem → Sg r p' lo m → Q (some m) st') : wpS (model prog w) A E s (cRest lo m nrem) Q st' := by
  unfold cRest
  refine wpS_bind (wpS_lift (wpAny_rule ⟨rfl, ?_⟩))
  refine wpS_bind (wpS_mono (wpS_forRange (I := fun x c st2 => ∃ p2 q, c = (none, x, q) ∧ RunS f st lo p st2 p2 ∧ q + 1 ≤ x ∧ Fl r p2 lo x ∧ Lv r p2 lo (x - (q + 1)) x)
    (Q := fun c st2 => ∃ p2 x q, c = (none, x, q) ∧ RunS f st lo p st2 p2 ∧ q + 1 ≤ x ∧ x ≤ nrem ∧ Fl r p2 lo x ∧ Lv r p2 lo (x - (q + 1)) x) ?step ?fin ⟨p', 0, rfl, R, by omega, hf, fun k z1 z2 => by rw [show lo + k = lo + (m + 1) - 1 by omega]⟩) ?post)
  case fin =>
    rintro c st2 ⟨p2, q, rfl, z1, z2, z3, z4⟩
    rw [Nat.max_eq_right (by omega)] at *
    exact ⟨p2, _, q, rfl, z1, z2, Nat.le_refl _, z3, z4⟩
  case post =>
    rintro c st2 ⟨p2, x, q, rfl, z1, z2, z3, z4, z5⟩
    dsimp only
    have ln := z1.len
    by_cases c : q > 0
    · refine wpS_ite_pos c (wpS_bind (wpS_rev z1.arr (by omega) fun p3 pm g => ?_))
      have ev := kv_lev (r := r) z5 (by omega) rfl g
      refine wpS_cTail L hk hp hl (z1.set pm fun k hk => by rw [g k, if_neg (by omega)]) (by omega) z3 (fun i j hij hj => ?_) h
      rw [ev, ev]; exact z4 i j hij hj
    · exact wpS_ite_neg c (wpS_cTail L hk hp hl z1 (by omega) z3 z4 h)
  case step =>
    rintro x c st2 hx1 hx ⟨p2, q, rfl, z1, z2, z3, z4⟩
    have ln := z1.len
    have hp2 : ∀ y ∈ p2, y < n := fun y hy => hp y (z1.perm.mem_iff.mp hy)
    unfold cDown
    dsimp only
    refine wpS_bind (wpS_ltA L (z1.kind.trans hk) z1.arr hp2 (by omega) (by omega) ?_)
    dsimp only
    have fl1 : kv r p2 (lo + x) ≤ kv r p2 (lo + x - 1) → Fl r p2 lo (x + 1) := fun le i j hij hj => by
      by_cases c : j = x
      · by_cases c2 : i = x
        · rw [c, c2]; exact Int.le_refl _
        · have := z3 i (x - 1) (by omega) (by omega)
          rw [show lo + (x - 1) = lo + x - 1 by omega] at this
          rw [c]; omega
      · exact z3 i j hij (by omega)
    have lv1 : ∀ p3, Lv r p3 lo (x + 1 - (0 + 1)) (x + 1) := fun p3 k y1 y2 => by rw [show lo + k = lo + (x + 1) - 1 by omega]
    by_cases lt : kv r p2 (lo + x) < kv r p2 (lo + x - 1)
    · refine wpS_ite_pos (decide_eq_true lt) ?_
      by_cases c : q > 0
      · refine wpS_ite_pos c (wpS_bind (wpS_rev z1.arr (by omega) fun p3 pm g => ?_))
        have ev := kv_lev (r := r) z4 (by omega) rfl g
        refine wpS_pure ⟨p3, 0, rfl, z1.set pm fun k hk => by rw [g k, if_neg (by omega)], by omega, fun i j hij hj => ?_, lv1 p3⟩
        rw [ev, ev]; exact fl1 (by omega) i j hij hj
      · exact wpS_ite_neg c (wpS_pure ⟨p2, 0, rfl, z1, by omega, fl1 (by omega), lv1 p2⟩)
    · refine wpS_ite_neg (by rw [decide_eq_false lt]; exact Bool.false_ne_true) ?_
      refine wpS_bind (wpS_ltA L (z1.kind.trans hk) z1.arr hp2 (by omega) (by omega) ?_)
      dsimp only
      by_cases gt : kv r p2 (lo + x - 1) < kv r p2 (lo + x)
      · exact wpS_ite_pos (decide_eq_true gt) (wpS_pure ⟨p2, x, q, rfl, z1, z2, by omega, z3, z4⟩)
      · refine wpS_ite_neg (by rw [decide_eq_false gt]; exact Bool.false_ne_true) (wpS_pure ⟨p2, q + 1, rfl, z1, by omega, fl1 (by omega), fun k y1 y2 => ?_⟩)
        rw [show lo + (x + 1) - 1 = lo + x by omega]
        by_cases y : k = x
        · rw [y]
        · have := z4 k (by omega) (by omega)
          omega
theorem wpS_countL {Q : Option Nat → SortSt → Prop} (L : LtOk prog w A E s f r n κ) (hk : kindOf st = κ) (ha : arrOf st = ar f p) (hp : ∀ x ∈ p, x < n) (hl : lo + nrem ≤ p.length) (h1 : 1 ≤ nrem)
    (h : ∀ m p' st', RunS f st lo p st' p' → 1 ≤ m → m ≤ nrem → Sg r p' lo m → Q (some m) st') : wpS (model prog w) A E s (countRun' lo nrem) Q st := by
  have R0 : RunS f st lo p st p := ⟨rfl, rfl, rfl, ha, List.Perm.refl _, fun _ _ => rfl⟩
  rw [countRun'_eq]
  refine wpS_bind (wpS_asc (m := 1) L hk ha hp hl (Nat.le_refl _) h1 (fun i j hij hj => by rw [show i = j by omega]; exact Int.le_refl _) fun m m1 m2 sg lt => ?_)
  dsimp only
  by_cases c : m = nrem
  · exact wpS_ite_pos (by simpa using c) (wpS_pure (h m p st R0 m1 m2 sg))
  refine wpS_ite_neg (by simpa using c) ?_
  have lt := lt (by omega)
  by_cases c1 : m > 1
  · refine wpS_ite_pos c1 ?_
    refine wpS_bind (wpS_ltA L hk ha hp (by omega) (by omega) ?_)
    dsimp only
    by_cases ro : kv r p lo < kv r p (lo + m - 1)
    · exact wpS_ite_pos (decide_eq_true ro) (wpS_pure (h m p st R0 m1 m2 sg))
    · refine wpS_ite_neg (by rw [decide_eq_false ro]; exact Bool.false_ne_true) ?_
      have lv : Lv r p lo 0 m := fun k y1 y2 => by
        have a1 := sg 0 k (by omega) y2
        have a2 := sg k (m - 1) (by omega) (by omega)
        rw [show lo + (m - 1) = lo + m - 1 by omega] at a2
        rw [Nat.add_zero] at a1
        omega
      refine wpS_bind (wpS_rev ha (by omega) fun p2 pm g => ?_)
      have ev := kv_lev (r := r) lv (by omega) rfl g
      refine wpS_congr (y := cRest lo m nrem) (by
        unfold cRest
        congr 1
        funext u
        congr 1
        funext c
        obtain ⟨c1, c2, c3⟩ := c
        cases c1 with
        | some r => rfl
        | none =>
          dsimp only
          unfold cTail
          split
          · congr 1; funext v; congr 1; funext v2; congr 1; funext c4; obtain ⟨a, b⟩ := c4; cases a <;> rfl
          · congr 1; funext v2; congr 1; funext c4; obtain ⟨a, b⟩ := c4; cases a <;> rfl) (wpS_cRest L hk hp hl (R0.set pm fun k hk => by rw [g k, if_neg (by omega)]) m1 (by omega) (fun i j hij hj => ?_) h)
      rw [ev, ev]
      by_cases y : j = m
      · by_cases y2 : i = m
        · rw [y, y2]; exact Int.le_refl _
        · have := lv i (by omega) (by omega)
          rw [y]; omega
      · have a1 := lv i (by omega) (by omega)
        have a2 := lv j (by omega) (by omega)
        omega
  · refine wpS_ite_neg c1 ?_
    refine wpS_congr (y := cRest lo m nrem) (by
        unfold cRest
        congr 1
        funext u
        congr 1
        funext c
        obtain ⟨c1, c2, c3⟩ := c
        cases c1 with
        | some r => rfl
        | none =>
          dsimp only
          unfold cTail
          split
          · congr 1; funext v; congr 1; funext v2; congr 1; funext c4; obtain ⟨a, b⟩ := c4; cases a <;> rfl
          · congr 1; funext v2; congr 1; funext c4; obtain ⟨a, b⟩ := c4; cases a <;> rfl) (wpS_cRest L hk hp hl R0 m1 (by omega) (fun i j hij hj => ?_) h)
    by_cases y : i = j
    · rw [y]; exact Int.le_refl _
    · rw [show i = 0 by omega, show j = m by omega, Nat.add_zero]
      rw [show lo + m - 1 = lo by omega] at lt
      exact Int.le_of_lt lt
end
end
end L2
namespace L2
open PySem PySem.W PyProof.Rows
section
variable {prog : Program} {w : World} {A : Around} {E : Value → Shared → Prop} {s : Shared} {f : Nat → Keyed} {r : Nat → Int} {n : Nat} {κ : SortKind}
variable {p : List Nat} {lo : Nat} {st st' : SortSt} {p' : List Nat}
theorem wpS_binL {Q : Bool → SortSt → Prop} {m ok : Nat} (L : LtOk prog w A E s f r n κ) (hk : kindOf st = κ) (hp : ∀ x ∈ p, x < n) (hl : lo + m ≤ p.length) (R : RunS f st lo p st' p') (h1 : 1 ≤ m) (hm : ok ≤ m) (hs : Sg r p' lo ok)
    (h : ∀ p' st', RunS f st lo p st' p' → Sg r p' lo m → Q true st') : wpS (model prog w) A E s (binarySort' lo m ok) Q st' := by
  rw [binarySort'_eq]
  refine wpS_bind (wpS_mono (wpS_forRange (I := fun k c st2 => c = (none, ()) ∧ ∃ p2, RunS f st lo p st2 p2 ∧ Sg r p2 lo k) (Q := fun c st2 => c = (none, ()) ∧ ∃ p2, RunS f st lo p st2 p2 ∧ Sg r p2 lo m) ?step ?fin ⟨rfl, p', R, fun i j hij hj => ?init⟩) ?post)
  case init =>
    by_cases c : j < ok
    · exact hs i j hij c
    · rw [show i = j by omega]; exact Int.le_refl _
  case fin =>
    rintro c st2 ⟨rfl, p2, R2, sg⟩
    rw [show max (max ok 1) m = m by omega] at sg
    exact ⟨rfl, p2, R2, sg⟩
  case post =>
    rintro c st2 ⟨rfl, p2, R2, sg⟩
    exact wpS_pure (h p2 st2 R2 sg)
  case step =>
    rintro k c st2 hk1 hk2 ⟨rfl, p2, R2, sg⟩
    have ln := R2.len
    have hp2 : ∀ y ∈ p2, y < n := fun y hy => hp y (R2.perm.mem_iff.mp hy)
    refine wpS_bind (wpS_mono (wpS_forRange (I := fun x c st3 => st3 = st2 ∧ ∃ l u, c = (none, l, u) ∧ l ≤ u ∧ u ≤ k ∧ (∀ i, i < l → kv r p2 (lo + i) ≤ kv r p2 (lo + k)) ∧ (∀ i, u ≤ i → i < k → kv r p2 (lo + k) < kv r p2 (lo + i)) ∧ (u - l) + x ≤ k)
      (Q := fun c st3 => st3 = st2 ∧ ∃ l u, c = (none, l, u) ∧ l = u ∧ u ≤ k ∧ (∀ i, i < l → kv r p2 (lo + i) ≤ kv r p2 (lo + k)) ∧ (∀ i, u ≤ i → i < k → kv r p2 (lo + k) < kv r p2 (lo + i))) ?step2 ?fin2 ⟨rfl, 0, k, rfl, by omega, by omega, fun i z => absurd z (by omega), fun i z1 z2 => absurd z1 (by omega), by omega⟩) ?post2)
    case fin2 =>
      rintro c st3 ⟨rfl, l, u, rfl, z1, z2, z3, z4, z5⟩
      exact ⟨rfl, l, u, rfl, by omega, z2, z3, z4⟩
    case step2 =>
      rintro x c st3 _ hx ⟨rfl, l, u, rfl, z1, z2, z3, z4, z5⟩
      dsimp only
      by_cases c : l ≥ u
      · exact wpS_ite_pos c (wpS_pure ⟨rfl, l, u, rfl, by omega, z2, z3, z4⟩)
      · refine wpS_ite_neg c (wpS_bind (wpS_ltA L (R2.kind.trans hk) R2.arr hp2 (by omega) (by omega) ?_))
        dsimp only
        by_cases lt : kv r p2 (lo + k) < kv r p2 (lo + (l + u) / 2)
        · refine wpS_ite_pos (decide_eq_true lt) (wpS_pure ⟨rfl, l, _, rfl, by omega, by omega, z3, fun i y1 y2 => ?_, by omega⟩)
          have := sg ((l + u) / 2) i y1 y2
          omega
        · refine wpS_ite_neg (by rw [decide_eq_false lt]; exact Bool.false_ne_true) (wpS_pure ⟨rfl, _, u, rfl, by omega, z2, fun i y => ?_, z4, by omega⟩)
          have := sg i ((l + u) / 2) (by omega) (by omega)
          omega
    case post2 =>
      rintro c st3 ⟨rfl, l, u, rfl, z1, z2, z3, z4⟩
      subst z1
      dsimp only
      rw [moveDown'_eq]
      refine wpS_bind (wpS_modify (wpS_pure ⟨rfl, ?_⟩))
      rw [R2.arr, show lo + k - (lo + l) = k - l by omega]
      obtain ⟨p3, e, pm, g⟩ := bubble_ar (f := f) (p := p2) (src := lo + k) (d := k - l) (by omega) (by omega)
      rw [e]
      rw [show lo + k - (k - l) = lo + l by omega] at g
      refine ⟨p3, R2.set pm fun j hj => by rw [g j, if_neg (by omega), if_neg (by omega)], fun i j hij hj => ?_⟩
      have vl : ∀ i, i < l → kv r p3 (lo + i) = kv r p2 (lo + i) := fun i hi => by
        unfold kv; rw [g, if_neg (by omega), if_neg (by omega)]
      have vm : kv r p3 (lo + l) = kv r p2 (lo + k) := by
        unfold kv; rw [g, if_pos rfl]
      have vg : ∀ i, l < i → i ≤ k → kv r p3 (lo + i) = kv r p2 (lo + (i - 1)) := fun i hi hi2 => by
        unfold kv; rw [g, if_neg (by omega), if_pos (by omega), show lo + i - 1 = lo + (i - 1) by omega]
      by_cases ci : i < l
      · rw [vl i ci]
        by_cases cj : j < l
        · rw [vl j cj]; exact sg i j hij (by omega)
        · by_cases cj2 : j = l
          · rw [cj2, vm]; exact z3 i ci
          · rw [vg j (by omega) (by omega)]; exact sg i (j - 1) (by omega) (by omega)
      · by_cases ci2 : i = l
        · rw [ci2, vm]
          by_cases cj2 : j = l
          · rw [cj2, vm]; exact Int.le_refl _
          · rw [vg j (by omega) (by omega)]; exact Int.le_of_lt (z4 _ (by omega) (by omega))
        · rw [vg i (by omega) (by omega), vg j (by omega) (by omega)]
          exact sg _ _ (by omega) (by omega)
end
theorem mergeAt'_eq (i : Nat) : mergeAt' i = (do
  let s ← get
  let (some (sa, na, power), some (sb, nb, _)) := ((pendingOf s)[i]?, (pendingOf s)[i + 1]?) | unsupported "internal:list.sort.pending"
  set (setPending s (((pendingOf s).setIfInBounds i (sa, na + nb, power)).eraseIdxIfInBounds (i + 1)))
  let some k ← gallop' false (← elem' (arrOf s) sb) (arrOf s) sa na 0 | return false
  let (sa, na) := (sa + k, na - k)
  if na == 0 then return true
  let some nb ← gallop' true (← elem' (arrOf s) (sa + na - 1)) (arrOf s) sb nb (nb - 1) | return false
  if nb == 0 then return true
  let x := (arrOf s).extract sa sb
  let y := (arrOf s).extract sb (sb + nb)
  let merged ← if na ≤ nb then mergeLo' x y else mergeHi' x y
  modify fun s => setArr s (merged.toList.zipIdx.foldl (fun a (p, j) => a.setIfInBounds (sa + j) p) (arrOf s))
  return (failedOf (← get)).isNone) := rfl
section
variable {prog : Program} {w : World} {A : Around} {E : Value → Shared → Prop} {s : Shared} {f : Nat → Keyed} {r : Nat → Int} {n : Nat} {κ : SortKind} {p : List Nat} {st : SortSt}
noncomputable abbrev sgl (p : List Nat) (lo m : Nat) : List Nat := (p.drop lo).take m
theorem sgl_len {lo m : Nat} (h : lo + m ≤ p.length) : (sgl p lo m).length = m := by simp; omega
theorem sgl_at {lo m i : Nat} (h : lo + m ≤ p.length) (hi : i < m) : (sgl p lo m).getD i 0 = p.getD (lo + i) 0 := by
  simp [List.getElem?_take, hi]
theorem sg_list {lo m : Nat} (h : lo + m ≤ p.length) : Sg r p lo m ↔ SrtL r (sgl p lo m) := by
  constructor
  · intro sg
    refine List.pairwise_iff_getElem.mpr fun i j hi hj hij => ?_
    rw [sgl_len h] at hi hj
    have := sg i j (by omega) hj
    unfold kv at this
    rw [← sgl_at h hi, ← sgl_at h hj] at this
    simpa [hi, hj, sgl_len h] using this
  · intro sr i j hij hj
    unfold kv
    rw [← sgl_at h (by omega : i < m), ← sgl_at h hj]
    exact sr.at_ hij (by rw [sgl_len h]; exact hj)
theorem sgl_split {lo a b : Nat} : sgl p lo (a + b) = sgl p lo a ++ sgl p (lo + a) b := by
  unfold sgl
  rw [List.take_add, List.drop_drop]
theorem sgl_mem {lo m x : Nat} (h : lo + m ≤ p.length) (hx : x ∈ sgl p lo m) : ∃ i, i < m ∧ x = p.getD (lo + i) 0 := by
  obtain ⟨i, hi, e⟩ := List.mem_iff_getElem.mp hx
  rw [sgl_len h] at hi
  refine ⟨i, hi, ?_⟩
  rw [← sgl_at h hi, ← e]
  simp [hi, sgl_len h]
theorem put_back (q : List Nat) : ∀ (po p : List Nat) (a j : Nat), a + j + po.length ≤ p.length →
    ((po.map f).zipIdx j).foldl (fun (x : Array Keyed) (y : Keyed × Nat) => x.setIfInBounds (a + y.2) y.1) (ar f p) = ar f (p.take (a + j) ++ po ++ p.drop (a + j + po.length))
  | [], p, a, j, _ => by simp
  | x :: po, p, a, j, h => by
    rw [List.map_cons, List.zipIdx_cons, List.foldl_cons]
    have e : (ar f p).setIfInBounds (a + j) (f x) = ar f (p.set (a + j) x) := by
      unfold ar
      rw [List.setIfInBounds_toArray, List.map_set]
    rw [List.length_cons] at h
    dsimp only
    rw [e, put_back q po (p.set (a + j) x) a (j + 1) (by rw [List.length_set]; omega)]
    congr 1
    rw [List.length_cons, List.drop_set_of_lt (by omega), show a + (j + 1) = a + j + 1 by omega, List.take_set, show a + j + 1 + po.length = a + j + (po.length + 1) by omega]
    congr 1
    have h2 : a + j < p.length := by omega
    rw [show p.take (a + j + 1) = p.take (a + j) ++ [p[a + j]] by rw [List.take_append_getElem h2]]
    rw [List.set_append_right _ _ (by rw [List.length_take]; omega)]
    have : a + j - (p.take (a + j)).length = 0 := by rw [List.length_take]; omega
    rw [this]
    simp
end
end L2
namespace L2
open PySem PySem.W PyProof.Rows
section
variable {prog : Program} {w : World} {A : Around} {E : Value → Shared → Prop} {s : Shared} {f : Nat → Keyed} {r : Nat → Int} {n : Nat} {κ : SortKind} {p : List Nat} {st : SortSt}
theorem wpS_set {st2 : SortSt} {Q : PUnit → SortSt → Prop} (h : Q ⟨⟩ st2) : wpS (model prog w) A E s (set st2 : StateT SortSt Sem PUnit) Q st := by
  unfold wpS; rw [StateT.run_set]; exact wpAny_pure ⟨rfl, h⟩
theorem wpS_mergeAt {i sa na pw nb pw2 : Nat} {Q : Bool → SortSt → Prop} (L : LtOk prog w A E s f r n κ) (hk : PyProof.Rows.kindOf st = κ) (ha : arrOf st = ar f p) (hf : failedOf st = none) (hp : ∀ x ∈ p, x < n) (h1 : (pendingOf st)[i]? = some (sa, na, pw)) (h2 : (pendingOf st)[i + 1]? = some (sa + na, nb, pw2))
    (na0 : 0 < na) (nb0 : 0 < nb) (hl : sa + na + nb ≤ p.length) (s1 : Sg r p sa na) (s2 : Sg r p (sa + na) nb)
    (h : ∀ p' (st' : SortSt), PyProof.Rows.kindOf st' = PyProof.Rows.kindOf st → failedOf st' = none → pendingOf st' = ((pendingOf st).setIfInBounds i (sa, na + nb, pw)).eraseIdxIfInBounds (i + 1) → arrOf st' = ar f p' → p'.Perm p → (∀ k, (k < sa ∨ sa + na + nb ≤ k) → p'.getD k 0 = p.getD k 0) → Sg r p' sa (na + nb) → Q true st') :
    wpS (model prog w) A E s (mergeAt' i) Q st := by
  rw [mergeAt'_eq]
  refine wpS_bind (wpS_get ?_)
  rw [h1, h2]
  dsimp only
  refine wpS_bind (wpS_set ?_)
  rw [ha]
  generalize e1 : setPending st (((pendingOf st).setIfInBounds i (sa, na + nb, pw)).eraseIdxIfInBounds (i + 1)) = st1
  have k1 : PyProof.Rows.kindOf st1 = PyProof.Rows.kindOf st := by rw [← e1]
  have f1 : failedOf st1 = none := by rw [← e1]; exact hf
  have p1 : pendingOf st1 = ((pendingOf st).setIfInBounds i (sa, na + nb, pw)).eraseIdxIfInBounds (i + 1) := by rw [← e1]
  have a1 : arrOf st1 = ar f p := by rw [← e1]; exact ha
  refine wpS_bind (wpS_elem (by omega) ?_)
  refine wpS_bind (wpS_galS (left := false) L (k1.trans hk) hp (hp _ (mem_getD (by omega))) s1 (by omega) na0 fun k kk k2 k3 => ?_)
  have k2 : ∀ i, i < k → kv r p (sa + i) ≤ kv r p (sa + na) := fun i hi => by have := k2 i hi; rw [if_neg Bool.false_ne_true] at this; exact this
  have k3 : ∀ i, k ≤ i → i < na → kv r p (sa + na) < kv r p (sa + i) := fun i hi hi2 => by have := k3 i hi hi2; rw [if_neg Bool.false_ne_true] at this; exact this
  dsimp only
  by_cases c1 : na - k = 0
  · refine wpS_ite_pos (by simpa using c1) (wpS_pure (h p st1 k1 f1 p1 a1 (List.Perm.refl _) (fun _ _ => rfl) fun i j hij hj => ?_))
    by_cases cj : j < na
    · exact s1 i j hij cj
    · have b1 := s2 0 (j - na) (by omega) (by omega)
      rw [Nat.add_zero, show sa + na + (j - na) = sa + j by omega] at b1
      by_cases ci : i < na
      · have := k2 i (by omega); omega
      · have b2 := s2 (i - na) (j - na) (by omega) (by omega)
        rw [show sa + na + (j - na) = sa + j by omega, show sa + na + (i - na) = sa + i by omega] at b2
        exact b2
  refine wpS_ite_neg (by simpa using c1) ?_
  refine wpS_bind (wpS_elem (by omega) ?_)
  have ek : sa + k + (na - k) - 1 = sa + (na - 1) := by omega
  rw [ek]
  refine wpS_bind (wpS_galS (left := true) L (k1.trans hk) hp (hp _ (mem_getD (by omega))) s2 (by omega) (by omega) fun m mm m2 m3 => ?_)
  have m2 : ∀ i, i < m → kv r p (sa + na + i) < kv r p (sa + (na - 1)) := fun i hi => by have := m2 i hi; rw [if_pos rfl] at this; exact this
  have m3 : ∀ i, m ≤ i → i < nb → kv r p (sa + (na - 1)) ≤ kv r p (sa + na + i) := fun i hi hi2 => by have := m3 i hi hi2; rw [if_pos rfl] at this; exact this
  dsimp only
  by_cases c2 : m = 0
  · have := m3 0 (by omega) nb0
    have := k3 (na - 1) (by omega) (by omega)
    rw [Nat.add_zero] at *
    omega
  refine wpS_ite_neg (by simpa using c2) ?_
  rw [ar_ext, ar_ext, show sa + na - (sa + k) = na - k by omega, show sa + na + m - (sa + na) = m by omega]
  have lpa := sgl_len (p := p) (lo := sa + k) (m := na - k) (by omega)
  have lpb := sgl_len (p := p) (lo := sa + na) (m := m) (by omega)
  have srA : SrtL r (sgl p (sa + k) (na - k)) := (sg_list (by omega)).mp fun i j hij hj => by
    have := s1 (k + i) (k + j) (by omega) (by omega)
    rw [← Nat.add_assoc, ← Nat.add_assoc] at this
    exact this
  have srB : SrtL r (sgl p (sa + na) m) := (sg_list (by omega)).mp fun i j hij hj => s2 i j hij (by omega)
  have inA : ∀ x ∈ sgl p (sa + k) (na - k), ∃ i, k ≤ i ∧ i < na ∧ x = p.getD (sa + i) 0 := fun x hx => by
    obtain ⟨i, hi, e⟩ := sgl_mem (by omega) hx
    exact ⟨k + i, by omega, by omega, by rw [e, Nat.add_assoc]⟩
  have inB : ∀ x ∈ sgl p (sa + na) m, ∃ i, i < m ∧ x = p.getD (sa + na + i) 0 := fun x hx => sgl_mem (by omega) hx
  have fin : ∀ po st', po.Perm (sgl p (sa + k) (na - k) ++ sgl p (sa + na) m) → SrtL r po → SameS st1 st' → wpS (model prog w) A E s (do
      modify fun s => setArr s ((ar f po).toList.zipIdx.foldl (fun a (p, j) => a.setIfInBounds (sa + k + j) p) (arrOf s))
      return (failedOf (← get)).isNone) Q st' := by
    intro po st' pm sr same
    have lpo : po.length = na - k + m := by
      have := pm.length_eq
      rw [List.length_append, lpa, lpb] at this
      exact this
    refine wpS_bind (wpS_modify (wpS_bind (wpS_get ?_)))
    have pb := put_back (f := f) [] po p (sa + k) 0 (by omega)
    rw [Nat.add_zero] at pb
    have ep : (ar f po).toList.zipIdx = (po.map f).zipIdx 0 := rfl
    rw [same.arr, a1, ep, pb]
    have ef : (failedOf (setArr st' (ar f (p.take (sa + k) ++ po ++ p.drop (sa + k + po.length))))).isNone = true := by
      show (failedOf st').isNone = true
      rw [same.fail, f1]; rfl
    rw [ef]
    refine wpS_pure (h _ _ (same.kind.trans k1) (same.fail.trans f1) (same.pend.trans p1) rfl ?_ ?_ ?_)
    · have e2 : p = p.take (sa + k) ++ (sgl p (sa + k) (na - k) ++ sgl p (sa + na) m) ++ p.drop (sa + k + po.length) := by
        have e3 : sgl p (sa + k) (na - k) ++ sgl p (sa + na) m = sgl p (sa + k) (na - k + m) := by
          rw [sgl_split, show sa + k + (na - k) = sa + na by omega]
        rw [e3, lpo, List.append_assoc, ← List.drop_drop, List.take_append_drop, List.take_append_drop]
      conv => rhs; rw [e2]
      exact (List.Perm.append_left _ pm).append_right _
    · intro j hj
      rcases hj with hj | hj
      · rw [List.getD_eq_getElem?_getD, List.append_assoc, List.getElem?_append_left (by rw [List.length_take]; omega), List.getElem?_take, if_pos (by omega), ← List.getD_eq_getElem?_getD]
      · rw [List.getD_eq_getElem?_getD, List.getElem?_append_right (by rw [List.length_append, List.length_take]; omega), List.getElem?_drop, ← List.getD_eq_getElem?_getD]
        congr 1
        rw [List.length_append, List.length_take]
        omega
    · have lt3 : sa + (na + nb) ≤ (p.take (sa + k) ++ po ++ p.drop (sa + k + po.length)).length := by
        simp only [List.length_append, List.length_take, List.length_drop]; omega
      rw [sg_list lt3]
      have e4 : sgl (p.take (sa + k) ++ po ++ p.drop (sa + k + po.length)) sa (na + nb) = sgl p sa k ++ po ++ sgl p (sa + na + m) (nb - m) := by
        unfold sgl
        rw [List.append_assoc, List.drop_append_of_le_length (by rw [List.length_take]; omega), List.drop_take, show sa + k - sa = k by omega, ← List.append_assoc, List.take_append, List.take_of_length_le (by simp only [List.length_append, List.length_take, List.length_drop]; omega)]
        congr 1
        simp only [List.length_append, List.length_take, List.length_drop]
        rw [show sa + k + po.length = sa + na + m by omega]
        congr 1
        omega
      rw [e4]
      have poLe : ∀ x ∈ po, (∃ i, k ≤ i ∧ i < na ∧ x = p.getD (sa + i) 0) ∨ ∃ i, i < m ∧ x = p.getD (sa + na + i) 0 := fun x hx => by
        rcases List.mem_append.mp (pm.mem_iff.mp hx) with y | y
        · exact .inl (inA x y)
        · exact .inr (inB x y)
      refine (SrtL.app ((sg_list (by omega)).mp fun i j hij hj => s1 i j hij (by omega)) sr fun x hx y hy => ?_).app ((sg_list (by omega)).mp fun i j hij hj => ?_) fun x hx y hy => ?_
      · obtain ⟨i, hi, rfl⟩ := sgl_mem (by omega) hx
        rcases poLe y hy with ⟨j, j1, j2, rfl⟩ | ⟨j, j1, rfl⟩
        · exact s1 i j (by omega) j2
        · have b1 := k2 i hi
          have b2 := s2 0 j (by omega) (by omega)
          rw [Nat.add_zero] at b2
          exact Int.le_trans b1 b2
      · have := s2 (m + i) (m + j) (by omega) (by omega)
        rw [← Nat.add_assoc, ← Nat.add_assoc] at this
        exact this
      · obtain ⟨j, hj, rfl⟩ := sgl_mem (by omega) hy
        have b0 := m3 (m + j) (by omega) (by omega)
        rw [← Nat.add_assoc] at b0
        rcases List.mem_append.mp hx with hx | hx
        · obtain ⟨i, hi, rfl⟩ := sgl_mem (by omega) hx
          have b1 := s1 i (na - 1) (by omega) (by omega)
          exact Int.le_trans b1 b0
        · rcases poLe x hx with ⟨i, i1, i2, rfl⟩ | ⟨i, i1, rfl⟩
          · exact Int.le_trans (s1 i (na - 1) (by omega) (by omega)) b0
          · exact Int.le_trans (Int.le_of_lt (m2 i i1)) b0
  by_cases c3 : na - k ≤ m
  · refine wpS_ite_pos c3 (wpS_bind <| wpS_mergeLo ⟨L, fun x hx => ?_, fun x hx => ?_, srA, srB, fun y hy => ?_⟩ (k1.trans hk) (by rw [lpa]; omega) (by rw [lpb]; omega) ?_ fin)
    · obtain ⟨i, _, _, rfl⟩ := inA x hx; exact hp _ (mem_getD (by omega))
    · obtain ⟨i, _, rfl⟩ := inB x hx; exact hp _ (mem_getD (by omega))
    · obtain ⟨i, hi, rfl⟩ := inB y hy
      rw [lpa, sgl_at (by omega) (by omega), show sa + k + (na - k - 1) = sa + (na - 1) by omega]
      exact Int.le_of_lt (m2 i hi)
    · rw [sgl_at (by omega) (by omega), sgl_at (by omega) (by omega), Nat.add_zero, Nat.add_zero]
      exact Int.le_of_lt (k3 k (by omega) (by omega))
  · refine wpS_ite_neg c3 (wpS_bind <| wpS_mergeHi ⟨L, fun x hx => ?_, fun x hx => ?_, srA, srB, fun y hy => ?_⟩ (k1.trans hk) (by rw [lpa]; omega) (by rw [lpb]; omega) ?_ fin)
    · obtain ⟨i, _, _, rfl⟩ := inA x hx; exact hp _ (mem_getD (by omega))
    · obtain ⟨i, _, rfl⟩ := inB x hx; exact hp _ (mem_getD (by omega))
    · obtain ⟨i, hi, hi2, rfl⟩ := inA y hy
      rw [sgl_at (by omega) (by omega), Nat.add_zero]
      exact Int.le_of_lt (k3 i hi hi2)
    · rw [lpa, lpb, sgl_at (by omega) (by omega), sgl_at (by omega) (by omega), show sa + k + (na - k - 1) = sa + (na - 1) by omega]
      exact Int.le_of_lt (m2 (m - 1) (by omega))
end
end L2
namespace L2
open PySem PySem.W PyProof.Rows
section
variable {prog : Program} {w : World} {A : Around} {E : Value → Shared → Prop} {s : Shared} {f : Nat → Keyed} {r : Nat → Int} {n : Nat} {κ : SortKind} {p p' p0 : List Nat} {st : SortSt}
noncomputable def RunsL (r : Nat → Int) (p : List Nat) : Nat → List (Nat × Nat × Nat) → Nat → Prop
  | a, [], b => a = b
  | a, x :: l, b => x.1 = a ∧ 0 < x.2.1 ∧ Sg r p a x.2.1 ∧ RunsL r p (a + x.2.1) l b
theorem RunsL.len : ∀ {a b : Nat} {l : List (Nat × Nat × Nat)}, RunsL r p a l b → a + l.length ≤ b
  | a, b, [], h => by have : a = b := h; simp; omega
  | a, b, x :: l, ⟨_, h1, _, h2⟩ => by have := h2.len; simp; omega
theorem RunsL.app : ∀ {a c : Nat} {l m : List (Nat × Nat × Nat)}, RunsL r p a (l ++ m) c ↔ ∃ b, RunsL r p a l b ∧ RunsL r p b m c
  | a, c, [], m => ⟨fun h => ⟨a, rfl, h⟩, fun ⟨b, h1, h2⟩ => by have : a = b := h1; subst this; exact h2⟩
  | a, c, x :: l, m => by
    constructor
    · rintro ⟨h1, h2, h3, h4⟩
      obtain ⟨b, h5, h6⟩ := RunsL.app.mp h4
      exact ⟨b, ⟨h1, h2, h3, h5⟩, h6⟩
    · rintro ⟨b, ⟨h1, h2, h3, h4⟩, h5⟩
      exact ⟨h1, h2, h3, RunsL.app.mpr ⟨b, h4, h5⟩⟩
theorem Sg.congr {a m : Nat} (e : ∀ k, a ≤ k → k < a + m → p'.getD k 0 = p.getD k 0) (h : Sg r p a m) : Sg r p' a m := fun i j hij hj => by
  unfold kv
  rw [e _ (by omega) (by omega), e _ (by omega) (by omega)]
  exact h i j hij hj
theorem RunsL.congr : ∀ {a b : Nat} {l : List (Nat × Nat × Nat)}, (∀ k, a ≤ k → k < b → p'.getD k 0 = p.getD k 0) → RunsL r p a l b → RunsL r p' a l b
  | a, b, [], _, h => h
  | a, b, x :: l, e, ⟨h1, h2, h3, h4⟩ => by
    have := h4.len
    exact ⟨h1, h2, h3.congr fun k k1 k2 => e k k1 (by omega), h4.congr fun k k1 k2 => e k (by omega) k2⟩
structure GS (f : Nat → Keyed) (r : Nat → Int) (κ : SortKind) (p0 : List Nat) (lo : Nat) (st : SortSt) (p : List Nat) : Prop where
  kind : PyProof.Rows.kindOf st = κ
  fail : failedOf st = none
  arr : arrOf st = ar f p
  perm : p.Perm p0
  runs : RunsL r p 0 (pendingOf st).toList lo
theorem GS.len {lo : Nat} (h : GS f r κ p0 lo st p) : p.length = p0.length := h.perm.length_eq
theorem split_at {α : Type} : ∀ {l : List α} {i : Nat} {x y : α}, l[i]? = some x → l[i + 1]? = some y → ∃ X Z, l = X ++ x :: y :: Z ∧ X.length = i
  | [], i, x, y, h, _ => by simp at h
  | a :: l, 0, x, y, h, h2 => by
    have e1 : a = x := by simpa using h
    cases l with
    | nil => simp at h2
    | cons b l =>
      have e2 : b = y := by simpa using h2
      exact ⟨[], l, by rw [e1, e2]; rfl, rfl⟩
  | a :: l, i + 1, x, y, h, h2 => by
    obtain ⟨X, Z, e, hX⟩ := split_at (l := l) (i := i) (by simpa using h) (by simpa using h2)
    exact ⟨a :: X, Z, by rw [e]; rfl, by simp [hX]⟩
theorem wpS_mergeG {i lo : Nat} {Q : Bool → SortSt → Prop} (L : LtOk prog w A E s f r n κ) (hp : ∀ x ∈ p0, x < n) (G : GS f r κ p0 lo st p) (hlo : lo ≤ p0.length) (hi : i + 1 < (pendingOf st).size)
    (h : ∀ p' st', GS f r κ p0 lo st' p' → (pendingOf st').size + 1 = (pendingOf st).size → (∀ k, lo ≤ k → p'.getD k 0 = p.getD k 0) → Q true st') : wpS (model prog w) A E s (mergeAt' i) Q st := by
  have hp' : ∀ x ∈ p, x < n := fun x hx => hp x (G.perm.mem_iff.mp hx)
  have gl := G.len
  obtain ⟨⟨sa, na, pw⟩, e1⟩ : ∃ x, (pendingOf st)[i]? = some x := ⟨_, getElem?_pos _ i (by omega)⟩
  obtain ⟨⟨sb, nb, pw2⟩, e2⟩ : ∃ x, (pendingOf st)[i + 1]? = some x := ⟨_, getElem?_pos _ (i + 1) hi⟩
  obtain ⟨X, Z, eL, lX⟩ := split_at (l := (pendingOf st).toList) (i := i) (by rw [Array.getElem?_toList]; exact e1) (by rw [Array.getElem?_toList]; exact e2)
  have R := G.runs
  rw [eL] at R
  obtain ⟨a, R1, ⟨h1, h2, h3, h4, h5, h6, R2⟩⟩ := RunsL.app.mp R
  dsimp only at h1 h2 h3 h4 h5 h6 R2
  subst h1
  subst h4
  have len2 := R2.len
  refine wpS_mergeAt L G.kind G.arr G.fail hp' e1 e2 h2 h5 (by omega) h3 h6 fun p' st' k' f' pd' a' pm out sg => ?_
  have eP : (pendingOf st').toList = X ++ (sa, na + nb, pw) :: Z := by
    rw [pd', Array.toList_eraseIdxIfInBounds, Array.toList_setIfInBounds, eL, ← lX, List.set_append_right _ _ (Nat.le_refl _), Nat.sub_self, List.set_cons_zero, List.eraseIdx_append_of_length_le (Nat.le_succ _), show X.length.succ - X.length = 1 by omega]
    rfl
  refine h p' st' ⟨k'.trans G.kind, f', a', pm.trans G.perm, ?_⟩ ?_ fun k hk => out k (.inr (by omega))
  · rw [eP]
    refine RunsL.app.mpr ⟨sa, R1.congr fun k _ k2 => out k (.inl k2), rfl, by show 0 < na + nb; omega, sg, ?_⟩
    show RunsL r p' (sa + (na + nb)) Z lo
    rw [← Nat.add_assoc]
    exact R2.congr fun k k1 _ => out k (.inr k1)
  · have c1 := congrArg List.length eP
    have c2 := congrArg List.length eL
    rw [List.length_append, List.length_cons, Array.length_toList] at c1
    rw [List.length_append, List.length_cons, List.length_cons, Array.length_toList] at c2
    omega
theorem RunsL.mod {g : Nat × Nat × Nat → Nat × Nat × Nat} (hg : ∀ x, (g x).1 = x.1 ∧ (g x).2.1 = x.2.1) : ∀ {l : List (Nat × Nat × Nat)} {a b j : Nat}, RunsL r p a l b → RunsL r p a (l.modify j g) b
  | [], a, b, j, h => by simpa using h
  | x :: l, a, b, 0, ⟨h1, h2, h3, h4⟩ => by
    rw [List.modify_zero_cons]
    exact ⟨(hg x).1.trans h1, by rw [(hg x).2]; exact h2, by rw [(hg x).2]; exact h3, by rw [(hg x).2]; exact h4⟩
  | x :: l, a, b, j + 1, ⟨h1, h2, h3, h4⟩ => by
    rw [List.modify_succ_cons]
    exact ⟨h1, h2, h3, RunsL.mod hg h4⟩
noncomputable def SrQ (f : Nat → Keyed) (r : Nat → Int) (κ : SortKind) (p0 : List Nat) (x : Nat) : ForInStep (Option Unit × Nat) → SortSt → Prop
  | .done c, st' => ∃ p, c = (none, p0.length) ∧ GS f r κ p0 p0.length st' p
  | .yield c, st' => ∃ p lo, c = (none, lo) ∧ GS f r κ p0 lo st' p ∧ lo ≤ p0.length ∧ x ≤ lo
theorem wpS_sortG {Q : Unit → SortSt → Prop} (L : LtOk prog w A E s f r n κ) (hp : ∀ x ∈ p0, x < n) (h2 : 2 ≤ p0.length) (hk : PyProof.Rows.kindOf st = κ) (hf : failedOf st = none) (hpd : pendingOf st = #[]) (ha : arrOf st = ar f p0)
    (h : ∀ p st', arrOf st' = ar f p → failedOf st' = none → p.Perm p0 → SrtL r p → Q () st') : wpS (model prog w) A E s sortRuns' Q st := by
  rw [sortRuns'_eq]
  refine wpS_bind (wpS_get ?_)
  rw [ha, ar_size]
  extract_lets size mr lo0
  refine wpS_bind (wpS_mono (wpS_forRange (I := fun x c st' => ∃ p lo, c = (none, lo) ∧ GS f r κ p0 lo st' p ∧ lo ≤ p0.length ∧ x ≤ lo)
    (Q := fun c st' => ∃ p, c = (none, p0.length) ∧ GS f r κ p0 p0.length st' p) ?step ?fin ?init) ?post)
  case init => exact ⟨p0, 0, rfl, ⟨hk, hf, ha, List.Perm.refl _, by rw [hpd]; rfl⟩, Nat.zero_le _, Nat.zero_le _⟩
  case fin =>
    rintro c st' ⟨p, lo, rfl, G, hlo, hx⟩
    have : lo = p0.length := by
      have : max 0 size = p0.length := Nat.zero_max _
      omega
    subst this
    exact ⟨p, rfl, G⟩
  case step =>
    rintro x c st' _ hx ⟨p, lo, rfl, G, hlo, hxl⟩
    refine wpS_mono (Q := SrQ f r κ p0 (x + 1)) ?_ (fun a st2 h => by cases a <;> exact h)
    show wpS _ _ _ _ (if lo ≥ p0.length then _ else _) _ _
    by_cases c : lo ≥ p0.length
    · refine wpS_ite_pos c (wpS_pure ?_)
      have : lo = p0.length := by omega
      subst this
      exact ⟨p, rfl, G⟩
    refine wpS_ite_neg c ?_
    have gl := G.len
    have hp' : ∀ y ∈ p, y < n := fun y hy => hp y (G.perm.mem_iff.mp hy)
    refine wpS_bind (wpS_countL L G.kind G.arr hp' (by show lo + (p0.length - lo) ≤ _; omega) (by show 1 ≤ p0.length - lo; omega) fun m p1 st1 R1 m1 m2 sg1 => ?_)
    have m2 : m ≤ p0.length - lo := m2
    dsimp -zeta only
    extract_lets m' jp force n2
    have hjp : ∀ m p2 st2, RunS f st' lo p st2 p2 → 1 ≤ m → lo + m ≤ p0.length → Sg r p2 lo m → wpS (model prog w) A E s (jp () m) (SrQ f r κ p0 (x + 1)) st2 := by
      intro m p2 st2 R2 q1 q2 sg2
      have G2 : GS f r κ p0 lo st2 p2 := ⟨R2.kind.trans G.kind, R2.fail.trans G.fail, R2.arr, R2.perm.trans G.perm, by rw [R2.pend]; exact G.runs.congr fun k _ k2 => R2.pre k k2⟩
      refine wpS_bind (wpS_get ?_)
      extract_lets lo2 jp2
      have hjp2 : ∀ p3 st3, GS f r κ p0 lo st3 p3 → Sg r p3 lo m → wpS (model prog w) A E s (jp2 ()) (SrQ f r κ p0 (x + 1)) st3 := by
        intro p3 st3 G3 sg3
        refine wpS_bind (wpS_modify (wpS_pure ⟨p3, _, rfl, ⟨G3.kind, G3.fail, G3.arr, G3.perm, ?_⟩, q2, by omega⟩))
        show RunsL r p3 0 ((pendingOf st3).push (lo, m, 0)).toList (lo + m)
        rw [Array.toList_push]
        exact RunsL.app.mpr ⟨lo, G3.runs, rfl, q1, sg3, rfl⟩
      cases hb : (pendingOf st2).back? with
      | none => exact hjp2 p2 st2 G2 sg2
      | some b =>
        obtain ⟨s1, n1, b3⟩ := b
        dsimp -zeta only
        extract_lets pw
        refine wpS_bind (wpS_mono (wpS_forRange (I := fun y c st3 => c = (none, ()) ∧ ∃ p3, GS f r κ p0 lo st3 p3 ∧ Sg r p3 lo m) (Q := fun c st3 => c = (none, ()) ∧ ∃ p3, GS f r κ p0 lo st3 p3 ∧ Sg r p3 lo m) ?step3 (fun c st3 z => z) ⟨rfl, p2, G2, sg2⟩) ?post3)
        case step3 =>
          rintro y c st3 _ hy ⟨rfl, p3, G3, sg3⟩
          refine wpS_bind (wpS_get ?_)
          by_cases c1 : (pendingOf st3).size > 1
          · obtain ⟨⟨o1, o2, older⟩, eo⟩ : ∃ z, (pendingOf st3)[(pendingOf st3).size - 2]? = some z := ⟨_, getElem?_pos _ _ (by omega)⟩
            extract_lets pp
            have epp : (if pp.size > 1 then pp[pp.size - 2]? else none) = some (o1, o2, older) := by
              show (if (pendingOf st3).size > 1 then (pendingOf st3)[(pendingOf st3).size - 2]? else none) = _
              rw [if_pos c1, eo]
            rw [epp]
            dsimp -zeta only
            by_cases c2 : older ≤ pw
            · exact wpS_ite_pos c2 (wpS_pure ⟨rfl, p3, G3, sg3⟩)
            · refine wpS_ite_neg c2 (wpS_bind (wpS_mergeG L hp G3 hlo (by show (pendingOf st3).size - 2 + 1 < _; omega) fun p4 st4 G4 _ out => ?_))
              refine wpS_ite_neg (by simp) (wpS_pure ⟨rfl, p4, G4, sg3.congr fun k k1 k2 => out k k1⟩)
          · extract_lets pp
            have epp : (if pp.size > 1 then pp[pp.size - 2]? else none) = none := by
              show (if (pendingOf st3).size > 1 then (pendingOf st3)[(pendingOf st3).size - 2]? else none) = _
              rw [if_neg c1]
            rw [epp]
            exact wpS_pure ⟨rfl, p3, G3, sg3⟩
        case post3 =>
          rintro c st3 ⟨rfl, p3, G3, sg3⟩
          refine wpS_bind (wpS_modify ?_)
          refine hjp2 p3 _ ⟨G3.kind, G3.fail, G3.arr, G3.perm, ?_⟩ sg3
          show RunsL r p3 0 ((pendingOf st3).modify _ _).toList lo
          rw [Array.toList_modify]
          exact RunsL.mod (g := fun x => (x.1, x.2.1, pw)) (fun z => ⟨rfl, rfl⟩) G3.runs
    by_cases c2 : m' < mr
    · refine wpS_ite_pos c2 ?_
      refine wpS_bind (wpS_lift (wpAny_rule ⟨rfl, ?_⟩))
      have c2' : m < mr := c2
      have ef : force = min (p0.length - lo) mr := rfl
      refine wpS_bind (wpS_binL (ok := m) (m := force) L G.kind hp' (by omega) R1 (by omega) (by omega) sg1 fun p2 st2 R2 sg2 => ?_)
      refine wpS_ite_neg (by simp) ?_
      exact hjp force p2 st2 R2 (by omega) (by omega) sg2
    · exact wpS_ite_neg c2 (hjp m p1 st1 R1 m1 (by omega) sg1)
  case post =>
    rintro c st' ⟨p, rfl, G⟩
    have rl := G.runs.len
    refine wpS_bind (wpS_mono (wpS_forRange (I := fun x c st2 => c = (none, ()) ∧ ∃ p2, GS f r κ p0 p0.length st2 p2 ∧ ((pendingOf st2).size + x ≤ p0.length ∨ (pendingOf st2).size ≤ 1)) (Q := fun c st2 => c = (none, ()) ∧ ∃ p2, GS f r κ p0 p0.length st2 p2 ∧ (pendingOf st2).size ≤ 1) ?step4 ?fin4 ⟨rfl, p, G, .inl (by rw [Array.length_toList] at rl; omega)⟩) ?post4)
    case fin4 =>
      rintro c st2 ⟨rfl, p2, G2, z⟩
      have : max 0 size = p0.length := Nat.zero_max _
      exact ⟨rfl, p2, G2, by omega⟩
    case step4 =>
      rintro x c st2 _ hx ⟨rfl, p2, G2, z⟩
      refine wpS_bind (wpS_get ?_)
      extract_lets pp i bef j
      by_cases c1 : (pendingOf st2).size ≤ 1
      · exact wpS_ite_pos c1 (wpS_pure ⟨rfl, p2, G2, c1⟩)
      · refine wpS_ite_neg c1 ?_
        have hj : j + 1 < (pendingOf st2).size := by
          have ei : i = (pendingOf st2).size - 2 := rfl
          show (if (bef.any fun z => decide (z < (pp[i + 1]?.elim 0 fun y => y.2.1))) = true then i - 1 else i) + 1 < _
          split <;> omega
        refine wpS_bind (wpS_mergeG L hp G2 (Nat.le_refl _) hj fun p3 st3 G3 sz _ => ?_)
        exact wpS_ite_neg (by simp) (wpS_pure ⟨rfl, p3, G3, .inl (by omega)⟩)
    case post4 =>
      rintro c st2 ⟨rfl, p2, G2, z⟩
      have g2 := G2.len
      refine wpS_pure (h p2 st2 G2.arr G2.fail G2.perm ?_)
      have R := G2.runs
      have lz : (pendingOf st2).toList.length ≤ 1 := by rw [Array.length_toList]; exact z
      cases e : (pendingOf st2).toList with
      | nil =>
        rw [e] at R
        have : 0 = p0.length := R
        omega
      | cons a l =>
        rw [e] at R lz
        have el : l = [] := by
          cases l with
          | nil => rfl
          | cons => simp at lz
        subst el
        obtain ⟨_, _, sg, en⟩ := R
        have en : 0 + a.2.1 = p0.length := en
        rw [show a.2.1 = p2.length by omega] at sg
        have := (sg_list (by omega)).mp sg
        unfold sgl at this
        rw [List.drop_zero, List.take_length] at this
        exact this
end
end L2
namespace L2
open PySem PySem.W PyProof.Rows
section
variable {prog : Program} {w : World} {A : Around} {E : Value → Shared → Prop} {s : Shared}
noncomputable def pairAt (vs : List Value) (i : Nat) : Keyed := (vs.getD i Value.none, vs.getD i Value.none)
theorem zip_ar (vs : List Value) : vs.toArray.zip vs.toArray = ar (pairAt vs) (List.range vs.length) := by
  apply Array.ext_getElem?
  intro k
  by_cases h : k < vs.length
  · simp [ar, pairAt, h]
  · rw [Array.getElem?_eq_none (by simp; omega), Array.getElem?_eq_none (by rw [ar_size, List.length_range]; omega)]
theorem ltOk_of {vs : List Value} {r : Nat → Int} {κ : SortKind} (hc : ∀ i j, i < vs.length → j < vs.length → ∀ C : Bool → Shared → Prop, C (rlt r i j) s → wpAny (model prog w) A (keyLt' κ (vs.getD i Value.none) (vs.getD j Value.none)) C (fun _ _ => False) s) :
    LtOk prog w A E s (pairAt vs) r vs.length κ := fun i j hi hj st Q hk q => by
  rw [lt'_eq]
  refine wpS_bind (wpS_get ?_)
  rw [hk]
  refine wpS_bind (wpS_lift (wpAny_attempt (wpAny_mono (hc i j hi hj (fun b s' => s' = s ∧ b = decide (r i < r j)) ⟨rfl, rfl⟩) (fun b s' z => ?_) fun _ _ z => z.elim)))
  obtain ⟨rfl, rfl⟩ := z
  exact ⟨rfl, wpS_pure q⟩
theorem list_sort_rkL {a : Addr} {vs : List Value} {n : Nat} {r : Nat → Int} {P : PySem.Fin → Shared → Prop} (ho : s.heap.get? a = some (seqObj "list" vs.toArray n)) (h64 : vs.length ≤ 1000) (ask : AskRk prog w A s vs vs a r)
    (h : ∀ p : Array Nat, PermN vs.length p → Srt r p vs.length → P (.done (.ret .none)) { s with heap := sortedHeap s.heap a vs (sortAns vs p) }) :
    wpAny (model prog w) A (Builtin.«list.sort» ⟨[.ref a], []⟩) P E s := by
  rw [list_sort_plain]
  have ha : a < s.heap.objs.size := Heap.lt_size ho
  refine wpAny_bind (listItems_at ho rfl ?_)
  refine wpAny_bind (listUpdate_at ho rfl ?_)
  obtain ⟨e1, ho1⟩ : ∃ e1, (s.heap.update a (Obj.mapSeq fun _ => #[])).get? a = some (seqObj "list" #[] e1) := ⟨_, get?_update_seq ho (fun _ => #[])⟩
  refine wpAny_bind (seqEpoch_at ho1 rfl ?_)
  refine wpAny_bind (wpAny_newTuple ?_)
  refine wpAny_bind (wpAny_newList ?_)
  refine wpAny_holding ?_
  have ho6 : (((s.heap.update a (Obj.mapSeq fun _ => #[])).push (seqObj "tuple" vs.toArray 0)).push (seqObj "list" #[] 0)).get? a = some (seqObj "list" #[] e1) := by
    rw [Heap.get?_push_ne _ _ _ (by rw [size_push', Heap.size_update]; exact Nat.ne_of_lt (Nat.lt_succ_of_lt ha)), Heap.get?_push_ne _ _ _ (by rw [Heap.size_update]; exact Nat.ne_of_lt ha)]
    exact ho1
  have keep : ∀ b o, b ≠ a → s.heap.get? b = some o → (((s.heap.update a (Obj.mapSeq fun _ => #[])).push (seqObj "tuple" vs.toArray 0)).push (seqObj "list" #[] 0)).get? b = some o := fun b o hb q =>
    Heap.get?_push_of_some _ (Heap.get?_push_of_some _ ((Heap.get?_update_ne _ _ _ _ hb).trans q))
  show wpAny (model prog w) A _ P E { s with heap := ((s.heap.update a (Obj.mapSeq fun _ => #[])).push (seqObj "tuple" vs.toArray 0)).push (seqObj "list" #[] 0) }
  dsimp only
  have hsz : vs.toArray.size = vs.length := by simp
  by_cases h2 : vs.toArray.size < 2
  · rw [if_pos h2, if_pos h2]
    refine wpAny_bind (wpAny_pure ?_)
    rw [StateT.run_pure]
    refine wpAny_bind (wpAny_pure ?_)
    dsimp only
    have e2 : (arrOf (SortSt.mk' general' (vs.toArray.zip vs.toArray) #[] 7 none)).map (·.2) = sortAns vs (List.range vs.length).toArray := by
      rw [sortAns_id]
      show (vs.toArray.zip vs.toArray).map (·.2) = vs.toArray
      apply Array.ext
      · simp
      · intro i _ _; simp
    rw [e2]
    refine wpAny_bind (seqEpoch_at ho6 rfl ?_)
    refine wpAny_bind (listUpdate_at ho6 rfl ?_ (hsz2 := by rw [sortAns_id, sizeLine_eq]; omega))
    simp only [bne_self_eq_false, Bool.false_eq_true, if_false]
    refine wpAny_pure (h _ (Array.Perm.refl _) ?_)
    intro i j hij hj
    rw [show i = j by omega]; exact Int.le_refl _
  · rw [if_neg h2, if_neg h2]
    obtain ⟨κ, hk, hc⟩ := ask (by omega) _ keep
    refine wpAny_bind (hk _ _ ?_)
    refine wpAny_bind (wpAny_mono (wpS_sortG (f := pairAt vs) (r := r) (n := vs.length) (κ := κ) (p0 := List.range vs.length) (Q := fun _ st' => ∃ p, arrOf st' = ar (pairAt vs) p ∧ failedOf st' = none ∧ p.Perm (List.range vs.length) ∧ SrtL r p)
      (ltOk_of hc) (fun x hx => List.mem_range.mp hx) (by rw [List.length_range]; omega) rfl rfl rfl (zip_ar vs) fun p st' a1 a2 a3 a4 => ⟨p, a1, a2, a3, a4⟩) ?_ fun _ _ e => e)
    rintro ⟨⟨⟩, st'⟩ s' ⟨rfl, p', har, hf, hpm, hsr⟩
    dsimp only at *
    obtain ⟨p, rfl⟩ : ∃ p : Array Nat, p.toList = p' := ⟨p'.toArray, rfl⟩
    have hp : PermN vs.length p := by
      unfold PermN
      exact Array.perm_iff_toList_perm.mpr (by simpa using hpm)
    have hs : Srt r p vs.length := fun i j hij hj => by
      have hz := hp.size
      have := hsr.at_ (i := i) (j := j) hij (by rw [Array.length_toList]; omega)
      have e : ∀ k, p.toList.getD k 0 = p.getD k 0 := fun k => by rw [getD_arr, Array.getD_eq_getD_getElem?]
      rw [e, e] at this
      exact this
    rw [show (arrOf st').map (fun x => x.2) = sortAns vs p from by rw [har]; unfold ar sortAns; simp [pairAt]]
    have hpz := hp.size
    refine wpAny_bind (seqEpoch_at ho6 rfl ?_)
    refine wpAny_bind (listUpdate_at ho6 rfl ?_ (hsz2 := by unfold sortAns; rw [List.size_toArray, List.length_map, Array.length_toList, hpz, sizeLine_eq]; omega))
    rw [hf]
    simp only [bne_self_eq_false, Bool.false_eq_true, if_false]
    exact wpAny_pure (h p hp hs)
theorem sorted_rkL {l : Addr} {vs : List Value} {r : Nat → Int} {Q : Value → Shared → Prop} (hl : s.heap.IsList l vs.toArray) (h64 : vs.length ≤ 1000)
    (ask : 2 ≤ vs.length → ∀ h' : Heap, (∀ b o, s.heap.get? b = some o → h'.get? b = some o) → ∃ κ : SortKind,
      (∀ (Q : SortKind → Shared → Prop) (E : Value → Shared → Prop), Q κ { s with heap := h' } → wpAny (model prog w) A.in1.in1 (keyKind' vs.toArray) Q E { s with heap := h' }) ∧
      ∀ i j, i < vs.length → j < vs.length → ∀ C : Bool → Shared → Prop, C (rlt r i j) { s with heap := h' } → wpAny (model prog w) A.in1.in1 (keyLt' κ (vs.getD i Value.none) (vs.getD j Value.none)) C (fun _ _ => False) { s with heap := h' })
    (h : ∀ p : Array Nat, PermN vs.length p → Srt r p vs.length → Q (.ref (s.heap.objs.size + 1)) { s with heap := sortedAll s.heap vs (sortAns vs p) }) :
    wpAny (model prog w) A (call (.builtin "sorted") [.ref l]) Q E s := by
  refine Calls.call_function_entry kind_sorted plain_sorted entry_sorted (args_sorted1 _) ?_
  unfold Builtin.«sorted»
  refine wpAny_bind (m := checkCount "sorted" 1 1 _) (wpAny_pure ?_)
  refine wpAny_bind (collect_list hl ?_)
  refine wpAny_bind (wpAny_newList ?_)
  have hsz : ((s.heap.push (seqObj "list" #[] 0)).update s.heap.objs.size (Obj.mapSeq (· ++ vs.toArray))).objs.size = s.heap.objs.size + 1 := by
    rw [Heap.size_update, size_push']
  have hoL : (((s.heap.push (seqObj "list" #[] 0)).update s.heap.objs.size (Obj.mapSeq (· ++ vs.toArray))).push (seqObj "list" vs.toArray 0)).get? (s.heap.objs.size + 1) = some (seqObj "list" vs.toArray 0) := by
    rw [← hsz]; exact Heap.get?_push_size _ rfl
  have keep : ∀ b o, s.heap.get? b = some o → (((s.heap.push (seqObj "list" #[] 0)).update s.heap.objs.size (Obj.mapSeq (· ++ vs.toArray))).push (seqObj "list" vs.toArray 0)).get? b = some o ∧ b ≠ s.heap.objs.size + 1 := fun b o q => by
    have hlt : b < s.heap.objs.size := Heap.lt_size q
    rw [Heap.get?_push_ne _ _ _ (by rw [hsz]; exact Nat.ne_of_lt (Nat.lt_succ_of_lt hlt)), Heap.get?_update_ne _ _ _ _ (Nat.ne_of_lt hlt), Heap.get?_push_ne _ _ _ (Nat.ne_of_lt hlt)]
    exact ⟨q, Nat.ne_of_lt (Nat.lt_succ_of_lt hlt)⟩
  show wpAny _ _ _ _ _ { s with heap := ((s.heap.push (seqObj "list" #[] 0)).update s.heap.objs.size (Obj.mapSeq (· ++ vs.toArray))).push (seqObj "list" vs.toArray 0) }
  rw [hsz]
  refine wpAny_bind (wpAny_holding (wpAny_call_entry slot_list_sort ⟨_, hoL, rfl⟩ entry_list_sort (list_sort_rkL (r := r) hoL h64 (fun h2 h' kp => ask h2 h' fun b o q => kp b o (keep b o q).2 (keep b o q).1) fun p a1 a2 => ⟨_, rfl, ?_⟩) (args_list_sort _)))
  exact wpAny_pure ⟨_, rfl, h p a1 a2⟩
end
end L2
namespace L2
open PySem PySem.Spec PyProof.Rows
@[irreducible] noncomputable def cSortedL : RDn := fun xs M Q => ∃ (α : Type) (enc : α → D) (lt : α → α → Bool) (as : List α) (d : D), xs = [d] ∧ listD d M = some (as.map enc) ∧ as.length ≤ 1000 ∧ LinLt lt ∧ SrtK (as.map enc) ∧ (∀ a ∈ as, ∀ b ∈ as, ltD (enc a) (enc b) = lt a b) ∧
  ∀ bs : List α, bs.Perm as → bs.Pairwise (fun a b => lt b a = false) → newL (bs.map enc) M Q
theorem rd_sortedL {α : Type} {enc : α → D} {lt : α → α → Bool} {as : List α} {d : D} {M : HpD} {Q : KD} (h : listD d M = some (as.map enc)) (h64 : as.length ≤ 1000) (L : LinLt lt) (k : SrtK (as.map enc)) (hlt : ∀ a ∈ as, ∀ b ∈ as, ltD (enc a) (enc b) = lt a b)
    (q : ∀ bs : List α, bs.Perm as → bs.Pairwise (fun a b => lt b a = false) → newL (bs.map enc) M Q) : cSortedL [d] M Q := by
  unfold cSortedL; exact ⟨α, enc, lt, as, d, rfl, h, h64, L, k, hlt, q⟩
theorem cd_sortedL {X : Cx} {k : Nat} (hr : Room k X.A) : CallR X (.builtin "sorted") (LiftC X.K cSortedL) := by
  intro pins s σ H xs us Q I rx h
  obtain ⟨F, ds, M, QD, r, rh, hq, pp⟩ := h
  unfold cSortedL at hq
  obtain ⟨α, enc, lt, as, d, rfl, hd, h64, L, sk, hlt, q⟩ := hq
  obtain ⟨v, rfl, r1⟩ := rep1 r
  obtain ⟨a, ys, rfl, hs, rd⟩ := list_rep rh r1 hd
  obtain ⟨u, rfl, ru⟩ := vals1 rx
  cases ru
  obtain ⟨its, vi, pl, hz⟩ := I.list hs
  have lds : (as.map enc).length = as.length := List.length_map _
  have l1 : ys.length = as.length := by rw [← rd.length, lds]
  have l2 : its.length = as.length := by rw [← vi.length, l1]
  have hun := hr.un
  refine sorted_rkL (r := rankAt lt as) pl.isList (by omega) (fun h2 h' kp => ?_) fun p hp hsr => ?_
  · have I' : Inv X pins σ H { s with heap := h' } := I.kept (t' := s.toks) kp
    obtain ⟨κ, hk, hc⟩ := ask_D I' (A := X.A.in1.in1) (by show X.A.units + 1 + 1 + 70 < cLine; omega) (by omega) sk rd vi
    refine ⟨κ, hk, fun i j hi hj C hC => ?_⟩
    have ei : as[i]? = some (as[i]'(by omega)) := List.getElem?_eq_getElem (by omega)
    have ej : as[j]? = some (as[j]'(by omega)) := List.getElem?_eq_getElem (by omega)
    refine hc i j _ _ (by rw [List.getElem?_map, ei]; rfl) (by rw [List.getElem?_map, ej]; rfl) C ?_
    rw [hlt _ (List.mem_of_getElem? ei) _ (List.mem_of_getElem? ej), ← rank_lt L (List.mem_of_getElem? ei) (List.mem_of_getElem? ej), ← rankAt_eq ei, ← rankAt_eq ej]
    exact hC
  · rw [l2] at hp hsr
    obtain ⟨hb, hperm, hpw⟩ := pick_sorted L hp hsr
    have rr : RepDs ⟨X.K, F⟩ H M ((p.toList.filterMap fun i => as[i]?).map enc) (p.toList.filterMap fun i => ys[i]?) := by
      rw [← pick_map]
      exact pick_rep rd _ fun i hi => by rw [lds]; exact hb i hi
    have rv := pick_vals vi p.toList fun i hi => by rw [l1]; exact hb i hi
    have nl := (q _ hperm hpw).post pp rh rr
    obtain ⟨e, he⟩ := sortedAll_at s.heap its (sortAns its p)
    refine ⟨.ref (s.heap.objs.size + 1), _, I.laid (t' := s.toks) (fun b o z => sortedAll_old z) (Nat.le_succ _) (show ObjOk X.prog X.w _ _ _ (.lst _) from ⟨nl.1, _, e, rv, he⟩), rfl, nl.2 _ (I.hok.fresh (Nat.le_succ _))⟩
end L2
namespace V15
open PySem PySem.Spec PyProof.Rows L2
noncomputable def t__law_box : TSD :=
  (tSeqD (tAsgD (tCD (.int 0)) (gNameD 1))
  (tSeqD (tForD (iSeqD (tSlD (tVarD 0) tNoPartD (tPartD (tCD (.int 63))))) (gNameD 2) (tAsgD (tOpD rModD (tOpD rAddD (tOpD rAddD (tOpD rMulD (tVarD 1) (tCD (.int 31))) (tVarD 2)) (tCD (.int 17))) (tCD (.int 2147483647))) (gNameD 1)))
  (tRetD (tLstD (tConsD (tCallD cList (tConsD (tSlD (tVarD 0) tNoPartD (tPartD (tCD (.int 63)))) tNilD)) (tConsD (tCD (.int 0)) (tConsD (tCD (.int 0)) (tConsD (tCD (.int 0)) (tConsD (tVarD 1) tNilD)))))))))
noncomputable def t__law_mixed : TSD :=
  (tSeqD (tAsgD (tOpD rModD (tOpD rAddD (tOpD rAddD (tOpD rMulD (tVarD 0) (tCD (.int 48271))) (tOpD rMulD (tVarD 1) (tCD (.int 69621)))) (tCD (.int 12345))) (tCD (.int 2147483647))) (gNameD 2))
  (tSeqD (tAsgD (tOpD rModD (tOpD rAddD (tOpD rAddD (tOpD rMulD (tVarD 2) (tOpD rAddD (tOpD rModD (tVarD 2) (tCD (.int 65521))) (tCD (.int 7)))) (tOpD rMulD (tVarD 1) (tCD (.int 40692)))) (tOpD rModD (tVarD 0) (tCD (.int 104729)))) (tCD (.int 998244353))) (gNameD 3))
  (tRetD (tOpD rDivD (tVarD 3) (tCD (.int 7))))))
noncomputable def t__law_take (sp__law_mixed : SpD) : TSD :=
  (tSeqD (tAsgD (tOpD rAddD (tOpD rIxD (tVarD 0) (tCD (.int 3))) (tCD (.int 1))) (gSubD (tVarD 0) (tCD (.int 3))))
  (tSeqD (tIfSD (tTestD (tOpD rGtD (tOpD rIxD (tVarD 0) (tCD (.int 2))) (tCD (.int 0)))) (tSeqD (tAsgD (tOpD rIxD (tVarD 0) (tCD (.int 2))) (gNameD 2))
  (tSeqD (tAsgD (tOpD rDivD (tVarD 2) (tVarD 1)) (gSubD (tVarD 0) (tCD (.int 2))))
  (tRetD (tOpD rModD (tVarD 2) (tVarD 1))))) tNextD)
  (tSeqD (tIfSD (tTestD (tOpD rGeD (tOpD rIxD (tVarD 0) (tCD (.int 1))) (tCallD cLen (tConsD (tOpD rIxD (tVarD 0) (tCD (.int 0))) tNilD)))) (tRetD (tOpD rModD (tCallD sp__law_mixed (tConsD (tOpD rIxD (tVarD 0) (tCD (.int 4))) (tConsD (tOpD rIxD (tVarD 0) (tCD (.int 3))) tNilD))) (tVarD 1))) tNextD)
  (tSeqD (tAsgD (tOpD rIxD (tOpD rIxD (tVarD 0) (tCD (.int 0))) (tOpD rIxD (tVarD 0) (tCD (.int 1)))) (gNameD 3))
  (tSeqD (tAsgD (tOpD rAddD (tOpD rIxD (tVarD 0) (tCD (.int 1))) (tCD (.int 1))) (gSubD (tVarD 0) (tCD (.int 1))))
  (tSeqD (tIfSD (tTestD (tOpD rLtD (tVarD 3) (tOpD rPowD (tCD (.int 10)) (tCD (.int 18))))) (tRetD (tOpD rModD (tCallD sp__law_mixed (tConsD (tVarD 3) (tConsD (tOpD rIxD (tVarD 0) (tCD (.int 3))) tNilD))) (tVarD 1))) tNextD)
  (tSeqD (tAsgD (tOpD rDivD (tVarD 3) (tVarD 1)) (gSubD (tVarD 0) (tCD (.int 2))))
  (tRetD (tOpD rModD (tVarD 3) (tVarD 1))))))))))
noncomputable def t__law_ranges (sp__law_take : SpD) : TSD :=
  (tSeqD (tAsgD (tLstD tNilD) (gNameD 2))
  (tSeqD (tForD (iRng1D (tConsD (tVarD 1) tNilD)) (gNameD 3) (tSeqD (tAsgD (tCallD sp__law_take (tConsD (tVarD 0) (tConsD (tCD (.int 101)) tNilD))) (gNameD 4))
  (tSeqD (tAsgD (tCallD cMin2 (tConsD (tCD (.int 100)) (tConsD (tOpD rAddD (tVarD 4) (tOpD rIxD (tLstD (tConsD (tCD (.int 0)) (tConsD (tCallD sp__law_take (tConsD (tVarD 0) (tConsD (tCD (.int 10)) tNilD))) (tConsD (tCallD sp__law_take (tConsD (tVarD 0) (tConsD (tCD (.int 101)) tNilD))) tNilD)))) (tCallD sp__law_take (tConsD (tVarD 0) (tConsD (tCD (.int 3)) tNilD))))) tNilD))) (gNameD 5))
  (tSeqD (tIfSD (tTestD (tOpD (rEqA false) (tCallD sp__law_take (tConsD (tVarD 0) (tConsD (tCD (.int 8)) tNilD))) (tCD (.int 0)))) (tAsgD (tCD (.int 100)) (gNameD 5)) tNextD)
  (tSeqD (tIfSD (tAndD (tTestD (tOpD rGtD (tCallD cLen (tConsD (tVarD 2) tNilD)) (tCD (.int 0)))) (tTestD (tOpD (rEqA false) (tCallD sp__law_take (tConsD (tVarD 0) (tConsD (tCD (.int 4)) tNilD))) (tCD (.int 0))))) (tSeqD (tAsgD (tOpD rIxD (tVarD 2) (tCallD sp__law_take (tConsD (tVarD 0) (tConsD (tCallD cLen (tConsD (tVarD 2) tNilD)) tNilD)))) (gNameD 6))
  (tSeqD (tAsgD (tCallD cMin2 (tConsD (tCD (.int 100)) (tConsD (tOpD rAddD (tOpD rIxD (tVarD 6) (tCD (.int 1))) (tCallD sp__law_take (tConsD (tVarD 0) (tConsD (tCD (.int 2)) tNilD)))) tNilD))) (gNameD 4))
  (tAsgD (tCallD cMax2 (tConsD (tVarD 4) (tConsD (tVarD 5) tNilD))) (gNameD 5)))) tNextD)
  (tDropD (tAppD (tVarD 2) (tTupD (tConsD (tVarD 4) (tConsD (tVarD 5) tNilD))))))))))
  (tRetD (tVarD 2))))
noncomputable def t__law_count (sp__law_take : SpD) : TSD :=
  (tSeqD (tIfSD (tTestD (tOpD (rEqA false) (tCallD sp__law_take (tConsD (tVarD 0) (tConsD (tCD (.int 8)) tNilD))) (tCD (.int 0)))) (tRetD (tCallD sp__law_take (tConsD (tVarD 0) (tConsD (tOpD rAddD (tVarD 2) (tCD (.int 1))) tNilD)))) tNextD)
  (tRetD (tCallD sp__law_take (tConsD (tVarD 0) (tConsD (tOpD rAddD (tVarD 1) (tCD (.int 1))) tNilD)))))
theorem line_of {n : Nat} (h : n ≤ 1000) : n ≤ sizeLine := Nat.le_of_lt (small1000 h)
local macro_rules | `(tactic| walk_at "r1") => `(tactic| first
  | refine rd_seq ?_
  | refine rd_asg ?_
  | refine rd_gname ?_
  | refine rd_op ?_
  | refine rd_c ?_
  | refine rd_var rfl ?_
  | refine rd_rN ?_
  | refine rd_rI (by first | exact .inl ⟨by decide, by decide⟩ | exact .inr ⟨by decide, by decide⟩ | exact ⟨by decide, by decide⟩ | (show (0 : Int) < _; first | decide | omega) | (constructor <;> omega)) ?_
  | refine rd_ret ?_
  | refine rd_cons ?_
  | refine rd_nil ?_
  | refine rd_tup ?_
  | refine rd_lst ?_
  | refine rd_test ?_
  | refine rd_ifS ?_
  | refine rd_call ?_
  | refine rd_next ?_
  | refine rd_drop ?_
  | refine rd_sl ?_
  | refine rd_nopart ?_
  | refine rd_part ?_
  | refine rd_iseq ?_
  | refine rd_for ?_
  | refine ⟨line_of (Nat.le_of_ble_eq_true rfl), ?_⟩
  | refine rd_gsub ?_
  | refine rd_irng1 ?_
  | refine rd_irng2 ?_
  | refine ⟨_, rfl, ?_⟩)
local macro_rules | `(tactic| walk_at "r") => `(tactic| repeat walk_at "r1")
theorem ite_d {p : Prop} [Decidable p] {A B : Prop} (h1 : p → A) (h2 : ¬ p → B) : if decide p = true then A else B := by
  by_cases h : p
  · rw [if_pos (decide_eq_true h)]; exact h1 h
  · rw [if_neg (by rw [decide_eq_false h]; exact Bool.false_ne_true)]; exact h2 h
theorem ite_x {p : Prop} [Decidable p] {A B : Prop} (h1 : p → A) (h2 : ¬ p → B) : if (false ^^ decide p) = true then A else B := by
  rw [Bool.false_xor]; exact ite_d h1 h2
theorem cut_map {α : Type} (f : α → D) (l : List α) (lo hi : Option Int) : ∃ r : List α, L2.cutD (l.map f) lo hi = r.map f ∧ r.length ≤ l.length := by
  unfold L2.cutD
  rw [← List.map_drop, ← List.map_take]
  exact ⟨_, rfl, by simp only [List.length_take, List.length_drop]; omega⟩
theorem rd_eqAI {neg : Bool} {i j : Int} {M : HpD} {Q : KD} (q : Q (.bl (neg ^^ decide (i = j))) M) : rEqA neg (.int i) (.int j) M Q := by
  refine rd_eqA rfl (Nat.zero_le _) ?_
  have e : eqD (viewD (.int i) M) (viewD (.int j) M) = decide (i = j) := by
    show eqD (.int i) (.int j) = _
    unfold eqD
    by_cases z : i = j
    · subst z; simp
    · simp [z]
  rw [e]
  exact q
noncomputable def sp__law_mixed : SpD := fun ds M Q => ∃ n t, ds = [.int n, .int t] ∧ ∀ m, Q (.int m) M
theorem rd__law_mixed (ds : List D) (M : HpD) (Q : KD) (h : sp__law_mixed ds M Q) : t__law_mixed { nx := fun _ M' => Q .non M', rt := Q } (startD ["_law_number", "_law_turn", "_law_one", "_law_two"] ds) M := by
  obtain ⟨n, t, rfl, h⟩ := h
  unfold t__law_mixed
  walk_at "r"
  exact .inl (h _)
noncomputable def BoxO (o : OD) : Prop := ∃ (cells : List Int) (i l c s : Int), o = .lst [.lst (cells.map D.int), .int i, .int l, .int c, .int s] ∧ 0 ≤ i
noncomputable def Fr (b : Addr) (M M' : HpD) : Prop := (∃ o, M' b = some o ∧ BoxO o) ∧ ∀ a, a ≠ b → M' a = M a
theorem Fr.upd {b : Addr} {M : HpD} {o : OD} (h : BoxO o) : Fr b M (updD M b o) := ⟨⟨o, updD_same, h⟩, fun a z => updD_ne z⟩
theorem Fr.trans {b : Addr} {M M1 M2 : HpD} (x : Fr b M M1) (y : Fr b M1 M2) : Fr b M M2 := ⟨y.1, fun a z => (y.2 a z).trans (x.2 a z)⟩
noncomputable def sp__law_box : SpD := fun ds M Q => ∃ ns : List Int, ds = [.lst (ns.map D.int)] ∧ ns.length ≤ 63 ∧ ∀ p M', M p = none → Fr p M M' → Q (.ref p) M'
theorem rd__law_box (ds : List D) (M : HpD) (Q : KD) (h : sp__law_box ds M Q) : t__law_box { nx := fun _ M' => Q .non M', rt := Q } (startD ["_law_script", "_law_seed", "_law_cell"] ds) M := by
  obtain ⟨ns, rfl, hl, h⟩ := h
  obtain ⟨r, er, hr⟩ := cut_map D.int ns none (some 63)
  unfold t__law_box
  walk_at "r"
  rw [er]
  refine newF (line_of (by rw [List.length_map]; omega)) ⟨_, rfl, fun i σ M' => (∃ s v, σ = [some (.lst (ns.map D.int)), some (.int s), v]) ∧ M' = M, ⟨⟨_, _, rfl⟩, rfl⟩, ?_, ?_⟩
  · rintro i d σ M' e ⟨⟨s, v, rfl⟩, rfl⟩
    rw [List.getElem?_map] at e
    cases q : r[i]? with
    | none => rw [q] at e; cases e
    | some z =>
      rw [q] at e; cases e
      walk_at "r"
      exact ⟨⟨_, _, rfl⟩, rfl⟩
  · rintro σ M' ⟨⟨s, v, rfl⟩, rfl⟩
    walk_at "r"
    rw [er]
    refine newF (line_of (by rw [List.length_map]; omega)) ?_
    walk_at "r"
    refine rd_list rfl (newF (line_of (by rw [List.length_map]; omega)) ?_)
    walk_at "r"
    refine newM (line_of (Nat.le_of_ble_eq_true rfl)) fun p hp => .inl (h p _ hp (.upd ⟨_, _, _, _, _, rfl, Int.le_refl 0⟩))
noncomputable def sp__law_take : SpD := fun ds M Q => ∃ (b : Addr) (n : Int) (o : OD), ds = [.ref b, .int n] ∧ 0 < n ∧ n ≤ 1000000 ∧ M b = some o ∧ BoxO o ∧ ∀ r M', 0 ≤ r → r < n → Fr b M M' → Q (.int r) M'
theorem rd__law_take (ds : List D) (M : HpD) (Q : KD) (h : sp__law_take ds M Q) : t__law_take sp__law_mixed { nx := fun _ M' => Q .non M', rt := Q } (startD ["_law_box_here", "_law_size", "_law_left", "_law_cell"] ds) M := by
  obtain ⟨b, n, o, rfl, n0, n1, eM, ⟨cells, i, l, c, s, rfl, hi⟩, h⟩ := h
  unfold t__law_take
  walk_at "r"
  refine rd_ix (items_ref eM) rfl ?_
  walk_at "r"
  refine ⟨b, _, _, _, rfl, rfl, eM, rfl, ?_⟩
  walk_at "r"
  refine rd_ix (items_ref updD_same) rfl ?_
  walk_at "r"
  refine ite_d (fun hc => ?_) (fun hc => ?_)
  · walk_at "r"
    refine rd_ix (items_ref updD_same) rfl ?_
    walk_at "r"
    refine ⟨b, _, _, _, rfl, rfl, updD_same, rfl, ?_⟩
    walk_at "r"
    refine .inl (h _ _ (Int.emod_nonneg _ (by omega)) (Int.emod_lt_of_pos _ n0) ?_)
    rw [updD_updD]
    exact .upd ⟨_, _, _, _, _, rfl, hi⟩
  · walk_at "r"
    refine rd_ix (items_ref updD_same) rfl ?_
    walk_at "r"
    refine rd_ix (items_ref updD_same) rfl ?_
    walk_at "r"
    refine rd_len rfl ?_
    walk_at "r"
    refine ite_d (fun hc2 => ?_) (fun hc2 => ?_)
    · walk_at "r"
      refine rd_ix (items_ref updD_same) rfl ?_
      walk_at "r"
      refine rd_ix (items_ref updD_same) rfl ?_
      walk_at "r"
      refine ⟨_, _, rfl, fun m => ?_⟩
      walk_at "r"
      exact .inl (h _ _ (Int.emod_nonneg _ (by omega)) (Int.emod_lt_of_pos _ n0) (.upd ⟨_, _, _, _, _, rfl, hi⟩))
    · walk_at "r"
      refine rd_ix (items_ref updD_same) rfl ?_
      walk_at "r"
      refine rd_ix (items_ref updD_same) rfl ?_
      have hlt : i.toNat < cells.length := by
        rw [List.length_map] at hc2
        omega
      have hat : atI (cells.map D.int) i = some (.int cells[i.toNat]) := by
        have := atI_nat (xs := cells.map D.int) (j := i.toNat) (v := .int cells[i.toNat]) (by rw [List.getElem?_map, List.getElem?_eq_getElem hlt]; rfl)
        rw [Int.toNat_of_nonneg hi] at this
        exact this
      refine rd_ix rfl hat ?_
      walk_at "r"
      refine rd_ix (items_ref updD_same) rfl ?_
      walk_at "r"
      refine ⟨b, _, _, _, rfl, rfl, updD_same, rfl, ?_⟩
      rw [updD_updD]
      walk_at "r"
      refine ite_d (fun hc3 => ?_) (fun hc3 => ?_)
      · walk_at "r"
        refine rd_ix (items_ref updD_same) rfl ?_
        walk_at "r"
        refine ⟨_, _, rfl, fun m => ?_⟩
        walk_at "r"
        exact .inl (h _ _ (Int.emod_nonneg _ (by omega)) (Int.emod_lt_of_pos _ n0) (.upd ⟨_, _, _, _, _, rfl, by omega⟩))
      · walk_at "r"
        refine ⟨b, _, _, _, rfl, rfl, updD_same, rfl, ?_⟩
        rw [updD_updD]
        walk_at "r"
        exact .inl (h _ _ (Int.emod_nonneg _ (by omega)) (Int.emod_lt_of_pos _ n0) (.upd ⟨_, _, _, _, _, rfl, by omega⟩))
local macro_rules | `(tactic| walk_at "st1") => `(tactic| first
  | refine rd_seq ?_
  | refine rd_asg ?_
  | refine rd_gname ?_
  | refine rd_op ?_
  | refine rd_c ?_
  | refine rd_var rfl ?_
  | refine rd_rN ?_
  | refine rd_rI (by first | exact .inl ⟨by decide, by decide⟩ | exact .inr ⟨by decide, by decide⟩ | exact ⟨by decide, by decide⟩ | (show (0 : Int) < _; first | decide | omega) | (constructor <;> omega)) ?_
  | refine rd_eqAI ?_
  | refine rd_app ?_
  | refine rd_ret ?_
  | refine rd_max2 ?_
  | refine rd_min2 ?_
  | refine rd_and ?_
  | refine rd_or ?_
  | refine rd_not ?_
  | refine rd_gtup rfl ?_
  | refine rd_gcons ?_
  | refine rd_gnil ?_
  | refine rd_comp ?_
  | refine rd_if0 ?_
  | refine rd_neg ?_
  | refine rd_tru ?_
  | refine rd_andV ?_
  | refine rd_notV ?_
  | refine rd_mx ?_
  | refine rd_cons ?_
  | refine rd_nil ?_
  | refine rd_tup ?_
  | refine rd_lst ?_
  | refine rd_test ?_
  | refine rd_ifS ?_
  | refine rd_call ?_
  | refine rd_next ?_
  | refine rd_drop ?_
  | refine rd_sl ?_
  | refine rd_nopart ?_
  | refine rd_part ?_
  | refine rd_iseq ?_
  | refine rd_for ?_
  | refine rd_forG ?_
  | refine rd_compG ?_
  | refine rd_iseqG ?_
  | refine rd_ienum ?_
  | refine rd_izip ?_
  | refine rd_join ?_
  | refine rd_ins ?_
  | refine rd_lstRng ?_
  | refine rd_din ?_
  | refine rd_dget ?_
  | refine rd_compDc ?_
  | refine rd_izts ?_
  | refine rd_lstZip ?_
  | refine ⟨line_of (Nat.le_of_ble_eq_true rfl), ?_⟩
  | refine rd_gsub ?_
  | refine rd_irng1 ?_
  | refine rd_irng2 ?_
  | refine ⟨_, rfl, ?_⟩)
local macro_rules | `(tactic| walk_at "st") => `(tactic| repeat walk_at "st1")
noncomputable def sp__law_count : SpD := fun ds M Q => ∃ (b : Addr) (few most : Int) (o : OD), ds = [.ref b, .int few, .int most] ∧ 0 ≤ few ∧ few ≤ 100 ∧ 0 ≤ most ∧ most ≤ 100 ∧ M b = some o ∧ BoxO o ∧ ∀ r M', 0 ≤ r → (r ≤ few ∨ r ≤ most) → Fr b M M' → Q (.int r) M'
theorem rd__law_count (ds : List D) (M : HpD) (Q : KD) (h : sp__law_count ds M Q) : t__law_count sp__law_take { nx := fun _ M' => Q .non M', rt := Q } (startD ["_law_box_here", "_law_few", "_law_most"] ds) M := by
  obtain ⟨b, few, most, o, rfl, f0, f1, m0, m1, eM, hb, h⟩ := h
  unfold t__law_count
  walk_at "st"
  refine ⟨b, _, o, rfl, by decide, by decide, eM, hb, fun r M1 r0 r1 fr => ?_⟩
  obtain ⟨o1, e1, b1⟩ := id fr.1
  walk_at "st"
  refine ite_x (fun hc => ?_) (fun hc => ?_)
  · walk_at "st"
    exact ⟨b, _, o1, rfl, by omega, by omega, e1, b1, fun r M2 r0 r1 fr2 => .inl (h _ _ r0 (.inr (by omega)) (fr.trans fr2))⟩
  · walk_at "st"
    exact ⟨b, _, o1, rfl, by omega, by omega, e1, b1, fun r M2 r0 r1 fr2 => .inl (h _ _ r0 (.inl (by omega)) (fr.trans fr2))⟩
noncomputable def encR (p : Int × Int) : D := .tup [.int p.1, .int p.2]
noncomputable def OkR (p : Int × Int) : Prop := 0 ≤ p.1 ∧ p.1 ≤ p.2 ∧ p.2 ≤ 100
noncomputable def sp__law_ranges : SpD := fun ds M Q => ∃ (b : Addr) (n : Int) (o : OD), ds = [.ref b, .int n] ∧ 0 ≤ n ∧ n ≤ 60 ∧ M b = some o ∧ BoxO o ∧ ∀ (rs : List (Int × Int)) M', rs.length ≤ 60 → (∀ p ∈ rs, OkR p) → Fr b M M' → Q (.lst (rs.map encR)) M'
structure Two (b p : Addr) (M M1 : HpD) (rs : List (Int × Int)) : Prop where
  bx : ∃ o, M1 b = some o ∧ BoxO o
  ls : M1 p = some (.lst (rs.map encR))
  fr : ∀ a, a ≠ b → a ≠ p → M1 a = M a
theorem Two.step {b p : Addr} {M M1 M2 : HpD} {rs : List (Int × Int)} (t : Two b p M M1 rs) (hn : p ≠ b) (f : Fr b M1 M2) : Two b p M M2 rs :=
  ⟨f.1, (f.2 p hn).trans t.ls, fun a z1 z2 => (f.2 a z1).trans (t.fr a z1 z2)⟩
theorem tail_ok {b p : Addr} {n : Int} {M M1 : HpD} {rs : List (Int × Int)} {i : Nat} {lo hi : Int} {v3 v6 : Option D} (tw : Two b p M M1 rs) (hpb : p ≠ b) (hl : rs.length = i) (hok : ∀ q ∈ rs, OkR q) (ho : OkR (lo, hi)) :
    ∃ rs' v3' v4' v5' v6', [some (.ref b), some (.int n), some (.ref p), v3, some (.int lo), some (.int hi), v6] = [some (.ref b), some (.int n), some (.ref p), v3', v4', v5', v6'] ∧ rs'.length = i + 1 ∧ (∀ q ∈ rs', OkR q) ∧ Two b p M (updD M1 p (.lst (rs.map encR ++ [.tup [.int lo, .int hi]]))) rs' := by
  refine ⟨rs ++ [(lo, hi)], _, _, _, _, rfl, by simp [hl], ?_, ?_⟩
  · intro q hq
    rcases List.mem_append.mp hq with z | z
    · exact hok q z
    · rw [List.mem_singleton.mp z]; exact ho
  · obtain ⟨o1, e1, b1⟩ := tw.bx
    exact ⟨⟨o1, by rw [updD_ne (Ne.symm hpb)]; exact e1, b1⟩, by rw [updD_same, List.map_append]; rfl, fun a z1 z2 => by rw [updD_ne z2]; exact tw.fr a z1 z2⟩
theorem rd__law_ranges (ds : List D) (M : HpD) (Q : KD) (h : sp__law_ranges ds M Q) : t__law_ranges sp__law_take { nx := fun _ M' => Q .non M', rt := Q } (startD ["_law_box_here", "_law_size", "_law_found", "_law_k", "_law_low", "_law_high", "_law_other"] ds) M := by
  obtain ⟨b, n, o, rfl, n0, n1, eM, hb, h⟩ := h
  unfold t__law_ranges
  walk_at "st"
  refine newM (Nat.zero_le _) fun p hp => ?_
  have hpb : p ≠ b := fun z => by rw [z, eM] at hp; cases hp
  have t0 : Two b p M (updD M p (.lst [])) [] := ⟨⟨o, by rw [updD_ne (Ne.symm hpb)]; exact eM, hb⟩, updD_same, fun a _ z => updD_ne z⟩
  generalize updD M p (.lst []) = M0 at t0
  walk_at "st"
  refine ⟨by omega, by omega, fun i σ M1 => ∃ rs v3 v4 v5 v6, σ = [some (.ref b), some (.int n), some (.ref p), v3, v4, v5, v6] ∧ rs.length = i ∧ (∀ q ∈ rs, OkR q) ∧ Two b p M M1 rs, ⟨[], _, _, _, _, rfl, rfl, by simp, t0⟩, ?_, ?_⟩
  · rintro i d σ M1 e ⟨rs, v3, v4, v5, v6, rfl, hl, hok, tw⟩
    obtain ⟨hi, rfl⟩ := intsD_get e
    obtain ⟨o1, e1, b1⟩ := id tw.bx
    walk_at "st"
    refine ⟨b, _, o1, rfl, by decide, by decide, e1, b1, fun low M2 l0 l1 f2 => ?_⟩
    have tw2 := tw.step hpb f2
    obtain ⟨o2, e2, b2⟩ := id tw2.bx
    walk_at "st"
    refine ⟨b, _, o2, rfl, by decide, by decide, e2, b2, fun x1 M3 x10 x11 f3 => ?_⟩
    have tw3 := tw2.step hpb f3
    obtain ⟨o3, e3, b3⟩ := id tw3.bx
    walk_at "st"
    refine ⟨b, _, o3, rfl, by decide, by decide, e3, b3, fun x2 M4 x20 x21 f4 => ?_⟩
    have tw4 := tw3.step hpb f4
    obtain ⟨o4, e4, b4⟩ := id tw4.bx
    walk_at "st"
    refine newF (line_of (Nat.le_of_ble_eq_true rfl)) ?_
    walk_at "st"
    refine ⟨b, _, o4, rfl, by decide, by decide, e4, b4, fun r M5 r0 r1 f5 => ?_⟩
    have tw5 := tw4.step hpb f5
    obtain ⟨o5, e5, b5⟩ := id tw5.bx
    obtain ⟨w, w0, hw⟩ : ∃ w : Int, 0 ≤ w ∧ atI [D.int 0, .int x1, .int x2] r = some (.int w) := by
      obtain rfl | rfl | rfl : r = 0 ∨ r = 1 ∨ r = 2 := by omega
      · exact ⟨0, by decide, rfl⟩
      · exact ⟨x1, x10, rfl⟩
      · exact ⟨x2, x20, rfl⟩
    refine rd_ix rfl hw ?_
    walk_at "st"
    refine ⟨b, _, o5, rfl, by decide, by decide, e5, b5, fun r8 M6 r80 r81 f6 => ?_⟩
    have tw6 := tw5.step hpb f6
    obtain ⟨o6, e6, b6⟩ := id tw6.bx
    walk_at "st"
    refine ite_x (fun _ => ?_) (fun _ => ?_)
    all_goals
      walk_at "st"
      refine rd_len (items_ref tw6.ls) ?_
      walk_at "st"
      refine ite_d (fun hgt => ?_) (fun hgt => ?_)
      · walk_at "st"
        refine ⟨b, _, o6, rfl, by decide, by decide, e6, b6, fun r4 M7 r40 r41 f7 => ?_⟩
        have tw7 := tw6.step hpb f7
        obtain ⟨o7, e7, b7⟩ := id tw7.bx
        walk_at "st"
        refine ite_x (fun _ => ?_) (fun _ => ?_)
        · walk_at "st"
          refine rd_len (items_ref tw7.ls) ?_
          walk_at "st"
          rw [List.length_map] at hgt
          refine ⟨b, _, o7, rfl, by rw [List.length_map]; omega, by rw [List.length_map]; omega, e7, b7, fun j M8 j0 j1 f8 => ?_⟩
          have tw8 := tw7.step hpb f8
          obtain ⟨o8, e8, b8⟩ := id tw8.bx
          rw [List.length_map] at j1
          have hj : j.toNat < rs.length := by omega
          have hat : atI (rs.map encR) j = some (encR rs[j.toNat]) := by
            have := atI_nat (xs := rs.map encR) (j := j.toNat) (v := encR rs[j.toNat]) (by rw [List.getElem?_map, List.getElem?_eq_getElem hj]; rfl)
            rw [Int.toNat_of_nonneg j0] at this
            exact this
          have hr := hok _ (List.getElem_mem hj)
          unfold OkR at hr
          refine rd_ix (items_ref tw8.ls) hat ?_
          walk_at "st"
          refine rd_ix rfl rfl ?_
          walk_at "st"
          refine ⟨b, _, o8, rfl, by decide, by decide, e8, b8, fun y M9 y0 y1 f9 => ?_⟩
          have tw9 := tw8.step hpb f9
          walk_at "st"
          refine ⟨⟨_, tw9.ls⟩, ?_⟩
          walk_at "st"
          refine ⟨_, tw9.ls, small1000 (by rw [List.length_map]; omega), ?_⟩
          refine tail_ok tw9 hpb hl hok ?_
          unfold OkR
          dsimp only
          omega
        · walk_at "st"
          refine ⟨⟨_, tw7.ls⟩, ?_⟩
          walk_at "st"
          refine ⟨_, tw7.ls, small1000 (by rw [List.length_map]; omega), ?_⟩
          refine tail_ok tw7 hpb hl hok ?_
          unfold OkR
          dsimp only
          omega
      · walk_at "st"
        refine ⟨⟨_, tw6.ls⟩, ?_⟩
        walk_at "st"
        refine ⟨_, tw6.ls, small1000 (by rw [List.length_map]; omega), ?_⟩
        refine tail_ok tw6 hpb hl hok ?_
        unfold OkR
        dsimp only
        omega
  · rintro σ M1 ⟨rs, v3, v4, v5, v6, rfl, hl, hok, tw⟩
    rw [intsD_len] at hl
    walk_at "st"
    refine .inr ⟨p, _, rfl, tw.ls, h rs _ (by omega) hok ⟨?_, fun a ha => ?_⟩⟩
    · obtain ⟨o1, e1, b1⟩ := tw.bx
      exact ⟨o1, by rw [delD_ne (Ne.symm hpb)]; exact e1, b1⟩
    · by_cases hap : a = p
      · rw [hap, delD_same, hp]
      · rw [delD_ne hap]; exact tw.fr a ha hap
noncomputable def t__law_letters : TSD :=
  (tRetD (tCD (.str "abcdefghijklmnopqrstuvwxyz")))
noncomputable def t__law_named (sp__law_take sp__law_letters : SpD) : TSD :=
  (tSeqD (tAsgD (tOpD rAddD (tCD (.int 1)) (tCallD sp__law_take (tConsD (tVarD 0) (tConsD (tCD (.int 8)) tNilD)))) (gNameD 1))
  (tRetD (tJoinD (tCD (.str "")) (tCompD 1 (iRng1D (tConsD (tVarD 1) tNilD)) (gNameD 0) tIf0D (tOpD rIxSD (tCallD sp__law_letters tNilD) (tCallD sp__law_take (tConsD (tVarD 1) (tConsD (tCD (.int 26)) tNilD))))))))
noncomputable def t__law_places (sp__law_take sp__law_named : SpD) : TSD :=
  (tSeqD (tAsgD (tLstD tNilD) (gNameD 1))
  (tSeqD (tForD (iRng1D (tConsD (tOpD rIxD (tLstD (tConsD (tCD (.int 2)) (tConsD (tCD (.int 3)) (tConsD (tCD (.int 3)) (tConsD (tCD (.int 4)) (tConsD (tCD (.int 5)) (tConsD (tCD (.int 2)) (tConsD (tCD (.int 3)) (tConsD (tCD (.int 12)) tNilD))))))))) (tCallD sp__law_take (tConsD (tVarD 0) (tConsD (tCD (.int 8)) tNilD)))) tNilD)) (gNameD 2) (tSeqD (tAsgD (tCallD sp__law_named (tConsD (tVarD 0) tNilD)) (gNameD 3))
  (tIfSD (tTestD (tOpD (rInD true) (tVarD 3) (tVarD 1))) (tDropD (tAppD (tVarD 1) (tVarD 3))) tNextD)))
  (tRetD (tVarD 1))))
theorem ref_list {p : Addr} {M : HpD} {ds : List D} (h : listD (.ref p) M = some ds) : M p = some (.lst ds) := by
  cases e : M p with
  | none => simp only [listD, e] at h; cases h
  | some o =>
    cases o with
    | lst l => simp only [listD, e] at h; cases h; rfl
    | dct kvs => simp only [listD, e] at h; cases h
    | tab _ => simp only [listD, e] at h; cases h
theorem view_list {d : D} {M : HpD} {ds : List D} (h : listD d M = some ds) : viewD d M = .lst ds := by
  cases d with
  | lst l => cases h; rfl
  | ref p => simp only [viewD, ref_list h]
  | _ => cases h
noncomputable def IsNm (x : Str) : Prop := 1 ≤ x.length ∧ x.length ≤ 8 ∧ ∀ c ∈ x.cps.toList, 97 ≤ c ∧ c ≤ 122
noncomputable def abc : Str := "abcdefghijklmnopqrstuvwxyz"
theorem abc_at (r : Int) (h0 : 0 ≤ r) (h1 : r < 26) : ∃ c : Nat, atI abc.cps.toList r = some c ∧ 97 ≤ c ∧ c ≤ 122 := by
  have e : abc.cps.toList = (List.range 26).map (· + 97) := by decide
  have hn : r.toNat < 26 := by omega
  refine ⟨r.toNat + 97, ?_, by omega, by omega⟩
  have hr : ((r.toNat : Nat) : Int) = r := by omega
  rw [← hr]
  refine atI_nat ?_
  rw [e, List.getElem?_map, Int.toNat_natCast, List.getElem?_range hn]
  rfl
noncomputable def sp__law_letters : SpD := fun ds M Q => ds = [] ∧ Q (.str abc) M
theorem rd__law_letters (ds : List D) (M : HpD) (Q : KD) (h : sp__law_letters ds M Q) : t__law_letters { nx := fun _ M' => Q .non M', rt := Q } (startD [] ds) M := by
  obtain ⟨rfl, h⟩ := h
  unfold t__law_letters
  walk_at "st"
  exact .inl h
theorem glue_fold : ∀ (cs : List Nat) (acc : Str), ((cs.map fun c => (⟨#[c]⟩ : Str)).foldl HAppend.hAppend acc).cps.toList = acc.cps.toList ++ cs
  | [], acc => by simp
  | c :: cs, acc => by
    rw [List.map_cons, List.foldl_cons, glue_fold cs]
    show (acc.cps ++ #[c]).toList ++ cs = _
    simp
theorem glue_one (cs : List Nat) : (Txt.join "" (cs.map fun c => (⟨#[c]⟩ : Str))).cps.toList = cs := by
  rw [show Txt.join (Str.ofString "") (cs.map fun c => (⟨#[c]⟩ : Str)) = Str.join ⟨#[]⟩ (cs.map fun c => (⟨#[c]⟩ : Str)) from StrLaws.glued_eq_join _ _]
  rw [← fold_cat_join_nil, glue_fold]
  rfl
noncomputable def sp__law_named : SpD := fun ds M Q => ∃ (b : Addr) (o : OD), ds = [.ref b] ∧ M b = some o ∧ BoxO o ∧ ∀ x M', IsNm x → Fr b M M' → Q (.str x) M'
theorem rd__law_named (ds : List D) (M : HpD) (Q : KD) (h : sp__law_named ds M Q) : t__law_named sp__law_take sp__law_letters { nx := fun _ M' => Q .non M', rt := Q } (startD ["_law_box_here", "_law_size"] ds) M := by
  obtain ⟨b, o, rfl, eM, hb, h⟩ := h
  unfold t__law_named
  walk_at "st"
  refine ⟨b, _, o, rfl, by decide, by decide, eM, hb, fun r M1 r0 r1 fr => ?_⟩
  obtain ⟨o1, e1, b1⟩ := id fr.1
  walk_at "st"
  refine ⟨by omega, by omega, line_of (by rw [intsD_len]; omega), fun i ys σ M' => ∃ (cs : List Nat) (v : Option D), Fr b M M' ∧ σ = [v, some (.ref b), some (.int (1 + r))] ∧ ys = (cs.map fun c => (⟨#[c]⟩ : Str)).map D.str ∧ cs.length = i ∧ (∀ c ∈ cs, 97 ≤ c ∧ c ≤ 122), ⟨[], _, fr, rfl, rfl, rfl, by simp⟩, ?_, ?_⟩
  · rintro i d ys σ M' e ⟨cs, v, fr', rfl, rfl, hc, ho⟩
    obtain ⟨o2, e2, b2⟩ := id fr'.1
    walk_at "st"
    refine ⟨rfl, ?_⟩
    walk_at "st"
    refine ⟨b, _, o2, rfl, by decide, by decide, e2, b2, fun r' M2 r0' r1' fr2 => ?_⟩
    obtain ⟨c, hat, h97, h122⟩ := abc_at r' r0' r1'
    refine rd_ixS (line_of (by decide)) hat ?_
    refine ⟨cs ++ [c], _, fr'.trans fr2, rfl, by simp, by simp [hc], fun c' hm => ?_⟩
    rcases List.mem_append.mp hm with hm | hm
    · exact ho c' hm
    · rw [List.mem_singleton.mp hm]; exact ⟨h97, h122⟩
  · rintro ys σ M' ⟨cs, v, fr', rfl, rfl, hc, ho⟩
    rw [intsD_len] at hc
    refine newF (line_of (by rw [List.length_map, List.length_map]; omega)) ?_
    refine ⟨_, rfl, ?_, .inl (h _ _ ⟨?_, ?_, ?_⟩ fr')⟩
    · unfold JoinOk
      rw [StrLaws.joinFits (B := 1) (fun y hy => ?_) (by rw [List.length_map, show (Str.ofString "").length = 0 from rfl]; omega)]
      · rfl
      · obtain ⟨c, _, rfl⟩ := List.mem_map.mp hy
        exact Nat.le_refl _
    · show 1 ≤ (Txt.join _ _).cps.size
      rw [← Array.length_toList, glue_one]; omega
    · show (Txt.join _ _).cps.size ≤ 8
      rw [← Array.length_toList, glue_one]; omega
    · rw [glue_one]; exact ho
structure Gro (b p : Addr) (M M1 : HpD) (ds : List D) : Prop where
  bx : ∃ o, M1 b = some o ∧ BoxO o
  ls : M1 p = some (.lst ds)
  fr : ∀ a, a ≠ b → a ≠ p → M1 a = M a
theorem Gro.step {b p : Addr} {M M1 M2 : HpD} {ds : List D} (t : Gro b p M M1 ds) (hn : p ≠ b) (f : Fr b M1 M2) : Gro b p M M2 ds :=
  ⟨f.1, (f.2 p hn).trans t.ls, fun a z1 z2 => (f.2 a z1).trans (t.fr a z1 z2)⟩
theorem Gro.upd {b p : Addr} {M M1 : HpD} {ds es : List D} (t : Gro b p M M1 ds) (hn : p ≠ b) : Gro b p M (updD M1 p (.lst es)) es :=
  ⟨by rw [updD_ne (Ne.symm hn)]; exact t.bx, updD_same, fun a z1 z2 => by rw [updD_ne z2]; exact t.fr a z1 z2⟩
theorem Gro.start {b p : Addr} {M M1 : HpD} (f : Fr b M M1) (hp : M1 p = none) (es : List D) : p ≠ b ∧ Gro b p M (updD M1 p (.lst es)) es := by
  have hn : p ≠ b := fun z => by obtain ⟨o, e, _⟩ := f.1; rw [z, e] at hp; cases hp
  exact ⟨hn, by rw [updD_ne (Ne.symm hn)]; exact f.1, updD_same, fun a z1 z2 => by rw [updD_ne z2]; exact f.2 a z1⟩
theorem Gro.del {b p : Addr} {M M1 : HpD} {ds : List D} (t : Gro b p M M1 ds) (hn : p ≠ b) (hp : M p = none) : Fr b M (delD M1 p) :=
  ⟨by rw [delD_ne (Ne.symm hn)]; exact t.bx, fun a z => by
    by_cases q : a = p
    · rw [q, delD_same, hp]
    · rw [delD_ne q]; exact t.fr a z q⟩
theorem Fr.self {b : Addr} {M : HpD} {o : OD} (e : M b = some o) (h : BoxO o) : Fr b M M := ⟨⟨o, e, h⟩, fun _ _ => rfl⟩
theorem in_strs {x : Str} : ∀ {ns : List Str}, inD (.str x) (ns.map D.str) = decide (x ∈ ns)
  | [] => by simp [inD]
  | y :: ns => by
    have ih := in_strs (x := x) (ns := ns)
    unfold inD at ih ⊢
    rw [List.map_cons, List.any_cons, ih]
    by_cases z : x = y
    · subst z; simp [eqD]
    · have z' : ¬ y = x := fun q => z q.symm
      simp [eqD, z, z']
theorem strs_flat {x : Str} {ns : List Str} : ∀ d ∈ ns.map D.str, flatD d = true ∧ okD d (.str x) = true := fun d hd => by
  obtain ⟨y, _, rfl⟩ := List.mem_map.mp hd
  exact ⟨rfl, by simp [okD]⟩
noncomputable def GoodPl (ns : List Str) : Prop := 1 ≤ ns.length ∧ ns.length ≤ 12 ∧ ns.Nodup ∧ ∀ x ∈ ns, IsNm x
noncomputable def sp__law_places : SpD := fun ds M Q => ∃ (b : Addr) (o : OD), ds = [.ref b] ∧ M b = some o ∧ BoxO o ∧ ∀ ns M', GoodPl ns → Fr b M M' → Q (.lst (ns.map D.str)) M'
theorem rd__law_places (ds : List D) (M : HpD) (Q : KD) (h : sp__law_places ds M Q) : t__law_places sp__law_take sp__law_named { nx := fun _ M' => Q .non M', rt := Q } (startD ["_law_box_here", "_law_found", "_law_k", "_law_name"] ds) M := by
  obtain ⟨b, o, rfl, eM, hb, h⟩ := h
  unfold t__law_places
  walk_at "st"
  refine newM (line_of (Nat.zero_le _)) fun p hp => ?_
  obtain ⟨hpb, g0⟩ := Gro.start (Fr.self eM hb) hp []
  obtain ⟨o0, e0, b0⟩ := g0.bx
  walk_at "st"
  refine newF (line_of (by show 8 ≤ 1000; decide)) ?_
  walk_at "st"
  refine ⟨b, _, o0, rfl, by decide, by decide, e0, b0, fun r M1 r0 r1 f1 => ?_⟩
  have g1 := g0.step hpb f1
  obtain ⟨n, hat, hn2, hn12⟩ : ∃ n : Int, atI [D.int 2, .int 3, .int 3, .int 4, .int 5, .int 2, .int 3, .int 12] r = some (.int n) ∧ 2 ≤ n ∧ n ≤ 12 := by
    have : r = 0 ∨ r = 1 ∨ r = 2 ∨ r = 3 ∨ r = 4 ∨ r = 5 ∨ r = 6 ∨ r = 7 := by omega
    rcases this with rfl | rfl | rfl | rfl | rfl | rfl | rfl | rfl <;> exact ⟨_, rfl, by decide, by decide⟩
  refine rd_ix rfl hat ?_
  walk_at "st"
  refine ⟨by omega, by omega, fun i σ M' => ∃ (ns : List Str) (v2 v3 : Option D), Gro b p M M' (ns.map D.str) ∧ σ = [some (.ref b), some (.ref p), v2, v3] ∧ ns.length ≤ i ∧ (1 ≤ i → 1 ≤ ns.length) ∧ ns.Nodup ∧ ∀ x ∈ ns, IsNm x, ⟨[], _, _, g1, rfl, Nat.le_refl _, fun z => absurd z (by omega), List.nodup_nil, by simp⟩, ?_, ?_⟩
  · rintro i d σ M' e ⟨ns, v2, v3, g, rfl, hl, h1, nd, ok⟩
    obtain ⟨hi, rfl⟩ := intsD_get e
    obtain ⟨o2, e2, b2⟩ := g.bx
    walk_at "st"
    refine ⟨b, o2, rfl, e2, b2, fun x M2 hx f2 => ?_⟩
    have g2 := g.step hpb f2
    walk_at "st"
    refine rd_in (items_ref g2.ls) rfl strs_flat ?_
    rw [in_strs, if_pos rfl]
    walk_at "st"
    by_cases hm : x ∈ ns
    · rw [decide_eq_true hm, if_neg (by decide)]
      walk_at "st"
      exact ⟨ns, _, _, g2, rfl, by omega, fun _ => List.length_pos_of_mem hm, nd, ok⟩
    · rw [decide_eq_false hm, if_pos (by decide)]
      walk_at "st"
      refine ⟨⟨_, g2.ls⟩, ?_⟩
      walk_at "st"
      refine ⟨_, g2.ls, Nat.lt_of_lt_of_le (by rw [List.length_map]; omega) (line_of (n := 100) (by decide)), ?_⟩
      refine ⟨ns ++ [x], _, _, by have := g2.upd (es := ns.map D.str ++ [.str x]) hpb; simpa using this, rfl, by simp; omega, fun _ => by simp, ?_, fun y hy => ?_⟩
      · rw [List.nodup_append]
        exact ⟨nd, by simp, fun a ha b' hb' e => hm (by rw [List.mem_singleton.mp hb'] at e; rw [← e]; exact ha)⟩
      · rcases List.mem_append.mp hy with hy | hy
        · exact ok y hy
        · rw [List.mem_singleton.mp hy]; exact hx
  · rintro σ M' ⟨ns, v2, v3, g, rfl, hl, h1, nd, ok⟩
    rw [intsD_len] at hl h1
    walk_at "st"
    exact .inr ⟨p, _, rfl, g.ls, h ns _ ⟨h1 (by omega), by omega, nd, ok⟩ (g.del hpb hp)⟩
noncomputable def OkH (ns : List Str) (h : Int × Str × Int) : Prop := 0 ≤ h.1 ∧ h.1 ≤ 999997400 ∧ h.2.1 ∈ ns ∧ 0 ≤ h.2.2 ∧ h.2.2 ≤ 9
structure Pap where
  n : Int
  d : Int
  a : Str
  b : Str
  g : Int
noncomputable def t__law_whole : TSD :=
  (tRetD (tAndVD (tCallD cIsi (tConsD (tVarD 0) (tConsD (tCD (.ty "int")) tNilD))) (tNotVD (tCallD cIsi (tConsD (tVarD 0) (tConsD (tCD (.ty "bool")) tNilD))))))
noncomputable def t__law_rows_kind (sp__law_whole : SpD) : TSD :=
  (tSeqD (tIfSD (tNotD (tTruD (tCallD cIsi (tConsD (tVarD 0) (tConsD (tCD (.ty "list")) tNilD))))) (tRetD (tCD (.bl false))) tNextD)
  (tSeqD (tForG (iSeqG (tVarD 0)) (gNameD 2) (tSeqD (tIfSD (tOrD (tNotD (tTruD (tCallD cIsi (tConsD (tVarD 2) (tConsD (tCD (.ty "tuple")) tNilD))))) (tTestD (tOpD (rEqA true) (tCallD cLen (tConsD (tVarD 2) tNilD)) (tCallD cLenS (tConsD (tVarD 1) tNilD))))) (tRetD (tCD (.bl false))) tNextD)
  (tForG (iZipTS (tConsD (tVarD 2) (tConsD (tVarD 1) tNilD))) (gTupD 2 (gConsD (gNameD 3) (gConsD (gNameD 4) gNilD))) (tIfSD (tOrD (tAndD (tTestD (tOpD (rEqA false) (tVarD 4) (tCD (.str "n")))) (tNotD (tTruD (tCallD sp__law_whole (tConsD (tVarD 3) tNilD))))) (tAndD (tTestD (tOpD (rEqA false) (tVarD 4) (tCD (.str "t")))) (tNotD (tTruD (tCallD cIsi (tConsD (tVarD 3) (tConsD (tCD (.ty "str")) tNilD))))))) (tRetD (tCD (.bl false))) tNextD))))
  (tRetD (tCD (.bl true)))))
noncomputable def gapB (z : Pap × Pap) : Bool := decide (z.1.b ≠ z.2.a)
noncomputable def encHo (z : Pap × Pap) : D := .tup [.int z.1.n, .int z.2.n, .str z.1.b, .str z.2.a]
theorem rd_eqS {neg : Bool} {x y : Str} {M : HpD} {Q : KD} (q : Q (.bl (neg ^^ decide (x = y))) M) : rEqA neg (.str x) (.str y) M Q := by
  refine rd_eqA rfl (Nat.zero_le _) ?_
  have e : eqD (viewD (.str x) M) (viewD (.str y) M) = decide (x = y) := by
    by_cases z : x = y <;> simp [viewD, eqD, z]
  rw [e]; exact q
noncomputable def Mo (M M' : HpD) : Prop := ∀ a o, M a = some o → M' a = some o
theorem Mo.refl {M : HpD} : Mo M M := fun _ _ e => e
theorem Mo.upd {M M1 : HpD} {p : Addr} {o : OD} (h : Mo M M1) (hp : M p = none) : Mo M (updD M1 p o) := fun a u e => by
  rw [updD_ne (fun z => by rw [z, hp] at e; cases e)]; exact h a u e
noncomputable def sp__law_whole : SpD := fun ds M Q => ∃ i, ds = [.int i] ∧ Q (.bl true) M
theorem rd__law_whole (ds : List D) (M : HpD) (Q : KD) (h : sp__law_whole ds M Q) : t__law_whole { nx := fun _ M' => Q .non M', rt := Q } (startD ["_law_found"] ds) M := by
  obtain ⟨i, rfl, h⟩ := h
  unfold t__law_whole
  walk_at "st"
  refine rd_isi rfl (by decide) ?_
  refine ⟨true, rfl, ?_⟩
  rw [if_pos rfl]
  walk_at "st"
  refine rd_isi rfl (by decide) ?_
  exact ⟨false, rfl, .inl h⟩
noncomputable def kinds : Str := "nntt"
noncomputable def sp__law_rows_kind : SpD := fun ds M Q => ∃ (d : D) (zs : List (Pap × Pap)), ds = [d, .str kinds] ∧ listD d M = some (zs.map encHo) ∧ Q (.bl true) M
noncomputable def minL (a : Int) (l : List Int) : Int := l.foldl min a
section
variable (d g : Int)
noncomputable def gp (p q : Pap) : Int := if gapB (p, q) = true then g else 0
noncomputable def stp (p : Pap) (r : List Pap) (vs : List Int) : List Int := (List.range r.length).map fun (i : Nat) => d * (i : Int) + gp g p (r.getD i p) + vs.getD i 0
noncomputable def mw (p : Pap) (r : List Pap) (vs : List Int) : Int := minL (d * (r.length : Int)) (stp d g p r vs)
noncomputable def wt : List Pap → List Int
  | [] => []
  | p :: r => mw d g p r (wt r) :: wt r
noncomputable def W (p : Pap) (r : List Pap) : Int := mw d g p r (wt d g r)
theorem drop_at {α : Type} {c : List α} {i : Nat} {p : α} (h : c[i]? = some p) : c.drop i = p :: c.drop (i + 1) := by
  obtain ⟨h1, h2⟩ := List.getElem?_eq_some_iff.mp h
  rw [← h2, List.getElem_cons_drop]
noncomputable def sel (p : Pap) (wp : Int) (k : Nat) : List Pap → List Pap
  | [] => []
  | q :: r => if wp ≠ d * ((k + r.length + 1 : Nat) : Int) ∧ wp = d * (k : Int) + gp g p q + W d g q r then q :: sel q (W d g q r) 0 r else sel p wp (k + 1) r
noncomputable def told (p : Pap) (r : List Pap) : List Pap := sel d g p (W d g p r) 0 r
end
local macro_rules | `(tactic| walk_at "st1") => `(tactic| first
  | refine rd_seq ?_
  | refine rd_asg ?_
  | refine rd_gname ?_
  | refine rd_op ?_
  | refine rd_c ?_
  | refine rd_var rfl ?_
  | refine rd_rN ?_
  | refine rd_rI (by first | exact .inl ⟨by decide, by decide⟩ | exact .inr ⟨by decide, by decide⟩ | exact ⟨by decide, by decide⟩ | (show (0 : Int) < _; first | decide | omega) | exact .inl ⟨by omega, by omega⟩ | (constructor <;> omega)) ?_
  | refine rd_eqAI ?_
  | refine rd_app ?_
  | refine rd_ret ?_
  | refine rd_max2 ?_
  | refine rd_min2 ?_
  | refine rd_and ?_
  | refine rd_or ?_
  | refine rd_not ?_
  | refine rd_gtup rfl ?_
  | refine rd_gcons ?_
  | refine rd_gnil ?_
  | refine rd_comp ?_
  | refine rd_if0 ?_
  | refine rd_neg ?_
  | refine rd_tru ?_
  | refine rd_andV ?_
  | refine rd_notV ?_
  | refine rd_mx ?_
  | refine rd_cons ?_
  | refine rd_nil ?_
  | refine rd_tup ?_
  | refine rd_lst ?_
  | refine rd_test ?_
  | refine rd_ifS ?_
  | refine rd_call ?_
  | refine rd_next ?_
  | refine rd_drop ?_
  | refine rd_sl ?_
  | refine rd_nopart ?_
  | refine rd_part ?_
  | refine rd_iseq ?_
  | refine rd_for ?_
  | refine rd_forG ?_
  | refine rd_compG ?_
  | refine rd_iseqG ?_
  | refine rd_ienum ?_
  | refine rd_izip ?_
  | refine rd_join ?_
  | refine rd_ins ?_
  | refine rd_lstRng ?_
  | refine rd_din ?_
  | refine rd_dget ?_
  | refine rd_compDc ?_
  | refine rd_izts ?_
  | refine rd_lstZip ?_
  | refine rd_irev ?_
  | refine rd_sortLam ?_
  | refine rd_ifE ?_
  | refine rd_pop ?_
  | refine rd_ext ?_
  | refine rd_dput ?_
  | refine rd_isN ?_
  | refine rd_isB ?_
  | refine ⟨line_of (Nat.le_of_ble_eq_true rfl), ?_⟩
  | refine rd_gsub ?_
  | refine rd_irng1 ?_
  | refine rd_irng2 ?_
  | refine rd_ix rfl rfl ?_
  | refine rd_len rfl ?_
  | refine ⟨_, rfl, ?_⟩)
noncomputable abbrev qW : Str := "whole_chain.<locals>.<lambda>"
theorem at_map {α : Type} {f : α → D} {c : List α} {i : Nat} {p : α} (h : c[i]? = some p) : atI (c.map f) (i : Int) = some (f p) := atI_nat (by rw [List.getElem?_map, h]; rfl)
noncomputable def Self (d : D) : Prop := okD d d = true ∧ eqD d d = true ∧ depD d ≤ 5
theorem selfs {α : Type} {f : α → D} : ∀ (l : List α), (∀ a ∈ l, Self (f a)) → okDs (l.map f) (l.map f) = true ∧ eqDs (l.map f) (l.map f) = true ∧ depDs (l.map f) ≤ 5
  | [], _ => by simp [okDs, eqDs, depDs]
  | a :: l, h => by
    obtain ⟨h1, h2, h3⟩ := h a List.mem_cons_self
    obtain ⟨g1, g2, g3⟩ := selfs l fun b hb => h b (List.mem_cons_of_mem _ hb)
    rw [List.map_cons]
    unfold okDs eqDs depDs
    rw [h1, h2, g1, g2]
    exact ⟨rfl, rfl, by omega⟩
theorem rd_eqLL {α : Type} {f : α → D} {neg : Bool} {x y : D} {l : List α} {M : HpD} {Q : KD} (hs : ∀ a ∈ l, Self (f a)) (hx : listD x M = some (l.map f)) (hy : listD y M = some (l.map f)) (q : Q (.bl (neg ^^ true)) M) : rEqA neg x y M Q := by
  obtain ⟨g1, g2, g3⟩ := selfs l hs
  refine rd_eqA ?_ ?_ ?_
  · rw [view_list hx, view_list hy]; exact g1
  · rw [view_list hx]; unfold depD; omega
  · rw [view_list hx, view_list hy]
    have : eqD (.lst (l.map f)) (.lst (l.map f)) = true := by unfold eqD; exact g2
    rw [this]; exact q
structure Drawn (Pt b : Addr) (nms : List Str) (hm : Int × Str × Int) (ps : List Pap) (pd pg : Int) (M : HpD) : Prop where
  T : M Pt = some (.tab qW)
  bP : Pt ≠ b
  bx : ∃ o, M b = some o ∧ BoxO o
  okh : OkH nms hm
  pl : ps.length ≤ 60
  num : (ps.map (·.n)).Nodup
  day : (ps.map (·.d)).Nodup
  one : ∀ p ∈ ps, 1 ≤ p.n ∧ p.n ≤ 2400 ∧ hm.1 < p.d ∧ p.d ≤ hm.1 + 2500 ∧ p.a ∈ nms ∧ p.b ∈ nms ∧ 0 ≤ p.g ∧ p.g ≤ 9
  p1 : 1 ≤ pd ∧ pd ≤ 9 ∧ 1 ≤ pg ∧ pg ≤ 9
noncomputable def KindOk (x : Str) (us : List D) : Prop := us.length = x.length ∧ ∀ (i : Nat) (u : D) (c : Nat), us[i]? = some u → x.cps[i]? = some c → (c = 110 ∧ ∃ k, u = .int k) ∨ (c = 116 ∧ ∃ k, u = .str k)
noncomputable def sp__law_rows_kind2 : SpD := fun ds M Q => ∃ (d : D) (x : Str) (rows : List (List D)), ds = [d, .str x] ∧ listD d M = some (rows.map D.tup) ∧ x.cps.all (· < 128) = true ∧ x.length ≤ 100 ∧ (∀ us ∈ rows, KindOk x us) ∧ Q (.bl true) M
theorem rd__law_rows_kind2 (ds : List D) (M : HpD) (Q : KD) (h : sp__law_rows_kind2 ds M Q) : t__law_rows_kind sp__law_whole { nx := fun _ M' => Q .non M', rt := Q } (startD ["_law_found", "_law_kinds", "_law_row", "_law_part", "_law_sort"] ds) M := by
  obtain ⟨d, x, rows, rfl, hd, hx, xl, ok, h⟩ := h
  unfold t__law_rows_kind
  walk_at "st"
  refine rd_isi (t := "list") (by rw [view_list hd]; rfl) (by decide) ?_
  refine ⟨true, by unfold truD; rfl, ?_⟩
  rw [if_neg (by decide)]
  walk_at "st"
  refine ⟨_, hd, fun i σ M' => M' = M ∧ ∃ v2 v3 v4, σ = [some d, some (.str x), v2, v3, v4], ⟨rfl, _, _, _, rfl⟩, fun i σ M' z => by rw [z.1]; exact hd, ?_, ?_⟩
  · rintro i e σ M' he ⟨rfl, v2, v3, v4, rfl⟩
    rw [List.getElem?_map] at he
    cases q : rows[i]? with
    | none => rw [q] at he; cases he
    | some us =>
      rw [q] at he; cases he
      obtain ⟨k1, k2⟩ := ok us (List.mem_of_getElem? q)
      walk_at "st"
      refine rd_isi (t := "tuple") rfl (by decide) ?_
      refine ⟨true, by unfold truD; rfl, ?_⟩
      rw [if_neg (by decide)]
      walk_at "st"
      refine rd_lenS (line_of (by omega)) ?_
      walk_at "st"
      rw [k1]
      rw [if_neg (by simp)]
      walk_at "st"
      refine ⟨_, x, rfl, hx, fun i σ M2 => M2 = M' ∧ ∃ v3 v4, σ = [some d, some (.str x), some (.tup us), v3, v4], ⟨rfl, _, _, rfl⟩, fun _ _ _ _ => trivial, ?_, ?_⟩
      · rintro j e σ M2 he ⟨rfl, v3, v4, rfl⟩
        obtain ⟨u, c, hu, hc, rfl⟩ := zipT_get he
        walk_at "st"
        refine rd_eqS ?_
        refine ⟨_, rfl, ?_⟩
        rcases k2 j u c hu hc with ⟨rfl, k, rfl⟩ | ⟨rfl, k, rfl⟩
        · rw [if_pos (by decide +kernel)]
          refine rd_not (rd_tru (rd_call (rd_cons (rd_var rfl (rd_nil ⟨k, rfl, ?_⟩)))))
          refine ⟨true, by unfold truD; rfl, ?_⟩
          rw [if_neg (by decide)]
          walk_at "st"
          refine rd_eqS ?_
          refine ⟨_, rfl, ?_⟩
          rw [if_neg (by decide +kernel)]
          walk_at "st"
          exact ⟨rfl, _, _, rfl⟩
        · rw [if_neg (by decide +kernel)]
          walk_at "st"
          refine rd_eqS ?_
          refine ⟨_, rfl, ?_⟩
          rw [if_pos (by decide +kernel)]
          walk_at "st"
          refine rd_isi (t := "str") rfl (by decide) ?_
          refine ⟨true, by unfold truD; rfl, ?_⟩
          rw [if_neg (by decide)]
          exact rd_next ⟨rfl, _, _, rfl⟩
      · rintro σ M2 ⟨rfl, v3, v4, rfl⟩
        exact ⟨rfl, _, _, _, rfl⟩
  · rintro σ M' ⟨rfl, v2, v3, v4, rfl⟩
    walk_at "st"
    exact .inl h
noncomputable def t__law_meet : TSD :=
  (tRetD (tOpD rLeD (tCallD cMax2 (tConsD (tOpD rIxD (tVarD 0) (tCD (.int 0))) (tConsD (tOpD rIxD (tVarD 1) (tCD (.int 0))) tNilD))) (tCallD cMin2 (tConsD (tOpD rIxD (tVarD 0) (tCD (.int 1))) (tConsD (tOpD rIxD (tVarD 1) (tCD (.int 1))) tNilD)))))
noncomputable def t_apart : TSD :=
  (tRetD (tOpD rGtD (tCallD cMax2 (tConsD (tOpD rIxD (tVarD 0) (tCD (.int 0))) (tConsD (tOpD rIxD (tVarD 1) (tCD (.int 0))) tNilD))) (tCallD cMin2 (tConsD (tOpD rIxD (tVarD 0) (tCD (.int 1))) (tConsD (tOpD rIxD (tVarD 1) (tCD (.int 1))) tNilD)))))
noncomputable def t_barred : TSD :=
  (tRetD (tOrVD (tOpD (rInA false) (tTupD (tConsD (tVarD 0) (tConsD (tVarD 1) tNilD))) (tVarD 2)) (tOpD (rInA false) (tTupD (tConsD (tVarD 1) (tConsD (tVarD 0) tNilD))) (tVarD 2))))
noncomputable def t_clashes (sp_apart sp_barred : SpD) : TSD :=
  (tSeqD (tAsgD (tCallD cSortedL (tConsD (tVarD 0) tNilD)) (gNameD 2))
  (tSeqD (tAsgD (tLstD tNilD) (gNameD 3))
  (tSeqD (tForG (iEnumG (tConsD (tVarD 2) tNilD)) (gTupD 2 (gConsD (gNameD 4) (gConsD (gTupD 4 (gConsD (gNameD 5) (gConsD (gNameD 6) (gConsD (gNameD 7) (gConsD (gNameD 8) gNilD))))) gNilD))) (tForG (iSeqG (tSlD (tVarD 2) (tPartD (tOpD rAddD (tVarD 4) (tCD (.int 1)))) tNoPartD)) (gTupD 4 (gConsD (gNameD 9) (gConsD (gNameD 10) (gConsD (gNameD 11) (gConsD (gNameD 12) gNilD))))) (tSeqD (tIfSD (tTruD (tCallD sp_apart (tConsD (tTupD (tConsD (tVarD 7) (tConsD (tVarD 8) tNilD))) (tConsD (tTupD (tConsD (tVarD 11) (tConsD (tVarD 12) tNilD))) tNilD)))) (tDropD (tAppD (tVarD 3) (tTupD (tConsD (tVarD 5) (tConsD (tVarD 9) (tConsD (tCD (.str "damp")) tNilD)))))) tNextD)
  (tIfSD (tTruD (tCallD sp_barred (tConsD (tVarD 6) (tConsD (tVarD 10) (tConsD (tVarD 1) tNilD))))) (tDropD (tAppD (tVarD 3) (tTupD (tConsD (tVarD 5) (tConsD (tVarD 9) (tConsD (tCD (.str "kind")) tNilD)))))) tNextD))))
  (tRetD (tVarD 3)))))
noncomputable def t_law (sp__law_box sp__law_places sp__law_count sp__law_named sp__law_ranges sp__law_take sp__law_meet sp_clashes sp__law_rows_kind : SpD) : TSD :=
  (tSeqD (tAsgD (tCallD sp__law_box (tConsD (tVarD 0) tNilD)) (gNameD 1))
  (tSeqD (tAsgD (tSlD (tCallD sp__law_places (tConsD (tVarD 1) tNilD)) tNoPartD (tPartD (tCD (.int 4)))) (gNameD 2))
  (tSeqD (tAsgD (tLstD tNilD) (gNameD 3))
  (tSeqD (tForD (iRng1D (tConsD (tCallD sp__law_count (tConsD (tVarD 1) (tConsD (tCD (.int 6)) (tConsD (tCD (.int 12)) tNilD)))) tNilD)) (gNameD 4) (tSeqD (tAsgD (tCallD sp__law_named (tConsD (tVarD 1) tNilD)) (gNameD 5))
  (tIfSD (tTestD (tOpD (rInD true) (tVarD 5) (tVarD 3))) (tDropD (tAppD (tVarD 3) (tVarD 5))) tNextD)))
  (tSeqD (tAsgD (tCallD sp__law_ranges (tConsD (tVarD 1) (tConsD (tCallD cLen (tConsD (tVarD 3) tNilD)) tNilD))) (gNameD 6))
  (tSeqD (tAsgD (tCompG 2 (iZipG (tConsD (tVarD 3) (tConsD (tVarD 6) tNilD))) (gTupD 2 (gConsD (gNameD 0) (gConsD (gNameD 1) gNilD))) tIf0D (tOpD rCatTD (tTupD (tConsD (tVarD 0) (tConsD (tOpD rIxD (tVarD 4) (tCallD sp__law_take (tConsD (tVarD 3) (tConsD (tCallD cLen (tConsD (tVarD 4) tNilD)) tNilD)))) tNilD))) (tVarD 1))) (gNameD 8))
  (tSeqD (tAsgD (tLstD tNilD) (gNameD 9))
  (tSeqD (tForD (iRng1D (tConsD (tCallD sp__law_take (tConsD (tVarD 1) (tConsD (tCD (.int 7)) tNilD))) tNilD)) (gNameD 4) (tSeqD (tAsgD (tTupD (tConsD (tOpD rIxD (tVarD 2) (tCallD sp__law_take (tConsD (tVarD 1) (tConsD (tCallD cLen (tConsD (tVarD 2) tNilD)) tNilD)))) (tConsD (tOpD rIxD (tVarD 2) (tCallD sp__law_take (tConsD (tVarD 1) (tConsD (tCallD cLen (tConsD (tVarD 2) tNilD)) tNilD)))) tNilD))) (gNameD 7))
  (tIfSD (tAndD (tTestD (tOpD (rInA true) (tTupD (tConsD (tOpD rIxD (tVarD 7) (tCD (.int 1))) (tConsD (tOpD rIxD (tVarD 7) (tCD (.int 0))) tNilD))) (tVarD 9))) (tTestD (tOpD (rInA true) (tVarD 7) (tVarD 9)))) (tDropD (tAppD (tVarD 9) (tVarD 7))) tNextD)))
  (tSeqD (tAsgD (tLstD tNilD) (gNameD 10))
  (tSeqD (tForG (iSeqG (tVarD 8)) (gNameD 11) (tForG (iSeqG (tVarD 8)) (gNameD 12) (tIfSD (tTestD (tOpD rLtS (tOpD rIxD (tVarD 11) (tCD (.int 0))) (tOpD rIxD (tVarD 12) (tCD (.int 0))))) (tSeqD (tIfSD (tNotD (tTruD (tCallD sp__law_meet (tConsD (tSlTD (tVarD 11) (tPartD (tCD (.int 2))) tNoPartD) (tConsD (tSlTD (tVarD 12) (tPartD (tCD (.int 2))) tNoPartD) tNilD))))) (tDropD (tAppD (tVarD 10) (tTupD (tConsD (tOpD rIxD (tVarD 11) (tCD (.int 0))) (tConsD (tOpD rIxD (tVarD 12) (tCD (.int 0))) (tConsD (tCD (.str "damp")) tNilD)))))) tNextD)
  (tIfSD (tOrD (tTestD (tOpD (rInA false) (tTupD (tConsD (tOpD rIxD (tVarD 11) (tCD (.int 1))) (tConsD (tOpD rIxD (tVarD 12) (tCD (.int 1))) tNilD))) (tVarD 9))) (tTestD (tOpD (rInA false) (tTupD (tConsD (tOpD rIxD (tVarD 12) (tCD (.int 1))) (tConsD (tOpD rIxD (tVarD 11) (tCD (.int 1))) tNilD))) (tVarD 9)))) (tDropD (tAppD (tVarD 10) (tTupD (tConsD (tOpD rIxD (tVarD 11) (tCD (.int 0))) (tConsD (tOpD rIxD (tVarD 12) (tCD (.int 0))) (tConsD (tCD (.str "kind")) tNilD)))))) tNextD)) tNextD)))
  (tSeqD (tAsgD (tLstD (tConsD (tCallD cList (tConsD (tVarD 8) tNilD)) (tConsD (tCallD cList (tConsD (tVarD 9) tNilD)) tNilD))) (gNameD 13))
  (tSeqD (tForD (iRng1D (tConsD (tCD (.int 2)) tNilD)) (gNameD 14) (tSeqD (tAsgD (tCallD sp_clashes (tConsD (tOpD rIxD (tVarD 13) (tCD (.int 0))) (tConsD (tOpD rIxD (tVarD 13) (tCD (.int 1))) tNilD))) (gNameD 15))
  (tSeqD (tIfSD (tOrD (tNotD (tTruD (tCallD sp__law_rows_kind (tConsD (tVarD 15) (tConsD (tCD (.str "ttt")) tNilD))))) (tOrD (tTestD (tOpD (rEqA true) (tVarD 15) (tCallD cSortedL (tConsD (tVarD 10) tNilD)))) (tTestD (tOpD rNeP (tVarD 13) (tLstD (tConsD (tVarD 8) (tConsD (tVarD 9) tNilD))))))) (tRetD (tCD (.bl false))) tNextD)
  (tDropD (tAppD (tVarD 15) (tTupD (tConsD (tCD (.str "a")) (tConsD (tCD (.str "b")) (tConsD (tCD (.str "damp")) tNilD)))))))))
  (tRetD (tCD (.bl true)))))))))))))))
inductive Sh : List Bool → List D → Prop
  | nil : Sh [] []
  | int {s r} (i : Int) : Sh s r → Sh (true :: s) (.int i :: r)
  | str {s r} (x : Str) : Sh s r → Sh (false :: s) (.str x :: r)
theorem eqI (a b : Int) : eqD (.int a) (.int b) = decide (a = b) := by
  unfold eqD
  by_cases z : a = b <;> simp [z]
theorem eqS (a b : Str) : eqD (.str a) (.str b) = decide (a = b) := by
  unfold eqD
  by_cases z : a = b <;> simp [z]
theorem cps_inj {a b : Str} (h : a.cps.toList = b.cps.toList) : a = b := by
  cases a; cases b
  simp only [Str.mk.injEq]
  exact Array.toList_inj.mp h
theorem ltT_int (i j : Int) (r s : List D) : ltT (.int i :: r) (.int j :: s) = if i = j then ltT r s else decide (i < j) := by
  rw [ltT, eqI]
  by_cases z : i = j
  · rw [decide_eq_true z, if_pos rfl, if_pos z]
  · rw [decide_eq_false z, if_neg (by decide), if_neg z]; rfl
theorem ltT_str (i j : Str) (r s : List D) : ltT (.str i :: r) (.str j :: s) = if i = j then ltT r s else decide (i.cps.toList < j.cps.toList) := by
  rw [ltT, eqS]
  by_cases z : i = j
  · rw [decide_eq_true z, if_pos rfl, if_pos z]
  · rw [decide_eq_false z, if_neg (by decide), if_neg z]; rfl
theorem ltT_irr : ∀ {s : List Bool} {a : List D}, Sh s a → ltT a a = false
  | _, _, .nil => rfl
  | _, _, .int i h => by rw [ltT_int, if_pos rfl]; exact ltT_irr h
  | _, _, .str x h => by rw [ltT_str, if_pos rfl]; exact ltT_irr h
theorem lts_tri (a b : List Nat) : a < b ∨ a = b ∨ b < a := by
  by_cases h1 : a < b
  · exact .inl h1
  · by_cases h2 : b < a
    · exact .inr (.inr h2)
    · exact .inr (.inl (List.le_antisymm (List.not_lt.mp h2) (List.not_lt.mp h1)))
theorem ltT_tr : ∀ {s : List Bool} {a b c : List D}, Sh s a → Sh s b → Sh s c → ltT a b = true → ltT b c = true → ltT a c = true
  | _, _, _, _, .nil, .nil, .nil, h, _ => h
  | _, _, _, _, .int i h1, .int j h2, .int k h3, p, q => by
    rw [ltT_int] at p q ⊢
    by_cases e1 : i = j
    · rw [if_pos e1] at p
      by_cases e2 : j = k
      · rw [if_pos e2] at q; rw [if_pos (e1.trans e2)]; exact ltT_tr h1 h2 h3 p q
      · rw [if_neg e2] at q; rw [if_neg (by omega), e1]; exact q
    · rw [if_neg e1] at p
      have p := of_decide_eq_true p
      by_cases e2 : j = k
      · rw [if_neg (by omega)]; exact decide_eq_true (by omega)
      · rw [if_neg e2] at q
        have q := of_decide_eq_true q
        rw [if_neg (by omega)]; exact decide_eq_true (by omega)
  | _, _, _, _, .str i h1, .str j h2, .str k h3, p, q => by
    rw [ltT_str] at p q ⊢
    by_cases e1 : i = j
    · rw [if_pos e1] at p
      by_cases e2 : j = k
      · rw [if_pos e2] at q; rw [if_pos (e1.trans e2)]; exact ltT_tr h1 h2 h3 p q
      · rw [if_neg e2] at q; rw [if_neg (by rw [e1]; exact e2), e1]; exact q
    · rw [if_neg e1] at p
      have p := of_decide_eq_true p
      by_cases e2 : j = k
      · rw [← e2, if_neg e1]; exact decide_eq_true p
      · rw [if_neg e2] at q
        have q := of_decide_eq_true q
        have pq := List.lt_trans p q
        rw [if_neg (fun z => by rw [z] at pq; exact List.lt_irrefl _ pq)]; exact decide_eq_true pq
theorem ltT_tot : ∀ {s : List Bool} {a b : List D}, Sh s a → Sh s b → ltT a b = false → ltT b a = false → a = b
  | _, _, _, .nil, .nil, _, _ => rfl
  | _, _, _, .int i h1, .int j h2, p, q => by
    rw [ltT_int] at p q
    by_cases e : i = j
    · rw [if_pos e] at p; rw [if_pos e.symm] at q
      rw [e, ltT_tot h1 h2 p q]
    · rw [if_neg e] at p; rw [if_neg (Ne.symm e)] at q
      have := of_decide_eq_false p
      have := of_decide_eq_false q
      omega
  | _, _, _, .str i h1, .str j h2, p, q => by
    rw [ltT_str] at p q
    by_cases e : i = j
    · rw [if_pos e] at p; rw [if_pos e.symm] at q
      rw [e, ltT_tot h1 h2 p q]
    · rw [if_neg e] at p; rw [if_neg (Ne.symm e)] at q
      have p := of_decide_eq_false p
      have q := of_decide_eq_false q
      rcases lts_tri i.cps.toList j.cps.toList with z | z | z
      · exact absurd z p
      · exact absurd (cps_inj z) e
      · exact absurd z q
theorem cmpT_sh : ∀ {s : List Bool} {a b : List D}, Sh s a → Sh s b → cmpT a b = true
  | _, _, _, .nil, .nil => by unfold cmpT; rfl
  | _, _, _, .int i h1, .int j h2 => by
    rw [cmpT, cmpT_sh h1 h2]
    simp [okD, cmpF]
  | _, _, _, .str i h1, .str j h2 => by
    rw [cmpT, cmpT_sh h1 h2]
    simp [okD, cmpF]
theorem dep_sh : ∀ {s : List Bool} {a : List D}, Sh s a → depDs a = 0
  | _, _, .nil => by unfold depDs; rfl
  | _, _, .int i h => by rw [depDs, dep_sh h]; rfl
  | _, _, .str i h => by rw [depDs, dep_sh h]; rfl
theorem lin_of {α : Type} {f : α → List D} {s : List Bool} (h : ∀ a, Sh s (f a)) (inj : ∀ a b, f a = f b → a = b) : LinLt fun a b => ltD (.tup (f a)) (.tup (f b)) :=
  ⟨fun a => ltT_irr (h a), fun a b c p q => ltT_tr (h a) (h b) (h c) p q, fun a b p q => inj a b (ltT_tot (h a) (h b) p q)⟩
structure Thg where
  nm : Str
  kd : Str
  lo : Int
  hi : Int
noncomputable def thL (t : Thg) : List D := [.str t.nm, .str t.kd, .int t.lo, .int t.hi]
noncomputable def encTh (t : Thg) : D := .tup (thL t)
noncomputable def encB (p : Str × Str) : D := .tup [.str p.1, .str p.2]
noncomputable abbrev Tri := Str × Str × Str
noncomputable def trL (x : Tri) : List D := [.str x.1, .str x.2.1, .str x.2.2]
noncomputable def enc3 (x : Tri) : D := .tup (trL x)
theorem sh_th (t : Thg) : Sh [false, false, true, true] (thL t) := .str _ (.str _ (.int _ (.int _ .nil)))
theorem sh_tr (x : Tri) : Sh [false, false, false] (trL x) := .str _ (.str _ (.str _ .nil))
theorem th_inj (a b : Thg) (h : thL a = thL b) : a = b := by
  cases a; cases b
  unfold thL at h
  simp at h
  simp [h]
theorem tr_inj (a b : Tri) (h : trL a = trL b) : a = b := by
  obtain ⟨a1, a2, a3⟩ := a
  obtain ⟨b1, b2, b3⟩ := b
  unfold trL at h
  simp at h
  simp [h]
noncomputable def apartB (p q : Int × Int) : Bool := decide (min p.2 q.2 < max p.1 q.1)
noncomputable def inB (bs : List (Str × Str)) (a b : Str) : Bool := (bs.map encB).any fun d => eqD d (encB (a, b))
noncomputable def apT (s t : Thg) : Bool := apartB (s.lo, s.hi) (t.lo, t.hi)
noncomputable def brT (bs : List (Str × Str)) (s t : Thg) : Bool := inB bs s.kd t.kd || inB bs t.kd s.kd
noncomputable def its1 (s t : Thg) : List Tri := if apT s t = true then [(s.nm, t.nm, "damp")] else []
noncomputable def its2 (bs : List (Str × Str)) (s t : Thg) : List Tri := if brT bs s t = true then [(s.nm, t.nm, "kind")] else []
noncomputable def its (bs : List (Str × Str)) (s t : Thg) : List Tri := its1 s t ++ its2 bs s t
noncomputable def fnd (bs : List (Str × Str)) : List Thg → List Tri
  | [] => []
  | s :: R => R.flatMap (its bs s) ++ fnd bs R
noncomputable def ltN (a b : Str) : Bool := decide (a.cps.toList < b.cps.toList)
noncomputable def dueT (bs : List (Str × Str)) (s : Thg) (l : List Thg) : List Tri := l.flatMap fun t => if ltN s.nm t.nm = true then its bs s t else []
noncomputable def due (bs : List (Str × Str)) (l : List Thg) : List Tri := l.flatMap fun s => dueT bs s l
theorem its_len (bs : List (Str × Str)) (s t : Thg) : (its bs s t).length ≤ 2 := by
  unfold its its1 its2
  rw [List.length_append]
  split <;> split <;> simp
theorem dueT_len (bs : List (Str × Str)) (s : Thg) : ∀ l : List Thg, (dueT bs s l).length ≤ 2 * l.length
  | [] => by simp [dueT]
  | t :: l => by
    have := dueT_len bs s l
    have := its_len bs s t
    unfold dueT at *
    rw [List.flatMap_cons, List.length_append, List.length_cons]
    split
    · omega
    · rw [List.length_nil]; omega
theorem flat_len {f : Thg → List Tri} {k : Nat} (h : ∀ s, (f s).length ≤ k) : ∀ l : List Thg, (l.flatMap f).length ≤ k * l.length
  | [] => by simp
  | s :: l => by
    have := flat_len h l
    have := h s
    rw [List.flatMap_cons, List.length_append, List.length_cons, Nat.mul_add]
    omega
theorem fnd_len (bs : List (Str × Str)) : ∀ l : List Thg, (fnd bs l).length ≤ 2 * l.length * l.length
  | [] => by simp [fnd]
  | s :: l => by
    have h1 := fnd_len bs l
    have h2 := flat_len (its_len bs s) l
    unfold fnd
    rw [List.length_append, List.length_cons]
    have : 2 * (l.length + 1) * (l.length + 1) = 2 * l.length * l.length + 4 * l.length + 2 := by
      generalize l.length = a
      rw [Nat.mul_add (2 * (a + 1)) a 1, Nat.mul_one, show 2 * (a + 1) = 2 * a + 2 by omega, Nat.add_mul]; omega
    omega
theorem due_len (bs : List (Str × Str)) (l : List Thg) : (due bs l).length ≤ 2 * l.length * l.length := flat_len (fun s => dueT_len bs s l) l
theorem ltN_irr (a : Str) : ltN a a = false := decide_eq_false (List.lt_irrefl _)
theorem ltN_asym {a b : Str} (h : ltN a b = true) : ltN b a = false := decide_eq_false fun z => List.lt_irrefl _ (List.lt_trans z (of_decide_eq_true h))
noncomputable def ByNm (R : List Thg) : Prop := R.Pairwise fun s t => ltN s.nm t.nm = true
theorem dueT_at (bs : List (Str × Str)) (s : Thg) {A B : List Thg} (h : ByNm (A ++ s :: B)) : dueT bs s (A ++ s :: B) = B.flatMap (its bs s) := by
  obtain ⟨_, h2, h3⟩ := List.pairwise_append.mp h
  obtain ⟨h4, _⟩ := List.pairwise_cons.mp h2
  unfold dueT
  rw [List.flatMap_append, List.flatMap_cons]
  have e1 : A.flatMap (fun t => if ltN s.nm t.nm = true then its bs s t else []) = [] := by
    rw [List.flatMap_eq_nil_iff]
    intro t ht
    rw [if_neg (by rw [ltN_asym (h3 t ht s List.mem_cons_self)]; exact Bool.false_ne_true)]
  rw [e1, ltN_irr, if_neg Bool.false_ne_true, List.nil_append, List.nil_append]
  have e2 : ∀ l : List Thg, (∀ t ∈ l, ltN s.nm t.nm = true) → l.flatMap (fun t => if ltN s.nm t.nm = true then its bs s t else []) = l.flatMap (its bs s) := by
    intro l
    induction l with
    | nil => intro _; rfl
    | cons t l ih =>
      intro hl
      rw [List.flatMap_cons, List.flatMap_cons, if_pos (hl t List.mem_cons_self), ih fun x hx => hl x (List.mem_cons_of_mem _ hx)]
  exact e2 B h4
theorem due_fnd (bs : List (Str × Str)) : ∀ (A B : List Thg), ByNm (A ++ B) → B.flatMap (fun s => dueT bs s (A ++ B)) = fnd bs B
  | A, [], _ => rfl
  | A, s :: B, h => by
    rw [List.flatMap_cons, dueT_at bs s h]
    unfold fnd
    congr 1
    have := due_fnd bs (A ++ [s]) B (by rw [List.append_assoc]; exact h)
    rw [List.append_assoc] at this
    exact this
theorem perm_flat {f g : Thg → List Tri} (h : ∀ a, (f a).Perm (g a)) : ∀ l : List Thg, (l.flatMap f).Perm (l.flatMap g)
  | [] => List.Perm.refl _
  | a :: l => by
    rw [List.flatMap_cons, List.flatMap_cons]
    exact (h a).append (perm_flat h l)
theorem perm_due (bs : List (Str × Str)) {l R : List Thg} (pm : R.Perm l) (h : ByNm R) : (fnd bs R).Perm (due bs l) := by
  rw [← due_fnd bs [] R h]
  show (R.flatMap fun s => dueT bs s R).Perm (l.flatMap fun s => dueT bs s l)
  refine (pm.flatMap_right _).trans ?_
  exact perm_flat (fun s => pm.flatMap_right _) l
theorem fst_fnd {bs : List (Str × Str)} : ∀ {R : List Thg} {x : Tri}, x ∈ fnd bs R → ∃ s ∈ R, x.1 = s.nm
  | s :: R, x, h => by
    unfold fnd at h
    rcases List.mem_append.mp h with h | h
    · obtain ⟨t, _, h⟩ := List.mem_flatMap.mp h
      refine ⟨s, List.mem_cons_self, ?_⟩
      unfold its its1 its2 at h
      rcases List.mem_append.mp h with h | h <;> (split at h <;> simp at h <;> rw [h])
    · obtain ⟨t, ht, e⟩ := fst_fnd h
      exact ⟨t, List.mem_cons_of_mem _ ht, e⟩
theorem mem_its {bs : List (Str × Str)} {s t : Thg} {x : Tri} (h : x ∈ its bs s t) : x.1 = s.nm ∧ x.2.1 = t.nm := by
  unfold its its1 its2 at h
  rcases List.mem_append.mp h with h | h <;> (split at h <;> simp at h <;> rw [h] <;> exact ⟨rfl, rfl⟩)
noncomputable def le3 (x y : Tri) : Prop := ltD (enc3 y) (enc3 x) = false
theorem le3_fst {x y : Tri} (h : ltN x.1 y.1 = true) : le3 x y := by
  show ltT (trL y) (trL x) = false
  unfold trL
  have ne : y.1 ≠ x.1 := fun z => by rw [z, ltN_irr] at h; cases h
  rw [ltT_str, if_neg ne]
  exact ltN_asym h
theorem le3_snd {x y : Tri} (h0 : x.1 = y.1) (h : ltN x.2.1 y.2.1 = true) : le3 x y := by
  show ltT (trL y) (trL x) = false
  unfold trL
  have ne : y.2.1 ≠ x.2.1 := fun z => by rw [z, ltN_irr] at h; cases h
  rw [ltT_str, if_pos h0.symm, ltT_str, if_neg ne]
  exact ltN_asym h
theorem srt_its (bs : List (Str × Str)) (s t : Thg) : (its bs s t).Pairwise le3 := by
  unfold its its1 its2
  split <;> split <;> simp
  show ltT _ _ = false
  unfold trL
  rw [ltT_str, if_pos rfl, ltT_str, if_pos rfl, ltT_str, if_neg (show ¬ ("kind" : Str) = "damp" by decide +kernel)]
  show decide (("kind" : Str).cps.toList < ("damp" : Str).cps.toList) = false
  decide +kernel
theorem srt_flat (bs : List (Str × Str)) (s : Thg) : ∀ (R : List Thg), ByNm R → (R.flatMap (its bs s)).Pairwise le3
  | [], _ => List.Pairwise.nil
  | t :: R, h => by
    obtain ⟨h1, h2⟩ := List.pairwise_cons.mp h
    rw [List.flatMap_cons]
    refine List.pairwise_append.mpr ⟨srt_its bs s t, srt_flat bs s R h2, fun x hx y hy => ?_⟩
    obtain ⟨u, hu, hy⟩ := List.mem_flatMap.mp hy
    obtain ⟨a1, a2⟩ := mem_its hx
    obtain ⟨b1, b2⟩ := mem_its hy
    exact le3_snd (a1.trans b1.symm) (by rw [a2, b2]; exact h1 u hu)
theorem srt_fnd (bs : List (Str × Str)) : ∀ (R : List Thg), ByNm R → (fnd bs R).Pairwise le3
  | [], _ => List.Pairwise.nil
  | s :: R, h => by
    obtain ⟨h1, h2⟩ := List.pairwise_cons.mp h
    unfold fnd
    refine List.pairwise_append.mpr ⟨srt_flat bs s R h2, srt_fnd bs R h2, fun x hx y hy => ?_⟩
    obtain ⟨t, _, hx⟩ := List.mem_flatMap.mp hx
    obtain ⟨a1, _⟩ := mem_its hx
    obtain ⟨u, hu, b1⟩ := fst_fnd hy
    exact le3_fst (by rw [a1, b1]; exact h1 u hu)
theorem byNm_of {l R : List Thg} (pm : R.Perm l) (nd : (l.map (·.nm)).Nodup) (sr : R.Pairwise fun a b => ltD (encTh b) (encTh a) = false) : ByNm R := by
  have nr : (R.map (·.nm)).Nodup := (pm.map _).nodup_iff.mpr nd
  have nr := List.pairwise_map.mp nr
  refine (sr.and nr).imp fun {a b} ⟨h1, h2⟩ => ?_
  have h1 : ltT (thL b) (thL a) = false := h1
  unfold thL at h1
  rw [ltT_str, if_neg (Ne.symm h2)] at h1
  have h1 := of_decide_eq_false h1
  rcases lts_tri a.nm.cps.toList b.nm.cps.toList with z | z | z
  · exact decide_eq_true z
  · exact absurd (cps_inj z) h2
  · exact absurd z h1
theorem due_one (bs : List (Str × Str)) {l R : List Thg} {S : List Tri} (pm : R.Perm l) (h : ByNm R) (ps : S.Perm (due bs l)) (ss : S.Pairwise fun a b => ltD (enc3 b) (enc3 a) = false) : S = fnd bs R := by
  have L := lin_of sh_tr tr_inj
  refine List.Perm.eq_of_pairwise (le := le3) (fun a b _ _ h1 h2 => L.tot a b h2 h1) ss (srt_fnd bs R h) (ps.trans (perm_due bs pm h).symm)
theorem szk {n : Nat} (h : n < 900) : n < sizeLine := Nat.lt_of_lt_of_le h (line_of (Nat.le_of_ble_eq_true rfl))
theorem cut_from (ds : List D) (i : Nat) : L2.cutD ds (some ((i : Int) + 1)) none = ds.drop (i + 1) := by
  unfold L2.cutD
  have e2 : HT.sIx ds.length ds.length none = ds.length := by unfold HT.sIx; rfl
  by_cases h : i + 1 ≤ ds.length
  · have e1 : HT.sIx ds.length 0 (some ((i : Int) + 1)) = i + 1 := by
      unfold HT.sIx; simp; rw [if_neg (by omega)]; omega
    rw [e1, e2, List.take_of_length_le (by simp)]
  · have e1 : HT.sIx ds.length 0 (some ((i : Int) + 1)) = ds.length := by
      unfold HT.sIx; simp; rw [if_neg (by omega)]; omega
    rw [e1, e2, Nat.sub_self, List.take_zero, List.drop_eq_nil_of_le (by omega)]
theorem cut_to4 (ds : List D) : L2.cutD ds none (some 4) = ds.take 4 := by
  unfold L2.cutD
  have e1 : HT.sIx ds.length 0 none = 0 := by unfold HT.sIx; rfl
  have e2 : HT.sIx ds.length ds.length (some 4) = min 4 ds.length := by unfold HT.sIx; simp
  rw [e1, e2, List.drop_zero, Nat.sub_zero]
  by_cases h : 4 ≤ ds.length
  · rw [Nat.min_eq_left h]
  · rw [Nat.min_eq_right (by omega), List.take_of_length_le (Nat.le_refl _), List.take_of_length_le (by omega)]
noncomputable def sp_apart : SpD := fun ds M Q => ∃ p q, ds = [encR p, encR q] ∧ Q (.bl (apartB p q)) M
theorem rd_apart (ds : List D) (M : HpD) (Q : KD) (h : sp_apart ds M Q) : t_apart { nx := fun _ M' => Q .non M', rt := Q } (startD ["one", "other"] ds) M := by
  obtain ⟨p, q, rfl, h⟩ := h
  unfold t_apart
  walk_at "st"
  exact .inl h
noncomputable def sp__law_meet : SpD := fun ds M Q => ∃ p q, ds = [encR p, encR q] ∧ Q (.bl (!apartB p q)) M
theorem rd__law_meet (ds : List D) (M : HpD) (Q : KD) (h : sp__law_meet ds M Q) : t__law_meet { nx := fun _ M' => Q .non M', rt := Q } (startD ["_law_one", "_law_other"] ds) M := by
  obtain ⟨p, q, rfl, h⟩ := h
  unfold t__law_meet
  walk_at "st"
  have e : (!apartB p q) = decide (max p.1 q.1 ≤ min p.2 q.2) := by
    unfold apartB
    by_cases z : min p.2 q.2 < max p.1 q.1
    · rw [decide_eq_true z, decide_eq_false (by omega)]; rfl
    · rw [decide_eq_false z, decide_eq_true (by omega)]; rfl
  rw [e] at h
  exact .inl h
theorem ok_B (p q : Str × Str) : okD (encB p) (encB q) = true ∧ depD (encB p) ≤ 50 := by simp [encB, okD, okDs, depD, depDs]
theorem ok_Bs (bs : List (Str × Str)) (q : Str × Str) : ∀ d ∈ bs.map encB, okD d (encB q) = true ∧ depD d ≤ 50 := fun d hd => by
  obtain ⟨p, _, rfl⟩ := List.mem_map.mp hd
  exact ok_B p q
noncomputable def sp_barred : SpD := fun ds M Q => ∃ (a b : Str) (d : D) (bs : List (Str × Str)), ds = [.str a, .str b, d] ∧ listD d M = some (bs.map encB) ∧ Q (.bl (inB bs a b || inB bs b a)) M
theorem rd_barred (ds : List D) (M : HpD) (Q : KD) (h : sp_barred ds M Q) : t_barred { nx := fun _ M' => Q .non M', rt := Q } (startD ["one", "other", "bars"] ds) M := by
  obtain ⟨a, b, d, bs, rfl, hd, h⟩ := h
  unfold t_barred
  refine rd_ret (rd_orV ?_)
  walk_at "st"
  refine rd_inA (x := encB (a, b)) hd (ok_Bs bs _) ?_
  refine ⟨_, rfl, ?_⟩
  show if (inB bs a b) = true then _ else _
  cases e : inB bs a b with
  | true =>
    rw [e] at h
    rw [if_pos rfl]
    exact .inl h
  | false =>
    rw [e, Bool.false_or] at h
    rw [if_neg (by decide)]
    walk_at "st"
    refine rd_inA (x := encB (b, a)) hd (ok_Bs bs _) ?_
    exact .inl h
theorem srtK_th (l : List Thg) : SrtK (l.map encTh) := .tupS (fun d hd => by
    obtain ⟨t, _, rfl⟩ := List.mem_map.mp hd
    exact ⟨t.nm, _, rfl, by have := dep_sh (sh_th t); unfold thL at this; rw [this]; decide⟩) fun a b ha hb => by
    obtain ⟨s, _, es⟩ := List.mem_map.mp ha
    obtain ⟨t, _, et⟩ := List.mem_map.mp hb
    cases es; cases et
    exact cmpT_sh (sh_th s) (sh_th t)
theorem srtK_tr (l : List Tri) : SrtK (l.map enc3) := .tupS (fun d hd => by
    obtain ⟨t, _, rfl⟩ := List.mem_map.mp hd
    exact ⟨t.1, _, rfl, by have := dep_sh (sh_tr t); unfold trL at this; rw [this]; decide⟩) fun a b ha hb => by
    obtain ⟨s, _, es⟩ := List.mem_map.mp ha
    obtain ⟨t, _, et⟩ := List.mem_map.mp hb
    cases es; cases et
    exact cmpT_sh (sh_tr s) (sh_tr t)
theorem Mo.ls {M M2 : HpD} {d : D} {xs : List D} (mo : Mo M M2) (h : listD d M = some xs) : listD d M2 = some xs := by
  cases d <;> simp only [listD] at h ⊢ <;> try exact h
  rename_i p
  cases e : M p with
  | none => rw [e] at h; cases h
  | some o => rw [e] at h; rw [mo _ _ e]; exact h
noncomputable def sp_clashes : SpD := fun ds M Q => ∃ (d dB : D) (th : List Thg) (bs : List (Str × Str)), ds = [d, dB] ∧ listD d M = some (th.map encTh) ∧ th.length ≤ 12 ∧ (th.map (·.nm)).Nodup ∧ listD dB M = some (bs.map encB) ∧ ∀ M' b R, Mo M M' → M b = none → R.Perm th → ByNm R → M' b = some (.lst ((fnd bs R).map enc3)) → Q (.ref b) M'
theorem rd_clashes (ds : List D) (M : HpD) (Q : KD) (h : sp_clashes ds M Q) : t_clashes sp_apart sp_barred { nx := fun _ M' => Q .non M', rt := Q } (startD ["things", "bars", "rising", "found", "at", "name", "kind", "low", "high", "other", "other_kind", "other_low", "other_high"] ds) M := by
  obtain ⟨d, dB, th, bs, rfl, hd, hl, nd, hB, h⟩ := h
  unfold t_clashes
  walk_at "st"
  refine rd_sortedL (enc := encTh) (lt := fun a b => ltD (encTh a) (encTh b)) hd (by omega) (lin_of sh_th th_inj) (srtK_th _) (fun _ _ _ _ => rfl) fun R pm sr => ?_
  have bn := byNm_of pm nd sr
  have lR : R.length ≤ 12 := by rw [pm.length_eq]; exact hl
  have fl := fnd_len bs R
  have sq : 2 * R.length * R.length ≤ 2 * 12 * 12 := Nat.mul_le_mul (Nat.mul_le_mul_left 2 lR) lR
  refine newF (line_of (by rw [List.length_map]; omega)) ?_
  walk_at "st"
  refine newM (line_of (Nat.zero_le _)) fun b hb => ?_
  walk_at "st"
  refine ⟨_, _, rfl, rfl, fun i σ M2 => ∃ (P : List Tri) (v4 v5 v6 v7 v8 v9 v10 v11 v12 : Option D), σ = [some d, some dB, some (.lst (R.map encTh)), some (.ref b), v4, v5, v6, v7, v8, v9, v10, v11, v12] ∧ Mo M M2 ∧ M2 b = some (.lst (P.map enc3)) ∧ P ++ fnd bs (R.drop i) = fnd bs R, ⟨[], _, _, _, _, _, _, _, _, _, rfl, Mo.refl.upd hb, updD_same, rfl⟩, fun _ _ _ _ => rfl, ?_, ?_⟩
  · rintro i e σ M2 e2 ⟨P, v4, v5, v6, v7, v8, v9, v10, v11, v12, rfl, mo, hb2, eP⟩
    obtain ⟨e', e3, rfl⟩ := enumD_get e2
    rw [List.getElem?_map] at e3
    cases q : R[i]? with
    | none => rw [q] at e3; cases e3
    | some s =>
      rw [q] at e3; cases e3
      rw [drop_at q] at eP
      rw [show fnd bs (s :: R.drop (i + 1)) = (R.drop (i + 1)).flatMap (its bs s) ++ fnd bs (R.drop (i + 1)) from rfl] at eP
      have lP := congrArg List.length eP
      rw [List.length_append, List.length_append] at lP
      walk_at "st"
      rw [cut_from, ← List.map_drop]
      refine newF (line_of (by rw [List.length_map, List.length_drop]; omega)) ?_
      walk_at "st"
      refine ⟨fun j σ M3 => ∃ (w9 w10 w11 w12 : Option D), σ = [some d, some dB, some (.lst (R.map encTh)), some (.ref b), some (.int i), some (.str s.nm), some (.str s.kd), some (.int s.lo), some (.int s.hi), w9, w10, w11, w12] ∧ Mo M M3 ∧ M3 b = some (.lst ((P ++ ((R.drop (i + 1)).take j).flatMap (its bs s)).map enc3)), ⟨_, _, _, _, rfl, mo, by simpa using hb2⟩, fun _ _ _ _ => rfl, ?_, ?_⟩
      · rintro j e σ M3 e4 ⟨w9, w10, w11, w12, rfl, mo3, hb3⟩
        rw [List.getElem?_map] at e4
        cases q2 : (R.drop (i + 1))[j]? with
        | none => rw [q2] at e4; cases e4
        | some t =>
          rw [q2] at e4; cases e4
          have tk : ((R.drop (i + 1)).take (j + 1)).flatMap (its bs s) = ((R.drop (i + 1)).take j).flatMap (its bs s) ++ its1 s t ++ its2 bs s t := by
            rw [List.take_add_one, q2, List.flatMap_append, List.append_assoc]
            simp [its]
          have lj := flat_len (its_len bs s) ((R.drop (i + 1)).take j)
          have lj2 := List.length_take_le j (R.drop (i + 1))
          have lj3 := List.length_take_le' j (R.drop (i + 1))
          rw [List.length_drop] at lj3
          have fin : ∀ (Z : List Tri) M4, Z.length ≤ 1 → Mo M M4 → M4 b = some (.lst ((P ++ ((R.drop (i + 1)).take j).flatMap (its bs s) ++ Z).map enc3)) → Z = its1 s t → ∀ (rt : KD) (bk ct : SD → HpD → Prop), (tIfSD (tTruD (tCallD sp_barred (tConsD (tVarD 6) (tConsD (tVarD 10) (tConsD (tVarD 1) tNilD))))) (tDropD (tAppD (tVarD 3) (tTupD (tConsD (tVarD 5) (tConsD (tVarD 9) (tConsD (tCD (.str "kind")) tNilD)))))) tNextD) { nx := fun σ M3 => ∃ (w9 w10 w11 w12 : Option D), σ = [some d, some dB, some (.lst (R.map encTh)), some (.ref b), some (.int i), some (.str s.nm), some (.str s.kd), some (.int s.lo), some (.int s.hi), w9, w10, w11, w12] ∧ Mo M M3 ∧ M3 b = some (.lst ((P ++ ((R.drop (i + 1)).take (j + 1)).flatMap (its bs s)).map enc3)), rt := rt, bk := bk, ct := ct } [some d, some dB, some (.lst (R.map encTh)), some (.ref b), some (.int i), some (.str s.nm), some (.str s.kd), some (.int s.lo), some (.int s.hi), some (.str t.nm), some (.str t.kd), some (.int t.lo), some (.int t.hi)] M4 := by
            intro Z M4 lZ mo4 hb4 eZ rt bk ct
            walk_at "st"
            refine ⟨s.kd, t.kd, dB, bs, rfl, mo4.ls hB, ?_⟩
            refine ⟨_, by unfold truD; rfl, ?_⟩
            show if brT bs s t = true then _ else _
            cases eb : brT bs s t with
            | true =>
              rw [if_pos rfl]
              walk_at "st"
              refine ⟨⟨_, hb4⟩, ?_⟩
              walk_at "st"
              refine ⟨_, hb4, szk (by rw [List.length_map, List.length_append, List.length_append]; omega), ?_⟩
              refine ⟨_, _, _, _, rfl, mo4.upd hb, ?_⟩
              rw [updD_same, tk, ← eZ]
              unfold its2
              rw [eb, if_pos rfl]
              simp [enc3, trL]
            | false =>
              rw [if_neg (by decide)]
              walk_at "st"
              refine ⟨_, _, _, _, rfl, mo4, ?_⟩
              rw [hb4, tk, ← eZ]
              unfold its2
              rw [eb, if_neg (by decide)]
              simp
          walk_at "st"
          refine ⟨(s.lo, s.hi), (t.lo, t.hi), rfl, ?_⟩
          refine ⟨_, by unfold truD; rfl, ?_⟩
          show if apT s t = true then _ else _
          cases ea : apT s t with
          | true =>
            rw [if_pos rfl]
            walk_at "st"
            refine ⟨⟨_, hb3⟩, ?_⟩
            walk_at "st"
            refine ⟨_, hb3, szk (by rw [List.length_map, List.length_append]; omega), ?_⟩
            refine fin [(s.nm, t.nm, "damp")] _ (by simp) (mo3.upd hb) ?_ ?_ _ _ _
            · rw [updD_same]; simp [enc3, trL]
            · unfold its1; rw [ea, if_pos rfl]
          | false =>
            rw [if_neg (by decide)]
            refine rd_next ?_
            refine fin [] _ (by simp) mo3 ?_ ?_ _ _ _
            · rw [hb3, List.append_nil]
            · unfold its1; rw [ea, if_neg (by decide)]
      · rintro σ M3 ⟨w9, w10, w11, w12, rfl, mo3, hb3⟩
        rw [List.length_map, List.take_length] at hb3
        exact ⟨_, _, _, _, _, _, _, _, _, _, rfl, mo3, hb3, by rw [← eP, List.append_assoc]⟩
  · rintro σ M2 ⟨P, v4, v5, v6, v7, v8, v9, v10, v11, v12, rfl, mo, hb2, eP⟩
    have el : (enumD (R.map encTh)).length = R.length := by rw [enumD_len, List.length_map]
    rw [el, List.drop_length] at eP
    have : P = fnd bs R := by rw [← eP]; simp [fnd]
    subst this
    walk_at "st"
    exact .inl (h _ _ R mo hb pm bn hb2)
theorem k17_a {rest : TSD} {DD : EndsD} {ns0 : List Int} {M : HpD} (hl : ns0.length ≤ 63)
    (k : ∀ (b p : Addr) (kn ns : List Str) (v4 v5 : Option D) (M' : HpD), p ≠ b → (∃ o, M' b = some o ∧ BoxO o) → M' p = some (.lst (ns.map D.str)) → 1 ≤ kn.length → kn.length ≤ 4 → ns.Nodup → ns.length ≤ 12 → rest DD [some (.lst (ns0.map D.int)), some (.ref b), some (.lst (kn.map D.str)), some (.ref p), v4, v5, none, none, none, none, none, none, none, none, none, none] M') :
    (tSeqD (tAsgD (tCallD sp__law_box (tConsD (tVarD 0) tNilD)) (gNameD 1))
  (tSeqD (tAsgD (tSlD (tCallD sp__law_places (tConsD (tVarD 1) tNilD)) tNoPartD (tPartD (tCD (.int 4)))) (gNameD 2))
  (tSeqD (tAsgD (tLstD tNilD) (gNameD 3))
  (tSeqD (tForD (iRng1D (tConsD (tCallD sp__law_count (tConsD (tVarD 1) (tConsD (tCD (.int 6)) (tConsD (tCD (.int 12)) tNilD)))) tNilD)) (gNameD 4) (tSeqD (tAsgD (tCallD sp__law_named (tConsD (tVarD 1) tNilD)) (gNameD 5))
  (tIfSD (tTestD (tOpD (rInD true) (tVarD 5) (tVarD 3))) (tDropD (tAppD (tVarD 3) (tVarD 5))) tNextD))) rest)))) DD [some (.lst (ns0.map D.int)), none, none, none, none, none, none, none, none, none, none, none, none, none, none, none] M := by
  walk_at "st"
  refine ⟨hl, fun b M1 hb f1 => ?_⟩
  obtain ⟨o1, e1, b1⟩ := id f1.1
  walk_at "st"
  refine ⟨b, o1, rfl, e1, b1, fun nms M2 gp2 f2 => ?_⟩
  obtain ⟨o2, e2, b2⟩ := id f2.1
  walk_at "st"
  rw [cut_to4, ← List.map_take]
  have lk : (nms.take 4).length = min 4 nms.length := List.length_take
  obtain ⟨n1, n2, _, _⟩ := gp2
  refine newF (line_of (by rw [List.length_map]; omega)) ?_
  walk_at "st"
  refine newM (line_of (Nat.zero_le _)) fun p hp => ?_
  obtain ⟨hpb, g0⟩ := Gro.start (Fr.self e2 b2) hp []
  obtain ⟨o0, e0, b0⟩ := g0.bx
  walk_at "st"
  refine ⟨b, _, _, o0, rfl, by decide, by decide, by decide, by decide, e0, b0, fun n M3 n0 n1' f3 => ?_⟩
  have g3 := g0.step hpb f3
  walk_at "st"
  refine ⟨by omega, by omega, fun i σ M' => ∃ (ns : List Str) (v4 v5 : Option D), Gro b p M2 M' (ns.map D.str) ∧ σ = [some (.lst (ns0.map D.int)), some (.ref b), some (.lst ((nms.take 4).map D.str)), some (.ref p), v4, v5, none, none, none, none, none, none, none, none, none, none] ∧ ns.length ≤ i ∧ ns.Nodup, ⟨[], _, _, g3, rfl, Nat.le_refl _, List.nodup_nil⟩, ?_, ?_⟩
  · rintro i d σ M' e ⟨ns, v4, v5, g, rfl, hl, nd⟩
    obtain ⟨hi, rfl⟩ := intsD_get e
    obtain ⟨o4, e4, b4⟩ := g.bx
    walk_at "st"
    refine ⟨b, o4, rfl, e4, b4, fun x M4 hx f4 => ?_⟩
    have g4 := g.step hpb f4
    walk_at "st"
    refine rd_in (items_ref g4.ls) rfl strs_flat ?_
    rw [in_strs, if_pos rfl]
    walk_at "st"
    by_cases hm : x ∈ ns
    · rw [decide_eq_true hm, if_neg (by decide)]
      walk_at "st"
      exact ⟨ns, _, _, g4, rfl, by omega, nd⟩
    · rw [decide_eq_false hm, if_pos (by decide)]
      walk_at "st"
      refine ⟨⟨_, g4.ls⟩, ?_⟩
      walk_at "st"
      refine ⟨_, g4.ls, szk (by rw [List.length_map]; omega), ?_⟩
      refine ⟨ns ++ [x], _, _, by have := g4.upd (es := ns.map D.str ++ [.str x]) hpb; simpa using this, rfl, by simp; omega, ?_⟩
      rw [List.nodup_append]
      exact ⟨nd, by simp, fun a ha b' hb' e => hm (by rw [List.mem_singleton.mp hb'] at e; rw [← e]; exact ha)⟩
  · rintro σ M' ⟨ns, v4, v5, g, rfl, hl, nd⟩
    rw [intsD_len] at hl
    exact k b p (nms.take 4) ns v4 v5 M' hpb g.bx g.ls (by omega) (by omega) nd (by omega)
theorem k17_b {rest : TSD} {DD : EndsD} {s0 v4 v5 : Option D} {b p : Addr} {kn ns : List Str} {M : HpD} (hpb : p ≠ b) (hbx : ∃ o, M b = some o ∧ BoxO o) (hls : M p = some (.lst (ns.map D.str))) (k1 : 1 ≤ kn.length) (k4 : kn.length ≤ 4) (nd : ns.Nodup) (l12 : ns.length ≤ 12)
    (k : ∀ (rs : List (Int × Int)) (ts : List Thg) (M' : HpD), (∃ o, M' b = some o ∧ BoxO o) → (ts.map (·.nm)).Nodup → ts.length ≤ 12 → rest DD [s0, some (.ref b), some (.lst (kn.map D.str)), some (.ref p), v4, v5, some (.lst (rs.map encR)), none, some (.lst (ts.map encTh)), none, none, none, none, none, none, none] M') :
    (tSeqD (tAsgD (tCallD sp__law_ranges (tConsD (tVarD 1) (tConsD (tCallD cLen (tConsD (tVarD 3) tNilD)) tNilD))) (gNameD 6))
  (tSeqD (tAsgD (tCompG 2 (iZipG (tConsD (tVarD 3) (tConsD (tVarD 6) tNilD))) (gTupD 2 (gConsD (gNameD 0) (gConsD (gNameD 1) gNilD))) tIf0D (tOpD rCatTD (tTupD (tConsD (tVarD 0) (tConsD (tOpD rIxD (tVarD 4) (tCallD sp__law_take (tConsD (tVarD 3) (tConsD (tCallD cLen (tConsD (tVarD 4) tNilD)) tNilD)))) tNilD))) (tVarD 1))) (gNameD 8)) rest)) DD [s0, some (.ref b), some (.lst (kn.map D.str)), some (.ref p), v4, v5, none, none, none, none, none, none, none, none, none, none] M := by
  obtain ⟨o1, e1, b1⟩ := hbx
  walk_at "st"
  refine rd_len (items_ref hls) ?_
  walk_at "st"
  refine ⟨b, _, o1, rfl, by rw [List.length_map]; omega, by rw [List.length_map]; omega, e1, b1, fun rs M1 rl ok f1 => ?_⟩
  have hls1 : M1 p = some (.lst (ns.map D.str)) := (f1.2 p hpb).trans hls
  walk_at "st"
  refine ⟨_, _, _, _, rfl, list_ref hls1, rfl, ?_⟩
  have zl : (zipD (ns.map D.str) (rs.map encR)).length ≤ 12 := by unfold zipD; rw [List.length_zipWith, List.length_map, List.length_map]; omega
  refine ⟨line_of (by omega), fun i ys σ M' => Fr b M1 M' ∧ (∃ w0 w1, σ = [w0, w1, s0, some (.ref b), some (.lst (kn.map D.str)), some (.ref p), v4, v5, some (.lst (rs.map encR)), none, none, none, none, none, none, none, none, none]) ∧ ∃ ts : List Thg, ys = ts.map encTh ∧ ts.map (·.nm) = ns.take i, ⟨⟨f1.1, fun _ _ => rfl⟩, ⟨_, _, rfl⟩, [], rfl, rfl⟩, fun i ys σ M' z => ⟨list_ref ((z.1.2 p hpb).trans hls1), rfl⟩, ?_, ?_⟩
  · rintro i e ys σ M' e2 ⟨f, ⟨w0, w1, rfl⟩, ts, rfl, en⟩
    obtain ⟨x, y, hx, hy, rfl⟩ := zipD_get e2
    rw [List.getElem?_map] at hx hy
    cases q1 : ns[i]? with
    | none => rw [q1] at hx; cases hx
    | some nm =>
      cases q2 : rs[i]? with
      | none => rw [q2] at hy; cases hy
      | some pr =>
        rw [q1] at hx; cases hx
        rw [q2] at hy; cases hy
        obtain ⟨o2, e2, b2⟩ := f.1
        refine rd_gtup rfl (rd_gcons (rd_gname (rd_gcons (rd_gname (rd_gnil ?_)))))
        refine rd_if0 ?_
        rw [if_pos rfl]
        walk_at "st"
        refine ⟨b, _, o2, rfl, by rw [List.length_map]; omega, by rw [List.length_map]; omega, e2, b2, fun r M2 r0 r1 f2 => ?_⟩
        rw [List.length_map] at r1
        obtain ⟨kd, hk⟩ : ∃ kd, kn[r.toNat]? = some kd := ⟨_, List.getElem?_eq_getElem (by omega)⟩
        have hat : atI (kn.map D.str) r = some (.str kd) := by
          have := at_map (f := D.str) hk
          rw [show ((r.toNat : Nat) : Int) = r by omega] at this
          exact this
        refine rd_ix rfl hat ?_
        walk_at "st"
        refine rd_catT (by simp) (by simp) (line_of (Nat.le_of_ble_eq_true rfl)) ?_
        refine ⟨f.trans f2, ⟨_, _, rfl⟩, ts ++ [⟨nm, kd, pr.1, pr.2⟩], ?_, ?_⟩
        · rw [List.map_append]; rfl
        · rw [List.map_append, en, List.take_add_one, q1]; rfl
  · rintro ys σ M' ⟨f, ⟨w0, w1, rfl⟩, ts, rfl, en⟩
    have lt : ts.length ≤ 12 := by
      have := congrArg List.length en
      rw [List.length_map, List.length_take] at this
      omega
    refine newF (line_of (by rw [List.length_map]; omega)) ?_
    walk_at "st"
    refine k rs ts M' f.1 ?_ lt
    rw [en]
    exact nd.sublist (List.take_sublist _ _)
theorem k17_c {rest : TSD} {DD : EndsD} {s0 s3 v4 v5 s6 s8 : Option D} {b : Addr} {kn : List Str} {M : HpD} (hbx : ∃ o, M b = some o ∧ BoxO o) (k1 : 1 ≤ kn.length) (k4 : kn.length ≤ 4)
    (k : ∀ (p9 : Addr) (bs : List (Str × Str)) (v4 v7 : Option D) (M' : HpD), M' p9 = some (.lst (bs.map encB)) → bs.length ≤ 6 → rest DD [s0, some (.ref b), some (.lst (kn.map D.str)), s3, v4, v5, s6, v7, s8, some (.ref p9), none, none, none, none, none, none] M') :
    (tSeqD (tAsgD (tLstD tNilD) (gNameD 9))
  (tSeqD (tForD (iRng1D (tConsD (tCallD sp__law_take (tConsD (tVarD 1) (tConsD (tCD (.int 7)) tNilD))) tNilD)) (gNameD 4) (tSeqD (tAsgD (tTupD (tConsD (tOpD rIxD (tVarD 2) (tCallD sp__law_take (tConsD (tVarD 1) (tConsD (tCallD cLen (tConsD (tVarD 2) tNilD)) tNilD)))) (tConsD (tOpD rIxD (tVarD 2) (tCallD sp__law_take (tConsD (tVarD 1) (tConsD (tCallD cLen (tConsD (tVarD 2) tNilD)) tNilD)))) tNilD))) (gNameD 7))
  (tIfSD (tAndD (tTestD (tOpD (rInA true) (tTupD (tConsD (tOpD rIxD (tVarD 7) (tCD (.int 1))) (tConsD (tOpD rIxD (tVarD 7) (tCD (.int 0))) tNilD))) (tVarD 9))) (tTestD (tOpD (rInA true) (tVarD 7) (tVarD 9)))) (tDropD (tAppD (tVarD 9) (tVarD 7))) tNextD))) rest)) DD [s0, some (.ref b), some (.lst (kn.map D.str)), s3, v4, v5, s6, none, s8, none, none, none, none, none, none, none] M := by
  obtain ⟨o0, e0, b0⟩ := hbx
  walk_at "st"
  refine newM (line_of (Nat.zero_le _)) fun p hp => ?_
  obtain ⟨hpb, g0⟩ := Gro.start (Fr.self e0 b0) hp []
  obtain ⟨o1, e1, b1⟩ := g0.bx
  walk_at "st"
  refine ⟨b, _, o1, rfl, by decide, by decide, e1, b1, fun n M1 n0 n1 f1 => ?_⟩
  have g1 := g0.step hpb f1
  have pick : ∀ r : Int, 0 ≤ r → r < (kn.map D.str).length → ∃ kd, atI (kn.map D.str) r = some (.str kd) := fun r r0 r1 => by
    rw [List.length_map] at r1
    obtain ⟨kd, hk⟩ : ∃ kd, kn[r.toNat]? = some kd := ⟨_, List.getElem?_eq_getElem (by omega)⟩
    refine ⟨kd, ?_⟩
    have := at_map (f := D.str) hk
    rw [show ((r.toNat : Nat) : Int) = r by omega] at this
    exact this
  walk_at "st"
  refine ⟨by omega, by omega, fun i σ M' => ∃ (bs : List (Str × Str)) (v4 v7 : Option D), Gro b p M M' (bs.map encB) ∧ σ = [s0, some (.ref b), some (.lst (kn.map D.str)), s3, v4, v5, s6, v7, s8, some (.ref p), none, none, none, none, none, none] ∧ bs.length ≤ i, ⟨[], _, _, g1, rfl, Nat.le_refl _⟩, ?_, ?_⟩
  · rintro i d σ M' e ⟨bs, v4, v7, g, rfl, hl⟩
    obtain ⟨hi, rfl⟩ := intsD_get e
    obtain ⟨o2, e2, b2⟩ := g.bx
    walk_at "st"
    refine ⟨b, _, o2, rfl, by rw [List.length_map]; omega, by rw [List.length_map]; omega, e2, b2, fun r M2 r0 r1 f2 => ?_⟩
    have g2 := g.step hpb f2
    obtain ⟨o3, e3, b3⟩ := g2.bx
    obtain ⟨ka, ha⟩ := pick r r0 r1
    refine rd_ix rfl ha ?_
    walk_at "st"
    refine ⟨b, _, o3, rfl, by rw [List.length_map]; omega, by rw [List.length_map]; omega, e3, b3, fun r' M3 r0' r1' f3 => ?_⟩
    have g3 := g2.step hpb f3
    obtain ⟨kb, hb⟩ := pick r' r0' r1'
    refine rd_ix rfl hb ?_
    walk_at "st"
    refine rd_inA (x := encB (kb, ka)) (list_ref g3.ls) (ok_Bs bs _) ?_
    refine ⟨_, rfl, ?_⟩
    have stay : ∀ DD' : EndsD, DD'.nx = (fun σ M' => ∃ (bs : List (Str × Str)) (v4 v7 : Option D), Gro b p M M' (bs.map encB) ∧ σ = [s0, some (.ref b), some (.lst (kn.map D.str)), s3, v4, v5, s6, v7, s8, some (.ref p), none, none, none, none, none, none] ∧ bs.length ≤ i + 1) → tNextD DD' [s0, some (.ref b), some (.lst (kn.map D.str)), s3, some (.int (0 + (i : Int))), v5, s6, some (encB (ka, kb)), s8, some (.ref p), none, none, none, none, none, none] M3 := fun DD' eD => by
      refine rd_next ?_
      rw [eD]
      exact ⟨bs, _, _, g3, rfl, by omega⟩
    show if (!inB bs kb ka) = true then _ else _
    cases ea : inB bs kb ka with
    | true =>
      rw [if_neg (by decide), if_neg (by decide)]
      exact stay _ rfl
    | false =>
      rw [if_pos (by decide)]
      walk_at "st"
      refine rd_inA (x := encB (ka, kb)) (list_ref g3.ls) (ok_Bs bs _) ?_
      refine ⟨_, rfl, ?_⟩
      show if (!inB bs ka kb) = true then _ else _
      cases eb : inB bs ka kb with
      | true =>
        rw [if_neg (by decide)]
        exact stay _ rfl
      | false =>
        rw [if_pos (by decide)]
        walk_at "st"
        refine ⟨⟨_, g3.ls⟩, ?_⟩
        walk_at "st"
        refine ⟨_, g3.ls, szk (by rw [List.length_map]; omega), ?_⟩
        refine ⟨bs ++ [(ka, kb)], _, _, ?_, rfl, by simp; omega⟩
        have := g3.upd (es := bs.map encB ++ [encB (ka, kb)]) hpb
        rw [List.map_append]
        exact this
  · rintro σ M' ⟨bs, v4, v7, g, rfl, hl⟩
    rw [intsD_len] at hl
    exact k p bs v4 v7 M' g.ls (by omega)
theorem k17_d {rest : TSD} {DD : EndsD} {s0 s1 s2 s3 v4 v5 s6 v7 : Option D} {p9 : Addr} {bs : List (Str × Str)} {ts : List Thg} {M : HpD} (hB : M p9 = some (.lst (bs.map encB))) (l12 : ts.length ≤ 12)
    (k : ∀ (p10 : Addr) (v11 v12 : Option D) (M' : HpD), M' p9 = some (.lst (bs.map encB)) → M' p10 = some (.lst ((due bs ts).map enc3)) → rest DD [s0, s1, s2, s3, v4, v5, s6, v7, some (.lst (ts.map encTh)), some (.ref p9), some (.ref p10), v11, v12, none, none, none] M') :
    (tSeqD (tAsgD (tLstD tNilD) (gNameD 10))
  (tSeqD (tForG (iSeqG (tVarD 8)) (gNameD 11) (tForG (iSeqG (tVarD 8)) (gNameD 12) (tIfSD (tTestD (tOpD rLtS (tOpD rIxD (tVarD 11) (tCD (.int 0))) (tOpD rIxD (tVarD 12) (tCD (.int 0))))) (tSeqD (tIfSD (tNotD (tTruD (tCallD sp__law_meet (tConsD (tSlTD (tVarD 11) (tPartD (tCD (.int 2))) tNoPartD) (tConsD (tSlTD (tVarD 12) (tPartD (tCD (.int 2))) tNoPartD) tNilD))))) (tDropD (tAppD (tVarD 10) (tTupD (tConsD (tOpD rIxD (tVarD 11) (tCD (.int 0))) (tConsD (tOpD rIxD (tVarD 12) (tCD (.int 0))) (tConsD (tCD (.str "damp")) tNilD)))))) tNextD)
  (tIfSD (tOrD (tTestD (tOpD (rInA false) (tTupD (tConsD (tOpD rIxD (tVarD 11) (tCD (.int 1))) (tConsD (tOpD rIxD (tVarD 12) (tCD (.int 1))) tNilD))) (tVarD 9))) (tTestD (tOpD (rInA false) (tTupD (tConsD (tOpD rIxD (tVarD 12) (tCD (.int 1))) (tConsD (tOpD rIxD (tVarD 11) (tCD (.int 1))) tNilD))) (tVarD 9)))) (tDropD (tAppD (tVarD 10) (tTupD (tConsD (tOpD rIxD (tVarD 11) (tCD (.int 0))) (tConsD (tOpD rIxD (tVarD 12) (tCD (.int 0))) (tConsD (tCD (.str "kind")) tNilD)))))) tNextD)) tNextD))) rest)) DD [s0, s1, s2, s3, v4, v5, s6, v7, some (.lst (ts.map encTh)), some (.ref p9), none, none, none, none, none, none] M := by
  walk_at "st"
  refine newM (line_of (Nat.zero_le _)) fun p hp => ?_
  have sq : 2 * ts.length * ts.length ≤ 2 * 12 * 12 := Nat.mul_le_mul (Nat.mul_le_mul_left 2 l12) l12
  walk_at "st"
  refine ⟨fun i σ M2 => ∃ (v11 v12 : Option D), σ = [s0, s1, s2, s3, v4, v5, s6, v7, some (.lst (ts.map encTh)), some (.ref p9), some (.ref p), v11, v12, none, none, none] ∧ Mo M M2 ∧ M2 p = some (.lst (((ts.take i).flatMap fun s => dueT bs s ts).map enc3)), ⟨_, _, rfl, Mo.refl.upd hp, updD_same⟩, fun _ _ _ _ => rfl, ?_, ?_⟩
  · rintro i e σ M2 e2 ⟨v11, v12, rfl, mo, hp2⟩
    rw [List.getElem?_map] at e2
    cases q : ts[i]? with
    | none => rw [q] at e2; cases e2
    | some s =>
      rw [q] at e2; cases e2
      have li := flat_len (fun s => dueT_len bs s ts) (ts.take i)
      have li2 := List.length_take_le' i ts
      have li3 : 2 * ts.length * (ts.take i).length ≤ 2 * ts.length * ts.length := Nat.mul_le_mul_left _ (by rw [List.length_take]; omega)
      walk_at "st"
      refine ⟨fun j σ M3 => ∃ (w12 : Option D), σ = [s0, s1, s2, s3, v4, v5, s6, v7, some (.lst (ts.map encTh)), some (.ref p9), some (.ref p), some (encTh s), w12, none, none, none] ∧ Mo M M3 ∧ M3 p = some (.lst ((((ts.take i).flatMap fun s => dueT bs s ts) ++ dueT bs s (ts.take j)).map enc3)), ⟨_, rfl, mo, by rw [hp2]; simp [dueT]⟩, fun _ _ _ _ => rfl, ?_, ?_⟩
      · rintro j e σ M3 e4 ⟨w12, rfl, mo3, hp3⟩
        rw [List.getElem?_map] at e4
        cases q2 : ts[j]? with
        | none => rw [q2] at e4; cases e4
        | some t =>
          rw [q2] at e4; cases e4
          have tk : dueT bs s (ts.take (j + 1)) = dueT bs s (ts.take j) ++ (if ltN s.nm t.nm = true then its bs s t else []) := by
            unfold dueT
            rw [List.take_add_one, q2, List.flatMap_append]
            simp
          have lj := dueT_len bs s (ts.take j)
          have lj2 := List.length_take_le' j ts
          generalize eX : ((ts.take i).flatMap fun s => dueT bs s ts) ++ dueT bs s (ts.take j) = X at *
          have lX : X.length ≤ 600 := by
            rw [← eX, List.length_append]
            omega
          walk_at "st"
          refine rd_ltS ?_
          refine ⟨_, rfl, ?_⟩
          show if ltN s.nm t.nm = true then _ else _
          cases el : ltN s.nm t.nm with
          | false =>
            rw [if_neg (by decide)]
            refine rd_next ⟨_, rfl, mo3, ?_⟩
            rw [hp3, tk, el, if_neg (by decide), List.append_nil, eX]
          | true =>
            rw [el, if_pos rfl] at tk
            rw [if_pos rfl]
            have fin : ∀ (Z : List Tri) M4, Z.length ≤ 1 → Mo M M4 → M4 p = some (.lst ((X ++ Z).map enc3)) → Z = its1 s t → ∀ (rt : KD) (bk ct : SD → HpD → Prop), (tIfSD (tOrD (tTestD (tOpD (rInA false) (tTupD (tConsD (tOpD rIxD (tVarD 11) (tCD (.int 1))) (tConsD (tOpD rIxD (tVarD 12) (tCD (.int 1))) tNilD))) (tVarD 9))) (tTestD (tOpD (rInA false) (tTupD (tConsD (tOpD rIxD (tVarD 12) (tCD (.int 1))) (tConsD (tOpD rIxD (tVarD 11) (tCD (.int 1))) tNilD))) (tVarD 9)))) (tDropD (tAppD (tVarD 10) (tTupD (tConsD (tOpD rIxD (tVarD 11) (tCD (.int 0))) (tConsD (tOpD rIxD (tVarD 12) (tCD (.int 0))) (tConsD (tCD (.str "kind")) tNilD)))))) tNextD) { nx := fun σ M3 => ∃ (w12 : Option D), σ = [s0, s1, s2, s3, v4, v5, s6, v7, some (.lst (ts.map encTh)), some (.ref p9), some (.ref p), some (encTh s), w12, none, none, none] ∧ Mo M M3 ∧ M3 p = some (.lst ((((ts.take i).flatMap fun s => dueT bs s ts) ++ dueT bs s (ts.take (j + 1))).map enc3)), rt := rt, bk := bk, ct := ct } [s0, s1, s2, s3, v4, v5, s6, v7, some (.lst (ts.map encTh)), some (.ref p9), some (.ref p), some (encTh s), some (encTh t), none, none, none] M4 := by
              intro Z M4 lZ mo4 hp4 eZ rt bk ct
              have hB4 := mo4 _ _ hB
              have yes : brT bs s t = true → (tDropD (tAppD (tVarD 10) (tTupD (tConsD (tOpD rIxD (tVarD 11) (tCD (.int 0))) (tConsD (tOpD rIxD (tVarD 12) (tCD (.int 0))) (tConsD (tCD (.str "kind")) tNilD)))))) { nx := fun σ M3 => ∃ (w12 : Option D), σ = [s0, s1, s2, s3, v4, v5, s6, v7, some (.lst (ts.map encTh)), some (.ref p9), some (.ref p), some (encTh s), w12, none, none, none] ∧ Mo M M3 ∧ M3 p = some (.lst ((((ts.take i).flatMap fun s => dueT bs s ts) ++ dueT bs s (ts.take (j + 1))).map enc3)), rt := rt, bk := bk, ct := ct } [s0, s1, s2, s3, v4, v5, s6, v7, some (.lst (ts.map encTh)), some (.ref p9), some (.ref p), some (encTh s), some (encTh t), none, none, none] M4 := fun eb => by
                walk_at "st"
                refine ⟨⟨_, hp4⟩, ?_⟩
                walk_at "st"
                refine ⟨_, hp4, szk (by rw [List.length_map, List.length_append]; omega), ?_⟩
                refine ⟨_, rfl, mo4.upd hp, ?_⟩
                rw [updD_same, tk, ← List.append_assoc, eX]
                unfold its
                rw [← eZ]
                unfold its2
                rw [eb, if_pos rfl]
                simp [enc3, trL]
              walk_at "st"
              refine rd_inA (x := encB (s.kd, t.kd)) (list_ref hB4) (ok_Bs bs _) ?_
              refine ⟨_, rfl, ?_⟩
              show if (inB bs s.kd t.kd) = true then _ else _
              cases e1 : inB bs s.kd t.kd with
              | true =>
                rw [if_pos rfl, if_pos rfl]
                exact yes (by unfold brT; rw [e1]; rfl)
              | false =>
                rw [if_neg (by decide)]
                walk_at "st"
                refine rd_inA (x := encB (t.kd, s.kd)) (list_ref hB4) (ok_Bs bs _) ?_
                refine ⟨_, rfl, ?_⟩
                show if (inB bs t.kd s.kd) = true then _ else _
                cases e2 : inB bs t.kd s.kd with
                | true =>
                  rw [if_pos rfl]
                  exact yes (by unfold brT; rw [e1, e2]; rfl)
                | false =>
                  rw [if_neg (by decide)]
                  refine rd_next ⟨_, rfl, mo4, ?_⟩
                  rw [hp4, tk, ← List.append_assoc, eX]
                  unfold its
                  rw [← eZ]
                  unfold its2
                  rw [show brT bs s t = false by unfold brT; rw [e1, e2]; rfl, if_neg (by decide)]
                  simp
            refine rd_seq (rd_ifS (rd_not (rd_tru (rd_call (rd_cons (rd_slT (rd_var rfl (rd_part (rd_c ⟨_, rfl, rd_nopart ⟨_, rfl, ?_, ?_⟩⟩)))))))))
            · show ¬ (HT.sIx 4 0 (some 2) = 0 ∧ HT.sIx 4 4 none = 4); decide
            refine rd_cons (rd_slT (rd_var rfl (rd_part (rd_c ⟨_, rfl, rd_nopart ⟨_, rfl, ?_, ?_⟩⟩))))
            · show ¬ (HT.sIx 4 0 (some 2) = 0 ∧ HT.sIx 4 4 none = 4); decide
            refine rd_nil ⟨(s.lo, s.hi), (t.lo, t.hi), rfl, ?_⟩
            refine ⟨_, by unfold truD; rfl, ?_⟩
            show if (!(!apT s t)) = true then _ else _
            rw [Bool.not_not]
            cases ea : apT s t with
            | true =>
              rw [if_pos rfl]
              walk_at "st"
              refine ⟨⟨_, hp3⟩, ?_⟩
              walk_at "st"
              refine ⟨_, hp3, szk (by rw [List.length_map]; omega), ?_⟩
              refine fin [(s.nm, t.nm, "damp")] _ (by simp) (mo3.upd hp) ?_ ?_ _ _ _
              · rw [updD_same]; simp [enc3, trL]
              · unfold its1; rw [ea, if_pos rfl]
            | false =>
              rw [if_neg (by decide)]
              refine rd_next ?_
              refine fin [] _ (by simp) mo3 ?_ ?_ _ _ _
              · rw [hp3, List.append_nil]
              · unfold its1; rw [ea, if_neg (by decide)]
      · rintro σ M3 ⟨w12, rfl, mo3, hp3⟩
        rw [List.length_map, List.take_length] at hp3
        refine ⟨_, _, rfl, mo3, ?_⟩
        rw [hp3, List.take_add_one, q]
        simp
  · rintro σ M2 ⟨v11, v12, rfl, mo, hp2⟩
    rw [List.length_map, List.take_length] at hp2
    exact k p v11 v12 M2 (mo _ _ hB) hp2
noncomputable def ttt : Str := "ttt"
theorem kind_tr (x : Tri) : KindOk ttt (trL x) := by
  refine ⟨show 3 = ttt.length by decide +kernel, fun i u c hu hc => ?_⟩
  have k0 : ttt.cps[0]? = some 116 := by decide +kernel
  have k1 : ttt.cps[1]? = some 116 := by decide +kernel
  have k2 : ttt.cps[2]? = some 116 := by decide +kernel
  match i, hu, hc with
  | 0, hu, hc => rw [k0] at hc; cases hc; cases hu; exact .inr ⟨rfl, _, rfl⟩
  | 1, hu, hc => rw [k1] at hc; cases hc; cases hu; exact .inr ⟨rfl, _, rfl⟩
  | 2, hu, hc => rw [k2] at hc; cases hc; cases hu; exact .inr ⟨rfl, _, rfl⟩
  | i + 3, hu, hc => cases hu
theorem self_tr (x : Tri) : Self (enc3 x) := by simp [Self, enc3, trL, okD, okDs, eqD, eqDs, depD, depDs]
theorem self_th (x : Thg) : Self (encTh x) := by simp [Self, encTh, thL, okD, okDs, eqD, eqDs, depD, depDs]
theorem self_B (x : Str × Str) : Self (encB x) := by simp [Self, encB, okD, okDs, eqD, eqDs, depD, depDs]
theorem rd_law (ds : List D) (M : HpD) (Q : KD) (h : spLaw ds M Q) : t_law sp__law_box sp__law_places sp__law_count sp__law_named sp__law_ranges sp__law_take sp__law_meet sp_clashes sp__law_rows_kind2 { nx := fun _ M' => Q .non M', rt := Q } (startD ["_law_script", "_law_box_here", "_law_kinds", "_law_names", "_law_k", "_law_name", "_law_ranges_here", "_law_pair", "_law_things", "_law_bars", "_law_due", "_law_one", "_law_other", "_law_handed", "_law_turn", "_law_found"] ds) M := by
  obtain ⟨ns0, rfl, hl, rfl, h⟩ := h
  unfold t_law
  refine k17_a hl fun b p kn ns v4 v5 M1 hpb hbx hls kn1 kn4 nd l12 => ?_
  refine k17_b hpb hbx hls kn1 kn4 nd l12 fun rs ts M2 hbx2 ndt lt => ?_
  refine k17_c hbx2 kn1 kn4 fun p9 bs v4 v7 M3 hB lB => ?_
  refine k17_d hB lt fun p10 v11 v12 M4 hB4 hD4 => ?_
  have sq : 2 * ts.length * ts.length ≤ 2 * 12 * 12 := Nat.mul_le_mul (Nat.mul_le_mul_left 2 lt) lt
  have dl := due_len bs ts
  walk_at "st"
  refine rd_list rfl (newF (line_of (by rw [List.length_map]; omega)) ?_)
  walk_at "st"
  refine rd_list (list_ref hB4) (newF (line_of (by rw [List.length_map]; omega)) ?_)
  walk_at "st"
  refine newF (line_of (Nat.le_of_ble_eq_true rfl)) ?_
  walk_at "st"
  refine ⟨by decide, by decide, fun i σ M' => (∃ v14 v15, σ = [some (.lst (ns0.map D.int)), some (.ref b), some (.lst (kn.map D.str)), some (.ref p), v4, v5, some (.lst (rs.map encR)), v7, some (.lst (ts.map encTh)), some (.ref p9), some (.ref p10), v11, v12, some (.lst [.lst (ts.map encTh), .lst (bs.map encB)]), v14, v15]) ∧ M' p9 = some (.lst (bs.map encB)) ∧ M' p10 = some (.lst ((due bs ts).map enc3)), ⟨⟨_, _, rfl⟩, hB4, hD4⟩, ?_, ?_⟩
  · rintro i d σ M' e ⟨⟨v14, v15, rfl⟩, hB5, hD5⟩
    walk_at "st"
    refine ⟨.lst (ts.map encTh), .lst (bs.map encB), ts, bs, rfl, rfl, lt, ndt, rfl, fun M6 fa R mo6 hfa pm bn hfb => ?_⟩
    have hB6 := mo6 _ _ hB5
    have hD6 := mo6 _ _ hD5
    have f9 : p9 ≠ fa := fun z => by rw [← z, hB5] at hfa; cases hfa
    have f10 : p10 ≠ fa := fun z => by rw [← z, hD5] at hfa; cases hfa
    have fl := fnd_len bs R
    have lR : R.length = ts.length := pm.length_eq
    rw [lR] at fl
    walk_at "st"
    refine ⟨.ref fa, ttt, (fnd bs R).map trL, rfl, ?_, by decide +kernel, by decide +kernel, ?_, ?_⟩
    · rw [List.map_map]; exact list_ref hfb
    · intro us hu
      obtain ⟨z, _, rfl⟩ := List.mem_map.mp hu
      exact kind_tr z
    refine ⟨true, by unfold truD; rfl, ?_⟩
    rw [if_neg (by decide)]
    walk_at "st"
    refine rd_sortedL (enc := enc3) (lt := fun a b => ltD (enc3 a) (enc3 b)) (list_ref hD6) (by omega) (lin_of sh_tr tr_inj) (srtK_tr _) (fun _ _ _ _ => rfl) fun S ps ss => ?_
    have eS := due_one bs pm bn ps ss
    subst eS
    refine newF (line_of (by rw [List.length_map]; omega)) ?_
    walk_at "st"
    refine rd_eqLL (fun a _ => self_tr a) (list_ref hfb) rfl ?_
    refine ⟨_, rfl, ?_⟩
    rw [if_neg (by decide)]
    walk_at "st"
    refine newF (line_of (Nat.le_of_ble_eq_true rfl)) ?_
    obtain ⟨t1, t2, t3⟩ := selfs (f := encTh) ts fun a _ => self_th a
    obtain ⟨u1, u2, u3⟩ := selfs (f := encB) bs fun a _ => self_B a
    refine rd_neP (es := [.lst (ts.map encTh)]) (fs := bs.map encB) hB6 ?_ ?_ ?_
    · simp [okDs, okD, t1, u1]
    · simp only [depDs, depD]; omega
    refine ⟨_, rfl, ?_⟩
    rw [show eqDs [.lst (ts.map encTh), .lst (bs.map encB)] ([.lst (ts.map encTh)] ++ [.lst (bs.map encB)]) = true by simp [eqDs, eqD, t2, u2], if_neg (by decide)]
    walk_at "st"
    refine ⟨⟨_, hfb⟩, ?_⟩
    walk_at "st"
    refine ⟨_, hfb, szk (by rw [List.length_map]; omega), ⟨_, _, rfl⟩, ?_, ?_⟩
    · rw [updD_ne f9]; exact hB6
    · rw [updD_ne f10]; exact hD6
  · rintro σ M' ⟨⟨v14, v15, rfl⟩, _⟩
    walk_at "st"
    exact .inl (h _)
theorem us0 {P : List Value → Prop} (h : P []) (us : List Value) (hl : us.length = 0) : P us := by
  cases us with
  | nil => exact h
  | cons => cases hl
theorem us1 {P : List Value → Prop} (h : ∀ a0, P [a0]) (us : List Value) (hl : us.length = 1) : P us := by
  obtain ⟨a0, e⟩ : ∃ a0, us = [a0] := by
    match us, hl with
    | [a0], _ => exact ⟨_, rfl⟩
  subst e; exact h _
theorem us2 {P : List Value → Prop} (h : ∀ a0 a1, P [a0, a1]) (us : List Value) (hl : us.length = 2) : P us := by
  obtain ⟨a0, a1, e⟩ : ∃ a0 a1, us = [a0, a1] := by
    match us, hl with
    | [a0, a1], _ => exact ⟨_, _, rfl⟩
  subst e; exact h _ _
theorem us3 {P : List Value → Prop} (h : ∀ a0 a1 a2, P [a0, a1, a2]) (us : List Value) (hl : us.length = 3) : P us := by
  obtain ⟨a0, a1, a2, e⟩ : ∃ a0 a1 a2, us = [a0, a1, a2] := by
    match us, hl with
    | [a0, a1, a2], _ => exact ⟨_, _, _, rfl⟩
  subst e; exact h _ _ _
noncomputable def top (i : Nat) : Stmt := PySem.Challenge.pw_vitrine_k17_neighbours_that_clash.main.body.getD i (.Pass ⟨0, 0, 0, 0⟩)
noncomputable abbrev s__law_box : Stmt := top 5
noncomputable abbrev s__law_mixed : Stmt := top 7
noncomputable abbrev s__law_take : Stmt := top 6
noncomputable abbrev s__law_letters : Stmt := top 8
noncomputable abbrev s__law_named : Stmt := top 9
noncomputable abbrev s__law_places : Stmt := top 11
noncomputable abbrev s__law_count : Stmt := top 12
noncomputable abbrev s__law_ranges : Stmt := top 14
noncomputable abbrev s__law_meet : Stmt := top 15
noncomputable abbrev s_apart : Stmt := top 1
noncomputable abbrev s_barred : Stmt := top 2
noncomputable abbrev s_clashes : Stmt := top 3
noncomputable abbrev s__law_whole : Stmt := top 10
noncomputable abbrev s__law_rows_kind : Stmt := top 13
noncomputable abbrev s_law : Stmt := top 16
noncomputable abbrev N__law_box : List Str := ["_law_script", "_law_seed", "_law_cell"]
noncomputable abbrev P__law_box : List Str := ["_law_script"]
theorem sc__law_box : FnScope N__law_box P__law_box (defScope s__law_box) := ⟨rfl, rfl, rfl, by decide +kernel, rfl, by decide +kernel, by decide +kernel⟩
noncomputable abbrev N__law_mixed : List Str := ["_law_number", "_law_turn", "_law_one", "_law_two"]
noncomputable abbrev P__law_mixed : List Str := ["_law_number", "_law_turn"]
theorem sc__law_mixed : FnScope N__law_mixed P__law_mixed (defScope s__law_mixed) := ⟨rfl, rfl, rfl, by decide +kernel, rfl, by decide +kernel, by decide +kernel⟩
noncomputable abbrev N__law_take : List Str := ["_law_box_here", "_law_size", "_law_left", "_law_cell"]
noncomputable abbrev P__law_take : List Str := ["_law_box_here", "_law_size"]
theorem sc__law_take : FnScope N__law_take P__law_take (defScope s__law_take) := ⟨rfl, rfl, rfl, by decide +kernel, rfl, by decide +kernel, by decide +kernel⟩
noncomputable abbrev N__law_letters : List Str := []
noncomputable abbrev P__law_letters : List Str := []
theorem sc__law_letters : FnScope N__law_letters P__law_letters (defScope s__law_letters) := ⟨rfl, rfl, rfl, by decide +kernel, rfl, by decide +kernel, by decide +kernel⟩
noncomputable abbrev N__law_named : List Str := ["_law_box_here", "_law_size"]
noncomputable abbrev P__law_named : List Str := ["_law_box_here"]
theorem sc__law_named : FnScope N__law_named P__law_named (defScope s__law_named) := ⟨rfl, rfl, rfl, by decide +kernel, rfl, by decide +kernel, by decide +kernel⟩
theorem chk__law_named_0 : compChk ({ kind := .function, names := [((".0" : Str), NameKind.«local»), (("_law_k" : Str), NameKind.«local»), (("_law_letters" : Str), NameKind.globalImplicit), (("_law_take" : Str), NameKind.globalImplicit), (("_law_box_here" : Str), NameKind.free)], isGenerator := false, isCoroutine := false, more := [] } : Scope) (defScope s__law_named) N__law_named ["_law_k"] ["_law_box_here", "_law_size"] = true := by decide +kernel
theorem nd__law_named_0 : ((["_law_k"] : List Str) ++ (["_law_box_here", "_law_size"] : List Str)).Nodup := by decide +kernel
noncomputable abbrev N__law_places : List Str := ["_law_box_here", "_law_found", "_law_k", "_law_name"]
noncomputable abbrev P__law_places : List Str := ["_law_box_here"]
theorem sc__law_places : FnScope N__law_places P__law_places (defScope s__law_places) := ⟨rfl, rfl, rfl, by decide +kernel, rfl, by decide +kernel, by decide +kernel⟩
noncomputable abbrev N__law_count : List Str := ["_law_box_here", "_law_few", "_law_most"]
noncomputable abbrev P__law_count : List Str := ["_law_box_here", "_law_few", "_law_most"]
theorem sc__law_count : FnScope N__law_count P__law_count (defScope s__law_count) := ⟨rfl, rfl, rfl, by decide +kernel, rfl, by decide +kernel, by decide +kernel⟩
noncomputable abbrev N__law_ranges : List Str := ["_law_box_here", "_law_size", "_law_found", "_law_k", "_law_low", "_law_high", "_law_other"]
noncomputable abbrev P__law_ranges : List Str := ["_law_box_here", "_law_size"]
theorem sc__law_ranges : FnScope N__law_ranges P__law_ranges (defScope s__law_ranges) := ⟨rfl, rfl, rfl, by decide +kernel, rfl, by decide +kernel, by decide +kernel⟩
noncomputable abbrev N__law_meet : List Str := ["_law_one", "_law_other"]
noncomputable abbrev P__law_meet : List Str := ["_law_one", "_law_other"]
theorem sc__law_meet : FnScope N__law_meet P__law_meet (defScope s__law_meet) := ⟨rfl, rfl, rfl, by decide +kernel, rfl, by decide +kernel, by decide +kernel⟩
noncomputable abbrev N_apart : List Str := ["one", "other"]
noncomputable abbrev P_apart : List Str := ["one", "other"]
theorem sc_apart : FnScope N_apart P_apart (defScope s_apart) := ⟨rfl, rfl, rfl, by decide +kernel, rfl, by decide +kernel, by decide +kernel⟩
noncomputable abbrev N_barred : List Str := ["one", "other", "bars"]
noncomputable abbrev P_barred : List Str := ["one", "other", "bars"]
theorem sc_barred : FnScope N_barred P_barred (defScope s_barred) := ⟨rfl, rfl, rfl, by decide +kernel, rfl, by decide +kernel, by decide +kernel⟩
noncomputable abbrev N_clashes : List Str := ["things", "bars", "rising", "found", "at", "name", "kind", "low", "high", "other", "other_kind", "other_low", "other_high"]
noncomputable abbrev P_clashes : List Str := ["things", "bars"]
theorem sc_clashes : FnScope N_clashes P_clashes (defScope s_clashes) := ⟨rfl, rfl, rfl, by decide +kernel, rfl, by decide +kernel, by decide +kernel⟩
noncomputable abbrev N__law_whole : List Str := ["_law_found"]
noncomputable abbrev P__law_whole : List Str := ["_law_found"]
theorem sc__law_whole : FnScope N__law_whole P__law_whole (defScope s__law_whole) := ⟨rfl, rfl, rfl, by decide +kernel, rfl, by decide +kernel, by decide +kernel⟩
noncomputable abbrev N__law_rows_kind : List Str := ["_law_found", "_law_kinds", "_law_row", "_law_part", "_law_sort"]
noncomputable abbrev P__law_rows_kind : List Str := ["_law_found", "_law_kinds"]
theorem sc__law_rows_kind : FnScope N__law_rows_kind P__law_rows_kind (defScope s__law_rows_kind) := ⟨rfl, rfl, rfl, by decide +kernel, rfl, by decide +kernel, by decide +kernel⟩
noncomputable abbrev N_law : List Str := ["_law_script", "_law_box_here", "_law_kinds", "_law_names", "_law_k", "_law_name", "_law_ranges_here", "_law_pair", "_law_things", "_law_bars", "_law_due", "_law_one", "_law_other", "_law_handed", "_law_turn", "_law_found"]
noncomputable abbrev P_law : List Str := ["_law_script"]
theorem sc_law : FnScope N_law P_law (defScope s_law) := ⟨rfl, rfl, rfl, by decide +kernel, rfl, by decide +kernel, by decide +kernel⟩
theorem chk_law_0 : compChk ({ kind := .function, names := [((".0" : Str), NameKind.«local»), (("_law_name" : Str), NameKind.«local»), (("_law_pair" : Str), NameKind.«local»), (("_law_take" : Str), NameKind.globalImplicit), (("len" : Str), NameKind.globalImplicit), (("_law_box_here" : Str), NameKind.free), (("_law_kinds" : Str), NameKind.free)], isGenerator := false, isCoroutine := false, more := [] } : Scope) (defScope s_law) N_law ["_law_name", "_law_pair"] ["_law_script", "_law_box_here", "_law_kinds", "_law_names", "_law_k", "._law_name", "_law_ranges_here", "._law_pair", "_law_things", "_law_bars", "_law_due", "_law_one", "_law_other", "_law_handed", "_law_turn", "_law_found"] = true := by decide +kernel
theorem nd_law_0 : ((["_law_name", "_law_pair"] : List Str) ++ (["_law_script", "_law_box_here", "_law_kinds", "_law_names", "_law_k", "._law_name", "_law_ranges_here", "._law_pair", "_law_things", "_law_bars", "_law_due", "_law_one", "_law_other", "_law_handed", "_law_turn", "_law_found"] : List Str)).Nodup := by decide +kernel
theorem bt_bool : bootBuiltins "bool" = some (.type "bool") := by decide +kernel
theorem bt_int : bootBuiltins "int" = some (.type "int") := by decide +kernel
theorem bt_isinstance : bootBuiltins "isinstance" = some (.builtin "isinstance") := by decide +kernel
theorem bt_len : bootBuiltins "len" = some (.builtin "len") := by decide +kernel
theorem bt_list : bootBuiltins "list" = some (.type "list") := by decide +kernel
theorem bt_max : bootBuiltins "max" = some (.builtin "max") := by decide +kernel
theorem bt_min : bootBuiltins "min" = some (.builtin "min") := by decide +kernel
theorem bt_sorted : bootBuiltins "sorted" = some (.builtin "sorted") := by decide +kernel
theorem bt_str : bootBuiltins "str" = some (.type "str") := by decide +kernel
theorem bt_tuple : bootBuiltins "tuple" = some (.type "tuple") := by decide +kernel
section
variable {P : Program} {w : World} {K : PySem.W.Frag} {mg : Str → Option Value} {base : Heap}
theorem ok__law_box {f : Addr} {fd : FuncData} {sp : SpD} (F : Fun K "_law_box" "_law_box" s__law_box f fd) (g_list : mg "list" = none) (len : ∀ ds M Q, sp ds M Q → ds.length = 1)
    (read : ∀ ds M Q, sp ds M Q → t__law_box { nx := fun _ M' => Q .non M', rt := Q } (startD N__law_box ds) M) : FnOk P w K mg base CX0 1 f fd P__law_box (LiftP K sp) :=
  F.okD (t := t__law_box) sc__law_box len (fun cdv A outer s H E hr => (ss_cons (sd_set 1 sc__law_box.nd rfl (Or.inl rfl) ed_int)
  (ss_cons (sd_for (id_list (ed_slice (ed_var 0 rfl (Or.inl rfl)) po_noneD (po_someD ed_int))) (gd_name 2 sc__law_box.nd rfl (Or.inl rfl)) (ss_one (sd_set 1 sc__law_box.nd rfl (Or.inl rfl) (ed_op od_mod (ed_op od_add (ed_op od_add (ed_op od_mul (ed_var 1 rfl (Or.inl rfl)) ed_int) (ed_var 2 rfl (Or.inl rfl))) ed_int) ed_int))))
  (ss_one (sd_ret (ed_lst (ad_cons (ed_callTy cd_list rfl g_list bt_list (ad_cons (ed_slice (ed_var 0 rfl (Or.inl rfl)) po_noneD (po_someD ed_int)) ad_nil)) (ad_cons ed_int (ad_cons ed_int (ad_cons ed_int (ad_cons (ed_var 1 rfl (Or.inl rfl)) ad_nil))))))))))) read
theorem ok__law_mixed {f : Addr} {fd : FuncData} {sp : SpD} (F : Fun K "_law_mixed" "_law_mixed" s__law_mixed f fd) (len : ∀ ds M Q, sp ds M Q → ds.length = 2)
    (read : ∀ ds M Q, sp ds M Q → t__law_mixed { nx := fun _ M' => Q .non M', rt := Q } (startD N__law_mixed ds) M) : FnOk P w K mg base CX0 1 f fd P__law_mixed (LiftP K sp) :=
  F.okD (t := t__law_mixed) sc__law_mixed len (fun cdv A outer s H E hr => (ss_cons (sd_set 2 sc__law_mixed.nd rfl (Or.inl rfl) (ed_op od_mod (ed_op od_add (ed_op od_add (ed_op od_mul (ed_var 0 rfl (Or.inl rfl)) ed_int) (ed_op od_mul (ed_var 1 rfl (Or.inl rfl)) ed_int)) ed_int) ed_int))
  (ss_cons (sd_set 3 sc__law_mixed.nd rfl (Or.inl rfl) (ed_op od_mod (ed_op od_add (ed_op od_add (ed_op od_mul (ed_var 2 rfl (Or.inl rfl)) (ed_op od_add (ed_op od_mod (ed_var 2 rfl (Or.inl rfl)) ed_int) ed_int)) (ed_op od_mul (ed_var 1 rfl (Or.inl rfl)) ed_int)) (ed_op od_mod (ed_var 0 rfl (Or.inl rfl)) ed_int)) ed_int))
  (ss_one (sd_ret (ed_op od_fdiv (ed_var 3 rfl (Or.inl rfl)) ed_int)))))) read
theorem ok__law_take {f : Addr} {fd : FuncData} {sp__law_mixed : SpD} {sp : SpD} (F : Fun K "_law_take" "_law_take" s__law_take f fd) (h__law_mixed : Cal P w K mg base "_law_mixed" 1 sp__law_mixed) (g_len : mg "len" = none) (len : ∀ ds M Q, sp ds M Q → ds.length = 2)
    (read : ∀ ds M Q, sp ds M Q → t__law_take sp__law_mixed { nx := fun _ M' => Q .non M', rt := Q } (startD N__law_take ds) M) : FnOk P w K mg base CX0 2 f fd P__law_take (LiftP K sp) :=
  F.okD (t := t__law_take sp__law_mixed) sc__law_take len (fun cdv A outer s H E hr => (ss_cons (sd_asg (ed_op od_add (ed_ix (ed_var 0 rfl (Or.inl rfl)) ed_int) ed_int) (gd_sub (ed_var 0 rfl (Or.inl rfl)) ed_int))
  (ss_cons (sd_if (td_cmp od_gt (ed_ix (ed_var 0 rfl (Or.inl rfl)) ed_int) ed_int) (ss_cons (sd_set 2 sc__law_take.nd rfl (Or.inl rfl) (ed_ix (ed_var 0 rfl (Or.inl rfl)) ed_int))
  (ss_cons (sd_asg (ed_op od_fdiv (ed_var 2 rfl (Or.inl rfl)) (ed_var 1 rfl (Or.inl rfl))) (gd_sub (ed_var 0 rfl (Or.inl rfl)) ed_int))
  (ss_one (sd_ret (ed_op od_mod (ed_var 2 rfl (Or.inl rfl)) (ed_var 1 rfl (Or.inl rfl))))))) ss_nil)
  (ss_cons (sd_if (td_cmp od_ge (ed_ix (ed_var 0 rfl (Or.inl rfl)) ed_int) (ed_callB cd_len rfl g_len bt_len (ad_cons (ed_ix (ed_var 0 rfl (Or.inl rfl)) ed_int) ad_nil))) (ss_one (sd_ret (ed_op od_mod (ed_call h__law_mixed (hr.mono (by decide)) rfl (ad_cons (ed_ix (ed_var 0 rfl (Or.inl rfl)) ed_int) (ad_cons (ed_ix (ed_var 0 rfl (Or.inl rfl)) ed_int) ad_nil))) (ed_var 1 rfl (Or.inl rfl))))) ss_nil)
  (ss_cons (sd_set 3 sc__law_take.nd rfl (Or.inl rfl) (ed_ix (ed_ix (ed_var 0 rfl (Or.inl rfl)) ed_int) (ed_ix (ed_var 0 rfl (Or.inl rfl)) ed_int)))
  (ss_cons (sd_asg (ed_op od_add (ed_ix (ed_var 0 rfl (Or.inl rfl)) ed_int) ed_int) (gd_sub (ed_var 0 rfl (Or.inl rfl)) ed_int))
  (ss_cons (sd_if (td_cmp od_lt (ed_var 3 rfl (Or.inl rfl)) (ed_op od_pow ed_int ed_int)) (ss_one (sd_ret (ed_op od_mod (ed_call h__law_mixed (hr.mono (by decide)) rfl (ad_cons (ed_var 3 rfl (Or.inl rfl)) (ad_cons (ed_ix (ed_var 0 rfl (Or.inl rfl)) ed_int) ad_nil))) (ed_var 1 rfl (Or.inl rfl))))) ss_nil)
  (ss_cons (sd_asg (ed_op od_fdiv (ed_var 3 rfl (Or.inl rfl)) (ed_var 1 rfl (Or.inl rfl))) (gd_sub (ed_var 0 rfl (Or.inl rfl)) ed_int))
  (ss_one (sd_ret (ed_op od_mod (ed_var 3 rfl (Or.inl rfl)) (ed_var 1 rfl (Or.inl rfl))))))))))))) read
theorem ok__law_letters {f : Addr} {fd : FuncData} {sp : SpD} (F : Fun K "_law_letters" "_law_letters" s__law_letters f fd) (len : ∀ ds M Q, sp ds M Q → ds.length = 0)
    (read : ∀ ds M Q, sp ds M Q → t__law_letters { nx := fun _ M' => Q .non M', rt := Q } (startD N__law_letters ds) M) : FnOk P w K mg base CX0 1 f fd P__law_letters (LiftP K sp) :=
  F.okD (t := t__law_letters) sc__law_letters len (fun cdv A outer s H E hr => (ss_one (sd_ret ed_str))) read
theorem ok__law_named {f : Addr} {fd : FuncData} {sp__law_take : SpD} {sp__law_letters : SpD} {sp : SpD} (F : Fun K "_law_named" "_law_named" s__law_named f fd) (h__law_take : Cal P w K mg base "_law_take" 2 sp__law_take) (h__law_letters : Cal P w K mg base "_law_letters" 1 sp__law_letters) (g_range : mg "range" = none) (len : ∀ ds M Q, sp ds M Q → ds.length = 1)
    (read : ∀ ds M Q, sp ds M Q → t__law_named sp__law_take sp__law_letters { nx := fun _ M' => Q .non M', rt := Q } (startD N__law_named ds) M) : FnOk P w K mg base CX0 3 f fd P__law_named (LiftP K sp) :=
  F.okD (t := t__law_named sp__law_take sp__law_letters) sc__law_named len (fun cdv A outer s H E hr => (ss_cons (sd_set 1 sc__law_named.nd rfl (Or.inl rfl) (ed_op od_add ed_int (ed_call h__law_take (hr.mono (by decide)) rfl (ad_cons (ed_var 0 rfl (Or.inr (Or.inl rfl))) (ad_cons ed_int ad_nil)))))
  (ss_one (sd_ret (ed_join ed_str (ed_comp (ts := ["_law_k"]) (rest := ["_law_box_here", "_law_size"]) (compChk_ok (out := (defScope s__law_named)) (N := N__law_named) chk__law_named_0) (id_rng1 rfl g_range (ad_cons (ed_var 1 rfl (Or.inl rfl)) ad_nil)) (fun _ _ _ => (gd_name 0 nd__law_named_0 rfl (Or.inl rfl))) (fun _ _ _ => fd_nil) (fun _ _ _ => (ed_ixS (ed_call0 h__law_letters (hr.mono (by decide)) rfl ) (ed_call h__law_take (hr.mono (by decide)) rfl (ad_cons (ed_var 1 rfl (Or.inr (Or.inl rfl))) (ad_cons ed_int ad_nil))))))))))) read
theorem ok__law_places {f : Addr} {fd : FuncData} {sp__law_take : SpD} {sp__law_named : SpD} {sp : SpD} (F : Fun K "_law_places" "_law_places" s__law_places f fd) (h__law_take : Cal P w K mg base "_law_take" 2 sp__law_take) (h__law_named : Cal P w K mg base "_law_named" 3 sp__law_named) (g_range : mg "range" = none) (len : ∀ ds M Q, sp ds M Q → ds.length = 1)
    (read : ∀ ds M Q, sp ds M Q → t__law_places sp__law_take sp__law_named { nx := fun _ M' => Q .non M', rt := Q } (startD N__law_places ds) M) : FnOk P w K mg base CX0 4 f fd P__law_places (LiftP K sp) :=
  F.okD (t := t__law_places sp__law_take sp__law_named) sc__law_places len (fun cdv A outer s H E hr => (ss_cons (sd_set 1 sc__law_places.nd rfl (Or.inl rfl) (ed_lst ad_nil))
  (ss_cons (sd_for (id_rng1 rfl g_range (ad_cons (ed_ix (ed_lst (ad_cons ed_int (ad_cons ed_int (ad_cons ed_int (ad_cons ed_int (ad_cons ed_int (ad_cons ed_int (ad_cons ed_int (ad_cons ed_int ad_nil))))))))) (ed_call h__law_take (hr.mono (by decide)) rfl (ad_cons (ed_var 0 rfl (Or.inl rfl)) (ad_cons ed_int ad_nil)))) ad_nil)) (gd_name 2 sc__law_places.nd rfl (Or.inl rfl)) (ss_cons (sd_set 3 sc__law_places.nd rfl (Or.inl rfl) (ed_call h__law_named (hr.mono (by decide)) rfl (ad_cons (ed_var 0 rfl (Or.inl rfl)) ad_nil)))
  (ss_one (sd_if (td_cmp od_notIn (ed_var 3 rfl (Or.inl rfl)) (ed_var 1 rfl (Or.inl rfl))) (ss_one (sd_expr (ed_app (ed_var 1 rfl (Or.inl rfl)) (ed_var 3 rfl (Or.inl rfl))))) ss_nil))))
  (ss_one (sd_ret (ed_var 1 rfl (Or.inl rfl))))))) read
theorem ok__law_count {f : Addr} {fd : FuncData} {sp__law_take : SpD} {sp : SpD} (F : Fun K "_law_count" "_law_count" s__law_count f fd) (h__law_take : Cal P w K mg base "_law_take" 2 sp__law_take) (len : ∀ ds M Q, sp ds M Q → ds.length = 3)
    (read : ∀ ds M Q, sp ds M Q → t__law_count sp__law_take { nx := fun _ M' => Q .non M', rt := Q } (startD N__law_count ds) M) : FnOk P w K mg base CX0 3 f fd P__law_count (LiftP K sp) :=
  F.okD (t := t__law_count sp__law_take) sc__law_count len (fun cdv A outer s H E hr => (ss_cons (sd_if (td_cmp (od_eqA hr) (ed_call h__law_take (hr.mono (by decide)) rfl (ad_cons (ed_var 0 rfl (Or.inl rfl)) (ad_cons ed_int ad_nil))) ed_int) (ss_one (sd_ret (ed_call h__law_take (hr.mono (by decide)) rfl (ad_cons (ed_var 0 rfl (Or.inl rfl)) (ad_cons (ed_op od_add (ed_var 2 rfl (Or.inl rfl)) ed_int) ad_nil))))) ss_nil)
  (ss_one (sd_ret (ed_call h__law_take (hr.mono (by decide)) rfl (ad_cons (ed_var 0 rfl (Or.inl rfl)) (ad_cons (ed_op od_add (ed_var 1 rfl (Or.inl rfl)) ed_int) ad_nil))))))) read
theorem ok__law_ranges {f : Addr} {fd : FuncData} {sp__law_take : SpD} {sp : SpD} (F : Fun K "_law_ranges" "_law_ranges" s__law_ranges f fd) (h__law_take : Cal P w K mg base "_law_take" 2 sp__law_take) (g_len : mg "len" = none) (g_max : mg "max" = none) (g_min : mg "min" = none) (g_range : mg "range" = none) (len : ∀ ds M Q, sp ds M Q → ds.length = 2)
    (read : ∀ ds M Q, sp ds M Q → t__law_ranges sp__law_take { nx := fun _ M' => Q .non M', rt := Q } (startD N__law_ranges ds) M) : FnOk P w K mg base CX0 3 f fd P__law_ranges (LiftP K sp) :=
  F.okD (t := t__law_ranges sp__law_take) sc__law_ranges len (fun cdv A outer s H E hr => (ss_cons (sd_set 2 sc__law_ranges.nd rfl (Or.inl rfl) (ed_lst ad_nil))
  (ss_cons (sd_for (id_rng1 rfl g_range (ad_cons (ed_var 1 rfl (Or.inl rfl)) ad_nil)) (gd_name 3 sc__law_ranges.nd rfl (Or.inl rfl)) (ss_cons (sd_set 4 sc__law_ranges.nd rfl (Or.inl rfl) (ed_call h__law_take (hr.mono (by decide)) rfl (ad_cons (ed_var 0 rfl (Or.inl rfl)) (ad_cons ed_int ad_nil))))
  (ss_cons (sd_set 5 sc__law_ranges.nd rfl (Or.inl rfl) (ed_callB cd_min2 rfl g_min bt_min (ad_cons ed_int (ad_cons (ed_op od_add (ed_var 4 rfl (Or.inl rfl)) (ed_ix (ed_lst (ad_cons ed_int (ad_cons (ed_call h__law_take (hr.mono (by decide)) rfl (ad_cons (ed_var 0 rfl (Or.inl rfl)) (ad_cons ed_int ad_nil))) (ad_cons (ed_call h__law_take (hr.mono (by decide)) rfl (ad_cons (ed_var 0 rfl (Or.inl rfl)) (ad_cons ed_int ad_nil))) ad_nil)))) (ed_call h__law_take (hr.mono (by decide)) rfl (ad_cons (ed_var 0 rfl (Or.inl rfl)) (ad_cons ed_int ad_nil))))) ad_nil))))
  (ss_cons (sd_if (td_cmp (od_eqA hr) (ed_call h__law_take (hr.mono (by decide)) rfl (ad_cons (ed_var 0 rfl (Or.inl rfl)) (ad_cons ed_int ad_nil))) ed_int) (ss_one (sd_set 5 sc__law_ranges.nd rfl (Or.inl rfl) ed_int)) ss_nil)
  (ss_cons (sd_if (td_w (wd_and (td_cmp od_gt (ed_callB cd_len rfl g_len bt_len (ad_cons (ed_var 2 rfl (Or.inl rfl)) ad_nil)) ed_int) (wd_and1 (td_cmp (od_eqA hr) (ed_call h__law_take (hr.mono (by decide)) rfl (ad_cons (ed_var 0 rfl (Or.inl rfl)) (ad_cons ed_int ad_nil))) ed_int)))) (ss_cons (sd_set 6 sc__law_ranges.nd rfl (Or.inl rfl) (ed_ix (ed_var 2 rfl (Or.inl rfl)) (ed_call h__law_take (hr.mono (by decide)) rfl (ad_cons (ed_var 0 rfl (Or.inl rfl)) (ad_cons (ed_callB cd_len rfl g_len bt_len (ad_cons (ed_var 2 rfl (Or.inl rfl)) ad_nil)) ad_nil)))))
  (ss_cons (sd_set 4 sc__law_ranges.nd rfl (Or.inl rfl) (ed_callB cd_min2 rfl g_min bt_min (ad_cons ed_int (ad_cons (ed_op od_add (ed_ix (ed_var 6 rfl (Or.inl rfl)) ed_int) (ed_call h__law_take (hr.mono (by decide)) rfl (ad_cons (ed_var 0 rfl (Or.inl rfl)) (ad_cons ed_int ad_nil)))) ad_nil))))
  (ss_one (sd_set 5 sc__law_ranges.nd rfl (Or.inl rfl) (ed_callB cd_max2 rfl g_max bt_max (ad_cons (ed_var 4 rfl (Or.inl rfl)) (ad_cons (ed_var 5 rfl (Or.inl rfl)) ad_nil))))))) ss_nil)
  (ss_one (sd_expr (ed_app (ed_var 2 rfl (Or.inl rfl)) (ed_tup (ad_cons (ed_var 4 rfl (Or.inl rfl)) (ad_cons (ed_var 5 rfl (Or.inl rfl)) ad_nil)))))))))))
  (ss_one (sd_ret (ed_var 2 rfl (Or.inl rfl))))))) read
theorem ok__law_meet {f : Addr} {fd : FuncData} {sp : SpD} (F : Fun K "_law_meet" "_law_meet" s__law_meet f fd) (g_max : mg "max" = none) (g_min : mg "min" = none) (len : ∀ ds M Q, sp ds M Q → ds.length = 2)
    (read : ∀ ds M Q, sp ds M Q → t__law_meet { nx := fun _ M' => Q .non M', rt := Q } (startD N__law_meet ds) M) : FnOk P w K mg base CX0 1 f fd P__law_meet (LiftP K sp) :=
  F.okD (t := t__law_meet) sc__law_meet len (fun cdv A outer s H E hr => (ss_one (sd_ret (ed_cmp od_le (ed_callB cd_max2 rfl g_max bt_max (ad_cons (ed_ix (ed_var 0 rfl (Or.inl rfl)) ed_int) (ad_cons (ed_ix (ed_var 1 rfl (Or.inl rfl)) ed_int) ad_nil))) (ed_callB cd_min2 rfl g_min bt_min (ad_cons (ed_ix (ed_var 0 rfl (Or.inl rfl)) ed_int) (ad_cons (ed_ix (ed_var 1 rfl (Or.inl rfl)) ed_int) ad_nil))))))) read
theorem ok_apart {f : Addr} {fd : FuncData} {sp : SpD} (F : Fun K "apart" "apart" s_apart f fd) (g_max : mg "max" = none) (g_min : mg "min" = none) (len : ∀ ds M Q, sp ds M Q → ds.length = 2)
    (read : ∀ ds M Q, sp ds M Q → t_apart { nx := fun _ M' => Q .non M', rt := Q } (startD N_apart ds) M) : FnOk P w K mg base CX0 1 f fd P_apart (LiftP K sp) :=
  F.okD (t := t_apart) sc_apart len (fun cdv A outer s H E hr => (ss_one (sd_ret (ed_cmp od_gt (ed_callB cd_max2 rfl g_max bt_max (ad_cons (ed_ix (ed_var 0 rfl (Or.inl rfl)) ed_int) (ad_cons (ed_ix (ed_var 1 rfl (Or.inl rfl)) ed_int) ad_nil))) (ed_callB cd_min2 rfl g_min bt_min (ad_cons (ed_ix (ed_var 0 rfl (Or.inl rfl)) ed_int) (ad_cons (ed_ix (ed_var 1 rfl (Or.inl rfl)) ed_int) ad_nil))))))) read
theorem ok_barred {f : Addr} {fd : FuncData} {sp : SpD} (F : Fun K "barred" "barred" s_barred f fd) (len : ∀ ds M Q, sp ds M Q → ds.length = 3)
    (read : ∀ ds M Q, sp ds M Q → t_barred { nx := fun _ M' => Q .non M', rt := Q } (startD N_barred ds) M) : FnOk P w K mg base CX0 1 f fd P_barred (LiftP K sp) :=
  F.okD (t := t_barred) sc_barred len (fun cdv A outer s H E hr => (ss_one (sd_ret (ed_or (ed_cmp (od_inA hr) (ed_tup (ad_cons (ed_var 0 rfl (Or.inl rfl)) (ad_cons (ed_var 1 rfl (Or.inl rfl)) ad_nil))) (ed_var 2 rfl (Or.inl rfl))) (ed_one (ed_cmp (od_inA hr) (ed_tup (ad_cons (ed_var 1 rfl (Or.inl rfl)) (ad_cons (ed_var 0 rfl (Or.inl rfl)) ad_nil))) (ed_var 2 rfl (Or.inl rfl)))))))) read
theorem ok_clashes {f : Addr} {fd : FuncData} {sp_apart : SpD} {sp_barred : SpD} {sp : SpD} (F : Fun K "clashes" "clashes" s_clashes f fd) (h_apart : Cal P w K mg base "apart" 1 sp_apart) (h_barred : Cal P w K mg base "barred" 1 sp_barred) (g_enumerate : mg "enumerate" = none) (g_sorted : mg "sorted" = none) (len : ∀ ds M Q, sp ds M Q → ds.length = 2)
    (read : ∀ ds M Q, sp ds M Q → t_clashes sp_apart sp_barred { nx := fun _ M' => Q .non M', rt := Q } (startD N_clashes ds) M) : FnOk P w K mg base CX0 2 f fd P_clashes (LiftP K sp) :=
  F.okD (t := t_clashes sp_apart sp_barred) sc_clashes len (fun cdv A outer s H E hr => (ss_cons (sd_set 2 sc_clashes.nd rfl (Or.inl rfl) (ed_callB (cd_sortedL hr) rfl g_sorted bt_sorted (ad_cons (ed_var 0 rfl (Or.inl rfl)) ad_nil)))
  (ss_cons (sd_set 3 sc_clashes.nd rfl (Or.inl rfl) (ed_lst ad_nil))
  (ss_cons (sd_forG (id_enum rfl g_enumerate (ad_cons (ed_var 2 rfl (Or.inl rfl)) ad_nil)) (gd_tup (gd_cons (gd_name 4 sc_clashes.nd rfl (Or.inl rfl)) (gd_cons (gd_tup (gd_cons (gd_name 5 sc_clashes.nd rfl (Or.inl rfl)) (gd_cons (gd_name 6 sc_clashes.nd rfl (Or.inl rfl)) (gd_cons (gd_name 7 sc_clashes.nd rfl (Or.inl rfl)) (gd_cons (gd_name 8 sc_clashes.nd rfl (Or.inl rfl)) gd_nil))))) gd_nil))) (ss_one (sd_forG (id_listG (ed_slice (ed_var 2 rfl (Or.inl rfl)) (po_someD (ed_op od_add (ed_var 4 rfl (Or.inl rfl)) ed_int)) po_noneD)) (gd_tup (gd_cons (gd_name 9 sc_clashes.nd rfl (Or.inl rfl)) (gd_cons (gd_name 10 sc_clashes.nd rfl (Or.inl rfl)) (gd_cons (gd_name 11 sc_clashes.nd rfl (Or.inl rfl)) (gd_cons (gd_name 12 sc_clashes.nd rfl (Or.inl rfl)) gd_nil))))) (ss_cons (sd_if (td_tru (ed_call h_apart (hr.mono (by decide)) rfl (ad_cons (ed_tup (ad_cons (ed_var 7 rfl (Or.inl rfl)) (ad_cons (ed_var 8 rfl (Or.inl rfl)) ad_nil))) (ad_cons (ed_tup (ad_cons (ed_var 11 rfl (Or.inl rfl)) (ad_cons (ed_var 12 rfl (Or.inl rfl)) ad_nil))) ad_nil)))) (ss_one (sd_expr (ed_app (ed_var 3 rfl (Or.inl rfl)) (ed_tup (ad_cons (ed_var 5 rfl (Or.inl rfl)) (ad_cons (ed_var 9 rfl (Or.inl rfl)) (ad_cons ed_str ad_nil))))))) ss_nil)
  (ss_one (sd_if (td_tru (ed_call h_barred (hr.mono (by decide)) rfl (ad_cons (ed_var 6 rfl (Or.inl rfl)) (ad_cons (ed_var 10 rfl (Or.inl rfl)) (ad_cons (ed_var 1 rfl (Or.inl rfl)) ad_nil))))) (ss_one (sd_expr (ed_app (ed_var 3 rfl (Or.inl rfl)) (ed_tup (ad_cons (ed_var 5 rfl (Or.inl rfl)) (ad_cons (ed_var 9 rfl (Or.inl rfl)) (ad_cons ed_str ad_nil))))))) ss_nil))))))
  (ss_one (sd_ret (ed_var 3 rfl (Or.inl rfl)))))))) read
theorem ok__law_whole {f : Addr} {fd : FuncData} {sp : SpD} (F : Fun K "_law_whole" "_law_whole" s__law_whole f fd) (g_bool : mg "bool" = none) (g_int : mg "int" = none) (g_isinstance : mg "isinstance" = none) (len : ∀ ds M Q, sp ds M Q → ds.length = 1)
    (read : ∀ ds M Q, sp ds M Q → t__law_whole { nx := fun _ M' => Q .non M', rt := Q } (startD N__law_whole ds) M) : FnOk P w K mg base CX0 1 f fd P__law_whole (LiftP K sp) :=
  F.okD (t := t__law_whole) sc__law_whole len (fun cdv A outer s H E hr => (ss_one (sd_ret (ed_and (ed_callB cd_isi rfl g_isinstance bt_isinstance (ad_cons (ed_var 0 rfl (Or.inl rfl)) (ad_cons (ed_bltT rfl g_int bt_int) ad_nil))) (ed_one (ed_not (ed_callB cd_isi rfl g_isinstance bt_isinstance (ad_cons (ed_var 0 rfl (Or.inl rfl)) (ad_cons (ed_bltT rfl g_bool bt_bool) ad_nil))))))))) read
theorem ok__law_rows_kind {f : Addr} {fd : FuncData} {sp__law_whole : SpD} {sp : SpD} (F : Fun K "_law_rows_kind" "_law_rows_kind" s__law_rows_kind f fd) (h__law_whole : Cal P w K mg base "_law_whole" 1 sp__law_whole) (g_isinstance : mg "isinstance" = none) (g_len : mg "len" = none) (g_list : mg "list" = none) (g_str : mg "str" = none) (g_tuple : mg "tuple" = none) (g_zip : mg "zip" = none) (len : ∀ ds M Q, sp ds M Q → ds.length = 2)
    (read : ∀ ds M Q, sp ds M Q → t__law_rows_kind sp__law_whole { nx := fun _ M' => Q .non M', rt := Q } (startD N__law_rows_kind ds) M) : FnOk P w K mg base CX0 2 f fd P__law_rows_kind (LiftP K sp) :=
  F.okD (t := t__law_rows_kind sp__law_whole) sc__law_rows_kind len (fun cdv A outer s H E hr => (ss_cons (sd_if (td_not (td_tru (ed_callB cd_isi rfl g_isinstance bt_isinstance (ad_cons (ed_var 0 rfl (Or.inl rfl)) (ad_cons (ed_bltT rfl g_list bt_list) ad_nil))))) (ss_one (sd_ret ed_bl)) ss_nil)
  (ss_cons (sd_forG (id_listG (ed_var 0 rfl (Or.inl rfl))) (gd_name 2 sc__law_rows_kind.nd rfl (Or.inl rfl)) (ss_cons (sd_if (td_w (wd_or (td_not (td_tru (ed_callB cd_isi rfl g_isinstance bt_isinstance (ad_cons (ed_var 2 rfl (Or.inl rfl)) (ad_cons (ed_bltT rfl g_tuple bt_tuple) ad_nil))))) (wd_or1 (td_cmp (od_neA hr) (ed_callB cd_len rfl g_len bt_len (ad_cons (ed_var 2 rfl (Or.inl rfl)) ad_nil)) (ed_callB cd_lenS rfl g_len bt_len (ad_cons (ed_var 1 rfl (Or.inl rfl)) ad_nil)))))) (ss_one (sd_ret ed_bl)) ss_nil)
  (ss_one (sd_forG (id_zts rfl g_zip (ad_cons (ed_var 2 rfl (Or.inl rfl)) (ad_cons (ed_var 1 rfl (Or.inl rfl)) ad_nil))) (gd_tup (gd_cons (gd_name 3 sc__law_rows_kind.nd rfl (Or.inl rfl)) (gd_cons (gd_name 4 sc__law_rows_kind.nd rfl (Or.inl rfl)) gd_nil))) (ss_one (sd_if (td_w (wd_or (td_w (wd_and (td_cmp (od_eqA hr) (ed_var 4 rfl (Or.inl rfl)) ed_str) (wd_and1 (td_not (td_tru (ed_call h__law_whole (hr.mono (by decide)) rfl (ad_cons (ed_var 3 rfl (Or.inl rfl)) ad_nil))))))) (wd_or1 (td_w (wd_and (td_cmp (od_eqA hr) (ed_var 4 rfl (Or.inl rfl)) ed_str) (wd_and1 (td_not (td_tru (ed_callB cd_isi rfl g_isinstance bt_isinstance (ad_cons (ed_var 3 rfl (Or.inl rfl)) (ad_cons (ed_bltT rfl g_str bt_str) ad_nil))))))))))) (ss_one (sd_ret ed_bl)) ss_nil))))))
  (ss_one (sd_ret ed_bl))))) read
theorem ok_law {f : Addr} {fd : FuncData} {sp__law_box : SpD} {sp__law_places : SpD} {sp__law_count : SpD} {sp__law_named : SpD} {sp__law_ranges : SpD} {sp__law_take : SpD} {sp__law_meet : SpD} {sp_clashes : SpD} {sp__law_rows_kind : SpD} {sp : SpD} (F : Fun K "law" "law" s_law f fd) (h__law_box : Cal P w K mg base "_law_box" 1 sp__law_box) (h__law_places : Cal P w K mg base "_law_places" 4 sp__law_places) (h__law_count : Cal P w K mg base "_law_count" 3 sp__law_count) (h__law_named : Cal P w K mg base "_law_named" 3 sp__law_named) (h__law_ranges : Cal P w K mg base "_law_ranges" 3 sp__law_ranges) (h__law_take : Cal P w K mg base "_law_take" 2 sp__law_take) (h__law_meet : Cal P w K mg base "_law_meet" 1 sp__law_meet) (h_clashes : Cal P w K mg base "clashes" 2 sp_clashes) (h__law_rows_kind : Cal P w K mg base "_law_rows_kind" 2 sp__law_rows_kind) (g_len : mg "len" = none) (g_list : mg "list" = none) (g_range : mg "range" = none) (g_sorted : mg "sorted" = none) (g_zip : mg "zip" = none) (len : ∀ ds M Q, sp ds M Q → ds.length = 1)
    (read : ∀ ds M Q, sp ds M Q → t_law sp__law_box sp__law_places sp__law_count sp__law_named sp__law_ranges sp__law_take sp__law_meet sp_clashes sp__law_rows_kind { nx := fun _ M' => Q .non M', rt := Q } (startD N_law ds) M) : FnOk P w K mg base CX0 5 f fd P_law (LiftP K sp) :=
  F.okD (t := t_law sp__law_box sp__law_places sp__law_count sp__law_named sp__law_ranges sp__law_take sp__law_meet sp_clashes sp__law_rows_kind) sc_law len (fun cdv A outer s H E hr => (ss_cons (sd_set 1 sc_law.nd rfl (Or.inr rfl) (ed_call h__law_box (hr.mono (by decide)) rfl (ad_cons (ed_var 0 rfl (Or.inl rfl)) ad_nil)))
  (ss_cons (sd_set 2 sc_law.nd rfl (Or.inr rfl) (ed_slice (ed_call h__law_places (hr.mono (by decide)) rfl (ad_cons (ed_var 1 rfl (Or.inr (Or.inl rfl))) ad_nil)) po_noneD (po_someD ed_int)))
  (ss_cons (sd_set 3 sc_law.nd rfl (Or.inl rfl) (ed_lst ad_nil))
  (ss_cons (sd_for (id_rng1 rfl g_range (ad_cons (ed_call h__law_count (hr.mono (by decide)) rfl (ad_cons (ed_var 1 rfl (Or.inr (Or.inl rfl))) (ad_cons ed_int (ad_cons ed_int ad_nil)))) ad_nil)) (gd_name 4 sc_law.nd rfl (Or.inl rfl)) (ss_cons (sd_set 5 sc_law.nd rfl (Or.inl rfl) (ed_call h__law_named (hr.mono (by decide)) rfl (ad_cons (ed_var 1 rfl (Or.inr (Or.inl rfl))) ad_nil)))
  (ss_one (sd_if (td_cmp od_notIn (ed_var 5 rfl (Or.inl rfl)) (ed_var 3 rfl (Or.inl rfl))) (ss_one (sd_expr (ed_app (ed_var 3 rfl (Or.inl rfl)) (ed_var 5 rfl (Or.inl rfl))))) ss_nil))))
  (ss_cons (sd_set 6 sc_law.nd rfl (Or.inl rfl) (ed_call h__law_ranges (hr.mono (by decide)) rfl (ad_cons (ed_var 1 rfl (Or.inr (Or.inl rfl))) (ad_cons (ed_callB cd_len rfl g_len bt_len (ad_cons (ed_var 3 rfl (Or.inl rfl)) ad_nil)) ad_nil))))
  (ss_cons (sd_compG 8 (ts := ["_law_name", "_law_pair"]) (rest := ["_law_script", "_law_box_here", "_law_kinds", "_law_names", "_law_k", "._law_name", "_law_ranges_here", "._law_pair", "_law_things", "_law_bars", "_law_due", "_law_one", "_law_other", "_law_handed", "_law_turn", "_law_found"]) (compChk_ok (out := (defScope s_law)) (N := N_law) chk_law_0) (id_zip rfl g_zip (ad_cons (ed_var 3 rfl (Or.inl rfl)) (ad_cons (ed_var 6 rfl (Or.inl rfl)) ad_nil))) (fun _ _ _ => (gd_tup (gd_cons (gd_name 0 nd_law_0 rfl (Or.inl rfl)) (gd_cons (gd_name 1 nd_law_0 rfl (Or.inl rfl)) gd_nil)))) (fun _ _ _ => fd_nil) (fun _ _ _ => (ed_op od_catT (ed_tup (ad_cons (ed_var 0 rfl (Or.inl rfl)) (ad_cons (ed_ix (ed_var 4 rfl (Or.inr (Or.inl rfl))) (ed_call h__law_take (hr.mono (by decide)) rfl (ad_cons (ed_var 3 rfl (Or.inr (Or.inl rfl))) (ad_cons (ed_callB cd_len rfl g_len bt_len (ad_cons (ed_var 4 rfl (Or.inr (Or.inl rfl))) ad_nil)) ad_nil)))) ad_nil))) (ed_var 1 rfl (Or.inl rfl)))) sc_law.nd rfl (Or.inl rfl))
  (ss_cons (sd_set 9 sc_law.nd rfl (Or.inl rfl) (ed_lst ad_nil))
  (ss_cons (sd_for (id_rng1 rfl g_range (ad_cons (ed_call h__law_take (hr.mono (by decide)) rfl (ad_cons (ed_var 1 rfl (Or.inr (Or.inl rfl))) (ad_cons ed_int ad_nil))) ad_nil)) (gd_name 4 sc_law.nd rfl (Or.inl rfl)) (ss_cons (sd_set 7 sc_law.nd rfl (Or.inl rfl) (ed_tup (ad_cons (ed_ix (ed_var 2 rfl (Or.inr (Or.inl rfl))) (ed_call h__law_take (hr.mono (by decide)) rfl (ad_cons (ed_var 1 rfl (Or.inr (Or.inl rfl))) (ad_cons (ed_callB cd_len rfl g_len bt_len (ad_cons (ed_var 2 rfl (Or.inr (Or.inl rfl))) ad_nil)) ad_nil)))) (ad_cons (ed_ix (ed_var 2 rfl (Or.inr (Or.inl rfl))) (ed_call h__law_take (hr.mono (by decide)) rfl (ad_cons (ed_var 1 rfl (Or.inr (Or.inl rfl))) (ad_cons (ed_callB cd_len rfl g_len bt_len (ad_cons (ed_var 2 rfl (Or.inr (Or.inl rfl))) ad_nil)) ad_nil)))) ad_nil))))
  (ss_one (sd_if (td_w (wd_and (td_cmp (od_notInA hr) (ed_tup (ad_cons (ed_ix (ed_var 7 rfl (Or.inl rfl)) ed_int) (ad_cons (ed_ix (ed_var 7 rfl (Or.inl rfl)) ed_int) ad_nil))) (ed_var 9 rfl (Or.inl rfl))) (wd_and1 (td_cmp (od_notInA hr) (ed_var 7 rfl (Or.inl rfl)) (ed_var 9 rfl (Or.inl rfl)))))) (ss_one (sd_expr (ed_app (ed_var 9 rfl (Or.inl rfl)) (ed_var 7 rfl (Or.inl rfl))))) ss_nil))))
  (ss_cons (sd_set 10 sc_law.nd rfl (Or.inl rfl) (ed_lst ad_nil))
  (ss_cons (sd_forG (id_listG (ed_var 8 rfl (Or.inl rfl))) (gd_name 11 sc_law.nd rfl (Or.inl rfl)) (ss_one (sd_forG (id_listG (ed_var 8 rfl (Or.inl rfl))) (gd_name 12 sc_law.nd rfl (Or.inl rfl)) (ss_one (sd_if (td_cmp od_ltS (ed_ix (ed_var 11 rfl (Or.inl rfl)) ed_int) (ed_ix (ed_var 12 rfl (Or.inl rfl)) ed_int)) (ss_cons (sd_if (td_not (td_tru (ed_call h__law_meet (hr.mono (by decide)) rfl (ad_cons (ed_sliceT (ed_var 11 rfl (Or.inl rfl)) (po_someD ed_int) po_noneD) (ad_cons (ed_sliceT (ed_var 12 rfl (Or.inl rfl)) (po_someD ed_int) po_noneD) ad_nil))))) (ss_one (sd_expr (ed_app (ed_var 10 rfl (Or.inl rfl)) (ed_tup (ad_cons (ed_ix (ed_var 11 rfl (Or.inl rfl)) ed_int) (ad_cons (ed_ix (ed_var 12 rfl (Or.inl rfl)) ed_int) (ad_cons ed_str ad_nil))))))) ss_nil)
  (ss_one (sd_if (td_w (wd_or (td_cmp (od_inA hr) (ed_tup (ad_cons (ed_ix (ed_var 11 rfl (Or.inl rfl)) ed_int) (ad_cons (ed_ix (ed_var 12 rfl (Or.inl rfl)) ed_int) ad_nil))) (ed_var 9 rfl (Or.inl rfl))) (wd_or1 (td_cmp (od_inA hr) (ed_tup (ad_cons (ed_ix (ed_var 12 rfl (Or.inl rfl)) ed_int) (ad_cons (ed_ix (ed_var 11 rfl (Or.inl rfl)) ed_int) ad_nil))) (ed_var 9 rfl (Or.inl rfl)))))) (ss_one (sd_expr (ed_app (ed_var 10 rfl (Or.inl rfl)) (ed_tup (ad_cons (ed_ix (ed_var 11 rfl (Or.inl rfl)) ed_int) (ad_cons (ed_ix (ed_var 12 rfl (Or.inl rfl)) ed_int) (ad_cons ed_str ad_nil))))))) ss_nil))) ss_nil)))))
  (ss_cons (sd_set 13 sc_law.nd rfl (Or.inl rfl) (ed_lst (ad_cons (ed_callTy cd_list rfl g_list bt_list (ad_cons (ed_var 8 rfl (Or.inl rfl)) ad_nil)) (ad_cons (ed_callTy cd_list rfl g_list bt_list (ad_cons (ed_var 9 rfl (Or.inl rfl)) ad_nil)) ad_nil))))
  (ss_cons (sd_for (id_rng1 rfl g_range (ad_cons ed_int ad_nil)) (gd_name 14 sc_law.nd rfl (Or.inl rfl)) (ss_cons (sd_set 15 sc_law.nd rfl (Or.inl rfl) (ed_call h_clashes (hr.mono (by decide)) rfl (ad_cons (ed_ix (ed_var 13 rfl (Or.inl rfl)) ed_int) (ad_cons (ed_ix (ed_var 13 rfl (Or.inl rfl)) ed_int) ad_nil))))
  (ss_cons (sd_if (td_w (wd_or (td_not (td_tru (ed_call h__law_rows_kind (hr.mono (by decide)) rfl (ad_cons (ed_var 15 rfl (Or.inl rfl)) (ad_cons ed_str ad_nil))))) (wd_or (td_cmp (od_neA hr) (ed_var 15 rfl (Or.inl rfl)) (ed_callB (cd_sortedL hr) rfl g_sorted bt_sorted (ad_cons (ed_var 10 rfl (Or.inl rfl)) ad_nil))) (wd_or1 (td_cmp (od_neP hr) (ed_var 13 rfl (Or.inl rfl)) (ed_lst (ad_cons (ed_var 8 rfl (Or.inl rfl)) (ad_cons (ed_var 9 rfl (Or.inl rfl)) ad_nil)))))))) (ss_one (sd_ret ed_bl)) ss_nil)
  (ss_one (sd_expr (ed_app (ed_var 15 rfl (Or.inl rfl)) (ed_tup (ad_cons ed_str (ad_cons ed_str (ad_cons ed_str ad_nil))))))))))
  (ss_one (sd_ret ed_bl))))))))))))))) read
end
theorem len__law_mixed (ds : List D) (M : HpD) (Q : KD) (h : sp__law_mixed ds M Q) : ds.length = 2 := by obtain ⟨_, _, rfl, _⟩ := h; rfl
theorem len__law_box (ds : List D) (M : HpD) (Q : KD) (h : sp__law_box ds M Q) : ds.length = 1 := by obtain ⟨_, rfl, _⟩ := h; rfl
theorem len__law_take (ds : List D) (M : HpD) (Q : KD) (h : sp__law_take ds M Q) : ds.length = 2 := by obtain ⟨_, _, _, rfl, _⟩ := h; rfl
theorem len__law_count (ds : List D) (M : HpD) (Q : KD) (h : sp__law_count ds M Q) : ds.length = 3 := by obtain ⟨_, _, _, _, rfl, _⟩ := h; rfl
theorem len__law_ranges (ds : List D) (M : HpD) (Q : KD) (h : sp__law_ranges ds M Q) : ds.length = 2 := by obtain ⟨_, _, _, rfl, _⟩ := h; rfl
theorem len__law_letters (ds : List D) (M : HpD) (Q : KD) (h : sp__law_letters ds M Q) : ds.length = 0 := by obtain ⟨rfl, _⟩ := h; rfl
theorem len__law_named (ds : List D) (M : HpD) (Q : KD) (h : sp__law_named ds M Q) : ds.length = 1 := by obtain ⟨_, _, rfl, _⟩ := h; rfl
theorem len__law_places (ds : List D) (M : HpD) (Q : KD) (h : sp__law_places ds M Q) : ds.length = 1 := by obtain ⟨_, _, rfl, _⟩ := h; rfl
theorem len__law_whole (ds : List D) (M : HpD) (Q : KD) (h : sp__law_whole ds M Q) : ds.length = 1 := by obtain ⟨_, rfl, _⟩ := h; rfl
theorem len__law_rows_kind2 (ds : List D) (M : HpD) (Q : KD) (h : sp__law_rows_kind2 ds M Q) : ds.length = 2 := by obtain ⟨_, _, _, rfl, _⟩ := h; rfl
theorem len_apart (ds : List D) (M : HpD) (Q : KD) (h : sp_apart ds M Q) : ds.length = 2 := by obtain ⟨_, _, rfl, _⟩ := h; rfl
theorem len__law_meet (ds : List D) (M : HpD) (Q : KD) (h : sp__law_meet ds M Q) : ds.length = 2 := by obtain ⟨_, _, rfl, _⟩ := h; rfl
theorem len_barred (ds : List D) (M : HpD) (Q : KD) (h : sp_barred ds M Q) : ds.length = 3 := by obtain ⟨_, _, _, _, rfl, _⟩ := h; rfl
theorem len_clashes (ds : List D) (M : HpD) (Q : KD) (h : sp_clashes ds M Q) : ds.length = 2 := by obtain ⟨_, _, _, _, rfl, _⟩ := h; rfl
theorem len_law (ds : List D) (M : HpD) (Q : KD) (h : spLaw ds M Q) : ds.length = 1 := by obtain ⟨_, rfl, _⟩ := h; rfl
theorem all_mk {l : PySem.W.OpenLaw} {w : World} {K : PySem.W.Frag} {h : Heap} {mg : Str → Option Value} {fa f__law_box f__law_mixed f__law_take f__law_letters f__law_named f__law_places f__law_count f__law_ranges f__law_meet f_apart f_barred f_clashes f__law_whole f__law_rows_kind f_law : Addr} (X : K.In h) (G : h.Ns mainGlobals mg) (hfa : mg "law" = some (.ref fa))
    {od__law_box an__law_box : Option Addr} {sl__law_box : Array (Option Value)} {oc__law_box kV__law_box dc__law_box pm__law_box cd__law_box ct__law_box : Value}
    {od__law_mixed an__law_mixed : Option Addr} {sl__law_mixed : Array (Option Value)} {oc__law_mixed kV__law_mixed dc__law_mixed pm__law_mixed cd__law_mixed ct__law_mixed : Value}
    {od__law_take an__law_take : Option Addr} {sl__law_take : Array (Option Value)} {oc__law_take kV__law_take dc__law_take pm__law_take cd__law_take ct__law_take : Value}
    {od__law_letters an__law_letters : Option Addr} {sl__law_letters : Array (Option Value)} {oc__law_letters kV__law_letters dc__law_letters pm__law_letters cd__law_letters ct__law_letters : Value}
    {od__law_named an__law_named : Option Addr} {sl__law_named : Array (Option Value)} {oc__law_named kV__law_named dc__law_named pm__law_named cd__law_named ct__law_named : Value}
    {od__law_places an__law_places : Option Addr} {sl__law_places : Array (Option Value)} {oc__law_places kV__law_places dc__law_places pm__law_places cd__law_places ct__law_places : Value}
    {od__law_count an__law_count : Option Addr} {sl__law_count : Array (Option Value)} {oc__law_count kV__law_count dc__law_count pm__law_count cd__law_count ct__law_count : Value}
    {od__law_ranges an__law_ranges : Option Addr} {sl__law_ranges : Array (Option Value)} {oc__law_ranges kV__law_ranges dc__law_ranges pm__law_ranges cd__law_ranges ct__law_ranges : Value}
    {od__law_meet an__law_meet : Option Addr} {sl__law_meet : Array (Option Value)} {oc__law_meet kV__law_meet dc__law_meet pm__law_meet cd__law_meet ct__law_meet : Value}
    {od_apart an_apart : Option Addr} {sl_apart : Array (Option Value)} {oc_apart kV_apart dc_apart pm_apart cd_apart ct_apart : Value}
    {od_barred an_barred : Option Addr} {sl_barred : Array (Option Value)} {oc_barred kV_barred dc_barred pm_barred cd_barred ct_barred : Value}
    {od_clashes an_clashes : Option Addr} {sl_clashes : Array (Option Value)} {oc_clashes kV_clashes dc_clashes pm_clashes cd_clashes ct_clashes : Value}
    {od__law_whole an__law_whole : Option Addr} {sl__law_whole : Array (Option Value)} {oc__law_whole kV__law_whole dc__law_whole pm__law_whole cd__law_whole ct__law_whole : Value}
    {od__law_rows_kind an__law_rows_kind : Option Addr} {sl__law_rows_kind : Array (Option Value)} {oc__law_rows_kind kV__law_rows_kind dc__law_rows_kind pm__law_rows_kind cd__law_rows_kind ct__law_rows_kind : Value}
    {od_law an_law : Option Addr} {sl_law : Array (Option Value)} {oc_law kV_law dc_law pm_law cd_law ct_law : Value}
    (a__law_box : PySem.W.nsIn K mainGlobals "_law_box" = some (some (.ref f__law_box)))
    (l__law_box : K.lookup f__law_box = some ⟨oc__law_box, od__law_box, .func (PySem.W.fnOf "_law_box" "_law_box" (defArgs s__law_box) (defBody s__law_box) (defScope s__law_box) .none kV__law_box dc__law_box pm__law_box an__law_box cd__law_box ct__law_box), sl__law_box⟩)
    (c__law_box : PySem.W.codeIn K cd__law_box "_law_box" = true)
    (k__law_box : PySem.W.keepIn K (.ref f__law_box) = true)
    (a__law_mixed : PySem.W.nsIn K mainGlobals "_law_mixed" = some (some (.ref f__law_mixed)))
    (l__law_mixed : K.lookup f__law_mixed = some ⟨oc__law_mixed, od__law_mixed, .func (PySem.W.fnOf "_law_mixed" "_law_mixed" (defArgs s__law_mixed) (defBody s__law_mixed) (defScope s__law_mixed) .none kV__law_mixed dc__law_mixed pm__law_mixed an__law_mixed cd__law_mixed ct__law_mixed), sl__law_mixed⟩)
    (c__law_mixed : PySem.W.codeIn K cd__law_mixed "_law_mixed" = true)
    (k__law_mixed : PySem.W.keepIn K (.ref f__law_mixed) = true)
    (a__law_take : PySem.W.nsIn K mainGlobals "_law_take" = some (some (.ref f__law_take)))
    (l__law_take : K.lookup f__law_take = some ⟨oc__law_take, od__law_take, .func (PySem.W.fnOf "_law_take" "_law_take" (defArgs s__law_take) (defBody s__law_take) (defScope s__law_take) .none kV__law_take dc__law_take pm__law_take an__law_take cd__law_take ct__law_take), sl__law_take⟩)
    (c__law_take : PySem.W.codeIn K cd__law_take "_law_take" = true)
    (k__law_take : PySem.W.keepIn K (.ref f__law_take) = true)
    (a__law_letters : PySem.W.nsIn K mainGlobals "_law_letters" = some (some (.ref f__law_letters)))
    (l__law_letters : K.lookup f__law_letters = some ⟨oc__law_letters, od__law_letters, .func (PySem.W.fnOf "_law_letters" "_law_letters" (defArgs s__law_letters) (defBody s__law_letters) (defScope s__law_letters) .none kV__law_letters dc__law_letters pm__law_letters an__law_letters cd__law_letters ct__law_letters), sl__law_letters⟩)
    (c__law_letters : PySem.W.codeIn K cd__law_letters "_law_letters" = true)
    (k__law_letters : PySem.W.keepIn K (.ref f__law_letters) = true)
    (a__law_named : PySem.W.nsIn K mainGlobals "_law_named" = some (some (.ref f__law_named)))
    (l__law_named : K.lookup f__law_named = some ⟨oc__law_named, od__law_named, .func (PySem.W.fnOf "_law_named" "_law_named" (defArgs s__law_named) (defBody s__law_named) (defScope s__law_named) .none kV__law_named dc__law_named pm__law_named an__law_named cd__law_named ct__law_named), sl__law_named⟩)
    (c__law_named : PySem.W.codeIn K cd__law_named "_law_named" = true)
    (k__law_named : PySem.W.keepIn K (.ref f__law_named) = true)
    (a__law_places : PySem.W.nsIn K mainGlobals "_law_places" = some (some (.ref f__law_places)))
    (l__law_places : K.lookup f__law_places = some ⟨oc__law_places, od__law_places, .func (PySem.W.fnOf "_law_places" "_law_places" (defArgs s__law_places) (defBody s__law_places) (defScope s__law_places) .none kV__law_places dc__law_places pm__law_places an__law_places cd__law_places ct__law_places), sl__law_places⟩)
    (c__law_places : PySem.W.codeIn K cd__law_places "_law_places" = true)
    (k__law_places : PySem.W.keepIn K (.ref f__law_places) = true)
    (a__law_count : PySem.W.nsIn K mainGlobals "_law_count" = some (some (.ref f__law_count)))
    (l__law_count : K.lookup f__law_count = some ⟨oc__law_count, od__law_count, .func (PySem.W.fnOf "_law_count" "_law_count" (defArgs s__law_count) (defBody s__law_count) (defScope s__law_count) .none kV__law_count dc__law_count pm__law_count an__law_count cd__law_count ct__law_count), sl__law_count⟩)
    (c__law_count : PySem.W.codeIn K cd__law_count "_law_count" = true)
    (k__law_count : PySem.W.keepIn K (.ref f__law_count) = true)
    (a__law_ranges : PySem.W.nsIn K mainGlobals "_law_ranges" = some (some (.ref f__law_ranges)))
    (l__law_ranges : K.lookup f__law_ranges = some ⟨oc__law_ranges, od__law_ranges, .func (PySem.W.fnOf "_law_ranges" "_law_ranges" (defArgs s__law_ranges) (defBody s__law_ranges) (defScope s__law_ranges) .none kV__law_ranges dc__law_ranges pm__law_ranges an__law_ranges cd__law_ranges ct__law_ranges), sl__law_ranges⟩)
    (c__law_ranges : PySem.W.codeIn K cd__law_ranges "_law_ranges" = true)
    (k__law_ranges : PySem.W.keepIn K (.ref f__law_ranges) = true)
    (a__law_meet : PySem.W.nsIn K mainGlobals "_law_meet" = some (some (.ref f__law_meet)))
    (l__law_meet : K.lookup f__law_meet = some ⟨oc__law_meet, od__law_meet, .func (PySem.W.fnOf "_law_meet" "_law_meet" (defArgs s__law_meet) (defBody s__law_meet) (defScope s__law_meet) .none kV__law_meet dc__law_meet pm__law_meet an__law_meet cd__law_meet ct__law_meet), sl__law_meet⟩)
    (c__law_meet : PySem.W.codeIn K cd__law_meet "_law_meet" = true)
    (k__law_meet : PySem.W.keepIn K (.ref f__law_meet) = true)
    (a_apart : PySem.W.nsIn K mainGlobals "apart" = some (some (.ref f_apart)))
    (l_apart : K.lookup f_apart = some ⟨oc_apart, od_apart, .func (PySem.W.fnOf "apart" "apart" (defArgs s_apart) (defBody s_apart) (defScope s_apart) .none kV_apart dc_apart pm_apart an_apart cd_apart ct_apart), sl_apart⟩)
    (c_apart : PySem.W.codeIn K cd_apart "apart" = true)
    (k_apart : PySem.W.keepIn K (.ref f_apart) = true)
    (a_barred : PySem.W.nsIn K mainGlobals "barred" = some (some (.ref f_barred)))
    (l_barred : K.lookup f_barred = some ⟨oc_barred, od_barred, .func (PySem.W.fnOf "barred" "barred" (defArgs s_barred) (defBody s_barred) (defScope s_barred) .none kV_barred dc_barred pm_barred an_barred cd_barred ct_barred), sl_barred⟩)
    (c_barred : PySem.W.codeIn K cd_barred "barred" = true)
    (k_barred : PySem.W.keepIn K (.ref f_barred) = true)
    (a_clashes : PySem.W.nsIn K mainGlobals "clashes" = some (some (.ref f_clashes)))
    (l_clashes : K.lookup f_clashes = some ⟨oc_clashes, od_clashes, .func (PySem.W.fnOf "clashes" "clashes" (defArgs s_clashes) (defBody s_clashes) (defScope s_clashes) .none kV_clashes dc_clashes pm_clashes an_clashes cd_clashes ct_clashes), sl_clashes⟩)
    (c_clashes : PySem.W.codeIn K cd_clashes "clashes" = true)
    (k_clashes : PySem.W.keepIn K (.ref f_clashes) = true)
    (a__law_whole : PySem.W.nsIn K mainGlobals "_law_whole" = some (some (.ref f__law_whole)))
    (l__law_whole : K.lookup f__law_whole = some ⟨oc__law_whole, od__law_whole, .func (PySem.W.fnOf "_law_whole" "_law_whole" (defArgs s__law_whole) (defBody s__law_whole) (defScope s__law_whole) .none kV__law_whole dc__law_whole pm__law_whole an__law_whole cd__law_whole ct__law_whole), sl__law_whole⟩)
    (c__law_whole : PySem.W.codeIn K cd__law_whole "_law_whole" = true)
    (k__law_whole : PySem.W.keepIn K (.ref f__law_whole) = true)
    (a__law_rows_kind : PySem.W.nsIn K mainGlobals "_law_rows_kind" = some (some (.ref f__law_rows_kind)))
    (l__law_rows_kind : K.lookup f__law_rows_kind = some ⟨oc__law_rows_kind, od__law_rows_kind, .func (PySem.W.fnOf "_law_rows_kind" "_law_rows_kind" (defArgs s__law_rows_kind) (defBody s__law_rows_kind) (defScope s__law_rows_kind) .none kV__law_rows_kind dc__law_rows_kind pm__law_rows_kind an__law_rows_kind cd__law_rows_kind ct__law_rows_kind), sl__law_rows_kind⟩)
    (c__law_rows_kind : PySem.W.codeIn K cd__law_rows_kind "_law_rows_kind" = true)
    (k__law_rows_kind : PySem.W.keepIn K (.ref f__law_rows_kind) = true)
    (a_law : PySem.W.nsIn K mainGlobals "law" = some (some (.ref f_law)))
    (l_law : K.lookup f_law = some ⟨oc_law, od_law, .func (PySem.W.fnOf "law" "law" (defArgs s_law) (defBody s_law) (defScope s_law) .none kV_law dc_law pm_law an_law cd_law ct_law), sl_law⟩)
    (c_law : PySem.W.codeIn K cd_law "law" = true)
    (k_law : PySem.W.keepIn K (.ref f_law) = true)
    (z_bool : PySem.W.nsIn K mainGlobals "bool" = some none)
    (z_enumerate : PySem.W.nsIn K mainGlobals "enumerate" = some none)
    (z_int : PySem.W.nsIn K mainGlobals "int" = some none)
    (z_isinstance : PySem.W.nsIn K mainGlobals "isinstance" = some none)
    (z_len : PySem.W.nsIn K mainGlobals "len" = some none)
    (z_list : PySem.W.nsIn K mainGlobals "list" = some none)
    (z_max : PySem.W.nsIn K mainGlobals "max" = some none)
    (z_min : PySem.W.nsIn K mainGlobals "min" = some none)
    (z_range : PySem.W.nsIn K mainGlobals "range" = some none)
    (z_sorted : PySem.W.nsIn K mainGlobals "sorted" = some none)
    (z_str : PySem.W.nsIn K mainGlobals "str" = some none)
    (z_tuple : PySem.W.nsIn K mainGlobals "tuple" = some none)
    (z_zip : PySem.W.nsIn K mainGlobals "zip" = some none) :
    ∃ fd : FuncData, (∀ (s : Shared) (v : Value), BindsTo s fd ⟨[v], []⟩ [("_law_script", v)]) ∧ ∀ base : Heap, K.In base → base.Ns mainGlobals mg → FnOk l.prog w K mg base CX0 5 fa fd ["_law_script"] (LiftP K spLaw) := by
  have e := hfa.symm.trans (PySem.W.mg_of X G a_law)
  cases e
  have g_bool := PySem.W.mg_none_of X G z_bool
  have g_enumerate := PySem.W.mg_none_of X G z_enumerate
  have g_int := PySem.W.mg_none_of X G z_int
  have g_isinstance := PySem.W.mg_none_of X G z_isinstance
  have g_len := PySem.W.mg_none_of X G z_len
  have g_list := PySem.W.mg_none_of X G z_list
  have g_max := PySem.W.mg_none_of X G z_max
  have g_min := PySem.W.mg_none_of X G z_min
  have g_range := PySem.W.mg_none_of X G z_range
  have g_sorted := PySem.W.mg_none_of X G z_sorted
  have g_str := PySem.W.mg_none_of X G z_str
  have g_tuple := PySem.W.mg_none_of X G z_tuple
  have g_zip := PySem.W.mg_none_of X G z_zip
  have F__law_box := fun_mk (st := s__law_box) l__law_box c__law_box k__law_box
  have b__law_box := F__law_box.binds (ps := ["_law_script"]) fun _ _ _ _ _ _ => us1 fun _ => rfl
  have F__law_mixed := fun_mk (st := s__law_mixed) l__law_mixed c__law_mixed k__law_mixed
  have b__law_mixed := F__law_mixed.binds (ps := ["_law_number", "_law_turn"]) fun _ _ _ _ _ _ => us2 fun _ _ => rfl
  have F__law_take := fun_mk (st := s__law_take) l__law_take c__law_take k__law_take
  have b__law_take := F__law_take.binds (ps := ["_law_box_here", "_law_size"]) fun _ _ _ _ _ _ => us2 fun _ _ => rfl
  have F__law_letters := fun_mk (st := s__law_letters) l__law_letters c__law_letters k__law_letters
  have b__law_letters := F__law_letters.binds (ps := []) fun _ _ _ _ _ _ => us0 rfl
  have F__law_named := fun_mk (st := s__law_named) l__law_named c__law_named k__law_named
  have b__law_named := F__law_named.binds (ps := ["_law_box_here"]) fun _ _ _ _ _ _ => us1 fun _ => rfl
  have F__law_places := fun_mk (st := s__law_places) l__law_places c__law_places k__law_places
  have b__law_places := F__law_places.binds (ps := ["_law_box_here"]) fun _ _ _ _ _ _ => us1 fun _ => rfl
  have F__law_count := fun_mk (st := s__law_count) l__law_count c__law_count k__law_count
  have b__law_count := F__law_count.binds (ps := ["_law_box_here", "_law_few", "_law_most"]) fun _ _ _ _ _ _ => us3 fun _ _ _ => rfl
  have F__law_ranges := fun_mk (st := s__law_ranges) l__law_ranges c__law_ranges k__law_ranges
  have b__law_ranges := F__law_ranges.binds (ps := ["_law_box_here", "_law_size"]) fun _ _ _ _ _ _ => us2 fun _ _ => rfl
  have F__law_meet := fun_mk (st := s__law_meet) l__law_meet c__law_meet k__law_meet
  have b__law_meet := F__law_meet.binds (ps := ["_law_one", "_law_other"]) fun _ _ _ _ _ _ => us2 fun _ _ => rfl
  have F_apart := fun_mk (st := s_apart) l_apart c_apart k_apart
  have b_apart := F_apart.binds (ps := ["one", "other"]) fun _ _ _ _ _ _ => us2 fun _ _ => rfl
  have F_barred := fun_mk (st := s_barred) l_barred c_barred k_barred
  have b_barred := F_barred.binds (ps := ["one", "other", "bars"]) fun _ _ _ _ _ _ => us3 fun _ _ _ => rfl
  have F_clashes := fun_mk (st := s_clashes) l_clashes c_clashes k_clashes
  have b_clashes := F_clashes.binds (ps := ["things", "bars"]) fun _ _ _ _ _ _ => us2 fun _ _ => rfl
  have F__law_whole := fun_mk (st := s__law_whole) l__law_whole c__law_whole k__law_whole
  have b__law_whole := F__law_whole.binds (ps := ["_law_found"]) fun _ _ _ _ _ _ => us1 fun _ => rfl
  have F__law_rows_kind := fun_mk (st := s__law_rows_kind) l__law_rows_kind c__law_rows_kind k__law_rows_kind
  have b__law_rows_kind := F__law_rows_kind.binds (ps := ["_law_found", "_law_kinds"]) fun _ _ _ _ _ _ => us2 fun _ _ => rfl
  have F_law := fun_mk (st := s_law) l_law c_law k_law
  refine ⟨PySem.W.fnOf "law" "law" (defArgs s_law) (defBody s_law) (defScope s_law) .none kV_law dc_law pm_law an_law cd_law ct_law, fun s v => .of_eq rfl, fun base _ _ => ?_⟩
  have h__law_box : Cal l.prog w K mg base "_law_box" 1 sp__law_box := F__law_box.cal (ok__law_box (P := l.prog) (w := w) (base := base) (sp := sp__law_box) F__law_box g_list len__law_box rd__law_box) (PySem.W.mg_of X G a__law_box) b__law_box
  have h__law_mixed : Cal l.prog w K mg base "_law_mixed" 1 sp__law_mixed := F__law_mixed.cal (ok__law_mixed (P := l.prog) (w := w) (base := base) (sp := sp__law_mixed) F__law_mixed len__law_mixed rd__law_mixed) (PySem.W.mg_of X G a__law_mixed) b__law_mixed
  have h__law_take : Cal l.prog w K mg base "_law_take" 2 sp__law_take := F__law_take.cal (ok__law_take (P := l.prog) (w := w) (base := base) (sp := sp__law_take) F__law_take h__law_mixed g_len len__law_take rd__law_take) (PySem.W.mg_of X G a__law_take) b__law_take
  have h__law_letters : Cal l.prog w K mg base "_law_letters" 1 sp__law_letters := F__law_letters.cal (ok__law_letters (P := l.prog) (w := w) (base := base) (sp := sp__law_letters) F__law_letters len__law_letters rd__law_letters) (PySem.W.mg_of X G a__law_letters) b__law_letters
  have h__law_named : Cal l.prog w K mg base "_law_named" 3 sp__law_named := F__law_named.cal (ok__law_named (P := l.prog) (w := w) (base := base) (sp := sp__law_named) F__law_named h__law_take h__law_letters g_range len__law_named rd__law_named) (PySem.W.mg_of X G a__law_named) b__law_named
  have h__law_places : Cal l.prog w K mg base "_law_places" 4 sp__law_places := F__law_places.cal (ok__law_places (P := l.prog) (w := w) (base := base) (sp := sp__law_places) F__law_places h__law_take h__law_named g_range len__law_places rd__law_places) (PySem.W.mg_of X G a__law_places) b__law_places
  have h__law_count : Cal l.prog w K mg base "_law_count" 3 sp__law_count := F__law_count.cal (ok__law_count (P := l.prog) (w := w) (base := base) (sp := sp__law_count) F__law_count h__law_take len__law_count rd__law_count) (PySem.W.mg_of X G a__law_count) b__law_count
  have h__law_ranges : Cal l.prog w K mg base "_law_ranges" 3 sp__law_ranges := F__law_ranges.cal (ok__law_ranges (P := l.prog) (w := w) (base := base) (sp := sp__law_ranges) F__law_ranges h__law_take g_len g_max g_min g_range len__law_ranges rd__law_ranges) (PySem.W.mg_of X G a__law_ranges) b__law_ranges
  have h__law_meet : Cal l.prog w K mg base "_law_meet" 1 sp__law_meet := F__law_meet.cal (ok__law_meet (P := l.prog) (w := w) (base := base) (sp := sp__law_meet) F__law_meet g_max g_min len__law_meet rd__law_meet) (PySem.W.mg_of X G a__law_meet) b__law_meet
  have h_apart : Cal l.prog w K mg base "apart" 1 sp_apart := F_apart.cal (ok_apart (P := l.prog) (w := w) (base := base) (sp := sp_apart) F_apart g_max g_min len_apart rd_apart) (PySem.W.mg_of X G a_apart) b_apart
  have h_barred : Cal l.prog w K mg base "barred" 1 sp_barred := F_barred.cal (ok_barred (P := l.prog) (w := w) (base := base) (sp := sp_barred) F_barred len_barred rd_barred) (PySem.W.mg_of X G a_barred) b_barred
  have h_clashes : Cal l.prog w K mg base "clashes" 2 sp_clashes := F_clashes.cal (ok_clashes (P := l.prog) (w := w) (base := base) (sp := sp_clashes) F_clashes h_apart h_barred g_enumerate g_sorted len_clashes rd_clashes) (PySem.W.mg_of X G a_clashes) b_clashes
  have h__law_whole : Cal l.prog w K mg base "_law_whole" 1 sp__law_whole := F__law_whole.cal (ok__law_whole (P := l.prog) (w := w) (base := base) (sp := sp__law_whole) F__law_whole g_bool g_int g_isinstance len__law_whole rd__law_whole) (PySem.W.mg_of X G a__law_whole) b__law_whole
  have h__law_rows_kind : Cal l.prog w K mg base "_law_rows_kind" 2 sp__law_rows_kind2 := F__law_rows_kind.cal (ok__law_rows_kind (P := l.prog) (w := w) (base := base) (sp := sp__law_rows_kind2) F__law_rows_kind h__law_whole g_isinstance g_len g_list g_str g_tuple g_zip len__law_rows_kind2 rd__law_rows_kind2) (PySem.W.mg_of X G a__law_rows_kind) b__law_rows_kind
  exact ok_law (sp := spLaw) F_law h__law_box h__law_places h__law_count h__law_named h__law_ranges h__law_take h__law_meet h_clashes h__law_rows_kind g_len g_list g_range g_sorted g_zip len_law rd_law
theorem walk {l : PySem.W.OpenLaw} {q : Program} {loose : List Str} {XP : (Str → Option Value) → Heap → Prop} {YP : World → Heap → Prop} {d : DefRec} {K : Params → PySem.W.Frag} (hn : l.most = some 63) (hdf : d.params.defaults = [])
    (hY : ∀ (w : World) (h : Heap), YP w h → (K w.params).In h)
    (F : ∀ (w : World) (mg : Str → Option Value) (fa : Addr) (h : Heap), (K w.params).In h → h.Ns mainGlobals mg → mg d.name = some (.ref fa) →
      ∃ fd : FuncData, (∀ (s : Shared) (u : Value), BindsTo s fd ⟨[u], []⟩ [("_law_script", u)]) ∧ ∀ base : Heap, (K w.params).In base → base.Ns mainGlobals mg → FnOk l.prog w (K w.params) mg base CX0 5 fa fd ["_law_script"] (LiftP (K w.params) spLaw)) :
    PySem.W.WalkO q loose XP YP l.row.toRowW d [] (fun f vs => PySem.call f vs) :=
  L2.walk_of (n := 63) (k := 5) (x := "_law_script") (CX := fun _ => CX0) (sp := fun w => LiftP (K w.params) spLaw) hn (by decide) hdf ⟨rfl, by decide, by decide⟩ hY F (fun _ _ a ns hl _ hS => law_in hl hS) fun _ _ _ _ _ z => z
end V15
open PySem PySem.W PyProof.Rows
set_option maxRecDepth 100000 in
set_option maxHeartbeats 0 in
theorem PySem.Challenge.cw_vitrine_k17_neighbours_that_clash_holds : PySem.Challenge.rw_vitrine_k17_neighbours_that_clash.Holds := by
  w_on; o_law; k_head; (case hw => w_witness2)
  k_fill
  refine V15.walk (l := PySem.Challenge.rw_vitrine_k17_neighbours_that_clash) rfl rfl (fun w h Y => PySem.W.kIn_of Y) ?F
  case F =>
    intro w mg fa h KX G hmg
    refine' V15.all_mk KX G hmg ?a__law_box ?l__law_box ?c__law_box ?k__law_box ?a__law_mixed ?l__law_mixed ?c__law_mixed ?k__law_mixed ?a__law_take ?l__law_take ?c__law_take ?k__law_take ?a__law_letters ?l__law_letters ?c__law_letters ?k__law_letters ?a__law_named ?l__law_named ?c__law_named ?k__law_named ?a__law_places ?l__law_places ?c__law_places ?k__law_places ?a__law_count ?l__law_count ?c__law_count ?k__law_count ?a__law_ranges ?l__law_ranges ?c__law_ranges ?k__law_ranges ?a__law_meet ?l__law_meet ?c__law_meet ?k__law_meet ?a_apart ?l_apart ?c_apart ?k_apart ?a_barred ?l_barred ?c_barred ?k_barred ?a_clashes ?l_clashes ?c_clashes ?k_clashes ?a__law_whole ?l__law_whole ?c__law_whole ?k__law_whole ?a__law_rows_kind ?l__law_rows_kind ?c__law_rows_kind ?k__law_rows_kind ?a_law ?l_law ?c_law ?k_law ?z_bool ?z_enumerate ?z_int ?z_isinstance ?z_len ?z_list ?z_max ?z_min ?z_range ?z_sorted ?z_str ?z_tuple ?z_zip
    (case a__law_box => k_is)
    (case l__law_box => k_is)
    (case c__law_box => k_is)
    (case k__law_box => k_is)
    (case a__law_mixed => k_is)
    (case l__law_mixed => k_is)
    (case c__law_mixed => k_is)
    (case k__law_mixed => k_is)
    (case a__law_take => k_is)
    (case l__law_take => k_is)
    (case c__law_take => k_is)
    (case k__law_take => k_is)
    (case a__law_letters => k_is)
    (case l__law_letters => k_is)
    (case c__law_letters => k_is)
    (case k__law_letters => k_is)
    (case a__law_named => k_is)
    (case l__law_named => k_is)
    (case c__law_named => k_is)
    (case k__law_named => k_is)
    (case a__law_places => k_is)
    (case l__law_places => k_is)
    (case c__law_places => k_is)
    (case k__law_places => k_is)
    (case a__law_count => k_is)
    (case l__law_count => k_is)
    (case c__law_count => k_is)
    (case k__law_count => k_is)
    (case a__law_ranges => k_is)
    (case l__law_ranges => k_is)
    (case c__law_ranges => k_is)
    (case k__law_ranges => k_is)
    (case a__law_meet => k_is)
    (case l__law_meet => k_is)
    (case c__law_meet => k_is)
    (case k__law_meet => k_is)
    (case a_apart => k_is)
    (case l_apart => k_is)
    (case c_apart => k_is)
    (case k_apart => k_is)
    (case a_barred => k_is)
    (case l_barred => k_is)
    (case c_barred => k_is)
    (case k_barred => k_is)
    (case a_clashes => k_is)
    (case l_clashes => k_is)
    (case c_clashes => k_is)
    (case k_clashes => k_is)
    (case a__law_whole => k_is)
    (case l__law_whole => k_is)
    (case c__law_whole => k_is)
    (case k__law_whole => k_is)
    (case a__law_rows_kind => k_is)
    (case l__law_rows_kind => k_is)
    (case c__law_rows_kind => k_is)
    (case k__law_rows_kind => k_is)
    (case a_law => k_is)
    (case l_law => k_is)
    (case c_law => k_is)
    (case k_law => k_is)
    (case z_bool => k_is)
    (case z_enumerate => k_is)
    (case z_int => k_is)
    (case z_isinstance => k_is)
    (case z_len => k_is)
    (case z_list => k_is)
    (case z_max => k_is)
    (case z_min => k_is)
    (case z_range => k_is)
    (case z_sorted => k_is)
    (case z_str => k_is)
    (case z_tuple => k_is)
    (case z_zip => k_is)
