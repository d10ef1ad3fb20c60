import PyProof.Rows.All
import Wide.All
import OpenK.AllK
import Wide.FinOn
import Lean
import PyProof.EqAt
import PyProof.EqKinds
import PyProof.TupleCall
import PyProof.ExcClass3
import PyProof.ExcBaseAll.ValueError
import PyProof.FString
import KE.KTryMore
import PyProof.ExcArgsOwn
import PyProof.ExcAttrAll.ValueError
import PyProof.NsDelKeeps
import KE.KNest
import PySem.Challenge.RW_vitrine_k02_no_story
set_option Elab.async false
set_option linter.all false
set_option maxRecDepth 100000
set_option maxHeartbeats 8000000
set_option bootstrap.genMatcherCode false
set_option compiler.extract_closed false
namespace L2
open PySem PySem.Spec PyProof.Rows
noncomputable abbrev Key := Sum Int Str
noncomputable def keyIs : Key → Value → Bool
  | .inl k, v => Value.isInt k v
  | .inr x, v => Value.isStrOf x v
noncomputable def keyH (w : World) : Key → Int
  | .inl k => hashInt k
  | .inr x => hashStr w x
theorem keyIs_shape : ∀ {k : Key} {v : Value}, keyIs k v = true → (∃ i t, k = Sum.inl i ∧ v = Value.int i t) ∨ (∃ x t, k = Sum.inr x ∧ v = Value.str x t)
  | .inl i, v, h => by
    obtain ⟨t, e⟩ := Value.isInt_shape (k := i) (v := v) h
    exact .inl ⟨i, t, rfl, e⟩
  | .inr x, v, h => by
    obtain ⟨t, e⟩ := Value.isStrOf_shape (x := x) (v := v) h
    exact .inr ⟨x, t, rfl, e⟩
theorem keyIs_int (i : Int) (t : Tok) : keyIs (.inl i) (.int i t) = true := by simp [keyIs, Value.isInt]
theorem keyIs_str (x : Str) (t : Tok) : keyIs (.inr x) (.str x t) = true := by simp [keyIs, Value.isStrOf]
theorem key_ll (a b : Int) : decide ((Sum.inl a : Key) = Sum.inl b) = (a == b) := by
  by_cases e : a = b
  · subst e; simp
  · have h : ¬ (Sum.inl a : Key) = Sum.inl b := fun q => e (Sum.inl.inj q)
    rw [decide_eq_false h]
    exact (beq_eq_false_iff_ne.mpr e).symm
theorem key_rr (a b : Str) : decide ((Sum.inr a : Key) = Sum.inr b) = decide (a = b) := by
  by_cases e : a = b
  · subst e; simp
  · have h : ¬ (Sum.inr a : Key) = Sum.inr b := fun q => e (Sum.inr.inj q)
    rw [decide_eq_false h, decide_eq_false e]
theorem key_lr (a : Int) (b : Str) : decide ((Sum.inl a : Key) = Sum.inr b) = false := decide_eq_false (fun q => nomatch q)
theorem key_rl (a : Str) (b : Int) : decide ((Sum.inr a : Key) = Sum.inl b) = false := decide_eq_false (fun q => nomatch q)
noncomputable def mixKind (prog : Program) (w : World) : PySem.KeyKind prog w Key where
  is := keyIs
  hash := keyH w
  inj := fun v a b ha hb => by
    rcases keyIs_shape ha with ⟨i, t, rfl, rfl⟩ | ⟨x, t, rfl, rfl⟩
    · rcases keyIs_shape hb with ⟨j, u, rfl, e⟩ | ⟨y, u, rfl, e⟩
      · injection e with e1 _; rw [e1]
      · exact nomatch e
    · rcases keyIs_shape hb with ⟨j, u, rfl, e⟩ | ⟨y, u, rfl, e⟩
      · exact nomatch e
      · injection e with e1 _; rw [e1]
  byValue := fun k v h => by
    rcases keyIs_shape h with ⟨i, t, rfl, rfl⟩ | ⟨x, t, rfl, rfl⟩ <;> rfl
  pyHash := fun hv h => by
    rcases keyIs_shape hv with ⟨i, t, rfl, rfl⟩ | ⟨x, t, rfl, rfl⟩
    · exact wpAny_pyHash_int h
    · exact wpAny_pyHash_str h
  eqBool := fun hu hv h => by
    rcases keyIs_shape hu with ⟨i, t, rfl, rfl⟩ | ⟨x, t, rfl, rfl⟩
    · rcases keyIs_shape hv with ⟨j, u, rfl, rfl⟩ | ⟨y, u, rfl, rfl⟩
      · rw [key_ll] at h; exact wpAny_eqBool_int h
      · rw [key_lr] at h; exact SeqAt.EqAt.int_str i t y u _ _ _ _ h
    · rcases keyIs_shape hv with ⟨j, u, rfl, rfl⟩ | ⟨y, u, rfl, rfl⟩
      · rw [key_rl] at h; exact SeqAt.EqAt.str_int x t j u _ _ _ _ h
      · rw [key_rr] at h; exact wpAny_eqBool_str h
  «strs» := fun k x t v h => by
    rcases keyIs_shape h with ⟨i, u, rfl, e⟩ | ⟨y, u, rfl, e⟩
    · exact nomatch e
    · injection e with e1 _
      subst e1
      cases v <;> rfl
theorem mixKind_int (prog : Program) (w : World) (i : Int) (t : Tok) : (mixKind prog w).is (.inl i) (.int i t) = true := keyIs_int i t
theorem mixKind_str (prog : Program) (w : World) (x : Str) (t : Tok) : (mixKind prog w).is (.inr x) (.str x t) = true := keyIs_str x t
end L2
namespace L2
open PySem PySem.Spec PyProof.Rows
inductive V where
  | non | bl (b : Bool) | int (i : Int) | str (x : Str) | byt (b : Array UInt8) | flt (b : UInt64) | ref (a : Addr) | ty (n : String)
  deriving DecidableEq
noncomputable def RelV : V → Value → Prop
  | .non, u => u = Value.none
  | .bl b, u => u = Value.bool b
  | .int i, u => ∃ t, u = Value.int i t
  | .str x, u => ∃ t, u = Value.str x t
  | .byt b, u => ∃ t, u = Value.bytes b t
  | .flt b, u => ∃ t, u = Value.float b t
  | .ref a, u => u = Value.ref a
  | .ty n, u => u = Value.type n
noncomputable abbrev Vals : List V → List Value → Prop := Paired RelV
theorem Vals.length {xs : List V} {us : List Value} (r : Vals xs us) : xs.length = us.length := Paired.length r
theorem Vals.get : ∀ {xs : List V} {us : List Value} {i : Nat} {x : V}, Vals xs us → xs[i]? = some x → ∃ u, us[i]? = some u ∧ RelV x u
  | _, _, _, _, .nil, e => by simp at e
  | _, _, 0, _, .cons r _, e => by simp at e; subst e; exact ⟨_, rfl, r⟩
  | _, _, i + 1, x, .cons _ t, e => by
    obtain ⟨u, h1, h2⟩ := Vals.get (i := i) (x := x) t (by simpa using e)
    exact ⟨u, by simpa using h1, h2⟩
theorem Vals.set {x : V} {u : Value} (r : RelV x u) : ∀ {xs : List V} {us : List Value} (i : Nat), Vals xs us → Vals (xs.set i x) (us.set i u)
  | _, _, _, .nil => .nil
  | _, _, 0, .cons _ t => .cons r t
  | _, _, i + 1, .cons q t => .cons q (Vals.set r i t)
theorem Vals.append : ∀ {xs ys : List V} {us ws : List Value}, Vals xs us → Vals ys ws → Vals (xs ++ ys) (us ++ ws)
  | _, _, _, _, .nil, s => s
  | _, _, _, _, .cons r t, s => .cons r (Vals.append t s)
theorem Vals.take : ∀ {xs : List V} {us : List Value} (n : Nat), Vals xs us → Vals (xs.take n) (us.take n)
  | _, _, 0, _ => .nil
  | _, _, _ + 1, .nil => .nil
  | _, _, n + 1, .cons r t => .cons r (Vals.take n t)
theorem Vals.drop : ∀ {xs : List V} {us : List Value} (n : Nat), Vals xs us → Vals (xs.drop n) (us.drop n)
  | _, _, 0, r => r
  | _, _, _ + 1, .nil => .nil
  | _, _, n + 1, .cons _ t => Vals.drop n t
noncomputable def RelO : Option V → Option Value → Prop
  | some v, some u => RelV v u
  | none, none => True
  | _, _ => False
noncomputable def KV {κ : Type} : List (κ × V) → List (κ × Value) → Prop := Paired fun (p : κ × V) (q : κ × Value) => p.1 = q.1 ∧ RelV p.2 q.2
noncomputable def kV : Key → V
  | .inl i => .int i
  | .inr x => .str x
inductive HO where
  /-- a list -/
  | lst (xs : List V)
  /-- a tuple (never changes) -/
  | tup (xs : List V)
  /-- a dict whose keys are ints and texts; one whose keys are tuples of ints and texts (the empty one is both) -/
  | dK (kvs : List (Key × V)) | dT (kvs : List (List Key × V))
  /-- a set of ints: its members, its size -/
  | set (S : Int → Bool) (n : Nat)
  /-- an instance of the class at C, its dict at dx, its attributes -/
  | ins (C dx : Addr) (fs : List (Str × V))
  /-- the dict of the instance at x -/
  | own (x : Addr)
  /-- the dict of an exception -/
  | xd (fs : List (Str × V))
  /-- a bound method, f of x -/
  | met (f x : Addr)
  /-- a range object lo, lo + 1, .. below hi -/
  | rng (lo hi : Int)
  /-- a thing that is known to the object (the script; a dict while a loop walks it): read, never written while it is so -/
  | frz (o : Obj) (u : HO)
  /-- a code object's table -/
  | tbl (ps : Array Value)
  /-- any other thing, by what is true of its one object (a def of one's own: SetO a S n := HO.ext fun h => ..) -/
  | ext (φ : Heap → Prop)
noncomputable abbrev Hp := Addr → Option HO
noncomputable def upd (H : Hp) (a : Addr) (o : HO) : Hp := fun b => if b = a then some o else H b
theorem upd_same {H : Hp} {a : Addr} {o : HO} : upd H a o a = some o := by unfold upd; rw [if_pos rfl]
theorem upd_ne {H : Hp} {a b : Addr} {o : HO} (h : b ≠ a) : upd H a o b = H b := by unfold upd; rw [if_neg h]
theorem ne_of_none {H : Hp} {a b : Addr} {o : HO} (h : H a = some o) (h' : H b = none) : a ≠ b := by
  intro e; subst e; rw [h] at h'; cases h'
section
variable (P : Program) (w : World)
noncomputable def ObjOk (H : Hp) (h : Heap) (a : Addr) : HO → Prop
  | .lst xs => xs.length ≤ sizeLine ∧ ∃ (its : List Value) (n : Nat), Vals xs its ∧ h.get? a = some { cls := .type "list", data := .seq its.toArray n }
  | .tup xs => xs.length ≤ sizeLine ∧ ∃ its : List Value, Vals xs its ∧ IsTup h a its.toArray
  | .dK kvs => kvs.length ≤ sizeLine ∧ (a == sysModules) = false ∧ ∃ vs, KV kvs vs ∧ h.DictOf (mixKind P w) a vs
  | .dT kvs => kvs.length ≤ sizeLine ∧ (a == sysModules) = false ∧ ∃ xs : List (List Key × Addr × Value),
      Paired (fun (p : List Key × V) (q : List Key × Addr × Value) => p.1 = q.1 ∧ H q.2.1 = some (.tup (p.1.map kV)) ∧ RelV p.2 q.2.2) kvs xs ∧
      ∃ o es ep, h.get? a = some o ∧ o.ExactDict ∧ o.data = .dict es ep ∧ es.toList = xs.map (entryOfKey (tupleKind (mixKind P w))) ∧ (xs.map (·.1)).Nodup
  | .set S n => h.SetOf (intKind P w) a S n
  | .ins C dx fs => H dx = some (.own a) ∧ fs.length ≤ 1000 ∧ dx ≠ a ∧ h.get? a = some (PySem.W.instObj C dx) ∧
      ∃ mA, h.Ns1 dx mA ∧ (∀ f, RelO (fs.lookup f) (mA f)) ∧ PySem.Within mA (fs.map (·.1))
  | .own _ => ∃ o, h.get? a = some o
  | .xd fs => ∃ mA, h.Ns1 a mA ∧ ∀ f, RelO (fs.lookup f) (mA f)
  | .rng lo hi => ∃ t u v, h.get? a = some { cls := .type "range", data := .fields #[.int lo t, .int hi u, .int 1 v] }
  | .frz o u => h.get? a = some o ∧ ObjOk H h a u
  | .tbl ps => h.get? a = some { cls := .none, data := .fields ps }
  | .met f x => h.get? a = some (PySem.W.methodObj (.ref f) (.ref x))
  | .ext φ => φ h ∧ (∃ o, h.get? a = some o) ∧ ∀ h1 h2 : Heap, φ h1 → (∀ o, h1.get? a = some o → h2.get? a = some o) → φ h2
noncomputable def HOk (H : Hp) (h : Heap) : Prop := ∀ a o, H a = some o → ObjOk P w H h a o
end
section
variable {P : Program} {w : World} {H H' : Hp} {h h' : Heap} {a : Addr} {o : HO}
theorem ObjOk.lt (x : ObjOk P w H h a o) : a < h.objs.size := by
  cases o with
  | lst xs => obtain ⟨_, _, _, _, e⟩ := x; exact Heap.lt_size e
  | tup xs => obtain ⟨_, _, _, p⟩ := x; exact p.lt
  | dK kvs => obtain ⟨_, _, _, _, o, _, _, e, _⟩ := x; exact Heap.lt_size e
  | dT kvs => obtain ⟨_, _, _, _, o, _, _, e, _⟩ := x; exact Heap.lt_size e
  | set S n => obtain ⟨o, _, _, _, e, _⟩ := x; exact Heap.lt_size e
  | ins C dx fs => obtain ⟨_, _, _, e, _⟩ := x; exact Heap.lt_size e
  | own y => obtain ⟨_, e⟩ := x; exact Heap.lt_size e
  | xd fs => obtain ⟨_, ⟨_, _, _, e, _⟩, _⟩ := x; exact Heap.lt_size e
  | rng lo hi => obtain ⟨_, _, _, e⟩ := x; exact Heap.lt_size e
  | frz ob u => obtain ⟨e, _⟩ := x; exact Heap.lt_size e
  | tbl ps => exact Heap.lt_size (show h.get? a = some _ from x)
  | met f y => exact Heap.lt_size (show h.get? a = some _ from x)
  | ext φ => obtain ⟨_, ⟨_, e⟩, _⟩ := x; exact Heap.lt_size e
theorem Paired.mapP {α β : Type} {F G : α → β → Prop} : ∀ {l₁ : List α} {l₂ : List β}, Paired F l₁ l₂ → (∀ a b, F a b → G a b) → Paired G l₁ l₂
  | _, _, .nil, _ => .nil
  | _, _, .cons r t, f => .cons (f _ _ r) (Paired.mapP t f)
theorem ObjOk.stay (x : ObjOk P w H h a o) (k : ∀ b u, (b = a ∨ H b = some (.own a)) → h.get? b = some u → h'.get? b = some u)
    (ho : ∀ b, H b = some (.own a) → H' b = some (.own a)) (ht : ∀ b xs, H b = some (.tup xs) → H' b = some (.tup xs)) : ObjOk P w H' h' a o := by
  induction o with
  | lst xs => obtain ⟨z, its, n, r, e⟩ := x; exact ⟨z, its, n, r, k _ _ (.inl rfl) e⟩
  | tup xs => obtain ⟨z, its, r, ob, e, c⟩ := x; exact ⟨z, its, r, ob, k _ _ (.inl rfl) e, c⟩
  | dK kvs => obtain ⟨z, y, vs, r, ob, es, ep, e, c⟩ := x; exact ⟨z, y, vs, r, ob, es, ep, k _ _ (.inl rfl) e, c⟩
  | dT kvs =>
    obtain ⟨z, y, xs, r, ob, es, ep, e, c⟩ := x
    exact ⟨z, y, xs, Paired.mapP r fun p q z => ⟨z.1, ht _ _ z.2.1, z.2.2⟩, ob, es, ep, k _ _ (.inl rfl) e, c⟩
  | set S n => obtain ⟨ob, es, ep, t, e, c⟩ := x; exact ⟨ob, es, ep, t, k _ _ (.inl rfl) e, c⟩
  | ins C dx fs =>
    obtain ⟨d, z, ne, e, mA, ⟨od, es, ep, e2, c⟩, r⟩ := x
    exact ⟨ho _ d, z, ne, k _ _ (.inl rfl) e, mA, ⟨od, es, ep, k _ _ (.inr d) e2, c⟩, r⟩
  | own y => obtain ⟨ob, e⟩ := x; exact ⟨ob, k _ _ (.inl rfl) e⟩
  | xd fs => obtain ⟨mA, ⟨od, es, ep, e, c⟩, r⟩ := x; exact ⟨mA, ⟨od, es, ep, k _ _ (.inl rfl) e, c⟩, r⟩
  | rng lo hi => obtain ⟨t, u, v, e⟩ := x; exact ⟨t, u, v, k _ _ (.inl rfl) e⟩
  | frz ob u ih => obtain ⟨e, q⟩ := x; exact ⟨k _ _ (.inl rfl) e, ih q⟩
  | tbl ps =>
    have e : h.get? a = some { cls := .none, data := .fields ps } := x
    show h'.get? a = some { cls := .none, data := .fields ps }
    exact k a _ (.inl rfl) e
  | met f y =>
    have e : h.get? a = some (PySem.W.methodObj (.ref f) (.ref y)) := x
    show h'.get? a = some (PySem.W.methodObj (.ref f) (.ref y))
    exact k a _ (.inl rfl) e
  | ext φ => obtain ⟨p, ⟨o, e⟩, st⟩ := x; exact ⟨st _ _ p fun o q => k _ _ (.inl rfl) q, ⟨o, k _ _ (.inl rfl) e⟩, st⟩
theorem HOk.lt (x : HOk P w H h) (e : H a = some o) : a < h.objs.size := (x a o e).lt
theorem HOk.fresh (x : HOk P w H h) (e : h.objs.size ≤ a) : H a = none := by
  cases q : H a with
  | none => rfl
  | some u => exact absurd (Nat.lt_of_lt_of_le (x.lt q) e) (Nat.lt_irrefl _)
theorem HOk.kept (x : HOk P w H h) (k : ∀ b u, h.get? b = some u → h'.get? b = some u) : HOk P w H h' := fun a o e =>
  (x a o e).stay (fun b u _ q => k b u q) (fun _ q => q) fun _ _ q => q
theorem HOk.laid (x : HOk P w H h) (k : ∀ b u, h.get? b = some u → h'.get? b = some u) (hp : h.objs.size ≤ a) (new : ObjOk P w (upd H a o) h' a o) : HOk P w (upd H a o) h' := fun b u e => by
  have hn := x.fresh hp
  by_cases hb : b = a
  · subst hb; rw [upd_same] at e; cases e; exact new
  · rw [upd_ne hb] at e
    exact (x b u e).stay (fun c v _ q => k c v q) (fun c q => by rw [upd_ne (ne_of_none q hn)]; exact q) fun c xs q => by rw [upd_ne (ne_of_none q hn)]; exact q
end
noncomputable def Rd (H : Hp) (a : Addr) (u : HO) : Prop := H a = some u ∨ ∃ o, H a = some (.frz o u)
theorem Rd.ok {P : Program} {w : World} {H : Hp} {h : Heap} {a : Addr} {u : HO} (r : Rd H a u) (x : HOk P w H h) : ObjOk P w H h a u := by
  rcases r with r | ⟨o, r⟩
  · exact x a u r
  · obtain ⟨_, q⟩ := x a _ r
    exact q
noncomputable def Mut : Option HO → Prop
  | some (.lst _) => True
  | some (.dK _) => True
  | some (.dT _) => True
  | some (.set _ _) => True
  | some (.ins _ _ _) => True
  | some (.ext _) => True
  | _ => False
section
variable {P : Program} {w : World} {H : Hp} {h h' : Heap} {x e : Addr} {o' : HO}
theorem HOk.write (ok : HOk P w H h) (mu : Mut (H x)) (he : e = x ∨ H e = some (.own x)) (k : ∀ b u, b ≠ e → h.get? b = some u → h'.get? b = some u) (heo : ∃ u, h'.get? e = some u)
    (new : ObjOk P w (upd H x o') h' x o') : HOk P w (upd H x o') h' := fun b u q => by
  have nown : ∀ c y, H c = some (.own y) → c ≠ x := fun c y r z => by subst z; rw [r] at mu; exact mu
  have ntup : ∀ c xs, H c = some (.tup xs) → c ≠ x := fun c xs r z => by subst z; rw [r] at mu; exact mu
  by_cases hb : b = x
  · subst hb; rw [upd_same] at q; cases q; exact new
  · rw [upd_ne hb] at q
    by_cases hbe : b = e
    · have q' : H b = some (.own x) := by
        rcases he with z | z
        · exact absurd (hbe.trans z) hb
        · rw [hbe]; exact z
      rw [q] at q'; cases q'
      obtain ⟨v, hv⟩ := heo
      exact ⟨v, by rw [hbe]; exact hv⟩
    · refine (ok b u q).stay (fun c v hc r => k c v ?_ r) (fun c r => by rw [upd_ne (nown c b r)]; exact r) fun c xs r => by rw [upd_ne (ntup c xs r)]; exact r
      rcases hc with rfl | hc
      · exact hbe
      · rintro rfl
        rcases he with z | z
        · exact nown c b hc z
        · rw [hc] at z; cases z; exact hb rfl
end
structure Un (fs ex : List Addr) (H H' : Hp) (h h' : Heap) : Prop where
  keep : ∀ b o, h.get? b = some o → H b = none → b ∉ fs → b ∉ ex → h'.get? b = some o
  slot : ∀ b o, h.get? b = some o → H b = none → b ∈ fs → b ∉ ex → ∃ sl, h'.get? b = some { o with slots := sl }
  free : ∀ b o, h.get? b = some o → H b = none → b ∉ ex → H' b = none
  there : ∀ b o, h.get? b = some o → b ∉ ex → ∃ o', h'.get? b = some o'
  tups : ∀ b xs, H b = some (.tup xs) → H' b = some (.tup xs)
  frzs : ∀ b o u, H b = some (.frz o u) → H' b = some (.frz o u)
  tbls : ∀ b ps, H b = some (.tbl ps) → ∃ more, H' b = some (.tbl (ps ++ more))
section
variable {fs fs' ex ex' : List Addr} {H H1 H2 : Hp} {h h1 h2 h' : Heap} {a x e : Addr} {o : HO}
theorem Un.any (u : Un fs ex H H1 h h1) {b : Addr} {ob : Obj} (q : h.get? b = some ob) (n : H b = none) (hx : b ∉ ex) : ∃ sl, h1.get? b = some { ob with slots := sl } := by
  by_cases hb : b ∈ fs
  · exact u.slot b ob q n hb hx
  · exact ⟨ob.slots, u.keep b ob q n hb hx⟩
theorem Un.kept (k : ∀ b u, h.get? b = some u → h'.get? b = some u) : Un fs ex H H h h' :=
  ⟨fun b ob q _ _ _ => k b ob q, fun b ob q _ _ _ => ⟨ob.slots, k b ob q⟩, fun _ _ _ n _ => n, fun b ob q _ => ⟨ob, k b ob q⟩, fun _ _ q => q, fun _ _ _ q => q, fun _ ps q => ⟨#[], by rw [q]; simp⟩⟩
theorem Un.refl : Un fs ex H H h h := Un.kept fun _ _ q => q
theorem Un.laid (k : ∀ b u, h.get? b = some u → h'.get? b = some u) (hp : h.objs.size ≤ a) (hn : H a = none) : Un fs ex H (upd H a o) h h' where
  keep := fun b u q _ _ _ => k b u q
  slot := fun b u q _ _ _ => ⟨u.slots, k b u q⟩
  free := fun b u q n _ => by rw [upd_ne (Nat.ne_of_lt (Nat.lt_of_lt_of_le (Heap.lt_size q) hp))]; exact n
  there := fun b u q _ => ⟨u, k b u q⟩
  tups := fun b xs q => by rw [upd_ne (ne_of_none q hn)]; exact q
  frzs := fun b u xs q => by rw [upd_ne (ne_of_none q hn)]; exact q
  tbls := fun b ps q => ⟨#[], by rw [upd_ne (ne_of_none q hn), q]; simp⟩
theorem Un.write (mu : Mut (H x)) (he : e = x ∨ H e = some (.own x)) (k : ∀ b u, b ≠ e → h.get? b = some u → h'.get? b = some u) (heo : ∃ u, h'.get? e = some u) : Un fs ex H (upd H x o) h h' := by
  have hx : ∀ b, H b = none → b ≠ x := fun b n z => by subst z; rw [n] at mu; exact mu
  have hb : ∀ b, H b = none → b ≠ e := fun b n z => by
    subst z
    rcases he with r | r
    · exact hx b n r
    · rw [n] at r; cases r
  have hm : ∀ b u, H b = some u → ¬ Mut (some u) → b ≠ x := fun b u q nm z => by subst z; rw [q] at mu; exact nm mu
  refine ⟨fun b u q n _ _ => k b u (hb b n) q, fun b u q n _ _ => ⟨u.slots, k b u (hb b n) q⟩, fun b u q n _ => by rw [upd_ne (hx b n)]; exact n, fun b u q _ => ?_,
    fun b xs q => by rw [upd_ne (hm b _ q fun z => z)]; exact q, fun b u xs q => by rw [upd_ne (hm b _ q fun z => z)]; exact q, fun b ps q => ⟨#[], by rw [upd_ne (hm b _ q fun z => z), q]; simp⟩⟩
  by_cases hbe : b = e
  · subst hbe; exact heo
  · exact ⟨u, k b u hbe q⟩
end
noncomputable def trk (h : Heap) (H : Hp) : List Addr := (List.range h.objs.size).filter fun a => (H a).isSome
noncomputable def hidT (h : Heap) (H : Hp) : Heap := PySem.W.hideAll h (trk h H)
theorem hidT_size (h : Heap) (H : Hp) : (hidT h H).objs.size = h.objs.size := PySem.W.hideAll_size _ _
theorem hidT_get {h : Heap} {H : Hp} {b : Addr} {o : Obj} (e : h.get? b = some o) (n : H b = none) : (hidT h H).get? b = some o :=
  PySem.W.hideAll_get _ e fun hm => by
    have q : (H b).isSome = true := (List.mem_filter.mp hm).2
    rw [n] at q; simp at q
theorem of_hidT {h : Heap} {H : Hp} {b : Addr} {o : Obj} (e : (hidT h H).get? b = some o) : h.get? b = some o ∧ H b = none := by
  have e' : h.get? b = some o := PySem.W.of_hideAll (trk h H) e
  refine ⟨e', ?_⟩
  cases q : H b with
  | none => rfl
  | some x =>
    have hm : b ∈ trk h H := List.mem_filter.mpr ⟨List.mem_range.mpr (Heap.lt_size e'), by simp [q]⟩
    have z : (hidT h H).get? b = none := PySem.W.hideAll_none (trk h H) hm
    rw [z] at e; cases e
noncomputable def allNews (g h : Heap) (L : Addr) : List (Addr × Obj) := (List.range h.objs.size).filterMap fun a => if a = L ∨ (g.get? a).isSome = true then none else (h.get? a).map fun o => (a, o)
noncomputable def rest (g h : Heap) (L d : Addr) : List (Addr × Obj) := (allNews g h L).filter fun p => decide (p.1 ≠ d)
end L2
namespace L2
open PySem PySem.Spec PyProof.Rows
structure Mod (K : PySem.W.Frag) (mg : Str → Option Value) (base : Heap) : Prop where
  kin : K.In base
  glob : base.Ns mainGlobals mg
  blt : ∃ mb, base.Ns builtinsNs mb ∧ ∀ x : Str, x ≠ "__name__" → mb x = bootBuiltins x
  nolimit : base.NoLimit
structure Cx where
  prog : Program
  w : World
  K : PySem.W.Frag
  mg : Str → Option Value
  base : Heap
  A : Around
  N : List Str
  s₀ : Shared
  H₀ : Hp
  env : Env
  outer : List Env
  stack : List Env
  ex : List Addr
  fn : Str → Bool
  calm : Bool
  pn : List (Addr × Obj)
  xe : Value → Shared → Prop
noncomputable def frs (l : List Env) : List Addr := l.filterMap (·.frame)
noncomputable abbrev Cx.fs (X : Cx) : List Addr := frs X.outer
noncomputable def Vis (sc : Scope) (x : Str) : Prop := sc.names.lookup x = some .local ∨ sc.names.lookup x = some .cell ∨ sc.names.lookup x = some .free
noncomputable def Loc (sc : Scope) (x : Str) : Prop := sc.names.lookup x = some .local ∨ sc.names.lookup x = some .cell
noncomputable def Look (env : Env) (h : Heap) (m : Str → Option Value) (x : Str) (u : Value) : Prop :=
  (env.kindOf x = some .local ∧ m x = some u) ∨ ((env.kindOf x = some .cell ∨ env.kindOf x = some .free) ∧ ∃ c, env.cells.lookup x = some c ∧ h.IsCell c (some u))
structure Cx.Ok (X : Cx) : Prop where
  mod : Mod X.K X.mg X.base
  kind : X.env.scope.kind = .function
  glob : X.env.globals = mainGlobals
  blt : X.env.builtins = builtinsNs
  above : X.s₀.heap.objs.size ≤ X.env.locals
  inj : ∀ x y c, X.env.cells.lookup x = some c → X.env.cells.lookup y = some c → x = y
  has : ∀ x, (X.env.kindOf x = some .cell ∨ X.env.kindOf x = some .free) → ∃ c, X.env.cells.lookup x = some c
  cab : ∀ x c, X.fn x = true → X.env.cells.lookup x = some c → X.s₀.heap.objs.size ≤ c
  hd : X.calm = true → X.A.handled = none
  frames : X.A.frames = some X.stack
  stk : X.stack = X.outer ∨ (X.stack = X.env :: X.outer ∧ X.env.frame = some X.env.locals)
  exf : ∀ b ∈ X.ex, b ≠ X.env.locals ∧ ∀ x c, X.env.cells.lookup x = some c → c ≠ b
  bs : ∀ b o, X.base.get? b = some o → X.s₀.heap.get? b = some o ∧ X.H₀ b = none
  bsz : X.base.objs.size ≤ X.s₀.heap.objs.size
  noex : ∀ b o, X.base.get? b = some o → b ∉ X.ex
  exfs : ∀ b ∈ X.ex, b ∉ X.fs
  funs : X.s₀.heap.FunFrames X.base X.outer
  frf : ∀ b ∈ X.fs, X.H₀ b = none
structure Inv (X : Cx) (pins : List (Addr × Obj)) (σ : List (Option V)) (H : Hp) (s : Shared) : Prop where
  ok : X.Ok
  os : s.os = X.s₀.os
  bare : AllBare s.gens
  base : Un X.fs X.ex X.H₀ H X.s₀.heap s.heap
  loc : ∃ m, s.heap.Ns X.env.locals m ∧ ∀ (i : Nat) (x : Str) (v : V), X.N[i]? = some x → σ[i]? = some (some v) → Vis X.env.scope x → ∃ u, RelV v u ∧ Look X.env s.heap m x u
  cell : ∀ x c, X.env.cells.lookup x = some c → ∃ v, s.heap.IsCell c v
  free : H X.env.locals = none
  freeC : ∀ x c, X.env.cells.lookup x = some c → H c = none
  pin : ∀ p ∈ X.pn ++ pins, s.heap.get? p.1 = some p.2 ∧ H p.1 = none ∧ p.1 ≠ X.env.locals ∧ p.1 ∉ X.fs ∧ ∀ v, p.2.data ≠ .cell v
  hok : HOk X.prog X.w H s.heap
  len : σ.length = X.N.length
section
variable {X : Cx} {pins : List (Addr × Obj)} {σ : List (Option V)} {H H' : Hp} {s : Shared} {h' : Heap}
theorem Cx.Ok.nofr (ok : X.Ok) {b : Addr} {o : Obj} (e : X.base.get? b = some o) : b ∉ X.fs := fun hb => by
  have := (ok.funs.mem hb).1
  rw [e] at this; cases this
theorem Inv.bs (I : Inv X pins σ H s) : ∀ b o, X.base.get? b = some o → s.heap.get? b = some o ∧ H b = none := fun b o e =>
  ⟨I.base.keep b o (I.ok.bs b o e).1 (I.ok.bs b o e).2 (I.ok.nofr e) (I.ok.noex b o e), I.base.free b o (I.ok.bs b o e).1 (I.ok.bs b o e).2 (I.ok.noex b o e)⟩
theorem Inv.bk (I : Inv X pins σ H s) : ∀ b o, X.base.get? b = some o → s.heap.get? b = some o := fun b o e => (I.bs b o e).1
theorem Inv.mod (I : Inv X pins σ H s) : Mod X.K X.mg X.base := I.ok.mod
theorem Inv.kIn (I : Inv X pins σ H s) : X.K.In s.heap := I.ok.mod.kin.keeps I.bk
theorem Inv.lt (I : Inv X pins σ H s) : X.env.locals < s.heap.objs.size := let ⟨_, hn, _⟩ := I.loc; hn.lt
theorem Inv.sz (I : Inv X pins σ H s) : X.s₀.heap.objs.size ≤ s.heap.objs.size := Nat.le_trans I.ok.above (Nat.le_of_lt I.lt)
theorem Inv.nofs (I : Inv X pins σ H s) {a : Addr} (h : s.heap.objs.size ≤ a) : a ∉ X.fs := fun hb => by
  obtain ⟨_, o, ho, _⟩ := I.ok.funs.mem hb
  exact absurd (Nat.lt_of_lt_of_le (Heap.lt_size ho) (Nat.le_trans I.sz h)) (Nat.lt_irrefl _)
theorem Inv.cne (I : Inv X pins σ H s) : ∀ x c, X.env.cells.lookup x = some c → c ≠ X.env.locals := fun x c e z => by
  obtain ⟨v, o, ho, hd⟩ := I.cell x c e
  obtain ⟨m, ⟨o', es, ep, ho', hd', _⟩, _⟩ := I.loc
  rw [z, ho'] at ho; cases ho; rw [hd'] at hd; cases hd
theorem Inv.funs (I : Inv X pins σ H s) : s.heap.FunFrames X.base X.outer := by
  have all : ∀ (l : List Env), (∀ b ∈ frs l, b ∈ X.fs) → X.s₀.heap.FunFrames X.base l → s.heap.FunFrames X.base l := by
    intro l
    induction l with
    | nil => intro _ _; trivial
    | cons env r ih =>
      intro hs hl
      obtain ⟨hk, ⟨L, o, hf, hn, ho, hd⟩, hr⟩ := hl
      have hL : L ∈ X.fs := hs L (by unfold frs; rw [List.filterMap_cons, hf]; exact List.mem_cons_self)
      obtain ⟨sl, e⟩ := I.base.slot L o ho (I.ok.frf L hL) hL fun z => I.ok.exfs L z hL
      exact ⟨hk, ⟨L, _, hf, hn, e, hd⟩, ih (fun b hb => hs b (by unfold frs; rw [List.filterMap_cons, hf]; exact List.mem_cons_of_mem _ hb)) hr⟩
  exact all X.outer (fun _ hb => hb) I.ok.funs
theorem Inv.stack (I : Inv X pins σ H s) : s.heap.FunFrames X.base X.stack := by
  rcases I.ok.stk with e | ⟨e, hf⟩
  · rw [e]; exact I.funs
  · rw [e]
    obtain ⟨m, hn, _⟩ := I.loc
    refine .cons (by rw [I.ok.kind]; decide) hf hn ?_ I.funs
    exact Heap.get?_none_of_le (Nat.le_trans I.ok.bsz I.ok.above)
theorem Inv.stkSub (I : Inv X pins σ H s) : ∀ b ∈ frs X.stack, b ∈ X.env.locals :: X.fs := fun b hb => by
  rcases I.ok.stk with e | ⟨e, hf⟩
  · rw [e] at hb; exact List.mem_cons_of_mem _ hb
  · rw [e] at hb
    unfold frs at hb
    rw [List.filterMap_cons, hf] at hb
    exact hb
theorem Inv.stkFree (I : Inv X pins σ H s) : ∀ b ∈ frs X.stack, H b = none := fun b hb => by
  rcases List.mem_cons.mp (I.stkSub b hb) with e | hb
  · rw [e]; exact I.free
  · obtain ⟨_, o, ho, _⟩ := I.ok.funs.mem hb
    exact I.base.free b o ho (I.ok.frf b hb) fun z => I.ok.exfs b z hb
theorem Inv.step {g' : Array GenState} {t' : Nat} {d' : Drawn} {ch : List Addr} (I : Inv X pins σ H s)
    (hch : ∀ b ∈ ch, (b ∈ X.ex ∨ X.s₀.heap.objs.size ≤ b) ∧ b ≠ X.env.locals ∧ (∀ x c, X.env.cells.lookup x = some c → c ≠ b) ∧ ∀ p ∈ X.pn ++ pins, p.1 ≠ b)
    (keep : ∀ b o, b ≠ X.env.locals → b ∉ X.fs → b ∉ ch → s.heap.get? b = some o → H b = none → h'.get? b = some o)
    (slot : ∀ b o, b ≠ X.env.locals → b ∈ X.fs → b ∉ ch → s.heap.get? b = some o → H b = none → ∃ sl, h'.get? b = some { o with slots := sl }) (free : ∀ b o, b ∉ ch → s.heap.get? b = some o → H b = none → H' b = none)
    (there : ∀ b o, b ∉ ch → s.heap.get? b = some o → ∃ o', h'.get? b = some o')
    (tups : ∀ b xs, H b = some (.tup xs) → H' b = some (.tup xs)) (frzs : ∀ b o u, H b = some (.frz o u) → H' b = some (.frz o u)) (tbls : ∀ b ps, H b = some (.tbl ps) → ∃ more, H' b = some (.tbl (ps ++ more)))
    (ns : ∀ m, s.heap.Ns X.env.locals m → h'.Ns X.env.locals m) (hok : HOk X.prog X.w H' h') (hg : AllBare g') :
    Inv X pins σ H' { s with heap := h', gens := g', drawn := d', toks := t' } := by
  have neL : ∀ b o, X.s₀.heap.get? b = some o → b ≠ X.env.locals := fun b o e => Nat.ne_of_lt (Nat.lt_of_lt_of_le (Heap.lt_size e) I.ok.above)
  have neC : ∀ b o, X.s₀.heap.get? b = some o → b ∉ X.ex → b ∉ ch := fun b o e hx hb => by
    rcases (hch b hb).1 with z | z
    · exact hx z
    · exact absurd (Nat.lt_of_lt_of_le (Heap.lt_size e) z) (Nat.lt_irrefl _)
  have cellK : ∀ x c, X.env.cells.lookup x = some c → ∀ v, s.heap.IsCell c v → h'.IsCell c v := fun x c e v w1_ => w1_.elim fun o z_ => z_.elim fun ho hd => by
    have nch : c ∉ ch := fun z => (hch c z).2.2.1 x c e rfl
    by_cases hc : c ∈ X.fs
    · obtain ⟨sl, q⟩ := slot c o (I.cne x c e) hc nch ho (I.freeC x c e)
      exact ⟨_, q, hd⟩
    · exact ⟨o, keep c o (I.cne x c e) hc nch ho (I.freeC x c e), hd⟩
  refine ⟨I.ok, I.os, hg, ⟨fun b o e n hb hx => ?_, fun b o e n hb hx => ?_, fun b o e n hx => ?_, fun b o e hx => ?_, fun b xs e => tups b xs (I.base.tups b xs e), fun b o xs e => frzs b o xs (I.base.frzs b o xs e), fun b ps e => ?_⟩, ?_, fun x c e => ?_, ?_, fun x c e => ?_, fun p hp => ?_, hok, I.len⟩
  · exact keep b o (neL b o e) hb (neC b o e hx) (I.base.keep b o e n hb hx) (I.base.free b o e n hx)
  · obtain ⟨sl, e1⟩ := I.base.slot b o e n hb hx
    obtain ⟨sl', e2⟩ := slot b _ (neL b o e) hb (neC b o e hx) e1 (I.base.free b o e n hx)
    exact ⟨sl', e2⟩
  · obtain ⟨o', e1⟩ := I.base.there b o e hx
    exact free b o' (neC b o e hx) e1 (I.base.free b o e n hx)
  · obtain ⟨o', e1⟩ := I.base.there b o e hx
    exact there b o' (neC b o e hx) e1
  · obtain ⟨m1, e1⟩ := I.base.tbls b ps e
    obtain ⟨m2, e2⟩ := tbls b _ e1
    exact ⟨m1 ++ m2, by rw [e2, Array.append_assoc]⟩
  · obtain ⟨m, hn, hl⟩ := I.loc
    refine ⟨m, ns m hn, fun i x v e1 e2 e3 => ?_⟩
    obtain ⟨u, r, l⟩ := hl i x v e1 e2 e3
    refine ⟨u, r, ?_⟩
    rcases l with l | ⟨k, c, e, z⟩
    · exact .inl l
    · exact .inr ⟨k, c, e, cellK x c e _ z⟩
  · obtain ⟨v, z⟩ := I.cell x c e
    exact ⟨v, cellK x c e v z⟩
  · obtain ⟨m, ⟨o, _, _, ho, _⟩, _⟩ := I.loc
    exact free _ o (fun z => (hch _ z).2.1 rfl) ho I.free
  · obtain ⟨v, o, ho, hd⟩ := I.cell x c e
    exact free c o (fun z => (hch c z).2.2.1 x c e rfl) ho (I.freeC x c e)
  · obtain ⟨e, n, ne, nf, d⟩ := I.pin p hp
    have nch : p.1 ∉ ch := fun z => (hch p.1 z).2.2.2 p hp rfl
    exact ⟨keep p.1 p.2 ne nf nch e n, free p.1 p.2 nch e n, ne, nf, d⟩
theorem Inv.un {t' : Nat} (I : Inv X pins σ H s) (u : Un X.fs [] H H' s.heap h') (hok : HOk X.prog X.w H' h') : Inv X pins σ H' { s with heap := h', toks := t' } := by
  obtain ⟨m, ⟨o, es, ep, ho, r⟩, _⟩ := id I.loc
  obtain ⟨sl, hL⟩ := u.any ho I.free (by simp)
  exact I.step (g' := s.gens) (d' := s.drawn) (ch := []) (fun _ z => nomatch z) (fun b o _ hb _ e n => u.keep b o e n hb (by simp)) (fun b o _ hb _ e n => u.slot b o e n hb (by simp)) (fun b o _ e n => u.free b o e n (by simp)) (fun b o _ e => u.there b o e (by simp)) u.tups u.frzs u.tbls (fun m' hm => by
    obtain ⟨o', es', ep', ho', r'⟩ := hm
    rw [ho] at ho'; cases ho'
    exact ⟨_, es', ep', hL, r'⟩) hok I.bare
theorem Inv.call {g' : Array GenState} {t' : Nat} {d' : Drawn} {ch : List Addr} (I : Inv X pins σ H s) (u : Un (frs X.stack) ch H H' s.heap h') (hok : HOk X.prog X.w H' h') (hg : AllBare g')
    (hch : ∀ b ∈ ch, (b ∈ X.ex ∨ X.s₀.heap.objs.size ≤ b) ∧ b ≠ X.env.locals ∧ (∀ x c, X.env.cells.lookup x = some c → c ≠ b) ∧ ∀ p ∈ X.pn ++ pins, p.1 ≠ b) :
    Inv X pins σ H' { s with heap := h', gens := g', drawn := d', toks := t' } := by
  obtain ⟨m, ⟨o, es, ep, ho, r⟩, _⟩ := id I.loc
  obtain ⟨sl, hL⟩ := u.any ho I.free fun z => (hch _ z).2.1 rfl
  exact I.step (ch := ch) hch (fun b o hL hb hc e n => u.keep b o e n (fun z => (List.mem_cons.mp (I.stkSub b z)).elim hL hb) hc) (fun b o _ _ hc e n => u.any e n hc) (fun b o hc e n => u.free b o e n hc) (fun b o hc e => u.there b o e hc) u.tups u.frzs u.tbls (fun m' hm => by
    obtain ⟨o', es', ep', ho', r'⟩ := hm
    rw [ho] at ho'; cases ho'
    exact ⟨_, es', ep', hL, r'⟩) hok hg
theorem Inv.turned {t' : Nat} {it : Addr} (I : Inv X pins σ H s) (k : ∀ b o, b ≠ it → s.heap.get? b = some o → h'.get? b = some o) (hn : H it = none) (hL : it ≠ X.env.locals)
    (h1 : it ∈ X.ex ∨ X.s₀.heap.objs.size ≤ it) (h2 : ∀ x c, X.env.cells.lookup x = some c → c ≠ it) (h3 : ∀ p ∈ X.pn ++ pins, p.1 ≠ it) : Inv X pins σ H { s with heap := h', toks := t' } := by
  have nit : ∀ b u, H b = some u → b ≠ it := fun b u e z => by rw [z, hn] at e; cases e
  refine I.step (g' := s.gens) (d' := s.drawn) (ch := [it]) (fun b hb => ?_) (fun b o _ _ hc e _ => k b o (fun z => hc (by simp [z])) e) (fun b o _ _ hc e _ => ⟨o.slots, k b o (fun z => hc (by simp [z])) e⟩) (fun _ _ _ _ n => n)
    (fun b o hc e => ⟨o, k b o (fun z => hc (by simp [z])) e⟩) (fun _ _ e => e) (fun _ _ _ e => e) (fun b ps e => ⟨#[], by rw [e]; simp⟩) (fun m hm => ?_) (fun b u e => ?_) I.bare
  · have e : b = it := by simpa using hb
    subst e
    exact ⟨h1, hL, h2, h3⟩
  · obtain ⟨o, es, ep, ho, r⟩ := hm
    exact ⟨o, es, ep, k _ o (Ne.symm hL) ho, r⟩
  · refine (I.hok b u e).stay (fun c v hc q => k c v ?_ q) (fun _ q => q) fun _ _ q => q
    rcases hc with z | z
    · rw [z]; exact nit b u e
    · exact nit c _ z
theorem Inv.tok (I : Inv X pins σ H s) (t : Nat) : Inv X pins σ H { s with toks := t } := I.un (h' := s.heap) (t' := t) Un.refl I.hok
theorem Inv.kept {t' : Nat} (I : Inv X pins σ H s) (k : ∀ b u, s.heap.get? b = some u → h'.get? b = some u) : Inv X pins σ H { s with heap := h', toks := t' } := I.un (Un.kept k) (I.hok.kept k)
theorem Inv.laid {a : Addr} {o : HO} {t' : Nat} (I : Inv X pins σ H s) (k : ∀ b u, s.heap.get? b = some u → h'.get? b = some u) (hp : s.heap.objs.size ≤ a) (new : ObjOk X.prog X.w (upd H a o) h' a o) :
    Inv X pins σ (upd H a o) { s with heap := h', toks := t' } := I.un (Un.laid k hp (I.hok.fresh hp)) (I.hok.laid k hp new)
theorem Inv.write {x e : Addr} {o : HO} {t' : Nat} (I : Inv X pins σ H s) (mu : Mut (H x)) (he : e = x ∨ H e = some (.own x)) (k : ∀ b u, b ≠ e → s.heap.get? b = some u → h'.get? b = some u) (heo : ∃ u, h'.get? e = some u)
    (new : ObjOk X.prog X.w (upd H x o) h' x o) : Inv X pins σ (upd H x o) { s with heap := h', toks := t' } := I.un (Un.write mu he k heo) (I.hok.write mu he k heo new)
theorem Inv.pins_of {pins' : List (Addr × Obj)} (I : Inv X pins σ H s) (h : ∀ p ∈ pins', s.heap.get? p.1 = some p.2 ∧ H p.1 = none ∧ p.1 ≠ X.env.locals ∧ p.1 ∉ X.fs ∧ ∀ v, p.2.data ≠ .cell v) : Inv X pins' σ H s :=
  ⟨I.ok, I.os, I.bare, I.base, I.loc, I.cell, I.free, I.freeC, fun p hp => (List.mem_append.mp hp).elim (fun z => I.pin p (List.mem_append_left _ z)) (h p), I.hok, I.len⟩
theorem nodup_ix {N : List Str} (hN : N.Nodup) {i j : Nat} {x : Str} (a : N[i]? = some x) (b : N[j]? = some x) : i = j := by
  obtain ⟨h1, e1⟩ := List.getElem?_eq_some_iff.mp a
  obtain ⟨h2, e2⟩ := List.getElem?_eq_some_iff.mp b
  exact (List.getElem_inj hN).mp (e1.trans e2.symm)
theorem store_ok2 {M : Model} {A : Around} {E : Value → Shared → Prop} {i : Nat} {x : Str} {v : V} {u : Value} {Q : Unit → Shared → Prop} (I : Inv X pins σ H s) (hN : X.N.Nodup) (hi : X.N[i]? = some x) (hx : Loc X.env.scope x) (r : RelV v u)
    (h : ∀ s', Inv X pins (σ.set i (some v)) H s' → (∃ a, Heap.SameBut a s.heap s'.heap ∧ (a = X.env.locals ∨ X.env.cells.lookup x = some a)) → Q () s') (hf : X.fn x = true ∨ X.env.scope.names.lookup x = some .local := by first | exact .inl rfl | exact .inr rfl | assumption) : wpAny M A (storeName X.env x u) Q E s := by
  obtain ⟨m, hn, hl⟩ := id I.loc
  have hcls : (X.env.scope.kind == .class || (X.env.scope.kind == .module && X.env.locals != X.env.globals)) = false := by rw [I.ok.kind]; rfl
  have hiσ : i < σ.length := by rw [I.len]; exact (List.getElem?_eq_some_iff.mp hi).1
  have cne := I.cne
  have tracked : ∀ {a : Addr} {h' : Heap}, (∃ o, s.heap.get? a = some o ∧ H a = none) → Heap.SameBut a s.heap h' → HOk X.prog X.w H h' := fun {a h'} ha hs b ob e => by
    obtain ⟨_, _, hfree⟩ := ha
    refine (I.hok b ob e).stay (fun c w' hc q => (hs.2 c ?_).trans q) (fun _ q => q) fun _ _ q => q
    rintro rfl
    rcases hc with rfl | hc
    · rw [hfree] at e; cases e
    · rw [hfree] at hc; cases hc
  rcases hx with hk | hk
  · refine wpAny_storeName_local hk hn (fun h' hn' hs => ?_) hcls
    obtain ⟨oL, _, _, hoL, _⟩ := id hn
    refine h _ ⟨I.ok, I.os, I.bare, ⟨fun b o e n hb hx => ?_, fun b o e n hb hx => ?_, I.base.free, fun b o e hx => ?_, I.base.tups, I.base.frzs, I.base.tbls⟩, ⟨_, hn', fun j y v' e1 e2 e3 => ?_⟩, fun y c e => ?_, I.free, I.freeC, fun p hp => ?_, tracked ⟨oL, hoL, I.free⟩ hs, by simpa using I.len⟩ ⟨_, hs, .inl rfl⟩
    · exact (hs.2 b (Nat.ne_of_lt (Nat.lt_of_lt_of_le (Heap.lt_size e) I.ok.above))).trans (I.base.keep b o e n hb hx)
    · obtain ⟨sl, e1⟩ := I.base.slot b o e n hb hx
      exact ⟨sl, (hs.2 b (Nat.ne_of_lt (Nat.lt_of_lt_of_le (Heap.lt_size e) I.ok.above))).trans e1⟩
    · obtain ⟨o', e1⟩ := I.base.there b o e hx
      exact ⟨o', (hs.2 b (Nat.ne_of_lt (Nat.lt_of_lt_of_le (Heap.lt_size e) I.ok.above))).trans e1⟩
    · by_cases hj : j = i
      · subst hj
        rw [hi] at e1; cases e1
        rw [List.getElem?_set_self hiσ] at e2
        cases e2
        exact ⟨u, r, .inl ⟨hk, by simp⟩⟩
      · rw [List.getElem?_set_ne (Ne.symm hj)] at e2
        obtain ⟨u', r', q⟩ := hl j y v' e1 e2 e3
        refine ⟨u', r', ?_⟩
        rcases q with ⟨k, e⟩ | ⟨k, c, e, z⟩
        · refine .inl ⟨k, ?_⟩
          have : y ≠ x := fun e => hj (nodup_ix hN e1 (e ▸ hi))
          simp [this, e]
        · exact .inr ⟨k, c, e, z.sameBut hs (cne y c e)⟩
    · obtain ⟨w', z⟩ := I.cell y c e
      exact ⟨w', z.sameBut hs (cne y c e)⟩
    · obtain ⟨e, n, ne, nf, d⟩ := I.pin p hp
      exact ⟨(hs.2 p.1 ne).trans e, n, ne, nf, d⟩
  · have hfn : X.fn x = true := by
      rcases hf with z | z
      · exact z
      · rw [z] at hk; cases hk
    obtain ⟨c, hc⟩ := I.ok.has x (.inl hk)
    obtain ⟨w', z⟩ := I.cell x c hc
    refine wpAny_storeName_cell I.ok.kind hk hc z (fun h' hc' hs => ?_)
    obtain ⟨oc, hoc, hocd⟩ := id z
    refine h { s with heap := h' } ⟨I.ok, I.os, I.bare, ⟨fun b o e n hb hx => ?_, fun b o e n hb hx => ?_, I.base.free, fun b o e hx => ?_, I.base.tups, I.base.frzs, I.base.tbls⟩, ⟨m, hn.sameBut hs (Ne.symm (cne x c hc)), fun j y v' e1 e2 e3 => ?_⟩, fun y c' e => ?_, I.free, I.freeC, fun p hp => ?_, tracked ⟨oc, hoc, I.freeC x c hc⟩ hs, by simpa using I.len⟩ ⟨c, hs, .inr hc⟩
    · exact (hs.2 b (Nat.ne_of_lt (Nat.lt_of_lt_of_le (Heap.lt_size e) (I.ok.cab x c hfn hc)))).trans (I.base.keep b o e n hb hx)
    · obtain ⟨sl, e1⟩ := I.base.slot b o e n hb hx
      exact ⟨sl, (hs.2 b (Nat.ne_of_lt (Nat.lt_of_lt_of_le (Heap.lt_size e) (I.ok.cab x c hfn hc)))).trans e1⟩
    · obtain ⟨o', e1⟩ := I.base.there b o e hx
      exact ⟨o', (hs.2 b (Nat.ne_of_lt (Nat.lt_of_lt_of_le (Heap.lt_size e) (I.ok.cab x c hfn hc)))).trans e1⟩
    · by_cases hj : j = i
      · subst hj
        rw [hi] at e1; cases e1
        rw [List.getElem?_set_self hiσ] at e2
        cases e2
        exact ⟨u, r, .inr ⟨.inl hk, c, hc, hc'⟩⟩
      · rw [List.getElem?_set_ne (Ne.symm hj)] at e2
        obtain ⟨u', r', q⟩ := hl j y v' e1 e2 e3
        refine ⟨u', r', ?_⟩
        rcases q with q | ⟨k, c', e, z'⟩
        · exact .inl q
        · refine .inr ⟨k, c', e, z'.sameBut hs ?_⟩
          rintro rfl
          exact hj (nodup_ix hN e1 (I.ok.inj _ _ _ e hc ▸ hi))
    · by_cases hcc : c' = c
      · subst hcc; exact ⟨_, hc'⟩
      · obtain ⟨w2, z2⟩ := I.cell y c' e
        exact ⟨w2, z2.sameBut hs hcc⟩
    · obtain ⟨e, n, ne, nf, d⟩ := I.pin p hp
      refine ⟨(hs.2 p.1 ?_).trans e, n, ne, nf, d⟩
      intro q
      rw [q, hoc] at e
      have q' : oc = p.2 := Option.some.inj e
      exact d w' (by rw [← q']; exact hocd)
theorem store_ok {M : Model} {A : Around} {E : Value → Shared → Prop} {i : Nat} {x : Str} {v : V} {u : Value} {Q : Unit → Shared → Prop} (I : Inv X pins σ H s) (hN : X.N.Nodup) (hi : X.N[i]? = some x) (hx : Loc X.env.scope x) (r : RelV v u)
    (h : ∀ s', Inv X pins (σ.set i (some v)) H s' → Q () s') (hf : X.fn x = true ∨ X.env.scope.names.lookup x = some .local := by first | exact .inl rfl | exact .inr rfl | assumption) : wpAny M A (storeName X.env x u) Q E s :=
  store_ok2 I hN hi hx r (fun s' I' _ => h s' I') hf
theorem Inv.call' {s' : Shared} {ch : List Addr} (I : Inv X pins σ H s) (ho : s'.os = s.os) (u : Un (frs X.stack) ch H H' s.heap s'.heap) (hok : HOk X.prog X.w H' s'.heap) (hg : AllBare s'.gens)
    (hch : ∀ b ∈ ch, (b ∈ X.ex ∨ X.s₀.heap.objs.size ≤ b) ∧ b ≠ X.env.locals ∧ (∀ x c, X.env.cells.lookup x = some c → c ≠ b) ∧ ∀ p ∈ X.pn ++ pins, p.1 ≠ b) : Inv X pins σ H' s' := by
  obtain ⟨h', g', d', t', o'⟩ := s'
  have e : o' = s.os := ho
  subst e
  exact I.call (g' := g') (t' := t') (d' := d') u hok hg hch
end
noncomputable abbrev XK := Value → Option Addr → Hp → Prop
noncomputable abbrev St := List (Option V)
noncomputable abbrev VK := V → Hp → Prop
noncomputable abbrev TE := St → Hp → VK → Prop
noncomputable abbrev TT := St → Hp → (Bool → Hp → Prop) → Prop
noncomputable abbrev TA := St → Hp → (List V → Hp → Prop) → Prop
structure Ends where
  nx : St → Hp → Prop
  rt : VK
  bk : St → Hp → Prop := fun _ _ => False
  ct : St → Hp → Prop := fun _ _ => False
noncomputable abbrev TS := Ends → St → Hp → Prop
noncomputable def EP (X : Cx) (pins : List (Addr × Obj)) (σ : St) (Q : VK) (u : Value) (s' : Shared) : Prop := ∃ v H', Inv X pins σ H' s' ∧ RelV v u ∧ Q v H'
noncomputable def TP (X : Cx) (pins : List (Addr × Obj)) (σ : St) (Q : Bool → Hp → Prop) (b : Bool) (s' : Shared) : Prop := ∃ H', Inv X pins σ H' s' ∧ Q b H'
noncomputable def AP (X : Cx) (pins : List (Addr × Obj)) (σ : St) (Q : List V → Hp → Prop) (us : List Value) (s' : Shared) : Prop := ∃ vs H', Inv X pins σ H' s' ∧ Vals vs us ∧ Q vs H'
noncomputable def SP (X : Cx) (pins : List (Addr × Obj)) (D : Ends) (f : Flow) (s' : Shared) : Prop :=
  match f with
  | .next => ∃ σ' H', Inv X pins σ' H' s' ∧ D.nx σ' H'
  | .brk => ∃ σ' H', Inv X pins σ' H' s' ∧ D.bk σ' H'
  | .cont => ∃ σ' H', Inv X pins σ' H' s' ∧ D.ct σ' H'
  | .ret u => ∃ v σ' H', Inv X pins σ' H' s' ∧ RelV v u ∧ D.rt v H'
noncomputable def PE (X : Cx) (e : Expr) (t : TE) : Prop :=
  ∀ (pins : List (Addr × Obj)) (s : Shared) (σ : St) (H : Hp) (Q : VK), Inv X pins σ H s → t σ H Q → wpAny (model X.prog X.w) X.A (eval e X.env) (EP X pins σ Q) X.xe s
noncomputable def PT (X : Cx) (e : Expr) (t : TT) : Prop :=
  ∀ (pins : List (Addr × Obj)) (s : Shared) (σ : St) (H : Hp) (Q : Bool → Hp → Prop), Inv X pins σ H s → t σ H Q → wpAny (model X.prog X.w) X.A (isTrue e X.env (eval e X.env)) (TP X pins σ Q) X.xe s
noncomputable def PW (X : Cx) (e : Expr) (t : TT) : Prop :=
  ∀ (whole : Sem Value) (pins : List (Addr × Obj)) (s : Shared) (σ : St) (H : Hp) (Q : Bool → Hp → Prop), Inv X pins σ H s → t σ H Q → wpAny (model X.prog X.w) X.A (isTrue e X.env whole) (TP X pins σ Q) X.xe s
theorem PW.pt {X : Cx} {e : Expr} {t : TT} (h : PW X e t) : PT X e t := h _
noncomputable def PA (X : Cx) (es : List Expr) (t : TA) : Prop :=
  ∀ (pos : Pos) (pins : List (Addr × Obj)) (s : Shared) (σ : St) (H : Hp) (Q : List V → Hp → Prop), Inv X pins σ H s → t σ H Q → wpAny (model X.prog X.w) X.A (spliced (backTo pos (starEach es X.env))) (AP X pins σ Q) X.xe s
noncomputable def PS (X : Cx) (st : Stmt) (t : TS) : Prop :=
  ∀ (pins : List (Addr × Obj)) (s : Shared) (σ : St) (H : Hp) (D : Ends), Inv X pins σ H s → t D σ H → wpAny (model X.prog X.w) X.A (exec st X.env) (SP X pins D) X.xe s
noncomputable def PSs (X : Cx) (st : List Stmt) (t : TS) : Prop :=
  ∀ (pins : List (Addr × Obj)) (s : Shared) (σ : St) (H : Hp) (D : Ends), Inv X pins σ H s → t D σ H → wpAny (model X.prog X.w) X.A (execs st X.env) (SP X pins D) X.xe s
theorem thn {α : Type} {t : Sem α} {Q Q' : α → Shared → Prop} {M : Model} {A : Around} {E : Value → Shared → Prop} {s : Shared} (h : wpAny M A t Q E s) (hQ : ∀ a s, Q a s → Q' a s) : wpAny M A t Q' E s := wpAny_mono h hQ fun _ _ x => x
theorem thnE {t : Sem Value} {X : Cx} {pins : List (Addr × Obj)} {σ : St} {Q : VK} {Q' : Value → Shared → Prop} {M : Model} {A : Around} {E : Value → Shared → Prop} {s : Shared} (h : wpAny M A t (EP X pins σ Q) E s) (k : ∀ u s' v H', Inv X pins σ H' s' → RelV v u → Q v H' → Q' u s') : wpAny M A t Q' E s := thn h fun u s' z => by obtain ⟨v, H', a, b, c⟩ := z; exact k u s' v H' a b c
theorem thnT {t : Sem Bool} {X : Cx} {pins : List (Addr × Obj)} {σ : St} {Q : Bool → Hp → Prop} {Q' : Bool → Shared → Prop} {M : Model} {A : Around} {E : Value → Shared → Prop} {s : Shared} (h : wpAny M A t (TP X pins σ Q) E s) (k : ∀ u s' H', Inv X pins σ H' s' → Q u H' → Q' u s') : wpAny M A t Q' E s := thn h fun u s' z => by obtain ⟨H', a, c⟩ := z; exact k u s' H' a c
theorem thnA {t : Sem (List Value)} {X : Cx} {pins : List (Addr × Obj)} {σ : St} {Q : List V → Hp → Prop} {Q' : List Value → Shared → Prop} {M : Model} {A : Around} {E : Value → Shared → Prop} {s : Shared} (h : wpAny M A t (AP X pins σ Q) E s) (k : ∀ u s' v H', Inv X pins σ H' s' → Vals v u → Q v H' → Q' u s') : wpAny M A t Q' E s := thn h fun u s' z => by obtain ⟨v, H', a, b, c⟩ := z; exact k u s' v H' a b c
end L2
namespace L2
open PySem PySem.Spec PyProof.Rows
section
variable {X : Cx}
noncomputable def tVar (i : Nat) : TE := fun σ H Q => ∃ v, σ[i]? = some (some v) ∧ Q v H
noncomputable def tC (v : V) : TE := fun _ H Q => Q v H
theorem pe_var {i : Nat} {x : Str} {pos : Pos} (hN : X.N[i]? = some x) (hv : Vis X.env.scope x) (hd : (x == ("__debug__" : Str)) = false := by decide) (hcd : (x == ("__classdict__" : Str)) = false := by decide) : PE X (.Name x pos) (tVar i) := by
  intro pins s σ H Q I h
  obtain ⟨v, e, h⟩ := h
  obtain ⟨m, hn, hl⟩ := I.loc
  obtain ⟨u, r, l⟩ := hl i x v hN e hv
  have fin : EP X pins σ Q u s := ⟨v, H, I, r, h⟩
  rcases l with ⟨hk, hm⟩ | ⟨hk, c, hc, hcell⟩
  · exact wpAny_Name (wpAny_loadName_local I.ok.kind hk hn hm fin) hd
  · rcases hk with hk | hk
    · exact wpAny_Name (wpAny_loadName_cell I.ok.kind hk hc hcell fin) hd
    · exact wpAny_Name (wpAny_loadName_free I.ok.kind hk hc hcell fin hcd) hd
theorem pe_int {i j pos} : PE X (.Constant (.int i) j pos) (tC (.int i)) := fun _ _ _ H _ I h => wpAny_Constant_int ⟨.int i, H, I.tok _, ⟨_, rfl⟩, h⟩
theorem pe_bl {b j pos} : PE X (.Constant (.bool b) j pos) (tC (.bl b)) := fun _ _ _ H _ I h => Constant_bool ⟨.bl b, H, I, rfl, h⟩
theorem pe_str {x j pos} : PE X (.Constant (.str x) j pos) (tC (.str x)) := fun _ _ _ H _ I h => Calls.Constant_str ⟨.str x, H, I.tok _, ⟨_, rfl⟩, h⟩
noncomputable def Gl (X : Cx) (x : Str) : Prop := X.env.kindOf x = some .globalImplicit
theorem ld_glob {E : Value → Shared → Prop} {pins : List (Addr × Obj)} {s : Shared} {σ : St} {H : Hp} {x : Str} {u : Value} {pos : Pos} {Q : Value → Shared → Prop} (I : Inv X pins σ H s) (hg : Gl X x) (hm : X.mg x = some u) (h : Q u s)
    (hd : (x == ("__debug__" : Str)) = false := by decide) : wpAny (model X.prog X.w) X.A (eval (.Name x pos) X.env) Q E s :=
  Calls.Name_function_global I.ok.kind hg (Calls.loadGlobal_global (by rw [I.ok.glob]; exact I.mod.glob.keeps I.bk) hm h) hd
theorem ld_blt {E : Value → Shared → Prop} {pins : List (Addr × Obj)} {s : Shared} {σ : St} {H : Hp} {x : Str} {u : Value} {pos : Pos} {Q : Value → Shared → Prop} (I : Inv X pins σ H s) (hg : Gl X x) (hm : X.mg x = none) (hv : bootBuiltins x = some u) (h : Q u s)
    (hn : x ≠ "__name__" := by decide) (hd : (x == ("__debug__" : Str)) = false := by decide) : wpAny (model X.prog X.w) X.A (eval (.Name x pos) X.env) Q E s := by
  obtain ⟨mb, h1, h2⟩ := I.mod.blt
  exact Calls.Name_function_global I.ok.kind hg (Calls.loadGlobal_builtin (by rw [I.ok.glob]; exact I.mod.glob.keeps I.bk) hm (by rw [I.ok.blt]; exact h1.keeps I.bk) ((h2 x hn).trans hv) h) hd
theorem pe_glob {x : Str} {v : V} {u : Value} {pos : Pos} (hg : Gl X x) (hm : X.mg x = some u) (r : RelV v u) (hd : (x == ("__debug__" : Str)) = false := by decide) : PE X (.Name x pos) (tC v) :=
  fun _ _ _ H _ I h => ld_glob I hg hm ⟨v, H, I, r, h⟩ hd
theorem pe_bltn {x : Str} {v : V} {u : Value} {pos : Pos} (hg : Gl X x) (hm : X.mg x = none) (hv : bootBuiltins x = some u) (r : RelV v u) (hn : x ≠ "__name__" := by decide) (hd : (x == ("__debug__" : Str)) = false := by decide) : PE X (.Name x pos) (tC v) :=
  fun _ _ _ H _ I h => ld_blt I hg hm hv ⟨v, H, I, r, h⟩ hn hd
variable {a b : Expr} {ta tb : TE} {pos : Pos}
noncomputable def PC (X : Cx) (op : CmpOp) (a b : Expr) (t : TE) : Prop :=
  ∀ (pins : List (Addr × Obj)) (s : Shared) (σ : St) (H : Hp) (Q : VK), Inv X pins σ H s → t σ H Q →
    wpAny (model X.prog X.w) X.A (eval a X.env) (fun v s₁ => wpAny (model X.prog X.w) X.A (eval b X.env) (fun u s₂ => wpAny (model X.prog X.w) X.A (compareOp op v u) (EP X pins σ Q) X.xe s₂) X.xe s₁) X.xe s
noncomputable def tB (t : TE) : TT := fun σ H Q => t σ H fun x H1 => ∃ c, x = .bl c ∧ Q c H1
theorem pt_cmp {op : CmpOp} {t : TE} (h : PC X op a b t) (h1 : behindInMarks op b = false := by first | exact nobehind _ (by decide) (by decide) | rfl) : PT X (.Compare a [op] [b] pos) (tB t) := by
  intro pins s σ H Q I hw
  refine wpAny_isTrue_Compare1 (thn (h pins s σ H _ I hw) fun v s1 h1 => thn h1 fun u s2 h2 => thnE h2 fun c s3 x H1 I1 r1 q1 => ?_) h1
  obtain ⟨d, rfl, q⟩ := q1
  cases r1
  exact wpAny_truthy_bool ⟨H1, I1, q⟩
variable {tA tB' : TT} {rest : List Expr}
noncomputable def tAnd (t u : TT) : TT := fun σ H Q => t σ H fun c H1 => if c = true then u σ H1 Q else Q false H1
noncomputable def tOr (t u : TT) : TT := fun σ H Q => t σ H fun c H1 => if c = true then Q true H1 else u σ H1 Q
theorem pw_and1 (ha : PT X a tA) : PW X (.BoolOp .And [a] pos) tA := by
  intro wh pins s σ H Q I h
  refine isTrue_and (thn (ha pins s σ H Q I h) fun c s1 e => ?_)
  cases c with
  | true => exact isTrue_and_nil e
  | false => exact e
theorem pw_or1 (ha : PT X a tA) : PW X (.BoolOp .Or [a] pos) tA := by
  intro wh pins s σ H Q I h
  refine isTrue_or (thn (ha pins s σ H Q I h) fun c s1 e => ?_)
  cases c with
  | false => exact isTrue_or_nil e
  | true => exact e
theorem pw_and (ha : PT X a tA) (hb : PW X (.BoolOp .And (b :: rest) pos) tB') : PW X (.BoolOp .And (a :: b :: rest) pos) (tAnd tA tB') := by
  intro wh pins s σ H Q I h
  refine isTrue_and (thnT (ha pins s σ H _ I h) fun c s1 H1 I1 q1 => ?_)
  cases c with
  | true => exact hb wh pins s1 σ H1 Q I1 q1
  | false => exact ⟨H1, I1, q1⟩
theorem pw_or (ha : PT X a tA) (hb : PW X (.BoolOp .Or (b :: rest) pos) tB') : PW X (.BoolOp .Or (a :: b :: rest) pos) (tOr tA tB') := by
  intro wh pins s σ H Q I h
  refine isTrue_or (thnT (ha pins s σ H _ I h) fun c s1 H1 I1 q1 => ?_)
  cases c with
  | true => exact ⟨H1, I1, q1⟩
  | false => exact hb wh pins s1 σ H1 Q I1 q1
noncomputable def tAndV (ta tb : TE) : TE := fun σ H Q => ta σ H fun x H1 => ∃ c, x = .bl c ∧ if c = true then tb σ H1 Q else Q (.bl false) H1
theorem pe_one {op} {t : TE} (h : PE X a t) : PE X (.BoolOp op [a] pos) t := fun pins s σ H Q I hw => BoolOp_one (h pins s σ H Q I hw)
theorem pe_and (ha : PE X a ta) (hb : PE X (.BoolOp .And (b :: rest) pos) tb) : PE X (.BoolOp .And (a :: b :: rest) pos) (tAndV ta tb) := by
  intro pins s σ H Q I h
  refine BoolOp_and (thnE (ha pins s σ H _ I h) fun v s1 x H1 I1 r1 q1 => ?_)
  obtain ⟨c, rfl, q1⟩ := q1
  cases r1
  refine wpAny_truthy_bool ?_
  cases c with
  | true => exact hb pins s1 σ H1 Q I1 q1
  | false => exact ⟨.bl false, H1, I1, rfl, q1⟩
end
end L2
namespace L2
open PySem PySem.Spec PyProof.Rows
noncomputable def SqL (K : PySem.W.Frag) (H : Hp) (a : Addr) (xs : List V) : Prop :=
  Rd H a (.lst xs) ∨
    ∃ (o : Obj) (its : Array Value) (n : Nat), K.lookup a = some o ∧ o.cls = .type "list" ∧ o.dict = none ∧ o.data = .seq its n ∧ its.size ≤ sizeLine ∧ Vals xs its.toList
noncomputable def SqT (K : PySem.W.Frag) (H : Hp) (a : Addr) (xs : List V) : Prop :=
  Rd H a (.tup xs) ∨
    ∃ (o : Obj) (its : Array Value) (n : Nat), K.lookup a = some o ∧ o.cls = .type "tuple" ∧ o.data = .seq its n ∧ its.size ≤ sizeLine ∧ Vals xs its.toList
noncomputable def absV : Value → Option V
  | .none => some .non
  | .bool b => some (.bl b)
  | .int i _ => some (.int i)
  | .str x _ => some (.str x)
  | .bytes b _ => some (.byt b)
  | .float b _ => some (.flt b)
  | .ref a => some (.ref a)
  | .type n => some (.ty n)
  | _ => none
theorem RelV.abs {x : V} {u : Value} (r : RelV x u) : absV u = some x := by
  cases x with
  | non => cases r; rfl
  | bl _ => cases r; rfl
  | int _ => obtain ⟨t, rfl⟩ := r; rfl
  | str _ => obtain ⟨t, rfl⟩ := r; rfl
  | byt _ => obtain ⟨t, rfl⟩ := r; rfl
  | flt _ => obtain ⟨t, rfl⟩ := r; rfl
  | ref _ => cases r; rfl
  | ty _ => cases r; rfl
theorem RelV.inj {x y : V} {u : Value} (r : RelV x u) (q : RelV y u) : x = y := Option.some.inj (r.abs.symm.trans q.abs)
theorem Vals.inj : ∀ {xs ys : List V} {us : List Value}, Vals xs us → Vals ys us → xs = ys
  | _, _, _, .nil, .nil => rfl
  | _, _, _, .cons r t, .cons r' t' => by rw [r.inj r', Vals.inj t t']
section
variable {X : Cx} {pins : List (Addr × Obj)} {σ : St} {H : Hp} {s : Shared} {a : Addr} {xs ys : List V}
theorem Inv.list (I : Inv X pins σ H s) (h : SqL X.K H a xs) : ∃ its : List Value, Vals xs its ∧ PlainL s.heap a its.toArray ∧ xs.length ≤ sizeLine := by
  rcases h with h | ⟨o, its, n, hk, hc, hd, hs, hz, r⟩
  · obtain ⟨z, its, n, r, e⟩ := h.ok I.hok
    exact ⟨its, r, ⟨_, n, e, rfl, rfl, rfl⟩, z⟩
  · refine ⟨its.toList, r, ⟨o, n, I.kIn a o hk, hc, hd, by simpa using hs⟩, ?_⟩
    have e := r.length
    simp only [Array.length_toList] at e
    omega
theorem Inv.tuple (I : Inv X pins σ H s) (h : SqT X.K H a xs) : ∃ its : List Value, Vals xs its ∧ IsTup s.heap a its.toArray ∧ xs.length ≤ sizeLine := by
  rcases h with h | ⟨o, its, n, hk, hc, hs, hz, r⟩
  · obtain ⟨z, its, r, p⟩ := h.ok I.hok
    exact ⟨its, r, p, z⟩
  · refine ⟨its.toList, r, ⟨o, I.kIn a o hk, hc, n, by simpa using hs⟩, ?_⟩
    have e := r.length
    simp only [Array.length_toList] at e
    omega
theorem Inv.list_inj (I : Inv X pins σ H s) (h : SqL X.K H a xs) (h' : SqL X.K H a ys) : xs = ys := by
  obtain ⟨its, r, ⟨o, n, e, _, _, d⟩, _⟩ := I.list h
  obtain ⟨its', r', ⟨o', n', e', _, _, d'⟩, _⟩ := I.list h'
  rw [e] at e'; cases e'
  rw [d] at d'
  injection d' with d1 _
  have : its = its' := by simpa using congrArg Array.toList d1
  subst this
  exact r.inj r'
theorem Inv.tuple_inj (I : Inv X pins σ H s) (h : SqT X.K H a xs) (h' : SqT X.K H a ys) : xs = ys := by
  obtain ⟨its, r, ⟨o, e, _, n, d⟩, _⟩ := I.tuple h
  obtain ⟨its', r', ⟨o', e', _, n', d'⟩, _⟩ := I.tuple h'
  rw [e] at e'; cases e'
  rw [d] at d'
  injection d' with d1 _
  have : its = its' := by simpa using congrArg Array.toList d1
  subst this
  exact r.inj r'
end
noncomputable abbrev Cx.wish (X : Cx) (E : Value → Shared → Prop) : Cx := { X with xe := E }
noncomputable abbrev Cx.nox (X : Cx) : Cx := X.wish fun _ _ => False
theorem Cx.Ok.wish {X : Cx} (ok : X.Ok) (E : Value → Shared → Prop) : (X.wish E).Ok :=
  ⟨ok.mod, ok.kind, ok.glob, ok.blt, ok.above, ok.inj, ok.has, ok.cab, ok.hd, ok.frames, ok.stk, ok.exf, ok.bs, ok.bsz, ok.noex, ok.exfs, ok.funs, ok.frf⟩
theorem Cx.Ok.unwish {X : Cx} {E : Value → Shared → Prop} (ok : (X.wish E).Ok) : X.Ok :=
  ⟨ok.mod, ok.kind, ok.glob, ok.blt, ok.above, ok.inj, ok.has, ok.cab, ok.hd, ok.frames, ok.stk, ok.exf, ok.bs, ok.bsz, ok.noex, ok.exfs, ok.funs, ok.frf⟩
section
variable {X : Cx} {pins : List (Addr × Obj)} {σ : St} {H : Hp} {s : Shared} {E : Value → Shared → Prop}
theorem Inv.wish (I : Inv X pins σ H s) (E : Value → Shared → Prop) : Inv (X.wish E) pins σ H s := ⟨I.ok.wish E, I.os, I.bare, I.base, I.loc, I.cell, I.free, I.freeC, I.pin, I.hok, I.len⟩
theorem Inv.unwish (I : Inv (X.wish E) pins σ H s) : Inv X pins σ H s := ⟨I.ok.unwish, I.os, I.bare, I.base, I.loc, I.cell, I.free, I.freeC, I.pin, I.hok, I.len⟩
theorem SP.unwish {D : Ends} {f : Flow} {s' : Shared} (h : SP (X.wish E) pins D f s') : SP X pins D f s' := by
  cases f with
  | next => obtain ⟨σ', H', I, q⟩ := h; exact ⟨σ', H', I.unwish, q⟩
  | brk => obtain ⟨σ', H', I, q⟩ := h; exact ⟨σ', H', I.unwish, q⟩
  | cont => obtain ⟨σ', H', I, q⟩ := h; exact ⟨σ', H', I.unwish, q⟩
  | ret u => obtain ⟨v, σ', H', I, r, q⟩ := h; exact ⟨v, σ', H', I.unwish, r, q⟩
theorem PSs.nox {st : List Stmt} {t : TS} (h : PSs X.nox st t) : PSs X st t := fun pins s σ H D I hw =>
  wpAny_mono (h pins s σ H D (I.wish _) hw) (fun _ _ q => q.unwish) fun _ _ z => False.elim z
end
section
variable {X : Cx} {st : Stmt} {rest : List Stmt} {t u : TS} {e : Expr} {te : TE} {pos : Pos}
noncomputable def tNext : TS := fun D σ H => D.nx σ H
noncomputable def tSeq (t u : TS) : TS := fun D σ H => t { D with nx := u D } σ H
theorem pss_nil : PSs X [] tNext := fun _ _ σ H _ I h => wpAny_execs_nil ⟨σ, H, I, h⟩
theorem pss_cons (h1 : PS X st t) (h2 : PSs X rest u) : PSs X (st :: rest) (tSeq t u) := by
  intro pins s σ H D I h
  refine wpAny_execs_cons (thn (h1 pins s σ H { D with nx := u D } I h) fun f s1 q => ?_)
  cases f with
  | next =>
    obtain ⟨σ', H', I', q⟩ := q
    exact h2 pins s1 σ' H' D I' q
  | ret v => exact q
  | brk => exact q
  | cont => exact q
theorem pss_one (h1 : PS X st t) : PSs X [st] t := by
  intro pins s σ H D I h
  refine wpAny_execs_cons (thn (h1 pins s σ H D I h) fun f s1 q => ?_)
  cases f with
  | next => exact wpAny_execs_nil q
  | ret v => exact q
  | brk => exact q
  | cont => exact q
theorem Inv.quiet {pins : List (Addr × Obj)} {σ : St} {H : Hp} {s : Shared} (I : Inv X pins σ H s) : interactive X.env = false := by simp [interactive, I.ok.kind]
noncomputable def tDrop (te : TE) : TS := fun D σ H => te σ H fun _ H1 => D.nx σ H1
theorem ps_expr (he : PE X e te) (hs : swapsWith e none pos.line X.env = pure false := by rfl) : PS X (.Expr e pos) (tDrop te) := by
  intro pins s σ H D I h
  exact wpAny_Expr_any (thnE (he pins s σ H _ I h) fun v s1 x H1 I1 r1 q1 => ⟨σ, H1, I1, q1⟩) I.quiet hs
noncomputable def tRet (te : TE) : TS := fun D σ H => te σ H D.rt
theorem ps_ret (he : PE X e te) : PS X (.Return (some e) pos) (tRet te) := by
  intro pins s σ H D I h
  exact wpAny_Return_some (thnE (he pins s σ H _ I h) fun v s1 x H1 I1 r1 q1 => ⟨x, σ, H1, I1, r1, q1⟩)
noncomputable def tIfS (c : TT) (t u : TS) : TS := fun D σ H => c σ H fun b H1 => if b = true then t D σ H1 else u D σ H1
theorem ps_if {c : Expr} {a b : List Stmt} {tc : TT} (hc : PT X c tc) (ha : PSs X a t) (hb : PSs X b u) : PS X (.If c a b pos) (tIfS tc t u) := by
  intro pins s σ H D I h
  refine wpAny_If (thnT (hc pins s σ H _ I h) fun d s1 H1 I1 q1 => ?_)
  cases d with
  | true => exact ha pins s1 σ H1 D I1 q1
  | false => exact hb pins s1 σ H1 D I1 q1
noncomputable def tNever : TS := fun _ _ _ => False
theorem ps_never : PS X st tNever := fun _ _ _ _ _ _ h => h.elim
theorem pss_never {sts : List Stmt} : PSs X sts tNever := fun _ _ _ _ _ _ h => h.elim
end
noncomputable abbrev TG := V → St → Hp → (St → Hp → Prop) → Prop
noncomputable abbrev TGs := List V → St → Hp → (St → Hp → Prop) → Prop
noncomputable def PG (X : Cx) (target : Expr) (t : TG) : Prop :=
  ∀ (pins : List (Addr × Obj)) (s : Shared) (σ : St) (H : Hp) (v : V) (u : Value) (Q : St → Hp → Prop), Inv X pins σ H s → RelV v u → t v σ H Q →
    wpAny (model X.prog X.w) X.A (assign target X.env u) (fun _ s' => ∃ σ' H', Inv X pins σ' H' s' ∧ Q σ' H') X.xe s
noncomputable def PGs (X : Cx) (ts : List Expr) (t : TGs) : Prop :=
  ∀ (pins : List (Addr × Obj)) (s : Shared) (σ : St) (H : Hp) (vs : List V) (us : List Value) (Q : St → Hp → Prop), Inv X pins σ H s → Vals vs us → t vs σ H Q →
    wpAny (model X.prog X.w) X.A (assignInOrder ((assignEach ts X.env).map (·.2)) us) (fun _ s' => ∃ σ' H', Inv X pins σ' H' s' ∧ Q σ' H') X.xe s
noncomputable abbrev TSet := V → V → V → Hp → (Hp → Prop) → Prop
noncomputable def PSet (X : Cx) (t : TSet) : Prop :=
  ∀ (pins : List (Addr × Obj)) (s : Shared) (σ : St) (H : Hp) (o i v : V) (ov iv u : Value) (Q : Hp → Prop), Inv X pins σ H s → RelV o ov → RelV i iv → RelV v u → t o i v H Q →
    wpAny (model X.prog X.w) X.A (setItem ov iv u) (fun _ s' => ∃ H', Inv X pins σ H' s' ∧ Q H') X.xe s
section
variable {X : Cx} {pos : Pos}
noncomputable def gName (i : Nat) : TG := fun v σ H Q => Q (σ.set i (some v)) H
theorem pg_name {i : Nat} {x : Str} (hN : X.N.Nodup) (hi : X.N[i]? = some x) (hx : Loc X.env.scope x) (hf : X.fn x = true ∨ X.env.scope.names.lookup x = some .local := by first | exact .inl rfl | exact .inr rfl | assumption) : PG X (.Name x pos) (gName i) := by
  intro pins s σ H v u Q I r h
  exact wpAny_assign_Name (store_ok I hN hi hx r (fun s' I' => ⟨_, H, I', h⟩) hf)
noncomputable def gNil : TGs := fun vs σ H Q => vs = [] ∧ Q σ H
noncomputable def gCons (t : TG) (u : TGs) : TGs := fun vs σ H Q => ∃ v r, vs = v :: r ∧ t v σ H fun σ' H' => u r σ' H' Q
theorem pgs_nil : PGs X [] gNil := by
  intro pins s σ H vs us Q I r h
  obtain ⟨e, h⟩ := h
  subst e
  cases r
  exact assignInOrder_nil ⟨σ, H, I, h⟩
theorem pgs_cons {e : Expr} {es : List Expr} {t : TG} {u : TGs} (h1 : PG X e t) (h2 : PGs X es u)
    (hs : (assignEach (e :: es) X.env).map (·.2) = assign e X.env :: (assignEach es X.env).map (·.2) := by rfl) : PGs X (e :: es) (gCons t u) := by
  intro pins s σ H vs us Q I r h
  obtain ⟨v, vr, e1, h⟩ := h
  subst e1
  cases r with
  | cons r rr =>
    rw [hs]
    refine assignInOrder_cons (thn (h1 pins s σ H _ _ _ I r h) fun _ s1 w1_ => w1_.elim fun σ1 z_ => z_.elim fun H1 z_ => z_.elim fun I1 q1 => ?_)
    exact h2 pins s1 σ1 H1 _ _ Q I1 rr q1
noncomputable def gTup (K : PySem.W.Frag) (n : Nat) (t : TGs) : TG := fun v σ H Q => ∃ a xs, v = .ref a ∧ SqT K H a xs ∧ xs.length = n ∧ t xs σ H Q
theorem pg_tup {es : List Expr} {k : Nat} {t : TGs} {n : Nat} (hc : X.calm = true) (h : PGs X es t)
    (hn : (assignEach es X.env).length = n := by rfl) (hst : (assignEach es X.env).findIdx? (·.1) = none := by rfl) : PG X (.Tuple es k pos) (gTup X.K n t) := by
  intro pins s σ H v u Q I r hw
  obtain ⟨a, xs, e1, hq, hl, hw⟩ := hw
  subst e1
  cases r
  obtain ⟨its, rv, ht, hz⟩ := I.tuple hq
  refine assign_Tuple_tuple (I.ok.hd hc) ht (by simp [hn, ← hl, rv.length]) hst fun h' hx => ?_
  have I1 : Inv X pins σ H { s with heap := h' } := I.kept (t' := s.toks) fun b o e => hx b o (Nat.ne_of_lt (Heap.lt_size e)) e
  exact h pins _ σ H xs _ Q I1 (by simpa using rv) hw
noncomputable def gSub (to ti : TE) (t : TSet) : TG := fun v σ H Q => to σ H fun o H1 => ti σ H1 fun i H2 => t o i v H2 fun H3 => Q σ H3
theorem pg_sub {o i : Expr} {to ti : TE} {t : TSet} (ho : PE X o to) (hi : PE X i ti) (hs : PSet X t)
    (ha : ∀ v, assign (.Subscript o i pos) X.env v = (do
      let ov ← holding [v] (eval o X.env)
      let iv ← holding [v, ov] (eval i X.env)
      standAt pos
      holding [v, ov, iv] (setItem ov iv v)
      release [v, ov, iv] []) := by intro _; rfl) : PG X (.Subscript o i pos) (gSub to ti t) := by
  intro pins s σ H v u Q I r h
  rw [ha]
  refine wpAny_bind (wpAny_holding (thnE (ho pins s σ H _ I h) fun ov s1 x H1 I1 r1 q1 => ?_))
  refine wpAny_bind (wpAny_holding (thnE (hi pins s1 σ H1 _ I1 q1) fun iv s2 y H2 I2 r2 q2 => ?_))
  refine wpAny_bind (wpAny_standAt (wpAny_bind (wpAny_holding (thn (hs pins s2 σ H2 x y v ov iv u _ I2 r1 r2 r q2) fun _ s3 w1_ => w1_.elim fun H3 z_ => z_.elim fun I3 q3 => ?_))))
  exact wpAny_release ⟨σ, H3, I3, q3⟩
noncomputable def tAsg (te : TE) (g : TG) : TS := fun D σ H => te σ H fun x H1 => g x σ H1 D.nx
theorem ps_asg {tg e : Expr} {te : TE} {g : TG} (he : PE X e te) (hg : PG X tg g) (hs : swapsWithSole [tg] e pos.line X.env = pure false := by rfl) (hw : swappedStores [tg] e X.env = pure none := by rfl)
    (h1 : (assignEach [tg] X.env).map (·.2) = [assign tg X.env] := by rfl) : PS X (.Assign [tg] e pos) (tAsg te g) := by
  intro pins s σ H D I h
  refine wpAny_Assign_stores (thnE (he pins s σ H _ I h) fun v s1 x H1 I1 r1 q1 => ?_) hs hw
  rw [h1]
  exact thn (hg pins s1 σ H1 x v _ I1 r1 q1) fun _ s2 q => q
theorem ps_set {i : Nat} {x : Str} {e : Expr} {te : TE} {pos' : Pos} (hN : X.N.Nodup) (hi : X.N[i]? = some x) (hx : Loc X.env.scope x) (he : PE X e te) (hs : swapsWith e (some (.Name x pos')) pos.line X.env = pure false := by rfl) (hf : X.fn x = true ∨ X.env.scope.names.lookup x = some .local := by first | exact .inl rfl | exact .inr rfl | assumption) :
    PS X (.Assign [.Name x pos'] e pos) (tAsg te (gName i)) := by
  intro pins s σ H D I h
  refine wpAny_Assign_Name (thnE (he pins s σ H _ I h) fun v s1 y H1 I1 r1 q1 => ?_) hs
  exact store_ok I1 hN hi hx r1 (fun s2 I2 => ⟨_, H1, I2, q1⟩) hf
end
structure It where
  go : Nat → Hp → Prop
  yld : Nat → Hp → V → Hp → Prop
  stop : Nat → Hp → Prop
noncomputable def FpOk (X : Cx) (pins : List (Addr × Obj)) (H : Hp) (b : Addr) : Prop :=
  H b = none ∧ b ≠ X.env.locals ∧ b ∉ X.fs ∧ (b ∈ X.ex ∨ X.s₀.heap.objs.size ≤ b) ∧ (∀ x c, X.env.cells.lookup x = some c → c ≠ b) ∧ ∀ p ∈ X.pn ++ pins, p.1 ≠ b
theorem Inv.fpOk {X : Cx} {pins : List (Addr × Obj)} {σ : St} {H H' : Hp} {s : Shared} {b : Addr} (I : Inv X pins σ H s) (hb : s.heap.objs.size ≤ b) (hn : H' b = none) : FpOk X pins H' b := by
  refine ⟨hn, Nat.ne_of_gt (Nat.lt_of_lt_of_le I.lt hb), I.nofs hb, .inr (Nat.le_trans I.sz hb), fun x c e z => ?_, fun p hp z => ?_⟩
  · obtain ⟨v, q⟩ := I.cell x c e
    exact absurd (Nat.lt_of_lt_of_le q.lt (by rw [z]; exact hb)) (Nat.lt_irrefl _)
  · exact absurd (Nat.lt_of_lt_of_le (Heap.lt_size (I.pin p hp).1) (by rw [z]; exact hb)) (Nat.lt_irrefl _)
structure Turn (P : Program) (w : World) (K : PySem.W.Frag) (tg : Expr) (J : It) (fp : List Addr) (it : Addr) (tn : Nat → Heap → Prop) : Prop where
  mem : it ∈ fp
  obj : ∀ i h, tn i h → ∀ b ∈ fp, ∃ o, h.get? b = some o ∧ ∀ v, o.data ≠ .cell v
  keep : ∀ i h h', tn i h → (∀ b ∈ fp, ∀ o, h.get? b = some o → h'.get? b = some o) → tn i h'
  item : ∀ (X : Cx), X.prog = P → X.w = w → X.K = K → X.calm = true → ∀ (i : Nat) (pins : List (Addr × Obj)) (s : Shared) (σ : St) (H : Hp) (E : Value → Shared → Prop), Inv X pins σ H s → (∀ b ∈ fp, FpOk X pins H b) → tn i s.heap → J.go i H →
    wpAny (model P w) X.A (pyNext (.ref it)) (fun r s1 => ∃ u, r = some u ∧
      wpAny (model P w) X.A (letOwnedTupleGo tg (.ref it) u) (fun _ s2 => ∃ x H', Inv X pins σ H' s2 ∧ RelV x u ∧ J.yld i H x H' ∧ tn (i + 1) s2.heap ∧ ∀ b ∈ fp, H' b = none) E s1) E s
  done : ∀ (X : Cx), X.prog = P → X.w = w → X.K = K → X.calm = true → ∀ (i : Nat) (pins : List (Addr × Obj)) (s : Shared) (σ : St) (H : Hp) (E : Value → Shared → Prop), Inv X pins σ H s → (∀ b ∈ fp, FpOk X pins H b) → tn i s.heap → J.stop i H →
    wpAny (model P w) X.A (pyNext (.ref it)) (fun r s1 => r = none ∧ Inv X pins σ H s1) E s
  self : ∀ (A : Around) (i : Nat) (s : Shared) (Q : Value → Shared → Prop) (E : Value → Shared → Prop), tn i s.heap → Q (.ref it) s → wpAny (model P w) A (pyIter (.ref it)) Q E s
noncomputable abbrev TI := St → Hp → (It → Hp → Prop) → Prop
noncomputable def PIE (X : Cx) (pins : List (Addr × Obj)) (σ : St) (tg : Expr) (R : It → Hp → Prop) (itv : Value) (s2 : Shared) : Prop :=
  ∃ (it : Addr) (fp : List Addr) (tn : Nat → Heap → Prop) (J : It) (H' : Hp), itv = .ref it ∧ Inv X pins σ H' s2 ∧ Turn X.prog X.w X.K tg J fp it tn ∧ tn 0 s2.heap ∧ (∀ b ∈ fp, FpOk X pins H' b) ∧ R J H'
noncomputable def PI (X : Cx) (tg iter : Expr) (wi : TI) : Prop :=
  ∀ (pins : List (Addr × Obj)) (s : Shared) (σ : St) (H : Hp) (R : It → Hp → Prop), Inv X pins σ H s → wi σ H R →
    wpAny (model X.prog X.w) X.A (eval iter X.env) (fun v s1 => wpAny (model X.prog X.w) X.A (pyIter v) (PIE X pins σ tg R) X.xe s1) X.xe s
theorem go_of {M : Model} {A : Around} {E : Value → Shared → Prop} {s : Shared} {tg : Expr} {it : Addr} {u : Value} {o : Obj} {n : String} {vs : Array Value} {Q : Unit → Shared → Prop} (ho : s.heap.get? it = some o) (hc : o.cls = .type n) (hd : o.data = .fields vs)
    (hn : ["enumerate", "zip", "dict_itemiterator", "dict_reverseitemiterator", "odict_iterator", "itertools.zip_longest", "itertools.pairwise"].contains n = false) (hQ : Q () s) : wpAny M A (letOwnedTupleGo tg (.ref it) u) Q E s := by
  unfold letOwnedTupleGo
  cases tg <;> first
    | exact wpAny_pure hQ
    | (cases u <;> first
        | exact wpAny_pure hQ
        | (refine wpAny_bind (wpAny_load ho ?_)
           rw [hc, hd]
           show wpAny M A (if (["enumerate", "zip", "dict_itemiterator", "dict_reverseitemiterator", "odict_iterator", "itertools.zip_longest", "itertools.pairwise"].contains n && vs[0]? == some (rawInt _)) = true then _ else _) Q E s
           rw [if_neg (by intro h; rw [hn, Bool.false_and] at h; cases h)]
           exact wpAny_pure hQ))
noncomputable def Itl (K : PySem.W.Frag) (a : Addr) : It :=
  ⟨fun i H => ∃ xs x, SqL K H a xs ∧ xs[i]? = some x, fun i H x H' => H' = H ∧ ∀ xs, SqL K H a xs → xs[i]? = some x, fun i H => ∃ xs, SqL K H a xs ∧ xs.length ≤ i⟩
noncomputable def Itr (lo : Int) (n : Nat) : It := ⟨fun i _ => i < n, fun i H x H' => H' = H ∧ x = .int (lo + i), fun i _ => n ≤ i⟩
theorem turn_list {P : Program} {w : World} {K : PySem.W.Frag} {tg : Expr} (a it : Addr) : Turn P w K tg (Itl K a) [it] it (fun i h => h.IsListIter it a i) where
  mem := by simp
  obj := fun i h st b hb => by
    have e : b = it := by simpa using hb
    subst e
    obtain ⟨o, e, c, d⟩ := st
    exact ⟨o, e, fun v z => by rw [d] at z; cases z⟩
  keep := fun i h h' st k => st.at fun o e => k it (by simp) o e
  item := by
    intro X hP hw hK hc i pins s σ H E I hf st hg
    subst hP hw hK
    obtain ⟨xs, x, hq, hx⟩ := hg
    obtain ⟨its, rv, p, hz⟩ := I.list hq
    obtain ⟨u, hu, ru⟩ := rv.get hx
    obtain ⟨f0, f1, f2, f3, f4, f5⟩ := hf it (by simp)
    refine wpAny_pyNext_list_item st p.isList (x := u) (by simpa using hu) fun h' st' sb => ?_
    have I1 : Inv X pins σ H { s with heap := h' } := I.turned (t' := s.toks) (fun b o hb e => (sb.2 b hb).trans e) f0 f1 f3 f4 f5
    obtain ⟨o, e, c, d⟩ := id st'
    exact ⟨u, rfl, go_of (s := { s with heap := h' }) e c d (by decide) ⟨x, H, I1, ru, ⟨rfl, fun ys hy => by rw [I.list_inj hy hq]; exact hx⟩, st', fun b hb => (hf b hb).1⟩⟩
  done := by
    intro X hP hw hK hc i pins s σ H E I hf st hg
    subst hP hw hK
    obtain ⟨xs, hq, hx⟩ := hg
    obtain ⟨its, rv, p, hz⟩ := I.list hq
    obtain ⟨f0, f1, f2, f3, f4, f5⟩ := hf it (by simp)
    have hl := rv.length
    exact wpAny_pyNext_list_end (I.ok.hd hc) st p.isList (by simp; omega) fun h' eb => ⟨rfl, I.turned (t' := s.toks) (fun b o hb e => eb b o hb e) f0 f1 f3 f4 f5⟩
  self := fun _ _ _ _ _ st h => wpAny_pyIter_listiter st h
theorem turn_range {P : Program} {w : World} {K : PySem.W.Frag} {tg : Expr} (it : Addr) (lo : Int) (n : Nat) : Turn P w K tg (Itr lo n) [it] it (fun i h => IsRangeIter h it (lo + (i : Nat) * 1) ((n : Int) - (i : Nat)) 1) where
  mem := by simp
  obj := fun i h st b hb => by
    have e : b = it := by simpa using hb
    subst e
    exact ⟨_, st, fun v z => by
      have z' : Data.fields _ = Data.cell v := z
      cases z'⟩
  keep := fun i h h' st k => k it (by simp) _ st
  item := by
    intro X hP hw hK hc i pins s σ H E I hf st hg
    subst hP hw hK
    obtain ⟨f0, f1, f2, f3, f4, f5⟩ := hf it (by simp)
    have W := Walks.range (prog := X.prog) (w := X.w) (I.ok.hd hc) it lo 1 n
    refine W.item i s _ _ hg st fun v h' tk hv st' kk => ?_
    obtain ⟨t, rfl⟩ := hv
    have I1 : Inv X pins σ H { s with heap := h', toks := tk } := I.turned (fun b o hb e => kk b o (by simpa using hb) e) f0 f1 f3 f4 f5
    refine ⟨_, rfl, go_of (s := { s with heap := h', toks := tk }) (n := "range_iterator") st' rfl rfl (by decide) ⟨.int (lo + i), H, I1, ⟨t, ?_⟩, ⟨rfl, rfl⟩, st', fun b hb => (hf b hb).1⟩⟩
    rw [Int.mul_one]
  done := by
    intro X hP hw hK hc i pins s σ H E I hf st hg
    subst hP hw hK
    obtain ⟨f0, f1, f2, f3, f4, f5⟩ := hf it (by simp)
    exact wpAny_pyNext_range_end (I.ok.hd hc) st (by have : n ≤ i := hg; omega) fun h' eb => ⟨rfl, I.turned (t' := s.toks) (fun b o hb e => eb b o hb e) f0 f1 f3 f4 f5⟩
  self := fun _ _ _ _ _ st h => wpAny_pyIter_rangeiter st h
end L2
namespace L2
open PySem PySem.Spec PyProof.Rows
section
variable {X : Cx} {tg : Expr}
noncomputable def iList (K : PySem.W.Frag) (tl : TE) : TI := fun σ H R => tl σ H fun x H1 => ∃ a, x = .ref a ∧ (∃ xs, SqL K H1 a xs) ∧ R (Itl K a) H1
theorem pi_list {l : Expr} {tl : TE} (hl : PE X l tl) : PI X tg l (iList X.K tl) := by
  intro pins s σ H R I h
  refine thnE (hl pins s σ H _ I h) fun v s1 x H1 I1 r1 q1 => ?_
  obtain ⟨a, e, ⟨xs, hq⟩, q⟩ := q1
  subst e
  cases r1
  obtain ⟨its, rv, p, hz⟩ := I1.list hq
  refine wpAny_pyIter_list p.isList ?_
  refine ⟨s1.heap.objs.size, [s1.heap.objs.size], _, _, H1, rfl, I1.kept (t' := s1.toks) fun b o e => Heap.get?_push_of_some _ e, turn_list a _, ⟨_, Heap.get?_push_size _ rfl, rfl, rfl⟩, fun b hb => ?_, q⟩
  have e : b = s1.heap.objs.size := by simpa using hb
  subst e
  exact I1.fpOk (Nat.le_refl _) (I1.hok.fresh (Nat.le_refl _))
theorem range_it {pins : List (Addr × Obj)} {σ : St} {H : Hp} {s : Shared} {R : It → Hp → Prop} {E : Value → Shared → Prop} {lo hi : Int} {t u v : Tok} {tk : Nat} (I : Inv X pins σ H s) (h1 : -(2 ^ 62) ≤ lo) (h2 : lo < 2 ^ 62) (h3 : -(2 ^ 62) ≤ hi) (h4 : hi < 2 ^ 62)
    (q : R (Itr lo (hi - lo).toNat) H) : wpAny (model X.prog X.w) X.A (pyIter (.ref s.heap.objs.size)) (PIE X pins σ tg R) E { s with heap := s.heap.push { cls := .type "range", data := .fields #[.int lo t, .int hi u, .int 1 v] }, toks := tk } := by
  refine wpAny_pyIter_range (IsRange.new ..) (small_one h1 h2 h3 h4) ?_
  have I1 : Inv X pins σ H { s with heap := s.heap.push { cls := .type "range", data := .fields #[.int lo t, .int hi u, .int 1 v] }, toks := tk } := I.kept fun b o e => Heap.get?_push_of_some _ e
  refine ⟨(s.heap.push { cls := .type "range", data := .fields #[.int lo t, .int hi u, .int 1 v] }).objs.size, [(s.heap.push { cls := .type "range", data := .fields #[.int lo t, .int hi u, .int 1 v] }).objs.size], _, _, H, rfl,
    I1.kept (t' := tk) fun b o e => Heap.get?_push_of_some _ e, turn_range _ lo (hi - lo).toNat, ?_, fun b hb => ?_, q⟩
  · have e1 : lo + ((0 : Nat) : Int) * 1 = lo := by simp
    have e2 : (((hi - lo).toNat : Nat) : Int) - ((0 : Nat) : Int) = Builtin.Range.rangeSize lo hi 1 := by rw [rangeSize_one]; split <;> omega
    show IsRangeIter _ _ (lo + ((0 : Nat) : Int) * 1) ((((hi - lo).toNat : Nat) : Int) - ((0 : Nat) : Int)) 1
    rw [e1, e2]
    exact Heap.get?_push_size _ rfl
  · have e : b = (s.heap.push { cls := .type "range", data := .fields #[.int lo t, .int hi u, .int 1 v] }).objs.size := by simpa using hb
    subst e
    exact I1.fpOk (Nat.le_refl _) (I1.hok.fresh (Nat.le_refl _))
noncomputable def iRng1 (ta : TA) : TI := fun σ H R => ta σ H fun vs H1 => ∃ j : Int, vs = [.int j] ∧ -(2 ^ 62) ≤ j ∧ j < 2 ^ 62 ∧ R (Itr 0 j.toNat) H1
theorem pi_range1 {a : Expr} {ta : TA} {p pos : Pos} (hg : Gl X "range") (hm : X.mg "range" = none) (ha : PA X [a] ta) (hs : starEach [a] X.env = [(false, eval a X.env)] := by rfl) : PI X tg (.Call (.Name "range" p) [a] [] pos) (iRng1 ta) := by
  intro pins s σ H R I h
  refine Call_ (ld_blt I hg hm boot_range (PyProof.Rows.callWith_type1 (thnA (ha pos pins s σ H _ I h) fun us s1 vs H1 I1 r1 q1 => ?_) hs rfl))
  obtain ⟨j, e, q1, q2, q⟩ := q1
  subst e
  cases r1 with
  | cons r rr =>
    cases rr
    obtain ⟨t, rfl⟩ := r
    exact call_range_1 (range_it I1 (by omega) (by omega) q1 q2 (by simpa using q))
noncomputable def tFor (wi : TI) (g : TG) (tb : TS) : TS := fun D σ H => wi σ H fun J H1 => ∃ W : Nat → Nat → St → Hp → Prop, (∃ m, W 0 m σ H1) ∧ ∀ i m σ H, W i m σ H →
  (J.stop i H ∧ D.nx σ H) ∨ (J.go i H ∧ ∃ N : St → Hp → Prop, (∀ σ' H', N σ' H' → ∃ m', m' < m ∧ W (i + 1) m' σ' H') ∧ ∀ x H', J.yld i H x H' → g x σ H' fun σ2 H2 => tb { D with nx := N, ct := N, bk := D.nx } σ2 H2)
noncomputable def pinsAt (fp : List Addr) (h : Heap) : List (Addr × Obj) := fp.filterMap fun b => (h.get? b).map fun o => (b, o)
theorem mem_pinsAt {fp : List Addr} {h : Heap} {b : Addr} {o : Obj} (hb : b ∈ fp) (e : h.get? b = some o) : (b, o) ∈ pinsAt fp h := List.mem_filterMap.mpr ⟨b, hb, by rw [e]; rfl⟩
theorem of_pinsAt {fp : List Addr} {h : Heap} {p : Addr × Obj} (hp : p ∈ pinsAt fp h) : p.1 ∈ fp ∧ h.get? p.1 = some p.2 := by
  obtain ⟨b, hb, e⟩ := List.mem_filterMap.mp hp
  cases q : h.get? b with
  | none => rw [q] at e; cases e
  | some o =>
    rw [q] at e
    have e' : (b, o) = p := Option.some.inj e
    subst e'
    exact ⟨hb, q⟩
theorem Inv.pinned {pins : List (Addr × Obj)} {σ : St} {H : Hp} {s : Shared} {fp : List Addr} (I : Inv X pins σ H s) (hf : ∀ b ∈ fp, FpOk X pins H b) (ho : ∀ b ∈ fp, ∃ o, s.heap.get? b = some o ∧ ∀ v, o.data ≠ .cell v) : Inv X (pins ++ pinsAt fp s.heap) σ H s :=
  I.pins_of fun p hp => (List.mem_append.mp hp).elim (fun z => I.pin p (List.mem_append_right _ z)) fun z => by
    obtain ⟨hb, e⟩ := of_pinsAt z
    obtain ⟨f0, f1, f2, _⟩ := hf p.1 hb
    obtain ⟨o, e', d⟩ := ho p.1 hb
    rw [e] at e'; cases e'
    exact ⟨e, f0, f1, f2, d⟩
theorem Inv.unpinned {pins pl : List (Addr × Obj)} {σ : St} {H : Hp} {s : Shared} (I : Inv X (pins ++ pl) σ H s) : Inv X pins σ H s := I.pins_of fun p hp => I.pin p (List.mem_append_right _ (List.mem_append_left _ hp))
theorem ps_for {iter : Expr} {body : List Stmt} {wi : TI} {g : TG} {tb : TS} {pos : Pos} (hp : PassesOwn (model X.prog X.w) X.A X.env X.xe) (hc : X.calm = true) (hi : PI X tg iter wi) (hg : PG X tg g) (hb : PSs X body tb)
    (hs : ∀ x, foldedSetIterable iter X.env x = pure x := by intro _; rfl) : PS X (.For tg iter body [] pos) (tFor wi g tb) := by
  intro pins s σ H D I h
  refine wpAny_For (thn (hi pins s σ H _ I h) fun v s1 h1 => thn h1 fun itv s2 h2 => ?_) hs
  obtain ⟨it, fp, tn, J, H2, e, I2, T, st2, f2, W, ⟨m0, w0⟩, turn⟩ := h2
  subst e
  -- what stays true of the iterator's objects through the loop
  have stat : ∀ {H' : Hp}, (∀ b ∈ fp, H' b = none) → ∀ b ∈ fp, FpOk X pins H' b := fun hn b hb => ⟨hn b hb, (f2 b hb).2⟩
  refine codeAny_forLoop_any (fun n s' => ∃ i σ' H', Inv X pins σ' H' s' ∧ tn i s'.heap ∧ (∀ b ∈ fp, H' b = none) ∧ W i n σ' H') ?_ m0 ⟨0, σ, H2, I2, st2, fun b hb => (f2 b hb).1, w0⟩
  rintro n s3 ⟨i, σ3, H3, I3, st3, fr3, w3⟩
  rcases turn i n σ3 H3 w3 with ⟨stop, qn⟩ | ⟨go, N, hN, step⟩
  · refine wpAny_passesOwn hp (thn (T.done X rfl rfl rfl hc i pins s3 σ3 H3 X.xe I3 (stat fr3) st3 stop) fun r s4 w1_ => w1_.elim fun hr I4 => ?_)
    subst hr
    exact wpAny_execs_nil ⟨σ3, H3, I4, qn⟩
  · refine wpAny_passesOwn hp (thn (T.item X rfl rfl rfl hc i pins s3 σ3 H3 X.xe I3 (stat fr3) st3 go) fun r s4 w1_ => w1_.elim fun u z_ => z_.elim fun hr h4 => ?_)
    subst hr
    refine wpAny_passesOwn hp (thn h4 fun _ s5 w1_ => w1_.elim fun x z_ => z_.elim fun H5 z_ => z_.elim fun I5 z_ => z_.elim fun r5 z_ => z_.elim fun y5 z_ => z_.elim fun st5 fr5 => ?_)
    have I5' := I5.pinned (stat fr5) (T.obj _ _ st5)
    refine wpAny_passesOwn hp (thn (hg _ s5 σ3 H5 x u _ I5' r5 (step x H5 y5)) fun _ s6 w1_ => w1_.elim fun σ6 z_ => z_.elim fun H6 z_ => z_.elim fun I6 q6 => ?_)
    refine wpAny_passesOwn hp (thn (hb _ s6 σ6 H6 _ I6 q6) fun f s7 q7 => ?_)
    have again : ∀ {σ7 : St} {H7 : Hp}, Inv X (pins ++ pinsAt fp s5.heap) σ7 H7 s7 → N σ7 H7 → ∃ m, m < n ∧ ∃ i σ' H', Inv X pins σ' H' s7 ∧ tn i s7.heap ∧ (∀ b ∈ fp, H' b = none) ∧ W i m σ' H' := fun {σ7 H7} I7 n7 => by
      obtain ⟨m', hm, w7⟩ := hN σ7 H7 n7
      refine ⟨m', hm, i + 1, σ7, H7, I7.unpinned, T.keep _ _ _ st5 fun b hb o e => (I7.pin (b, o) (List.mem_append_right _ (List.mem_append_right _ (mem_pinsAt hb e)))).1, fun b hb => ?_, w7⟩
      obtain ⟨o, e, d⟩ := T.obj _ _ st5 b hb
      exact (I7.pin (b, o) (List.mem_append_right _ (List.mem_append_right _ (mem_pinsAt hb e)))).2.1
    cases f with
    | next => obtain ⟨σ7, H7, I7, n7⟩ := q7; exact again I7 n7
    | cont => obtain ⟨σ7, H7, I7, n7⟩ := q7; exact again I7 n7
    | brk => obtain ⟨σ7, H7, I7, q7⟩ := q7; exact ⟨σ7, H7, I7.unpinned, q7⟩
    | ret v => obtain ⟨x7, σ7, H7, I7, r7, q7⟩ := q7; exact ⟨x7, σ7, H7, I7.unpinned, r7, q7⟩
end
end L2
namespace L2
open PySem PySem.Spec PyProof.Rows
noncomputable abbrev R2 := V → V → Hp → VK → Prop
noncomputable def OpR (X : Cx) (f : Value → Value → Sem Value) (r : R2) : Prop :=
  ∀ (pins : List (Addr × Obj)) (s : Shared) (σ : St) (H : Hp) (x y : V) (v u : Value) (Q : VK), Inv X pins σ H s → RelV x v → RelV y u → r x y H Q →
    wpAny (model X.prog X.w) X.A (f v u) (EP X pins σ Q) X.xe s
noncomputable def UnR (X : Cx) (f : Value → Sem Value) (r : V → Hp → VK → Prop) : Prop :=
  ∀ (pins : List (Addr × Obj)) (s : Shared) (σ : St) (H : Hp) (x : V) (v : Value) (Q : VK), Inv X pins σ H s → RelV x v → r x H Q →
    wpAny (model X.prog X.w) X.A (f v) (EP X pins σ Q) X.xe s
noncomputable def CallR (X : Cx) (f : Value) (r : List V → Hp → VK → Prop) : Prop :=
  ∀ (pins : List (Addr × Obj)) (s : Shared) (σ : St) (H : Hp) (xs : List V) (us : List Value) (Q : VK), Inv X pins σ H s → Vals xs us → r xs H Q →
    wpAny (model X.prog X.w) X.A (call f us) (EP X pins σ Q) X.xe s
noncomputable def TruR (X : Cx) (r : V → Hp → (Bool → Hp → Prop) → Prop) : Prop :=
  ∀ (pins : List (Addr × Obj)) (s : Shared) (σ : St) (H : Hp) (x : V) (v : Value) (Q : Bool → Hp → Prop), Inv X pins σ H s → RelV x v → r x H Q →
    wpAny (model X.prog X.w) X.A (truthy v) (TP X pins σ Q) X.xe s
noncomputable def tOp (r : R2) (ta tb : TE) : TE := fun σ H Q => ta σ H fun x H1 => tb σ H1 fun y H2 => r x y H2 Q
noncomputable def tUn (r : V → Hp → VK → Prop) (ta : TE) : TE := fun σ H Q => ta σ H fun x H1 => r x H1 Q
noncomputable def rI (C : Int → Int → Prop) (g : Int → Int → V) : R2 := fun x y H Q => ∃ i j, x = .int i ∧ y = .int j ∧ C i j ∧ Q (g i j) H
noncomputable def rI0 (g : Int → Int → V) : R2 := fun x y H Q => ∃ i j, x = .int i ∧ y = .int j ∧ Q (g i j) H
noncomputable def rU (g : Int → V) : V → Hp → VK → Prop := fun x H Q => ∃ i, x = .int i ∧ Q (g i) H
section
variable {X : Cx} {a b c : Expr} {ta tb tc : TE} {pos : Pos}
theorem binT (ha : PE X a ta) (hb : PE X b tb) {pins : List (Addr × Obj)} {s : Shared} {σ : St} {H : Hp} {R : V → V → Hp → Prop} (I : Inv X pins σ H s)
    (h : ta σ H fun x H1 => tb σ H1 fun y H2 => R x y H2) {Q : Value → Shared → Prop} {f : Value → Value → Sem Value}
    (hf : ∀ v u s2 x y H2, Inv X pins σ H2 s2 → RelV x v → RelV y u → R x y H2 → wpAny (model X.prog X.w) X.A (f v u) Q X.xe s2) :
    wpAny (model X.prog X.w) X.A (eval a X.env) (fun v s₁ => wpAny (model X.prog X.w) X.A (eval b X.env) (fun u s₂ => wpAny (model X.prog X.w) X.A (f v u) Q X.xe s₂) X.xe s₁) X.xe s := by
  refine thnE (ha pins s σ H _ I h) fun v s1 x H1 I1 r1 q1 => ?_
  refine thnE (hb pins s1 σ H1 _ I1 q1) fun u s2 y H2 I2 r2 q2 => ?_
  exact hf v u s2 x y H2 I2 r1 r2 q2
theorem pe_op {op : Operator} {r : R2} (ho : OpR X (binaryOp op) r) (ha : PE X a ta) (hb : PE X b tb) : PE X (.BinOp a op b pos) (tOp r ta tb) := by
  intro pins s σ H Q I h
  exact wpAny_BinOp (binT ha hb I h fun v u s2 x y H2 I2 rx ry q => ho pins s2 σ H2 x y v u Q I2 rx ry q)
theorem pe_un {op : UnaryOp} {r : V → Hp → VK → Prop} (ho : UnR X (unaryOp op) r) (ha : PE X a ta) : PE X (.UnaryOp op a pos) (tUn r ta) := by
  intro pins s σ H Q I h
  exact UnaryOp_ (thnE (ha pins s σ H _ I h) fun v s1 x H1 I1 r1 q1 => ho pins s1 σ H1 x v Q I1 r1 q1)
theorem opI {f : Value → Value → Sem Value} {C : Int → Int → Prop} {g : Int → Int → Int}
    (rule : ∀ (i j : Int) (t u : Tok) (s : Shared) (Q : Value → Shared → Prop) (E : Value → Shared → Prop), C i j → Q (.int (g i j) s.toks) { s with toks := s.toks + 1 } → wpAny (model X.prog X.w) X.A (f (.int i t) (.int j u)) Q E s) :
    OpR X f (rI C fun i j => .int (g i j)) := by
  intro pins s σ H x y v u Q I rx ry h
  obtain ⟨i, j, rfl, rfl, hc, q⟩ := h
  obtain ⟨t, rfl⟩ := rx
  obtain ⟨t', rfl⟩ := ry
  exact rule i j t t' s _ _ hc ⟨.int (g i j), H, I.tok _, ⟨_, rfl⟩, q⟩
theorem opI0 {f : Value → Value → Sem Value} {g : Int → Int → Int}
    (rule : ∀ (i j : Int) (t u : Tok) (s : Shared) (Q : Value → Shared → Prop) (E : Value → Shared → Prop), Q (.int (g i j) s.toks) { s with toks := s.toks + 1 } → wpAny (model X.prog X.w) X.A (f (.int i t) (.int j u)) Q E s) :
    OpR X f (rI0 fun i j => .int (g i j)) := by
  intro pins s σ H x y v u Q I rx ry h
  obtain ⟨i, j, rfl, rfl, q⟩ := h
  obtain ⟨t, rfl⟩ := rx
  obtain ⟨t', rfl⟩ := ry
  exact rule i j t t' s _ _ ⟨.int (g i j), H, I.tok _, ⟨_, rfl⟩, q⟩
theorem opB0 {f : Value → Value → Sem Value} {g : Int → Int → Bool}
    (rule : ∀ (i j : Int) (t u : Tok) (s : Shared) (Q : Value → Shared → Prop) (E : Value → Shared → Prop), Q (.bool (g i j)) s → wpAny (model X.prog X.w) X.A (f (.int i t) (.int j u)) Q E s) :
    OpR X f (rI0 fun i j => .bl (g i j)) := by
  intro pins s σ H x y v u Q I rx ry h
  obtain ⟨i, j, rfl, rfl, q⟩ := h
  obtain ⟨t, rfl⟩ := rx
  obtain ⟨t', rfl⟩ := ry
  exact rule i j t t' s _ _ ⟨.bl (g i j), H, I, rfl, q⟩
noncomputable def CDiv (i j : Int) : Prop := 0 < j ∧ j < 1073741824
noncomputable def CPow (i j : Int) : Prop := 0 ≤ j ∧ j ≤ 1000000 ∧ i.natAbs < 2 ^ 64
noncomputable def CMul (i j : Int) : Prop := (-(2 ^ 64) < i ∧ i < 2 ^ 64) ∨ (-(2 ^ 64) < j ∧ j < 2 ^ 64)
theorem CMul.ok {i j : Int} (h : CMul i j) : IntMulOk i j := by
  rcases h with ⟨h1, h2⟩ | ⟨h1, h2⟩
  · exact .of_left (intBits_le_64 h1 h2)
  · exact .of_right (intBits_le_64 h1 h2)
theorem op_add : OpR X (binaryOp .Add) (rI0 fun i j => .int (i + j)) := opI0 fun _ _ _ _ _ _ _ q => add_int q
theorem op_sub : OpR X (binaryOp .Sub) (rI0 fun i j => .int (i - j)) := opI0 fun _ _ _ _ _ _ _ q => sub_int q
theorem op_mul : OpR X (binaryOp .Mult) (rI CMul fun i j => .int (i * j)) := opI fun _ _ _ _ _ _ _ hc q => mul_int q hc.ok
theorem op_fdiv : OpR X (binaryOp .FloorDiv) (rI CDiv fun i j => .int (i / j)) := opI fun i j _ _ _ _ _ hc q => by
  have h1 : (0 : Int) < j := hc.1
  have h2 : j < 1073741824 := hc.2
  exact floordiv_int (by omega) (by rw [Int.fdiv_eq_ediv_of_nonneg i (by omega)]; exact q) (.inl (PyProof.noPylong_small (by omega)))
theorem op_mod : OpR X (binaryOp .Mod) (rI (fun _ j => 0 < j) fun i j => .int (i % j)) := opI fun i j _ _ _ _ _ hc q => by
  have h1 : (0 : Int) < j := hc
  exact mod_int' (by omega) (by rw [Int.fmod_eq_emod_of_nonneg i (by omega)]; exact q)
theorem op_pow : OpR X (binaryOp .Pow) (rI CPow fun i j => .int (i ^ j.toNat)) := opI fun _ _ _ _ _ _ _ hc q => pow_int_small hc.1 hc.2.1 hc.2.2 q
theorem unI {f : Value → Sem Value} {g : Int → Int}
    (rule : ∀ (i : Int) (t : Tok) (s : Shared) (Q : Value → Shared → Prop) (E : Value → Shared → Prop), Q (.int (g i) s.toks) { s with toks := s.toks + 1 } → wpAny (model X.prog X.w) X.A (f (.int i t)) Q E s) :
    UnR X f (rU fun i => .int (g i)) := by
  intro pins s σ H x v Q I rx h
  obtain ⟨i, rfl, q⟩ := h
  obtain ⟨t, rfl⟩ := rx
  exact rule i t s _ _ ⟨.int (g i), H, I.tok _, ⟨_, rfl⟩, q⟩
theorem un_neg : UnR X (unaryOp .USub) (rU fun i => .int (-i)) := unI fun _ _ _ _ _ q => neg_int q
end
noncomputable def scal : V → V → Bool
  | .non, .non => true | .non, .int _ => true | .int _, .non => true | .non, .bl _ => true | .bl _, .non => true | .non, .str _ => true | .str _, .non => true
  | .int _, .int _ => true | .bl _, .bl _ => true | .str _, .str _ => true | .byt _, .byt _ => true
  | .int _, .str _ => true | .str _, .int _ => true | .bl _, .str _ => true | .str _, .bl _ => true
  | _, _ => false
noncomputable def rEq : R2 := fun x y H Q => scal x y = true ∧ Q (.bl (decide (x = y))) H
noncomputable def rNe : R2 := fun x y H Q => scal x y = true ∧ Q (.bl (!decide (x = y))) H
theorem dec_int {i j : Int} : decide (V.int i = V.int j) = (i == j) := by
  rw [Bool.eq_iff_iff]
  simp
theorem dec_bl {i j : Bool} : decide (V.bl i = V.bl j) = (i == j) := by
  rw [Bool.eq_iff_iff]
  simp
theorem dec_str {i j : Str} : decide (V.str i = V.str j) = (i == j) := by
  rw [Bool.eq_iff_iff]
  simp
theorem dec_byt {i j : Array UInt8} : decide (V.byt i = V.byt j) = (i.toList == j.toList) := by
  rw [Bool.eq_iff_iff]
  cases i
  cases j
  simp
section
variable {X : Cx} {a b c : Expr} {ta tb tc : TE} {pos : Pos}
theorem fin_bl {pins : List (Addr × Obj)} {σ : St} {H : Hp} {s : Shared} {Q : VK} {k k' : Bool} (I : Inv X pins σ H s) (q : Q (.bl k) H) (e : k = k') : EP X pins σ Q (.bool k') s := by
  subst e
  exact ⟨.bl k, H, I, rfl, q⟩
theorem op_eq : OpR X (compareOp .Eq) rEq := by
  intro pins s σ H x y v u Q I rx ry h
  obtain ⟨hs, q⟩ := h
  cases x with
  | non =>
    cases rx
    cases y with
    | non => cases ry; exact PySem.EqNone.eq_none_none (fin_bl I q (by simp))
    | bl j => cases ry; exact PySem.EqNone.eq_none_bool (fin_bl I q (by simp))
    | int j => obtain ⟨t', rfl⟩ := ry; exact PySem.EqNone.eq_none_int (fin_bl I q (by simp))
    | str j => obtain ⟨t', rfl⟩ := ry; exact PySem.EqNone.eq_none_str (fin_bl I q (by simp))
    | _ => exact absurd (show false = true from hs) Bool.false_ne_true
  | bl i =>
    cases rx
    cases y with
    | non => cases ry; exact PySem.EqNone.eq_bool_none (fin_bl I q (by simp))
    | bl j => cases ry; exact eq_bool (fin_bl I q dec_bl)
    | str j => obtain ⟨t', rfl⟩ := ry; exact PySem.EqMixed.eq_bool_str (fin_bl I q (by simp))
    | _ => exact absurd (show false = true from hs) Bool.false_ne_true
  | int i =>
    obtain ⟨t, rfl⟩ := rx
    cases y with
    | non => cases ry; exact PySem.EqNone.eq_int_none (fin_bl I q (by simp))
    | int j => obtain ⟨t', rfl⟩ := ry; exact eq_int (fin_bl I q dec_int)
    | str j => obtain ⟨t', rfl⟩ := ry; exact PySem.EqMixed.eq_int_str (fin_bl I q (by simp))
    | _ => exact absurd (show false = true from hs) Bool.false_ne_true
  | str i =>
    obtain ⟨t, rfl⟩ := rx
    cases y with
    | non => cases ry; exact PySem.EqNone.eq_str_none (fin_bl I q (by simp))
    | bl j => cases ry; exact PySem.EqMixed.eq_str_bool (fin_bl I q (by simp))
    | int j => obtain ⟨t', rfl⟩ := ry; exact PySem.EqMixed.eq_str_int (fin_bl I q (by simp))
    | str j => obtain ⟨t', rfl⟩ := ry; exact eq_str (fin_bl I q dec_str)
    | _ => exact absurd (show false = true from hs) Bool.false_ne_true
  | byt i =>
    obtain ⟨t, rfl⟩ := rx
    cases y with
    | byt j => obtain ⟨t', rfl⟩ := ry; exact PySem.W.eq_bytes (fin_bl I q dec_byt)
    | _ => exact absurd (show false = true from hs) Bool.false_ne_true
  | _ => cases y <;> exact absurd (show false = true from hs) Bool.false_ne_true
theorem op_ne : OpR X (compareOp .NotEq) rNe := by
  intro pins s σ H x y v u Q I rx ry h
  obtain ⟨hs, q⟩ := h
  cases x with
  | non =>
    cases rx
    cases y with
    | non => cases ry; exact PySem.EqNone.ne_none_none (fin_bl I q (by simp))
    | bl j => cases ry; exact PySem.EqNone.ne_none_bool (fin_bl I q (by simp))
    | int j => obtain ⟨t', rfl⟩ := ry; exact PySem.EqNone.ne_none_int (fin_bl I q (by simp))
    | str j => obtain ⟨t', rfl⟩ := ry; exact PySem.EqNone.ne_none_str (fin_bl I q (by simp))
    | _ => exact absurd (show false = true from hs) Bool.false_ne_true
  | bl i =>
    cases rx
    cases y with
    | non => cases ry; exact PySem.EqNone.ne_bool_none (fin_bl I q (by simp))
    | bl j => cases ry; exact ne_bool (fin_bl I q (congrArg not dec_bl))
    | str j => obtain ⟨t', rfl⟩ := ry; exact PySem.EqMixed.ne_bool_str (fin_bl I q (by simp))
    | _ => exact absurd (show false = true from hs) Bool.false_ne_true
  | int i =>
    obtain ⟨t, rfl⟩ := rx
    cases y with
    | non => cases ry; exact PySem.EqNone.ne_int_none (fin_bl I q (by simp))
    | int j => obtain ⟨t', rfl⟩ := ry; exact ne_int (fin_bl I q (congrArg not dec_int))
    | str j => obtain ⟨t', rfl⟩ := ry; exact PySem.EqMixed.ne_int_str (fin_bl I q (by simp))
    | _ => exact absurd (show false = true from hs) Bool.false_ne_true
  | str i =>
    obtain ⟨t, rfl⟩ := rx
    cases y with
    | non => cases ry; exact PySem.EqNone.ne_str_none (fin_bl I q (by simp))
    | bl j => cases ry; exact PySem.EqMixed.ne_str_bool (fin_bl I q (by simp))
    | int j => obtain ⟨t', rfl⟩ := ry; exact PySem.EqMixed.ne_str_int (fin_bl I q (by simp))
    | str j => obtain ⟨t', rfl⟩ := ry; exact ne_str (fin_bl I q (congrArg not dec_str))
    | _ => exact absurd (show false = true from hs) Bool.false_ne_true
  | byt i =>
    obtain ⟨t, rfl⟩ := rx
    cases y with
    | byt j => obtain ⟨t', rfl⟩ := ry; exact PySem.W.ne_bytes (fin_bl I q (congrArg not dec_byt))
    | _ => exact absurd (show false = true from hs) Bool.false_ne_true
  | _ => cases y <;> exact absurd (show false = true from hs) Bool.false_ne_true
theorem op_lt : OpR X (compareOp .Lt) (rI0 fun i j => .bl (decide (i < j))) := opB0 fun _ _ _ _ _ _ _ q => lt_int q
theorem op_le : OpR X (compareOp .LtE) (rI0 fun i j => .bl (decide (i ≤ j))) := opB0 fun _ _ _ _ _ _ _ q => le_int q
theorem op_gt : OpR X (compareOp .Gt) (rI0 fun i j => .bl (decide (j < i))) := opB0 fun _ _ _ _ _ _ _ q => gt_int q
theorem op_ge : OpR X (compareOp .GtE) (rI0 fun i j => .bl (decide (j ≤ i))) := opB0 fun _ _ _ _ _ _ _ q => ge_int q
theorem nomark (b : Expr) {op : CmpOp} (h : op ≠ .In := by decide) (h2 : op ≠ .NotIn := by decide) : behindInMarks op b = false := by
  have e1 : (op == CmpOp.In) = false := by cases op <;> first | rfl | exact absurd rfl h
  have e2 : (op == CmpOp.NotIn) = false := by cases op <;> first | rfl | exact absurd rfl h2
  cases b <;> simp [behindInMarks, e1, e2]
theorem pe_cmpR {op : CmpOp} {r : R2} (ho : OpR X (compareOp op) r) (ha : PE X a ta) (hb : PE X b tb) (hm : behindInMarks op b = false) : PE X (.Compare a [op] [b] pos) (tOp r ta tb) := by
  intro pins s σ H Q I h
  exact wpAny_Compare1 (binT ha hb I h fun v u s2 x y H2 I2 rx ry q => ho pins s2 σ H2 x y v u Q I2 rx ry q) hm
noncomputable def tTest (t : TE) : TT := fun σ H Q => t σ H fun x H' => ∃ k, x = .bl k ∧ Q k H'
theorem pt_cmpR {op : CmpOp} {r : R2} (ho : OpR X (compareOp op) r) (ha : PE X a ta) (hb : PE X b tb) (hm : behindInMarks op b = false) : PT X (.Compare a [op] [b] pos) (tTest (tOp r ta tb)) := by
  intro pins s σ H Q I h
  refine wpAny_isTrue_Compare1 (thnE (ha pins s σ H _ I h) fun v s1 x H1 I1 r1 q1 => thnE (hb pins s1 σ H1 _ I1 q1) fun u s2 y H2 I2 r2 q2 =>
    thn (ho pins s2 σ H2 x y v u _ I2 r1 r2 q2) fun c s3 w1_ => w1_.elim fun z z_ => z_.elim fun H3 z_ => z_.elim fun I3 z_ => z_.elim fun r3 z_ => z_.elim fun k z_ => z_.elim fun e q3 => ?_) hm
  subst e
  cases r3
  exact wpAny_truthy_bool ⟨H3, I3, q3⟩
noncomputable def TruV (K : PySem.W.Frag) (x : V) (H : Hp) (k : Bool) : Prop :=
  match x with
  | .non => k = false
  | .bl b => k = b
  | .int i => k = (i != 0)
  | .str y => y.length ≤ sizeLine ∧ k = ((y.length : Int) != 0)
  | .byt y => y.size ≤ sizeLine ∧ k = ((y.size : Int) != 0)
  | .ref p => (∃ xs, SqL K H p xs ∧ k = !xs.isEmpty) ∨ (∃ xs, SqT K H p xs ∧ k = !xs.isEmpty) ∨ ∃ kvs, H p = some (.dK kvs) ∧ k = !kvs.isEmpty
  | _ => False
theorem isEmpty_kv {κ : Type} {kvs : List (κ × V)} {vs : List (κ × Value)} (r : KV kvs vs) : (!vs.isEmpty) = !kvs.isEmpty := by
  cases r <;> rfl
theorem isEmpty_of {xs : List V} {its : List Value} (r : Vals xs its) : (!its.toArray.isEmpty) = !xs.isEmpty := by
  cases r <;> simp
theorem line63 : (sizeLine : Nat) < 2 ^ 63 := by rw [sizeLine_eq]; decide
theorem tru_ok : TruR X (fun x H Q => ∃ k, TruV X.K x H k ∧ Q k H) := by
  intro pins s σ H x v Q I rx h
  obtain ⟨k, e, q⟩ := h
  have hl := line63
  have hs : sizeLine = 16777216 := sizeLine_eq
  cases x with
  | non =>
    cases rx
    have e' : k = false := e
    subst e'
    exact truthy_none ⟨H, I, q⟩
  | bl b =>
    cases rx
    have e' : k = b := e
    subst e'
    exact wpAny_truthy_bool ⟨H, I, q⟩
  | int i =>
    obtain ⟨t, rfl⟩ := rx
    have e' : k = (i != 0) := e
    subst e'
    exact PySem.P.truthy_int ⟨H, I, q⟩
  | str y =>
    obtain ⟨t, rfl⟩ := rx
    obtain ⟨hy, e'⟩ : y.length ≤ sizeLine ∧ k = ((y.length : Int) != 0) := e
    subst e'
    exact PySem.P.truthy_str (by omega) ⟨H, I.tok _, q⟩
  | byt y =>
    obtain ⟨t, rfl⟩ := rx
    obtain ⟨hy, e'⟩ : y.size ≤ sizeLine ∧ k = ((y.size : Int) != 0) := e
    subst e'
    exact PySem.W.truthy_bytes (by omega) ⟨H, I.tok _, q⟩
  | ref p =>
    cases rx
    have e' : (∃ xs, SqL X.K H p xs ∧ k = !xs.isEmpty) ∨ (∃ xs, SqT X.K H p xs ∧ k = !xs.isEmpty) ∨ ∃ kvs, H p = some (.dK kvs) ∧ k = !kvs.isEmpty := e
    rcases e' with ⟨xs, hx, e'⟩ | ⟨xs, hx, e'⟩ | ⟨kvs, hx, e'⟩
    · subst e'
      obtain ⟨its, r, pl, hz⟩ := I.list hx
      have hlen := r.length
      exact wpAny_truthy_list pl.isList (by simp only [List.size_toArray]; omega) ⟨H, I.tok _, by rw [isEmpty_of r]; exact q⟩
    · subst e'
      obtain ⟨its, r, pl, hz⟩ := I.tuple hx
      have hlen := r.length
      exact truthy_tuple pl (by simp only [List.size_toArray]; omega) ⟨H, I.tok _, by rw [isEmpty_of r]; exact q⟩
    · subst e'
      obtain ⟨hz, hS, vs, r, m⟩ : kvs.length ≤ sizeLine ∧ (p == sysModules) = false ∧ ∃ vs, KV kvs vs ∧ s.heap.DictOf (mixKind X.prog X.w) p vs := I.hok p _ hx
      have hlen : kvs.length = vs.length := Paired.length r
      exact wpAny_truthy_dict hS m (by omega) ⟨H, I.tok _, by rw [isEmpty_kv r]; exact q⟩
  | _ => exact (show False from e).elim
theorem pt_truth (ha : PE X a ta) (he : ∀ whole, isTrue a X.env whole = (do let v ← whole; standAt a.pos; holding [v] (truthy v))) :
    PT X a (fun σ H Q => ta σ H fun x H' => ∃ k, TruV X.K x H' k ∧ Q k H') := by
  intro pins s σ H Q I h
  exact isTrue_plain (thnE (ha pins s σ H _ I h) fun v s1 x H1 I1 r1 q1 => tru_ok pins s1 σ H1 x v Q I1 r1 q1) (he _)
theorem vals1 {x : V} {us : List Value} (r : Vals [x] us) : ∃ u, us = [u] ∧ RelV x u := by
  cases r with
  | cons r1 r2 => cases r2; exact ⟨_, rfl, r1⟩
theorem vals2 {x y : V} {us : List Value} (r : Vals [x, y] us) : ∃ u w', us = [u, w'] ∧ RelV x u ∧ RelV y w' := by
  cases r with
  | cons r1 r2 =>
    cases r2 with
    | cons r3 r4 => cases r4; exact ⟨_, _, rfl, r1, r3⟩
theorem call_min2 (hc : X.calm = true) : CallR X (.builtin "min") (fun xs H Q => ∃ i j, xs = [.int i, .int j] ∧ Q (.int (if j < i then j else i)) H) := by
  intro pins s σ H xs us Q I r h
  obtain ⟨i, j, rfl, q⟩ := h
  obtain ⟨u, w', rfl, ⟨t, rfl⟩, ⟨t', rfl⟩⟩ := vals2 r
  refine min_two_ints (I.ok.hd hc) fun h' tk k => ⟨_, H, I.kept k, ?_, q⟩
  by_cases hj : j < i
  · rw [if_pos hj, if_pos hj]; exact ⟨_, rfl⟩
  · rw [if_neg hj, if_neg hj]; exact ⟨_, rfl⟩
end
end L2
namespace L2
open PySem PySem.Spec PyProof.Rows
theorem RelO.some_of {v : V} {o : Option Value} (r : RelO (some v) o) : ∃ u, o = some u ∧ RelV v u := by
  cases o with
  | none => exact (show False from r).elim
  | some u => exact ⟨u, rfl, r⟩
end L2
namespace L2
open PySem PySem.Spec PyProof.Rows
structure Room (k : Nat) (A : Around) : Prop where
  hd : A.handled = none
  dp : A.depth + 3 * k + 5 < recursionLimit
  un : A.units + 16 * k + 200 < cLine
theorem Room.mono {j k : Nat} {A : Around} (r : Room k A) (h : j ≤ k) : Room j A := ⟨r.hd, by have := r.dp; omega, by have := r.un; omega⟩
theorem Room.deeper {k : Nat} {A : Around} (r : Room (k + 1) A) (env : Env) : Room k (A.deeper env) :=
  ⟨r.hd, by have := r.dp; show A.depth + 1 + 3 * k + 5 < _; omega, by have := r.un; show A.units + 3 + 16 * k + 200 < _; omega⟩
theorem Room.depth {k : Nat} {A : Around} (r : Room k A) : A.depth < recursionLimit := by have := r.dp; omega
theorem Room.units {k : Nat} {A : Around} (r : Room k A) : A.units + 64 < cLine := by have := r.un; omega
noncomputable def tNil : TA := fun _ H Q => Q [] H
noncomputable def tCons (ta : TE) (tr : TA) : TA := fun σ H Q => ta σ H fun x H1 => tr σ H1 fun xs H2 => Q (x :: xs) H2
section
variable {X : Cx} {e : Expr} {es : List Expr} {te : TE} {t : TA} {pos : Pos}
theorem pa_nil : PA X [] tNil := fun _ _ _ _ H Q I h => Calls.spliced_nil ⟨[], H, I, .nil, h⟩
theorem pa_cons (ha : PE X e te) (hr : PA X es t) (hs : starEach (e :: es) X.env = (false, eval e X.env) :: starEach es X.env := by rfl) : PA X (e :: es) (tCons te t) := by
  intro pos pins s σ H Q I h
  rw [hs]
  show wpAny _ _ (spliced ((false, eval e X.env) :: backTo pos (starEach es X.env))) _ _ s
  refine Calls.spliced_cons (thnE (ha pins s σ H _ I h) fun u s1 x H1 I1 r1 q1 => ?_)
  exact thnA (hr pos pins s1 σ H1 _ I1 q1) fun us s2 xs H2 I2 r2 q2 => ⟨x :: xs, H2, I2, .cons r1 r2, q2⟩
noncomputable def tTup (t : TA) : TE := fun σ H Q => t σ H fun xs H1 => xs.length ≤ sizeLine ∧ ∀ p, H1 p = none → Q (.ref p) (upd H1 p (.tup xs))
noncomputable def tLst (t : TA) : TE := fun σ H Q => t σ H fun xs H1 => xs.length ≤ sizeLine ∧ ∀ p, H1 p = none → Q (.ref p) (upd H1 p (.lst xs))
theorem pe_tup {x1} (h : PA X es t) : PE X (.Tuple es x1 pos) (tTup t) := by
  intro pins s σ H Q I hq
  refine wpAny_Tuple_spliced (thn (h pos pins s σ H _ I hq) fun us s1 w1_ => w1_.elim fun xs z_ => z_.elim fun H1 z_ => z_.elim fun I1 z_ => z_.elim fun r z_ => z_.elim fun z q => ⟨by rw [← r.length]; exact z, ?_⟩)
  have hf : H1 s1.heap.objs.size = none := I1.hok.fresh (Nat.le_refl _)
  refine ⟨.ref s1.heap.objs.size, upd H1 s1.heap.objs.size (.tup xs), I1.laid (t' := s1.toks) (fun b u e => Heap.get?_push_of_some _ e) (Nat.le_refl _) ?_, rfl, q _ hf⟩
  exact ⟨z, us, r, ⟨_, Heap.get?_push_size _ rfl, rfl, _, rfl⟩⟩
theorem pe_lst (h : PA X es t) : PE X (.List es pos) (tLst t) := by
  intro pins s σ H Q I hq
  refine wpAny_List_spliced (thn (h pos pins s σ H _ I hq) fun us s1 w1_ => w1_.elim fun xs z_ => z_.elim fun H1 z_ => z_.elim fun I1 z_ => z_.elim fun r z_ => z_.elim fun z q => ⟨by rw [← r.length]; exact z, ?_⟩)
  have hf : H1 s1.heap.objs.size = none := I1.hok.fresh (Nat.le_refl _)
  refine ⟨.ref s1.heap.objs.size, upd H1 s1.heap.objs.size (.lst xs), I1.laid (t' := s1.toks) (fun b u e => Heap.get?_push_of_some _ e) (Nat.le_refl _) ?_, rfl, q _ hf⟩
  exact ⟨z, us, 0, r, Heap.get?_push_size _ rfl⟩
end
noncomputable abbrev Sp := List V → Hp → VK → XK → Prop
noncomputable abbrev CXT := List Env → Hp → Shared → XK → Value → Shared → Prop
structure Env0 (P : Program) (w : World) (K : PySem.W.Frag) (mg : Str → Option Value) (base : Heap) (A : Around) (outer : List Env) (s : Shared) (H : Hp) : Prop where
  frames : A.frames = some outer
  mod : Mod K mg base
  bs : ∀ b o, base.get? b = some o → s.heap.get? b = some o ∧ H b = none
  bsz : base.objs.size ≤ s.heap.objs.size
  funs : s.heap.FunFrames base outer
  frf : ∀ b ∈ frs outer, H b = none
  hok : HOk P w H s.heap
  bare : AllBare s.gens
noncomputable def CE (outer : List Env) (P : Program) (w : World) (H : Hp) (s : Shared) (Q : VK) (u : Value) (s' : Shared) : Prop :=
  ∃ v H', s'.os = s.os ∧ AllBare s'.gens ∧ Un (frs outer) [] H H' s.heap s'.heap ∧ HOk P w H' s'.heap ∧ RelV v u ∧ Q v H'
noncomputable def CR (CX : CXT) (outer : List Env) (P : Program) (w : World) (H : Hp) (s : Shared) (Q : VK) (E : XK) (r : Result) (s' : Shared) : Prop :=
  match r with
  | .ok (.ret u) => CE outer P w H s Q u s'
  | .ok _ => False
  | .error e => CX outer H s E e s'
structure FnOk (P : Program) (w : World) (K : PySem.W.Frag) (mg : Str → Option Value) (base : Heap) (CX : CXT) (k : Nat) (f : Addr) (fd : FuncData) (ps : List Str) (sp : Sp) : Prop where
  len : ∀ vs H Q E, sp vs H Q E → vs.length = ps.length
  run : ∀ (A : Around) (outer : List Env) (s : Shared) (H : Hp) (args : Args) (us : List Value) (vs : List V) (Q : VK) (E : XK), Room k A → Env0 P w K mg base A outer s H → BindsTo s fd args (ps.zip us) → Vals vs us → sp vs H Q E →
    codeAny (model P w) A (.call (.ref f) args) (CR CX outer P w H s Q E) s
theorem Env0.in1 {P : Program} {w : World} {K : PySem.W.Frag} {mg : Str → Option Value} {base : Heap} {A : Around} {outer : List Env} {s : Shared} {H : Hp} (e : Env0 P w K mg base A outer s H) :
    Env0 P w K mg base A.in1 outer s H := ⟨e.frames, e.mod, e.bs, e.bsz, e.funs, e.frf, e.hok, e.bare⟩
section
variable {X : Cx} {pins : List (Addr × Obj)} {σ : St} {H : Hp} {s s' : Shared}
theorem Inv.env0 (I : Inv X pins σ H s) : Env0 X.prog X.w X.K X.mg X.base X.A X.stack s H :=
  ⟨I.ok.frames, I.ok.mod, I.bs, Nat.le_trans I.ok.bsz I.sz, I.stack, I.stkFree, I.hok, I.bare⟩
theorem Inv.after {Q : VK} {u : Value} (I : Inv X pins σ H s) (h : CE X.stack X.prog X.w H s Q u s') : EP X pins σ Q u s' := by
  obtain ⟨v, H', os, bare, un, hok, r, q⟩ := h
  obtain ⟨hh, g, d, t, os'⟩ := s'
  obtain rfl : os' = s.os := os
  exact ⟨v, H', I.call (h' := hh) (g' := g) (d' := d) (t' := t) (ch := []) un hok bare (fun b z => absurd z (by simp)), r, q⟩
end
noncomputable def tCall (sp : Sp) (dvs : List V) (E : XK) (t : TA) : TE := fun σ H Q => t σ H fun vs H1 => sp (vs ++ dvs) H1 Q E
noncomputable def Binds (K : PySem.W.Frag) (fd : FuncData) (ps : List Str) (ds : List Value) : Prop :=
  ∀ (s : Shared) (us : List Value), K.In s.heap → (us ++ ds).length = ps.length → BindsTo s fd ⟨us, []⟩ (ps.zip (us ++ ds))
theorem Binds.all {K : PySem.W.Frag} {fd : FuncData} {ps : List Str} (h : ∀ us : List Value, us.length = ps.length → bindArgs fd ⟨us, []⟩ = pure (ps.zip us)) : Binds K fd ps [] := fun s us _ hl => by
  rw [List.append_nil] at hl ⊢
  exact .of_eq (h us hl)
noncomputable def Passes (CX : CXT) (X : Cx) (E : XK) : Prop := ∀ (pins : List (Addr × Obj)) (σ : St) (H : Hp) (s : Shared) (e : Value) (s' : Shared), Inv X pins σ H s → CX X.stack H s E e s' → X.xe e s'
section
variable {X : Cx} {CX : CXT} {k : Nat} {f C : Addr} {fd : FuncData} {ps : List Str} {sp : Sp} {dvs : List V} {ds : List Value} {E : XK} {x m : Str} {p pos apos : Pos} {e o : Expr} {es : List Expr} {ta : TE} {t : TA}
theorem run_fn {pins : List (Addr × Obj)} {σ : St} {H : Hp} {s : Shared} {Q : VK} {us : List Value} {vs : List V} (F : FnOk X.prog X.w X.K X.mg X.base CX k f fd ps sp) (hr : Room k X.A) (hb : Binds X.K fd ps ds) (hd : Vals dvs ds) (hx : Passes CX X E)
    (I : Inv X pins σ H s) (r : Vals vs us) (h : sp (vs ++ dvs) H Q E) : wpAny (model X.prog X.w) X.A (call (.ref f) us) (EP X pins σ Q) X.xe s := by
  have r2 : Vals (vs ++ dvs) (us ++ ds) := r.append hd
  have hl : (us ++ ds).length = ps.length := by rw [← r2.length]; exact F.len _ _ _ _ h
  refine wpAny_call (codeAny_mono (F.run X.A X.stack s H ⟨us, []⟩ (us ++ ds) (vs ++ dvs) Q E hr I.env0 (hb s us I.kIn hl) r2 h) fun r s' hq => ?_)
  cases r with
  | error e => exact hx pins σ H s e s' I hq
  | ok fl =>
    cases fl with
    | ret u => exact I.after hq
    | next => exact False.elim hq
    | brk => exact False.elim hq
    | cont => exact False.elim hq
theorem pe_call (F : FnOk X.prog X.w X.K X.mg X.base CX k f fd ps sp) (hr : Room k X.A) (hg : Gl X x) (hm : X.mg x = some (.ref f)) (hk : PySem.W.keepIn X.K (.ref f) = true) (hb : Binds X.K fd ps ds) (hd : Vals dvs ds) (hx : Passes CX X E)
    (ha : PA X (e :: es) t) (hdb : (x == ("__debug__" : Str)) = false := by decide) (he : starEach (e :: es) X.env = (false, eval e X.env) :: starEach es X.env := by rfl) (hpl : (backTo pos (starEach es X.env)).any (·.1) = false := by rfl) :
    PE X (.Call (.Name x p) (e :: es) [] pos) (tCall sp dvs E t) := by
  intro pins s σ H Q I h
  refine wpAny_Call_Name_kw (ld_glob I hg hm ?_ hdb)
  refine PySem.W.callWith_K (h₀ := X.base) I.ok.mod.kin hk (thnA (ha pos pins s σ H _ I h) fun us s1 vs H1 I1 r q => ⟨I1.kIn, ?_⟩) he hpl
  exact run_fn F hr hb hd hx I1 r q
theorem pe_call0 (F : FnOk X.prog X.w X.K X.mg X.base CX k f fd ps sp) (hr : Room k X.A) (hg : Gl X x) (hm : X.mg x = some (.ref f)) (hk : PySem.W.keepIn X.K (.ref f) = true) (hb : Binds X.K fd ps ds) (hd : Vals dvs ds) (hx : Passes CX X E)
    (hdb : (x == ("__debug__" : Str)) = false := by decide) : PE X (.Call (.Name x p) [] [] pos) (tCall sp dvs E tNil) := by
  intro pins s σ H Q I h
  refine wpAny_Call_Name_kw (ld_glob I hg hm ?_ hdb)
  exact PySem.W.callWith_K0 I.kIn hk (run_fn (us := []) F hr hb hd hx I .nil h)
end
noncomputable def PK (X : Cx) (kws : List Keyword) (t : TA) : Prop :=
  ∀ (pos : Pos) (pins : List (Addr × Obj)) (s : Shared) (σ : St) (H : Hp) (Q : List V → Hp → Prop), Inv X pins σ H s → t σ H Q → wpAny (model X.prog X.w) X.A (evalAll ((backToKw pos (keywordEach kws X.env)).map (·.2))) (AP X pins σ Q) X.xe s
section
variable {X : Cx} {CX : CXT} {k : Nat} {f C : Addr} {fd : FuncData} {ps ks : List Str} {sp : Sp} {E : XK} {x m : Str} {p pos apos kpos : Pos} {e o : Expr} {es : List Expr} {kws : List Keyword} {te ta : TE} {t tk : TA} {nm : Option Str}
theorem pk_nil : PK X [] tNil := fun _ _ _ _ H Q I h => wpAny_evalAll_nil ⟨[], H, I, .nil, h⟩
theorem pk_cons (ha : PE X e te) (hr : PK X kws t) : PK X (⟨nm, e, kpos⟩ :: kws) (tCons te t) := by
  intro pos pins s σ H Q I h
  show wpAny _ _ (evalAll ((do let v ← eval e X.env; standAt pos; pure v) :: (backToKw pos (keywordEach kws X.env)).map (·.2))) _ _ s
  refine wpAny_evalAll_cons (wpAny_bind (thnE (ha pins s σ H _ I h) fun u s1 x H1 I1 r1 q1 => wpAny_bind (wpAny_standAt (wpAny_pure ?_))))
  exact thnA (hr pos pins s1 σ H1 _ I1 q1) fun us s2 xs H2 I2 r2 q2 => ⟨x :: xs, H2, I2, .cons r1 r2, q2⟩
variable {g : List Value → List Value → List Value} {gV : List V → List V → List V}
end
structure FnScope (N P : List Str) (sc : Scope) : Prop where
  kind : sc.kind = .function
  co : sc.isCoroutine = false
  gen : sc.isGenerator = false
  nd : N.Nodup
  pre : N.take P.length = P
  par : ∀ x ∈ P, sc.names.lookup x = some .local ∨ sc.names.lookup x = some .cell
  nofree : ∀ y ∈ sc.names, y.2 ≠ .free
theorem bindL_out {kindOf : Str → Option NameKind} {x : Str} : ∀ {binds : List (Str × Value)} {m : Str → Option Value}, (∀ v, (x, v) ∉ binds) → bindL kindOf binds m x = m x
  | [], _, _ => rfl
  | (n, v) :: r, m, h => by
    unfold bindL
    rw [bindL_out fun w hw => h w (List.mem_cons_of_mem _ hw)]
    split
    · have : x ≠ n := by rintro rfl; exact h v List.mem_cons_self
      simp [this]
    · rfl
theorem bindC_out {kindOf : Str → Option NameKind} {x : Str} : ∀ {binds : List (Str × Value)} {m : Str → Option Value}, (∀ v, (x, v) ∉ binds) → bindC kindOf binds m x = m x
  | [], _, _ => rfl
  | (n, v) :: r, m, h => by
    unfold bindC
    rw [bindC_out fun w hw => h w (List.mem_cons_of_mem _ hw)]
    split
    · rfl
    · have : x ≠ n := by rintro rfl; exact h v List.mem_cons_self
      simp [this]
theorem bindL_get {kindOf : Str → Option NameKind} {x : Str} {v : Value} : ∀ {P : List Str} {vs : List Value} {i : Nat} {m : Str → Option Value}, P.Nodup → P[i]? = some x → vs[i]? = some v → kindOf x = some .local →
    bindL kindOf (P.zip vs) m x = some v
  | [], _, _, _, _, h, _, _ => by simp at h
  | _ :: _, [], _, _, _, _, h, _ => by simp at h
  | p :: P, w :: vs, 0, m, nd, h1, h2, hk => by
    simp at h1 h2; subst h1; subst h2
    show bindL kindOf ((p, w) :: P.zip vs) m p = _
    unfold bindL
    rw [bindL_out fun v hv => (List.nodup_cons.mp nd).1 (List.of_mem_zip hv).1, if_pos hk]
    simp
  | p :: P, w :: vs, i + 1, m, nd, h1, h2, hk => by
    show bindL kindOf ((p, w) :: P.zip vs) m x = _
    unfold bindL
    exact bindL_get (i := i) (List.nodup_cons.mp nd).2 (by simpa using h1) (by simpa using h2) hk
theorem bindC_get {kindOf : Str → Option NameKind} {x : Str} {v : Value} : ∀ {P : List Str} {vs : List Value} {i : Nat} {m : Str → Option Value}, P.Nodup → P[i]? = some x → vs[i]? = some v → kindOf x ≠ some .local →
    bindC kindOf (P.zip vs) m x = some v
  | [], _, _, _, _, h, _, _ => by simp at h
  | _ :: _, [], _, _, _, _, h, _ => by simp at h
  | p :: P, w :: vs, 0, m, nd, h1, h2, hk => by
    simp at h1 h2; subst h1; subst h2
    show bindC kindOf ((p, w) :: P.zip vs) m p = _
    unfold bindC
    rw [bindC_out fun v hv => (List.nodup_cons.mp nd).1 (List.of_mem_zip hv).1, if_neg hk]
    simp
  | p :: P, w :: vs, i + 1, m, nd, h1, h2, hk => by
    show bindC kindOf ((p, w) :: P.zip vs) m x = _
    unfold bindC
    exact bindC_get (i := i) (List.nodup_cons.mp nd).2 (by simpa using h1) (by simpa using h2) hk
noncomputable def start (N : List Str) (vs : List V) : St := vs.map some ++ List.replicate (N.length - vs.length) none
noncomputable def cxOf (CX : CXT) (P : Program) (w : World) (K : PySem.W.Frag) (mg : Str → Option Value) (base : Heap) (N : List Str) (qual : Str) (scope : Scope) (f : Addr) (cd : Value) (A : Around) (outer : List Env) (s : Shared) (H : Hp) (E : XK) : Cx where
  prog := P
  w := w
  K := K
  mg := mg
  base := base
  A := A.deeper (envOfC qual scope s.heap.objs.size f cd)
  N := N
  s₀ := s
  H₀ := H
  env := envOfC qual scope s.heap.objs.size f cd
  outer := outer
  stack := envOfC qual scope s.heap.objs.size f cd :: outer
  ex := []
  calm := true
  fn := fun _ => true
  pn := []
  xe := fun e s' => wpAny (model P w) (A.deeper (envOfC qual scope s.heap.objs.size f cd)) (leaving (envOfC qual scope s.heap.objs.size f cd) e) (fun _ s'' => CX outer H s E e s'') (fun e' s'' => CX outer H s E e' s'') s'
theorem cell_has {sc : Scope} {n : Nat} {x : Str} (h : sc.names.lookup x = some .cell) : ∃ c, (cellsFrom n sc.names []).lookup x = some c := by
  have q := PySem.W.cellsFrom_some sc.names n [] (.inl h)
  exact Option.isSome_iff_exists.mp q
theorem inv_start {CX : CXT} {P : Program} {w : World} {K : PySem.W.Frag} {mg : Str → Option Value} {base : Heap} {N ps : List Str} {qual : Str} {scope : Scope} {f : Addr} {cd : Value} {A : Around} {outer : List Env} {s s1 : Shared} {H : Hp} {E : XK} {us : List Value} {vs : List V}
    (S : FnScope N ps scope) (hd : A.handled = none) (e0 : Env0 P w K mg base A outer s H) (hl : vs.length = ps.length) (r : Vals vs us)
    (x : InCallC s s.heap.objs.size (bindL (envOfC qual scope s.heap.objs.size f cd).kindOf (ps.zip us) fun _ => none) (cellsFrom (s.heap.objs.size + 1) scope.names []) (bindC (envOfC qual scope s.heap.objs.size f cd).kindOf (ps.zip us) fun _ => none) s1) :
    Inv (cxOf CX P w K mg base N qual scope f cd A outer s H E) [] (start N vs) H s1 := by
  have hpl : ps.length ≤ N.length := by have := congrArg List.length S.pre; rw [List.length_take] at this; omega
  obtain ⟨h1, tk, rfl, hk⟩ := x.done
  have noA : ∀ b : Addr, b ∉ (cxOf CX P w K mg base N qual scope f cd A outer s H E).ex := fun b z => absurd (show b ∈ ([] : List Addr) from z) (by simp)
  refine ⟨⟨e0.mod, S.kind, rfl, rfl, Nat.le_refl _, fun y z c h1 h2 => ?_, fun y hy => ?_, fun y c _ h => ?_, fun _ => hd, Around.frames_deeper e0.frames, .inr ⟨rfl, rfl⟩, fun b z => absurd z (noA b), e0.bs, e0.bsz, fun b _ _ => noA b, fun b z => absurd z (noA b), e0.funs, e0.frf⟩,
    rfl, e0.bare, Un.kept hk, ⟨_, x.toInCall.ns, fun i y v h1 h2 h3 => ?_⟩, fun y c h => ⟨_, x.cell y c h⟩, e0.hok.fresh (Nat.le_refl _), fun y c h => ?_, fun p hp => absurd (show p ∈ ([] : List (Addr × Obj)) from hp) (by simp), e0.hok.kept hk, ?_⟩
  · exact name_of_addr x.apart (PySem.mem_of_lookup h1) (PySem.mem_of_lookup h2)
  · have hy : scope.names.lookup y = some .cell ∨ scope.names.lookup y = some .free := hy
    rcases hy with hy | hy
    · exact cell_has hy
    · exact absurd rfl (S.nofree _ (PySem.mem_of_lookup hy))
  · exact Nat.le_of_lt (x.above y c (PySem.mem_of_lookup h))
  · have hi : i < vs.length := by
      unfold start at h2
      by_cases hi : i < vs.length
      · exact hi
      · rw [List.getElem?_append_right (by simpa using hi)] at h2
        rw [List.getElem?_replicate] at h2
        split at h2 <;> cases h2
    have ha : vs[i]? = some v := by
      unfold start at h2
      rw [List.getElem?_append_left (by simpa using hi), List.getElem?_map] at h2
      cases e : vs[i]? with
      | none => rw [e] at h2; cases h2
      | some a => rw [e] at h2; cases h2; rfl
    obtain ⟨u, hu, rv⟩ := r.get ha
    have hp : ps[i]? = some y := by
      rw [← S.pre, List.getElem?_take_of_lt (by omega)]; exact h1
    have ndP : ps.Nodup := by rw [← S.pre]; exact S.nd.sublist (List.take_sublist _ _)
    refine ⟨u, rv, ?_⟩
    rcases S.par y (List.mem_of_getElem? hp) with k | k
    · exact .inl ⟨k, bindL_get ndP hp hu k⟩
    · obtain ⟨c, e⟩ := cell_has (n := s.heap.objs.size + 1) k
      refine .inr ⟨.inl k, c, e, ?_⟩
      have q := x.cell y c e
      rw [bindC_get ndP hp hu (by show scope.names.lookup y ≠ _; rw [k]; decide)] at q
      exact q
  · exact e0.hok.fresh (Nat.le_of_lt (x.above y c (PySem.mem_of_lookup h)))
  · unfold start
    show _ = N.length
    rw [List.length_append, List.length_map, List.length_replicate]
    omega
theorem fn_of {CX : CXT} {P : Program} {w : World} {K : PySem.W.Frag} {mg : Str → Option Value} {base : Heap} {k : Nat} {f : Addr} {name qual : Str} {params : Arguments} {body : List Stmt} {scope : Scope} {dV kV doc pm cdv ct oc : Value} {an od : Option Addr}
    {osl : Array (Option Value)} {N ps : List Str} {sp : Sp} (lk : K.lookup f = some ⟨oc, od, .func (PySem.W.fnOf name qual params body scope dV kV doc pm an cdv ct), osl⟩) (hcd : PySem.W.codeIn K cdv qual = true) (S : FnScope N ps scope)
    (len : ∀ vs H Q E, sp vs H Q E → vs.length = ps.length)
    (hbody : ∀ (A : Around) (outer : List Env) (s : Shared) (H : Hp) (vs : List V) (Q : VK) (E : XK), Room k (A.deeper (envOfC qual scope s.heap.objs.size f cdv)) → sp vs H Q E →
      ∃ t, PSs (cxOf CX P w K mg base N qual scope f cdv A outer s H E) body t ∧ t { nx := fun _ H' => Q .non H', rt := Q } (start N vs) H) :
    FnOk P w K mg base CX (k + 1) f (PySem.W.fnOf name qual params body scope dV kV doc pm an cdv ct) ps sp := by
  refine ⟨len, fun A outer s H args us vs Q E hr e0 hb r hsp => ?_⟩
  have hl := len _ _ _ _ hsp
  have KX : K.In s.heap := e0.mod.kin.keeps fun b o e => (e0.bs b o e).1
  have lim : s.heap.NoLimit := e0.mod.nolimit.keeps fun b o e => (e0.bs b o e).1
  have hkind : ∀ y ∈ ps.zip us, scope.names.lookup y.1 = some .local ∨ (scope.names.lookup y.1 = some .cell ∧ ((cellsFrom (s.heap.objs.size + 1) scope.names []).lookup y.1).isSome = true) := fun ⟨n, v⟩ hy => by
    rcases S.par n (List.of_mem_zip hy).1 with q | q
    · exact .inl q
    · exact .inr ⟨q, PySem.W.cellsFrom_some _ _ _ (.inl q)⟩
  refine codeAny_call_function hr.depth (KX _ _ lk) rfl S.co S.gen rfl (PySem.W.codeRec_of KX hcd) (hb _ _ _ _ ?_)
  refine wpAny_newFunctionEnv_cells S.kind hkind fun env he s1 x => ?_
  subst he
  refine ⟨lim.keeps x.toInCall.keep, codeAny_func ?_⟩
  obtain ⟨t, ht, hq⟩ := hbody A outer s H vs Q E (hr.deeper _) hsp
  have I : Inv (cxOf CX P w K mg base N qual scope f cdv A outer s H E) [] (start N vs) H s1 := inv_start S hr.hd e0 hl r x
  refine wpAny_mono (ht [] s1 (start N vs) H _ I hq) (fun fl s' hs => ?_) fun e s' hs => hs
  have fin : ∀ {σ' : St} {H' : Hp} {v : V} {u : Value}, Inv (cxOf CX P w K mg base N qual scope f cdv A outer s H E) [] σ' H' s' → RelV v u → Q v H' → CE outer P w H s Q u s' :=
    fun {σ' H' v u} J rv q => ⟨v, H', J.os, J.bare, J.base, J.hok, rv, q⟩
  cases fl with
  | ret u =>
    obtain ⟨v, σ', H', J, rv, q⟩ := hs
    exact fin J rv q
  | next =>
    obtain ⟨σ', H', J, q⟩ := hs
    exact fin (v := V.non) (u := Value.none) J rfl q
  | brk =>
    obtain ⟨_, _, _, q⟩ := hs
    exact False.elim q
  | cont =>
    obtain ⟨_, _, _, q⟩ := hs
    exact False.elim q
end L2
namespace L2
open PySem PySem.Spec PyProof.Rows
section
variable {X : Cx} {x : Str} {p pos : Pos} {e : Expr} {es : List Expr} {t : TA} {id T : String} {r : List V → Hp → VK → Prop}
noncomputable def tCB (r : List V → Hp → VK → Prop) (t : TA) : TE := fun σ H Q => t σ H fun vs H1 => r vs H1 Q
theorem pe_callB (hc : CallR X (.builtin id) r) (hg : Gl X x) (hm : X.mg x = none) (hv : bootBuiltins x = some (.builtin id)) (ha : PA X (e :: es) t) (hn : x ≠ "__name__" := by decide) (hdb : (x == ("__debug__" : Str)) = false := by decide)
    (he : starEach (e :: es) X.env = (false, eval e X.env) :: starEach es X.env := by rfl) (hpl : (backTo pos (starEach es X.env)).any (·.1) = false := by rfl) : PE X (.Call (.Name x p) (e :: es) [] pos) (tCB r t) := by
  intro pins s σ H Q I h
  refine wpAny_Call_Name_kw (ld_blt I hg hm hv ?_ hn hdb)
  exact PyProof.Rows.callWith_builtin1 (thnA (ha pos pins s σ H _ I h) fun us s1 vs H1 I1 r1 q1 => hc pins s1 σ H1 vs us Q I1 r1 q1) he hpl
theorem pe_callTy (hc : CallR X (.type T) r) (hg : Gl X x) (hm : X.mg x = none) (hv : bootBuiltins x = some (.type T)) (ha : PA X (e :: es) t) (hn : x ≠ "__name__" := by decide) (hdb : (x == ("__debug__" : Str)) = false := by decide)
    (he : starEach (e :: es) X.env = (false, eval e X.env) :: starEach es X.env := by rfl) (hpl : (backTo pos (starEach es X.env)).any (·.1) = false := by rfl) : PE X (.Call (.Name x p) (e :: es) [] pos) (tCB r t) := by
  intro pins s σ H Q I h
  refine wpAny_Call_Name_kw (ld_blt I hg hm hv ?_ hn hdb)
  exact PyProof.Rows.callWith_type1 (thnA (ha pos pins s σ H _ I h) fun us s1 vs H1 I1 r1 q1 => hc pins s1 σ H1 vs us Q I1 r1 q1) he hpl
end
end L2
namespace HT
open PySem PyProof.Rows
section
open PySem.SeqAt
open PySem.AutoSeq1 (wpAny_loadPart')
open PySem.MeetsSeq PySem.MeetsSeq2 PySem.MeetsSeq3
end
section
variable {prog : Program} {w : World} {A : Around} {E : Value → Shared → Prop} {s : Shared}
noncomputable def sIx (n d : Nat) : Option Int → Nat
  | none => d
  | some v => if v < 0 then (v + (n : Int)).toNat else min v.toNat n
end
end HT
namespace L2
open PySem PySem.Spec PyProof.Rows
noncomputable abbrev TO := St → Hp → (Option Int → Hp → Prop) → Prop
noncomputable def PO (X : Cx) (e : Option Expr) (t : TO) : Prop :=
  ∀ (pins : List (Addr × Obj)) (s : Shared) (σ : St) (H : Hp) (Q : Option Int → Hp → Prop), Inv X pins σ H s → t σ H Q →
    wpAny (model X.prog X.w) X.A (evalPart e X.env) (fun u s' => ∃ o H', Inv X pins σ H' s' ∧ IsPart u o ∧ Q o H') X.xe s
noncomputable def tNoPart : TO := fun _ H Q => Q none H
noncomputable def tPart (t : TE) : TO := fun σ H Q => t σ H fun x H1 => ∃ i, x = .int i ∧ Q (some i) H1
section
variable {X : Cx} {e : Expr} {te : TE} {lo hi : Option Expr} {tl th : TO} {pos p2 : Pos}
theorem po_none : PO X none tNoPart := by
  intro pins s σ H Q I h
  rw [evalPart_none]
  exact wpAny_pure ⟨none, H, I, .none, h⟩
theorem po_some (h : PE X e te) : PO X (some e) (tPart te) := by
  intro pins s σ H Q I hw
  rw [evalPart_some]
  refine thnE (h pins s σ H _ I hw) fun u s1 x H1 I1 r1 q1 => ?_
  obtain ⟨i, rfl, q⟩ := q1
  obtain ⟨t, rfl⟩ := r1
  exact ⟨some i, H1, I1, .int i t, q⟩
noncomputable def SlR (X : Cx) (r : V → Option Int → Option Int → Hp → VK → Prop) : Prop :=
  ∀ (pins : List (Addr × Obj)) (s : Shared) (σ : St) (H : Hp) (x : V) (v vl vu : Value) (lo hi : Option Int) (sl : Addr) (Q : VK), Inv X pins σ H s → RelV x v → s.heap.IsSliceOf sl vl vu .none → IsPart vl lo → IsPart vu hi → r x lo hi H Q →
    ∃ T id, typeLookup (.type T) "__getitem__" = pure (some (.builtin id)) ∧ s.TypeIs v T ∧ wpAny (model X.prog X.w) X.A (getItem v (.ref sl)) (EP X pins σ Q) X.xe s
noncomputable def tSl (r : V → Option Int → Option Int → Hp → VK → Prop) (te : TE) (tl th : TO) : TE := fun σ H Q => te σ H fun x H1 => tl σ H1 fun l H2 => th σ H2 fun u H3 => r x l u H3 Q
theorem pe_slice {r : V → Option Int → Option Int → Hp → VK → Prop} (hr : SlR X r) (he : PE X e te) (hl : PO X lo tl) (hu : PO X hi th) : PE X (.Subscript e (.Slice lo hi none p2) pos) (tSl r te tl th) := by
  intro pins s σ H Q I h
  refine Subscript_ (thnE (he pins s σ H _ I h) fun v s1 x H1 I1 r1 q1 => ?_)
  refine wpAny_Slice (thn (hl pins s1 σ H1 _ I1 q1) fun vl s2 w1_ => w1_.elim fun l z_ => z_.elim fun H2 z_ => z_.elim fun I2 z_ => z_.elim fun pl q2 => thn (hu pins s2 σ H2 _ I2 q2) fun vu s3 w1_ => w1_.elim fun u z_ => z_.elim fun H3 z_ => z_.elim fun I3 z_ => z_.elim fun pu q3 => ?_)
  rw [evalPart_none]
  refine wpAny_pure ?_
  have I4 : Inv X pins σ H3 { s3 with heap := s3.heap.push { cls := .type "slice", data := .fields #[vl, vu, .none] } } := I3.kept (t' := s3.toks) fun b ob q => Heap.get?_push_of_some _ q
  obtain ⟨T, id, hT, ht, hg⟩ := hr pins { s3 with heap := s3.heap.push { cls := .type "slice", data := .fields #[vl, vu, .none] } } σ H3 x v vl vu l u s3.heap.objs.size Q I4 r1 (Heap.IsSliceOf.new ..) pl pu q3
  show wpAny (model X.prog X.w) X.A (subscriptTail e (.Slice lo hi none p2) v (.ref s3.heap.objs.size)) (EP X pins σ Q) X.xe { s3 with heap := s3.heap.push { cls := .type "slice", data := .fields #[vl, vu, .none] } }
  exact tail_any (ops := [.ref s3.heap.objs.size, v]) ht hT hg (by with_unfolding_all rfl)
noncomputable def cutV (xs : List V) (lo hi : Option Int) : List V := (xs.drop (HT.sIx xs.length 0 lo)).take (HT.sIx xs.length xs.length hi - HT.sIx xs.length 0 lo)
theorem cutV_length (xs : List V) (lo hi : Option Int) : (cutV xs lo hi).length ≤ xs.length := by
  unfold cutV
  rw [List.length_take, List.length_drop]
  omega
end
end L2
namespace L2
open PySem PySem.Spec PyProof.Rows
noncomputable def ixN (n : Nat) (i : Int) : Option Nat := if 0 ≤ i then (if i < n then some i.toNat else none) else if -(n : Int) ≤ i then some (i + n).toNat else none
noncomputable def atI {α : Type} (xs : List α) (i : Int) : Option α := (ixN xs.length i).bind fun j => xs[j]?
theorem ixN_seq {n : Nat} {i : Int} {j : Nat} (h : ixN n i = some j) : seqIndex? i n = some j ∧ j < n ∧ -(n : Int) ≤ i ∧ i < n := by
  unfold ixN at h
  by_cases h0 : 0 ≤ i
  · rw [if_pos h0] at h
    by_cases h1 : i < n
    · rw [if_pos h1] at h
      have e : i.toNat = j := Option.some.inj h
      exact ⟨by rw [seqIndex_of h0 h1, e], by omega, by omega, h1⟩
    · rw [if_neg h1] at h; cases h
  · rw [if_neg h0] at h
    by_cases h1 : -(n : Int) ≤ i
    · rw [if_pos h1] at h
      have e : (i + n).toNat = j := Option.some.inj h
      exact ⟨by rw [seqIndex_neg (by omega) h1, e], by omega, h1, by omega⟩
    · rw [if_neg h1] at h; cases h
theorem atI_get {α : Type} {xs : List α} {i : Int} {v : α} (h : atI xs i = some v) : ∃ j, seqIndex? i xs.length = some j ∧ xs[j]? = some v ∧ j < xs.length ∧ -(xs.length : Int) ≤ i ∧ i < xs.length := by
  unfold atI at h
  cases e : ixN xs.length i with
  | none => rw [e] at h; cases h
  | some j =>
    rw [e] at h
    obtain ⟨h1, h2, h3, h4⟩ := ixN_seq e
    exact ⟨j, h1, h, h2, h3, h4⟩
theorem atI_nat {α : Type} {xs : List α} {j : Nat} {v : α} (h : xs[j]? = some v) : atI xs (j : Int) = some v := by
  have hj : j < xs.length := (List.getElem?_eq_some_iff.mp h).1
  have e : ixN xs.length (j : Int) = some j := by
    unfold ixN
    rw [if_pos (by omega), if_pos (by omega)]; simp
  unfold atI; rw [e]; exact h
theorem atI_last {α : Type} (xs : List α) (v : α) : atI (xs ++ [v]) (-1) = some v := by
  have hl : (xs ++ [v]).length = xs.length + 1 := by simp
  have e : ixN (xs ++ [v]).length (-1) = some xs.length := by
    unfold ixN
    rw [hl, if_neg (by decide), if_pos (by omega)]
    congr 1
    omega
  unfold atI
  rw [e]
  show (xs ++ [v])[xs.length]? = some v
  simp
noncomputable def PlainIx (b : Expr) : Prop := ∀ o i, subscripted b false o i = operate [o, i] (getItem o i)
noncomputable def IxR (X : Cx) (r : R2) : Prop :=
  ∀ (value slice : Expr) (pins : List (Addr × Obj)) (s : Shared) (σ : St) (H : Hp) (x y : V) (v u : Value) (Q : VK), Inv X pins σ H s → RelV x v → RelV y u → r x y H Q →
    subscripted slice false v u = operate [v, u] (getItem v u) → wpAny (model X.prog X.w) X.A (subscriptTail value slice v u) (EP X pins σ Q) X.xe s
noncomputable def MtR (X : Cx) (id : String) (r : V → List V → Hp → VK → Prop) : Prop :=
  ∀ (pins : List (Addr × Obj)) (s : Shared) (σ : St) (H : Hp) (x : V) (xs : List V) (v : Value) (us : List Value) (Q : VK), Inv X pins σ H s → RelV x v → Vals xs us → r x xs H Q →
    wpAny (model X.prog X.w) X.A (call (.builtin id) (v :: us)) (EP X pins σ Q) X.xe s
section
variable {X : Cx} {a b : Expr} {ta tb : TE} {pos : Pos}
theorem IxR.or {r r' : R2} (h : IxR X r) (h' : IxR X r') : IxR X (fun x y H Q => r x y H Q ∨ r' x y H Q) := by
  intro value slice pins s σ H x y v u Q I rx ry q hs
  rcases q with q | q
  · exact h value slice pins s σ H x y v u Q I rx ry q hs
  · exact h' value slice pins s σ H x y v u Q I rx ry q hs
theorem pe_ix {r : R2} (hr : IxR X r) (ha : PE X a ta) (hb : PE X b tb) (hs : PlainIx b) : PE X (.Subscript a b pos) (tOp r ta tb) := by
  intro pins s σ H Q I h
  exact Subscript_ (binT ha hb I h fun v u s2 x y H2 I2 rx ry q => hr a b pins s2 σ H2 x y v u Q I2 rx ry q (hs _ _))
noncomputable def rIxL (K : PySem.W.Frag) : R2 := fun x y H Q => ∃ p xs i v, x = .ref p ∧ y = .int i ∧ SqL K H p xs ∧ atI xs i = some v ∧ Q v H
noncomputable def rIxT (K : PySem.W.Frag) : R2 := fun x y H Q => ∃ p xs i v, x = .ref p ∧ y = .int i ∧ SqT K H p xs ∧ atI xs i = some v ∧ Q v H
noncomputable def rIxS : R2 := fun x y H Q => ∃ z i c, x = .str z ∧ y = .int i ∧ z.length ≤ sizeLine ∧ atI z.cps.toList i = some c ∧ Q (.str ⟨#[c]⟩) H
theorem ix_list : IxR X (rIxL X.K) := by
  intro value slice pins s σ H x y v u Q I rx ry h hs
  obtain ⟨p, xs, i, z, rfl, rfl, hq, he, q⟩ := h
  cases rx
  obtain ⟨t, rfl⟩ := ry
  obtain ⟨its, r, pl, hz⟩ := I.list hq
  obtain ⟨j, h1, h2, h3, h4, h5⟩ := atI_get he
  obtain ⟨w, ew, rw'⟩ := r.get h2
  have hl := r.length
  have hn := line63
  have fin : EP X pins σ Q w s := ⟨z, H, I, rw', q⟩
  by_cases h0 : 0 ≤ i
  · have hj : i.toNat = j := by
      rw [seqIndex_of h0 h5] at h1
      exact Option.some.inj h1
    exact item_listR pl.isList h0 (by omega) (by rw [hj]; simpa using ew) fin hs
  · have hj : (i + (its.toArray.size : Int)).toNat = j := by
      rw [seqIndex_neg (by omega) h4] at h1
      rw [List.size_toArray, ← hl]
      exact Option.some.inj h1
    exact subscriptTail_builtinR (x := w) pl.isList.typeIs slot_list_getitem.lookup
      (wpAny_getItem_list_neg (Q := fun r s' => r = w ∧ EP X pins σ Q r s') pl.isList (by omega) (by rw [List.size_toArray] <;> omega) (by omega) (by rw [hj]; simpa using ew) ⟨rfl, fin⟩) hs
theorem ix_tup : IxR X (rIxT X.K) := by
  intro value slice pins s σ H x y v u Q I rx ry h hs
  obtain ⟨p, xs, i, z, rfl, rfl, hq, he, q⟩ := h
  cases rx
  obtain ⟨t, rfl⟩ := ry
  obtain ⟨its, r, pl, hz⟩ := I.tuple hq
  obtain ⟨j, h1, h2, h3, h4, h5⟩ := atI_get he
  obtain ⟨w, ew, rw'⟩ := r.get h2
  have hl := r.length
  have hn := line63
  have fin : EP X pins σ Q w s := ⟨z, H, I, rw', q⟩
  exact subscriptTail_builtinR (x := w) pl.typeIs slot_tuple_getitem.lookup
    (getItem_tuple (j := j) (Q := fun r s' => r = w ∧ EP X pins σ Q r s') pl (by omega) (by omega) (by rw [List.size_toArray, ← hl]; exact h1) (by simpa using ew) ⟨rfl, fin⟩) hs
theorem ix_str : IxR X rIxS := by
  intro value slice pins s σ H x y v u Q I rx ry h hs
  obtain ⟨z, i, c, rfl, rfl, hz, he, q⟩ := h
  obtain ⟨t, rfl⟩ := rx
  obtain ⟨t', rfl⟩ := ry
  obtain ⟨j, h1, h2, h3, h4, h5⟩ := atI_get he
  have hl : z.cps.toList.length = z.length := by simp [Str.length]
  rw [hl] at h1 h4 h5
  have hn := line63
  exact tail_any (typeIs_str s z t) slot_str_getitem.lookup (getItem_str (c := c) (by
    have e1 : decide (i < -(2 ^ 63 : Int)) = false := decide_eq_false (by omega)
    have e2 : decide (i ≥ 2 ^ 63) = false := decide_eq_false (by omega)
    rw [e1, e2, Bool.or_false]) (by rw [h1]; simpa using h2) ⟨.str ⟨#[c]⟩, H, I.tok _, ⟨_, rfl⟩, q⟩) hs
theorem mapSeq_set (its : List Value) (n j : Nat) (u : Value) : Obj.mapSeq (·.setIfInBounds j u) { cls := .type "list", data := .seq its.toArray n } = { cls := .type "list", data := .seq (its.set j u).toArray n } := by
  simp [Obj.mapSeq]
theorem Inv.lst {pins : List (Addr × Obj)} {σ : St} {H : Hp} {s : Shared} {p : Addr} {xs : List V} (I : Inv X pins σ H s) (h : H p = some (.lst xs)) :
    ∃ (its : List Value) (n : Nat), Vals xs its ∧ s.heap.get? p = some { cls := .type "list", data := .seq its.toArray n } ∧ xs.length ≤ sizeLine := by
  obtain ⟨z, its, n, r, e⟩ := I.hok p _ h
  exact ⟨its, n, r, e, z⟩
theorem Inv.lstUpd {pins : List (Addr × Obj)} {σ : St} {H : Hp} {s : Shared} {p : Addr} {xs ys : List V} {its its' : List Value} {n n' : Nat} {f : Obj → Obj} (I : Inv X pins σ H s) (h : H p = some (.lst xs))
    (ho : s.heap.get? p = some { cls := .type "list", data := .seq its.toArray n }) (hf : f { cls := .type "list", data := .seq its.toArray n } = { cls := .type "list", data := .seq its'.toArray n' }) (r : Vals ys its') (hz : ys.length ≤ sizeLine) (t : Nat) :
    Inv X pins σ (upd H p (.lst ys)) { s with heap := s.heap.update p f, toks := t } := by
  have e : (s.heap.update p f).get? p = some { cls := .type "list", data := .seq its'.toArray n' } := by
    rw [Heap.get?_update_self f ho (by rw [hf] <;> rfl), hf]
  refine I.write (x := p) (e := p) (by rw [h]; trivial) (.inl rfl) (fun b u hb q => (Heap.get?_update_other _ _ (Ne.symm hb)).trans q) ⟨_, e⟩ ?_
  exact ⟨hz, its', n', r, e⟩
noncomputable def rSetL : V → V → V → Hp → (Hp → Prop) → Prop := fun o i v H Q => ∃ p xs k j, o = .ref p ∧ i = .int k ∧ H p = some (.lst xs) ∧ ixN xs.length k = some j ∧ Q (upd H p (.lst (xs.set j v)))
theorem set_list : PSet X rSetL := by
  intro pins s σ H o i v ov iv u Q I ro ri rv h
  obtain ⟨p, xs, k, j, rfl, rfl, hp, hj, q⟩ := h
  cases ro
  obtain ⟨t, rfl⟩ := ri
  obtain ⟨its, n, r, ho, hz⟩ := I.lst hp
  obtain ⟨h1, h2, h3, h4⟩ := ixN_seq hj
  have hl := r.length
  have hn := line63
  have I' : Inv X pins σ (upd H p (.lst (xs.set j v))) { s with heap := s.heap.update p (Obj.mapSeq (·.setIfInBounds j u)) } :=
    I.lstUpd hp ho (mapSeq_set its n j u) (r.set rv j) (by rw [List.length_set]; exact hz) s.toks
  by_cases h0 : 0 ≤ k
  · have hk : k.toNat = j := by
      rw [seqIndex_of h0 h4] at h1
      exact Option.some.inj h1
    exact PySem.W.ki_setAt ho h0 (by omega) (by rw [List.size_toArray, ← hl]; exact h4) (by rw [hk]; exact ⟨_, I', q⟩)
  · have hk : (k + (its.toArray.size : Int)).toNat = j := by
      rw [seqIndex_neg (by omega) h3] at h1
      rw [List.size_toArray, ← hl]
      exact Option.some.inj h1
    exact PySem.W.ki_setBack ho (by omega) (by rw [List.size_toArray, ← hl]; exact h3) (by omega) (by rw [hk]; exact ⟨_, I', q⟩)
theorem slice_bounds (lo hi : Option Int) (n : Nat) : (sliceBounds lo hi none n).1 = ((HT.sIx n 0 lo : Nat) : Int) ∧ (sliceBounds lo hi none n).2.1 = ((HT.sIx n n hi : Nat) : Int) ∧ (sliceBounds lo hi none n).2.2 = 1 := by
  refine ⟨?_, ?_, rfl⟩
  · cases lo with
    | none => simp [sliceBounds, HT.sIx]
    | some i =>
      simp only [sliceBounds, HT.sIx, Option.getD_none, show (1 : Int) > 0 by decide, if_true]
      by_cases h : i < 0
      · simp only [h, if_true] <;> omega
      · simp only [h, if_false] <;> omega
  · cases hi with
    | none => simp [sliceBounds, HT.sIx]
    | some i =>
      simp only [sliceBounds, HT.sIx, Option.getD_none, show (1 : Int) > 0 by decide, if_true]
      by_cases h : i < 0
      · simp only [h, if_true] <;> omega
      · simp only [h, if_false] <;> omega
theorem slicePick_cut (its : List Value) (lo hi : Option Int) : slicePick its.toArray lo hi none = ((its.drop (HT.sIx its.length 0 lo)).take (HT.sIx its.length its.length hi - HT.sIx its.length 0 lo)).toArray := by
  obtain ⟨h1, h2, h3⟩ := slice_bounds lo hi its.toArray.size
  unfold slicePick
  rw [h1, h2, h3]
  simp only [sliceRange_one, pick_run, List.size_toArray] <;> rfl
noncomputable def rSlL (K : PySem.W.Frag) : V → Option Int → Option Int → Hp → VK → Prop := fun x lo hi H Q => ∃ a xs, x = .ref a ∧ SqL K H a xs ∧ ∀ p, H p = none → Q (.ref p) (upd H p (.lst (cutV xs lo hi)))
theorem sl_list : SlR X (rSlL X.K) := by
  intro pins s σ H x v vl vu lo hi sl Q I rx hs pl pu h
  obtain ⟨a, xs, rfl, hx, q⟩ := h
  cases rx
  obtain ⟨its, r, ht, hz⟩ := I.list hx
  have hlen := r.length
  refine ⟨"list", _, slot_list_getitem.lookup, ht.isList.typeIs, ?_⟩
  refine wpAny_getItem_list_slice ht.isList hs pl pu .none (by simp) ?_ (by rw [List.size_toArray] <;> omega)
  rw [slicePick_cut, ← hlen]
  refine ⟨.ref s.heap.objs.size, _, I.laid (t' := s.toks) (o := .lst (cutV xs lo hi)) (fun b ob q => Heap.get?_push_of_some _ q) (Nat.le_refl _) ?_, rfl, q _ (I.hok.fresh (Nat.le_refl _))⟩
  exact ⟨Nat.le_trans (cutV_length xs lo hi) hz, _, 0, (r.drop (HT.sIx xs.length 0 lo)).take (HT.sIx xs.length xs.length hi - HT.sIx xs.length 0 lo), Heap.get?_push_size _ rfl⟩
noncomputable def flatV : V → Bool
  | .non => true
  | .bl _ => true
  | .int _ => true
  | .str _ => true
  | _ => false
noncomputable def eqV : V → V → Bool
  | .non, .non => true
  | .bl a, .bl b => a == b
  | .bl a, .int b => (if a then 1 else 0) == b
  | .int a, .bl b => a == (if b then 1 else 0)
  | .int a, .int b => a == b
  | .str a, .str b => a == b
  | _, _ => false
theorem eqAt_V {A : Around} {s : Shared} {y x : V} {u v : Value} (ry : RelV y u) (rx : RelV x v) (fy : flatV y = true) (fx : flatV x = true) : SeqAt.EqAt A s u v (eqV y x) := by
  cases y with
  | non =>
    cases ry
    cases x with
    | non => cases rx; exact SeqAt.EqAt.same _
    | bl b => cases rx; exact SeqAt.EqAt.none_bool b
    | int b => obtain ⟨t, rfl⟩ := rx; exact SeqAt.EqAt.none_int b t
    | str b => obtain ⟨t, rfl⟩ := rx; exact SeqAt.EqAt.none_str b t
    | _ => exact absurd (show false = true from fx) Bool.false_ne_true
  | bl a =>
    cases ry
    cases x with
    | non => cases rx; exact SeqAt.EqAt.bool_none a
    | bl b => cases rx; exact SeqAt.EqAt.bool_bool a b
    | int b => obtain ⟨t, rfl⟩ := rx; exact SeqAt.EqAt.bool_int a b t
    | str b => obtain ⟨t, rfl⟩ := rx; exact SeqAt.EqAt.bool_str a b t
    | _ => exact absurd (show false = true from fx) Bool.false_ne_true
  | int a =>
    obtain ⟨t', rfl⟩ := ry
    cases x with
    | non => cases rx; exact SeqAt.EqAt.int_none a t'
    | bl b => cases rx; exact SeqAt.EqAt.int_bool a t' b
    | int b => obtain ⟨t, rfl⟩ := rx; exact SeqAt.EqAt.int_int a t' b t
    | str b => obtain ⟨t, rfl⟩ := rx; exact SeqAt.EqAt.int_str a t' b t
    | _ => exact absurd (show false = true from fx) Bool.false_ne_true
  | str a =>
    obtain ⟨t', rfl⟩ := ry
    cases x with
    | non => cases rx; exact SeqAt.EqAt.str_none a t'
    | bl b => cases rx; exact SeqAt.EqAt.str_bool a t' b
    | int b => obtain ⟨t, rfl⟩ := rx; exact SeqAt.EqAt.str_int a t' b t
    | str b => obtain ⟨t, rfl⟩ := rx; exact SeqAt.EqAt.str_str a t' b t
    | _ => exact absurd (show false = true from fx) Bool.false_ne_true
  | _ => exact absurd (show false = true from fy) Bool.false_ne_true
noncomputable def eqU (x : V) (u : Value) : Bool := match u with
  | .none => eqV .non x
  | .bool b => eqV (.bl b) x
  | .int i _ => eqV (.int i) x
  | .str z _ => eqV (.str z) x
  | _ => false
theorem eqU_of {x y : V} {u : Value} (r : RelV y u) (f : flatV y = true) : eqU x u = eqV y x := by
  cases y with
  | non => cases r; rfl
  | bl b => cases r; rfl
  | int i => obtain ⟨t, rfl⟩ := r; rfl
  | str z => obtain ⟨t, rfl⟩ := r; rfl
  | _ => exact absurd (show false = true from f) Bool.false_ne_true
theorem any_eqU {x : V} : ∀ {xs : List V} {us : List Value}, Vals xs us → xs.all flatV = true → us.any (eqU x) = xs.any fun y => eqV y x
  | _, _, .nil, _ => rfl
  | y :: xs, u :: us, .cons r t, f => by
    rw [List.all_cons, Bool.and_eq_true] at f
    rw [List.any_cons, List.any_cons, eqU_of r f.1, any_eqU t f.2]
theorem mem_eqAt {A : Around} {s : Shared} {x : V} {v : Value} (rx : RelV x v) (fx : flatV x = true) : ∀ {xs : List V} {us : List Value}, Vals xs us → xs.all flatV = true → ∀ u ∈ us, SeqAt.EqAt A s u v (eqU x u)
  | _, _, .nil, _ => fun u hu => by cases hu
  | y :: xs, u :: us, .cons r t, f => fun u' hu => by
    rw [List.all_cons, Bool.and_eq_true] at f
    rcases List.mem_cons.mp hu with rfl | hu
    · rw [eqU_of r f.1]; exact eqAt_V r rx f.1 fx
    · exact mem_eqAt rx fx t f.2 u' hu
noncomputable def inV (x : V) (xs : List V) : Bool := xs.any fun y => eqV y x
noncomputable def rIn (K : PySem.W.Frag) (neg : Bool) : R2 := fun x y H Q => ∃ p xs, y = .ref p ∧ (SqL K H p xs ∨ SqT K H p xs) ∧ flatV x = true ∧ xs.all flatV = true ∧ Q (.bl (if neg then !inV x xs else inV x xs)) H
theorem op_notIn_seq : OpR X (compareOp .NotIn) (rIn X.K true) := by
  intro pins s σ H x y v u Q I rx ry h
  obtain ⟨p, xs, rfl, hq, fx, fs, q⟩ := h
  cases ry
  rcases hq with hq | hq
  · obtain ⟨its, r, pl, hz⟩ := I.list hq
    refine SeqAt.notIn_listAt (eqU x) pl.isList (fun w hw => mem_eqAt rx fx r fs w (by simpa using hw)) ⟨.bl _, H, I, rfl, ?_⟩
    rw [show its.toArray.any (eqU x) = its.any (eqU x) by simp, any_eqU r fs]
    exact q
  · obtain ⟨its, r, pl, hz⟩ := I.tuple hq
    refine SeqAt.notIn_tupleAt (eqU x) pl (fun w hw => mem_eqAt rx fx r fs w (by simpa using hw)) ⟨.bl _, H, I, rfl, ?_⟩
    rw [show its.toArray.any (eqU x) = its.any (eqU x) by simp, any_eqU r fs]
    exact q
theorem call_len_seq : CallR X (.builtin "len") (fun xs H Q => ∃ p ys, xs = [.ref p] ∧ (SqL X.K H p ys ∨ SqT X.K H p ys) ∧ Q (.int ys.length) H) := by
  intro pins s σ H xs us Q I r h
  obtain ⟨p, ys, rfl, hq, q⟩ := h
  obtain ⟨u, rfl, rx⟩ := vals1 r
  cases rx
  have hn := line63
  rcases hq with hq | hq
  · obtain ⟨its, r', pl, hz⟩ := I.list hq
    have hlen := r'.length
    exact Calls.call_len_list pl.isList (by simp only [List.size_toArray] <;> omega) ⟨.int ys.length, H, I.tok _, ⟨s.toks + 1, by rw [List.size_toArray, hlen]⟩, q⟩
  · obtain ⟨its, r', pl, hz⟩ := I.tuple hq
    have hlen := r'.length
    exact len_tuple pl (by simp only [List.size_toArray] <;> omega) ⟨.int ys.length, H, I.tok _, ⟨s.toks + 1, by rw [List.size_toArray, hlen]⟩, q⟩
theorem call_list_of : CallR X (.type "list") (fun xs H Q => ∃ p ys, xs = [.ref p] ∧ (SqL X.K H p ys ∨ SqT X.K H p ys) ∧ ∀ l, H l = none → Q (.ref l) (upd H l (.lst ys))) := by
  intro pins s σ H xs us Q I r h
  obtain ⟨p, ys, rfl, hq, q⟩ := h
  obtain ⟨u, rfl, rx⟩ := vals1 r
  cases rx
  have fin : ∀ (its : List Value), Vals ys its → ys.length ≤ sizeLine → ∀ (h' : Heap) (c' : Nat), (∀ b o', s.heap.get? b = some o' → h'.get? b = some o') →
      h'.get? s.heap.objs.size = some { cls := .type "list", dict := none, data := .seq its.toArray c', slots := #[] } → EP X pins σ Q (.ref s.heap.objs.size) { s with heap := h' } := fun its r' hz h' c' kp e =>
    ⟨.ref s.heap.objs.size, _, I.laid (t' := s.toks) kp (Nat.le_refl _) (show ObjOk X.prog X.w _ h' _ (.lst ys) from ⟨hz, its, c', r', e⟩), rfl, q _ (I.hok.fresh (Nat.le_refl _))⟩
  rcases hq with hq | hq
  · obtain ⟨its, r', pl, hz⟩ := I.list hq
    have hlen := r'.length
    obtain ⟨o, ho, hc, n, hd⟩ := pl.isList
    exact call_list_seq p (.inl rfl) ho hc hd (fun h' c' kp e => fin its r' hz h' c' kp e) (by simp only [List.size_toArray] <;> omega)
  · obtain ⟨its, r', pl, hz⟩ := I.tuple hq
    have hlen := r'.length
    obtain ⟨o, ho, hc, n, hd⟩ := pl
    exact call_list_seq p (.inr rfl) ho hc hd (fun h' c' kp e => fin its r' hz h' c' kp e) (by simp only [List.size_toArray] <;> omega)
noncomputable def tyV (K : PySem.W.Frag) (T : String) (x : V) (H : Hp) : Prop := match x with
  | .str _ => T = "str"
  | .int _ => T = "int"
  | .ref p => (T = "list" ∧ ∃ xs, SqL K H p xs) ∨ (T = "tuple" ∧ ∃ o, K.lookup p = some o ∧ o.cls = .type "tuple" ∧ o.dict = none) ∨
      (T = "dict" ∧ ((∃ kvs, H p = some (.dK kvs)) ∨ ∃ kvs, H p = some (.dT kvs))) ∨ (T = "set" ∧ ∃ S n, H p = some (.set S n))
  | _ => False
theorem tyV_is {pins : List (Addr × Obj)} {σ : St} {H : Hp} {s : Shared} {T : String} {x : V} {v : Value} (I : Inv X pins σ H s) (r : RelV x v) (ty : tyV X.K T x H) :
    s.TypeIs v T ∧ ∀ a, v = .ref a → ∃ ob, s.heap.get? a = some ob ∧ ob.dict = none := by
  cases x with
  | str z =>
    obtain ⟨t, rfl⟩ := r
    cases (show T = "str" from ty)
    exact ⟨typeIs_str s z t, fun _ e => nomatch e⟩
  | int i =>
    obtain ⟨t, rfl⟩ := r
    cases (show T = "int" from ty)
    exact ⟨typeIs_int s i t, fun _ e => nomatch e⟩
  | ref p =>
    cases r
    rcases ty with ⟨rfl, xs, hq⟩ | ⟨rfl, o, hk, hc, hd⟩ | ⟨rfl, hk⟩ | ⟨rfl, S, n, hk⟩
    · obtain ⟨its, _, pl, _⟩ := I.list hq
      refine ⟨pl.isList.typeIs, fun a e => ?_⟩
      cases e
      obtain ⟨o, n, e, c, hd, _⟩ := pl
      exact ⟨o, e, hd⟩
    · refine ⟨⟨o, I.kIn p o hk, hc⟩, fun a e => ?_⟩
      cases e
      exact ⟨o, I.kIn _ o hk, hd⟩
    · have z : ∃ o, s.heap.get? p = some o ∧ o.ExactDict := by
        rcases hk with ⟨kvs, hk⟩ | ⟨kvs, hk⟩
        · obtain ⟨_, _, _, _, o, _, _, e, ex, _⟩ := I.hok p _ hk
          exact ⟨o, e, ex⟩
        · obtain ⟨_, _, _, _, o, _, _, e, ex, _⟩ := I.hok p _ hk
          exact ⟨o, e, ex⟩
      obtain ⟨o, e, ex⟩ := z
      refine ⟨⟨o, e, ex.1⟩, fun a e2 => ?_⟩
      cases e2
      exact ⟨o, e, ex.2.1⟩
    · obtain ⟨o, _, _, _, e, ex, _⟩ := I.hok p _ hk
      refine ⟨⟨o, e, ex.1⟩, fun a e2 => ?_⟩
      cases e2
      exact ⟨o, e, ex.2.1⟩
  | _ => exact False.elim ty
noncomputable def tBM (K : PySem.W.Frag) (T : String) (r : V → List V → Hp → VK → Prop) (to : TE) (t : TA) : TE := fun σ H Q => to σ H fun x H1 => tyV K T x H1 ∧ t σ H1 fun xs H2 => r x xs H2 Q
variable {o e : Expr} {es : List Expr} {to : TE} {t : TA} {name : Str} {apos cpos : Pos} {T id : String} {r : V → List V → Hp → VK → Prop}
theorem pe_bm (pa : PlainAttrs T) (slot : Slot T name id) (hty : typeOf (.builtin id) = pure (.type "method_descriptor")) (hm : MtR X id r) (ho : PE X o to) (ha : PA X (e :: es) t)
    (hbase : attributeBase o name X.env (eval o X.env) = eval o X.env := by rfl)
    (hfew : ((backTo cpos (starEach (e :: es) X.env)).all (fun x => !x.1) && (backToKw cpos (keywordEach [] X.env)).all (fun x => x.1.isSome)
      && decide ((e :: es).length + ([] : List Keyword).length + (if ([] : List Keyword).isEmpty then 0 else 1) < 30)) = true := by rfl)
    (hline : (apos.endLine == cpos.line) = true := by rfl) (hs : starEach (e :: es) X.env = (false, eval e X.env) :: starEach es X.env := by rfl) (hplain : (backTo cpos (starEach es X.env)).any (·.1) = false := by rfl) :
    PE X (.Call (.Attribute o name apos) (e :: es) [] cpos) (tBM X.K T r to t) := by
  intro pins s σ H Q I h
  refine wpAny_Call_method_late hbase hfew hline rfl (thn (ho pins s σ H _ I h) fun v s1 w1_ => w1_.elim fun x z_ => z_.elim fun H1 z_ => z_.elim fun I1 z_ => z_.elim fun r1 z_ => z_.elim fun ty q1 => ?_)
  obtain ⟨h1, h2⟩ := tyV_is I1 r1 ty
  refine ⟨T, id, pa, slot, hty, h1, h2, ?_⟩
  have hA := ha cpos pins s1 σ H1 _ I1 q1
  rw [hs] at hA ⊢
  refine Calls.callWith_builtin (by show (false || (backTo cpos (starEach es X.env)).any (·.1)) = false; rw [hplain] <;> rfl) (Calls.evalArgs_plain ?_)
  exact thnA hA fun us s2 vs H2 I2 r2 q2 => hm pins s2 σ H2 x vs v us Q I2 r1 r2 q2
end
end L2
namespace L2
open PySem PySem.Spec PyProof.Rows
noncomputable def MtM (X : Cx) (id : String) (r : V → List V → Hp → VK → Prop) : Prop :=
  ∀ (pins : List (Addr × Obj)) (s : Shared) (σ : St) (H : Hp) (x : V) (xs : List V) (v : Value) (us : List Value) (Q : VK), Inv X pins σ H s → RelV x v → Vals xs us → r x xs H Q →
    wpAny (model X.prog X.w) X.A (call (.builtin id) (v :: us)) (EP X pins σ Q) X.xe s
theorem Vals.one : ∀ {x : V} {us : List Value}, Vals [x] us → ∃ u, us = [u] ∧ RelV x u
  | _, _, .cons r .nil => ⟨_, rfl, r⟩
section
variable {X : Cx} {pins : List (Addr × Obj)} {σ : St} {H : Hp} {s : Shared} {l b : Addr} {xs ys zs : List V}
theorem Inv.lset {its its' : List Value} {n : Nat} {f : Array Value → Array Value} {t' : Nat} (I : Inv X pins σ H s) (hH : H l = some (.lst xs))
    (e : s.heap.get? l = some { cls := .type "list", data := .seq its.toArray n }) (hf : f its.toArray = its'.toArray) (hv : Vals ys its') (hz : ys.length ≤ sizeLine) :
    Inv X pins σ (upd H l (.lst ys)) { s with heap := s.heap.update l (Obj.mapSeq f), toks := t' } := by
  have q := PySem.IsL.update e f
  rw [hf] at q
  refine I.write (x := l) (e := l) (by rw [hH]; exact trivial) (.inl rfl) (fun b' u hb hu => (Heap.get?_update_other s.heap (Obj.mapSeq f) (Ne.symm hb)).trans hu) ⟨_, q⟩ ?_
  exact ⟨hz, its', _, hv, q⟩
theorem Inv.lnew {its : List Value} {t' : Nat} (I : Inv X pins σ H s) (hv : Vals ys its) (hz : ys.length ≤ sizeLine) :
    Inv X pins σ (upd H s.heap.objs.size (.lst ys)) { s with heap := s.heap.push { cls := .type "list", data := .seq its.toArray }, toks := t' } :=
  I.laid (fun _ _ q => Heap.get?_push_of_some _ q) (Nat.le_refl _) ⟨hz, its, 0, hv, Heap.get?_push_size _ rfl⟩
theorem Inv.fresh (I : Inv X pins σ H s) : H s.heap.objs.size = none := I.hok.fresh (Nat.le_refl _)
theorem Inv.lstM (I : Inv X pins σ H s) (hH : H l = some (.lst xs)) : xs.length ≤ sizeLine ∧ ∃ (its : List Value) (n : Nat), Vals xs its ∧ xs.length = its.length ∧ s.heap.get? l = some { cls := .type "list", data := .seq its.toArray n } := by
  obtain ⟨z, its, n, r, e⟩ := I.hok l _ hH
  exact ⟨z, its, n, r, r.length, e⟩
theorem notLongL {n : Nat} (h : n ≤ sizeLine) : Builtin.List.listTooLong n = false := by
  unfold Builtin.List.listTooLong
  exact decide_eq_false (by omega)
end
section
variable {X : Cx}
noncomputable def rAppend : V → List V → Hp → VK → Prop := fun x vs H Q => ∃ l xs y, x = .ref l ∧ vs = [y] ∧ H l = some (.lst xs) ∧ xs.length < sizeLine ∧ Q .non (upd H l (.lst (xs ++ [y])))
theorem mt_append : MtM X "list.append" rAppend := by
  intro pins s σ H x vs v us Q I rx rv h
  obtain ⟨l, xs, y, rfl, rfl, hH, hz, q⟩ := h
  cases rx
  obtain ⟨u, rfl, ru⟩ := rv.one
  obtain ⟨z, its, n, r, hl, e⟩ := I.lstM hH
  refine call_meets F.slot_list_append ⟨_, e, rfl⟩ F.entry_list_append (F.args_list_append_2 _ _) (PySem.list_append l its.toArray n u (by rw [List.size_toArray]; omega)) ⟨e, ?_⟩
  refine ⟨.non, _, I.lset (its' := its ++ [u]) hH e (by simp) (r.append (.cons ru .nil)) ?_, rfl, q⟩
  rw [List.length_append, List.length_singleton]
  omega
end
section
variable {prog : Program} {w : World} {A : Around} {E : Value → Shared → Prop} {s : Shared}
theorem splice_eq (its its2 : List Value) (a c : Nat) : its.toArray.extract 0 a ++ its2.toArray ++ its.toArray.extract c its.toArray.size = (its.take a ++ its2 ++ its.drop c).toArray := by
  apply Array.toList_inj.mp
  first
    | (simp
       exact List.take_of_length_le (by simp))
    | simp [List.take_of_length_le]
    | simp
theorem bounds_run {a c n : Nat} (hac : a ≤ c) (hc : c ≤ n) : sliceBounds (some (a : Int)) (some (c : Int)) none n = ((a : Int), (c : Int), 1) := by
  simp only [sliceBounds, Option.getD_none]
  have h1 : ¬ ((a : Int) < 0) := by omega
  have h2 : ¬ ((c : Int) < 0) := by omega
  simp only [h1, h2, if_false, show (1 : Int) > 0 by decide, if_true]
  congr 1
  · omega
  · congr 1; omega
set_option maxRecDepth 100000 in
theorem setItem_slice {l b sl : Addr} {items new : Array Value} {n n2 : Nat} {vl vu : Value} {a c : Nat} {Q : Unit → Shared → Prop}
    (e : s.heap.get? l = some { cls := .type "list", data := .seq items n }) (e2 : s.heap.get? b = some { cls := .type "list", data := .seq new n2 }) (hne : l ≠ b)
    (hs : s.heap.IsSliceOf sl vl vu .none) (pl : IsPart vl (some (a : Int))) (pu : IsPart vu (some (c : Int))) (hac : a ≤ c) (hc : c ≤ items.size)
    (hsz : items.size + new.size ≤ sizeLine) (h : Q () { s with heap := s.heap.update l (Obj.mapSeq fun xs => xs.extract 0 a ++ new ++ xs.extract c xs.size) }) :
    wpAny (model prog w) A (setItem (.ref l) (.ref sl) (.ref b)) Q E s := by
  have hl : s.heap.IsList l items := PySem.IsL.isList e
  have hb : s.heap.IsList b new := PySem.IsL.isList e2
  obtain ⟨os, hos, hcs, hds⟩ := id hs
  have hTs : s.TypeIs (.ref sl) "slice" := ⟨os, hos, hcs⟩
  have hstep : ¬ ((rawPart none == rawInt 0) = true) := Bool.false_ne_true
  have hsame : Builtin.List.listSameRef (.ref l) (.ref b) = false := by
    unfold Builtin.List.listSameRef
    exact beq_eq_false_iff_ne.mpr hne
  have hmax : (max (a : Int) (c : Int)).toNat = c := by omega
  have hz' : ((fun xs : Array Value => xs.extract 0 a ++ new ++ xs.extract c xs.size) items).size ≤ sizeLine + 1 := by
    simp only [Array.size_append, Array.size_extract]
    omega
  unfold setItem
  try with_reducible refine wpAny_holding ?_
  first | refine wpAny_bind (wpAny_pure ?_) | skip
  refine wpAny_bind (wpAny_sequenceKey hl.typeIs (by decide) ?_)
  refine wpAny_bind (wpAny_callSpecial?_slot (name := Str.ofString "__setitem__") hl.typeIs slot_list_setitem
    (wpAny_call_entry slot_list_setitem hl.typeIs entry_list_setitem ?_ (args_list_setitem _ _ _)))
  show wpAny _ _ (Builtin.List.listSubscript? (.ref sl) >>= _) _ _ s
  refine wpAny_bind ?_
  unfold Builtin.List.listSubscript?
  refine wpAny_bind (wpAny_specialOf hTs slice_no_index ?_)
  simp only [Option.isNone_none, if_true]
  refine wpAny_pure ?_
  show wpAny _ _ (typeOf (.ref sl) >>= _) _ _ s
  refine wpAny_bind (wpAny_typeOf hTs ?_)
  first
    | rw [if_neg (by decide)]
    | refine PySem.W.KFB.if_not (by decide) ?_
  rw [listSliceParts_eq]
  refine wpAny_bind (wpAny_bind (wpAny_field hos hds (x := .none) rfl (wpAny_bind (wpAny_listPart .none ?_))))
  rw [if_neg hstep]
  refine wpAny_bind (wpAny_field hos hds (x := vl) rfl (wpAny_bind (wpAny_listPart pl ?_)))
  refine wpAny_bind (wpAny_field hos hds (x := vu) rfl (wpAny_bind (wpAny_listPart pu (wpAny_pure ?_))))
  first
    | simp only [hsame, Bool.false_eq_true, if_false]
    | refine PySem.W.KFB.if_not hsame ?_
    | (dsimp only
       rw [if_neg (by rw [hsame]; exact Bool.false_ne_true)])
  refine wpAny_bind (m := Builtin.List.listAllItems (.ref b) "must assign iterable to extended slice") ?_
  unfold Builtin.List.listAllItems
  refine wpAny_bind (wpAny_typeOf hb.typeIs ?_)
  first
    | refine PySem.W.KFB.if_so (by decide) ?_
    | rw [if_pos (by decide)]
    | simp only [beq_self_eq_true, Bool.true_or, if_true]
  unfold Builtin.List.listItems
  refine wpAny_bind (wpAny_seqItems e2 rfl (wpAny_pure ?_))
  refine wpAny_bind (wpAny_bind (wpAny_seqItems e rfl (wpAny_pure ?_)))
  refine wpAny_bind (wpAny_of_eq ((sliceIndices_raw (some (a : Int)) (some (c : Int)) none items.size (by simp)).trans (congrArg (pure : Int × Int × Int → Sem (Int × Int × Int)) (bounds_run hac hc))) ?_)
  show wpAny _ _ (if ((1 : Int) == 1) = true then _ else _) _ _ s
  rw [if_pos (by decide)]
  refine wpAny_bind (wpAny_rule ?_)
  first
    | simp only [notLongL hsz, Bool.false_eq_true, if_false]
    | refine PySem.W.KFB.if_not (notLongL hsz) ?_
  first | refine wpAny_bind (wpAny_pure ?_) | skip
  show wpAny _ _ (updateSeq l (fun xs => xs.extract 0 ((a : Int)).toNat ++ new ++ xs.extract (max (a : Int) (c : Int)).toNat xs.size) >>= _) _ _ s
  rw [hmax, Int.toNat_natCast]
  refine wpAny_bind (wpAny_updateSeq (hz := Nat.le_trans (Nat.le_add_right _ _) hsz) (_hz' := hz') e rfl ?_)
  refine wpAny_bind (wpAny_letGo ?_)
  first
    | exact wpAny_bind (wpAny_pure (wpAny_pure ⟨.none, rfl, wpAny_pure h⟩))
    | exact wpAny_pure ⟨.none, rfl, wpAny_pure h⟩
end
section
variable {X : Cx}
theorem set_slice {pins : List (Addr × Obj)} {s : Shared} {σ : St} {H : Hp} {l b sl : Addr} {xs ys : List V} {a c : Int} {vl vu : Value} {Q : Unit → Shared → Prop} (I : Inv X pins σ H s)
    (hH : H l = some (.lst xs)) (hB : H b = some (.lst ys)) (hne : l ≠ b) (hs : s.heap.IsSliceOf sl vl vu .none) (ra : RelV (.int a) vl) (rc : RelV (.int c) vu) (h0 : 0 ≤ a) (hac : a ≤ c) (hc : c ≤ xs.length)
    (hz : xs.length + ys.length ≤ sizeLine) (h : ∀ s', Inv X pins σ (upd H l (.lst (xs.take a.toNat ++ ys ++ xs.drop c.toNat))) s' → Q () s') :
    wpAny (model X.prog X.w) X.A (setItem (.ref l) (.ref sl) (.ref b)) Q X.xe s := by
  obtain ⟨ta, rfl⟩ := ra
  obtain ⟨tc, rfl⟩ := rc
  obtain ⟨z, its, n, r, hl, e⟩ := I.lstM hH
  obtain ⟨z2, its2, n2, r2, hl2, e2⟩ := I.lstM hB
  obtain ⟨a', rfl⟩ := Int.eq_ofNat_of_zero_le h0
  obtain ⟨c', rfl⟩ := Int.eq_ofNat_of_zero_le (Int.le_trans h0 hac)
  simp only [Int.toNat_natCast] at h
  refine setItem_slice (a := a') (c := c') e e2 hne hs (.int _ _) (.int _ _) (by omega) (by rw [List.size_toArray]; omega) (by rw [List.size_toArray, List.size_toArray]; omega) (h _ ?_)
  refine I.lset (its' := its.take a' ++ its2 ++ its.drop c') (t' := s.toks) hH e ?_ (Vals.append (Vals.append (r.take _) r2) (r.drop _)) ?_
  · exact splice_eq its its2 a' c'
  · rw [List.length_append, List.length_append, List.length_take, List.length_drop]
    omega
end
end L2
namespace Att
open PySem PySem.W PySem.Calls PyProof.Rows
theorem ints_of_wellAll {P : Params} {h : Heap} : ∀ (ns : List Int) (vs : List Value), WellAll P h vs (ns.map WData.int) → IntsAre vs ns := by
  intro ns
  induction ns with
  | nil =>
    intro vs w
    rw [List.map_nil] at w
    cases w
    exact .nil
  | cons n ns ih =>
    intro vs w
    rw [List.map_cons] at w
    cases w with
    | cons a b =>
      cases a
      exact .cons _ _ (ih _ b)
theorem script_of {l : OpenLaw} {n : Nat} (hn : l.most = some n) {P : Params} {h : Heap} {args : List WData} {vals : List Value}
    (hpre : l.row.toRowW.claim.pre args = true) (hwl : WellAll P h vals args) :
    ∃ a vs ns, vals = [Value.ref a] ∧ args = [WData.list (ns.map WData.int)] ∧ h.get? a = some { cls := .type "list", data := .seq vs.toArray } ∧ IntsAre vs ns ∧ ns.length ≤ n := by
  have hsh : WShape.hasAll [] args [.list .int] = true := (pre_splitW hpre).1
  have hc : l.pre.holds [] { args := args } = true := (pre_splitW hpre).2
  obtain ⟨d, r, rfl, h1, h2⟩ := hasAllW_cons hsh
  obtain rfl := hasAllW_nil h2
  obtain ⟨xs, rfl, h3⟩ := hasW_list h1
  obtain ⟨ns, rfl⟩ := items_int h3
  have hlen : ns.length ≤ n := by
    unfold OpenLaw.pre at hc
    have h4 : (WTm.not (.lt (.lit (.int (n : Int))) (.len (.arg 0)))).holds [] { args := [.list (ns.map .int)] } = true := by
      have h4 := (holds_andW hc).1
      rw [hn] at h4
      exact h4
    have h5 := condW_of h4 (w_not (w_lt w_lit (w_len_list (w_arg rfl))))
    rw [List.length_map] at h5
    refine Nat.le_of_not_lt fun q => ?_
    have q' : (n : Int) < ((ns.length : Nat) : Int) := by omega
    first
      | (rw [decide_eq_true q'] at h5; exact absurd h5 (by decide))
      | (simp at h5; omega)
  cases hwl with
  | cons w1 w2 =>
    cases w2
    cases w1 with
    | list ho hall => exact ⟨_, _, ns, rfl, rfl, ho, ints_of_wellAll ns _ hall, hlen⟩
theorem post_true (l : OpenLaw) (args : List WData) : l.row.toRowW.claim.post args (.bool true) args = true :=
  postW_of (r := l.row.toRowW) (X := (true == true))
    (show WShape.has [] (.bool true) .bool = true by first | rfl | decide | simp [WShape.has, WShape.arms, WShape.armsAll])
    (show (WTm.eq .res (.lit (.bool true))).value [] { args := args, res := some (.bool true), after := args } = some (.bool (true == true)) from w_eq_bool (w_res rfl) w_lit) rfl
theorem attach_call {l : OpenLaw} {n : Nat} {q : Program} {loose : List Str} {XP : (Str → Option Value) → Heap → Prop} {YP : World → Heap → Prop} {d : DefRec}
    (hn : l.most = some n) (hdf : d.params.defaults = [])
    (call : ∀ (w : World) (s₀ s₁ : Shared) (mg mb : Str → Option Value) (fa : Addr) (o : Obj) (pm cd doc : Value) (a : Addr) (vs : List Value) (ns : List Int),
      Ground q loose [] XP w s₀ mg mb s₁.heap → YP w s₁.heap →
      s₁.heap.get? fa = some o → o.data = .func (docDef d.name d.params d.body d.scope pm cd doc) → s₁.heap.CodeRec cd d.name → mg d.name = some (.ref fa) →
      s₁.heap.get? a = some { cls := .type "list", data := .seq vs.toArray } → IntsAre vs ns → ns.length ≤ n → s₁.gens = #[] →
      codeAny (model l.prog w) callerA (.call (.ref fa) ⟨[.ref a], []⟩) (fun r s' => r = .ok (.ret (.bool true)) ∧ OldK s₁.heap s'.heap ∧ s'.os = s₁.os ∧ AllBare s'.gens) s₁) :
    WalkO q loose XP YP l.row.toRowW d [] (fun f vs => PySem.call f vs) := by
  intro w s₀ s₁ mg mb G Y fa o pm cd doc dV kV ho hd hcd hD hmg hg args vals as hpre hlay hrd hwl hlo
  obtain rfl : dV = .none := Dflts.none hD hdf
  obtain rfl : kV = .none := Dflts.noKw hD
  obtain ⟨a, vs, ns, rfl, rfl, hobj, hints, hlen⟩ := script_of hn hpre hwl
  refine enter_call (codeAny_mono (call w s₀ s₁ mg mb fa o pm cd doc a vs ns G Y ho (fd_plain hd) hcd hmg hobj hints hlen hg) fun r s' hq => ?_)
  obtain ⟨rfl, h2, h3, h4⟩ := hq
  exact ⟨.inl ⟨.bool true, .bool true, [], rfl, fun _ => rfl, .bool true, post_true l _, fun _ => ⟨List.Pairwise.nil, fun _ hm => (nomatch hm)⟩⟩, h2, h3, h4⟩
end Att
namespace L2
open PySem PySem.Spec PyProof.Rows
theorem vals_ints : ∀ {vs : List Value} {ns : List Int}, IntsAre vs ns → Vals (ns.map V.int) vs
  | _, _, .nil => .nil
  | _, _, .cons n t h => .cons ⟨t, rfl⟩ (vals_ints h)
end L2
namespace L2
open PySem PySem.Spec PyProof.Rows
end L2
namespace L2
open PySem PySem.Spec PyProof.Rows
noncomputable def defArgs (s : Stmt) : Arguments := match s with
  | .FunctionDef _ a _ _ _ _ _ _ _ _ => a
  | _ => { posonlyargs := [], args := [], vararg := none, kwonlyargs := [], kw_defaults := [], kwarg := none, defaults := [] }
noncomputable def defBody (s : Stmt) : List Stmt := match s with
  | .FunctionDef _ _ b _ _ _ _ _ _ _ => b
  | _ => []
noncomputable def defScope (s : Stmt) : Scope := match s with
  | .FunctionDef _ _ _ _ _ _ sc _ _ _ => sc
  | _ => { kind := .function, names := [], isGenerator := false, isCoroutine := false }
noncomputable abbrev CX0 : CXT := fun _ _ _ _ _ _ => False
noncomputable abbrev E0 : XK := fun _ _ _ => False
theorem pass0 {X : Cx} : Passes CX0 X E0 := fun _ _ _ _ _ _ _ h => h.elim
structure Fun (K : PySem.W.Frag) (x qual : Str) (st : Stmt) (f : Addr) (fd : FuncData) : Prop where
  ex : ∃ (oc : Value) (od : Option Addr) (kV doc pm : Value) (an : Option Addr) (cdv ct : Value) (osl : Array (Option Value)),
    fd = PySem.W.fnOf x qual (defArgs st) (defBody st) (defScope st) .none kV doc pm an cdv ct ∧ K.lookup f = some ⟨oc, od, .func fd, osl⟩ ∧ PySem.W.codeIn K cdv qual = true
  kp : PySem.W.keepIn K (.ref f) = true
section
variable {P : Program} {w : World} {K : PySem.W.Frag} {mg : Str → Option Value} {base : Heap}
theorem Fun.ok {x qual : Str} {st : Stmt} {f : Addr} {fd : FuncData} {N ps : List Str} {k : Nat} {sp : Sp} (F : Fun K x qual st f fd) (S : FnScope N ps (defScope st)) (len : ∀ vs H Q E, sp vs H Q E → vs.length = ps.length)
    (hbody : ∀ (cdv : Value) (A : Around) (outer : List Env) (s : Shared) (H : Hp) (vs : List V) (Q : VK) (E : XK), Room k (A.deeper (envOfC qual (defScope st) s.heap.objs.size f cdv)) → sp vs H Q E →
      ∃ t, PSs (cxOf CX0 P w K mg base N qual (defScope st) f cdv A outer s H E).nox (defBody st) t ∧ t { nx := fun _ H' => Q .non H', rt := Q } (start N vs) H) : FnOk P w K mg base CX0 (k + 1) f fd ps sp := by
  obtain ⟨oc, od, kV, doc, pm, an, cdv, ct, osl, rfl, lk, hcd⟩ := F.ex
  refine fn_of lk hcd S len fun A outer s H vs Q E hr hsp => ?_
  obtain ⟨t, h, q⟩ := hbody cdv A outer s H vs Q E hr hsp
  exact ⟨t, h.nox, q⟩
theorem Fun.binds {x qual : Str} {st : Stmt} {f : Addr} {fd : FuncData} {ps : List Str} (F : Fun K x qual st f fd)
    (h : ∀ (kV doc pm : Value) (an : Option Addr) (cdv ct : Value) (us : List Value), us.length = ps.length → bindArgs (PySem.W.fnOf x qual (defArgs st) (defBody st) (defScope st) .none kV doc pm an cdv ct) ⟨us, []⟩ = pure (ps.zip us)) : Binds K fd ps [] := by
  obtain ⟨oc, od, kV, doc, pm, an, cdv, ct, osl, rfl, lk, hcd⟩ := F.ex
  exact .all (h kV doc pm an cdv ct)
theorem fun_mk {x qual : Str} {st : Stmt} {f : Addr} {oc : Value} {od an : Option Addr} {osl : Array (Option Value)} {kV doc pm cdv ct : Value} (l : K.lookup f = some ⟨oc, od, .func (PySem.W.fnOf x qual (defArgs st) (defBody st) (defScope st) .none kV doc pm an cdv ct), osl⟩)
    (c : PySem.W.codeIn K cdv qual = true) (k : PySem.W.keepIn K (.ref f) = true) : Fun K x qual st f (PySem.W.fnOf x qual (defArgs st) (defBody st) (defScope st) .none kV doc pm an cdv ct) := ⟨⟨oc, od, kV, doc, pm, an, cdv, ct, osl, rfl, l, c⟩, k⟩
end
theorem small1000 {n : Nat} (h : n ≤ 1000) : n < sizeLine := Nat.lt_of_le_of_lt h (by decide)
end L2
namespace L2
open PySem PySem.Spec PyProof.Rows
section
variable {κ : Type} [DecidableEq κ]
noncomputable def valV (kvs : List (κ × V)) (k : κ) : Option V := (kvs.find? fun kv => decide (kv.1 = k)).map (·.2)
noncomputable def putK (kvs : List (κ × V)) (k : κ) (v : V) : List (κ × V) :=
  if (kvs.any fun kv => decide (kv.1 = k)) = true then kvs.map (fun kv => if kv.1 = k then (kv.1, v) else kv) else kvs ++ [(k, v)]
theorem valV_pos {p : κ × V} {r : List (κ × V)} {k : κ} (e : p.1 = k) : valV (p :: r) k = some p.2 := by simp [valV, List.find?_cons, e]
theorem valV_neg {p : κ × V} {r : List (κ × V)} {k : κ} (e : ¬ p.1 = k) : valV (p :: r) k = valV r k := by simp [valV, List.find?_cons, e]
theorem length_putK (kvs : List (κ × V)) (k : κ) (v : V) : (putK kvs k v).length ≤ kvs.length + 1 := by
  unfold putK
  split
  · rw [List.length_map]; omega
  · rw [List.length_append, List.length_cons, List.length_nil]; omega
theorem RelO.isSome_eq {o : Option V} {u : Option Value} (r : RelO o u) : o.isSome = u.isSome := by
  cases o with
  | none => cases u with
    | none => rfl
    | some _ => exact (show False from r).elim
  | some _ => cases u with
    | none => exact (show False from r).elim
    | some _ => rfl
theorem KV.val {kvs : List (κ × V)} {vs : List (κ × Value)} (r : KV kvs vs) (k : κ) : RelO (valV kvs k) (valueAt vs k) := by
  unfold KV at r
  induction r with
  | nil => exact True.intro
  | @cons p q ps qs h t ih =>
    obtain ⟨h1, h2⟩ := h
    by_cases e : p.1 = k
    · have e' : q.1 = k := h1.symm.trans e
      have b : valueAt (q :: qs) k = some q.2 := by simp [valueAt, List.find?_cons, e']
      rw [valV_pos e, b]; exact h2
    · have e' : ¬ q.1 = k := fun z => e (h1.trans z)
      have b : valueAt (q :: qs) k = valueAt qs k := by simp [valueAt, List.find?_cons, e']
      rw [valV_neg e, b]; exact ih
theorem KV.any {kvs : List (κ × V)} {vs : List (κ × Value)} (r : KV kvs vs) (k : κ) : (kvs.any fun kv => decide (kv.1 = k)) = vs.any fun kv => decide (kv.1 = k) := by
  unfold KV at r
  induction r with
  | nil => rfl
  | cons h t ih => rw [List.any_cons, List.any_cons, ih, h.1]
theorem KV.repl {kvs : List (κ × V)} {vs : List (κ × Value)} (r : KV kvs vs) (k : κ) {y : V} {u : Value} (ry : RelV y u) :
    KV (kvs.map fun kv => if kv.1 = k then (kv.1, y) else kv) (vs.map fun kv => if kv.1 = k then (kv.1, u) else kv) := by
  unfold KV at r ⊢
  induction r with
  | nil => exact .nil
  | @cons p q ps qs h t ih =>
    rw [List.map_cons, List.map_cons]
    refine .cons ?_ ih
    obtain ⟨h1, h2⟩ := h
    by_cases e : p.1 = k
    · rw [if_pos e, if_pos (h1.symm.trans e)]; exact ⟨h1, ry⟩
    · rw [if_neg e, if_neg (fun z => e (h1.trans z))]; exact ⟨h1, h2⟩
theorem KV.put {kvs : List (κ × V)} {vs : List (κ × Value)} (r : KV kvs vs) (k : κ) {y : V} {u : Value} (ry : RelV y u) : KV (putK kvs k y) (stored vs k u) := by
  unfold putK stored
  rw [r.any k]
  by_cases e : (vs.any fun kv => decide (kv.1 = k)) = true
  · rw [if_pos e, if_pos e]; exact r.repl k ry
  · rw [if_neg e, if_neg e]; exact Paired.snoc r ⟨rfl, ry⟩
theorem KV.length {kvs : List (κ × V)} {vs : List (κ × Value)} (r : KV kvs vs) : kvs.length = vs.length := Paired.length r
end
theorem kV_is {P : Program} {w : World} {k : Key} {u : Value} (r : RelV (kV k) u) : (mixKind P w).is k u = true := by
  cases k with
  | inl i => obtain ⟨t, e⟩ := (show ∃ t, u = Value.int i t from r); subst e; exact mixKind_int P w i t
  | inr x => obtain ⟨t, e⟩ := (show ∃ t, u = Value.str x t from r); subst e; exact mixKind_str P w x t
theorem items_are {P : Program} {w : World} : ∀ {ks : List Key} {us : List Value}, Vals (ks.map kV) us → ItemsAre (mixKind P w) ks us
  | [], _, r => by rw [List.map_nil] at r; cases r; exact .nil
  | k :: ks, _, r => by
    rw [List.map_cons] at r
    cases r with
    | cons h t => exact .cons (kV_is h) (items_are t)
noncomputable abbrev KT (H : Hp) : List (List Key × V) → List (List Key × Addr × Value) → Prop := Paired fun p q => p.1 = q.1 ∧ H q.2.1 = some (.tup (p.1.map kV)) ∧ RelV p.2 q.2.2
theorem KT.val {H : Hp} {kvs : List (List Key × V)} {xs : List (List Key × Addr × Value)} (r : KT H kvs xs) (k : List Key) : RelO (valV kvs k) ((atKey xs k).map (·.2)) := by
  induction r with
  | nil => exact True.intro
  | @cons p q ps qs h t ih =>
    obtain ⟨h1, _, h2⟩ := h
    by_cases e : p.1 = k
    · have e' : q.1 = k := h1.symm.trans e
      have b : atKey (q :: qs) k = some q.2 := by simp [atKey, List.find?_cons, e']
      rw [valV_pos e, b]; exact h2
    · have e' : ¬ q.1 = k := fun z => e (h1.trans z)
      have b : atKey (q :: qs) k = atKey qs k := by simp [atKey, List.find?_cons, e']
      rw [valV_neg e, b]; exact ih
section
variable {P : Program} {w : World} {H : Hp} {h : Heap} {a : Addr}
theorem rd_of {u : HO} (ok : HOk P w H h) (e : Rd H a u) : ObjOk P w H h a u := e.ok ok
theorem dk_rd {kvs : List (Key × V)} (ok : HOk P w H h) (e : Rd H a (.dK kvs)) : kvs.length ≤ sizeLine ∧ (a == sysModules) = false ∧ ∃ vs, KV kvs vs ∧ h.DictOf (mixKind P w) a vs :=
  show ObjOk P w H h a (.dK kvs) from rd_of ok e
theorem dk_of {kvs : List (Key × V)} (ok : HOk P w H h) (e : H a = some (.dK kvs)) : kvs.length ≤ sizeLine ∧ (a == sysModules) = false ∧ ∃ vs, KV kvs vs ∧ h.DictOf (mixKind P w) a vs := dk_rd ok (.inl e)
theorem key_of {ks : List Key} (ok : HOk P w H h) (e : H a = some (.tup (ks.map kV))) : (tupleKind (mixKind P w)).is h ks a := by
  obtain ⟨_, its, r, o, h1, h2, n, h3⟩ := (show ObjOk P w H h a (.tup (ks.map kV)) from ok a _ e)
  exact ⟨o, its.toArray, n, h1, h2, h3, by simpa using items_are r⟩
theorem dt_rd {kvs : List (List Key × V)} (ok : HOk P w H h) (e : Rd H a (.dT kvs)) : kvs.length ≤ sizeLine ∧ (a == sysModules) = false ∧
    ∃ xs, KT H kvs xs ∧ h.DictOfH (tupleKind (mixKind P w)) a xs := by
  obtain ⟨z, y, xs, r, o, es, ep, h1, h2, h3, h4, h5⟩ := (show ObjOk P w H h a (.dT kvs) from rd_of ok e)
  refine ⟨z, y, xs, r, o, es, ep, h1, h2, h3, h4, fun x hx => ?_, h5⟩
  have all : ∀ {l : List (List Key × V)} {m : List (List Key × Addr × Value)}, KT H l m → ∀ x ∈ m, (tupleKind (mixKind P w)).is h x.1 x.2.1 := by
    intro l m q
    induction q with
    | nil => intro x hx; exact nomatch hx
    | @cons p q ps qs hq t ih =>
      intro x hx
      rcases List.mem_cons.mp hx with e | hx
      · subst e
        exact key_of ok (by rw [← hq.1]; exact hq.2.1)
      · exact ih x hx
  exact all r x hx
end
noncomputable def DGet (H : Hp) (a : Addr) (y : V) (r : Option V) : Prop :=
  (∃ kvs k, Rd H a (.dK kvs) ∧ y = kV k ∧ r = valV kvs k) ∨ ∃ kvs k b, Rd H a (.dT kvs) ∧ y = .ref b ∧ H b = some (.tup (k.map kV)) ∧ r = valV kvs k
theorem DGet.k {H : Hp} {a : Addr} {kvs : List (Key × V)} {k : Key} (e : H a = some (.dK kvs)) : DGet H a (kV k) (valV kvs k) := .inl ⟨kvs, k, .inl e, rfl, rfl⟩
section
variable {X : Cx} {pins : List (Addr × Obj)} {σ : St} {H : Hp} {s : Shared} {a : Addr} {y v : V} {u r : Value} {o : Option V} {A : Around} {E : Value → Shared → Prop}
theorem Inv.big (I : Inv X pins σ H s) : sysModules < s.heap.objs.size := by
  have h : mainGlobals < s.heap.objs.size := (I.mod.glob.keeps I.bk).lt
  exact Nat.lt_trans (by decide) h
theorem d_getItem {Q : Value → Shared → Prop} (hu : A.units + 1 < cLine) (I : Inv X pins σ H s) (g : DGet H a y (some v)) (ry : RelV y u) (h : ∀ w' s', Inv X pins σ H s' → RelV v w' → Q w' s') :
    wpAny (model X.prog X.w) A (getItem (.ref a) u) Q E s := by
  rcases g with ⟨kvs, k, e, ey, l⟩ | ⟨kvs, k, b, e, ey, eb, l⟩
  · subst ey
    obtain ⟨z, hd, vs, rel, dd⟩ := dk_rd I.hok e
    obtain ⟨w', hw, rw'⟩ := RelO.some_of (v := v) (o := valueAt vs k) (by rw [l]; exact rel.val k)
    exact wpAny_getItem_of (kV_is ry) dd.mapOf hw (h w' _ (I.tok _) rw')
  · subst ey
    cases (show u = Value.ref b from ry)
    obtain ⟨z, hd, xs, rel, dd⟩ := dt_rd I.hok e
    obtain ⟨w', hw, rw'⟩ := RelO.some_of (v := v) (o := (atKey xs k).map (·.2)) (by rw [l]; exact rel.val k)
    obtain ⟨p, hp, hp2⟩ := Option.map_eq_some_iff.mp hw
    refine wpAny_getItem_heap (tupleKind_room_in1 hu) (key_of I.hok eb) dd hp ?_
    rw [hp2]
    exact h w' _ (I.tok _) rw'
theorem d_in {Q : Value → Shared → Prop} (hu : A.units + 1 < cLine) (I : Inv X pins σ H s) (g : DGet H a y o) (ry : RelV y u) (h : ∀ s', Inv X pins σ H s' → Q (.bool o.isSome) s') :
    wpAny (model X.prog X.w) A (compareOp .In u (.ref a)) Q E s := by
  rcases g with ⟨kvs, k, e, ey, l⟩ | ⟨kvs, k, b, e, ey, eb, l⟩
  · subst ey
    obtain ⟨z, hd, vs, rel, dd⟩ := dk_rd I.hok e
    refine wpAny_in_of (kV_is ry) hd dd.mapOf ?_
    rw [← (rel.val k).isSome_eq, ← l]
    exact h _ (I.tok _)
  · subst ey
    cases (show u = Value.ref b from ry)
    obtain ⟨z, hd, xs, rel, dd⟩ := dt_rd I.hok e
    refine wpAny_in_heap (tupleKind_room_in1 hu) (key_of I.hok eb) hd dd ?_
    have q := (rel.val k).isSome_eq
    rw [Option.isSome_map] at q
    rw [← q, ← l]
    exact h _ (I.tok _)
theorem d_notIn {Q : Value → Shared → Prop} (hu : A.units + 1 < cLine) (I : Inv X pins σ H s) (g : DGet H a y o) (ry : RelV y u) (h : ∀ s', Inv X pins σ H s' → Q (.bool (!o.isSome)) s') :
    wpAny (model X.prog X.w) A (compareOp .NotIn u (.ref a)) Q E s := by
  rcases g with ⟨kvs, k, e, ey, l⟩ | ⟨kvs, k, b, e, ey, eb, l⟩
  · subst ey
    obtain ⟨z, hd, vs, rel, dd⟩ := dk_rd I.hok e
    refine wpAny_notIn_of (kV_is ry) hd dd.mapOf ?_
    rw [← (rel.val k).isSome_eq, ← l]
    exact h _ (I.tok _)
  · subst ey
    cases (show u = Value.ref b from ry)
    obtain ⟨z, hd, xs, rel, dd⟩ := dt_rd I.hok e
    refine wpAny_notIn_heap (tupleKind_room_in1 hu) (key_of I.hok eb) hd dd ?_
    have q := (rel.val k).isSome_eq
    rw [Option.isSome_map] at q
    rw [← q, ← l]
    exact h _ (I.tok _)
theorem d_write {h' : Heap} {t' : Nat} {ob : HO} (I : Inv X pins σ H s) (mu : Mut (H a)) (hs : Heap.SameBut a s.heap h') (he : ∃ q, h'.get? a = some q) (new : ObjOk X.prog X.w (upd H a ob) h' a ob) :
    Inv X pins σ (upd H a ob) { s with heap := h', toks := t' } :=
  I.write (x := a) (e := a) mu (.inl rfl) (fun b q hb z => (hs.2 b hb).trans z) he new
theorem dk_new {P : Program} {w : World} {H' : Hp} {h' : Heap} {kvs : List (Key × V)} {vs : List (Key × Value)} (z : kvs.length ≤ sizeLine) (hd : (a == sysModules) = false) (rel : KV kvs vs) (dd : h'.DictOf (mixKind P w) a vs) :
    ObjOk P w H' h' a (.dK kvs) := ⟨z, hd, vs, rel, dd⟩
end
noncomputable def NoSl (i : Expr) : Prop := ∀ ov iv, subscripted i false ov iv = operate [ov, iv] (getItem ov iv)
theorem subD_of {prog : Program} {w : World} {A : Around} {E : Value → Shared → Prop} {s : Shared} {env : Env} {value slice : Expr} {pos : Pos} {T id : String} {Q : Value → Shared → Prop}
    (hl : typeLookup (.type T) "__getitem__" = pure (some (.builtin id))) (hs : NoSl slice)
    (h : wpAny (model prog w) A (eval value env) (fun o s₁ => wpAny (model prog w) A (eval slice env) (fun i s₂ => s₂.TypeIs o T ∧ wpAny (model prog w) A (getItem o i) Q E s₂) E s₁) E s) :
    wpAny (model prog w) A (eval (.Subscript value slice pos) env) Q E s := by
  refine Subscript_ (wpAny_mono h (fun o s₁ h₁ => wpAny_mono h₁ (fun i s₂ h₂ => ?_) fun _ _ x => x) fun _ _ x => x)
  obtain ⟨hT, h₂⟩ := h₂
  unfold subscriptTail
  refine wpAny_bind ?_
  rw [getitemInPython_of_ne hT.not_modules]
  refine wpAny_bind (wpAny_specialOf hT hl ?_)
  have fin : wpAny (model prog w) A (subscripted slice false o i) (fun r s₃ => wpAny (model prog w) A (letTemporaryGo value o r >>= fun _ => pure r) Q E s₃) E s₂ := by
    rw [hs o i]
    exact wpAny_operating (wpAny_mono h₂ (fun r s₃ h₃ => wpAny_bind (wpAny_letTemporaryGo (wpAny_pure h₃))) fun _ _ x => x)
  first
    | exact wpAny_pure (wpAny_bind fin)
    | exact wpAny_bind (wpAny_pure (wpAny_bind fin))
    | exact wpAny_bind fin
theorem dict_typeIs {X : Cx} {pins : List (Addr × Obj)} {σ : St} {H : Hp} {s : Shared} {a : Addr} {y : V} {o : Option V} (I : Inv X pins σ H s) (g : DGet H a y o) : s.TypeIs (.ref a) "dict" := by
  rcases g with ⟨kvs, k, e, _, _⟩ | ⟨kvs, k, b, e, _, _, _⟩
  · obtain ⟨_, _, vs, _, dd⟩ := dk_rd I.hok e
    exact dd.typeIs
  · obtain ⟨_, _, xs, _, dd⟩ := dt_rd I.hok e
    exact dd.typeIs
noncomputable def tDGet (td ty : TE) : TE := fun σ H Q => td σ H fun x H1 => ty σ H1 fun y H2 => ∃ a v, x = .ref a ∧ DGet H2 a y (some v) ∧ Q v H2
noncomputable def tDIn (ty td : TE) : TE := fun σ H Q => ty σ H fun y H1 => td σ H1 fun x H2 => ∃ a o, x = .ref a ∧ DGet H2 a y o ∧ Q (.bl o.isSome) H2
noncomputable def tDNotIn (ty td : TE) : TE := fun σ H Q => ty σ H fun y H1 => td σ H1 fun x H2 => ∃ a o, x = .ref a ∧ DGet H2 a y o ∧ Q (.bl (!o.isSome)) H2
section
variable {X : Cx} {o i e value : Expr} {pos pos' tpos : Pos} {td ty tv : TE}
theorem pe_dget (hu : X.A.units + 1 < cLine) (ho : PE X o td) (hi : PE X i ty) (hs : NoSl i) : PE X (.Subscript o i pos) (tDGet td ty) := by
  intro pins s σ H Q I h
  refine subD_of PySem.F.slot_dict_getitem.lookup hs (thn (ho pins s σ H _ I h) fun u s1 w1_ => w1_.elim fun x z_ => z_.elim fun H1 z_ => z_.elim fun I1 z_ => z_.elim fun rx q1 => thn (hi pins s1 σ H1 _ I1 q1) fun iv s2 w1_ => w1_.elim fun y z_ => z_.elim fun H2 z_ => z_.elim fun I2 z_ => z_.elim fun ry z_ => z_.elim fun a z_ => z_.elim fun v z_ => z_.elim fun ex z_ => z_.elim fun g q2 => ?_)
  subst ex
  obtain rfl : u = Value.ref a := rx
  exact ⟨dict_typeIs I2 g, d_getItem hu I2 g ry fun w' s3 I3 rw' => ⟨v, H2, I3, rw', q2⟩⟩
theorem pc_din (hu : X.A.units + 1 < cLine) (hi : PE X i ty) (ho : PE X o td) : PC X .In i o (tDIn ty td) := by
  intro pins s σ H Q I h
  refine thn (hi pins s σ H _ I h) fun iv s1 w1_ => w1_.elim fun y z_ => z_.elim fun H1 z_ => z_.elim fun I1 z_ => z_.elim fun ry q1 => thn (ho pins s1 σ H1 _ I1 q1) fun u s2 w1_ => w1_.elim fun x z_ => z_.elim fun H2 z_ => z_.elim fun I2 z_ => z_.elim fun rx z_ => z_.elim fun a z_ => z_.elim fun ov z_ => z_.elim fun ex z_ => z_.elim fun g q2 => ?_
  subst ex
  obtain rfl : u = Value.ref a := rx
  exact d_in hu I2 g ry fun s3 I3 => ⟨.bl ov.isSome, H2, I3, rfl, q2⟩
theorem pc_dnotin (hu : X.A.units + 1 < cLine) (hi : PE X i ty) (ho : PE X o td) : PC X .NotIn i o (tDNotIn ty td) := by
  intro pins s σ H Q I h
  refine thn (hi pins s σ H _ I h) fun iv s1 w1_ => w1_.elim fun y z_ => z_.elim fun H1 z_ => z_.elim fun I1 z_ => z_.elim fun ry q1 => thn (ho pins s1 σ H1 _ I1 q1) fun u s2 w1_ => w1_.elim fun x z_ => z_.elim fun H2 z_ => z_.elim fun I2 z_ => z_.elim fun rx z_ => z_.elim fun a z_ => z_.elim fun ov z_ => z_.elim fun ex z_ => z_.elim fun g q2 => ?_
  subst ex
  obtain rfl : u = Value.ref a := rx
  exact d_notIn hu I2 g ry fun s3 I3 => ⟨.bl (!ov.isSome), H2, I3, rfl, q2⟩
end
theorem dk_empty {P : Program} {w : World} {H : Hp} (h : Heap) (hb : sysModules < h.objs.size) : ObjOk P w H (h.push { cls := .type "dict", data := .dict #[] }) h.objs.size (.dK []) :=
  ⟨Nat.zero_le _, beq_eq_false_iff_ne.mpr (Ne.symm (Nat.ne_of_lt hb)), [], .nil, Heap.DictOf.new h⟩
end L2
namespace L2
open PySem PySem.Spec PyProof.Rows
section
variable {prog : Program} {w : World} {A : Around} {R : Result → Shared → Prop} {s : Shared}
noncomputable abbrev noE : Value → Shared → Prop := fun _ _ => False
theorem compLoop_any {elt target iter : Expr} {ifs : List Expr} {scope : Scope} {pos : Pos} {it acc : Value} {env : Env} (I : Nat → Shared → Prop)
    (turn : ∀ n s, I n s → wpAny (model prog w) A (pyNext it) (fun r s₁ => match r with
      | none => R (.ok .next) s₁
      | some v => wpAny (model prog w) A (letOwnedTupleGo target it v) (fun _ s₁' => wpAny (model prog w) A (assign target env v) (fun _ s₂ =>
          wpAny (model prog w) A (forIn ifs true fun c r => if r = true then do let ok ← isTrue c env (eval c env); pure (ForInStep.yield ok) else pure (ForInStep.yield r)) (fun ok s₃ =>
            if ok = true then wpAny (model prog w) A (eval elt env) (fun x s₄ =>
              wpAny (model prog w) A (call (.builtin "list.append") [acc, x]) (fun _ s₅ => ∃ m, m < n ∧ I m s₅) noE s₄) noE s₃
            else ∃ m, m < n ∧ I m s₃) noE s₂) noE s₁') noE s₁) noE s)
    (n : Nat) (h : I n s) :
    codeAny (model prog w) A (.compLoop (.ListComp elt [⟨target, iter, ifs, 0⟩] scope pos) 0 it acc env) R s := by
  refine codeAny_loop rfl I (fun n s hI => ?_) n h
  show wpAny _ A ((compTurn (.ListComp elt [⟨target, iter, ifs, 0⟩] scope pos) 0 it acc env).onRaise (fun x => do noteFrame x env; theTreesLotGoes x)) _ _ s
  refine wpAny_noted ?_
  rw [compTurn_list]
  refine wpAny_bind (wpAny_standAt (wpAny_bind (wpAny_mono (turn n s hI) (fun r s₁ h₁ => ?_) fun _ _ h' => h'.elim)))
  cases r with
  | none => exact wpAny_pure h₁
  | some v =>
    refine wpAny_bind (wpAny_mono h₁ (fun _ s₁' h₁' => ?_) fun _ _ h' => h'.elim)
    refine wpAny_bind (wpAny_mono h₁' (fun _ s₂ h₂ => wpAny_bind (wpAny_mono h₂ (fun ok s₃ h₃ => ?_) fun _ _ h' => h'.elim)) fun _ _ h' => h'.elim)
    cases ok with
    | false => exact wpAny_pure ⟨rfl, h₃⟩
    | true =>
      exact wpAny_bind (wpAny_bind (wpAny_mono h₃ (fun x s₄ h₄ => wpAny_bind (wpAny_mono h₄ (fun _ s₅ h₅ => wpAny_pure (wpAny_pure ⟨rfl, h₅⟩)) fun _ _ h' => h'.elim)) fun _ _ h' => h'.elim))
end
noncomputable def PIfs (X : Cx) (ifs : List Expr) (t : TT) : Prop :=
  ∀ (pins : List (Addr × Obj)) (s : Shared) (σ : St) (H : Hp) (Q : Bool → Hp → Prop), Inv X pins σ H s → t σ H Q →
    wpAny (model X.prog X.w) X.A (forIn ifs true fun c r => if r = true then do let ok ← isTrue c X.env (eval c X.env); pure (ForInStep.yield ok) else pure (ForInStep.yield r)) (TP X pins σ Q) X.xe s
noncomputable def tIf0 : TT := fun _ H Q => Q true H
theorem pifs_nil {X : Cx} : PIfs X [] tIf0 := fun _ _ _ H _ I h => wpAny_tests_nil ⟨H, I, h⟩
theorem pifs_one {X : Cx} {c : Expr} {t : TT} (h : PT X c t) : PIfs X [c] t := fun pins s σ H Q I hw => wpAny_tests_one (h pins s σ H Q I hw)
theorem cellsFrom_app : ∀ (names : List (Str × NameKind)) (n : Nat) (acc : List (Str × Addr)), cellsFrom n names acc = cellsFrom n names [] ++ acc
  | [], _, _ => rfl
  | (nm, k) :: r, n, acc => by
    unfold cellsFrom
    split
    · rw [cellsFrom_app r (n + 1) ((nm, n) :: acc), cellsFrom_app r (n + 1) [(nm, n)], List.append_assoc]; rfl
    · exact cellsFrom_app r n acc
noncomputable def closOf (cells : List (Str × Addr)) : List (Str × NameKind) → List (Str × Addr) → List (Str × Addr)
  | [], acc => acc
  | (n, k) :: r, acc => if k == .free then closOf cells r ((n, (cells.lookup n).getD 0) :: acc) else closOf cells r acc
theorem closFor_eq {env : Env} : ∀ (names : List (Str × NameKind)) (acc : List (Str × Addr)), (∀ y ∈ names, y.2 = .free → ∃ c, env.cells.lookup y.1 = some c) →
    (forIn names acc fun (x : Str × NameKind) cs => if x.2 == .free then do let a ← cellOf env x.1; pure (ForInStep.yield ((x.1, a) :: cs)) else pure (ForInStep.yield cs) : Sem _) = pure (closOf env.cells names acc)
  | [], acc, _ => rfl
  | (n, k) :: r, acc, h => by
    rw [List.forIn_cons]
    unfold closOf
    have hr := fun y hy => h y (List.mem_cons_of_mem _ hy)
    by_cases hk : (k == NameKind.free) = true
    · obtain ⟨c, hc⟩ := h (n, k) List.mem_cons_self (by simpa using hk)
      have hc' : env.cells.lookup n = some c := hc
      simp only [hk, if_true]
      unfold cellOf
      rw [hc']
      simp only [pure_bind, Option.getD_some]
      exact closFor_eq r _ hr
    · have hk' : (k == NameKind.free) = false := by simpa using hk
      simp only [hk', Bool.false_eq_true, if_false, pure_bind]
      exact closFor_eq r _ hr
theorem closureFor_eq {scope : Scope} {env : Env} (h : ∀ y ∈ scope.names, y.2 = .free → ∃ c, env.cells.lookup y.1 = some c) : closureFor scope env = pure (closOf env.cells scope.names []) := by
  have e := closFor_eq (env := env) scope.names [] h
  unfold closureFor
  simp only [bind_pure_comp] at e ⊢
  have e2 : (forIn scope.names ([] : List (Str × Addr)) fun (x : Str × NameKind) cs => if x.2 == .free then do let a ← cellOf env x.1; pure (ForInStep.yield ((x.1, a) :: cs)) else pure (ForInStep.yield cs) : Sem _) = pure (closOf env.cells scope.names []) := closFor_eq scope.names [] h
  simp only [bind_pure_comp] at e2
  first
    | exact e2
    | (rw [e2]; rfl)
    | simpa using e2
theorem closOf_lookup {cells : List (Str × Addr)} {x : Str} {c : Addr} : ∀ (names : List (Str × NameKind)) (acc : List (Str × Addr)), (closOf cells names acc).lookup x = some c →
    acc.lookup x = some c ∨ ((x, NameKind.free) ∈ names ∧ c = (cells.lookup x).getD 0)
  | [], acc, h => .inl h
  | (n, k) :: r, acc, h => by
    unfold closOf at h
    by_cases hk : (k == NameKind.free) = true
    · rw [if_pos hk] at h
      rcases closOf_lookup r _ h with h1 | ⟨h1, h2⟩
      · rw [List.lookup_cons] at h1
        cases hx : x == n with
        | true =>
          rw [hx] at h1
          have hxn : x = n := by simpa using hx
          subst hxn
          cases h1
          refine .inr ⟨?_, rfl⟩
          have : k = NameKind.free := by simpa using hk
          subst this
          exact List.mem_cons_self
        | false => rw [hx] at h1; exact .inl h1
      · exact .inr ⟨List.mem_cons_of_mem _ h1, h2⟩
    · rw [if_neg hk] at h
      rcases closOf_lookup r _ h with h1 | ⟨h1, h2⟩
      · exact .inl h1
      · exact .inr ⟨List.mem_cons_of_mem _ h1, h2⟩
theorem closOf_has {cells : List (Str × Addr)} {x : Str} : ∀ (names : List (Str × NameKind)) (acc : List (Str × Addr)), ((x, NameKind.free) ∈ names ∨ (acc.lookup x).isSome = true) → ((closOf cells names acc).lookup x).isSome = true
  | [], acc, h => by rcases h with h | h; · exact absurd h (by simp)
                     · exact h
  | (n, k) :: r, acc, h => by
    unfold closOf
    by_cases hk : (k == NameKind.free) = true
    · rw [if_pos hk]
      refine closOf_has r _ ?_
      rcases h with h | h
      · rcases List.mem_cons.mp h with e | h
        · cases e; right; simp [List.lookup_cons]
        · exact .inl h
      · right
        rw [List.lookup_cons]
        cases hx : x == n
        · exact h
        · rfl
    · rw [if_neg hk]
      refine closOf_has r _ ?_
      rcases h with h | h
      · rcases List.mem_cons.mp h with e | h
        · cases e; exact absurd rfl hk
        · exact .inl h
      · exact .inr h
noncomputable def compEnvL (scope : Scope) (L : Addr) (env : Env) : Env :=
  { scope := relabel scope env, locals := L, globals := env.globals, cells := cellsFrom (L + 1) scope.names (closOf env.cells scope.names []), qual := env.qual, func := none, code := env.code, frame := env.frame, builtins := env.builtins }
theorem newEnv_comp {M : Model} {A : Around} {E : Value → Shared → Prop} {s : Shared} {scope : Scope} {globals : Addr} {cl : List (Str × Addr)} {qual : Str} {outer : Env} {Q : Env → Shared → Prop}
    (hQ : ∀ h', (∀ b o, s.heap.get? b = some o → h'.get? b = some o) → h'.Ns s.heap.objs.size (fun _ => none) → CellsOk h' (s.heap.objs.size + 1) (cellsFrom (s.heap.objs.size + 1) scope.names []) →
      Q { scope := scope, locals := s.heap.objs.size, globals := globals, cells := cellsFrom (s.heap.objs.size + 1) scope.names cl, qual := qual, func := none, code := outer.code, frame := outer.frame, builtins := outer.builtins } { s with heap := h' }) :
    wpAny M A (newFunctionEnv scope globals cl [] qual none .none (some outer)) Q E s := by
  simp only [newFunctionEnv, Option.isSome_some, if_true]
  refine wpAny_bind (wpAny_alloc ?_)
  refine wpAny_bind (wpAny_layCells _ (fun name kind cells => by cases hkc : kind == NameKind.cell <;> simp [hkc]) _ _ _ _ ?_)
  have ok := cellsFrom_ok scope.names (s.heap.push { cls := .type "dict", data := .dict #[] }) (s.heap.objs.size + 1) [] ⟨fun _ _ hm => (nomatch hm), List.Pairwise.nil⟩ (by rw [Heap.size_push]; exact Nat.le_refl _)
  rw [Heap.size_push] at ok
  rw [show ({ s with heap := s.heap.push { cls := .type "dict", data := .dict #[] } } : Shared).heap.objs.size = s.heap.objs.size + 1 from Heap.size_push ..]
  simp only [List.forIn_nil]
  refine wpAny_bind (wpAny_pure (wpAny_pure ?_))
  exact hQ _ (fun b o e => pushCells_keeps _ _ b o (Heap.get?_push_of_some _ e)) ((Heap.Ns.new s.heap (.type "dict")).keeps (pushCells_keeps _ _)) ok
end L2
namespace L2
open PySem PySem.Spec PyProof.Rows
noncomputable def compCx (X : Cx) (scope : Scope) (ts rest : List Str) (ex : List Addr) (s : Shared) (H : Hp) : Cx where
  prog := X.prog
  w := X.w
  K := X.K
  mg := X.mg
  base := X.base
  A := X.A
  N := ts ++ rest
  s₀ := s
  H₀ := H
  env := compEnvL scope s.heap.objs.size X.env
  outer := X.stack
  stack := X.stack
  ex := ex
  calm := X.calm
  fn := fun x => ((cellsFrom (s.heap.objs.size + 1) scope.names []).lookup x).isSome
  pn := X.pn
  xe := fun _ _ => False
structure CompScope (X : Cx) (scope : Scope) (ts rest : List Str) : Prop where
  kind : scope.kind = .function
  own : ∀ y ∈ scope.names, y.2 = .local → scope.names.lookup y.1 = some .local
  free : ∀ y ∈ scope.names, y.2 = .free → X.env.kindOf y.1 = some .cell ∨ X.env.kindOf y.1 = some .free
  look : ∀ y ∈ scope.names, scope.names.lookup y.1 = some y.2
  len : rest.length = X.N.length
  at_ : ∀ (i : Nat) x, rest[i]? = some x → scope.names.lookup x = none ∨ (scope.names.lookup x = some .free ∧ X.N[i]? = some x) ∨ (∃ k, scope.names.lookup x = some k ∧ k ≠ .local ∧ k ≠ .cell ∧ k ≠ .free)
  nd : (ts ++ rest).Nodup
theorem relabel_lookup {env : Env} {x : Str} : ∀ (names : List (Str × NameKind)),
    (names.map fun (n, k) => if (k == NameKind.free && env.scope.kind == .function && env.kindOf n == some .cell) then (n, NameKind.cell) else (n, k)).lookup x =
      (names.lookup x).map fun k => if (k == NameKind.free && env.scope.kind == .function && env.kindOf x == some .cell) then NameKind.cell else k
  | [] => rfl
  | (n, k) :: r => by
    rw [List.map_cons]
    cases hx : x == n with
    | true =>
      have e : x = n := by simpa using hx
      subst e
      by_cases hc : (k == NameKind.free && env.scope.kind == .function && env.kindOf x == some .cell) = true
      · simp only [hc, if_true, List.lookup_cons, beq_self_eq_true, Option.map_some]
      · simp only [if_neg hc, List.lookup_cons, beq_self_eq_true, Option.map_some]
    | false =>
      have ih := relabel_lookup (env := env) (x := x) r
      by_cases hc : (k == NameKind.free && env.scope.kind == .function && env.kindOf n == some .cell) = true
      · simp only [hc, if_true, List.lookup_cons, hx]; exact ih
      · simp only [if_neg hc, List.lookup_cons, hx]; exact ih
section
variable {X : Cx} {scope : Scope} {ts rest : List Str} {pins : List (Addr × Obj)} {σ : St} {H : Hp} {s : Shared}
theorem lookup_app {l1 l2 : List (Str × Addr)} {x : Str} {c : Addr} (h : (l1 ++ l2).lookup x = some c) : l1.lookup x = some c ∨ (l1.lookup x = none ∧ l2.lookup x = some c) := by
  rw [List.lookup_append] at h
  cases e : l1.lookup x with
  | none => rw [e] at h; exact .inr ⟨rfl, by simpa using h⟩
  | some d => rw [e] at h; left; simpa using h
theorem cells_names : ∀ {names : List (Str × NameKind)} {n : Nat} {acc : List (Str × Addr)} {x : Str} {c : Addr}, (x, c) ∈ cellsFrom n names acc → (x, NameKind.cell) ∈ names ∨ (x, c) ∈ acc
  | [], _, _, _, _, h => .inr h
  | (nm, k) :: r, n, acc, x, c, h => by
    unfold cellsFrom at h
    split at h
    · rename_i hk
      rcases cells_names h with h | h
      · exact .inl (List.mem_cons_of_mem _ h)
      · rcases List.mem_cons.mp h with e | h
        · cases e
          have : k = NameKind.cell := by simpa using hk
          subst this
          exact .inl List.mem_cons_self
        · exact .inr h
    · rcases cells_names h with h | h
      · exact .inl (List.mem_cons_of_mem _ h)
      · exact .inr h
theorem comp_cells {L : Addr} (S : CompScope X scope ts rest) {x : Str} {c : Addr} (h : (compEnvL scope L X.env).cells.lookup x = some c) :
    ((cellsFrom (L + 1) scope.names []).lookup x = some c ∧ scope.names.lookup x = some .cell) ∨ (scope.names.lookup x = some .free ∧ c = (X.env.cells.lookup x).getD 0) := by
  have h' : (cellsFrom (L + 1) scope.names (closOf X.env.cells scope.names [])).lookup x = some c := h
  rw [cellsFrom_app] at h'
  rcases lookup_app h' with h1 | ⟨_, h1⟩
  · refine .inl ⟨h1, ?_⟩
    rcases cells_names (PySem.mem_of_lookup h1) with z | z
    · exact S.look _ z
    · exact absurd z (by simp)
  · rcases closOf_lookup _ _ h1 with z | ⟨z1, z2⟩
    · exact absurd z (by simp)
    · exact .inr ⟨S.look _ z1, z2⟩
theorem comp_start (S : CompScope X scope ts rest) (I : Inv X pins σ H s) {fp : List Addr} {h' : Heap} (hf : ∀ b ∈ fp, FpOk X pins H b) (hfl : ∀ b ∈ fp, b < s.heap.objs.size)
    (hk : ∀ b o, s.heap.get? b = some o → h'.get? b = some o) (hn : h'.Ns s.heap.objs.size (fun _ => none)) (ck : CellsOk h' (s.heap.objs.size + 1) (cellsFrom (s.heap.objs.size + 1) scope.names [])) :
    Inv (compCx X scope ts rest fp s H) pins (List.replicate ts.length none ++ σ) H { s with heap := h' } := by
  have cell_of : ∀ x, scope.names.lookup x = some .free → ∃ c, X.env.cells.lookup x = some c := fun x hx => I.ok.has x (S.free _ (PySem.mem_of_lookup hx) rfl)
  have below : ∀ {b : Addr} {o : Obj}, s.heap.get? b = some o → b < s.heap.objs.size := fun e => Heap.lt_size e
  have cOld : ∀ x c, X.env.cells.lookup x = some c → c < s.heap.objs.size := fun x c e => by
    obtain ⟨v, o, ho, _⟩ := I.cell x c e
    exact below ho
  -- a cell of the block
  have cases_ : ∀ x c, (compEnvL scope s.heap.objs.size X.env).cells.lookup x = some c → (((x, c) ∈ cellsFrom (s.heap.objs.size + 1) scope.names [] ∧ h'.IsCell c none ∧ s.heap.objs.size + 1 ≤ c) ∨ (X.env.cells.lookup x = some c)) := fun x c e => by
    rcases comp_cells S e with ⟨z, _⟩ | ⟨z1, z2⟩
    · exact .inl ⟨PySem.mem_of_lookup z, ck.empty x c (PySem.mem_of_lookup z)⟩
    · obtain ⟨d, hd⟩ := cell_of x z1
      rw [hd] at z2
      exact .inr (by rw [hd, z2]; rfl)
  have I' := I
  refine ⟨⟨I.ok.mod, S.kind, I.ok.glob, I.ok.blt, Nat.le_refl _, fun x y c e1 e2 => ?_, fun x hx => ?_, fun x c hfn e => ?_, I.ok.hd, I.ok.frames, .inl rfl, fun b hb => ⟨Nat.ne_of_lt (hfl b hb), fun x c e => ?_⟩, I.bs, Nat.le_trans I.ok.bsz I.sz, fun b o e hb => ?_, fun b hb hz => ?_, I.stack, I.stkFree⟩,
    rfl, I.bare, Un.kept hk, ⟨_, hn, fun i x v e1 e2 e3 => ?_⟩, fun x c e => ?_, I.hok.fresh (Nat.le_refl _), fun x c e => ?_, fun p hp => ?_, I.hok.kept hk, ?_⟩
  · rcases cases_ x c e1 with ⟨m1, _, l1⟩ | z1 <;> rcases cases_ y c e2 with ⟨m2, _, l2⟩ | z2
    · exact name_of_addr ck.apart m1 m2
    · exact absurd (Nat.lt_of_lt_of_le (cOld y c z2) (Nat.le_of_succ_le l1)) (Nat.lt_irrefl _)
    · exact absurd (Nat.lt_of_lt_of_le (cOld x c z1) (Nat.le_of_succ_le l2)) (Nat.lt_irrefl _)
    · exact I.ok.inj x y c z1 z2
  · have hx' : (relabel scope X.env).names.lookup x = some .cell ∨ (relabel scope X.env).names.lookup x = some .free := hx
    have e : (relabel scope X.env).names.lookup x = (scope.names.lookup x).map fun k => if (k == NameKind.free && X.env.scope.kind == .function && X.env.kindOf x == some .cell) then NameKind.cell else k := relabel_lookup scope.names
    have hkk : scope.names.lookup x = some .cell ∨ scope.names.lookup x = some .free := by
      cases q : scope.names.lookup x with
      | none => rw [e, q] at hx'; rcases hx' with z | z <;> cases z
      | some k =>
        by_cases hc : (k == NameKind.free && X.env.scope.kind == .function && X.env.kindOf x == some .cell) = true
        · have : k = .free := by
            have := (Bool.and_eq_true _ _ ▸ hc : _ ∧ _).1
            have := (Bool.and_eq_true _ _ ▸ this : _ ∧ _).1
            simpa using this
          exact .inr (by rw [this])
        · rw [e, q] at hx'
          simp only [Option.map_some, if_neg hc] at hx'
          exact hx'
    show ∃ c, (cellsFrom (s.heap.objs.size + 1) scope.names (closOf X.env.cells scope.names [])).lookup x = some c
    refine Option.isSome_iff_exists.mp ?_
    rw [cellsFrom_app, List.lookup_append]
    rcases hkk with z | z
    · have q := PySem.W.cellsFrom_some scope.names (s.heap.objs.size + 1) [] (.inl z)
      cases q2 : (cellsFrom (s.heap.objs.size + 1) scope.names []).lookup x with
      | none => rw [q2] at q; cases q
      | some c => simp
    · have q := closOf_has (cells := X.env.cells) (x := x) scope.names [] (.inl (PySem.mem_of_lookup z))
      cases (cellsFrom (s.heap.objs.size + 1) scope.names []).lookup x with
      | none => simpa using q
      | some c => simp
  · have hfn' : ((cellsFrom (s.heap.objs.size + 1) scope.names []).lookup x).isSome = true := hfn
    have e' : (cellsFrom (s.heap.objs.size + 1) scope.names (closOf X.env.cells scope.names [])).lookup x = some c := e
    rw [cellsFrom_app, List.lookup_append] at e'
    cases q2 : (cellsFrom (s.heap.objs.size + 1) scope.names []).lookup x with
    | none => rw [q2] at hfn'; cases hfn'
    | some d =>
      rw [q2] at e'
      have e2 : d = c := by simpa using e'
      subst e2
      have := (ck.empty x d (PySem.mem_of_lookup q2)).2
      show s.heap.objs.size ≤ d
      omega
  · rcases cases_ x c e with ⟨_, _, l⟩ | z
    · exact Nat.ne_of_gt (Nat.lt_of_lt_of_le (hfl b hb) (Nat.le_of_succ_le l))
    · exact (hf b hb).2.2.2.2.1 x c z
  · rcases (hf b hb).2.2.2.1 with z | z
    · exact I.ok.noex b o e z
    · exact absurd (Nat.lt_of_lt_of_le (Heap.lt_size e) (Nat.le_trans I.ok.bsz z)) (Nat.lt_irrefl _)
  · rcases List.mem_cons.mp (I.stkSub b hz) with z | z
    · exact (hf b hb).2.1 z
    · exact (hf b hb).2.2.1 z
  · -- the names' values
    have e1' : (ts ++ rest)[i]? = some x := e1
    by_cases hi : i < ts.length
    · rw [List.getElem?_append_left (by simpa using hi), List.getElem?_replicate] at e2
      split at e2 <;> cases e2
    · have hi' : ts.length ≤ i := by omega
      rw [List.getElem?_append_right hi'] at e1'
      rw [List.getElem?_append_right (by simpa using hi'), List.length_replicate] at e2
      have e : (relabel scope X.env).names.lookup x = (scope.names.lookup x).map fun k => if (k == NameKind.free && X.env.scope.kind == .function && X.env.kindOf x == some .cell) then NameKind.cell else k := relabel_lookup scope.names
      have e3' : (relabel scope X.env).names.lookup x = some .local ∨ (relabel scope X.env).names.lookup x = some .cell ∨ (relabel scope X.env).names.lookup x = some .free := e3
      rcases S.at_ _ x e1' with z | ⟨z, hN⟩ | ⟨k, z, k1, k2, k3⟩
      · rw [e, z] at e3'; rcases e3' with q | q | q <;> cases q
      · obtain ⟨m, hm, hl⟩ := I.loc
        have hkd := S.free _ (PySem.mem_of_lookup z) rfl
        have hvis : Vis X.env.scope x := by
          rcases hkd with q | q
          · exact .inr (.inl q)
          · exact .inr (.inr q)
        obtain ⟨u, r, l⟩ := hl _ x v hN e2 hvis
        refine ⟨u, r, .inr ⟨?_, ?_⟩⟩
        · rcases e3' with q | q | q
          · rw [e, z] at q
            simp only [Option.map_some] at q
            split at q <;> cases q
          · exact .inl q
          · exact .inr q
        · rcases l with ⟨hk2, _⟩ | ⟨_, c, hc, hcell⟩
          · have hk2' : X.env.kindOf x = some .local := hk2
            rcases hkd with q | q <;> (have q' : X.env.kindOf x = _ := q; rw [hk2'] at q'; cases q')
          · refine ⟨c, ?_, hcell.keeps hk⟩
            have hh : ((compEnvL scope s.heap.objs.size X.env).cells.lookup x).isSome = true := by
              show ((cellsFrom (s.heap.objs.size + 1) scope.names (closOf X.env.cells scope.names [])).lookup x).isSome = true
              rw [cellsFrom_app, List.lookup_append]
              have q := closOf_has (cells := X.env.cells) (x := x) scope.names [] (.inl (PySem.mem_of_lookup z))
              cases (cellsFrom (s.heap.objs.size + 1) scope.names []).lookup x with
              | none => simpa using q
              | some c => simp
            obtain ⟨d, hd⟩ := Option.isSome_iff_exists.mp hh
            rcases comp_cells S hd with ⟨_, z1⟩ | ⟨_, z2⟩
            · rw [z] at z1; cases z1
            · rw [hc] at z2
              rw [z2] at hd
              exact hd
      · exfalso
        rw [e, z] at e3'
        simp only [Option.map_some] at e3'
        have : (k == NameKind.free) = false := by simpa using k3
        simp only [this, Bool.false_and, Bool.false_eq_true, if_false] at e3'
        rcases e3' with q | q | q <;> cases q
        · exact k1 rfl
        · exact k2 rfl
        · exact k3 rfl
  · rcases cases_ x c e with ⟨_, z, _⟩ | z
    · exact ⟨_, z⟩
    · obtain ⟨v, q⟩ := I.cell x c z
      exact ⟨v, q.keeps hk⟩
  · rcases cases_ x c e with ⟨_, _, l⟩ | z
    · exact I.hok.fresh (by omega)
    · exact I.freeC x c z
  · obtain ⟨e, n, ne, nf, d⟩ := I.pin p hp
    refine ⟨hk _ _ e, n, Nat.ne_of_lt (below e), fun hz => ?_, d⟩
    rcases List.mem_cons.mp (I.stkSub p.1 hz) with z | z
    · exact ne z
    · exact nf z
  · show _ = (ts ++ rest).length
    rw [List.length_append, List.length_append, List.length_replicate, I.len, S.len]
theorem comp_done {fp : List Addr} {σ' : St} {H' : Hp} {s' : Shared} {h' : Heap} (I : Inv X pins σ H s) (hf : ∀ b ∈ fp, FpOk X pins H b) (J : Inv (compCx X scope ts rest fp s H) pins σ' H' s')
    (hb : Heap.SameBut s.heap.objs.size s'.heap h') : Inv X pins σ H' { s' with heap := h' } := by
  have fr : H' s.heap.objs.size = none := J.free
  have u : Un (frs X.stack) fp H H' s.heap s'.heap := J.base
  have ne : ∀ {b : Addr} {o : Obj}, s.heap.get? b = some o → b ≠ s.heap.objs.size := fun e => Nat.ne_of_lt (Heap.lt_size e)
  refine I.call' (s' := { s' with heap := h' }) (ch := fp) J.os ⟨fun b o e n h1 h2 => (hb.2 b (ne e)).trans (u.keep b o e n h1 h2), fun b o e n h1 h2 => ?_, u.free, fun b o e h2 => ?_, u.tups, u.frzs, u.tbls⟩ (fun b o e => ?_) J.bare fun b hb' => ?_
  · obtain ⟨sl, q⟩ := u.slot b o e n h1 h2
    exact ⟨sl, (hb.2 b (ne e)).trans q⟩
  · obtain ⟨o', q⟩ := u.there b o e h2
    exact ⟨o', (hb.2 b (ne e)).trans q⟩
  · refine (J.hok b o e).stay (fun c v hc q => (hb.2 c ?_).trans q) (fun _ q => q) fun _ _ q => q
    rintro rfl
    rcases hc with rfl | hc
    · rw [fr] at e; cases e
    · rw [fr] at hc; cases hc
  · obtain ⟨_, f1, f2, f3, f4, f5⟩ := hf b hb'
    exact ⟨f3, f1, f4, f5⟩
end
end L2
namespace L2
open PySem PySem.Spec PyProof.Rows
noncomputable def tComp (n : Nat) (wi : TI) (g : TG) (tc : TT) (te : TE) : TE := fun σ H Q => wi σ H fun J H1 => ∀ D, H1 D = none → ∃ W : Nat → Nat → List V → St → Hp → Prop,
  (∃ m, W 0 m [] (List.replicate n none ++ σ) (upd H1 D (.lst []))) ∧ ∀ i m ys σ' H', W i m ys σ' H' →
    (J.stop i H' ∧ H' D = some (.lst ys) ∧ Q (.ref D) H') ∨
    (J.go i H' ∧ ∀ x H2, J.yld i H' x H2 → g x σ' H2 fun σ3 H3 => tc σ3 H3 fun b H4 => if b = true then
      te σ3 H4 fun y H5 => H5 D = some (.lst ys) ∧ ys.length < sizeLine ∧ ∃ m', m' < m ∧ W (i + 1) m' (ys ++ [y]) σ3 (upd H5 D (.lst (ys ++ [y])))
      else ∃ m', m' < m ∧ W (i + 1) m' ys σ3 H4)
section
variable {X : Cx} {scope : Scope} {ts rest : List Str} {pins : List (Addr × Obj)} {σ : St} {elt tg iter : Expr} {ifs : List Expr} {pos : Pos} {wi : TI} {g : TG} {tc : TT} {te : TE}
theorem comp_block (hc : X.calm = true) (S : CompScope X scope ts rest)
    (hg : ∀ fp s H, PG (compCx X scope ts rest fp s H) tg g) (ht : ∀ fp s H, PIfs (compCx X scope ts rest fp s H) ifs tc) (he : ∀ fp s H, PE (compCx X scope ts rest fp s H) elt te)
    {H1 : Hp} {s₂ : Shared} {it : Addr} {fp : List Addr} {tn : Nat → Heap → Prop} {J : It} (I2 : Inv X pins σ H1 s₂) (T : Turn X.prog X.w X.K tg J fp it tn) (st2 : tn 0 s₂.heap) (f2 : ∀ b ∈ fp, FpOk X pins H1 b) {Q : VK}
    (hw : ∀ D, H1 D = none → ∃ W : Nat → Nat → List V → St → Hp → Prop,
      (∃ m, W 0 m [] (List.replicate ts.length none ++ σ) (upd H1 D (.lst []))) ∧ ∀ i m ys σ' H', W i m ys σ' H' →
        (J.stop i H' ∧ H' D = some (.lst ys) ∧ Q (.ref D) H') ∨
        (J.go i H' ∧ ∀ x H2, J.yld i H' x H2 → g x σ' H2 fun σ3 H3 => tc σ3 H3 fun b H4 => if b = true then
          te σ3 H4 fun y H5 => H5 D = some (.lst ys) ∧ ys.length < sizeLine ∧ ∃ m', m' < m ∧ W (i + 1) m' (ys ++ [y]) σ3 (upd H5 D (.lst (ys ++ [y])))
          else ∃ m', m' < m ∧ W (i + 1) m' ys σ3 H4))
    {RR : Value → Addr → Result → Shared → Prop} {E : Value → Shared → Prop}
    (hRR : ∀ D s3 H3 σ' H' s', Inv X pins σ H3 s3 → (∀ b ∈ fp, FpOk X pins H3 b) → Inv (compCx X scope ts rest fp s3 H3) pins σ' H' s' → Q (.ref D) H' → RR (.ref D) s3.heap.objs.size (.ok .next) s') :
    wpAny (model X.prog X.w) X.A (newList []) (fun acc s₃ => wpAny (model X.prog X.w) X.A (newFunctionEnv scope X.env.globals (closOf X.env.cells scope.names []) [] X.env.qual none .none (some X.env)) (fun cenv s₄ =>
      codeAny (model X.prog X.w) X.A (.compStart (.ListComp elt [⟨tg, iter, ifs, 0⟩] scope pos) 0 (.ref it) acc { cenv with scope := relabel scope X.env }) (RR acc cenv.locals) s₄) E s₃) E s₂ := by
  obtain ⟨W, ⟨m0, w0⟩, turn⟩ := hw s₂.heap.objs.size (I2.hok.fresh (Nat.le_refl _))
  refine wpAny_newObj_type ?_
  generalize e3 : ({ s₂ with heap := s₂.heap.push { cls := .type "list", dict := none, data := .seq ([] : List Value).toArray } } : Shared) = s₃
  have hfl : ∀ b ∈ fp, b < s₂.heap.objs.size := fun b hb => by
    obtain ⟨o, e, _⟩ := T.obj _ _ st2 b hb
    exact Heap.lt_size e
  have I3 : Inv X pins σ (upd H1 s₂.heap.objs.size (.lst [])) s₃ := by
    subst e3
    exact I2.laid (t' := s₂.toks) (fun b u e => Heap.get?_push_of_some _ e) (Nat.le_refl _) ⟨Nat.zero_le _, [], 0, .nil, Heap.get?_push_size _ rfl⟩
  have hs3 : s₃.heap.objs.size = s₂.heap.objs.size + 1 := by subst e3; exact Heap.size_push ..
  have f3 : ∀ b ∈ fp, FpOk X pins (upd H1 s₂.heap.objs.size (.lst [])) b := fun b hb => ⟨by rw [upd_ne (Nat.ne_of_lt (hfl b hb))]; exact (f2 b hb).1, (f2 b hb).2⟩
  have st3 : tn 0 s₃.heap := by
    subst e3
    exact T.keep _ _ _ st2 fun b _ o e => Heap.get?_push_of_some _ e
  have hfl3 : ∀ b ∈ fp, b < s₃.heap.objs.size := fun b hb => by rw [hs3]; exact Nat.lt_succ_of_lt (hfl b hb)
  refine newEnv_comp fun h' hk hn ck => ?_
  have I4 := comp_start S I3 f3 hfl3 hk hn ck
  have st4 : tn 0 ({ s₃ with heap := h' } : Shared).heap := T.keep _ _ _ st3 fun b _ o e => hk b o e
  generalize eX : compCx X scope ts rest fp s₃ (upd H1 s₂.heap.objs.size (.lst [])) = X' at I4
  have hP : X'.prog = X.prog := by subst eX; rfl
  have hw' : X'.w = X.w := by subst eX; rfl
  have hK' : X'.K = X.K := by subst eX; rfl
  have hA : X'.A = X.A := by subst eX; rfl
  have hcalm : X'.calm = true := by subst eX; exact hc
  have hxe : X'.xe = noE := by subst eX; rfl
  have henv : X'.env = compEnvL scope s₃.heap.objs.size X.env := by subst eX; rfl
  have hg' : PG X' tg g := by subst eX; exact hg _ _ _
  have ht' : PIfs X' ifs tc := by subst eX; exact ht _ _ _
  have he' : PE X' elt te := by subst eX; exact he _ _ _
  have f4 : ∀ b ∈ fp, FpOk X' pins (upd H1 s₂.heap.objs.size (.lst [])) b := fun b hb => by
    obtain ⟨z0, z1, z2, z3, z4, z5⟩ := f3 b hb
    have ok4 := I4.ok
    refine ⟨z0, ?_, ?_, .inl ?_, ?_, ?_⟩
    · rw [henv]; exact Nat.ne_of_lt (hfl3 b hb)
    · have := ok4.exfs b (by subst eX; exact hb)
      exact this
    · subst eX; exact hb
    · exact (ok4.exf b (by subst eX; exact hb)).2
    · subst eX; exact z5
  have stat : ∀ {H' : Hp}, (∀ b ∈ fp, H' b = none) → ∀ b ∈ fp, FpOk X' pins H' b := fun hn b hb => ⟨hn b hb, (f4 b hb).2⟩
  have loop : ∀ s4 : Shared, s4 = { s₃ with heap := h' } → codeAny (model X.prog X.w) X.A (.compLoop (.ListComp elt [⟨tg, iter, ifs, 0⟩] scope pos) 0 (.ref it) (.ref s₂.heap.objs.size) (compEnvL scope s₃.heap.objs.size X.env))
      (RR (.ref s₂.heap.objs.size) s₃.heap.objs.size) s4 := by
    rintro s4 rfl
    refine compLoop_any (fun n s' => ∃ i ys σ' H', Inv X' pins σ' H' s' ∧ tn i s'.heap ∧ (∀ b ∈ fp, H' b = none) ∧ W i n ys σ' H') ?_ m0 ⟨0, [], _, _, I4, st4, fun b hb => (f4 b hb).1, w0⟩
    rintro n s5 ⟨i, ys, σ5, H5, I5, st5, fr5, w5⟩
    rw [← hP, ← hw', ← hA, ← henv, ← hxe]
    rcases turn i n ys σ5 H5 w5 with ⟨stop, eD, q⟩ | ⟨go, step⟩
    · have z := T.done X' hP hw' hK' hcalm i pins s5 σ5 H5 X'.xe I5 (stat fr5) st5 stop
      rw [← hP, ← hw'] at z
      refine thn z fun r s6 hz => ?_
      obtain ⟨hr, I6⟩ := hz
      subst hr
      subst eX
      exact hRR _ s₃ _ σ5 H5 s6 I3 f3 I6 q
    · have z := T.item X' hP hw' hK' hcalm i pins s5 σ5 H5 X'.xe I5 (stat fr5) st5 go
      rw [← hP, ← hw'] at z
      refine thn z fun r s6 hz => ?_
      obtain ⟨u, hr, h6⟩ := hz
      subst hr
      dsimp only
      refine thn h6 fun _ s7 w1_ => w1_.elim fun x z_ => z_.elim fun H7 z_ => z_.elim fun I7 z_ => z_.elim fun r7 z_ => z_.elim fun y7 z_ => z_.elim fun st7 fr7 => ?_
      have I7' := I7.pinned (stat fr7) (T.obj _ _ st7)
      refine thn (hg' _ s7 σ5 H7 x u _ I7' r7 (step x H7 y7)) fun _ s8 w1_ => w1_.elim fun σ8 z_ => z_.elim fun H8 z_ => z_.elim fun I8 q8 => ?_
      -- what stays of the iterator
      have back : ∀ {s9 : Shared} {σ9 : St} {H9 : Hp}, Inv X' (pins ++ pinsAt fp s7.heap) σ9 H9 s9 → Inv X' pins σ9 H9 s9 ∧ tn (i + 1) s9.heap ∧ ∀ b ∈ fp, H9 b = none := fun {s9 σ9 H9} I9 => by
        refine ⟨I9.unpinned, T.keep _ _ _ st7 fun b hb o e => (I9.pin (b, o) (List.mem_append_right _ (List.mem_append_right _ (mem_pinsAt hb e)))).1, fun b hb => ?_⟩
        obtain ⟨o, e, d⟩ := T.obj _ _ st7 b hb
        exact (I9.pin (b, o) (List.mem_append_right _ (List.mem_append_right _ (mem_pinsAt hb e)))).2.1
      refine thn (ht' _ s8 σ8 H8 _ I8 q8) fun ok s9 w1_ => w1_.elim fun H9 z_ => z_.elim fun I9 q9 => ?_
      cases ok with
      | false =>
        simp only [Bool.false_eq_true, if_false] at q9 ⊢
        obtain ⟨m', hm, w9⟩ := q9
        obtain ⟨a1, a2, a3⟩ := back I9
        exact ⟨m', hm, i + 1, ys, σ8, H9, a1, a2, a3, w9⟩
      | true =>
        simp only [if_true] at q9 ⊢
        refine thn (he' _ s9 σ8 H9 _ I9 q9) fun v s10 w1_ => w1_.elim fun y z_ => z_.elim fun H10 z_ => z_.elim fun I10 z_ => z_.elim fun r10 z_ => z_.elim fun eD z_ => z_.elim fun hl z_ => z_.elim fun m' z_ => z_.elim fun hm w10 => ?_
        refine thn (mt_append (X := X') _ s10 σ8 H10 (.ref s₂.heap.objs.size) [y] (.ref s₂.heap.objs.size) [v] (fun _ H11 => W (i + 1) m' (ys ++ [y]) σ8 H11) I10 rfl (.cons r10 .nil) ⟨_, ys, y, rfl, rfl, eD, hl, w10⟩) fun _ s11 w1_ => w1_.elim fun _ z_ => z_.elim fun H11 z_ => z_.elim fun I11 z_ => z_.elim fun _ w11 => ?_
        obtain ⟨a1, a2, a3⟩ := back I11
        exact ⟨m', hm, i + 1, _, σ8, H11, a1, a2, a3, w11⟩
  exact codeAny_compStart_list (loop _ rfl) (T.self X.A 0 _ _ _ st4 (loop _ rfl))
theorem pe_comp (hc : X.calm = true) (S : CompScope X scope ts rest) (hi : PI X tg iter wi)
    (hg : ∀ fp s H, PG (compCx X scope ts rest fp s H) tg g) (ht : ∀ fp s H, PIfs (compCx X scope ts rest fp s H) ifs tc) (he : ∀ fp s H, PE (compCx X scope ts rest fp s H) elt te)
    (hs : ∀ x, foldedSetIterable iter X.env x = pure x := by intro _; rfl) : PE X (.ListComp elt [⟨tg, iter, ifs, 0⟩] scope pos) (tComp ts.length wi g tc te) := by
  intro pins s σ H Q I h
  rw [eval_ListComp]
  refine wpAny_comprehension_free (use := none) rfl hs (closureFor_eq fun y hy hk => I.ok.has _ (S.free y hy hk)) S.kind S.own (thn (hi pins s σ H _ I h) fun x s₁ h1 => thn h1 fun itv s₂ h2 => ?_)
  obtain ⟨it, fp, tn, J, H2, e, I2, T, st2, f2, hw⟩ := h2
  subst e
  refine comp_block hc S hg ht he I2 T st2 f2 hw (RR := fun acc C => compPost (model X.prog X.w) X.A X.xe none (EP X pins σ Q) acc C) fun D s3 H3 σ' H' s' I3 f3 J' q => ?_
  obtain ⟨m, hn, _⟩ := J'.loc
  exact ⟨m, hn, fun h' hb => ⟨.ref D, H', comp_done I3 f3 J' hb, rfl, q⟩⟩
theorem ps_set_comp {i : Nat} {x : Str} {pos' spos : Pos} (hc : X.calm = true) (S : CompScope X scope ts rest) (hi : PI X tg iter wi)
    (hg : ∀ fp s H, PG (compCx X scope ts rest fp s H) tg g) (ht : ∀ fp s H, PIfs (compCx X scope ts rest fp s H) ifs tc) (he : ∀ fp s H, PE (compCx X scope ts rest fp s H) elt te)
    (hN : X.N.Nodup) (hx : X.N[i]? = some x) (hl : Loc X.env.scope x)
    (hsw : swapsWith (.ListComp elt [⟨tg, iter, ifs, 0⟩] scope pos) (some (.Name x pos')) spos.line X.env = pure true)
    (hs : ∀ x, foldedSetIterable iter X.env x = pure x := by intro _; rfl) (hf : X.fn x = true ∨ X.env.scope.names.lookup x = some .local := by first | exact .inl rfl | exact .inr rfl | assumption) :
    PS X (.Assign [.Name x pos'] (.ListComp elt [⟨tg, iter, ifs, 0⟩] scope pos) spos) (tAsg (tComp ts.length wi g tc te) (gName i)) := by
  intro pins s σ H D I h
  rw [exec_Assign_Name_used _ _ _ _ hsw]
  refine wpAny_bind (wpAny_standAt (wpAny_bind ?_))
  show wpAny _ X.A (do let _ ← comprehension (.ListComp elt [⟨tg, iter, ifs, 0⟩] scope pos) scope X.env _ (newList []) false (eval iter X.env) (some (assign (.Name x pos') X.env))) _ _ s
  refine wpAny_bind (wpAny_mono (wpAny_comprehension_free (use := some (assign (.Name x pos') X.env)) (Q := fun _ s' => SP X pins D .next s') rfl hs (closureFor_eq fun y hy hk => I.ok.has _ (S.free y hy hk)) S.kind S.own
    (thn (hi pins s σ H _ I h) fun xv s₁ h1 => thn h1 fun itv s₂ h2 => ?_)) (fun _ s' hq => wpAny_pure (wpAny_pure hq)) fun _ _ e => e)
  obtain ⟨it, fp, tn, J, H2, e, I2, T, st2, f2, hw⟩ := h2
  subst e
  refine comp_block hc S hg ht he I2 T st2 f2 (Q := fun v H1 => gName i v σ H1 D.nx) hw (RR := fun acc C => compPost (model X.prog X.w) X.A X.xe (some (assign (.Name x pos') X.env)) (fun _ s' => SP X pins D .next s') acc C) fun D' s3 H3 σ' H' s' I3 f3 J' q => ?_
  obtain ⟨m, hn, _⟩ := J'.loc
  have IX : Inv X pins σ H' s' := by
    have := comp_done I3 f3 J' (Heap.SameBut.refl _ _)
    exact this
  obtain ⟨o, es, ep, ho, hd, hr⟩ := id hn
  have ho' : s'.heap.get? s3.heap.objs.size = some o := ho
  have hfr : H' s3.heap.objs.size = none := J'.free
  have hne : s3.heap.objs.size ≠ X.env.locals := Nat.ne_of_gt I3.lt
  have hnf : s3.heap.objs.size ∉ X.fs := I3.nofs (Nat.le_refl _)
  have hcl : ∀ v, o.data ≠ .cell v := fun v z => by rw [hd] at z; cases z
  have IP : Inv X (pins ++ [(s3.heap.objs.size, o)]) σ H' s' := IX.pins_of fun p hp => (List.mem_append.mp hp).elim (fun z => IX.pin p (List.mem_append_right _ z)) fun z => by
    have e : p = (s3.heap.objs.size, o) := by simpa using z
    subst e
    exact ⟨ho', hfr, hne, hnf, hcl⟩
  show wpAny _ X.A (assign (.Name x pos') X.env (.ref D')) _ _ _
  refine wpAny_assign_Name (store_ok IP hN hx hl (v := .ref D') (u := .ref D') rfl (fun s4 I4 => ?_) hf)
  have hp4 := (I4.pin (s3.heap.objs.size, o) (List.mem_append_right _ (List.mem_append_right _ List.mem_cons_self))).1
  refine ⟨m, ⟨o, es, ep, hp4, hd, hr⟩, fun h' hb => ⟨_, H', ?_, q⟩⟩
  refine Inv.turned (it := s3.heap.objs.size) (t' := s4.toks) I4.unpinned (fun b o' hbne e => (hb.2 b hbne).trans e) hfr hne (.inr I3.sz) (fun y c e z => ?_) (fun p hp z => ?_)
  · obtain ⟨v, o2, h2, _⟩ := I3.cell y c e
    exact absurd (Heap.lt_size h2) (by rw [z]; exact Nat.lt_irrefl _)
  · obtain ⟨e, _⟩ := I3.pin p hp
    exact absurd (Heap.lt_size e) (by rw [z]; exact Nat.lt_irrefl _)
end
end L2
namespace L2
open PySem PySem.Spec PyProof.Rows
section
variable {prog : Program} {w : World} {A : Around} {R : Result → Shared → Prop} {s : Shared}
theorem compLoop_dict {kex elt target iter : Expr} {ifs : List Expr} {scope : Scope} {pos : Pos} {it : Value} {D : Addr} {env : Env} (I : Nat → Shared → Prop)
    (turn : ∀ n s, I n s → wpAny (model prog w) A (pyNext it) (fun r s₁ => match r with
      | none => R (.ok .next) s₁
      | some v => wpAny (model prog w) A (letOwnedTupleGo target it v) (fun _ s₁' => wpAny (model prog w) A (assign target env v) (fun _ s₂ =>
          wpAny (model prog w) A (forIn ifs true fun c r => if r = true then do let ok ← isTrue c env (eval c env); pure (ForInStep.yield ok) else pure (ForInStep.yield r)) (fun ok s₃ =>
            if ok = true then wpAny (model prog w) A (eval kex env) (fun kv s₄ => wpAny (model prog w) A (eval elt env) (fun vv s₅ =>
              wpAny (model prog w) A (dictSet D kv vv) (fun _ s₆ => ∃ m, m < n ∧ I m s₆) noE s₅) noE s₄) noE s₃
            else ∃ m, m < n ∧ I m s₃) noE s₂) noE s₁') noE s₁) noE s)
    (n : Nat) (h : I n s) :
    codeAny (model prog w) A (.compLoop (.DictComp kex elt [⟨target, iter, ifs, 0⟩] scope pos) 0 it (.ref D) env) R s := by
  refine codeAny_loop rfl I (fun n s hI => ?_) n h
  show wpAny _ A ((compTurn (.DictComp kex elt [⟨target, iter, ifs, 0⟩] scope pos) 0 it (.ref D) env).onRaise (fun x => do noteFrame x env; theTreesLotGoes x)) _ _ s
  refine wpAny_noted ?_
  rw [compTurn_dict]
  refine wpAny_bind (wpAny_standAt (wpAny_bind (wpAny_mono (turn n s hI) (fun r s₁ h₁ => ?_) fun _ _ h' => h'.elim)))
  cases r with
  | none => exact wpAny_pure h₁
  | some v =>
    refine wpAny_bind (wpAny_mono h₁ (fun _ s₁' h₁' => ?_) fun _ _ h' => h'.elim)
    refine wpAny_bind (wpAny_mono h₁' (fun _ s₂ h₂ => wpAny_bind (wpAny_mono h₂ (fun ok s₃ h₃ => ?_) fun _ _ h' => h'.elim)) fun _ _ h' => h'.elim)
    cases ok with
    | false => exact wpAny_pure ⟨rfl, h₃⟩
    | true =>
      exact wpAny_bind (wpAny_bind (wpAny_mono h₃ (fun kv s₄ h₄ => wpAny_bind (wpAny_holding (wpAny_mono h₄ (fun vv s₅ h₅ => wpAny_bind (wpAny_standAt (wpAny_holding (wpAny_mono h₅ (fun _ s₆ h₆ => wpAny_pure ⟨rfl, h₆⟩) fun _ _ h' => h'.elim)))) fun _ _ h' => h'.elim))) fun _ _ h' => h'.elim))
end
noncomputable def tCompDc (n : Nat) (wi : TI) (g : TG) (tc : TT) (tk te : TE) : TE := fun σ H Q => wi σ H fun J H1 => ∀ D, H1 D = none → ∃ W : Nat → Nat → List (Key × V) → St → Hp → Prop,
  (∃ m, W 0 m [] (List.replicate n none ++ σ) (upd H1 D (.dK []))) ∧ ∀ i m ys σ' H', W i m ys σ' H' →
    (J.stop i H' ∧ H' D = some (.dK ys) ∧ Q (.ref D) H') ∨
    (J.go i H' ∧ ∀ x H2, J.yld i H' x H2 → g x σ' H2 fun σ3 H3 => tc σ3 H3 fun b H4 => if b = true then
      tk σ3 H4 fun kx H4' => te σ3 H4' fun y H5 => ∃ k, kx = kV k ∧ H5 D = some (.dK ys) ∧ ys.length < sizeLine ∧ ∃ m', m' < m ∧ W (i + 1) m' (putK ys k y) σ3 (upd H5 D (.dK (putK ys k y)))
      else ∃ m', m' < m ∧ W (i + 1) m' ys σ3 H4)
section
variable {X : Cx} {scope : Scope} {ts rest : List Str} {pins : List (Addr × Obj)} {σ : St} {kex elt tg iter : Expr} {ifs : List Expr} {pos : Pos} {wi : TI} {g : TG} {tc : TT} {tk te : TE}
theorem comp_blockDc (hc : X.calm = true) (S : CompScope X scope ts rest)
    (hg : ∀ fp s H, PG (compCx X scope ts rest fp s H) tg g) (ht : ∀ fp s H, PIfs (compCx X scope ts rest fp s H) ifs tc) (hk0 : ∀ fp s H, PE (compCx X scope ts rest fp s H) kex tk) (he : ∀ fp s H, PE (compCx X scope ts rest fp s H) elt te)
    {H1 : Hp} {s₂ : Shared} {it : Addr} {fp : List Addr} {tn : Nat → Heap → Prop} {J : It} (I2 : Inv X pins σ H1 s₂) (T : Turn X.prog X.w X.K tg J fp it tn) (st2 : tn 0 s₂.heap) (f2 : ∀ b ∈ fp, FpOk X pins H1 b) {Q : VK}
    (hw : ∀ D, H1 D = none → ∃ W : Nat → Nat → List (Key × V) → St → Hp → Prop,
      (∃ m, W 0 m [] (List.replicate ts.length none ++ σ) (upd H1 D (.dK []))) ∧ ∀ i m ys σ' H', W i m ys σ' H' →
        (J.stop i H' ∧ H' D = some (.dK ys) ∧ Q (.ref D) H') ∨
        (J.go i H' ∧ ∀ x H2, J.yld i H' x H2 → g x σ' H2 fun σ3 H3 => tc σ3 H3 fun b H4 => if b = true then
          tk σ3 H4 fun kx H4' => te σ3 H4' fun y H5 => ∃ k, kx = kV k ∧ H5 D = some (.dK ys) ∧ ys.length < sizeLine ∧ ∃ m', m' < m ∧ W (i + 1) m' (putK ys k y) σ3 (upd H5 D (.dK (putK ys k y)))
          else ∃ m', m' < m ∧ W (i + 1) m' ys σ3 H4))
    {RR : Value → Addr → Result → Shared → Prop} {E : Value → Shared → Prop}
    (hRR : ∀ D s3 H3 σ' H' s', Inv X pins σ H3 s3 → (∀ b ∈ fp, FpOk X pins H3 b) → Inv (compCx X scope ts rest fp s3 H3) pins σ' H' s' → Q (.ref D) H' → RR (.ref D) s3.heap.objs.size (.ok .next) s') :
    wpAny (model X.prog X.w) X.A newDict (fun acc s₃ => wpAny (model X.prog X.w) X.A (newFunctionEnv scope X.env.globals (closOf X.env.cells scope.names []) [] X.env.qual none .none (some X.env)) (fun cenv s₄ =>
      codeAny (model X.prog X.w) X.A (.compStart (.DictComp kex elt [⟨tg, iter, ifs, 0⟩] scope pos) 0 (.ref it) acc { cenv with scope := relabel scope X.env }) (RR acc cenv.locals) s₄) E s₃) E s₂ := by
  obtain ⟨W, ⟨m0, w0⟩, turn⟩ := hw s₂.heap.objs.size (I2.hok.fresh (Nat.le_refl _))
  refine wpAny_newObj_type ?_
  generalize e3 : ({ s₂ with heap := s₂.heap.push { cls := .type "dict", dict := none, data := .dict #[] } } : Shared) = s₃
  have hfl : ∀ b ∈ fp, b < s₂.heap.objs.size := fun b hb => by
    obtain ⟨o, e, _⟩ := T.obj _ _ st2 b hb
    exact Heap.lt_size e
  have I3 : Inv X pins σ (upd H1 s₂.heap.objs.size (.dK [])) s₃ := by
    subst e3
    exact I2.laid (t' := s₂.toks) (fun b u e => Heap.get?_push_of_some _ e) (Nat.le_refl _) (dk_empty s₂.heap I2.big)
  have hs3 : s₃.heap.objs.size = s₂.heap.objs.size + 1 := by subst e3; exact Heap.size_push ..
  have f3 : ∀ b ∈ fp, FpOk X pins (upd H1 s₂.heap.objs.size (.dK [])) b := fun b hb => ⟨by rw [upd_ne (Nat.ne_of_lt (hfl b hb))]; exact (f2 b hb).1, (f2 b hb).2⟩
  have st3 : tn 0 s₃.heap := by
    subst e3
    exact T.keep _ _ _ st2 fun b _ o e => Heap.get?_push_of_some _ e
  have hfl3 : ∀ b ∈ fp, b < s₃.heap.objs.size := fun b hb => by rw [hs3]; exact Nat.lt_succ_of_lt (hfl b hb)
  refine newEnv_comp fun h' hk hn ck => ?_
  have I4 := comp_start S I3 f3 hfl3 hk hn ck
  have st4 : tn 0 ({ s₃ with heap := h' } : Shared).heap := T.keep _ _ _ st3 fun b _ o e => hk b o e
  generalize eX : compCx X scope ts rest fp s₃ (upd H1 s₂.heap.objs.size (.dK [])) = X' at I4
  have hP : X'.prog = X.prog := by subst eX; rfl
  have hw' : X'.w = X.w := by subst eX; rfl
  have hK' : X'.K = X.K := by subst eX; rfl
  have hA : X'.A = X.A := by subst eX; rfl
  have hcalm : X'.calm = true := by subst eX; exact hc
  have hxe : X'.xe = noE := by subst eX; rfl
  have henv : X'.env = compEnvL scope s₃.heap.objs.size X.env := by subst eX; rfl
  have hg' : PG X' tg g := by subst eX; exact hg _ _ _
  have ht' : PIfs X' ifs tc := by subst eX; exact ht _ _ _
  have he' : PE X' elt te := by subst eX; exact he _ _ _
  have hk' : PE X' kex tk := by subst eX; exact hk0 _ _ _
  have f4 : ∀ b ∈ fp, FpOk X' pins (upd H1 s₂.heap.objs.size (.dK [])) b := fun b hb => by
    obtain ⟨z0, z1, z2, z3, z4, z5⟩ := f3 b hb
    have ok4 := I4.ok
    refine ⟨z0, ?_, ?_, .inl ?_, ?_, ?_⟩
    · rw [henv]; exact Nat.ne_of_lt (hfl3 b hb)
    · have := ok4.exfs b (by subst eX; exact hb)
      exact this
    · subst eX; exact hb
    · exact (ok4.exf b (by subst eX; exact hb)).2
    · subst eX; exact z5
  have stat : ∀ {H' : Hp}, (∀ b ∈ fp, H' b = none) → ∀ b ∈ fp, FpOk X' pins H' b := fun hn b hb => ⟨hn b hb, (f4 b hb).2⟩
  have loop : ∀ s4 : Shared, s4 = { s₃ with heap := h' } → codeAny (model X.prog X.w) X.A (.compLoop (.DictComp kex elt [⟨tg, iter, ifs, 0⟩] scope pos) 0 (.ref it) (.ref s₂.heap.objs.size) (compEnvL scope s₃.heap.objs.size X.env))
      (RR (.ref s₂.heap.objs.size) s₃.heap.objs.size) s4 := by
    rintro s4 rfl
    refine compLoop_dict (fun n s' => ∃ i ys σ' H', Inv X' pins σ' H' s' ∧ tn i s'.heap ∧ (∀ b ∈ fp, H' b = none) ∧ W i n ys σ' H') ?_ m0 ⟨0, [], _, _, I4, st4, fun b hb => (f4 b hb).1, w0⟩
    rintro n s5 ⟨i, ys, σ5, H5, I5, st5, fr5, w5⟩
    rw [← hP, ← hw', ← hA, ← henv, ← hxe]
    rcases turn i n ys σ5 H5 w5 with ⟨stop, eD, q⟩ | ⟨go, step⟩
    · have z := T.done X' hP hw' hK' hcalm i pins s5 σ5 H5 X'.xe I5 (stat fr5) st5 stop
      rw [← hP, ← hw'] at z
      refine thn z fun r s6 hz => ?_
      obtain ⟨hr, I6⟩ := hz
      subst hr
      subst eX
      exact hRR _ s₃ _ σ5 H5 s6 I3 f3 I6 q
    · have z := T.item X' hP hw' hK' hcalm i pins s5 σ5 H5 X'.xe I5 (stat fr5) st5 go
      rw [← hP, ← hw'] at z
      refine thn z fun r s6 hz => ?_
      obtain ⟨u, hr, h6⟩ := hz
      subst hr
      dsimp only
      refine thn h6 fun _ s7 ⟨x, H7, I7, r7, y7, st7, fr7⟩ => ?_
      have I7' := I7.pinned (stat fr7) (T.obj _ _ st7)
      refine thn (hg' _ s7 σ5 H7 x u _ I7' r7 (step x H7 y7)) fun _ s8 ⟨σ8, H8, I8, q8⟩ => ?_
      -- what stays of the iterator
      have back : ∀ {s9 : Shared} {σ9 : St} {H9 : Hp}, Inv X' (pins ++ pinsAt fp s7.heap) σ9 H9 s9 → Inv X' pins σ9 H9 s9 ∧ tn (i + 1) s9.heap ∧ ∀ b ∈ fp, H9 b = none := fun {s9 σ9 H9} I9 => by
        refine ⟨I9.unpinned, T.keep _ _ _ st7 fun b hb o e => (I9.pin (b, o) (List.mem_append_right _ (List.mem_append_right _ (mem_pinsAt hb e)))).1, fun b hb => ?_⟩
        obtain ⟨o, e, d⟩ := T.obj _ _ st7 b hb
        exact (I9.pin (b, o) (List.mem_append_right _ (List.mem_append_right _ (mem_pinsAt hb e)))).2.1
      refine thn (ht' _ s8 σ8 H8 _ I8 q8) fun ok s9 ⟨H9, I9, q9⟩ => ?_
      cases ok with
      | false =>
        simp only [Bool.false_eq_true, if_false] at q9 ⊢
        obtain ⟨m', hm, w9⟩ := q9
        obtain ⟨a1, a2, a3⟩ := back I9
        exact ⟨m', hm, i + 1, ys, σ8, H9, a1, a2, a3, w9⟩
      | true =>
        simp only [if_true] at q9 ⊢
        refine thn (hk' _ s9 σ8 H9 _ I9 q9) fun u9 s9' ⟨kx, H9', I9', r9, q9'⟩ => ?_
        refine thn (he' _ s9' σ8 H9' _ I9' q9') fun v s10 ⟨y, H10, I10, r10, k, ek, eD, hl, m', hm, w10⟩ => ?_
        subst ek
        obtain ⟨z, hd, vs, rel, dd⟩ := dk_of I10.hok eD
        have hz : vs.length ≤ sizeLine := by rw [← rel.length]; exact z
        have hl2 : (putK ys k y).length ≤ sizeLine := by have := length_putK ys k y; omega
        refine wpAny_dictSet_pairs (hsz := hz) (kV_is r9) dd fun h'' dd' hs' => ?_
        have hex : ∃ q, h''.get? s₂.heap.objs.size = some q := let ⟨q, _, _, hq, _⟩ := dd'; ⟨q, hq⟩
        have I11 := d_write (t' := s10.toks + 1) I10 (by rw [eD]; exact True.intro) hs' hex (dk_new hl2 hd (rel.put k r10) dd')
        obtain ⟨a1, a2, a3⟩ := back I11
        exact ⟨m', hm, i + 1, _, σ8, _, a1, a2, a3, w10⟩
  exact codeAny_compStart_dict (loop _ rfl) (T.self X.A 0 _ _ _ st4 (loop _ rfl))
theorem ps_set_compDc {i : Nat} {x : Str} {pos' spos : Pos} (hc : X.calm = true) (S : CompScope X scope ts rest) (hi : PI X tg iter wi)
    (hg : ∀ fp s H, PG (compCx X scope ts rest fp s H) tg g) (ht : ∀ fp s H, PIfs (compCx X scope ts rest fp s H) ifs tc) (hk0 : ∀ fp s H, PE (compCx X scope ts rest fp s H) kex tk) (he : ∀ fp s H, PE (compCx X scope ts rest fp s H) elt te)
    (hN : X.N.Nodup) (hx : X.N[i]? = some x) (hl : Loc X.env.scope x)
    (hsw : swapsWith (.DictComp kex elt [⟨tg, iter, ifs, 0⟩] scope pos) (some (.Name x pos')) spos.line X.env = pure true)
    (hs : ∀ x, foldedSetIterable iter X.env x = pure x := by intro _; rfl) (hf : X.fn x = true ∨ X.env.scope.names.lookup x = some .local := by first | exact .inl rfl | exact .inr rfl | assumption) :
    PS X (.Assign [.Name x pos'] (.DictComp kex elt [⟨tg, iter, ifs, 0⟩] scope pos) spos) (tAsg (tCompDc ts.length wi g tc tk te) (gName i)) := by
  intro pins s σ H D I h
  rw [exec_Assign_Name_used _ _ _ _ hsw]
  refine wpAny_bind (wpAny_standAt (wpAny_bind ?_))
  show wpAny _ X.A (do let _ ← comprehension (.DictComp kex elt [⟨tg, iter, ifs, 0⟩] scope pos) scope X.env _ newDict false (eval iter X.env) (some (assign (.Name x pos') X.env))) _ _ s
  refine wpAny_bind (wpAny_mono (wpAny_comprehension_free (use := some (assign (.Name x pos') X.env)) (Q := fun _ s' => SP X pins D .next s') rfl hs (closureFor_eq fun y hy hk => I.ok.has _ (S.free y hy hk)) S.kind S.own
    (thn (hi pins s σ H _ I h) fun xv s₁ h1 => thn h1 fun itv s₂ h2 => ?_)) (fun _ s' hq => wpAny_pure (wpAny_pure hq)) fun _ _ e => e)
  obtain ⟨it, fp, tn, J, H2, e, I2, T, st2, f2, hw⟩ := h2
  subst e
  refine comp_blockDc hc S hg ht hk0 he I2 T st2 f2 (Q := fun v H1 => gName i v σ H1 D.nx) hw (RR := fun acc C => compPost (model X.prog X.w) X.A X.xe (some (assign (.Name x pos') X.env)) (fun _ s' => SP X pins D .next s') acc C) fun D' s3 H3 σ' H' s' I3 f3 J' q => ?_
  obtain ⟨m, hn, _⟩ := J'.loc
  have IX : Inv X pins σ H' s' := by
    have := comp_done I3 f3 J' (Heap.SameBut.refl _ _)
    exact this
  obtain ⟨o, es, ep, ho, hd, hr⟩ := id hn
  have ho' : s'.heap.get? s3.heap.objs.size = some o := ho
  have hfr : H' s3.heap.objs.size = none := J'.free
  have hne : s3.heap.objs.size ≠ X.env.locals := Nat.ne_of_gt I3.lt
  have hnf : s3.heap.objs.size ∉ X.fs := I3.nofs (Nat.le_refl _)
  have hcl : ∀ v, o.data ≠ .cell v := fun v z => by rw [hd] at z; cases z
  have IP : Inv X (pins ++ [(s3.heap.objs.size, o)]) σ H' s' := IX.pins_of fun p hp => (List.mem_append.mp hp).elim (fun z => IX.pin p (List.mem_append_right _ z)) fun z => by
    have e : p = (s3.heap.objs.size, o) := by simpa using z
    subst e
    exact ⟨ho', hfr, hne, hnf, hcl⟩
  show wpAny _ X.A (assign (.Name x pos') X.env (.ref D')) _ _ _
  refine wpAny_assign_Name (store_ok IP hN hx hl (v := .ref D') (u := .ref D') rfl (fun s4 I4 => ?_) hf)
  have hp4 := (I4.pin (s3.heap.objs.size, o) (List.mem_append_right _ (List.mem_append_right _ List.mem_cons_self))).1
  refine ⟨m, ⟨o, es, ep, hp4, hd, hr⟩, fun h' hb => ⟨_, H', ?_, q⟩⟩
  refine Inv.turned (it := s3.heap.objs.size) (t' := s4.toks) I4.unpinned (fun b o' hbne e => (hb.2 b hbne).trans e) hfr hne (.inr I3.sz) (fun y c e z => ?_) (fun p hp z => ?_)
  · obtain ⟨v, o2, h2, _⟩ := I3.cell y c e
    exact absurd (Heap.lt_size h2) (by rw [z]; exact Nat.lt_irrefl _)
  · obtain ⟨e, _⟩ := I3.pin p hp
    exact absurd (Heap.lt_size e) (by rw [z]; exact Nat.lt_irrefl _)
end
end L2
namespace L2
open PySem PySem.Spec PyProof.Rows
inductive D where
  | non | bl (b : Bool) | int (i : Int) | str (x : Str) | ref (a : Addr) | ty (n : String) | tup (ds : List D) | lst (ds : List D)
inductive OD where
  | lst (ds : List D) | dct (kvs : List (Key × D)) | tab (q : Str)
noncomputable abbrev HpD := Addr → Option OD
noncomputable def updD (M : HpD) (a : Addr) (o : OD) : HpD := fun b => if b = a then some o else M b
noncomputable def delD (M : HpD) (a : Addr) : HpD := fun b => if b = a then none else M b
theorem updD_same {M : HpD} {a : Addr} {o : OD} : updD M a o a = some o := by unfold updD; rw [if_pos rfl]
theorem updD_ne {M : HpD} {a b : Addr} {o : OD} (h : b ≠ a) : updD M a o b = M b := by unfold updD; rw [if_neg h]
theorem delD_same {M : HpD} {a : Addr} : delD M a a = none := by unfold delD; rw [if_pos rfl]
theorem delD_ne {M : HpD} {a b : Addr} (h : b ≠ a) : delD M a b = M b := by unfold delD; rw [if_neg h]
theorem updD_updD {M : HpD} {a : Addr} {o u : OD} : updD (updD M a o) a u = updD M a u := by
  funext b; unfold updD; split <;> rfl
theorem updD_self {M : HpD} {a : Addr} {o : OD} (h : M a = some o) : updD M a o = M := by
  funext b; unfold updD
  by_cases e : b = a
  · rw [if_pos e, e, h]
  · rw [if_neg e]
structure KF where
  K : PySem.W.Frag
  F : Addr → Prop
noncomputable def FzL (K : KF) (H : Hp) (M : HpD) (a : Addr) (xs : List V) : Prop := (Rd H a (.lst xs) ∧ M a = none ∧ ¬ K.F a) ∨ SqL K.K (fun _ => none) a xs
noncomputable def FzT (K : KF) (H : Hp) (M : HpD) (a : Addr) (xs : List V) : Prop := (Rd H a (.tup xs) ∧ M a = none ∧ ¬ K.F a) ∨ SqT K.K (fun _ => none) a xs
mutual
noncomputable def RepD (K : KF) (H : Hp) (M : HpD) : D → V → Prop
  | .non, v => v = .non
  | .bl b, v => v = .bl b
  | .int i, v => v = .int i
  | .str x, v => v = .str x
  | .ref a, v => v = .ref a
  | .ty n, v => v = .ty n
  | .tup ds, v => ∃ a xs, v = .ref a ∧ FzT K H M a xs ∧ RepDs K H M ds xs
  | .lst ds, v => ∃ a xs, v = .ref a ∧ FzL K H M a xs ∧ RepDs K H M ds xs
noncomputable def RepDs (K : KF) (H : Hp) (M : HpD) : List D → List V → Prop
  | [], xs => xs = []
  | d :: ds, xs => ∃ x r, xs = x :: r ∧ RepD K H M d x ∧ RepDs K H M ds r
end
noncomputable def CodeE (K : KF) (H : Hp) (M : HpD) (q : Str) (cv : Value) : Prop := ∃ c oc vs t, cv = .ref c ∧ H c = some (.frz oc (.own c)) ∧ M c = none ∧ ¬ K.F c ∧ oc.data = .fields vs ∧ vs[1]? = some (.str q t)
noncomputable def TabE (K : KF) (H : Hp) (M : HpD) (q : Str) (o : HO) : Prop := ∃ ps : Array Value, o = .tbl ps ∧ TriplesOk ps.toList ∧ ∀ pos cv, codeAmong pos ps.toList = some cv → CodeE K H M q cv
noncomputable def RepO (K : KF) (H : Hp) (M : HpD) : OD → HO → Prop
  | .lst ds, o => ∃ xs, o = .lst xs ∧ RepDs K H M ds xs
  | .dct kvs, o => ∃ vs : List (Key × V), o = .dK vs ∧ vs.map (·.1) = kvs.map (·.1) ∧ RepDs K H M (kvs.map (·.2)) (vs.map (·.2))
  | .tab q, o => TabE K H M q o
structure RepH (K : KF) (H : Hp) (M : HpD) : Prop where
  at_ : ∀ a o, M a = some o → ∃ o', H a = some o' ∧ RepO K H M o o'
  fb : ∀ a, K.F a → (∃ o, H a = some o) ∧ M a = none
noncomputable def Fz (M : HpD) (H : Hp) (M' : HpD) (H' : Hp) : Prop := ∀ a o, H a = some o → M a = none → H' a = some o ∧ M' a = none
section
variable {K : KF} {H H' H2 : Hp} {M M' M2 : HpD}
theorem Fz.refl : Fz M H M H := fun _ _ h m => ⟨h, m⟩
theorem Fz.trans (a : Fz M H M' H') (b : Fz M' H' M2 H2) : Fz M H M2 H2 := fun c o h m => b c o (a c o h m).1 (a c o h m).2
theorem Sq0 {a : Addr} {xs : List V} (h : SqL K.K (fun _ => none) a xs) (H : Hp) : SqL K.K H a xs := by
  rcases h with (h | ⟨o, h⟩) | h
  · cases h
  · cases h
  · exact .inr h
theorem St0 {a : Addr} {xs : List V} (h : SqT K.K (fun _ => none) a xs) (H : Hp) : SqT K.K H a xs := by
  rcases h with (h | ⟨o, h⟩) | h
  · cases h
  · cases h
  · exact .inr h
theorem FzL.sq {a : Addr} {xs : List V} (h : FzL K H M a xs) : SqL K.K H a xs := by
  rcases h with ⟨h, _⟩ | h
  · exact .inl h
  · exact Sq0 h H
theorem FzT.sq {a : Addr} {xs : List V} (h : FzT K H M a xs) : SqT K.K H a xs := by
  rcases h with ⟨h, _⟩ | h
  · exact .inl h
  · exact St0 h H
theorem Rd.fz {a : Addr} {u : HO} (h : Rd H a u) (m : M a = none) (f : Fz M H M' H') : Rd H' a u ∧ M' a = none := by
  rcases h with h | ⟨o, h⟩
  · exact ⟨.inl (f _ _ h m).1, (f _ _ h m).2⟩
  · exact ⟨.inr ⟨o, (f _ _ h m).1⟩, (f _ _ h m).2⟩
theorem FzL.mono {a : Addr} {xs : List V} (h : FzL K H M a xs) (f : Fz M H M' H') : FzL K H' M' a xs := by
  rcases h with ⟨h, m, n⟩ | h
  · exact .inl ⟨(h.fz m f).1, (h.fz m f).2, n⟩
  · exact .inr h
theorem FzT.mono {a : Addr} {xs : List V} (h : FzT K H M a xs) (f : Fz M H M' H') : FzT K H' M' a xs := by
  rcases h with ⟨h, m, n⟩ | h
  · exact .inl ⟨(h.fz m f).1, (h.fz m f).2, n⟩
  · exact .inr h
mutual
theorem RepD.mono (f : Fz M H M' H') : ∀ {d : D} {v : V}, RepD K H M d v → RepD K H' M' d v
  | .non, _, h => by unfold RepD at h ⊢; exact h
  | .bl _, _, h => by unfold RepD at h ⊢; exact h
  | .int _, _, h => by unfold RepD at h ⊢; exact h
  | .str _, _, h => by unfold RepD at h ⊢; exact h
  | .ref _, _, h => by unfold RepD at h ⊢; exact h
  | .ty _, _, h => by unfold RepD at h ⊢; exact h
  | .tup ds, _, h => by
    unfold RepD at h ⊢
    obtain ⟨a, xs, e, h1, h2⟩ := h
    exact ⟨a, xs, e, h1.mono f, RepDs.mono f h2⟩
  | .lst ds, _, h => by
    unfold RepD at h ⊢
    obtain ⟨a, xs, e, h1, h2⟩ := h
    exact ⟨a, xs, e, h1.mono f, RepDs.mono f h2⟩
theorem RepDs.mono (f : Fz M H M' H') : ∀ {ds : List D} {vs : List V}, RepDs K H M ds vs → RepDs K H' M' ds vs
  | [], _, h => by unfold RepDs at h ⊢; exact h
  | d :: ds, _, h => by
    unfold RepDs at h ⊢
    obtain ⟨x, r, e, h1, h2⟩ := h
    exact ⟨x, r, e, RepD.mono f h1, RepDs.mono f h2⟩
end
theorem RepDs.length : ∀ {ds : List D} {vs : List V}, RepDs K H M ds vs → ds.length = vs.length
  | [], _, h => by unfold RepDs at h; subst h; rfl
  | d :: ds, _, h => by
    unfold RepDs at h
    obtain ⟨x, r, e, _, h2⟩ := h
    rw [e, List.length_cons, List.length_cons, RepDs.length h2]
theorem RepDs.get : ∀ {ds : List D} {vs : List V} {i : Nat} {d : D}, RepDs K H M ds vs → ds[i]? = some d → ∃ v, vs[i]? = some v ∧ RepD K H M d v
  | [], _, _, _, _, e => by simp at e
  | d :: ds, _, 0, d', h, e => by
    unfold RepDs at h
    obtain ⟨x, r, e1, h1, h2⟩ := h
    simp at e; subst e; subst e1
    exact ⟨x, rfl, h1⟩
  | d :: ds, _, i + 1, d', h, e => by
    unfold RepDs at h
    obtain ⟨x, r, e1, h1, h2⟩ := h
    subst e1
    obtain ⟨v, q1, q2⟩ := RepDs.get (i := i) h2 (by simpa using e)
    exact ⟨v, by simpa using q1, q2⟩
theorem RepDs.nil : RepDs K H M [] [] := by unfold RepDs; rfl
theorem RepDs.cons {d : D} {ds : List D} {v : V} {vs : List V} (h1 : RepD K H M d v) (h2 : RepDs K H M ds vs) : RepDs K H M (d :: ds) (v :: vs) := by
  unfold RepDs; exact ⟨v, vs, rfl, h1, h2⟩
theorem RepDs.append : ∀ {ds es : List D} {vs us : List V}, RepDs K H M ds vs → RepDs K H M es us → RepDs K H M (ds ++ es) (vs ++ us)
  | [], _, _, _, h, g => by unfold RepDs at h; rw [h]; exact g
  | d :: ds, es, _, us, h, g => by
    unfold RepDs at h
    obtain ⟨x, r, e, h1, h2⟩ := h
    rw [e]
    exact .cons h1 (RepDs.append h2 g)
theorem RepDs.take : ∀ {ds : List D} {vs : List V} (n : Nat), RepDs K H M ds vs → RepDs K H M (ds.take n) (vs.take n)
  | _, _, 0, _ => by simp; exact .nil
  | [], _, n + 1, h => by unfold RepDs at h; rw [h]; exact .nil
  | d :: ds, _, n + 1, h => by
    unfold RepDs at h
    obtain ⟨x, r, e, h1, h2⟩ := h
    rw [e]
    exact .cons h1 (RepDs.take n h2)
theorem RepDs.drop : ∀ {ds : List D} {vs : List V} (n : Nat), RepDs K H M ds vs → RepDs K H M (ds.drop n) (vs.drop n)
  | _, _, 0, h => h
  | [], _, n + 1, h => by unfold RepDs at h; rw [h]; exact .nil
  | d :: ds, _, n + 1, h => by
    unfold RepDs at h
    obtain ⟨x, r, e, h1, h2⟩ := h
    rw [e]
    exact RepDs.drop n h2
theorem RepDs.set : ∀ {ds : List D} {vs : List V} {d : D} {v : V} (i : Nat), RepDs K H M ds vs → RepD K H M d v → RepDs K H M (ds.set i d) (vs.set i v)
  | [], _, _, _, _, h, _ => by unfold RepDs at h; rw [h]; exact .nil
  | d :: ds, _, _, _, 0, h, g => by
    unfold RepDs at h
    obtain ⟨x, r, e, h1, h2⟩ := h
    rw [e]
    exact .cons g h2
  | d :: ds, _, _, _, i + 1, h, g => by
    unfold RepDs at h
    obtain ⟨x, r, e, h1, h2⟩ := h
    rw [e]
    exact .cons h1 (RepDs.set i h2 g)
theorem RepH.free {a : Addr} (h : RepH K H M) (e : H a = none) : M a = none := by
  cases q : M a with
  | none => rfl
  | some o =>
    obtain ⟨o', e', _⟩ := h.at_ a o q
    rw [e] at e'; cases e'
theorem fz_new {p : Addr} {o : HO} (hp : H p = none) : Fz M H M (upd H p o) := fun a u e m => ⟨by rw [upd_ne (ne_of_none e hp)]; exact e, m⟩
theorem TabE.imp {K2 : KF} {q : Str} {o : HO} (h : TabE K H M q o) (i : ∀ c oc u, H c = some (.frz oc u) → M c = none → ¬ K.F c → H' c = some (.frz oc u) ∧ M' c = none ∧ ¬ K2.F c) : TabE K2 H' M' q o := by
  obtain ⟨ps, e, t, a⟩ := h
  refine ⟨ps, e, t, fun pos cv z => ?_⟩
  obtain ⟨c, oc, vs, t, e1, e2, e3, e4, e5⟩ := a pos cv z
  obtain ⟨k1, k2, k3⟩ := i c oc _ e2 e3 e4
  exact ⟨c, oc, vs, t, e1, k1, k2, k3, e5⟩
theorem RepO.mono {o : OD} {u : HO} (f : Fz M H M' H') (h : RepO K H M o u) : RepO K H' M' o u := by
  cases o with
  | lst ds =>
    obtain ⟨xs, e, r⟩ := h
    exact ⟨xs, e, r.mono f⟩
  | dct kvs =>
    obtain ⟨vs, e, k, r⟩ := h
    exact ⟨vs, e, k, r.mono f⟩
  | tab q => exact TabE.imp h fun c oc u e m n => ⟨(f c _ e m).1, (f c _ e m).2, n⟩
theorem RepH.new {p : Addr} {o : HO} (h : RepH K H M) (hp : H p = none) : RepH K (upd H p o) M := ⟨fun a u e => by
  obtain ⟨o', e', r⟩ := h.at_ a u e
  exact ⟨o', by rw [upd_ne (ne_of_none e' hp)]; exact e', r.mono (fz_new hp)⟩, fun a ha => by
  obtain ⟨⟨o', e'⟩, m'⟩ := h.fb a ha
  exact ⟨⟨o', by rw [upd_ne (ne_of_none e' hp)]; exact e'⟩, m'⟩⟩
theorem RepH.nf {p : Addr} (h : RepH K H M) (hp : H p = none) : ¬ K.F p := fun z => by
  obtain ⟨⟨o, e⟩, _⟩ := h.fb p z
  rw [hp] at e; cases e
theorem RepH.nfM {p : Addr} {d : OD} (h : RepH K H M) (hp : M p = some d) : ¬ K.F p := fun z => by
  rw [(h.fb p z).2] at hp; cases hp
theorem fz_newM {p : Addr} {o : HO} {d : OD} (hp : H p = none) (hm : M p = none) : Fz M H (updD M p d) (upd H p o) := fun a u e m =>
  ⟨by rw [upd_ne (ne_of_none e hp)]; exact e, by rw [updD_ne (ne_of_none e hp)]; exact m⟩
theorem RepH.newM {p : Addr} {o : HO} {d : OD} (h : RepH K H M) (hp : H p = none) (r : RepO K H M d o) : RepH K (upd H p o) (updD M p d) := ⟨fun a u e => by
  have hm := h.free hp
  by_cases q : a = p
  · subst q
    rw [updD_same] at e; cases e
    exact ⟨o, upd_same, r.mono (fz_newM hp hm)⟩
  · rw [updD_ne q] at e
    obtain ⟨o', e', r'⟩ := h.at_ a u e
    exact ⟨o', by rw [upd_ne q]; exact e', r'.mono (fz_newM hp hm)⟩, fun a ha => by
  obtain ⟨⟨o', e'⟩, m'⟩ := h.fb a ha
  have q := ne_of_none e' hp
  exact ⟨⟨o', by rw [upd_ne q]; exact e'⟩, by rw [updD_ne q]; exact m'⟩⟩
theorem fz_write {p : Addr} {o : HO} {d d' : OD} (hm : M p = some d) : Fz M H (updD M p d') (upd H p o) := fun a u e m => by
  have q : a ≠ p := fun z => by rw [z, hm] at m; cases m
  exact ⟨by rw [upd_ne q]; exact e, by rw [updD_ne q]; exact m⟩
theorem RepH.write {p : Addr} {o : HO} {d d' : OD} (h : RepH K H M) (hm : M p = some d) (r : RepO K H M d' o) : RepH K (upd H p o) (updD M p d') := ⟨fun a u e => by
  by_cases q : a = p
  · subst q
    rw [updD_same] at e; cases e
    exact ⟨o, upd_same, r.mono (fz_write hm)⟩
  · rw [updD_ne q] at e
    obtain ⟨o', e', r'⟩ := h.at_ a u e
    exact ⟨o', by rw [upd_ne q]; exact e', r'.mono (fz_write hm)⟩, fun a ha => by
  obtain ⟨⟨o', e'⟩, m'⟩ := h.fb a ha
  have q : a ≠ p := fun z => by rw [z, hm] at m'; cases m'
  exact ⟨⟨o', by rw [upd_ne q]; exact e'⟩, by rw [updD_ne q]; exact m'⟩⟩
theorem fz_del {p : Addr} : Fz M H (delD M p) H := fun a u e m => ⟨e, by unfold delD; split <;> first | rfl | exact m⟩
theorem RepH.del {p : Addr} (h : RepH K H M) : RepH K H (delD M p) := ⟨fun a u e => by
  have q : a ≠ p := fun z => by rw [z, delD_same] at e; cases e
  rw [delD_ne q] at e
  obtain ⟨o', e', r'⟩ := h.at_ a u e
  exact ⟨o', e', r'.mono fz_del⟩, fun a ha => ⟨(h.fb a ha).1, by unfold delD; split <;> first | rfl | exact (h.fb a ha).2⟩⟩
theorem RepD.frz {p : Addr} {ds : List D} (h : RepH K H M) (e : M p = some (.lst ds)) : RepD K H (delD M p) (.lst ds) (.ref p) := by
  obtain ⟨o', e', xs, rfl, r⟩ := h.at_ p _ e
  unfold RepD
  exact ⟨p, xs, rfl, .inl ⟨.inl e', delD_same, h.nfM e⟩, r.mono fz_del⟩
end
noncomputable abbrev SD := List (Option D)
noncomputable abbrev KD := D → HpD → Prop
noncomputable abbrev TDE := SD → HpD → KD → Prop
noncomputable abbrev TDT := SD → HpD → (Bool → HpD → Prop) → Prop
noncomputable abbrev TDA := SD → HpD → (List D → HpD → Prop) → Prop
structure EndsD where
  nx : SD → HpD → Prop
  rt : KD
  bk : SD → HpD → Prop := fun _ _ => False
  ct : SD → HpD → Prop := fun _ _ => False
noncomputable abbrev TSD := EndsD → SD → HpD → Prop
structure Rel (K : KF) (σD : SD) (M : HpD) (σ : St) (H : Hp) : Prop where
  len : σD.length = σ.length
  st : ∀ (i : Nat) d, σD[i]? = some (some d) → ∃ v, σ[i]? = some (some v) ∧ RepD K H M d v
  hp : RepH K H M
section
variable {K : KF} {H H' : Hp} {M M' : HpD} {σ : St} {σD : SD}
theorem Rel.mono (r : Rel K σD M σ H) (f : Fz M H M' H') (h : RepH K H' M') : Rel K σD M' σ H' :=
  ⟨r.len, fun i d e => let ⟨v, e1, e2⟩ := r.st i d e; ⟨v, e1, e2.mono f⟩, h⟩
theorem Rel.set (r : Rel K σD M σ H) {d : D} {v : V} (i : Nat) (h : RepD K H M d v) : Rel K (σD.set i (some d)) M (σ.set i (some v)) H := by
  refine ⟨by simp [r.len], fun j e q => ?_, r.hp⟩
  by_cases hj : i = j
  · subst hj
    have hi : i < σD.length := by
      have := (List.getElem?_eq_some_iff.mp q).1
      simpa using this
    rw [List.getElem?_set_self hi] at q
    cases q
    exact ⟨v, by rw [List.getElem?_set_self (by rw [← r.len]; exact hi)], h⟩
  · rw [List.getElem?_set_ne hj] at q
    obtain ⟨u, e1, e2⟩ := r.st j e q
    exact ⟨u, by rw [List.getElem?_set_ne hj]; exact e1, e2⟩
theorem Rel.pad (r : Rel K σD M σ H) (n : Nat) : Rel K (List.replicate n none ++ σD) M (List.replicate n none ++ σ) H := by
  refine ⟨by simp [r.len], fun j d q => ?_, r.hp⟩
  by_cases hj : j < n
  · rw [List.getElem?_append_left (by simpa using hj), List.getElem?_replicate, if_pos hj] at q
    cases q
  · rw [List.getElem?_append_right (by simpa using hj), List.length_replicate] at q
    obtain ⟨u, e1, e2⟩ := r.st _ d q
    exact ⟨u, by rw [List.getElem?_append_right (by simpa using hj), List.length_replicate]; exact e1, e2⟩
end
noncomputable def PostE (K : KF) (M : HpD) (H : Hp) (QD : KD) (Q : VK) : Prop := ∀ d M' v H', Fz M H M' H' → RepH K H' M' → RepD K H' M' d v → QD d M' → Q v H'
noncomputable def PostT (K : KF) (M : HpD) (H : Hp) (QD : Bool → HpD → Prop) (Q : Bool → Hp → Prop) : Prop := ∀ b M' H', Fz M H M' H' → RepH K H' M' → QD b M' → Q b H'
noncomputable def PostA (K : KF) (M : HpD) (H : Hp) (QD : List D → HpD → Prop) (Q : List V → Hp → Prop) : Prop := ∀ ds M' vs H', Fz M H M' H' → RepH K H' M' → RepDs K H' M' ds vs → QD ds M' → Q vs H'
structure PostS (K : KF) (M : HpD) (H : Hp) (DD : EndsD) (D' : Ends) : Prop where
  nx : ∀ σD' M' σ' H', Fz M H M' H' → Rel K σD' M' σ' H' → DD.nx σD' M' → D'.nx σ' H'
  rt : PostE K M H DD.rt D'.rt
  bk : ∀ σD' M' σ' H', Fz M H M' H' → Rel K σD' M' σ' H' → DD.bk σD' M' → D'.bk σ' H'
  ct : ∀ σD' M' σ' H', Fz M H M' H' → Rel K σD' M' σ' H' → DD.ct σD' M' → D'.ct σ' H'
noncomputable def LiftE (K : PySem.W.Frag) (t : TDE) : TE := fun σ H Q => ∃ F σD M QD, Rel ⟨K, F⟩ σD M σ H ∧ t σD M QD ∧ PostE ⟨K, F⟩ M H QD Q
noncomputable def LiftT (K : PySem.W.Frag) (t : TDT) : TT := fun σ H Q => ∃ F σD M QD, Rel ⟨K, F⟩ σD M σ H ∧ t σD M QD ∧ PostT ⟨K, F⟩ M H QD Q
noncomputable def LiftA (K : PySem.W.Frag) (t : TDA) : TA := fun σ H Q => ∃ F σD M QD, Rel ⟨K, F⟩ σD M σ H ∧ t σD M QD ∧ PostA ⟨K, F⟩ M H QD Q
noncomputable def LiftS (K : PySem.W.Frag) (t : TSD) : TS := fun D' σ H => ∃ F σD M DD, Rel ⟨K, F⟩ σD M σ H ∧ t DD σD M ∧ PostS ⟨K, F⟩ M H DD D'
section
variable {K : KF} {H H' : Hp} {M M' : HpD}
theorem PostE.mono {QD : KD} {Q : VK} (p : PostE K M H QD Q) (f : Fz M H M' H') : PostE K M' H' QD Q := fun d M2 v H2 f2 r q h => p d M2 v H2 (f.trans f2) r q h
theorem PostS.mono {DD : EndsD} {D' : Ends} (p : PostS K M H DD D') (f : Fz M H M' H') : PostS K M' H' DD D' :=
  ⟨fun a b c d f2 r h => p.nx a b c d (f.trans f2) r h, p.rt.mono f, fun a b c d f2 r h => p.bk a b c d (f.trans f2) r h, fun a b c d f2 r h => p.ct a b c d (f.trans f2) r h⟩
end
theorem PE.wk {X : Cx} {e : Expr} {t t' : TE} (h : PE X e t) (i : ∀ σ H Q, t' σ H Q → t σ H Q) : PE X e t' := fun pins s σ H Q I q => h pins s σ H Q I (i σ H Q q)
theorem PT.wk {X : Cx} {e : Expr} {t t' : TT} (h : PT X e t) (i : ∀ σ H Q, t' σ H Q → t σ H Q) : PT X e t' := fun pins s σ H Q I q => h pins s σ H Q I (i σ H Q q)
theorem PW.wk {X : Cx} {e : Expr} {t t' : TT} (h : PW X e t) (i : ∀ σ H Q, t' σ H Q → t σ H Q) : PW X e t' := fun wh pins s σ H Q I q => h wh pins s σ H Q I (i σ H Q q)
theorem PIfs.wk {X : Cx} {e : List Expr} {t t' : TT} (h : PIfs X e t) (i : ∀ σ H Q, t' σ H Q → t σ H Q) : PIfs X e t' := fun pins s σ H Q I q => h pins s σ H Q I (i σ H Q q)
theorem PA.wk {X : Cx} {e : List Expr} {t t' : TA} (h : PA X e t) (i : ∀ σ H Q, t' σ H Q → t σ H Q) : PA X e t' := fun pos pins s σ H Q I q => h pos pins s σ H Q I (i σ H Q q)
theorem PS.wk {X : Cx} {e : Stmt} {t t' : TS} (h : PS X e t) (i : ∀ D' σ H, t' D' σ H → t D' σ H) : PS X e t' := fun pins s σ H D' I q => h pins s σ H D' I (i D' σ H q)
theorem PSs.wk {X : Cx} {e : List Stmt} {t t' : TS} (h : PSs X e t) (i : ∀ D' σ H, t' D' σ H → t D' σ H) : PSs X e t' := fun pins s σ H D' I q => h pins s σ H D' I (i D' σ H q)
noncomputable abbrev ED (X : Cx) (e : Expr) (t : TDE) : Prop := PE X e (LiftE X.K t)
noncomputable abbrev TD (X : Cx) (e : Expr) (t : TDT) : Prop := PT X e (LiftT X.K t)
noncomputable abbrev WD (X : Cx) (e : Expr) (t : TDT) : Prop := PW X e (LiftT X.K t)
noncomputable abbrev FD (X : Cx) (e : List Expr) (t : TDT) : Prop := PIfs X e (LiftT X.K t)
noncomputable abbrev AD (X : Cx) (e : List Expr) (t : TDA) : Prop := PA X e (LiftA X.K t)
noncomputable abbrev StD (X : Cx) (st : Stmt) (t : TSD) : Prop := PS X st (LiftS X.K t)
noncomputable abbrev SsD (X : Cx) (st : List Stmt) (t : TSD) : Prop := PSs X st (LiftS X.K t)
end L2
namespace L2
open PySem PySem.Spec PyProof.Rows
section
variable {K : PySem.W.Frag} {F : Addr → Prop} {σ : St} {H : Hp} {σD : SD} {M : HpD}
theorem lE {ta : TDE} {QD : KD} {R : VK} (rel : Rel ⟨K, F⟩ σD M σ H) (h : ta σD M QD) (k : ∀ d M1 v H1, Fz M H M1 H1 → Rel ⟨K, F⟩ σD M1 σ H1 → RepD ⟨K, F⟩ H1 M1 d v → QD d M1 → R v H1) : LiftE K ta σ H R :=
  ⟨F, σD, M, QD, rel, h, fun d M1 v H1 f rh rd q => k d M1 v H1 f (rel.mono f rh) rd q⟩
theorem lT {ta : TDT} {QD : Bool → HpD → Prop} {R : Bool → Hp → Prop} (rel : Rel ⟨K, F⟩ σD M σ H) (h : ta σD M QD) (k : ∀ b M1 H1, Fz M H M1 H1 → Rel ⟨K, F⟩ σD M1 σ H1 → QD b M1 → R b H1) : LiftT K ta σ H R :=
  ⟨F, σD, M, QD, rel, h, fun b M1 H1 f rh q => k b M1 H1 f (rel.mono f rh) q⟩
theorem lA {ta : TDA} {QD : List D → HpD → Prop} {R : List V → Hp → Prop} (rel : Rel ⟨K, F⟩ σD M σ H) (h : ta σD M QD) (k : ∀ d M1 v H1, Fz M H M1 H1 → Rel ⟨K, F⟩ σD M1 σ H1 → RepDs ⟨K, F⟩ H1 M1 d v → QD d M1 → R v H1) : LiftA K ta σ H R :=
  ⟨F, σD, M, QD, rel, h, fun d M1 v H1 f rh rd q => k d M1 v H1 f (rel.mono f rh) rd q⟩
end
@[irreducible] noncomputable def tVarD (i : Nat) : TDE := fun σ M Q => ∃ d, σ[i]? = some (some d) ∧ Q d M
@[irreducible] noncomputable def tCD (d : D) : TDE := fun _ M Q => Q d M
theorem rd_var {i : Nat} {σ : SD} {M : HpD} {Q : KD} {d : D} (h : σ[i]? = some (some d)) (q : Q d M) : tVarD i σ M Q := by unfold tVarD; exact ⟨d, h, q⟩
theorem rd_c {σ : SD} {M : HpD} {Q : KD} {d : D} (q : Q d M) : tCD d σ M Q := by unfold tCD; exact q
section
variable {X : Cx} {pos : Pos}
theorem ed_var (i : Nat) {x : Str} (hN : X.N[i]? = some x) (hv : Vis X.env.scope x) (hd : (x == ("__debug__" : Str)) = false := by decide) (hcd : (x == ("__classdict__" : Str)) = false := by decide) : ED X (.Name x pos) (tVarD i) := by
  refine (pe_var hN hv hd hcd).wk fun σ H Q w1_ => w1_.elim fun F z_ => z_.elim fun σD z_ => z_.elim fun M z_ => z_.elim fun QD z_ => z_.elim fun rel z_ => z_.elim fun h p => ?_
  unfold tVarD at h
  obtain ⟨d, e, q⟩ := h
  obtain ⟨v, e1, e2⟩ := rel.st i d e
  exact ⟨v, e1, p d M v H .refl rel.hp e2 q⟩
theorem ed_c {e : Expr} {v : V} {d : D} (h : PE X e (tC v)) (r : ∀ F H M, RepD ⟨X.K, F⟩ H M d v) : ED X e (tCD d) := by
  refine h.wk fun σ H Q w1_ => w1_.elim fun F z_ => z_.elim fun σD z_ => z_.elim fun M z_ => z_.elim fun QD z_ => z_.elim fun rel z_ => z_.elim fun h p => ?_
  unfold tCD at h
  exact p d M v H .refl rel.hp (r F H M) h
theorem ed_int {i j} : ED X (.Constant (.int i) j pos) (tCD (.int i)) := ed_c pe_int fun _ _ _ => by unfold RepD; rfl
theorem ed_bl {b j} : ED X (.Constant (.bool b) j pos) (tCD (.bl b)) := ed_c pe_bl fun _ _ _ => by unfold RepD; rfl
theorem ed_str {x j} : ED X (.Constant (.str x) j pos) (tCD (.str x)) := ed_c pe_str fun _ _ _ => by unfold RepD; rfl
theorem ed_globI {x : Str} {i : Int} {t : Tok} (hg : Gl X x) (hm : X.mg x = some (.int i t)) (hd : (x == ("__debug__" : Str)) = false := by decide) : ED X (.Name x pos) (tCD (.int i)) :=
  ed_c (pe_glob (v := .int i) hg hm ⟨t, rfl⟩ hd) fun _ _ _ => by unfold RepD; rfl
end
noncomputable abbrev RD2 := D → D → HpD → KD → Prop
noncomputable def LiftR (K : PySem.W.Frag) (r : RD2) : R2 := fun x y H Q => ∃ F d e M QD, RepD ⟨K, F⟩ H M d x ∧ RepD ⟨K, F⟩ H M e y ∧ RepH ⟨K, F⟩ H M ∧ r d e M QD ∧ PostE ⟨K, F⟩ M H QD Q
@[irreducible] noncomputable def tOpD (r : RD2) (ta tb : TDE) : TDE := fun σ M Q => ta σ M fun x M1 => tb σ M1 fun y M2 => r x y M2 Q
theorem rd_op {r : RD2} {ta tb : TDE} {σ : SD} {M : HpD} {Q : KD} (h : ta σ M fun x M1 => tb σ M1 fun y M2 => r x y M2 Q) : tOpD r ta tb σ M Q := by unfold tOpD; exact h
theorem lift_op {K : PySem.W.Frag} {r : RD2} {ta tb : TDE} {σ : St} {H : Hp} {Q : VK} (h : LiftE K (tOpD r ta tb) σ H Q) : tOp (LiftR K r) (LiftE K ta) (LiftE K tb) σ H Q := by
  obtain ⟨F, σD, M, QD, rel, h, p⟩ := h
  unfold tOpD at h
  refine lE rel h fun d M1 v H1 f1 rel1 r1 h1 => ?_
  refine lE rel1 h1 fun e M2 u H2 f2 rel2 r2 h2 => ?_
  exact ⟨F, d, e, M2, QD, r1.mono f2, r2, rel2.hp, h2, p.mono (f1.trans f2)⟩
theorem OpR.wk {X : Cx} {f : Value → Value → Sem Value} {r r' : R2} (h : OpR X f r) (i : ∀ x y H Q, r' x y H Q → r x y H Q) : OpR X f r' := fun pins s σ H x y v u Q I rx ry q => h pins s σ H x y v u Q I rx ry (i _ _ _ _ q)
@[irreducible] noncomputable def rID (C : Int → Int → Prop) (g : Int → Int → D) : RD2 := fun x y M Q => ∃ i j, x = .int i ∧ y = .int j ∧ C i j ∧ Q (g i j) M
theorem rd_rI {C : Int → Int → Prop} {g : Int → Int → D} {i j : Int} {M : HpD} {Q : KD} (c : C i j) (q : Q (g i j) M) : rID C g (.int i) (.int j) M Q := by unfold rID; exact ⟨i, j, rfl, rfl, c, q⟩
@[irreducible] noncomputable def rIN (g : Int → Int → D) : RD2 := fun x y M Q => ∃ i j, x = .int i ∧ y = .int j ∧ Q (g i j) M
theorem rd_rN {g : Int → Int → D} {i j : Int} {M : HpD} {Q : KD} (q : Q (g i j) M) : rIN g (.int i) (.int j) M Q := by unfold rIN; exact ⟨i, j, rfl, rfl, q⟩
section
variable {X : Cx} {a b : Expr} {ta tb : TDE} {pos : Pos}
theorem ed_op {op : Operator} {r : RD2} (ho : OpR X (binaryOp op) (LiftR X.K r)) (ha : ED X a ta) (hb : ED X b tb) : ED X (.BinOp a op b pos) (tOpD r ta tb) := (pe_op ho ha hb).wk fun _ _ _ h => lift_op h
theorem lift_rI {f : Value → Value → Sem Value} {C : Int → Int → Prop} {g : Int → Int → V} {gD : Int → Int → D} (h : OpR X f (rI C g)) (hg : ∀ i j F H M, RepD ⟨X.K, F⟩ H M (gD i j) (g i j)) : OpR X f (LiftR X.K (rID C gD)) := by
  refine h.wk fun x y H Q w1_ => w1_.elim fun F z_ => z_.elim fun d z_ => z_.elim fun e z_ => z_.elim fun M z_ => z_.elim fun QD z_ => z_.elim fun r1 z_ => z_.elim fun r2 z_ => z_.elim fun rh z_ => z_.elim fun hq p => ?_
  unfold rID at hq
  obtain ⟨i, j, rfl, rfl, c, q⟩ := hq
  unfold RepD at r1 r2
  exact ⟨i, j, r1, r2, c, p _ M _ H .refl rh (hg i j F H M) q⟩
theorem lift_rN {f : Value → Value → Sem Value} {g : Int → Int → V} {gD : Int → Int → D} (h : OpR X f (rI0 g)) (hg : ∀ i j F H M, RepD ⟨X.K, F⟩ H M (gD i j) (g i j)) : OpR X f (LiftR X.K (rIN gD)) := by
  refine h.wk fun x y H Q w1_ => w1_.elim fun F z_ => z_.elim fun d z_ => z_.elim fun e z_ => z_.elim fun M z_ => z_.elim fun QD z_ => z_.elim fun r1 z_ => z_.elim fun r2 z_ => z_.elim fun rh z_ => z_.elim fun hq p => ?_
  unfold rIN at hq
  obtain ⟨i, j, rfl, rfl, q⟩ := hq
  unfold RepD at r1 r2
  exact ⟨i, j, r1, r2, p _ M _ H .refl rh (hg i j F H M) q⟩
theorem od_add : OpR X (binaryOp .Add) (LiftR X.K (rIN fun i j => .int (i + j))) := lift_rN op_add fun _ _ _ _ _ => by unfold RepD; rfl
theorem od_sub : OpR X (binaryOp .Sub) (LiftR X.K (rIN fun i j => .int (i - j))) := lift_rN op_sub fun _ _ _ _ _ => by unfold RepD; rfl
theorem od_mul : OpR X (binaryOp .Mult) (LiftR X.K (rID CMul fun i j => .int (i * j))) := lift_rI op_mul fun _ _ _ _ _ => by unfold RepD; rfl
theorem od_fdiv : OpR X (binaryOp .FloorDiv) (LiftR X.K (rID CDiv fun i j => .int (i / j))) := lift_rI op_fdiv fun _ _ _ _ _ => by unfold RepD; rfl
theorem od_mod : OpR X (binaryOp .Mod) (LiftR X.K (rID (fun _ j => 0 < j) fun i j => .int (i % j))) := lift_rI op_mod fun _ _ _ _ _ => by unfold RepD; rfl
theorem od_pow : OpR X (binaryOp .Pow) (LiftR X.K (rID CPow fun i j => .int (i ^ j.toNat))) := lift_rI op_pow fun _ _ _ _ _ => by unfold RepD; rfl
theorem od_lt : OpR X (compareOp .Lt) (LiftR X.K (rIN fun i j => .bl (decide (i < j)))) := lift_rN op_lt fun _ _ _ _ _ => by unfold RepD; rfl
theorem od_le : OpR X (compareOp .LtE) (LiftR X.K (rIN fun i j => .bl (decide (i ≤ j)))) := lift_rN op_le fun _ _ _ _ _ => by unfold RepD; rfl
theorem od_gt : OpR X (compareOp .Gt) (LiftR X.K (rIN fun i j => .bl (decide (j < i)))) := lift_rN op_gt fun _ _ _ _ _ => by unfold RepD; rfl
theorem od_ge : OpR X (compareOp .GtE) (LiftR X.K (rIN fun i j => .bl (decide (j ≤ i)))) := lift_rN op_ge fun _ _ _ _ _ => by unfold RepD; rfl
@[irreducible] noncomputable def rEqD (neg : Bool) : RD2 := fun x y M Q => (∃ i j, x = .int i ∧ y = .int j ∧ Q (.bl (neg ^^ decide (i = j))) M) ∨ (∃ i j, x = .bl i ∧ y = .bl j ∧ Q (.bl (neg ^^ decide (i = j))) M) ∨ (∃ i j, x = .str i ∧ y = .str j ∧ Q (.bl (neg ^^ decide (i = j))) M)
theorem rd_eqS {neg : Bool} {i j : Str} {M : HpD} {Q : KD} (q : Q (.bl (neg ^^ decide (i = j))) M) : rEqD neg (.str i) (.str j) M Q := by unfold rEqD; exact .inr (.inr ⟨i, j, rfl, rfl, q⟩)
theorem decV_int {i j : Int} : decide (V.int i = V.int j) = decide (i = j) := by
  by_cases h : i = j
  · subst h; simp
  · have : V.int i ≠ V.int j := fun e => h (by injection e)
    simp [h, this]
theorem decV_bl {i j : Bool} : decide (V.bl i = V.bl j) = decide (i = j) := by cases i <;> cases j <;> rfl
theorem decV_str {i j : Str} : decide (V.str i = V.str j) = decide (i = j) := by
  by_cases h : i = j
  · subst h; simp
  · have : V.str i ≠ V.str j := fun e => h (by injection e)
    simp [h, this]
theorem ed_cmp {op : CmpOp} {r : RD2} (ho : OpR X (compareOp op) (LiftR X.K r)) (ha : ED X a ta) (hb : ED X b tb) (hm : behindInMarks op b = false := by first | exact nomark _ | rfl) : ED X (.Compare a [op] [b] pos) (tOpD r ta tb) :=
  (pe_cmpR ho ha hb hm).wk fun _ _ _ h => lift_op h
@[irreducible] noncomputable def tTestD (t : TDE) : TDT := fun σ M Q => t σ M fun x M' => ∃ k, x = .bl k ∧ Q k M'
theorem rd_test {t : TDE} {σ : SD} {M : HpD} {Q : Bool → HpD → Prop} (h : t σ M fun x M' => ∃ k, x = .bl k ∧ Q k M') : tTestD t σ M Q := by unfold tTestD; exact h
theorem td_cmp {op : CmpOp} {r : RD2} (ho : OpR X (compareOp op) (LiftR X.K r)) (ha : ED X a ta) (hb : ED X b tb) (hm : behindInMarks op b = false := by first | exact nomark _ | rfl) : TD X (.Compare a [op] [b] pos) (tTestD (tOpD r ta tb)) := by
  refine (pt_cmpR ho ha hb hm).wk fun σ H Q h => ?_
  obtain ⟨F, σD, M, QD, rel, h, p⟩ := h
  unfold tTestD tOpD at h
  show (tOp (LiftR X.K r) (LiftE X.K ta) (LiftE X.K tb)) σ H fun x H' => ∃ k, x = .bl k ∧ Q k H'
  refine lE rel h fun d M1 v H1 f1 rel1 r1 h1 => ?_
  refine lE rel1 h1 fun e M2 u H2 f2 rel2 r2 h2 => ?_
  exact ⟨F, d, e, M2, _, r1.mono f2, r2, rel2.hp, h2, fun x M3 v3 H3 f3 rh3 r3 w1_ => w1_.elim fun k z_ => z_.elim fun e3 q3 => ⟨k, by subst e3; unfold RepD at r3; exact r3, p k M3 H3 ((f1.trans f2).trans f3) rh3 q3⟩⟩
@[irreducible] noncomputable def truD : D → HpD → Bool → Prop := fun d M k => match d with
  | .non => k = false
  | .bl b => k = b
  | .int i => k = (i != 0)
  | .str y => y.length ≤ sizeLine ∧ k = ((y.length : Int) != 0)
  | .lst ds => k = !ds.isEmpty
  | .tup ds => k = !ds.isEmpty
  | .ref p => ∃ ds, M p = some (.lst ds) ∧ k = !ds.isEmpty
  | _ => False
@[irreducible] noncomputable def tTruD (t : TDE) : TDT := fun σ M Q => t σ M fun x M' => ∃ k, truD x M' k ∧ Q k M'
theorem rd_tru {t : TDE} {σ : SD} {M : HpD} {Q : Bool → HpD → Prop} (h : t σ M fun x M' => ∃ k, truD x M' k ∧ Q k M') : tTruD t σ M Q := by unfold tTruD; exact h
theorem isE_of {K : KF} {H : Hp} {M : HpD} {ds : List D} {xs : List V} (r : RepDs K H M ds xs) : (!ds.isEmpty) = !xs.isEmpty := by
  have := r.length
  cases ds <;> cases xs <;> simp_all
theorem td_tru {e : Expr} {t : TDE} (h : ED X e t) (he : ∀ whole, isTrue e X.env whole = (do let v ← whole; standAt e.pos; holding [v] (truthy v)) := by intro _; rfl) : TD X e (tTruD t) := by
  refine (pt_truth h he).wk fun σ H Q h => ?_
  obtain ⟨F, σD, M, QD, rel, h, p⟩ := h
  unfold tTruD at h
  refine lE rel h fun d M1 v H1 f1 rel1 r1 h1 => ?_
  obtain ⟨k, tr, q⟩ := h1
  refine ⟨k, ?_, p k M1 H1 f1 rel1.hp q⟩
  unfold truD at tr
  cases d with
  | non => unfold RepD at r1; subst r1; exact tr
  | bl b => unfold RepD at r1; subst r1; exact tr
  | int b => unfold RepD at r1; subst r1; exact tr
  | str b => unfold RepD at r1; subst r1; exact tr
  | ref a =>
    unfold RepD at r1; subst r1
    obtain ⟨ds, e1, e2⟩ := tr
    obtain ⟨o', e', xs, rfl, r⟩ := rel1.hp.at_ a _ e1
    exact .inl ⟨xs, .inl (.inl e'), by rw [e2]; exact isE_of r⟩
  | ty n => exact False.elim tr
  | tup ds =>
    unfold RepD at r1
    obtain ⟨a, xs, rfl, h1, h2⟩ := r1
    exact .inr (.inl ⟨xs, h1.sq, by rw [show k = _ from tr]; exact isE_of h2⟩)
  | lst ds =>
    unfold RepD at r1
    obtain ⟨a, xs, rfl, h1, h2⟩ := r1
    exact .inl ⟨xs, h1.sq, by rw [show k = _ from tr]; exact isE_of h2⟩
@[irreducible] noncomputable def tAndD (t u : TDT) : TDT := fun σ M Q => t σ M fun c M1 => if c = true then u σ M1 Q else Q false M1
@[irreducible] noncomputable def tOrD (t u : TDT) : TDT := fun σ M Q => t σ M fun c M1 => if c = true then Q true M1 else u σ M1 Q
theorem rd_and {t u : TDT} {σ : SD} {M : HpD} {Q : Bool → HpD → Prop} (h : t σ M fun c M1 => if c = true then u σ M1 Q else Q false M1) : tAndD t u σ M Q := by unfold tAndD; exact h
theorem rd_or {t u : TDT} {σ : SD} {M : HpD} {Q : Bool → HpD → Prop} (h : t σ M fun c M1 => if c = true then Q true M1 else u σ M1 Q) : tOrD t u σ M Q := by unfold tOrD; exact h
variable {rest : List Expr} {tA tB' : TDT}
theorem wd_and1 (ha : TD X a tA) : WD X (.BoolOp .And [a] pos) tA := pw_and1 ha
theorem wd_or1 (ha : TD X a tA) : WD X (.BoolOp .Or [a] pos) tA := pw_or1 ha
theorem wd_and (ha : TD X a tA) (hb : WD X (.BoolOp .And (b :: rest) pos) tB') : WD X (.BoolOp .And (a :: b :: rest) pos) (tAndD tA tB') := by
  refine (pw_and ha hb).wk fun σ H Q h => ?_
  obtain ⟨F, σD, M, QD, rel, h, p⟩ := h
  unfold tAndD at h
  refine lT rel h fun c M1 H1 f1 rel1 h1 => ?_
  cases c with
  | true => simp only [if_true] at h1 ⊢; exact lT rel1 h1 fun k M2 H2 f2 rel2 h2 => p k M2 H2 (f1.trans f2) rel2.hp h2
  | false => simp only [Bool.false_eq_true, if_false] at h1 ⊢; exact p _ M1 H1 f1 rel1.hp h1
theorem wd_or (ha : TD X a tA) (hb : WD X (.BoolOp .Or (b :: rest) pos) tB') : WD X (.BoolOp .Or (a :: b :: rest) pos) (tOrD tA tB') := by
  refine (pw_or ha hb).wk fun σ H Q h => ?_
  obtain ⟨F, σD, M, QD, rel, h, p⟩ := h
  unfold tOrD at h
  refine lT rel h fun c M1 H1 f1 rel1 h1 => ?_
  cases c with
  | true => simp only [if_true] at h1 ⊢; exact p _ M1 H1 f1 rel1.hp h1
  | false => simp only [Bool.false_eq_true, if_false] at h1 ⊢; exact lT rel1 h1 fun k M2 H2 f2 rel2 h2 => p k M2 H2 (f1.trans f2) rel2.hp h2
theorem td_w (h : WD X a tA) : TD X a tA := h.pt
@[irreducible] noncomputable def tAndVD (ta tb : TDE) : TDE := fun σ M Q => ta σ M fun x M1 => ∃ c, x = .bl c ∧ if c = true then tb σ M1 Q else Q (.bl false) M1
theorem rd_andV {ta tb : TDE} {σ : SD} {M : HpD} {Q : KD} (h : ta σ M fun x M1 => ∃ c, x = .bl c ∧ if c = true then tb σ M1 Q else Q (.bl false) M1) : tAndVD ta tb σ M Q := by unfold tAndVD; exact h
theorem ed_one {op} {t : TDE} (h : ED X a t) : ED X (.BoolOp op [a] pos) t := pe_one h
theorem ed_and (ha : ED X a ta) (hb : ED X (.BoolOp .And (b :: rest) pos) tb) : ED X (.BoolOp .And (a :: b :: rest) pos) (tAndVD ta tb) := by
  refine (pe_and ha hb).wk fun σ H Q h => ?_
  obtain ⟨F, σD, M, QD, rel, h, p⟩ := h
  unfold tAndVD at h
  refine lE rel h fun d M1 v H1 f1 rel1 r1 h1 => ?_
  obtain ⟨c, rfl, h1⟩ := h1
  unfold RepD at r1
  refine ⟨c, r1, ?_⟩
  cases c with
  | true => simp only [if_true] at h1 ⊢; exact lE rel1 h1 fun k M2 v2 H2 f2 rel2 r2 h2 => p k M2 v2 H2 (f1.trans f2) rel2.hp r2 h2
  | false => simp only [Bool.false_eq_true, if_false] at h1 ⊢; exact p _ M1 _ H1 f1 rel1.hp (by unfold RepD; rfl) h1
end
end L2
namespace L2
open PySem PySem.Spec PyProof.Rows
@[irreducible] noncomputable def tNilD : TDA := fun _ M Q => Q [] M
@[irreducible] noncomputable def tConsD (ta : TDE) (tr : TDA) : TDA := fun σ M Q => ta σ M fun x M1 => tr σ M1 fun xs M2 => Q (x :: xs) M2
theorem rd_nil {σ : SD} {M : HpD} {Q : List D → HpD → Prop} (h : Q [] M) : tNilD σ M Q := by unfold tNilD; exact h
theorem rd_cons {ta : TDE} {tr : TDA} {σ : SD} {M : HpD} {Q : List D → HpD → Prop} (h : ta σ M fun x M1 => tr σ M1 fun xs M2 => Q (x :: xs) M2) : tConsD ta tr σ M Q := by unfold tConsD; exact h
@[irreducible] noncomputable def newL (ds : List D) (M : HpD) (Q : KD) : Prop := ds.length ≤ sizeLine ∧ (Q (.lst ds) M ∨ ∀ p, M p = none → Q (.ref p) (updD M p (.lst ds)))
theorem newF {ds : List D} {M : HpD} {Q : KD} (h : ds.length ≤ sizeLine) (q : Q (.lst ds) M) : newL ds M Q := by unfold newL; exact ⟨h, .inl q⟩
theorem newM {ds : List D} {M : HpD} {Q : KD} (h : ds.length ≤ sizeLine) (q : ∀ p, M p = none → Q (.ref p) (updD M p (.lst ds))) : newL ds M Q := by unfold newL; exact ⟨h, .inr q⟩
section
variable {K : KF} {H : Hp} {M : HpD}
theorem newL.post {ds : List D} {QD : KD} {Q : VK} {xs : List V} (h : newL ds M QD) (p : PostE K M H QD Q) (rh : RepH K H M) (r : RepDs K H M ds xs) : xs.length ≤ sizeLine ∧ ∀ l, H l = none → Q (.ref l) (upd H l (.lst xs)) := by
  unfold newL at h
  obtain ⟨hl, h⟩ := h
  refine ⟨by rw [← r.length]; exact hl, fun l e => ?_⟩
  rcases h with h | h
  · exact p _ M _ _ (fz_new e) (rh.new e) (by unfold RepD; exact ⟨l, xs, rfl, .inl ⟨.inl upd_same, rh.free e, rh.nf e⟩, r.mono (fz_new e)⟩) h
  · exact p _ (updD M l (.lst ds)) _ _ (fz_newM e (rh.free e)) (rh.newM e ⟨xs, rfl, r⟩) (by unfold RepD; rfl) (h l (rh.free e))
end
@[irreducible] noncomputable def tTupD (t : TDA) : TDE := fun σ M Q => t σ M fun ds M1 => ds.length ≤ sizeLine ∧ Q (.tup ds) M1
@[irreducible] noncomputable def tLstD (t : TDA) : TDE := fun σ M Q => t σ M fun ds M1 => newL ds M1 Q
theorem rd_tup {t : TDA} {σ : SD} {M : HpD} {Q : KD} (h : t σ M fun ds M1 => ds.length ≤ sizeLine ∧ Q (.tup ds) M1) : tTupD t σ M Q := by unfold tTupD; exact h
theorem rd_lst {t : TDA} {σ : SD} {M : HpD} {Q : KD} (h : t σ M fun ds M1 => newL ds M1 Q) : tLstD t σ M Q := by unfold tLstD; exact h
section
variable {X : Cx} {e : Expr} {es : List Expr} {te : TDE} {t : TDA} {pos : Pos}
theorem ad_nil : AD X [] tNilD := by
  refine pa_nil.wk fun σ H Q w1_ => w1_.elim fun F z_ => z_.elim fun σD z_ => z_.elim fun M z_ => z_.elim fun QD z_ => z_.elim fun rel z_ => z_.elim fun h p => ?_
  unfold tNilD at h
  exact p _ M _ H .refl rel.hp .nil h
theorem ad_cons (ha : ED X e te) (hr : AD X es t) (hs : starEach (e :: es) X.env = (false, eval e X.env) :: starEach es X.env := by rfl) : AD X (e :: es) (tConsD te t) := by
  refine (pa_cons ha hr hs).wk fun σ H Q w1_ => w1_.elim fun F z_ => z_.elim fun σD z_ => z_.elim fun M z_ => z_.elim fun QD z_ => z_.elim fun rel z_ => z_.elim fun h p => ?_
  unfold tConsD at h
  refine lE rel h fun d M1 v H1 f1 rel1 r1 h1 => ?_
  exact lA rel1 h1 fun ds M2 vs H2 f2 rel2 r2 h2 => p _ M2 _ H2 (f1.trans f2) rel2.hp (.cons (r1.mono f2) r2) h2
theorem ed_tup {x1} (h : AD X es t) : ED X (.Tuple es x1 pos) (tTupD t) := by
  refine (pe_tup h).wk fun σ H Q w1_ => w1_.elim fun F z_ => z_.elim fun σD z_ => z_.elim fun M z_ => z_.elim fun QD z_ => z_.elim fun rel z_ => z_.elim fun h p => ?_
  unfold tTupD at h
  refine lA rel h fun ds M1 vs H1 f1 rel1 r1 h1 => ?_
  refine ⟨by rw [← r1.length]; exact h1.1, fun l e => ?_⟩
  exact p _ M1 _ _ (f1.trans (fz_new e)) (rel1.hp.new e) (by unfold RepD; exact ⟨l, vs, rfl, .inl ⟨.inl upd_same, rel1.hp.free e, rel1.hp.nf e⟩, r1.mono (fz_new e)⟩) h1.2
theorem ed_lst (h : AD X es t) : ED X (.List es pos) (tLstD t) := by
  refine (pe_lst h).wk fun σ H Q w1_ => w1_.elim fun F z_ => z_.elim fun σD z_ => z_.elim fun M z_ => z_.elim fun QD z_ => z_.elim fun rel z_ => z_.elim fun h p => ?_
  unfold tLstD at h
  exact lA rel h fun ds M1 vs H1 f1 rel1 r1 h1 => h1.post (p.mono f1) rel1.hp r1
end
noncomputable def itemsD : D → HpD → Option (List D)
  | .lst ds, _ => some ds
  | .tup ds, _ => some ds
  | .ref p, M => match M p with | some (.lst ds) => some ds | _ => none
  | _, _ => none
theorem items_ref {p : Addr} {M : HpD} {ds : List D} (h : M p = some (.lst ds)) : itemsD (.ref p) M = some ds := by simp only [itemsD, h]
theorem items_rep {K : KF} {H : Hp} {M : HpD} {d : D} {v : V} {ds : List D} (rh : RepH K H M) (r : RepD K H M d v) (e : itemsD d M = some ds) : ∃ p xs, v = .ref p ∧ (SqL K.K H p xs ∨ SqT K.K H p xs) ∧ RepDs K H M ds xs := by
  cases d with
  | lst ds' =>
    cases e
    unfold RepD at r
    obtain ⟨a, xs, rfl, h1, h2⟩ := r
    exact ⟨a, xs, rfl, .inl h1.sq, h2⟩
  | tup ds' =>
    cases e
    unfold RepD at r
    obtain ⟨a, xs, rfl, h1, h2⟩ := r
    exact ⟨a, xs, rfl, .inr h1.sq, h2⟩
  | ref p =>
    cases q : M p with
    | none => simp only [itemsD, q] at e; cases e
    | some o =>
      cases o with
      | lst es =>
        simp only [itemsD, q] at e; cases e
        obtain ⟨o', e', xs, rfl, h2⟩ := rh.at_ p _ q
        unfold RepD at r
        exact ⟨p, xs, r, .inl (.inl (.inl e')), h2⟩
      | dct kvs => simp only [itemsD, q] at e; cases e
      | tab _ => simp only [itemsD, q] at e; cases e
  | _ => cases e
theorem atI_rep {K : KF} {H : Hp} {M : HpD} {ds : List D} {xs : List V} {i : Int} {d : D} (r : RepDs K H M ds xs) (e : atI ds i = some d) : ∃ v, atI xs i = some v ∧ RepD K H M d v := by
  unfold atI at e ⊢
  rw [← r.length]
  cases q : ixN ds.length i with
  | none => rw [q] at e; cases e
  | some j =>
    rw [q] at e
    exact r.get e
@[irreducible] noncomputable def rIxD : RD2 := fun x y M Q => ∃ ds i d, y = .int i ∧ itemsD x M = some ds ∧ atI ds i = some d ∧ Q d M
theorem rd_ix {x : D} {i : Int} {M : HpD} {Q : KD} {ds : List D} {d : D} (h : itemsD x M = some ds) (e : atI ds i = some d) (q : Q d M) : rIxD x (.int i) M Q := by unfold rIxD; exact ⟨ds, i, d, rfl, h, e, q⟩
theorem IxR.wk {X : Cx} {r r' : R2} (h : IxR X r) (i : ∀ x y H Q, r' x y H Q → r x y H Q) : IxR X r' := fun va sl pins s σ H x y v u Q I rx ry q => h va sl pins s σ H x y v u Q I rx ry (i _ _ _ _ q)
section
variable {X : Cx} {a b : Expr} {ta tb : TDE} {pos : Pos}
theorem xd_ix : IxR X (LiftR X.K rIxD) := by
  refine (ix_list.or ix_tup).wk fun x y H Q w1_ => w1_.elim fun F z_ => z_.elim fun d z_ => z_.elim fun e z_ => z_.elim fun M z_ => z_.elim fun QD z_ => z_.elim fun r1 z_ => z_.elim fun r2 z_ => z_.elim fun rh z_ => z_.elim fun hq p => ?_
  unfold rIxD at hq
  obtain ⟨ds, i, z, rfl, e1, e2, q⟩ := hq
  unfold RepD at r2
  obtain ⟨a, xs, rfl, hs, r⟩ := items_rep rh r1 e1
  obtain ⟨v, e3, r3⟩ := atI_rep r e2
  rcases hs with hs | hs
  · exact .inl ⟨a, xs, i, v, rfl, r2, hs, e3, p _ M _ H .refl rh r3 q⟩
  · exact .inr ⟨a, xs, i, v, rfl, r2, hs, e3, p _ M _ H .refl rh r3 q⟩
theorem ed_ix (ha : ED X a ta) (hb : ED X b tb) (hs : PlainIx b := by exact fun _ _ => rfl) : ED X (.Subscript a b pos) (tOpD rIxD ta tb) := (pe_ix xd_ix ha hb hs).wk fun _ _ _ h => lift_op h
end
noncomputable abbrev TDO := SD → HpD → (Option Int → HpD → Prop) → Prop
noncomputable def LiftO (K : PySem.W.Frag) (t : TDO) : TO := fun σ H Q => ∃ F σD M QD, Rel ⟨K, F⟩ σD M σ H ∧ t σD M QD ∧ ∀ b M' H', Fz M H M' H' → RepH ⟨K, F⟩ H' M' → QD b M' → Q b H'
@[irreducible] noncomputable def tNoPartD : TDO := fun _ M Q => Q none M
@[irreducible] noncomputable def tPartD (t : TDE) : TDO := fun σ M Q => t σ M fun x M1 => ∃ i, x = .int i ∧ Q (some i) M1
theorem rd_nopart {σ : SD} {M : HpD} {Q : Option Int → HpD → Prop} (h : Q none M) : tNoPartD σ M Q := by unfold tNoPartD; exact h
theorem rd_part {t : TDE} {σ : SD} {M : HpD} {Q : Option Int → HpD → Prop} (h : t σ M fun x M1 => ∃ i, x = .int i ∧ Q (some i) M1) : tPartD t σ M Q := by unfold tPartD; exact h
theorem PO.wk {X : Cx} {e : Option Expr} {t t' : TO} (h : PO X e t) (i : ∀ σ H Q, t' σ H Q → t σ H Q) : PO X e t' := fun pins s σ H Q I q => h pins s σ H Q I (i σ H Q q)
noncomputable def cutD (ds : List D) (lo hi : Option Int) : List D := (ds.drop (HT.sIx ds.length 0 lo)).take (HT.sIx ds.length ds.length hi - HT.sIx ds.length 0 lo)
noncomputable def listD : D → HpD → Option (List D)
  | .lst ds, _ => some ds
  | .ref p, M => match M p with | some (.lst ds) => some ds | _ => none
  | _, _ => none
theorem list_ref {p : Addr} {M : HpD} {ds : List D} (h : M p = some (.lst ds)) : listD (.ref p) M = some ds := by simp only [listD, h]
theorem list_rep {K : KF} {H : Hp} {M : HpD} {d : D} {v : V} {ds : List D} (rh : RepH K H M) (r : RepD K H M d v) (e : listD d M = some ds) : ∃ p xs, v = .ref p ∧ SqL K.K H p xs ∧ RepDs K H M ds xs := by
  cases d with
  | lst ds' =>
    cases e
    unfold RepD at r
    obtain ⟨a, xs, rfl, h1, h2⟩ := r
    exact ⟨a, xs, rfl, h1.sq, h2⟩
  | ref p =>
    cases q : M p with
    | none => simp only [listD, q] at e; cases e
    | some o =>
      cases o with
      | lst es =>
        simp only [listD, q] at e; cases e
        obtain ⟨o', e', xs, rfl, h2⟩ := rh.at_ p _ q
        unfold RepD at r
        exact ⟨p, xs, r, .inl (.inl e'), h2⟩
      | dct kvs => simp only [listD, q] at e; cases e
      | tab _ => simp only [listD, q] at e; cases e
  | _ => cases e
@[irreducible] noncomputable def tSlD (te : TDE) (tl th : TDO) : TDE := fun σ M Q => te σ M fun x M1 => tl σ M1 fun l M2 => th σ M2 fun u M3 => ∃ ds, listD x M3 = some ds ∧ newL (cutD ds l u) M3 Q
theorem rd_sl {te : TDE} {tl th : TDO} {σ : SD} {M : HpD} {Q : KD} (h : te σ M fun x M1 => tl σ M1 fun l M2 => th σ M2 fun u M3 => ∃ ds, listD x M3 = some ds ∧ newL (cutD ds l u) M3 Q) : tSlD te tl th σ M Q := by unfold tSlD; exact h
section
variable {X : Cx} {e : Expr} {te : TDE} {lo hi : Option Expr} {tl th : TDO} {pos p2 : Pos}
theorem po_noneD : PO X none (LiftO X.K tNoPartD) := by
  refine po_none.wk fun σ H Q w1_ => w1_.elim fun F z_ => z_.elim fun σD z_ => z_.elim fun M z_ => z_.elim fun QD z_ => z_.elim fun rel z_ => z_.elim fun h p => ?_
  unfold tNoPartD at h
  exact p _ M H .refl rel.hp h
theorem po_someD (h : ED X e te) : PO X (some e) (LiftO X.K (tPartD te)) := by
  refine (po_some h).wk fun σ H Q w1_ => w1_.elim fun F z_ => z_.elim fun σD z_ => z_.elim fun M z_ => z_.elim fun QD z_ => z_.elim fun rel z_ => z_.elim fun h p => ?_
  unfold tPartD at h
  refine lE rel h fun d M1 v H1 f1 rel1 r1 h1 => ?_
  obtain ⟨i, rfl, q⟩ := h1
  unfold RepD at r1
  exact ⟨i, r1, p _ M1 H1 f1 rel1.hp q⟩
theorem RepDs.cut {K : KF} {H : Hp} {M : HpD} {ds : List D} {xs : List V} (r : RepDs K H M ds xs) (l u : Option Int) : RepDs K H M (cutD ds l u) (cutV xs l u) := by
  unfold cutD cutV
  rw [r.length]
  exact (r.drop _).take _
theorem ed_slice (he : ED X e te) (hl : PO X lo (LiftO X.K tl)) (hu : PO X hi (LiftO X.K th)) : ED X (.Subscript e (.Slice lo hi none p2) pos) (tSlD te tl th) := by
  refine (pe_slice sl_list he hl hu).wk fun σ H Q w1_ => w1_.elim fun F z_ => z_.elim fun σD z_ => z_.elim fun M z_ => z_.elim fun QD z_ => z_.elim fun rel z_ => z_.elim fun h p => ?_
  unfold tSlD at h
  refine lE rel h fun d M1 v H1 f1 rel1 r1 h1 => ?_
  refine ⟨F, σD, M1, _, rel1, h1, fun l M2 H2 f2 rh2 h2 => ?_⟩
  have rel2 := rel1.mono f2 rh2
  refine ⟨F, σD, M2, _, rel2, h2, fun u M3 H3 f3 rh3 h3 => ?_⟩
  obtain ⟨ds, e1, h3⟩ := h3
  have r3 := (r1.mono f2).mono f3
  have pp := p.mono ((f1.trans f2).trans f3)
  obtain ⟨a, xs, rfl, hs, r⟩ := list_rep rh3 r3 e1
  exact ⟨a, xs, rfl, hs, (h3.post pp rh3 (r.cut l u)).2⟩
end
noncomputable abbrev SpD := List D → HpD → KD → Prop
noncomputable def LiftP (K : PySem.W.Frag) (sp : SpD) : Sp := fun vs H Q _ => ∃ F ds M QD, RepDs ⟨K, F⟩ H M ds vs ∧ RepH ⟨K, F⟩ H M ∧ sp ds M QD ∧ PostE ⟨K, F⟩ M H QD Q
noncomputable def Cal (P : Program) (w : World) (K : PySem.W.Frag) (mg : Str → Option Value) (base : Heap) (x : Str) (k : Nat) (sp : SpD) : Prop :=
  ∃ (f : Addr) (fd : FuncData) (ps : List Str), FnOk P w K mg base CX0 k f fd ps (LiftP K sp) ∧ mg x = some (.ref f) ∧ PySem.W.keepIn K (.ref f) = true ∧ Binds K fd ps []
@[irreducible] noncomputable def tCallD (sp : SpD) (t : TDA) : TDE := fun σ M Q => t σ M fun ds M1 => sp ds M1 Q
theorem rd_call {sp : SpD} {t : TDA} {σ : SD} {M : HpD} {Q : KD} (h : t σ M fun ds M1 => sp ds M1 Q) : tCallD sp t σ M Q := by unfold tCallD; exact h
section
variable {X : Cx} {x : Str} {e : Expr} {es : List Expr} {t : TDA} {p pos : Pos} {sp : SpD} {k : Nat}
theorem lift_call {K : PySem.W.Frag} {σ : St} {H : Hp} {Q : VK} (h : LiftE K (tCallD sp t) σ H Q) : tCall (LiftP K sp) [] E0 (LiftA K t) σ H Q := by
  obtain ⟨F, σD, M, QD, rel, h, p⟩ := h
  unfold tCallD at h
  refine lA rel h fun ds M1 vs H1 f1 rel1 r1 h1 => ?_
  rw [List.append_nil]
  exact ⟨F, ds, M1, QD, r1, rel1.hp, h1, p.mono f1⟩
theorem ed_call (hc : Cal X.prog X.w X.K X.mg X.base x k sp) (hr : Room k X.A) (hg : Gl X x) (ha : AD X (e :: es) t) (hdb : (x == ("__debug__" : Str)) = false := by decide)
    (he : starEach (e :: es) X.env = (false, eval e X.env) :: starEach es X.env := by rfl) (hpl : (backTo pos (starEach es X.env)).any (·.1) = false := by rfl) : ED X (.Call (.Name x p) (e :: es) [] pos) (tCallD sp t) := by
  obtain ⟨f, fd, ps, F, hm, hk, hb⟩ := hc
  exact (pe_call F hr hg hm hk hb .nil pass0 ha hdb he hpl).wk fun _ _ _ h => lift_call h
theorem ed_call0 (hc : Cal X.prog X.w X.K X.mg X.base x k sp) (hr : Room k X.A) (hg : Gl X x) (hdb : (x == ("__debug__" : Str)) = false := by decide) : ED X (.Call (.Name x p) [] [] pos) (tCallD sp tNilD) := by
  obtain ⟨f, fd, ps, F, hm, hk, hb⟩ := hc
  refine (pe_call0 F hr hg hm hk hb .nil pass0 hdb).wk fun σ H Q h => ?_
  obtain ⟨F, σD, M, QD, rel, h, p⟩ := h
  unfold tCallD tNilD at h
  exact ⟨F, [], M, QD, .nil, rel.hp, h, p⟩
noncomputable abbrev RDn := List D → HpD → KD → Prop
noncomputable def LiftC (K : PySem.W.Frag) (r : RDn) : List V → Hp → VK → Prop := fun vs H Q => ∃ F ds M QD, RepDs ⟨K, F⟩ H M ds vs ∧ RepH ⟨K, F⟩ H M ∧ r ds M QD ∧ PostE ⟨K, F⟩ M H QD Q
theorem CallR.wk {f : Value} {r r' : List V → Hp → VK → Prop} (h : CallR X f r) (i : ∀ x H Q, r' x H Q → r x H Q) : CallR X f r' := fun pins s σ H xs us Q I rx q => h pins s σ H xs us Q I rx (i _ _ _ q)
theorem lift_cb {K : PySem.W.Frag} {r : RDn} {σ : St} {H : Hp} {Q : VK} (h : LiftE K (tCallD r t) σ H Q) : tCB (LiftC K r) (LiftA K t) σ H Q := by
  obtain ⟨F, σD, M, QD, rel, h, p⟩ := h
  unfold tCallD at h
  refine lA rel h fun ds M1 vs H1 f1 rel1 r1 h1 => ?_
  exact ⟨F, ds, M1, QD, r1, rel1.hp, h1, p.mono f1⟩
theorem ed_callB {id : String} {r : RDn} (hc : CallR X (.builtin id) (LiftC X.K r)) (hg : Gl X x) (hm : X.mg x = none) (hv : bootBuiltins x = some (.builtin id)) (ha : AD X (e :: es) t) (hn : x ≠ "__name__" := by decide) (hdb : (x == ("__debug__" : Str)) = false := by decide)
    (he : starEach (e :: es) X.env = (false, eval e X.env) :: starEach es X.env := by rfl) (hpl : (backTo pos (starEach es X.env)).any (·.1) = false := by rfl) : ED X (.Call (.Name x p) (e :: es) [] pos) (tCallD r t) :=
  (pe_callB hc hg hm hv ha hn hdb he hpl).wk fun _ _ _ h => lift_cb h
theorem ed_callTy {T : String} {r : RDn} (hc : CallR X (.type T) (LiftC X.K r)) (hg : Gl X x) (hm : X.mg x = none) (hv : bootBuiltins x = some (.type T)) (ha : AD X (e :: es) t) (hn : x ≠ "__name__" := by decide) (hdb : (x == ("__debug__" : Str)) = false := by decide)
    (he : starEach (e :: es) X.env = (false, eval e X.env) :: starEach es X.env := by rfl) (hpl : (backTo pos (starEach es X.env)).any (·.1) = false := by rfl) : ED X (.Call (.Name x p) (e :: es) [] pos) (tCallD r t) :=
  (pe_callTy hc hg hm hv ha hn hdb he hpl).wk fun _ _ _ h => lift_cb h
theorem rep1 {K : KF} {H : Hp} {M : HpD} {d : D} {vs : List V} (r : RepDs K H M [d] vs) : ∃ v, vs = [v] ∧ RepD K H M d v := by
  unfold RepDs at r
  obtain ⟨x, r', e, h1, h2⟩ := r
  unfold RepDs at h2
  subst h2 e
  exact ⟨x, rfl, h1⟩
theorem rep2 {K : KF} {H : Hp} {M : HpD} {d e : D} {vs : List V} (r : RepDs K H M [d, e] vs) : ∃ v u, vs = [v, u] ∧ RepD K H M d v ∧ RepD K H M e u := by
  unfold RepDs at r
  obtain ⟨x, r', e, h1, h2⟩ := r
  obtain ⟨u, e2, h3⟩ := rep1 h2
  subst e2 e
  exact ⟨x, u, rfl, h1, h3⟩
@[irreducible] noncomputable def cLen : RDn := fun xs M Q => ∃ d ds, xs = [d] ∧ itemsD d M = some ds ∧ Q (.int ds.length) M
theorem rd_len {d : D} {ds : List D} {M : HpD} {Q : KD} (h : itemsD d M = some ds) (q : Q (.int ds.length) M) : cLen [d] M Q := by unfold cLen; exact ⟨d, ds, rfl, h, q⟩
theorem cd_len : CallR X (.builtin "len") (LiftC X.K cLen) := by
  refine call_len_seq.wk fun xs H Q w1_ => w1_.elim fun F z_ => z_.elim fun ds z_ => z_.elim fun M z_ => z_.elim fun QD z_ => z_.elim fun r z_ => z_.elim fun rh z_ => z_.elim fun hq p => ?_
  unfold cLen at hq
  obtain ⟨d, es, rfl, e1, q⟩ := hq
  obtain ⟨v, rfl, r1⟩ := rep1 r
  obtain ⟨a, ys, rfl, hs, r2⟩ := items_rep rh r1 e1
  exact ⟨a, ys, rfl, hs, p _ M _ H .refl rh (by unfold RepD; rw [r2.length]) q⟩
@[irreducible] noncomputable def cList : RDn := fun xs M Q => ∃ d ds, xs = [d] ∧ itemsD d M = some ds ∧ newL ds M Q
theorem rd_list {d : D} {ds : List D} {M : HpD} {Q : KD} (h : itemsD d M = some ds) (q : newL ds M Q) : cList [d] M Q := by unfold cList; exact ⟨d, ds, rfl, h, q⟩
theorem cd_list : CallR X (.type "list") (LiftC X.K cList) := by
  refine call_list_of.wk fun xs H Q w1_ => w1_.elim fun F z_ => z_.elim fun ds z_ => z_.elim fun M z_ => z_.elim fun QD z_ => z_.elim fun r z_ => z_.elim fun rh z_ => z_.elim fun hq p => ?_
  unfold cList at hq
  obtain ⟨d, es, rfl, e1, q⟩ := hq
  obtain ⟨v, rfl, r1⟩ := rep1 r
  obtain ⟨a, ys, rfl, hs, r2⟩ := items_rep rh r1 e1
  exact ⟨a, ys, rfl, hs, (q.post p rh r2).2⟩
@[irreducible] noncomputable def cMin2 : RDn := fun xs M Q => ∃ i j, xs = [.int i, .int j] ∧ Q (.int (min i j)) M
theorem rd_min2 {i j : Int} {M : HpD} {Q : KD} (q : Q (.int (min i j)) M) : cMin2 [.int i, .int j] M Q := by unfold cMin2; exact ⟨i, j, rfl, q⟩
theorem cd_min2 (hc : X.calm = true := by rfl) : CallR X (.builtin "min") (LiftC X.K cMin2) := by
  refine (call_min2 hc).wk fun xs H Q w1_ => w1_.elim fun F z_ => z_.elim fun ds z_ => z_.elim fun M z_ => z_.elim fun QD z_ => z_.elim fun r z_ => z_.elim fun rh z_ => z_.elim fun hq p => ?_
  unfold cMin2 at hq
  obtain ⟨i, j, rfl, q⟩ := hq
  obtain ⟨v, u, rfl, r1, r2⟩ := rep2 r
  unfold RepD at r1 r2
  subst r1 r2
  rw [← show (if j < i then j else i) = min i j by split <;> omega] at q
  exact ⟨i, j, rfl, p _ M _ H .refl rh (by unfold RepD; rfl) q⟩
end
end L2
namespace L2
open PySem PySem.Spec PyProof.Rows
section
variable {K : PySem.W.Frag} {F : Addr → Prop} {σ : St} {H : Hp} {σD : SD} {M : HpD}
theorem lS {ta : TSD} {DD : EndsD} {D' : Ends} (rel : Rel ⟨K, F⟩ σD M σ H) (h : ta DD σD M) (p : PostS ⟨K, F⟩ M H DD D') : LiftS K ta D' σ H := ⟨F, σD, M, DD, rel, h, p⟩
end
noncomputable abbrev TDG := D → SD → HpD → (SD → HpD → Prop) → Prop
noncomputable abbrev TDGs := List D → SD → HpD → (SD → HpD → Prop) → Prop
noncomputable def PostG (K : KF) (M : HpD) (H : Hp) (QD : SD → HpD → Prop) (Q : St → Hp → Prop) : Prop := ∀ σD' M' σ' H', Fz M H M' H' → Rel K σD' M' σ' H' → QD σD' M' → Q σ' H'
theorem PostG.mono {K : KF} {H H' : Hp} {M M' : HpD} {QD : SD → HpD → Prop} {Q : St → Hp → Prop} (p : PostG K M H QD Q) (f : Fz M H M' H') : PostG K M' H' QD Q := fun a b c d f2 r h => p a b c d (f.trans f2) r h
noncomputable def LiftG (K : PySem.W.Frag) (t : TDG) : TG := fun v σ H Q => ∃ F d σD M QD, Rel ⟨K, F⟩ σD M σ H ∧ RepD ⟨K, F⟩ H M d v ∧ t d σD M QD ∧ PostG ⟨K, F⟩ M H QD Q
noncomputable def LiftGs (K : PySem.W.Frag) (t : TDGs) : TGs := fun v σ H Q => ∃ F d σD M QD, Rel ⟨K, F⟩ σD M σ H ∧ RepDs ⟨K, F⟩ H M d v ∧ t d σD M QD ∧ PostG ⟨K, F⟩ M H QD Q
theorem PG.wk {X : Cx} {e : Expr} {t t' : TG} (h : PG X e t) (i : ∀ v σ H Q, t' v σ H Q → t v σ H Q) : PG X e t' := fun pins s σ H v u Q I r q => h pins s σ H v u Q I r (i v σ H Q q)
theorem PGs.wk {X : Cx} {e : List Expr} {t t' : TGs} (h : PGs X e t) (i : ∀ v σ H Q, t' v σ H Q → t v σ H Q) : PGs X e t' := fun pins s σ H v u Q I r q => h pins s σ H v u Q I r (i v σ H Q q)
noncomputable abbrev GD (X : Cx) (e : Expr) (t : TDG) : Prop := PG X e (LiftG X.K t)
noncomputable abbrev GsD (X : Cx) (e : List Expr) (t : TDGs) : Prop := PGs X e (LiftGs X.K t)
@[irreducible] noncomputable def gNameD (i : Nat) : TDG := fun d σ M Q => Q (σ.set i (some d)) M
@[irreducible] noncomputable def gNilD : TDGs := fun ds σ M Q => ds = [] ∧ Q σ M
@[irreducible] noncomputable def gConsD (t : TDG) (u : TDGs) : TDGs := fun ds σ M Q => ∃ d r, ds = d :: r ∧ t d σ M fun σ' M' => u r σ' M' Q
@[irreducible] noncomputable def gTupD (n : Nat) (t : TDGs) : TDG := fun d σ M Q => ∃ ds, d = .tup ds ∧ ds.length = n ∧ t ds σ M Q
theorem rd_gname {i : Nat} {d : D} {σ : SD} {M : HpD} {Q : SD → HpD → Prop} (h : Q (σ.set i (some d)) M) : gNameD i d σ M Q := by unfold gNameD; exact h
theorem rd_gnil {σ : SD} {M : HpD} {Q : SD → HpD → Prop} (h : Q σ M) : gNilD [] σ M Q := by unfold gNilD; exact ⟨rfl, h⟩
theorem rd_gcons {t : TDG} {u : TDGs} {d : D} {r : List D} {σ : SD} {M : HpD} {Q : SD → HpD → Prop} (h : t d σ M fun σ' M' => u r σ' M' Q) : gConsD t u (d :: r) σ M Q := by unfold gConsD; exact ⟨d, r, rfl, h⟩
theorem rd_gtup {n : Nat} {t : TDGs} {ds : List D} {σ : SD} {M : HpD} {Q : SD → HpD → Prop} (hn : ds.length = n) (h : t ds σ M Q) : gTupD n t (.tup ds) σ M Q := by unfold gTupD; exact ⟨ds, rfl, hn, h⟩
section
variable {X : Cx} {pos : Pos}
theorem gd_name (i : Nat) {x : Str} (hN : X.N.Nodup) (hi : X.N[i]? = some x) (hx : Loc X.env.scope x) (hf : X.fn x = true ∨ X.env.scope.names.lookup x = some .local := by first | exact .inl rfl | exact .inr rfl | assumption) : GD X (.Name x pos) (gNameD i) := by
  refine (pg_name hN hi hx hf).wk fun v σ H Q w1_ => w1_.elim fun F z_ => z_.elim fun d z_ => z_.elim fun σD z_ => z_.elim fun M z_ => z_.elim fun QD z_ => z_.elim fun rel z_ => z_.elim fun r z_ => z_.elim fun h p => ?_
  unfold gNameD at h
  exact p _ M _ H .refl (rel.set i r) h
theorem gd_nil : GsD X [] gNilD := by
  refine pgs_nil.wk fun v σ H Q w1_ => w1_.elim fun F z_ => z_.elim fun d z_ => z_.elim fun σD z_ => z_.elim fun M z_ => z_.elim fun QD z_ => z_.elim fun rel z_ => z_.elim fun r z_ => z_.elim fun h p => ?_
  unfold gNilD at h
  obtain ⟨rfl, h⟩ := h
  unfold RepDs at r
  exact ⟨r, p _ M _ H .refl rel h⟩
theorem gd_cons {e : Expr} {es : List Expr} {t : TDG} {u : TDGs} (h1 : GD X e t) (h2 : GsD X es u)
    (hs : (assignEach (e :: es) X.env).map (·.2) = assign e X.env :: (assignEach es X.env).map (·.2) := by rfl) : GsD X (e :: es) (gConsD t u) := by
  refine (pgs_cons h1 h2 hs).wk fun v σ H Q w1_ => w1_.elim fun F z_ => z_.elim fun d z_ => z_.elim fun σD z_ => z_.elim fun M z_ => z_.elim fun QD z_ => z_.elim fun rel z_ => z_.elim fun r z_ => z_.elim fun h p => ?_
  unfold gConsD at h
  obtain ⟨d0, ds, rfl, h⟩ := h
  unfold RepDs at r
  obtain ⟨x, vr, rfl, r1, r2⟩ := r
  refine ⟨x, vr, rfl, F, d0, σD, M, _, rel, r1, h, fun σ1 M1 σ1' H1 f1 rel1 h1 => ?_⟩
  exact ⟨F, ds, σ1, M1, QD, rel1, r2.mono f1, h1, p.mono f1⟩
theorem gd_tup {es : List Expr} {k : Nat} {t : TDGs} {n : Nat} (h : GsD X es t) (hc : X.calm = true := by rfl)
    (hn : (assignEach es X.env).length = n := by rfl) (hst : (assignEach es X.env).findIdx? (·.1) = none := by rfl) : GD X (.Tuple es k pos) (gTupD n t) := by
  refine (pg_tup hc h hn hst).wk fun v σ H Q w1_ => w1_.elim fun F z_ => z_.elim fun d z_ => z_.elim fun σD z_ => z_.elim fun M z_ => z_.elim fun QD z_ => z_.elim fun rel z_ => z_.elim fun r z_ => z_.elim fun h p => ?_
  unfold gTupD at h
  obtain ⟨ds, rfl, hl, h⟩ := h
  unfold RepD at r
  obtain ⟨a, xs, rfl, hz, hr⟩ := r
  exact ⟨a, xs, rfl, hz.sq, by rw [← hr.length]; exact hl, F, ds, σD, M, QD, rel, hr, h, p⟩
@[irreducible] noncomputable def gSubD (to ti : TDE) : TDG := fun v σ M Q => to σ M fun o M1 => ti σ M1 fun i M2 => ∃ p ds k j, o = .ref p ∧ i = .int k ∧ M2 p = some (.lst ds) ∧ ixN ds.length k = some j ∧ Q σ (updD M2 p (.lst (ds.set j v)))
theorem rd_gsub {to ti : TDE} {v : D} {σ : SD} {M : HpD} {Q : SD → HpD → Prop} (h : to σ M fun o M1 => ti σ M1 fun i M2 => ∃ p ds k j, o = .ref p ∧ i = .int k ∧ M2 p = some (.lst ds) ∧ ixN ds.length k = some j ∧ Q σ (updD M2 p (.lst (ds.set j v)))) : gSubD to ti v σ M Q := by unfold gSubD; exact h
theorem gd_sub {o i : Expr} {to ti : TDE} (ho : ED X o to) (hi : ED X i ti)
    (ha : ∀ v, assign (.Subscript o i pos) X.env v = (do
      let ov ← holding [v] (eval o X.env)
      let iv ← holding [v, ov] (eval i X.env)
      standAt pos
      holding [v, ov, iv] (setItem ov iv v)
      release [v, ov, iv] []) := by intro _; rfl) : GD X (.Subscript o i pos) (gSubD to ti) := by
  refine (pg_sub ho hi set_list ha).wk fun v σ H Q w1_ => w1_.elim fun F z_ => z_.elim fun d z_ => z_.elim fun σD z_ => z_.elim fun M z_ => z_.elim fun QD z_ => z_.elim fun rel z_ => z_.elim fun r z_ => z_.elim fun h p => ?_
  unfold gSubD at h
  refine lE rel h fun od M1 ov H1 f1 rel1 r1 h1 => ?_
  refine lE rel1 h1 fun id M2 iv H2 f2 rel2 r2 h2 => ?_
  obtain ⟨a, ds, k, j, rfl, rfl, e1, e2, q⟩ := h2
  unfold RepD at r1 r2
  obtain ⟨o', e', xs, rfl, hr⟩ := rel2.hp.at_ a _ e1
  have rv := r.mono (f1.trans f2)
  have r3 : RepO ⟨X.K, F⟩ H2 M2 (.lst (ds.set j d)) (.lst (xs.set j v)) := ⟨_, rfl, hr.set j rv⟩
  exact ⟨a, xs, k, j, r1, r2, e', by rw [← hr.length]; exact e2, p _ _ _ _ ((f1.trans f2).trans (fz_write e1)) (rel2.mono (fz_write e1) (rel2.hp.write e1 r3)) q⟩
end
@[irreducible] noncomputable def tNextD : TSD := fun DD σ M => DD.nx σ M
@[irreducible] noncomputable def tSeqD (t u : TSD) : TSD := fun DD σ M => t { DD with nx := u DD } σ M
@[irreducible] noncomputable def tDropD (te : TDE) : TSD := fun DD σ M => te σ M fun _ M1 => DD.nx σ M1
@[irreducible] noncomputable def tRetD (te : TDE) : TSD := fun DD σ M => te σ M fun d M1 => DD.rt d M1 ∨ ∃ a ds, d = .ref a ∧ M1 a = some (.lst ds) ∧ DD.rt (.lst ds) (delD M1 a)
@[irreducible] noncomputable def tIfSD (c : TDT) (t u : TSD) : TSD := fun DD σ M => c σ M fun b M1 => if b = true then t DD σ M1 else u DD σ M1
@[irreducible] noncomputable def tAsgD (te : TDE) (g : TDG) : TSD := fun DD σ M => te σ M fun d M1 => g d σ M1 DD.nx
@[irreducible] noncomputable def tNeverD : TSD := fun _ _ _ => False
section
variable {DD : EndsD} {σ : SD} {M : HpD}
theorem rd_next (h : DD.nx σ M) : tNextD DD σ M := by unfold tNextD; exact h
theorem rd_seq {t u : TSD} (h : t { DD with nx := u DD } σ M) : tSeqD t u DD σ M := by unfold tSeqD; exact h
theorem rd_drop {te : TDE} (h : te σ M fun _ M1 => DD.nx σ M1) : tDropD te DD σ M := by unfold tDropD; exact h
theorem rd_ret {te : TDE} (h : te σ M fun d M1 => DD.rt d M1 ∨ ∃ a ds, d = .ref a ∧ M1 a = some (.lst ds) ∧ DD.rt (.lst ds) (delD M1 a)) : tRetD te DD σ M := by unfold tRetD; exact h
theorem rd_ifS {c : TDT} {t u : TSD} (h : c σ M fun b M1 => if b = true then t DD σ M1 else u DD σ M1) : tIfSD c t u DD σ M := by unfold tIfSD; exact h
theorem rd_asg {te : TDE} {g : TDG} (h : te σ M fun d M1 => g d σ M1 DD.nx) : tAsgD te g DD σ M := by unfold tAsgD; exact h
end
section
variable {X : Cx} {pos : Pos} {st : Stmt} {rest : List Stmt} {t u : TSD} {e : Expr} {te : TDE}
theorem ss_nil : SsD X [] tNextD := by
  refine pss_nil.wk fun D' σ H w1_ => w1_.elim fun F z_ => z_.elim fun σD z_ => z_.elim fun M z_ => z_.elim fun DD z_ => z_.elim fun rel z_ => z_.elim fun h p => ?_
  unfold tNextD at h
  exact p.nx _ M _ H .refl rel h
theorem ss_cons (h1 : StD X st t) (h2 : SsD X rest u) : SsD X (st :: rest) (tSeqD t u) := by
  refine (pss_cons h1 h2).wk fun D' σ H w1_ => w1_.elim fun F z_ => z_.elim fun σD z_ => z_.elim fun M z_ => z_.elim fun DD z_ => z_.elim fun rel z_ => z_.elim fun h p => ?_
  unfold tSeqD at h
  exact lS rel h ⟨fun σD' M' σ' H' f rel' q => lS rel' q (p.mono f), p.rt, p.bk, p.ct⟩
theorem ss_one (h1 : StD X st t) : SsD X [st] t := pss_one h1
theorem sd_expr (he : ED X e te) (hs : swapsWith e none pos.line X.env = pure false := by rfl) : StD X (.Expr e pos) (tDropD te) := by
  refine (ps_expr he hs).wk fun D' σ H w1_ => w1_.elim fun F z_ => z_.elim fun σD z_ => z_.elim fun M z_ => z_.elim fun DD z_ => z_.elim fun rel z_ => z_.elim fun h p => ?_
  unfold tDropD at h
  exact lE rel h fun d M1 v H1 f1 rel1 r1 h1 => p.nx _ M1 _ H1 f1 rel1 h1
theorem sd_ret (he : ED X e te) : StD X (.Return (some e) pos) (tRetD te) := by
  refine (ps_ret he).wk fun D' σ H w1_ => w1_.elim fun F z_ => z_.elim fun σD z_ => z_.elim fun M z_ => z_.elim fun DD z_ => z_.elim fun rel z_ => z_.elim fun h p => ?_
  unfold tRetD at h
  refine lE rel h fun d M1 v H1 f1 rel1 r1 h1 => ?_
  rcases h1 with h1 | ⟨a, ds, rfl, e1, h1⟩
  · exact p.rt d M1 v H1 f1 rel1.hp r1 h1
  · unfold RepD at r1
    subst r1
    exact p.rt _ _ _ H1 (f1.trans fz_del) rel1.hp.del (.frz rel1.hp e1) h1
theorem sd_if {c : Expr} {a b : List Stmt} {tc : TDT} (hc : TD X c tc) (ha : SsD X a t) (hb : SsD X b u) : StD X (.If c a b pos) (tIfSD tc t u) := by
  refine (ps_if hc ha hb).wk fun D' σ H w1_ => w1_.elim fun F z_ => z_.elim fun σD z_ => z_.elim fun M z_ => z_.elim fun DD z_ => z_.elim fun rel z_ => z_.elim fun h p => ?_
  unfold tIfSD at h
  refine lT rel h fun b M1 H1 f1 rel1 h1 => ?_
  cases b with
  | true => simp only [if_true] at h1 ⊢; exact lS rel1 h1 (p.mono f1)
  | false => simp only [Bool.false_eq_true, if_false] at h1 ⊢; exact lS rel1 h1 (p.mono f1)
theorem PostS.g {K : KF} {M : HpD} {H : Hp} {DD : EndsD} {D' : Ends} (p : PostS K M H DD D') : PostG K M H DD.nx D'.nx := fun a b c d f r h => p.nx a b c d f r h
theorem sd_asg {tg : Expr} {g : TDG} (he : ED X e te) (hg : GD X tg g) (hs : swapsWithSole [tg] e pos.line X.env = pure false := by rfl) (hw : swappedStores [tg] e X.env = pure none := by rfl)
    (h1 : (assignEach [tg] X.env).map (·.2) = [assign tg X.env] := by rfl) : StD X (.Assign [tg] e pos) (tAsgD te g) := by
  refine (ps_asg he hg hs hw h1).wk fun D' σ H w1_ => w1_.elim fun F z_ => z_.elim fun σD z_ => z_.elim fun M z_ => z_.elim fun DD z_ => z_.elim fun rel z_ => z_.elim fun h p => ?_
  unfold tAsgD at h
  exact lE rel h fun d M1 v H1 f1 rel1 r1 h1 => ⟨F, d, σD, M1, DD.nx, rel1, r1, h1, (p.mono f1).g⟩
theorem sd_set (i : Nat) {x : Str} {pos' : Pos} (hN : X.N.Nodup) (hi : X.N[i]? = some x) (hx : Loc X.env.scope x) (he : ED X e te) (hs : swapsWith e (some (.Name x pos')) pos.line X.env = pure false := by rfl) (hf : X.fn x = true ∨ X.env.scope.names.lookup x = some .local := by first | exact .inl rfl | exact .inr rfl | assumption) :
    StD X (.Assign [.Name x pos'] e pos) (tAsgD te (gNameD i)) := by
  refine (ps_set hN hi hx he hs hf).wk fun D' σ H w1_ => w1_.elim fun F z_ => z_.elim fun σD z_ => z_.elim fun M z_ => z_.elim fun DD z_ => z_.elim fun rel z_ => z_.elim fun h p => ?_
  unfold tAsgD at h
  refine lE rel h fun d M1 v H1 f1 rel1 r1 h1 => ?_
  unfold gNameD at h1
  exact (p.mono f1).nx _ M1 _ H1 .refl (rel1.set i r1) h1
theorem sd_never : StD X st tNeverD := by
  refine ps_never.wk fun D' σ H w1_ => w1_.elim fun F z_ => z_.elim fun σD z_ => z_.elim fun M z_ => z_.elim fun DD z_ => z_.elim fun rel z_ => z_.elim fun h p => ?_
  unfold tNeverD at h
  exact h
theorem ss_never {sts : List Stmt} : SsD X sts tNeverD := by
  refine pss_never.wk fun D' σ H w1_ => w1_.elim fun F z_ => z_.elim fun σD z_ => z_.elim fun M z_ => z_.elim fun DD z_ => z_.elim fun rel z_ => z_.elim fun h p => ?_
  unfold tNeverD at h
  exact h
end
noncomputable abbrev TDI := SD → HpD → (List D → HpD → Prop) → Prop
noncomputable def Ylds (K : PySem.W.Frag) (F : Addr → Prop) (J : It) (ds : List D) (M : HpD) (H : Hp) : Prop :=
  ∀ F' i M' H', (∀ a, F' a → F a ∨ H a = none) → Fz M H M' H' → RepH ⟨K, F'⟩ H' M' → (∀ d, ds[i]? = some d → J.go i H' ∧ ∀ x H3, J.yld i H' x H3 → Fz M' H' M' H3 ∧ RepH ⟨K, F'⟩ H3 M' ∧ RepD ⟨K, F'⟩ H3 M' d x) ∧ (ds.length ≤ i → J.stop i H')
noncomputable def LiftI (K : PySem.W.Frag) (t : TDI) : TI := fun σ H R => ∃ F σD M RD, Rel ⟨K, F⟩ σD M σ H ∧ t σD M RD ∧ ∀ ds M' H' J, Fz M H M' H' → RepH ⟨K, F⟩ H' M' → Ylds K F J ds M' H' → RD ds M' → R J H'
theorem FzL.more {K : PySem.W.Frag} {F F' : Addr → Prop} {H : Hp} {M : HpD} {a : Addr} {xs : List V} (h : FzL ⟨K, F⟩ H M a xs) (hf : ∀ a, F' a → F a ∨ H a = none) : FzL ⟨K, F'⟩ H M a xs := by
  rcases h with ⟨h, m, n⟩ | h
  · refine .inl ⟨h, m, fun z => ?_⟩
    rcases hf a z with q | q
    · exact n q
    · rcases h with h | ⟨o, h⟩ <;> rw [q] at h <;> cases h
  · exact .inr h
theorem FzT.more {K : PySem.W.Frag} {F F' : Addr → Prop} {H : Hp} {M : HpD} {a : Addr} {xs : List V} (h : FzT ⟨K, F⟩ H M a xs) (hf : ∀ a, F' a → F a ∨ H a = none) : FzT ⟨K, F'⟩ H M a xs := by
  rcases h with ⟨h, m, n⟩ | h
  · refine .inl ⟨h, m, fun z => ?_⟩
    rcases hf a z with q | q
    · exact n q
    · rcases h with h | ⟨o, h⟩ <;> rw [q] at h <;> cases h
  · exact .inr h
mutual
theorem RepD.more {K : PySem.W.Frag} {F F' : Addr → Prop} {H : Hp} {M : HpD} (hf : ∀ a, F' a → F a ∨ H a = none) : ∀ {d : D} {v : V}, RepD ⟨K, F⟩ H M d v → RepD ⟨K, F'⟩ H M d v
  | .non, _, h => by unfold RepD at h ⊢; exact h
  | .bl _, _, h => by unfold RepD at h ⊢; exact h
  | .int _, _, h => by unfold RepD at h ⊢; exact h
  | .str _, _, h => by unfold RepD at h ⊢; exact h
  | .ref _, _, h => by unfold RepD at h ⊢; exact h
  | .ty _, _, h => by unfold RepD at h ⊢; exact h
  | .tup ds, _, h => by
    unfold RepD at h ⊢
    obtain ⟨a, xs, e, h1, h2⟩ := h
    exact ⟨a, xs, e, h1.more hf, RepDs.more hf h2⟩
  | .lst ds, _, h => by
    unfold RepD at h ⊢
    obtain ⟨a, xs, e, h1, h2⟩ := h
    exact ⟨a, xs, e, h1.more hf, RepDs.more hf h2⟩
theorem RepDs.more {K : PySem.W.Frag} {F F' : Addr → Prop} {H : Hp} {M : HpD} (hf : ∀ a, F' a → F a ∨ H a = none) : ∀ {ds : List D} {vs : List V}, RepDs ⟨K, F⟩ H M ds vs → RepDs ⟨K, F'⟩ H M ds vs
  | [], _, h => by unfold RepDs at h ⊢; exact h
  | d :: ds, _, h => by
    unfold RepDs at h ⊢
    obtain ⟨x, r, e, h1, h2⟩ := h
    exact ⟨x, r, e, RepD.more hf h1, RepDs.more hf h2⟩
end
theorem FzL.past {K : KF} {H : Hp} {M : HpD} {a p : Addr} {o : HO} {xs : List V} (h : FzL K H M a xs) (hp : K.F p) : FzL K (upd H p o) M a xs := by
  rcases h with ⟨h, m, n⟩ | h
  · have q : a ≠ p := fun z => n (z ▸ hp)
    refine .inl ⟨?_, m, n⟩
    rcases h with h | ⟨u, h⟩
    · exact .inl (by rw [upd_ne q]; exact h)
    · exact .inr ⟨u, by rw [upd_ne q]; exact h⟩
  · exact .inr h
theorem FzT.past {K : KF} {H : Hp} {M : HpD} {a p : Addr} {o : HO} {xs : List V} (h : FzT K H M a xs) (hp : K.F p) : FzT K (upd H p o) M a xs := by
  rcases h with ⟨h, m, n⟩ | h
  · have q : a ≠ p := fun z => n (z ▸ hp)
    refine .inl ⟨?_, m, n⟩
    rcases h with h | ⟨u, h⟩
    · exact .inl (by rw [upd_ne q]; exact h)
    · exact .inr ⟨u, by rw [upd_ne q]; exact h⟩
  · exact .inr h
mutual
theorem RepD.past {K : KF} {H : Hp} {M : HpD} {p : Addr} {o : HO} (hp : K.F p) : ∀ {d : D} {v : V}, RepD K H M d v → RepD K (upd H p o) M d v
  | .non, _, h => by unfold RepD at h ⊢; exact h
  | .bl _, _, h => by unfold RepD at h ⊢; exact h
  | .int _, _, h => by unfold RepD at h ⊢; exact h
  | .str _, _, h => by unfold RepD at h ⊢; exact h
  | .ref _, _, h => by unfold RepD at h ⊢; exact h
  | .ty _, _, h => by unfold RepD at h ⊢; exact h
  | .tup ds, _, h => by
    unfold RepD at h ⊢
    obtain ⟨a, xs, e, h1, h2⟩ := h
    exact ⟨a, xs, e, h1.past hp, RepDs.past hp h2⟩
  | .lst ds, _, h => by
    unfold RepD at h ⊢
    obtain ⟨a, xs, e, h1, h2⟩ := h
    exact ⟨a, xs, e, h1.past hp, RepDs.past hp h2⟩
theorem RepDs.past {K : KF} {H : Hp} {M : HpD} {p : Addr} {o : HO} (hp : K.F p) : ∀ {ds : List D} {vs : List V}, RepDs K H M ds vs → RepDs K (upd H p o) M ds vs
  | [], _, h => by unfold RepDs at h ⊢; exact h
  | d :: ds, _, h => by
    unfold RepDs at h ⊢
    obtain ⟨x, r, e, h1, h2⟩ := h
    exact ⟨x, r, e, RepD.past hp h1, RepDs.past hp h2⟩
end
theorem RepO.more {K : PySem.W.Frag} {F F' : Addr → Prop} {H : Hp} {M : HpD} (hf : ∀ a, F' a → F a ∨ H a = none) {d : OD} {o : HO} (h : RepO ⟨K, F⟩ H M d o) : RepO ⟨K, F'⟩ H M d o := by
  cases d with
  | lst ds => obtain ⟨xs, e, r⟩ := h; exact ⟨xs, e, r.more hf⟩
  | dct kvs => obtain ⟨vs, e, k, r⟩ := h; exact ⟨vs, e, k, r.more hf⟩
  | tab q => exact TabE.imp h fun c oc u e m n => ⟨e, m, fun z => (hf c z).elim n fun y => by rw [e] at y; cases y⟩
theorem RepO.past {K : KF} {H : Hp} {M : HpD} {p : Addr} {o : HO} (hp : K.F p) {d : OD} {u : HO} (h : RepO K H M d u) : RepO K (upd H p o) M d u := by
  cases d with
  | lst ds => obtain ⟨xs, e, r⟩ := h; exact ⟨xs, e, r.past hp⟩
  | dct kvs => obtain ⟨vs, e, k, r⟩ := h; exact ⟨vs, e, k, r.past hp⟩
  | tab q => exact TabE.imp h fun c oc u e m n => ⟨by rw [upd_ne (fun z => n (by rw [z]; exact hp))]; exact e, m, n⟩
theorem FzL.own {K : PySem.W.Frag} {F F' : Addr → Prop} {H : Hp} {M : HpD} {p a : Addr} {o : OD} {xs : List V} (h : FzL ⟨K, F'⟩ H M a xs) (hp : F' p) (hf : ∀ a, F a → F' a ∨ H a = none) : FzL ⟨K, F⟩ H (updD M p o) a xs := by
  rcases h with ⟨h, m, n⟩ | h
  · refine .inl ⟨h, by rw [updD_ne (fun (z : a = p) => n (by show F' a; rw [z]; exact hp))]; exact m, fun z => ?_⟩
    rcases hf a z with q | q
    · exact n q
    · rcases h with h | ⟨o, h⟩ <;> rw [q] at h <;> cases h
  · exact .inr h
theorem FzT.own {K : PySem.W.Frag} {F F' : Addr → Prop} {H : Hp} {M : HpD} {p a : Addr} {o : OD} {xs : List V} (h : FzT ⟨K, F'⟩ H M a xs) (hp : F' p) (hf : ∀ a, F a → F' a ∨ H a = none) : FzT ⟨K, F⟩ H (updD M p o) a xs := by
  rcases h with ⟨h, m, n⟩ | h
  · refine .inl ⟨h, by rw [updD_ne (fun (z : a = p) => n (by show F' a; rw [z]; exact hp))]; exact m, fun z => ?_⟩
    rcases hf a z with q | q
    · exact n q
    · rcases h with h | ⟨o, h⟩ <;> rw [q] at h <;> cases h
  · exact .inr h
mutual
theorem RepD.own {K : PySem.W.Frag} {F F' : Addr → Prop} {H : Hp} {M : HpD} {p : Addr} {o : OD} (hp : F' p) (hf : ∀ a, F a → F' a ∨ H a = none) : ∀ {d : D} {v : V}, RepD ⟨K, F'⟩ H M d v → RepD ⟨K, F⟩ H (updD M p o) d v
  | .non, _, h => by unfold RepD at h ⊢; exact h
  | .bl _, _, h => by unfold RepD at h ⊢; exact h
  | .int _, _, h => by unfold RepD at h ⊢; exact h
  | .str _, _, h => by unfold RepD at h ⊢; exact h
  | .ref _, _, h => by unfold RepD at h ⊢; exact h
  | .ty _, _, h => by unfold RepD at h ⊢; exact h
  | .tup ds, _, h => by
    unfold RepD at h ⊢
    obtain ⟨a, xs, e, h1, h2⟩ := h
    exact ⟨a, xs, e, h1.own hp hf, RepDs.own hp hf h2⟩
  | .lst ds, _, h => by
    unfold RepD at h ⊢
    obtain ⟨a, xs, e, h1, h2⟩ := h
    exact ⟨a, xs, e, h1.own hp hf, RepDs.own hp hf h2⟩
theorem RepDs.own {K : PySem.W.Frag} {F F' : Addr → Prop} {H : Hp} {M : HpD} {p : Addr} {o : OD} (hp : F' p) (hf : ∀ a, F a → F' a ∨ H a = none) : ∀ {ds : List D} {vs : List V}, RepDs ⟨K, F'⟩ H M ds vs → RepDs ⟨K, F⟩ H (updD M p o) ds vs
  | [], _, h => by unfold RepDs at h ⊢; exact h
  | d :: ds, _, h => by
    unfold RepDs at h ⊢
    obtain ⟨x, r, e, h1, h2⟩ := h
    exact ⟨x, r, e, RepD.own hp hf h1, RepDs.own hp hf h2⟩
end
theorem RepO.own {K : PySem.W.Frag} {F F' : Addr → Prop} {H : Hp} {M : HpD} {p : Addr} {o : OD} (hp : F' p) (hf : ∀ a, F a → F' a ∨ H a = none) {d : OD} {u : HO} (h : RepO ⟨K, F'⟩ H M d u) : RepO ⟨K, F⟩ H (updD M p o) d u := by
  cases d with
  | lst ds => obtain ⟨xs, e, r⟩ := h; exact ⟨xs, e, r.own hp hf⟩
  | dct kvs => obtain ⟨vs, e, k, r⟩ := h; exact ⟨vs, e, k, r.own hp hf⟩
  | tab q => exact TabE.imp h fun c oc u e m n => ⟨e, by rw [updD_ne (fun (z : c = p) => n (by show F' c; rw [z]; exact hp))]; exact m, fun z => (hf c z).elim n fun y => by rw [e] at y; cases y⟩
theorem RepH.past {K : KF} {H : Hp} {M : HpD} {p : Addr} {o : HO} (hp : K.F p) (h : RepH K H M) : RepH K (upd H p o) M := ⟨fun a d e => by
  obtain ⟨o', e', r⟩ := h.at_ a d e
  have q : a ≠ p := fun z => by rw [z, (h.fb p hp).2] at e; cases e
  exact ⟨o', by rw [upd_ne q]; exact e', r.past hp⟩, fun a ha => ⟨by
  by_cases q : a = p
  · subst q; exact ⟨o, upd_same⟩
  · rw [upd_ne q]; exact (h.fb a ha).1, (h.fb a ha).2⟩⟩
theorem Rel.past {K : KF} {σD : SD} {M : HpD} {σ : St} {H : Hp} {p : Addr} {o : HO} (hp : K.F p) (h : Rel K σD M σ H) : Rel K σD M σ (upd H p o) :=
  ⟨h.len, fun i d e => let ⟨v, e1, e2⟩ := h.st i d e; ⟨v, e1, e2.past hp⟩, h.hp.past hp⟩
theorem PI.wk {X : Cx} {tg e : Expr} {t t' : TI} (h : PI X tg e t) (i : ∀ σ H Q, t' σ H Q → t σ H Q) : PI X tg e t' := fun pins s σ H Q I q => h pins s σ H Q I (i σ H Q q)
noncomputable abbrev IDD (X : Cx) (tg e : Expr) (t : TDI) : Prop := PI X tg e (LiftI X.K t)
@[irreducible] noncomputable def iSeqD (te : TDE) : TDI := fun σ M R => te σ M fun d M1 => ∃ ds, d = .lst ds ∧ R ds M1
theorem rd_iseq {te : TDE} {σ : SD} {M : HpD} {R : List D → HpD → Prop} (h : te σ M fun d M1 => ∃ ds, d = .lst ds ∧ R ds M1) : iSeqD te σ M R := by unfold iSeqD; exact h
noncomputable def intsD (lo : Int) (n : Nat) : List D := (List.range n).map fun (k : Nat) => .int (lo + (k : Int))
theorem intsD_get {lo : Int} {n i : Nat} {d : D} (h : (intsD lo n)[i]? = some d) : i < n ∧ d = .int (lo + i) := by
  unfold intsD at h
  rw [List.getElem?_map] at h
  by_cases hi : i < n
  · rw [List.getElem?_range hi] at h
    cases h
    exact ⟨hi, rfl⟩
  · rw [List.getElem?_eq_none (by simpa using hi)] at h
    cases h
theorem intsD_len {lo : Int} {n : Nat} : (intsD lo n).length = n := by unfold intsD; simp
@[irreducible] noncomputable def iRng1D (ta : TDA) : TDI := fun σ M R => ta σ M fun vs M1 => ∃ j : Int, vs = [.int j] ∧ -(2 ^ 62) ≤ j ∧ j < 2 ^ 62 ∧ R (intsD 0 j.toNat) M1
theorem rd_irng1 {ta : TDA} {σ : SD} {M : HpD} {R : List D → HpD → Prop} (h : ta σ M fun vs M1 => ∃ j : Int, vs = [.int j] ∧ -(2 ^ 62) ≤ j ∧ j < 2 ^ 62 ∧ R (intsD 0 j.toNat) M1) : iRng1D ta σ M R := by unfold iRng1D; exact h
section
variable {X : Cx} {tg l : Expr} {tl : TDE} {pos p : Pos}
theorem ylds_list {K : PySem.W.Frag} {F : Addr → Prop} {H : Hp} {M : HpD} {a : Addr} {xs : List V} {ds : List D} (h : FzL ⟨K, F⟩ H M a xs) (r : RepDs ⟨K, F⟩ H M ds xs) : Ylds K F (Itl K a) ds M H := fun F' i M' H' hf f rh => by
  have h' := ((h.more hf).mono f).sq
  have r' := (r.more hf).mono f
  refine ⟨fun d e => ?_, fun e => ⟨xs, h', by rw [← r'.length]; exact e⟩⟩
  obtain ⟨v, e1, e2⟩ := r'.get e
  refine ⟨⟨xs, v, h', e1⟩, fun x H3 y => ?_⟩
  obtain ⟨rfl, y⟩ := y
  have := y xs h'
  rw [e1] at this; cases this
  exact ⟨.refl, rh, e2⟩
theorem ylds_rng {K : PySem.W.Frag} {F : Addr → Prop} {H : Hp} {M : HpD} {lo : Int} {n : Nat} : Ylds K F (Itr lo n) (intsD lo n) M H := fun F' i M' H' hf f rh => by
  refine ⟨fun d e => ?_, fun e => by rw [intsD_len] at e; exact e⟩
  obtain ⟨hi, rfl⟩ := intsD_get e
  refine ⟨hi, fun x H3 y => ?_⟩
  obtain ⟨rfl, rfl⟩ := y
  exact ⟨.refl, rh, by unfold RepD; rfl⟩
theorem id_list (hl : ED X l tl) : IDD X tg l (iSeqD tl) := by
  refine (pi_list hl).wk fun σ H R w1_ => w1_.elim fun F z_ => z_.elim fun σD z_ => z_.elim fun M z_ => z_.elim fun RD z_ => z_.elim fun rel z_ => z_.elim fun h p => ?_
  unfold iSeqD at h
  refine lE rel h fun d M1 v H1 f1 rel1 r1 h1 => ?_
  obtain ⟨ds, rfl, q⟩ := h1
  unfold RepD at r1
  obtain ⟨a, xs, rfl, hz, hr⟩ := r1
  exact ⟨a, rfl, ⟨xs, hz.sq⟩, p ds M1 H1 _ f1 rel1.hp (ylds_list hz hr) q⟩
theorem id_rng1 {a : Expr} {ta : TDA} (hg : Gl X "range") (hm : X.mg "range" = none) (ha : AD X [a] ta) (hs : starEach [a] X.env = [(false, eval a X.env)] := by rfl) : IDD X tg (.Call (.Name "range" p) [a] [] pos) (iRng1D ta) := by
  refine (pi_range1 hg hm ha hs).wk fun σ H R w1_ => w1_.elim fun F z_ => z_.elim fun σD z_ => z_.elim fun M z_ => z_.elim fun RD z_ => z_.elim fun rel z_ => z_.elim fun h p => ?_
  unfold iRng1D at h
  refine lA rel h fun d M1 v H1 f1 rel1 r1 h1 => ?_
  obtain ⟨j, rfl, q1, q2, q⟩ := h1
  obtain ⟨u, rfl, r2⟩ := rep1 r1
  unfold RepD at r2
  subst r2
  exact ⟨j, rfl, q1, q2, p _ M1 H1 _ f1 rel1.hp ylds_rng q⟩
end
@[irreducible] noncomputable def tForD (tI : TDI) (g : TDG) (tb : TSD) : TSD := fun DD σ M => tI σ M fun ds M1 => ∃ Pv : Nat → SD → HpD → Prop, Pv 0 σ M1 ∧
  (∀ i d σ M, ds[i]? = some d → Pv i σ M → g d σ M fun σ2 M2 => tb { DD with nx := Pv (i + 1), ct := Pv (i + 1), bk := DD.nx } σ2 M2) ∧ ∀ σ M, Pv ds.length σ M → DD.nx σ M
theorem rd_for {tI : TDI} {g : TDG} {tb : TSD} {DD : EndsD} {σ : SD} {M : HpD} (h : tI σ M fun ds M1 => ∃ Pv : Nat → SD → HpD → Prop, Pv 0 σ M1 ∧
  (∀ i d σ M, ds[i]? = some d → Pv i σ M → g d σ M fun σ2 M2 => tb { DD with nx := Pv (i + 1), ct := Pv (i + 1), bk := DD.nx } σ2 M2) ∧ ∀ σ M, Pv ds.length σ M → DD.nx σ M) : tForD tI g tb DD σ M := by unfold tForD; exact h
@[irreducible] noncomputable def tCompD (n : Nat) (tI : TDI) (g : TDG) (tc : TDT) (te : TDE) : TDE := fun σ M Q => tI σ M fun ds M1 => ds.length ≤ sizeLine ∧ ∃ Pv : Nat → List D → SD → HpD → Prop, Pv 0 [] (List.replicate n none ++ σ) M1 ∧
  (∀ i d ys σ M, ds[i]? = some d → Pv i ys σ M → g d σ M fun σ2 M2 => tc σ2 M2 fun b M3 => if b = true then te σ2 M3 fun y M4 => Pv (i + 1) (ys ++ [y]) σ2 M4 else Pv (i + 1) ys σ2 M3) ∧ ∀ ys σ M, Pv ds.length ys σ M → newL ys M Q
theorem rd_comp {n : Nat} {tI : TDI} {g : TDG} {tc : TDT} {te : TDE} {σ : SD} {M : HpD} {Q : KD} (h : tI σ M fun ds M1 => ds.length ≤ sizeLine ∧ ∃ Pv : Nat → List D → SD → HpD → Prop, Pv 0 [] (List.replicate n none ++ σ) M1 ∧
  (∀ i d ys σ M, ds[i]? = some d → Pv i ys σ M → g d σ M fun σ2 M2 => tc σ2 M2 fun b M3 => if b = true then te σ2 M3 fun y M4 => Pv (i + 1) (ys ++ [y]) σ2 M4 else Pv (i + 1) ys σ2 M3) ∧ ∀ ys σ M, Pv ds.length ys σ M → newL ys M Q) : tCompD n tI g tc te σ M Q := by unfold tCompD; exact h
@[irreducible] noncomputable def tIf0D : TDT := fun _ M Q => Q true M
theorem rd_if0 {σ : SD} {M : HpD} {Q : Bool → HpD → Prop} (h : Q true M) : tIf0D σ M Q := by unfold tIf0D; exact h
section
variable {X : Cx} {tg iter elt : Expr} {ifs : List Expr} {scope : Scope} {body : List Stmt} {tI : TDI} {g : TDG} {tb : TSD} {tc : TDT} {te : TDE} {ts rest : List Str} {pos : Pos}
theorem fd_nil : FD X [] tIf0D := by
  refine pifs_nil.wk fun σ H Q w1_ => w1_.elim fun F z_ => z_.elim fun σD z_ => z_.elim fun M z_ => z_.elim fun QD z_ => z_.elim fun rel z_ => z_.elim fun h p => ?_
  unfold tIf0D at h
  exact p true M H .refl rel.hp h
theorem fd_one {c : Expr} (h : TD X c tc) : FD X [c] tc := pifs_one h
theorem sd_for (hi : IDD X tg iter tI) (hg : GD X tg g) (hb : SsD X body tb) (hp : PassesOwn (model X.prog X.w) X.A X.env X.xe := by exact PassesOwn.never) (hc : X.calm = true := by rfl)
    (hs : ∀ x, foldedSetIterable iter X.env x = pure x := by intro _; rfl) : StD X (.For tg iter body [] pos) (tForD tI g tb) := by
  refine (ps_for hp hc hi hg hb hs).wk fun D' σ H w1_ => w1_.elim fun F z_ => z_.elim fun σD z_ => z_.elim fun M z_ => z_.elim fun DD z_ => z_.elim fun rel z_ => z_.elim fun h p => ?_
  unfold tForD at h
  refine ⟨F, σD, M, _, rel, h, fun ds M1 H1 J f1 rh1 y h1 => ?_⟩
  obtain ⟨Pv, p0, step, done⟩ := h1
  refine ⟨fun i m σ' H' => m = ds.length - i ∧ i ≤ ds.length ∧ ∃ σD' M', Rel ⟨X.K, F⟩ σD' M' σ' H' ∧ Fz M1 H1 M' H' ∧ Pv i σD' M', ⟨ds.length, by simp, Nat.zero_le _, σD, M1, rel.mono f1 rh1, .refl, p0⟩, ?_⟩
  rintro i m σ' H' ⟨rfl, hi, σD', M', rel', f', pv⟩
  by_cases hlt : i < ds.length
  · have e : ds[i]? = some ds[i] := List.getElem?_eq_getElem hlt
    obtain ⟨go, yl⟩ := (y F i M' H' (fun _ z => .inl z) f' rel'.hp).1 _ e
    refine .inr ⟨go, fun σ2 H2 => ∃ σD2 M2, Rel ⟨X.K, F⟩ σD2 M2 σ2 H2 ∧ Fz M1 H1 M2 H2 ∧ Pv (i + 1) σD2 M2, fun σ2 H2 w1_ => w1_.elim fun σD2 z_ => z_.elim fun M2 z_ => z_.elim fun a1 z_ => z_.elim fun a2 a3 => ⟨ds.length - (i + 1), by omega, rfl, hlt, σD2, M2, a1, a2, a3⟩, fun x H2 yy => ?_⟩
    obtain ⟨fy, rhy, ry⟩ := yl x H2 yy
    have rel2 := rel'.mono fy rhy
    refine ⟨F, ds[i], σD', M', _, rel2, ry, step i _ σD' M' e pv, fun σD3 M3 σ3 H3 f3 rel3 h3 => ?_⟩
    have ff := (f'.trans fy).trans f3
    refine lS rel3 h3 ⟨fun a b c d f r q => ⟨a, b, r, ff.trans f, q⟩, (p.mono (f1.trans ff)).rt, fun a b c d f r q => (p.mono (f1.trans ff)).nx a b c d f r q, fun a b c d f r q => ⟨a, b, r, ff.trans f, q⟩⟩
  · have e : i = ds.length := by omega
    subst e
    exact .inl ⟨(y F _ M' H' (fun _ z => .inl z) f' rel'.hp).2 (Nat.le_refl _), p.nx _ _ _ _ (f1.trans f') rel' (done _ _ pv)⟩
theorem lift_comp {K : PySem.W.Frag} {n : Nat} {σ : St} {H : Hp} {Q : VK} (h : LiftE K (tCompD n tI g tc te) σ H Q) : tComp n (LiftI K tI) (LiftG K g) (LiftT K tc) (LiftE K te) σ H Q := by
  obtain ⟨F, σD, M, QD, rel, h, p⟩ := h
  unfold tCompD at h
  refine ⟨F, σD, M, _, rel, h, fun ds M1 H1 J f1 rh1 y h1 => ?_⟩
  intro D' hD
  obtain ⟨hsz, Pv, p0, step, done⟩ := h1
  have mD := rh1.free hD
  have fF : ∀ a, (F a ∨ a = D') → F a ∨ H1 a = none := fun a z => z.elim .inl fun e => .inr (e ▸ hD)
  have rel1 := rel.mono f1 rh1
  -- the start: D' is forbidden
  have relS : Rel ⟨K, fun a => F a ∨ a = D'⟩ (List.replicate n none ++ σD) M1 (List.replicate n none ++ σ) (upd H1 D' (.lst [])) := by
    have r1 : Rel ⟨K, F⟩ (List.replicate n none ++ σD) M1 (List.replicate n none ++ σ) H1 := rel1.pad n
    refine ⟨r1.len, fun i d e => ?_, ⟨fun a o e => ?_, fun a z => ?_⟩⟩
    · obtain ⟨v, e1, e2⟩ := r1.st i d e
      exact ⟨v, e1, (e2.more fF).mono (fz_new hD)⟩
    · obtain ⟨o', e', r⟩ := rh1.at_ a o e
      exact ⟨o', by rw [upd_ne (ne_of_none e' hD)]; exact e', (r.more fF).mono (fz_new hD)⟩
    · rcases z with z | rfl
      · obtain ⟨⟨o', e'⟩, m'⟩ := rh1.fb a z
        exact ⟨⟨o', by rw [upd_ne (ne_of_none e' hD)]; exact e'⟩, m'⟩
      · exact ⟨⟨_, upd_same⟩, mD⟩
  refine ⟨fun i m ys σ' H' => m = ds.length - i ∧ i ≤ ds.length ∧ ys.length ≤ i ∧ H' D' = some (.lst ys) ∧ ∃ σD' M' ysD, Rel ⟨K, fun a => F a ∨ a = D'⟩ σD' M' σ' H' ∧ Fz M1 H1 M' H' ∧ RepDs ⟨K, fun a => F a ∨ a = D'⟩ H' M' ysD ys ∧ Pv i ysD σD' M',
    ⟨ds.length, by simp, Nat.zero_le _, Nat.zero_le _, upd_same, _, M1, [], relS, fz_new hD, .nil, p0⟩, ?_⟩
  rintro i m ys σ' H' ⟨rfl, hi, hyl, eD, σD', M', ysD, rel', f', ry, pv⟩
  have mD' : M' D' = none := (rel'.hp.fb D' (.inr rfl)).2
  by_cases hlt : i < ds.length
  · have e : ds[i]? = some ds[i] := List.getElem?_eq_getElem hlt
    obtain ⟨go, yl⟩ := (y _ i M' H' fF f' rel'.hp).1 _ e
    refine .inr ⟨go, fun x H2 yy => ?_⟩
    obtain ⟨fy, rhy, rx⟩ := yl x H2 yy
    have eD2 := (fy D' _ eD mD').1
    refine ⟨_, ds[i], σD', M', _, rel'.mono fy rhy, rx, step i _ ysD σD' M' e pv, fun σD3 M3 σ3 H3 f3 rel3 h3 => ?_⟩
    refine lT rel3 h3 fun b M4 H4 f4 rel4 h4 => ?_
    have f14 : Fz M1 H1 M4 H4 := ((f'.trans fy).trans f3).trans f4
    have fD4 : Fz M' H' M4 H4 := (fy.trans f3).trans f4
    cases b with
    | false =>
      simp only [Bool.false_eq_true, if_false] at h4 ⊢
      exact ⟨ds.length - (i + 1), by omega, rfl, hlt, by omega, (fD4 D' _ eD mD').1, σD3, M4, ysD, rel4, f14, ry.mono fD4, h4⟩
    | true =>
      simp only [if_true] at h4 ⊢
      refine lE rel4 h4 fun yd M5 v H5 f5 rel5 r5 h5 => ?_
      have fD5 := fD4.trans f5
      obtain ⟨eD5, mD5⟩ := fD5 D' _ eD mD'
      have hF : (KF.mk K fun a => F a ∨ a = D').F D' := .inr rfl
      refine ⟨eD5, by omega, ds.length - (i + 1), by omega, rfl, hlt, by rw [List.length_append, List.length_singleton]; omega, upd_same, σD3, M5, ysD ++ [yd], rel5.past hF, fun a o q z => ?_, ((ry.mono fD5).append (.cons r5 .nil)).past hF, h5⟩
      obtain ⟨q1, q2⟩ := (f14.trans f5) a o q z
      exact ⟨by rw [upd_ne (ne_of_none q hD)]; exact q1, q2⟩
  · have e : i = ds.length := by omega
    subst e
    refine .inl ⟨(y _ _ M' H' fF f' rel'.hp).2 (Nat.le_refl _), eD, ?_⟩
    -- the end: D' is told
    have fL : ∀ a, F a → (F a ∨ a = D') ∨ H' a = none := fun a z => .inl (.inl z)
    have rhE : RepH ⟨K, F⟩ H' M' := ⟨fun a o q => by
      obtain ⟨o', e', r⟩ := rel'.hp.at_ a o q
      exact ⟨o', e', r.more fL⟩, fun a z => rel'.hp.fb a (.inl z)⟩
    have hn := done ysD σD' M' pv
    unfold newL at hn
    obtain ⟨hl, hn⟩ := hn
    have nf : ¬ F D' := rh1.nf hD
    rcases hn with hn | hn
    · exact p _ M' _ H' (f1.trans f') rhE (by unfold RepD; exact ⟨D', ys, rfl, .inl ⟨.inl eD, mD', nf⟩, ry.more fL⟩) hn
    · refine p _ (updD M' D' (.lst ysD)) _ H' (f1.trans fun a o q z => ?_) ⟨fun a o q => ?_, fun a z => ⟨(rhE.fb a z).1, ?_⟩⟩ (by unfold RepD; rfl) (hn D' mD')
      · obtain ⟨q1, q2⟩ := f' a o q z
        exact ⟨q1, by rw [updD_ne (ne_of_none q hD)]; exact q2⟩
      · by_cases qa : a = D'
        · rw [qa, updD_same] at q; cases q
          rw [qa]
          refine ⟨_, eD, ys, rfl, ?_⟩
          -- what is gathered does not pass through the list itself
          exact RepDs.own (F' := fun a => F a ∨ a = D') (.inr rfl) fL ry
        · rw [updD_ne qa] at q
          obtain ⟨o', e', r⟩ := rel'.hp.at_ a o q
          exact ⟨o', e', RepO.own (F' := fun a => F a ∨ a = D') (.inr rfl) fL r⟩
      · rw [updD_ne (fun (z' : a = D') => nf (by rw [← z']; exact z))]; exact (rhE.fb a z).2
theorem ed_comp (S : CompScope X scope ts rest) (hi : IDD X tg iter tI)
    (hg : ∀ fp s H, GD (compCx X scope ts rest fp s H) tg g) (ht : ∀ fp s H, FD (compCx X scope ts rest fp s H) ifs tc) (he : ∀ fp s H, ED (compCx X scope ts rest fp s H) elt te)
    (hc : X.calm = true := by rfl) (hs : ∀ x, foldedSetIterable iter X.env x = pure x := by intro _; rfl) : ED X (.ListComp elt [⟨tg, iter, ifs, 0⟩] scope pos) (tCompD ts.length tI g tc te) :=
  (pe_comp (g := LiftG X.K g) (tc := LiftT X.K tc) (te := LiftE X.K te) hc S hi hg ht he hs).wk fun _ _ _ h => lift_comp h
end
end L2
namespace L2
open PySem PySem.Spec PyProof.Rows
section
variable {X : Cx} {pins : List (Addr × Obj)} {σ : St} {H : Hp} {s : Shared}
theorem walk_list {A : Around} {E : Value → Shared → Prop} {a : Addr} {xs : List V} {Q : Value → Shared → Prop} (I : Inv X pins σ H s) (hh : A.handled = none) (hs : SqL X.K H a xs)
    (h : ∀ (it : Addr) (its : List Value), Vals xs its → Walks X.prog X.w A it [it, a] [it] its.toArray.size (fun i v => its.toArray[i]? = some v) (fun i h => h.IsListIter it a i ∧ h.IsList a its.toArray) →
      ∀ s₂ : Shared, (∃ h2, s₂ = { s with heap := h2 } ∧ ∀ b o, s.heap.get? b = some o → h2.get? b = some o) → (s₂.heap.IsListIter it a 0 ∧ s₂.heap.IsList a its.toArray) → s.heap.objs.size ≤ it → (∀ b ∈ [it, a], b < s₂.heap.objs.size) → Q (.ref it) s₂) : wpAny (model X.prog X.w) A (pyIter (.ref a)) Q E s := by
  obtain ⟨its, rv, p, hz⟩ := I.list hs
  obtain ⟨o, ho, _⟩ := id p.isList
  have ha : a < s.heap.objs.size := Heap.lt_size ho
  refine wpAny_pyIter_list p.isList ?_
  refine h s.heap.objs.size its rv (Walks.list hh _ a (Nat.ne_of_lt ha) its.toArray) _ ⟨_, rfl, fun b o e => Heap.get?_push_of_some _ e⟩ ⟨⟨_, Heap.get?_push_size _ rfl, rfl, rfl⟩, p.isList.at fun o e => Heap.get?_push_of_some _ e⟩ (Nat.le_refl _) fun b hb => ?_
  have hz2 : (s.heap.push { cls := .type "list_iterator", data := .fields #[.ref a, rawInt 0] }).objs.size = s.heap.objs.size + 1 := Heap.size_push ..
  rcases List.mem_cons.mp hb with e | hb
  · rw [e, Heap.size_push]; exact Nat.lt_succ_self _
  · have e : b = a := by simpa using hb
    rw [e, Heap.size_push]; exact Nat.lt_succ_of_lt ha
end
end L2
namespace L2
open PySem PySem.Spec PyProof.Rows
section
variable {X : Cx}
theorem vals_bl : ∀ {bs : List Bool} {us : List Value}, Vals (bs.map V.bl) us → us = bs.map Value.bool
  | [], _, .nil => rfl
  | b :: r, _, .cons h t => by rw [vals_bl t]; cases h; rfl
theorem range_all (bs : List Bool) : (List.range bs.length).all (fun i => bs.getD i false) = bs.all id := by
  rw [Bool.eq_iff_iff, List.all_eq_true, List.all_eq_true]
  constructor
  · intro h x hx
    obtain ⟨i, hi, rfl⟩ := List.getElem_of_mem hx
    have := h i (List.mem_range.mpr hi)
    simpa [List.getD_eq_getElem?_getD, hi] using this
  · intro h i hi
    have hi' : i < bs.length := List.mem_range.mp hi
    have := h bs[i] (List.getElem_mem hi')
    simpa [List.getD_eq_getElem?_getD, hi'] using this
theorem call_allL (hc : X.calm = true) : CallR X (.builtin "all") (fun xs H Q => ∃ (a : Addr) (bs : List Bool), xs = [.ref a] ∧ SqL X.K H a (bs.map V.bl) ∧ Q (.bl (bs.all id)) H) := by
  intro pins s σ H xs us Q I rx h
  obtain ⟨a, bs, rfl, hs, q⟩ := h
  obtain ⟨u, rfl, ru⟩ := vals1 rx
  cases ru
  refine call_all_walk (walk_list I (A := X.A.in1) (I.ok.hd hc) hs fun it its rv W s₂ w1_ st hit hlt => w1_.elim fun h2 z_ => z_.elim fun e2 k2 => ?_)
  subst e2
  have e := vals_bl rv
  refine ⟨it, _, _, _, _, _, fun i => bs.getD i false, rfl, W, st, fun i v s Q E hv hq => ?_, fun h' tk hk => ?_⟩
  · have : v = .bool (bs.getD i false) := by
      rw [e] at hv
      simp only [List.getElem?_toArray, List.getElem?_map] at hv
      cases z : bs[i]? with
      | none => rw [z] at hv; cases hv
      | some b => rw [z] at hv; cases hv; simp [List.getD_eq_getElem?_getD, z]
    subst this
    exact wpAny_truthy_bool hq
  · have hl : its.toArray.size = bs.length := by rw [e]; simp
    rw [hl, range_all]
    refine ⟨.bl _, H, I.kept fun b o eo => hk b o (fun z => ?_) (k2 b o eo), rfl, q⟩
    have : b = it := by simpa using z
    rw [this] at eo
    exact absurd (Nat.lt_of_lt_of_le (Heap.lt_size eo) hit) (Nat.lt_irrefl _)
theorem rep_bls {K : KF} {H : Hp} {M : HpD} : ∀ {bs : List Bool} {xs : List V}, RepDs K H M (bs.map D.bl) xs → xs = bs.map V.bl
  | [], _, h => by unfold RepDs at h; simpa using h
  | b :: r, _, h => by
    rw [List.map_cons] at h
    unfold RepDs at h
    obtain ⟨x, r', e, h1, h2⟩ := h
    unfold RepD at h1
    rw [e, h1, rep_bls h2]; rfl
theorem rep_ints {K : KF} {H : Hp} {M : HpD} : ∀ {bs : List Int} {xs : List V}, RepDs K H M (bs.map D.int) xs → xs = bs.map V.int
  | [], _, h => by unfold RepDs at h; simpa using h
  | b :: r, _, h => by
    rw [List.map_cons] at h
    unfold RepDs at h
    obtain ⟨x, r', e, h1, h2⟩ := h
    unfold RepD at h1
    rw [e, h1, rep_ints h2]; rfl
@[irreducible] noncomputable def cAll : RDn := fun xs M Q => ∃ (d : D) (bs : List Bool), xs = [d] ∧ listD d M = some (bs.map D.bl) ∧ Q (.bl (bs.all id)) M
theorem rd_all {d : D} {bs : List Bool} {M : HpD} {Q : KD} (h : listD d M = some (bs.map D.bl)) (q : Q (.bl (bs.all id)) M) : cAll [d] M Q := by unfold cAll; exact ⟨d, bs, rfl, h, q⟩
theorem cd_all (hc : X.calm = true := by rfl) : CallR X (.builtin "all") (LiftC X.K cAll) := by
  refine (call_allL hc).wk fun xs H Q w1_ => w1_.elim fun F z_ => z_.elim fun ds z_ => z_.elim fun M z_ => z_.elim fun QD z_ => z_.elim fun r z_ => z_.elim fun rh z_ => z_.elim fun hq p => ?_
  unfold cAll at hq
  obtain ⟨d, bs, rfl, e1, q⟩ := hq
  obtain ⟨v, rfl, r1⟩ := rep1 r
  obtain ⟨a, ys, rfl, hs, r2⟩ := list_rep rh r1 e1
  rw [rep_bls r2] at hs
  exact ⟨a, bs, rfl, hs, p _ M _ H .refl rh (by unfold RepD; rfl) q⟩
theorem best_mem (bt : Nat → Nat → Bool) : ∀ k, argBest bt k ≤ k
  | 0 => Nat.le_refl _
  | k + 1 => by
    unfold argBest
    split
    · exact Nat.le_refl _
    · exact Nat.le_succ_of_le (best_mem bt k)
theorem best_max (f : Nat → Int) : ∀ k i, i ≤ k → f i ≤ f (argBest (fun i j => decide (f i > f j)) k)
  | 0, i, h => by
    have : i = 0 := by omega
    subst this; exact Int.le_refl _
  | k + 1, i, h => by
    unfold argBest
    by_cases hb : (decide (f (k + 1) > f (argBest (fun i j => decide (f i > f j)) k))) = true
    · rw [if_pos hb]
      have hb' : f (k + 1) > f (argBest (fun i j => decide (f i > f j)) k) := of_decide_eq_true hb
      by_cases hi : i = k + 1
      · subst hi; exact Int.le_refl _
      · have := best_max f k i (by omega); omega
    · rw [if_neg hb]
      have hb' : ¬ f (k + 1) > f (argBest (fun i j => decide (f i > f j)) k) := fun z => hb (decide_eq_true z)
      by_cases hi : i = k + 1
      · subst hi; omega
      · exact best_max f k i (by omega)
theorem vals_int_at : ∀ {ns : List Int} {us : List Value} {i : Nat} {v : Value}, Vals (ns.map V.int) us → us.toArray[i]? = some v → ∃ t, v = .int (ns.getD i 0) t := fun {ns us i v} r e => by
  have hl := r.length
  have hi : i < us.length := by
    have := (Array.getElem?_eq_some_iff.mp e).1
    simpa using this
  have e1 : (ns.map V.int)[i]? = some (.int (ns.getD i 0)) := by
    rw [List.length_map] at hl
    rw [List.getElem?_map, List.getElem?_eq_getElem (by omega)]
    simp [List.getD_eq_getElem?_getD, show i < ns.length by omega]
  obtain ⟨u, e2, ru⟩ := r.get e1
  have e3 : us[i]? = some v := by simpa using e
  rw [e2] at e3; cases e3
  exact ru
theorem getD_at {ns : List Int} {i : Nat} (h : i < ns.length) : ns.getD i 0 = ns[i] := by simp [List.getD_eq_getElem?_getD, h]
theorem getD_mem {ns : List Int} {i : Nat} (h : i < ns.length) : ns.getD i 0 ∈ ns := by rw [getD_at h]; exact List.getElem_mem h
variable {e d : Expr} {te td : TE} {p pos kpos : Pos}
end
section
variable {X : Cx} {e d : Expr} {te td : TDE} {p pos kpos : Pos}
@[irreducible] noncomputable def tNegD (te : TDE) : TDE := fun σ M Q => te σ M fun x M1 => ∃ i, x = .int i ∧ Q (.int (-i)) M1
theorem rd_neg {te : TDE} {σ : SD} {M : HpD} {Q : KD} (h : te σ M fun x M1 => ∃ i, x = .int i ∧ Q (.int (-i)) M1) : tNegD te σ M Q := by unfold tNegD; exact h
theorem ed_neg (he : ED X e te) : ED X (.UnaryOp .USub e pos) (tNegD te) := by
  refine (pe_un un_neg he).wk fun σ H Q w1_ => w1_.elim fun F z_ => z_.elim fun σD z_ => z_.elim fun M z_ => z_.elim fun QD z_ => z_.elim fun rel z_ => z_.elim fun h p => ?_
  unfold tNegD at h
  refine lE rel h fun d M1 v H1 f1 rel1 r1 h1 => ?_
  obtain ⟨i, rfl, q⟩ := h1
  unfold RepD at r1
  exact ⟨i, r1, p _ M1 _ H1 f1 rel1.hp (by unfold RepD; rfl) q⟩
end
end L2
namespace L2
open PySem PySem.Spec PyProof.Rows
mutual
noncomputable def eqD : D → D → Bool
  | .non, .non => true
  | .bl a, .bl b => a == b
  | .int a, .int b => a == b
  | .str a, .str b => a == b
  | .tup a, .tup b => eqDs a b
  | .lst a, .lst b => eqDs a b
  | _, _ => false
noncomputable def eqDs : List D → List D → Bool
  | [], [] => true
  | a :: r, b :: s => eqD a b && eqDs r s
  | _, _ => false
end
mutual
noncomputable def okD : D → D → Bool
  | .non, .non => true
  | .non, .int _ => true
  | .int _, .non => true
  | .non, .str _ => true
  | .str _, .non => true
  | .bl _, .bl _ => true
  | .int _, .int _ => true
  | .str _, .str _ => true
  | .int _, .str _ => true
  | .str _, .int _ => true
  | .tup a, .tup b => okDs a b
  | .lst a, .lst b => okDs a b
  | _, _ => false
noncomputable def okDs : List D → List D → Bool
  | a :: r, b :: s => okD a b && okDs r s
  | _, _ => true
end
mutual
noncomputable def depD : D → Nat
  | .tup a => depDs a + 1
  | .lst a => depDs a + 1
  | _ => 0
noncomputable def depDs : List D → Nat
  | [] => 0
  | a :: r => max (depD a) (depDs r)
end
theorem eqDs_len : ∀ {a b : List D}, eqDs a b = true → a.length = b.length
  | [], [], _ => rfl
  | [], _ :: _, h => by unfold eqDs at h; cases h
  | _ :: _, [], h => by unfold eqDs at h; cases h
  | a :: r, b :: s, h => by
    unfold eqDs at h
    rw [Bool.and_eq_true] at h
    rw [List.length_cons, List.length_cons, eqDs_len h.2]
theorem eqDs_all : ∀ (a b : List D), ((List.range (min a.length b.length)).all (fun j => (List.zipWith eqD a b).getD j true) && a.length == b.length) = eqDs a b
  | [], [] => by unfold eqDs; rfl
  | [], _ :: _ => by unfold eqDs; rfl
  | _ :: _, [] => by unfold eqDs; rfl
  | a :: r, b :: s => by
    have ih := eqDs_all r s
    unfold eqDs
    rw [← ih]
    rw [show min (a :: r).length (b :: s).length = min r.length s.length + 1 by simp only [List.length_cons]; omega, List.range_succ_eq_map, List.all_cons, List.all_map]
    simp only [List.zipWith_cons_cons, List.getD_cons_zero, Function.comp_def, List.getD_cons_succ, List.length_cons, Bool.and_assoc]
    congr 1
    congr 1
    rw [Bool.eq_iff_iff, beq_iff_eq, beq_iff_eq]
    omega
theorem eqDs_all' {a b : List D} (h : a.length = b.length) : ((List.range a.length).all fun j => (List.zipWith eqD a b).getD j true) = eqDs a b := by
  have := eqDs_all a b
  rw [← h, Nat.min_self] at this
  rw [← this]
  simp
mutual
theorem eqD_refl : ∀ {d e : D}, okD d e = true → ∀ {K : KF} {H : Hp} {M : HpD} {v : V}, (∀ a xs ys, SqT K.K H a xs → SqT K.K H a ys → xs = ys) → (∀ a xs ys, SqL K.K H a xs → SqL K.K H a ys → xs = ys) → RepD K H M d v → RepD K H M e v → eqD d e = true
  | .non, e, ok, K, H, M, v, i1, i2, r1, r2 => by
    cases e <;> first | (unfold okD at ok; cases ok; done) | (unfold RepD at r1 r2; rw [r1] at r2; cases r2; done) | (unfold eqD; rfl)
  | .bl a, e, ok, K, H, M, v, i1, i2, r1, r2 => by
    cases e <;> first | (unfold okD at ok; cases ok; done) | (unfold RepD at r1 r2; rw [r1] at r2; cases r2; unfold eqD; simp)
  | .int a, e, ok, K, H, M, v, i1, i2, r1, r2 => by
    cases e <;> first | (unfold okD at ok; cases ok; done) | (unfold RepD at r1 r2; rw [r1] at r2; cases r2; unfold eqD; simp) | (unfold RepD at r1 r2; rw [r1] at r2; cases r2)
  | .str a, e, ok, K, H, M, v, i1, i2, r1, r2 => by
    cases e <;> first | (unfold okD at ok; cases ok; done) | (unfold RepD at r1 r2; rw [r1] at r2; cases r2; unfold eqD; simp) | (unfold RepD at r1 r2; rw [r1] at r2; cases r2)
  | .ref a, e, ok, K, H, M, v, i1, i2, r1, r2 => by cases e <;> (unfold okD at ok; cases ok)
  | .ty a, e, ok, K, H, M, v, i1, i2, r1, r2 => by cases e <;> (unfold okD at ok; cases ok)
  | .tup a, e, ok, K, H, M, v, i1, i2, r1, r2 => by
    cases e with
    | tup b =>
      unfold okD at ok
      unfold RepD at r1 r2
      obtain ⟨p, xs, e1, h1, h2⟩ := r1
      obtain ⟨q, ys, e2, h3, h4⟩ := r2
      rw [e1] at e2; cases e2
      have := i1 p xs ys h1.sq h3.sq
      subst this
      unfold eqD
      exact eqDs_refl ok i1 i2 h2 h4
    | _ => unfold okD at ok; cases ok
  | .lst a, e, ok, K, H, M, v, i1, i2, r1, r2 => by
    cases e with
    | lst b =>
      unfold okD at ok
      unfold RepD at r1 r2
      obtain ⟨p, xs, e1, h1, h2⟩ := r1
      obtain ⟨q, ys, e2, h3, h4⟩ := r2
      rw [e1] at e2; cases e2
      have := i2 p xs ys h1.sq h3.sq
      subst this
      unfold eqD
      exact eqDs_refl ok i1 i2 h2 h4
    | _ => unfold okD at ok; cases ok
theorem eqDs_refl : ∀ {d e : List D}, okDs d e = true → ∀ {K : KF} {H : Hp} {M : HpD} {v : List V}, (∀ a xs ys, SqT K.K H a xs → SqT K.K H a ys → xs = ys) → (∀ a xs ys, SqL K.K H a xs → SqL K.K H a ys → xs = ys) → RepDs K H M d v → RepDs K H M e v → eqDs d e = true
  | [], e, ok, K, H, M, v, i1, i2, r1, r2 => by
    have := r1.length.trans r2.length.symm
    cases e with
    | nil => unfold eqDs; rfl
    | cons _ _ => cases this
  | a :: r, e, ok, K, H, M, v, i1, i2, r1, r2 => by
    have := r1.length.trans r2.length.symm
    cases e with
    | nil => cases this
    | cons b s =>
      unfold okDs at ok
      rw [Bool.and_eq_true] at ok
      unfold RepDs at r1 r2
      obtain ⟨x, xr, e1, h1, h2⟩ := r1
      obtain ⟨y, yr, e2, h3, h4⟩ := r2
      rw [e1] at e2; cases e2
      unfold eqDs
      rw [eqD_refl ok.1 i1 i2 h1 h3, eqDs_refl ok.2 i1 i2 h2 h4]
      rfl
end
section
variable {X : Cx} {pins : List (Addr × Obj)} {σ : St} {H : Hp} {s : Shared} {F : Addr → Prop} {M : HpD}
mutual
theorem eqAtD (I : Inv X pins σ H s) : ∀ (d e : D) {x y : V} {u v : Value} (A : Around), okD d e = true → A.units + depD d < cLine → RepD ⟨X.K, F⟩ H M d x → RepD ⟨X.K, F⟩ H M e y → RelV x u → RelV y v → SeqAt.EqAt A s u v (eqD d e)
  | .non, e, x, y, u, v, A, ok, hu, r1, r2, q1, q2 => by
    unfold RepD at r1; subst r1
    cases e <;> first
      | (unfold okD at ok; cases ok; done)
      | (unfold RepD at r2; subst r2; have z := eqAt_V (A := A) (s := s) q1 q2 rfl rfl; unfold eqD; exact z)
  | .bl a, e, x, y, u, v, A, ok, hu, r1, r2, q1, q2 => by
    unfold RepD at r1; subst r1
    cases e <;> first
      | (unfold okD at ok; cases ok; done)
      | (unfold RepD at r2; subst r2; have z := eqAt_V (A := A) (s := s) q1 q2 rfl rfl; unfold eqD; exact z)
  | .int a, e, x, y, u, v, A, ok, hu, r1, r2, q1, q2 => by
    unfold RepD at r1; subst r1
    cases e <;> first
      | (unfold okD at ok; cases ok; done)
      | (unfold RepD at r2; subst r2; have z := eqAt_V (A := A) (s := s) q1 q2 rfl rfl; unfold eqD; exact z)
  | .str a, e, x, y, u, v, A, ok, hu, r1, r2, q1, q2 => by
    unfold RepD at r1; subst r1
    cases e <;> first
      | (unfold okD at ok; cases ok; done)
      | (unfold RepD at r2; subst r2; have z := eqAt_V (A := A) (s := s) q1 q2 rfl rfl; unfold eqD; exact z)
  | .ref a, e, x, y, u, v, A, ok, hu, r1, r2, q1, q2 => by cases e <;> (unfold okD at ok; cases ok)
  | .ty a, e, x, y, u, v, A, ok, hu, r1, r2, q1, q2 => by cases e <;> (unfold okD at ok; cases ok)
  | .tup a, e, x, y, u, v, A, ok, hu, r1, r2, q1, q2 => by
    cases e with
    | tup b =>
      have r1' := r1
      have r2' := r2
      unfold RepD at r1 r2
      obtain ⟨p, xs, rfl, h1, h2⟩ := r1
      obtain ⟨q, ys, rfl, h3, h4⟩ := r2
      cases q1
      cases q2
      by_cases hpq : p = q
      · subst hpq
        rw [eqD_refl ok (fun a xs ys => I.tuple_inj) (fun a xs ys => I.list_inj) r1' r2']
        exact SeqAt.EqAt.same _
      · obtain ⟨i1, v1, t1, _⟩ := I.tuple h1.sq
        obtain ⟨i2, v2, t2, _⟩ := I.tuple h3.sq
        unfold okD at ok
        unfold depD at hu
        have hu1 : A.units < cLine := by omega
        refine SeqAt.EqAt.of_refs hpq ?_
        have := SeqAt.RcAt.tuples (A := A) (s := s) (show s.heap.IsTuple p i1.toArray from t1) (show s.heap.IsTuple q i2.toArray from t2) hu1 (e := fun j => (List.zipWith eqD a b).getD j true) fun j z1 z2 =>
          eqAtDs I a b A.in1 ok (by show A.units + 1 + depDs a < cLine; omega) h2 h4 v1 v2 j _ _ (by simp) (by simp)
        have l1 : i1.toArray.size = a.length := by rw [List.size_toArray, ← v1.length, h2.length]
        have l2 : i2.toArray.size = b.length := by rw [List.size_toArray, ← v2.length, h4.length]
        rw [l1, l2, eqDs_all] at this
        unfold eqD
        exact this
    | _ => unfold okD at ok; cases ok
  | .lst a, e, x, y, u, v, A, ok, hu, r1, r2, q1, q2 => by
    cases e with
    | lst b =>
      have r1' := r1
      have r2' := r2
      unfold RepD at r1 r2
      obtain ⟨p, xs, rfl, h1, h2⟩ := r1
      obtain ⟨q, ys, rfl, h3, h4⟩ := r2
      cases q1
      cases q2
      by_cases hpq : p = q
      · subst hpq
        rw [eqD_refl ok (fun a xs ys => I.tuple_inj) (fun a xs ys => I.list_inj) r1' r2']
        exact SeqAt.EqAt.same _
      · obtain ⟨i1, v1, t1, _⟩ := I.list h1.sq
        obtain ⟨i2, v2, t2, _⟩ := I.list h3.sq
        unfold okD at ok
        unfold depD at hu
        have hu1 : A.units < cLine := by omega
        have l1 : i1.toArray.size = a.length := by rw [List.size_toArray, ← v1.length, h2.length]
        have l2 : i2.toArray.size = b.length := by rw [List.size_toArray, ← v2.length, h4.length]
        refine SeqAt.EqAt.of_refs hpq ?_
        unfold eqD
        by_cases hl : a.length = b.length
        · have := SeqAt.RcAt.lists (A := A) (s := s) t1.isList t2.isList (by rw [l1, l2]; exact hl) hu1 (e := fun j => (List.zipWith eqD a b).getD j true) fun j z1 z2 =>
            eqAtDs I a b A.in1 ok (by show A.units + 1 + depDs a < cLine; omega) h2 h4 v1 v2 j _ _ (by simp) (by simp)
          rw [l1, eqDs_all' hl] at this
          exact this
        · rw [show eqDs a b = false by
            cases q : eqDs a b with
            | false => rfl
            | true => exact absurd (eqDs_len q) hl]
          exact SeqAt.RcAt.lists_lengths t1.isList t2.isList (by rw [l1, l2]; simpa using hl) hu1
    | _ => unfold okD at ok; cases ok
theorem eqAtDs (I : Inv X pins σ H s) : ∀ (ds es : List D) {xs ys : List V} {us vs : List Value} (A : Around), okDs ds es = true → A.units + depDs ds < cLine → RepDs ⟨X.K, F⟩ H M ds xs → RepDs ⟨X.K, F⟩ H M es ys → Vals xs us → Vals ys vs →
    ∀ (j : Nat) (u v : Value), us[j]? = some u → vs[j]? = some v → SeqAt.EqAt A s u v ((List.zipWith eqD ds es).getD j true)
  | [], es, xs, ys, us, vs, A, ok, hu, r1, r2, q1, q2, j, u, v, e1, e2 => by
    have := r1.length.trans q1.length
    have hj : j < us.length := (List.getElem?_eq_some_iff.mp e1).1
    rw [← this] at hj
    cases hj
  | d :: ds, [], xs, ys, us, vs, A, ok, hu, r1, r2, q1, q2, j, u, v, e1, e2 => by
    have := r2.length.trans q2.length
    have hj : j < vs.length := (List.getElem?_eq_some_iff.mp e2).1
    rw [← this] at hj
    cases hj
  | d :: ds, e :: es, xs, ys, us, vs, A, ok, hu, r1, r2, q1, q2, j, u, v, e1, e2 => by
    unfold okDs at ok
    rw [Bool.and_eq_true] at ok
    unfold depDs at hu
    unfold RepDs at r1 r2
    obtain ⟨x, xr, rfl, h1, h2⟩ := r1
    obtain ⟨y, yr, rfl, h3, h4⟩ := r2
    cases q1 with
    | cons a1 b1 =>
      cases q2 with
      | cons a2 b2 =>
        cases j with
        | zero =>
          simp at e1 e2
          subst e1 e2
          simp only [List.zipWith_cons_cons, List.getD_cons_zero]
          exact eqAtD I d e A ok.1 (by omega) h1 h3 a1 a2
        | succ j =>
          simp only [List.zipWith_cons_cons, List.getD_cons_succ]
          exact eqAtDs I ds es A ok.2 (by omega) h2 h4 b1 b2 j u v (by simpa using e1) (by simpa using e2)
end
end
noncomputable def viewD : D → HpD → D
  | .ref p, M => match M p with | some (.lst ds) => .lst ds | _ => .ref p
  | d, _ => d
noncomputable def okT : D → D → Bool
  | .bl _, .bl _ => true
  | .int _, .int _ => true
  | .str _, .str _ => true
  | .tup a, .tup b => okDs a b
  | .lst a, .lst b => okDs a b
  | _, _ => false
theorem view_rep {K : KF} {H : Hp} {M : HpD} {d : D} {v : V} (rh : RepH K H M) (r : RepD K H M d v) : ∃ M', Fz M H M' H ∧ RepH K H M' ∧ RepD K H M' (viewD d M) v := by
  cases d with
  | ref p =>
    cases q : M p with
    | none => exact ⟨M, .refl, rh, by simp only [viewD, q]; exact r⟩
    | some o =>
      cases o with
      | lst ds =>
        refine ⟨delD M p, fz_del, rh.del, ?_⟩
        simp only [viewD, q]
        unfold RepD at r
        subst r
        exact .frz rh q
      | dct kvs => exact ⟨M, .refl, rh, by simp only [viewD, q]; exact r⟩
      | tab _ => exact ⟨M, .refl, rh, by simp only [viewD, q]; exact r⟩
  | _ => exact ⟨M, .refl, rh, r⟩
theorem view_rep2 {K : KF} {H : Hp} {M : HpD} {d e : D} {v u : V} (rh : RepH K H M) (r : RepD K H M d v) (r2 : RepD K H M e u) : ∃ M', Fz M H M' H ∧ RepH K H M' ∧ RepD K H M' (viewD d M) v ∧ RepD K H M' (viewD e M) u := by
  obtain ⟨M1, f1, rh1, r1⟩ := view_rep rh r
  cases e with
  | ref q =>
    cases z : M q with
    | none => exact ⟨M1, f1, rh1, r1, by simp only [viewD, z]; exact r2.mono f1⟩
    | some o =>
      cases o with
      | lst es =>
        unfold RepD at r2
        subst r2
        have hv : viewD (.ref q) M = .lst es := by simp only [viewD, z]
        rw [hv]
        obtain ⟨o', e', xs, rfl, hr⟩ := rh.at_ q _ z
        refine ⟨delD M1 q, f1.trans fz_del, rh1.del, r1.mono fz_del, ?_⟩
        unfold RepD
        exact ⟨q, xs, rfl, .inl ⟨.inl e', delD_same, rh.nfM z⟩, (hr.mono f1).mono fz_del⟩
      | dct kvs => exact ⟨M1, f1, rh1, r1, by simp only [viewD, z]; exact r2.mono f1⟩
      | tab _ => exact ⟨M1, f1, rh1, r1, by simp only [viewD, z]; exact r2.mono f1⟩
  | _ => exact ⟨M1, f1, rh1, r1, r2.mono f1⟩
@[irreducible] noncomputable def rEqA (neg : Bool) : RD2 := fun x y M Q => okT (viewD x M) (viewD y M) = true ∧ depD (viewD x M) ≤ 60 ∧ Q (.bl (neg ^^ eqD (viewD x M) (viewD y M))) M
theorem rd_eqA {neg : Bool} {x y : D} {M : HpD} {Q : KD} (h : okT (viewD x M) (viewD y M) = true) (hd : depD (viewD x M) ≤ 60) (q : Q (.bl (neg ^^ eqD (viewD x M) (viewD y M))) M) : rEqA neg x y M Q := by unfold rEqA; exact ⟨h, hd, q⟩
section
variable {X : Cx} {k : Nat}
theorem od_eqA (hr : Room k X.A) : OpR X (compareOp .Eq) (LiftR X.K (rEqA false)) := by
  intro pins s σ H x y u v Q I rx ry h
  obtain ⟨F, d, e, M, QD, r1, r2, rh, hq, p⟩ := h
  unfold rEqA at hq
  obtain ⟨ok, hd, q⟩ := hq
  have hun := hr.units
  obtain ⟨M1, f1, rh1, r1', r2'⟩ := view_rep2 rh r1 r2
  have fin : ∀ b : Bool, b = eqD (viewD d M) (viewD e M) → EP X pins σ Q (.bool b) s := fun b hb => by
    subst hb
    exact ⟨.bl _, H, I, rfl, p (.bl (false ^^ eqD (viewD d M) (viewD e M))) M _ H .refl rh (by unfold RepD; simp) q⟩
  generalize viewD d M = d' at *
  generalize viewD e M = e' at *
  cases d' <;> cases e' <;> first | (unfold okT at ok; cases ok; done) | skip
  · rename_i a b
    unfold RepD at r1' r2'
    subst r1' r2'
    have q' : QD (.bl (decide (a = b))) M := by
      unfold eqD at q
      rw [Bool.beq_eq_decide_eq] at q
      simpa using q
    exact op_eq pins s σ H _ _ u v Q I rx ry ⟨rfl, by rw [decV_bl]; exact p _ M _ H .refl rh (by unfold RepD; rfl) q'⟩
  · rename_i a b
    unfold RepD at r1' r2'
    subst r1' r2'
    have q' : QD (.bl (decide (a = b))) M := by
      unfold eqD at q
      rw [Bool.beq_eq_decide_eq] at q
      simpa using q
    exact op_eq pins s σ H _ _ u v Q I rx ry ⟨rfl, by rw [decV_int]; exact p _ M _ H .refl rh (by unfold RepD; rfl) q'⟩
  · rename_i a b
    unfold RepD at r1' r2'
    subst r1' r2'
    have q' : QD (.bl (decide (a = b))) M := by
      unfold eqD at q
      rw [Bool.beq_eq_decide_eq] at q
      simpa using q
    exact op_eq pins s σ H _ _ u v Q I rx ry ⟨rfl, by rw [decV_str]; exact p _ M _ H .refl rh (by unfold RepD; rfl) q'⟩
  · rename_i a b
    unfold RepD at r1' r2'
    obtain ⟨pa, xs, rfl, h1, h2⟩ := r1'
    obtain ⟨pb, ys, rfl, h3, h4⟩ := r2'
    cases rx
    cases ry
    obtain ⟨i1, v1, t1, _⟩ := I.tuple h1.sq
    obtain ⟨i2, v2, t2, _⟩ := I.tuple h3.sq
    unfold okT at ok
    unfold depD at hd
    have l1 : i1.toArray.size = a.length := by rw [List.size_toArray, ← v1.length, h2.length]
    have l2 : i2.toArray.size = b.length := by rw [List.size_toArray, ← v2.length, h4.length]
    refine SeqAt.RcAt.tuples (A := X.A) (s := s) (show s.heap.IsTuple pa i1.toArray from t1) (show s.heap.IsTuple pb i2.toArray from t2) (by omega) (e := fun j => (List.zipWith eqD a b).getD j true) (fun j z1 z2 =>
      eqAtDs I a b X.A.in1 ok (by show X.A.units + 1 + depDs a < cLine; omega) h2 h4 v1 v2 j _ _ (by simp) (by simp)) X.prog X.w X.xe _ ?_
    rw [l1, l2, eqDs_all]
    exact fin _ (by unfold eqD; rfl)
  · rename_i a b
    unfold RepD at r1' r2'
    obtain ⟨pa, xs, rfl, h1, h2⟩ := r1'
    obtain ⟨pb, ys, rfl, h3, h4⟩ := r2'
    cases rx
    cases ry
    obtain ⟨i1, v1, t1, _⟩ := I.list h1.sq
    obtain ⟨i2, v2, t2, _⟩ := I.list h3.sq
    unfold okT at ok
    unfold depD at hd
    have l1 : i1.toArray.size = a.length := by rw [List.size_toArray, ← v1.length, h2.length]
    have l2 : i2.toArray.size = b.length := by rw [List.size_toArray, ← v2.length, h4.length]
    by_cases hl : a.length = b.length
    · refine SeqAt.RcAt.lists (A := X.A) (s := s) t1.isList t2.isList (by rw [l1, l2]; exact hl) (by omega) (e := fun j => (List.zipWith eqD a b).getD j true) (fun j z1 z2 =>
        eqAtDs I a b X.A.in1 ok (by show X.A.units + 1 + depDs a < cLine; omega) h2 h4 v1 v2 j _ _ (by simp) (by simp)) X.prog X.w X.xe _ ?_
      rw [l1, eqDs_all' hl]
      exact fin _ (by unfold eqD; rfl)
    · refine SeqAt.RcAt.lists_lengths t1.isList t2.isList (by rw [l1, l2]; simpa using hl) (by omega) X.prog X.w X.xe _ ?_
      have : eqDs a b = false := by
        cases q : eqDs a b with
        | false => rfl
        | true => exact absurd (eqDs_len q) hl
      exact fin _ (by unfold eqD; rw [this] <;> rfl)
theorem od_neA (hr : Room k X.A) : OpR X (compareOp .NotEq) (LiftR X.K (rEqA true)) := by
  intro pins s σ H x y u v Q I rx ry h
  obtain ⟨F, d, e, M, QD, r1, r2, rh, hq, p⟩ := h
  unfold rEqA at hq
  obtain ⟨ok, hd, q⟩ := hq
  have hun := hr.units
  obtain ⟨M1, f1, rh1, r1', r2'⟩ := view_rep2 rh r1 r2
  have fin : ∀ b : Bool, b = !eqD (viewD d M) (viewD e M) → EP X pins σ Q (.bool b) s := fun b hb => by
    subst hb
    exact ⟨.bl _, H, I, rfl, p (.bl (true ^^ eqD (viewD d M) (viewD e M))) M _ H .refl rh (by unfold RepD; simp) q⟩
  generalize viewD d M = d' at *
  generalize viewD e M = e' at *
  cases d' <;> cases e' <;> first | (unfold okT at ok; cases ok; done) | skip
  · rename_i a b
    unfold RepD at r1' r2'
    subst r1' r2'
    have q' : QD (.bl (!decide (a = b))) M := by
      unfold eqD at q
      rw [Bool.beq_eq_decide_eq] at q
      simpa using q
    exact op_ne pins s σ H _ _ u v Q I rx ry ⟨rfl, by rw [decV_bl]; exact p _ M _ H .refl rh (by unfold RepD; rfl) q'⟩
  · rename_i a b
    unfold RepD at r1' r2'
    subst r1' r2'
    have q' : QD (.bl (!decide (a = b))) M := by
      unfold eqD at q
      rw [Bool.beq_eq_decide_eq] at q
      simpa using q
    exact op_ne pins s σ H _ _ u v Q I rx ry ⟨rfl, by rw [decV_int]; exact p _ M _ H .refl rh (by unfold RepD; rfl) q'⟩
  · rename_i a b
    unfold RepD at r1' r2'
    subst r1' r2'
    have q' : QD (.bl (!decide (a = b))) M := by
      unfold eqD at q
      rw [Bool.beq_eq_decide_eq] at q
      simpa using q
    exact op_ne pins s σ H _ _ u v Q I rx ry ⟨rfl, by rw [decV_str]; exact p _ M _ H .refl rh (by unfold RepD; rfl) q'⟩
  · rename_i a b
    unfold RepD at r1' r2'
    obtain ⟨pa, xs, rfl, h1, h2⟩ := r1'
    obtain ⟨pb, ys, rfl, h3, h4⟩ := r2'
    cases rx
    cases ry
    obtain ⟨i1, v1, t1, _⟩ := I.tuple h1.sq
    obtain ⟨i2, v2, t2, _⟩ := I.tuple h3.sq
    unfold okT at ok
    unfold depD at hd
    have l1 : i1.toArray.size = a.length := by rw [List.size_toArray, ← v1.length, h2.length]
    have l2 : i2.toArray.size = b.length := by rw [List.size_toArray, ← v2.length, h4.length]
    refine SeqAt.RcNeAt.tuples (A := X.A) (s := s) (show s.heap.IsTuple pa i1.toArray from t1) (show s.heap.IsTuple pb i2.toArray from t2) (by omega) (e := fun j => (List.zipWith eqD a b).getD j true) (fun j z1 z2 =>
      eqAtDs I a b X.A.in1 ok (by show X.A.units + 1 + depDs a < cLine; omega) h2 h4 v1 v2 j _ _ (by simp) (by simp)) X.prog X.w X.xe _ ?_
    rw [l1, l2, eqDs_all]
    exact fin _ (by unfold eqD; rfl)
  · rename_i a b
    unfold RepD at r1' r2'
    obtain ⟨pa, xs, rfl, h1, h2⟩ := r1'
    obtain ⟨pb, ys, rfl, h3, h4⟩ := r2'
    cases rx
    cases ry
    obtain ⟨i1, v1, t1, _⟩ := I.list h1.sq
    obtain ⟨i2, v2, t2, _⟩ := I.list h3.sq
    unfold okT at ok
    unfold depD at hd
    have l1 : i1.toArray.size = a.length := by rw [List.size_toArray, ← v1.length, h2.length]
    have l2 : i2.toArray.size = b.length := by rw [List.size_toArray, ← v2.length, h4.length]
    by_cases hl : a.length = b.length
    · refine SeqAt.RcNeAt.lists (A := X.A) (s := s) t1.isList t2.isList (by rw [l1, l2]; exact hl) (by omega) (e := fun j => (List.zipWith eqD a b).getD j true) (fun j z1 z2 =>
        eqAtDs I a b X.A.in1 ok (by show X.A.units + 1 + depDs a < cLine; omega) h2 h4 v1 v2 j _ _ (by simp) (by simp)) X.prog X.w X.xe _ ?_
      rw [l1, eqDs_all' hl]
      exact fin _ (by unfold eqD; rfl)
    · refine SeqAt.RcNeAt.lists_lengths t1.isList t2.isList (by rw [l1, l2]; simpa using hl) (by omega) X.prog X.w X.xe _ ?_
      have : eqDs a b = false := by
        cases q : eqDs a b with
        | false => rfl
        | true => exact absurd (eqDs_len q) hl
      exact fin _ (by unfold eqD; rw [this] <;> rfl)
end
end L2
namespace L2
open PySem PySem.Spec PyProof.Rows
section
variable {X : Cx}
@[irreducible] noncomputable def tAppD (to te : TDE) : TDE := fun σ M Q => to σ M fun x M1 => ∃ p, x = .ref p ∧ (∃ ds1, M1 p = some (.lst ds1)) ∧ te σ M1 fun y M2 => ∃ ds, M2 p = some (.lst ds) ∧ ds.length < sizeLine ∧ Q .non (updD M2 p (.lst (ds ++ [y])))
theorem rd_app {to te : TDE} {σ : SD} {M : HpD} {Q : KD} (h : to σ M fun x M1 => ∃ p, x = .ref p ∧ (∃ ds1, M1 p = some (.lst ds1)) ∧ te σ M1 fun y M2 => ∃ ds, M2 p = some (.lst ds) ∧ ds.length < sizeLine ∧ Q .non (updD M2 p (.lst (ds ++ [y])))) : tAppD to te σ M Q := by unfold tAppD; exact h
variable {o e : Expr} {to te : TDE} {apos cpos : Pos}
theorem ed_app (ho : ED X o to) (he : ED X e te) (hbase : attributeBase o "append" X.env (eval o X.env) = eval o X.env := by rfl)
    (hfew : ((backTo cpos (starEach (e :: []) X.env)).all (fun x => !x.1) && (backToKw cpos (keywordEach [] X.env)).all (fun x => x.1.isSome)
      && decide ((e :: []).length + ([] : List Keyword).length + (if ([] : List Keyword).isEmpty then 0 else 1) < 30)) = true := by rfl)
    (hline : (apos.endLine == cpos.line) = true := by rfl) (hs : starEach (e :: []) X.env = (false, eval e X.env) :: starEach [] X.env := by rfl) (hplain : (backTo cpos (starEach [] X.env)).any (·.1) = false := by rfl) :
    ED X (.Call (.Attribute o "append" apos) [e] [] cpos) (tAppD to te) := by
  refine (pe_bm PySem.F.plainAttrs_list PySem.F.slot_list_append PySem.F.type_list_append (r := rAppend) mt_append ho (pa_cons he pa_nil hs) hbase hfew hline hs hplain).wk fun σ H Q h => ?_
  obtain ⟨F, σD, M, QD, rel, h, p⟩ := h
  unfold tAppD at h
  refine lE rel h fun d M1 v H1 f1 rel1 r1 h1 => ?_
  obtain ⟨l, rfl, ⟨ds1, e1⟩, h1⟩ := h1
  unfold RepD at r1
  subst r1
  obtain ⟨o', e', xs, rfl, hr⟩ := rel1.hp.at_ l _ e1
  refine ⟨.inl ⟨rfl, xs, .inl (.inl e')⟩, ?_⟩
  show LiftE X.K te σ H1 _
  refine lE rel1 h1 fun y M2 u H2 f2 rel2 r2 h2 => ?_
  obtain ⟨ds, e2, hl, q⟩ := h2
  obtain ⟨o2, e2', ys, rfl, hr2⟩ := rel2.hp.at_ l _ e2
  have r3 : RepO ⟨X.K, F⟩ H2 M2 (.lst (ds ++ [y])) (.lst (ys ++ [u])) := ⟨_, rfl, hr2.append (.cons r2 .nil)⟩
  exact ⟨l, ys, u, rfl, rfl, e2', by rw [← hr2.length]; exact hl, p _ _ _ _ ((f1.trans f2).trans (fz_write e2)) (rel2.hp.write e2 r3) (by unfold RepD; rfl) q⟩
end
noncomputable def startD (N : List Str) (ds : List D) : SD := ds.map some ++ List.replicate (N.length - ds.length) none
theorem start_rel {K : KF} {H : Hp} {M : HpD} {N : List Str} {ds : List D} {vs : List V} (r : RepDs K H M ds vs) (rh : RepH K H M) : Rel K (startD N ds) M (start N vs) H := by
  have hl := r.length
  refine ⟨by unfold startD start; simp [hl], fun i d e => ?_, rh⟩
  unfold startD at e
  by_cases hi : i < ds.length
  · rw [List.getElem?_append_left (by simpa using hi), List.getElem?_map] at e
    cases q : ds[i]? with
    | none => rw [q] at e; cases e
    | some d' =>
      rw [q] at e; cases e
      obtain ⟨v, e1, e2⟩ := r.get q
      refine ⟨v, ?_, e2⟩
      unfold start
      rw [List.getElem?_append_left (by rw [List.length_map, ← hl]; exact hi), List.getElem?_map, e1]
      rfl
  · rw [List.getElem?_append_right (by simpa using hi), List.getElem?_replicate] at e
    split at e <;> cases e
section
variable {P : Program} {w : World} {K : PySem.W.Frag} {mg : Str → Option Value} {base : Heap}
theorem Fun.okD {x qual : Str} {st : Stmt} {f : Addr} {fd : FuncData} {N ps : List Str} {k : Nat} {sp : SpD} {t : TSD} (F : Fun K x qual st f fd) (S : FnScope N ps (defScope st)) (len : ∀ ds M Q, sp ds M Q → ds.length = ps.length)
    (hterm : ∀ (cdv : Value) (A : Around) (outer : List Env) (s : Shared) (H : Hp) (E : XK), Room k (A.deeper (envOfC qual (defScope st) s.heap.objs.size f cdv)) →
      SsD (cxOf CX0 P w K mg base N qual (defScope st) f cdv A outer s H E).nox (defBody st) t)
    (hread : ∀ ds M Q, sp ds M Q → t { nx := fun _ M' => Q .non M', rt := Q } (startD N ds) M) : FnOk P w K mg base CX0 (k + 1) f fd ps (LiftP K sp) := by
  refine F.ok S (fun vs H Q E h => ?_) (fun cdv A outer s H vs Q E hr h => ?_)
  · obtain ⟨F', ds, M, QD, r, rh, hsp, p⟩ := h
    rw [← r.length]
    exact len _ _ _ hsp
  · obtain ⟨F', ds, M, QD, r, rh, hsp, p⟩ := h
    refine ⟨LiftS K t, hterm cdv A outer s H E hr, F', startD N ds, M, _, start_rel r rh, hread ds M QD hsp, ⟨fun σD' M' σ' H' f rel q => p _ M' _ H' f rel.hp (by unfold RepD; rfl) q, p, fun _ _ _ _ _ _ h => h.elim, fun _ _ _ _ _ _ h => h.elim⟩⟩
theorem Fun.cal {x qual : Str} {st : Stmt} {f : Addr} {fd : FuncData} {ps : List Str} {k : Nat} {sp : SpD} (F : Fun K x qual st f fd) (ok : FnOk P w K mg base CX0 k f fd ps (LiftP K sp)) (hm : mg x = some (.ref f)) (hb : Binds K fd ps []) : Cal P w K mg base x k sp :=
  ⟨f, fd, ps, ok, hm, F.kp, hb⟩
end
noncomputable def compChk (scope out : Scope) (N ts rest : List Str) : Bool :=
  scope.kind == .function && scope.names.all (fun y => scope.names.lookup y.1 == some y.2) &&
  scope.names.all (fun y => y.2 != .free || out.names.lookup y.1 == some .cell || out.names.lookup y.1 == some .free) && rest.length == N.length &&
  (rest.zip N).all (fun q => match scope.names.lookup q.1 with | none => true | some .free => q.1 == q.2 | some .local => false | some .cell => false | _ => true) && decide (ts ++ rest).Nodup
theorem compChk_ok {X : Cx} {scope out : Scope} {N ts rest : List Str} (h : compChk scope out N ts rest = true) (hs : X.env.scope.names = out.names := by rfl) (hN : X.N = N := by rfl) : CompScope X scope ts rest := by
  unfold compChk at h
  simp only [Bool.and_eq_true] at h
  obtain ⟨⟨⟨⟨⟨h1, h2⟩, h3⟩, h4⟩, h5⟩, h6⟩ := h
  rw [List.all_eq_true] at h2 h3 h5
  have look : ∀ y ∈ scope.names, scope.names.lookup y.1 = some y.2 := fun y hy => beq_iff_eq.mp (h2 y hy)
  refine ⟨beq_iff_eq.mp h1, fun y hy e => by rw [look y hy, e], fun y hy e => ?_, look, by rw [hN]; exact beq_iff_eq.mp h4, fun i x e => ?_, of_decide_eq_true h6⟩
  · have := h3 y hy
    rw [e] at this
    simp only [bne_self_eq_false, Bool.false_or, Bool.or_eq_true, beq_iff_eq] at this
    show X.env.scope.names.lookup y.1 = _ ∨ X.env.scope.names.lookup y.1 = _
    rw [hs]
    exact this
  · have hi : i < rest.length := (List.getElem?_eq_some_iff.mp e).1
    have hl : rest.length = N.length := beq_iff_eq.mp h4
    have hz : (rest.zip N)[i]? = some (x, N[i]'(by omega)) := by
      rw [List.getElem?_zip_eq_some]
      exact ⟨e, List.getElem?_eq_getElem (by omega)⟩
    have := h5 _ (List.mem_of_getElem? hz)
    cases q : scope.names.lookup x with
    | none => exact .inl rfl
    | some k =>
      rw [show scope.names.lookup (x, N[i]'(by omega)).1 = some k from q] at this
      cases k with
      | free =>
        refine .inr (.inl ⟨rfl, ?_⟩)
        have : x = N[i]'(by omega) := beq_iff_eq.mp this
        rw [hN, List.getElem?_eq_getElem (by omega)]
        exact congrArg some this.symm
      | «local» => cases this
      | cell => cases this
      | _ => exact .inr (.inr ⟨_, rfl, by decide, by decide, by decide⟩)
end L2
namespace L2
open PySem PySem.Spec PyProof.Rows
noncomputable abbrev rAddD : RD2 := rIN fun i j => .int (i + j)
noncomputable abbrev rSubD : RD2 := rIN fun i j => .int (i - j)
noncomputable abbrev rMulD : RD2 := rID CMul fun i j => .int (i * j)
noncomputable abbrev rDivD : RD2 := rID CDiv fun i j => .int (i / j)
noncomputable abbrev rModD : RD2 := rID (fun _ j => 0 < j) fun i j => .int (i % j)
noncomputable abbrev rPowD : RD2 := rID CPow fun i j => .int (i ^ j.toNat)
noncomputable abbrev rLtD : RD2 := rIN fun i j => .bl (decide (i < j))
noncomputable abbrev rLeD : RD2 := rIN fun i j => .bl (decide (i ≤ j))
noncomputable abbrev rGtD : RD2 := rIN fun i j => .bl (decide (j < i))
noncomputable abbrev rGeD : RD2 := rIN fun i j => .bl (decide (j ≤ i))
end L2
namespace L2
open PySem PySem.W PyProof.Rows
noncomputable def okS {α : Type} (lt : Nat → Nat → Bool) (n : Nat) : KasT α → (α → Prop) → Prop
  | .ret a, P => P a
  | .ask i j k, P => i < n ∧ j < n ∧ okS lt n (k (lt i j)) P
theorem okS_mono {α : Type} {lt : Nat → Nat → Bool} {n : Nat} {P P' : α → Prop} (h : ∀ a, P a → P' a) : ∀ (t : KasT α), okS lt n t P → okS lt n t P'
  | .ret a, z => h a z
  | .ask i j k, ⟨z1, z2, z⟩ => ⟨z1, z2, okS_mono h (k (lt i j)) z⟩
theorem okS_bind {α β : Type} {lt : Nat → Nat → Bool} {n : Nat} {f : α → KasT β} {P : β → Prop} : ∀ (t : KasT α), okS lt n t (fun a => okS lt n (f a) P) → okS lt n (t.bind f) P
  | .ret _, z => z
  | .ask i j k, ⟨z1, z2, z⟩ => ⟨z1, z2, okS_bind (k (lt i j)) z⟩
theorem okS_wp {α : Type} {lt : Nat → Nat → Bool} {n : Nat} {s : Shared} {cmp : Nat → Nat → (Bool → Shared → Prop) → Shared → Prop} (hc : ∀ i j, i < n → j < n → ∀ C : Bool → Shared → Prop, C (lt i j) s → cmp i j C s) {Q : α → Shared → Prop} : ∀ (t : KasT α), okS lt n t (fun a => Q a s) → t.kasWp cmp Q s
  | .ret _, z => z
  | .ask i j k, ⟨z1, z2, z⟩ => hc i j z1 z2 _ (okS_wp hc (k (lt i j)) z)
section
variable {r : Nat → Int} {n : Nat}
noncomputable def PermN (n : Nat) (p : Array Nat) : Prop := p.Perm (List.range n).toArray
theorem PermN.size {p : Array Nat} (h : PermN n p) : p.size = n := by
  have := h.size_eq
  simpa using this
theorem PermN.lt {p : Array Nat} (h : PermN n p) {k : Nat} (hk : k < n) : p.getD k 0 < n := by
  have hs := h.size
  have hk' : k < p.size := by omega
  have e : p.getD k 0 = p[k] := by simp [Array.getD, hk']
  have m : p[k] ∈ (List.range n).toArray := h.mem_iff.mp (Array.getElem_mem hk')
  rw [e]
  simpa using m
noncomputable def rkV (r : Nat → Int) (p : Array Nat) (k : Nat) : Int := r (p.getD k 0)
noncomputable def Srt (r : Nat → Int) (p : Array Nat) (m : Nat) : Prop := ∀ i j, i ≤ j → j < m → rkV r p i ≤ rkV r p j
noncomputable def Fall (r : Nat → Int) (p : Array Nat) (m : Nat) : Prop := ∀ i j, i ≤ j → j < m → rkV r p j ≤ rkV r p i
noncomputable def Lev (r : Nat → Int) (p : Array Nat) (a b : Nat) : Prop := ∀ k, a ≤ k → k < b → rkV r p k = rkV r p (b - 1)
theorem getD_of {p q : Array Nat} {i j : Nat} (h : p[i]? = q[j]?) : p.getD i 0 = q.getD j 0 := by
  rw [Array.getD_eq_getD_getElem?, Array.getD_eq_getD_getElem?, h]
theorem rkV_rev {p : Array Nat} {i j : Nat} (hj : j ≤ p.size) (k : Nat) : rkV r (kas_rev p i j) k = if i ≤ k ∧ k < j then rkV r p (i + j - 1 - k) else rkV r p k := by
  have e := getElem?_mirror_all (i := i) hj k
  unfold rkV kas_rev
  by_cases h : i ≤ k ∧ k < j
  · rw [if_pos h] at e ⊢; rw [getD_of e]
  · rw [if_neg h] at e ⊢; rw [getD_of e]
theorem rkV_lev {p : Array Nat} {i j : Nat} (hj : j ≤ p.size) (h : Lev r p i j) (k : Nat) : rkV r (kas_rev p i j) k = rkV r p k := by
  rw [rkV_rev hj]
  by_cases z : i ≤ k ∧ k < j
  · rw [if_pos z, h _ (by omega) (by omega), h k z.1 z.2]
  · rw [if_neg z]
theorem PermN.rev {p : Array Nat} (h : PermN n p) (i j : Nat) : PermN n (kas_rev p i j) := (mirror_perm _ _ _ _).trans h
theorem rkV_bub {p : Array Nat} {k l : Nat} (hk : k < p.size) (hl : l ≤ k) (i : Nat) : rkV r (bubble p k (k - l)) i = if i = l then rkV r p k else if l < i ∧ i ≤ k then rkV r p (i - 1) else rkV r p i := by
  have e := getElem?_bubble hk (k - l) (by omega) i
  rw [show k - (k - l) = l by omega] at e
  unfold rkV
  by_cases h : i = l
  · rw [if_pos h] at e ⊢; rw [getD_of e]
  · rw [if_neg h] at e ⊢
    by_cases h2 : l < i ∧ i ≤ k
    · rw [if_pos h2] at e ⊢; rw [getD_of e]
    · rw [if_neg h2] at e ⊢; rw [getD_of e]
noncomputable abbrev rlt (r : Nat → Int) : Nat → Nat → Bool := fun i j => decide (r i < r j)
theorem ok_asc {p : Array Nat} (hp : PermN n p) : ∀ (f m : Nat), 1 ≤ m → m + f ≤ n → Srt r p m → okS (rlt r) n (kas_asc p f m) (fun m' => m ≤ m' ∧ m' ≤ m + f ∧ Srt r p m' ∧ (m' < m + f → rkV r p m' < rkV r p (m' - 1)))
  | 0, m, _, _, hs => ⟨Nat.le_refl _, Nat.le_refl _, hs, fun z => absurd z (by omega)⟩
  | f + 1, m, h1, h2, hs => by
    unfold kas_asc
    refine ⟨hp.lt (by omega), hp.lt (by omega), ?_⟩
    by_cases c : rkV r p m < rkV r p (m - 1)
    · rw [show rlt r (p.getD m 0) (p.getD (m - 1) 0) = true from decide_eq_true c]; dsimp only; rw [if_pos rfl]
      exact ⟨Nat.le_refl _, by omega, hs, fun _ => c⟩
    · rw [show rlt r (p.getD m 0) (p.getD (m - 1) 0) = false from decide_eq_false c]; dsimp only; rw [if_neg Bool.false_ne_true]
      refine okS_mono ?_ _ (ok_asc hp f (m + 1) (by omega) (by omega) fun i j hij hj => ?_)
      · rintro a ⟨z1, z2, z3, z4⟩
        exact ⟨by omega, by omega, z3, fun z => z4 (by omega)⟩
      · by_cases z : j = m
        · subst z
          by_cases y : i = j
          · rw [y]; exact Int.le_refl _
          · have := hs i (j - 1) (by omega) (by omega)
            omega
        · exact hs i j hij (by omega)
theorem ok_desc : ∀ (f : Nat) (p : Array Nat) (m q : Nat), PermN n p → q + 1 ≤ m → m + f ≤ n → Fall r p m → Lev r p (m - (q + 1)) m → okS (rlt r) n (kas_desc f p m q) (fun t => PermN n t.1 ∧ t.2.2 + 1 ≤ t.2.1 ∧ m ≤ t.2.1 ∧ t.2.1 ≤ m + f ∧ Fall r t.1 t.2.1 ∧ Lev r t.1 (t.2.1 - (t.2.2 + 1)) t.2.1)
  | 0, p, m, q, hp, h1, h2, hf, hl => ⟨hp, h1, Nat.le_refl _, Nat.le_refl _, hf, hl⟩
  | f + 1, p, m, q, hp, h1, h2, hf, hl => by
    unfold kas_desc
    refine ⟨hp.lt (by omega), hp.lt (by omega), ?_⟩
    have hz := hp.size
    by_cases c : rkV r p m < rkV r p (m - 1)
    · rw [show rlt r (p.getD m 0) (p.getD (m - 1) 0) = true from decide_eq_true c]; dsimp only; rw [if_pos rfl]
      have hf2 : Fall r p (m + 1) := fun i j hij hj => by
        by_cases z : j = m
        · subst z
          by_cases y : i = j
          · rw [y]; exact Int.le_refl _
          · have := hf i (j - 1) (by omega) (by omega)
            omega
        · exact hf i j hij (by omega)
      by_cases hq : q > 0
      · rw [if_pos hq]
        have ev := rkV_lev (r := r) (p := p) (i := m - (q + 1)) (j := m) (by omega) hl
        refine okS_mono ?_ _ (ok_desc f (kas_rev p (m - (q + 1)) m) (m + 1) 0 (hp.rev _ _) (by omega) (by omega) (fun i j hij hj => ?_) (fun k z1 z2 => ?_))
        · rintro a ⟨z1, z2, z3, z4, z5⟩
          exact ⟨z1, z2, by omega, by omega, z5⟩
        · rw [ev, ev]; exact hf2 i j hij hj
        · rw [show k = m + 1 - 1 by omega]
      · rw [if_neg hq]
        refine okS_mono ?_ _ (ok_desc f p (m + 1) 0 hp (by omega) (by omega) hf2 (fun k z1 z2 => ?_))
        · rintro a ⟨z1, z2, z3, z4, z5⟩
          exact ⟨z1, z2, by omega, by omega, z5⟩
        · rw [show k = m + 1 - 1 by omega]
    · rw [show rlt r (p.getD m 0) (p.getD (m - 1) 0) = false from decide_eq_false c]; dsimp only; rw [if_neg Bool.false_ne_true]
      refine ⟨hp.lt (by omega), hp.lt (by omega), ?_⟩
      by_cases d : rkV r p (m - 1) < rkV r p m
      · rw [show rlt r (p.getD (m - 1) 0) (p.getD m 0) = true from decide_eq_true d]; dsimp only; rw [if_pos rfl]
        exact ⟨hp, h1, Nat.le_refl _, by show m ≤ m + (f + 1); omega, hf, hl⟩
      · rw [show rlt r (p.getD (m - 1) 0) (p.getD m 0) = false from decide_eq_false d]; dsimp only; rw [if_neg Bool.false_ne_true]
        refine okS_mono ?_ _ (ok_desc f p (m + 1) (q + 1) hp (by omega) (by omega) (fun i j hij hj => ?_) (fun k z1 z2 => ?_))
        · rintro a ⟨z1, z2, z3, z4, z5⟩
          exact ⟨z1, z2, by omega, by omega, z5⟩
        · by_cases z : j = m
          · subst z
            by_cases y : i = j
            · rw [y]; exact Int.le_refl _
            · have := hf i (j - 1) (by omega) (by omega)
              omega
          · exact hf i j hij (by omega)
        · rw [show m + 1 - 1 = m by omega]
          by_cases y : k = m
          · rw [y]
          · have := hl k (by omega) (by omega)
            omega
theorem ok_tail3 {p : Array Nat} (hp : PermN n p) {m : Nat} (h1 : 1 ≤ m) (h2 : m ≤ n) (hf : Fall r p m) : okS (rlt r) n (kas_tail3 m n p) (fun t => PermN n t.2 ∧ t.1 ≤ n ∧ Srt r t.2 t.1) := by
  unfold kas_tail3
  have hz := hp.size
  have hs : Srt r (kas_rev p 0 m) m := fun i j hij hj => by
    rw [rkV_rev (by omega), rkV_rev (by omega), if_pos (by omega), if_pos (by omega)]
    exact hf _ _ (by omega) (by omega)
  refine okS_bind _ (okS_mono ?_ _ (ok_asc (hp.rev 0 m) (n - m) m h1 (by omega) hs))
  rintro a ⟨z1, z2, z3, _⟩
  exact ⟨hp.rev 0 m, by show a ≤ n; omega, z3⟩
theorem ok_descPart {p : Array Nat} (hp : PermN n p) {m : Nat} (h1 : 1 ≤ m) (h2 : m + 1 ≤ n) (hf : Fall r p (m + 1)) : okS (rlt r) n (kas_descPart m n p) (fun t => PermN n t.2 ∧ t.1 ≤ n ∧ Srt r t.2 t.1) := by
  unfold kas_descPart
  refine okS_bind _ (okS_mono ?_ _ (ok_desc (n - (m + 1)) p (m + 1) 0 hp (by omega) (by omega) hf (fun k z1 z2 => by rw [show k = m + 1 - 1 by omega])))
  rintro ⟨p', m', q⟩ ⟨z1, z2, z3, z4, z5, z6⟩
  dsimp only at *
  have hz := z1.size
  by_cases hq : q > 0
  · rw [if_pos hq]
    have ev := rkV_lev (r := r) (p := p') (i := m' - (q + 1)) (j := m') (by omega) z6
    exact ok_tail3 (z1.rev _ _) (by omega) (by omega) fun i j hij hj => by rw [ev, ev]; exact z5 i j hij hj
  · rw [if_neg hq]
    exact ok_tail3 z1 (by omega) (by omega) z5
theorem ok_count {p : Array Nat} (hp : PermN n p) (hn : 1 ≤ n) : okS (rlt r) n (kas_count n p) (fun t => PermN n t.2 ∧ t.1 ≤ n ∧ Srt r t.2 t.1) := by
  unfold kas_count
  have hz := hp.size
  refine okS_bind _ (okS_mono ?_ _ (ok_asc hp (n - 1) 1 (Nat.le_refl _) (by omega) (fun i j hij hj => by rw [show i = j by omega]; exact Int.le_refl _)))
  rintro m ⟨z1, z2, z3, z4⟩
  by_cases h : m = n
  · rw [if_pos (by rw [h]; exact beq_self_eq_true n)]
    exact ⟨hp, by show m ≤ n; omega, z3⟩
  · rw [if_neg (by intro z; exact h (beq_iff_eq.mp z))]
    have lt := z4 (by omega)
    by_cases h1 : m > 1
    · rw [if_pos h1]
      refine ⟨hp.lt (by omega), hp.lt (by omega), ?_⟩
      by_cases c : rkV r p 0 < rkV r p (m - 1)
      · rw [show rlt r (p.getD 0 0) (p.getD (m - 1) 0) = true from decide_eq_true c]; dsimp only; rw [if_pos rfl]
        exact ⟨hp, by show m ≤ n; omega, z3⟩
      · rw [show rlt r (p.getD 0 0) (p.getD (m - 1) 0) = false from decide_eq_false c]; dsimp only; rw [if_neg Bool.false_ne_true]
        have hl : Lev r p 0 m := fun k y1 y2 => by
          have := z3 0 k (by omega) y2
          have := z3 k (m - 1) (by omega) (by omega)
          omega
        have ev := rkV_lev (r := r) (p := p) (i := 0) (j := m) (by omega) hl
        refine ok_descPart (hp.rev _ _) (by omega) (by omega) fun i j hij hj => ?_
        rw [ev, ev]
        by_cases y : j = m
        · by_cases y2 : i = m
          · rw [y, y2]; exact Int.le_refl _
          · have := hl i (by omega) (by omega)
            rw [y]; omega
        · have := hl i (by omega) (by omega)
          have := hl j (by omega) (by omega)
          omega
    · rw [if_neg h1]
      have : m = 1 := by omega
      subst this
      refine ok_descPart hp (by omega) (by omega) fun i j hij hj => ?_
      by_cases y : i = j
      · rw [y]; exact Int.le_refl _
      · rw [show j = 1 by omega, show i = 0 by omega]
        exact Int.le_of_lt lt
theorem ok_place {p : Array Nat} (hp : PermN n p) {k : Nat} (hk : k < n) (hs : Srt r p k) : ∀ (f l u : Nat), l ≤ u → u ≤ k → u - l ≤ f → (∀ i, i < l → rkV r p i ≤ rkV r p k) → (∀ i, u ≤ i → i < k → rkV r p k < rkV r p i) →
    okS (rlt r) n (kas_place p k f l u) (fun l' => l' ≤ k ∧ (∀ i, i < l' → rkV r p i ≤ rkV r p k) ∧ ∀ i, l' ≤ i → i < k → rkV r p k < rkV r p i)
  | 0, l, u, h1, h2, h3, a, b => by
    unfold kas_place
    have : l = u := by omega
    subst this
    exact ⟨h2, a, b⟩
  | f + 1, l, u, h1, h2, h3, a, b => by
    unfold kas_place
    by_cases h : l ≥ u
    · rw [if_pos h]
      have : l = u := by omega
      subst this
      exact ⟨h2, a, b⟩
    · rw [if_neg h]
      refine ⟨hp.lt hk, hp.lt (by omega), ?_⟩
      by_cases c : rkV r p k < rkV r p ((l + u) / 2)
      · rw [show rlt r (p.getD k 0) (p.getD ((l + u) / 2) 0) = true from decide_eq_true c]; dsimp only; rw [if_pos rfl]
        refine ok_place hp hk hs f l ((l + u) / 2) (by omega) (by omega) (by omega) a fun i y1 y2 => ?_
        have := hs ((l + u) / 2) i y1 y2
        omega
      · rw [show rlt r (p.getD k 0) (p.getD ((l + u) / 2) 0) = false from decide_eq_false c]; dsimp only; rw [if_neg Bool.false_ne_true]
        refine ok_place hp hk hs f ((l + u) / 2 + 1) u (by omega) h2 (by omega) (fun i y => ?_) b
        have := hs i ((l + u) / 2) (by omega) (by omega)
        omega
theorem ok_bin : ∀ (f : Nat) (p : Array Nat) (k : Nat), PermN n p → Srt r p k → k + f = n → okS (rlt r) n (kas_bin f p k) (fun p' => PermN n p' ∧ Srt r p' n)
  | 0, p, k, hp, hs, hn => ⟨hp, by rw [show n = k by omega]; exact hs⟩
  | f + 1, p, k, hp, hs, hn => by
    unfold kas_bin
    have hz := hp.size
    refine okS_bind _ (okS_mono ?_ _ (ok_place hp (k := k) (by omega) hs k 0 k (Nat.zero_le _) (Nat.le_refl _) (by omega) (fun i z => absurd z (by omega)) (fun i z1 z2 => absurd z1 (by omega))))
    rintro l ⟨z1, z2, z3⟩
    refine ok_bin f (bubble p k (k - l)) (k + 1) ((bubble_perm _ _ _).trans hp) (fun i j hij hj => ?_) (by omega)
    rw [rkV_bub (by omega) z1, rkV_bub (by omega) z1]
    by_cases ei : i = l
    · rw [if_pos ei]
      by_cases ej : j = l
      · rw [if_pos ej]; exact Int.le_refl _
      · rw [if_neg ej, if_pos (by omega)]
        exact Int.le_of_lt (z3 _ (by omega) (by omega))
    · rw [if_neg ei]
      by_cases ej : j = l
      · rw [if_pos ej, if_neg (by omega)]
        exact z2 _ (by omega)
      · rw [if_neg ej]
        by_cases ci : l < i ∧ i ≤ k
        · rw [if_pos ci, if_pos (by omega)]
          exact hs _ _ (by omega) (by omega)
        · rw [if_neg ci]
          by_cases cj : l < j ∧ j ≤ k
          · rw [if_pos cj]
            exact hs _ _ (by omega) (by omega)
          · rw [if_neg cj]
            exact hs _ _ (by omega) (by omega)
theorem ok_sort (hn : 1 ≤ n) : okS (rlt r) n (kas_sort n) (fun p => PermN n p ∧ Srt r p n) := by
  unfold kas_sort
  refine okS_bind _ (okS_mono ?_ _ (ok_count (Array.Perm.refl _) hn))
  rintro ⟨m, p⟩ ⟨z1, z2, z3⟩
  dsimp only at *
  by_cases h : m < n
  · rw [if_pos h]
    refine ok_bin _ _ _ z1 (fun i j hij hj => ?_) (by omega)
    by_cases y : i = j
    · rw [y]; exact Int.le_refl _
    · exact z3 i j hij (by omega)
  · rw [if_neg h]
    exact ⟨z1, by rw [show n = m by omega]; exact z3⟩
end
end L2
namespace L2
open PySem PySem.W PyProof.Rows
section
variable {prog : Program} {w : World} {A : Around} {E : Value → Shared → Prop} {s : Shared}
noncomputable def sortAns (vs : List Value) (p : Array Nat) : Array Value := (p.toList.map fun i => vs.getD i Value.none).toArray
theorem sortAns_id (vs : List Value) : sortAns vs (List.range vs.length).toArray = vs.toArray := by
  unfold sortAns
  congr 1
  apply List.ext_getElem?
  intro i
  rw [List.getElem?_map]
  by_cases h : i < vs.length
  · rw [List.getElem?_range h, List.getElem?_eq_getElem h]
    simp [List.getD_eq_getElem?_getD, h]
  · rw [List.getElem?_eq_none (by simp; omega), List.getElem?_eq_none (by omega)]
    rfl
end
end L2
namespace L2
open PySem PySem.Spec PyProof.Rows
end L2
namespace L2
open PySem PySem.Spec PyProof.Rows
theorem pick_take {α : Type} (as : List α) : ∀ n : Nat, (List.range n).filterMap (fun i => as[i]?) = as.take n
  | 0 => rfl
  | n + 1 => by
    rw [List.range_succ, List.filterMap_append, pick_take as n, List.take_add_one]
    congr 1
theorem pick_range {α : Type} (as : List α) : (List.range as.length).filterMap (fun i => as[i]?) = as := by
  rw [pick_take, List.take_length]
section
variable {K : KF} {H : Hp} {M : HpD}
theorem pick_rep {ds : List D} {xs : List V} (r : RepDs K H M ds xs) : ∀ (l : List Nat), (∀ i ∈ l, i < ds.length) → RepDs K H M (l.filterMap fun i => ds[i]?) (l.filterMap fun i => xs[i]?)
  | [], _ => .nil
  | i :: l, h => by
    have hi := h i List.mem_cons_self
    obtain ⟨x, e1, r1⟩ := r.get (List.getElem?_eq_getElem hi)
    rw [List.filterMap_cons_some (List.getElem?_eq_getElem hi), List.filterMap_cons_some e1]
    exact .cons r1 (pick_rep r l fun j hj => h j (List.mem_cons_of_mem _ hj))
theorem pick_vals {xs : List V} {us : List Value} (q : Vals xs us) : ∀ (l : List Nat), (∀ i ∈ l, i < xs.length) → Vals (l.filterMap fun i => xs[i]?) (l.map fun i => us.getD i Value.none)
  | [], _ => .nil
  | i :: l, h => by
    have hi := h i List.mem_cons_self
    obtain ⟨u, e1, r1⟩ := q.get (List.getElem?_eq_getElem hi)
    rw [List.filterMap_cons_some (List.getElem?_eq_getElem hi), List.map_cons, List.getD_eq_getElem?_getD, e1]
    exact .cons r1 (pick_vals q l fun j hj => h j (List.mem_cons_of_mem _ hj))
end
theorem pick_map {α : Type} (enc : α → D) (as : List α) (l : List Nat) : (l.filterMap fun i => (as.map enc)[i]?) = (l.filterMap fun i => as[i]?).map enc := by
  rw [List.map_filterMap]
  congr 1
  funext i
  rw [List.getElem?_map]
end L2
namespace L2
open PySem PySem.Spec PyProof.Rows
noncomputable abbrev TGI := SD → HpD → (List D → (HpD → Prop) → HpD → Prop) → Prop
noncomputable def YldsG (K : PySem.W.Frag) (F : Addr → Prop) (J : It) (ds : List D) (Gd : HpD → Prop) (M : HpD) (H : Hp) : Prop :=
  ∀ F' i M' H', (∀ a, F' a → F a ∨ H a = none) → Fz M H M' H' → RepH ⟨K, F'⟩ H' M' → Gd M' → (∀ d, ds[i]? = some d → J.go i H' ∧ ∀ x H3, J.yld i H' x H3 → Fz M' H' M' H3 ∧ RepH ⟨K, F'⟩ H3 M' ∧ RepD ⟨K, F'⟩ H3 M' d x) ∧ (ds.length ≤ i → J.stop i H')
noncomputable def LiftIG (K : PySem.W.Frag) (t : TGI) : TI := fun σ H R => ∃ F σD M RD, Rel ⟨K, F⟩ σD M σ H ∧ t σD M RD ∧ ∀ ds Gd M' H' J, Fz M H M' H' → RepH ⟨K, F⟩ H' M' → YldsG K F J ds Gd M' H' → RD ds Gd M' → R J H'
noncomputable abbrev IDG (X : Cx) (tg e : Expr) (t : TGI) : Prop := PI X tg e (LiftIG X.K t)
@[irreducible] noncomputable def tForG (tI : TGI) (g : TDG) (tb : TSD) : TSD := fun DD σ M => tI σ M fun ds Gd M1 => ∃ Pv : Nat → SD → HpD → Prop, Pv 0 σ M1 ∧ (∀ i σ M, Pv i σ M → Gd M) ∧
  (∀ i d σ M, ds[i]? = some d → Pv i σ M → g d σ M fun σ2 M2 => tb { DD with nx := Pv (i + 1), ct := Pv (i + 1), bk := DD.nx } σ2 M2) ∧ ∀ σ M, Pv ds.length σ M → DD.nx σ M
theorem rd_forG {tI : TGI} {g : TDG} {tb : TSD} {DD : EndsD} {σ : SD} {M : HpD} (h : tI σ M fun ds Gd M1 => ∃ Pv : Nat → SD → HpD → Prop, Pv 0 σ M1 ∧ (∀ i σ M, Pv i σ M → Gd M) ∧
  (∀ i d σ M, ds[i]? = some d → Pv i σ M → g d σ M fun σ2 M2 => tb { DD with nx := Pv (i + 1), ct := Pv (i + 1), bk := DD.nx } σ2 M2) ∧ ∀ σ M, Pv ds.length σ M → DD.nx σ M) : tForG tI g tb DD σ M := by unfold tForG; exact h
@[irreducible] noncomputable def tCompG (n : Nat) (tI : TGI) (g : TDG) (tc : TDT) (te : TDE) : TDE := fun σ M Q => tI σ M fun ds Gd M1 => ds.length ≤ sizeLine ∧ ∃ Pv : Nat → List D → SD → HpD → Prop, Pv 0 [] (List.replicate n none ++ σ) M1 ∧ (∀ i ys σ M, Pv i ys σ M → Gd M) ∧
  (∀ i d ys σ M, ds[i]? = some d → Pv i ys σ M → g d σ M fun σ2 M2 => tc σ2 M2 fun b M3 => if b = true then te σ2 M3 fun y M4 => Pv (i + 1) (ys ++ [y]) σ2 M4 else Pv (i + 1) ys σ2 M3) ∧ ∀ ys σ M, Pv ds.length ys σ M → newL ys M Q
theorem rd_compG {n : Nat} {tI : TGI} {g : TDG} {tc : TDT} {te : TDE} {σ : SD} {M : HpD} {Q : KD} (h : tI σ M fun ds Gd M1 => ds.length ≤ sizeLine ∧ ∃ Pv : Nat → List D → SD → HpD → Prop, Pv 0 [] (List.replicate n none ++ σ) M1 ∧ (∀ i ys σ M, Pv i ys σ M → Gd M) ∧
  (∀ i d ys σ M, ds[i]? = some d → Pv i ys σ M → g d σ M fun σ2 M2 => tc σ2 M2 fun b M3 => if b = true then te σ2 M3 fun y M4 => Pv (i + 1) (ys ++ [y]) σ2 M4 else Pv (i + 1) ys σ2 M3) ∧ ∀ ys σ M, Pv ds.length ys σ M → newL ys M Q) : tCompG n tI g tc te σ M Q := by unfold tCompG; exact h
section
variable {X : Cx} {tg iter elt : Expr} {ifs : List Expr} {scope : Scope} {body : List Stmt} {tI : TGI} {g : TDG} {tb : TSD} {tc : TDT} {te : TDE} {ts rest : List Str} {pos : Pos}
theorem sd_forG (hi : IDG X tg iter tI) (hg : GD X tg g) (hb : SsD X body tb) (hp : PassesOwn (model X.prog X.w) X.A X.env X.xe := by exact PassesOwn.never) (hc : X.calm = true := by rfl)
    (hs : ∀ x, foldedSetIterable iter X.env x = pure x := by intro _; rfl) : StD X (.For tg iter body [] pos) (tForG tI g tb) := by
  refine (ps_for hp hc hi hg hb hs).wk fun D' σ H w1_ => w1_.elim fun F z_ => z_.elim fun σD z_ => z_.elim fun M z_ => z_.elim fun DD z_ => z_.elim fun rel z_ => z_.elim fun h p => ?_
  unfold tForG at h
  refine ⟨F, σD, M, _, rel, h, fun ds Gd M1 H1 J f1 rh1 y h1 => ?_⟩
  obtain ⟨Pv, p0, gd, step, done⟩ := h1
  refine ⟨fun i m σ' H' => m = ds.length - i ∧ i ≤ ds.length ∧ ∃ σD' M', Rel ⟨X.K, F⟩ σD' M' σ' H' ∧ Fz M1 H1 M' H' ∧ Pv i σD' M', ⟨ds.length, by simp, Nat.zero_le _, σD, M1, rel.mono f1 rh1, .refl, p0⟩, ?_⟩
  rintro i m σ' H' ⟨rfl, hi, σD', M', rel', f', pv⟩
  by_cases hlt : i < ds.length
  · have e : ds[i]? = some ds[i] := List.getElem?_eq_getElem hlt
    obtain ⟨go, yl⟩ := (y F i M' H' (fun _ z => .inl z) f' rel'.hp (gd _ _ _ pv)).1 _ e
    refine .inr ⟨go, fun σ2 H2 => ∃ σD2 M2, Rel ⟨X.K, F⟩ σD2 M2 σ2 H2 ∧ Fz M1 H1 M2 H2 ∧ Pv (i + 1) σD2 M2, fun σ2 H2 w1_ => w1_.elim fun σD2 z_ => z_.elim fun M2 z_ => z_.elim fun a1 z_ => z_.elim fun a2 a3 => ⟨ds.length - (i + 1), by omega, rfl, hlt, σD2, M2, a1, a2, a3⟩, fun x H2 yy => ?_⟩
    obtain ⟨fy, rhy, ry⟩ := yl x H2 yy
    have rel2 := rel'.mono fy rhy
    refine ⟨F, ds[i], σD', M', _, rel2, ry, step i _ σD' M' e pv, fun σD3 M3 σ3 H3 f3 rel3 h3 => ?_⟩
    have ff := (f'.trans fy).trans f3
    refine lS rel3 h3 ⟨fun a b c d f r q => ⟨a, b, r, ff.trans f, q⟩, (p.mono (f1.trans ff)).rt, fun a b c d f r q => (p.mono (f1.trans ff)).nx a b c d f r q, fun a b c d f r q => ⟨a, b, r, ff.trans f, q⟩⟩
  · have e : i = ds.length := by omega
    subst e
    exact .inl ⟨(y F _ M' H' (fun _ z => .inl z) f' rel'.hp (gd _ _ _ pv)).2 (Nat.le_refl _), p.nx _ _ _ _ (f1.trans f') rel' (done _ _ pv)⟩
theorem lift_compG {K : PySem.W.Frag} {n : Nat} {σ : St} {H : Hp} {Q : VK} (h : LiftE K (tCompG n tI g tc te) σ H Q) : tComp n (LiftIG K tI) (LiftG K g) (LiftT K tc) (LiftE K te) σ H Q := by
  obtain ⟨F, σD, M, QD, rel, h, p⟩ := h
  unfold tCompG at h
  refine ⟨F, σD, M, _, rel, h, fun ds Gd M1 H1 J f1 rh1 y h1 => ?_⟩
  intro D' hD
  obtain ⟨hsz, Pv, p0, gd, step, done⟩ := h1
  have mD := rh1.free hD
  have fF : ∀ a, (F a ∨ a = D') → F a ∨ H1 a = none := fun a z => z.elim .inl fun e => .inr (e ▸ hD)
  have rel1 := rel.mono f1 rh1
  -- the start: D' is forbidden
  have relS : Rel ⟨K, fun a => F a ∨ a = D'⟩ (List.replicate n none ++ σD) M1 (List.replicate n none ++ σ) (upd H1 D' (.lst [])) := by
    have r1 : Rel ⟨K, F⟩ (List.replicate n none ++ σD) M1 (List.replicate n none ++ σ) H1 := rel1.pad n
    refine ⟨r1.len, fun i d e => ?_, ⟨fun a o e => ?_, fun a z => ?_⟩⟩
    · obtain ⟨v, e1, e2⟩ := r1.st i d e
      exact ⟨v, e1, (e2.more fF).mono (fz_new hD)⟩
    · obtain ⟨o', e', r⟩ := rh1.at_ a o e
      exact ⟨o', by rw [upd_ne (ne_of_none e' hD)]; exact e', (r.more fF).mono (fz_new hD)⟩
    · rcases z with z | rfl
      · obtain ⟨⟨o', e'⟩, m'⟩ := rh1.fb a z
        exact ⟨⟨o', by rw [upd_ne (ne_of_none e' hD)]; exact e'⟩, m'⟩
      · exact ⟨⟨_, upd_same⟩, mD⟩
  refine ⟨fun i m ys σ' H' => m = ds.length - i ∧ i ≤ ds.length ∧ ys.length ≤ i ∧ H' D' = some (.lst ys) ∧ ∃ σD' M' ysD, Rel ⟨K, fun a => F a ∨ a = D'⟩ σD' M' σ' H' ∧ Fz M1 H1 M' H' ∧ RepDs ⟨K, fun a => F a ∨ a = D'⟩ H' M' ysD ys ∧ Pv i ysD σD' M',
    ⟨ds.length, by simp, Nat.zero_le _, Nat.zero_le _, upd_same, _, M1, [], relS, fz_new hD, .nil, p0⟩, ?_⟩
  rintro i m ys σ' H' ⟨rfl, hi, hyl, eD, σD', M', ysD, rel', f', ry, pv⟩
  have mD' : M' D' = none := (rel'.hp.fb D' (.inr rfl)).2
  by_cases hlt : i < ds.length
  · have e : ds[i]? = some ds[i] := List.getElem?_eq_getElem hlt
    obtain ⟨go, yl⟩ := (y _ i M' H' fF f' rel'.hp (gd _ _ _ _ pv)).1 _ e
    refine .inr ⟨go, fun x H2 yy => ?_⟩
    obtain ⟨fy, rhy, rx⟩ := yl x H2 yy
    have eD2 := (fy D' _ eD mD').1
    refine ⟨_, ds[i], σD', M', _, rel'.mono fy rhy, rx, step i _ ysD σD' M' e pv, fun σD3 M3 σ3 H3 f3 rel3 h3 => ?_⟩
    refine lT rel3 h3 fun b M4 H4 f4 rel4 h4 => ?_
    have f14 : Fz M1 H1 M4 H4 := ((f'.trans fy).trans f3).trans f4
    have fD4 : Fz M' H' M4 H4 := (fy.trans f3).trans f4
    cases b with
    | false =>
      simp only [Bool.false_eq_true, if_false] at h4 ⊢
      exact ⟨ds.length - (i + 1), by omega, rfl, hlt, by omega, (fD4 D' _ eD mD').1, σD3, M4, ysD, rel4, f14, ry.mono fD4, h4⟩
    | true =>
      simp only [if_true] at h4 ⊢
      refine lE rel4 h4 fun yd M5 v H5 f5 rel5 r5 h5 => ?_
      have fD5 := fD4.trans f5
      obtain ⟨eD5, mD5⟩ := fD5 D' _ eD mD'
      have hF : (KF.mk K fun a => F a ∨ a = D').F D' := .inr rfl
      refine ⟨eD5, by omega, ds.length - (i + 1), by omega, rfl, hlt, by rw [List.length_append, List.length_singleton]; omega, upd_same, σD3, M5, ysD ++ [yd], rel5.past hF, fun a o q z => ?_, ((ry.mono fD5).append (.cons r5 .nil)).past hF, h5⟩
      obtain ⟨q1, q2⟩ := (f14.trans f5) a o q z
      exact ⟨by rw [upd_ne (ne_of_none q hD)]; exact q1, q2⟩
  · have e : i = ds.length := by omega
    subst e
    refine .inl ⟨(y _ _ M' H' fF f' rel'.hp (gd _ _ _ _ pv)).2 (Nat.le_refl _), eD, ?_⟩
    -- the end: D' is told
    have fL : ∀ a, F a → (F a ∨ a = D') ∨ H' a = none := fun a z => .inl (.inl z)
    have rhE : RepH ⟨K, F⟩ H' M' := ⟨fun a o q => by
      obtain ⟨o', e', r⟩ := rel'.hp.at_ a o q
      exact ⟨o', e', r.more fL⟩, fun a z => rel'.hp.fb a (.inl z)⟩
    have hn := done ysD σD' M' pv
    unfold newL at hn
    obtain ⟨hl, hn⟩ := hn
    have nf : ¬ F D' := rh1.nf hD
    rcases hn with hn | hn
    · exact p _ M' _ H' (f1.trans f') rhE (by unfold RepD; exact ⟨D', ys, rfl, .inl ⟨.inl eD, mD', nf⟩, ry.more fL⟩) hn
    · refine p _ (updD M' D' (.lst ysD)) _ H' (f1.trans fun a o q z => ?_) ⟨fun a o q => ?_, fun a z => ⟨(rhE.fb a z).1, ?_⟩⟩ (by unfold RepD; rfl) (hn D' mD')
      · obtain ⟨q1, q2⟩ := f' a o q z
        exact ⟨q1, by rw [updD_ne (ne_of_none q hD)]; exact q2⟩
      · by_cases qa : a = D'
        · rw [qa, updD_same] at q; cases q
          rw [qa]
          refine ⟨_, eD, ys, rfl, ?_⟩
          -- what is gathered does not pass through the list itself
          exact RepDs.own (F' := fun a => F a ∨ a = D') (.inr rfl) fL ry
        · rw [updD_ne qa] at q
          obtain ⟨o', e', r⟩ := rel'.hp.at_ a o q
          exact ⟨o', e', RepO.own (F' := fun a => F a ∨ a = D') (.inr rfl) fL r⟩
      · rw [updD_ne (fun (z' : a = D') => nf (by rw [← z']; exact z))]; exact (rhE.fb a z).2
theorem ed_compG (S : CompScope X scope ts rest) (hi : IDG X tg iter tI)
    (hg : ∀ fp s H, GD (compCx X scope ts rest fp s H) tg g) (ht : ∀ fp s H, FD (compCx X scope ts rest fp s H) ifs tc) (he : ∀ fp s H, ED (compCx X scope ts rest fp s H) elt te)
    (hc : X.calm = true := by rfl) (hs : ∀ x, foldedSetIterable iter X.env x = pure x := by intro _; rfl) : ED X (.ListComp elt [⟨tg, iter, ifs, 0⟩] scope pos) (tCompG ts.length tI g tc te) :=
  (pe_comp (g := LiftG X.K g) (tc := LiftT X.K tc) (te := LiftE X.K te) hc S hi hg ht he hs).wk fun _ _ _ h => lift_compG h
theorem sd_compG (i : Nat) {x : Str} {pos' spos : Pos} (S : CompScope X scope ts rest) (hi : IDG X tg iter tI)
    (hg : ∀ fp s H, GD (compCx X scope ts rest fp s H) tg g) (ht : ∀ fp s H, FD (compCx X scope ts rest fp s H) ifs tc) (he : ∀ fp s H, ED (compCx X scope ts rest fp s H) elt te)
    (hN : X.N.Nodup) (hx : X.N[i]? = some x) (hl : Loc X.env.scope x) (hc : X.calm = true := by rfl)
    (hsw : swapsWith (.ListComp elt [⟨tg, iter, ifs, 0⟩] scope pos) (some (.Name x pos')) spos.line X.env = pure true := by rfl)
    (hs : ∀ x, foldedSetIterable iter X.env x = pure x := by intro _; rfl) (hf : X.fn x = true ∨ X.env.scope.names.lookup x = some .local := by first | exact .inl rfl | exact .inr rfl | assumption) :
    StD X (.Assign [.Name x pos'] (.ListComp elt [⟨tg, iter, ifs, 0⟩] scope pos) spos) (tAsgD (tCompG ts.length tI g tc te) (gNameD i)) := by
  refine (ps_set_comp (g := LiftG X.K g) (tc := LiftT X.K tc) (te := LiftE X.K te) hc S hi hg ht he hN hx hl hsw hs hf).wk fun D' σ H w1_ => w1_.elim fun F z_ => z_.elim fun σD z_ => z_.elim fun M z_ => z_.elim fun DD z_ => z_.elim fun rel z_ => z_.elim fun h p => ?_
  unfold tAsgD at h
  refine lift_compG ⟨F, σD, M, _, rel, h, fun d M1 v H1 f1 rh1 r1 h1 => ?_⟩
  unfold gNameD at h1
  exact (p.mono f1).nx _ M1 _ H1 .refl ((rel.mono f1 rh1).set i r1) h1
end
@[irreducible] noncomputable def iSeqG (te : TDE) : TGI := fun σ M R => te σ M fun d M1 => ∃ ds, listD d M1 = some ds ∧ R ds (fun M => listD d M = some ds) M1
theorem rd_iseqG {te : TDE} {σ : SD} {M : HpD} {R : List D → (HpD → Prop) → HpD → Prop} (h : te σ M fun d M1 => ∃ ds, listD d M1 = some ds ∧ R ds (fun M => listD d M = some ds) M1) : iSeqG te σ M R := by unfold iSeqG; exact h
section
variable {X : Cx} {tg l : Expr} {tl : TDE} {pos p : Pos}
theorem list_at {K : KF} {H : Hp} {M : HpD} {d : D} {a : Addr} {ds : List D} (rh : RepH K H M) (r : RepD K H M d (.ref a)) (e : listD d M = some ds) : ∃ xs, SqL K.K H a xs ∧ RepDs K H M ds xs := by
  obtain ⟨p, xs, e1, h, r'⟩ := list_rep rh r e
  cases e1
  exact ⟨xs, h, r'⟩
theorem ylds_listG {K : PySem.W.Frag} {F : Addr → Prop} {H : Hp} {M : HpD} {a : Addr} {d : D} {ds : List D} (r : RepD ⟨K, F⟩ H M d (.ref a)) : YldsG K F (Itl K a) ds (fun M => listD d M = some ds) M H := fun F' i M' H' hf f rh gd => by
  have r' : RepD ⟨K, F'⟩ H' M' d (.ref a) := (r.more hf).mono f
  obtain ⟨xs, h', rs⟩ := list_at rh r' gd
  refine ⟨fun d e => ?_, fun e => ⟨xs, h', by rw [← rs.length]; exact e⟩⟩
  obtain ⟨v, e1, e2⟩ := rs.get e
  refine ⟨⟨xs, v, h', e1⟩, fun x H3 y => ?_⟩
  obtain ⟨rfl, y⟩ := y
  have := y xs h'
  rw [e1] at this; cases this
  exact ⟨.refl, rh, e2⟩
theorem id_listG (hl : ED X l tl) : IDG X tg l (iSeqG tl) := by
  refine (pi_list hl).wk fun σ H R w1_ => w1_.elim fun F z_ => z_.elim fun σD z_ => z_.elim fun M z_ => z_.elim fun RD z_ => z_.elim fun rel z_ => z_.elim fun h p => ?_
  unfold iSeqG at h
  refine lE rel h fun d M1 v H1 f1 rel1 r1 h1 => ?_
  obtain ⟨ds, gd, q⟩ := h1
  obtain ⟨a, xs, rfl, hz, hr⟩ := list_rep rel1.hp r1 gd
  exact ⟨a, rfl, ⟨xs, hz⟩, p ds _ M1 H1 _ f1 rel1.hp (ylds_listG r1) q⟩
end
end L2
namespace L2
open PySem PySem.Spec PyProof.Rows
section
variable {X : Cx} {pins : List (Addr × Obj)} {σ : St} {H : Hp} {s : Shared}
theorem Inv.turnedNew {h' : Heap} {t' : Nat} {fp : List Addr} {T : Addr} {o : HO} (I : Inv X pins σ H s) (k : ∀ b u, b ∉ fp → s.heap.get? b = some u → h'.get? b = some u) (hf : ∀ b ∈ fp, FpOk X pins H b) (hT : s.heap.objs.size ≤ T)
    (new : ObjOk X.prog X.w (upd H T o) h' T o) : Inv X pins σ (upd H T o) { s with heap := h', toks := t' } := by
  have hn := I.hok.fresh hT
  have nf : ∀ b u, H b = some u → b ∉ fp := fun b u e z => by rw [(hf b z).1] at e; cases e
  have fT : FpOk X pins H T := I.fpOk hT hn
  refine I.call (g' := s.gens) (d' := s.drawn) (ch := T :: fp) ⟨fun b u e n _ hc => k b u (fun z => hc (List.mem_cons_of_mem _ z)) e, fun b u e n _ hc => ⟨u.slots, k b u (fun z => hc (List.mem_cons_of_mem _ z)) e⟩,
    fun b u e n hc => by rw [upd_ne (fun z => hc (by simp [z]))]; exact n, fun b u e hc => ⟨u, k b u (fun z => hc (List.mem_cons_of_mem _ z)) e⟩, fun b xs e => by rw [upd_ne (ne_of_none e hn)]; exact e,
    fun b x u e => by rw [upd_ne (ne_of_none e hn)]; exact e, fun b ps e => ⟨#[], by rw [upd_ne (ne_of_none e hn), e]; simp⟩⟩ (fun b u e => ?_) I.bare (fun b hb => ?_)
  · by_cases hb : b = T
    · subst hb; rw [upd_same] at e; cases e; exact new
    · rw [upd_ne hb] at e
      refine (I.hok b u e).stay (fun c v hc q => k c v ?_ q) (fun c q => by rw [upd_ne (ne_of_none q hn)]; exact q) fun c xs q => by rw [upd_ne (ne_of_none q hn)]; exact q
      rcases hc with z | z
      · rw [z]; exact nf b u e
      · exact nf c _ z
  · rcases List.mem_cons.mp hb with rfl | hb
    · exact ⟨fT.2.2.2.1, fT.2.1, fT.2.2.2.2.1, fT.2.2.2.2.2⟩
    · have z := hf b hb
      exact ⟨z.2.2.2.1, z.2.1, z.2.2.2.2.1, z.2.2.2.2.2⟩
theorem Inv.turnedL {h' : Heap} {t' : Nat} {fp : List Addr} (I : Inv X pins σ H s) (k : ∀ b u, b ∉ fp → s.heap.get? b = some u → h'.get? b = some u) (hf : ∀ b ∈ fp, FpOk X pins H b) : Inv X pins σ H { s with heap := h', toks := t' } := by
  have nf : ∀ b u, H b = some u → b ∉ fp := fun b u e z => by rw [(hf b z).1] at e; cases e
  refine I.call (g' := s.gens) (d' := s.drawn) (ch := fp) ⟨fun b u e n _ hc => k b u hc e, fun b u e n _ hc => ⟨u.slots, k b u hc e⟩,
    fun b u e n hc => n, fun b u e hc => ⟨u, k b u hc e⟩, fun b xs e => e, fun b x u e => e, fun b ps e => ⟨#[], by rw [e]; simp⟩⟩ (fun b u e => ?_) I.bare (fun b hb => ?_)
  · refine (I.hok b u e).stay (fun c v hc q => k c v ?_ q) (fun c q => q) fun c xs q => q
    rcases hc with z | z
    · rw [z]; exact nf b u e
    · exact nf c _ z
  · have z := hf b hb
    exact ⟨z.2.2.2.1, z.2.1, z.2.2.2.2.1, z.2.2.2.2.2⟩
end
end L2
namespace L2
open PySem PySem.Spec PyProof.Rows
noncomputable def Itz (K : PySem.W.Frag) (a b : Addr) : It :=
  ⟨fun i H => ∃ xs x ys y, SqL K H a xs ∧ xs[i]? = some x ∧ SqL K H b ys ∧ ys[i]? = some y,
   fun i H v H' => ∃ T x y, v = .ref T ∧ H T = none ∧ H' = upd H T (.tup [x, y]) ∧ (∀ xs, SqL K H a xs → xs[i]? = some x) ∧ ∀ ys, SqL K H b ys → ys[i]? = some y,
   fun i H => ∃ xs ys, SqL K H a xs ∧ SqL K H b ys ∧ (xs.length ≤ i ∨ ys.length ≤ i)⟩
noncomputable def ZipSt (z TI TO i1 i2 a b : Addr) (i : Nat) (h : Heap) : Prop := IsZip h z TI TO .none ∧ IsPair h TI (.ref i1) (.ref i2) ∧ (∃ p q, IsPair h TO p q) ∧ h.IsListIter i1 a i ∧ h.IsListIter i2 b i
theorem ZipSt.apart {z TI TO i1 i2 a b : Addr} {i : Nat} {h : Heap} {xs ys : Array Value} (st : ZipSt z TI TO i1 i2 a b i h) (h12 : i1 ≠ i2) (hT : TI ≠ TO) (l1 : h.IsList a xs) (l2 : h.IsList b ys) : ZipApart z TI TO i1 i2 a b := by
  obtain ⟨hz, hI, ⟨p, q, hO⟩, ⟨o1, g1, c1, d1⟩, ⟨o2, g2, c2, d2⟩⟩ := st
  obtain ⟨ol, gl, cl, _⟩ := l1
  obtain ⟨om, gm, cm, _⟩ := l2
  have ne : ∀ {x y : Addr} {ox oy : Obj} {m n : String}, h.get? x = some ox → h.get? y = some oy → ox.cls = .type m → oy.cls = .type n → m ≠ n → x ≠ y := fun e1 e2 c1 c2 hmn z => by
    subst z
    rw [e1] at e2; cases e2
    rw [c1] at c2; cases c2
    exact hmn rfl
  exact ⟨ne hI hz rfl rfl (by decide), ne hO hz rfl rfl (by decide), ne g1 hz c1 rfl (by decide), ne g2 hz c2 rfl (by decide), hT, ne hI g1 rfl c1 (by decide), ne hI g2 rfl c2 (by decide), ne hO g1 rfl c1 (by decide), ne hO g2 rfl c2 (by decide), h12,
    ne gl hz cl rfl (by decide), ne gl hO cl rfl (by decide), ne gl g1 cl c1 (by decide), ne gl g2 cl c2 (by decide), ne gm hz cm rfl (by decide), ne gm hO cm rfl (by decide), ne gm g1 cm c1 (by decide), ne gm g2 cm c2 (by decide)⟩
theorem turn_zip {P : Program} {w : World} {K : PySem.W.Frag} {elts : List Expr} {tk : Nat} {tpos : Pos} (a b z TI TO i1 i2 : Addr) (h12 : i1 ≠ i2) (hT : TI ≠ TO) : Turn P w K (.Tuple elts tk tpos) (Itz K a b) [z, TI, TO, i1, i2] z (ZipSt z TI TO i1 i2 a b) where
  mem := by simp
  obj := fun i h st b' hb => by
    obtain ⟨hz, hI, ⟨p, q, hO⟩, ⟨o1, g1, c1, d1⟩, ⟨o2, g2, c2, d2⟩⟩ := st
    simp only [List.mem_cons, List.not_mem_nil, or_false] at hb
    rcases hb with rfl | rfl | rfl | rfl | rfl
    · exact ⟨_, hz, fun v e => by cases e⟩
    · exact ⟨_, hI, fun v e => by cases e⟩
    · exact ⟨_, hO, fun v e => by cases e⟩
    · exact ⟨_, g1, fun v e => by rw [d1] at e; cases e⟩
    · exact ⟨_, g2, fun v e => by rw [d2] at e; cases e⟩
  keep := fun i h h' st k => by
    obtain ⟨hz, hI, ⟨p, q, hO⟩, h1, h2⟩ := st
    exact ⟨k z (by simp) _ hz, k TI (by simp) _ hI, ⟨p, q, k TO (by simp) _ hO⟩, h1.at fun o eo => k i1 (by simp) o eo, h2.at fun o eo => k i2 (by simp) o eo⟩
  item := by
    intro X hP hw hK hc i pins s σ H E I hf st hg
    subst hP hw hK
    obtain ⟨xs, x, ys, y, hq1, hx, hq2, hy⟩ := hg
    obtain ⟨its, rv, p1, hz1⟩ := I.list hq1
    obtain ⟨jts, rw', p2, hz2⟩ := I.list hq2
    obtain ⟨u, hu, ru⟩ := rv.get hx
    obtain ⟨v, hv, rw2⟩ := rw'.get hy
    have D := st.apart h12 hT p1.isList p2.isList
    obtain ⟨hz, hI, ⟨p, q, hO⟩, h1, h2⟩ := st
    refine wpAny_pyNext_zip_item D hz hI hO h1 h2 p1.isList p2.isList (x := u) (y := v) (by simpa using hu) (by simpa using hv) fun h' a1 a2 a3 a4 a5 a6 a7 => ?_
    refine ⟨_, rfl, ?_⟩
    refine wpAny_letOwnedTupleGo_zip a1 fun h2' hz2' sb => ?_
    have zl : z < s.heap.objs.size := Heap.lt_size hz
    have hT2 : h2'.get? s.heap.objs.size = some { cls := .type "tuple", data := .seq #[u, v] } := (sb.2 _ (Nat.ne_of_gt zl)).trans a5
    have I1 : Inv X pins σ (upd H s.heap.objs.size (.tup [x, y])) { s with heap := h2', toks := s.toks } :=
      I.turnedNew (fp := [z, TI, TO, i1, i2]) (fun c o hb e => by
        simp only [List.mem_cons, List.not_mem_nil, or_false, not_or] at hb
        exact (sb.2 c hb.1).trans (a7 c o hb.1 hb.2.2.1 hb.2.2.2.1 hb.2.2.2.2 e)) hf (Nat.le_refl _) (show ObjOk X.prog X.w _ h2' _ (.tup [x, y]) from ⟨by show 2 ≤ sizeLine; decide, [u, v], .cons ru (.cons rw2 .nil), _, hT2, rfl, _, rfl⟩)
    refine ⟨.ref s.heap.objs.size, _, I1, rfl, ⟨_, x, y, rfl, I.hok.fresh (Nat.le_refl _), rfl, fun zs hzs => by rw [I.list_inj hzs hq1]; exact hx, fun zs hzs => by rw [I.list_inj hzs hq2]; exact hy⟩, ⟨hz2', (sb.2 TI D.TIz).trans (a7 TI _ D.TIz D.TITO D.TIi1 D.TIi2 hI), ⟨u, v, (sb.2 TO D.TOz).trans a2⟩, a3.at fun o eo => (sb.2 i1 D.i1z).trans eo, a4.at fun o eo => (sb.2 i2 D.i2z).trans eo⟩, fun c hc' => ?_⟩
    rw [upd_ne]
    · exact (hf c hc').1
    · simp only [List.mem_cons, List.not_mem_nil, or_false] at hc'
      obtain ⟨o1, g1, _⟩ := h1
      obtain ⟨o2, g2, _⟩ := h2
      rcases hc' with rfl | rfl | rfl | rfl | rfl
      · exact Nat.ne_of_lt zl
      · exact Nat.ne_of_lt (Heap.lt_size hI)
      · exact Nat.ne_of_lt (Heap.lt_size hO)
      · exact Nat.ne_of_lt (Heap.lt_size g1)
      · exact Nat.ne_of_lt (Heap.lt_size g2)
  done := by
    intro X hP hw hK hc i pins s σ H E I hf st hg
    subst hP hw hK
    obtain ⟨xs, ys, hq1, hq2, hx⟩ := hg
    obtain ⟨its, rv, p1, hz1⟩ := I.list hq1
    obtain ⟨jts, rw', p2, hz2⟩ := I.list hq2
    have l1 := rv.length
    have l2 := rw'.length
    have D := st.apart h12 hT p1.isList p2.isList
    obtain ⟨hz, hI, ⟨p, q, hO⟩, h1, h2⟩ := st
    refine wpAny_pyNext_zip_end (I.ok.hd hc) D hz hI hO h1 h2 p1.isList p2.isList (by
      rcases hx with hx | hx
      · exact .inl (by simp; omega)
      · exact .inr (by simp; omega)) fun h' k => ⟨rfl, I.turnedL (t' := s.toks) (fp := [z, TI, TO, i1, i2]) (fun c o hb e => ?_) hf⟩
    simp only [List.mem_cons, List.not_mem_nil, or_false, not_or] at hb
    exact k c o hb.1 hb.2.2.1 hb.2.2.2.1 hb.2.2.2.2 e
  self := fun _ _ _ _ _ st h => wpAny_pyIter_zip st.1 h
noncomputable def iZipV (K : PySem.W.Frag) (ta : TA) : TI := fun σ H R => ta σ H fun vs H1 => ∃ a b, vs = [.ref a, .ref b] ∧ (∃ xs, SqL K H1 a xs) ∧ (∃ ys, SqL K H1 b ys) ∧ R (Itz K a b) H1
theorem boot_zip : bootBuiltins "zip" = some (.type "zip") := by decide +kernel
theorem pi_zip {X : Cx} {l m : Expr} {ta : TA} {p pos : Pos} {elts : List Expr} {tk : Nat} {tpos : Pos} (hg : Gl X "zip") (hm : X.mg "zip" = none) (ha : PA X [l, m] ta) (hs : starEach [l, m] X.env = [(false, eval l X.env), (false, eval m X.env)] := by rfl) (hs2 : starEach [m] X.env = [(false, eval m X.env)] := by rfl) :
    PI X (.Tuple elts tk tpos) (.Call (.Name "zip" p) [l, m] [] pos) (iZipV X.K ta) := by
  intro pins s σ H R I h
  refine Call_ (ld_blt I hg hm boot_zip (PyProof.Rows.callWith_type1 (thn (ha pos pins s σ H _ I h) fun us s1 w1_ => w1_.elim fun vs z_ => z_.elim fun H1 z_ => z_.elim fun I1 z_ => z_.elim fun r1 q1 => ?_) (by rw [hs, hs2]) (by rw [hs2]; rfl)))
  obtain ⟨a, b, e, ⟨xs, hq1⟩, ⟨ys, hq2⟩, q⟩ := q1
  subst e
  cases r1 with
  | cons r rr =>
    cases rr with
    | cons r' rr =>
      cases rr
      cases r
      cases r'
      obtain ⟨its, rv, p1, hz⟩ := I1.list hq1
      obtain ⟨jts, rw', p2, hz'⟩ := I1.list hq2
      refine call_zip_2 p1.isList p2.isList fun h' a1 a2 a3 a4 a5 a6 a7 => ?_
      refine wpAny_pyIter_zip a1 ?_
      refine ⟨s1.heap.objs.size + 4, [s1.heap.objs.size + 4, s1.heap.objs.size + 2, s1.heap.objs.size + 3, s1.heap.objs.size, s1.heap.objs.size + 1], _, _, H1, rfl, I1.kept (t' := s1.toks) a7, turn_zip a b _ _ _ _ _ (fun z => Nat.succ_ne_self _ z.symm) (fun z => by have : s1.heap.objs.size + 2 = s1.heap.objs.size + 3 := z; omega), ⟨a1, a2, ⟨_, _, a3⟩, a4, a5⟩, fun c hc => ?_, q⟩
      have hle : s1.heap.objs.size ≤ c := by
        simp only [List.mem_cons, List.not_mem_nil, or_false] at hc
        rcases hc with rfl | rfl | rfl | rfl | rfl
        · exact Nat.le_add_right _ _
        · exact Nat.le_add_right _ _
        · exact Nat.le_add_right _ _
        · exact Nat.le_refl _
        · exact Nat.le_add_right _ _
      exact I1.fpOk hle (I1.hok.fresh hle)
noncomputable def zipD (ds es : List D) : List D := List.zipWith (fun d e => .tup [d, e]) ds es
@[irreducible] noncomputable def iZipG (ta : TDA) : TGI := fun σ M R => ta σ M fun vs M1 => ∃ d e ds es, vs = [d, e] ∧ listD d M1 = some ds ∧ listD e M1 = some es ∧ R (zipD ds es) (fun M => listD d M = some ds ∧ listD e M = some es) M1
theorem rd_izip {ta : TDA} {σ : SD} {M : HpD} {R : List D → (HpD → Prop) → HpD → Prop} (h : ta σ M fun vs M1 => ∃ d e ds es, vs = [d, e] ∧ listD d M1 = some ds ∧ listD e M1 = some es ∧ R (zipD ds es) (fun M => listD d M = some ds ∧ listD e M = some es) M1) : iZipG ta σ M R := by unfold iZipG; exact h
theorem zipD_get {ds es : List D} {i : Nat} {d : D} (h : (zipD ds es)[i]? = some d) : ∃ x y, ds[i]? = some x ∧ es[i]? = some y ∧ d = .tup [x, y] := by
  unfold zipD at h
  rw [List.getElem?_zipWith] at h
  cases e1 : ds[i]? with
  | none => rw [e1] at h; cases h
  | some x =>
    cases e2 : es[i]? with
    | none => rw [e1, e2] at h; cases h
    | some y => rw [e1, e2] at h; cases h; exact ⟨x, y, rfl, rfl, rfl⟩
theorem zipD_len {ds es : List D} : (zipD ds es).length = min ds.length es.length := by unfold zipD; simp
theorem ylds_zip {K : PySem.W.Frag} {F : Addr → Prop} {H : Hp} {M : HpD} {a b : Addr} {d e : D} {ds es : List D} (r : RepD ⟨K, F⟩ H M d (.ref a)) (r2 : RepD ⟨K, F⟩ H M e (.ref b)) : YldsG K F (Itz K a b) (zipD ds es) (fun M => listD d M = some ds ∧ listD e M = some es) M H := fun F' i M' H' hf f rh gd => by
  obtain ⟨xs, h1, rs1⟩ := list_at rh (show RepD ⟨K, F'⟩ H' M' d (.ref a) from (r.more hf).mono f) gd.1
  obtain ⟨ys, h2, rs2⟩ := list_at rh (show RepD ⟨K, F'⟩ H' M' e (.ref b) from (r2.more hf).mono f) gd.2
  refine ⟨fun d e => ?_, fun e => ⟨xs, ys, h1, h2, by rw [zipD_len] at e; rw [← rs1.length, ← rs2.length]; omega⟩⟩
  obtain ⟨d1, d2, e1, e2, rfl⟩ := zipD_get e
  obtain ⟨v1, g1, q1⟩ := rs1.get e1
  obtain ⟨v2, g2, q2⟩ := rs2.get e2
  refine ⟨⟨xs, v1, ys, v2, h1, g1, h2, g2⟩, fun x H3 y => ?_⟩
  obtain ⟨T, y1, y2, rfl, hT, rfl, ya, yb⟩ := y
  have k1 := ya xs h1
  have k2 := yb ys h2
  rw [g1] at k1; cases k1
  rw [g2] at k2; cases k2
  refine ⟨fz_new hT, rh.new hT, ?_⟩
  unfold RepD
  exact ⟨T, _, rfl, .inl ⟨.inl upd_same, rh.free hT, rh.nf hT⟩, RepDs.mono (fz_new hT) (.cons q1 (.cons q2 .nil))⟩
theorem id_zip {X : Cx} {l m : Expr} {ta : TDA} {p pos : Pos} {elts : List Expr} {tk : Nat} {tpos : Pos} (hg : Gl X "zip") (hm : X.mg "zip" = none) (ha : AD X [l, m] ta) (hs : starEach [l, m] X.env = [(false, eval l X.env), (false, eval m X.env)] := by rfl) (hs2 : starEach [m] X.env = [(false, eval m X.env)] := by rfl) :
    IDG X (.Tuple elts tk tpos) (.Call (.Name "zip" p) [l, m] [] pos) (iZipG ta) := by
  refine (pi_zip hg hm ha hs hs2).wk fun σ H R w1_ => w1_.elim fun F z_ => z_.elim fun σD z_ => z_.elim fun M z_ => z_.elim fun RD z_ => z_.elim fun rel z_ => z_.elim fun h p => ?_
  unfold iZipG at h
  refine lA rel h fun d M1 v H1 f1 rel1 r1 h1 => ?_
  obtain ⟨d, e, ds, es, rfl, g1, g2, q⟩ := h1
  obtain ⟨u, v', rfl, r2, r3⟩ := rep2 r1
  obtain ⟨a, xs, rfl, hz, hr⟩ := list_rep rel1.hp r2 g1
  obtain ⟨b, ys, rfl, hz2, hr2⟩ := list_rep rel1.hp r3 g2
  exact ⟨a, b, rfl, ⟨xs, hz⟩, ⟨ys, hz2⟩, p _ _ M1 H1 _ f1 rel1.hp (ylds_zip r2 r3) q⟩
end L2
namespace L2
open PySem PySem.Spec PyProof.Rows
section
variable {X : Cx} {a b : Expr} {ta tb : TDE} {pos : Pos}
@[irreducible] noncomputable def rIxSD : RD2 := fun x y M Q => ∃ z i c, x = .str z ∧ y = .int i ∧ z.length ≤ sizeLine ∧ atI z.cps.toList i = some c ∧ Q (.str ⟨#[c]⟩) M
theorem rd_ixS {z : Str} {i : Int} {c : Nat} {M : HpD} {Q : KD} (hz : z.length ≤ sizeLine) (e : atI z.cps.toList i = some c) (q : Q (.str ⟨#[c]⟩) M) : rIxSD (.str z) (.int i) M Q := by unfold rIxSD; exact ⟨z, i, c, rfl, rfl, hz, e, q⟩
theorem ed_ixS (ha : ED X a ta) (hb : ED X b tb) (hs : PlainIx b := by exact fun _ _ => rfl) : ED X (.Subscript a b pos) (tOpD rIxSD ta tb) := by
  refine (pe_ix ix_str ha hb hs).wk fun σ H Q h => ?_
  obtain ⟨F, σD, M, QD, rel, h, p⟩ := h
  unfold tOpD at h
  refine lE rel h fun d M1 v H1 f1 rel1 r1 h1 => ?_
  refine lE rel1 h1 fun e M2 u H2 f2 rel2 r2 h2 => ?_
  unfold rIxSD at h2
  obtain ⟨z, i, c, rfl, rfl, hz, he, q⟩ := h2
  unfold RepD at r1 r2
  exact ⟨z, i, c, r1, r2, hz, he, p _ _ _ _ (f1.trans f2) rel2.hp (by unfold RepD; rfl) q⟩
noncomputable def flatD : D → Bool
  | .non => true
  | .bl _ => true
  | .int _ => true
  | .str _ => true
  | _ => false
theorem flat_rep {K : KF} {H : Hp} {M : HpD} {d : D} {v : V} (f : flatD d = true) (r : RepD K H M d v) : flatV v = true := by
  cases d <;> first | (unfold flatD at f; cases f; done) | (unfold RepD at r; subst r; rfl)
theorem eqV_rep {K : KF} {H : Hp} {M : HpD} {d e : D} {v u : V} (f : flatD d = true) (g : flatD e = true) (ok : okD d e = true) (r : RepD K H M d v) (r2 : RepD K H M e u) : eqV v u = eqD d e := by
  cases d <;> first | (unfold flatD at f; cases f; done) | skip
  all_goals (cases e <;> first | (unfold flatD at g; cases g; done) | (unfold okD at ok; cases ok; done) | skip)
  all_goals (unfold RepD at r r2; subst r r2; unfold eqD; first | rfl | (simp [eqV]))
noncomputable def inD (x : D) (ds : List D) : Bool := ds.any fun d => eqD d x
theorem inV_rep {K : KF} {H : Hp} {M : HpD} {x : D} {v : V} (fx : flatD x = true) (rx : RepD K H M x v) : ∀ {ds : List D} {xs : List V}, (∀ d ∈ ds, flatD d = true ∧ okD d x = true) → RepDs K H M ds xs → xs.all flatV = true ∧ inV v xs = inD x ds
  | [], xs, _, r => by
    unfold RepDs at r
    subst r
    exact ⟨rfl, rfl⟩
  | d :: ds, xs, h, r => by
    unfold RepDs at r
    obtain ⟨y, yr, rfl, r1, r2⟩ := r
    obtain ⟨hd, hk⟩ := h d List.mem_cons_self
    obtain ⟨ih1, ih2⟩ := inV_rep fx rx (fun d h' => h d (List.mem_cons_of_mem _ h')) r2
    refine ⟨by rw [List.all_cons, flat_rep hd r1, ih1]; rfl, ?_⟩
    unfold inV inD at ih2 ⊢
    rw [List.any_cons, List.any_cons, eqV_rep hd fx hk r1 rx, ih2]
@[irreducible] noncomputable def rInD (neg : Bool) : RD2 := fun x y M Q => ∃ ds, itemsD y M = some ds ∧ flatD x = true ∧ (∀ d ∈ ds, flatD d = true ∧ okD d x = true) ∧ Q (.bl (if neg then !inD x ds else inD x ds)) M
theorem rd_in {neg : Bool} {x y : D} {ds : List D} {M : HpD} {Q : KD} (h : itemsD y M = some ds) (fx : flatD x = true) (fs : ∀ d ∈ ds, flatD d = true ∧ okD d x = true) (q : Q (.bl (if neg then !inD x ds else inD x ds)) M) : rInD neg x y M Q := by unfold rInD; exact ⟨ds, h, fx, fs, q⟩
theorem lift_in {K : PySem.W.Frag} {neg : Bool} {x y : V} {H : Hp} {Q : VK} (h : LiftR K (rInD neg) x y H Q) : rIn K neg x y H Q := by
  obtain ⟨F, d, e, M, QD, r1, r2, rh, hq, p⟩ := h
  unfold rInD at hq
  obtain ⟨ds, hd, fx, fs, q⟩ := hq
  obtain ⟨a, ys, rfl, hs, rs⟩ := items_rep rh r2 hd
  obtain ⟨f1, f2⟩ := inV_rep fx r1 fs rs
  exact ⟨a, ys, rfl, hs, flat_rep fx r1, f1, p _ M _ H .refl rh (by unfold RepD; rw [f2]) q⟩
theorem od_notIn : OpR X (compareOp .NotIn) (LiftR X.K (rInD true)) := fun pins s σ H x y v u Q I rx ry h => op_notIn_seq pins s σ H x y v u Q I rx ry (lift_in h)
@[irreducible] noncomputable def rCatD : RD2 := fun x y M Q => ∃ ds es, listD x M = some ds ∧ listD y M = some es ∧ newL (ds ++ es) M Q
theorem rd_cat {x y : D} {ds es : List D} {M : HpD} {Q : KD} (h1 : listD x M = some ds) (h2 : listD y M = some es) (q : newL (ds ++ es) M Q) : rCatD x y M Q := by unfold rCatD; exact ⟨ds, es, h1, h2, q⟩
theorem od_cat : OpR X (binaryOp .Add) (LiftR X.K rCatD) := by
  intro pins s σ H x y v u Q I rx ry h
  obtain ⟨F, d, e, M, QD, r1, r2, rh, hq, p⟩ := h
  unfold rCatD at hq
  obtain ⟨ds, es, h1, h2, q⟩ := hq
  obtain ⟨a, xs, rfl, ha, ra⟩ := list_rep rh r1 h1
  obtain ⟨b, ys, rfl, hb, rb⟩ := list_rep rh r2 h2
  cases rx
  cases ry
  obtain ⟨its, vi, pl, hz⟩ := I.list ha
  obtain ⟨jts, vj, pm, hz2⟩ := I.list hb
  have nl := q.post p rh (ra.append rb)
  obtain ⟨⟨cls, dd, data, sl⟩, ho, hc, n, hd⟩ := id pl.isList
  obtain ⟨⟨cls2, dd2, data2, sl2⟩, ho2, hc2, n2, hd2⟩ := id pm.isList
  simp only at hc hd hc2 hd2
  subst hc hd hc2 hd2
  have l1 := vi.length
  have l2 := vj.length
  have ln := nl.1
  rw [List.length_append] at ln
  have e : its.toArray ++ jts.toArray = (its ++ jts).toArray := by simp
  refine concat_meets ⟨_, ho, rfl⟩ ⟨_, ho2, rfl⟩ noFill_list_add seq_list_add PySem.F.slot_list_add PySem.F.entry_list_add (PySem.F.args_list_add_2 _ _) (list_addW a b its.toArray jts.toArray n n2 dd dd2 sl sl2 (by simp only [List.size_toArray]; omega)) ⟨ho, ho2, ?_⟩
  rw [e]
  exact ⟨.ref s.heap.objs.size, _, I.lnew (t' := s.toks) (vi.append vj) nl.1, rfl, nl.2 _ I.fresh⟩
end
section
variable {X : Cx} {o e e2 : Expr} {to te te2 : TDE} {apos cpos : Pos}
noncomputable def rJoinV (K : PySem.W.Frag) : V → List V → Hp → VK → Prop := fun x vs H Q => ∃ sep l ts, x = .str sep ∧ vs = [.ref l] ∧ SqL K H l (ts.map V.str) ∧ JoinOk sep ts = true ∧ Q (.str (Txt.join sep ts)) H
theorem strs_vals : ∀ {ts : List Str} {us : List Value}, Vals (ts.map V.str) us → ∃ l : List (Str × Tok), us = strValues l ∧ l.map (·.1) = ts
  | [], us, h => by cases h; exact ⟨[], rfl, rfl⟩
  | t :: ts, us, h => by
    cases h with
    | cons r h =>
      obtain ⟨k, rfl⟩ := r
      obtain ⟨l, rfl, rfl⟩ := strs_vals h
      exact ⟨(t, k) :: l, rfl, rfl⟩
theorem mt_join : MtR X "str.join" (rJoinV X.K) := by
  intro pins s σ H x vs v us Q I rx rv h
  obtain ⟨sep, l, ts, rfl, rfl, hl, ok, q⟩ := h
  obtain ⟨t, rfl⟩ := rx
  obtain ⟨u, rfl, ru⟩ := rv.one
  cases ru
  obtain ⟨its, vi, pl, hz⟩ := I.list hl
  obtain ⟨lt, rfl, et⟩ := strs_vals vi
  exact SC.join pl.isList et ok fun t' k => ⟨.str _, H, I.tok _, ⟨_, rfl⟩, q⟩
@[irreducible] noncomputable def tJoinD (to te : TDE) : TDE := fun σ M Q => to σ M fun x M1 => ∃ sep, x = .str sep ∧ te σ M1 fun y M2 => ∃ ts, listD y M2 = some (ts.map D.str) ∧ JoinOk sep ts = true ∧ Q (.str (Txt.join sep ts)) M2
theorem rd_join {σ : SD} {M : HpD} {Q : KD} (h : to σ M fun x M1 => ∃ sep, x = .str sep ∧ te σ M1 fun y M2 => ∃ ts, listD y M2 = some (ts.map D.str) ∧ JoinOk sep ts = true ∧ Q (.str (Txt.join sep ts)) M2) : tJoinD to te σ M Q := by unfold tJoinD; exact h
theorem rep_strs {K : KF} {H : Hp} {M : HpD} : ∀ {ts : List Str} {xs : List V}, RepDs K H M (ts.map D.str) xs → xs = ts.map V.str
  | [], xs, r => by unfold RepDs at r; exact r
  | t :: ts, xs, r => by
    rw [List.map_cons] at r
    unfold RepDs at r
    obtain ⟨y, yr, rfl, r1, r2⟩ := r
    unfold RepD at r1
    subst r1
    rw [rep_strs r2]; rfl
theorem ed_join (ho : ED X o to) (he : ED X e te) (hbase : attributeBase o "join" X.env (eval o X.env) = eval o X.env := by rfl)
    (hfew : ((backTo cpos (starEach (e :: []) X.env)).all (fun x => !x.1) && (backToKw cpos (keywordEach [] X.env)).all (fun x => x.1.isSome)
      && decide ((e :: []).length + ([] : List Keyword).length + (if ([] : List Keyword).isEmpty then 0 else 1) < 30)) = true := by rfl)
    (hline : (apos.endLine == cpos.line) = true := by rfl) (hs : starEach (e :: []) X.env = (false, eval e X.env) :: starEach [] X.env := by rfl) (hplain : (backTo cpos (starEach [] X.env)).any (·.1) = false := by rfl) :
    ED X (.Call (.Attribute o "join" apos) [e] [] cpos) (tJoinD to te) := by
  refine (pe_bm PySem.F.plainAttrs_str PySem.F.slot_str_join PySem.F.type_str_join (r := rJoinV X.K) mt_join ho (pa_cons he pa_nil hs) hbase hfew hline hs hplain).wk fun σ H Q h => ?_
  obtain ⟨F, σD, M, QD, rel, h, p⟩ := h
  unfold tJoinD at h
  refine lE rel h fun d M1 v H1 f1 rel1 r1 h1 => ?_
  obtain ⟨sep, rfl, h1⟩ := h1
  unfold RepD at r1
  subst r1
  refine ⟨rfl, ?_⟩
  show LiftE X.K te σ H1 _
  refine lE rel1 h1 fun y M2 u H2 f2 rel2 r2 h2 => ?_
  obtain ⟨ts, hd, ok, q⟩ := h2
  obtain ⟨l, xs, rfl, hl, rs⟩ := list_rep rel2.hp r2 hd
  have := rep_strs rs
  subst this
  exact ⟨sep, l, ts, rfl, rfl, hl, ok, p _ _ _ _ (f1.trans f2) rel2.hp (by unfold RepD; rfl) q⟩
noncomputable def insL {α : Type} (xs : List α) (k : Nat) (y : α) : List α := xs.take k ++ y :: xs.drop k
noncomputable def rInsertV : V → List V → Hp → VK → Prop := fun x vs H Q => ∃ l xs i k y, x = .ref l ∧ vs = [.int i, y] ∧ i = ((k : Nat) : Int) ∧ H l = some (.lst xs) ∧ xs.length < sizeLine ∧ k ≤ xs.length ∧ Q .non (upd H l (.lst (insL xs k y)))
theorem fitsN {i : Int} (h0 : 0 ≤ i) (h : i < 2 ^ 63) : Builtin.List.listFitsIndex i = true := by
  unfold Builtin.List.listFitsIndex
  rw [Bool.and_eq_true]
  exact ⟨decide_eq_true (by omega), decide_eq_true (by omega)⟩
theorem insL_vals {xs : List V} {us : List Value} {y : V} {u : Value} (r : Vals xs us) (ry : RelV y u) (k : Nat) : Vals (insL xs k y) (insL us k u) := by
  have take : ∀ {xs : List V} {us : List Value}, Vals xs us → ∀ k, Vals (xs.take k) (us.take k) ∧ Vals (xs.drop k) (us.drop k) := by
    intro xs us r
    induction r with
    | nil => intro k; rw [List.take_nil, List.take_nil, List.drop_nil, List.drop_nil]; exact ⟨.nil, .nil⟩
    | cons r t ih =>
      intro k
      cases k with
      | zero => exact ⟨.nil, .cons r t⟩
      | succ k => exact ⟨.cons r (ih k).1, (ih k).2⟩
  exact (take r k).1.append (.cons ry (take r k).2)
theorem insL_len {α : Type} (xs : List α) (k : Nat) (y : α) : (insL xs k y).length = xs.length + 1 := by
  unfold insL
  rw [List.length_append, List.length_cons, List.length_take, List.length_drop]; omega
theorem ins_arr (us : List Value) (k : Nat) (u : Value) : (us.toArray.extract 0 k).push u ++ us.toArray.extract k = (insL us k u).toArray := by
  unfold insL
  apply Array.toList_inj.mp
  simp [List.extract_eq_drop_take]
  exact List.take_of_length_le (by rw [List.length_drop]; omega)
theorem mt_insert : MtM X "list.insert" rInsertV := by
  intro pins s σ H x vs v us Q I rx rv h
  obtain ⟨l, xs, i, k, y, rfl, rfl, hi, hH, hz, hk, q⟩ := h
  cases rx
  cases rv with
  | cons r1 rv =>
    obtain ⟨t1, rfl⟩ := r1
    obtain ⟨u, rfl, ru⟩ := vals1 rv
    obtain ⟨z, its, n, r, hl, e⟩ := I.lstM hH
    have sl := line63
    have hf := fitsN (i := i) (by omega) (by omega)
    refine call_meets F.slot_list_insert ⟨_, e, rfl⟩ F.entry_list_insert (F.args_list_insert_3 _ _ _) (PySem.AutoSeq1.list_insert_list_int_val_1 l _ n i t1 u (by simp [hf]) (by rw [List.size_toArray]; omega)) ⟨e, ?_⟩
    refine ⟨.non, _, I.lset (its' := insL its k u) hH e ?_ (insL_vals r ru k) (by rw [insL_len]; omega), rfl, q⟩
    show ((its.toArray.extract 0 (if i < 0 then (i + ((its.toArray.size : Nat) : Int)).toNat else min i.toNat its.toArray.size)).push u ++ its.toArray.extract (if i < 0 then (i + ((its.toArray.size : Nat) : Int)).toNat else min i.toNat its.toArray.size)) = _
    rw [if_neg (by omega), show min i.toNat its.toArray.size = k by rw [List.size_toArray]; omega]
    exact ins_arr its k u
@[irreducible] noncomputable def tInsD (to te te2 : TDE) : TDE := fun σ M Q => to σ M fun x M1 => ∃ p, x = .ref p ∧ (∃ ds1, M1 p = some (.lst ds1)) ∧ te σ M1 fun i M2 => te2 σ M2 fun y M3 => ∃ (k : Nat) (ds : List D), i = .int k ∧ M3 p = some (.lst ds) ∧ ds.length < sizeLine ∧ k ≤ ds.length ∧ Q .non (updD M3 p (.lst (insL ds k y)))
theorem rd_ins {σ : SD} {M : HpD} {Q : KD} (h : to σ M fun x M1 => ∃ p, x = .ref p ∧ (∃ ds1, M1 p = some (.lst ds1)) ∧ te σ M1 fun i M2 => te2 σ M2 fun y M3 => ∃ (k : Nat) (ds : List D), i = .int k ∧ M3 p = some (.lst ds) ∧ ds.length < sizeLine ∧ k ≤ ds.length ∧ Q .non (updD M3 p (.lst (insL ds k y)))) : tInsD to te te2 σ M Q := by unfold tInsD; exact h
theorem insL_rep {K : KF} {H : Hp} {M : HpD} {ds : List D} {xs : List V} {d : D} {v : V} (r : RepDs K H M ds xs) (rv : RepD K H M d v) (k : Nat) : RepDs K H M (insL ds k d) (insL xs k v) := (r.take k).append (.cons rv (r.drop k))
theorem ed_ins (ho : ED X o to) (he : ED X e te) (he2 : ED X e2 te2) (hbase : attributeBase o "insert" X.env (eval o X.env) = eval o X.env := by rfl)
    (hfew : ((backTo cpos (starEach (e :: [e2]) X.env)).all (fun x => !x.1) && (backToKw cpos (keywordEach [] X.env)).all (fun x => x.1.isSome)
      && decide ((e :: [e2]).length + ([] : List Keyword).length + (if ([] : List Keyword).isEmpty then 0 else 1) < 30)) = true := by rfl)
    (hline : (apos.endLine == cpos.line) = true := by rfl) (hs : starEach (e :: [e2]) X.env = (false, eval e X.env) :: starEach [e2] X.env := by rfl) (hs2 : starEach (e2 :: []) X.env = (false, eval e2 X.env) :: starEach [] X.env := by rfl) (hplain : (backTo cpos (starEach [e2] X.env)).any (·.1) = false := by rfl) :
    ED X (.Call (.Attribute o "insert" apos) [e, e2] [] cpos) (tInsD to te te2) := by
  refine (pe_bm PySem.F.plainAttrs_list PySem.F.slot_list_insert PySem.F.type_list_insert (r := rInsertV) mt_insert ho (pa_cons he (pa_cons he2 pa_nil hs2) hs) hbase hfew hline hs hplain).wk fun σ H Q h => ?_
  obtain ⟨F, σD, M, QD, rel, h, p⟩ := h
  unfold tInsD at h
  refine lE rel h fun d M1 v H1 f1 rel1 r1 h1 => ?_
  obtain ⟨l, rfl, ⟨ds1, e1⟩, h1⟩ := h1
  unfold RepD at r1
  subst r1
  obtain ⟨o', e', xs, rfl, hr⟩ := rel1.hp.at_ l _ e1
  refine ⟨.inl ⟨rfl, xs, .inl (.inl e')⟩, ?_⟩
  show LiftE X.K te σ H1 _
  refine lE rel1 h1 fun i M2 u H2 f2 rel2 r2 h2 => ?_
  show LiftE X.K te2 σ H2 _
  refine lE rel2 h2 fun y M3 w H3 f3 rel3 r3 h3 => ?_
  obtain ⟨k, ds, rfl, e3, hl, hk, q⟩ := h3
  unfold RepD at r2
  subst r2
  obtain ⟨o2, e3', ys, rfl, hr3⟩ := rel3.hp.at_ l _ e3
  have rO : RepO ⟨X.K, F⟩ H3 M3 (.lst (insL ds k y)) (.lst (insL ys k w)) := ⟨_, rfl, insL_rep hr3 r3 k⟩
  exact ⟨l, ys, _, k, w, rfl, rfl, rfl, e3', by rw [← hr3.length]; exact hl, by rw [← hr3.length]; exact hk, p _ _ _ _ (((f1.trans f2).trans f3).trans (fz_write e3)) (rel3.hp.write e3 rO) (by unfold RepD; rfl) q⟩
end
end L2
namespace L2
open PySem PySem.Spec PyProof.Rows
theorem boot_listL : bootBuiltins "list" = some (.type "list") := by decide +kernel
noncomputable def intsV (lo : Int) (n : Nat) : List V := (List.range n).map fun (k : Nat) => .int (lo + (k : Int))
theorem vals_at : ∀ {xs : List V} {us : List Value}, xs.length = us.length → (∀ (i : Nat) (x : V) (u : Value), xs[i]? = some x → us[i]? = some u → RelV x u) → Vals xs us
  | [], [], _, _ => .nil
  | [], _ :: _, h, _ => nomatch h
  | _ :: _, [], h, _ => nomatch h
  | x :: xs, u :: us, h, r => .cons (r 0 x u rfl rfl) (vals_at (by simpa using h) fun i y w e1 e2 => r (i + 1) y w (by simpa using e1) (by simpa using e2))
theorem intsV_rep {K : KF} {H : Hp} {M : HpD} (lo : Int) (n : Nat) : RepDs K H M (intsD lo n) (intsV lo n) := by
  unfold intsD intsV
  induction List.range n with
  | nil => exact .nil
  | cons a r ih => exact .cons (by unfold RepD; rfl) ih
section
variable {X : Cx} {a b : Expr} {ta : TDA} {p p2 pos pos2 : Pos}
@[irreducible] noncomputable def tLstRngD (ta : TDA) : TDE := fun σ M Q => ta σ M fun vs M1 => ∃ i j : Int, vs = [.int i, .int j] ∧ (-(2 ^ 62) ≤ i ∧ i < 2 ^ 62 ∧ -(2 ^ 62) ≤ j ∧ j < 2 ^ 62) ∧ (j - i).toNat ≤ 1000 ∧ newL (intsD i (j - i).toNat) M1 Q
theorem rd_lstRng {σ : SD} {M : HpD} {Q : KD} (h : ta σ M fun vs M1 => ∃ i j : Int, vs = [.int i, .int j] ∧ (-(2 ^ 62) ≤ i ∧ i < 2 ^ 62 ∧ -(2 ^ 62) ≤ j ∧ j < 2 ^ 62) ∧ (j - i).toNat ≤ 1000 ∧ newL (intsD i (j - i).toNat) M1 Q) : tLstRngD ta σ M Q := by unfold tLstRngD; exact h
theorem ed_lstRng (hg : Gl X "list") (hm : X.mg "list" = none) (hg2 : Gl X "range") (hm2 : X.mg "range" = none) (ha : AD X [a, b] ta)
    (hs : starEach [a, b] X.env = [(false, eval a X.env), (false, eval b X.env)] := by rfl) (hs2 : starEach [b] X.env = [(false, eval b X.env)] := by rfl)
    (hs3 : starEach [.Call (.Name "range" p2) [a, b] [] pos2] X.env = [(false, eval (.Call (.Name "range" p2) [a, b] [] pos2) X.env)] := by rfl) (hc : X.calm = true := by rfl) :
    ED X (.Call (.Name "list" p) [.Call (.Name "range" p2) [a, b] [] pos2] [] pos) (tLstRngD ta) := by
  intro pins s σ H Q I h
  obtain ⟨F, σD, M, QD, rel, h, pp⟩ := h
  unfold tLstRngD at h
  refine Call_ (ld_blt I hg hm boot_listL (PyProof.Rows.callWith_type1 ?_ hs3 rfl))
  rw [hs3]
  show wpAny _ _ (spliced ((false, eval (.Call (.Name "range" p2) [a, b] [] pos2) X.env) :: [])) _ _ s
  refine Calls.spliced_cons ?_
  have hA := ha pos2 pins s σ H (fun vs H1 => ∃ i j : Int, vs = [.int i, .int j] ∧ (-(2 ^ 62) ≤ i ∧ i < 2 ^ 62 ∧ -(2 ^ 62) ≤ j ∧ j < 2 ^ 62) ∧ (j - i).toNat ≤ 1000 ∧ ∀ l, H1 l = none → Q (.ref l) (upd H1 l (.lst (intsV i (j - i).toNat)))) I ?_
  · refine Call_ (ld_blt I hg2 hm2 boot_range (PyProof.Rows.callWith_type1 (thn hA fun us s1 ⟨vs, H1, I1, r1, q1⟩ => ?_) (by rw [hs, hs2]) (by rw [hs2]; rfl)))
    obtain ⟨i, j, e, ⟨q1, q2, q3, q4⟩, q5, q⟩ := q1
    subst e
    cases r1 with
    | cons r rr =>
      cases rr with
      | cons r' rr =>
        cases rr
        obtain ⟨t, rfl⟩ := r
        obtain ⟨t', rfl⟩ := r'
        refine call_range_2 ?_
        refine Calls.spliced_nil ?_
        have I2 : Inv X pins σ H1 { s1 with heap := s1.heap.push { cls := .type "range", data := .fields #[.int i t, .int j t', .int 1 s1.toks] }, toks := s1.toks + 1 } := I1.kept fun b o e => Heap.get?_push_of_some _ e
        refine call_list_range (n := (j - i).toNat) (I1.ok.hd hc) (IsRange.new ..) (small_one q1 q2 q3 q4) (by rw [rangeSize_one]; split <;> omega) (Nat.le_trans q5 (by decide)) fun h' tk acc c' hk ho hi => ?_
        have hlen : (intsV i (j - i).toNat).length = (j - i).toNat := by unfold intsV; simp
        have sl : 1000 ≤ sizeLine := by rw [sizeLine_eq]; decide
        refine ⟨.ref _, _, I2.laid (t' := tk) (o := .lst (intsV i (j - i).toNat)) hk (Nat.le_refl _) ⟨by omega, acc.toList, c', vals_at (by rw [hlen, Array.length_toList, hi.1]) (fun k x u e1 e2 => ?_), by simpa using ho⟩, rfl, q _ (I2.hok.fresh (Nat.le_refl _))⟩
        have e3 : acc[k]? = some u := by rw [← Array.getElem?_toList]; exact e2
        obtain ⟨tt, rfl⟩ := hi.2 k u e3
        unfold intsV at e1
        rw [List.getElem?_map] at e1
        by_cases hk' : k < (j - i).toNat
        · rw [List.getElem?_range hk'] at e1
          cases e1
          exact ⟨tt, by rw [Int.mul_one]⟩
        · rw [List.getElem?_eq_none (by simpa using hk')] at e1
          cases e1
  · refine lA rel h fun d M1 v H1 f1 rel1 r1 h1 => ?_
    obtain ⟨i, j, rfl, q1, q5, q⟩ := h1
    obtain ⟨u, w', rfl, r2, r3⟩ := rep2 r1
    unfold RepD at r2 r3
    subst r2 r3
    exact ⟨i, j, rfl, q1, q5, (q.post (pp.mono f1) rel1.hp (intsV_rep i _)).2⟩
end
end L2
namespace L2
open PySem PySem.Spec PyProof.Rows
section
variable {X : Cx} {pins : List (Addr × Obj)} {σ : St} {H : Hp} {s : Shared}
theorem Inv.turnedAdopt {h' : Heap} {t' : Nat} {fp : List Addr} {T : Addr} {o : HO} (I : Inv X pins σ H s) (k : ∀ b u, b ∉ fp → b ≠ T → s.heap.get? b = some u → h'.get? b = some u) (hf : ∀ b ∈ fp, FpOk X pins H b) (fT : FpOk X pins H T)
    (new : ObjOk X.prog X.w (upd H T o) h' T o) : Inv X pins σ (upd H T o) { s with heap := h', toks := t' } := by
  have hn := fT.1
  have nf : ∀ b u, H b = some u → b ∉ fp := fun b u e z => by rw [(hf b z).1] at e; cases e
  have k' : ∀ b u, b ∉ T :: fp → s.heap.get? b = some u → h'.get? b = some u := fun b u hb e => k b u (fun z => hb (List.mem_cons_of_mem _ z)) (fun z => hb (by simp [z])) e
  refine I.call (g' := s.gens) (d' := s.drawn) (ch := T :: fp) ⟨fun b u e n _ hc => k' b u hc e, fun b u e n _ hc => ⟨u.slots, k' b u hc e⟩,
    fun b u e n hc => by rw [upd_ne (fun z => hc (by simp [z]))]; exact n, fun b u e hc => ⟨u, k' b u hc e⟩, fun b xs e => by rw [upd_ne (ne_of_none e hn)]; exact e,
    fun b x u e => by rw [upd_ne (ne_of_none e hn)]; exact e, fun b ps e => ⟨#[], by rw [upd_ne (ne_of_none e hn), e]; simp⟩⟩ (fun b u e => ?_) I.bare (fun b hb => ?_)
  · by_cases hb : b = T
    · subst hb; rw [upd_same] at e; cases e; exact new
    · rw [upd_ne hb] at e
      refine (I.hok b u e).stay (fun c v hc q => ?_) (fun c q => by rw [upd_ne (ne_of_none q hn)]; exact q) fun c xs q => by rw [upd_ne (ne_of_none q hn)]; exact q
      rcases hc with z | z
      · rw [z] at q ⊢; exact k b v (nf b u e) hb q
      · exact k c v (nf c _ z) (ne_of_none z hn) q
  · rcases List.mem_cons.mp hb with rfl | hb
    · exact ⟨fT.2.2.2.1, fT.2.1, fT.2.2.2.2.1, fT.2.2.2.2.2⟩
    · have z := hf b hb
      exact ⟨z.2.2.2.1, z.2.1, z.2.2.2.2.1, z.2.2.2.2.2⟩
end
noncomputable def KeyRuns (X : Cx) (pins : List (Addr × Obj)) (σ : St) (fv : Value) (spf : SpD) (G : Hp → Prop) : Prop :=
  ∀ (pins' : List (Addr × Obj)) (s' : Shared) (H' : Hp) (xs : List V) (us : List Value) (Qk : VK), (∀ p ∈ pins, p ∈ pins') → G H' → Inv X pins' σ H' s' → Vals xs us → LiftP X.K spf xs H' Qk E0 →
    wpAny (model X.prog X.w) X.A.in1.in1 (call fv us) (EP X pins' σ Qk) (fun _ _ => False) s'
theorem ints_ask {prog : Program} {w : World} {A : Around} {s : Shared} {ks : List Value} {kz : List Int} (hk : IntsAre ks kz) (i j : Nat) (hi : i < ks.length) (hj : j < ks.length) (C : Bool → Shared → Prop) (h : C (decide (kz.getD i 0 < kz.getD j 0)) s) :
    wpAny (model prog w) A (keyLt' oneType' (ks.getD i Value.none) (ks.getD j Value.none)) C (fun _ _ => False) s := by
  have at_ : ∀ {ks : List Value} {kz : List Int}, IntsAre ks kz → ∀ i, i < ks.length → ∃ t, ks.getD i Value.none = .int (kz.getD i 0) t := by
    intro ks kz hk
    induction hk with
    | nil => intro i hi; cases hi
    | cons n t r ih =>
      intro i hi
      cases i with
      | zero => exact ⟨t, rfl⟩
      | succ i => obtain ⟨t', e⟩ := ih i (by simpa using hi); exact ⟨t', by simpa using e⟩
  obtain ⟨t, e1⟩ := at_ hk i hi
  obtain ⟨u, e2⟩ := at_ hk j hj
  rw [e1, e2, keyLt'_oneType]
  exact oneLt_int h
theorem ints_kind {M : Model} {A : Around} {E : Value → Shared → Prop} {s : Shared} {ks : List Value} {kz : List Int} {Q : SortKind → Shared → Prop} (hk : IntsAre ks kz) (h2 : 2 ≤ ks.length) (h : Q oneType' s) : wpAny M A (keyKind' ks.toArray) Q E s := by
  match ks, h2, hk with
  | v₁ :: v₂ :: vs, _, hk =>
    rw [keyKind_ints hk]
    exact wpAny_pure h
theorem ksk_rest_D {X : Cx} {pins : List (Addr × Obj)} {σ : St} {H : Hp} {s : Shared} {F : Addr → Prop} {M : HpD} {fv : Value} {spf : SpD} {α : Type} {enc : α → D} {key : α → Int} {as : List α} {xs : List V} {us : List Value} {a kS : Addr} {e1 : Nat} {P : PySem.Fin → Shared → Prop} {E : Value → Shared → Prop}
    {G : Hp → Prop} (hG : ∀ H', Fz M H M H' → G H') (run : KeyRuns X pins σ fv spf G) (I : Inv X pins σ H s) (rh : RepH ⟨X.K, F⟩ H M) (rd : RepDs ⟨X.K, F⟩ H M (as.map enc) xs) (vi : Vals xs us) (h64 : as.length < 64)
    (hkey : ∀ x ∈ as, ∀ Q' : KD, Q' (.int (key x)) M → spf [enc x] M Q') (fa : FpOk X pins H a) (fk : FpOk X pins H kS) (hka : kS ≠ a)
    (oa : s.heap.get? a = some (seqObj "list" #[] e1)) (ok : s.heap.get? kS = some (seqObj "list" #[] 0))
    (h : ∀ (p : Array Nat) (H' : Hp) (s' : Shared), PermN as.length p → Srt (fun i => (as.map key).getD i 0) p as.length → RepH ⟨X.K, F⟩ H' M → Fz M H M H' → RepDs ⟨X.K, F⟩ H' M (as.map enc) xs →
      (∀ xs', xs'.length ≤ sizeLine → Vals xs' (sortAns us p).toList → Inv X pins σ (upd H' a (.lst xs')) s') → H' a = none → P (.done (.ret .none)) s') :
    wpAny (model X.prog X.w) X.A.in1.in1 (PyProof.Rows.ksk_rest a fv false us.toArray e1 (.ref kS)) P E s := by
  have lds : (as.map enc).length = as.length := List.length_map _
  have l1 : xs.length = as.length := by rw [← rd.length, lds]
  have l2 : us.length = as.length := by rw [← vi.length, l1]
  have sl : 1000 ≤ sizeLine := by rw [sizeLine_eq]; decide
  unfold PyProof.Rows.ksk_rest
  refine wpAny_bind (wpAny_rule ?_)
  rw [List.forIn_toArray]
  refine wpAny_bind (PyProof.Rows.ksk_fold (fun i s' => ∃ H' kA e, Inv X pins σ H' s' ∧ Fz M H M H' ∧ RepH ⟨X.K, F⟩ H' M ∧ H' a = none ∧ H' kS = none ∧ s'.heap.get? kS = some (seqObj "list" kA e) ∧ s'.heap.get? a = some (seqObj "list" #[] e1) ∧ IntsAre kA.toList ((as.map key).take i)) us 0 s
    ⟨H, #[], 0, I, .refl, rh, fa.1, fk.1, ok, oa, by simpa using IntsAre.nil⟩ ?step ?done)
  case step =>
    rintro j x s' hx ⟨H', kA, e, I', f', rh', na, nk, ok', oa', hk⟩
    simp only [Nat.zero_add] at hk ⊢
    have hj : j < us.length := (List.getElem?_eq_some_iff.mp hx).1
    have ej : as[j]? = some (as[j]'(by omega)) := List.getElem?_eq_getElem (by omega)
    have ek : (as.map key).take (j + 1) = (as.map key).take j ++ [key (as[j]'(by omega))] := by rw [List.take_add_one, List.getElem?_map, ej]; simp
    obtain ⟨xv, ex, rx⟩ := rd.get (show (as.map enc)[j]? = some (enc (as[j]'(by omega))) by rw [List.getElem?_map, ej]; rfl)
    obtain ⟨u, eu, ru⟩ := vi.get ex
    rw [hx] at eu; cases eu
    have hz : kA.size ≤ 64 := by
      have h1 := hk.length
      rw [Array.length_toList, List.length_take, List.length_map] at h1
      omega
    have Ip : Inv X (pins ++ [(kS, seqObj "list" kA e), (a, seqObj "list" #[] e1)]) σ H' s' := I'.pins_of fun p hp => by
      rcases List.mem_append.mp hp with hp | hp
      · exact I'.pin p (List.mem_append_right _ hp)
      · rcases List.mem_cons.mp hp with rfl | hp
        · exact ⟨ok', nk, fk.2.1, fk.2.2.1, fun v z => by cases z⟩
        · rw [List.mem_singleton.mp hp]
          exact ⟨oa', na, fa.2.1, fa.2.2.1, fun v z => by cases z⟩
    refine wpAny_bind (wpAny_attempt (wpAny_mono (run _ s' H' [xv] [x] (fun v H2 => v = .int (key (as[j]'(by omega))) ∧ Fz M H' M H2 ∧ RepH ⟨X.K, F⟩ H2 M) (fun p hp => List.mem_append_left _ hp) (hG H' f') Ip (.cons ru .nil)
      ⟨F, [enc (as[j]'(by omega))], M, fun d M2 => d = .int (key (as[j]'(by omega))) ∧ M2 = M, .cons (rx.mono f') .nil, rh', hkey _ (List.mem_of_getElem? ej) _ ⟨rfl, rfl⟩, fun d M2 v H2 f2 rh2 r2 q2 => ?_⟩) (fun v s'' he => ?_) fun _ _ hF => hF.elim))
    · obtain ⟨rfl, rfl⟩ := q2
      unfold RepD at r2
      exact ⟨r2, f2, rh2⟩
    · obtain ⟨v', H2, I2, rv, rfl, f2, rh2⟩ := he
      obtain ⟨t2, rfl⟩ := rv
      have pk := I2.pin (kS, seqObj "list" kA e) (List.mem_append_right _ (List.mem_append_right _ (.head _)))
      have pa' := I2.pin (a, seqObj "list" #[] e1) (List.mem_append_right _ (List.mem_append_right _ (.tail _ (.head _))))
      have s1 := Heap.SameBut.update s''.heap kS (Obj.mapSeq (·.push (.int (key (as[j]'(by omega))) t2)))
      obtain ⟨c2, hc2⟩ : ∃ c2, (s''.heap.update kS (Obj.mapSeq (·.push (.int (key (as[j]'(by omega))) t2)))).get? kS = some (seqObj "list" (kA.push (.int (key (as[j]'(by omega))) t2)) c2) := ⟨_, get?_update_seq pk.1 _⟩
      have ea : (kA.push (Value.int (key (as[j]'(by omega))) t2)).toList = kA.toList ++ [Value.int (key (as[j]'(by omega))) t2] := by simp
      refine wpAny_bind (listUpdate_at pk.1 rfl ?_ (by omega) (Nat.le_trans (Nat.le_of_eq (Array.size_push ..)) (by omega)))
      refine wpAny_pure ⟨rfl, H2, kA.push (.int (key (as[j]'(by omega))) t2), c2, ?_, f'.trans f2, rh2, pa'.2.1, pk.2.1, hc2, (s1.2 a hka.symm).trans pa'.1, by rw [ea, ek]; exact PyProof.Rows.ksk_snoc hk⟩
      exact I2.unpinned.turnedL (t' := s''.toks) (fp := [kS]) (fun b u hb e => (s1.2 b (fun z => hb (by simp [z]))).trans e) (fun b hb => by
        rw [List.mem_singleton.mp hb]
        exact ⟨pk.2.1, fk.2⟩)
  case done =>
    rintro s' ⟨H', kA, e, I', f', rh', na, nk, ok', oa', hk⟩
    rw [Nat.zero_add, l2, List.take_of_length_le (by rw [List.length_map]; omega)] at hk
    have kl : kA.toList.length = us.length := by rw [hk.length, List.length_map, l2]
    refine wpAny_bind (listItems_at ok' rfl ?_)
    unfold PyProof.Rows.ksk_end
    dsimp only
    rw [if_neg Bool.false_ne_true]
    have fin : ∀ (st : SortSt) (p : Array Nat), PermN as.length p → Srt (fun i => (as.map key).getD i 0) p as.length → (arrOf st).map (·.2) = sortAns us p → failedOf st = none → wpAny (model X.prog X.w) X.A.in1.in1 (PyProof.Rows.ksk_tail a false e1 (.ref kS) st) P E s' := by
      intro st p hp hs hout hf
      have hpz := hp.size
      have hsz : (sortAns us p).size = as.length := by unfold sortAns; rw [List.size_toArray, List.length_map, Array.length_toList, hpz]
      unfold PyProof.Rows.ksk_tail
      dsimp only
      rw [hout]
      have b1 := Heap.SameBut.update s'.heap kS (Obj.mapSeq fun _ => (#[] : Array Value))
      have kz : kA.size ≤ 64 := by rw [← Array.length_toList, kl]; omega
      refine wpAny_bind (listUpdate_at ok' rfl ?_ (by omega) (Nat.zero_le _))
      refine wpAny_bind (wpAny_letGo ?_)
      have oa2 : (s'.heap.update kS (Obj.mapSeq fun _ => (#[] : Array Value))).get? a = some (seqObj "list" #[] e1) := (b1.2 a hka.symm).trans oa'
      have b2 := Heap.SameBut.update (s'.heap.update kS (Obj.mapSeq fun _ => (#[] : Array Value))) a (Obj.mapSeq fun _ => sortAns us p)
      obtain ⟨c3, oa3⟩ : ∃ c3, ((s'.heap.update kS (Obj.mapSeq fun _ => (#[] : Array Value))).update a (Obj.mapSeq fun _ => sortAns us p)).get? a = some (seqObj "list" (sortAns us p) c3) := ⟨_, get?_update_seq oa2 _⟩
      refine wpAny_bind (seqEpoch_at oa2 rfl ?_)
      refine wpAny_bind (listUpdate_at oa2 rfl ?_ (Nat.zero_le _) (by simp only [Bool.false_eq_true, if_false]; omega))
      rw [hf]
      simp only [bne_self_eq_false, Bool.false_eq_true, if_false]
      refine wpAny_pure (h p H' _ hp hs rh' f' (rd.mono f') (fun xs' hz hv => ?_) na)
      exact I'.turnedAdopt (t' := s'.toks) (fp := [kS]) (fun b u hb hT e => (b2.2 b hT).trans ((b1.2 b (fun z => hb (by simp [z]))).trans e)) (fun b hb => by
        rw [List.mem_singleton.mp hb]
        exact ⟨nk, fk.2⟩) ⟨na, fa.2⟩ ⟨hz, (sortAns us p).toList, c3, hv, by simpa using oa3⟩
    have hsz : us.toArray.size = us.length := by simp
    have hzip : (kA.zip us.toArray) = (kA.toList.toArray.zip us.toArray) := by rw [Array.toArray_toList]
    by_cases h2 : us.toArray.size < 2
    · rw [if_pos h2, if_pos h2]
      refine wpAny_bind (wpAny_pure ?_)
      rw [StateT.run_pure]
      refine wpAny_bind (wpAny_pure ?_)
      dsimp only
      refine fin _ (List.range us.length).toArray (by rw [l2]; exact Array.Perm.refl _) (fun i j hij hj => by rw [show i = j by omega]; exact Int.le_refl _) ?_ rfl
      rw [sortAns_id]
      show (kA.zip us.toArray).map (·.2) = us.toArray
      apply Array.ext
      · simp [← Array.length_toList, kl]
      · intro i _ _; simp
    · rw [if_neg h2, if_neg h2]
      have hk2 : IntsAre kA.toList.toArray.toList (as.map key) := by simpa using hk
      have : keyKind' kA = keyKind' kA.toList.toArray := by rw [Array.toArray_toList]
      rw [this]
      refine wpAny_bind (ints_kind hk (by omega) ?_)
      rw [hzip]
      refine wpAny_bind (wpAny_mono (PySem.W.kat_run (ks := kA.toList) (vs := us) (Q := fun st' s2 => s2 = s' ∧ ∃ p : Array Nat, PermN us.length p ∧ Srt (fun i => (as.map key).getD i 0) p us.length ∧ arrOf st' = p.map (PySem.W.kas_item (kA.toList.toArray.zip us.toArray)) ∧ failedOf st' = none)
        (G := fun p s2 => s2 = s' ∧ PermN us.length p ∧ Srt (fun i => (as.map key).getD i 0) p us.length)
        kl (by omega) (by omega) (fun p st' s2 a1 a2 a3 a4 => ⟨a4.1, p, a4.2.1, a4.2.2, a2, a3⟩) (okS_wp (n := us.length) (lt := rlt fun i => (as.map key).getD i 0) (fun i j hi hj C hC => ints_ask hk i j (by omega) (by omega) C hC) _ (okS_mono (fun p z => ⟨rfl, z⟩) _ (ok_sort (by omega))))) ?_ fun _ _ e => e)
      rintro ⟨⟨⟩, st'⟩ s2 ⟨rfl, p, hp, hs, har, hf⟩
      dsimp only at *
      rw [l2] at hp hs
      exact fin st' p hp hs (PySem.W.kat_snds kl har) hf
end L2
namespace L2
open PySem PySem.Spec PyProof.Rows
theorem pick_sortedI {α : Type} {key : α → Int} {as : List α} {p : Array Nat} (hp : PermN as.length p) (hs : Srt (fun i => (as.map key).getD i 0) p as.length) :
    (∀ i ∈ p.toList, i < as.length) ∧ (p.toList.filterMap fun i => as[i]?).Perm as ∧ (p.toList.filterMap fun i => as[i]?).Pairwise (fun a b => key a ≤ key b) := by
  have hl : p.toList.Perm (List.range as.length) := by
    have := hp.toList
    simpa using this
  have hb : ∀ i ∈ p.toList, i < as.length := fun i hi => List.mem_range.mp (hl.mem_iff.mp hi)
  refine ⟨hb, ?_, ?_⟩
  · have := hl.filterMap (fun i => as[i]?)
    rw [pick_range] at this
    exact this
  · have hpw : p.toList.Pairwise fun i j => (as.map key).getD i 0 ≤ (as.map key).getD j 0 := by
      rw [List.pairwise_iff_getElem]
      intro i j hi hj hij
      have hz := hp.size
      have e : ∀ k (hk : k < p.toList.length), p.toList[k] = p.getD k 0 := fun k hk => by
        have : k < p.size := by simpa using hk
        simp [Array.getD, this]
      rw [e, e]
      exact hs i j (by omega) (by rw [Array.length_toList] at hj; omega)
    rw [List.pairwise_filterMap]
    refine hpw.imp_of_mem ?_
    intro i j hi hj hr a ea b eb
    rw [List.getD_eq_getElem?_getD, List.getD_eq_getElem?_getD, List.getElem?_map, List.getElem?_map, ea, eb] at hr
    exact hr
noncomputable def cSortedK (spf : SpD) : RDn := fun xs M Q => ∃ (α : Type) (enc : α → D) (key : α → Int) (as : List α) (d : D), xs = [d] ∧ listD d M = some (as.map enc) ∧ as.length < 64 ∧ (∀ x ∈ as, ∀ Q' : KD, Q' (.int (key x)) M → spf [enc x] M Q') ∧
  ∀ bs : List α, bs.Perm as → bs.Pairwise (fun a b => key a ≤ key b) → newL (bs.map enc) M Q
theorem rd_sortedK {spf : SpD} {α : Type} {enc : α → D} {key : α → Int} {as : List α} {d : D} {M : HpD} {Q : KD} (h : listD d M = some (as.map enc)) (h64 : as.length < 64) (hk : ∀ x ∈ as, ∀ Q' : KD, Q' (.int (key x)) M → spf [enc x] M Q')
    (q : ∀ bs : List α, bs.Perm as → bs.Pairwise (fun a b => key a ≤ key b) → newL (bs.map enc) M Q) : cSortedK spf [d] M Q := ⟨α, enc, key, as, d, rfl, h, h64, hk, q⟩
theorem call_sortedK {X : Cx} {pins : List (Addr × Obj)} {σ : St} {H : Hp} {s : Shared} {Q : VK} {fa : Addr} {spf : SpD} {xs : List V} {us : List Value} {F : Addr → Prop} {ds : List D} {M : HpD} {QD : KD} {G : Hp → Prop} (run : KeyRuns X pins σ (.ref fa) spf G) (hG : ∀ H', Fz M H M H' → G H') (I : Inv X pins σ H s) (rx : Vals xs us) (r : RepDs ⟨X.K, F⟩ H M ds xs) (rh : RepH ⟨X.K, F⟩ H M) (hq : cSortedK spf ds M QD) (pp : PostE ⟨X.K, F⟩ M H QD Q) :
    wpAny (model X.prog X.w) X.A (call (.builtin "sorted") us [(Str.ofString "key", .ref fa)]) (EP X pins σ Q) X.xe s := by
  obtain ⟨α, enc, key, as, d, rfl, hd, h64, hkey, q⟩ := hq
  obtain ⟨v, rfl, r1⟩ := rep1 r
  obtain ⟨l, ys, rfl, hs, rd⟩ := list_rep rh r1 hd
  obtain ⟨u, rfl, ru⟩ := vals1 rx
  cases ru
  obtain ⟨its, vi, pl, hz⟩ := I.list hs
  have lds : (as.map enc).length = as.length := List.length_map _
  have l1 : ys.length = as.length := by rw [← rd.length, lds]
  have l2 : its.length = as.length := by rw [← vi.length, l1]
  refine call_function_entry_kw kind_sorted plain_sorted entry_sorted (ksk_s1 _ _) ?_
  unfold Builtin.«sorted»
  refine wpAny_bind (m := checkCount "sorted" 1 1 _) (wpAny_pure ?_)
  refine wpAny_bind (collect_list pl.isList ?_ (by rw [sizeLine_eq]; omega))
  refine wpAny_bind (wpAny_newList ?_ (by rw [sizeLine_eq]; omega))
  have hsz : ((s.heap.push (seqObj "list" #[] 0)).update s.heap.objs.size (Obj.mapSeq (· ++ its.toArray))).objs.size = s.heap.objs.size + 1 := by
    rw [Heap.size_update, size_push']
  have hoL : (((s.heap.push (seqObj "list" #[] 0)).update s.heap.objs.size (Obj.mapSeq (· ++ its.toArray))).push (seqObj "list" its.toArray 0)).get? (s.heap.objs.size + 1) = some (seqObj "list" its.toArray 0) := by
    rw [← hsz]; exact Heap.get?_push_size _ rfl
  have keep : ∀ b o, s.heap.get? b = some o → (((s.heap.push (seqObj "list" #[] 0)).update s.heap.objs.size (Obj.mapSeq (· ++ its.toArray))).push (seqObj "list" its.toArray 0)).get? b = some o ∧ b ≠ s.heap.objs.size + 1 := fun b o q => by
    have hlt : b < s.heap.objs.size := Heap.lt_size q
    rw [Heap.get?_push_ne _ _ _ (by rw [hsz]; exact Nat.ne_of_lt (Nat.lt_succ_of_lt hlt)), Heap.get?_update_ne _ _ _ _ (Nat.ne_of_lt hlt), Heap.get?_push_ne _ _ _ (Nat.ne_of_lt hlt)]
    exact ⟨q, Nat.ne_of_lt (Nat.lt_succ_of_lt hlt)⟩
  show wpAny _ _ _ _ _ { s with heap := ((s.heap.push (seqObj "list" #[] 0)).update s.heap.objs.size (Obj.mapSeq (· ++ its.toArray))).push (seqObj "list" its.toArray 0) }
  rw [hsz]
  refine wpAny_bind (wpAny_holding (wpAny_call_entry_kw slot_list_sort ⟨_, hoL, rfl⟩ entry_list_sort ?body (ksk_l1 _ _)))
  case body =>
    show wpAny (model X.prog X.w) X.A.in1.in1 (Builtin.«list.sort» ⟨[.ref (s.heap.objs.size + 1)], [(Str.ofString "key", .ref fa)]⟩) _ _ _
    rw [ksk_t1]
    generalize hh0 : ((s.heap.push (seqObj "list" #[] 0)).update s.heap.objs.size (Obj.mapSeq (· ++ its.toArray))).push (seqObj "list" its.toArray 0) = h0 at *
    have hlt0 : s.heap.objs.size + 1 < h0.objs.size := Heap.lt_size hoL
    unfold ksk_tree
    refine wpAny_bind (listItems_at (s := { s with heap := h0 }) hoL rfl ?_)
    refine wpAny_bind (listUpdate_at (s := { s with heap := h0 }) hoL rfl ?_)
    obtain ⟨e1, ho1⟩ : ∃ e1, (h0.update (s.heap.objs.size + 1) (Obj.mapSeq fun _ => #[])).get? (s.heap.objs.size + 1) = some (seqObj "list" #[] e1) := ⟨_, get?_update_seq hoL (fun _ => #[])⟩
    refine wpAny_bind (seqEpoch_at (s := { s with heap := h0.update (s.heap.objs.size + 1) (Obj.mapSeq fun _ => #[]) }) ho1 rfl ?_)
    refine wpAny_bind (wpAny_newTuple ?_)
    refine wpAny_bind (wpAny_newList ?_)
    refine wpAny_holding ?_
    have hz2 : ((h0.update (s.heap.objs.size + 1) (Obj.mapSeq fun _ => #[])).push (seqObj "tuple" its.toArray 0)).objs.size = h0.objs.size + 1 := by rw [size_push', Heap.size_update]
    show wpAny (model X.prog X.w) X.A.in1.in1 (ksk_rest (s.heap.objs.size + 1) (.ref fa) false its.toArray e1 (.ref ((h0.update (s.heap.objs.size + 1) (Obj.mapSeq fun _ => #[])).push (seqObj "tuple" its.toArray 0)).objs.size)) _ _ { s with heap := ((h0.update (s.heap.objs.size + 1) (Obj.mapSeq fun _ => #[])).push (seqObj "tuple" its.toArray 0)).push (seqObj "list" #[] 0) }
    have I2 : Inv X pins σ H { s with heap := ((h0.update (s.heap.objs.size + 1) (Obj.mapSeq fun _ => #[])).push (seqObj "tuple" its.toArray 0)).push (seqObj "list" #[] 0) } := I.kept (t' := s.toks) fun b o e => Heap.get?_push_of_some _ (Heap.get?_push_of_some _ ((Heap.get?_update_ne _ _ _ _ (keep b o e).2).trans (keep b o e).1))
    refine ksk_rest_D (H := H) (M := M) (F := F) (enc := enc) (key := key) (as := as) (xs := ys) hG run I2 rh rd vi h64 hkey (I.fpOk (Nat.le_succ _) (I.hok.fresh (Nat.le_succ _))) (I.fpOk ?_ (I.hok.fresh ?_)) ?_ (Heap.get?_push_of_some _ (Heap.get?_push_of_some _ ho1)) (Heap.get?_push_size _ rfl) ?_
    · rw [hz2]; omega
    · rw [hz2]; omega
    · rw [hz2]; exact Nat.ne_of_gt (by omega)
    · intro p H' s' hp hs' rh' f' rd' mk na
      obtain ⟨hb, hperm, hpw⟩ := pick_sortedI hp hs'
      have rr : RepDs ⟨X.K, F⟩ H' M ((p.toList.filterMap fun i => as[i]?).map enc) (p.toList.filterMap fun i => ys[i]?) := by
        rw [← pick_map]
        exact pick_rep rd' _ fun i hi => by rw [lds]; exact hb i hi
      have rv := pick_vals vi p.toList fun i hi => by rw [l1]; exact hb i hi
      have nl := (q _ hperm hpw).post (pp.mono f') rh' rr
      refine ⟨_, rfl, wpAny_pure ⟨_, rfl, ?_⟩⟩
      exact ⟨.ref (s.heap.objs.size + 1), _, mk _ nl.1 (by unfold sortAns; simpa using rv), rfl, nl.2 _ na⟩
theorem keyRuns_fn {X : Cx} {pins : List (Addr × Obj)} {σ : St} {k : Nat} {x : Str} {spf : SpD} {f : Addr} {fd : FuncData} {ps : List Str} (F : FnOk X.prog X.w X.K X.mg X.base CX0 k f fd ps (LiftP X.K spf)) (hr : Room (k + 1) X.A) (hb : Binds X.K fd ps []) : KeyRuns X pins σ (.ref f) spf (fun _ => True) := by
  intro pins' s' H' xs us Qk hp _ I rv h
  have hl : (us ++ []).length = ps.length := by rw [List.append_nil, ← rv.length]; exact F.len _ _ _ _ h
  have hl' : us.length = ps.length := by rw [← hl, List.append_nil]
  have room : Room k X.A.in1.in1 := ⟨hr.hd, by have := hr.dp; show X.A.depth + 3 * k + 5 < _; omega, by have := hr.un; show X.A.units + 1 + 1 + 16 * k + 200 < _; omega⟩
  have bd := hb s' us I.kIn hl
  rw [List.append_nil] at bd
  refine wpAny_call (codeAny_mono (F.run X.A.in1.in1 X.stack s' H' ⟨us, []⟩ us xs Qk E0 room I.env0.in1.in1 bd rv h) fun r s2 hq => ?_)
  cases r with
  | error e => exact False.elim hq
  | ok fl =>
    cases fl with
    | ret u => exact I.after hq
    | next => exact False.elim hq
    | brk => exact False.elim hq
    | cont => exact False.elim hq
section
variable {X : Cx} {e : Expr} {te : TDE} {p pos kpos kp : Pos} {fn : Str} {k : Nat} {spf : SpD}
theorem ed_sortedK (hc : Cal X.prog X.w X.K X.mg X.base fn k spf) (hr : Room (k + 1) X.A) (hg : Gl X "sorted") (hm : X.mg "sorted" = none) (hgf : Gl X fn) (he : ED X e te) (hdb : (fn == ("__debug__" : Str)) = false := by decide)
    (hst : starEach [e] X.env = [(false, eval e X.env)] := by rfl) : ED X (.Call (.Name "sorted" p) [e] [⟨some "key", .Name fn kp, kpos⟩] pos) (tCallD (cSortedK spf) (tConsD te tNilD)) := by
  obtain ⟨f, fd, ps, F, hmf, hk, hb⟩ := hc
  intro pins s σ H Q I h
  obtain ⟨F0, σD, M, QD, rel, h, pp⟩ := h
  unfold tCallD tConsD at h
  refine wpAny_Call_Name_kw (ld_blt I hg hm boot_sorted ?_)
  have ha : PA X [e] (tCons (LiftE X.K te) tNil) := pa_cons he pa_nil (by rw [hst]; rfl)
  have hkk : PK X [⟨some "key", .Name fn kp, kpos⟩] (tCons (tC (.ref f)) tNil) := pk_cons (pe_glob hgf hmf rfl hdb) pk_nil
  refine callWith_kw ?_ (by rw [hst]; rfl) (by rw [hst]; rfl)
  refine thn (ha pos pins s σ H (fun vs H1 => LiftC X.K (cSortedK spf) vs H1 Q) I ?_) fun us s1 hz => ?_
  · refine lE rel h fun d M1 v H1 f1 rel1 r1 h1 => ?_
    unfold tNilD at h1
    show LiftC X.K (cSortedK spf) [v] H1 Q
    exact ⟨F0, [d], M1, QD, .cons r1 .nil, rel1.hp, h1, pp.mono f1⟩
  · obtain ⟨vs, H1, I1, r1, q1⟩ := hz
    refine thn (hkk pos pins s1 σ H1 (fun zs H2 => zs = [.ref f] ∧ H2 = H1) I1 ⟨rfl, rfl⟩) fun ws s2 hz2 => ?_
    obtain ⟨zs, H2, I2, r2, rfl, rfl⟩ := hz2
    obtain ⟨w', rfl, rw'⟩ := vals1 r2
    cases rw'
    obtain ⟨F1, ds, M1, QD1, r, rh, hq, pp⟩ := q1
    exact call_sortedK (keyRuns_fn (x := fn) F hr hb) (fun _ _ => trivial) I2 r1 r rh hq pp
end
end L2
namespace L2
open PySem PySem.Spec PyProof.Rows
noncomputable def keyD : Key → D
  | .inl i => .int i
  | .inr x => .str x
theorem key_rep {K : KF} {H : Hp} {M : HpD} {k : Key} {v : V} (r : RepD K H M (keyD k) v) : v = kV k := by
  cases k <;> (unfold keyD RepD at r; exact r)
noncomputable def valK {β : Type} (kvs : List (Key × β)) (k : Key) : Option β := (kvs.find? fun kv => decide (kv.1 = k)).map (·.2)
noncomputable def putD {β : Type} (kvs : List (Key × β)) (k : Key) (v : β) : List (Key × β) :=
  if (kvs.any fun kv => decide (kv.1 = k)) = true then kvs.map (fun kv => if kv.1 = k then (kv.1, v) else kv) else kvs ++ [(k, v)]
theorem valK_pos {β : Type} {p : Key × β} {r : List (Key × β)} {k : Key} (e : p.1 = k) : valK (p :: r) k = some p.2 := by simp [valK, List.find?_cons, e]
theorem valK_neg {β : Type} {p : Key × β} {r : List (Key × β)} {k : Key} (e : ¬ p.1 = k) : valK (p :: r) k = valK r k := by simp [valK, List.find?_cons, e]
structure RepKV (K : KF) (H : Hp) (M : HpD) (kvs : List (Key × D)) (vs : List (Key × V)) : Prop where
  keys : vs.map (·.1) = kvs.map (·.1)
  vals : RepDs K H M (kvs.map (·.2)) (vs.map (·.2))
section
variable {K : KF} {H : Hp} {M : HpD}
theorem RepKV.cons_inv {p : Key × D} {kvs : List (Key × D)} {vs : List (Key × V)} (h : RepKV K H M (p :: kvs) vs) : ∃ q r, vs = q :: r ∧ q.1 = p.1 ∧ RepD K H M p.2 q.2 ∧ RepKV K H M kvs r := by
  obtain ⟨k, v⟩ := h
  cases vs with
  | nil => simp at k
  | cons q r =>
    simp only [List.map_cons, List.cons.injEq] at k
    rw [List.map_cons, List.map_cons] at v
    unfold RepDs at v
    obtain ⟨x, xr, e, r1, r2⟩ := v
    cases e
    exact ⟨q, r, rfl, k.1, r1, k.2, r2⟩
theorem RepKV.len {kvs : List (Key × D)} {vs : List (Key × V)} (h : RepKV K H M kvs vs) : kvs.length = vs.length := by
  have := congrArg List.length h.keys
  simpa using this.symm
theorem RepKV.val {k : Key} : ∀ {kvs : List (Key × D)} {vs : List (Key × V)}, RepKV K H M kvs vs → (valK kvs k = none ∧ valV vs k = none) ∨ ∃ d v, valK kvs k = some d ∧ valV vs k = some v ∧ RepD K H M d v
  | [], vs, h => by
    have : vs = [] := List.length_eq_zero_iff.mp h.len.symm
    subst this
    exact .inl ⟨rfl, rfl⟩
  | p :: kvs, vs, h => by
    obtain ⟨q, r, rfl, e, r1, h2⟩ := h.cons_inv
    by_cases z : p.1 = k
    · exact .inr ⟨p.2, q.2, valK_pos z, valV_pos (by rw [e]; exact z), r1⟩
    · rw [valK_neg z, valV_neg (by rw [e]; exact z)]
      exact RepKV.val h2
theorem RepKV.any {k : Key} {kvs : List (Key × D)} {vs : List (Key × V)} (h : RepKV K H M kvs vs) : (vs.any fun kv => decide (kv.1 = k)) = kvs.any fun kv => decide (kv.1 = k) := by
  have e : ∀ {β : Type} (l : List (Key × β)), (l.any fun kv => decide (kv.1 = k)) = (l.map (·.1)).any fun x => decide (x = k) := fun l => by rw [List.any_map]; rfl
  rw [e, e, h.keys]
theorem RepKV.put {k : Key} {d : D} {v : V} (rv : RepD K H M d v) {kvs : List (Key × D)} {vs : List (Key × V)} (h : RepKV K H M kvs vs) : RepKV K H M (putD kvs k d) (putK vs k v) := by
  unfold putD putK
  rw [h.any]
  by_cases z : (kvs.any fun kv => decide (kv.1 = k)) = true
  · rw [if_pos z, if_pos z]
    clear z
    have go : ∀ {kvs : List (Key × D)} {vs : List (Key × V)}, RepKV K H M kvs vs → RepKV K H M (kvs.map fun kv => if kv.1 = k then (kv.1, d) else kv) (vs.map fun kv => if kv.1 = k then (kv.1, v) else kv) := by
      intro kvs
      induction kvs with
      | nil =>
        intro vs h
        have : vs = [] := List.length_eq_zero_iff.mp h.len.symm
        subst this
        exact ⟨rfl, .nil⟩
      | cons p kvs ih =>
        intro vs h
        obtain ⟨q, r, rfl, e, r1, h2⟩ := h.cons_inv
        obtain ⟨i1, i2⟩ := ih h2
        rw [List.map_cons, List.map_cons]
        by_cases z : p.1 = k
        · rw [if_pos z, if_pos (by rw [e]; exact z)]
          exact ⟨by simp only [List.map_cons]; rw [i1, e], .cons rv i2⟩
        · rw [if_neg z, if_neg (by rw [e]; exact z)]
          exact ⟨by simp only [List.map_cons]; rw [i1, e], .cons r1 i2⟩
    exact go h
  · rw [if_neg z, if_neg z]
    exact ⟨by rw [List.map_append, List.map_append, h.keys]; rfl, by rw [List.map_append, List.map_append]; exact h.vals.append (.cons rv .nil)⟩
theorem RepKV.mono {M' : HpD} {H' : Hp} {kvs : List (Key × D)} {vs : List (Key × V)} (f : Fz M H M' H') (h : RepKV K H M kvs vs) : RepKV K H' M' kvs vs := ⟨h.keys, h.vals.mono f⟩
end
noncomputable def dictD : D → HpD → Option (List (Key × D))
  | .ref p, M => match M p with | some (.dct kvs) => some kvs | _ => none
  | _, _ => none
theorem dict_ref {p : Addr} {M : HpD} {kvs : List (Key × D)} (h : M p = some (.dct kvs)) : dictD (.ref p) M = some kvs := by simp only [dictD, h]
theorem dict_rep {K : KF} {H : Hp} {M : HpD} {d : D} {v : V} {kvs : List (Key × D)} (rh : RepH K H M) (r : RepD K H M d v) (e : dictD d M = some kvs) : ∃ p vs, d = .ref p ∧ M p = some (.dct kvs) ∧ v = .ref p ∧ H p = some (.dK vs) ∧ RepKV K H M kvs vs := by
  cases d with
  | ref p =>
    cases q : M p with
    | none => simp only [dictD, q] at e; cases e
    | some o =>
      cases o with
      | lst l => simp only [dictD, q] at e; cases e
      | tab _ => simp only [dictD, q] at e; cases e
      | dct l =>
        simp only [dictD, q] at e; cases e
        obtain ⟨o', e', vs, rfl, k, r2⟩ := rh.at_ p _ q
        unfold RepD at r
        exact ⟨p, vs, rfl, q, r, e', k, r2⟩
  | _ => cases e
section
variable {X : Cx} {o i : Expr} {td ty tv : TDE} {pos pos' : Pos} {k : Nat}
@[irreducible] noncomputable def tDInD (neg : Bool) (ty td : TDE) : TDE := fun σ M Q => ty σ M fun y M1 => td σ M1 fun x M2 => ∃ kvs k, dictD x M2 = some kvs ∧ y = keyD k ∧ Q (.bl (neg ^^ (valK kvs k).isSome)) M2
theorem rd_din {neg : Bool} {σ : SD} {M : HpD} {Q : KD} (h : ty σ M fun y M1 => td σ M1 fun x M2 => ∃ kvs k, dictD x M2 = some kvs ∧ y = keyD k ∧ Q (.bl (neg ^^ (valK kvs k).isSome)) M2) : tDInD neg ty td σ M Q := by unfold tDInD; exact h
theorem lift_din {K : PySem.W.Frag} {neg : Bool} {σ : St} {H : Hp} {Q : VK} (h : LiftE K (tDInD neg ty td) σ H Q) : LiftE K ty σ H fun y H1 => LiftE K td σ H1 fun x H2 => ∃ a ov, x = .ref a ∧ DGet H2 a y ov ∧ Q (.bl (neg ^^ ov.isSome)) H2 := by
  obtain ⟨F, σD, M, QD, rel, h, p⟩ := h
  unfold tDInD at h
  refine lE rel h fun y M1 vy H1 f1 rel1 r1 h1 => ?_
  refine lE rel1 h1 fun x M2 vx H2 f2 rel2 r2 h2 => ?_
  obtain ⟨kvs, k, hd, rfl, q⟩ := h2
  obtain ⟨a, vs, rfl, ha, rfl, hH, kv⟩ := dict_rep rel2.hp r2 hd
  have := key_rep r1
  subst this
  refine ⟨a, valV vs k, rfl, .k hH, ?_⟩
  have e : (valV vs k).isSome = (valK kvs k).isSome := by
    rcases kv.val (k := k) with ⟨e1, e2⟩ | ⟨d, v, e1, e2, _⟩ <;> rw [e1, e2] <;> rfl
  rw [e]
  exact p _ _ _ _ (f1.trans f2) rel2.hp (by unfold RepD; rfl) q
theorem pcd_din (hr : Room k X.A) (hi : ED X i ty) (ho : ED X o td) : PC X .In i o (LiftE X.K (tDInD false ty td)) := fun pins s σ H Q I h => by
  refine pc_din (by have := hr.un; omega) hi ho pins s σ H Q I ?_
  have := lift_din h
  simp only [Bool.false_xor] at this
  exact this
theorem pcd_dnotin (hr : Room k X.A) (hi : ED X i ty) (ho : ED X o td) : PC X .NotIn i o (LiftE X.K (tDInD true ty td)) := fun pins s σ H Q I h => by
  refine pc_dnotin (by have := hr.un; omega) hi ho pins s σ H Q I ?_
  have := lift_din h
  simp only [Bool.true_xor] at this
  exact this
theorem lift_dtest {K : PySem.W.Frag} {t : TDE} {σ : St} {H : Hp} {Q : Bool → Hp → Prop} (h : LiftT K (tTestD t) σ H Q) : tB (LiftE K t) σ H Q := by
  obtain ⟨F, σD, M, QD, rel, h, p⟩ := h
  unfold tTestD at h
  refine lE rel h fun d M1 v H1 f1 rel1 r1 h1 => ?_
  obtain ⟨b, rfl, q⟩ := h1
  unfold RepD at r1
  exact ⟨b, r1, p _ _ _ f1 rel1.hp q⟩
theorem td_dnotin (hr : Room k X.A) (hi : ED X i ty) (ho : ED X o td) (hm : behindInMarks .NotIn o = false := by rfl) : TD X (.Compare i [.NotIn] [o] pos) (tTestD (tDInD true ty td)) := (pt_cmp (pcd_dnotin hr hi ho) hm).wk fun _ _ _ h => lift_dtest h
@[irreducible] noncomputable def tDGetD (td ty : TDE) : TDE := fun σ M Q => td σ M fun x M1 => ty σ M1 fun y M2 => ∃ kvs k d, dictD x M2 = some kvs ∧ y = keyD k ∧ valK kvs k = some d ∧ Q d M2
theorem rd_dget {σ : SD} {M : HpD} {Q : KD} (h : td σ M fun x M1 => ty σ M1 fun y M2 => ∃ kvs k d, dictD x M2 = some kvs ∧ y = keyD k ∧ valK kvs k = some d ∧ Q d M2) : tDGetD td ty σ M Q := by unfold tDGetD; exact h
theorem ed_dget (hr : Room k X.A) (ho : ED X o td) (hi : ED X i ty) (hs : NoSl i := by exact fun _ _ => rfl) : ED X (.Subscript o i pos) (tDGetD td ty) := by
  refine (pe_dget (by have := hr.un; omega) ho hi hs).wk fun σ H Q h => ?_
  obtain ⟨F, σD, M, QD, rel, h, p⟩ := h
  unfold tDGetD at h
  refine lE rel h fun x M1 vx H1 f1 rel1 r1 h1 => ?_
  refine lE rel1 h1 fun y M2 vy H2 f2 rel2 r2 h2 => ?_
  obtain ⟨kvs, k, d, hd, rfl, hv, q⟩ := h2
  obtain ⟨a, vs, rfl, ha, rfl, hH, kv⟩ := dict_rep rel2.hp (r1.mono f2) hd
  have := key_rep r2
  subst this
  rcases kv.val (k := k) with ⟨e1, e2⟩ | ⟨d', v, e1, e2, rv⟩
  · rw [hv] at e1; cases e1
  · rw [hv] at e1; cases e1
    exact ⟨a, v, rfl, e2 ▸ DGet.k hH, p _ _ _ _ (f1.trans f2) rel2.hp rv q⟩
end
@[irreducible] noncomputable def tCompDcD (n : Nat) (tI : TGI) (g : TDG) (tc : TDT) (tk te : TDE) : TDE := fun σ M Q => tI σ M fun ds Gd M1 => ds.length ≤ sizeLine ∧ ∃ Pv : Nat → List (Key × D) → SD → HpD → Prop, Pv 0 [] (List.replicate n none ++ σ) M1 ∧ (∀ i ys σ M, Pv i ys σ M → Gd M) ∧
  (∀ i d ys σ M, ds[i]? = some d → Pv i ys σ M → g d σ M fun σ2 M2 => tc σ2 M2 fun b M3 => if b = true then tk σ2 M3 fun x M4 => te σ2 M4 fun y M5 => ∃ k, x = keyD k ∧ Pv (i + 1) (putD ys k y) σ2 M5 else Pv (i + 1) ys σ2 M3) ∧ ∀ ys σ M, Pv ds.length ys σ M → ∀ p, M p = none → Q (.ref p) (updD M p (.dct ys))
theorem rd_compDc {n : Nat} {tI : TGI} {g : TDG} {tc : TDT} {tk te : TDE} {σ : SD} {M : HpD} {Q : KD} (h : tI σ M fun ds Gd M1 => ds.length ≤ sizeLine ∧ ∃ Pv : Nat → List (Key × D) → SD → HpD → Prop, Pv 0 [] (List.replicate n none ++ σ) M1 ∧ (∀ i ys σ M, Pv i ys σ M → Gd M) ∧
  (∀ i d ys σ M, ds[i]? = some d → Pv i ys σ M → g d σ M fun σ2 M2 => tc σ2 M2 fun b M3 => if b = true then tk σ2 M3 fun x M4 => te σ2 M4 fun y M5 => ∃ k, x = keyD k ∧ Pv (i + 1) (putD ys k y) σ2 M5 else Pv (i + 1) ys σ2 M3) ∧ ∀ ys σ M, Pv ds.length ys σ M → ∀ p, M p = none → Q (.ref p) (updD M p (.dct ys))) : tCompDcD n tI g tc tk te σ M Q := by unfold tCompDcD; exact h
section
variable {X : Cx} {tg iter kex elt : Expr} {ifs : List Expr} {scope : Scope} {body : List Stmt} {tI : TGI} {g : TDG} {tb : TSD} {tc : TDT} {tk te : TDE} {ts rest : List Str} {pos : Pos}
theorem lift_compDc {K : PySem.W.Frag} {n : Nat} {σ : St} {H : Hp} {Q : VK} (h : LiftE K (tCompDcD n tI g tc tk te) σ H Q) : tCompDc n (LiftIG K tI) (LiftG K g) (LiftT K tc) (LiftE K tk) (LiftE K te) σ H Q := by
  obtain ⟨F, σD, M, QD, rel, h, p⟩ := h
  unfold tCompDcD at h
  refine ⟨F, σD, M, _, rel, h, fun ds Gd M1 H1 J f1 rh1 y h1 => ?_⟩
  intro D' hD
  obtain ⟨hsz, Pv, p0, gd, step, done⟩ := h1
  have mD := rh1.free hD
  have fF : ∀ a, (F a ∨ a = D') → F a ∨ H1 a = none := fun a z => z.elim .inl fun e => .inr (e ▸ hD)
  have rel1 := rel.mono f1 rh1
  -- the start: D' is forbidden
  have relS : Rel ⟨K, fun a => F a ∨ a = D'⟩ (List.replicate n none ++ σD) M1 (List.replicate n none ++ σ) (upd H1 D' (.dK [])) := by
    have r1 : Rel ⟨K, F⟩ (List.replicate n none ++ σD) M1 (List.replicate n none ++ σ) H1 := rel1.pad n
    refine ⟨r1.len, fun i d e => ?_, ⟨fun a o e => ?_, fun a z => ?_⟩⟩
    · obtain ⟨v, e1, e2⟩ := r1.st i d e
      exact ⟨v, e1, (e2.more fF).mono (fz_new hD)⟩
    · obtain ⟨o', e', r⟩ := rh1.at_ a o e
      exact ⟨o', by rw [upd_ne (ne_of_none e' hD)]; exact e', (r.more fF).mono (fz_new hD)⟩
    · rcases z with z | rfl
      · obtain ⟨⟨o', e'⟩, m'⟩ := rh1.fb a z
        exact ⟨⟨o', by rw [upd_ne (ne_of_none e' hD)]; exact e'⟩, m'⟩
      · exact ⟨⟨_, upd_same⟩, mD⟩
  refine ⟨fun i m ys σ' H' => m = ds.length - i ∧ i ≤ ds.length ∧ ys.length ≤ i ∧ H' D' = some (.dK ys) ∧ ∃ σD' M' ysD, Rel ⟨K, fun a => F a ∨ a = D'⟩ σD' M' σ' H' ∧ Fz M1 H1 M' H' ∧ RepKV ⟨K, fun a => F a ∨ a = D'⟩ H' M' ysD ys ∧ Pv i ysD σD' M',
    ⟨ds.length, by simp, Nat.zero_le _, Nat.zero_le _, upd_same, _, M1, [], relS, fz_new hD, ⟨rfl, .nil⟩, p0⟩, ?_⟩
  rintro i m ys σ' H' ⟨rfl, hi, hyl, eD, σD', M', ysD, rel', f', ry, pv⟩
  have mD' : M' D' = none := (rel'.hp.fb D' (.inr rfl)).2
  by_cases hlt : i < ds.length
  · have e : ds[i]? = some ds[i] := List.getElem?_eq_getElem hlt
    obtain ⟨go, yl⟩ := (y _ i M' H' fF f' rel'.hp (gd _ _ _ _ pv)).1 _ e
    refine .inr ⟨go, fun x H2 yy => ?_⟩
    obtain ⟨fy, rhy, rx⟩ := yl x H2 yy
    have eD2 := (fy D' _ eD mD').1
    refine ⟨_, ds[i], σD', M', _, rel'.mono fy rhy, rx, step i _ ysD σD' M' e pv, fun σD3 M3 σ3 H3 f3 rel3 h3 => ?_⟩
    refine lT rel3 h3 fun b M4 H4 f4 rel4 h4 => ?_
    have f14 : Fz M1 H1 M4 H4 := ((f'.trans fy).trans f3).trans f4
    have fD4 : Fz M' H' M4 H4 := (fy.trans f3).trans f4
    cases b with
    | false =>
      simp only [Bool.false_eq_true, if_false] at h4 ⊢
      exact ⟨ds.length - (i + 1), by omega, rfl, hlt, by omega, (fD4 D' _ eD mD').1, σD3, M4, ysD, rel4, f14, ry.mono fD4, h4⟩
    | true =>
      simp only [if_true] at h4 ⊢
      refine lE rel4 h4 fun kd M45 kv H45 f45 rel45 r45 h45 => ?_
      refine lE rel45 h45 fun yd M5 v H5 f5 rel5 r5 h5 => ?_
      obtain ⟨k, rfl, h5⟩ := h5
      have ek := key_rep r45
      subst ek
      have fD5 := (fD4.trans f45).trans f5
      obtain ⟨eD5, mD5⟩ := fD5 D' _ eD mD'
      have hF : (KF.mk K fun a => F a ∨ a = D').F D' := .inr rfl
      have lp := length_putK ys k v
      have rk := (ry.mono fD5).put (k := k) r5
      refine ⟨k, rfl, eD5, by omega, ds.length - (i + 1), by omega, rfl, hlt, by omega, upd_same, σD3, M5, putD ysD k yd, rel5.past hF, fun a o q z => ?_, ⟨rk.keys, rk.vals.past hF⟩, h5⟩
      obtain ⟨q1, q2⟩ := ((f14.trans f45).trans f5) a o q z
      exact ⟨by rw [upd_ne (ne_of_none q hD)]; exact q1, q2⟩
  · have e : i = ds.length := by omega
    subst e
    refine .inl ⟨(y _ _ M' H' fF f' rel'.hp (gd _ _ _ _ pv)).2 (Nat.le_refl _), eD, ?_⟩
    -- the end: D' is told
    have fL : ∀ a, F a → (F a ∨ a = D') ∨ H' a = none := fun a z => .inl (.inl z)
    have rhE : RepH ⟨K, F⟩ H' M' := ⟨fun a o q => by
      obtain ⟨o', e', r⟩ := rel'.hp.at_ a o q
      exact ⟨o', e', r.more fL⟩, fun a z => rel'.hp.fb a (.inl z)⟩
    have hn := done ysD σD' M' pv
    have nf : ¬ F D' := rh1.nf hD
    refine p _ (updD M' D' (.dct ysD)) _ H' (f1.trans fun a o q z => ?_) ⟨fun a o q => ?_, fun a z => ⟨(rhE.fb a z).1, ?_⟩⟩ (by unfold RepD; rfl) (hn D' mD')
    · obtain ⟨q1, q2⟩ := f' a o q z
      exact ⟨q1, by rw [updD_ne (ne_of_none q hD)]; exact q2⟩
    · by_cases qa : a = D'
      · rw [qa, updD_same] at q; cases q
        rw [qa]
        refine ⟨_, eD, ys, rfl, ry.keys, ?_⟩
        exact RepDs.own (F' := fun a => F a ∨ a = D') (.inr rfl) fL ry.vals
      · rw [updD_ne qa] at q
        obtain ⟨o', e', r⟩ := rel'.hp.at_ a o q
        exact ⟨o', e', RepO.own (F' := fun a => F a ∨ a = D') (.inr rfl) fL r⟩
    · rw [updD_ne (fun (z' : a = D') => nf (by rw [← z']; exact z))]; exact (rhE.fb a z).2
theorem sd_compDc (i : Nat) {x : Str} {pos' spos : Pos} (S : CompScope X scope ts rest) (hi : IDG X tg iter tI)
    (hg : ∀ fp s H, GD (compCx X scope ts rest fp s H) tg g) (ht : ∀ fp s H, FD (compCx X scope ts rest fp s H) ifs tc) (hk0 : ∀ fp s H, ED (compCx X scope ts rest fp s H) kex tk) (he : ∀ fp s H, ED (compCx X scope ts rest fp s H) elt te)
    (hN : X.N.Nodup) (hx : X.N[i]? = some x) (hl : Loc X.env.scope x) (hc : X.calm = true := by rfl)
    (hsw : swapsWith (.DictComp kex elt [⟨tg, iter, ifs, 0⟩] scope pos) (some (.Name x pos')) spos.line X.env = pure true := by rfl)
    (hs : ∀ x, foldedSetIterable iter X.env x = pure x := by intro _; rfl) (hf : X.fn x = true ∨ X.env.scope.names.lookup x = some .local := by first | exact .inl rfl | exact .inr rfl | assumption) :
    StD X (.Assign [.Name x pos'] (.DictComp kex elt [⟨tg, iter, ifs, 0⟩] scope pos) spos) (tAsgD (tCompDcD ts.length tI g tc tk te) (gNameD i)) := by
  refine (ps_set_compDc (g := LiftG X.K g) (tc := LiftT X.K tc) (tk := LiftE X.K tk) (te := LiftE X.K te) hc S hi hg ht hk0 he hN hx hl hsw hs hf).wk fun D' σ H w1_ => w1_.elim fun F z_ => z_.elim fun σD z_ => z_.elim fun M z_ => z_.elim fun DD z_ => z_.elim fun rel z_ => z_.elim fun h p => ?_
  unfold tAsgD at h
  refine lift_compDc ⟨F, σD, M, _, rel, h, fun d M1 v H1 f1 rh1 r1 h1 => ?_⟩
  unfold gNameD at h1
  exact (p.mono f1).nx _ M1 _ H1 .refl ((rel.mono f1 rh1).set i r1) h1
end
end L2
namespace L2
open PySem PySem.Spec PyProof.Rows
section
variable {prog : Program} {w : World} {A : Around} {E : Value → Shared → Prop} {s : Shared}
theorem wpAny_alive {M : Model} {a : Addr} {o : Obj} {Q : Option Obj → Shared → Prop} (h : s.heap.get? a = some o) (q : Q (some o) s) : wpAny M A (loadIfAlive a) Q E s := fun Γ p hΓ => by
  show Sem.wp M Γ (.loadIfAlive a .pure) _ _ p s
  rw [Sem.wp_loadIfAlive, h]
  exact (wpAny_pure (M := M) (A := A) (E := E) q) Γ p hΓ
noncomputable abbrev IsZipA (h : Heap) (z TI TO T : Addr) (fl : Bool) : Prop :=
  h.get? z = some { cls := .type "zip", dict := none, data := .fields #[rawInt T, .bool fl, .bool false, .ref TI, .ref TO], slots := #[] }
theorem zipA_free {z TI TO T : Addr} {fl : Bool} {o : Obj} {Q : Bool → Shared → Prop} (hz : IsZipA s.heap z TI TO T fl) (hT : s.heap.get? T = some o)
    (hQ : ∀ h', IsZipA h' z TI TO T true → Heap.SameBut z s.heap h' → Q false { s with heap := h' }) : wpAny (model prog w) A (Builtin.SmallTypes.ownedTupleIsFree (.ref z)) Q E s := by
  unfold Builtin.SmallTypes.ownedTupleIsFree
  refine wpAny_bind (wpAny_field hz rfl (x := rawInt T) rfl ?_)
  show wpAny _ _ (loadIfAlive ((T : Int)).toNat >>= _) _ _ s
  rw [Int.toNat_natCast]
  refine wpAny_bind (wpAny_alive hT ?_)
  simp only [Option.isNone_some, Bool.false_eq_true, if_false]
  refine wpAny_bind (wpAny_field hz rfl (x := .bool fl) rfl ?_)
  cases fl with
  | true =>
    rw [if_neg (by decide)]
    exact wpAny_pure (hQ _ hz (Heap.SameBut.refl _ _))
  | false =>
    rw [if_pos (by decide)]
    refine wpAny_bind (wpAny_setField_rec hz (by simp) fun h' hz' hs' => wpAny_pure (hQ h' hz' hs'))
theorem zipA_item {z TI TO i1 i2 l1 l2 T : Addr} {fl : Bool} {o : Obj} {k1 k2 : Nat} {xs ys : Array Value} {x y a b : Value} {Q : Value → Shared → Prop} (D : ZipApart z TI TO i1 i2 l1 l2)
    (hz : IsZipA s.heap z TI TO T fl) (hT : s.heap.get? T = some o) (hTI : IsPair s.heap TI (.ref i1) (.ref i2))
    (h1 : s.heap.IsListIter i1 l1 k1) (h2 : s.heap.IsListIter i2 l2 k2) (hl1 : s.heap.IsList l1 xs) (hl2 : s.heap.IsList l2 ys) (hx : xs[k1]? = some x) (hy : ys[k2]? = some y)
    (hQ : ∀ h', IsZipA h' z TI TO T true → h'.IsListIter i1 l1 (k1 + 1) → h'.IsListIter i2 l2 (k2 + 1) → IsPair h' s.heap.objs.size x y → h'.objs.size = s.heap.objs.size + 1 →
      (∀ c o, c ≠ z → c ≠ i1 → c ≠ i2 → s.heap.get? c = some o → h'.get? c = some o) → Q (.ref s.heap.objs.size) { s with heap := h' }) :
    wpAny (model prog w) A (Builtin.«zip.__next__» ⟨[.ref z], []⟩) (fun fin s' => ∃ v, fin = .done (.ret v) ∧ Q v s') E s := by
  show wpAny _ _ (field (.ref z) 2 >>= _) _ _ _
  refine wpAny_bind (wpAny_field hz rfl (x := .bool false) rfl ?_)
  show wpAny _ _ (field (.ref z) 3 >>= _) _ _ _
  refine wpAny_bind (wpAny_field hz rfl (x := .ref TI) rfl ?_)
  refine wpAny_bind (wpAny_seqItems hTI rfl ?_)
  show wpAny _ _ (Builtin.SmallTypes.ownedTupleIsFree (.ref z) >>= _) _ _ _
  refine wpAny_bind (zipA_free hz hT fun h₁ hz₁ hs₁ => ?_)
  simp only [Bool.false_eq_true, if_false]
  refine wpAny_bind ?_
  rw [← Array.forIn_toList]
  show wpAny _ _ (forIn [Value.ref i1, Value.ref i2] _ _) _ _ _
  simp only [List.forIn_cons, List.forIn_nil]
  refine wpAny_bind (wpAny_bind (wpAny_holding ?_))
  show wpAny _ _ (Builtin.SmallTypes.nextOf (.ref i1) >>= _) _ _ _
  refine wpAny_bind (wpAny_nextOf_list_item (h1.extBut hs₁.extBut D.i1z) (hl1.extBut hs₁.extBut D.l1z) hx fun h₂ h1₂ hs₂ => wpAny_pure ?_)
  refine wpAny_pure ?_
  refine wpAny_bind (wpAny_bind (wpAny_holding ?_))
  show wpAny _ _ (Builtin.SmallTypes.nextOf (.ref i2) >>= _) _ _ _
  refine wpAny_bind (wpAny_nextOf_list_item ((h2.extBut hs₁.extBut D.i2z).extBut hs₂.extBut D.i12.symm) ((hl2.extBut hs₁.extBut D.l2z).extBut hs₂.extBut D.l2i1) hy fun h₃ h2₃ hs₃ => wpAny_pure ?_)
  refine wpAny_pure (wpAny_pure ?_)
  refine wpAny_bind (wpAny_newTuple ?_ (by show 2 ≤ sizeLine; decide))
  have hsz : h₃.objs.size = s.heap.objs.size := by rw [hs₃.1, hs₂.1, hs₁.1]
  have hz₃ : IsZipA h₃ z TI TO T true := hs₃.extBut _ _ D.i2z.symm (hs₂.extBut _ _ D.i1z.symm hz₁)
  refine wpAny_pure ⟨_, rfl, ?_⟩
  show Q (.ref h₃.objs.size) { s with heap := h₃.push { cls := .type "tuple", data := .seq #[x, y] } }
  have hp : IsPair (h₃.push { cls := .type "tuple", data := .seq #[x, y] }) h₃.objs.size x y := Heap.get?_push_size _ rfl
  rw [hsz] at hp ⊢
  exact hQ _ (Heap.get?_push_of_some _ hz₃) ((h1₂.extBut hs₃.extBut D.i12).at fun o e => Heap.get?_push_of_some _ e) (h2₃.at fun o e => Heap.get?_push_of_some _ e) hp (by rw [Heap.size_push, hsz]) fun c o c1 c3 c4 e => Heap.get?_push_of_some _ (hs₃.extBut _ _ c4 (hs₂.extBut _ _ c3 (hs₁.extBut _ _ c1 e)))
theorem zipA_end {z TI TO i1 i2 l1 l2 T : Addr} {fl : Bool} {o : Obj} {k1 k2 : Nat} {xs ys : Array Value} {Q : PySem.Fin → Shared → Prop} (hh : A.handled = none) (D : ZipApart z TI TO i1 i2 l1 l2)
    (hz : IsZipA s.heap z TI TO T fl) (hT : s.heap.get? T = some o) (hTI : IsPair s.heap TI (.ref i1) (.ref i2))
    (h1 : s.heap.IsListIter i1 l1 k1) (h2 : s.heap.IsListIter i2 l2 k2) (hl1 : s.heap.IsList l1 xs) (hl2 : s.heap.IsList l2 ys) (hend : xs[k1]? = none ∨ ys[k2]? = none)
    (hE : ∀ h' e, (∀ c o, c ≠ z → c ≠ i1 → c ≠ i2 → s.heap.get? c = some o → h'.get? c = some o) → (∃ o, h'.get? e = some o ∧ o.cls = .type "StopIteration") → E (.ref e) { s with heap := h' }) :
    wpAny (model prog w) A (Builtin.«zip.__next__» ⟨[.ref z], []⟩) Q E s := by
  show wpAny _ _ (field (.ref z) 2 >>= _) _ _ _
  refine wpAny_bind (wpAny_field hz rfl (x := .bool false) rfl ?_)
  show wpAny _ _ (field (.ref z) 3 >>= _) _ _ _
  refine wpAny_bind (wpAny_field hz rfl (x := .ref TI) rfl ?_)
  refine wpAny_bind (wpAny_seqItems hTI rfl ?_)
  show wpAny _ _ (Builtin.SmallTypes.ownedTupleIsFree (.ref z) >>= _) _ _ _
  refine wpAny_bind (zipA_free hz hT fun h₁ hz₁ hs₁ => ?_)
  simp only [Bool.false_eq_true, if_false]
  refine wpAny_bind ?_
  rw [← Array.forIn_toList]
  show wpAny _ _ (forIn [Value.ref i1, Value.ref i2] _ _) _ _ _
  simp only [List.forIn_cons, List.forIn_nil]
  refine wpAny_bind (wpAny_bind (wpAny_holding ?_))
  show wpAny _ _ (Builtin.SmallTypes.nextOf (.ref i1) >>= _) _ _ _
  cases hx : xs[k1]? with
  | none =>
    exact wpAny_bind (wpAny_nextOf_list_end hh (h1.extBut hs₁.extBut D.i1z) (hl1.extBut hs₁.extBut D.l1z) hx fun h₂ e hs₂ he => hE h₂ e (fun c o c1 c3 _ x => hs₂ _ _ c3 (hs₁.extBut _ _ c1 x)) he)
  | some x =>
    have hy : ys[k2]? = none := by rcases hend with h | h; rw [hx] at h; cases h; exact h
    refine wpAny_bind (wpAny_nextOf_list_item (h1.extBut hs₁.extBut D.i1z) (hl1.extBut hs₁.extBut D.l1z) hx fun h₂ h1₂ hs₂ => wpAny_pure ?_)
    refine wpAny_pure ?_
    refine wpAny_bind (wpAny_bind (wpAny_holding ?_))
    show wpAny _ _ (Builtin.SmallTypes.nextOf (.ref i2) >>= _) _ _ _
    exact wpAny_bind (wpAny_nextOf_list_end hh ((h2.extBut hs₁.extBut D.i2z).extBut hs₂.extBut D.i12.symm) ((hl2.extBut hs₁.extBut D.l2z).extBut hs₂.extBut D.l2i1) hy fun h₃ e hs₃ he => hE h₃ e (fun c o c1 c3 c4 x => hs₃ _ _ c4 (hs₂.extBut _ _ c3 (hs₁.extBut _ _ c1 x))) he)
theorem pyNext_zipA_item {z TI TO i1 i2 l1 l2 T : Addr} {fl : Bool} {o : Obj} {k1 k2 : Nat} {xs ys : Array Value} {x y : Value} {Q : Option Value → Shared → Prop} (D : ZipApart z TI TO i1 i2 l1 l2)
    (hz : IsZipA s.heap z TI TO T fl) (hT : s.heap.get? T = some o) (hTI : IsPair s.heap TI (.ref i1) (.ref i2))
    (h1 : s.heap.IsListIter i1 l1 k1) (h2 : s.heap.IsListIter i2 l2 k2) (hl1 : s.heap.IsList l1 xs) (hl2 : s.heap.IsList l2 ys) (hx : xs[k1]? = some x) (hy : ys[k2]? = some y)
    (hQ : ∀ h', IsZipA h' z TI TO T true → h'.IsListIter i1 l1 (k1 + 1) → h'.IsListIter i2 l2 (k2 + 1) → IsPair h' s.heap.objs.size x y → h'.objs.size = s.heap.objs.size + 1 →
      (∀ c o, c ≠ z → c ≠ i1 → c ≠ i2 → s.heap.get? c = some o → h'.get? c = some o) → Q (some (.ref s.heap.objs.size)) { s with heap := h' }) :
    wpAny (model prog w) A (pyNext (.ref z)) Q E s := by
  have hTy : s.TypeIs (.ref z) "zip" := ⟨_, hz, rfl⟩
  unfold pyNext
  exact wpAny_bind (wpAny_attempt (wpAny_callSpecial?_slot (name := Str.ofString "__next__") hTy PySem.F.slot_zip_next
    (wpAny_call_entry PySem.F.slot_zip_next hTy PySem.F.entry_zip_next
      (zipA_item (a := .none) (b := .none) D hz hT hTI h1 h2 hl1 hl2 hx hy fun h' a1 a2 a3 a4 a5 a6 => wpAny_pure (hQ h' a1 a2 a3 a4 a5 a6)) (PySem.F.args_zip_next_1 _))))
theorem pyNext_zipA_end {z TI TO i1 i2 l1 l2 T : Addr} {fl : Bool} {o : Obj} {k1 k2 : Nat} {xs ys : Array Value} {Q : Option Value → Shared → Prop} (hh : A.handled = none) (D : ZipApart z TI TO i1 i2 l1 l2)
    (hz : IsZipA s.heap z TI TO T fl) (hT : s.heap.get? T = some o) (hTI : IsPair s.heap TI (.ref i1) (.ref i2))
    (h1 : s.heap.IsListIter i1 l1 k1) (h2 : s.heap.IsListIter i2 l2 k2) (hl1 : s.heap.IsList l1 xs) (hl2 : s.heap.IsList l2 ys) (hend : xs[k1]? = none ∨ ys[k2]? = none)
    (hQ : ∀ h', (∀ c o, c ≠ z → c ≠ i1 → c ≠ i2 → s.heap.get? c = some o → h'.get? c = some o) → Q none { s with heap := h' }) : wpAny (model prog w) A (pyNext (.ref z)) Q E s := by
  have hTy : s.TypeIs (.ref z) "zip" := ⟨_, hz, rfl⟩
  unfold pyNext
  refine wpAny_bind (wpAny_attempt (wpAny_callSpecial?_slot (name := Str.ofString "__next__") hTy PySem.F.slot_zip_next
    (wpAny_call_entry PySem.F.slot_zip_next hTy PySem.F.entry_zip_next (zipA_end hh D hz hT hTI h1 h2 hl1 hl2 hend fun h' e hk he => ?_) (PySem.F.args_zip_next_1 _))))
  obtain ⟨o, ho, hc⟩ := he
  refine wpAny_bind (wpAny_isInstance (T := "StopIteration") (b := true) ⟨o, ho, hc⟩ isSubtype_stop ?_)
  exact wpAny_pure (hQ _ hk)
end
end L2
namespace L2
open PySem PySem.Spec PyProof.Rows
theorem zip_no_len : typeLookup (.type "zip") "__len__" = pure none := by rw [typeLookup_type, builtinLookup_eq_fast]; kernel_rfl
theorem zip_no_hint : typeLookup (.type "zip") "__length_hint__" = pure none := by rw [typeLookup_type, builtinLookup_eq_fast]; kernel_rfl
noncomputable def ZS (z TI TO i1 i2 a b : Addr) (i : Nat) (h : Heap) : Prop :=
  IsPair h TI (.ref i1) (.ref i2) ∧ (∃ p q, IsPair h TO p q) ∧ h.IsListIter i1 a i ∧ h.IsListIter i2 b i ∧ (IsZip h z TI TO .none ∨ ∃ T fl o, IsZipA h z TI TO T fl ∧ h.get? T = some o)
theorem ZS.zobj {z TI TO i1 i2 a b : Addr} {i : Nat} {h : Heap} (st : ZS z TI TO i1 i2 a b i h) : ∃ o vs, h.get? z = some o ∧ o.cls = .type "zip" ∧ o.data = .fields vs := by
  obtain ⟨_, _, _, _, hz | ⟨T, fl, o, hz, _⟩⟩ := st
  · exact ⟨_, _, hz, rfl, rfl⟩
  · exact ⟨_, _, hz, rfl, rfl⟩
theorem ZS.apart {z TI TO i1 i2 a b : Addr} {i : Nat} {h : Heap} {xs ys : Array Value} (st : ZS z TI TO i1 i2 a b i h) (h12 : i1 ≠ i2) (hT : TI ≠ TO) (l1 : h.IsList a xs) (l2 : h.IsList b ys) : ZipApart z TI TO i1 i2 a b := by
  obtain ⟨oz, vz, gz, cz, _⟩ := st.zobj
  obtain ⟨hI, ⟨p, q, hO⟩, ⟨o1, g1, c1, d1⟩, ⟨o2, g2, c2, d2⟩, _⟩ := st
  obtain ⟨ol, gl, cl, _⟩ := l1
  obtain ⟨om, gm, cm, _⟩ := l2
  have ne : ∀ {x y : Addr} {ox oy : Obj} {m n : String}, h.get? x = some ox → h.get? y = some oy → ox.cls = .type m → oy.cls = .type n → m ≠ n → x ≠ y := fun e1 e2 c1 c2 hmn z => by
    subst z
    rw [e1] at e2; cases e2
    rw [c1] at c2; cases c2
    exact hmn rfl
  exact ⟨ne hI gz rfl cz (by decide), ne hO gz rfl cz (by decide), ne g1 gz c1 cz (by decide), ne g2 gz c2 cz (by decide), hT, ne hI g1 rfl c1 (by decide), ne hI g2 rfl c2 (by decide), ne hO g1 rfl c1 (by decide), ne hO g2 rfl c2 (by decide), h12,
    ne gl gz cl cz (by decide), ne gl hO cl rfl (by decide), ne gl g1 cl c1 (by decide), ne gl g2 cl c2 (by decide), ne gm gz cm cz (by decide), ne gm hO cm rfl (by decide), ne gm g1 cm c1 (by decide), ne gm g2 cm c2 (by decide)⟩
theorem ZS.keep {z TI TO i1 i2 a b : Addr} {i : Nat} {h h' : Heap} (st : ZS z TI TO i1 i2 a b i h) (k : ∀ c o, h.get? c = some o → c ∈ [z, TI, TO, i1, i2] ∨ o.cls = .type "tuple" → h'.get? c = some o) (hal : ∀ T fl o, IsZipA h z TI TO T fl → h.get? T = some o → ∃ o', h'.get? T = some o') : ZS z TI TO i1 i2 a b i h' := by
  obtain ⟨hI, ⟨p, q, hO⟩, h1, h2, hz⟩ := st
  refine ⟨k _ _ hI (.inl (by simp)), ⟨p, q, k _ _ hO (.inl (by simp))⟩, h1.at fun o e => k _ o e (.inl (by simp)), h2.at fun o e => k _ o e (.inl (by simp)), ?_⟩
  rcases hz with hz | ⟨T, fl, o, hz, hT⟩
  · exact .inl (k _ _ hz (.inl (by simp)))
  · obtain ⟨o', e'⟩ := hal T fl o hz hT
    exact .inr ⟨T, fl, o', k _ _ hz (.inl (by simp)), e'⟩
structure ZG (H H' : Hp) (xs ys : List V) (acc : Array Value) (i : Nat) : Prop where
  old : ∀ b u, H b = some u → H' b = some u
  size : acc.size = i
  at_ : ∀ (j : Nat) (u : Value), acc[j]? = some u → ∃ T x y, u = .ref T ∧ xs[j]? = some x ∧ ys[j]? = some y ∧ H' T = some (.tup [x, y]) ∧ H T = none
section
variable {X : Cx} {pins : List (Addr × Obj)} {σ : St}
theorem zip_loop {A0 : Around} (hh : A0.handled = none) {H : Hp} {xs ys : List V} {a b z TI TO i1 i2 S : Addr} (h12 : i1 ≠ i2) (hT : TI ≠ TO) (hS : S ∉ [z, TI, TO, i1, i2]) (hn : min xs.length ys.length ≤ 1000) (ha : ∀ H' : Hp, (∀ b u, H b = some u → H' b = some u) → SqL X.K H' a xs) (hb : ∀ H' : Hp, (∀ b u, H b = some u → H' b = some u) → SqL X.K H' b ys)
    (fp : ∀ H' : Hp, (∀ c ∈ [S, z, TI, TO, i1, i2], H' c = none) → ∀ c ∈ [S, z, TI, TO, i1, i2], FpOk X pins H' c) {R : Result → Shared → Prop}
    (fin : ∀ (H' : Hp) (s' : Shared) (acc : Array Value), ZG H H' xs ys acc (min xs.length ys.length) → H' S = none → (∀ vs : List V, vs.length ≤ sizeLine → Vals vs acc.toList → Inv X pins σ (upd H' S (.lst vs)) s') → R (.ok (.ret .none)) s') :
    ∀ (k i : Nat) (s : Shared) (H' : Hp) (acc : Array Value) (c : Nat), min xs.length ys.length - i = k → i ≤ min xs.length ys.length → Inv X pins σ H' s → (∀ c ∈ [S, z, TI, TO, i1, i2], H' c = none) → ZS z TI TO i1 i2 a b i s.heap →
      s.heap.get? S = some { cls := .type "list", dict := none, data := .seq acc c, slots := #[] } → ZG H H' xs ys acc i → codeAny (model X.prog X.w) A0 (.builtin "list.extend.loop" ⟨[.ref S, .ref z, .none], []⟩) R s := by
  have sl : 1000 ≤ sizeLine := by rw [sizeLine_eq]; decide
  intro k
  induction k with
  | zero =>
    intro i s H' acc c hk hi I nn st hSo zg
    have hin : i = min xs.length ys.length := by omega
    obtain ⟨its, v1, p1, _⟩ := I.list (ha H' zg.old)
    obtain ⟨jts, v2, p2, _⟩ := I.list (hb H' zg.old)
    have D := st.apart h12 hT p1.isList p2.isList
    have l1 := v1.length
    have l2 := v2.length
    have hend : its.toArray[i]? = none ∨ jts.toArray[i]? = none := by
      rcases Nat.le_total xs.length ys.length with q | q
      · exact .inl (by simp; omega)
      · exact .inr (by simp; omega)
    have stop : ∀ h' : Heap, (∀ c o, c ≠ z → c ≠ TO → c ≠ i1 → c ≠ i2 → s.heap.get? c = some o → h'.get? c = some o) → R (.ok (.ret .none)) { s with heap := h' } := fun h' hk' => by
      refine fin H' _ acc (hin ▸ zg) (nn S (by simp)) fun vs hz hv => ?_
      have hSo' : h'.get? S = some { cls := .type "list", dict := none, data := .seq acc c, slots := #[] } := by
        simp only [List.mem_cons, List.not_mem_nil, or_false, not_or] at hS
        exact hk' S _ hS.1 hS.2.2.1 hS.2.2.2.1 hS.2.2.2.2 hSo
      refine I.turnedAdopt (t' := s.toks) (fp := [z, TI, TO, i1, i2]) (fun c' u hc' hcS e => ?_) (fun c' hc' => fp H' nn c' (List.mem_cons_of_mem _ hc')) (fp H' nn S (by simp)) ⟨hz, acc.toList, c, hv, by simpa using hSo'⟩
      simp only [List.mem_cons, List.not_mem_nil, or_false, not_or] at hc'
      exact hk' c' u hc'.1 hc'.2.2.1 hc'.2.2.2.1 hc'.2.2.2.2 e
    refine codeAny_builtin PySem.F.entry_extend_loop ?_
    rw [Around.under_plainId PySem.F.plain_extend_loop _]
    show wpAny _ A0.in1 (pyNext (.ref z) >>= _) _ _ s
    obtain ⟨hI, ⟨p, q, hO⟩, h1, h2, hz⟩ := st
    rcases hz with hz | ⟨T, fl, o, hz, hTo⟩
    · exact wpAny_bind (wpAny_pyNext_zip_end hh D hz hI hO h1 h2 p1.isList p2.isList hend fun h' hk' => wpAny_pure (stop h' hk'))
    · exact wpAny_bind (pyNext_zipA_end hh D hz hTo hI h1 h2 p1.isList p2.isList hend fun h' hk' => wpAny_pure (stop h' fun c o c1 _ c3 c4 e => hk' c o c1 c3 c4 e))
  | succ k ih =>
    intro i s H' acc c hk hi I nn st hSo zg
    have hlt : i < min xs.length ys.length := by omega
    obtain ⟨its, v1, p1, _⟩ := I.list (ha H' zg.old)
    obtain ⟨jts, v2, p2, _⟩ := I.list (hb H' zg.old)
    have D := st.apart h12 hT p1.isList p2.isList
    have ex : xs[i]? = some (xs[i]'(by omega)) := List.getElem?_eq_getElem (by omega)
    have ey : ys[i]? = some (ys[i]'(by omega)) := List.getElem?_eq_getElem (by omega)
    obtain ⟨u, eu, ru⟩ := v1.get ex
    obtain ⟨v, ev, rv⟩ := v2.get ey
    have hz' := st.zobj
    have step : ∀ (h' : Heap), IsPair h' s.heap.objs.size u v → h'.objs.size = s.heap.objs.size + 1 → (∀ c o, c ≠ z → c ≠ TO → c ≠ i1 → c ≠ i2 → s.heap.get? c = some o → h'.get? c = some o) → ZS z TI TO i1 i2 a b (i + 1) h' →
        wpAny (model X.prog X.w) A0.in1 (updateSeq S (·.push (.ref s.heap.objs.size)) >>= fun _ => again (.builtin "list.extend.loop" ⟨[.ref S, .ref z, .none], []⟩)) (fun fin s' => match fin with | .done f => R (.ok f) s' | .again c' => c'.quiet = true ∧ codeAny (model X.prog X.w) A0 c' R s') (fun e s' => R (.error e) s') { s with heap := h' } := by
      intro h' hp hsz hk' st'
      have hS' := hS
      simp only [List.mem_cons, List.not_mem_nil, or_false, not_or] at hS'
      have hSo' : h'.get? S = some { cls := .type "list", dict := none, data := .seq acc c, slots := #[] } := hk' S _ hS'.1 hS'.2.2.1 hS'.2.2.2.1 hS'.2.2.2.2 hSo
      have hTn : H' s.heap.objs.size = none := I.hok.fresh (Nat.le_refl _)
      have hlts : ∀ c' ∈ [S, z, TI, TO, i1, i2], c' < s.heap.objs.size := by
        obtain ⟨oz, _, gz, _, _⟩ := st.zobj
        obtain ⟨gI, ⟨_, _, gO⟩, ⟨_, g1, _⟩, ⟨_, g2, _⟩, _⟩ := st
        intro c' hc'
        simp only [List.mem_cons, List.not_mem_nil, or_false] at hc'
        rcases hc' with rfl | rfl | rfl | rfl | rfl | rfl
        · exact Heap.lt_size hSo
        · exact Heap.lt_size gz
        · exact Heap.lt_size gI
        · exact Heap.lt_size gO
        · exact Heap.lt_size g1
        · exact Heap.lt_size g2
      have I1 : Inv X pins σ (upd H' s.heap.objs.size (.tup [xs[i]'(by omega), ys[i]'(by omega)])) { s with heap := h' } :=
        I.turnedNew (t' := s.toks) (fp := [z, TI, TO, i1, i2]) (fun c' o hc' e => by
          simp only [List.mem_cons, List.not_mem_nil, or_false, not_or] at hc'
          exact hk' c' o hc'.1 hc'.2.2.1 hc'.2.2.2.1 hc'.2.2.2.2 e) (fun c' hc' => fp H' nn c' (List.mem_cons_of_mem _ hc')) (Nat.le_refl _) (show ObjOk X.prog X.w _ h' _ (.tup _) from ⟨by show 2 ≤ sizeLine; decide, [u, v], .cons ru (.cons rv .nil), _, hp, rfl, _, rfl⟩)
      have nn1 : ∀ c' ∈ [S, z, TI, TO, i1, i2], upd H' s.heap.objs.size (.tup [xs[i]'(by omega), ys[i]'(by omega)]) c' = none := fun c' hc' => by
        rw [upd_ne (Nat.ne_of_lt (hlts c' hc'))]; exact nn c' hc'
      have sz : acc.size = i := zg.size
      refine wpAny_bind (wpAny_updateSeq (s := { s with heap := h' }) hSo' rfl ?_ (by omega) (by show (acc.push _).size ≤ sizeLine + 1; rw [Array.size_push]; omega))
      refine wpAny_pure ⟨plainId_quiet PySem.F.plain_extend_loop _, ?_⟩
      have sb := Heap.SameBut.update h' S (Obj.mapSeq (·.push (Value.ref s.heap.objs.size)))
      have I2 : Inv X pins σ (upd H' s.heap.objs.size (.tup [xs[i]'(by omega), ys[i]'(by omega)])) { s with heap := h'.update S (Obj.mapSeq (·.push (Value.ref s.heap.objs.size))) } :=
        Inv.turnedL (s := { s with heap := h' }) (t' := s.toks) (fp := [S]) I1 (fun c' o hc' e => (sb.2 c' (fun q => hc' (by simp [q]))).trans e) (fun c' hc' => by rw [List.mem_singleton.mp hc']; exact fp _ nn1 S (by simp))
      refine ih (i + 1) _ _ (acc.push (.ref s.heap.objs.size)) _ (by omega) (by omega) I2 nn1 (st'.keep (fun c' o e hc' => (sb.2 c' (fun q => ?_)).trans e) (fun T fl o hz1 hT1 => ?_)) (Heap.get?_update_self _ hSo' rfl) ⟨fun b' u' e => ?_, by rw [Array.size_push, sz], fun j u' e => ?_⟩
      · rcases hc' with hc' | hc'
        · exact hS (q ▸ hc')
        · rw [q, hSo'] at e; cases e; exact absurd hc' (by simp)
      · by_cases q : T = S
        · exact ⟨_, by rw [q]; exact Heap.get?_update_self _ hSo' rfl⟩
        · exact ⟨o, (sb.2 T q).trans hT1⟩
      · rw [upd_ne (ne_of_none (zg.old b' u' e) hTn)]; exact zg.old b' u' e
      · rw [Array.getElem?_push] at e
        by_cases q : j = acc.size
        · rw [if_pos q] at e; cases e
          rw [q, sz]
          refine ⟨_, _, _, rfl, ex, ey, upd_same, ?_⟩
          cases hh : H s.heap.objs.size with
          | none => rfl
          | some o => rw [zg.old _ _ hh] at hTn; cases hTn
        · rw [if_neg q] at e
          obtain ⟨T, x, y, e1, e2, e3, e4, e5⟩ := zg.at_ j u' e
          exact ⟨T, x, y, e1, e2, e3, by rw [upd_ne (ne_of_none e4 hTn)]; exact e4, e5⟩
    refine codeAny_builtin PySem.F.entry_extend_loop ?_
    rw [Around.under_plainId PySem.F.plain_extend_loop _]
    show wpAny _ A0.in1 (pyNext (.ref z) >>= _) _ _ s
    obtain ⟨hI, ⟨p, q, hO⟩, h1, h2, hz⟩ := st
    rcases hz with hz | ⟨T, fl, o, hz, hTo⟩
    · refine wpAny_bind (wpAny_pyNext_zip_item D hz hI hO h1 h2 p1.isList p2.isList (x := u) (y := v) (by simpa using eu) (by simpa using ev) fun h' a1 a2 a3 a4 a5 a6 a7 => ?_)
      exact step h' a5 a6 a7 ⟨a7 TI _ D.TIz D.TITO D.TIi1 D.TIi2 hI, ⟨_, _, a2⟩, a3, a4, .inr ⟨s.heap.objs.size, false, _, a1, a5⟩⟩
    · refine wpAny_bind (pyNext_zipA_item D hz hTo hI h1 h2 p1.isList p2.isList (x := u) (y := v) (by simpa using eu) (by simpa using ev) fun h' a1 a2 a3 a4 a5 a6 => ?_)
      have hT' : ∃ o', h'.get? T = some o' := by
        by_cases q1 : T = z
        · exact ⟨_, by rw [q1]; exact a1⟩
        · by_cases q2 : T = i1
          · obtain ⟨o', e', _⟩ := a2; exact ⟨o', by rw [q2]; exact e'⟩
          · by_cases q3 : T = i2
            · obtain ⟨o', e', _⟩ := a3; exact ⟨o', by rw [q3]; exact e'⟩
            · exact ⟨o, a6 T o q1 q2 q3 hTo⟩
      obtain ⟨o', hT'⟩ := hT'
      exact step h' a4 a5 (fun c o c1 _ c3 c4 e => a6 c o c1 c3 c4 e) ⟨a6 TI _ D.TIz D.TIi1 D.TIi2 hI, ⟨_, _, a6 TO _ D.TOz D.TOi1 D.TOi2 hO⟩, a2, a3, .inr ⟨T, true, o', a1, hT'⟩⟩
theorem sqL_mono {K : PySem.W.Frag} {H H' : Hp} {a : Addr} {xs : List V} (h : SqL K H a xs) (m : ∀ b u, H b = some u → H' b = some u) : SqL K H' a xs := by
  rcases h with (h | ⟨o, h⟩) | h
  · exact .inl (.inl (m _ _ h))
  · exact .inl (.inr ⟨o, m _ _ h⟩)
  · exact .inr h
theorem call_list_zip {H : Hp} {s : Shared} {xs ys : List V} {a b z TI TO i1 i2 : Addr} {Q : Value → Shared → Prop} {A0 : Around} {E : Value → Shared → Prop} (hh : A0.handled = none) (I : Inv X pins σ H s) (h12 : i1 ≠ i2) (hT : TI ≠ TO) (hn : min xs.length ys.length ≤ 1000) (ha : SqL X.K H a xs) (hb : SqL X.K H b ys)
    (hf : ∀ c ∈ [z, TI, TO, i1, i2], FpOk X pins H c) (hz0 : IsZip s.heap z TI TO .none) (st : ZS z TI TO i1 i2 a b 0 s.heap)
    (fin : ∀ (H' : Hp) (s' : Shared) (acc : Array Value), ZG H H' xs ys acc (min xs.length ys.length) → H' s.heap.objs.size = none → (∀ vs : List V, vs.length ≤ sizeLine → Vals vs acc.toList → Inv X pins σ (upd H' s.heap.objs.size (.lst vs)) s') → Q (.ref s.heap.objs.size) s') :
    wpAny (model X.prog X.w) A0 (call (.type "list") [.ref z]) Q E s := by
  refine callType_codes (Q₁ := fun obj s₁ => obj = .ref s.heap.objs.size ∧ s₁ = { s with heap := s.heap.push { cls := .type "list", data := .seq #[] } }) PySem.F.called_list (PySem.F.typeCall_list_1 _) PySem.F.entry_list_init
    (code_list_new _ ⟨rfl, rfl⟩) fun obj s₁ h₁ => ?_
  obtain ⟨rfl, rfl⟩ := h₁
  have hS : (s.heap.push { cls := .type "list", data := .seq #[] }).get? s.heap.objs.size = some { cls := .type "list", data := .seq #[] } := Heap.get?_push_size _ rfl
  have hzlt : ∀ c ∈ [z, TI, TO, i1, i2], c < s.heap.objs.size := by
    obtain ⟨oz, _, gz, _, _⟩ := st.zobj
    obtain ⟨gI, ⟨_, _, gO⟩, ⟨_, g1, _⟩, ⟨_, g2, _⟩, _⟩ := st
    intro c' hc'
    simp only [List.mem_cons, List.not_mem_nil, or_false] at hc'
    rcases hc' with rfl | rfl | rfl | rfl | rfl
    · exact Heap.lt_size gz
    · exact Heap.lt_size gI
    · exact Heap.lt_size gO
    · exact Heap.lt_size g1
    · exact Heap.lt_size g2
  have hSn : s.heap.objs.size ∉ [z, TI, TO, i1, i2] := fun q => Nat.lt_irrefl _ (hzlt _ q)
  have fS : FpOk X pins H s.heap.objs.size := I.fpOk (Nat.le_refl _) (I.hok.fresh (Nat.le_refl _))
  have fp : ∀ H' : Hp, (∀ c ∈ [s.heap.objs.size, z, TI, TO, i1, i2], H' c = none) → ∀ c ∈ [s.heap.objs.size, z, TI, TO, i1, i2], FpOk X pins H' c := fun H' nn c hc => by
    rcases List.mem_cons.mp hc with e | hc'
    · rw [e] at hc ⊢; exact ⟨nn _ hc, fS.2⟩
    · exact ⟨nn c hc, (hf c hc').2⟩
  have nn0 : ∀ c ∈ [s.heap.objs.size, z, TI, TO, i1, i2], H c = none := fun c hc => by
    rcases List.mem_cons.mp hc with e | hc'
    · rw [e]; exact fS.1
    · exact (hf c hc').1
  -- the loop, from any state in which the list is empty
  have key : ∀ (h : Heap) (c₁ : Nat), (∀ b o, b ≠ s.heap.objs.size → s.heap.get? b = some o → h.get? b = some o) → h.get? s.heap.objs.size = some { cls := .type "list", dict := none, data := .seq #[] c₁, slots := #[] } → ∀ R : Result → Shared → Prop,
      (∀ s', (∀ Q' : Prop, (∀ (H' : Hp) (acc : Array Value), ZG H H' xs ys acc (min xs.length ys.length) → H' s.heap.objs.size = none → (∀ vs : List V, vs.length ≤ sizeLine → Vals vs acc.toList → Inv X pins σ (upd H' s.heap.objs.size (.lst vs)) s') → Q') → Q') → R (.ok (.ret .none)) s') →
      codeAny (model X.prog X.w) A0.in1 (.builtin "list.extend.loop" ⟨[.ref s.heap.objs.size, .ref z, .none], []⟩) R { s with heap := h } := by
    intro h c₁ hk hS₁ R hR
    have I1 : Inv X pins σ H { s with heap := h } := I.turnedL (t' := s.toks) (fp := [s.heap.objs.size]) (fun b o hb' e => hk b o (fun q => hb' (by simp [q])) e) (fun c hc => by rw [List.mem_singleton.mp hc]; exact fS)
    refine zip_loop (A0 := A0.in1) hh h12 hT hSn hn (fun H' m => sqL_mono ha m) (fun H' m => sqL_mono hb m) fp (fun H' s' acc zg hSn' mk => hR s' fun Q' q => q H' acc zg hSn' mk) _ 0 { s with heap := h } H #[] c₁ rfl (Nat.zero_le _) I1 nn0 (st.keep (fun c o e hc => hk c o (fun q => ?_) e) fun T fl o hz1 hT1 => ?_) hS₁ ⟨fun _ _ e => e, rfl, fun j u e => by simp at e⟩
    · exact Nat.lt_irrefl _ (q ▸ Heap.lt_size e)
    · exact ⟨o, hk T o (fun q => Nat.lt_irrefl _ (q ▸ Heap.lt_size hT1)) hT1⟩
  refine ⟨⟨_, hS, rfl⟩, PySem.F.args_list_init_2 _ _, ?_⟩
  obtain ⟨oz, vz, gz, cz, dz⟩ := st.zobj
  have hSz : s.heap.objs.size ≠ z := fun q => hSn (by simp [q])
  show wpAny _ _ (do let old ← Builtin.List.listItems (.ref s.heap.objs.size); Builtin.List.listUpdate (.ref s.heap.objs.size) (fun _ => #[]); letGo old.toList.reverse; Builtin.List.listExtendWith (.ref s.heap.objs.size) (.ref z) .none) _ _ _
  refine wpAny_bind ?_
  unfold Builtin.List.listItems
  refine wpAny_bind (wpAny_seqItems hS rfl (wpAny_pure ?_))
  show wpAny _ _ (updateSeq s.heap.objs.size (fun _ => #[]) >>= fun _ => letGo (#[] : Array Value).toList.reverse >>= fun _ => Builtin.List.listExtendWith (.ref s.heap.objs.size) (.ref z) .none) _ _ _
  refine wpAny_bind (wpAny_updateSeq hS rfl ?_)
  have hS₂ := Heap.get?_update_self (Obj.mapSeq (fun _ => (#[] : Array Value))) hS rfl
  generalize hh2 : (s.heap.push { cls := .type "list", data := .seq #[] }).update s.heap.objs.size (Obj.mapSeq (fun _ => (#[] : Array Value))) = h2 at *
  have oth : ∀ b o, b ≠ s.heap.objs.size → s.heap.get? b = some o → h2.get? b = some o := fun b o hb' e => by
    rw [← hh2]
    exact (Heap.get?_update_other _ _ (Ne.symm hb')).trans (Heap.get?_push_of_some _ e)
  refine wpAny_bind (wpAny_letGo ?_)
  unfold Builtin.List.listExtendWith
  have hTy : ({ s with heap := h2 } : Shared).TypeIs (.ref z) "zip" := ⟨oz, oth z oz (Ne.symm hSz) gz, cz⟩
  refine wpAny_bind (wpAny_typeOf hTy ?_)
  have e1 : Builtin.List.listSameRef (.ref s.heap.objs.size) (.ref z) = false := by simp [Builtin.List.listSameRef, hSz]
  have e2 : (Value.type "zip" == Value.type "list") = false := by decide
  have e3 : (Value.type "zip" == Value.type "tuple") = false := by decide
  simp only [e1, e2, e3, Bool.or_false, Bool.false_eq_true, if_false]
  have hz₂ : IsZip h2 z TI TO .none := oth z _ (Ne.symm hSz) hz0
  refine wpAny_bind (wpAny_pyIter_zip (s := { s with heap := h2 }) hz₂ ?_)
  refine wpAny_bind (wpAny_holding ?_)
  unfold Builtin.List.listLengthHint
  refine wpAny_bind (wpAny_specialOf hTy zip_no_len ?_)
  show wpAny _ _ (specialOf (Value.ref z) (Str.ofString "__length_hint__") >>= _) _ _ _
  refine wpAny_bind (wpAny_specialOf hTy zip_no_hint ?_)
  refine wpAny_pure ?_
  show wpAny _ _ (rule "list.extend.makes-room" >>= fun _ => Builtin.List.listTouch (.ref s.heap.objs.size) >>= fun _ =>
    again (.builtin "list.extend.loop" ⟨[.ref s.heap.objs.size, .ref z, .none], []⟩)) _ _ _
  refine wpAny_bind (wpAny_rule ?_)
  refine wpAny_bind ?_
  show wpAny _ _ (updateSeq s.heap.objs.size (·.push .none) >>= fun _ => updateSeq s.heap.objs.size (·.pop)) _ _ _
  refine wpAny_bind (wpAny_updateSeq hS₂ rfl ?_)
  have hS₃ := Heap.get?_update_self (Obj.mapSeq (·.push Value.none)) hS₂ rfl
  refine wpAny_updateSeq hS₃ rfl ?_
  have hS₄ := Heap.get?_update_self (Obj.mapSeq (·.pop)) hS₃ rfl
  refine wpAny_pure ⟨plainId_quiet PySem.F.plain_extend_loop _, key _ _ (fun b o hb' e => (Heap.get?_update_other _ _ (Ne.symm hb')).trans ((Heap.get?_update_other _ _ (Ne.symm hb')).trans (oth b o hb' e))) hS₄ _ fun s' q => ⟨rfl, q _ fun H' acc zg hn' mk => fin H' s' acc zg hn' mk⟩⟩
end
end L2
namespace L2
open PySem PySem.Spec PyProof.Rows
noncomputable def refV : Value → V
  | .ref T => .ref T
  | _ => .non
structure ZV (H H' : Hp) (xs ys : List V) (ts : List V) : Prop where
  old : ∀ b u, H b = some u → H' b = some u
  len : ts.length = min xs.length ys.length
  at_ : ∀ (j : Nat) (t : V), ts[j]? = some t → ∃ T x y, t = .ref T ∧ xs[j]? = some x ∧ ys[j]? = some y ∧ H' T = some (.tup [x, y]) ∧ H T = none
theorem ZG.zv {H H' : Hp} {xs ys : List V} {acc : Array Value} (h : ZG H H' xs ys acc (min xs.length ys.length)) : ZV H H' xs ys (acc.toList.map refV) ∧ Vals (acc.toList.map refV) acc.toList := by
  refine ⟨⟨h.old, by rw [List.length_map, Array.length_toList, h.size], fun j t e => ?_⟩, vals_at (List.length_map _) fun i x u e1 e2 => ?_⟩
  · rw [List.getElem?_map, Array.getElem?_toList] at e
    cases q : acc[j]? with
    | none => rw [q] at e; cases e
    | some u =>
      rw [q] at e; cases e
      obtain ⟨T, x, y, rfl, e1, e2, e3, e4⟩ := h.at_ j u q
      exact ⟨T, x, y, rfl, e1, e2, e3, e4⟩
  · rw [List.getElem?_map, e2] at e1
    cases e1
    rw [Array.getElem?_toList] at e2
    obtain ⟨T, x, y, rfl, _⟩ := h.at_ i u e2
    rfl
theorem ZV.fz {M : HpD} {H H' : Hp} {xs ys ts : List V} (h : ZV H H' xs ys ts) : Fz M H M H' := fun a o e m => ⟨h.old a o e, m⟩
theorem ZV.hp {K : KF} {M : HpD} {H H' : Hp} {xs ys ts : List V} (h : ZV H H' xs ys ts) (rh : RepH K H M) : RepH K H' M := ⟨fun a u e => by
  obtain ⟨o', e', r⟩ := rh.at_ a u e
  exact ⟨o', h.old _ _ e', r.mono h.fz⟩, fun a ha => by
  obtain ⟨⟨o', e'⟩, m'⟩ := rh.fb a ha
  exact ⟨⟨o', h.old _ _ e'⟩, m'⟩⟩
theorem repDs_at {K : KF} {H : Hp} {M : HpD} : ∀ {ds : List D} {vs : List V}, ds.length = vs.length → (∀ (i : Nat) (d : D) (v : V), ds[i]? = some d → vs[i]? = some v → RepD K H M d v) → RepDs K H M ds vs
  | [], [], _, _ => .nil
  | [], _ :: _, h, _ => nomatch h
  | _ :: _, [], h, _ => nomatch h
  | d :: ds, v :: vs, h, r => .cons (r 0 d v rfl rfl) (repDs_at (by simpa using h) fun i y w e1 e2 => r (i + 1) y w (by simpa using e1) (by simpa using e2))
theorem ZV.rep {K : KF} {M : HpD} {H H' : Hp} {ds es : List D} {xs ys ts : List V} (h : ZV H H' xs ys ts) (rh : RepH K H M) (r1 : RepDs K H M ds xs) (r2 : RepDs K H M es ys) : RepDs K H' M (zipD ds es) ts := by
  refine repDs_at (by rw [zipD_len, h.len, r1.length, r2.length]) fun i d v e1 e2 => ?_
  obtain ⟨d1, d2, g1, g2, rfl⟩ := zipD_get e1
  obtain ⟨T, x, y, rfl, k1, k2, hT, hN⟩ := h.at_ i v e2
  obtain ⟨v1, q1, w1⟩ := r1.get g1
  obtain ⟨v2, q2, w2⟩ := r2.get g2
  rw [k1] at q1; cases q1
  rw [k2] at q2; cases q2
  unfold RepD
  exact ⟨T, _, rfl, .inl ⟨.inl hT, rh.free hN, rh.nf hN⟩, RepDs.mono h.fz (.cons w1 (.cons w2 .nil))⟩
section
variable {X : Cx} {a b : Expr} {ta : TDA} {p p2 pos pos2 : Pos}
@[irreducible] noncomputable def tLstZipD (ta : TDA) : TDE := fun σ M Q => ta σ M fun vs M1 => ∃ d e ds es, vs = [d, e] ∧ listD d M1 = some ds ∧ listD e M1 = some es ∧ min ds.length es.length ≤ 1000 ∧ newL (zipD ds es) M1 Q
theorem rd_lstZip {σ : SD} {M : HpD} {Q : KD} (h : ta σ M fun vs M1 => ∃ d e ds es, vs = [d, e] ∧ listD d M1 = some ds ∧ listD e M1 = some es ∧ min ds.length es.length ≤ 1000 ∧ newL (zipD ds es) M1 Q) : tLstZipD ta σ M Q := by unfold tLstZipD; exact h
theorem ed_lstZip (hg : Gl X "list") (hm : X.mg "list" = none) (hg2 : Gl X "zip") (hm2 : X.mg "zip" = none) (ha : AD X [a, b] ta)
    (hs : starEach [a, b] X.env = [(false, eval a X.env), (false, eval b X.env)] := by rfl) (hs2 : starEach [b] X.env = [(false, eval b X.env)] := by rfl)
    (hs3 : starEach [.Call (.Name "zip" p2) [a, b] [] pos2] X.env = [(false, eval (.Call (.Name "zip" p2) [a, b] [] pos2) X.env)] := by rfl) (hc : X.calm = true := by rfl) :
    ED X (.Call (.Name "list" p) [.Call (.Name "zip" p2) [a, b] [] pos2] [] pos) (tLstZipD ta) := by
  intro pins s σ H Q I h
  obtain ⟨F, σD, M, QD, rel, h, pp⟩ := h
  unfold tLstZipD at h
  refine Call_ (ld_blt I hg hm boot_listL (PyProof.Rows.callWith_type1 ?_ hs3 rfl))
  rw [hs3]
  show wpAny _ _ (spliced ((false, eval (.Call (.Name "zip" p2) [a, b] [] pos2) X.env) :: [])) _ _ s
  refine Calls.spliced_cons ?_
  have hA := ha pos2 pins s σ H (fun vs H1 => ∃ (i j : Addr) (xs ys : List V), vs = [.ref i, .ref j] ∧ SqL X.K H1 i xs ∧ SqL X.K H1 j ys ∧ min xs.length ys.length ≤ 1000 ∧ ∀ H' ts l, ZV H1 H' xs ys ts → H' l = none → Q (.ref l) (upd H' l (.lst ts))) I ?_
  · refine Call_ (ld_blt I hg2 hm2 boot_zip (PyProof.Rows.callWith_type1 (thn hA fun us s1 ⟨vs, H1, I1, r1, q1⟩ => ?_) (by rw [hs, hs2]) (by rw [hs2]; rfl)))
    obtain ⟨i, j, xs, ys, e, hq1, hq2, hn, q⟩ := q1
    subst e
    cases r1 with
    | cons r rr =>
      cases rr with
      | cons r' rr =>
        cases rr
        cases r
        cases r'
        obtain ⟨its, rv, p1, hz⟩ := I1.list hq1
        obtain ⟨jts, rw', p2, hz'⟩ := I1.list hq2
        refine call_zip_2 p1.isList p2.isList fun h' a1 a2 a3 a4 a5 a6 a7 => ?_
        refine Calls.spliced_nil ?_
        have I2 : Inv X pins σ H1 { s1 with heap := h' } := I1.kept (t' := s1.toks) a7
        refine call_list_zip (I1.ok.hd hc) I2 (i1 := s1.heap.objs.size) (i2 := s1.heap.objs.size + 1) (TI := s1.heap.objs.size + 2) (TO := s1.heap.objs.size + 3) (fun z => Nat.succ_ne_self _ z.symm) (fun z => by have : s1.heap.objs.size + 2 = s1.heap.objs.size + 3 := z; omega) hn hq1 hq2 (fun c hc => ?_) a1 ⟨a2, ⟨_, _, a3⟩, a4, a5, .inl a1⟩ fun H' s' acc zg hnone mk => ?_
        · have hle : s1.heap.objs.size ≤ c := by
            simp only [List.mem_cons, List.not_mem_nil, or_false] at hc
            rcases hc with rfl | rfl | rfl | rfl | rfl
            · exact Nat.le_add_right _ _
            · exact Nat.le_add_right _ _
            · exact Nat.le_add_right _ _
            · exact Nat.le_refl _
            · exact Nat.le_add_right _ _
          exact I1.fpOk hle (I1.hok.fresh hle)
        · obtain ⟨zv, vv⟩ := zg.zv
          have sl : 1000 ≤ sizeLine := by rw [sizeLine_eq]; decide
          exact ⟨.ref _, _, mk _ (by rw [zv.len]; omega) vv, rfl, q _ _ _ zv hnone⟩
  · refine lA rel h fun d M1 v H1 f1 rel1 r1 h1 => ?_
    obtain ⟨d, e, ds, es, rfl, g1, g2, hn, q⟩ := h1
    obtain ⟨u, v', rfl, r2, r3⟩ := rep2 r1
    obtain ⟨i, xs, rfl, hz, hr⟩ := list_rep rel1.hp r2 g1
    obtain ⟨j, ys, rfl, hz2, hr2⟩ := list_rep rel1.hp r3 g2
    exact ⟨i, j, xs, ys, rfl, hz, hz2, by rw [← hr.length, ← hr2.length]; exact hn, fun H' ts l zv hl => (q.post ((pp.mono f1).mono zv.fz) (zv.hp rel1.hp) (zv.rep rel1.hp hr hr2)).2 l hl⟩
end
end L2
namespace L2
open PySem PySem.Spec PyProof.Rows
section
variable {prog : Program} {w : World} {A : Around} {E : Value → Shared → Prop} {s : Shared}
variable {z TI TO i1 i2 : Addr} {f1 f2 : List Addr} {n1 n2 k : Nat} {P1 P2 : Nat → Value → Prop} {St1 St2 : Nat → Heap → Prop}
end
end L2
namespace L2
open PySem PySem.Spec PyProof.Rows
end L2
namespace L2
open PySem PySem.Spec PyProof.Rows
section
variable {X : Cx} {pins : List (Addr × Obj)} {σ : St} {H : Hp} {s : Shared}
theorem Inv.grow {h' : Heap} {t' : Nat} {P : Addr} {ps more : Array Value} (I : Inv X pins σ H s) (hP : H P = some (.tbl ps)) (k : ∀ b u, b ≠ P → s.heap.get? b = some u → h'.get? b = some u) (new : h'.get? P = some (PySem.W.tabObj (ps ++ more))) :
    Inv X pins σ (upd H P (.tbl (ps ++ more))) { s with heap := h', toks := t' } := by
  have ne : ∀ b, H b = none → b ≠ P := fun b n z => by rw [z, hP] at n; cases n
  have ne2 : ∀ b u, H b = some u → (∀ qs, u ≠ .tbl qs) → b ≠ P := fun b u e n z => by rw [z, hP] at e; cases e; exact n _ rfl
  refine I.un (t' := t') ⟨fun b u q n _ _ => k b u (ne b n) q, fun b u q n _ _ => ⟨u.slots, k b u (ne b n) q⟩, fun b u q n _ => by rw [upd_ne (ne b n)]; exact n, fun b u q _ => ?_,
    fun b xs q => by rw [upd_ne (ne2 b _ q fun _ z => by cases z)]; exact q, fun b o u q => by rw [upd_ne (ne2 b _ q fun _ z => by cases z)]; exact q, fun b qs q => ?_⟩ fun b u e => ?_
  · by_cases hb : b = P
    · rw [hb]; exact ⟨_, new⟩
    · exact ⟨u, k b u hb q⟩
  · by_cases hb : b = P
    · rw [hb] at q ⊢
      rw [hP] at q; cases q
      exact ⟨more, upd_same⟩
    · exact ⟨#[], by rw [upd_ne hb, q]; simp⟩
  · by_cases hb : b = P
    · subst hb; rw [upd_same] at e; cases e; exact new
    · rw [upd_ne hb] at e
      refine (I.hok b u e).stay (fun c v hc q => k c v ?_ q) (fun c q => by rw [upd_ne (ne2 c _ q fun _ z => by cases z)]; exact q) fun c xs q => by rw [upd_ne (ne2 c _ q fun _ z => by cases z)]; exact q
      rcases hc with z | z
      · rw [z]; exact hb
      · exact ne2 c _ z fun _ y => by cases y
end
theorem among_snoc {pos' : Pos} {c cv : Value} {a b : Int} : ∀ {l : List Value}, TriplesOk l → codeAmong pos' (l ++ [rawInt a, rawInt b, c]) = some cv → codeAmong pos' l = some cv ∨ cv = c := by
  intro l
  fun_induction TriplesOk l with
  | case1 =>
    intro _ h
    simp only [List.nil_append, rawInt, codeAmong] at h
    split at h
    · cases h; exact .inr rfl
    · cases h
  | case2 a t b u x rest ih =>
    intro h1 h
    simp only [List.cons_append, codeAmong] at h ⊢
    split at h
    · rename_i hc; rw [if_pos hc]; exact .inl h
    · rename_i hc; rw [if_neg hc]; exact ih h1 h
  | case3 l h1 h2 => intro h; exact h.elim
noncomputable def BMain (mg : Str → Option Value) (base : Heap) : Prop := ∃ bm ob, mg "__builtins__" = some (.ref bm) ∧ bm ≠ builtinsNs ∧ base.get? bm = some ob ∧ ob.cls = .type "module" ∧ ob.dict = some builtinsNs ∧ ob.data = .plain
end L2
namespace L2
open PySem PySem.Spec PyProof.Rows
structure FunC (K : PySem.W.Frag) (x qual : Str) (st : Stmt) (f : Addr) (fd : FuncData) (cdv : Value) : Prop where
  ex : ∃ (oc : Value) (od : Option Addr) (kV doc pm : Value) (an : Option Addr) (ct : Value) (osl : Array (Option Value)), fd = PySem.W.fnOf x qual (defArgs st) (defBody st) (defScope st) .none kV doc pm an cdv ct ∧
    K.lookup f = some ⟨oc, od, .func (PySem.W.fnOf x qual (defArgs st) (defBody st) (defScope st) .none kV doc pm an cdv ct), osl⟩ ∧ PySem.W.codeIn K cdv qual = true
theorem funC_mk {K : PySem.W.Frag} {x qual : Str} {st : Stmt} {f : Addr} {oc : Value} {od an : Option Addr} {osl : Array (Option Value)} {kV doc pm cdv ct : Value} (l : K.lookup f = some ⟨oc, od, .func (PySem.W.fnOf x qual (defArgs st) (defBody st) (defScope st) .none kV doc pm an cdv ct), osl⟩)
    (c : PySem.W.codeIn K cdv qual = true) : FunC K x qual st f (PySem.W.fnOf x qual (defArgs st) (defBody st) (defScope st) .none kV doc pm an cdv ct) cdv := ⟨oc, od, kV, doc, pm, an, ct, osl, rfl, l, c⟩
theorem FunC.okD {P : Program} {w : World} {K : PySem.W.Frag} {mg : Str → Option Value} {base : Heap} {x qual : Str} {st : Stmt} {f : Addr} {fd : FuncData} {cdv : Value} {N ps : List Str} {k : Nat} {sp : SpD} {t : TSD} (F : FunC K x qual st f fd cdv) (S : FnScope N ps (defScope st)) (len : ∀ ds M Q, sp ds M Q → ds.length = ps.length)
    (hterm : ∀ (A : Around) (outer : List Env) (s : Shared) (H : Hp) (E : XK), Room k (A.deeper (envOfC qual (defScope st) s.heap.objs.size f cdv)) →
      SsD (cxOf CX0 P w K mg base N qual (defScope st) f cdv A outer s H E).nox (defBody st) t)
    (hread : ∀ ds M Q, sp ds M Q → t { nx := fun _ M' => Q .non M', rt := Q } (startD N ds) M) : FnOk P w K mg base CX0 (k + 1) f fd ps (LiftP K sp) := by
  obtain ⟨oc, od, kV, doc, pm, an, ct, osl, rfl, lk, hcd⟩ := F.ex
  refine fn_of lk hcd S (fun vs H Q E h => ?_) fun A outer s H vs Q E hr h => ?_
  · obtain ⟨F', ds, M, QD, r, rh, hsp, p⟩ := h
    rw [← r.length]
    exact len _ _ _ hsp
  · obtain ⟨F', ds, M, QD, r, rh, hsp, p⟩ := h
    exact ⟨LiftS K t, (hterm A outer s H E hr).nox, F', startD N ds, M, _, start_rel r rh, hread ds M QD hsp, ⟨fun σD' M' σ' H' f rel q => p _ M' _ H' f rel.hp (by unfold RepD; rfl) q, p, fun _ _ _ _ _ _ h => h.elim, fun _ _ _ _ _ _ h => h.elim⟩⟩
theorem law_callT {P : Program} {w : World} {K : PySem.W.Frag} {mg mb : Str → Option Value} {CX : CXT} {k : Nat} {fa a Pt c : Addr} {fd : FuncData} {x : Str} {sp : Sp} {s₁ : Shared} {vs : List Value} {ns : List Int}
    (KX : K.In s₁.heap) (hns : s₁.heap.Ns mainGlobals mg) (hb : s₁.heap.Ns builtinsNs mb) (hbb : ∀ x : Str, x ≠ "__name__" → mb x = bootBuiltins x) (hlim : s₁.heap.NoLimit) (hg : s₁.gens = #[]) (hbm : BMain mg s₁.heap)
    (hPt : s₁.heap.get? Pt = some (PySem.W.tabObj #[])) (hC : PySem.W.CodeHd s₁.heap c Pt) (hKt : PySem.W.noTabs K = true)
    (ha : s₁.heap.get? a = some { cls := .type "list", data := .seq vs.toArray }) (hi : IntsAre vs ns) (hl : ns.length ≤ sizeLine) (hr : Room k callerA)
    (F : ∀ base : Heap, K.In base → base.Ns mainGlobals mg → BMain mg base → FnOk P w K mg base CX k fa fd [x] sp) (hbind : ∀ (s : Shared) (u : Value), BindsTo s fd ⟨[u], []⟩ [(x, u)])
    (hsp : ∀ H : Hp, SqL K H a (ns.map V.int) → H Pt = some (.tbl #[]) → sp [.ref a] H (fun v _ => v = .bl true) fun _ _ _ => False)
    (hCX : ∀ H e s', CX [] H s₁ (fun _ _ _ => False) e s' → False) :
    codeAny (model P w) callerA (.call (.ref fa) ⟨[.ref a], []⟩) (fun r s' => r = .ok (.ret (.bool true)) ∧ OldK s₁.heap s'.heap ∧ s'.os = s₁.os ∧ AllBare s'.gens) s₁ := by
  have rv := vals_ints hi
  have lenV := hi.length
  have hne : a ≠ Pt := fun z => by rw [z, hPt] at ha; cases ha
  have core : ∀ H : Hp, SqL K H a (ns.map V.int) → HOk P w H s₁.heap → (∀ b, H b = none ∨ (b = a ∧ ∃ o xs, H b = some (.frz o (.lst xs))) ∨ (b = Pt ∧ H b = some (.tbl #[]))) → H Pt = some (.tbl #[]) → (H a ≠ none → K.lookup a = none) →
      codeAny (model P w) callerA (.call (.ref fa) ⟨[.ref a], []⟩) (fun r s' => r = .ok (.ret (.bool true)) ∧ OldK s₁.heap s'.heap ∧ s'.os = s₁.os ∧ AllBare s'.gens) s₁ := by
    intro H hS hok hO hT hK
    have base_of : ∀ {b : Addr} {o : Obj}, s₁.heap.get? b = some o → H b = none → (hidT s₁.heap H).get? b = some o := fun e n => hidT_get e n
    have no : ∀ {b : Addr} {o : Obj}, s₁.heap.get? b = some o → o.cls ≠ .type "list" → o ≠ PySem.W.tabObj #[] → H b = none := fun {b o} e n1 n2 => by
      rcases hO b with z | ⟨rfl, _⟩ | ⟨rfl, _⟩
      · exact z
      · rw [ha] at e; cases e; exact absurd rfl n1
      · rw [hPt] at e; cases e; exact absurd rfl n2
    have noA : ∀ {b : Addr} {o : Obj} {es : Array DictEntry} {ep : Nat}, s₁.heap.get? b = some o → o.data = .dict es ep → H b = none := fun {b o es ep} e d => by
      rcases hO b with z | ⟨rfl, _⟩ | ⟨rfl, _⟩
      · exact z
      · rw [ha] at e; cases e
        have d' : Data.seq vs.toArray _ = Data.dict es ep := d
        cases d'
      · rw [hPt] at e; cases e; cases d
    have nsK : ∀ {b : Addr} {m : Str → Option Value}, s₁.heap.Ns b m → (hidT s₁.heap H).Ns b m := fun {b m} w1_ => w1_.elim fun o z_ => z_.elim fun es z_ => z_.elim fun ep z_ => z_.elim fun e z_ => z_.elim fun d r => ⟨o, es, ep, base_of e (noA e d), d, r⟩
    have hKb : K.In (hidT s₁.heap H) := fun b o e => base_of (KX b o e) (by
      rcases hO b with z | ⟨rfl, o', xs, z⟩ | ⟨rfl, _⟩
      · exact z
      · rw [hK (by rw [z]; simp)] at e; cases e
      · have h1 := KX _ _ e
        rw [hPt] at h1; cases h1
        have h2 := List.all_eq_true.mp hKt (_, _) (PySem.W.mem_of_lookupK e)
        exact absurd (show false = true from h2) Bool.false_ne_true)
    have hbmb : BMain mg (hidT s₁.heap H) := by
      obtain ⟨bm, ob, b1, b2, b3, b4, b5, b6⟩ := hbm
      exact ⟨bm, ob, b1, b2, base_of b3 (no b3 (by rw [b4]; decide) (fun z => by rw [z] at b4; cases b4)), b4, b5, b6⟩
    have hM : Mod K mg (hidT s₁.heap H) := ⟨hKb, nsK hns, ⟨mb, nsK hb, hbb⟩, let ⟨mc, h1, h2⟩ := hlim; ⟨mc, nsK h1, h2⟩⟩
    have e0 : Env0 P w K mg (hidT s₁.heap H) callerA [] s₁ H := ⟨rfl, hM, fun b o e => of_hidT e, Nat.le_of_eq (hidT_size _ _), trivial, fun b hb => absurd (show b ∈ ([] : List Addr) from hb) (by simp), hok, .of_eq hg⟩
    refine codeAny_mono ((F _ hKb (nsK hns) hbmb).run callerA [] s₁ H ⟨[.ref a], []⟩ [.ref a] [.ref a] _ _ hr e0 (hbind s₁ (.ref a)) (.cons rfl .nil) (hsp H hS hT)) fun r s' h => ?_
    cases r with
    | error e => exact (hCX H e s' h).elim
    | ok fl =>
      cases fl with
      | next => exact False.elim h
      | brk => exact False.elim h
      | cont => exact False.elim h
      | ret u =>
        obtain ⟨v, H', os, bare, un, hok', r', q⟩ := h
        have q' : v = .bl true := q
        subst q'
        obtain rfl : u = Value.bool true := r'
        have all : ∀ b o, s₁.heap.get? b = some o → (s'.heap.get? b = some o) ∨ (b = Pt ∧ o = PySem.W.tabObj #[] ∧ ∃ ps, s'.heap.get? b = some (PySem.W.tabObj ps)) := fun b o e => by
          rcases hO b with z | ⟨rfl, ob, xs, z⟩ | ⟨rfl, z⟩
          · exact .inl (un.keep b o e z (by intro z; exact absurd (show b ∈ ([] : List Addr) from z) (by simp)) (by simp))
          · have z2 := un.frzs _ ob _ z
            obtain ⟨e1, _⟩ := hok _ _ z
            obtain ⟨e2, _⟩ := hok' _ _ z2
            rw [e] at e1; cases e1
            exact .inl e2
          · obtain ⟨more, z2⟩ := un.tbls _ _ z
            have e2 : s'.heap.get? b = some (PySem.W.tabObj (#[] ++ more)) := hok' _ _ z2
            rw [hPt] at e; cases e
            exact .inr ⟨rfl, rfl, _, e2⟩
        refine ⟨rfl, ⟨fun b o e => ?_, fun b o e => ?_⟩, os, bare⟩
        · rcases all b o e with z | ⟨rfl, rfl, ps, z⟩
          · exact .inl z
          · exact .inr (.inl ⟨(hC.tab hPt).isCodeTable, rfl, #[], ps, rfl, by rw [Array.empty_append]; exact z⟩)
        · rcases all b o e with z | ⟨_, _, ps, z⟩
          · exact ⟨o, z⟩
          · exact ⟨_, z⟩
  cases hk : K.lookup a with
  | some o =>
    have e := KX a o hk
    rw [ha] at e
    cases e
    refine core (fun b => if b = Pt then some (.tbl #[]) else none) (.inr ⟨_, vs.toArray, _, hk, rfl, rfl, rfl, by rw [List.size_toArray, lenV]; exact hl, by simpa using rv⟩) (fun b u z => ?_) (fun b => ?_) (if_pos rfl) fun z => absurd (if_neg hne) z
    · by_cases hb : b = Pt
      · have z' := (if_pos hb).symm.trans z
        cases z'
        rw [hb]; exact hPt
      · have z' := (if_neg hb).symm.trans z
        cases z'
    · by_cases hb : b = Pt
      · exact .inr (.inr ⟨hb, if_pos hb⟩)
      · exact .inl (if_neg hb)
  | none =>
    refine core (fun b => if b = a then some (.frz { cls := .type "list", data := .seq vs.toArray } (.lst (ns.map V.int))) else if b = Pt then some (.tbl #[]) else none) (.inl (.inr ⟨{ cls := .type "list", data := .seq vs.toArray }, if_pos rfl⟩)) (fun b u z => ?_) (fun b => ?_) ((if_neg (Ne.symm hne)).trans (if_pos rfl)) fun _ => hk
    · by_cases hb : b = a
      · have z' := (if_pos hb).symm.trans z
        cases z'
        subst hb
        exact ⟨ha, by rw [List.length_map]; exact hl, vs, _, rv, ha⟩
      · have z' := (if_neg hb).symm.trans z
        by_cases hb2 : b = Pt
        · have z2 := (if_pos hb2).symm.trans z'
          cases z2
          rw [hb2]; exact hPt
        · have z2 := (if_neg hb2).symm.trans z'
          cases z2
    · by_cases hb : b = a
      · exact .inr (.inl ⟨hb, _, _, if_pos hb⟩)
      · by_cases hb2 : b = Pt
        · exact .inr (.inr ⟨hb2, (if_neg hb).trans (if_pos hb2)⟩)
        · exact .inl ((if_neg hb).trans (if_neg hb2))
noncomputable def spLawT (Pt : Addr) (qual : Str) : SpD := fun ds M Q => ∃ ns : List Int, ds = [.lst (ns.map D.int)] ∧ ns.length ≤ 63 ∧ M Pt = some (.tab qual) ∧ ∀ M', Q (.bl true) M'
theorem law_inT {K : PySem.W.Frag} {H : Hp} {a Pt : Addr} {qual : Str} {ns : List Int} (hl : ns.length ≤ 63) (hS : SqL K H a (ns.map V.int)) (hT : H Pt = some (.tbl #[])) : LiftP K (spLawT Pt qual) [.ref a] H (fun v _ => v = .bl true) fun _ _ _ => False := by
  have ri : ∀ {K : KF} {H : Hp} {M : HpD} (l : List Int), RepDs K H M (l.map D.int) (l.map V.int) := fun {K H M} l => by
    induction l with
    | nil => exact .nil
    | cons x r ih => exact .cons (by unfold RepD; rfl) ih
  refine ⟨fun _ => False, [.lst (ns.map D.int)], updD (fun _ => none) Pt (.tab qual), fun d _ => d = .bl true, .cons ?_ .nil, ⟨fun b o e => ?_, fun _ z => False.elim z⟩, ⟨ns, rfl, hl, updD_same, fun _ => rfl⟩, fun d M' v H' _ _ r e => ?_⟩
  · unfold RepD
    refine ⟨a, _, rfl, ?_, ri ns⟩
    rcases hS with h | h
    · have hne : a ≠ Pt := fun z => by
        rcases h with h | ⟨o, h⟩
        · rw [z, hT] at h; cases h
        · rw [z, hT] at h; cases h
      exact .inl ⟨h, by rw [updD_ne hne], fun z => z⟩
    · exact .inr (.inr h)
  · by_cases q : b = Pt
    · rw [q, updD_same] at e; cases e
      rw [q]
      exact ⟨_, hT, #[], rfl, trivial, fun pos cv z => by cases z⟩
    · rw [updD_ne q] at e; cases e
  · subst e
    unfold RepD at r
    exact r
end L2
namespace L2
open PySem PySem.Spec PyProof.Rows
end L2
namespace L2
open PySem PySem.Spec PyProof.Rows
section
variable {X : Cx}
@[irreducible] noncomputable def cMax1 : RDn := fun xs M Q => ∃ (d : D) (ns : List Int), xs = [d] ∧ listD d M = some (ns.map D.int) ∧ ns ≠ [] ∧ ∀ m, m ∈ ns → (∀ n ∈ ns, n ≤ m) → Q (.int m) M
theorem rd_max1 {d : D} {ns : List Int} {M : HpD} {Q : KD} (h : listD d M = some (ns.map D.int)) (hn : ns ≠ []) (q : ∀ m, m ∈ ns → (∀ n ∈ ns, n ≤ m) → Q (.int m) M) : cMax1 [d] M Q := by unfold cMax1; exact ⟨d, ns, rfl, h, hn, q⟩
theorem cd_max1 (hc : X.calm = true := by rfl) : CallR X (.builtin "max") (LiftC X.K cMax1) := by
  intro pins s σ H xs us Q I rx h
  obtain ⟨F, ds, M, QD, r, rh, hq, pp⟩ := h
  unfold cMax1 at hq
  obtain ⟨d, ns, rfl, hd, hn, q⟩ := hq
  obtain ⟨v, rfl, r1⟩ := rep1 r
  obtain ⟨a, ys, rfl, hs, hr⟩ := list_rep rh r1 hd
  rw [rep_ints hr] at hs
  obtain ⟨u, rfl, ru⟩ := vals1 rx
  cases ru
  refine call_max_walk (walk_list I (A := X.A.in1) (I.ok.hd hc) hs fun it its rv W s₂ hz3 st hit hlt => ?_)
  obtain ⟨h2, e2, k2⟩ := hz3
  subst e2
  have hlen : its.toArray.size = ns.length := by
    have := rv.length
    rw [List.length_map] at this
    rw [List.size_toArray, this]
  have hpos : 0 < ns.length := List.length_pos_iff.mpr hn
  refine ⟨it, _, _, _, _, _, _, rfl, W, st, hlt, by rw [hlen]; exact hpos, CmpOf.ints_gt (fun i => ns.getD i 0) (fun i v hv => vals_int_at rv hv), fun v h' tk hv hk' => ?_⟩
  have I3 : Inv X pins σ H { s with heap := h', toks := tk } := I.kept fun b o eo => hk' b o (fun z => by
    have : b = it := by simpa using z
    rw [this] at eo
    exact absurd (Nat.lt_of_lt_of_le (Heap.lt_size eo) hit) (Nat.lt_irrefl _)) (k2 b o eo)
  rw [hlen] at hv
  obtain ⟨t, rfl⟩ := vals_int_at rv hv
  have hb := best_mem (fun i j => decide (ns.getD i 0 > ns.getD j 0)) (ns.length - 1)
  have hlt2 : argBest (fun i j => decide (ns.getD i 0 > ns.getD j 0)) (ns.length - 1) < ns.length := by omega
  refine ⟨.int _, H, I3, ⟨t, rfl⟩, pp _ M _ H .refl rh (by unfold RepD; rfl) (q _ ?_ fun n hn' => ?_)⟩
  · exact getD_mem hlt2
  · obtain ⟨i, hi, rfl⟩ := List.getElem_of_mem hn'
    have hbb := best_max (fun i => ns.getD i 0) (ns.length - 1) i (by omega)
    rw [← getD_at hi]
    exact hbb
end
end L2
namespace L2
open PySem PySem.Spec PyProof.Rows
end L2
namespace L2
open PySem PySem.Spec PyProof.Rows
section
variable {X : Cx} {pos : Pos}
theorem part_of {v : Value} {o : Option Int} (p : IsPart v o) : ∃ l : Option (Int × Tok), v = partValue l ∧ o = l.map (·.1) := by
  cases p with
  | none => exact ⟨none, rfl, rfl⟩
  | int => exact ⟨some (_, _), rfl, rfl⟩
variable {e : Expr} {te : TDE} {lo hi : Option Expr} {tl th : TDO} {p2 : Pos}
end
end L2
namespace PySem
end PySem
namespace PySem
namespace F
end F
end PySem
namespace L2
open PySem PySem.Spec PyProof.Rows
end L2
namespace PySem
end PySem
namespace L2
open PySem PySem.Spec PyProof.Rows
end L2
namespace L2
open PySem PySem.Spec PyProof.Rows
section
variable {X : Cx} {o : Expr} {lo hi : Option Expr} {pos p2 : Pos}
noncomputable def gSl (to : TE) (tl th : TO) : TG := fun v σ H Q => to σ H fun x H1 => tl σ H1 fun a H2 => th σ H2 fun c H3 => ∃ (l b : Addr) (xs ys : List V) (i j : Nat), x = .ref l ∧ v = .ref b ∧ a = some (i : Int) ∧ c = some (j : Int) ∧ H3 l = some (.lst xs) ∧ H3 b = some (.lst ys) ∧ l ≠ b ∧ i ≤ j ∧ j ≤ xs.length ∧ xs.length + ys.length ≤ sizeLine ∧ Q σ (upd H3 l (.lst (xs.take i ++ ys ++ xs.drop j)))
theorem pg_sl {to : TE} {tl th : TO} (ho : PE X o to) (hl : PO X lo tl) (hu : PO X hi th)
    (ha : ∀ v, assign (.Subscript o (.Slice lo hi none p2) pos) X.env v = (do
      let ov ← holding [v] (eval o X.env)
      let iv ← holding [v, ov] (eval (.Slice lo hi none p2) X.env)
      standAt pos
      holding [v, ov, iv] (setItem ov iv v)
      release [iv, v, ov] []) := by intro _; rfl) : PG X (.Subscript o (.Slice lo hi none p2) pos) (gSl to tl th) := by
  intro pins s σ H v u Q I r h
  rw [ha]
  refine wpAny_bind (wpAny_holding (thn (ho pins s σ H _ I h) fun ov s1 ⟨x, H1, I1, r1, q1⟩ => ?_))
  refine wpAny_bind (wpAny_holding (wpAny_Slice (thn (hl pins s1 σ H1 _ I1 q1) fun vl s2 ⟨l, H2, I2, pl, q2⟩ => thn (hu pins s2 σ H2 _ I2 q2) fun vu s3 ⟨u', H3, I3, pu, q3⟩ => ?_)))
  rw [evalPart_none]
  refine wpAny_pure ?_
  obtain ⟨la, lb, xs, ys, i, j, rfl, rfl, rfl, rfl, hH, hB, hne, hij, hj, hz, q⟩ := q3
  cases r1
  cases r
  have I4 : Inv X pins σ H3 { s3 with heap := s3.heap.push { cls := .type "slice", data := .fields #[vl, vu, .none] } } := I3.kept (t' := s3.toks) fun b ob q => Heap.get?_push_of_some _ q
  obtain ⟨l1, el, el2⟩ := part_of pl
  obtain ⟨u1, eu, eu2⟩ := part_of pu
  have rl : RelV (.int (i : Int)) vl := by
    cases l1 with
    | none => cases el2
    | some z =>
      have e3 : z.1 = (i : Int) := by
        have e4 := el2
        simp at e4
        exact e4.symm
      rw [el, ← e3]
      exact ⟨z.2, rfl⟩
  have ru : RelV (.int (j : Int)) vu := by
    cases u1 with
    | none => cases eu2
    | some z =>
      have e3 : z.1 = (j : Int) := by
        have e4 := eu2
        simp at e4
        exact e4.symm
      rw [eu, ← e3]
      exact ⟨z.2, rfl⟩
  refine wpAny_bind (wpAny_standAt (wpAny_bind (wpAny_holding (set_slice I4 hH hB hne (Heap.IsSliceOf.new ..) rl ru (by omega) (by omega) (by omega) hz fun s5 I5 => ?_))))
  simp only [Int.toNat_natCast] at I5
  exact wpAny_release ⟨σ, _, I5, q⟩
variable {to : TDE} {tl th : TDO}
@[irreducible] noncomputable def gSlD (to : TDE) (tl th : TDO) : TDG := fun v σ M Q => to σ M fun x M1 => tl σ M1 fun a M2 => th σ M2 fun c M3 => ∃ (l b : Addr) (ds es : List D) (i j : Nat), x = .ref l ∧ v = .ref b ∧ a = some (i : Int) ∧ c = some (j : Int) ∧ M3 l = some (.lst ds) ∧ M3 b = some (.lst es) ∧ l ≠ b ∧ i ≤ j ∧ j ≤ ds.length ∧ ds.length + es.length ≤ sizeLine ∧ Q σ (updD M3 l (.lst (ds.take i ++ es ++ ds.drop j)))
theorem rd_gsl {v : D} {σ : SD} {M : HpD} {Q : SD → HpD → Prop} (h : to σ M fun x M1 => tl σ M1 fun a M2 => th σ M2 fun c M3 => ∃ (l b : Addr) (ds es : List D) (i j : Nat), x = .ref l ∧ v = .ref b ∧ a = some (i : Int) ∧ c = some (j : Int) ∧ M3 l = some (.lst ds) ∧ M3 b = some (.lst es) ∧ l ≠ b ∧ i ≤ j ∧ j ≤ ds.length ∧ ds.length + es.length ≤ sizeLine ∧ Q σ (updD M3 l (.lst (ds.take i ++ es ++ ds.drop j)))) : gSlD to tl th v σ M Q := by unfold gSlD; exact h
theorem gd_sl (ho : ED X o to) (hl : PO X lo (LiftO X.K tl)) (hu : PO X hi (LiftO X.K th))
    (ha : ∀ v, assign (.Subscript o (.Slice lo hi none p2) pos) X.env v = (do
      let ov ← holding [v] (eval o X.env)
      let iv ← holding [v, ov] (eval (.Slice lo hi none p2) X.env)
      standAt pos
      holding [v, ov, iv] (setItem ov iv v)
      release [iv, v, ov] []) := by intro _; rfl) : GD X (.Subscript o (.Slice lo hi none p2) pos) (gSlD to tl th) := by
  refine (pg_sl ho hl hu ha).wk fun v σ H Q ⟨F, d, σD, M, QD, rel, r, h, p⟩ => ?_
  unfold gSlD at h
  refine lE rel h fun od M1 ov H1 f1 rel1 r1 h1 => ?_
  refine ⟨F, σD, M1, _, rel1, h1, fun a M2 H2 f2 rh2 h2 => ?_⟩
  have rel2 := rel1.mono f2 rh2
  refine ⟨F, σD, M2, _, rel2, h2, fun c M3 H3 f3 rh3 h3 => ?_⟩
  have rel3 := rel2.mono f3 rh3
  obtain ⟨l, b, ds, es, i, j, rfl, rfl, rfl, rfl, hl3, hb3, hne, hij, hj, hz, q⟩ := h3
  unfold RepD at r1 r
  obtain ⟨o1, e1, xs, rfl, k1⟩ := rh3.at_ l _ hl3
  obtain ⟨o2, e2, ys, rfl, k2⟩ := rh3.at_ b _ hb3
  have r4 : RepO ⟨X.K, F⟩ H3 M3 (.lst (ds.take i ++ es ++ ds.drop j)) (.lst (xs.take i ++ ys ++ xs.drop j)) := ⟨_, rfl, ((k1.take i).append k2).append (k1.drop j)⟩
  exact ⟨l, b, xs, ys, i, j, r1, r, rfl, rfl, e1, e2, hne, hij, by rw [← k1.length]; exact hj, by rw [← k1.length, ← k2.length]; exact hz, p _ _ _ _ (((f1.trans f2).trans f3).trans (fz_write hl3)) (rel3.mono (fz_write hl3) (rh3.write hl3 r4)) q⟩
end
end L2
namespace L2
open PySem PySem.Spec PyProof.Rows
theorem ObjOk.ex {P : Program} {w : World} {H : Hp} {h : Heap} {a : Addr} {o : HO} (x : ObjOk P w H h a o) : ∃ ob, h.get? a = some ob := by
  cases o with
  | lst xs => obtain ⟨_, _, _, _, e⟩ := x; exact ⟨_, e⟩
  | tup xs => obtain ⟨_, _, _, ob, e, _⟩ := x; exact ⟨_, e⟩
  | dK kvs => obtain ⟨_, _, _, _, o, _, _, e, _⟩ := x; exact ⟨_, e⟩
  | dT kvs => obtain ⟨_, _, _, _, o, _, _, e, _⟩ := x; exact ⟨_, e⟩
  | set S n => obtain ⟨o, _, _, _, e, _⟩ := x; exact ⟨_, e⟩
  | ins C dx fs => obtain ⟨_, _, _, e, _⟩ := x; exact ⟨_, e⟩
  | own y => exact x
  | xd fs => obtain ⟨_, ⟨_, _, _, e, _⟩, _⟩ := x; exact ⟨_, e⟩
  | rng lo hi => obtain ⟨_, _, _, e⟩ := x; exact ⟨_, e⟩
  | frz ob u => obtain ⟨e, _⟩ := x; exact ⟨_, e⟩
  | tbl ps => exact ⟨_, (show h.get? a = some _ from x)⟩
  | met f y => exact ⟨_, (show h.get? a = some _ from x)⟩
  | ext φ => obtain ⟨_, e, _⟩ := x; exact e
noncomputable def CXb (P : Program) (w : World) (C : Addr) : CXT := fun outer H s E e s' =>
  ∃ (H' : Hp) (a t : Addr) (B : Heap), e = .ref a ∧ s'.os = s.os ∧ AllBare s'.gens ∧ Un (frs outer) [] H H' s.heap s'.heap ∧ HOk P w H' s'.heap ∧ Heap.FlyingW B outer a (.ref C) (.ref t) s'.heap ∧
    (∀ b o, s'.heap.get? b = some o → (s.heap.get? b ≠ none ∨ H' b ≠ none) → b ∉ frs outer → B.get? b = some o) ∧ E e none H'
section
variable {P : Program} {w : World} {K : PySem.W.Frag} {mg : Str → Option Value} {base : Heap} {C : Addr} {N : List Str} {qual : Str} {scope : Scope} {f : Addr} {cd : Value} {A : Around} {outer : List Env} {s₀ s : Shared} {H₀ H : Hp} {E₀ : XK} {pins : List (Addr × Obj)} {σ : St}
theorem frs_cons {env : Env} {L : Addr} {l : List Env} (h : env.frame = some L) : frs (env :: l) = L :: frs l := by unfold frs; rw [List.filterMap_cons, h]
theorem fly_out {a t : Addr} {B : Heap} {h' : Heap} {H' : Hp} {hm : Heap} {os : OsState} {g : Array GenState} {s' : Shared}
    (ho : s'.os = s₀.os) (hg : AllBare s'.gens)
    (u : Un (frs outer) [] H₀ H' s₀.heap hm) (hok : HOk P w H' hm) (cov : ∀ b o, hm.get? b = some o → (s₀.heap.get? b ≠ none ∨ H' b ≠ none) → b ∉ frs outer → B.get? b = some o)
    (fly : Heap.FlyingW B outer a (.ref C) (.ref t) h') (slots : ∀ b o, hm.get? b = some o → (∀ vs, o.data ≠ .fields vs) → ∃ sl, h'.get? b = some { o with slots := sl })
    (fr : ∀ b ∈ frs outer, ∃ o, s₀.heap.get? b = some o ∧ H₀ b = none ∧ ∀ vs, o.data ≠ .fields vs) (hE : E₀ (.ref a) none H') (hs : s'.heap = h') :
    CXb P w C outer H₀ s₀ E₀ (.ref a) s' := by
  subst hs
  have stay : ∀ b o, hm.get? b = some o → (s₀.heap.get? b ≠ none ∨ H' b ≠ none) → b ∉ frs outer → s'.heap.get? b = some o := fun b o q d n => fly.1 b o (cov b o q d n)
  have nf : ∀ b, H' b ≠ none → b ∉ frs outer := fun b d z => by
    obtain ⟨o, q, n, _⟩ := fr b z
    exact d (u.free b o q n (by simp))
  have tr : ∀ b, H' b ≠ none → ∃ o, hm.get? b = some o := fun b d => by
    cases q : H' b with
    | none => exact absurd q d
    | some x => exact (hok b x q).ex
  refine ⟨H', a, t, B, rfl, ho, hg, ⟨?_, ?_, u.free, ?_, u.tups, u.frzs, u.tbls⟩, fun b x e => ?_, fly, fun b o q d n => ?_, hE⟩
  · exact fun b o q n h1 h2 => stay b o (u.keep b o q n h1 h2) (.inl (by rw [q]; exact fun z => nomatch z)) h1
  · intro b o q n h1 h2
    obtain ⟨sl, e⟩ := u.slot b o q n h1 h2
    obtain ⟨o', q', _, hd⟩ := fr b h1
    rw [q] at q'; cases q'
    obtain ⟨sl', e'⟩ := slots b _ e hd
    exact ⟨sl', e'⟩
  · intro b o q h2
    obtain ⟨o', e⟩ := u.there b o q h2
    by_cases hb : b ∈ frs outer
    · obtain ⟨o2, q', n, hd⟩ := fr b hb
      rw [q] at q'; cases q'
      obtain ⟨sl, e2⟩ := u.slot b o q n hb h2
      obtain ⟨sl', e'⟩ := slots b _ e2 hd
      exact ⟨_, e'⟩
    · exact ⟨o', stay b o' e (.inl (by rw [q]; exact fun z => nomatch z)) hb⟩
  · have d : H' b ≠ none := by rw [e]; exact fun z => nomatch z
    refine (hok b x e).stay (fun c v hc q => ?_) (fun _ q => q) fun _ _ q => q
    rcases hc with rfl | hc
    · exact stay c v q (.inr d) (nf c d)
    · have dc : H' c ≠ none := by rw [hc]; exact fun z => nomatch z
      exact stay c v q (.inr dc) (nf c dc)
  · by_cases hm' : ∃ o', hm.get? b = some o'
    · obtain ⟨o', q'⟩ := hm'
      have e := cov b o' q' d n
      have := fly.1 b o' e
      rw [q] at this; cases this
      exact e
    · exfalso
      rcases d with d | d
      · cases q0 : s₀.heap.get? b with
        | none => exact d q0
        | some o0 =>
          obtain ⟨o', e⟩ := u.there b o0 q0 (by simp)
          exact hm' ⟨o', e⟩
      · exact hm' (tr b d)
noncomputable def cxE (CX : CXT) (P : Program) (w : World) (K : PySem.W.Frag) (mg : Str → Option Value) (base : Heap) (N : List Str) (env : Env) (fn : Str → Bool) (A : Around) (outer : List Env) (s : Shared) (H : Hp) (E : XK) : Cx where
  prog := P
  w := w
  K := K
  mg := mg
  base := base
  A := A.deeper env
  N := N
  s₀ := s
  H₀ := H
  env := env
  outer := outer
  stack := env :: outer
  ex := []
  calm := true
  fn := fn
  pn := []
  xe := fun e s' => wpAny (model P w) (A.deeper env) (leaving env e) (fun _ s'' => CX outer H s E e s'') (fun e' s'' => CX outer H s E e' s'') s'
section
variable {env : Env} {fn : Str → Bool}
theorem outer_fr (I : Inv (cxE (CXb P w C) P w K mg base N env fn A outer s₀ H₀ E₀) pins σ H s) : ∀ b ∈ frs outer, ∃ o, s₀.heap.get? b = some o ∧ H₀ b = none ∧ ∀ vs, o.data ≠ .fields vs := fun b hb => by
  obtain ⟨_, o, e, hd⟩ := I.ok.funs.mem hb
  exact ⟨o, e, I.ok.frf b hb, hd⟩
theorem raise_flyE {e : Addr} {vs : List Value} {h' : Heap} (hl : env.locals = s₀.heap.objs.size) (hf : env.frame = some s₀.heap.objs.size) (I : Inv (cxE (CXb P w C) P w K mg base N env fn A outer s₀ H₀ E₀) pins σ H s) (hx : Heap.MadeExcOf s.heap h' e (.ref C) vs) (hE : E₀ (.ref e) none H) :
    (cxE (CXb P w C) P w K mg base N env fn A outer s₀ H₀ E₀).xe (.ref e) { s with heap := h' } := by
  have nin : ∀ b, s₀.heap.get? b ≠ none → b ≠ s₀.heap.objs.size := fun b d z => by
    cases q : s₀.heap.get? b with
    | none => exact d q
    | some o => have := Heap.lt_size q; rw [z] at this; exact Nat.lt_irrefl _ this
  have hfree : H s₀.heap.objs.size = none := by rw [← hl]; exact I.free
  refine wpAny_leaves_madeW (base := PySem.W.hideAll s.heap (frs (env :: outer))) I.ok.frames hf (fun b o q => PySem.W.of_hideAll _ q) (PySem.W.funFrames_hide (base := base) I.stack fun env' he b hb => List.mem_filterMap.mpr ⟨env', he, hb⟩) hx fun h2 t fly tup nt slots => ?_
  refine fly_out (s₀ := s₀) (H' := H) (hm := s.heap) (B := PySem.W.hideAll s.heap (frs (env :: outer))) (os := s.os) (g := s.gens) I.os I.bare I.base I.hok (fun b o q d n => PySem.W.hideAll_get _ q fun z => ?_) fly (fun b o q hd => ?_) (outer_fr I) hE rfl
  · rw [frs_cons hf] at z
    rcases List.mem_cons.mp z with rfl | z
    · rcases d with d | d
      · exact nin _ d rfl
      · exact d hfree
    · exact n z
  · exact slots b o (hx.keeps b o q) hd
theorem pass_bE (hl : env.locals = s₀.heap.objs.size) (hf : env.frame = some s₀.heap.objs.size) : Passes (CXb P w C) (cxE (CXb P w C) P w K mg base N env fn A outer s₀ H₀ E₀) E₀ := by
  intro pins σ H s e s' I h
  obtain ⟨H', a, t, B, rfl, ho, hg, u, hok, fly, cov, hE⟩ := h
  have nin : ∀ b, s₀.heap.get? b ≠ none → b ≠ s₀.heap.objs.size := fun b d z => by
    cases q : s₀.heap.get? b with
    | none => exact d q
    | some o => have := Heap.lt_size q; rw [z] at this; exact Nat.lt_irrefl _ this
  have ns : ∀ b, s₀.heap.get? b ≠ none → b ∉ frs outer → b ∉ frs (env :: outer) := fun b d n z => by
    rw [frs_cons hf] at z
    rcases List.mem_cons.mp z with z | z
    · exact nin b d z
    · exact n z
  have some_ : ∀ {b : Addr} {o : Obj}, s₀.heap.get? b = some o → s₀.heap.get? b ≠ none := fun q => by rw [q]; exact fun z => nomatch z
  refine wpAny_leaves_onW (I.ok.frames) hf fly fun h2 fly2 slots => ?_
  have un : Un (frs outer) [] H₀ H' s₀.heap s'.heap := by
    refine ⟨fun b o q n h1 h2 => ?_, fun b o q n h1 h2 => ?_, fun b o q n h2 => ?_, fun b o q h2 => ?_, fun b xs q => u.tups b xs (I.base.tups b xs q), fun b o x q => u.frzs b o x (I.base.frzs b o x q), fun b ps q => ?_⟩
    · exact u.keep b o (I.base.keep b o q n h1 h2) (I.base.free b o q n h2) (ns b (some_ q) h1) h2
    · obtain ⟨sl, e1⟩ := I.base.slot b o q n h1 h2
      obtain ⟨sl', e2⟩ := u.slot b _ e1 (I.base.free b o q n h2) (show b ∈ frs (env :: outer) from by rw [frs_cons hf]; exact List.mem_cons_of_mem _ h1) h2
      exact ⟨sl', e2⟩
    · obtain ⟨o', e1⟩ := I.base.there b o q h2
      exact u.free b o' e1 (I.base.free b o q n h2) h2
    · obtain ⟨o', e1⟩ := I.base.there b o q h2
      exact u.there b o' e1 h2
    · obtain ⟨m1, e1⟩ := I.base.tbls b ps q
      obtain ⟨m2, e2⟩ := u.tbls b _ e1
      exact ⟨m1 ++ m2, by rw [e2, Array.append_assoc]⟩
  refine fly_out (s₀ := s₀) (H' := H') (hm := s'.heap) (B := B) (os := s'.os) (g := s'.gens) (ho.trans I.os) hg un hok (fun b o q d n => ?_) fly2 slots (outer_fr I) hE rfl
  refine cov b o q ?_ ?_
  · rcases d with d | d
    · left
      cases q0 : s₀.heap.get? b with
      | none => exact absurd q0 d
      | some o0 =>
        obtain ⟨o1, e1⟩ := I.base.there b o0 q0 (fun z => nomatch z)
        rw [e1]; exact fun z => nomatch z
    · exact .inr d
  · rcases d with d | d
    · exact ns b d n
    · intro z
      have z : b ∈ frs (env :: outer) := z
      rw [frs_cons hf] at z
      rcases List.mem_cons.mp z with rfl | z
      · obtain ⟨m, ⟨ol, es, ep, hol, _⟩, _⟩ := I.loc
        have hol : s.heap.get? s₀.heap.objs.size = some ol := by rw [← hl]; exact hol
        exact d (u.free _ _ hol (by rw [← hl]; exact I.free) (fun z => nomatch z))
      · exact n z
end
noncomputable abbrev cxB (C : Addr) (P : Program) (w : World) (K : PySem.W.Frag) (mg : Str → Option Value) (base : Heap) (N : List Str) (qual : Str) (scope : Scope) (f : Addr) (cd : Value) (A : Around) (outer : List Env) (s : Shared) (H : Hp) (E : XK) : Cx := cxOf (CXb P w C) P w K mg base N qual scope f cd A outer s H E
theorem raise_fly {e : Addr} {vs : List Value} {h' : Heap} (I : Inv (cxB C P w K mg base N qual scope f cd A outer s₀ H₀ E₀) pins σ H s) (hx : Heap.MadeExcOf s.heap h' e (.ref C) vs) (hE : E₀ (.ref e) none H) :
    (cxB C P w K mg base N qual scope f cd A outer s₀ H₀ E₀).xe (.ref e) { s with heap := h' } := raise_flyE (env := envOfC qual scope s₀.heap.objs.size f cd) (fn := fun _ => true) rfl rfl I hx hE
theorem pass_b : Passes (CXb P w C) (cxB C P w K mg base N qual scope f cd A outer s₀ H₀ E₀) E₀ := pass_bE (env := envOfC qual scope s₀.heap.objs.size f cd) (fn := fun _ => true) rfl rfl
end
end L2
namespace L2
open PySem PySem.Spec PyProof.Rows
noncomputable abbrev bmVE : List Value := [.type "ValueError", .type "Exception", .type "BaseException", .type "object"]
noncomputable def ExcC (base : Heap) (C : Addr) (bm : List Value) : Prop :=
  ∃ (nm q : Str) (N : Addr) (bs : List Value) (hdct : Bool) (sn : List Str) (sub : List Value) (ab : Bool) (col : Option Bool) (dd : Option Addr) (k0 k1 k2 k3 k5 : Option Value) (mN : Str → Option Value),
    base.get? C = some (excClassObj nm q C N bs bm hdct sn sub ab col dd k0 k1 k2 k3 k5 "ValueError.__new__") ∧ base.Ns N mN ∧ mN "__init__" = none ∧ OwnTail base bmVE bm
section
variable {P : Program} {w : World} {K : PySem.W.Frag} {mg : Str → Option Value} {base : Heap} {C : Addr} {bm : List Value} {N : List Str} {qual : Str} {scope : Scope} {f : Addr} {cd : Value} {A : Around} {outer : List Env} {s₀ : Shared} {H₀ : Hp} {E₀ : XK}
theorem ps_raise {x : Str} {np cpos pos : Pos} {e : Expr} {es : List Expr} {ta : TA} (hc : ExcC base C bm) (hm : mg x = some (.ref C)) (hg : Gl (cxB C P w K mg base N qual scope f cd A outer s₀ H₀ E₀) x) (ha : PA (cxB C P w K mg base N qual scope f cd A outer s₀ H₀ E₀) (e :: es) ta) (hE : ∀ e H, E₀ e none H)
    (he : starEach (e :: es) (envOfC qual scope s₀.heap.objs.size f cd) = (false, eval e (envOfC qual scope s₀.heap.objs.size f cd)) :: starEach es (envOfC qual scope s₀.heap.objs.size f cd) := by rfl)
    (hpl : (backTo cpos (starEach es (envOfC qual scope s₀.heap.objs.size f cd))).any (·.1) = false := by rfl) (hdb : (x == ("__debug__" : Str)) = false := by decide) :
    PS (cxB C P w K mg base N qual scope f cd A outer s₀ H₀ E₀) (.Raise (some (.Call (.Name x np) (e :: es) [] cpos)) none pos) (fun _ σ H => ta σ H fun vs _ => vs.length ≤ sizeLine) := by
  intro pins s σ H D I h
  obtain ⟨nm, q, N', bs, hdct, sn, sub, ab, col, dd, k0, k1, k2, k3, k5, mN, c1, c2, c3, c4⟩ := hc
  have hbase : bm.contains (.type "BaseException") = true := c4.hasType (X := "BaseException") (by decide)
  refine wpAny_Raise_call_subU (C := C) (nm := nm) (q := q) (N := N') (bs := bs) (hdct := hdct) (sn := sn) (sub := sub) (ab := ab) (col := col) (dd := dd) (k0 := k0) (k1 := k1) (k2 := k2) (k3 := k3) (k5 := k5) PySem.F.excBase_ValueError (by decide) PySem.F.excBase_ValueError hbase (I.ok.hd rfl) (by
    show (backTo cpos (starEach (e :: es) (envOfC qual scope s₀.heap.objs.size f cd))).any (·.1) = false
    rw [he]
    show (false || (backTo cpos (starEach es (envOfC qual scope s₀.heap.objs.size f cd))).any (·.1)) = false
    rw [hpl]; rfl) c3 ?_
  refine ld_glob I hg hm ⟨rfl, ?_⟩ hdb
  have hA := ha cpos pins s σ H _ I h
  have he' : starEach (e :: es) (cxB C P w K mg base N qual scope f cd A outer s₀ H₀ E₀).env = (false, eval e (envOfC qual scope s₀.heap.objs.size f cd)) :: starEach es (envOfC qual scope s₀.heap.objs.size f cd) := he
  rw [he'] at hA ⊢
  refine Calls.evalArgs_plain (thnA hA fun us s1 vs H1 I1 r1 hl => ⟨rfl, by rw [← r1.length]; exact hl, I1.bk _ _ c1, c2.keeps I1.bk, c4.keeps I1.bk, fun h' a hx => raise_fly I1 hx (hE _ _)⟩)
@[irreducible] noncomputable def tRaiseD (ta : TDA) : TSD := fun _ σ M => ta σ M fun ds _ => ds.length ≤ 1000
theorem rd_raise {ta : TDA} {DD : EndsD} {σ : SD} {M : HpD} (h : ta σ M fun ds _ => ds.length ≤ 1000) : tRaiseD ta DD σ M := by unfold tRaiseD; exact h
theorem sd_raise {x : Str} {np cpos pos : Pos} {e : Expr} {es : List Expr} {ta : TDA} (hc : ExcC base C bm) (hm : mg x = some (.ref C)) (hg : Gl (cxB C P w K mg base N qual scope f cd A outer s₀ H₀ E₀) x) (ha : AD (cxB C P w K mg base N qual scope f cd A outer s₀ H₀ E₀) (e :: es) ta) (hE : ∀ e H, E₀ e none H)
    (he : starEach (e :: es) (envOfC qual scope s₀.heap.objs.size f cd) = (false, eval e (envOfC qual scope s₀.heap.objs.size f cd)) :: starEach es (envOfC qual scope s₀.heap.objs.size f cd) := by rfl)
    (hpl : (backTo cpos (starEach es (envOfC qual scope s₀.heap.objs.size f cd))).any (·.1) = false := by rfl) (hdb : (x == ("__debug__" : Str)) = false := by decide) :
    StD (cxB C P w K mg base N qual scope f cd A outer s₀ H₀ E₀) (.Raise (some (.Call (.Name x np) (e :: es) [] cpos)) none pos) (tRaiseD ta) := by
  refine (ps_raise hc hm hg ha hE he hpl hdb).wk fun D' σ H z => ?_
  obtain ⟨F, σD, M, DD, rel, h, p⟩ := z
  unfold tRaiseD at h
  refine lA rel h fun d M1 v H1 f1 rel1 r1 h1 => ?_
  have sl : 1000 ≤ sizeLine := by rw [sizeLine_eq]; decide
  rw [← r1.length]
  exact Nat.le_trans h1 sl
noncomputable abbrev SpB := List D → HpD → Prop
noncomputable def LiftB (K : PySem.W.Frag) (sp : SpB) : Sp := fun vs H _ E => (∃ F ds M, RepDs ⟨K, F⟩ H M ds vs ∧ RepH ⟨K, F⟩ H M ∧ sp ds M) ∧ ∀ e H', E e none H'
noncomputable def CalB (C : Addr) (P : Program) (w : World) (K : PySem.W.Frag) (mg : Str → Option Value) (base : Heap) (x : Str) (k : Nat) (sp : SpB) : Prop :=
  ∃ (f : Addr) (fd : FuncData) (ps : List Str), FnOk P w K mg base (CXb P w C) k f fd ps (LiftB K sp) ∧ mg x = some (.ref f) ∧ PySem.W.keepIn K (.ref f) = true ∧ Binds K fd ps []
@[irreducible] noncomputable def tCallB (sp : SpB) (ta : TDA) : TDE := fun σ M _ => ta σ M fun ds M1 => sp ds M1
theorem rd_callB {sp : SpB} {ta : TDA} {σ : SD} {M : HpD} {Q : KD} (h : ta σ M fun ds M1 => sp ds M1) : tCallB sp ta σ M Q := by unfold tCallB; exact h
theorem ed_callB' {x : Str} {p pos : Pos} {k : Nat} {e : Expr} {es : List Expr} {sp : SpB} {t : TDA} (hc : CalB C P w K mg base x k sp) (hr : Room k (cxB C P w K mg base N qual scope f cd A outer s₀ H₀ E₀).A) (hg : Gl (cxB C P w K mg base N qual scope f cd A outer s₀ H₀ E₀) x)
    (ha : AD (cxB C P w K mg base N qual scope f cd A outer s₀ H₀ E₀) (e :: es) t) (hE : ∀ e H, E₀ e none H) (hdb : (x == ("__debug__" : Str)) = false := by decide)
    (he : starEach (e :: es) (cxB C P w K mg base N qual scope f cd A outer s₀ H₀ E₀).env = (false, eval e (cxB C P w K mg base N qual scope f cd A outer s₀ H₀ E₀).env) :: starEach es (cxB C P w K mg base N qual scope f cd A outer s₀ H₀ E₀).env := by rfl)
    (hpl : (backTo pos (starEach es (cxB C P w K mg base N qual scope f cd A outer s₀ H₀ E₀).env)).any (·.1) = false := by rfl) :
    ED (cxB C P w K mg base N qual scope f cd A outer s₀ H₀ E₀) (.Call (.Name x p) (e :: es) [] pos) (tCallB sp t) := by
  obtain ⟨g, fd, ps, F, hm, hk, hb⟩ := hc
  refine (pe_call F hr hg hm hk hb .nil pass_b ha hdb he hpl).wk fun σ H Q z => ?_
  obtain ⟨F', σD, M, QD, rel, h, p⟩ := z
  unfold tCallB at h
  refine lA rel h fun d M1 v H1 f1 rel1 r1 h1 => ?_
  refine ⟨⟨F', d, M1, ?_, rel1.hp, h1⟩, hE⟩
  rw [List.append_nil]; exact r1
theorem Fun.okB {x qual : Str} {st : Stmt} {f : Addr} {fd : FuncData} {N ps : List Str} {k : Nat} {sp : SpB} {t : TSD} (F : Fun K x qual st f fd) (S : FnScope N ps (defScope st)) (len : ∀ ds M, sp ds M → ds.length = ps.length)
    (hbody : ∀ (cdv : Value) (A : Around) (outer : List Env) (s : Shared) (H : Hp) (E : XK), (∀ e H', E e none H') → Room k (A.deeper (envOfC qual (defScope st) s.heap.objs.size f cdv)) → SsD (cxB C P w K mg base N qual (defScope st) f cdv A outer s H E) (defBody st) t)
    (hread : ∀ ds M, sp ds M → t { nx := fun _ _ => False, rt := fun _ _ => False } (startD N ds) M) : FnOk P w K mg base (CXb P w C) (k + 1) f fd ps (LiftB K sp) := by
  obtain ⟨oc, od, kV, doc, pm, an, cdv, ct, osl, rfl, lk, hcd⟩ := F.ex
  refine fn_of lk hcd S (fun vs H Q E h => ?_) fun A outer s H vs Q E hr hsp => ?_
  · obtain ⟨⟨F', ds, M, r, rh, h⟩, _⟩ := h
    rw [← r.length]; exact len ds M h
  · obtain ⟨⟨F', ds, M, r, rh, h⟩, hE⟩ := hsp
    refine ⟨_, hbody cdv A outer s H E hE hr, F', startD N ds, M, _, start_rel r rh, hread ds M h, ⟨fun _ _ _ _ _ _ h => h.elim, fun _ _ _ _ _ _ _ h => h.elim, fun _ _ _ _ _ _ h => h.elim, fun _ _ _ _ _ _ h => h.elim⟩⟩
end
end L2
namespace L2
open PySem PySem.Spec PyProof.Rows
noncomputable abbrev envL (qual : Str) (scope : Scope) (clos : List (Str × Addr)) (L f : Addr) (c' : Addr) : Env := newEnv scope L mainGlobals clos (qual ++ ".<locals>.") (some f) (.ref c') none builtinsNs
theorem clo_run {CX : CXT} {P : Program} {w : World} {K : PySem.W.Frag} {mg : Str → Option Value} {base : Heap} {k : Nat} {f c' : Addr} {name qual : Str} {params : Arguments} {body : Expr} {scope : Scope} {clos : List (Str × Addr)} {pm ctv : Value} {N : List Str} {te : TE} {σ : St}
    {A : Around} {outer : List Env} {s : Shared} {H : Hp} {Q : VK} {E : XK} (hr : Room (k + 1) A) (e0 : Env0 P w K mg base A outer s H)
    (ho : s.heap.get? f = some (PySem.W.kla_obj name qual params body scope clos pm c' ctv)) (hcd : s.heap.CodeRec (.ref c') qual) (hk : scope.kind = .function) (hco : scope.isCoroutine = false) (hgen : scope.isGenerator = false)
    (hcell : ∀ x ∈ scope.names, x.2 ≠ .cell) (hb : bindArgs (PySem.W.kla_fn name qual params body scope clos pm (.ref c') ctv) ⟨[], []⟩ = pure [])
    (hvar : ∀ (i : Nat) (x : Str) (v : V), N[i]? = some x → σ[i]? = some (some v) → ∃ u c, RelV v u ∧ scope.names.lookup x = some .free ∧ clos.lookup x = some c ∧ s.heap.IsCell c (some u))
    (hcl : ∀ x c, clos.lookup x = some c → (∃ v, s.heap.IsCell c v) ∧ H c = none) (inj : ∀ x y c, clos.lookup x = some c → clos.lookup y = some c → x = y)
    (has : ∀ x, scope.names.lookup x = some .free → ∃ c, clos.lookup x = some c) (hlen : σ.length = N.length)
    (hterm : PE (cxE CX P w K mg base N (envL qual scope clos s.heap.objs.size f c') (fun _ => false) A outer s H E) body te) (ht : te σ H Q) :
    codeAny (model P w) A (.call (.ref f) ⟨[], []⟩) (CR CX outer P w H s Q E) s := by
  have lim : s.heap.NoLimit := e0.mod.nolimit.keeps fun b o e => (e0.bs b o e).1
  refine PySem.W.kla_callFunE hr.depth ho rfl hco hgen rfl hcd ?_
  rw [hb]
  refine wpAny_pure (wpAny_newFunctionEnv hcell (fun x hx => nomatch hx) (fun h' hns sb => ?_) hk)
  have kp : ∀ b o, s.heap.get? b = some o → h'.get? b = some o := fun b o e => by
    rw [sb.2 b (Nat.ne_of_lt (Heap.lt_size e))]
    exact Heap.get?_push_of_some _ e
  refine ⟨lim.keeps kp, PySem.W.kla_codeExpr ?_⟩
  have noc : ∀ x, (envL qual scope clos s.heap.objs.size f c').kindOf x ≠ some .cell := fun x z => by
    have z : scope.names.lookup x = some .cell := z
    exact hcell _ (PySem.mem_of_lookup z) rfl
  have I : Inv (cxE CX P w K mg base N (envL qual scope clos s.heap.objs.size f c') (fun _ => false) A outer s H E) [] σ H { s with heap := h', toks := s.toks + ([] : List (Str × Value)).length } := by
    refine ⟨⟨e0.mod, hk, rfl, rfl, Nat.le_refl _, inj, fun x hx => ?_, fun x c z => (by cases z), fun _ => hr.hd, Around.frames_deeper e0.frames, .inr ⟨rfl, rfl⟩, fun b z => (nomatch z), e0.bs, e0.bsz, fun b _ _ z => (nomatch z), fun b z => (nomatch z), e0.funs, e0.frf⟩, rfl, e0.bare, Un.kept kp,
      ⟨_, hns, fun i x v e1 e2 _ => ?_⟩, fun x c e => ?_, e0.hok.fresh (Nat.le_refl _), fun x c e => (hcl x c e).2, fun p hp => (nomatch hp), e0.hok.kept kp, hlen⟩
    · rcases hx with hx | hx
      · exact absurd hx (noc x)
      · exact has x hx
    · obtain ⟨u, c, r1, r2, r3, r4⟩ := hvar i x v e1 e2
      refine ⟨u, r1, .inr ⟨.inr r2, c, r3, ?_⟩⟩
      obtain ⟨o, q1, q2⟩ := r4
      exact ⟨o, kp _ _ q1, q2⟩
    · obtain ⟨v, o, q1, q2⟩ := (hcl x c e).1
      exact ⟨v, o, kp _ _ q1, q2⟩
  refine wpAny_mono (hterm [] _ σ H Q I ht) (fun v s' hz => ?_) fun e s' hz => hz
  obtain ⟨v', H', J, rv, q⟩ := hz
  exact ⟨v', H', J.os, J.bare, J.base, J.hok, rv, q⟩
end L2
namespace L2
open PySem PySem.Spec PyProof.Rows
noncomputable def Quiet (h : Heap) (H Hq : Hp) : Prop :=
  (∀ b, H b = none → Hq b = none) ∧ ∀ b u, H b = some u → Hq b = none ∨ (∃ o u', h.get? b = some o ∧ Hq b = some (.frz o u')) ∨ ∃ xs, u = .tup xs ∧ Hq b = some (.tup xs)
end L2
namespace L2
open PySem PySem.Spec PyProof.Rows
@[irreducible] noncomputable def tFstD (te : TDE) : TDE := fun σ M Q => te σ M fun d M1 => ∃ i : Int, d = .int i ∧ i.natAbs < 10 ^ 100 ∧ ∀ x : Str, Q (.str x) M1
theorem rd_fst {te : TDE} {σ : SD} {M : HpD} {Q : KD} (h : te σ M fun d M1 => ∃ i : Int, d = .int i ∧ i.natAbs < 10 ^ 100 ∧ ∀ x : Str, Q (.str x) M1) : tFstD te σ M Q := by unfold tFstD; exact h
section
variable {X : Cx} {e : Expr} {te : TDE} {a b : Str} {k k2 : Nat} {p1 p2 p3 pos : Pos}
theorem text_len {a : Int} (h : a.natAbs < 10 ^ 100) : (Str.ofString (toString a)).length ≤ 1000 := by
  have e := int_text_length_le10 (k := 100) (by decide) h
  clear h
  rw [PySem.ofString_length]; omega
theorem log_small {n : Nat} (h : n < 10 ^ 100) : n.log2 < 1920 := by
  by_cases z : n = 0
  · subst z; decide
  · rw [Nat.log2_lt z]
    exact Nat.lt_of_lt_of_le h (Nat.le_trans (show 10 ^ 100 ≤ 2 ^ 400 from Nat.le_of_ble_eq_true rfl) (Nat.pow_le_pow_right (by decide) (by decide)))
theorem ed_fst2 (ha : a.length ≤ 1000) (he : ED X e te) : ED X (.JoinedStr [.Constant (.str a) k p1, .FormattedValue e (-1) none p2] pos) (tFstD te) := by
  intro pins s σ H Q I h
  obtain ⟨F, σD, M, QD, rel, h, pp⟩ := h
  unfold tFstD at h
  have sl : 3000 ≤ sizeLine := by rw [sizeLine_eq]; decide
  refine wpAny_JoinedStr ?_
  show wpAny _ _ (eval (.Constant (.str a) k p1) X.env) (fun v s₁ => ∃ y t, v = .str y t ∧ _ ∧ wpAny _ _ (eval (.FormattedValue e (-1) none p2) X.env) _ _ s₁) _ s
  refine thn (pe_str (X := X) pins s σ H (fun v H1 => v = .str a ∧ H1 = H) I ⟨rfl, rfl⟩) fun u s1 z => ?_
  obtain ⟨v, H1, I1, r1, rfl, rfl⟩ := z
  obtain ⟨t1, rfl⟩ := r1
  have hlen : (Str.empty ++ a).length ≤ 1000 := by rw [strLen_append]; show 0 + a.length ≤ 1000; omega
  refine ⟨a, t1, rfl, by omega, ?_⟩
  refine wpAny_FormattedValue_plain ?_
  refine thn (he pins s1 σ H1 (fun v H2 => ∃ i : Int, v = .int i ∧ i.natAbs < 10 ^ 100 ∧ ∀ x : Str, Q (.str x) H2) I1 ?_) fun u2 s2 z => ?_
  · refine lE rel h fun d M1 v H2 f1 rel1 r1 h1 => ?_
    obtain ⟨i, rfl, hi, q⟩ := h1
    unfold RepD at r1
    exact ⟨i, r1, hi, fun x => pp _ M1 _ H2 f1 rel1.hp (by unfold RepD; rfl) (q x)⟩
  obtain ⟨v, H2, I2, r2, i, rfl, hi, q⟩ := z
  obtain ⟨t2, rfl⟩ := r2
  have hl2 := text_len hi
  refine wpAny_formatField_int (log_small hi) ⟨_, _, rfl, ?_, ?_, ?_⟩
  · rw [strLen_append]; exact Nat.le_trans (Nat.add_le_add hlen hl2) (by omega)
  · rw [strLen_append]; exact Nat.le_trans (Nat.add_le_add hlen hl2) (by omega)
  · exact ⟨.str _, H2, (I2.tok _).tok _, ⟨_, rfl⟩, q _⟩
theorem ed_fst3 (ha : a.length ≤ 1000) (hb : b.length ≤ 1000) (he : ED X e te) : ED X (.JoinedStr [.Constant (.str a) k p1, .FormattedValue e (-1) none p2, .Constant (.str b) k2 p3] pos) (tFstD te) := by
  intro pins s σ H Q I h
  obtain ⟨F, σD, M, QD, rel, h, pp⟩ := h
  unfold tFstD at h
  have sl : 4000 ≤ sizeLine := by rw [sizeLine_eq]; decide
  refine wpAny_JoinedStr ?_
  show wpAny _ _ (eval (.Constant (.str a) k p1) X.env) (fun v s₁ => ∃ y t, v = .str y t ∧ _ ∧ wpAny _ _ (eval (.FormattedValue e (-1) none p2) X.env) _ _ s₁) _ s
  refine thn (pe_str (X := X) pins s σ H (fun v H1 => v = .str a ∧ H1 = H) I ⟨rfl, rfl⟩) fun u s1 z => ?_
  obtain ⟨v, H1, I1, r1, rfl, rfl⟩ := z
  obtain ⟨t1, rfl⟩ := r1
  have hlen : (Str.empty ++ a).length ≤ 1000 := by rw [strLen_append]; show 0 + a.length ≤ 1000; omega
  refine ⟨a, t1, rfl, by omega, ?_⟩
  refine wpAny_FormattedValue_plain ?_
  refine thn (he pins s1 σ H1 (fun v H2 => ∃ i : Int, v = .int i ∧ i.natAbs < 10 ^ 100 ∧ ∀ x : Str, Q (.str x) H2) I1 ?_) fun u2 s2 z => ?_
  · refine lE rel h fun d M1 v H2 f1 rel1 r1 h1 => ?_
    obtain ⟨i, rfl, hi, q⟩ := h1
    unfold RepD at r1
    exact ⟨i, r1, hi, fun x => pp _ M1 _ H2 f1 rel1.hp (by unfold RepD; rfl) (q x)⟩
  obtain ⟨v, H2, I2, r2, i, rfl, hi, q⟩ := z
  obtain ⟨t2, rfl⟩ := r2
  have hl2 := text_len hi
  have hl3 : ((Str.empty ++ a) ++ Str.ofString (toString i)).length ≤ 2000 := by rw [strLen_append]; exact Nat.le_trans (Nat.add_le_add hlen hl2) (by omega)
  refine wpAny_formatField_int (log_small hi) ⟨_, _, rfl, Nat.le_trans hl3 (by omega), ?_⟩
  show wpAny _ _ (eval (.Constant (.str b) k2 p3) X.env) (fun v s₁ => ∃ y t, v = .str y t ∧ _ ∧ _ ∧ _) _ _
  refine thn (pe_str (X := X) pins _ σ H2 (fun v H3 => v = .str b ∧ H3 = H2) ((I2.tok _).tok _) ⟨rfl, rfl⟩) fun u3 s3 z => ?_
  obtain ⟨v3, H3, I3, r3, rfl, rfl⟩ := z
  obtain ⟨t3, rfl⟩ := r3
  have hl4 : ((Str.empty ++ a) ++ Str.ofString (toString i) ++ b).length ≤ 3000 := by rw [strLen_append]; exact Nat.le_trans (Nat.add_le_add hl3 hb) (by omega)
  exact ⟨b, t3, rfl, Nat.le_trans hl4 (by omega), Nat.le_trans hl4 (by omega), .str _, H3, I3.tok _, ⟨_, rfl⟩, q _⟩
end
end L2
namespace L2
open PySem PySem.Spec PyProof.Rows
section
variable {X : Cx} {pins : List (Addr × Obj)} {σ : St} {H : Hp} {s : Shared} {E : Value → Shared → Prop}
theorem lam_evalC {F : Addr → Prop} {M : HpD} {Q : Value → Shared → Prop} {c P : Addr} {qual : Str} {params : Arguments} {body : Expr} {scope : Scope} {clos : List (Str × Addr)} {pos : Pos} (I : Inv X pins σ H s) (rh : RepH ⟨X.K, F⟩ H M) (hT : M P = some (.tab qual)) (hq : X.env.qual ++ "<lambda>" = qual)
    (hcode : X.env.code = .ref c) (C : PySem.W.CodeHd X.base c P) (hbm : BMain X.mg X.base) (hdef : defaultsOf params X.env = ([], [])) (hcl : closureFor scope X.env = pure clos)
    (k : ∀ f c' ctv oc vs t H' s', Inv X (pins ++ [(f, PySem.W.kla_obj "<lambda>" qual params body scope clos ((X.mg "__name__").getD .none) c' ctv)]) σ H' s' → RepH ⟨X.K, F⟩ H' M → Fz M H M H' → H' c' = some (.frz oc (.own c')) → M c' = none → oc.data = .fields vs → vs[1]? = some (.str qual t) → X.s₀.heap.objs.size ≤ f → Q (.ref f) s') :
    wpAny (model X.prog X.w) X.A (eval (.Lambda params body scope pos) X.env) Q E s := by
  obtain ⟨o', hP, ps, rfl, ht, ent⟩ := rh.at_ P _ hT
  have hPh : s.heap.get? P = some (PySem.W.tabObj ps) := I.hok P _ hP
  have hgs : s.heap.Ns mainGlobals X.mg := I.mod.glob.keeps I.bk
  have Cs := C.keeps I.bk
  obtain ⟨bm, ob, b1, b2, b3, b4, b5, b6⟩ := hbm
  have hgP : mainGlobals ≠ P := fun q => by
    obtain ⟨o, es, ep, e, hd, _⟩ := hgs
    rw [q, hPh] at e; cases e; cases hd
  have hbP : bm ≠ P := fun q => by
    have e := I.bk _ _ b3
    rw [q, hPh] at e; cases e; cases b4
  have hbG : bm ≠ mainGlobals := fun q => by
    obtain ⟨o, es, ep, e, hd, _⟩ := I.mod.glob
    rw [q, e] at b3; cases b3; rw [hd] at b6; cases b6
  refine PySem.W.kla_eval hdef ?_
  rw [hq]
  cases hf : codeAmong pos ps.toList with
  | some cv =>
    obtain ⟨c', oc, vs, t, rfl, e2, e3, e4, e5, e6⟩ := ent pos cv hf
    refine PySem.W.kla_makeFunctionHit (mg := X.mg) hcl I.ok.glob hgs hcode Cs hPh ht hf ⟨bm, ob, b1, b2, hbG, hbP, I.bk _ _ b3, b4, b5, b6⟩ fun ctv h' tk hk hsz => ?_
    have I1 : Inv X pins σ H { s with heap := h'.push (PySem.W.kla_obj "<lambda>" qual params body scope clos ((X.mg "__name__").getD .none) c' ctv), toks := tk } := I.kept fun b u e => Heap.get?_push_of_some _ (hk b u e)
    have fp : FpOk X pins H h'.objs.size := I.fpOk hsz (I.hok.fresh hsz)
    refine k h'.objs.size c' ctv oc vs t H _ (I1.pins_of fun p hp => ?_) rh .refl e2 e3 e5 e6 (Nat.le_trans I.sz hsz)
    rcases List.mem_append.mp hp with hp | hp
    · exact I1.pin p (List.mem_append_right _ hp)
    · rw [List.mem_singleton.mp hp]
      exact ⟨Heap.get?_push_size _ rfl, fp.1, fp.2.1, fp.2.2.1, fun v z => by cases z⟩
  | none =>
    refine PySem.W.kla_makeFunction (mg := X.mg) hcl I.ok.glob hgs hcode Cs hPh ht hf hgP ⟨bm, ob, b1, b2, hbG, hbP, I.bk _ _ b3, b4, b5, b6⟩ fun c' ctv h' tk hx hge hlt hrec htb => ?_
    obtain ⟨c₂, oc, vs, t, e2, hoc, hd, hv⟩ := hrec
    cases e2
    have plt : P < s.heap.objs.size := Heap.lt_size hPh
    have hcP : c' ≠ P := Nat.ne_of_gt (Nat.lt_of_lt_of_le plt hge)
    have hsz : s.heap.objs.size ≤ h'.objs.size := Nat.le_of_lt (Nat.lt_of_le_of_lt hge hlt)
    have hcn : H c' = none := I.hok.fresh hge
    have I1 : Inv X pins σ (upd H P (.tbl (ps ++ #[rawInt pos.line, rawInt pos.col, .ref c']))) { s with heap := h'.push (PySem.W.kla_obj "<lambda>" qual params body scope clos ((X.mg "__name__").getD .none) c' ctv), toks := tk } :=
      I.grow hP (fun b u hb e => Heap.get?_push_of_some _ (hx b u hb e)) (Heap.get?_push_of_some _ htb)
    have fpc : FpOk X pins (upd H P (.tbl (ps ++ #[rawInt pos.line, rawInt pos.col, .ref c']))) c' := I.fpOk hge (by rw [upd_ne hcP]; exact hcn)
    have hoc2 : (h'.push (PySem.W.kla_obj "<lambda>" qual params body scope clos ((X.mg "__name__").getD .none) c' ctv)).get? c' = some oc := Heap.get?_push_of_some _ hoc
    have I2 : Inv X pins σ (upd (upd H P (.tbl (ps ++ #[rawInt pos.line, rawInt pos.col, .ref c']))) c' (.frz oc (.own c'))) { s with heap := h'.push (PySem.W.kla_obj "<lambda>" qual params body scope clos ((X.mg "__name__").getD .none) c' ctv), toks := tk } :=
      I1.turnedAdopt (t' := tk) (fp := []) (fun b u _ _ e => e) (fun b z => absurd z List.not_mem_nil) fpc ⟨hoc2, _, hoc2⟩
    have comm : upd (upd H P (.tbl (ps ++ #[rawInt pos.line, rawInt pos.col, .ref c']))) c' (.frz oc (.own c')) = upd (upd H c' (.frz oc (.own c'))) P (.tbl (ps ++ #[rawInt pos.line, rawInt pos.col, .ref c'])) := by
      funext b
      unfold upd
      by_cases q1 : b = c'
      · rw [if_pos q1, if_neg (fun z => hcP (q1.symm.trans z)), if_pos q1]
      · rw [if_neg q1]
        by_cases q2 : b = P
        · rw [if_pos q2, if_pos q2]
        · rw [if_neg q2, if_neg q2, if_neg q1]
    have mc : M c' = none := rh.free hcn
    have rh1 := rh.new (o := .frz oc (.own c')) hcn
    have rh2 : RepH ⟨X.K, F⟩ (upd (upd H c' (.frz oc (.own c'))) P (.tbl (ps ++ #[rawInt pos.line, rawInt pos.col, .ref c']))) (updD M P (.tab qual)) := by
      refine rh1.write hT ⟨_, rfl, by simpa using TriplesOk_snoc pos.line pos.col (.ref c') _ ht, fun pos' cv z => ?_⟩
      have z' : codeAmong pos' (ps.toList ++ [rawInt pos.line, rawInt pos.col, .ref c']) = some cv := by simpa using z
      rcases among_snoc ht z' with z2 | rfl
      · obtain ⟨d, od, ws, t2, k1, k2, k3, k4, k5⟩ := ent pos' cv z2
        exact ⟨d, od, ws, t2, k1, by rw [upd_ne (ne_of_none k2 hcn)]; exact k2, k3, k4, k5⟩
      · exact ⟨c', oc, vs, t, rfl, upd_same, mc, rh.nf hcn, hd, hv⟩
    rw [updD_self hT] at rh2
    have fpf : FpOk X pins (upd (upd H P (.tbl (ps ++ #[rawInt pos.line, rawInt pos.col, .ref c']))) c' (.frz oc (.own c'))) h'.objs.size := I.fpOk hsz (by
      rw [upd_ne (Nat.ne_of_gt hlt), upd_ne (Nat.ne_of_gt (Nat.lt_of_lt_of_le plt hsz))]; exact I.hok.fresh hsz)
    refine k h'.objs.size c' ctv oc vs t _ _ (I2.pins_of fun p hp => ?_) (by rw [comm]; exact rh2) (fun a o e m => ⟨?_, m⟩) upd_same mc hd hv (Nat.le_trans I.sz hsz)
    · rcases List.mem_append.mp hp with hp | hp
      · exact I2.pin p (List.mem_append_right _ hp)
      · rw [List.mem_singleton.mp hp]
        exact ⟨Heap.get?_push_size _ rfl, fpf.1, fpf.2.1, fpf.2.2.1, fun v z => by cases z⟩
    · rw [upd_ne (ne_of_none e hcn), upd_ne (fun z => by rw [z, hT] at m; cases m)]; exact e
end
end L2
namespace L2
open PySem PySem.Spec PyProof.Rows
section
variable {X : Cx} {C : Addr} {pins : List (Addr × Obj)} {σ : St} {H Hq : Hp} {s s' : Shared} {E' : XK} {e : Value}
theorem quiet_un {H3 : Hp} (I : Inv X pins σ H s) (q : Quiet s.heap H Hq) (ho3 : s'.os = s.os) (hg3 : AllBare s'.gens) (u3 : Un (frs X.stack) [] Hq H3 s.heap s'.heap) (hok3 : HOk X.prog X.w H3 s'.heap) : Inv X pins σ H s' := by
  have tf : ∀ b, H b ≠ none → b ∉ frs X.stack := fun b d z => d (I.stkFree b z)
  have ex : ∀ b v, H b = some v → (∀ xs, v ≠ .tup xs) → ∀ o, s.heap.get? b = some o → s'.heap.get? b = some o := fun b v e1 nt o e2 => by
    rcases q.2 b v e1 with n | ⟨o', u', e3, e4⟩ | ⟨xs, e3, _⟩
    · exact u3.keep b o e2 n (tf b (by rw [e1]; exact fun z => nomatch z)) (fun z => nomatch z)
    · rw [e2] at e3; cases e3
      have := hok3 b _ (u3.frzs b _ _ e4)
      exact this.1
    · exact absurd e3 (nt xs)
  have un : Un (frs X.stack) [] H H s.heap s'.heap := by
    refine ⟨fun b o e1 n h1 h2 => u3.keep b o e1 (q.1 b n) h1 h2, fun b o e1 n h1 h2 => u3.slot b o e1 (q.1 b n) h1 h2, fun b o e1 n h2 => n, fun b o e1 h2 => u3.there b o e1 h2, fun b xs e1 => e1, fun b o x e1 => e1, fun b ps e1 => ⟨#[], by rw [e1]; simp⟩⟩
  have hokH : HOk X.prog X.w H s'.heap := fun b v e1 => by
    by_cases nt : ∃ xs, v = .tup xs
    · obtain ⟨xs, rfl⟩ := nt
      rcases q.2 b _ e1 with n | ⟨o', u', e3, e4⟩ | ⟨ys, e3, e4⟩
      · refine (I.hok b _ e1).stay (fun c v hc e2 => ?_) (fun _ z => z) fun _ _ z => z
        rcases hc with rfl | hc
        · exact u3.keep c v e2 n (tf c (by rw [e1]; exact fun z => nomatch z)) (fun z => nomatch z)
        · exact ex c _ hc (fun xs z => nomatch z) v e2
      · refine (I.hok b _ e1).stay (fun c v hc e2 => ?_) (fun _ z => z) fun _ _ z => z
        rcases hc with rfl | hc
        · rw [e2] at e3; cases e3
          exact (hok3 c _ (u3.frzs c _ _ e4)).1
        · exact ex c _ hc (fun xs z => nomatch z) v e2
      · cases e3
        exact hok3 b _ (u3.tups b _ e4)
    · have nt' : ∀ xs, v ≠ .tup xs := fun xs z => nt ⟨xs, z⟩
      refine (I.hok b _ e1).stay (fun c v' hc e2 => ?_) (fun _ z => z) fun _ _ z => z
      rcases hc with rfl | hc
      · exact ex c v e1 nt' v' e2
      · exact ex c _ hc (fun xs z => nomatch z) v' e2
  exact I.call' ho3 un hokH hg3 (fun b z => absurd z (by simp))
theorem quiet_inv (I : Inv X pins σ H s) (q : Quiet s.heap H Hq) (h : CXb X.prog X.w C X.stack Hq s E' e s') : Inv X pins σ H s' := by
  obtain ⟨H3, a3, t3, B3, e3, ho3, hg3, u3, hok3, fly3', cov3, _⟩ := h
  exact quiet_un I q ho3 hg3 u3 hok3
theorem cxb_moves {a t : Addr} {B : Heap} {H' : Hp} {h' : Heap} (I : Inv X pins σ H s) (q : Quiet s.heap H Hq) (ho : s'.os = s.os) (hg : AllBare s'.gens) (u : Un (frs X.stack) [] Hq H' s.heap s'.heap) (hok : HOk X.prog X.w H' s'.heap)
    (cov : ∀ b o, s'.heap.get? b = some o → (s.heap.get? b ≠ none ∨ H' b ≠ none) → b ∉ frs X.stack → B.get? b = some o) (fly : Heap.FlyingW B X.stack a (.ref C) (.ref t) h') (sl : s'.heap.UpToSlots h') :
    CXb X.prog X.w C X.stack Hq s (fun _ _ _ => True) (.ref a) { s' with heap := h' } :=
  fly_out (s₀ := s) (H₀ := Hq) (H' := H') (hm := s'.heap) (B := B) (os := s'.os) (g := s'.gens) (a := a) (t := t) (h' := h') ho hg u hok cov fly sl (fun b hb => by
    obtain ⟨_, o, e1, hd⟩ := I.stack.mem hb
    exact ⟨o, e1, q.1 b (I.stkFree b hb), hd⟩) trivial rfl
noncomputable abbrev Cx.marked (X : Cx) (a : Addr) (xe : Value → Shared → Prop) : Cx := { X with A := X.A.mark (some (.ref a)), calm := false, xe := xe }
noncomputable abbrev Cx.held (X : Cx) (a : Addr) (o : Obj) (xe : Value → Shared → Prop) : Cx := { X with A := X.A.mark (some (.ref a)), calm := false, xe := xe, pn := X.pn ++ [(a, o)] }
theorem Inv.marked (I : Inv X pins σ H s) (a : Addr) (xe : Value → Shared → Prop) : Inv (X.marked a xe) pins σ H s :=
  ⟨⟨I.ok.mod, I.ok.kind, I.ok.glob, I.ok.blt, I.ok.above, I.ok.inj, I.ok.has, I.ok.cab, fun z => (nomatch z), I.ok.frames, I.ok.stk, I.ok.exf, I.ok.bs, I.ok.bsz, I.ok.noex, I.ok.exfs, I.ok.funs, I.ok.frf⟩,
    I.os, I.bare, I.base, I.loc, I.cell, I.free, I.freeC, I.pin, I.hok, I.len⟩
theorem Inv.held {a : Addr} {o : Obj} (I : Inv X (pins ++ [(a, o)]) σ H s) (xe : Value → Shared → Prop) : Inv (X.held a o xe) pins σ H s :=
  ⟨⟨I.ok.mod, I.ok.kind, I.ok.glob, I.ok.blt, I.ok.above, I.ok.inj, I.ok.has, I.ok.cab, fun z => (nomatch z), I.ok.frames, I.ok.stk, I.ok.exf, I.ok.bs, I.ok.bsz, I.ok.noex, I.ok.exfs, I.ok.funs, I.ok.frf⟩,
    I.os, I.bare, I.base, I.loc, I.cell, I.free, I.freeC, fun p hp => I.pin p (by simp only [List.mem_append] at hp ⊢; rcases hp with (h | h) | h <;> simp [h]), I.hok, I.len⟩
theorem Inv.unheld {a : Addr} {o : Obj} {xe : Value → Shared → Prop} (J : Inv (X.held a o xe) pins σ H s) (I : X.Ok) : Inv X pins σ H s :=
  ⟨I, J.os, J.bare, J.base, J.loc, J.cell, J.free, J.freeC, fun p hp => J.pin p (by simp only [List.mem_append] at hp ⊢; rcases hp with h | h <;> simp [h]), J.hok, J.len⟩
theorem Inv.exc {a : Addr} {o : Obj} {xe : Value → Shared → Prop} (J : Inv (X.held a o xe) pins σ H s) : s.heap.get? a = some o := (J.pin (a, o) (by simp)).1
theorem caught_as {D : Addr} {x n : Str} {np pos : Pos} {b₀ : Stmt} {suite : List Stmt} {rest : List ExceptHandler} {Q : Flow → Shared → Prop} {Ex : Value → Shared → Prop} (hst : X.stack = X.env :: X.outer) (hf : X.env.frame = some X.env.locals) (I : Inv X pins σ H s) (q : Quiet s.heap H Hq)
    (h : CXb X.prog X.w C X.stack Hq s E' e s') (hg : Gl X x) (hm : X.mg x = some (.ref D)) (hx : PySem.W.exmOne X.K (.ref C) (.ref D) = some true) (hd : (x == ("__debug__" : Str)) = false)
    (k : ∀ a o s3 xe, e = .ref a → Inv (X.held a o xe) pins σ H s3 → o.cls = .ref C →
      wpAny (model X.prog X.w) (X.held a o xe).A (storeName X.env n (.ref a)) (fun _ s₃ => wpAny (model X.prog X.w) (X.held a o xe).A (execs (b₀ :: suite) X.env)
        (fun f s₄ => wpAny (model X.prog X.w) X.A (do bindName X.env n .none; unbindBehindTheSuite X.env n pos) (fun _ s₅ => Q f s₅) Ex s₄) xe s₃) (notedBy (model X.prog X.w) (X.held a o xe).A X.env (cameBackBy (model X.prog X.w) X.A X.env Ex)) s3) :
    wpAny (model X.prog X.w) X.A (noteFrame e X.env) (fun _ s₂ => wpAny (model X.prog X.w) X.A (setFlight e none) (fun _ s₃ => wpAny (model X.prog X.w) X.A (handleBy e X.env (.ExceptHandler (some (.Name x np)) (some n) (b₀ :: suite) pos :: rest)) Q Ex s₃) Ex s₂) Ex s' := by
  obtain ⟨H', a, t, B, rfl, ho, hg', u, hok, fly, cov, hE⟩ := h
  have fly0 := fly
  rw [hst] at fly0
  refine wpAny_looks_onW (by rw [I.ok.frames, hst]) hf fly0 fun h2 held sl2 => ?_
  refine wpAny_landsW held fun h3 fly3 sl3 => ?_
  rw [← hst] at fly3
  have I3 : Inv X pins σ H { s' with heap := h3 } := quiet_inv I q (cxb_moves I q ho hg' u hok cov fly3 (sl2.trans sl3))
  refine wpAny_handleBy_cons (codeAny_handlers_test (ld_glob (X := X.marked a fun _ _ => True) (I3.marked a _) hg hm ?_ hd)) (by intro z; cases z)
  obtain ⟨ob, hob, hobc⟩ := fly3.there
  have LT : PySem.W.Looks (model X.prog X.w) h3 (typeOf (.ref a)) (.ref C) := by
    rw [← hobc]
    exact (PySem.W.Looks.ld hob).andThen .now
  refine (PySem.W.exm_one I3.kIn LT hx).here ?_
  refine codeAny_handlers_suite_as ?_
  refine lands_againW fly3 fun h4 fly4 sl4 => ?_
  have I4 : Inv X pins σ H { s' with heap := h4 } := quiet_inv I q (cxb_moves I q ho hg' u hok cov fly4 ((sl2.trans sl3).trans sl4))
  obtain ⟨oe, ws, hoe, hoec, hoed, _⟩ := fly4.first
  have nf : a ∉ frs X.stack := fun z => by
    obtain ⟨_, o, e1, hd⟩ := I4.stack.mem z
    rw [show h4.get? a = some o from e1] at hoe; cases hoe
    exact hd _ hoed
  have hn : H a = none := by
    cases z : H a with
    | none => rfl
    | some v =>
      obtain ⟨ob, q1⟩ := (I.hok a v z).ex
      obtain ⟨o', q2⟩ := u.there a ob q1 (fun z => nomatch z)
      have := cov a o' q2 (.inl (by rw [q1]; exact fun z => nomatch z)) nf
      rw [fly.2.1] at this; cases this
  refine k a oe _ _ rfl (Inv.held (I4.pins_of fun p hp => ?_) _) hoec
  rcases List.mem_append.mp hp with hp | hp
  · exact I4.pin p (List.mem_append_right _ hp)
  · rw [List.mem_singleton.mp hp]
    refine ⟨hoe, hn, fun z => ?_, fun z => nf (by rw [hst, frs_cons hf]; exact List.mem_cons_of_mem _ z), fun v z => by rw [hoed] at z; cases z⟩
    obtain ⟨m, ⟨o, es, ep, q1, q2, _⟩, _⟩ := I4.loc
    have z : a = X.env.locals := z
    rw [← z, show h4.get? a = some oe from hoe] at q1
    cases q1
    rw [hoed] at q2; cases q2
end
end L2
namespace L2
open PySem PySem.Spec PyProof.Rows PySem.W PySem.Calls Builtin Builtin.ObjectAttr Builtin.Getset_descriptor
theorem fnd_data {K : PySem.W.Frag} {M : Model} {h : Heap} {x C : Addr} {g a : Value} {nm : Str} (X : K.In h) (ha : findIn K (.ref C) nm = some (some a)) (hn : specialIn K a "__get__" = some (some g)) (ht : takesIn K a = some true) :
    Looks M h (find (.ref x) (.ref C) nm) (.bind g a) :=
  (looks_findIn X ha).andThen ((show Looks M h (getOf (some a)) (some g) from looks_specialIn X hn).andThen ((show Looks M h (dataDescriptor? (some a) (some g)) (some (g, a)) from (looks_takesIn X ht).andThen .now).andThen (Looks.tag .now)))
noncomputable def ClsAt (x D : Addr) (h : Heap) : Prop := ∃ o, h.get? x = some o ∧ o.cls = .ref D
theorem ClsAt.ty {M : Model} {h : Heap} {x D : Addr} (p : ClsAt x D h) : Looks M h (typeOf (.ref x)) (.ref D) := by
  obtain ⟨o, h1, h2⟩ := p
  rw [← h2]
  exact (Looks.ld h1).andThen .now
noncomputable def ExcK (K : PySem.W.Frag) (D : Addr) : Prop :=
  findIn K (.ref D) "__getattribute__" = some (some (.builtin "BaseException.__getattribute__")) ∧ findIn K (.ref D) "__getattr__" = some none ∧ hasDictIn K D = true ∧ findIn K (.ref D) "__class__" = some (some (.builtin "object.__class__")) ∧ specialIn K (.builtin "object.__class__") "__get__" = some (some (.builtin "getset_descriptor.__get__")) ∧ takesIn K (.builtin "object.__class__") = some true ∧ mroIn K D (.type "object") = some true ∧ mroIn K D (.type "BaseException") = some true
section
variable {prog : Program} {w : World} {A : Around} {E : Value → Shared → Prop} {s : Shared} {K : PySem.W.Frag} {x D : Addr}
theorem exc_get {tp : Value} {R : Result → Shared → Prop} (X : K.In s.heap) (p : ClsAt x D s.heap) (hm : mroIn K D (.type "object") = some true) (q : R (.ok (.ret (.ref D))) s) :
    codeAny (model prog w) A (.call (.builtin "getset_descriptor.__get__") ⟨[.builtin "object.__class__", .ref x, tp], []⟩) R s := by
  obtain ⟨hp, gs, dr, tk, os⟩ := s
  have ty := p.ty (M := model prog w)
  have sub := looks_mroIn (M := model prog w) X hm
  refine codeAny_call_builtin KF.slot_gs.plain KF.entry_gs (KF.slot_gs.check _ _ _ _ _ _ _ _ KF.type_class (KF.args_gs _ _ _) ?_)
  unfold Builtin.«getset_descriptor.__get__» descrGet
  rw [dga_obj]; refine wpAny_bind (wpAny_pure ?_)
  unfold descrGetter descrCheckInstance descrNameAndClass isInstance; simp only [KF.owner_class]
  repeat lk
  refine ⟨Code.quiet_builtin _ (by decide +kernel), codeAny_builtin KF.entry_class ?_⟩
  unfold Builtin.«object.__class__» shownTypeOf; repeat lk
  exact q
theorem exc_chk {nameV : Value} {Q : Unit → Shared → Prop} (X : K.In s.heap) (p : ClsAt x D s.heap) (hb : mroIn K D (.type "BaseException") = some true) (q : Q () s) : wpAny (model prog w) A (checkBuiltinCall "BaseException.__getattribute__" ⟨[.ref x, nameV], []⟩) Q E s := by
  obtain ⟨hp, gs, dr, tk, os⟩ := s
  have ty := p.ty (M := model prog w)
  have sub := looks_mroIn (M := model prog w) X hb
  have hk : builtinKind "BaseException.__getattribute__" = some .slot := by decide +kernel
  have hsplit : splitId "BaseException.__getattribute__" = some ("BaseException", "__getattribute__") := by decide +kernel
  have ha := F.args_bexc_ga (.ref x) nameV
  simp only [checkBuiltinCall, hk, hsplit]
  refine wpAny_bind ?_
  unfold isInstance
  refine wpAny_bind (ty.at (sub.at ?_))
  repeat (any_goals (first | assumption | wp_step))
theorem exc_cls {Q : Option Value → Shared → Prop} (k : ExcK K D) (X : K.In s.heap) (p : ClsAt x D s.heap) (q : Q (some (.ref D)) { s with toks := s.toks + 1 }) : wpAny (model prog w) A (getAttr? (.ref x) "__class__") Q E s := by
  obtain ⟨g1, g2, k2, k3, k4, k5, k6, k7⟩ := k
  obtain ⟨hp, gs, dr, tk, os⟩ := s
  have ty := p.ty (M := model prog w)
  have l1 := looks_findIn (M := model prog w) X g1
  have l2 := fnd_data (M := model prog w) (x := x) X k3 k4 k5
  have l3 := looks_findIn (M := model prog w) X g2
  have hx2 : (Value.builtin "BaseException.__getattribute__" == Value.builtin "object.__getattribute__") = false := by decide +kernel
  have hx1 : (onTheHeap (Value.ref D) && Value.builtin "BaseException.__getattribute__" == Value.builtin "object.__getattribute__") = false := by rw [hx2]; rfl
  unfold getAttr? getAttrBy? getAttrBy
  refine wpAny_bind (wpAny_mkText (wpAny_bind (wpAny_attempt (wpAny_holding (wpAny_bind (ty.at (wpAny_bind (l1.at ?_))))))))
  dsimp only
  rw [if_neg (by rw [hx1]; decide)]
  unfold getAttrByItsOwn hookBefore
  rw [if_pos (show onTheHeap (Value.ref D) = true from rfl)]
  refine wpAny_bind (l3.at (wpAny_bind (wpAny_attempt (wpAny_holding ?_))))
  show wpAny _ _ (boundAndCalled (.builtin "BaseException.__getattribute__") (.ref x) _) _ _ _
  unfold boundAndCalled
  rw [F.attrBase_ValueError.ga.bind (.ref x)]
  refine wpAny_bind (wpAny_pure (wpAny_call (codeAny_call_builtin F.attrBase_ValueError.ga.plain F.entry_bexc_ga (exc_chk X p k7 ?_))))
  show wpAny _ _ (do
    let tp ← typeOf (.ref x)
    match ← find (.ref x) tp "__class__" with
    | .value v => ret v
    | .bind g a => bindTo g a (.ref x) tp
    | .missing => _) _ _ _
  refine wpAny_bind (ty.at (wpAny_bind (l2.at ?_)))
  show wpAny _ _ (holding [.builtin "object.__class__"] (call (.builtin "getset_descriptor.__get__") [.builtin "object.__class__", .ref x, .ref D]) >>= ret) _ _ _
  refine wpAny_bind (wpAny_holding (wpAny_call (exc_get (D := D) X p k6 ?_)))
  exact wpAny_pure (wpAny_pure (wpAny_pure q))
theorem kitx_exc (k : ExcK K D) : KitX K (.ref x) (.ref D) (ClsAt x D) := by
  have is : ∃ o cd, K.lookup D = some o ∧ o.data = .cls cd := by
    obtain ⟨cd, hc, _⟩ := any_some k.2.2.1
    unfold clsIn at hc
    split at hc
    · rename_i ho; exact ⟨_, _, ho, rfl⟩
    · cases hc
  obtain ⟨o, cd, ho, hd⟩ := is
  refine ⟨fun M h X p => p.ty, fun M h X p A Q E s kk q => ?_, fun h tp dd its n sl X htp => ?_, fun X p q => exc_cls k X p q⟩
  · unfold isType loadHead
    refine wpAny_bind (wpAny_loadPart (kk _ _ (X _ _ ho)) ?_)
    obtain ⟨c1, c2, c3, c4⟩ := o
    cases hd
    exact wpAny_pure q
  · refine Bool.eq_false_iff.mpr fun z => ?_
    cases beq_iff_eq.mp z
    rw [X _ _ ho] at htp
    cases htp
    cases hd
end
end L2
namespace L2
open PySem PySem.Spec PyProof.Rows
theorem nm_goes {X : Cx} {pins : List (Addr × Obj)} {σ : St} {H : Hp} {s : Shared} {M : Model} {A : Around} {E : Value → Shared → Prop} {i : Nat} {n : Str} {pos : Pos} {Q : Unit → Shared → Prop} (I : Inv X pins σ H s) (hN : X.N.Nodup) (hi : X.N[i]? = some n) (hk : X.env.kindOf n = some .local)
    (k : ∀ s', Inv X pins (σ.set i none) H s' → Q () s') : wpAny M A (do bindName X.env n .none; unbindBehindTheSuite X.env n pos) Q E s := by
  obtain ⟨m, hn, hl⟩ := id I.loc
  have cne := I.cne
  have hlt : i < σ.length := by rw [I.len]; exact (List.getElem?_eq_some_iff.mp hi).1
  refine wpAny_nameGoes_keeps hk hn (by rw [I.ok.kind]; rfl) fun h' v hn' hs => k _ ?_
  have old : ∀ b o, X.s₀.heap.get? b = some o → b ≠ X.env.locals := fun b o e => Nat.ne_of_lt (Nat.lt_of_lt_of_le (Heap.lt_size e) I.ok.above)
  refine { ok := I.ok, os := I.os, bare := I.bare, base := ?_, loc := ⟨_, hn', fun j y v' e1 e2 e3 => ?_⟩, cell := fun y c e => ?_, free := I.free, freeC := I.freeC, pin := fun p hp => ?_, hok := fun b ob e => ?_, len := by simpa using I.len }
  · exact { I.base with
      keep := fun b o e n hb hx => (hs.2 b (old b o e)).trans (I.base.keep b o e n hb hx)
      slot := fun b o e n hb hx => (I.base.slot b o e n hb hx).imp fun sl q => (hs.2 b (old b o e)).trans q
      there := fun b o e hx => (I.base.there b o e hx).imp fun o' q => (hs.2 b (old b o e)).trans q }
  · have hj : j ≠ i := fun z => by rw [z, List.getElem?_set_self hlt] at e2; cases e2
    rw [List.getElem?_set_ne (Ne.symm hj)] at e2
    obtain ⟨u', r', q⟩ := hl j y v' e1 e2 e3
    refine ⟨u', r', q.imp (fun ⟨k, e⟩ => ⟨k, ?_⟩) fun ⟨k, c, e, z⟩ => ⟨k, c, e, z.sameBut hs (cne y c e)⟩⟩
    have : y ≠ n := fun z => hj (nodup_ix hN e1 (z ▸ hi))
    simp [this, e]
  · exact (I.cell y c e).imp fun _ z => z.sameBut hs (cne y c e)
  · obtain ⟨e, n, ne, nf, d⟩ := I.pin p hp
    exact ⟨(hs.2 p.1 ne).trans e, n, ne, nf, d⟩
  · refine (I.hok b ob e).stay (fun c w' hc q => (hs.2 c fun z => ?_).trans q) (fun _ q => q) fun _ _ q => q
    rw [z] at hc
    rcases hc with hc | hc
    · rw [← hc, I.free] at e; cases e
    · rw [I.free] at hc; cases hc
end L2
namespace L2
open PySem PySem.Spec PyProof.Rows
noncomputable def clsV : D → Option Value
  | .ref c => some (.ref c)
  | .ty n => some (.type n)
  | _ => none
theorem clsV_rel {K : KF} {H : Hp} {M : HpD} {d : D} {v : V} {u c : Value} (h : clsV d = some c) (r : RepD K H M d v) (q : RelV v u) : u = c := by
  cases d <;> first | (cases h; unfold RepD at r; subst r; exact q) | cases h
theorem clsV_all {K : KF} {H : Hp} {M : HpD} : ∀ {ds : List D} {vs : List V} {us cs : List Value}, ds.map clsV = cs.map some → RepDs K H M ds vs → Vals vs us → us = cs
  | [], vs, us, cs, h, r, q => by
    unfold RepDs at r; subst r; cases q
    cases cs with
    | nil => rfl
    | cons _ _ => simp at h
  | d :: ds, vs, us, cs, h, r, q => by
    unfold RepDs at r
    obtain ⟨x, r', rfl, h1, h2⟩ := r
    cases cs with
    | nil => simp at h
    | cons c cs =>
      simp only [List.map_cons, List.cons.injEq] at h
      cases q with
      | cons q1 q2 => rw [clsV_rel h.1 h1 q1, clsV_all h.2 h2 q2]
noncomputable def isAns (K : PySem.W.Frag) (C : Addr) (d : D) (b : Bool) : Prop :=
  (∃ c, clsV d = some c ∧ PySem.W.kitOne K (.ref C) c = some b) ∨ ∃ ds cs, d = .tup ds ∧ ds.map clsV = cs.map some ∧ PySem.W.kitAny K (.ref C) cs = some b
@[irreducible] noncomputable def cIsE (K : PySem.W.Frag) (a C : Addr) : RDn := fun xs M Q => ∃ d b, xs = [.ref a, d] ∧ isAns K C d b ∧ Q (.bl b) M
theorem rd_isE {K : PySem.W.Frag} {a C : Addr} {d : D} {b : Bool} {M : HpD} {Q : KD} (h : isAns K C d b) (q : Q (.bl b) M) : cIsE K a C [.ref a, d] M Q := by unfold cIsE; exact ⟨d, b, rfl, h, q⟩
theorem cd_isE {X : Cx} {a C : Addr} {o : Obj} {xe : Value → Shared → Prop} (hk : ExcK X.K C) (ho : o.cls = .ref C) : CallR (X.held a o xe) (.builtin "isinstance") (LiftC X.K (cIsE X.K a C)) := by
  intro pins s σ H xs us Q I rx h
  obtain ⟨F, ds, M, QD, r, rh, hq, p⟩ := h
  unfold cIsE at hq
  obtain ⟨d, b, rfl, ha, q⟩ := hq
  obtain ⟨v, v2, rfl, r1, r2⟩ := rep2 r
  unfold RepD at r1
  subst r1
  obtain ⟨u, z, rfl, ru, rz⟩ := vals2 rx
  cases (show u = Value.ref a from ru)
  have fin : ∀ tk, EP (X.held a o xe) pins σ Q (.bool b) { s with toks := tk } := fun tk => ⟨.bl _, H, I.tok tk, rfl, p _ M _ H .refl rh (by unfold RepD; rfl) q⟩
  have at_ : ClsAt a C s.heap := ⟨o, I.exc, ho⟩
  rcases ha with ⟨c, h1, h2⟩ | ⟨es, cs, rfl, h1, h2⟩
  · rw [clsV_rel h1 r2 rz]
    exact PySem.W.kia_one (kitx_exc hk) I.kIn at_ h2 (fun z => nomatch z) fin
  · unfold RepD at r2
    obtain ⟨tp, xs, rfl, f1, f2⟩ := r2
    cases (show z = Value.ref tp from rz)
    obtain ⟨its, v1, ⟨⟨oc, od, oda, osl⟩, e1, e2, n, e3⟩, _⟩ := I.tuple f1.sq
    cases e2; cases e3
    rw [clsV_all h1 f2 v1] at e1
    exact PySem.W.kia_tup (kitx_exc hk) I.kIn at_ e1 h2 (fun z => nomatch z) fin
end L2
namespace L2
open PySem PySem.Spec PyProof.Rows
noncomputable def Ends.drop (D : Ends) (i : Nat) : Ends := { nx := fun σ H => D.nx (σ.set i none) H, rt := D.rt, bk := fun σ H => D.bk (σ.set i none) H, ct := fun σ H => D.ct (σ.set i none) H }
noncomputable def tTryB (i : Nat) (tb : St → Hp → Prop) (ts : Addr → TS) : TS := fun D σ H => tb σ H ∧ ∀ a, ts a (D.drop i) (σ.set i (some (.ref a))) H
noncomputable def Raises (X : Cx) (C : Addr) (body : List Stmt) (tb : St → Hp → Prop) : Prop :=
  ∀ (pins : List (Addr × Obj)) (s : Shared) (σ : St) (H : Hp), Inv X pins σ H s → tb σ H →
    wpAny (model X.prog X.w) X.A (execs body X.env) (fun _ _ => False) (fun e s1 => ∃ Hq E', Quiet s.heap H Hq ∧ CXb X.prog X.w C X.stack Hq s E' e s1) s
theorem ps_tryB {X : Cx} {C D₀ : Addr} {x n : Str} {i : Nat} {np hpos pos : Pos} {body : List Stmt} {b₀ : Stmt} {suite : List Stmt} {tb : St → Hp → Prop} {ts : Addr → TS} (hst : X.stack = X.env :: X.outer) (hf : X.env.frame = some X.env.locals)
    (hN : X.N.Nodup) (hi : X.N[i]? = some n) (hk : X.env.scope.names.lookup n = some .local) (hg : Gl X x) (hm : X.mg x = some (.ref D₀)) (hx : PySem.W.exmOne X.K (.ref C) (.ref D₀) = some true)
    (hb : Raises X C body tb) (hs : ∀ a o xe, o.cls = .ref C → PSs (X.held a o xe) (b₀ :: suite) (ts a)) (hd : (x == ("__debug__" : Str)) = false := by decide) :
    PS X (.Try body [.ExceptHandler (some (.Name x np)) (some n) (b₀ :: suite) hpos] [] [] pos) (tTryB i tb ts) := by
  intro pins s σ H D I h
  obtain ⟨h1, h2⟩ := h
  refine wpAny_Try_except (wpAny_mono (hb pins s σ H I h1) (fun f s1 z => z.elim) fun e s1 z => ?_)
  obtain ⟨Hq, E', q, cx⟩ := z
  refine caught_as hst hf I q cx hg hm hx hd fun a o s3 xe he J hc => ?_
  refine store_ok (X := X.held a o xe) (v := .ref a) J hN hi (.inl hk) rfl (fun s4 J4 => ?_) (.inr hk)
  refine wpAny_mono (hs a o xe hc pins s4 _ H (D.drop i) J4 (h2 a)) (fun f s5 z => ?_) fun _ _ z => z
  cases f with
  | next =>
    obtain ⟨σ', H', J5, z⟩ := z
    exact nm_goes (J5.unheld I.ok) hN hi hk fun s6 J6 => ⟨_, _, J6, z⟩
  | brk =>
    obtain ⟨σ', H', J5, z⟩ := z
    exact nm_goes (J5.unheld I.ok) hN hi hk fun s6 J6 => ⟨_, _, J6, z⟩
  | cont =>
    obtain ⟨σ', H', J5, z⟩ := z
    exact nm_goes (J5.unheld I.ok) hN hi hk fun s6 J6 => ⟨_, _, J6, z⟩
  | ret u =>
    obtain ⟨v, σ', H', J5, r, z⟩ := z
    exact nm_goes (J5.unheld I.ok) hN hi hk fun s6 J6 => ⟨v, _, _, J6, r, z⟩
theorem ps_tryG {X : Cx} {h₀ : ExceptHandler} {hs : List ExceptHandler} {pos : Pos} {body : List Stmt} {tb : TS} (hb : PSs X body tb)
    (hxe : ∀ e s1, X.xe e s1 → wpAny (model X.prog X.w) X.A (noteFrame e X.env) (fun _ s₂ => wpAny (model X.prog X.w) X.A (setFlight e none) (fun _ s₃ => wpAny (model X.prog X.w) X.A (handleBy e X.env (h₀ :: hs)) (fun _ _ => False) X.xe s₃) X.xe s₂) X.xe s1) :
    PS X (.Try body (h₀ :: hs) [] [] pos) tb := by
  intro pins s σ H D I h
  refine wpAny_Try_except (wpAny_mono (hb pins s σ H D I h) (fun f s1 z => ?_) fun e s1 z => ?_)
  · cases f with
    | next => exact wpAny_execs_nil z
    | brk => exact z
    | cont => exact z
    | ret u => exact z
  · exact wpAny_mono (hxe e s1 z) (fun _ s2 z2 => wpAny_mono z2 (fun _ s3 z3 => wpAny_mono z3 (fun _ _ f => f.elim) fun _ _ y => y) fun _ _ y => y) fun _ _ y => y
end L2
namespace L2
open PySem PySem.Spec PyProof.Rows
noncomputable def hush (h : Heap) (H : Hp) : Hp := fun b => match H b with
  | some (.tup xs) => some (.tup xs)
  | some (.lst xs) => (h.get? b).map fun o => .frz o (.lst xs)
  | some (.frz o (.lst xs)) => some (.frz o (.lst xs))
  | some (.frz o (.tup xs)) => some (.frz o (.tup xs))
  | _ => none
section
variable {P : Program} {w : World} {h : Heap} {H : Hp} {M : HpD} {K : PySem.W.Frag} {F : Addr → Prop}
theorem hush_none {b : Addr} (e : H b = none) : hush h H b = none := by unfold hush; rw [e]
theorem hush_own {b c : Addr} {o : Obj} (e : H b = some (.frz o (.own c))) : hush h H b = none := by unfold hush; rw [e]
theorem hush_quiet (hok : HOk P w H h) : Quiet h H (hush h H) := by
  refine ⟨fun b e => hush_none e, fun b u e => ?_⟩
  have x := hok b u e
  unfold hush; rw [e]
  cases u with
  | tup xs => exact .inr (.inr ⟨xs, rfl, rfl⟩)
  | lst xs =>
    obtain ⟨ob, q⟩ := x.ex
    exact .inr (.inl ⟨ob, .lst xs, q, by show (h.get? b).map _ = _; rw [q]; rfl⟩)
  | frz o u' =>
    have q : h.get? b = some o := x.1
    cases u' with
    | lst xs => exact .inr (.inl ⟨o, _, q, rfl⟩)
    | tup xs => exact .inr (.inl ⟨o, _, q, rfl⟩)
    | _ => exact .inl rfl
  | _ => exact .inl rfl
theorem hush_ok (hok : HOk P w H h) : HOk P w (hush h H) h := by
  intro a o e
  unfold hush at e
  cases q : H a with
  | none => rw [q] at e; cases e
  | some u =>
    rw [q] at e
    have x := hok a u q
    cases u with
    | tup xs => cases e; exact x
    | lst xs =>
      obtain ⟨ob, q2⟩ := x.ex
      have e : (h.get? a).map _ = some o := e
      rw [q2] at e; cases e
      exact ⟨q2, x⟩
    | frz ob u' =>
      cases u' with
      | lst xs => cases e; exact x
      | tup xs => cases e; exact x
      | _ => cases e
    | _ => cases e
theorem hush_lst {a : Addr} {xs : List V} (hok : HOk P w H h) (r : Rd H a (.lst xs)) : Rd (hush h H) a (.lst xs) := by
  rcases r with r | ⟨o, r⟩
  · obtain ⟨ob, q⟩ := (hok a _ r).ex
    exact .inr ⟨ob, by unfold hush; rw [r]; show (h.get? a).map _ = _; rw [q]; rfl⟩
  · exact .inr ⟨o, by unfold hush; rw [r]⟩
theorem hush_tup {a : Addr} {xs : List V} (r : Rd H a (.tup xs)) : Rd (hush h H) a (.tup xs) := by
  rcases r with r | ⟨o, r⟩
  · exact .inl (by unfold hush; rw [r])
  · exact .inr ⟨o, by unfold hush; rw [r]⟩
mutual
theorem rep_hush (hok : HOk P w H h) : ∀ {d : D} {v : V}, RepD ⟨K, F⟩ H M d v → RepD ⟨K, fun _ => False⟩ (hush h H) (fun _ => none) d v
  | .non, _, q => by unfold RepD at q ⊢; exact q
  | .bl _, _, q => by unfold RepD at q ⊢; exact q
  | .int _, _, q => by unfold RepD at q ⊢; exact q
  | .str _, _, q => by unfold RepD at q ⊢; exact q
  | .ref _, _, q => by unfold RepD at q ⊢; exact q
  | .ty _, _, q => by unfold RepD at q ⊢; exact q
  | .tup ds, _, q => by
    unfold RepD at q ⊢
    obtain ⟨a, xs, e, h1, h2⟩ := q
    exact ⟨a, xs, e, h1.imp (fun z => ⟨hush_tup z.1, rfl, fun f => f⟩) fun z => z, reps_hush hok h2⟩
  | .lst ds, _, q => by
    unfold RepD at q ⊢
    obtain ⟨a, xs, e, h1, h2⟩ := q
    exact ⟨a, xs, e, h1.imp (fun z => ⟨hush_lst hok z.1, rfl, fun f => f⟩) fun z => z, reps_hush hok h2⟩
theorem reps_hush (hok : HOk P w H h) : ∀ {ds : List D} {vs : List V}, RepDs ⟨K, F⟩ H M ds vs → RepDs ⟨K, fun _ => False⟩ (hush h H) (fun _ => none) ds vs
  | [], _, q => by unfold RepDs at q ⊢; exact q
  | d :: ds, _, q => by
    unfold RepDs at q ⊢
    obtain ⟨x, r, e, h1, h2⟩ := q
    exact ⟨x, r, e, rep_hush hok h1, reps_hush hok h2⟩
end
theorem repH_hush : RepH ⟨K, fun _ => False⟩ (hush h H) (fun _ => none) := ⟨fun _ _ z => (nomatch z), fun _ z => z.elim⟩
theorem env0_hush {mg : Str → Option Value} {base : Heap} {A : Around} {outer : List Env} {s : Shared} (e : Env0 P w K mg base A outer s H) : Env0 P w K mg base A outer s (hush s.heap H) :=
  ⟨e.frames, e.mod, fun b o q => ⟨(e.bs b o q).1, hush_none (e.bs b o q).2⟩, e.bsz, e.funs, fun b hb => hush_none (e.frf b hb), hush_ok e.hok, e.bare⟩
end
end L2
namespace L2
open PySem PySem.Spec PyProof.Rows
theorem raises_of {X : Cx} {C : Addr} {i : Nat} {x : Str} {p pos epos : Pos} {tb : St → Hp → Prop} (hN : X.N[i]? = some x) (hv : X.env.scope.names.lookup x = some .local)
    (h : ∀ (pins : List (Addr × Obj)) (s : Shared) (σ : St) (H : Hp), Inv X pins σ H s → tb σ H → ∃ g, σ[i]? = some (some (.ref g)) ∧ PySem.W.FnAt g s.heap ∧ ∃ E',
      codeAny (model X.prog X.w) X.A (.call (.ref g) ⟨[], []⟩) (CR (CXb X.prog X.w C) X.stack X.prog X.w (hush s.heap H) s (fun _ _ => False) E') s)
    (hs : swapsWith (.Call (.Name x p) [] [] pos) none epos.line X.env = pure false := by rfl) (hd : (x == ("__debug__" : Str)) = false := by decide) :
    Raises X C [.Expr (.Call (.Name x p) [] [] pos) epos] tb := by
  intro pins s σ H I hb
  obtain ⟨g, e1, fa, E', hc⟩ := h pins s σ H I hb
  obtain ⟨m, hn, hl⟩ := I.loc
  obtain ⟨u, r, l⟩ := hl i x _ hN e1 (.inl hv)
  cases (show u = Value.ref g from r)
  have lk : X.env.kindOf x = some .local := hv
  have hm : m x = some (.ref g) := by
    rcases l with ⟨_, q⟩ | ⟨q, _⟩
    · exact q
    · rw [lk] at q; rcases q with q | q <;> cases q
  refine wpAny_execs_cons (wpAny_Expr_any (wpAny_Call_Name_kw (wpAny_Name (wpAny_loadName_local I.ok.kind lk hn hm ?_) hd)) I.quiet hs)
  refine PySem.W.callWith_F0 fa (wpAny_call (codeAny_mono hc fun res s1 z => ?_))
  cases res with
  | error e => exact ⟨_, _, hush_quiet I.hok, z⟩
  | ok f =>
    cases f with
    | ret v => obtain ⟨_, _, _, _, _, _, _, q⟩ := z; exact False.elim q
    | next => exact z.elim
    | brk => exact z.elim
    | cont => exact z.elim
end L2
namespace L2
open PySem PySem.Spec PyProof.Rows
structure Clo (H : Hp) (g c' : Addr) (name qual : Str) (params : Arguments) (body : Expr) (scope : Scope) (clos : List (Str × Addr)) (N : List Str) (σc : St) : Prop where
  fn : ∃ pm ctv, H g = some (.frz (PySem.W.kla_obj name qual params body scope clos pm c' ctv) (.own g))
  code : ∃ oc vs t, H c' = some (.frz oc (.own c')) ∧ oc.data = .fields vs ∧ vs[1]? = some (.str qual t)
  cells : ∀ y c, clos.lookup y = some c → ∃ o v, H c = some (.frz o (.own c)) ∧ o.data = .cell v
  vars : ∀ (i : Nat) (y : Str) (v : V), N[i]? = some y → σc[i]? = some (some v) → ∃ u c o, RelV v u ∧ scope.names.lookup y = some .free ∧ clos.lookup y = some c ∧ H c = some (.frz o (.own c)) ∧ o.data = .cell (some u)
  inj : ∀ x y c, clos.lookup x = some c → clos.lookup y = some c → x = y
  has : ∀ x, scope.names.lookup x = some .free → ∃ c, clos.lookup x = some c
  len : σc.length = N.length
theorem clo_any {CX : CXT} {P : Program} {w : World} {K : PySem.W.Frag} {mg : Str → Option Value} {base : Heap} {k : Nat} {g c' : Addr} {name qual : Str} {params : Arguments} {body : Expr} {scope : Scope} {clos : List (Str × Addr)} {N : List Str} {te : TE} {σc : St}
    {A : Around} {outer : List Env} {s : Shared} {H : Hp} {Q : VK} {E : XK} (hr : Room (k + 1) A) (e0 : Env0 P w K mg base A outer s H) (cl : Clo H g c' name qual params body scope clos N σc)
    (hk : scope.kind = .function) (hco : scope.isCoroutine = false) (hgen : scope.isGenerator = false) (hcell : ∀ x ∈ scope.names, x.2 ≠ .cell) (hb : ∀ pm ctv, bindArgs (PySem.W.kla_fn name qual params body scope clos pm (.ref c') ctv) ⟨[], []⟩ = pure [])
    (hterm : PE (cxE CX P w K mg base N (envL qual scope clos s.heap.objs.size g c') (fun _ => false) A outer s (hush s.heap H) E) body te) (ht : te σc (hush s.heap H) Q) :
    PySem.W.FnAt g s.heap ∧ codeAny (model P w) A (.call (.ref g) ⟨[], []⟩) (CR CX outer P w (hush s.heap H) s Q E) s := by
  obtain ⟨pm, ctv, hg⟩ := cl.fn
  obtain ⟨oc, vs, t, hc, hd, hv⟩ := cl.code
  have ho := (e0.hok g _ hg).1
  refine ⟨⟨_, _, _, _, ho⟩, ?_⟩
  refine clo_run (pm := pm) (ctv := ctv) hr (env0_hush e0) ho ⟨c', oc, vs, t, rfl, (e0.hok c' _ hc).1, hd, hv⟩ hk hco hgen hcell (hb pm ctv) (fun i y v e1 e2 => ?_) (fun y c e => ?_) cl.inj cl.has cl.len hterm ht
  · obtain ⟨u, c, o, r, q1, q2, q3, q4⟩ := cl.vars i y v e1 e2
    exact ⟨u, c, r, q1, q2, o, (e0.hok c _ q3).1, q4⟩
  · obtain ⟨o, v, q1, q2⟩ := cl.cells y c e
    exact ⟨⟨v, o, (e0.hok c _ q1).1, q2⟩, hush_own q1⟩
end L2
namespace L2
open PySem PySem.Spec PyProof.Rows
noncomputable def tCloG (tb : St → Hp → Prop) : TS := fun D σ H => tb σ H ∧ D.nx σ H
theorem ps_cloG {X : Cx} {i : Nat} {x : Str} {p pos epos : Pos} {tb : St → Hp → Prop} (hN : X.N[i]? = some x) (hv : X.env.scope.names.lookup x = some .local)
    (h : ∀ (pins : List (Addr × Obj)) (s : Shared) (σ : St) (H : Hp), Inv X pins σ H s → tb σ H → ∃ g, σ[i]? = some (some (.ref g)) ∧ PySem.W.FnAt g s.heap ∧ ∃ Q' E',
      codeAny (model X.prog X.w) X.A (.call (.ref g) ⟨[], []⟩) (CR CX0 X.stack X.prog X.w (hush s.heap H) s Q' E') s)
    (hs : swapsWith (.Call (.Name x p) [] [] pos) none epos.line X.env = pure false := by rfl) (hd : (x == ("__debug__" : Str)) = false := by decide) :
    PS X (.Expr (.Call (.Name x p) [] [] pos) epos) (tCloG tb) := by
  intro pins s σ H D I hb
  obtain ⟨hb, hD⟩ := hb
  obtain ⟨g, e1, fa, Q', E', hc⟩ := h pins s σ H I hb
  obtain ⟨m, hn, hl⟩ := I.loc
  obtain ⟨u, r, l⟩ := hl i x _ hN e1 (.inl hv)
  cases (show u = Value.ref g from r)
  have lk : X.env.kindOf x = some .local := hv
  have hm : m x = some (.ref g) := by
    rcases l with ⟨_, q⟩ | ⟨q, _⟩
    · exact q
    · rw [lk] at q; rcases q with q | q <;> cases q
  refine wpAny_Expr_any (wpAny_Call_Name_kw (wpAny_Name (wpAny_loadName_local I.ok.kind lk hn hm ?_) hd)) I.quiet hs
  refine PySem.W.callWith_F0 fa (wpAny_call (codeAny_mono hc fun res s1 z => ?_))
  cases res with
  | error e => exact False.elim z
  | ok f =>
    cases f with
    | ret v =>
      obtain ⟨v', H3, q1, q2, q3, q4, _, _⟩ := z
      exact ⟨σ, H, quiet_un I (hush_quiet I.hok) q1 q2 q3 q4, hD⟩
    | next => exact z.elim
    | brk => exact z.elim
    | cont => exact z.elim
end L2
namespace L2
open PySem PySem.Spec PyProof.Rows
noncomputable def cloH (h : Heap) (l : List Addr) (H : Hp) : Hp := fun b => if b ∈ l then (h.get? b).map fun o => .frz o (.own b) else H b
noncomputable def dropH (l : List Addr) (H : Hp) : Hp := fun b => if b ∈ l then none else H b
structure Lend (X : Cx) (H : Hp) (h : Heap) (l : List Addr) : Prop where
  free : ∀ b ∈ l, H b = none
  there : ∀ b ∈ l, ∃ o, h.get? b = some o
  nf : ∀ b ∈ l, b ∉ frs X.stack
  nb : ∀ b ∈ l, X.base.get? b = none
noncomputable def Ups (H H1 : Hp) : Prop := ∀ b o, H b = some o → H1 b = some o
section
variable {X : Cx} {pins : List (Addr × Obj)} {σ : St} {H H3 : Hp} {s s' : Shared} {l : List Addr} {h : Heap}
theorem cloH_in {b : Addr} {o : Obj} (hb : b ∈ l) (e : h.get? b = some o) : cloH h l H b = some (.frz o (.own b)) := by unfold cloH; rw [if_pos hb, e]; rfl
theorem cloH_out {b : Addr} (hb : b ∉ l) : cloH h l H b = H b := by unfold cloH; rw [if_neg hb]
theorem Lend.of (k : Lend X H h l) {b : Addr} {o : HO} (e : H b = some o) : b ∉ l := fun z => by rw [k.free b z] at e; cases e
theorem Lend.up (k : Lend X H h l) : Ups H (cloH h l H) := fun b o e => by rw [cloH_out (k.of e)]; exact e
theorem Lend.env0 (I : Inv X pins σ H s) (k : Lend X H s.heap l) : Env0 X.prog X.w X.K X.mg X.base X.A X.stack s (cloH s.heap l H) := by
  have e := I.env0
  refine ⟨e.frames, e.mod, fun b o q => ⟨(e.bs b o q).1, ?_⟩, e.bsz, e.funs, fun b hb => ?_, fun a o q => ?_, e.bare⟩
  · rw [cloH_out fun z => by rw [k.nb b z] at q; cases q]; exact (e.bs b o q).2
  · rw [cloH_out fun z => k.nf b z hb]; exact e.frf b hb
  · by_cases ha : a ∈ l
    · obtain ⟨ob, eo⟩ := k.there a ha
      rw [cloH_in ha eo] at q
      cases q
      exact ⟨eo, _, eo⟩
    · rw [cloH_out ha] at q
      exact (I.hok a o q).stay (fun _ _ _ z => z) (fun b z => k.up b _ z) fun b xs z => k.up b _ z
theorem Lend.drop (I : Inv X pins σ H s) (k : Lend X H s.heap l) (ho : s'.os = s.os) (hg : AllBare s'.gens) (u : Un (frs X.stack) [] (cloH s.heap l H) H3 s.heap s'.heap) (hok : HOk X.prog X.w H3 s'.heap) : Inv X pins σ (dropH l H3) s' := by
  have fz : ∀ b ∈ l, ∃ o, s.heap.get? b = some o ∧ H3 b = some (.frz o (.own b)) := fun b hb => by
    obtain ⟨o, e⟩ := k.there b hb
    exact ⟨o, e, u.frzs b _ _ (cloH_in hb e)⟩
  have out : ∀ {b : Addr}, b ∉ l → dropH l H3 b = H3 b := fun hb => by unfold dropH; rw [if_neg hb]
  have inn : ∀ {b : Addr}, b ∈ l → dropH l H3 b = none := fun hb => by unfold dropH; rw [if_pos hb]
  have un : Un (frs X.stack) [] H (dropH l H3) s.heap s'.heap := by
    refine ⟨fun b o e n h1 h2 => ?_, fun b o e n h1 h2 => ?_, fun b o e n h2 => ?_, fun b o e h2 => u.there b o e h2, fun b xs e => ?_, fun b o x e => ?_, fun b ps e => ?_⟩
    · by_cases hb : b ∈ l
      · obtain ⟨o', e', q⟩ := fz b hb
        rw [e] at e'; cases e'
        exact (hok b _ q).1
      · exact u.keep b o e (by rw [cloH_out hb]; exact n) h1 h2
    · have hb : b ∉ l := fun z => k.nf b z h1
      exact u.slot b o e (by rw [cloH_out hb]; exact n) h1 h2
    · by_cases hb : b ∈ l
      · exact inn hb
      · rw [out hb]; exact u.free b o e (by rw [cloH_out hb]; exact n) h2
    · rw [out (k.of e)]; exact u.tups b xs (k.up b _ e)
    · rw [out (k.of e)]; exact u.frzs b o x (k.up b _ e)
    · rw [out (k.of e)]; exact u.tbls b ps (k.up b _ e)
  have hokD : HOk X.prog X.w (dropH l H3) s'.heap := fun a o e => by
    have ha : a ∉ l := fun z => by rw [inn z] at e; cases e
    rw [out ha] at e
    refine (hok a o e).stay (fun _ _ _ z => z) (fun b z => ?_) fun b xs z => ?_
    · rw [out fun y => by obtain ⟨_, _, q⟩ := fz b y; rw [z] at q; cases q]; exact z
    · rw [out fun y => by obtain ⟨_, _, q⟩ := fz b y; rw [z] at q; cases q]; exact z
  exact I.call' ho un hokD hg (fun b z => absurd z (by simp))
end
section
variable {K : KF} {H H1 : Hp} {M : HpD}
theorem Ups.fz (u : Ups H H1) : Fz M H M H1 := fun a o e m => ⟨u a o e, m⟩
theorem Ups.rep (u : Ups H H1) (r : RepH K H M) : RepH K H1 M := ⟨fun a o e => by
  obtain ⟨o', e', q⟩ := r.at_ a o e
  exact ⟨o', u a o' e', q.mono u.fz⟩, fun a ha => by
  obtain ⟨⟨o', e'⟩, m'⟩ := r.fb a ha
  exact ⟨⟨o', u a o' e'⟩, m'⟩⟩
theorem Ups.upd {p : Addr} {o : HO} (u : Ups H H1) (hp : H1 p = none) : Ups H (upd H1 p o) := fun b x e => by
  rw [upd_ne (ne_of_none (u b x e) hp)]; exact u b x e
theorem Ups.refl : Ups H H := fun _ _ e => e
theorem Ups.trans {H2 : Hp} (a : Ups H H1) (b : Ups H1 H2) : Ups H H2 := fun c o e => b c o (a c o e)
end
section
variable (P : Program) (w : World) (K : PySem.W.Frag) (mg : Str → Option Value) (base : Heap) (C : Addr) (k : Nat)
noncomputable def RunsG (H : Hp) (g : Addr) : Prop := ∀ (p0 : Addr) (o0 : HO), H p0 = none → ∀ (A : Around) (outer : List Env) (s : Shared), Room k A → Env0 P w K mg base A outer s (upd H p0 o0) →
  PySem.W.FnAt g s.heap ∧ ∃ Q' E', codeAny (model P w) A (.call (.ref g) ⟨[], []⟩) (CR CX0 outer P w (hush s.heap (upd H p0 o0)) s Q' E') s
noncomputable def RunsB (H : Hp) (g : Addr) : Prop := ∀ (p0 : Addr) (o0 : HO), H p0 = none → ∀ (A : Around) (outer : List Env) (s : Shared), Room k A → Env0 P w K mg base A outer s (upd H p0 o0) →
  PySem.W.FnAt g s.heap ∧ ∃ E', codeAny (model P w) A (.call (.ref g) ⟨[], []⟩) (CR (CXb P w C) outer P w (hush s.heap (upd H p0 o0)) s (fun _ _ => False) E') s
noncomputable def spRef (good bad : List V) : Sp := fun vs H Q _ => ∃ g, vs = [.ref g] ∧
  ((RunsG P w K mg base k H g ∧ ∀ H1 p, Ups H H1 → H1 p = none → Q (.ref p) (upd H1 p (.lst good))) ∨
   (RunsB P w K mg base C k H g ∧ ∀ H1 p, Ups H H1 → H1 p = none → Q (.ref p) (upd H1 p (.lst bad))))
end
end L2
namespace L2
open PySem PySem.Spec PyProof.Rows
noncomputable def closL (cells : List (Str × Addr)) : List (Str × NameKind) → List (Str × Addr) → List (Str × Addr)
  | [], cs => cs
  | (n, kd) :: r, cs => closL cells r (if (kd == .free) = true then (match cells.lookup n with | some c => (n, c) :: cs | none => cs) else cs)
theorem closureFor_of {scope : Scope} {env : Env} (h : ∀ x ∈ scope.names, x.2 = .free → ∃ c, env.cells.lookup x.1 = some c) : closureFor scope env = pure (closL env.cells scope.names []) := by
  unfold closureFor
  generalize scope.names = ns at h
  generalize ([] : List (Str × Addr)) = cs
  induction ns generalizing cs with
  | nil => rfl
  | cons x r ih =>
    obtain ⟨n, kd⟩ := x
    have ih' := fun cs => ih (fun y hy => h y (List.mem_cons_of_mem _ hy)) cs
    simp only [bind_pure] at ih' ⊢
    rw [List.forIn_cons]
    by_cases hk : kd = .free
    · subst hk
      obtain ⟨c, hc⟩ := h _ List.mem_cons_self rfl
      have e : cellOf env n = pure c := by unfold cellOf; rw [hc]
      have hb : (NameKind.free == NameKind.free) = true := by decide
      rw [if_pos hb, e]
      simp only [pure_bind]
      rw [ih' ((n, c) :: cs), closL, if_pos hb, hc]
    · have e : (kd == NameKind.free) = false := by simpa using hk
      rw [if_neg (by rw [e]; decide)]
      simp only [pure_bind]
      rw [ih' cs, closL, if_neg (by rw [e]; decide)]
theorem closL_mem {cells : List (Str × Addr)} {y : Str} {c : Addr} : ∀ {ns : List (Str × NameKind)} {cs : List (Str × Addr)}, (y, c) ∈ closL cells ns cs → (y, c) ∈ cs ∨ cells.lookup y = some c
  | [], cs, h => .inl h
  | (n, kd) :: r, cs, h => by
    rw [closL] at h
    rcases closL_mem h with z | z
    · split at z
      · cases q : cells.lookup n with
        | none => rw [q] at z; exact .inl z
        | some d =>
          rw [q] at z
          rcases List.mem_cons.mp z with z | z
          · injection z with z1 z2
            subst z1; subst z2; exact .inr q
          · exact .inl z
      · exact .inl z
    · exact .inr z
theorem closL_keep {cells : List (Str × Addr)} {x : Str × Addr} : ∀ {ns : List (Str × NameKind)} {cs : List (Str × Addr)}, x ∈ cs → x ∈ closL cells ns cs
  | [], cs, h => h
  | (n, kd) :: r, cs, h => by
    rw [closL]
    refine closL_keep ?_
    split
    · cases q : cells.lookup n with
      | none => exact h
      | some d => exact List.mem_cons_of_mem _ h
    · exact h
theorem closL_in {cells : List (Str × Addr)} {y : Str} {c : Addr} (e : cells.lookup y = some c) : ∀ {ns : List (Str × NameKind)} {cs : List (Str × Addr)}, (y, NameKind.free) ∈ ns → (y, c) ∈ closL cells ns cs
  | [], cs, h => by cases h
  | (n, kd) :: r, cs, h => by
    rw [closL]
    rcases List.mem_cons.mp h with h | h
    · injection h with h1 h2
      subst h1; subst h2
      rw [if_pos (show (NameKind.free == NameKind.free) = true by decide), e]
      exact closL_keep List.mem_cons_self
    · exact closL_in e h
theorem lookup_of_mem {y : Str} {c : Addr} : ∀ {l : List (Str × Addr)}, (y, c) ∈ l → (∀ d, (y, d) ∈ l → d = c) → l.lookup y = some c
  | [], h, _ => by cases h
  | (z, d) :: r, h, u => by
    rw [List.lookup_cons]
    by_cases q : y = z
    · subst q
      rw [beq_self_eq_true]
      rw [u d List.mem_cons_self]
    · rw [show (y == z) = false from by simpa using q]
      refine lookup_of_mem ?_ fun d hd => u d (List.mem_cons_of_mem _ hd)
      rcases List.mem_cons.mp h with h | h
      · injection h with h1 h2; exact absurd h1 q
      · exact h
theorem closL_look {cells : List (Str × Addr)} {y : Str} {c : Addr} {ns : List (Str × NameKind)} (e : cells.lookup y = some c) (h : (y, NameKind.free) ∈ ns) : (closL cells ns []).lookup y = some c :=
  lookup_of_mem (closL_in e h) fun d hd => by
    rcases closL_mem hd with z | z
    · cases z
    · rw [e] at z; cases z; rfl
end L2
namespace L2
open PySem PySem.Spec PyProof.Rows
@[irreducible] noncomputable def tRefD (Pt : Addr) (q : Str) (N2 : List Str) (is : List Nat) (teG teB : TDE) (gD bD : List D) : TDE := fun σ M Q => M Pt = some (.tab q) ∧ ∃ ds : List D, is.map (fun i => σ[i]?) = ds.map (fun d => some (some d)) ∧
  ((teG (startD N2 ds) (fun _ => none) (fun _ _ => True) ∧ Q (.lst gD) M) ∨ (teB (startD N2 ds) (fun _ => none) (fun _ _ => False) ∧ Q (.lst bD) M))
theorem rd_ref {Pt : Addr} {q : Str} {N2 : List Str} {is : List Nat} {teG teB : TDE} {gD bD : List D} {σ : SD} {M : HpD} {Q : KD} {ds : List D} (hT : M Pt = some (.tab q)) (e : is.map (fun i => σ[i]?) = ds.map (fun d => some (some d)))
    (h : (teG (startD N2 ds) (fun _ => none) (fun _ _ => True) ∧ Q (.lst gD) M) ∨ (teB (startD N2 ds) (fun _ => none) (fun _ _ => False) ∧ Q (.lst bD) M)) : tRefD Pt q N2 is teG teB gD bD σ M Q := by unfold tRefD; exact ⟨hT, ds, e, h⟩
theorem rel_vars {K : KF} {σD : SD} {M : HpD} {σ : St} {H : Hp} (rel : Rel K σD M σ H) : ∀ {is : List Nat} {ds : List D}, is.map (fun i => σD[i]?) = ds.map (fun d => some (some d)) → ∃ vs : List V, is.map (fun i => σ[i]?) = vs.map (fun v => some (some v)) ∧ RepDs K H M ds vs
  | [], [], _ => ⟨[], rfl, .nil⟩
  | [], _ :: _, h => by cases h
  | _ :: _, [], h => by cases h
  | i :: is, d :: ds, h => by
    rw [List.map_cons, List.map_cons, List.cons.injEq] at h
    obtain ⟨v, e, r⟩ := rel.st i d h.1
    obtain ⟨vs, e2, r2⟩ := rel_vars rel h.2
    exact ⟨v :: vs, by rw [List.map_cons, List.map_cons, e, e2], .cons r r2⟩
theorem Clo.up {H H' : Hp} {g c' : Addr} {name qual : Str} {params : Arguments} {body : Expr} {scope : Scope} {clos : List (Str × Addr)} {N : List Str} {σc : St} (c : Clo H g c' name qual params body scope clos N σc) (u : Ups H H') : Clo H' g c' name qual params body scope clos N σc := by
  obtain ⟨⟨pm, ctv, h1⟩, ⟨oc, vs, t, h2, h3⟩, h4, h5, h6, h7, h8⟩ := c
  refine ⟨⟨pm, ctv, u _ _ h1⟩, ⟨oc, vs, t, u _ _ h2, h3⟩, fun y c e => ?_, fun i y v e1 e2 => ?_, h6, h7, h8⟩
  · obtain ⟨o, v, q1, q2⟩ := h4 y c e
    exact ⟨o, v, u _ _ q1, q2⟩
  · obtain ⟨a, c, o, q1, q2, q3, q4, q5⟩ := h5 i y v e1 e2
    exact ⟨a, c, o, q1, q2, q3, u _ _ q4, q5⟩
theorem start_at {N : List Str} {vs : List V} {i : Nat} {v : V} (h : (start N vs)[i]? = some (some v)) : vs[i]? = some v := by
  unfold start at h
  by_cases hi : i < vs.length
  · rw [List.getElem?_append_left (by simpa using hi), List.getElem?_map] at h
    cases e : vs[i]? with
    | none => rw [e] at h; cases h
    | some a => rw [e] at h; cases h; rfl
  · rw [List.getElem?_append_right (by simpa using hi), List.getElem?_replicate] at h
    split at h <;> cases h
theorem ed_ref {X : Cx} {x : Str} {p pos lpos : Pos} {kk k : Nat} {params : Arguments} {body : Expr} {scope : Scope} {c Pt C f : Addr} {fd : FuncData} {ps : List Str} {qual : Str} {N2 : List Str} {is : List Nat} {teG teB : TDE} {gD bD : List D} {gV bV : List V}
    (F : FnOk X.prog X.w X.K X.mg X.base CX0 k f fd ps (spRef X.prog X.w X.K X.mg X.base C (kk + 1) gV bV)) (hr : Room k X.A) (hg : Gl X x) (hm : X.mg x = some (.ref f)) (hk : PySem.W.keepIn X.K (.ref f) = true) (hb : Binds X.K fd ps [])
    (hfn : ∀ y, X.fn y = true) (hq : X.env.qual ++ "<lambda>" = qual) (hcode : X.env.code = .ref c) (hC : PySem.W.CodeHd X.base c Pt) (hbm : BMain X.mg X.base) (hdef : defaultsOf params X.env = ([], []))
    (hsc : scope.kind = .function) (hco : scope.isCoroutine = false) (hgen : scope.isGenerator = false) (hfree : ∀ x ∈ scope.names, x.2 ≠ .cell) (hcells : ∀ x ∈ scope.names, x.2 = .free → X.env.scope.names.lookup x.1 = some .cell ∨ X.env.scope.names.lookup x.1 = some .free)
    (hlk : ∀ x ∈ scope.names, scope.names.lookup x.1 = some x.2) (hN2 : ∀ y ∈ N2, (y, NameKind.free) ∈ scope.names) (his : is.map (fun i => X.N[i]?) = N2.map some)
    (hba : ∀ clos pm c' ctv, bindArgs (PySem.W.kla_fn "<lambda>" qual params body scope clos pm (.ref c') ctv) ⟨[], []⟩ = pure [])
    (hG : ∀ (g c' : Addr) (clos : List (Str × Addr)) (A : Around) (outer : List Env) (s : Shared) (H : Hp) (E : XK), Room kk (A.deeper (envL qual scope clos s.heap.objs.size g c')) → ED (cxE CX0 X.prog X.w X.K X.mg X.base N2 (envL qual scope clos s.heap.objs.size g c') (fun _ => false) A outer s H E) body teG)
    (hB : ∀ (g c' : Addr) (clos : List (Str × Addr)) (A : Around) (outer : List Env) (s : Shared) (H : Hp) (E : XK), (∀ e H', E e none H') → Room kk (A.deeper (envL qual scope clos s.heap.objs.size g c')) → ED (cxE (CXb X.prog X.w C) X.prog X.w X.K X.mg X.base N2 (envL qual scope clos s.heap.objs.size g c') (fun _ => false) A outer s H E) body teB)
    (hgd : ∀ K H M, RepDs K H M gD gV) (hbd : ∀ K H M, RepDs K H M bD bV) (hdb : (x == ("__debug__" : Str)) = false := by decide)
    (he : starEach [.Lambda params body scope lpos] X.env = (false, eval (.Lambda params body scope lpos) X.env) :: starEach [] X.env := by rfl) (hpl : (backTo pos (starEach [] X.env)).any (·.1) = false := by rfl) :
    ED X (.Call (.Name x p) [.Lambda params body scope lpos] [] pos) (tRefD Pt qual N2 is teG teB gD bD) := by
  intro pins s σ H Q I h
  obtain ⟨F', σD, M, QD, rel, h, pp⟩ := h
  unfold tRefD at h
  obtain ⟨hT, ds, hds, h⟩ := h
  refine wpAny_Call_Name_kw (ld_glob I hg hm ?_ hdb)
  refine PySem.W.callWith_K (h₀ := X.base) I.ok.mod.kin hk ?_ he hpl
  rw [he]
  show wpAny _ _ (spliced ((false, eval (.Lambda params body scope lpos) X.env) :: backTo pos (starEach [] X.env))) _ _ s
  have hcl : closureFor scope X.env = pure (closL X.env.cells scope.names []) := closureFor_of fun y hy e => I.ok.has y.1 (hcells y hy e)
  refine Calls.spliced_cons (lam_evalC I rel.hp hT hq hcode hC hbm hdef hcl fun f0 c' ctv oc ws t H1 s1 I1 rh1 fz1 hc' mc' hd hv hge => ?_)
  refine Calls.spliced_nil ⟨I1.kIn, ?_⟩
  obtain ⟨vs, hvs, rvs⟩ := rel_vars rel hds
  have rv1 := rvs.mono fz1
  generalize hclos : closL X.env.cells scope.names [] = clos at I1 hcl
  have pf := I1.pin (f0, _) (List.mem_append_right _ (List.mem_append_right _ List.mem_cons_self))
  have cm : ∀ y d, (y, d) ∈ clos → X.env.cells.lookup y = some d := fun y d z => by
    rw [← hclos] at z
    exact (closL_mem z).elim (fun q => by cases q) fun q => q
  have inl : ∀ b, b ∈ f0 :: clos.map (·.2) → b = f0 ∨ ∃ y, X.env.cells.lookup y = some b := fun b hb => by
    rcases List.mem_cons.mp hb with z | z
    · exact .inl z
    · obtain ⟨q, hq, rfl⟩ := List.mem_map.mp z
      exact .inr ⟨q.1, cm q.1 q.2 hq⟩
  have kd : Lend X H1 s1.heap (f0 :: clos.map (·.2)) := by
    refine ⟨fun b hb => ?_, fun b hb => ?_, fun b hb => ?_, fun b hb => ?_⟩
    · rcases inl b hb with rfl | ⟨y, e⟩
      · exact pf.2.1
      · exact I1.freeC y b e
    · rcases inl b hb with rfl | ⟨y, e⟩
      · exact ⟨_, pf.1⟩
      · obtain ⟨v, o, q, _⟩ := I1.cell y b e
        exact ⟨o, q⟩
    · intro z
      rcases List.mem_cons.mp (I1.stkSub b z) with z | z
      · rcases inl b hb with rfl | ⟨y, e⟩
        · exact pf.2.2.1 z
        · exact I1.cne y b e z
      · rcases inl b hb with rfl | ⟨y, e⟩
        · exact pf.2.2.2.1 z
        · obtain ⟨_, o, q, _⟩ := I1.ok.funs.mem z
          exact absurd (Nat.lt_of_lt_of_le (Heap.lt_size q) (I1.ok.cab y b (hfn y) e)) (Nat.lt_irrefl _)
    · have ge : X.s₀.heap.objs.size ≤ b := by
        rcases inl b hb with rfl | ⟨y, e⟩
        · exact hge
        · exact I1.ok.cab y b (hfn y) e
      exact Heap.get?_none_of_le (Nat.le_trans I1.ok.bsz ge)
  have hlen : vs.length = N2.length := by
    have a := congrArg List.length hvs
    have b := congrArg List.length his
    simp only [List.length_map] at a b
    omega
  have cl : Clo (cloH s1.heap (f0 :: clos.map (·.2)) H1) f0 c' "<lambda>" qual params body scope clos N2 (start N2 vs) := by
    have cellin : ∀ y d, clos.lookup y = some d → ∃ o v, cloH s1.heap (f0 :: clos.map (·.2)) H1 d = some (.frz o (.own d)) ∧ s1.heap.get? d = some o ∧ o.data = .cell v := fun y d e => by
      have m : (y, d) ∈ clos := PySem.mem_of_lookup e
      obtain ⟨v, o, q1, q2⟩ := I1.cell y d (cm y d m)
      exact ⟨o, v, cloH_in (List.mem_cons_of_mem _ (List.mem_map.mpr ⟨(y, d), m, rfl⟩)) q1, q1, q2⟩
    refine ⟨⟨_, ctv, cloH_in List.mem_cons_self pf.1⟩, ⟨oc, ws, t, kd.up _ _ hc', hd, hv⟩, fun y d e => ?_, fun i y v e1 e2 => ?_, fun a b d ea eb => I1.ok.inj a b d (cm a d (PySem.mem_of_lookup ea)) (cm b d (PySem.mem_of_lookup eb)), fun y hy => ?_, ?_⟩
    · obtain ⟨o, v, q1, _, q2⟩ := cellin y d e
      exact ⟨o, v, q1, q2⟩
    · have ev := start_at e2
      have mem := hN2 y (List.mem_of_getElem? e1)
      have lkf : scope.names.lookup y = some .free := hlk _ mem
      obtain ⟨j, hj1, hj2⟩ : ∃ j, σ[j]? = some (some v) ∧ X.N[j]? = some y := by
        have a := congrArg (fun l => l[i]?) hvs
        have b := congrArg (fun l => l[i]?) his
        simp only [List.getElem?_map] at a b
        rw [ev] at a
        rw [e1] at b
        cases hi : is[i]? with
        | none => rw [hi] at a; cases a
        | some j =>
          rw [hi] at a b
          exact ⟨j, by simpa using a, by simpa using b⟩
      have kc := hcells _ mem rfl
      obtain ⟨m, hn, hl⟩ := I1.loc
      obtain ⟨u, ru, lku⟩ := hl j y v hj2 hj1 (.inr kc)
      rcases lku with ⟨z, _⟩ | ⟨_, d, ed, cd⟩
      · have z : X.env.scope.names.lookup y = some .local := z
        have kc : X.env.scope.names.lookup y = some .cell ∨ X.env.scope.names.lookup y = some .free := kc
        rcases kc with q | q <;> (rw [z] at q; cases q)
      · have cly : clos.lookup y = some d := by rw [← hclos]; exact closL_look ed mem
        obtain ⟨o, q1, q2⟩ := cd
        exact ⟨u, d, o, ru, lkf, cly, cloH_in (List.mem_cons_of_mem _ (List.mem_map.mpr ⟨(y, d), PySem.mem_of_lookup cly, rfl⟩)) q1, q2⟩
    · have mem := PySem.mem_of_lookup hy
      obtain ⟨d, ed⟩ := I1.ok.has y (hcells _ mem rfl)
      exact ⟨d, by rw [← hclos]; exact closL_look ed mem⟩
    · unfold start
      rw [List.length_append, List.length_map, List.length_replicate]
      omega
  have fin : ∀ (xs : List D) (ys : List V), (∀ K H M, RepDs K H M xs ys) → QD (.lst xs) M → ∀ (H2 : Hp) (q : Addr), Ups (cloH s1.heap (f0 :: clos.map (·.2)) H1) H2 → H2 q = none → Q (.ref q) (dropH (f0 :: clos.map (·.2)) (upd H2 q (.lst ys))) := fun xs ys hxy qq H2 q u2 hq2 => by
    have nq : q ∉ f0 :: clos.map (·.2) := fun z => by
      obtain ⟨o, e⟩ := kd.there q z
      rw [u2 _ _ (cloH_in z e)] at hq2; cases hq2
    have u4 : Ups H1 (dropH (f0 :: clos.map (·.2)) (upd H2 q (.lst ys))) := fun b o e => by
      have e2 := u2 _ _ (kd.up b o e)
      unfold dropH
      rw [if_neg (kd.of e), upd_ne (ne_of_none e2 hq2)]
      exact e2
    have h1q : H1 q = none := by
      cases z : H1 q with
      | none => rfl
      | some o => rw [u2 _ _ (kd.up q o z)] at hq2; cases hq2
    refine pp (.lst xs) M (.ref q) _ (fz1.trans u4.fz) (u4.rep rh1) ?_ qq
    unfold RepD
    exact ⟨q, ys, rfl, .inl ⟨.inl (by unfold dropH; rw [if_neg nq, upd_same]), rh1.free h1q, rh1.nf h1q⟩, hxy _ _ _⟩
  have run := F.run X.A X.stack s1 (cloH s1.heap (f0 :: clos.map (·.2)) H1) ⟨[.ref f0], []⟩ [.ref f0] [.ref f0] (fun v H3 => Q v (dropH (f0 :: clos.map (·.2)) H3)) E0 hr (Lend.env0 I1 kd)
  have sp : spRef X.prog X.w X.K X.mg X.base C (kk + 1) gV bV [.ref f0] (cloH s1.heap (f0 :: clos.map (·.2)) H1) (fun v H3 => Q v (dropH (f0 :: clos.map (·.2)) H3)) E0 := by
    refine ⟨f0, rfl, ?_⟩
    rcases h with ⟨hg, hQ⟩ | ⟨hb, hQ⟩
    · refine .inl ⟨fun p0 o0 hp0 A outer s2 hrA e0 => ?_, fin gD gV hgd hQ⟩
      have up := (Ups.refl (H := cloH s1.heap (f0 :: clos.map (·.2)) H1)).upd (o := o0) hp0
      have hh := clo_any (CX := CX0) (te := LiftE X.K teG) (Q := fun _ _ => True) (E := E0) hrA e0 (cl.up up) hsc hco hgen hfree (fun pm ctv => hba clos pm c' ctv) (hG f0 c' clos A outer s2 _ _ (hrA.deeper _))
        ⟨fun _ => False, startD N2 ds, fun _ => none, fun _ _ => True, start_rel (reps_hush e0.hok (rv1.mono ((kd.up.trans up).fz (M := M)))) repH_hush, hg, fun _ _ _ _ _ _ _ _ => trivial⟩
      exact ⟨hh.1, _, _, hh.2⟩
    · refine .inr ⟨fun p0 o0 hp0 A outer s2 hrA e0 => ?_, fin bD bV hbd hQ⟩
      have up := (Ups.refl (H := cloH s1.heap (f0 :: clos.map (·.2)) H1)).upd (o := o0) hp0
      have hh := clo_any (CX := CXb X.prog X.w C) (te := LiftE X.K teB) (Q := fun _ _ => False) (E := fun _ _ _ => True) hrA e0 (cl.up up) hsc hco hgen hfree (fun pm ctv => hba clos pm c' ctv) (hB f0 c' clos A outer s2 _ _ (fun _ _ => trivial) (hrA.deeper _))
        ⟨fun _ => False, startD N2 ds, fun _ => none, fun _ _ => False, start_rel (reps_hush e0.hok (rv1.mono ((kd.up.trans up).fz (M := M)))) repH_hush, hb, fun _ _ _ _ _ _ _ z => z⟩
      exact ⟨hh.1, _, hh.2⟩
  have hl : ([Value.ref f0] ++ []).length = ps.length := F.len _ _ _ _ sp
  refine wpAny_call (codeAny_mono (run (hb s1 [.ref f0] I1.kIn hl) (.cons rfl .nil) sp) fun r s' hz => ?_)
  cases r with
  | error e => exact False.elim hz
  | ok fl =>
    cases fl with
    | ret u =>
      obtain ⟨v, H3, q1, q2, q3, q4, q5, q6⟩ := hz
      have J := Lend.drop I1 kd q1 q2 q3 q4
      exact ⟨v, _, J.pins_of fun p hp => J.pin p (List.mem_append_right _ (List.mem_append_left _ hp)), q5, q6⟩
    | next => exact False.elim hz
    | brk => exact False.elim hz
    | cont => exact False.elim hz
end L2
namespace L2
open PySem PySem.Spec PyProof.Rows
noncomputable def nsOkIn (K : PySem.W.Frag) (N : Addr) : Bool := match K.lookup N with
  | some o => (match o.data with | .dict es _ => es.all (fun e => match e.key with | .str _ _ => true | _ => false) && (nsFind es "__init__").isNone | _ => false)
  | none => false
theorem nsOk_of {K : PySem.W.Frag} {N : Addr} {h : Heap} (X : K.In h) (q : nsOkIn K N = true) : ∃ m, h.Ns N m ∧ m "__init__" = none := by
  unfold nsOkIn at q
  cases ho : K.lookup N with
  | none => rw [ho] at q; cases q
  | some o =>
    rw [ho] at q
    dsimp only at q
    have hh := X _ _ ho
    cases hd : o.data with
    | dict es ep =>
      rw [hd, Bool.and_eq_true] at q
      refine ⟨h.nsMap N, .of_isNs (by unfold Heap.isNs; rw [hh]; dsimp only; rw [hd]; exact q.1), ?_⟩
      unfold Heap.nsMap
      rw [hh]; dsimp only; rw [hd]
      exact Option.isNone_iff_eq_none.mp q.2
    | _ => rw [hd] at q; cases q
noncomputable def excIn (K : PySem.W.Frag) (C D : Addr) : Bool := match K.lookup C, K.lookup D with
  | some ⟨.type "type", _, .cls cd, sl⟩, some ⟨_, _, .cls cdD, _⟩ => (match cd.mro, sl.toList with
    | .ref C' :: bm, [_, _, _, _, some (.builtin n), _] => C' == C && decide (bm = .ref D :: bmVE) && !cd.hasDel && n == "ValueError.__new__" && nsOkIn K cd.ns && nsOkIn K cdD.ns
    | _, _ => false)
  | _, _ => false
theorem excC_of {K : PySem.W.Frag} {C D : Addr} {h : Heap} (X : K.In h) (q : excIn K C D = true) : ExcC h C (.ref D :: bmVE) := by
  unfold excIn at q
  split at q
  · rename_i dd cd sl c0 d0 cdD sl0 ho hoD
    split at q
    · rename_i C' bm k0 k1 k2 k3 n k5 hm hs
      simp only [Bool.and_eq_true, beq_iff_eq, Bool.not_eq_true', decide_eq_true_eq] at q
      obtain ⟨⟨⟨⟨⟨rfl, hbm⟩, hdel⟩, hn⟩, hns⟩, hnsD⟩ := q
      obtain ⟨nm, bs, mro, ns, qn, hd, sn, sub, ab, col, del⟩ := cd
      dsimp only at hm hdel hns
      subst hm hdel hbm hn
      have hsl : sl = #[k0, k1, k2, k3, some (.builtin "ValueError.__new__"), k5] := by
        obtain ⟨l⟩ := sl
        simp only at hs
        rw [hs]
      subst hsl
      obtain ⟨mN, q1, q2⟩ := nsOk_of X hns
      obtain ⟨mD, r1, r2⟩ := nsOk_of X hnsD
      exact ⟨nm, qn, ns, bs, hd, sn, sub, ab, col, dd, k0, k1, k2, k3, k5, mN, X _ _ ho, q1, q2, .own (X _ _ hoD) r1 r2 .base⟩
    · cases q
  · cases q
section
variable {P : Program} {w : World} {K : PySem.W.Frag} {mg : Str → Option Value} {base : Heap} {C : Addr} {N : List Str} {env : Env} {fn : Str → Bool} {A : Around} {outer : List Env} {s₀ : Shared} {H₀ : Hp} {E₀ : XK}
theorem ed_callBE {x : Str} {p pos : Pos} {k : Nat} {e : Expr} {es : List Expr} {sp : SpB} {t : TDA} (hc : CalB C P w K mg base x k sp) (hr : Room k (cxE (CXb P w C) P w K mg base N env fn A outer s₀ H₀ E₀).A) (hg : Gl (cxE (CXb P w C) P w K mg base N env fn A outer s₀ H₀ E₀) x)
    (ha : AD (cxE (CXb P w C) P w K mg base N env fn A outer s₀ H₀ E₀) (e :: es) t) (hE : ∀ e H, E₀ e none H) (hl : env.locals = s₀.heap.objs.size) (hf : env.frame = some s₀.heap.objs.size) (hdb : (x == ("__debug__" : Str)) = false := by decide)
    (he : starEach (e :: es) env = (false, eval e env) :: starEach es env := by rfl)
    (hpl : (backTo pos (starEach es env)).any (·.1) = false := by rfl) :
    ED (cxE (CXb P w C) P w K mg base N env fn A outer s₀ H₀ E₀) (.Call (.Name x p) (e :: es) [] pos) (tCallB sp t) := by
  obtain ⟨g, fd, ps, F, hm, hk, hb⟩ := hc
  refine (pe_call F hr hg hm hk hb .nil (pass_bE hl hf) ha hdb he hpl).wk fun σ H Q z => ?_
  obtain ⟨F', σD, M, QD, rel, h, p⟩ := z
  unfold tCallB at h
  refine lA rel h fun d M1 v H1 f1 rel1 r1 h1 => ?_
  refine ⟨⟨F', d, M1, ?_, rel1.hp, h1⟩, hE⟩
  rw [List.append_nil]; exact r1
end
theorem Fun.calB {P : Program} {w : World} {K : PySem.W.Frag} {mg : Str → Option Value} {base : Heap} {C : Addr} {x qual : Str} {st : Stmt} {f : Addr} {fd : FuncData} {ps : List Str} {k : Nat} {sp : SpB} (F : Fun K x qual st f fd) (ok : FnOk P w K mg base (CXb P w C) k f fd ps (LiftB K sp)) (hm : mg x = some (.ref f)) (hb : Binds K fd ps []) : CalB C P w K mg base x k sp :=
  ⟨f, fd, ps, ok, hm, F.kp, hb⟩
noncomputable def CalR (P : Program) (w : World) (K : PySem.W.Frag) (mg : Str → Option Value) (base : Heap) (C : Addr) (x : Str) (k kk : Nat) (gV bV : List V) : Prop :=
  ∃ (f : Addr) (fd : FuncData) (ps : List Str), FnOk P w K mg base CX0 k f fd ps (spRef P w K mg base C (kk + 1) gV bV) ∧ mg x = some (.ref f) ∧ PySem.W.keepIn K (.ref f) = true ∧ Binds K fd ps []
theorem Fun.calR {P : Program} {w : World} {K : PySem.W.Frag} {mg : Str → Option Value} {base : Heap} {C : Addr} {x qual : Str} {st : Stmt} {f : Addr} {fd : FuncData} {ps : List Str} {k kk : Nat} {gV bV : List V} (F : Fun K x qual st f fd) (ok : FnOk P w K mg base CX0 k f fd ps (spRef P w K mg base C (kk + 1) gV bV)) (hm : mg x = some (.ref f)) (hb : Binds K fd ps []) : CalR P w K mg base C x k kk gV bV :=
  ⟨f, fd, ps, ok, hm, F.kp, hb⟩
theorem ed_refR {X : Cx} {x : Str} {p pos lpos : Pos} {kk k : Nat} {params : Arguments} {body : Expr} {scope : Scope} {c Pt C : Addr} {qual : Str} {N2 : List Str} {is : List Nat} {teG teB : TDE} {gD bD : List D} {gV bV : List V}
    (R : CalR X.prog X.w X.K X.mg X.base C x k kk gV bV) (hr : Room k X.A) (hg : Gl X x)
    (hfn : ∀ y, X.fn y = true) (hq : X.env.qual ++ "<lambda>" = qual) (hcode : X.env.code = .ref c) (hC : PySem.W.CodeHd X.base c Pt) (hbm : BMain X.mg X.base) (hdef : defaultsOf params X.env = ([], []))
    (hsc : scope.kind = .function ∧ scope.isCoroutine = false ∧ scope.isGenerator = false) (hfree : ∀ x ∈ scope.names, x.2 ≠ .cell) (hcells : ∀ x ∈ scope.names, x.2 = .free → X.env.scope.names.lookup x.1 = some .cell ∨ X.env.scope.names.lookup x.1 = some .free)
    (hlk : ∀ x ∈ scope.names, scope.names.lookup x.1 = some x.2) (hN2 : ∀ y ∈ N2, (y, NameKind.free) ∈ scope.names) (his : is.map (fun i => X.N[i]?) = N2.map some)
    (hba : ∀ clos pm c' ctv, bindArgs (PySem.W.kla_fn "<lambda>" qual params body scope clos pm (.ref c') ctv) ⟨[], []⟩ = pure [])
    (hG : ∀ (g c' : Addr) (clos : List (Str × Addr)) (A : Around) (outer : List Env) (s : Shared) (H : Hp) (E : XK), Room kk (A.deeper (envL qual scope clos s.heap.objs.size g c')) → ED (cxE CX0 X.prog X.w X.K X.mg X.base N2 (envL qual scope clos s.heap.objs.size g c') (fun _ => false) A outer s H E) body teG)
    (hB : ∀ (g c' : Addr) (clos : List (Str × Addr)) (A : Around) (outer : List Env) (s : Shared) (H : Hp) (E : XK), (∀ e H', E e none H') → Room kk (A.deeper (envL qual scope clos s.heap.objs.size g c')) → ED (cxE (CXb X.prog X.w C) X.prog X.w X.K X.mg X.base N2 (envL qual scope clos s.heap.objs.size g c') (fun _ => false) A outer s H E) body teB)
    (hgd : ∀ K H M, RepDs K H M gD gV) (hbd : ∀ K H M, RepDs K H M bD bV) (hdb : (x == ("__debug__" : Str)) = false := by decide)
    (he : starEach [.Lambda params body scope lpos] X.env = (false, eval (.Lambda params body scope lpos) X.env) :: starEach [] X.env := by rfl) (hpl : (backTo pos (starEach [] X.env)).any (·.1) = false := by rfl) :
    ED X (.Call (.Name x p) [.Lambda params body scope lpos] [] pos) (tRefD Pt qual N2 is teG teB gD bD) := by
  obtain ⟨f, fd, ps, F, hm, hk, hb⟩ := R
  exact ed_ref F hr hg hm hk hb hfn hq hcode hC hbm hdef hsc.1 hsc.2.1 hsc.2.2 hfree hcells hlk hN2 his hba hG hB hgd hbd hdb he hpl
noncomputable def refChk (lit out : Scope) (N2 : List Str) : Bool :=
  lit.names.all (fun x => x.2 != .cell) && lit.names.all (fun x => x.2 != .free || out.names.lookup x.1 == some .cell || out.names.lookup x.1 == some .free) && lit.names.all (fun x => lit.names.lookup x.1 == some x.2) && N2.all (fun y => lit.names.lookup y == some .free)
theorem refChk_all {lit out : Scope} {N2 : List Str} (h : refChk lit out N2 = true) : (∀ x ∈ lit.names, x.2 ≠ .cell) ∧ (∀ x ∈ lit.names, x.2 = .free → out.names.lookup x.1 = some .cell ∨ out.names.lookup x.1 = some .free) ∧ (∀ x ∈ lit.names, lit.names.lookup x.1 = some x.2) ∧ ∀ y ∈ N2, (y, NameKind.free) ∈ lit.names := by
  unfold refChk at h
  simp only [Bool.and_eq_true, List.all_eq_true] at h
  obtain ⟨⟨⟨h1, h2⟩, h3⟩, h4⟩ := h
  refine ⟨fun x hx => by simpa using h1 x hx, fun x hx e => ?_, fun x hx => beq_iff_eq.mp (h3 x hx), fun y hy => PySem.mem_of_lookup (beq_iff_eq.mp (h4 y hy))⟩
  have := h2 x hx
  rw [e] at this
  simpa using this
theorem refChk_free {lit out : Scope} {N2 : List Str} (h : refChk lit out N2 = true) : ∀ x ∈ lit.names, x.2 ≠ .cell := (refChk_all h).1
theorem refChk_cells {lit out : Scope} {N2 : List Str} (h : refChk lit out N2 = true) : ∀ x ∈ lit.names, x.2 = .free → out.names.lookup x.1 = some .cell ∨ out.names.lookup x.1 = some .free := (refChk_all h).2.1
theorem refChk_look {lit out : Scope} {N2 : List Str} (h : refChk lit out N2 = true) : ∀ x ∈ lit.names, lit.names.lookup x.1 = some x.2 := (refChk_all h).2.2.1
theorem refChk_N {lit out : Scope} {N2 : List Str} (h : refChk lit out N2 = true) : ∀ y ∈ N2, (y, NameKind.free) ∈ lit.names := (refChk_all h).2.2.2
theorem lc_is {K : PySem.W.Frag} {a C : Addr} {d : D} {v : V} {b : Bool} {H : Hp} {Q : VK} (ha : isAns K C d b) (r : RepD ⟨K, fun _ => False⟩ H (fun _ => none) d v) (q : ∀ H', Ups H H' → Q (.bl b) H') : LiftC K (cIsE K a C) [.ref a, v] H Q :=
  ⟨fun _ => False, [.ref a, d], fun _ => none, fun x _ => x = .bl b, .cons (by unfold RepD; rfl) (.cons r .nil), ⟨fun _ _ z => (nomatch z), fun _ z => z.elim⟩, rd_isE ha rfl, fun x M' u H' f _ ru e => by
    subst e
    unfold RepD at ru
    subst ru
    exact q H' fun b o e => (f b o e rfl).1⟩
theorem rep_let (K : KF) (H : Hp) (M : HpD) : RepDs K H M [.str "let"] [.str "let"] := .cons (by unfold RepD; rfl) .nil
theorem rep_ttf (K : KF) (H : Hp) (M : HpD) : RepDs K H M [.bl true, .bl true, .bl false] [.bl true, .bl true, .bl false] := .cons (by unfold RepD; rfl) (.cons (by unfold RepD; rfl) (.cons (by unfold RepD; rfl) .nil))
end L2
namespace V15
open PySem PySem.Spec PyProof.Rows L2
noncomputable def t__law_box : TSD :=
  (tSeqD (tAsgD (tCD (.int 0)) (gNameD 1))
  (tSeqD (tForD (iSeqD (tSlD (tVarD 0) tNoPartD (tPartD (tCD (.int 63))))) (gNameD 2) (tAsgD (tOpD rModD (tOpD rAddD (tOpD rAddD (tOpD rMulD (tVarD 1) (tCD (.int 31))) (tVarD 2)) (tCD (.int 17))) (tCD (.int 2147483647))) (gNameD 1)))
  (tRetD (tLstD (tConsD (tCallD cList (tConsD (tSlD (tVarD 0) tNoPartD (tPartD (tCD (.int 63)))) tNilD)) (tConsD (tCD (.int 0)) (tConsD (tCD (.int 0)) (tConsD (tCD (.int 0)) (tConsD (tVarD 1) tNilD)))))))))
noncomputable def t__law_mixed : TSD :=
  (tSeqD (tAsgD (tOpD rModD (tOpD rAddD (tOpD rAddD (tOpD rMulD (tVarD 0) (tCD (.int 48271))) (tOpD rMulD (tVarD 1) (tCD (.int 69621)))) (tCD (.int 12345))) (tCD (.int 2147483647))) (gNameD 2))
  (tSeqD (tAsgD (tOpD rModD (tOpD rAddD (tOpD rAddD (tOpD rMulD (tVarD 2) (tOpD rAddD (tOpD rModD (tVarD 2) (tCD (.int 65521))) (tCD (.int 7)))) (tOpD rMulD (tVarD 1) (tCD (.int 40692)))) (tOpD rModD (tVarD 0) (tCD (.int 104729)))) (tCD (.int 998244353))) (gNameD 3))
  (tRetD (tOpD rDivD (tVarD 3) (tCD (.int 7))))))
noncomputable def t__law_take (sp__law_mixed : SpD) : TSD :=
  (tSeqD (tAsgD (tOpD rAddD (tOpD rIxD (tVarD 0) (tCD (.int 3))) (tCD (.int 1))) (gSubD (tVarD 0) (tCD (.int 3))))
  (tSeqD (tIfSD (tTestD (tOpD rGtD (tOpD rIxD (tVarD 0) (tCD (.int 2))) (tCD (.int 0)))) (tSeqD (tAsgD (tOpD rIxD (tVarD 0) (tCD (.int 2))) (gNameD 2))
  (tSeqD (tAsgD (tOpD rDivD (tVarD 2) (tVarD 1)) (gSubD (tVarD 0) (tCD (.int 2))))
  (tRetD (tOpD rModD (tVarD 2) (tVarD 1))))) tNextD)
  (tSeqD (tIfSD (tTestD (tOpD rGeD (tOpD rIxD (tVarD 0) (tCD (.int 1))) (tCallD cLen (tConsD (tOpD rIxD (tVarD 0) (tCD (.int 0))) tNilD)))) (tRetD (tOpD rModD (tCallD sp__law_mixed (tConsD (tOpD rIxD (tVarD 0) (tCD (.int 4))) (tConsD (tOpD rIxD (tVarD 0) (tCD (.int 3))) tNilD))) (tVarD 1))) tNextD)
  (tSeqD (tAsgD (tOpD rIxD (tOpD rIxD (tVarD 0) (tCD (.int 0))) (tOpD rIxD (tVarD 0) (tCD (.int 1)))) (gNameD 3))
  (tSeqD (tAsgD (tOpD rAddD (tOpD rIxD (tVarD 0) (tCD (.int 1))) (tCD (.int 1))) (gSubD (tVarD 0) (tCD (.int 1))))
  (tSeqD (tIfSD (tTestD (tOpD rLtD (tVarD 3) (tOpD rPowD (tCD (.int 10)) (tCD (.int 18))))) (tRetD (tOpD rModD (tCallD sp__law_mixed (tConsD (tVarD 3) (tConsD (tOpD rIxD (tVarD 0) (tCD (.int 3))) tNilD))) (tVarD 1))) tNextD)
  (tSeqD (tAsgD (tOpD rDivD (tVarD 3) (tVarD 1)) (gSubD (tVarD 0) (tCD (.int 2))))
  (tRetD (tOpD rModD (tVarD 3) (tVarD 1))))))))))
noncomputable def t__law_count (sp__law_take : SpD) : TSD :=
  (tSeqD (tIfSD (tTestD (tOpD (rEqA false) (tCallD sp__law_take (tConsD (tVarD 0) (tConsD (tCD (.int 8)) tNilD))) (tCD (.int 0)))) (tRetD (tCallD sp__law_take (tConsD (tVarD 0) (tConsD (tOpD rAddD (tVarD 2) (tCD (.int 1))) tNilD)))) tNextD)
  (tRetD (tCallD sp__law_take (tConsD (tVarD 0) (tConsD (tOpD rAddD (tVarD 1) (tCD (.int 1))) tNilD)))))
theorem line_of {n : Nat} (h : n ≤ 1000) : n ≤ sizeLine := Nat.le_of_lt (small1000 h)
local macro_rules | `(tactic| walk_at "r1") => `(tactic| first
  | refine rd_seq ?_
  | refine rd_asg ?_
  | refine rd_gname ?_
  | refine rd_op ?_
  | refine rd_c ?_
  | refine rd_var rfl ?_
  | refine rd_rN ?_
  | refine rd_rI (by first | exact .inl ⟨by decide, by decide⟩ | exact .inr ⟨by decide, by decide⟩ | exact ⟨by decide, by decide⟩ | (show (0 : Int) < _; first | decide | omega) | (constructor <;> omega)) ?_
  | refine rd_ret ?_
  | refine rd_cons ?_
  | refine rd_nil ?_
  | refine rd_tup ?_
  | refine rd_lst ?_
  | refine rd_test ?_
  | refine rd_ifS ?_
  | refine rd_call ?_
  | refine rd_next ?_
  | refine rd_drop ?_
  | refine rd_sl ?_
  | refine rd_nopart ?_
  | refine rd_part ?_
  | refine rd_iseq ?_
  | refine rd_for ?_
  | refine ⟨line_of (Nat.le_of_ble_eq_true rfl), ?_⟩
  | refine rd_gsub ?_
  | refine rd_irng1 ?_
  | refine rd_irng2 ?_
  | refine ⟨_, rfl, ?_⟩)
local macro_rules | `(tactic| walk_at "r") => `(tactic| repeat walk_at "r1")
theorem ite_d {p : Prop} [Decidable p] {A B : Prop} (h1 : p → A) (h2 : ¬ p → B) : if decide p = true then A else B := by
  by_cases h : p
  · rw [if_pos (decide_eq_true h)]; exact h1 h
  · rw [if_neg (by rw [decide_eq_false h]; exact Bool.false_ne_true)]; exact h2 h
theorem ite_x {p : Prop} [Decidable p] {A B : Prop} (h1 : p → A) (h2 : ¬ p → B) : if (false ^^ decide p) = true then A else B := by
  rw [Bool.false_xor]; exact ite_d h1 h2
theorem cut_map {α : Type} (f : α → D) (l : List α) (lo hi : Option Int) : ∃ r : List α, L2.cutD (l.map f) lo hi = r.map f ∧ r.length ≤ l.length := by
  unfold L2.cutD
  rw [← List.map_drop, ← List.map_take]
  exact ⟨_, rfl, by simp only [List.length_take, List.length_drop]; omega⟩
theorem rd_eqAI {neg : Bool} {i j : Int} {M : HpD} {Q : KD} (q : Q (.bl (neg ^^ decide (i = j))) M) : rEqA neg (.int i) (.int j) M Q := by
  refine rd_eqA rfl (Nat.zero_le _) ?_
  have e : eqD (viewD (.int i) M) (viewD (.int j) M) = decide (i = j) := by
    show eqD (.int i) (.int j) = _
    unfold eqD
    by_cases z : i = j
    · subst z; simp
    · simp [z]
  rw [e]
  exact q
noncomputable def sp__law_mixed : SpD := fun ds M Q => ∃ n t, ds = [.int n, .int t] ∧ ∀ m, Q (.int m) M
theorem rd__law_mixed (ds : List D) (M : HpD) (Q : KD) (h : sp__law_mixed ds M Q) : t__law_mixed { nx := fun _ M' => Q .non M', rt := Q } (startD ["_law_number", "_law_turn", "_law_one", "_law_two"] ds) M := by
  obtain ⟨n, t, rfl, h⟩ := h
  unfold t__law_mixed
  walk_at "r"
  exact .inl (h _)
noncomputable def BoxO (o : OD) : Prop := ∃ (cells : List Int) (i l c s : Int), o = .lst [.lst (cells.map D.int), .int i, .int l, .int c, .int s] ∧ 0 ≤ i
noncomputable def Fr (b : Addr) (M M' : HpD) : Prop := (∃ o, M' b = some o ∧ BoxO o) ∧ ∀ a, a ≠ b → M' a = M a
theorem Fr.upd {b : Addr} {M : HpD} {o : OD} (h : BoxO o) : Fr b M (updD M b o) := ⟨⟨o, updD_same, h⟩, fun a z => updD_ne z⟩
theorem Fr.trans {b : Addr} {M M1 M2 : HpD} (x : Fr b M M1) (y : Fr b M1 M2) : Fr b M M2 := ⟨y.1, fun a z => (y.2 a z).trans (x.2 a z)⟩
noncomputable def sp__law_box : SpD := fun ds M Q => ∃ ns : List Int, ds = [.lst (ns.map D.int)] ∧ ns.length ≤ 63 ∧ ∀ p M', M p = none → Fr p M M' → Q (.ref p) M'
theorem rd__law_box (ds : List D) (M : HpD) (Q : KD) (h : sp__law_box ds M Q) : t__law_box { nx := fun _ M' => Q .non M', rt := Q } (startD ["_law_script", "_law_seed", "_law_cell"] ds) M := by
  obtain ⟨ns, rfl, hl, h⟩ := h
  obtain ⟨r, er, hr⟩ := cut_map D.int ns none (some 63)
  unfold t__law_box
  walk_at "r"
  rw [er]
  refine newF (line_of (by rw [List.length_map]; omega)) ⟨_, rfl, fun i σ M' => (∃ s v, σ = [some (.lst (ns.map D.int)), some (.int s), v]) ∧ M' = M, ⟨⟨_, _, rfl⟩, rfl⟩, ?_, ?_⟩
  · rintro i d σ M' e ⟨⟨s, v, rfl⟩, rfl⟩
    rw [List.getElem?_map] at e
    cases q : r[i]? with
    | none => rw [q] at e; cases e
    | some z =>
      rw [q] at e; cases e
      walk_at "r"
      exact ⟨⟨_, _, rfl⟩, rfl⟩
  · rintro σ M' ⟨⟨s, v, rfl⟩, rfl⟩
    walk_at "r"
    rw [er]
    refine newF (line_of (by rw [List.length_map]; omega)) ?_
    walk_at "r"
    refine rd_list rfl (newF (line_of (by rw [List.length_map]; omega)) ?_)
    walk_at "r"
    refine newM (line_of (Nat.le_of_ble_eq_true rfl)) fun p hp => .inl (h p _ hp (.upd ⟨_, _, _, _, _, rfl, Int.le_refl 0⟩))
noncomputable def sp__law_take : SpD := fun ds M Q => ∃ (b : Addr) (n : Int) (o : OD), ds = [.ref b, .int n] ∧ 0 < n ∧ n ≤ 1000000 ∧ M b = some o ∧ BoxO o ∧ ∀ r M', 0 ≤ r → r < n → Fr b M M' → Q (.int r) M'
theorem rd__law_take (ds : List D) (M : HpD) (Q : KD) (h : sp__law_take ds M Q) : t__law_take sp__law_mixed { nx := fun _ M' => Q .non M', rt := Q } (startD ["_law_box_here", "_law_size", "_law_left", "_law_cell"] ds) M := by
  obtain ⟨b, n, o, rfl, n0, n1, eM, ⟨cells, i, l, c, s, rfl, hi⟩, h⟩ := h
  unfold t__law_take
  walk_at "r"
  refine rd_ix (items_ref eM) rfl ?_
  walk_at "r"
  refine ⟨b, _, _, _, rfl, rfl, eM, rfl, ?_⟩
  walk_at "r"
  refine rd_ix (items_ref updD_same) rfl ?_
  walk_at "r"
  refine ite_d (fun hc => ?_) (fun hc => ?_)
  · walk_at "r"
    refine rd_ix (items_ref updD_same) rfl ?_
    walk_at "r"
    refine ⟨b, _, _, _, rfl, rfl, updD_same, rfl, ?_⟩
    walk_at "r"
    refine .inl (h _ _ (Int.emod_nonneg _ (by omega)) (Int.emod_lt_of_pos _ n0) ?_)
    rw [updD_updD]
    exact .upd ⟨_, _, _, _, _, rfl, hi⟩
  · walk_at "r"
    refine rd_ix (items_ref updD_same) rfl ?_
    walk_at "r"
    refine rd_ix (items_ref updD_same) rfl ?_
    walk_at "r"
    refine rd_len rfl ?_
    walk_at "r"
    refine ite_d (fun hc2 => ?_) (fun hc2 => ?_)
    · walk_at "r"
      refine rd_ix (items_ref updD_same) rfl ?_
      walk_at "r"
      refine rd_ix (items_ref updD_same) rfl ?_
      walk_at "r"
      refine ⟨_, _, rfl, fun m => ?_⟩
      walk_at "r"
      exact .inl (h _ _ (Int.emod_nonneg _ (by omega)) (Int.emod_lt_of_pos _ n0) (.upd ⟨_, _, _, _, _, rfl, hi⟩))
    · walk_at "r"
      refine rd_ix (items_ref updD_same) rfl ?_
      walk_at "r"
      refine rd_ix (items_ref updD_same) rfl ?_
      have hlt : i.toNat < cells.length := by
        rw [List.length_map] at hc2
        omega
      have hat : atI (cells.map D.int) i = some (.int cells[i.toNat]) := by
        have := atI_nat (xs := cells.map D.int) (j := i.toNat) (v := .int cells[i.toNat]) (by rw [List.getElem?_map, List.getElem?_eq_getElem hlt]; rfl)
        rw [Int.toNat_of_nonneg hi] at this
        exact this
      refine rd_ix rfl hat ?_
      walk_at "r"
      refine rd_ix (items_ref updD_same) rfl ?_
      walk_at "r"
      refine ⟨b, _, _, _, rfl, rfl, updD_same, rfl, ?_⟩
      rw [updD_updD]
      walk_at "r"
      refine ite_d (fun hc3 => ?_) (fun hc3 => ?_)
      · walk_at "r"
        refine rd_ix (items_ref updD_same) rfl ?_
        walk_at "r"
        refine ⟨_, _, rfl, fun m => ?_⟩
        walk_at "r"
        exact .inl (h _ _ (Int.emod_nonneg _ (by omega)) (Int.emod_lt_of_pos _ n0) (.upd ⟨_, _, _, _, _, rfl, by omega⟩))
      · walk_at "r"
        refine ⟨b, _, _, _, rfl, rfl, updD_same, rfl, ?_⟩
        rw [updD_updD]
        walk_at "r"
        exact .inl (h _ _ (Int.emod_nonneg _ (by omega)) (Int.emod_lt_of_pos _ n0) (.upd ⟨_, _, _, _, _, rfl, by omega⟩))
local macro_rules | `(tactic| walk_at "st1") => `(tactic| first
  | refine rd_seq ?_
  | refine rd_asg ?_
  | refine rd_gname ?_
  | refine rd_op ?_
  | refine rd_c ?_
  | refine rd_var rfl ?_
  | refine rd_rN ?_
  | refine rd_rI (by first | exact .inl ⟨by decide, by decide⟩ | exact .inr ⟨by decide, by decide⟩ | exact ⟨by decide, by decide⟩ | (show (0 : Int) < _; first | decide | omega) | (constructor <;> omega)) ?_
  | refine rd_eqAI ?_
  | refine rd_app ?_
  | refine rd_ret ?_
  | refine rd_max2 ?_
  | refine rd_min2 ?_
  | refine rd_and ?_
  | refine rd_or ?_
  | refine rd_not ?_
  | refine rd_gtup rfl ?_
  | refine rd_gcons ?_
  | refine rd_gnil ?_
  | refine rd_comp ?_
  | refine rd_if0 ?_
  | refine rd_neg ?_
  | refine rd_tru ?_
  | refine rd_andV ?_
  | refine rd_notV ?_
  | refine rd_mx ?_
  | refine rd_cons ?_
  | refine rd_nil ?_
  | refine rd_tup ?_
  | refine rd_lst ?_
  | refine rd_test ?_
  | refine rd_ifS ?_
  | refine rd_call ?_
  | refine rd_next ?_
  | refine rd_drop ?_
  | refine rd_sl ?_
  | refine rd_nopart ?_
  | refine rd_part ?_
  | refine rd_iseq ?_
  | refine rd_for ?_
  | refine rd_forG ?_
  | refine rd_compG ?_
  | refine rd_iseqG ?_
  | refine rd_ienum ?_
  | refine rd_izip ?_
  | refine rd_join ?_
  | refine rd_ins ?_
  | refine rd_lstRng ?_
  | refine rd_din ?_
  | refine rd_dget ?_
  | refine rd_compDc ?_
  | refine rd_izts ?_
  | refine rd_lstZip ?_
  | refine ⟨line_of (Nat.le_of_ble_eq_true rfl), ?_⟩
  | refine rd_gsub ?_
  | refine rd_irng1 ?_
  | refine rd_irng2 ?_
  | refine ⟨_, rfl, ?_⟩)
local macro_rules | `(tactic| walk_at "st") => `(tactic| repeat walk_at "st1")
noncomputable def sp__law_count : SpD := fun ds M Q => ∃ (b : Addr) (few most : Int) (o : OD), ds = [.ref b, .int few, .int most] ∧ 0 ≤ few ∧ few ≤ 100 ∧ 0 ≤ most ∧ most ≤ 100 ∧ M b = some o ∧ BoxO o ∧ ∀ r M', 0 ≤ r → (r ≤ few ∨ r ≤ most) → Fr b M M' → Q (.int r) M'
theorem rd__law_count (ds : List D) (M : HpD) (Q : KD) (h : sp__law_count ds M Q) : t__law_count sp__law_take { nx := fun _ M' => Q .non M', rt := Q } (startD ["_law_box_here", "_law_few", "_law_most"] ds) M := by
  obtain ⟨b, few, most, o, rfl, f0, f1, m0, m1, eM, hb, h⟩ := h
  unfold t__law_count
  walk_at "st"
  refine ⟨b, _, o, rfl, by decide, by decide, eM, hb, fun r M1 r0 r1 fr => ?_⟩
  obtain ⟨o1, e1, b1⟩ := id fr.1
  walk_at "st"
  refine ite_x (fun hc => ?_) (fun hc => ?_)
  · walk_at "st"
    exact ⟨b, _, o1, rfl, by omega, by omega, e1, b1, fun r M2 r0 r1 fr2 => .inl (h _ _ r0 (.inr (by omega)) (fr.trans fr2))⟩
  · walk_at "st"
    exact ⟨b, _, o1, rfl, by omega, by omega, e1, b1, fun r M2 r0 r1 fr2 => .inl (h _ _ r0 (.inl (by omega)) (fr.trans fr2))⟩
noncomputable def t__law_letters : TSD :=
  (tRetD (tCD (.str "abcdefghijklmnopqrstuvwxyz")))
noncomputable def t__law_named (sp__law_take sp__law_letters : SpD) : TSD :=
  (tSeqD (tAsgD (tOpD rAddD (tCD (.int 1)) (tCallD sp__law_take (tConsD (tVarD 0) (tConsD (tCD (.int 8)) tNilD)))) (gNameD 1))
  (tRetD (tJoinD (tCD (.str "")) (tCompD 1 (iRng1D (tConsD (tVarD 1) tNilD)) (gNameD 0) tIf0D (tOpD rIxSD (tCallD sp__law_letters tNilD) (tCallD sp__law_take (tConsD (tVarD 1) (tConsD (tCD (.int 26)) tNilD))))))))
noncomputable def t__law_places (sp__law_take sp__law_named : SpD) : TSD :=
  (tSeqD (tAsgD (tLstD tNilD) (gNameD 1))
  (tSeqD (tForD (iRng1D (tConsD (tOpD rIxD (tLstD (tConsD (tCD (.int 2)) (tConsD (tCD (.int 3)) (tConsD (tCD (.int 3)) (tConsD (tCD (.int 4)) (tConsD (tCD (.int 5)) (tConsD (tCD (.int 2)) (tConsD (tCD (.int 3)) (tConsD (tCD (.int 12)) tNilD))))))))) (tCallD sp__law_take (tConsD (tVarD 0) (tConsD (tCD (.int 8)) tNilD)))) tNilD)) (gNameD 2) (tSeqD (tAsgD (tCallD sp__law_named (tConsD (tVarD 0) tNilD)) (gNameD 3))
  (tIfSD (tTestD (tOpD (rInD true) (tVarD 3) (tVarD 1))) (tDropD (tAppD (tVarD 1) (tVarD 3))) tNextD)))
  (tRetD (tVarD 1))))
noncomputable def t__law_day (sp__law_take : SpD) : TSD :=
  (tSeqD (tAsgD (tCallD sp__law_take (tConsD (tVarD 0) (tConsD (tCD (.int 4)) tNilD))) (gNameD 1))
  (tSeqD (tIfSD (tTestD (tOpD (rEqA false) (tVarD 1) (tCD (.int 0)))) (tRetD (tCD (.int 0))) tNextD)
  (tSeqD (tIfSD (tTestD (tOpD (rEqA false) (tVarD 1) (tCD (.int 1)))) (tRetD (tOpD rSubD (tOpD rSubD (tOpD rPowD (tCD (.int 10)) (tCD (.int 9))) (tCD (.int 2600))) (tCallD sp__law_take (tConsD (tVarD 0) (tConsD (tCD (.int 3)) tNilD))))) tNextD)
  (tSeqD (tIfSD (tTestD (tOpD (rEqA false) (tVarD 1) (tCD (.int 2)))) (tRetD (tOpD rMulD (tCallD sp__law_take (tConsD (tVarD 0) (tConsD (tCD (.int 1000000)) tNilD))) (tCD (.int 900)))) tNextD)
  (tRetD (tCallD sp__law_take (tConsD (tVarD 0) (tConsD (tCD (.int 40)) tNilD))))))))
noncomputable def t__law_home (sp__law_take sp__law_day : SpD) : TSD :=
  (tRetD (tTupD (tConsD (tCallD sp__law_day (tConsD (tVarD 0) tNilD)) (tConsD (tOpD rIxD (tVarD 1) (tCallD sp__law_take (tConsD (tVarD 0) (tConsD (tCallD cLen (tConsD (tVarD 1) tNilD)) tNilD)))) (tConsD (tCallD sp__law_take (tConsD (tVarD 0) (tConsD (tCD (.int 10)) tNilD))) tNilD)))))
noncomputable def t__law_deal (sp__law_take : SpD) : TSD :=
  (tSeqD (tAsgD (tLstD tNilD) (gNameD 3))
  (tSeqD (tForG (iSeqG (tVarD 1)) (gNameD 4) (tIfSD (tOrD (tTruD (tVarD 2)) (tTestD (tOpD rGtD (tCallD sp__law_take (tConsD (tVarD 0) (tConsD (tCD (.int 4)) tNilD))) (tCD (.int 0))))) (tDropD (tInsD (tVarD 3) (tCallD sp__law_take (tConsD (tVarD 0) (tConsD (tOpD rAddD (tCallD cLen (tConsD (tVarD 3) tNilD)) (tCD (.int 1))) tNilD))) (tVarD 4))) tNextD))
  (tRetD (tVarD 3))))
noncomputable def t__law_grade (sp__law_take : SpD) : TSD :=
  (tRetD (tOpD rIxD (tLstD (tConsD (tVarD 1) (tConsD (tVarD 1) (tConsD (tCallD cMin2 (tConsD (tCD (.int 9)) (tConsD (tOpD rAddD (tVarD 1) (tCallD sp__law_take (tConsD (tVarD 0) (tConsD (tCD (.int 3)) tNilD)))) tNilD))) (tConsD (tCallD sp__law_take (tConsD (tVarD 0) (tConsD (tCD (.int 10)) tNilD))) tNilD))))) (tCallD sp__law_take (tConsD (tVarD 0) (tConsD (tCD (.int 4)) tNilD)))))
noncomputable def t__law_papers (sp__law_deal sp__law_take sp__law_grade : SpD) : TSD :=
  (tSeqD (tAsgD (tCallD sp__law_deal (tConsD (tVarD 0) (tConsD (tLstRngD (tConsD (tCD (.int 1)) (tConsD (tOpD rAddD (tVarD 3) (tCD (.int 1))) tNilD))) (tConsD (tCD (.bl true)) tNilD)))) (gNameD 4))
  (tSeqD (tAsgD (tOpD rIxD (tLstD (tConsD (tCD (.int 1)) (tConsD (tCD (.int 1)) (tConsD (tCD (.int 3)) (tConsD (tCD (.int 40)) tNilD))))) (tCallD sp__law_take (tConsD (tVarD 0) (tConsD (tCD (.int 4)) tNilD)))) (gNameD 5))
  (tSeqD (tAsgD (tVarD 2) (gTupD 3 (gConsD (gNameD 6) (gConsD (gNameD 7) (gConsD (gNameD 8) gNilD)))))
  (tSeqD (tAsgD (tLstD tNilD) (gNameD 9))
  (tSeqD (tForG (iSeqG (tVarD 4)) (gNameD 10) (tSeqD (tAsgD (tOpD rAddD (tVarD 6) (tOpD rIxD (tLstD (tConsD (tCD (.int 1)) (tConsD (tCD (.int 1)) (tConsD (tCD (.int 2)) (tConsD (tOpD rAddD (tCD (.int 1)) (tCallD sp__law_take (tConsD (tVarD 0) (tConsD (tCD (.int 9)) tNilD)))) (tConsD (tOpD rAddD (tCD (.int 1)) (tCallD sp__law_take (tConsD (tVarD 0) (tConsD (tCD (.int 40)) tNilD)))) tNilD)))))) (tCallD sp__law_take (tConsD (tVarD 0) (tConsD (tCD (.int 5)) tNilD))))) (gNameD 6))
  (tSeqD (tAsgD (tVarD 7) (gNameD 11))
  (tSeqD (tIfSD (tTestD (tOpD (rEqA false) (tCallD sp__law_take (tConsD (tVarD 0) (tConsD (tCD (.int 3)) tNilD))) (tCD (.int 0)))) (tAsgD (tOpD rIxD (tVarD 1) (tCallD sp__law_take (tConsD (tVarD 0) (tConsD (tCallD cLen (tConsD (tVarD 1) tNilD)) tNilD)))) (gNameD 11)) tNextD)
  (tSeqD (tAsgD (tVarD 11) (gNameD 12))
  (tSeqD (tIfSD (tTestD (tOpD rGtD (tCallD sp__law_take (tConsD (tVarD 0) (tConsD (tCD (.int 4)) tNilD))) (tCD (.int 0)))) (tAsgD (tOpD rIxD (tVarD 1) (tCallD sp__law_take (tConsD (tVarD 0) (tConsD (tCallD cLen (tConsD (tVarD 1) tNilD)) tNilD)))) (gNameD 12)) tNextD)
  (tSeqD (tAsgD (tCallD sp__law_grade (tConsD (tVarD 0) (tConsD (tVarD 8) tNilD))) (gNameD 8))
  (tSeqD (tDropD (tAppD (tVarD 9) (tTupD (tConsD (tOpD rMulD (tVarD 10) (tVarD 5)) (tConsD (tVarD 6) (tConsD (tVarD 11) (tConsD (tVarD 12) (tConsD (tVarD 8) tNilD))))))))
  (tIfSD (tTestD (tOpD rGtD (tCallD sp__law_take (tConsD (tVarD 0) (tConsD (tCD (.int 4)) tNilD))) (tCD (.int 0)))) (tAsgD (tVarD 12) (gNameD 7)) tNextD)))))))))
  (tRetD (tCallD sp__law_deal (tConsD (tVarD 0) (tConsD (tVarD 9) (tConsD (tCD (.bl true)) tNilD))))))))))
noncomputable def t__law_prices (sp__law_take : SpD) : TSD :=
  (tSeqD (tAsgD (tCallD sp__law_take (tConsD (tVarD 0) (tConsD (tCD (.int 3)) tNilD))) (gNameD 1))
  (tSeqD (tIfSD (tTestD (tOpD (rEqA false) (tVarD 1) (tCD (.int 0)))) (tRetD (tTupD (tConsD (tCD (.int 1)) (tConsD (tCD (.int 1)) tNilD)))) tNextD)
  (tRetD (tTupD (tConsD (tOpD rAddD (tCD (.int 1)) (tCallD sp__law_take (tConsD (tVarD 0) (tConsD (tCD (.int 9)) tNilD)))) (tConsD (tOpD rAddD (tCD (.int 1)) (tCallD sp__law_take (tConsD (tVarD 0) (tConsD (tCD (.int 9)) tNilD)))) tNilD))))))
noncomputable def t__law_by_day : TSD :=
  (tRetD (tOpD rIxD (tVarD 0) (tCD (.int 1))))
noncomputable def t__law_drawn_story (sp__law_by_day sp__law_take : SpD) : TSD :=
  (tRetD (tCompG 1 (iSeqG (tCallD (cSortedK sp__law_by_day) (tConsD (tVarD 1) tNilD))) (gNameD 0) (tTestD (tOpD rGtD (tCallD sp__law_take (tConsD (tVarD 1) (tConsD (tCD (.int 3)) tNilD))) (tCD (.int 0)))) (tOpD rIxD (tVarD 0) (tCD (.int 0)))))
theorem ref_list {p : Addr} {M : HpD} {ds : List D} (h : listD (.ref p) M = some ds) : M p = some (.lst ds) := by
  cases e : M p with
  | none => simp only [listD, e] at h; cases h
  | some o =>
    cases o with
    | lst l => simp only [listD, e] at h; cases h; rfl
    | dct kvs => simp only [listD, e] at h; cases h
    | tab _ => simp only [listD, e] at h; cases h
theorem view_list {d : D} {M : HpD} {ds : List D} (h : listD d M = some ds) : viewD d M = .lst ds := by
  cases d with
  | lst l => cases h; rfl
  | ref p => simp only [viewD, ref_list h]
  | _ => cases h
theorem tru_list {d : D} {M : HpD} {ds : List D} (h : listD d M = some ds) : truD d M (!ds.isEmpty) := by
  cases d with
  | lst l => cases h; unfold truD; rfl
  | ref p => unfold truD; exact ⟨_, ref_list h, rfl⟩
  | _ => cases h
noncomputable def IsNm (x : Str) : Prop := 1 ≤ x.length ∧ x.length ≤ 8 ∧ ∀ c ∈ x.cps.toList, 97 ≤ c ∧ c ≤ 122
noncomputable def abc : Str := "abcdefghijklmnopqrstuvwxyz"
theorem abc_at (r : Int) (h0 : 0 ≤ r) (h1 : r < 26) : ∃ c : Nat, atI abc.cps.toList r = some c ∧ 97 ≤ c ∧ c ≤ 122 := by
  have e : abc.cps.toList = (List.range 26).map (· + 97) := by decide
  have hn : r.toNat < 26 := by omega
  refine ⟨r.toNat + 97, ?_, by omega, by omega⟩
  have hr : ((r.toNat : Nat) : Int) = r := by omega
  rw [← hr]
  refine atI_nat ?_
  rw [e, List.getElem?_map, Int.toNat_natCast, List.getElem?_range hn]
  rfl
noncomputable def sp__law_letters : SpD := fun ds M Q => ds = [] ∧ Q (.str abc) M
theorem rd__law_letters (ds : List D) (M : HpD) (Q : KD) (h : sp__law_letters ds M Q) : t__law_letters { nx := fun _ M' => Q .non M', rt := Q } (startD [] ds) M := by
  obtain ⟨rfl, h⟩ := h
  unfold t__law_letters
  walk_at "st"
  exact .inl h
theorem glue_fold : ∀ (cs : List Nat) (acc : Str), ((cs.map fun c => (⟨#[c]⟩ : Str)).foldl HAppend.hAppend acc).cps.toList = acc.cps.toList ++ cs
  | [], acc => by simp
  | c :: cs, acc => by
    rw [List.map_cons, List.foldl_cons, glue_fold cs]
    show (acc.cps ++ #[c]).toList ++ cs = _
    simp
theorem glue_one (cs : List Nat) : (Txt.join "" (cs.map fun c => (⟨#[c]⟩ : Str))).cps.toList = cs := by
  rw [show Txt.join (Str.ofString "") (cs.map fun c => (⟨#[c]⟩ : Str)) = Str.join ⟨#[]⟩ (cs.map fun c => (⟨#[c]⟩ : Str)) from StrLaws.glued_eq_join _ _]
  rw [← fold_cat_join_nil, glue_fold]
  rfl
noncomputable def sp__law_named : SpD := fun ds M Q => ∃ (b : Addr) (o : OD), ds = [.ref b] ∧ M b = some o ∧ BoxO o ∧ ∀ x M', IsNm x → Fr b M M' → Q (.str x) M'
theorem rd__law_named (ds : List D) (M : HpD) (Q : KD) (h : sp__law_named ds M Q) : t__law_named sp__law_take sp__law_letters { nx := fun _ M' => Q .non M', rt := Q } (startD ["_law_box_here", "_law_size"] ds) M := by
  obtain ⟨b, o, rfl, eM, hb, h⟩ := h
  unfold t__law_named
  walk_at "st"
  refine ⟨b, _, o, rfl, by decide, by decide, eM, hb, fun r M1 r0 r1 fr => ?_⟩
  obtain ⟨o1, e1, b1⟩ := id fr.1
  walk_at "st"
  refine ⟨by omega, by omega, line_of (by rw [intsD_len]; omega), fun i ys σ M' => ∃ (cs : List Nat) (v : Option D), Fr b M M' ∧ σ = [v, some (.ref b), some (.int (1 + r))] ∧ ys = (cs.map fun c => (⟨#[c]⟩ : Str)).map D.str ∧ cs.length = i ∧ (∀ c ∈ cs, 97 ≤ c ∧ c ≤ 122), ⟨[], _, fr, rfl, rfl, rfl, by simp⟩, ?_, ?_⟩
  · rintro i d ys σ M' e ⟨cs, v, fr', rfl, rfl, hc, ho⟩
    obtain ⟨o2, e2, b2⟩ := id fr'.1
    walk_at "st"
    refine ⟨rfl, ?_⟩
    walk_at "st"
    refine ⟨b, _, o2, rfl, by decide, by decide, e2, b2, fun r' M2 r0' r1' fr2 => ?_⟩
    obtain ⟨c, hat, h97, h122⟩ := abc_at r' r0' r1'
    refine rd_ixS (line_of (by decide)) hat ?_
    refine ⟨cs ++ [c], _, fr'.trans fr2, rfl, by simp, by simp [hc], fun c' hm => ?_⟩
    rcases List.mem_append.mp hm with hm | hm
    · exact ho c' hm
    · rw [List.mem_singleton.mp hm]; exact ⟨h97, h122⟩
  · rintro ys σ M' ⟨cs, v, fr', rfl, rfl, hc, ho⟩
    rw [intsD_len] at hc
    refine newF (line_of (by rw [List.length_map, List.length_map]; omega)) ?_
    refine ⟨_, rfl, ?_, .inl (h _ _ ⟨?_, ?_, ?_⟩ fr')⟩
    · unfold JoinOk
      rw [StrLaws.joinFits (B := 1) (fun y hy => ?_) (by rw [List.length_map, show (Str.ofString "").length = 0 from rfl]; omega)]
      · rfl
      · obtain ⟨c, _, rfl⟩ := List.mem_map.mp hy
        exact Nat.le_refl _
    · show 1 ≤ (Txt.join _ _).cps.size
      rw [← Array.length_toList, glue_one]; omega
    · show (Txt.join _ _).cps.size ≤ 8
      rw [← Array.length_toList, glue_one]; omega
    · rw [glue_one]; exact ho
structure Gro (b p : Addr) (M M1 : HpD) (ds : List D) : Prop where
  bx : ∃ o, M1 b = some o ∧ BoxO o
  ls : M1 p = some (.lst ds)
  fr : ∀ a, a ≠ b → a ≠ p → M1 a = M a
theorem Gro.step {b p : Addr} {M M1 M2 : HpD} {ds : List D} (t : Gro b p M M1 ds) (hn : p ≠ b) (f : Fr b M1 M2) : Gro b p M M2 ds :=
  ⟨f.1, (f.2 p hn).trans t.ls, fun a z1 z2 => (f.2 a z1).trans (t.fr a z1 z2)⟩
theorem Gro.upd {b p : Addr} {M M1 : HpD} {ds es : List D} (t : Gro b p M M1 ds) (hn : p ≠ b) : Gro b p M (updD M1 p (.lst es)) es :=
  ⟨by rw [updD_ne (Ne.symm hn)]; exact t.bx, updD_same, fun a z1 z2 => by rw [updD_ne z2]; exact t.fr a z1 z2⟩
theorem Gro.start {b p : Addr} {M M1 : HpD} (f : Fr b M M1) (hp : M1 p = none) (es : List D) : p ≠ b ∧ Gro b p M (updD M1 p (.lst es)) es := by
  have hn : p ≠ b := fun z => by obtain ⟨o, e, _⟩ := f.1; rw [z, e] at hp; cases hp
  exact ⟨hn, by rw [updD_ne (Ne.symm hn)]; exact f.1, updD_same, fun a z1 z2 => by rw [updD_ne z2]; exact f.2 a z1⟩
theorem Gro.del {b p : Addr} {M M1 : HpD} {ds : List D} (t : Gro b p M M1 ds) (hn : p ≠ b) (hp : M p = none) : Fr b M (delD M1 p) :=
  ⟨by rw [delD_ne (Ne.symm hn)]; exact t.bx, fun a z => by
    by_cases q : a = p
    · rw [q, delD_same, hp]
    · rw [delD_ne q]; exact t.fr a z q⟩
theorem Fr.self {b : Addr} {M : HpD} {o : OD} (e : M b = some o) (h : BoxO o) : Fr b M M := ⟨⟨o, e, h⟩, fun _ _ => rfl⟩
theorem in_strs {x : Str} : ∀ {ns : List Str}, inD (.str x) (ns.map D.str) = decide (x ∈ ns)
  | [] => by simp [inD]
  | y :: ns => by
    have ih := in_strs (x := x) (ns := ns)
    unfold inD at ih ⊢
    rw [List.map_cons, List.any_cons, ih]
    by_cases z : x = y
    · subst z; simp [eqD]
    · have z' : ¬ y = x := fun q => z q.symm
      simp [eqD, z, z']
theorem strs_flat {x : Str} {ns : List Str} : ∀ d ∈ ns.map D.str, flatD d = true ∧ okD d (.str x) = true := fun d hd => by
  obtain ⟨y, _, rfl⟩ := List.mem_map.mp hd
  exact ⟨rfl, by simp [okD]⟩
noncomputable def GoodPl (ns : List Str) : Prop := 1 ≤ ns.length ∧ ns.length ≤ 12 ∧ ns.Nodup ∧ ∀ x ∈ ns, IsNm x
noncomputable def sp__law_places : SpD := fun ds M Q => ∃ (b : Addr) (o : OD), ds = [.ref b] ∧ M b = some o ∧ BoxO o ∧ ∀ ns M', GoodPl ns → Fr b M M' → Q (.lst (ns.map D.str)) M'
theorem rd__law_places (ds : List D) (M : HpD) (Q : KD) (h : sp__law_places ds M Q) : t__law_places sp__law_take sp__law_named { nx := fun _ M' => Q .non M', rt := Q } (startD ["_law_box_here", "_law_found", "_law_k", "_law_name"] ds) M := by
  obtain ⟨b, o, rfl, eM, hb, h⟩ := h
  unfold t__law_places
  walk_at "st"
  refine newM (line_of (Nat.zero_le _)) fun p hp => ?_
  obtain ⟨hpb, g0⟩ := Gro.start (Fr.self eM hb) hp []
  obtain ⟨o0, e0, b0⟩ := g0.bx
  walk_at "st"
  refine newF (line_of (by show 8 ≤ 1000; decide)) ?_
  walk_at "st"
  refine ⟨b, _, o0, rfl, by decide, by decide, e0, b0, fun r M1 r0 r1 f1 => ?_⟩
  have g1 := g0.step hpb f1
  obtain ⟨n, hat, hn2, hn12⟩ : ∃ n : Int, atI [D.int 2, .int 3, .int 3, .int 4, .int 5, .int 2, .int 3, .int 12] r = some (.int n) ∧ 2 ≤ n ∧ n ≤ 12 := by
    have : r = 0 ∨ r = 1 ∨ r = 2 ∨ r = 3 ∨ r = 4 ∨ r = 5 ∨ r = 6 ∨ r = 7 := by omega
    rcases this with rfl | rfl | rfl | rfl | rfl | rfl | rfl | rfl <;> exact ⟨_, rfl, by decide, by decide⟩
  refine rd_ix rfl hat ?_
  walk_at "st"
  refine ⟨by omega, by omega, fun i σ M' => ∃ (ns : List Str) (v2 v3 : Option D), Gro b p M M' (ns.map D.str) ∧ σ = [some (.ref b), some (.ref p), v2, v3] ∧ ns.length ≤ i ∧ (1 ≤ i → 1 ≤ ns.length) ∧ ns.Nodup ∧ ∀ x ∈ ns, IsNm x, ⟨[], _, _, g1, rfl, Nat.le_refl _, fun z => absurd z (by omega), List.nodup_nil, by simp⟩, ?_, ?_⟩
  · rintro i d σ M' e ⟨ns, v2, v3, g, rfl, hl, h1, nd, ok⟩
    obtain ⟨hi, rfl⟩ := intsD_get e
    obtain ⟨o2, e2, b2⟩ := g.bx
    walk_at "st"
    refine ⟨b, o2, rfl, e2, b2, fun x M2 hx f2 => ?_⟩
    have g2 := g.step hpb f2
    walk_at "st"
    refine rd_in (items_ref g2.ls) rfl strs_flat ?_
    rw [in_strs, if_pos rfl]
    walk_at "st"
    by_cases hm : x ∈ ns
    · rw [decide_eq_true hm, if_neg (by decide)]
      walk_at "st"
      exact ⟨ns, _, _, g2, rfl, by omega, fun _ => List.length_pos_of_mem hm, nd, ok⟩
    · rw [decide_eq_false hm, if_pos (by decide)]
      walk_at "st"
      refine ⟨⟨_, g2.ls⟩, ?_⟩
      walk_at "st"
      refine ⟨_, g2.ls, Nat.lt_of_lt_of_le (by rw [List.length_map]; omega) (line_of (n := 100) (by decide)), ?_⟩
      refine ⟨ns ++ [x], _, _, by have := g2.upd (es := ns.map D.str ++ [.str x]) hpb; simpa using this, rfl, by simp; omega, fun _ => by simp, ?_, fun y hy => ?_⟩
      · rw [List.nodup_append]
        exact ⟨nd, by simp, fun a ha b' hb' e => hm (by rw [List.mem_singleton.mp hb'] at e; rw [← e]; exact ha)⟩
      · rcases List.mem_append.mp hy with hy | hy
        · exact ok y hy
        · rw [List.mem_singleton.mp hy]; exact hx
  · rintro σ M' ⟨ns, v2, v3, g, rfl, hl, h1, nd, ok⟩
    rw [intsD_len] at hl h1
    walk_at "st"
    exact .inr ⟨p, _, rfl, g.ls, h ns _ ⟨h1 (by omega), by omega, nd, ok⟩ (g.del hpb hp)⟩
noncomputable def sp__law_day : SpD := fun ds M Q => ∃ (b : Addr) (o : OD), ds = [.ref b] ∧ M b = some o ∧ BoxO o ∧ ∀ d M', 0 ≤ d → d ≤ 999997400 → Fr b M M' → Q (.int d) M'
theorem rd__law_day (ds : List D) (M : HpD) (Q : KD) (h : sp__law_day ds M Q) : t__law_day sp__law_take { nx := fun _ M' => Q .non M', rt := Q } (startD ["_law_box_here", "_law_turn"] ds) M := by
  obtain ⟨b, o, rfl, eM, hb, h⟩ := h
  unfold t__law_day
  walk_at "st"
  refine ⟨b, _, o, rfl, by decide, by decide, eM, hb, fun r M1 r0 r1 f1 => ?_⟩
  obtain ⟨o1, e1, b1⟩ := id f1.1
  walk_at "st"
  refine ite_x (fun _ => ?_) (fun _ => ?_)
  · walk_at "st"
    exact .inl (h _ _ (by decide) (by decide) f1)
  · walk_at "st"
    refine ite_x (fun _ => ?_) (fun _ => ?_)
    · walk_at "st"
      refine ⟨b, _, o1, rfl, by decide, by decide, e1, b1, fun r' M2 r0' r1' f2 => ?_⟩
      walk_at "st"
      have e9 : (10 : Int) ^ (Int.toNat 9) = 1000000000 := by decide
      refine .inl (h _ _ (by rw [e9]; omega) (by rw [e9]; omega) (f1.trans f2))
    · walk_at "st"
      refine ite_x (fun _ => ?_) (fun _ => ?_)
      · walk_at "st"
        refine ⟨b, _, o1, rfl, by decide, by decide, e1, b1, fun r' M2 r0' r1' f2 => ?_⟩
        refine rd_c (rd_rI (.inr ⟨by decide, by decide⟩) ?_)
        exact .inl (h _ _ (by omega) (by omega) (f1.trans f2))
      · walk_at "st"
        refine ⟨b, _, o1, rfl, by decide, by decide, e1, b1, fun r' M2 r0' r1' f2 => ?_⟩
        exact .inl (h _ _ (by omega) (by omega) (f1.trans f2))
theorem str_at {ns : List Str} {r : Int} (h0 : 0 ≤ r) (h1 : r < ns.length) : ∃ x ∈ ns, atI (ns.map D.str) r = some (.str x) := by
  have hn : r.toNat < ns.length := by omega
  refine ⟨ns[r.toNat], List.getElem_mem hn, ?_⟩
  have e : ((r.toNat : Nat) : Int) = r := by omega
  have z := atI_nat (xs := ns.map D.str) (j := r.toNat) (v := .str ns[r.toNat]) (by rw [List.getElem?_map, List.getElem?_eq_getElem hn]; rfl)
  rw [e] at z
  exact z
noncomputable def encH (h : Int × Str × Int) : D := .tup [.int h.1, .str h.2.1, .int h.2.2]
noncomputable def OkH (ns : List Str) (h : Int × Str × Int) : Prop := 0 ≤ h.1 ∧ h.1 ≤ 999997400 ∧ h.2.1 ∈ ns ∧ 0 ≤ h.2.2 ∧ h.2.2 ≤ 9
noncomputable def sp__law_home : SpD := fun ds M Q => ∃ (b : Addr) (o : OD) (ns : List Str), ds = [.ref b, .lst (ns.map D.str)] ∧ M b = some o ∧ BoxO o ∧ GoodPl ns ∧ ∀ hm M', OkH ns hm → Fr b M M' → Q (encH hm) M'
theorem rd__law_home (ds : List D) (M : HpD) (Q : KD) (h : sp__law_home ds M Q) : t__law_home sp__law_take sp__law_day { nx := fun _ M' => Q .non M', rt := Q } (startD ["_law_box_here", "_law_places_here"] ds) M := by
  obtain ⟨b, o, ns, rfl, eM, hb, gp, h⟩ := h
  unfold t__law_home
  walk_at "st"
  refine ⟨b, o, rfl, eM, hb, fun d M1 d0 d1 f1 => ?_⟩
  obtain ⟨o1, e1, b1⟩ := id f1.1
  walk_at "st"
  refine rd_len rfl ?_
  walk_at "st"
  have l1 := gp.1
  have l2 := gp.2.1
  refine ⟨b, _, o1, rfl, by rw [List.length_map]; omega, by rw [List.length_map]; omega, e1, b1, fun r M2 r0 r1 f2 => ?_⟩
  obtain ⟨o2, e2, b2⟩ := id f2.1
  rw [List.length_map] at r1
  obtain ⟨x, hx, hat⟩ := str_at r0 r1
  refine rd_ix rfl hat ?_
  walk_at "st"
  refine ⟨b, _, o2, rfl, by decide, by decide, e2, b2, fun g M3 g0 g1 f3 => ?_⟩
  walk_at "st"
  exact .inl (h (d, x, g) _ ⟨d0, d1, hx, g0, by show g ≤ 9; omega⟩ ((f1.trans f2).trans f3))
noncomputable def sp__law_grade : SpD := fun ds M Q => ∃ (b : Addr) (o : OD) (g : Int), ds = [.ref b, .int g] ∧ M b = some o ∧ BoxO o ∧ 0 ≤ g ∧ g ≤ 9 ∧ ∀ g' M', 0 ≤ g' → g' ≤ 9 → Fr b M M' → Q (.int g') M'
theorem rd__law_grade (ds : List D) (M : HpD) (Q : KD) (h : sp__law_grade ds M Q) : t__law_grade sp__law_take { nx := fun _ M' => Q .non M', rt := Q } (startD ["_law_box_here", "_law_grade_here"] ds) M := by
  obtain ⟨b, o, g, rfl, eM, hb, g0, g1, h⟩ := h
  unfold t__law_grade
  walk_at "st"
  refine ⟨b, _, o, rfl, by decide, by decide, eM, hb, fun r M1 r0 r1 f1 => ?_⟩
  obtain ⟨o1, e1, b1⟩ := id f1.1
  walk_at "st"
  refine ⟨b, _, o1, rfl, by decide, by decide, e1, b1, fun r' M2 r0' r1' f2 => ?_⟩
  obtain ⟨o2, e2, b2⟩ := id f2.1
  walk_at "st"
  refine newF (line_of (by show 4 ≤ 1000; decide)) ?_
  walk_at "st"
  refine ⟨b, _, o2, rfl, by decide, by decide, e2, b2, fun k M3 k0 k1 f3 => ?_⟩
  have : k = 0 ∨ k = 1 ∨ k = 2 ∨ k = 3 := by omega
  have ff := (f1.trans f2).trans f3
  rcases this with rfl | rfl | rfl | rfl
  · exact rd_ix rfl rfl (.inl (h _ _ g0 g1 ff))
  · exact rd_ix rfl rfl (.inl (h _ _ g0 g1 ff))
  · exact rd_ix rfl rfl (.inl (h _ _ (by omega) (by omega) ff))
  · exact rd_ix rfl rfl (.inl (h _ _ (by omega) (by omega) ff))
noncomputable def sp__law_prices : SpD := fun ds M Q => ∃ (b : Addr) (o : OD), ds = [.ref b] ∧ M b = some o ∧ BoxO o ∧ ∀ d g M', 1 ≤ d → d ≤ 9 → 1 ≤ g → g ≤ 9 → Fr b M M' → Q (.tup [.int d, .int g]) M'
theorem rd__law_prices (ds : List D) (M : HpD) (Q : KD) (h : sp__law_prices ds M Q) : t__law_prices sp__law_take { nx := fun _ M' => Q .non M', rt := Q } (startD ["_law_box_here", "_law_turn"] ds) M := by
  obtain ⟨b, o, rfl, eM, hb, h⟩ := h
  unfold t__law_prices
  walk_at "st"
  refine ⟨b, _, o, rfl, by decide, by decide, eM, hb, fun r M1 r0 r1 f1 => ?_⟩
  obtain ⟨o1, e1, b1⟩ := id f1.1
  walk_at "st"
  refine ite_x (fun _ => ?_) (fun _ => ?_)
  · walk_at "st"
    exact .inl (h _ _ _ (by decide) (by decide) (by decide) (by decide) f1)
  · walk_at "st"
    refine ⟨b, _, o1, rfl, by decide, by decide, e1, b1, fun r' M2 r0' r1' f2 => ?_⟩
    obtain ⟨o2, e2, b2⟩ := id f2.1
    walk_at "st"
    refine ⟨b, _, o2, rfl, by decide, by decide, e2, b2, fun k M3 k0 k1 f3 => ?_⟩
    walk_at "st"
    exact .inl (h _ _ _ (by omega) (by omega) (by omega) (by omega) ((f1.trans f2).trans f3))
theorem insL_perm {α : Type} (xs : List α) (k : Nat) (y : α) : (insL xs k y).Perm (xs ++ [y]) := by
  unfold insL
  have : xs ++ [y] = (xs.take k ++ xs.drop k) ++ [y] := by rw [List.take_append_drop]
  rw [this, List.append_assoc]
  exact List.Perm.append_left _ (List.perm_append_comm (l₁ := [y]) (l₂ := xs.drop k))
noncomputable def Dealt {α : Type} (all : Bool) (ds es : List α) : Prop := ∃ l, l.Sublist ds ∧ es.Perm l ∧ (all = true → l = ds)
noncomputable def sp__law_deal : SpD := fun ds M Q => ∃ (b : Addr) (o : OD) (d : D) (all : Bool) (xs : List D), ds = [.ref b, d, .bl all] ∧ M b = some o ∧ BoxO o ∧ listD d M = some xs ∧ (∀ p, d = .ref p → p ≠ b) ∧ xs.length ≤ 100 ∧ ∀ es M', Dealt all xs es → Fr b M M' → Q (.lst es) M'
theorem rd__law_deal (ds : List D) (M : HpD) (Q : KD) (h : sp__law_deal ds M Q) : t__law_deal sp__law_take { nx := fun _ M' => Q .non M', rt := Q } (startD ["_law_box_here", "_law_some", "_law_all_of", "_law_found", "_law_one"] ds) M := by
  obtain ⟨b, o, d, all, xs, rfl, eM, hb, hd, hdb, hl, h⟩ := h
  unfold t__law_deal
  walk_at "st"
  refine newM (line_of (Nat.zero_le _)) fun p hp => ?_
  obtain ⟨hpb, g0⟩ := Gro.start (Fr.self eM hb) hp []
  have hdp : ∀ q, d = .ref q → q ≠ p := fun q e z => by
    subst e z
    rw [ref_list hd] at hp; cases hp
  have keep : ∀ {M' : HpD} {es : List D}, Gro b p M M' es → listD d M' = some xs := fun {M' es} g => by
    cases d with
    | lst l => exact hd
    | ref q => exact list_ref ((g.fr q (hdb q rfl) (hdp q rfl)).trans (ref_list hd))
    | _ => cases hd
  walk_at "st"
  refine ⟨_, keep g0, fun i σ M' => ∃ (l es : List D) (v4 : Option D), Gro b p M M' es ∧ σ = [some (.ref b), some d, some (.bl all), some (.ref p), v4] ∧ l.Sublist (xs.take i) ∧ es.Perm l ∧ (all = true → l = xs.take i), ⟨[], [], _, g0, rfl, by simp, List.Perm.refl _, fun _ => by simp⟩, fun i σ M' z => by obtain ⟨_, _, _, g, _⟩ := z; exact keep g, ?_, ?_⟩
  · rintro i y σ M' e ⟨l, es, v4, g, rfl, sub, per, hall⟩
    have tk : xs.take (i + 1) = xs.take i ++ [y] := by rw [List.take_add_one, e]; rfl
    have hi : i < xs.length := (List.getElem?_eq_some_iff.mp e).1
    have el : es.length ≤ 100 := by
      have := per.length_eq
      have := sub.length_le
      rw [List.length_take] at this
      omega
    have put : ∀ (M1 : HpD), Gro b p M M1 es → ∀ DD : EndsD, (∀ σ M2, (∃ (l es : List D) (v4 : Option D), Gro b p M M2 es ∧ σ = [some (.ref b), some d, some (.bl all), some (.ref p), v4] ∧ l.Sublist (xs.take (i + 1)) ∧ es.Perm l ∧ (all = true → l = xs.take (i + 1))) → DD.nx σ M2) →
        (tDropD (tInsD (tVarD 3) (tCallD sp__law_take (tConsD (tVarD 0) (tConsD (tOpD rAddD (tCallD cLen (tConsD (tVarD 3) tNilD)) (tCD (.int 1))) tNilD))) (tVarD 4))) DD [some (.ref b), some d, some (.bl all), some (.ref p), some y] M1 := by
      intro M1 g1 DD hDD
      obtain ⟨o1, e1, b1⟩ := g1.bx
      walk_at "st"
      refine ⟨⟨_, g1.ls⟩, ?_⟩
      walk_at "st"
      refine rd_len (items_ref g1.ls) ?_
      walk_at "st"
      refine ⟨b, _, o1, rfl, by omega, by omega, e1, b1, fun r M2 r0 r1 f2 => ?_⟩
      have g2 := g1.step hpb f2
      walk_at "st"
      refine ⟨r.toNat, es, by rw [show ((r.toNat : Nat) : Int) = r by omega], g2.ls, Nat.lt_of_lt_of_le (by omega) (line_of (n := 200) (by decide)), by omega, ?_⟩
      refine hDD _ _ ⟨l ++ [y], _, _, g2.upd hpb, rfl, by rw [tk]; exact sub.append (List.Sublist.refl _), (insL_perm es _ y).trans (per.append_right _), fun z => by rw [tk, hall z]⟩
    walk_at "st"
    refine ⟨all, by unfold truD; rfl, ?_⟩
    cases all with
    | true =>
      rw [if_pos rfl, if_pos rfl]
      exact put M' g _ fun _ _ z => z
    | false =>
      rw [if_neg Bool.false_ne_true]
      obtain ⟨o1, e1, b1⟩ := g.bx
      walk_at "st"
      refine ⟨b, _, o1, rfl, by decide, by decide, e1, b1, fun r M2 r0 r1 f2 => ?_⟩
      have g2 := g.step hpb f2
      walk_at "st"
      refine ite_d (fun _ => ?_) (fun _ => ?_)
      · exact put M2 g2 _ fun _ _ z => z
      · refine rd_next ⟨l, es, _, g2, rfl, by rw [tk]; exact sub.trans (List.sublist_append_left _ _), per, fun z => by cases z⟩
  · rintro σ M' ⟨l, es, v4, g, rfl, sub, per, hall⟩
    rw [List.take_length] at sub hall
    walk_at "st"
    exact .inr ⟨p, _, rfl, g.ls, h es _ ⟨l, sub, per, hall⟩ (g.del hpb hp)⟩
theorem perm_map_inv {α β : Type} {f : α → β} {es ms : List β} (h : es.Perm ms) : ∀ {l : List α}, ms = l.map f → ∃ l' : List α, es = l'.map f ∧ l'.Perm l := by
  induction h with
  | nil =>
    intro l e
    cases l with
    | nil => exact ⟨[], rfl, .refl _⟩
    | cons _ _ => cases e
  | cons x h ih =>
    intro l e
    cases l with
    | nil => cases e
    | cons y l =>
      rw [List.map_cons] at e
      injection e with e1 e2
      obtain ⟨l', rfl, p⟩ := ih e2
      exact ⟨y :: l', by rw [List.map_cons, e1], p.cons _⟩
  | swap x y l0 =>
    intro l e
    match l, e with
    | [], e => cases e
    | [_], e => cases e
    | a :: b :: l, e =>
      simp only [List.map_cons, List.cons.injEq] at e
      obtain ⟨e1, e2, e3⟩ := e
      exact ⟨b :: a :: l, by simp [e1, e2, e3], .swap _ _ _⟩
  | trans h1 h2 ih1 ih2 =>
    intro l e
    obtain ⟨l1, e1, p1⟩ := ih2 e
    obtain ⟨l2, e2, p2⟩ := ih1 e1
    exact ⟨l2, e2, p2.trans p1⟩
structure Fx (b : Addr) (M M' : HpD) : Prop where
  bx : ∃ o, M' b = some o ∧ BoxO o
  old : ∀ a o, a ≠ b → M a = some o → M' a = some o
structure Pap where
  n : Int
  d : Int
  a : Str
  b : Str
  g : Int
noncomputable def encPp (p : Pap) : D := .tup [.int p.n, .int p.d, .str p.a, .str p.b, .int p.g]
structure GoodP (ns : List Str) (hm : Int × Str × Int) (n : Int) (ps : List Pap) : Prop where
  len : (ps.length : Int) = n
  num : (ps.map (·.n)).Nodup
  day : (ps.map (·.d)).Nodup
  one : ∀ p ∈ ps, 1 ≤ p.n ∧ p.n ≤ 2400 ∧ hm.1 < p.d ∧ p.d ≤ hm.1 + 2500 ∧ p.a ∈ ns ∧ p.b ∈ ns ∧ 0 ≤ p.g ∧ p.g ≤ 9
theorem GoodP.perm {ns : List Str} {hm : Int × Str × Int} {n : Int} {ps qs : List Pap} (h : GoodP ns hm n ps) (p : qs.Perm ps) : GoodP ns hm n qs :=
  ⟨by rw [p.length_eq]; exact h.len, (p.map _).nodup_iff.mpr h.num, (p.map _).nodup_iff.mpr h.day, fun x hx => h.one x (p.mem_iff.mp hx)⟩
structure Born (ns : List Str) (hd : Int) (st : Int) (nums : List Int) (i : Nat) (cd : Int) (ps : List Pap) : Prop where
  num : ps.map (·.n) = (nums.take i).map (· * st)
  up : (ps.map (·.d)).Pairwise (· < ·)
  cur : hd ≤ cd ∧ cd ≤ hd + 40 * i ∧ ∀ p ∈ ps, p.d ≤ cd
  one : ∀ p ∈ ps, hd < p.d ∧ p.a ∈ ns ∧ p.b ∈ ns ∧ 0 ≤ p.g ∧ p.g ≤ 9
theorem Born.step {ns : List Str} {hd st : Int} {nums : List Int} {i : Nat} {cd cd' k : Int} {ps : List Pap} {a b : Str} {g : Int} (h : Born ns hd st nums i cd ps) (hk : nums[i]? = some k) (h1 : cd < cd') (h2 : cd' ≤ cd + 40) (ha : a ∈ ns) (hb : b ∈ ns) (g0 : 0 ≤ g) (g1 : g ≤ 9) :
    Born ns hd st nums (i + 1) cd' (ps ++ [⟨k * st, cd', a, b, g⟩]) := by
  obtain ⟨c1, c2, c3⟩ := h.cur
  refine ⟨?_, ?_, ⟨by omega, by push_cast; omega, fun p hp => ?_⟩, fun p hp => ?_⟩
  · rw [List.map_append, h.num, List.take_add_one, hk, List.map_append]; rfl
  · rw [List.map_append, List.pairwise_append]
    refine ⟨h.up, by simp, fun x hx y hy => ?_⟩
    obtain ⟨p, hp, rfl⟩ := List.mem_map.mp hx
    have : y = cd' := by simpa using hy
    have := c3 p hp
    omega
  · rcases List.mem_append.mp hp with hp | hp
    · have := c3 p hp; omega
    · rw [List.mem_singleton.mp hp]; exact Int.le_refl _
  · rcases List.mem_append.mp hp with hp | hp
    · exact h.one p hp
    · rw [List.mem_singleton.mp hp]; exact ⟨by show hd < cd'; omega, ha, hb, g0, g1⟩
theorem Born.good {ns : List Str} {hm : Int × Str × Int} {st : Int} {nums : List Int} {n : Nat} {cd : Int} {ps : List Pap} (h : Born ns hm.1 st nums n cd ps) (hl : nums.length = n) (hn : n ≤ 60) (s1 : 1 ≤ st) (s2 : st ≤ 40) (nd : nums.Nodup) (hr : ∀ k ∈ nums, 1 ≤ k ∧ k ≤ n) : GoodP ns hm n ps := by
  have e := h.num
  rw [List.take_of_length_le (by omega)] at e
  have el : ps.length = n := by
    have := congrArg List.length e
    rw [List.length_map, List.length_map] at this
    omega
  refine ⟨by rw [el], ?_, h.up.imp fun z => Int.ne_of_lt z, fun p hp => ?_⟩
  · rw [e]
    refine List.Pairwise.map (R := (· ≠ ·)) _ (fun a b hab q => hab ?_) nd
    have q' : a * st = b * st := q
    exact Int.eq_of_mul_eq_mul_right (by omega) q'
  · have o := h.one p hp
    have c := h.cur.2.2 p hp
    have c2 := h.cur.2.1
    have hm' : p.n ∈ ps.map (·.n) := List.mem_map.mpr ⟨p, hp, rfl⟩
    rw [e] at hm'
    obtain ⟨k, hk, ek⟩ := List.mem_map.mp hm'
    have rk := hr k hk
    refine ⟨?_, ?_, o.1, by omega, o.2.1, o.2.2.1, o.2.2.2.1, o.2.2.2.2⟩
    · rw [← ek]; have := Int.mul_le_mul rk.1 s1 (by decide) (by omega); omega
    · rw [← ek]; have := Int.mul_le_mul (show k ≤ 60 by omega) s2 (by omega) (by decide); omega
noncomputable def RestP2 : TSD := (tSeqD (tAsgD (tCallD sp__law_grade (tConsD (tVarD 0) (tConsD (tVarD 8) tNilD))) (gNameD 8))
  (tSeqD (tDropD (tAppD (tVarD 9) (tTupD (tConsD (tOpD rMulD (tVarD 10) (tVarD 5)) (tConsD (tVarD 6) (tConsD (tVarD 11) (tConsD (tVarD 12) (tConsD (tVarD 8) tNilD))))))))
  (tIfSD (tTestD (tOpD rGtD (tCallD sp__law_take (tConsD (tVarD 0) (tConsD (tCD (.int 4)) tNilD))) (tCD (.int 0)))) (tAsgD (tVarD 12) (gNameD 7)) tNextD)))
noncomputable def RestP1 : TSD := (tSeqD (tAsgD (tVarD 11) (gNameD 12))
  (tSeqD (tIfSD (tTestD (tOpD rGtD (tCallD sp__law_take (tConsD (tVarD 0) (tConsD (tCD (.int 4)) tNilD))) (tCD (.int 0)))) (tAsgD (tOpD rIxD (tVarD 1) (tCallD sp__law_take (tConsD (tVarD 0) (tConsD (tCallD cLen (tConsD (tVarD 1) tNilD)) tNilD)))) (gNameD 12)) tNextD)
  (tSeqD (tAsgD (tCallD sp__law_grade (tConsD (tVarD 0) (tConsD (tVarD 8) tNilD))) (gNameD 8))
  (tSeqD (tDropD (tAppD (tVarD 9) (tTupD (tConsD (tOpD rMulD (tVarD 10) (tVarD 5)) (tConsD (tVarD 6) (tConsD (tVarD 11) (tConsD (tVarD 12) (tConsD (tVarD 8) tNilD))))))))
  (tIfSD (tTestD (tOpD rGtD (tCallD sp__law_take (tConsD (tVarD 0) (tConsD (tCD (.int 4)) tNilD))) (tCD (.int 0)))) (tAsgD (tVarD 12) (gNameD 7)) tNextD)))))
theorem rdP2 {b p : Addr} {M M1 : HpD} {ns : List Str} {hm : Int × Str × Int} {n st cd cd' gr k : Int} {nums : List Int} {i : Nat} {ps : List Pap} {at_ here there : Str} {DD : EndsD} (gp : GoodPl ns) (hpb : p ≠ b) (g : Gro b p M M1 (ps.map encPp)) (hat_ : at_ ∈ ns) (gr0 : 0 ≤ gr) (gr1 : gr ≤ 9) (s1 : 1 ≤ st) (s2 : st ≤ 40) (hi : i < nums.length) (hn : nums.length ≤ 60) (hk : nums[i]? = some k) (hk2 : 1 ≤ k ∧ k ≤ 60) (born : Born ns hm.1 st nums i cd ps) (h1 : cd < cd') (h2 : cd' ≤ cd + 40) (ha : here ∈ ns) (hb' : there ∈ ns) (hDD : ∀ σ M', (∃ (ps : List Pap) (cd : Int) (at_ : Str) (gr : Int) (v10 v11 v12 : Option D), Gro b p M M' (ps.map encPp) ∧ σ = [some (.ref b), some (.lst (ns.map D.str)), some (encH hm), some (.int n), some (.lst (nums.map D.int)), some (.int st), some (.int cd), some (.str at_), some (.int gr), some (.ref p), v10, v11, v12] ∧ at_ ∈ ns ∧ 0 ≤ gr ∧ gr ≤ 9 ∧ i + 1 ≤ nums.length ∧ Born ns hm.1 st nums (i + 1) cd ps) → DD.nx σ M') :
    RestP2 DD [some (.ref b), some (.lst (ns.map D.str)), some (encH hm), some (.int n), some (.lst (nums.map D.int)), some (.int st), some (.int cd'), some (.str at_), some (.int gr), some (.ref p), some (.int k), some (.str here), some (.str there)] M1 := by
  obtain ⟨o2, e2, b2⟩ := g.bx
  have pl : ps.length = i := by
    have := congrArg List.length born.num
    rw [List.length_map, List.length_map, List.length_take] at this
    omega
  unfold RestP2
  walk_at "st"
  refine ⟨b, o2, gr, rfl, e2, b2, gr0, gr1, fun gr' M2 g0 g1 f2 => ?_⟩
  have g2 := g.step hpb f2
  obtain ⟨o3, e3, b3⟩ := g2.bx
  walk_at "st"
  refine ⟨⟨_, g2.ls⟩, ?_⟩
  refine rd_tup (rd_cons (rd_op (rd_var rfl (rd_var rfl (rd_rI (show CMul k st from .inl ⟨by omega, by omega⟩) ?_)))))
  walk_at "st"
  refine ⟨_, g2.ls, Nat.lt_of_lt_of_le (by rw [List.length_map]; omega) (line_of (n := 100) (by decide)), ?_⟩
  have g3 : Gro b p M (updD M2 p (.lst (ps.map encPp ++ [encPp ⟨k * st, cd', here, there, gr'⟩]))) ((ps ++ [(⟨k * st, cd', here, there, gr'⟩ : Pap)]).map encPp) := by
    have := g2.upd (es := ps.map encPp ++ [encPp ⟨k * st, cd', here, there, gr'⟩]) hpb
    rw [List.map_append]
    exact this
  have born2 := born.step (a := here) (b := there) (g := gr') hk h1 h2 ha hb' g0 g1
  obtain ⟨o4, e4, b4⟩ := g3.bx
  walk_at "st"
  refine ⟨b, _, o4, rfl, by decide, by decide, e4, b4, fun r M3 r0 r1 f3 => ?_⟩
  have g4 := g3.step hpb f3
  walk_at "st"
  refine ite_d (fun _ => ?_) (fun _ => ?_)
  · walk_at "st"
    exact hDD _ _ ⟨_, _, _, _, _, _, _, g4, rfl, hb', g0, g1, hi, born2⟩
  · exact rd_next (hDD _ _ ⟨_, _, _, _, _, _, _, g4, rfl, hat_, g0, g1, hi, born2⟩)
theorem rdP1 {v12 : Option D} {b p : Addr} {M M1 : HpD} {ns : List Str} {hm : Int × Str × Int} {n st cd cd' gr k : Int} {nums : List Int} {i : Nat} {ps : List Pap} {at_ here there : Str} {DD : EndsD} (gp : GoodPl ns) (hpb : p ≠ b) (g : Gro b p M M1 (ps.map encPp)) (hat_ : at_ ∈ ns) (gr0 : 0 ≤ gr) (gr1 : gr ≤ 9) (s1 : 1 ≤ st) (s2 : st ≤ 40) (hi : i < nums.length) (hn : nums.length ≤ 60) (hk : nums[i]? = some k) (hk2 : 1 ≤ k ∧ k ≤ 60) (born : Born ns hm.1 st nums i cd ps) (h1 : cd < cd') (h2 : cd' ≤ cd + 40) (ha : here ∈ ns) (hDD : ∀ σ M', (∃ (ps : List Pap) (cd : Int) (at_ : Str) (gr : Int) (v10 v11 v12 : Option D), Gro b p M M' (ps.map encPp) ∧ σ = [some (.ref b), some (.lst (ns.map D.str)), some (encH hm), some (.int n), some (.lst (nums.map D.int)), some (.int st), some (.int cd), some (.str at_), some (.int gr), some (.ref p), v10, v11, v12] ∧ at_ ∈ ns ∧ 0 ≤ gr ∧ gr ≤ 9 ∧ i + 1 ≤ nums.length ∧ Born ns hm.1 st nums (i + 1) cd ps) → DD.nx σ M') :
    RestP1 DD [some (.ref b), some (.lst (ns.map D.str)), some (encH hm), some (.int n), some (.lst (nums.map D.int)), some (.int st), some (.int cd'), some (.str at_), some (.int gr), some (.ref p), some (.int k), some (.str here), v12] M1 := by
  obtain ⟨o2, e2, b2⟩ := g.bx
  have l1 := gp.1
  have l2 := gp.2.1
  unfold RestP1
  walk_at "st"
  refine ⟨b, _, o2, rfl, by decide, by decide, e2, b2, fun r M2 r0 r1 f2 => ?_⟩
  have g2 := g.step hpb f2
  obtain ⟨o3, e3, b3⟩ := g2.bx
  walk_at "st"
  refine ite_d (fun _ => ?_) (fun _ => ?_)
  · walk_at "st"
    refine rd_len rfl ?_
    walk_at "st"
    refine ⟨b, _, o3, rfl, by rw [List.length_map]; omega, by rw [List.length_map]; omega, e3, b3, fun r' M3 r0' r1' f3 => ?_⟩
    have g3 := g2.step hpb f3
    rw [List.length_map] at r1'
    obtain ⟨x, hx, hat⟩ := str_at r0' r1'
    refine rd_ix rfl hat (rd_gname ?_)
    exact rdP2 gp hpb g3 hat_ gr0 gr1 s1 s2 hi hn hk hk2 born h1 h2 ha hx hDD
  · refine rd_next ?_
    exact rdP2 gp hpb g2 hat_ gr0 gr1 s1 s2 hi hn hk hk2 born h1 h2 ha ha hDD
noncomputable def sp__law_papers : SpD := fun ds M Q => ∃ (b : Addr) (o : OD) (ns : List Str) (hm : Int × Str × Int) (n : Int), ds = [.ref b, .lst (ns.map D.str), encH hm, .int n] ∧ M b = some o ∧ BoxO o ∧ GoodPl ns ∧ OkH ns hm ∧ 0 ≤ n ∧ n ≤ 60 ∧ ∀ ps M', GoodP ns hm n ps → Fx b M M' → Q (.lst (ps.map encPp)) M'
theorem rd__law_papers (ds : List D) (M : HpD) (Q : KD) (h : sp__law_papers ds M Q) : t__law_papers sp__law_deal sp__law_take sp__law_grade { nx := fun _ M' => Q .non M', rt := Q } (startD ["_law_box_here", "_law_places_here", "_law_home_here", "_law_size", "_law_numbers", "_law_step", "_law_day_here", "_law_at", "_law_grade_here", "_law_found", "_law_number", "_law_here", "_law_there"] ds) M := by
  obtain ⟨b, o, ns, hm, n, rfl, eM, hb, gp, okh, n0, n1, h⟩ := h
  have l1 := gp.1
  have l2 := gp.2.1
  unfold t__law_papers
  walk_at "st"
  refine ⟨1, n + 1, rfl, ⟨by decide, by decide, by omega, by omega⟩, by omega, newF (line_of (by rw [intsD_len]; omega)) ?_⟩
  walk_at "st"
  refine ⟨b, o, _, true, _, rfl, eM, hb, rfl, (fun p e => by cases e), by rw [intsD_len]; omega, fun es M1 dl f1 => ?_⟩
  obtain ⟨nums, rfl, pn⟩ : ∃ nums : List Int, es = nums.map D.int ∧ nums.Perm ((List.range n.toNat).map fun (k : Nat) => (1 : Int) + k) := by
    obtain ⟨l, _, pe, ha⟩ := dl
    have := ha rfl
    subst this
    refine perm_map_inv pe ?_
    unfold intsD
    rw [show (n + 1 - 1).toNat = n.toNat by omega, List.map_map]
    rfl
  have nl : nums.length = n.toNat := by rw [pn.length_eq]; simp
  have nd : nums.Nodup := pn.nodup_iff.mpr (List.Pairwise.map (R := (· ≠ ·)) _ (fun a b hab q => hab (by have q' : (1 : Int) + a = 1 + b := q; omega)) List.nodup_range)
  have hr : ∀ k ∈ nums, 1 ≤ k ∧ k ≤ (n.toNat : Int) := fun k hk => by
    obtain ⟨j, hj, rfl⟩ := List.mem_map.mp (pn.mem_iff.mp hk)
    have := List.mem_range.mp hj
    omega
  obtain ⟨o1, e1, b1⟩ := id f1.1
  walk_at "st"
  refine newF (line_of (by show 4 ≤ 1000; decide)) ?_
  walk_at "st"
  refine ⟨b, _, o1, rfl, by decide, by decide, e1, b1, fun r M2 r0 r1 f2 => ?_⟩
  obtain ⟨st, hat, s1, s2⟩ : ∃ st : Int, atI [D.int 1, .int 1, .int 3, .int 40] r = some (.int st) ∧ 1 ≤ st ∧ st ≤ 40 := by
    have : r = 0 ∨ r = 1 ∨ r = 2 ∨ r = 3 := by omega
    rcases this with rfl | rfl | rfl | rfl <;> exact ⟨_, rfl, by decide, by decide⟩
  refine rd_ix rfl hat ?_
  walk_at "st"
  refine newM (line_of (Nat.zero_le _)) fun p hp => ?_
  obtain ⟨hpb, g0⟩ := Gro.start (f1.trans f2) hp []
  have hpM : M p = none := by rw [← (f1.trans f2).2 p hpb]; exact hp
  walk_at "st"
  refine ⟨fun i σ M' => ∃ (ps : List Pap) (cd : Int) (at_ : Str) (gr : Int) (v10 v11 v12 : Option D), Gro b p M M' (ps.map encPp) ∧ σ = [some (.ref b), some (.lst (ns.map D.str)), some (encH hm), some (.int n), some (.lst (nums.map D.int)), some (.int st), some (.int cd), some (.str at_), some (.int gr), some (.ref p), v10, v11, v12] ∧ at_ ∈ ns ∧ 0 ≤ gr ∧ gr ≤ 9 ∧ i ≤ nums.length ∧ Born ns hm.1 st nums i cd ps, ⟨[], _, _, _, _, _, _, g0, rfl, okh.2.2.1, okh.2.2.2.1, okh.2.2.2.2, Nat.zero_le _, ⟨rfl, by simp, ⟨Int.le_refl _, by omega, by simp⟩, by simp⟩⟩, fun _ _ _ _ => rfl, ?_, ?_⟩
  · rintro i d σ M' e ⟨ps, cd, at_, gr, v10, v11, v12, g, rfl, hat_, gr0, gr1, hi, born⟩
    obtain ⟨k, hk, rfl⟩ : ∃ k, nums[i]? = some k ∧ d = .int k := by
      rw [List.getElem?_map] at e
      cases q : nums[i]? with
      | none => rw [q] at e; cases e
      | some k => rw [q] at e; cases e; exact ⟨k, rfl, rfl⟩
    have hi2 : i < nums.length := (List.getElem?_eq_some_iff.mp hk).1
    obtain ⟨o2, e2, b2⟩ := g.bx
    walk_at "st"
    refine ⟨b, _, o2, rfl, by decide, by decide, e2, b2, fun ra M3 ra0 ra1 f3 => ?_⟩
    have g3 := g.step hpb f3
    obtain ⟨o3, e3, b3⟩ := g3.bx
    walk_at "st"
    refine ⟨b, _, o3, rfl, by decide, by decide, e3, b3, fun rb M4 rb0 rb1 f4 => ?_⟩
    have g4 := g3.step hpb f4
    obtain ⟨o4, e4, b4⟩ := g4.bx
    walk_at "st"
    refine newF (line_of (by show 5 ≤ 1000; decide)) ?_
    walk_at "st"
    refine ⟨b, _, o4, rfl, by decide, by decide, e4, b4, fun rc M5 rc0 rc1 f5 => ?_⟩
    have g5 := g4.step hpb f5
    obtain ⟨o5, e5, b5⟩ := g5.bx
    obtain ⟨dd, hdd, dd1, dd2⟩ : ∃ dd : Int, atI [D.int 1, .int 1, .int 2, .int (1 + ra), .int (1 + rb)] rc = some (.int dd) ∧ 1 ≤ dd ∧ dd ≤ 40 := by
      have : rc = 0 ∨ rc = 1 ∨ rc = 2 ∨ rc = 3 ∨ rc = 4 := by omega
      rcases this with rfl | rfl | rfl | rfl | rfl <;> exact ⟨_, rfl, by omega, by omega⟩
    refine rd_ix rfl hdd ?_
    have kk : 1 ≤ k ∧ k ≤ 60 := by have := hr k (List.mem_of_getElem? hk); omega
    walk_at "st"
    refine ⟨b, _, o5, rfl, by decide, by decide, e5, b5, fun r' M6 r0' r1' f6 => ?_⟩
    have g6 := g5.step hpb f6
    obtain ⟨o6, e6, b6⟩ := g6.bx
    walk_at "st"
    refine ite_x (fun _ => ?_) (fun _ => ?_)
    · walk_at "st"
      refine rd_len rfl ?_
      walk_at "st"
      refine ⟨b, _, o6, rfl, by rw [List.length_map]; omega, by rw [List.length_map]; omega, e6, b6, fun r2 M7 r20 r21 f7 => ?_⟩
      have g7 := g6.step hpb f7
      rw [List.length_map] at r21
      obtain ⟨x, hx, hat2⟩ := str_at r20 r21
      refine rd_ix rfl hat2 (rd_gname ?_)
      exact rdP1 (there := at_) gp hpb g7 hat_ gr0 gr1 s1 s2 hi2 (by omega) hk kk born (by omega) (by omega) hx fun _ _ z => z
    · refine rd_next ?_
      exact rdP1 (there := at_) gp hpb g6 hat_ gr0 gr1 s1 s2 hi2 (by omega) hk kk born (by omega) (by omega) hat_ fun _ _ z => z
  · rintro σ M' ⟨ps, cd, at_, gr, v10, v11, v12, g, rfl, hat_, gr0, gr1, hi, born⟩
    rw [List.length_map, nl] at born
    obtain ⟨o2, e2, b2⟩ := g.bx
    have good := born.good nl (by omega) s1 s2 nd hr
    rw [show ((n.toNat : Nat) : Int) = n by omega] at good
    walk_at "st"
    refine ⟨b, o2, _, true, _, rfl, e2, b2, list_ref g.ls, (fun q e => by cases e; exact hpb), by rw [List.length_map]; have := good.len; omega, fun es M3 dl f3 => ?_⟩
    obtain ⟨l, _, pe, ha⟩ := dl
    have := ha rfl
    subst this
    obtain ⟨qs, rfl, pq⟩ := perm_map_inv pe rfl
    exact .inl (h qs M3 (good.perm pq) ⟨f3.1, fun a o' z e => (f3.2 a z).trans ((g.fr a z (fun q => by rw [q, hpM] at e; cases e)).trans e)⟩)
noncomputable def sp__law_by_day : SpD := fun ds M Q => ∃ p, ds = [encPp p] ∧ Q (.int p.d) M
theorem rd__law_by_day (ds : List D) (M : HpD) (Q : KD) (h : sp__law_by_day ds M Q) : t__law_by_day { nx := fun _ M' => Q .non M', rt := Q } (startD ["_law_paper"] ds) M := by
  obtain ⟨p, rfl, h⟩ := h
  unfold t__law_by_day
  walk_at "st"
  refine rd_ix rfl rfl ?_
  exact .inl h
noncomputable def ByDay (ps qs : List Pap) : Prop := qs.Perm ps ∧ qs.Pairwise (fun a b => a.d < b.d)
theorem byDay_of {ps qs : List Pap} (nd : (ps.map (·.d)).Nodup) (p : qs.Perm ps) (h : qs.Pairwise fun a b => a.d ≤ b.d) : ByDay ps qs := by
  refine ⟨p, ?_⟩
  have nq : (qs.map (·.d)).Nodup := (p.map _).nodup_iff.mpr nd
  have nq' : qs.Pairwise fun a b => a.d ≠ b.d := List.pairwise_map.mp nq
  exact (h.and nq').imp fun z => by have := z.1; have := z.2; omega
noncomputable def StoryOf (ps : List Pap) (ks : List Int) : Prop := ∃ l : List Pap, l.Pairwise (fun a b => a.d < b.d) ∧ (∀ p ∈ l, p ∈ ps) ∧ ks = l.map (·.n)
noncomputable def sp__law_drawn_story : SpD := fun ds M Q => ∃ (b : Addr) (o : OD) (ps : List Pap), ds = [.ref b, .lst (ps.map encPp)] ∧ M b = some o ∧ BoxO o ∧ ps.length ≤ 60 ∧ (ps.map (·.d)).Nodup ∧ ∀ ks M', StoryOf ps ks → ks.length ≤ ps.length → Fr b M M' → Q (.lst (ks.map D.int)) M'
theorem rd__law_drawn_story (ds : List D) (M : HpD) (Q : KD) (h : sp__law_drawn_story ds M Q) : t__law_drawn_story sp__law_by_day sp__law_take { nx := fun _ M' => Q .non M', rt := Q } (startD ["_law_box_here", "_law_papers_here"] ds) M := by
  obtain ⟨b, o, ps, rfl, eM, hb, hl, nd, h⟩ := h
  unfold t__law_drawn_story
  walk_at "st"
  refine rd_sortedK (enc := encPp) (key := (·.d)) rfl (by omega) (fun x _ Q' q => ⟨x, rfl, q⟩) fun bs perm pw => ?_
  obtain ⟨_, up⟩ := byDay_of nd perm pw
  have bl := perm.length_eq
  refine newF (line_of (by rw [List.length_map]; omega)) ?_
  walk_at "st"
  refine ⟨line_of (by rw [List.length_map]; omega), fun i ys σ M' => ∃ (l : List Pap) (v : Option D), Fr b M M' ∧ σ = [v, some (.ref b), some (.lst (ps.map encPp))] ∧ l.Sublist (bs.take i) ∧ ys = (l.map (·.n)).map D.int, ⟨[], _, Fr.self eM hb, rfl, by simp, rfl⟩, fun _ _ _ _ _ => rfl, ?_, ?_⟩
  · rintro i d ys σ M' e ⟨l, v, f, rfl, sub, rfl⟩
    rw [List.getElem?_map] at e
    cases q : bs[i]? with
    | none => rw [q] at e; cases e
    | some z =>
      rw [q] at e; cases e
      have tk : bs.take (i + 1) = bs.take i ++ [z] := by rw [List.take_add_one, q]; rfl
      obtain ⟨o2, e2, b2⟩ := id f.1
      walk_at "st"
      refine ⟨b, _, o2, rfl, by decide, by decide, e2, b2, fun r M2 r0 r1 f2 => ?_⟩
      walk_at "st"
      refine ite_d (fun _ => ?_) (fun _ => ?_)
      · walk_at "st"
        refine rd_ix rfl rfl ?_
        exact ⟨l ++ [z], _, f.trans f2, rfl, by rw [tk]; exact sub.append (List.Sublist.refl _), by simp⟩
      · exact ⟨l, _, f.trans f2, rfl, by rw [tk]; exact sub.trans (List.sublist_append_left _ _), rfl⟩
  · rintro ys σ M' ⟨l, v, f, rfl, sub, rfl⟩
    rw [List.length_map, List.take_length] at sub
    have ll := sub.length_le
    refine newF (line_of (by rw [List.length_map, List.length_map]; omega)) ?_
    exact .inl (h _ _ ⟨l, up.sublist sub, fun p hp => perm.mem_iff.mp (sub.subset hp), rfl⟩ (by rw [List.length_map]; omega) f)
noncomputable def t_home_paper : TSD :=
  (tSeqD (tAsgD (tVarD 0) (gTupD 3 (gConsD (gNameD 1) (gConsD (gNameD 2) (gConsD (gNameD 3) gNilD)))))
  (tRetD (tTupD (tConsD (tCD (.int 0)) (tConsD (tVarD 1) (tConsD (tVarD 2) (tConsD (tVarD 2) (tConsD (tVarD 3) tNilD))))))))
noncomputable def t_believed_chain (sp_home_paper : SpD) : TSD :=
  (tSeqD (tAsgD (tCompDcD 1 (iSeqG (tVarD 1)) (gNameD 0) tIf0D (tOpD rIxD (tVarD 0) (tCD (.int (0)))) (tVarD 0)) (gNameD 4))
  (tSeqD (tAsgD (tLstD tNilD) (gNameD 5))
  (tSeqD (tForG (iSeqG (tVarD 2)) (gNameD 6) (tSeqD (tIfSD (tTestD (tDInD true (tVarD 6) (tVarD 4))) tNeverD tNextD)
  (tSeqD (tAsgD (tDGetD (tVarD 4) (tVarD 6)) (gNameD 3))
  (tSeqD (tIfSD (tAndD (tTruD (tVarD 5)) (tTestD (tOpD rLeD (tOpD rIxD (tVarD 3) (tCD (.int (1)))) (tOpD rIxD (tOpD rIxD (tVarD 5) (tNegD (tCD (.int 1)))) (tCD (.int (1))))))) tNeverD tNextD)
  (tDropD (tAppD (tVarD 5) (tVarD 3)))))))
  (tRetD (tOpD rCatD (tLstD (tConsD (tCallD sp_home_paper (tConsD (tVarD 0) tNilD)) tNilD)) (tVarD 5))))))
noncomputable def t_neighbours : TSD :=
  (tRetD (tLstZipD (tConsD (tVarD 0) (tConsD (tSlD (tVarD 0) (tPartD (tCD (.int 1))) tNoPartD) tNilD))))
noncomputable def t_is_gap : TSD :=
  (tRetD (tOpD (rEqA true) (tOpD rIxD (tVarD 0) (tCD (.int (3)))) (tOpD rIxD (tVarD 1) (tCD (.int (2))))))
noncomputable def t_gaps (sp_believed_chain sp_neighbours sp_is_gap : SpD) : TSD :=
  (tSeqD (tAsgD (tCallD sp_believed_chain (tConsD (tVarD 0) (tConsD (tVarD 1) (tConsD (tVarD 2) tNilD)))) (gNameD 3))
  (tRetD (tCompG 2 (iSeqG (tCallD sp_neighbours (tConsD (tVarD 3) tNilD))) (gTupD 2 (gConsD (gNameD 0) (gConsD (gNameD 1) gNilD))) (tTruD (tCallD sp_is_gap (tConsD (tVarD 0) (tConsD (tVarD 1) tNilD)))) (tTupD (tConsD (tOpD rIxD (tVarD 0) (tCD (.int (0)))) (tConsD (tOpD rIxD (tVarD 1) (tCD (.int (0)))) (tConsD (tOpD rIxD (tVarD 0) (tCD (.int (3)))) (tConsD (tOpD rIxD (tVarD 1) (tCD (.int (2)))) tNilD))))))))
noncomputable def t_cost (sp_gaps : SpD) : TSD :=
  (tSeqD (tAsgD (tVarD 2) (gTupD 2 (gConsD (gNameD 4) (gConsD (gNameD 5) gNilD))))
  (tRetD (tOpD rAddD (tOpD rMulD (tVarD 5) (tCallD cLen (tConsD (tCallD sp_gaps (tConsD (tVarD 0) (tConsD (tVarD 1) (tConsD (tVarD 3) tNilD)))) tNilD))) (tOpD rMulD (tVarD 4) (tOpD rSubD (tCallD cLen (tConsD (tVarD 1) tNilD)) (tCallD cLen (tConsD (tVarD 3) tNilD)))))))
noncomputable def hmP (hm : Int × Str × Int) : Pap := ⟨0, hm.1, hm.2.1, hm.2.1, hm.2.2⟩
theorem filt_one : ∀ {ps : List Pap} {p : Pap}, (ps.map (·.n)).Nodup → p ∈ ps → ps.filter (fun q => decide (q.n = p.n)) = [p]
  | [], p, _, h => by cases h
  | a :: ps, p, nd, h => by
    rw [List.map_cons, List.nodup_cons] at nd
    rcases List.mem_cons.mp h with rfl | h
    · rw [List.filter_cons_of_pos (by simp)]
      congr 1
      rw [List.filter_eq_nil_iff]
      intro q hq z
      exact nd.1 (List.mem_map.mpr ⟨q, hq, of_decide_eq_true z⟩)
    · rw [List.filter_cons_of_neg (by
        intro z
        exact nd.1 (List.mem_map.mpr ⟨p, h, (of_decide_eq_true z).symm⟩)), filt_one nd.2 h]
structure ChainOf (ps l : List Pap) : Prop where
  up : l.Pairwise (fun a b => a.d < b.d)
  sub : ∀ p ∈ l, p ∈ ps
  len : l.length ≤ ps.length
  num : (ps.map (·.n)).Nodup
  sz : ps.length ≤ 60
noncomputable def prs (c : List Pap) : List (Pap × Pap) := c.zip (c.drop 1)
noncomputable def enc2 (z : Pap × Pap) : D := .tup [encPp z.1, encPp z.2]
theorem zip_prs (c : List Pap) : zipD (c.map encPp) ((c.map encPp).drop 1) = (prs c).map enc2 := by
  unfold zipD prs
  rw [← List.map_drop, List.zipWith_map, List.zip_eq_zipWith, List.map_zipWith]
  rfl
noncomputable def gapB (z : Pap × Pap) : Bool := decide (z.1.b ≠ z.2.a)
noncomputable def encHo (z : Pap × Pap) : D := .tup [.int z.1.n, .int z.2.n, .str z.1.b, .str z.2.a]
noncomputable def holesD (c : List Pap) : List D := ((prs c).filter gapB).map encHo
theorem prs_len {c : List Pap} : (prs c).length ≤ c.length := by unfold prs; simp
theorem cut_one (ds : List D) (h : ds ≠ []) : L2.cutD ds (some 1) none = ds.drop 1 := by
  have hl : 1 ≤ ds.length := by cases ds with | nil => exact absurd rfl h | cons => simp
  unfold L2.cutD
  have e1 : HT.sIx ds.length 0 (some 1) = 1 := by
    unfold HT.sIx; simp; omega
  have e2 : HT.sIx ds.length ds.length none = ds.length := by unfold HT.sIx; rfl
  rw [e1, e2, List.take_of_length_le (by simp)]
theorem rd_eqS {neg : Bool} {x y : Str} {M : HpD} {Q : KD} (q : Q (.bl (neg ^^ decide (x = y))) M) : rEqA neg (.str x) (.str y) M Q := by
  refine rd_eqA rfl (Nat.zero_le _) ?_
  have e : eqD (viewD (.str x) M) (viewD (.str y) M) = decide (x = y) := by
    by_cases z : x = y <;> simp [viewD, eqD, z]
  rw [e]; exact q
theorem hole_step {c : List Pap} {i : Nat} {z : Pap × Pap} (q : (prs c)[i]? = some z) : (((prs c).take (i + 1)).filter gapB).map encHo = (((prs c).take i).filter gapB).map encHo ++ (if gapB z = true then [encHo z] else []) := by
  rw [List.take_add_one, q, List.filter_append, List.map_append]
  congr 1
  cases e : gapB z <;> simp [e]
noncomputable def sp_home_paper : SpD := fun ds M Q => ∃ hm : Int × Str × Int, ds = [encH hm] ∧ Q (encPp (hmP hm)) M
theorem rd_home_paper (ds : List D) (M : HpD) (Q : KD) (h : sp_home_paper ds M Q) : t_home_paper { nx := fun _ M' => Q .non M', rt := Q } (startD ["home", "day", "place", "grade"] ds) M := by
  obtain ⟨hm, rfl, h⟩ := h
  unfold t_home_paper
  walk_at "st"
  exact .inl h
noncomputable def kvP (p : Pap) : Key × D := (.inl p.n, encPp p)
theorem put_new {ps : List Pap} {p : Pap} (h : p.n ∉ ps.map (·.n)) : putD (ps.map kvP) (.inl p.n) (encPp p) = (ps ++ [p]).map kvP := by
  unfold putD
  rw [if_neg, List.map_append]
  · rfl
  · intro z
    obtain ⟨kv, hk, e⟩ := List.any_eq_true.mp z
    obtain ⟨q, hq, rfl⟩ := List.mem_map.mp hk
    have e' : (Sum.inl q.n : Key) = .inl p.n := of_decide_eq_true e
    injection e' with e'
    exact h (List.mem_map.mpr ⟨q, hq, e'⟩)
theorem val_at : ∀ {ps : List Pap} {p : Pap}, (ps.map (·.n)).Nodup → p ∈ ps → valK (ps.map kvP) (.inl p.n) = some (encPp p)
  | [], p, _, h => by cases h
  | a :: ps, p, nd, h => by
    rw [List.map_cons, List.nodup_cons] at nd
    rcases List.mem_cons.mp h with rfl | h
    · exact valK_pos (p := kvP p) (r := ps.map kvP) rfl
    · rw [List.map_cons, valK_neg (fun z => nd.1 ?_), val_at nd.2 h]
      have z' : (Sum.inl a.n : Key) = .inl p.n := z
      injection z' with z'
      exact List.mem_map.mpr ⟨p, h, z'.symm⟩
noncomputable def Mo (M M' : HpD) : Prop := ∀ a o, M a = some o → M' a = some o
theorem Mo.refl {M : HpD} : Mo M M := fun _ _ e => e
theorem Mo.upd {M M1 : HpD} {p : Addr} {o : OD} (h : Mo M M1) (hp : M p = none) : Mo M (updD M1 p o) := fun a u e => by
  rw [updD_ne (fun z => by rw [z, hp] at e; cases e)]; exact h a u e
noncomputable def sp_believed_chain : SpD := fun ds M Q => ∃ (hm : Int × Str × Int) (ps l : List Pap), ds = [encH hm, .lst (ps.map encPp), .lst ((l.map (·.n)).map D.int)] ∧ ChainOf ps l ∧ ∀ M', Mo M M' → Q (.lst ((hmP hm :: l).map encPp)) M'
theorem rd_believed_chain (ds : List D) (M : HpD) (Q : KD) (h : sp_believed_chain ds M Q) : t_believed_chain sp_home_paper { nx := fun _ M' => Q .non M', rt := Q } (startD ["home", "papers", "story", "paper", "known", "believed", "number"] ds) M := by
  obtain ⟨hm, ps, l, rfl, ch, h⟩ := h
  have sz := ch.sz
  have ll := ch.len
  unfold t_believed_chain
  walk_at "st"
  refine ⟨line_of (by rw [List.length_map]; omega), fun j ys σ M2 => M2 = M ∧ (∃ v, σ = [v, some (encH hm), some (.lst (ps.map encPp)), some (.lst ((l.map (·.n)).map D.int)), none, none, none, none]) ∧ ys = (ps.take j).map kvP, ⟨rfl, ⟨_, rfl⟩, by simp⟩, fun _ _ _ _ _ => rfl, ?_, ?_⟩
  · rintro j d ys σ M2 e2 ⟨rfl, ⟨v, rfl⟩, rfl⟩
    rw [List.getElem?_map] at e2
    cases q : ps[j]? with
    | none => rw [q] at e2; cases e2
    | some z =>
      rw [q] at e2; cases e2
      have tk : ps.take (j + 1) = ps.take j ++ [z] := by rw [List.take_add_one, q]; rfl
      walk_at "st"
      refine rd_ix rfl rfl ?_
      walk_at "st"
      refine ⟨.inl z.n, rfl, rfl, ⟨_, rfl⟩, ?_⟩
      rw [tk]
      refine put_new fun hz => ?_
      have nd := ch.num
      have e3 : ps = ps.take j ++ z :: ps.drop (j + 1) := by
        have hj := (List.getElem?_eq_some_iff.mp q)
        obtain ⟨hj1, hj2⟩ := hj
        rw [← hj2, List.getElem_cons_drop, List.take_append_drop]
      rw [e3, List.map_append, List.map_cons, List.nodup_append] at nd
      exact nd.2.2 _ hz _ List.mem_cons_self rfl
  · rintro ys σ M2 ⟨rfl, ⟨v, rfl⟩, rfl⟩
    rw [List.length_map, List.take_length]
    intro kp hkp
    walk_at "st"
    refine newM (line_of (Nat.zero_le _)) fun bp hbp => ?_
    have hkb : kp ≠ bp := fun z => by rw [z, updD_same] at hbp; cases hbp
    have hbp2 : M2 bp = none := by rw [updD_ne (Ne.symm hkb)] at hbp; exact hbp
    walk_at "st"
    refine ⟨fun i σ M' => ∃ v3 v6, σ = [some (encH hm), some (.lst (ps.map encPp)), some (.lst ((l.map (·.n)).map D.int)), v3, some (.ref kp), some (.ref bp), v6] ∧ M' kp = some (.dct (ps.map kvP)) ∧ M' bp = some (.lst ((l.take i).map encPp)) ∧ Mo M2 M', ⟨_, _, rfl, by rw [updD_ne hkb]; exact updD_same, by simpa using updD_same, (Mo.refl.upd hkp).upd hbp2⟩, fun _ _ _ _ => rfl, ?_, ?_⟩
    · rintro i d σ M' e ⟨v3, v6, rfl, hk, hb, mo⟩
      obtain ⟨p, hp, rfl⟩ : ∃ p, l[i]? = some p ∧ d = .int p.n := by
        rw [List.getElem?_map, List.getElem?_map] at e
        cases q : l[i]? with
        | none => rw [q] at e; cases e
        | some k => rw [q] at e; cases e; exact ⟨k, rfl, rfl⟩
      have hv := val_at ch.num (ch.sub p (List.mem_of_getElem? hp))
      walk_at "st"
      refine ⟨_, .inl p.n, dict_ref hk, rfl, ?_⟩
      rw [hv]
      refine ⟨_, rfl, ?_⟩
      rw [if_neg (by simp)]
      walk_at "st"
      refine ⟨_, .inl p.n, _, dict_ref hk, rfl, hv, ?_⟩
      walk_at "st"
      refine ⟨_, tru_list (list_ref hb), ?_⟩
      have hi : i < l.length := (List.getElem?_eq_some_iff.mp hp).1
      have fin : ∀ M3, M3 = updD M' bp (.lst ((l.take i).map encPp ++ [encPp p])) → M3 kp = some (.dct (ps.map kvP)) ∧ M3 bp = some (.lst ((l.take (i + 1)).map encPp)) ∧ Mo M2 M3 := fun M3 e3 => by
        subst e3
        refine ⟨by rw [updD_ne hkb]; exact hk, ?_, mo.upd hbp2⟩
        rw [updD_same, List.take_add_one, hp]
        simp
      have sl : ((l.take i).map encPp).length < sizeLine := Nat.lt_of_le_of_lt (show _ ≤ 60 by simp; omega) (Nat.lt_of_lt_of_le (by decide) (line_of (n := 100) (by decide)))
      cases i with
      | zero =>
        rw [if_neg (by simp)]
        rw [if_neg (by decide)]
        walk_at "st"
        refine ⟨⟨_, hb⟩, ?_⟩
        walk_at "st"
        exact ⟨_, hb, sl, _, _, rfl, fin _ rfl⟩
      | succ j =>
        obtain ⟨z, hz⟩ : ∃ z, l[j]? = some z := ⟨_, List.getElem?_eq_getElem (by omega)⟩
        have tk : l.take (j + 1) = l.take j ++ [z] := by rw [List.take_add_one, hz]; rfl
        have lt : z.d < p.d := by
          have := List.pairwise_iff_getElem.mp ch.up j (j + 1) (by omega) hi (by omega)
          rw [(List.getElem?_eq_some_iff.mp hz).2, (List.getElem?_eq_some_iff.mp hp).2] at this
          exact this
        rw [if_pos (by rw [tk]; simp)]
        walk_at "st"
        refine rd_ix rfl rfl ?_
        walk_at "st"
        refine rd_ix (items_ref hb) (d := encPp z) (by rw [tk, List.map_append]; exact atI_last _ _) ?_
        walk_at "st"
        refine rd_ix rfl rfl ?_
        walk_at "st"
        rw [if_neg (by simp; omega)]
        walk_at "st"
        refine ⟨⟨_, hb⟩, ?_⟩
        walk_at "st"
        exact ⟨_, hb, sl, _, _, rfl, fin _ rfl⟩
    · rintro σ M' ⟨v3, v6, rfl, hk, hb, mo⟩
      rw [List.length_map, List.length_map, List.take_length] at hb
      walk_at "st"
      refine newF (line_of (by show 1 ≤ 1000; decide)) ?_
      walk_at "st"
      refine rd_cat rfl (list_ref hb) (newF (line_of (by simp; omega)) ?_)
      exact .inl (h _ mo)
noncomputable def sp_neighbours : SpD := fun ds M Q => ∃ c : List Pap, ds = [.lst (c.map encPp)] ∧ c ≠ [] ∧ c.length ≤ 61 ∧ Q (.lst ((prs c).map enc2)) M
theorem rd_neighbours (ds : List D) (M : HpD) (Q : KD) (h : sp_neighbours ds M Q) : t_neighbours { nx := fun _ M' => Q .non M', rt := Q } (startD ["chain"] ds) M := by
  obtain ⟨c, rfl, c0, cl, h⟩ := h
  unfold t_neighbours
  walk_at "st"
  rw [cut_one _ (by simpa using c0)]
  refine newF (line_of (by simp; omega)) ?_
  walk_at "st"
  refine ⟨_, _, _, _, rfl, rfl, rfl, by simp; omega, ?_⟩
  rw [zip_prs]
  have pl := prs_len (c := c)
  exact newF (line_of (by rw [List.length_map]; omega)) (.inl h)
noncomputable def sp_is_gap : SpD := fun ds M Q => ∃ p q : Pap, ds = [encPp p, encPp q] ∧ Q (.bl (gapB (p, q))) M
theorem gapB_x (z : Pap × Pap) : (true ^^ decide (z.1.b = z.2.a)) = gapB z := by
  unfold gapB
  by_cases q : z.1.b = z.2.a <;> simp [q]
theorem rd_is_gap (ds : List D) (M : HpD) (Q : KD) (h : sp_is_gap ds M Q) : t_is_gap { nx := fun _ M' => Q .non M', rt := Q } (startD ["first", "second"] ds) M := by
  obtain ⟨p, q, rfl, h⟩ := h
  unfold t_is_gap
  walk_at "st"
  refine rd_ix rfl rfl ?_
  walk_at "st"
  refine rd_ix rfl rfl ?_
  refine rd_eqS ?_
  rw [gapB_x (p, q)]
  exact .inl h
noncomputable def sp_gaps : SpD := fun ds M Q => ∃ (hm : Int × Str × Int) (ps l : List Pap), ds = [encH hm, .lst (ps.map encPp), .lst ((l.map (·.n)).map D.int)] ∧ ChainOf ps l ∧ ∀ M', Mo M M' → newL (holesD (hmP hm :: l)) M' Q
theorem holes_len {c : List Pap} : (holesD c).length ≤ c.length := by
  unfold holesD
  rw [List.length_map]
  have := List.length_filter_le gapB (prs c)
  have := prs_len (c := c)
  omega
theorem newL_impl {ds : List D} {M : HpD} {Q Q' : KD} (h : newL ds M Q) (i : ∀ d M', Q d M' → Q' d M') : newL ds M Q' := by
  unfold newL at h ⊢
  exact ⟨h.1, h.2.elim (fun a => .inl (i _ _ a)) fun a => .inr fun p hp => i _ _ (a p hp)⟩
theorem rd_gaps (ds : List D) (M : HpD) (Q : KD) (h : sp_gaps ds M Q) : t_gaps sp_believed_chain sp_neighbours sp_is_gap { nx := fun _ M' => Q .non M', rt := Q } (startD ["home", "papers", "story", "chain"] ds) M := by
  obtain ⟨hm, ps, l, rfl, ch, h⟩ := h
  have sz := ch.sz
  have ll := ch.len
  unfold t_gaps
  walk_at "st"
  refine ⟨hm, ps, l, rfl, ch, fun M1 mo => ?_⟩
  refine rd_gname ?_
  refine rd_ret (rd_compG (rd_iseqG (rd_call (rd_cons (rd_var rfl (rd_nil ?_))))))
  refine ⟨hmP hm :: l, rfl, by simp, by simp; omega, ?_⟩
  have pl := prs_len (c := hmP hm :: l)
  have pl2 : (hmP hm :: l).length = l.length + 1 := rfl
  refine ⟨_, rfl, line_of (by rw [List.length_map]; omega), fun i ys σ M2 => M2 = M1 ∧ (∃ v w, σ = [v, w, some (encH hm), some (.lst (ps.map encPp)), some (.lst ((l.map (·.n)).map D.int)), some (.lst ((hmP hm :: l).map encPp))]) ∧ ys = (((prs (hmP hm :: l)).take i).filter gapB).map encHo, ⟨rfl, ⟨_, _, rfl⟩, by simp⟩, fun _ _ _ _ _ => rfl, ?_, ?_⟩
  · rintro i d ys σ M2 e2 ⟨rfl, ⟨v, w, rfl⟩, rfl⟩
    rw [List.getElem?_map] at e2
    cases q : (prs (hmP hm :: l))[i]? with
    | none => rw [q] at e2; cases e2
    | some z =>
      rw [q] at e2; cases e2
      have hs := hole_step q
      refine rd_gtup rfl (rd_gcons (rd_gname (rd_gcons (rd_gname (rd_gnil (rd_tru (rd_call (rd_cons (rd_var rfl (rd_cons (rd_var rfl (rd_nil ?_))))))))))))
      refine ⟨z.1, z.2, rfl, ?_⟩
      refine ⟨_, by unfold truD; rfl, ?_⟩
      cases eg : gapB z with
      | true =>
        rw [if_pos rfl]
        walk_at "st"
        refine rd_ix rfl rfl ?_
        walk_at "st"
        refine rd_ix rfl rfl ?_
        walk_at "st"
        refine rd_ix rfl rfl ?_
        walk_at "st"
        refine rd_ix rfl rfl ?_
        walk_at "st"
        exact ⟨rfl, ⟨_, _, rfl⟩, by rw [hs, eg]; rfl⟩
      | false =>
        rw [if_neg (by decide)]
        exact ⟨rfl, ⟨_, _, rfl⟩, by rw [hs, eg]; simp⟩
  · rintro ys σ M2 ⟨rfl, ⟨v, w, rfl⟩, rfl⟩
    rw [List.length_map, List.take_length]
    exact newL_impl (h _ mo) fun d M' z => .inl z
noncomputable def sp_cost : SpD := fun ds M Q => ∃ (hm : Int × Str × Int) (ps l : List Pap) (pr : Int × Int), ds = [encH hm, .lst (ps.map encPp), .tup [.int pr.1, .int pr.2], .lst ((l.map (·.n)).map D.int)] ∧ ChainOf ps l ∧ 0 ≤ pr.1 ∧ pr.1 ≤ 1000 ∧ 0 ≤ pr.2 ∧ pr.2 ≤ 1000 ∧ ∀ M', Mo M M' → Q (.int (pr.2 * ((holesD (hmP hm :: l)).length : Int) + pr.1 * ((ps.length : Int) - l.length))) M'
theorem rd_cost (ds : List D) (M : HpD) (Q : KD) (h : sp_cost ds M Q) : t_cost sp_gaps { nx := fun _ M' => Q .non M', rt := Q } (startD ["home", "papers", "prices", "story", "doubt", "gap"] ds) M := by
  obtain ⟨hm, ps, l, pr, rfl, ch, a1, a2, b1, b2, h⟩ := h
  have sz := ch.sz
  have ll := ch.len
  have hl := holes_len (c := hmP hm :: l)
  have pl2 : (hmP hm :: l).length = l.length + 1 := rfl
  unfold t_cost
  walk_at "st"
  refine ⟨hm, ps, l, rfl, ch, fun M1 mo => newF (line_of (by omega)) ?_⟩
  walk_at "st"
  refine rd_len rfl ?_
  refine rd_rI (show CMul pr.2 _ from .inl ⟨by omega, by omega⟩) ?_
  walk_at "st"
  refine rd_len rfl ?_
  walk_at "st"
  refine rd_len rfl ?_
  walk_at "st"
  have h' := h M1 mo
  simp only [List.length_map]
  exact .inl h'
noncomputable def ord (ps : List Pap) : List Pap := ps.mergeSort fun a b => decide (a.d ≤ b.d)
theorem byDay_ord {ps : List Pap} (nd : (ps.map (·.d)).Nodup) : ByDay ps (ord ps) := by
  refine byDay_of nd (List.mergeSort_perm _ _) ?_
  have := List.pairwise_mergeSort (le := fun a b : Pap => decide (a.d ≤ b.d)) (fun a b c h1 h2 => by simp at h1 h2 ⊢; omega) (fun a b => by simp; omega) ps
  exact this.imp fun h => by simpa using h
theorem ord_len {ps : List Pap} : (ord ps).length = ps.length := (List.mergeSort_perm _ _).length_eq
theorem ord_mem {ps : List Pap} {p : Pap} : p ∈ ord ps ↔ p ∈ ps := (List.mergeSort_perm _ _).mem_iff
noncomputable def minL (a : Int) (l : List Int) : Int := l.foldl min a
section
variable (d g : Int)
noncomputable def gp (p q : Pap) : Int := if gapB (p, q) = true then g else 0
noncomputable def stp (p : Pap) (r : List Pap) (vs : List Int) : List Int := (List.range r.length).map fun (i : Nat) => d * (i : Int) + gp g p (r.getD i p) + vs.getD i 0
noncomputable def mw (p : Pap) (r : List Pap) (vs : List Int) : Int := minL (d * (r.length : Int)) (stp d g p r vs)
noncomputable def wt : List Pap → List Int
  | [] => []
  | p :: r => mw d g p r (wt r) :: wt r
noncomputable def W (p : Pap) (r : List Pap) : Int := mw d g p r (wt d g r)
noncomputable def sel (p : Pap) (wp : Int) (k : Nat) : List Pap → List Pap
  | [] => []
  | q :: r => if wp ≠ d * ((k + r.length + 1 : Nat) : Int) ∧ wp = d * (k : Int) + gp g p q + W d g q r then q :: sel q (W d g q r) 0 r else sel p wp (k + 1) r
noncomputable def told (p : Pap) (r : List Pap) : List Pap := sel d g p (W d g p r) 0 r
end
local macro_rules | `(tactic| walk_at "st1") => `(tactic| first
  | refine rd_seq ?_
  | refine rd_asg ?_
  | refine rd_gname ?_
  | refine rd_op ?_
  | refine rd_c ?_
  | refine rd_var rfl ?_
  | refine rd_rN ?_
  | refine rd_rI (by first | exact .inl ⟨by decide, by decide⟩ | exact .inr ⟨by decide, by decide⟩ | exact ⟨by decide, by decide⟩ | (show (0 : Int) < _; first | decide | omega) | exact .inl ⟨by omega, by omega⟩ | (constructor <;> omega)) ?_
  | refine rd_eqAI ?_
  | refine rd_app ?_
  | refine rd_ret ?_
  | refine rd_max2 ?_
  | refine rd_min2 ?_
  | refine rd_and ?_
  | refine rd_or ?_
  | refine rd_not ?_
  | refine rd_gtup rfl ?_
  | refine rd_gcons ?_
  | refine rd_gnil ?_
  | refine rd_comp ?_
  | refine rd_if0 ?_
  | refine rd_neg ?_
  | refine rd_tru ?_
  | refine rd_andV ?_
  | refine rd_notV ?_
  | refine rd_mx ?_
  | refine rd_cons ?_
  | refine rd_nil ?_
  | refine rd_tup ?_
  | refine rd_lst ?_
  | refine rd_test ?_
  | refine rd_ifS ?_
  | refine rd_call ?_
  | refine rd_next ?_
  | refine rd_drop ?_
  | refine rd_sl ?_
  | refine rd_nopart ?_
  | refine rd_part ?_
  | refine rd_iseq ?_
  | refine rd_for ?_
  | refine rd_forG ?_
  | refine rd_compG ?_
  | refine rd_iseqG ?_
  | refine rd_ienum ?_
  | refine rd_izip ?_
  | refine rd_join ?_
  | refine rd_ins ?_
  | refine rd_lstRng ?_
  | refine rd_din ?_
  | refine rd_dget ?_
  | refine rd_compDc ?_
  | refine rd_izts ?_
  | refine rd_lstZip ?_
  | refine rd_irev ?_
  | refine rd_sortLam ?_
  | refine rd_ifE ?_
  | refine rd_pop ?_
  | refine rd_ext ?_
  | refine rd_dput ?_
  | refine rd_isN ?_
  | refine rd_isB ?_
  | refine ⟨line_of (Nat.le_of_ble_eq_true rfl), ?_⟩
  | refine rd_gsub ?_
  | refine rd_irng1 ?_
  | refine rd_irng2 ?_
  | refine rd_ix rfl rfl ?_
  | refine rd_len rfl ?_
  | refine ⟨_, rfl, ?_⟩)
noncomputable abbrev qW : Str := "whole_chain.<locals>.<lambda>"
theorem at_map {α : Type} {f : α → D} {c : List α} {i : Nat} {p : α} (h : c[i]? = some p) : atI (c.map f) (i : Int) = some (f p) := atI_nat (by rw [List.getElem?_map, h]; rfl)
noncomputable def t__law_is_story : TSD :=
  (tSeqD (tAsgD (tLstD tNilD) (gNameD 2))
  (tSeqD (tForG (iSeqG (tVarD 1)) (gNameD 3) (tSeqD (tAsgD (tCompG 1 (iSeqG (tVarD 0)) (gNameD 0) (tTestD (tOpD (rEqA false) (tOpD rIxD (tVarD 0) (tCD (.int 0))) (tVarD 4))) (tOpD rIxD (tVarD 0) (tCD (.int 1)))) (gNameD 4))
  (tSeqD (tIfSD (tTestD (tOpD (rEqA false) (tCallD cLen (tConsD (tVarD 4) tNilD)) (tCD (.int 0)))) (tRetD (tCD (.bl false))) tNextD)
  (tDropD (tAppD (tVarD 2) (tOpD rIxD (tVarD 4) (tCD (.int 0))))))))
  (tRetD (tCallD cAll (tConsD (tCompG 2 (iZipG (tConsD (tVarD 2) (tConsD (tSlD (tVarD 2) (tPartD (tCD (.int 1))) tNoPartD) tNilD))) (gTupD 2 (gConsD (gNameD 0) (gConsD (gNameD 1) gNilD))) tIf0D (tOpD rLtD (tVarD 0) (tVarD 1))) tNilD)))))
noncomputable def Self (d : D) : Prop := okD d d = true ∧ eqD d d = true ∧ depD d ≤ 5
theorem selfs {α : Type} {f : α → D} : ∀ (l : List α), (∀ a ∈ l, Self (f a)) → okDs (l.map f) (l.map f) = true ∧ eqDs (l.map f) (l.map f) = true ∧ depDs (l.map f) ≤ 5
  | [], _ => by simp [okDs, eqDs, depDs]
  | a :: l, h => by
    obtain ⟨h1, h2, h3⟩ := h a List.mem_cons_self
    obtain ⟨g1, g2, g3⟩ := selfs l fun b hb => h b (List.mem_cons_of_mem _ hb)
    rw [List.map_cons]
    unfold okDs eqDs depDs
    rw [h1, h2, g1, g2]
    exact ⟨rfl, rfl, by omega⟩
theorem rd_eqLL {α : Type} {f : α → D} {neg : Bool} {x y : D} {l : List α} {M : HpD} {Q : KD} (hs : ∀ a ∈ l, Self (f a)) (hx : listD x M = some (l.map f)) (hy : listD y M = some (l.map f)) (q : Q (.bl (neg ^^ true)) M) : rEqA neg x y M Q := by
  obtain ⟨g1, g2, g3⟩ := selfs l hs
  refine rd_eqA ?_ ?_ ?_
  · rw [view_list hx, view_list hy]; exact g1
  · rw [view_list hx]; unfold depD; omega
  · rw [view_list hx, view_list hy]
    have : eqD (.lst (l.map f)) (.lst (l.map f)) = true := by unfold eqD; exact g2
    rw [this]; exact q
theorem self_int (i : Int) : Self (.int i) := by simp [Self, okD, eqD, depD]
theorem szl {n : Nat} (z : n ≤ 99) : n < sizeLine := Nat.lt_of_le_of_lt z (Nat.lt_of_lt_of_le (by decide) (line_of (n := 100) (by decide)))
theorem sub_sorted : ∀ {r l : List Pap}, r.Pairwise (fun a b => a.d < b.d) → l.Pairwise (fun a b => a.d < b.d) → (∀ x ∈ l, x ∈ r) → l.Sublist r
  | [], l, _, _, h => by
    cases l with
    | nil => exact List.Sublist.refl _
    | cons x l => exact absurd (h x List.mem_cons_self) (by simp)
  | y :: r, [], _, _, _ => List.nil_sublist _
  | y :: r, x :: l, pr, pl, h => by
    obtain ⟨pr1, pr2⟩ := List.pairwise_cons.mp pr
    obtain ⟨pl1, pl2⟩ := List.pairwise_cons.mp pl
    rcases List.mem_cons.mp (h x List.mem_cons_self) with rfl | hx
    · refine (sub_sorted pr2 pl2 fun z hz => ?_).cons_cons x
      rcases List.mem_cons.mp (h z (List.mem_cons_of_mem _ hz)) with e | e
      · have := pl1 z hz
        rw [e] at this
        omega
      · exact e
    · refine (sub_sorted pr2 pl fun z hz => ?_).cons y
      rcases List.mem_cons.mp (h z hz) with e | e
      · have h1 := pr1 x hx
        rcases List.mem_cons.mp hz with e2 | e2
        · rw [e2] at e; rw [e] at h1; omega
        · have := pl1 z e2
          rw [e] at this
          omega
      · exact e
structure Drawn (Pt b : Addr) (nms : List Str) (hm : Int × Str × Int) (ps : List Pap) (pd pg : Int) (M : HpD) : Prop where
  T : M Pt = some (.tab qW)
  bP : Pt ≠ b
  bx : ∃ o, M b = some o ∧ BoxO o
  okh : OkH nms hm
  pl : ps.length ≤ 60
  num : (ps.map (·.n)).Nodup
  day : (ps.map (·.d)).Nodup
  one : ∀ p ∈ ps, 1 ≤ p.n ∧ p.n ≤ 2400 ∧ hm.1 < p.d ∧ p.d ≤ hm.1 + 2500 ∧ p.a ∈ nms ∧ p.b ∈ nms ∧ 0 ≤ p.g ∧ p.g ≤ 9
  p1 : 1 ≤ pd ∧ pd ≤ 9 ∧ 1 ≤ pg ∧ pg ≤ 9
noncomputable def sp__law_is_story : SpD := fun ds M Q => ∃ (ps l : List Pap), ds = [.lst (ps.map encPp), .lst ((l.map (·.n)).map D.int)] ∧ ChainOf ps l ∧ ∀ M', Mo M M' → Q (.bl true) M'
noncomputable def t__law_spoilt (sp__law_take : SpD) : TSD :=
  (tSeqD (tAsgD (tCallD cList (tConsD (tVarD 2) tNilD)) (gNameD 2))
  (tSeqD (tAsgD (tCallD sp__law_take (tConsD (tVarD 0) (tConsD (tOpD rAddD (tCallD cLen (tConsD (tVarD 2) tNilD)) (tCD (.int 1))) tNilD))) (gNameD 3))
  (tSeqD (tAsgD (tCallD sp__law_take (tConsD (tVarD 0) (tConsD (tCD (.int 6)) tNilD))) (gNameD 4))
  (tSeqD (tIfSD (tTestD (tOpD (rEqA false) (tVarD 4) (tCD (.int 0)))) (tDropD (tInsD (tVarD 2) (tVarD 3) (tOpD rIxD (tLstD (tConsD (tCD (.int 0)) (tConsD (tNegD (tCD (.int 1))) (tConsD (tOpD rPowD (tCD (.int 10)) (tCD (.int 20))) tNilD)))) (tCallD sp__law_take (tConsD (tVarD 0) (tConsD (tCD (.int 3)) tNilD)))))) tNextD)
  (tSeqD (tIfSD (tTestD (tOpD (rEqA false) (tVarD 4) (tCD (.int 1)))) (tDropD (tInsD (tVarD 2) (tVarD 3) (tOpD rAddD (tOpD rAddD (tCallD cMax1 (tConsD (tOpD rCatD (tLstD (tConsD (tCD (.int 0)) tNilD)) (tCompG 1 (iSeqG (tVarD 1)) (gNameD 0) tIf0D (tOpD rIxD (tVarD 0) (tCD (.int 0))))) tNilD)) (tCD (.int 1))) (tCallD sp__law_take (tConsD (tVarD 0) (tConsD (tCD (.int 3)) tNilD)))))) tNextD)
  (tSeqD (tIfSD (tAndD (tTestD (tOpD (rEqA false) (tVarD 4) (tCD (.int 2)))) (tTestD (tOpD rGtD (tCallD cLen (tConsD (tVarD 1) tNilD)) (tCD (.int 0))))) (tDropD (tInsD (tVarD 2) (tVarD 3) (tOpD rIxD (tOpD rIxD (tVarD 1) (tCallD sp__law_take (tConsD (tVarD 0) (tConsD (tCallD cLen (tConsD (tVarD 1) tNilD)) tNilD)))) (tCD (.int 0))))) tNextD)
  (tSeqD (tIfSD (tAndD (tTestD (tOpD (rEqA false) (tVarD 4) (tCD (.int 3)))) (tTestD (tOpD rLtD (tOpD rAddD (tVarD 3) (tCD (.int 1))) (tCallD cLen (tConsD (tVarD 2) tNilD))))) (tAsgD (tLstD (tConsD (tOpD rIxD (tVarD 2) (tOpD rAddD (tVarD 3) (tCD (.int 1)))) (tConsD (tOpD rIxD (tVarD 2) (tVarD 3)) tNilD))) (gSlD (tVarD 2) (tPartD (tVarD 3)) (tPartD (tOpD rAddD (tVarD 3) (tCD (.int 2)))))) tNextD)
  (tSeqD (tIfSD (tAndD (tTestD (tOpD (rEqA false) (tVarD 4) (tCD (.int 4)))) (tTestD (tOpD rLtD (tVarD 3) (tCallD cLen (tConsD (tVarD 2) tNilD))))) (tDropD (tInsD (tVarD 2) (tCallD sp__law_take (tConsD (tVarD 0) (tConsD (tOpD rAddD (tCallD cLen (tConsD (tVarD 2) tNilD)) (tCD (.int 1))) tNilD))) (tOpD rIxD (tVarD 2) (tVarD 3)))) tNextD)
  (tRetD (tVarD 2))))))))))
noncomputable def t_law (Pt : Addr) (sp__law_box sp__law_places sp__law_home sp__law_papers sp__law_count sp__law_prices sp__law_spoilt sp__law_drawn_story sp__law_is_story sp_cost sp_gaps : SpD) (spB_cost spB_gaps : SpB) : TSD :=
  (tSeqD (tAsgD (tCallD sp__law_box (tConsD (tVarD 0) tNilD)) (gNameD 1))
  (tSeqD (tAsgD (tCallD sp__law_places (tConsD (tVarD 1) tNilD)) (gNameD 2))
  (tSeqD (tAsgD (tCallD sp__law_home (tConsD (tVarD 1) (tConsD (tVarD 2) tNilD))) (gNameD 5))
  (tSeqD (tAsgD (tCallD sp__law_papers (tConsD (tVarD 1) (tConsD (tVarD 2) (tConsD (tVarD 5) (tConsD (tCallD sp__law_count (tConsD (tVarD 1) (tConsD (tCD (.int 10)) (tConsD (tCD (.int 40)) tNilD)))) tNilD))))) (gNameD 7))
  (tSeqD (tAsgD (tCallD sp__law_prices (tConsD (tVarD 1) tNilD)) (gNameD 8))
  (tSeqD (tAsgD (tCallD sp__law_spoilt (tConsD (tVarD 1) (tConsD (tVarD 7) (tConsD (tCallD sp__law_drawn_story (tConsD (tVarD 1) (tConsD (tVarD 7) tNilD))) tNilD)))) (gNameD 3))
  (tSeqD (tAsgD (tCallD cList (tConsD (tVarD 3) tNilD)) (gNameD 6))
  (tSeqD (tAsgD (tLstD (tConsD (tCD (.bl true)) (tConsD (tCD (.bl true)) (tConsD (tCD (.bl false)) tNilD)))) (gNameD 4))
  (tSeqD (tIfSD (tTruD (tCallD sp__law_is_story (tConsD (tVarD 7) (tConsD (tVarD 3) tNilD)))) (tAsgD (tLstD (tConsD (tCD (.str "let")) tNilD)) (gNameD 4)) tNextD)
  (tSeqD (tIfSD (tTestD (tOpD (rEqA true) (tRefD Pt "law.<locals>.<lambda>" ["_law_home_here", "_law_kept", "_law_papers_here", "_law_prices_here"] [5, 6, 7, 8] (tCallD sp_cost (tConsD (tVarD 0) (tConsD (tVarD 2) (tConsD (tVarD 3) (tConsD (tVarD 1) tNilD))))) (tCallB spB_cost (tConsD (tVarD 0) (tConsD (tVarD 2) (tConsD (tVarD 3) (tConsD (tVarD 1) tNilD))))) [.str "let"] [.bl true, .bl true, .bl false]) (tVarD 4))) (tRetD (tCD (.bl false))) tNextD)
  (tRetD (tAndVD (tOpD (rEqA false) (tRefD Pt "law.<locals>.<lambda>" ["_law_home_here", "_law_kept", "_law_papers_here"] [5, 6, 7] (tCallD sp_gaps (tConsD (tVarD 0) (tConsD (tVarD 2) (tConsD (tVarD 1) tNilD)))) (tCallB spB_gaps (tConsD (tVarD 0) (tConsD (tVarD 2) (tConsD (tVarD 1) tNilD)))) [.str "let"] [.bl true, .bl true, .bl false]) (tVarD 4)) (tOpD (rEqA false) (tVarD 6) (tVarD 3))))))))))))))
noncomputable def tB_believed_chain (sp_home_paper : SpD) : TSD :=
  (tSeqD (tAsgD (tCompDcD 1 (iSeqG (tVarD 1)) (gNameD 0) tIf0D (tOpD rIxD (tVarD 0) (tCD (.int (0)))) (tVarD 0)) (gNameD 4))
  (tSeqD (tAsgD (tLstD tNilD) (gNameD 5))
  (tSeqD (tForG (iSeqG (tVarD 2)) (gNameD 6) (tSeqD (tIfSD (tTestD (tDInD true (tVarD 6) (tVarD 4))) (tRaiseD (tConsD (tFstD (tVarD 6)) tNilD)) tNextD)
  (tSeqD (tAsgD (tDGetD (tVarD 4) (tVarD 6)) (gNameD 3))
  (tSeqD (tIfSD (tAndD (tTruD (tVarD 5)) (tTestD (tOpD rLeD (tOpD rIxD (tVarD 3) (tCD (.int (1)))) (tOpD rIxD (tOpD rIxD (tVarD 5) (tNegD (tCD (.int 1)))) (tCD (.int (1))))))) (tRaiseD (tConsD (tFstD (tVarD 6)) tNilD)) tNextD)
  (tDropD (tAppD (tVarD 5) (tVarD 3)))))))
  (tRetD (tOpD rCatD (tLstD (tConsD (tCallD sp_home_paper (tConsD (tVarD 0) tNilD)) tNilD)) (tVarD 5))))))
noncomputable def tB_gaps (spB_believed_chain : SpB) : TSD :=
  (tSeqD (tAsgD (tCallB spB_believed_chain (tConsD (tVarD 0) (tConsD (tVarD 1) (tConsD (tVarD 2) tNilD)))) (gNameD 3))
  tNeverD)
noncomputable def tB_cost (spB_gaps : SpB) : TSD :=
  (tSeqD (tAsgD (tVarD 2) (gTupD 2 (gConsD (gNameD 4) (gConsD (gNameD 5) gNilD))))
  (tRetD (tOpD rAddD (tOpD rMulD (tVarD 5) (tCallD cLen (tConsD (tCallB spB_gaps (tConsD (tVarD 0) (tConsD (tVarD 1) (tConsD (tVarD 3) tNilD)))) tNilD))) (tOpD rMulD (tVarD 4) (tOpD rSubD (tCallD cLen (tConsD (tVarD 1) tNilD)) (tCallD cLen (tConsD (tVarD 3) tNilD)))))))
theorem pap_inj {ps : List Pap} {p q : Pap} (nd : (ps.map (·.n)).Nodup) (hp : p ∈ ps) (hq : q ∈ ps) (e : p.n = q.n) : p = q := by
  have h1 := filt_one nd hp
  have h2 := filt_one nd hq
  rw [e, h2] at h1
  injection h1 with h1
  exact h1.symm
theorem story_uniq {ps : List Pap} (nd : (ps.map (·.n)).Nodup) : ∀ {l l' : List Pap}, (∀ p ∈ l, p ∈ ps) → (∀ p ∈ l', p ∈ ps) → l.map (·.n) = l'.map (·.n) → l = l'
  | [], [], _, _, _ => rfl
  | [], _ :: _, _, _, e => by cases e
  | _ :: _, [], _, _, e => by cases e
  | a :: l, b :: l', h, h', e => by
    rw [List.map_cons, List.map_cons, List.cons.injEq] at e
    rw [pap_inj nd (h a List.mem_cons_self) (h' b List.mem_cons_self) e.1, story_uniq nd (fun p hp => h p (List.mem_cons_of_mem _ hp)) (fun p hp => h' p (List.mem_cons_of_mem _ hp)) e.2]
noncomputable def ltB (z : Pap × Pap) : Bool := decide (z.1.d < z.2.d)
theorem lts_iff : ∀ (l : List Pap), (((prs l).map ltB).all id = true ↔ l.Pairwise (fun a b => a.d < b.d))
  | [] => by simp [prs]
  | [p] => by simp [prs]
  | p :: q :: l => by
    have e : prs (p :: q :: l) = (p, q) :: prs (q :: l) := by simp [prs]
    have ih := lts_iff (q :: l)
    rw [e, List.map_cons, List.all_cons, Bool.and_eq_true, ih]
    constructor
    · rintro ⟨h1, h2⟩
      refine List.pairwise_cons.mpr ⟨fun x hx => ?_, h2⟩
      have h1 : p.d < q.d := of_decide_eq_true h1
      rcases List.mem_cons.mp hx with rfl | hx
      · exact h1
      · have := (List.pairwise_cons.mp h2).1 x hx
        omega
    · intro h
      obtain ⟨h1, h2⟩ := List.pairwise_cons.mp h
      exact ⟨decide_eq_true (h1 q List.mem_cons_self), h2⟩
theorem story_iff {ps l : List Pap} (nd : (ps.map (·.n)).Nodup) (h : ∀ p ∈ l, p ∈ ps) : StoryOf ps (l.map (·.n)) ↔ l.Pairwise (fun a b => a.d < b.d) := by
  constructor
  · rintro ⟨l', pw, sub, e⟩
    rw [story_uniq nd h sub e]; exact pw
  · exact fun pw => ⟨l, pw, h, rfl⟩
theorem story_no {ps : List Pap} {ks : List Int} {i : Nat} {k : Int} (hk : ks[i]? = some k) (h : ∀ p ∈ ps, p.n ≠ k) : ¬ StoryOf ps ks := by
  rintro ⟨l, _, sub, rfl⟩
  rw [List.getElem?_map] at hk
  cases q : l[i]? with
  | none => rw [q] at hk; cases hk
  | some p => rw [q] at hk; cases hk; exact h p (sub p (List.mem_of_getElem? q)) rfl
theorem filt_none {ps : List Pap} {k : Int} (h : ∀ p ∈ ps, p.n ≠ k) : ps.filter (fun q => decide (q.n = k)) = [] := by
  rw [List.filter_eq_nil_iff]
  intro q hq z
  exact h q hq (of_decide_eq_true z)
noncomputable def sp__law_is_story2 : SpD := fun ds M Q => ∃ (ps : List Pap) (ks : List Int), ds = [.lst (ps.map encPp), .lst (ks.map D.int)] ∧ (ps.map (·.n)).Nodup ∧ ps.length ≤ 60 ∧ ks.length ≤ 90 ∧ ∀ b M', (b = true ↔ StoryOf ps ks) → Mo M M' → Q (.bl b) M'
theorem rd__law_is_story2 (ds : List D) (M : HpD) (Q : KD) (h : sp__law_is_story2 ds M Q) : t__law_is_story { nx := fun _ M' => Q .non M', rt := Q } (startD ["_law_papers_here", "_law_story", "_law_days", "_law_number", "_law_found"] ds) M := by
  obtain ⟨ps, ks, rfl, nd, sz, ll, h⟩ := h
  unfold t__law_is_story
  walk_at "st"
  refine newM (line_of (Nat.zero_le _)) fun b hb => ?_
  walk_at "st"
  refine ⟨fun i σ M' => ∃ v3 v4 l, σ = [some (.lst (ps.map encPp)), some (.lst (ks.map D.int)), some (.ref b), v3, v4] ∧ Mo M M' ∧ M' b = some (.lst ((l.map (fun p : Pap => p.d)).map D.int)) ∧ (∀ p ∈ l, p ∈ ps) ∧ ks.take i = l.map (fun p : Pap => p.n), ⟨_, _, [], rfl, Mo.refl.upd hb, updD_same, by simp, by simp⟩, fun _ _ _ _ => rfl, ?_, ?_⟩
  · rintro i d σ M' e ⟨v3, v4, l, rfl, mo, hb2, sub, el⟩
    obtain ⟨k, hk, rfl⟩ : ∃ k, ks[i]? = some k ∧ d = .int k := by
      rw [List.getElem?_map] at e
      cases q : ks[i]? with
      | none => rw [q] at e; cases e
      | some k => rw [q] at e; cases e; exact ⟨k, rfl, rfl⟩
    have li : l.length = i := by
      have := congrArg List.length el
      rw [List.length_take, List.length_map] at this
      have hi := (List.getElem?_eq_some_iff.mp hk).1
      omega
    have hi := (List.getElem?_eq_some_iff.mp hk).1
    walk_at "st"
    refine ⟨line_of (by rw [List.length_map]; omega), fun j ys σ M2 => M2 = M' ∧ (∃ v, σ = [v, some (.lst (ps.map encPp)), some (.lst (ks.map D.int)), some (.ref b), some (.int k), v4]) ∧ ys = ((ps.take j).filter fun q => decide (q.n = k)).map (fun q => D.int q.d), ⟨rfl, ⟨_, rfl⟩, by simp⟩, fun _ _ _ _ _ => rfl, ?_, ?_⟩
    · rintro j d ys σ M2 e2 ⟨rfl, ⟨v, rfl⟩, rfl⟩
      rw [List.getElem?_map] at e2
      cases q : ps[j]? with
      | none => rw [q] at e2; cases e2
      | some z =>
        rw [q] at e2; cases e2
        have tk : ps.take (j + 1) = ps.take j ++ [z] := by rw [List.take_add_one, q]; rfl
        walk_at "st"
        rw [Bool.false_xor]
        by_cases zz : z.n = k
        · rw [decide_eq_true zz, if_pos rfl]
          walk_at "st"
          exact ⟨rfl, ⟨_, rfl⟩, by rw [tk, List.filter_append, List.filter_cons_of_pos (by simpa using zz)]; simp⟩
        · rw [decide_eq_false zz, if_neg (by decide)]
          exact ⟨rfl, ⟨_, rfl⟩, by rw [tk, List.filter_append, List.filter_cons_of_neg (by simpa using zz)]; simp⟩
    · rintro ys σ M2 ⟨rfl, ⟨v, rfl⟩, rfl⟩
      rw [List.length_map, List.take_length]
      by_cases ex : ∃ p ∈ ps, p.n = k
      · obtain ⟨p, hp, rfl⟩ := ex
        rw [filt_one nd hp]
        refine newF (line_of (by show 1 ≤ 1000; decide)) ?_
        walk_at "st"
        refine ⟨⟨_, hb2⟩, ?_⟩
        walk_at "st"
        refine ⟨_, hb2, szl (by simp; omega), ?_⟩
        refine ⟨_, _, l ++ [p], rfl, mo.upd hb, ?_, fun q hq => ?_, ?_⟩
        · rw [updD_same]; simp
        · rcases List.mem_append.mp hq with z | z
          · exact sub q z
          · rw [List.mem_singleton.mp z]; exact hp
        · rw [List.take_add_one, hk, el]; simp
      · have no : ∀ p ∈ ps, p.n ≠ k := fun p hp e => ex ⟨p, hp, e⟩
        rw [filt_none no]
        refine newF (line_of (by show 0 ≤ 1000; decide)) ?_
        walk_at "st"
        exact .inl (h false M2 ⟨fun z => (by cases z), fun z => absurd z (story_no hk no)⟩ mo)
  · rintro σ M' ⟨v3, v4, l, rfl, mo, hb2, sub, el⟩
    rw [List.length_map, List.take_length] at el
    subst el
    have ll2 : l.length ≤ 90 := by simpa using ll
    have fin : ∀ b, b = ((prs l).map ltB).all id → (b = true ↔ StoryOf ps (l.map (·.n))) := fun b e => by rw [e, lts_iff, story_iff nd sub]
    walk_at "st"
    refine ⟨_, list_ref hb2, ?_⟩
    cases el : l with
    | nil =>
      subst el
      refine newF (line_of (Nat.le_of_ble_eq_true rfl)) ?_
      walk_at "st"
      refine ⟨_, _, _, _, rfl, list_ref hb2, rfl, ?_⟩
      refine ⟨line_of (Nat.le_of_ble_eq_true rfl), fun i ys σ M2 => M2 = M' ∧ ys = [], ⟨rfl, rfl⟩, fun i ys σ M2 z => by rw [z.1]; exact ⟨list_ref hb2, rfl⟩, ?_, ?_⟩
      · rintro i d ys σ M2 e2 _
        have : (zipD (List.map D.int (List.map (fun x => x.d) ([] : List Pap))) (cutD (List.map D.int (List.map (fun x => x.d) ([] : List Pap))) (some 1) none))[i]? = none := rfl
        rw [this] at e2; cases e2
      · rintro ys σ M2 ⟨rfl, rfl⟩
        refine newF (line_of (Nat.zero_le _)) ?_
        refine rd_nil (rd_all (bs := []) rfl ?_)
        exact .inl (h _ _ (fin _ rfl) mo)
    | cons p0 l0 =>
      rw [← el, cut_one _ (by rw [el]; simp)]
      have zz : zipD ((l.map (·.d)).map D.int) (((l.map (·.d)).map D.int).drop 1) = (prs l).map fun z => D.tup [.int z.1.d, .int z.2.d] := by
        unfold zipD prs
        rw [← List.map_drop, ← List.map_drop, List.map_map, List.map_map, List.zipWith_map, List.zip_eq_zipWith, List.map_zipWith]
        rfl
      refine newF (line_of (by simp; omega)) ?_
      walk_at "st"
      refine ⟨_, _, _, _, rfl, list_ref hb2, rfl, ?_⟩
      rw [zz]
      have pl := prs_len (c := l)
      refine ⟨line_of (by rw [List.length_map]; omega), fun i ys σ M2 => M2 = M' ∧ (∃ v w, σ = [v, w, some (.lst (ps.map encPp)), some (.lst ((l.map (·.n)).map D.int)), some (.ref b), v3, v4]) ∧ ys = (((prs l).take i).map ltB).map D.bl, ⟨rfl, ⟨_, _, rfl⟩, rfl⟩, fun i ys σ M2 z => by rw [z.1]; exact ⟨list_ref hb2, rfl⟩, ?_, ?_⟩
      · rintro i d ys σ M2 e2 ⟨rfl, ⟨v, w, rfl⟩, rfl⟩
        rw [List.getElem?_map] at e2
        cases q : (prs l)[i]? with
        | none => rw [q] at e2; cases e2
        | some z =>
          rw [q] at e2; cases e2
          walk_at "st"
          exact ⟨rfl, ⟨_, _, rfl⟩, by rw [List.take_add_one, q]; simp [ltB]⟩
      · rintro ys σ M2 ⟨rfl, ⟨v, w, rfl⟩, rfl⟩
        rw [List.length_map, List.take_length]
        refine newF (line_of (by rw [List.length_map, List.length_map]; omega)) ?_
        refine rd_nil (rd_all (bs := (prs l).map ltB) rfl ?_)
        exact .inl (h _ _ (fin _ rfl) mo)
theorem val_cases (ps : List Pap) (k : Int) (nd : (ps.map (·.n)).Nodup) : (valK (ps.map kvP) (.inl k) = none ∧ ∀ p ∈ ps, p.n ≠ k) ∨ ∃ p ∈ ps, p.n = k ∧ valK (ps.map kvP) (.inl k) = some (encPp p) := by
  by_cases ex : ∃ p ∈ ps, p.n = k
  · obtain ⟨p, hp, rfl⟩ := ex
    exact .inr ⟨p, hp, rfl, val_at nd hp⟩
  · have no : ∀ p ∈ ps, p.n ≠ k := fun p hp e => ex ⟨p, hp, e⟩
    refine .inl ⟨?_, no⟩
    clear nd ex
    induction ps with
    | nil => rfl
    | cons a r ih =>
      rw [List.map_cons, valK_neg (fun z => ?_)]
      · exact ih fun p hp => no p (List.mem_cons_of_mem _ hp)
      · have z : (Sum.inl a.n : Key) = .inl k := z
        injection z with z
        exact no a List.mem_cons_self z
structure NoStory (ps : List Pap) (ks : List Int) : Prop where
  num : (ps.map (·.n)).Nodup
  sz : ps.length ≤ 60
  len : ks.length ≤ 90
  fit : ∀ k ∈ ks, k.natAbs < 10 ^ 100
  no : ¬ StoryOf ps ks
noncomputable def spB_believed_chain : SpB := fun ds M => ∃ (hm : Int × Str × Int) (ps : List Pap) (ks : List Int), ds = [encH hm, .lst (ps.map encPp), .lst (ks.map D.int)] ∧ NoStory ps ks
theorem rdB_believed_chain (ds : List D) (M : HpD) (h : spB_believed_chain ds M) : tB_believed_chain sp_home_paper { nx := fun _ _ => False, rt := fun _ _ => False } (startD ["home", "papers", "story", "paper", "known", "believed", "number"] ds) M := by
  obtain ⟨hm, ps, ks, rfl, ns⟩ := h
  have sz := ns.sz
  have ll := ns.len
  unfold tB_believed_chain
  walk_at "st"
  refine ⟨line_of (by rw [List.length_map]; omega), fun j ys σ M2 => M2 = M ∧ (∃ v, σ = [v, some (encH hm), some (.lst (ps.map encPp)), some (.lst (ks.map D.int)), none, none, none, none]) ∧ ys = (ps.take j).map kvP, ⟨rfl, ⟨_, rfl⟩, by simp⟩, fun _ _ _ _ _ => rfl, ?_, ?_⟩
  · rintro j d ys σ M2 e2 ⟨rfl, ⟨v, rfl⟩, rfl⟩
    rw [List.getElem?_map] at e2
    cases q : ps[j]? with
    | none => rw [q] at e2; cases e2
    | some z =>
      rw [q] at e2; cases e2
      have tk : ps.take (j + 1) = ps.take j ++ [z] := by rw [List.take_add_one, q]; rfl
      walk_at "st"
      refine ⟨.inl z.n, rfl, rfl, ⟨_, rfl⟩, ?_⟩
      rw [tk]
      refine put_new fun hz => ?_
      have nd := ns.num
      have e3 : ps = ps.take j ++ z :: ps.drop (j + 1) := by
        have hj := (List.getElem?_eq_some_iff.mp q)
        obtain ⟨hj1, hj2⟩ := hj
        rw [← hj2, List.getElem_cons_drop, List.take_append_drop]
      rw [e3, List.map_append, List.map_cons, List.nodup_append] at nd
      exact nd.2.2 _ hz _ List.mem_cons_self rfl
  · rintro ys σ M2 ⟨rfl, ⟨v, rfl⟩, rfl⟩
    rw [List.length_map, List.take_length]
    intro kp hkp
    walk_at "st"
    refine newM (line_of (Nat.zero_le _)) fun bp hbp => ?_
    have hkb : kp ≠ bp := fun z => by rw [z, updD_same] at hbp; cases hbp
    walk_at "st"
    refine ⟨fun i σ M' => ∃ v3 v6 l, σ = [some (encH hm), some (.lst (ps.map encPp)), some (.lst (ks.map D.int)), v3, some (.ref kp), some (.ref bp), v6] ∧ M' kp = some (.dct (ps.map kvP)) ∧ M' bp = some (.lst (l.map encPp)) ∧ (∀ p ∈ l, p ∈ ps) ∧ l.Pairwise (fun a b => a.d < b.d) ∧ ks.take i = l.map (fun p : Pap => p.n), ⟨_, _, [], rfl, by rw [updD_ne hkb]; exact updD_same, by simpa using updD_same, by simp, List.Pairwise.nil, by simp⟩, fun _ _ _ _ => rfl, ?_, ?_⟩
    · rintro i d σ M' e ⟨v3, v6, l, rfl, hk, hb, sub, pw, el⟩
      obtain ⟨k, hki, rfl⟩ : ∃ k, ks[i]? = some k ∧ d = .int k := by
        rw [List.getElem?_map] at e
        cases q : ks[i]? with
        | none => rw [q] at e; cases e
        | some k => rw [q] at e; cases e; exact ⟨k, rfl, rfl⟩
      have hi := (List.getElem?_eq_some_iff.mp hki).1
      have li : l.length = i := by
        have := congrArg List.length el
        rw [List.length_take, List.length_map] at this
        omega
      have fit := ns.fit k (List.mem_of_getElem? hki)
      walk_at "st"
      refine ⟨_, .inl k, dict_ref hk, rfl, ?_⟩
      rcases val_cases ps k ns.num with ⟨hv, no⟩ | ⟨p, hp, rfl, hv⟩
      · rw [hv]
        refine ⟨_, rfl, ?_⟩
        rw [if_pos (by simp)]
        exact rd_raise (rd_cons (rd_fst (rd_var rfl ⟨k, rfl, fit, fun x => rd_nil (by show 1 ≤ 1000; decide)⟩)))
      · rw [hv]
        refine ⟨_, rfl, ?_⟩
        rw [if_neg (by simp)]
        walk_at "st"
        refine ⟨_, .inl p.n, _, dict_ref hk, rfl, hv, ?_⟩
        walk_at "st"
        refine ⟨_, tru_list (list_ref hb), ?_⟩
        have fin : l.Pairwise (fun a b => a.d < b.d) → (∀ z ∈ l, z.d < p.d) → ∀ M3, M3 = updD M' bp (.lst (l.map encPp ++ [encPp p])) → M3 kp = some (.dct (ps.map kvP)) ∧ M3 bp = some (.lst ((l ++ [p]).map encPp)) ∧ (∀ q ∈ l ++ [p], q ∈ ps) ∧ (l ++ [p]).Pairwise (fun a b => a.d < b.d) ∧ ks.take (i + 1) = (l ++ [p]).map (fun p : Pap => p.n) := fun _ hz M3 e3 => by
          subst e3
          refine ⟨by rw [updD_ne hkb]; exact hk, by rw [updD_same]; simp, fun q hq => ?_, ?_, ?_⟩
          · rcases List.mem_append.mp hq with z | z
            · exact sub q z
            · rw [List.mem_singleton.mp z]; exact hp
          · rw [List.pairwise_append]
            exact ⟨pw, List.pairwise_singleton _ _, fun a ha b hb => by rw [List.mem_singleton.mp hb]; exact hz a ha⟩
          · rw [List.take_add_one, hki, el]; simp
        have sl : (l.map encPp).length < sizeLine := szl (by rw [List.length_map]; omega)
        rcases List.eq_nil_or_concat l with el0 | ⟨l0, z, el0⟩
        · subst el0
          rw [if_neg (by simp)]
          rw [if_neg (by decide)]
          walk_at "st"
          refine ⟨⟨_, hb⟩, ?_⟩
          walk_at "st"
          exact ⟨_, hb, sl, _, _, _, rfl, fin pw (by simp) _ rfl⟩
        · rw [if_pos (by rw [el0]; simp)]
          walk_at "st"
          refine rd_ix (items_ref hb) (d := encPp z) (by rw [el0, List.concat_eq_append, List.map_append]; exact atI_last _ _) ?_
          walk_at "st"
          by_cases lt : p.d ≤ z.d
          · rw [if_pos (by simpa using lt)]
            exact rd_raise (rd_cons (rd_fst (rd_var rfl ⟨p.n, rfl, fit, fun x => rd_nil (by show 1 ≤ 1000; decide)⟩)))
          · rw [if_neg (by simpa using lt)]
            walk_at "st"
            refine ⟨⟨_, hb⟩, ?_⟩
            walk_at "st"
            refine ⟨_, hb, sl, _, _, _, rfl, fin pw (fun q hq => ?_) _ rfl⟩
            rw [el0, List.concat_eq_append] at hq pw
            rcases List.mem_append.mp hq with hq | hq
            · have := (List.pairwise_append.mp pw).2.2 q hq z (by simp)
              omega
            · rw [List.mem_singleton.mp hq]; omega
    · rintro σ M' ⟨v3, v6, l, rfl, hk, hb, sub, pw, el⟩
      rw [List.length_map, List.take_length] at el
      exact absurd ⟨l, pw, sub, el⟩ ns.no
noncomputable def spB_gaps : SpB := fun ds M => ∃ (hm : Int × Str × Int) (ps : List Pap) (ks : List Int), ds = [encH hm, .lst (ps.map encPp), .lst (ks.map D.int)] ∧ NoStory ps ks
theorem rdB_gaps (ds : List D) (M : HpD) (h : spB_gaps ds M) : tB_gaps spB_believed_chain { nx := fun _ _ => False, rt := fun _ _ => False } (startD ["home", "papers", "story", "chain"] ds) M := by
  obtain ⟨hm, ps, ks, rfl, ns⟩ := h
  unfold tB_gaps
  exact rd_seq (rd_asg (rd_callB (rd_cons (rd_var rfl (rd_cons (rd_var rfl (rd_cons (rd_var rfl (rd_nil ⟨hm, ps, ks, rfl, ns⟩)))))))))
noncomputable def spB_cost : SpB := fun ds M => ∃ (hm : Int × Str × Int) (ps : List Pap) (ks : List Int) (pd pg : Int), ds = [encH hm, .lst (ps.map encPp), .tup [.int pd, .int pg], .lst (ks.map D.int)] ∧ NoStory ps ks
theorem rdB_cost (ds : List D) (M : HpD) (h : spB_cost ds M) : tB_cost spB_gaps { nx := fun _ _ => False, rt := fun _ _ => False } (startD ["home", "papers", "prices", "story", "doubt", "gap"] ds) M := by
  obtain ⟨hm, ps, ks, pd, pg, rfl, ns⟩ := h
  unfold tB_cost
  walk_at "st"
  exact rd_callB (rd_cons (rd_var rfl (rd_cons (rd_var rfl (rd_cons (rd_var rfl (rd_nil ⟨hm, ps, ks, rfl, ns⟩))))))) 
structure Spo (b p : Addr) (M0 : HpD) (at_ n : Nat) (zs : List Int) (M' : HpD) : Prop where
  bx : ∃ o, M' b = some o ∧ BoxO o
  ne : p ≠ b
  fr : M0 p = none
  lst : M' p = some (.lst (zs.map D.int))
  at_ : at_ ≤ zs.length
  len : zs.length ≤ n
  fit : ∀ k ∈ zs, k.natAbs < 10 ^ 100
  old : ∀ a o, a ≠ b → M0 a = some o → M' a = some o
theorem insL_int {zs : List Int} {k : Nat} {v : Int} : insL (zs.map D.int) k (.int v) = (insL zs k v).map D.int := by simp [insL]
theorem insL_len {zs : List Int} {k : Nat} {v : Int} (h : k ≤ zs.length) : (insL zs k v).length = zs.length + 1 := by simp [insL]; omega
section
variable {b p : Addr} {M0 M' M3 : HpD} {at_ n : Nat} {zs : List Int}
theorem Spo.fr' (s : Spo b p M0 at_ n zs M') (f : Fr b M' M3) : Spo b p M0 at_ n zs M3 :=
  ⟨f.1, s.ne, s.fr, (f.2 p s.ne).trans s.lst, s.at_, s.len, s.fit, fun a o h e => (f.2 a h).trans (s.old a o h e)⟩
theorem Spo.more (s : Spo b p M0 at_ n zs M') {m : Nat} (h : n ≤ m) : Spo b p M0 at_ m zs M' := ⟨s.bx, s.ne, s.fr, s.lst, s.at_, Nat.le_trans s.len h, s.fit, s.old⟩
theorem Spo.put (s : Spo b p M0 at_ n zs M') {ys : List Int} (h1 : at_ ≤ ys.length) (h2 : ys.length ≤ n + 1) (h3 : ∀ k ∈ ys, k.natAbs < 10 ^ 100) : Spo b p M0 at_ (n + 1) ys (updD M' p (.lst (ys.map D.int))) := by
  obtain ⟨o, e, bo⟩ := s.bx
  refine ⟨⟨o, by rw [updD_ne (Ne.symm s.ne)]; exact e, bo⟩, s.ne, s.fr, updD_same, h1, h2, h3, fun a u h e => ?_⟩
  rw [updD_ne (fun z => by rw [z, s.fr] at e; cases e)]
  exact s.old a u h e
theorem Spo.ins (s : Spo b p M0 at_ n zs M') {k : Nat} {v : Int} (h : k ≤ zs.length) (hv : v.natAbs < 10 ^ 100) : Spo b p M0 at_ (n + 1) (insL zs k v) (updD M' p (.lst (insL (zs.map D.int) k (.int v)))) := by
  rw [insL_int]
  refine s.put (by rw [insL_len h]; have := s.at_; omega) (by rw [insL_len h]; have := s.len; omega) fun x hx => ?_
  unfold insL at hx
  rcases List.mem_append.mp hx with z | z
  · exact s.fit x (List.mem_of_mem_take z)
  · rcases List.mem_cons.mp z with rfl | z
    · exact hv
    · exact s.fit x (List.mem_of_mem_drop z)
theorem Spo.new (s : Spo b p M0 at_ n zs M') {q : Addr} {o : OD} (hq : M' q = none) : Spo b p M0 at_ n zs (updD M' q o) := by
  obtain ⟨o', e, bo⟩ := s.bx
  have ne : ∀ {a : Addr} {u : OD}, M' a = some u → a ≠ q := fun e z => by rw [z, hq] at e; cases e
  exact ⟨⟨o', by rw [updD_ne (ne e)]; exact e, bo⟩, s.ne, s.fr, by rw [updD_ne (ne s.lst)]; exact s.lst, s.at_, s.len, s.fit, fun a u h e => by rw [updD_ne (ne (s.old a u h e))]; exact s.old a u h e⟩
end
section
variable {b p : Addr} {M0 M' : HpD} {at_ n : Nat} {zs : List Int} {ps : List Pap} {tu : Int} {rest : TSD} {DD : EndsD}
noncomputable abbrev spoS (b p : Addr) (ps : List Pap) (at_ : Nat) (tu : Int) : SD := [some (.ref b), some (.lst (ps.map encPp)), some (.ref p), some (.int (at_ : Int)), some (.int tu)]
theorem spo_szl (s : Spo b p M0 at_ n zs M') (hn : n ≤ 90) : (zs.map D.int).length < sizeLine := szl (by rw [List.length_map]; have := s.len; omega)
theorem spo0 (s : Spo b p M0 at_ n zs M') (hn : n ≤ 90) (k : ∀ ys M3, Spo b p M0 at_ (n + 1) ys M3 → rest DD (spoS b p ps at_ tu) M3) :
    tSeqD (tIfSD (tTestD (tOpD (rEqA false) (tVarD 4) (tCD (.int 0)))) (tDropD (tInsD (tVarD 2) (tVarD 3) (tOpD rIxD (tLstD (tConsD (tCD (.int 0)) (tConsD (tNegD (tCD (.int 1))) (tConsD (tOpD rPowD (tCD (.int 10)) (tCD (.int 20))) tNilD)))) (tCallD sp__law_take (tConsD (tVarD 0) (tConsD (tCD (.int 3)) tNilD)))))) tNextD) rest DD (spoS b p ps at_ tu) M' := by
  obtain ⟨o, eo, bo⟩ := s.bx
  walk_at "st"
  by_cases h : tu = 0
  · rw [if_pos (by simpa using h)]
    walk_at "st"
    refine ⟨⟨_, s.lst⟩, ?_⟩
    walk_at "st"
    refine newF (line_of (by show 3 ≤ 1000; decide)) ?_
    walk_at "st"
    refine ⟨b, _, o, rfl, by decide, by decide, eo, bo, fun r M3 r0 r1 f => ?_⟩
    have s3 := s.fr' f
    have hr : r = 0 ∨ r = 1 ∨ r = 2 := by omega
    rcases hr with rfl | rfl | rfl
    · refine rd_ix rfl rfl ?_
      exact ⟨at_, _, rfl, s3.lst, spo_szl s3 hn, by rw [List.length_map]; exact s3.at_, k _ _ (s3.ins s3.at_ (by decide))⟩
    · refine rd_ix rfl rfl ?_
      exact ⟨at_, _, rfl, s3.lst, spo_szl s3 hn, by rw [List.length_map]; exact s3.at_, k _ _ (s3.ins s3.at_ (by decide))⟩
    · refine rd_ix rfl rfl ?_
      exact ⟨at_, _, rfl, s3.lst, spo_szl s3 hn, by rw [List.length_map]; exact s3.at_, k _ _ (s3.ins s3.at_ (by decide))⟩
  · rw [if_neg (by simpa using h)]
    walk_at "st"
    exact k _ _ (s.more (by omega))
theorem spo1 (s : Spo b p M0 at_ n zs M') (hn : n ≤ 90) (hp : ps.length ≤ 60) (hps : ∀ p ∈ ps, 1 ≤ p.n ∧ p.n ≤ 2400) (k : ∀ ys M3, Spo b p M0 at_ (n + 1) ys M3 → rest DD (spoS b p ps at_ tu) M3) :
    tSeqD (tIfSD (tTestD (tOpD (rEqA false) (tVarD 4) (tCD (.int 1)))) (tDropD (tInsD (tVarD 2) (tVarD 3) (tOpD rAddD (tOpD rAddD (tCallD cMax1 (tConsD (tOpD rCatD (tLstD (tConsD (tCD (.int 0)) tNilD)) (tCompG 1 (iSeqG (tVarD 1)) (gNameD 0) tIf0D (tOpD rIxD (tVarD 0) (tCD (.int 0))))) tNilD)) (tCD (.int 1))) (tCallD sp__law_take (tConsD (tVarD 0) (tConsD (tCD (.int 3)) tNilD)))))) tNextD) rest DD (spoS b p ps at_ tu) M' := by
  obtain ⟨o, eo, bo⟩ := s.bx
  walk_at "st"
  by_cases h : tu = 1
  · rw [if_pos (by simpa using h)]
    walk_at "st"
    refine ⟨⟨_, s.lst⟩, ?_⟩
    walk_at "st"
    refine newF (line_of (by show 1 ≤ 1000; decide)) ?_
    walk_at "st"
    refine ⟨line_of (by rw [List.length_map]; omega), fun j ys σ M2 => M2 = M' ∧ (∃ v, σ = v :: spoS b p ps at_ tu) ∧ ys = ((ps.take j).map (·.n)).map D.int, ⟨rfl, ⟨_, rfl⟩, by simp⟩, fun _ _ _ _ _ => rfl, ?_, ?_⟩
    · rintro j d ys σ M2 e2 ⟨rfl, ⟨v, rfl⟩, rfl⟩
      rw [List.getElem?_map] at e2
      cases q : ps[j]? with
      | none => rw [q] at e2; cases e2
      | some z =>
        rw [q] at e2; cases e2
        walk_at "st"
        exact ⟨rfl, ⟨_, rfl⟩, by rw [List.take_add_one, q]; simp⟩
    · rintro ys σ M2 ⟨rfl, ⟨v, rfl⟩, rfl⟩
      rw [List.length_map, List.take_length]
      refine newF (line_of (by rw [List.length_map, List.length_map]; omega)) ?_
      refine rd_cat rfl rfl (newF (line_of (by simp; omega)) ?_)
      refine rd_nil (rd_max1 (ns := 0 :: ps.map (·.n)) rfl (by simp) fun m hm _ => ?_)
      have m1 : 0 ≤ m ∧ m ≤ 2400 := by
        rcases List.mem_cons.mp hm with rfl | hm
        · omega
        · obtain ⟨q, hq, rfl⟩ := List.mem_map.mp hm
          have := hps q hq
          omega
      walk_at "st"
      refine ⟨b, _, o, rfl, by decide, by decide, eo, bo, fun r M3 r0 r1 f => ?_⟩
      have s3 := s.fr' f
      walk_at "st"
      have fit : (m + 1 + r).natAbs < 10 ^ 100 := Nat.lt_of_le_of_lt (show (m + 1 + r).natAbs ≤ 2404 by omega) (by decide)
      exact ⟨at_, _, rfl, s3.lst, spo_szl s3 hn, by rw [List.length_map]; exact s3.at_, k _ _ (s3.ins s3.at_ fit)⟩
  · rw [if_neg (by simpa using h)]
    walk_at "st"
    exact k _ _ (s.more (by omega))
theorem spo2 (s : Spo b p M0 at_ n zs M') (hn : n ≤ 90) (hp : ps.length ≤ 60) (hps : ∀ p ∈ ps, 1 ≤ p.n ∧ p.n ≤ 2400) (k : ∀ ys M3, Spo b p M0 at_ (n + 1) ys M3 → rest DD (spoS b p ps at_ tu) M3) :
    tSeqD (tIfSD (tAndD (tTestD (tOpD (rEqA false) (tVarD 4) (tCD (.int 2)))) (tTestD (tOpD rGtD (tCallD cLen (tConsD (tVarD 1) tNilD)) (tCD (.int 0))))) (tDropD (tInsD (tVarD 2) (tVarD 3) (tOpD rIxD (tOpD rIxD (tVarD 1) (tCallD sp__law_take (tConsD (tVarD 0) (tConsD (tCallD cLen (tConsD (tVarD 1) tNilD)) tNilD)))) (tCD (.int 0))))) tNextD) rest DD (spoS b p ps at_ tu) M' := by
  obtain ⟨o, eo, bo⟩ := s.bx
  walk_at "st"
  by_cases h : tu = 2
  · rw [if_pos (by simpa using h)]
    walk_at "st"
    by_cases h2 : 0 < ps.length
    · rw [if_pos (by simpa using h2)]
      walk_at "st"
      refine ⟨⟨_, s.lst⟩, ?_⟩
      walk_at "st"
      refine ⟨b, _, o, rfl, by rw [List.length_map]; omega, by rw [List.length_map]; omega, eo, bo, fun r M3 r0 r1 f => ?_⟩
      have s3 := s.fr' f
      rw [List.length_map] at r1
      obtain ⟨i, rfl⟩ := Int.eq_ofNat_of_zero_le r0
      obtain ⟨q, hq⟩ : ∃ q, ps[i]? = some q := ⟨_, List.getElem?_eq_getElem (by omega)⟩
      refine rd_ix rfl (at_map hq) ?_
      walk_at "st"
      have := hps q (List.mem_of_getElem? hq)
      have fit : q.n.natAbs < 10 ^ 100 := Nat.lt_of_le_of_lt (show q.n.natAbs ≤ 2404 by omega) (by decide)
      exact ⟨at_, _, rfl, s3.lst, spo_szl s3 hn, by rw [List.length_map]; exact s3.at_, k _ _ (s3.ins s3.at_ fit)⟩
    · rw [if_neg (by simpa using h2)]
      walk_at "st"
      exact k _ _ (s.more (by omega))
  · rw [if_neg (by simpa using h), if_neg (by decide)]
    walk_at "st"
    exact k _ _ (s.more (by omega))
theorem spo3 (s : Spo b p M0 at_ n zs M') (hn : n ≤ 90) (k : ∀ ys M3, Spo b p M0 at_ (n + 1) ys M3 → rest DD (spoS b p ps at_ tu) M3) :
    tSeqD (tIfSD (tAndD (tTestD (tOpD (rEqA false) (tVarD 4) (tCD (.int 3)))) (tTestD (tOpD rLtD (tOpD rAddD (tVarD 3) (tCD (.int 1))) (tCallD cLen (tConsD (tVarD 2) tNilD))))) (tAsgD (tLstD (tConsD (tOpD rIxD (tVarD 2) (tOpD rAddD (tVarD 3) (tCD (.int 1)))) (tConsD (tOpD rIxD (tVarD 2) (tVarD 3)) tNilD))) (gSlD (tVarD 2) (tPartD (tVarD 3)) (tPartD (tOpD rAddD (tVarD 3) (tCD (.int 2)))))) tNextD) rest DD (spoS b p ps at_ tu) M' := by
  walk_at "st"
  by_cases h : tu = 3
  · rw [if_pos (by simpa using h)]
    walk_at "st"
    refine rd_len (items_ref s.lst) ?_
    walk_at "st"
    by_cases h2 : at_ + 1 < zs.length
    · rw [if_pos (by rw [decide_eq_true_eq, List.length_map]; omega)]
      obtain ⟨x, hx⟩ : ∃ x, zs[at_]? = some x := ⟨_, List.getElem?_eq_getElem (by omega)⟩
      obtain ⟨y, hy⟩ : ∃ y, zs[at_ + 1]? = some y := ⟨_, List.getElem?_eq_getElem h2⟩
      walk_at "st"
      refine rd_ix (items_ref s.lst) (d := .int y) (at_map (i := at_ + 1) hy) ?_
      walk_at "st"
      refine rd_ix (items_ref s.lst) (d := .int x) (at_map hx) ?_
      walk_at "st"
      refine newM (line_of (by show 2 ≤ 1000; decide)) fun q hq => ?_
      have s3 := s.new (o := .lst [.int y, .int x]) hq
      have nq : p ≠ q := fun z => by rw [← z, s.lst] at hq; cases hq
      refine rd_gsl ?_
      walk_at "st"
      have len := s.len
      refine ⟨p, q, _, _, at_, at_ + 2, rfl, rfl, rfl, rfl, s3.lst, updD_same, nq, by omega, by rw [List.length_map]; omega, line_of (by rw [List.length_map]; show _ + 2 ≤ _; omega), ?_⟩
      have e : (zs.map D.int).take at_ ++ [.int y, .int x] ++ (zs.map D.int).drop (at_ + 2) = (zs.take at_ ++ [y, x] ++ zs.drop (at_ + 2)).map D.int := by simp
      rw [e]
      refine k _ _ (s3.put (by simp; omega) (by simp; omega) fun j hj => ?_)
      rcases List.mem_append.mp hj with hj | hj
      · rcases List.mem_append.mp hj with hj | hj
        · exact s.fit j (List.mem_of_mem_take hj)
        · rcases List.mem_cons.mp hj with rfl | hj
          · exact s.fit _ (List.mem_of_getElem? hy)
          · rw [List.mem_singleton.mp hj]; exact s.fit _ (List.mem_of_getElem? hx)
      · exact s.fit j (List.mem_of_mem_drop hj)
    · rw [if_neg (by rw [decide_eq_true_eq, List.length_map]; omega)]
      walk_at "st"
      exact k _ _ (s.more (by omega))
  · rw [if_neg (by simpa using h), if_neg (by decide)]
    walk_at "st"
    exact k _ _ (s.more (by omega))
theorem spo4 (s : Spo b p M0 at_ n zs M') (hn : n ≤ 90) (k : ∀ ys M3, Spo b p M0 at_ (n + 1) ys M3 → rest DD (spoS b p ps at_ tu) M3) :
    tSeqD (tIfSD (tAndD (tTestD (tOpD (rEqA false) (tVarD 4) (tCD (.int 4)))) (tTestD (tOpD rLtD (tVarD 3) (tCallD cLen (tConsD (tVarD 2) tNilD))))) (tDropD (tInsD (tVarD 2) (tCallD sp__law_take (tConsD (tVarD 0) (tConsD (tOpD rAddD (tCallD cLen (tConsD (tVarD 2) tNilD)) (tCD (.int 1))) tNilD))) (tOpD rIxD (tVarD 2) (tVarD 3)))) tNextD) rest DD (spoS b p ps at_ tu) M' := by
  obtain ⟨o, eo, bo⟩ := s.bx
  have len := s.len
  walk_at "st"
  by_cases h : tu = 4
  · rw [if_pos (by simpa using h)]
    walk_at "st"
    refine rd_len (items_ref s.lst) ?_
    walk_at "st"
    by_cases h2 : at_ < zs.length
    · rw [if_pos (by rw [decide_eq_true_eq, List.length_map]; omega)]
      obtain ⟨x, hx⟩ : ∃ x, zs[at_]? = some x := ⟨_, List.getElem?_eq_getElem h2⟩
      walk_at "st"
      refine ⟨⟨_, s.lst⟩, ?_⟩
      walk_at "st"
      refine rd_len (items_ref s.lst) ?_
      walk_at "st"
      refine ⟨b, _, o, rfl, by rw [List.length_map]; omega, by rw [List.length_map]; omega, eo, bo, fun r M3 r0 r1 f => ?_⟩
      have s3 := s.fr' f
      rw [List.length_map] at r1
      obtain ⟨i, rfl⟩ := Int.eq_ofNat_of_zero_le r0
      walk_at "st"
      refine rd_ix (items_ref s3.lst) (d := .int x) (at_map hx) ?_
      exact ⟨i, _, rfl, s3.lst, spo_szl s3 hn, by rw [List.length_map]; omega, k _ _ (s3.ins (by omega) (s.fit x (List.mem_of_getElem? hx)))⟩
    · rw [if_neg (by rw [decide_eq_true_eq, List.length_map]; omega)]
      walk_at "st"
      exact k _ _ (s.more (by omega))
  · rw [if_neg (by simpa using h), if_neg (by decide)]
    walk_at "st"
    exact k _ _ (s.more (by omega))
end
noncomputable def sp__law_spoilt : SpD := fun ds M Q => ∃ (b : Addr) (o : OD) (ps : List Pap) (ks : List Int), ds = [.ref b, .lst (ps.map encPp), .lst (ks.map D.int)] ∧ M b = some o ∧ BoxO o ∧ ps.length ≤ 60 ∧ (∀ p ∈ ps, 1 ≤ p.n ∧ p.n ≤ 2400) ∧ ks.length ≤ 60 ∧ (∀ k ∈ ks, k.natAbs < 10 ^ 100) ∧ ∀ (ks' : List Int) (M' : HpD), ks'.length ≤ 65 → (∀ k ∈ ks', k.natAbs < 10 ^ 100) → Fx b M M' → Q (.lst (ks'.map D.int)) M'
theorem rd__law_spoilt (ds : List D) (M : HpD) (Q : KD) (h : sp__law_spoilt ds M Q) : t__law_spoilt sp__law_take { nx := fun _ M' => Q .non M', rt := Q } (startD ["_law_box_here", "_law_papers_here", "_law_story", "_law_at", "_law_turn"] ds) M := by
  obtain ⟨b, o, ps, ks, rfl, eM, bo, pl, hps, kl, fit, h⟩ := h
  unfold t__law_spoilt
  walk_at "st"
  refine rd_list rfl (newM (line_of (by rw [List.length_map]; omega)) fun p hp => ?_)
  have ne : p ≠ b := fun z => by rw [z, eM] at hp; cases hp
  have ebp : updD M p (.lst (ks.map D.int)) b = some o := by rw [updD_ne (Ne.symm ne)]; exact eM
  walk_at "st"
  refine rd_len (items_ref updD_same) ?_
  walk_at "st"
  refine ⟨b, _, o, rfl, by rw [List.length_map]; omega, by rw [List.length_map]; omega, ebp, bo, fun r M2 r0 r1 f2 => ?_⟩
  rw [List.length_map] at r1
  obtain ⟨i, rfl⟩ := Int.eq_ofNat_of_zero_le r0
  obtain ⟨o2, e2, b2⟩ := id f2.1
  walk_at "st"
  refine ⟨b, _, o2, rfl, by decide, by decide, e2, b2, fun tu M3 _ _ f3 => ?_⟩
  have f := f2.trans f3
  have s : Spo b p M i 60 ks M3 := ⟨f.1, ne, hp, (f.2 p ne).trans updD_same, by omega, kl, fit, fun a u z e => by
    rw [f.2 a z, updD_ne (fun y => by rw [y, hp] at e; cases e)]; exact e⟩
  refine rd_gname ?_
  refine spo0 (ps := ps) (tu := tu) s (by decide) fun z1 M4 s4 => ?_
  refine spo1 s4 (by decide) pl hps fun z2 M5 s5 => ?_
  refine spo2 s5 (by decide) pl hps fun z3 M6 s6 => ?_
  refine spo3 s6 (by decide) fun z4 M7 s7 => ?_
  refine spo4 s7 (by decide) fun z5 M8 s8 => ?_
  obtain ⟨o8, e8, b8⟩ := s8.bx
  walk_at "st"
  refine .inr ⟨p, _, rfl, s8.lst, h z5 _ s8.len s8.fit ⟨⟨o8, by rw [delD_ne (Ne.symm ne)]; exact e8, b8⟩, fun a u z e => ?_⟩⟩
  rw [delD_ne (fun y => by rw [y, hp] at e; cases e)]
  exact s8.old a u z e
theorem rd_eqLet {neg : Bool} {M : HpD} {Q : KD} (q : Q (.bl (neg ^^ true)) M) : rEqA neg (.lst [.str "let"]) (.lst [.str "let"]) M Q :=
  rd_eqLL (f := D.str) (l := [("let" : Str)]) (fun a _ => by simp [Self, okD, eqD, depD]) rfl rfl q
theorem rd_eqTtf {neg : Bool} {M : HpD} {Q : KD} (q : Q (.bl (neg ^^ true)) M) : rEqA neg (.lst [.bl true, .bl true, .bl false]) (.lst [.bl true, .bl true, .bl false]) M Q :=
  rd_eqLL (f := D.bl) (l := [true, true, false]) (fun a _ => by simp [Self, okD, eqD, depD]) rfl rfl q
theorem rd_law {Pt : Addr} (ds : List D) (M : HpD) (Q : KD) (h : spLawT Pt "law.<locals>.<lambda>" ds M Q) : t_law Pt sp__law_box sp__law_places sp__law_home sp__law_papers sp__law_count sp__law_prices sp__law_spoilt sp__law_drawn_story sp__law_is_story2 sp_cost sp_gaps spB_cost spB_gaps { nx := fun _ M' => Q .non M', rt := Q } (startD ["_law_script", "_law_box_here", "_law_places_here", "_law_story", "_law_due", "_law_home_here", "_law_kept", "_law_papers_here", "_law_prices_here"] ds) M := by
  obtain ⟨ns, rfl, hl, hT, h⟩ := h
  unfold t_law
  walk_at "st"
  refine ⟨hl, fun b M1 hb f1 => ?_⟩
  have bP : Pt ≠ b := fun z => by rw [← z, hT] at hb; cases hb
  have T1 := (f1.2 Pt bP).trans hT
  obtain ⟨o1, e1, b1⟩ := id f1.1
  walk_at "st"
  refine ⟨b, o1, rfl, e1, b1, fun nms M2 gp2 f2 => ?_⟩
  have T2 := (f2.2 Pt bP).trans T1
  obtain ⟨o2, e2, b2⟩ := id f2.1
  walk_at "st"
  refine ⟨b, o2, nms, rfl, e2, b2, gp2, fun hm M3 okh f3 => ?_⟩
  have T3 := (f3.2 Pt bP).trans T2
  obtain ⟨o3, e3, b3⟩ := id f3.1
  walk_at "st"
  refine ⟨b, _, _, o3, rfl, by omega, by omega, by omega, by omega, e3, b3, fun n M4 n0 n1 f4 => ?_⟩
  have T4 := (f4.2 Pt bP).trans T3
  obtain ⟨o4, e4, b4⟩ := id f4.1
  walk_at "st"
  refine ⟨b, o4, nms, hm, n, rfl, e4, b4, gp2, okh, n0, by omega, fun ps M5 good fx => ?_⟩
  have T5 := fx.old Pt _ bP T4
  obtain ⟨o5, e5, b5⟩ := fx.bx
  have pl : ps.length ≤ 60 := by have := good.len; omega
  walk_at "st"
  refine ⟨b, o5, rfl, e5, b5, fun pd pg M6 d1 d2 g1 g2 f6 => ?_⟩
  have T6 := (f6.2 Pt bP).trans T5
  obtain ⟨o6, e6, b6⟩ := id f6.1
  walk_at "st"
  refine ⟨b, o6, ps, rfl, e6, b6, pl, good.day, fun ks M7 st kl f7 => ?_⟩
  have T7 := (f7.2 Pt bP).trans T6
  obtain ⟨o7, e7, b7⟩ := id f7.1
  walk_at "st"
  refine ⟨b, o7, ps, ks, rfl, e7, b7, pl, fun p hp => ⟨(good.one p hp).1, (good.one p hp).2.1⟩, by omega, fun k hk => ?_, fun zs M8 zl fit fx8 => ?_⟩
  · obtain ⟨l, _, sub, rfl⟩ := st
    obtain ⟨p, hp, rfl⟩ := List.mem_map.mp hk
    have := good.one p (sub p hp)
    exact Nat.lt_of_le_of_lt (show p.n.natAbs ≤ 2404 by omega) (by decide)
  have T8 := fx8.old Pt _ bP T7
  walk_at "st"
  refine rd_list rfl (newF (line_of (by rw [List.length_map]; omega)) ?_)
  walk_at "st"
  refine newF (line_of (by show 3 ≤ 1000; decide)) ?_
  walk_at "st"
  refine ⟨ps, zs, rfl, good.num, pl, by omega, fun is M9 iff mo => ?_⟩
  have T9 := mo _ _ T8
  refine ⟨is, by unfold truD; rfl, ?_⟩
  cases is with
  | true =>
    obtain ⟨l, pw, sub, el⟩ := iff.mp rfl
    have ch : ChainOf ps l := by
      refine ⟨pw, sub, ?_, good.num, pl⟩
      have := (sub_sorted (byDay_ord good.day).2 pw fun x hx => ord_mem.mpr (sub x hx)).length_le
      rw [ord_len] at this
      exact this
    subst el
    rw [if_pos rfl]
    walk_at "st"
    refine newF (line_of (by show 1 ≤ 1000; decide)) ?_
    walk_at "st"
    refine rd_ref (ds := [encH hm, .lst ((l.map (·.n)).map D.int), .lst (ps.map encPp), .tup [.int pd, .int pg]]) T9 rfl (.inl ⟨?_, ?_⟩)
    · walk_at "st"
      exact ⟨hm, ps, l, (pd, pg), rfl, ch, by show 0 ≤ pd; omega, by show pd ≤ 1000; omega, by show 0 ≤ pg; omega, by show pg ≤ 1000; omega, fun _ _ => trivial⟩
    walk_at "st"
    refine rd_eqLet ?_
    refine ⟨_, rfl, ?_⟩
    rw [if_neg (by decide)]
    walk_at "st"
    refine rd_ref (ds := [encH hm, .lst ((l.map (·.n)).map D.int), .lst (ps.map encPp)]) T9 rfl (.inl ⟨?_, ?_⟩)
    · walk_at "st"
      refine ⟨hm, ps, l, rfl, ch, fun _ _ => newF (line_of ?_) trivial⟩
      have := holes_len (c := hmP hm :: l)
      have := ch.len
      simp only [List.length_cons] at *
      omega
    walk_at "st"
    refine rd_eqLet ?_
    refine ⟨_, rfl, ?_⟩
    rw [if_pos (by decide)]
    walk_at "st"
    refine rd_eqLL (fun a _ => self_int a) rfl rfl (.inl (h _))
  | false =>
    have no : NoStory ps zs := ⟨good.num, pl, by omega, fit, fun z => by have := iff.mpr z; cases this⟩
    rw [if_neg (by decide)]
    walk_at "st"
    refine rd_ref (ds := [encH hm, .lst (zs.map D.int), .lst (ps.map encPp), .tup [.int pd, .int pg]]) T9 rfl (.inr ⟨?_, ?_⟩)
    · exact rd_callB (rd_cons (rd_var rfl (rd_cons (rd_var rfl (rd_cons (rd_var rfl (rd_cons (rd_var rfl (rd_nil ⟨hm, ps, zs, pd, pg, rfl, no⟩)))))))))
    walk_at "st"
    refine rd_eqTtf ?_
    refine ⟨_, rfl, ?_⟩
    rw [if_neg (by decide)]
    walk_at "st"
    refine rd_ref (ds := [encH hm, .lst (zs.map D.int), .lst (ps.map encPp)]) T9 rfl (.inr ⟨?_, ?_⟩)
    · exact rd_callB (rd_cons (rd_var rfl (rd_cons (rd_var rfl (rd_cons (rd_var rfl (rd_nil ⟨hm, ps, zs, rfl, no⟩)))))))
    walk_at "st"
    refine rd_eqTtf ?_
    refine ⟨_, rfl, ?_⟩
    rw [if_pos (by decide)]
    walk_at "st"
    refine rd_eqLL (fun a _ => self_int a) rfl rfl (.inl (h _))
theorem us0 {P : List Value → Prop} (h : P []) (us : List Value) (hl : us.length = 0) : P us := by
  cases us with
  | nil => exact h
  | cons => cases hl
theorem us1 {P : List Value → Prop} (h : ∀ a0, P [a0]) (us : List Value) (hl : us.length = 1) : P us := by
  obtain ⟨a0, e⟩ : ∃ a0, us = [a0] := by
    match us, hl with
    | [a0], _ => exact ⟨_, rfl⟩
  subst e; exact h _
theorem us2 {P : List Value → Prop} (h : ∀ a0 a1, P [a0, a1]) (us : List Value) (hl : us.length = 2) : P us := by
  obtain ⟨a0, a1, e⟩ : ∃ a0 a1, us = [a0, a1] := by
    match us, hl with
    | [a0, a1], _ => exact ⟨_, _, rfl⟩
  subst e; exact h _ _
theorem us3 {P : List Value → Prop} (h : ∀ a0 a1 a2, P [a0, a1, a2]) (us : List Value) (hl : us.length = 3) : P us := by
  obtain ⟨a0, a1, a2, e⟩ : ∃ a0 a1 a2, us = [a0, a1, a2] := by
    match us, hl with
    | [a0, a1, a2], _ => exact ⟨_, _, _, rfl⟩
  subst e; exact h _ _ _
theorem us4 {P : List Value → Prop} (h : ∀ a0 a1 a2 a3, P [a0, a1, a2, a3]) (us : List Value) (hl : us.length = 4) : P us := by
  obtain ⟨a0, a1, a2, a3, e⟩ : ∃ a0 a1 a2 a3, us = [a0, a1, a2, a3] := by
    match us, hl with
    | [a0, a1, a2, a3], _ => exact ⟨_, _, _, _, rfl⟩
  subst e; exact h _ _ _ _
noncomputable def top (i : Nat) : Stmt := PySem.Challenge.pw_vitrine_k02_no_story.main.body.getD i (.Pass ⟨0, 0, 0, 0⟩)
noncomputable abbrev s__law_box : Stmt := top 19
noncomputable abbrev s__law_mixed : Stmt := top 21
noncomputable abbrev s__law_take : Stmt := top 20
noncomputable abbrev s__law_letters : Stmt := top 22
noncomputable abbrev s__law_named : Stmt := top 23
noncomputable abbrev s__law_places : Stmt := top 25
noncomputable abbrev s__law_day : Stmt := top 27
noncomputable abbrev s__law_home : Stmt := top 28
noncomputable abbrev s__law_deal : Stmt := top 24
noncomputable abbrev s__law_grade : Stmt := top 29
noncomputable abbrev s__law_papers : Stmt := top 30
noncomputable abbrev s__law_count : Stmt := top 31
noncomputable abbrev s__law_prices : Stmt := top 26
noncomputable abbrev s__law_spoilt : Stmt := top 36
noncomputable abbrev s__law_by_day : Stmt := top 32
noncomputable abbrev s__law_drawn_story : Stmt := top 34
noncomputable abbrev s__law_is_story : Stmt := top 33
noncomputable abbrev s_home_paper : Stmt := top 12
noncomputable abbrev s_believed_chain : Stmt := top 13
noncomputable abbrev s_neighbours : Stmt := top 14
noncomputable abbrev s_is_gap : Stmt := top 15
noncomputable abbrev s_gaps : Stmt := top 16
noncomputable abbrev s_cost : Stmt := top 17
noncomputable abbrev s_law : Stmt := top 37
noncomputable abbrev s__law_refused : Stmt := top 35
noncomputable abbrev N__law_refused : List Str := ["_law_told", "_law_found", "e"]
noncomputable abbrev P__law_refused : List Str := ["_law_told"]
theorem sc__law_refused : FnScope N__law_refused P__law_refused (defScope s__law_refused) := ⟨rfl, rfl, rfl, by decide +kernel, rfl, by decide +kernel, by decide +kernel⟩
noncomputable abbrev N__law_box : List Str := ["_law_script", "_law_seed", "_law_cell"]
noncomputable abbrev P__law_box : List Str := ["_law_script"]
theorem sc__law_box : FnScope N__law_box P__law_box (defScope s__law_box) := ⟨rfl, rfl, rfl, by decide +kernel, rfl, by decide +kernel, by decide +kernel⟩
noncomputable abbrev N__law_mixed : List Str := ["_law_number", "_law_turn", "_law_one", "_law_two"]
noncomputable abbrev P__law_mixed : List Str := ["_law_number", "_law_turn"]
theorem sc__law_mixed : FnScope N__law_mixed P__law_mixed (defScope s__law_mixed) := ⟨rfl, rfl, rfl, by decide +kernel, rfl, by decide +kernel, by decide +kernel⟩
noncomputable abbrev N__law_take : List Str := ["_law_box_here", "_law_size", "_law_left", "_law_cell"]
noncomputable abbrev P__law_take : List Str := ["_law_box_here", "_law_size"]
theorem sc__law_take : FnScope N__law_take P__law_take (defScope s__law_take) := ⟨rfl, rfl, rfl, by decide +kernel, rfl, by decide +kernel, by decide +kernel⟩
noncomputable abbrev N__law_letters : List Str := []
noncomputable abbrev P__law_letters : List Str := []
theorem sc__law_letters : FnScope N__law_letters P__law_letters (defScope s__law_letters) := ⟨rfl, rfl, rfl, by decide +kernel, rfl, by decide +kernel, by decide +kernel⟩
noncomputable abbrev N__law_named : List Str := ["_law_box_here", "_law_size"]
noncomputable abbrev P__law_named : List Str := ["_law_box_here"]
theorem sc__law_named : FnScope N__law_named P__law_named (defScope s__law_named) := ⟨rfl, rfl, rfl, by decide +kernel, rfl, by decide +kernel, by decide +kernel⟩
theorem chk__law_named_0 : compChk ({ kind := .function, names := [((".0" : Str), NameKind.«local»), (("_law_k" : Str), NameKind.«local»), (("_law_letters" : Str), NameKind.globalImplicit), (("_law_take" : Str), NameKind.globalImplicit), (("_law_box_here" : Str), NameKind.free)], isGenerator := false, isCoroutine := false, more := [] } : Scope) (defScope s__law_named) N__law_named ["_law_k"] ["_law_box_here", "_law_size"] = true := by decide +kernel
theorem nd__law_named_0 : ((["_law_k"] : List Str) ++ (["_law_box_here", "_law_size"] : List Str)).Nodup := by decide +kernel
noncomputable abbrev N__law_places : List Str := ["_law_box_here", "_law_found", "_law_k", "_law_name"]
noncomputable abbrev P__law_places : List Str := ["_law_box_here"]
theorem sc__law_places : FnScope N__law_places P__law_places (defScope s__law_places) := ⟨rfl, rfl, rfl, by decide +kernel, rfl, by decide +kernel, by decide +kernel⟩
noncomputable abbrev N__law_day : List Str := ["_law_box_here", "_law_turn"]
noncomputable abbrev P__law_day : List Str := ["_law_box_here"]
theorem sc__law_day : FnScope N__law_day P__law_day (defScope s__law_day) := ⟨rfl, rfl, rfl, by decide +kernel, rfl, by decide +kernel, by decide +kernel⟩
noncomputable abbrev N__law_home : List Str := ["_law_box_here", "_law_places_here"]
noncomputable abbrev P__law_home : List Str := ["_law_box_here", "_law_places_here"]
theorem sc__law_home : FnScope N__law_home P__law_home (defScope s__law_home) := ⟨rfl, rfl, rfl, by decide +kernel, rfl, by decide +kernel, by decide +kernel⟩
noncomputable abbrev N__law_deal : List Str := ["_law_box_here", "_law_some", "_law_all_of", "_law_found", "_law_one"]
noncomputable abbrev P__law_deal : List Str := ["_law_box_here", "_law_some", "_law_all_of"]
theorem sc__law_deal : FnScope N__law_deal P__law_deal (defScope s__law_deal) := ⟨rfl, rfl, rfl, by decide +kernel, rfl, by decide +kernel, by decide +kernel⟩
noncomputable abbrev N__law_grade : List Str := ["_law_box_here", "_law_grade_here"]
noncomputable abbrev P__law_grade : List Str := ["_law_box_here", "_law_grade_here"]
theorem sc__law_grade : FnScope N__law_grade P__law_grade (defScope s__law_grade) := ⟨rfl, rfl, rfl, by decide +kernel, rfl, by decide +kernel, by decide +kernel⟩
noncomputable abbrev N__law_papers : List Str := ["_law_box_here", "_law_places_here", "_law_home_here", "_law_size", "_law_numbers", "_law_step", "_law_day_here", "_law_at", "_law_grade_here", "_law_found", "_law_number", "_law_here", "_law_there"]
noncomputable abbrev P__law_papers : List Str := ["_law_box_here", "_law_places_here", "_law_home_here", "_law_size"]
theorem sc__law_papers : FnScope N__law_papers P__law_papers (defScope s__law_papers) := ⟨rfl, rfl, rfl, by decide +kernel, rfl, by decide +kernel, by decide +kernel⟩
noncomputable abbrev N__law_count : List Str := ["_law_box_here", "_law_few", "_law_most"]
noncomputable abbrev P__law_count : List Str := ["_law_box_here", "_law_few", "_law_most"]
theorem sc__law_count : FnScope N__law_count P__law_count (defScope s__law_count) := ⟨rfl, rfl, rfl, by decide +kernel, rfl, by decide +kernel, by decide +kernel⟩
noncomputable abbrev N__law_prices : List Str := ["_law_box_here", "_law_turn"]
noncomputable abbrev P__law_prices : List Str := ["_law_box_here"]
theorem sc__law_prices : FnScope N__law_prices P__law_prices (defScope s__law_prices) := ⟨rfl, rfl, rfl, by decide +kernel, rfl, by decide +kernel, by decide +kernel⟩
noncomputable abbrev N__law_spoilt : List Str := ["_law_box_here", "_law_papers_here", "_law_story", "_law_at", "_law_turn"]
noncomputable abbrev P__law_spoilt : List Str := ["_law_box_here", "_law_papers_here", "_law_story"]
theorem sc__law_spoilt : FnScope N__law_spoilt P__law_spoilt (defScope s__law_spoilt) := ⟨rfl, rfl, rfl, by decide +kernel, rfl, by decide +kernel, by decide +kernel⟩
theorem chk__law_spoilt_0 : compChk ({ kind := .function, names := [((".0" : Str), NameKind.«local»), (("_law_paper" : Str), NameKind.«local»)], isGenerator := false, isCoroutine := false, more := [] } : Scope) (defScope s__law_spoilt) N__law_spoilt ["_law_paper"] ["_law_box_here", "_law_papers_here", "_law_story", "_law_at", "_law_turn"] = true := by decide +kernel
theorem nd__law_spoilt_0 : ((["_law_paper"] : List Str) ++ (["_law_box_here", "_law_papers_here", "_law_story", "_law_at", "_law_turn"] : List Str)).Nodup := by decide +kernel
noncomputable abbrev N__law_by_day : List Str := ["_law_paper"]
noncomputable abbrev P__law_by_day : List Str := ["_law_paper"]
theorem sc__law_by_day : FnScope N__law_by_day P__law_by_day (defScope s__law_by_day) := ⟨rfl, rfl, rfl, by decide +kernel, rfl, by decide +kernel, by decide +kernel⟩
noncomputable abbrev N__law_drawn_story : List Str := ["_law_box_here", "_law_papers_here"]
noncomputable abbrev P__law_drawn_story : List Str := ["_law_box_here", "_law_papers_here"]
theorem sc__law_drawn_story : FnScope N__law_drawn_story P__law_drawn_story (defScope s__law_drawn_story) := ⟨rfl, rfl, rfl, by decide +kernel, rfl, by decide +kernel, by decide +kernel⟩
theorem chk__law_drawn_story_0 : compChk ({ kind := .function, names := [((".0" : Str), NameKind.«local»), (("_law_paper" : Str), NameKind.«local»), (("_law_take" : Str), NameKind.globalImplicit), (("_law_box_here" : Str), NameKind.free)], isGenerator := false, isCoroutine := false, more := [] } : Scope) (defScope s__law_drawn_story) N__law_drawn_story ["_law_paper"] ["_law_box_here", "_law_papers_here"] = true := by decide +kernel
theorem nd__law_drawn_story_0 : ((["_law_paper"] : List Str) ++ (["_law_box_here", "_law_papers_here"] : List Str)).Nodup := by decide +kernel
noncomputable abbrev N__law_is_story : List Str := ["_law_papers_here", "_law_story", "_law_days", "_law_number", "_law_found"]
noncomputable abbrev P__law_is_story : List Str := ["_law_papers_here", "_law_story"]
theorem sc__law_is_story : FnScope N__law_is_story P__law_is_story (defScope s__law_is_story) := ⟨rfl, rfl, rfl, by decide +kernel, rfl, by decide +kernel, by decide +kernel⟩
theorem chk__law_is_story_0 : compChk ({ kind := .function, names := [((".0" : Str), NameKind.«local»), (("_law_paper" : Str), NameKind.«local»), (("_law_number" : Str), NameKind.free)], isGenerator := false, isCoroutine := false, more := [] } : Scope) (defScope s__law_is_story) N__law_is_story ["_law_paper"] ["_law_papers_here", "_law_story", "_law_days", "_law_number", "_law_found"] = true := by decide +kernel
theorem nd__law_is_story_0 : ((["_law_paper"] : List Str) ++ (["_law_papers_here", "_law_story", "_law_days", "_law_number", "_law_found"] : List Str)).Nodup := by decide +kernel
theorem chk__law_is_story_2 : compChk ({ kind := .function, names := [((".0" : Str), NameKind.«local»), (("_law_one" : Str), NameKind.«local»), (("_law_other" : Str), NameKind.«local»)], isGenerator := false, isCoroutine := false, more := [] } : Scope) (defScope s__law_is_story) N__law_is_story ["_law_one", "_law_other"] ["_law_papers_here", "_law_story", "_law_days", "_law_number", "_law_found"] = true := by decide +kernel
theorem nd__law_is_story_2 : ((["_law_one", "_law_other"] : List Str) ++ (["_law_papers_here", "_law_story", "_law_days", "_law_number", "_law_found"] : List Str)).Nodup := by decide +kernel
noncomputable abbrev N_home_paper : List Str := ["home", "day", "place", "grade"]
noncomputable abbrev P_home_paper : List Str := ["home"]
theorem sc_home_paper : FnScope N_home_paper P_home_paper (defScope s_home_paper) := ⟨rfl, rfl, rfl, by decide +kernel, rfl, by decide +kernel, by decide +kernel⟩
noncomputable abbrev N_believed_chain : List Str := ["home", "papers", "story", "paper", "known", "believed", "number"]
noncomputable abbrev P_believed_chain : List Str := ["home", "papers", "story"]
theorem sc_believed_chain : FnScope N_believed_chain P_believed_chain (defScope s_believed_chain) := ⟨rfl, rfl, rfl, by decide +kernel, rfl, by decide +kernel, by decide +kernel⟩
theorem chk_believed_chain_0 : compChk ({ kind := .function, names := [((".0" : Str), NameKind.«local»), (("paper" : Str), NameKind.«local»), (("NUMBER" : Str), NameKind.globalImplicit)], isGenerator := false, isCoroutine := false, more := [] } : Scope) (defScope s_believed_chain) N_believed_chain ["paper"] ["home", "papers", "story", ".paper", "known", "believed", "number"] = true := by decide +kernel
theorem nd_believed_chain_0 : ((["paper"] : List Str) ++ (["home", "papers", "story", ".paper", "known", "believed", "number"] : List Str)).Nodup := by decide +kernel
noncomputable abbrev N_neighbours : List Str := ["chain"]
noncomputable abbrev P_neighbours : List Str := ["chain"]
theorem sc_neighbours : FnScope N_neighbours P_neighbours (defScope s_neighbours) := ⟨rfl, rfl, rfl, by decide +kernel, rfl, by decide +kernel, by decide +kernel⟩
noncomputable abbrev N_is_gap : List Str := ["first", "second"]
noncomputable abbrev P_is_gap : List Str := ["first", "second"]
theorem sc_is_gap : FnScope N_is_gap P_is_gap (defScope s_is_gap) := ⟨rfl, rfl, rfl, by decide +kernel, rfl, by decide +kernel, by decide +kernel⟩
noncomputable abbrev N_gaps : List Str := ["home", "papers", "story", "chain"]
noncomputable abbrev P_gaps : List Str := ["home", "papers", "story"]
theorem sc_gaps : FnScope N_gaps P_gaps (defScope s_gaps) := ⟨rfl, rfl, rfl, by decide +kernel, rfl, by decide +kernel, by decide +kernel⟩
theorem chk_gaps_0 : compChk ({ kind := .function, names := [((".0" : Str), NameKind.«local»), (("first" : Str), NameKind.«local»), (("second" : Str), NameKind.«local»), (("is_gap" : Str), NameKind.globalImplicit), (("NUMBER" : Str), NameKind.globalImplicit), (("THERE" : Str), NameKind.globalImplicit), (("HERE" : Str), NameKind.globalImplicit)], isGenerator := false, isCoroutine := false, more := [] } : Scope) (defScope s_gaps) N_gaps ["first", "second"] ["home", "papers", "story", "chain"] = true := by decide +kernel
theorem nd_gaps_0 : ((["first", "second"] : List Str) ++ (["home", "papers", "story", "chain"] : List Str)).Nodup := by decide +kernel
noncomputable abbrev N_cost : List Str := ["home", "papers", "prices", "story", "doubt", "gap"]
noncomputable abbrev P_cost : List Str := ["home", "papers", "prices", "story"]
theorem sc_cost : FnScope N_cost P_cost (defScope s_cost) := ⟨rfl, rfl, rfl, by decide +kernel, rfl, by decide +kernel, by decide +kernel⟩
noncomputable abbrev N_law : List Str := ["_law_script", "_law_box_here", "_law_places_here", "_law_story", "_law_due", "_law_home_here", "_law_kept", "_law_papers_here", "_law_prices_here"]
noncomputable abbrev P_law : List Str := ["_law_script"]
theorem sc_law : FnScope N_law P_law (defScope s_law) := ⟨rfl, rfl, rfl, by decide +kernel, rfl, by decide +kernel, by decide +kernel⟩
theorem rk_law_0 : refChk ({ kind := .function, names := [(("_law_home_here" : Str), NameKind.free), (("_law_kept" : Str), NameKind.free), (("_law_papers_here" : Str), NameKind.free), (("_law_prices_here" : Str), NameKind.free), (("cost" : Str), NameKind.globalImplicit)], isGenerator := false, isCoroutine := false, more := [] } : Scope) (defScope s_law) ["_law_home_here", "_law_kept", "_law_papers_here", "_law_prices_here"] = true := by decide +kernel
theorem rk_law_1 : refChk ({ kind := .function, names := [(("_law_home_here" : Str), NameKind.free), (("_law_kept" : Str), NameKind.free), (("_law_papers_here" : Str), NameKind.free), (("gaps" : Str), NameKind.globalImplicit)], isGenerator := false, isCoroutine := false, more := [] } : Scope) (defScope s_law) ["_law_home_here", "_law_kept", "_law_papers_here"] = true := by decide +kernel
theorem bt_all : bootBuiltins "all" = some (.builtin "all") := by decide +kernel
theorem bt_len : bootBuiltins "len" = some (.builtin "len") := by decide +kernel
theorem bt_list : bootBuiltins "list" = some (.type "list") := by decide +kernel
theorem bt_max : bootBuiltins "max" = some (.builtin "max") := by decide +kernel
theorem bt_min : bootBuiltins "min" = some (.builtin "min") := by decide +kernel
section
variable {P : Program} {w : World} {K : PySem.W.Frag} {mg : Str → Option Value} {base : Heap}
theorem ok__law_box {f : Addr} {fd : FuncData} {sp : SpD} (F : Fun K "_law_box" "_law_box" s__law_box f fd) (g_list : mg "list" = none) (len : ∀ ds M Q, sp ds M Q → ds.length = 1)
    (read : ∀ ds M Q, sp ds M Q → t__law_box { nx := fun _ M' => Q .non M', rt := Q } (startD N__law_box ds) M) : FnOk P w K mg base CX0 1 f fd P__law_box (LiftP K sp) :=
  F.okD (t := t__law_box) sc__law_box len (fun cdv A outer s H E hr => (ss_cons (sd_set 1 sc__law_box.nd rfl (Or.inl rfl) ed_int)
  (ss_cons (sd_for (id_list (ed_slice (ed_var 0 rfl (Or.inl rfl)) po_noneD (po_someD ed_int))) (gd_name 2 sc__law_box.nd rfl (Or.inl rfl)) (ss_one (sd_set 1 sc__law_box.nd rfl (Or.inl rfl) (ed_op od_mod (ed_op od_add (ed_op od_add (ed_op od_mul (ed_var 1 rfl (Or.inl rfl)) ed_int) (ed_var 2 rfl (Or.inl rfl))) ed_int) ed_int))))
  (ss_one (sd_ret (ed_lst (ad_cons (ed_callTy cd_list rfl g_list bt_list (ad_cons (ed_slice (ed_var 0 rfl (Or.inl rfl)) po_noneD (po_someD ed_int)) ad_nil)) (ad_cons ed_int (ad_cons ed_int (ad_cons ed_int (ad_cons (ed_var 1 rfl (Or.inl rfl)) ad_nil))))))))))) read
theorem ok__law_mixed {f : Addr} {fd : FuncData} {sp : SpD} (F : Fun K "_law_mixed" "_law_mixed" s__law_mixed f fd) (len : ∀ ds M Q, sp ds M Q → ds.length = 2)
    (read : ∀ ds M Q, sp ds M Q → t__law_mixed { nx := fun _ M' => Q .non M', rt := Q } (startD N__law_mixed ds) M) : FnOk P w K mg base CX0 1 f fd P__law_mixed (LiftP K sp) :=
  F.okD (t := t__law_mixed) sc__law_mixed len (fun cdv A outer s H E hr => (ss_cons (sd_set 2 sc__law_mixed.nd rfl (Or.inl rfl) (ed_op od_mod (ed_op od_add (ed_op od_add (ed_op od_mul (ed_var 0 rfl (Or.inl rfl)) ed_int) (ed_op od_mul (ed_var 1 rfl (Or.inl rfl)) ed_int)) ed_int) ed_int))
  (ss_cons (sd_set 3 sc__law_mixed.nd rfl (Or.inl rfl) (ed_op od_mod (ed_op od_add (ed_op od_add (ed_op od_mul (ed_var 2 rfl (Or.inl rfl)) (ed_op od_add (ed_op od_mod (ed_var 2 rfl (Or.inl rfl)) ed_int) ed_int)) (ed_op od_mul (ed_var 1 rfl (Or.inl rfl)) ed_int)) (ed_op od_mod (ed_var 0 rfl (Or.inl rfl)) ed_int)) ed_int))
  (ss_one (sd_ret (ed_op od_fdiv (ed_var 3 rfl (Or.inl rfl)) ed_int)))))) read
theorem ok__law_take {f : Addr} {fd : FuncData} {sp__law_mixed : SpD} {sp : SpD} (F : Fun K "_law_take" "_law_take" s__law_take f fd) (h__law_mixed : Cal P w K mg base "_law_mixed" 1 sp__law_mixed) (g_len : mg "len" = none) (len : ∀ ds M Q, sp ds M Q → ds.length = 2)
    (read : ∀ ds M Q, sp ds M Q → t__law_take sp__law_mixed { nx := fun _ M' => Q .non M', rt := Q } (startD N__law_take ds) M) : FnOk P w K mg base CX0 2 f fd P__law_take (LiftP K sp) :=
  F.okD (t := t__law_take sp__law_mixed) sc__law_take len (fun cdv A outer s H E hr => (ss_cons (sd_asg (ed_op od_add (ed_ix (ed_var 0 rfl (Or.inl rfl)) ed_int) ed_int) (gd_sub (ed_var 0 rfl (Or.inl rfl)) ed_int))
  (ss_cons (sd_if (td_cmp od_gt (ed_ix (ed_var 0 rfl (Or.inl rfl)) ed_int) ed_int) (ss_cons (sd_set 2 sc__law_take.nd rfl (Or.inl rfl) (ed_ix (ed_var 0 rfl (Or.inl rfl)) ed_int))
  (ss_cons (sd_asg (ed_op od_fdiv (ed_var 2 rfl (Or.inl rfl)) (ed_var 1 rfl (Or.inl rfl))) (gd_sub (ed_var 0 rfl (Or.inl rfl)) ed_int))
  (ss_one (sd_ret (ed_op od_mod (ed_var 2 rfl (Or.inl rfl)) (ed_var 1 rfl (Or.inl rfl))))))) ss_nil)
  (ss_cons (sd_if (td_cmp od_ge (ed_ix (ed_var 0 rfl (Or.inl rfl)) ed_int) (ed_callB cd_len rfl g_len bt_len (ad_cons (ed_ix (ed_var 0 rfl (Or.inl rfl)) ed_int) ad_nil))) (ss_one (sd_ret (ed_op od_mod (ed_call h__law_mixed (hr.mono (by decide)) rfl (ad_cons (ed_ix (ed_var 0 rfl (Or.inl rfl)) ed_int) (ad_cons (ed_ix (ed_var 0 rfl (Or.inl rfl)) ed_int) ad_nil))) (ed_var 1 rfl (Or.inl rfl))))) ss_nil)
  (ss_cons (sd_set 3 sc__law_take.nd rfl (Or.inl rfl) (ed_ix (ed_ix (ed_var 0 rfl (Or.inl rfl)) ed_int) (ed_ix (ed_var 0 rfl (Or.inl rfl)) ed_int)))
  (ss_cons (sd_asg (ed_op od_add (ed_ix (ed_var 0 rfl (Or.inl rfl)) ed_int) ed_int) (gd_sub (ed_var 0 rfl (Or.inl rfl)) ed_int))
  (ss_cons (sd_if (td_cmp od_lt (ed_var 3 rfl (Or.inl rfl)) (ed_op od_pow ed_int ed_int)) (ss_one (sd_ret (ed_op od_mod (ed_call h__law_mixed (hr.mono (by decide)) rfl (ad_cons (ed_var 3 rfl (Or.inl rfl)) (ad_cons (ed_ix (ed_var 0 rfl (Or.inl rfl)) ed_int) ad_nil))) (ed_var 1 rfl (Or.inl rfl))))) ss_nil)
  (ss_cons (sd_asg (ed_op od_fdiv (ed_var 3 rfl (Or.inl rfl)) (ed_var 1 rfl (Or.inl rfl))) (gd_sub (ed_var 0 rfl (Or.inl rfl)) ed_int))
  (ss_one (sd_ret (ed_op od_mod (ed_var 3 rfl (Or.inl rfl)) (ed_var 1 rfl (Or.inl rfl))))))))))))) read
theorem ok__law_letters {f : Addr} {fd : FuncData} {sp : SpD} (F : Fun K "_law_letters" "_law_letters" s__law_letters f fd) (len : ∀ ds M Q, sp ds M Q → ds.length = 0)
    (read : ∀ ds M Q, sp ds M Q → t__law_letters { nx := fun _ M' => Q .non M', rt := Q } (startD N__law_letters ds) M) : FnOk P w K mg base CX0 1 f fd P__law_letters (LiftP K sp) :=
  F.okD (t := t__law_letters) sc__law_letters len (fun cdv A outer s H E hr => (ss_one (sd_ret ed_str))) read
theorem ok__law_named {f : Addr} {fd : FuncData} {sp__law_take : SpD} {sp__law_letters : SpD} {sp : SpD} (F : Fun K "_law_named" "_law_named" s__law_named f fd) (h__law_take : Cal P w K mg base "_law_take" 2 sp__law_take) (h__law_letters : Cal P w K mg base "_law_letters" 1 sp__law_letters) (g_range : mg "range" = none) (len : ∀ ds M Q, sp ds M Q → ds.length = 1)
    (read : ∀ ds M Q, sp ds M Q → t__law_named sp__law_take sp__law_letters { nx := fun _ M' => Q .non M', rt := Q } (startD N__law_named ds) M) : FnOk P w K mg base CX0 3 f fd P__law_named (LiftP K sp) :=
  F.okD (t := t__law_named sp__law_take sp__law_letters) sc__law_named len (fun cdv A outer s H E hr => (ss_cons (sd_set 1 sc__law_named.nd rfl (Or.inl rfl) (ed_op od_add ed_int (ed_call h__law_take (hr.mono (by decide)) rfl (ad_cons (ed_var 0 rfl (Or.inr (Or.inl rfl))) (ad_cons ed_int ad_nil)))))
  (ss_one (sd_ret (ed_join ed_str (ed_comp (ts := ["_law_k"]) (rest := ["_law_box_here", "_law_size"]) (compChk_ok (out := (defScope s__law_named)) (N := N__law_named) chk__law_named_0) (id_rng1 rfl g_range (ad_cons (ed_var 1 rfl (Or.inl rfl)) ad_nil)) (fun _ _ _ => (gd_name 0 nd__law_named_0 rfl (Or.inl rfl))) (fun _ _ _ => fd_nil) (fun _ _ _ => (ed_ixS (ed_call0 h__law_letters (hr.mono (by decide)) rfl ) (ed_call h__law_take (hr.mono (by decide)) rfl (ad_cons (ed_var 1 rfl (Or.inr (Or.inl rfl))) (ad_cons ed_int ad_nil))))))))))) read
theorem ok__law_places {f : Addr} {fd : FuncData} {sp__law_take : SpD} {sp__law_named : SpD} {sp : SpD} (F : Fun K "_law_places" "_law_places" s__law_places f fd) (h__law_take : Cal P w K mg base "_law_take" 2 sp__law_take) (h__law_named : Cal P w K mg base "_law_named" 3 sp__law_named) (g_range : mg "range" = none) (len : ∀ ds M Q, sp ds M Q → ds.length = 1)
    (read : ∀ ds M Q, sp ds M Q → t__law_places sp__law_take sp__law_named { nx := fun _ M' => Q .non M', rt := Q } (startD N__law_places ds) M) : FnOk P w K mg base CX0 4 f fd P__law_places (LiftP K sp) :=
  F.okD (t := t__law_places sp__law_take sp__law_named) sc__law_places len (fun cdv A outer s H E hr => (ss_cons (sd_set 1 sc__law_places.nd rfl (Or.inl rfl) (ed_lst ad_nil))
  (ss_cons (sd_for (id_rng1 rfl g_range (ad_cons (ed_ix (ed_lst (ad_cons ed_int (ad_cons ed_int (ad_cons ed_int (ad_cons ed_int (ad_cons ed_int (ad_cons ed_int (ad_cons ed_int (ad_cons ed_int ad_nil))))))))) (ed_call h__law_take (hr.mono (by decide)) rfl (ad_cons (ed_var 0 rfl (Or.inl rfl)) (ad_cons ed_int ad_nil)))) ad_nil)) (gd_name 2 sc__law_places.nd rfl (Or.inl rfl)) (ss_cons (sd_set 3 sc__law_places.nd rfl (Or.inl rfl) (ed_call h__law_named (hr.mono (by decide)) rfl (ad_cons (ed_var 0 rfl (Or.inl rfl)) ad_nil)))
  (ss_one (sd_if (td_cmp od_notIn (ed_var 3 rfl (Or.inl rfl)) (ed_var 1 rfl (Or.inl rfl))) (ss_one (sd_expr (ed_app (ed_var 1 rfl (Or.inl rfl)) (ed_var 3 rfl (Or.inl rfl))))) ss_nil))))
  (ss_one (sd_ret (ed_var 1 rfl (Or.inl rfl))))))) read
theorem ok__law_day {f : Addr} {fd : FuncData} {sp__law_take : SpD} {sp : SpD} (F : Fun K "_law_day" "_law_day" s__law_day f fd) (h__law_take : Cal P w K mg base "_law_take" 2 sp__law_take) (len : ∀ ds M Q, sp ds M Q → ds.length = 1)
    (read : ∀ ds M Q, sp ds M Q → t__law_day sp__law_take { nx := fun _ M' => Q .non M', rt := Q } (startD N__law_day ds) M) : FnOk P w K mg base CX0 3 f fd P__law_day (LiftP K sp) :=
  F.okD (t := t__law_day sp__law_take) sc__law_day len (fun cdv A outer s H E hr => (ss_cons (sd_set 1 sc__law_day.nd rfl (Or.inl rfl) (ed_call h__law_take (hr.mono (by decide)) rfl (ad_cons (ed_var 0 rfl (Or.inl rfl)) (ad_cons ed_int ad_nil))))
  (ss_cons (sd_if (td_cmp (od_eqA hr) (ed_var 1 rfl (Or.inl rfl)) ed_int) (ss_one (sd_ret ed_int)) ss_nil)
  (ss_cons (sd_if (td_cmp (od_eqA hr) (ed_var 1 rfl (Or.inl rfl)) ed_int) (ss_one (sd_ret (ed_op od_sub (ed_op od_sub (ed_op od_pow ed_int ed_int) ed_int) (ed_call h__law_take (hr.mono (by decide)) rfl (ad_cons (ed_var 0 rfl (Or.inl rfl)) (ad_cons ed_int ad_nil)))))) ss_nil)
  (ss_cons (sd_if (td_cmp (od_eqA hr) (ed_var 1 rfl (Or.inl rfl)) ed_int) (ss_one (sd_ret (ed_op od_mul (ed_call h__law_take (hr.mono (by decide)) rfl (ad_cons (ed_var 0 rfl (Or.inl rfl)) (ad_cons ed_int ad_nil))) ed_int))) ss_nil)
  (ss_one (sd_ret (ed_call h__law_take (hr.mono (by decide)) rfl (ad_cons (ed_var 0 rfl (Or.inl rfl)) (ad_cons ed_int ad_nil)))))))))) read
theorem ok__law_home {f : Addr} {fd : FuncData} {sp__law_take : SpD} {sp__law_day : SpD} {sp : SpD} (F : Fun K "_law_home" "_law_home" s__law_home f fd) (h__law_take : Cal P w K mg base "_law_take" 2 sp__law_take) (h__law_day : Cal P w K mg base "_law_day" 3 sp__law_day) (g_len : mg "len" = none) (len : ∀ ds M Q, sp ds M Q → ds.length = 2)
    (read : ∀ ds M Q, sp ds M Q → t__law_home sp__law_take sp__law_day { nx := fun _ M' => Q .non M', rt := Q } (startD N__law_home ds) M) : FnOk P w K mg base CX0 4 f fd P__law_home (LiftP K sp) :=
  F.okD (t := t__law_home sp__law_take sp__law_day) sc__law_home len (fun cdv A outer s H E hr => (ss_one (sd_ret (ed_tup (ad_cons (ed_call h__law_day (hr.mono (by decide)) rfl (ad_cons (ed_var 0 rfl (Or.inl rfl)) ad_nil)) (ad_cons (ed_ix (ed_var 1 rfl (Or.inl rfl)) (ed_call h__law_take (hr.mono (by decide)) rfl (ad_cons (ed_var 0 rfl (Or.inl rfl)) (ad_cons (ed_callB cd_len rfl g_len bt_len (ad_cons (ed_var 1 rfl (Or.inl rfl)) ad_nil)) ad_nil)))) (ad_cons (ed_call h__law_take (hr.mono (by decide)) rfl (ad_cons (ed_var 0 rfl (Or.inl rfl)) (ad_cons ed_int ad_nil))) ad_nil))))))) read
theorem ok__law_deal {f : Addr} {fd : FuncData} {sp__law_take : SpD} {sp : SpD} (F : Fun K "_law_deal" "_law_deal" s__law_deal f fd) (h__law_take : Cal P w K mg base "_law_take" 2 sp__law_take) (g_len : mg "len" = none) (len : ∀ ds M Q, sp ds M Q → ds.length = 3)
    (read : ∀ ds M Q, sp ds M Q → t__law_deal sp__law_take { nx := fun _ M' => Q .non M', rt := Q } (startD N__law_deal ds) M) : FnOk P w K mg base CX0 3 f fd P__law_deal (LiftP K sp) :=
  F.okD (t := t__law_deal sp__law_take) sc__law_deal len (fun cdv A outer s H E hr => (ss_cons (sd_set 3 sc__law_deal.nd rfl (Or.inl rfl) (ed_lst ad_nil))
  (ss_cons (sd_forG (id_listG (ed_var 1 rfl (Or.inl rfl))) (gd_name 4 sc__law_deal.nd rfl (Or.inl rfl)) (ss_one (sd_if (td_w (wd_or (td_tru (ed_var 2 rfl (Or.inl rfl))) (wd_or1 (td_cmp od_gt (ed_call h__law_take (hr.mono (by decide)) rfl (ad_cons (ed_var 0 rfl (Or.inl rfl)) (ad_cons ed_int ad_nil))) ed_int)))) (ss_one (sd_expr (ed_ins (ed_var 3 rfl (Or.inl rfl)) (ed_call h__law_take (hr.mono (by decide)) rfl (ad_cons (ed_var 0 rfl (Or.inl rfl)) (ad_cons (ed_op od_add (ed_callB cd_len rfl g_len bt_len (ad_cons (ed_var 3 rfl (Or.inl rfl)) ad_nil)) ed_int) ad_nil))) (ed_var 4 rfl (Or.inl rfl))))) ss_nil)))
  (ss_one (sd_ret (ed_var 3 rfl (Or.inl rfl))))))) read
theorem ok__law_grade {f : Addr} {fd : FuncData} {sp__law_take : SpD} {sp : SpD} (F : Fun K "_law_grade" "_law_grade" s__law_grade f fd) (h__law_take : Cal P w K mg base "_law_take" 2 sp__law_take) (g_min : mg "min" = none) (len : ∀ ds M Q, sp ds M Q → ds.length = 2)
    (read : ∀ ds M Q, sp ds M Q → t__law_grade sp__law_take { nx := fun _ M' => Q .non M', rt := Q } (startD N__law_grade ds) M) : FnOk P w K mg base CX0 3 f fd P__law_grade (LiftP K sp) :=
  F.okD (t := t__law_grade sp__law_take) sc__law_grade len (fun cdv A outer s H E hr => (ss_one (sd_ret (ed_ix (ed_lst (ad_cons (ed_var 1 rfl (Or.inl rfl)) (ad_cons (ed_var 1 rfl (Or.inl rfl)) (ad_cons (ed_callB cd_min2 rfl g_min bt_min (ad_cons ed_int (ad_cons (ed_op od_add (ed_var 1 rfl (Or.inl rfl)) (ed_call h__law_take (hr.mono (by decide)) rfl (ad_cons (ed_var 0 rfl (Or.inl rfl)) (ad_cons ed_int ad_nil)))) ad_nil))) (ad_cons (ed_call h__law_take (hr.mono (by decide)) rfl (ad_cons (ed_var 0 rfl (Or.inl rfl)) (ad_cons ed_int ad_nil))) ad_nil))))) (ed_call h__law_take (hr.mono (by decide)) rfl (ad_cons (ed_var 0 rfl (Or.inl rfl)) (ad_cons ed_int ad_nil))))))) read
theorem ok__law_papers {f : Addr} {fd : FuncData} {sp__law_deal : SpD} {sp__law_take : SpD} {sp__law_grade : SpD} {sp : SpD} (F : Fun K "_law_papers" "_law_papers" s__law_papers f fd) (h__law_deal : Cal P w K mg base "_law_deal" 3 sp__law_deal) (h__law_take : Cal P w K mg base "_law_take" 2 sp__law_take) (h__law_grade : Cal P w K mg base "_law_grade" 3 sp__law_grade) (g_len : mg "len" = none) (g_list : mg "list" = none) (g_range : mg "range" = none) (len : ∀ ds M Q, sp ds M Q → ds.length = 4)
    (read : ∀ ds M Q, sp ds M Q → t__law_papers sp__law_deal sp__law_take sp__law_grade { nx := fun _ M' => Q .non M', rt := Q } (startD N__law_papers ds) M) : FnOk P w K mg base CX0 4 f fd P__law_papers (LiftP K sp) :=
  F.okD (t := t__law_papers sp__law_deal sp__law_take sp__law_grade) sc__law_papers len (fun cdv A outer s H E hr => (ss_cons (sd_set 4 sc__law_papers.nd rfl (Or.inl rfl) (ed_call h__law_deal (hr.mono (by decide)) rfl (ad_cons (ed_var 0 rfl (Or.inl rfl)) (ad_cons (ed_lstRng rfl g_list rfl g_range (ad_cons ed_int (ad_cons (ed_op od_add (ed_var 3 rfl (Or.inl rfl)) ed_int) ad_nil))) (ad_cons ed_bl ad_nil)))))
  (ss_cons (sd_set 5 sc__law_papers.nd rfl (Or.inl rfl) (ed_ix (ed_lst (ad_cons ed_int (ad_cons ed_int (ad_cons ed_int (ad_cons ed_int ad_nil))))) (ed_call h__law_take (hr.mono (by decide)) rfl (ad_cons (ed_var 0 rfl (Or.inl rfl)) (ad_cons ed_int ad_nil)))))
  (ss_cons (sd_asg (ed_var 2 rfl (Or.inl rfl)) (gd_tup (gd_cons (gd_name 6 sc__law_papers.nd rfl (Or.inl rfl)) (gd_cons (gd_name 7 sc__law_papers.nd rfl (Or.inl rfl)) (gd_cons (gd_name 8 sc__law_papers.nd rfl (Or.inl rfl)) gd_nil)))))
  (ss_cons (sd_set 9 sc__law_papers.nd rfl (Or.inl rfl) (ed_lst ad_nil))
  (ss_cons (sd_forG (id_listG (ed_var 4 rfl (Or.inl rfl))) (gd_name 10 sc__law_papers.nd rfl (Or.inl rfl)) (ss_cons (sd_set 6 sc__law_papers.nd rfl (Or.inl rfl) (ed_op od_add (ed_var 6 rfl (Or.inl rfl)) (ed_ix (ed_lst (ad_cons ed_int (ad_cons ed_int (ad_cons ed_int (ad_cons (ed_op od_add ed_int (ed_call h__law_take (hr.mono (by decide)) rfl (ad_cons (ed_var 0 rfl (Or.inl rfl)) (ad_cons ed_int ad_nil)))) (ad_cons (ed_op od_add ed_int (ed_call h__law_take (hr.mono (by decide)) rfl (ad_cons (ed_var 0 rfl (Or.inl rfl)) (ad_cons ed_int ad_nil)))) ad_nil)))))) (ed_call h__law_take (hr.mono (by decide)) rfl (ad_cons (ed_var 0 rfl (Or.inl rfl)) (ad_cons ed_int ad_nil))))))
  (ss_cons (sd_set 11 sc__law_papers.nd rfl (Or.inl rfl) (ed_var 7 rfl (Or.inl rfl)))
  (ss_cons (sd_if (td_cmp (od_eqA hr) (ed_call h__law_take (hr.mono (by decide)) rfl (ad_cons (ed_var 0 rfl (Or.inl rfl)) (ad_cons ed_int ad_nil))) ed_int) (ss_one (sd_set 11 sc__law_papers.nd rfl (Or.inl rfl) (ed_ix (ed_var 1 rfl (Or.inl rfl)) (ed_call h__law_take (hr.mono (by decide)) rfl (ad_cons (ed_var 0 rfl (Or.inl rfl)) (ad_cons (ed_callB cd_len rfl g_len bt_len (ad_cons (ed_var 1 rfl (Or.inl rfl)) ad_nil)) ad_nil)))))) ss_nil)
  (ss_cons (sd_set 12 sc__law_papers.nd rfl (Or.inl rfl) (ed_var 11 rfl (Or.inl rfl)))
  (ss_cons (sd_if (td_cmp od_gt (ed_call h__law_take (hr.mono (by decide)) rfl (ad_cons (ed_var 0 rfl (Or.inl rfl)) (ad_cons ed_int ad_nil))) ed_int) (ss_one (sd_set 12 sc__law_papers.nd rfl (Or.inl rfl) (ed_ix (ed_var 1 rfl (Or.inl rfl)) (ed_call h__law_take (hr.mono (by decide)) rfl (ad_cons (ed_var 0 rfl (Or.inl rfl)) (ad_cons (ed_callB cd_len rfl g_len bt_len (ad_cons (ed_var 1 rfl (Or.inl rfl)) ad_nil)) ad_nil)))))) ss_nil)
  (ss_cons (sd_set 8 sc__law_papers.nd rfl (Or.inl rfl) (ed_call h__law_grade (hr.mono (by decide)) rfl (ad_cons (ed_var 0 rfl (Or.inl rfl)) (ad_cons (ed_var 8 rfl (Or.inl rfl)) ad_nil))))
  (ss_cons (sd_expr (ed_app (ed_var 9 rfl (Or.inl rfl)) (ed_tup (ad_cons (ed_op od_mul (ed_var 10 rfl (Or.inl rfl)) (ed_var 5 rfl (Or.inl rfl))) (ad_cons (ed_var 6 rfl (Or.inl rfl)) (ad_cons (ed_var 11 rfl (Or.inl rfl)) (ad_cons (ed_var 12 rfl (Or.inl rfl)) (ad_cons (ed_var 8 rfl (Or.inl rfl)) ad_nil))))))))
  (ss_one (sd_if (td_cmp od_gt (ed_call h__law_take (hr.mono (by decide)) rfl (ad_cons (ed_var 0 rfl (Or.inl rfl)) (ad_cons ed_int ad_nil))) ed_int) (ss_one (sd_set 7 sc__law_papers.nd rfl (Or.inl rfl) (ed_var 12 rfl (Or.inl rfl)))) ss_nil))))))))))
  (ss_one (sd_ret (ed_call h__law_deal (hr.mono (by decide)) rfl (ad_cons (ed_var 0 rfl (Or.inl rfl)) (ad_cons (ed_var 9 rfl (Or.inl rfl)) (ad_cons ed_bl ad_nil)))))))))))) read
theorem ok__law_count {f : Addr} {fd : FuncData} {sp__law_take : SpD} {sp : SpD} (F : Fun K "_law_count" "_law_count" s__law_count f fd) (h__law_take : Cal P w K mg base "_law_take" 2 sp__law_take) (len : ∀ ds M Q, sp ds M Q → ds.length = 3)
    (read : ∀ ds M Q, sp ds M Q → t__law_count sp__law_take { nx := fun _ M' => Q .non M', rt := Q } (startD N__law_count ds) M) : FnOk P w K mg base CX0 3 f fd P__law_count (LiftP K sp) :=
  F.okD (t := t__law_count sp__law_take) sc__law_count len (fun cdv A outer s H E hr => (ss_cons (sd_if (td_cmp (od_eqA hr) (ed_call h__law_take (hr.mono (by decide)) rfl (ad_cons (ed_var 0 rfl (Or.inl rfl)) (ad_cons ed_int ad_nil))) ed_int) (ss_one (sd_ret (ed_call h__law_take (hr.mono (by decide)) rfl (ad_cons (ed_var 0 rfl (Or.inl rfl)) (ad_cons (ed_op od_add (ed_var 2 rfl (Or.inl rfl)) ed_int) ad_nil))))) ss_nil)
  (ss_one (sd_ret (ed_call h__law_take (hr.mono (by decide)) rfl (ad_cons (ed_var 0 rfl (Or.inl rfl)) (ad_cons (ed_op od_add (ed_var 1 rfl (Or.inl rfl)) ed_int) ad_nil))))))) read
theorem ok__law_prices {f : Addr} {fd : FuncData} {sp__law_take : SpD} {sp : SpD} (F : Fun K "_law_prices" "_law_prices" s__law_prices f fd) (h__law_take : Cal P w K mg base "_law_take" 2 sp__law_take) (len : ∀ ds M Q, sp ds M Q → ds.length = 1)
    (read : ∀ ds M Q, sp ds M Q → t__law_prices sp__law_take { nx := fun _ M' => Q .non M', rt := Q } (startD N__law_prices ds) M) : FnOk P w K mg base CX0 3 f fd P__law_prices (LiftP K sp) :=
  F.okD (t := t__law_prices sp__law_take) sc__law_prices len (fun cdv A outer s H E hr => (ss_cons (sd_set 1 sc__law_prices.nd rfl (Or.inl rfl) (ed_call h__law_take (hr.mono (by decide)) rfl (ad_cons (ed_var 0 rfl (Or.inl rfl)) (ad_cons ed_int ad_nil))))
  (ss_cons (sd_if (td_cmp (od_eqA hr) (ed_var 1 rfl (Or.inl rfl)) ed_int) (ss_one (sd_ret (ed_tup (ad_cons ed_int (ad_cons ed_int ad_nil))))) ss_nil)
  (ss_one (sd_ret (ed_tup (ad_cons (ed_op od_add ed_int (ed_call h__law_take (hr.mono (by decide)) rfl (ad_cons (ed_var 0 rfl (Or.inl rfl)) (ad_cons ed_int ad_nil)))) (ad_cons (ed_op od_add ed_int (ed_call h__law_take (hr.mono (by decide)) rfl (ad_cons (ed_var 0 rfl (Or.inl rfl)) (ad_cons ed_int ad_nil)))) ad_nil)))))))) read
theorem ok__law_spoilt {f : Addr} {fd : FuncData} {sp__law_take : SpD} {sp : SpD} (F : Fun K "_law_spoilt" "_law_spoilt" s__law_spoilt f fd) (h__law_take : Cal P w K mg base "_law_take" 2 sp__law_take) (g_len : mg "len" = none) (g_list : mg "list" = none) (g_max : mg "max" = none) (len : ∀ ds M Q, sp ds M Q → ds.length = 3)
    (read : ∀ ds M Q, sp ds M Q → t__law_spoilt sp__law_take { nx := fun _ M' => Q .non M', rt := Q } (startD N__law_spoilt ds) M) : FnOk P w K mg base CX0 3 f fd P__law_spoilt (LiftP K sp) :=
  F.okD (t := t__law_spoilt sp__law_take) sc__law_spoilt len (fun cdv A outer s H E hr => (ss_cons (sd_set 2 sc__law_spoilt.nd rfl (Or.inl rfl) (ed_callTy cd_list rfl g_list bt_list (ad_cons (ed_var 2 rfl (Or.inl rfl)) ad_nil)))
  (ss_cons (sd_set 3 sc__law_spoilt.nd rfl (Or.inl rfl) (ed_call h__law_take (hr.mono (by decide)) rfl (ad_cons (ed_var 0 rfl (Or.inl rfl)) (ad_cons (ed_op od_add (ed_callB cd_len rfl g_len bt_len (ad_cons (ed_var 2 rfl (Or.inl rfl)) ad_nil)) ed_int) ad_nil))))
  (ss_cons (sd_set 4 sc__law_spoilt.nd rfl (Or.inl rfl) (ed_call h__law_take (hr.mono (by decide)) rfl (ad_cons (ed_var 0 rfl (Or.inl rfl)) (ad_cons ed_int ad_nil))))
  (ss_cons (sd_if (td_cmp (od_eqA hr) (ed_var 4 rfl (Or.inl rfl)) ed_int) (ss_one (sd_expr (ed_ins (ed_var 2 rfl (Or.inl rfl)) (ed_var 3 rfl (Or.inl rfl)) (ed_ix (ed_lst (ad_cons ed_int (ad_cons (ed_neg ed_int) (ad_cons (ed_op od_pow ed_int ed_int) ad_nil)))) (ed_call h__law_take (hr.mono (by decide)) rfl (ad_cons (ed_var 0 rfl (Or.inl rfl)) (ad_cons ed_int ad_nil))))))) ss_nil)
  (ss_cons (sd_if (td_cmp (od_eqA hr) (ed_var 4 rfl (Or.inl rfl)) ed_int) (ss_one (sd_expr (ed_ins (ed_var 2 rfl (Or.inl rfl)) (ed_var 3 rfl (Or.inl rfl)) (ed_op od_add (ed_op od_add (ed_callB cd_max1 rfl g_max bt_max (ad_cons (ed_op od_cat (ed_lst (ad_cons ed_int ad_nil)) (ed_compG (ts := ["_law_paper"]) (rest := ["_law_box_here", "_law_papers_here", "_law_story", "_law_at", "_law_turn"]) (compChk_ok (out := (defScope s__law_spoilt)) (N := N__law_spoilt) chk__law_spoilt_0) (id_listG (ed_var 1 rfl (Or.inl rfl))) (fun _ _ _ => (gd_name 0 nd__law_spoilt_0 rfl (Or.inl rfl))) (fun _ _ _ => fd_nil) (fun _ _ _ => (ed_ix (ed_var 0 rfl (Or.inl rfl)) ed_int)))) ad_nil)) ed_int) (ed_call h__law_take (hr.mono (by decide)) rfl (ad_cons (ed_var 0 rfl (Or.inl rfl)) (ad_cons ed_int ad_nil))))))) ss_nil)
  (ss_cons (sd_if (td_w (wd_and (td_cmp (od_eqA hr) (ed_var 4 rfl (Or.inl rfl)) ed_int) (wd_and1 (td_cmp od_gt (ed_callB cd_len rfl g_len bt_len (ad_cons (ed_var 1 rfl (Or.inl rfl)) ad_nil)) ed_int)))) (ss_one (sd_expr (ed_ins (ed_var 2 rfl (Or.inl rfl)) (ed_var 3 rfl (Or.inl rfl)) (ed_ix (ed_ix (ed_var 1 rfl (Or.inl rfl)) (ed_call h__law_take (hr.mono (by decide)) rfl (ad_cons (ed_var 0 rfl (Or.inl rfl)) (ad_cons (ed_callB cd_len rfl g_len bt_len (ad_cons (ed_var 1 rfl (Or.inl rfl)) ad_nil)) ad_nil)))) ed_int)))) ss_nil)
  (ss_cons (sd_if (td_w (wd_and (td_cmp (od_eqA hr) (ed_var 4 rfl (Or.inl rfl)) ed_int) (wd_and1 (td_cmp od_lt (ed_op od_add (ed_var 3 rfl (Or.inl rfl)) ed_int) (ed_callB cd_len rfl g_len bt_len (ad_cons (ed_var 2 rfl (Or.inl rfl)) ad_nil)))))) (ss_one (sd_asg (ed_lst (ad_cons (ed_ix (ed_var 2 rfl (Or.inl rfl)) (ed_op od_add (ed_var 3 rfl (Or.inl rfl)) ed_int)) (ad_cons (ed_ix (ed_var 2 rfl (Or.inl rfl)) (ed_var 3 rfl (Or.inl rfl))) ad_nil))) (gd_sl (ed_var 2 rfl (Or.inl rfl)) (po_someD (ed_var 3 rfl (Or.inl rfl))) (po_someD (ed_op od_add (ed_var 3 rfl (Or.inl rfl)) ed_int))))) ss_nil)
  (ss_cons (sd_if (td_w (wd_and (td_cmp (od_eqA hr) (ed_var 4 rfl (Or.inl rfl)) ed_int) (wd_and1 (td_cmp od_lt (ed_var 3 rfl (Or.inl rfl)) (ed_callB cd_len rfl g_len bt_len (ad_cons (ed_var 2 rfl (Or.inl rfl)) ad_nil)))))) (ss_one (sd_expr (ed_ins (ed_var 2 rfl (Or.inl rfl)) (ed_call h__law_take (hr.mono (by decide)) rfl (ad_cons (ed_var 0 rfl (Or.inl rfl)) (ad_cons (ed_op od_add (ed_callB cd_len rfl g_len bt_len (ad_cons (ed_var 2 rfl (Or.inl rfl)) ad_nil)) ed_int) ad_nil))) (ed_ix (ed_var 2 rfl (Or.inl rfl)) (ed_var 3 rfl (Or.inl rfl)))))) ss_nil)
  (ss_one (sd_ret (ed_var 2 rfl (Or.inl rfl))))))))))))) read
theorem ok__law_by_day {f : Addr} {fd : FuncData} {sp : SpD} (F : Fun K "_law_by_day" "_law_by_day" s__law_by_day f fd) (len : ∀ ds M Q, sp ds M Q → ds.length = 1)
    (read : ∀ ds M Q, sp ds M Q → t__law_by_day { nx := fun _ M' => Q .non M', rt := Q } (startD N__law_by_day ds) M) : FnOk P w K mg base CX0 1 f fd P__law_by_day (LiftP K sp) :=
  F.okD (t := t__law_by_day) sc__law_by_day len (fun cdv A outer s H E hr => (ss_one (sd_ret (ed_ix (ed_var 0 rfl (Or.inl rfl)) ed_int)))) read
theorem ok__law_drawn_story {f : Addr} {fd : FuncData} {sp__law_by_day : SpD} {sp__law_take : SpD} {sp : SpD} (F : Fun K "_law_drawn_story" "_law_drawn_story" s__law_drawn_story f fd) (h__law_by_day : Cal P w K mg base "_law_by_day" 1 sp__law_by_day) (h__law_take : Cal P w K mg base "_law_take" 2 sp__law_take) (g_sorted : mg "sorted" = none) (len : ∀ ds M Q, sp ds M Q → ds.length = 2)
    (read : ∀ ds M Q, sp ds M Q → t__law_drawn_story sp__law_by_day sp__law_take { nx := fun _ M' => Q .non M', rt := Q } (startD N__law_drawn_story ds) M) : FnOk P w K mg base CX0 3 f fd P__law_drawn_story (LiftP K sp) :=
  F.okD (t := t__law_drawn_story sp__law_by_day sp__law_take) sc__law_drawn_story len (fun cdv A outer s H E hr => (ss_one (sd_ret (ed_compG (ts := ["_law_paper"]) (rest := ["_law_box_here", "_law_papers_here"]) (compChk_ok (out := (defScope s__law_drawn_story)) (N := N__law_drawn_story) chk__law_drawn_story_0) (id_listG (ed_sortedK h__law_by_day (hr.mono (by decide)) rfl g_sorted rfl (ed_var 1 rfl (Or.inl rfl)))) (fun _ _ _ => (gd_name 0 nd__law_drawn_story_0 rfl (Or.inl rfl))) (fun _ _ _ => (fd_one (td_cmp od_gt (ed_call h__law_take (hr.mono (by decide)) rfl (ad_cons (ed_var 1 rfl (Or.inr (Or.inl rfl))) (ad_cons ed_int ad_nil))) ed_int))) (fun _ _ _ => (ed_ix (ed_var 0 rfl (Or.inl rfl)) ed_int)))))) read
theorem ok__law_is_story {f : Addr} {fd : FuncData} {sp : SpD} (F : Fun K "_law_is_story" "_law_is_story" s__law_is_story f fd) (g_all : mg "all" = none) (g_len : mg "len" = none) (g_zip : mg "zip" = none) (len : ∀ ds M Q, sp ds M Q → ds.length = 2)
    (read : ∀ ds M Q, sp ds M Q → t__law_is_story { nx := fun _ M' => Q .non M', rt := Q } (startD N__law_is_story ds) M) : FnOk P w K mg base CX0 1 f fd P__law_is_story (LiftP K sp) :=
  F.okD (t := t__law_is_story) sc__law_is_story len (fun cdv A outer s H E hr => (ss_cons (sd_set 2 sc__law_is_story.nd rfl (Or.inl rfl) (ed_lst ad_nil))
  (ss_cons (sd_forG (id_listG (ed_var 1 rfl (Or.inl rfl))) (gd_name 3 sc__law_is_story.nd rfl (Or.inr rfl)) (ss_cons (sd_compG 4 (ts := ["_law_paper"]) (rest := ["_law_papers_here", "_law_story", "_law_days", "_law_number", "_law_found"]) (compChk_ok (out := (defScope s__law_is_story)) (N := N__law_is_story) chk__law_is_story_0) (id_listG (ed_var 0 rfl (Or.inl rfl))) (fun _ _ _ => (gd_name 0 nd__law_is_story_0 rfl (Or.inl rfl))) (fun _ _ _ => (fd_one (td_cmp (od_eqA hr) (ed_ix (ed_var 0 rfl (Or.inl rfl)) ed_int) (ed_var 4 rfl (Or.inr (Or.inl rfl)))))) (fun _ _ _ => (ed_ix (ed_var 0 rfl (Or.inl rfl)) ed_int)) sc__law_is_story.nd rfl (Or.inl rfl))
  (ss_cons (sd_if (td_cmp (od_eqA hr) (ed_callB cd_len rfl g_len bt_len (ad_cons (ed_var 4 rfl (Or.inl rfl)) ad_nil)) ed_int) (ss_one (sd_ret ed_bl)) ss_nil)
  (ss_one (sd_expr (ed_app (ed_var 2 rfl (Or.inl rfl)) (ed_ix (ed_var 4 rfl (Or.inl rfl)) ed_int)))))))
  (ss_one (sd_ret (ed_callB cd_all rfl g_all bt_all (ad_cons (ed_compG (ts := ["_law_one", "_law_other"]) (rest := ["_law_papers_here", "_law_story", "_law_days", "_law_number", "_law_found"]) (compChk_ok (out := (defScope s__law_is_story)) (N := N__law_is_story) chk__law_is_story_2) (id_zip rfl g_zip (ad_cons (ed_var 2 rfl (Or.inl rfl)) (ad_cons (ed_slice (ed_var 2 rfl (Or.inl rfl)) (po_someD ed_int) po_noneD) ad_nil))) (fun _ _ _ => (gd_tup (gd_cons (gd_name 0 nd__law_is_story_2 rfl (Or.inl rfl)) (gd_cons (gd_name 1 nd__law_is_story_2 rfl (Or.inl rfl)) gd_nil)))) (fun _ _ _ => fd_nil) (fun _ _ _ => (ed_cmp od_lt (ed_var 0 rfl (Or.inl rfl)) (ed_var 1 rfl (Or.inl rfl))))) ad_nil))))))) read
theorem ok_home_paper {f : Addr} {fd : FuncData} {sp : SpD} (F : Fun K "home_paper" "home_paper" s_home_paper f fd) (len : ∀ ds M Q, sp ds M Q → ds.length = 1)
    (read : ∀ ds M Q, sp ds M Q → t_home_paper { nx := fun _ M' => Q .non M', rt := Q } (startD N_home_paper ds) M) : FnOk P w K mg base CX0 1 f fd P_home_paper (LiftP K sp) :=
  F.okD (t := t_home_paper) sc_home_paper len (fun cdv A outer s H E hr => (ss_cons (sd_asg (ed_var 0 rfl (Or.inl rfl)) (gd_tup (gd_cons (gd_name 1 sc_home_paper.nd rfl (Or.inl rfl)) (gd_cons (gd_name 2 sc_home_paper.nd rfl (Or.inl rfl)) (gd_cons (gd_name 3 sc_home_paper.nd rfl (Or.inl rfl)) gd_nil)))))
  (ss_one (sd_ret (ed_tup (ad_cons ed_int (ad_cons (ed_var 1 rfl (Or.inl rfl)) (ad_cons (ed_var 2 rfl (Or.inl rfl)) (ad_cons (ed_var 2 rfl (Or.inl rfl)) (ad_cons (ed_var 3 rfl (Or.inl rfl)) ad_nil)))))))))) read
theorem ok_believed_chain {f : Addr} {fd : FuncData} {tk_DAY : Tok} {tk_NUMBER : Tok} {sp_home_paper : SpD} {sp : SpD} (F : Fun K "believed_chain" "believed_chain" s_believed_chain f fd) (h_home_paper : Cal P w K mg base "home_paper" 1 sp_home_paper) (g_DAY : mg "DAY" = some (.int (1) tk_DAY)) (g_NUMBER : mg "NUMBER" = some (.int (0) tk_NUMBER)) (len : ∀ ds M Q, sp ds M Q → ds.length = 3)
    (read : ∀ ds M Q, sp ds M Q → t_believed_chain sp_home_paper { nx := fun _ M' => Q .non M', rt := Q } (startD N_believed_chain ds) M) : FnOk P w K mg base CX0 2 f fd P_believed_chain (LiftP K sp) :=
  F.okD (t := t_believed_chain sp_home_paper) sc_believed_chain len (fun cdv A outer s H E hr => (ss_cons (sd_compDc 4 (ts := ["paper"]) (rest := ["home", "papers", "story", ".paper", "known", "believed", "number"]) (compChk_ok (out := (defScope s_believed_chain)) (N := N_believed_chain) chk_believed_chain_0) (id_listG (ed_var 1 rfl (Or.inl rfl))) (fun _ _ _ => (gd_name 0 nd_believed_chain_0 rfl (Or.inl rfl))) (fun _ _ _ => fd_nil) (fun _ _ _ => (ed_ix (ed_var 0 rfl (Or.inl rfl)) (ed_globI rfl g_NUMBER))) (fun _ _ _ => (ed_var 0 rfl (Or.inl rfl))) sc_believed_chain.nd rfl (Or.inl rfl))
  (ss_cons (sd_set 5 sc_believed_chain.nd rfl (Or.inl rfl) (ed_lst ad_nil))
  (ss_cons (sd_forG (id_listG (ed_var 2 rfl (Or.inl rfl))) (gd_name 6 sc_believed_chain.nd rfl (Or.inl rfl)) (ss_cons (sd_if (td_dnotin hr (ed_var 6 rfl (Or.inl rfl)) (ed_var 4 rfl (Or.inl rfl))) (ss_one sd_never) ss_nil)
  (ss_cons (sd_set 3 sc_believed_chain.nd rfl (Or.inl rfl) (ed_dget hr (ed_var 4 rfl (Or.inl rfl)) (ed_var 6 rfl (Or.inl rfl))))
  (ss_cons (sd_if (td_w (wd_and (td_tru (ed_var 5 rfl (Or.inl rfl))) (wd_and1 (td_cmp od_le (ed_ix (ed_var 3 rfl (Or.inl rfl)) (ed_globI rfl g_DAY)) (ed_ix (ed_ix (ed_var 5 rfl (Or.inl rfl)) (ed_neg ed_int)) (ed_globI rfl g_DAY)))))) (ss_one sd_never) ss_nil)
  (ss_one (sd_expr (ed_app (ed_var 5 rfl (Or.inl rfl)) (ed_var 3 rfl (Or.inl rfl)))))))))
  (ss_one (sd_ret (ed_op od_cat (ed_lst (ad_cons (ed_call h_home_paper (hr.mono (by decide)) rfl (ad_cons (ed_var 0 rfl (Or.inl rfl)) ad_nil)) ad_nil)) (ed_var 5 rfl (Or.inl rfl))))))))) read
theorem ok_neighbours {f : Addr} {fd : FuncData} {sp : SpD} (F : Fun K "neighbours" "neighbours" s_neighbours f fd) (g_list : mg "list" = none) (g_zip : mg "zip" = none) (len : ∀ ds M Q, sp ds M Q → ds.length = 1)
    (read : ∀ ds M Q, sp ds M Q → t_neighbours { nx := fun _ M' => Q .non M', rt := Q } (startD N_neighbours ds) M) : FnOk P w K mg base CX0 1 f fd P_neighbours (LiftP K sp) :=
  F.okD (t := t_neighbours) sc_neighbours len (fun cdv A outer s H E hr => (ss_one (sd_ret (ed_lstZip rfl g_list rfl g_zip (ad_cons (ed_var 0 rfl (Or.inl rfl)) (ad_cons (ed_slice (ed_var 0 rfl (Or.inl rfl)) (po_someD ed_int) po_noneD) ad_nil)))))) read
theorem ok_is_gap {f : Addr} {fd : FuncData} {tk_HERE : Tok} {tk_THERE : Tok} {sp : SpD} (F : Fun K "is_gap" "is_gap" s_is_gap f fd) (g_HERE : mg "HERE" = some (.int (2) tk_HERE)) (g_THERE : mg "THERE" = some (.int (3) tk_THERE)) (len : ∀ ds M Q, sp ds M Q → ds.length = 2)
    (read : ∀ ds M Q, sp ds M Q → t_is_gap { nx := fun _ M' => Q .non M', rt := Q } (startD N_is_gap ds) M) : FnOk P w K mg base CX0 1 f fd P_is_gap (LiftP K sp) :=
  F.okD (t := t_is_gap) sc_is_gap len (fun cdv A outer s H E hr => (ss_one (sd_ret (ed_cmp (od_neA hr) (ed_ix (ed_var 0 rfl (Or.inl rfl)) (ed_globI rfl g_THERE)) (ed_ix (ed_var 1 rfl (Or.inl rfl)) (ed_globI rfl g_HERE)))))) read
theorem ok_gaps {f : Addr} {fd : FuncData} {tk_HERE : Tok} {tk_NUMBER : Tok} {tk_THERE : Tok} {sp_believed_chain : SpD} {sp_neighbours : SpD} {sp_is_gap : SpD} {sp : SpD} (F : Fun K "gaps" "gaps" s_gaps f fd) (h_believed_chain : Cal P w K mg base "believed_chain" 2 sp_believed_chain) (h_neighbours : Cal P w K mg base "neighbours" 1 sp_neighbours) (h_is_gap : Cal P w K mg base "is_gap" 1 sp_is_gap) (g_HERE : mg "HERE" = some (.int (2) tk_HERE)) (g_NUMBER : mg "NUMBER" = some (.int (0) tk_NUMBER)) (g_THERE : mg "THERE" = some (.int (3) tk_THERE)) (len : ∀ ds M Q, sp ds M Q → ds.length = 3)
    (read : ∀ ds M Q, sp ds M Q → t_gaps sp_believed_chain sp_neighbours sp_is_gap { nx := fun _ M' => Q .non M', rt := Q } (startD N_gaps ds) M) : FnOk P w K mg base CX0 3 f fd P_gaps (LiftP K sp) :=
  F.okD (t := t_gaps sp_believed_chain sp_neighbours sp_is_gap) sc_gaps len (fun cdv A outer s H E hr => (ss_cons (sd_set 3 sc_gaps.nd rfl (Or.inl rfl) (ed_call h_believed_chain (hr.mono (by decide)) rfl (ad_cons (ed_var 0 rfl (Or.inl rfl)) (ad_cons (ed_var 1 rfl (Or.inl rfl)) (ad_cons (ed_var 2 rfl (Or.inl rfl)) ad_nil)))))
  (ss_one (sd_ret (ed_compG (ts := ["first", "second"]) (rest := ["home", "papers", "story", "chain"]) (compChk_ok (out := (defScope s_gaps)) (N := N_gaps) chk_gaps_0) (id_listG (ed_call h_neighbours (hr.mono (by decide)) rfl (ad_cons (ed_var 3 rfl (Or.inl rfl)) ad_nil))) (fun _ _ _ => (gd_tup (gd_cons (gd_name 0 nd_gaps_0 rfl (Or.inl rfl)) (gd_cons (gd_name 1 nd_gaps_0 rfl (Or.inl rfl)) gd_nil)))) (fun _ _ _ => (fd_one (td_tru (ed_call h_is_gap (hr.mono (by decide)) rfl (ad_cons (ed_var 0 rfl (Or.inl rfl)) (ad_cons (ed_var 1 rfl (Or.inl rfl)) ad_nil)))))) (fun _ _ _ => (ed_tup (ad_cons (ed_ix (ed_var 0 rfl (Or.inl rfl)) (ed_globI rfl g_NUMBER)) (ad_cons (ed_ix (ed_var 1 rfl (Or.inl rfl)) (ed_globI rfl g_NUMBER)) (ad_cons (ed_ix (ed_var 0 rfl (Or.inl rfl)) (ed_globI rfl g_THERE)) (ad_cons (ed_ix (ed_var 1 rfl (Or.inl rfl)) (ed_globI rfl g_HERE)) ad_nil))))))))))) read
theorem ok_cost {f : Addr} {fd : FuncData} {sp_gaps : SpD} {sp : SpD} (F : Fun K "cost" "cost" s_cost f fd) (h_gaps : Cal P w K mg base "gaps" 3 sp_gaps) (g_len : mg "len" = none) (len : ∀ ds M Q, sp ds M Q → ds.length = 4)
    (read : ∀ ds M Q, sp ds M Q → t_cost sp_gaps { nx := fun _ M' => Q .non M', rt := Q } (startD N_cost ds) M) : FnOk P w K mg base CX0 4 f fd P_cost (LiftP K sp) :=
  F.okD (t := t_cost sp_gaps) sc_cost len (fun cdv A outer s H E hr => (ss_cons (sd_asg (ed_var 2 rfl (Or.inl rfl)) (gd_tup (gd_cons (gd_name 4 sc_cost.nd rfl (Or.inl rfl)) (gd_cons (gd_name 5 sc_cost.nd rfl (Or.inl rfl)) gd_nil))))
  (ss_one (sd_ret (ed_op od_add (ed_op od_mul (ed_var 5 rfl (Or.inl rfl)) (ed_callB cd_len rfl g_len bt_len (ad_cons (ed_call h_gaps (hr.mono (by decide)) rfl (ad_cons (ed_var 0 rfl (Or.inl rfl)) (ad_cons (ed_var 1 rfl (Or.inl rfl)) (ad_cons (ed_var 3 rfl (Or.inl rfl)) ad_nil)))) ad_nil))) (ed_op od_mul (ed_var 4 rfl (Or.inl rfl)) (ed_op od_sub (ed_callB cd_len rfl g_len bt_len (ad_cons (ed_var 1 rfl (Or.inl rfl)) ad_nil)) (ed_callB cd_len rfl g_len bt_len (ad_cons (ed_var 3 rfl (Or.inl rfl)) ad_nil))))))))) read
theorem ok_law {f : Addr} {fd : FuncData} {c Pt : Addr} {sp__law_box : SpD} {sp__law_places : SpD} {sp__law_home : SpD} {sp__law_papers : SpD} {sp__law_count : SpD} {sp__law_prices : SpD} {sp__law_spoilt : SpD} {sp__law_drawn_story : SpD} {sp__law_is_story : SpD} {sp_cost : SpD} {sp_gaps : SpD} {spB_cost : SpB} {spB_gaps : SpB} {C : Addr} {sp : SpD} (F : FunC K "law" "law" s_law f fd (.ref c)) (hC : PySem.W.CodeHd base c Pt) (hbm : BMain mg base) (hB_cost : CalB C P w K mg base "cost" 4 spB_cost) (hB_gaps : CalB C P w K mg base "gaps" 3 spB_gaps) (hR : CalR P w K mg base C "_law_refused" 6 4 [.str "let"] [.bl true, .bl true, .bl false]) (h__law_box : Cal P w K mg base "_law_box" 1 sp__law_box) (h__law_places : Cal P w K mg base "_law_places" 4 sp__law_places) (h__law_home : Cal P w K mg base "_law_home" 4 sp__law_home) (h__law_papers : Cal P w K mg base "_law_papers" 4 sp__law_papers) (h__law_count : Cal P w K mg base "_law_count" 3 sp__law_count) (h__law_prices : Cal P w K mg base "_law_prices" 3 sp__law_prices) (h__law_spoilt : Cal P w K mg base "_law_spoilt" 3 sp__law_spoilt) (h__law_drawn_story : Cal P w K mg base "_law_drawn_story" 3 sp__law_drawn_story) (h__law_is_story : Cal P w K mg base "_law_is_story" 1 sp__law_is_story) (h_cost : Cal P w K mg base "cost" 4 sp_cost) (h_gaps : Cal P w K mg base "gaps" 3 sp_gaps) (g_list : mg "list" = none) (len : ∀ ds M Q, sp ds M Q → ds.length = 1)
    (read : ∀ ds M Q, sp ds M Q → t_law Pt sp__law_box sp__law_places sp__law_home sp__law_papers sp__law_count sp__law_prices sp__law_spoilt sp__law_drawn_story sp__law_is_story sp_cost sp_gaps spB_cost spB_gaps { nx := fun _ M' => Q .non M', rt := Q } (startD N_law ds) M) : FnOk P w K mg base CX0 7 f fd P_law (LiftP K sp) :=
  F.okD (t := t_law Pt sp__law_box sp__law_places sp__law_home sp__law_papers sp__law_count sp__law_prices sp__law_spoilt sp__law_drawn_story sp__law_is_story sp_cost sp_gaps spB_cost spB_gaps) sc_law len (fun A outer s H E hr => (ss_cons (sd_set 1 sc_law.nd rfl (Or.inl rfl) (ed_call h__law_box (hr.mono (by decide)) rfl (ad_cons (ed_var 0 rfl (Or.inl rfl)) ad_nil)))
  (ss_cons (sd_set 2 sc_law.nd rfl (Or.inl rfl) (ed_call h__law_places (hr.mono (by decide)) rfl (ad_cons (ed_var 1 rfl (Or.inl rfl)) ad_nil)))
  (ss_cons (sd_set 5 sc_law.nd rfl (Or.inr rfl) (ed_call h__law_home (hr.mono (by decide)) rfl (ad_cons (ed_var 1 rfl (Or.inl rfl)) (ad_cons (ed_var 2 rfl (Or.inl rfl)) ad_nil))))
  (ss_cons (sd_set 7 sc_law.nd rfl (Or.inr rfl) (ed_call h__law_papers (hr.mono (by decide)) rfl (ad_cons (ed_var 1 rfl (Or.inl rfl)) (ad_cons (ed_var 2 rfl (Or.inl rfl)) (ad_cons (ed_var 5 rfl (Or.inr (Or.inl rfl))) (ad_cons (ed_call h__law_count (hr.mono (by decide)) rfl (ad_cons (ed_var 1 rfl (Or.inl rfl)) (ad_cons ed_int (ad_cons ed_int ad_nil)))) ad_nil))))))
  (ss_cons (sd_set 8 sc_law.nd rfl (Or.inr rfl) (ed_call h__law_prices (hr.mono (by decide)) rfl (ad_cons (ed_var 1 rfl (Or.inl rfl)) ad_nil)))
  (ss_cons (sd_set 3 sc_law.nd rfl (Or.inl rfl) (ed_call h__law_spoilt (hr.mono (by decide)) rfl (ad_cons (ed_var 1 rfl (Or.inl rfl)) (ad_cons (ed_var 7 rfl (Or.inr (Or.inl rfl))) (ad_cons (ed_call h__law_drawn_story (hr.mono (by decide)) rfl (ad_cons (ed_var 1 rfl (Or.inl rfl)) (ad_cons (ed_var 7 rfl (Or.inr (Or.inl rfl))) ad_nil))) ad_nil)))))
  (ss_cons (sd_set 6 sc_law.nd rfl (Or.inr rfl) (ed_callTy cd_list rfl g_list bt_list (ad_cons (ed_var 3 rfl (Or.inl rfl)) ad_nil)))
  (ss_cons (sd_set 4 sc_law.nd rfl (Or.inl rfl) (ed_lst (ad_cons ed_bl (ad_cons ed_bl (ad_cons ed_bl ad_nil)))))
  (ss_cons (sd_if (td_tru (ed_call h__law_is_story (hr.mono (by decide)) rfl (ad_cons (ed_var 7 rfl (Or.inr (Or.inl rfl))) (ad_cons (ed_var 3 rfl (Or.inl rfl)) ad_nil)))) (ss_one (sd_set 4 sc_law.nd rfl (Or.inl rfl) (ed_lst (ad_cons ed_str ad_nil)))) ss_nil)
  (ss_cons (sd_if (td_cmp (od_neA hr) (ed_refR hR (hr.mono (by decide)) rfl (fun _ => rfl) rfl rfl hC hbm rfl ⟨rfl, rfl, rfl⟩ (refChk_free rk_law_0) (refChk_cells rk_law_0) (refChk_look rk_law_0) (refChk_N rk_law_0) rfl (fun _ _ _ _ => rfl) (fun g c' clos A outer s H E hr => ed_call h_cost (hr.mono (by decide)) rfl (ad_cons (ed_var 0 rfl (Or.inr (Or.inr rfl))) (ad_cons (ed_var 2 rfl (Or.inr (Or.inr rfl))) (ad_cons (ed_var 3 rfl (Or.inr (Or.inr rfl))) (ad_cons (ed_var 1 rfl (Or.inr (Or.inr rfl))) ad_nil))))) (fun g c' clos A outer s H E hE hr => ed_callBE hB_cost (hr.mono (by decide)) rfl (ad_cons (ed_var 0 rfl (Or.inr (Or.inr rfl))) (ad_cons (ed_var 2 rfl (Or.inr (Or.inr rfl))) (ad_cons (ed_var 3 rfl (Or.inr (Or.inr rfl))) (ad_cons (ed_var 1 rfl (Or.inr (Or.inr rfl))) ad_nil)))) hE rfl rfl) rep_let rep_ttf) (ed_var 4 rfl (Or.inl rfl))) (ss_one (sd_ret ed_bl)) ss_nil)
  (ss_one (sd_ret (ed_and (ed_cmp (od_eqA hr) (ed_refR hR (hr.mono (by decide)) rfl (fun _ => rfl) rfl rfl hC hbm rfl ⟨rfl, rfl, rfl⟩ (refChk_free rk_law_1) (refChk_cells rk_law_1) (refChk_look rk_law_1) (refChk_N rk_law_1) rfl (fun _ _ _ _ => rfl) (fun g c' clos A outer s H E hr => ed_call h_gaps (hr.mono (by decide)) rfl (ad_cons (ed_var 0 rfl (Or.inr (Or.inr rfl))) (ad_cons (ed_var 2 rfl (Or.inr (Or.inr rfl))) (ad_cons (ed_var 1 rfl (Or.inr (Or.inr rfl))) ad_nil)))) (fun g c' clos A outer s H E hE hr => ed_callBE hB_gaps (hr.mono (by decide)) rfl (ad_cons (ed_var 0 rfl (Or.inr (Or.inr rfl))) (ad_cons (ed_var 2 rfl (Or.inr (Or.inr rfl))) (ad_cons (ed_var 1 rfl (Or.inr (Or.inr rfl))) ad_nil))) hE rfl rfl) rep_let rep_ttf) (ed_var 4 rfl (Or.inl rfl))) (ed_one (ed_cmp (od_eqA hr) (ed_var 6 rfl (Or.inr (Or.inl rfl))) (ed_var 3 rfl (Or.inl rfl)))))))))))))))))) read
theorem okB_believed_chain {f C : Addr} {bm : List Value} {fd : FuncData} {tk_DAY : Tok} {tk_NUMBER : Tok} {sp_home_paper : SpD} {spB : SpB} (F : Fun K "believed_chain" "believed_chain" s_believed_chain f fd) (hexc : ExcC base C bm) (hcl : mg "BadStory" = some (.ref C)) (h_home_paper : Cal P w K mg base "home_paper" 1 sp_home_paper) (g_DAY : mg "DAY" = some (.int (1) tk_DAY)) (g_NUMBER : mg "NUMBER" = some (.int (0) tk_NUMBER)) (len : ∀ ds M, spB ds M → ds.length = 3)
    (read : ∀ ds M, spB ds M → tB_believed_chain sp_home_paper { nx := fun _ _ => False, rt := fun _ _ => False } (startD N_believed_chain ds) M) : FnOk P w K mg base (CXb P w C) 2 f fd P_believed_chain (LiftB K spB) :=
  F.okB (t := tB_believed_chain sp_home_paper) sc_believed_chain len (fun cdv A outer s H E hE hr => (ss_cons (sd_compDc 4 (ts := ["paper"]) (rest := ["home", "papers", "story", ".paper", "known", "believed", "number"]) (compChk_ok (out := (defScope s_believed_chain)) (N := N_believed_chain) chk_believed_chain_0) (id_listG (ed_var 1 rfl (Or.inl rfl))) (fun _ _ _ => (gd_name 0 nd_believed_chain_0 rfl (Or.inl rfl))) (fun _ _ _ => fd_nil) (fun _ _ _ => (ed_ix (ed_var 0 rfl (Or.inl rfl)) (ed_globI rfl g_NUMBER))) (fun _ _ _ => (ed_var 0 rfl (Or.inl rfl))) sc_believed_chain.nd rfl (Or.inl rfl))
  (ss_cons (sd_set 5 sc_believed_chain.nd rfl (Or.inl rfl) (ed_lst ad_nil))
  (ss_cons (sd_forG (id_listG (ed_var 2 rfl (Or.inl rfl))) (gd_name 6 sc_believed_chain.nd rfl (Or.inl rfl)) (ss_cons (sd_if (td_dnotin hr (ed_var 6 rfl (Or.inl rfl)) (ed_var 4 rfl (Or.inl rfl))) (ss_one (sd_raise hexc hcl rfl (ad_cons (ed_fst2 (by decide) (ed_var 6 rfl (Or.inl rfl))) ad_nil) hE)) ss_nil)
  (ss_cons (sd_set 3 sc_believed_chain.nd rfl (Or.inl rfl) (ed_dget hr (ed_var 4 rfl (Or.inl rfl)) (ed_var 6 rfl (Or.inl rfl))))
  (ss_cons (sd_if (td_w (wd_and (td_tru (ed_var 5 rfl (Or.inl rfl))) (wd_and1 (td_cmp od_le (ed_ix (ed_var 3 rfl (Or.inl rfl)) (ed_globI rfl g_DAY)) (ed_ix (ed_ix (ed_var 5 rfl (Or.inl rfl)) (ed_neg ed_int)) (ed_globI rfl g_DAY)))))) (ss_one (sd_raise hexc hcl rfl (ad_cons (ed_fst3 (by decide) (by decide) (ed_var 6 rfl (Or.inl rfl))) ad_nil) hE)) ss_nil)
  (ss_one (sd_expr (ed_app (ed_var 5 rfl (Or.inl rfl)) (ed_var 3 rfl (Or.inl rfl)))))))) (hp := PassesOwn.leaving))
  (ss_one (sd_ret (ed_op od_cat (ed_lst (ad_cons (ed_call h_home_paper (hr.mono (by decide)) rfl (ad_cons (ed_var 0 rfl (Or.inl rfl)) ad_nil)) ad_nil)) (ed_var 5 rfl (Or.inl rfl))))))))) read
theorem okB_gaps {f C : Addr} {bm : List Value} {fd : FuncData} {spB_believed_chain : SpB} {spB : SpB} (F : Fun K "gaps" "gaps" s_gaps f fd) (hexc : ExcC base C bm) (hcl : mg "BadStory" = some (.ref C)) (hB_believed_chain : CalB C P w K mg base "believed_chain" 2 spB_believed_chain) (len : ∀ ds M, spB ds M → ds.length = 3)
    (read : ∀ ds M, spB ds M → tB_gaps spB_believed_chain { nx := fun _ _ => False, rt := fun _ _ => False } (startD N_gaps ds) M) : FnOk P w K mg base (CXb P w C) 3 f fd P_gaps (LiftB K spB) :=
  F.okB (t := tB_gaps spB_believed_chain) sc_gaps len (fun cdv A outer s H E hE hr => (ss_cons (sd_set 3 sc_gaps.nd rfl (Or.inl rfl) (ed_callB' hB_believed_chain (hr.mono (by decide)) rfl (ad_cons (ed_var 0 rfl (Or.inl rfl)) (ad_cons (ed_var 1 rfl (Or.inl rfl)) (ad_cons (ed_var 2 rfl (Or.inl rfl)) ad_nil))) hE))
  ss_never)) read
theorem okB_cost {f C : Addr} {bm : List Value} {fd : FuncData} {spB_gaps : SpB} {spB : SpB} (F : Fun K "cost" "cost" s_cost f fd) (hexc : ExcC base C bm) (hcl : mg "BadStory" = some (.ref C)) (hB_gaps : CalB C P w K mg base "gaps" 3 spB_gaps) (g_len : mg "len" = none) (len : ∀ ds M, spB ds M → ds.length = 4)
    (read : ∀ ds M, spB ds M → tB_cost spB_gaps { nx := fun _ _ => False, rt := fun _ _ => False } (startD N_cost ds) M) : FnOk P w K mg base (CXb P w C) 4 f fd P_cost (LiftB K spB) :=
  F.okB (t := tB_cost spB_gaps) sc_cost len (fun cdv A outer s H E hE hr => (ss_cons (sd_asg (ed_var 2 rfl (Or.inl rfl)) (gd_tup (gd_cons (gd_name 4 sc_cost.nd rfl (Or.inl rfl)) (gd_cons (gd_name 5 sc_cost.nd rfl (Or.inl rfl)) gd_nil))))
  (ss_one (sd_ret (ed_op od_add (ed_op od_mul (ed_var 5 rfl (Or.inl rfl)) (ed_callB cd_len rfl g_len bt_len (ad_cons (ed_callB' hB_gaps (hr.mono (by decide)) rfl (ad_cons (ed_var 0 rfl (Or.inl rfl)) (ad_cons (ed_var 1 rfl (Or.inl rfl)) (ad_cons (ed_var 3 rfl (Or.inl rfl)) ad_nil))) hE) ad_nil))) (ed_op od_mul (ed_var 4 rfl (Or.inl rfl)) (ed_op od_sub (ed_callB cd_len rfl g_len bt_len (ad_cons (ed_var 1 rfl (Or.inl rfl)) ad_nil)) (ed_callB cd_len rfl g_len bt_len (ad_cons (ed_var 3 rfl (Or.inl rfl)) ad_nil))))))))) read
theorem bt_isinstance : bootBuiltins "isinstance" = some (.builtin "isinstance") := by decide +kernel
theorem bt_ValueError : bootBuiltins "ValueError" = some (.type "ValueError") := by decide +kernel
theorem okR {f : Addr} {fd : FuncData} {C0 : Addr} {C1 : Addr} {C2 : Addr} {C3 : Addr} {C4 : Addr} {C5 : Addr} (F : Fun K "_law_refused" "_law_refused" s__law_refused f fd) (q0 : mg "BadStory" = some (.ref C0)) (q1 : mg "HouseError" = some (.ref C1)) (q2 : mg "NoPaper" = some (.ref C2)) (q3 : mg "BadRow" = some (.ref C3)) (q4 : mg "Twice" = some (.ref C4)) (q5 : mg "BadCount" = some (.ref C5)) (qi : mg "isinstance" = none) (qv : mg "ValueError" = none) (hx : PySem.W.exmOne K (.ref C0) (.ref C1) = some true) (hk : ExcK K C0)
    (k1 : PySem.W.kitOne K (.ref C0) (.ref C0) = some true) (k2 : PySem.W.kitOne K (.ref C0) (.type "ValueError") = some true) (k3 : PySem.W.kitAny K (.ref C0) [.ref C2, .ref C3, .ref C4, .ref C5] = some false) :
    FnOk P w K mg base CX0 6 f fd P__law_refused (spRef P w K mg base C0 5 [.str "let"] [.bl true, .bl true, .bl false]) := by
  refine F.ok sc__law_refused (fun vs H Q E h => by obtain ⟨g, rfl, _⟩ := h; rfl) fun cdv A outer s H vs Q E hr h => ?_
  obtain ⟨g, rfl, h⟩ := h
  have sl : 3 ≤ sizeLine := by rw [sizeLine_eq]; decide
  rcases h with ⟨run, fin⟩ | ⟨run, fin⟩
  · refine ⟨_, pss_cons (ps_set (i := 1) sc__law_refused.nd rfl (.inl rfl) (pe_lst (pa_cons pe_str pa_nil))) (pss_cons (ps_tryG (pss_one (ps_cloG (i := 0) (tb := fun σ H1 => ∃ p0 o0, H p0 = none ∧ H1 = upd H p0 o0 ∧ σ[0]? = some (some (.ref g))) rfl rfl ?h)) (fun _ _ z => z.elim)) (pss_one (ps_ret (pe_var (i := 1) rfl (.inl rfl))))), ?_⟩
    case h =>
      rintro pins s1 σ1 H1 I ⟨p0, o0, hp0, rfl, e⟩
      have rr := run p0 o0 hp0 _ _ s1 hr I.env0
      exact ⟨g, e, rr⟩
    exact ⟨Nat.le_trans (by decide) sl, fun p hp => ⟨⟨p, _, hp, rfl, rfl⟩, .ref p, rfl, fin H p Ups.refl hp⟩⟩
  · refine ⟨_, pss_cons (ps_set (i := 1) sc__law_refused.nd rfl (.inl rfl) (pe_lst (pa_cons pe_str pa_nil))) (pss_cons (ps_tryB (C := C0) (D₀ := C1) (i := 2) (tb := fun σ H1 => ∃ p0 o0, H p0 = none ∧ H1 = upd H p0 o0 ∧ σ[0]? = some (some (.ref g)))
      rfl rfl sc__law_refused.nd rfl rfl rfl q1 hx (raises_of (i := 0) rfl rfl ?h) (fun a o xe ho => pss_one (ps_set (i := 1) sc__law_refused.nd rfl (.inl rfl) (pe_lst (pa_cons (pe_callB (cd_isE hk ho) rfl qi bt_isinstance (pa_cons (pe_var (i := 2) rfl (.inl rfl)) (pa_cons (pe_glob (v := .ref C0) rfl q0 rfl) pa_nil)))
        (pa_cons (pe_callB (cd_isE hk ho) rfl qi bt_isinstance (pa_cons (pe_var (i := 2) rfl (.inl rfl)) (pa_cons (pe_bltn (v := .ty "ValueError") rfl qv bt_ValueError rfl) pa_nil)))
        (pa_cons (pe_callB (cd_isE hk ho) rfl qi bt_isinstance (pa_cons (pe_var (i := 2) rfl (.inl rfl)) (pa_cons (pe_tup (pa_cons (pe_glob (v := .ref C2) rfl q2 rfl) (pa_cons (pe_glob (v := .ref C3) rfl q3 rfl) (pa_cons (pe_glob (v := .ref C4) rfl q4 rfl) (pa_cons (pe_glob (v := .ref C5) rfl q5 rfl) pa_nil))))) pa_nil))) pa_nil))))))) (pss_one (ps_ret (pe_var (i := 1) rfl (.inl rfl))))), ?_⟩
    case h =>
      rintro pins s1 σ1 H1 I ⟨p0, o0, hp0, rfl, e⟩
      have rr := run p0 o0 hp0 _ _ s1 hr I.env0
      exact ⟨g, e, rr⟩
    refine ⟨Nat.le_trans (by decide) sl, fun p hp => ⟨⟨p, _, hp, rfl, rfl⟩, fun a => ?_⟩⟩
    refine ⟨.ref a, rfl, lc_is (d := .ref C0) (.inl ⟨_, rfl, k1⟩) (by unfold RepD; rfl) fun H2 u2 => ?_⟩
    refine ⟨.ref a, rfl, lc_is (d := .ty "ValueError") (.inl ⟨_, rfl, k2⟩) (by unfold RepD; rfl) fun H3 u3 => ?_⟩
    refine ⟨.ref a, rfl, Nat.le_trans (show 4 ≤ 1000 by decide) (show 1000 ≤ sizeLine by rw [sizeLine_eq]; decide), fun tp htp => ?_⟩
    refine lc_is (d := .tup [.ref C2, .ref C3, .ref C4, .ref C5]) (.inr ⟨_, [.ref C2, .ref C3, .ref C4, .ref C5], rfl, rfl, k3⟩) ?_ fun H4 u4 => ?_
    · unfold RepD
      exact ⟨tp, _, rfl, .inl ⟨.inl upd_same, rfl, fun z => z⟩, .cons (by unfold RepD; rfl) (.cons (by unfold RepD; rfl) (.cons (by unfold RepD; rfl) (.cons (by unfold RepD; rfl) (.nil))))⟩
    · exact ⟨sl, fun q hq => ⟨.ref q, rfl, fin H4 q (((Ups.refl.upd hp).trans (u2.trans (u3.trans (Ups.refl.upd htp)))).trans u4) hq⟩⟩
end
theorem len__law_mixed (ds : List D) (M : HpD) (Q : KD) (h : sp__law_mixed ds M Q) : ds.length = 2 := by obtain ⟨_, _, rfl, _⟩ := h; rfl
theorem len__law_box (ds : List D) (M : HpD) (Q : KD) (h : sp__law_box ds M Q) : ds.length = 1 := by obtain ⟨_, rfl, _⟩ := h; rfl
theorem len__law_take (ds : List D) (M : HpD) (Q : KD) (h : sp__law_take ds M Q) : ds.length = 2 := by obtain ⟨_, _, _, rfl, _⟩ := h; rfl
theorem len__law_count (ds : List D) (M : HpD) (Q : KD) (h : sp__law_count ds M Q) : ds.length = 3 := by obtain ⟨_, _, _, _, rfl, _⟩ := h; rfl
theorem len__law_letters (ds : List D) (M : HpD) (Q : KD) (h : sp__law_letters ds M Q) : ds.length = 0 := by obtain ⟨rfl, _⟩ := h; rfl
theorem len__law_named (ds : List D) (M : HpD) (Q : KD) (h : sp__law_named ds M Q) : ds.length = 1 := by obtain ⟨_, _, rfl, _⟩ := h; rfl
theorem len__law_places (ds : List D) (M : HpD) (Q : KD) (h : sp__law_places ds M Q) : ds.length = 1 := by obtain ⟨_, _, rfl, _⟩ := h; rfl
theorem len__law_day (ds : List D) (M : HpD) (Q : KD) (h : sp__law_day ds M Q) : ds.length = 1 := by obtain ⟨_, _, rfl, _⟩ := h; rfl
theorem len__law_home (ds : List D) (M : HpD) (Q : KD) (h : sp__law_home ds M Q) : ds.length = 2 := by obtain ⟨_, _, _, rfl, _⟩ := h; rfl
theorem len__law_grade (ds : List D) (M : HpD) (Q : KD) (h : sp__law_grade ds M Q) : ds.length = 2 := by obtain ⟨_, _, _, rfl, _⟩ := h; rfl
theorem len__law_prices (ds : List D) (M : HpD) (Q : KD) (h : sp__law_prices ds M Q) : ds.length = 1 := by obtain ⟨_, _, rfl, _⟩ := h; rfl
theorem len__law_deal (ds : List D) (M : HpD) (Q : KD) (h : sp__law_deal ds M Q) : ds.length = 3 := by obtain ⟨_, _, _, _, _, rfl, _⟩ := h; rfl
theorem len__law_papers (ds : List D) (M : HpD) (Q : KD) (h : sp__law_papers ds M Q) : ds.length = 4 := by obtain ⟨_, _, _, _, _, rfl, _⟩ := h; rfl
theorem len__law_by_day (ds : List D) (M : HpD) (Q : KD) (h : sp__law_by_day ds M Q) : ds.length = 1 := by obtain ⟨_, rfl, _⟩ := h; rfl
theorem len__law_drawn_story (ds : List D) (M : HpD) (Q : KD) (h : sp__law_drawn_story ds M Q) : ds.length = 2 := by obtain ⟨_, _, _, rfl, _⟩ := h; rfl
theorem len_home_paper (ds : List D) (M : HpD) (Q : KD) (h : sp_home_paper ds M Q) : ds.length = 1 := by obtain ⟨_, rfl, _⟩ := h; rfl
theorem len_believed_chain (ds : List D) (M : HpD) (Q : KD) (h : sp_believed_chain ds M Q) : ds.length = 3 := by obtain ⟨_, _, _, rfl, _⟩ := h; rfl
theorem len_neighbours (ds : List D) (M : HpD) (Q : KD) (h : sp_neighbours ds M Q) : ds.length = 1 := by obtain ⟨_, rfl, _⟩ := h; rfl
theorem len_is_gap (ds : List D) (M : HpD) (Q : KD) (h : sp_is_gap ds M Q) : ds.length = 2 := by obtain ⟨_, _, rfl, _⟩ := h; rfl
theorem len_gaps (ds : List D) (M : HpD) (Q : KD) (h : sp_gaps ds M Q) : ds.length = 3 := by obtain ⟨_, _, _, rfl, _⟩ := h; rfl
theorem len_cost (ds : List D) (M : HpD) (Q : KD) (h : sp_cost ds M Q) : ds.length = 4 := by obtain ⟨_, _, _, _, rfl, _⟩ := h; rfl
theorem len__law_is_story2 (ds : List D) (M : HpD) (Q : KD) (h : sp__law_is_story2 ds M Q) : ds.length = 2 := by obtain ⟨_, _, rfl, _⟩ := h; rfl
theorem len__law_spoilt (ds : List D) (M : HpD) (Q : KD) (h : sp__law_spoilt ds M Q) : ds.length = 3 := by obtain ⟨_, _, _, _, rfl, _⟩ := h; rfl
theorem len_law {Pt : Addr} {q : Str} (ds : List D) (M : HpD) (Q : KD) (h : spLawT Pt q ds M Q) : ds.length = 1 := by obtain ⟨_, rfl, _⟩ := h; rfl
theorem lenB_believed_chain (ds : List D) (M : HpD) (h : spB_believed_chain ds M) : ds.length = 3 := by obtain ⟨_, _, _, rfl, _⟩ := h; rfl
theorem lenB_gaps (ds : List D) (M : HpD) (h : spB_gaps ds M) : ds.length = 3 := by obtain ⟨_, _, _, rfl, _⟩ := h; rfl
theorem lenB_cost (ds : List D) (M : HpD) (h : spB_cost ds M) : ds.length = 4 := by obtain ⟨_, _, _, _, _, rfl, _⟩ := h; rfl
theorem all_mk {l : PySem.W.OpenLaw} {w : World} {K : PySem.W.Frag} {h : Heap} {mg : Str → Option Value} {fa f0 f1 f2 f3 f4 f5 f6 f7 f8 f9 f10 f11 f12 f13 f14 f15 f16 f17 f18 f19 f20 f21 f22 f23 fR C0 C1 C2 C3 C4 C5 cW Pt : Addr} (hCW : PySem.W.codeHdIn K cW Pt = true) (X : K.In h) (G : h.Ns mainGlobals mg) (hfa : mg "law" = some (.ref fa))
    {od0 an0 : Option Addr} {sl0 : Array (Option Value)} {oc0 kV0 dc0 pm0 ct0 cd0 : Value}
    {od1 an1 : Option Addr} {sl1 : Array (Option Value)} {oc1 kV1 dc1 pm1 ct1 cd1 : Value}
    {od2 an2 : Option Addr} {sl2 : Array (Option Value)} {oc2 kV2 dc2 pm2 ct2 cd2 : Value}
    {od3 an3 : Option Addr} {sl3 : Array (Option Value)} {oc3 kV3 dc3 pm3 ct3 cd3 : Value}
    {od4 an4 : Option Addr} {sl4 : Array (Option Value)} {oc4 kV4 dc4 pm4 ct4 cd4 : Value}
    {od5 an5 : Option Addr} {sl5 : Array (Option Value)} {oc5 kV5 dc5 pm5 ct5 cd5 : Value}
    {od6 an6 : Option Addr} {sl6 : Array (Option Value)} {oc6 kV6 dc6 pm6 ct6 cd6 : Value}
    {od7 an7 : Option Addr} {sl7 : Array (Option Value)} {oc7 kV7 dc7 pm7 ct7 cd7 : Value}
    {od8 an8 : Option Addr} {sl8 : Array (Option Value)} {oc8 kV8 dc8 pm8 ct8 cd8 : Value}
    {od9 an9 : Option Addr} {sl9 : Array (Option Value)} {oc9 kV9 dc9 pm9 ct9 cd9 : Value}
    {od10 an10 : Option Addr} {sl10 : Array (Option Value)} {oc10 kV10 dc10 pm10 ct10 cd10 : Value}
    {od11 an11 : Option Addr} {sl11 : Array (Option Value)} {oc11 kV11 dc11 pm11 ct11 cd11 : Value}
    {od12 an12 : Option Addr} {sl12 : Array (Option Value)} {oc12 kV12 dc12 pm12 ct12 cd12 : Value}
    {od13 an13 : Option Addr} {sl13 : Array (Option Value)} {oc13 kV13 dc13 pm13 ct13 cd13 : Value}
    {od14 an14 : Option Addr} {sl14 : Array (Option Value)} {oc14 kV14 dc14 pm14 ct14 cd14 : Value}
    {od15 an15 : Option Addr} {sl15 : Array (Option Value)} {oc15 kV15 dc15 pm15 ct15 cd15 : Value}
    {od16 an16 : Option Addr} {sl16 : Array (Option Value)} {oc16 kV16 dc16 pm16 ct16 cd16 : Value}
    {od17 an17 : Option Addr} {sl17 : Array (Option Value)} {oc17 kV17 dc17 pm17 ct17 cd17 : Value}
    {od18 an18 : Option Addr} {sl18 : Array (Option Value)} {oc18 kV18 dc18 pm18 ct18 cd18 : Value}
    {od19 an19 : Option Addr} {sl19 : Array (Option Value)} {oc19 kV19 dc19 pm19 ct19 cd19 : Value}
    {od20 an20 : Option Addr} {sl20 : Array (Option Value)} {oc20 kV20 dc20 pm20 ct20 cd20 : Value}
    {od21 an21 : Option Addr} {sl21 : Array (Option Value)} {oc21 kV21 dc21 pm21 ct21 cd21 : Value}
    {od22 an22 : Option Addr} {sl22 : Array (Option Value)} {oc22 kV22 dc22 pm22 ct22 cd22 : Value}
    {od23 an23 : Option Addr} {sl23 : Array (Option Value)} {oc23 kV23 dc23 pm23 ct23 : Value}
    {tk0 : Tok}
    {tk1 : Tok}
    {tk2 : Tok}
    {tk3 : Tok}
    {odR anR : Option Addr} {slR : Array (Option Value)} {ocR kVR dcR pmR ctR cdR : Value}
    (a0 : PySem.W.nsIn K mainGlobals "_law_box" = some (some (.ref f0)))
    (l0 : K.lookup f0 = some ⟨oc0, od0, .func (PySem.W.fnOf "_law_box" "_law_box" (defArgs s__law_box) (defBody s__law_box) (defScope s__law_box) .none kV0 dc0 pm0 an0 cd0 ct0), sl0⟩)
    (c0 : PySem.W.codeIn K cd0 "_law_box" = true)
    (k0 : PySem.W.keepIn K (.ref f0) = true)
    (a1 : PySem.W.nsIn K mainGlobals "_law_mixed" = some (some (.ref f1)))
    (l1 : K.lookup f1 = some ⟨oc1, od1, .func (PySem.W.fnOf "_law_mixed" "_law_mixed" (defArgs s__law_mixed) (defBody s__law_mixed) (defScope s__law_mixed) .none kV1 dc1 pm1 an1 cd1 ct1), sl1⟩)
    (c1 : PySem.W.codeIn K cd1 "_law_mixed" = true)
    (k1 : PySem.W.keepIn K (.ref f1) = true)
    (a2 : PySem.W.nsIn K mainGlobals "_law_take" = some (some (.ref f2)))
    (l2 : K.lookup f2 = some ⟨oc2, od2, .func (PySem.W.fnOf "_law_take" "_law_take" (defArgs s__law_take) (defBody s__law_take) (defScope s__law_take) .none kV2 dc2 pm2 an2 cd2 ct2), sl2⟩)
    (c2 : PySem.W.codeIn K cd2 "_law_take" = true)
    (k2 : PySem.W.keepIn K (.ref f2) = true)
    (a3 : PySem.W.nsIn K mainGlobals "_law_letters" = some (some (.ref f3)))
    (l3 : K.lookup f3 = some ⟨oc3, od3, .func (PySem.W.fnOf "_law_letters" "_law_letters" (defArgs s__law_letters) (defBody s__law_letters) (defScope s__law_letters) .none kV3 dc3 pm3 an3 cd3 ct3), sl3⟩)
    (c3 : PySem.W.codeIn K cd3 "_law_letters" = true)
    (k3 : PySem.W.keepIn K (.ref f3) = true)
    (a4 : PySem.W.nsIn K mainGlobals "_law_named" = some (some (.ref f4)))
    (l4 : K.lookup f4 = some ⟨oc4, od4, .func (PySem.W.fnOf "_law_named" "_law_named" (defArgs s__law_named) (defBody s__law_named) (defScope s__law_named) .none kV4 dc4 pm4 an4 cd4 ct4), sl4⟩)
    (c4 : PySem.W.codeIn K cd4 "_law_named" = true)
    (k4 : PySem.W.keepIn K (.ref f4) = true)
    (a5 : PySem.W.nsIn K mainGlobals "_law_places" = some (some (.ref f5)))
    (l5 : K.lookup f5 = some ⟨oc5, od5, .func (PySem.W.fnOf "_law_places" "_law_places" (defArgs s__law_places) (defBody s__law_places) (defScope s__law_places) .none kV5 dc5 pm5 an5 cd5 ct5), sl5⟩)
    (c5 : PySem.W.codeIn K cd5 "_law_places" = true)
    (k5 : PySem.W.keepIn K (.ref f5) = true)
    (a6 : PySem.W.nsIn K mainGlobals "_law_day" = some (some (.ref f6)))
    (l6 : K.lookup f6 = some ⟨oc6, od6, .func (PySem.W.fnOf "_law_day" "_law_day" (defArgs s__law_day) (defBody s__law_day) (defScope s__law_day) .none kV6 dc6 pm6 an6 cd6 ct6), sl6⟩)
    (c6 : PySem.W.codeIn K cd6 "_law_day" = true)
    (k6 : PySem.W.keepIn K (.ref f6) = true)
    (a7 : PySem.W.nsIn K mainGlobals "_law_home" = some (some (.ref f7)))
    (l7 : K.lookup f7 = some ⟨oc7, od7, .func (PySem.W.fnOf "_law_home" "_law_home" (defArgs s__law_home) (defBody s__law_home) (defScope s__law_home) .none kV7 dc7 pm7 an7 cd7 ct7), sl7⟩)
    (c7 : PySem.W.codeIn K cd7 "_law_home" = true)
    (k7 : PySem.W.keepIn K (.ref f7) = true)
    (a8 : PySem.W.nsIn K mainGlobals "_law_deal" = some (some (.ref f8)))
    (l8 : K.lookup f8 = some ⟨oc8, od8, .func (PySem.W.fnOf "_law_deal" "_law_deal" (defArgs s__law_deal) (defBody s__law_deal) (defScope s__law_deal) .none kV8 dc8 pm8 an8 cd8 ct8), sl8⟩)
    (c8 : PySem.W.codeIn K cd8 "_law_deal" = true)
    (k8 : PySem.W.keepIn K (.ref f8) = true)
    (a9 : PySem.W.nsIn K mainGlobals "_law_grade" = some (some (.ref f9)))
    (l9 : K.lookup f9 = some ⟨oc9, od9, .func (PySem.W.fnOf "_law_grade" "_law_grade" (defArgs s__law_grade) (defBody s__law_grade) (defScope s__law_grade) .none kV9 dc9 pm9 an9 cd9 ct9), sl9⟩)
    (c9 : PySem.W.codeIn K cd9 "_law_grade" = true)
    (k9 : PySem.W.keepIn K (.ref f9) = true)
    (a10 : PySem.W.nsIn K mainGlobals "_law_papers" = some (some (.ref f10)))
    (l10 : K.lookup f10 = some ⟨oc10, od10, .func (PySem.W.fnOf "_law_papers" "_law_papers" (defArgs s__law_papers) (defBody s__law_papers) (defScope s__law_papers) .none kV10 dc10 pm10 an10 cd10 ct10), sl10⟩)
    (c10 : PySem.W.codeIn K cd10 "_law_papers" = true)
    (k10 : PySem.W.keepIn K (.ref f10) = true)
    (a11 : PySem.W.nsIn K mainGlobals "_law_count" = some (some (.ref f11)))
    (l11 : K.lookup f11 = some ⟨oc11, od11, .func (PySem.W.fnOf "_law_count" "_law_count" (defArgs s__law_count) (defBody s__law_count) (defScope s__law_count) .none kV11 dc11 pm11 an11 cd11 ct11), sl11⟩)
    (c11 : PySem.W.codeIn K cd11 "_law_count" = true)
    (k11 : PySem.W.keepIn K (.ref f11) = true)
    (a12 : PySem.W.nsIn K mainGlobals "_law_prices" = some (some (.ref f12)))
    (l12 : K.lookup f12 = some ⟨oc12, od12, .func (PySem.W.fnOf "_law_prices" "_law_prices" (defArgs s__law_prices) (defBody s__law_prices) (defScope s__law_prices) .none kV12 dc12 pm12 an12 cd12 ct12), sl12⟩)
    (c12 : PySem.W.codeIn K cd12 "_law_prices" = true)
    (k12 : PySem.W.keepIn K (.ref f12) = true)
    (a13 : PySem.W.nsIn K mainGlobals "_law_spoilt" = some (some (.ref f13)))
    (l13 : K.lookup f13 = some ⟨oc13, od13, .func (PySem.W.fnOf "_law_spoilt" "_law_spoilt" (defArgs s__law_spoilt) (defBody s__law_spoilt) (defScope s__law_spoilt) .none kV13 dc13 pm13 an13 cd13 ct13), sl13⟩)
    (c13 : PySem.W.codeIn K cd13 "_law_spoilt" = true)
    (k13 : PySem.W.keepIn K (.ref f13) = true)
    (a14 : PySem.W.nsIn K mainGlobals "_law_by_day" = some (some (.ref f14)))
    (l14 : K.lookup f14 = some ⟨oc14, od14, .func (PySem.W.fnOf "_law_by_day" "_law_by_day" (defArgs s__law_by_day) (defBody s__law_by_day) (defScope s__law_by_day) .none kV14 dc14 pm14 an14 cd14 ct14), sl14⟩)
    (c14 : PySem.W.codeIn K cd14 "_law_by_day" = true)
    (k14 : PySem.W.keepIn K (.ref f14) = true)
    (a15 : PySem.W.nsIn K mainGlobals "_law_drawn_story" = some (some (.ref f15)))
    (l15 : K.lookup f15 = some ⟨oc15, od15, .func (PySem.W.fnOf "_law_drawn_story" "_law_drawn_story" (defArgs s__law_drawn_story) (defBody s__law_drawn_story) (defScope s__law_drawn_story) .none kV15 dc15 pm15 an15 cd15 ct15), sl15⟩)
    (c15 : PySem.W.codeIn K cd15 "_law_drawn_story" = true)
    (k15 : PySem.W.keepIn K (.ref f15) = true)
    (a16 : PySem.W.nsIn K mainGlobals "_law_is_story" = some (some (.ref f16)))
    (l16 : K.lookup f16 = some ⟨oc16, od16, .func (PySem.W.fnOf "_law_is_story" "_law_is_story" (defArgs s__law_is_story) (defBody s__law_is_story) (defScope s__law_is_story) .none kV16 dc16 pm16 an16 cd16 ct16), sl16⟩)
    (c16 : PySem.W.codeIn K cd16 "_law_is_story" = true)
    (k16 : PySem.W.keepIn K (.ref f16) = true)
    (a17 : PySem.W.nsIn K mainGlobals "home_paper" = some (some (.ref f17)))
    (l17 : K.lookup f17 = some ⟨oc17, od17, .func (PySem.W.fnOf "home_paper" "home_paper" (defArgs s_home_paper) (defBody s_home_paper) (defScope s_home_paper) .none kV17 dc17 pm17 an17 cd17 ct17), sl17⟩)
    (c17 : PySem.W.codeIn K cd17 "home_paper" = true)
    (k17 : PySem.W.keepIn K (.ref f17) = true)
    (a18 : PySem.W.nsIn K mainGlobals "believed_chain" = some (some (.ref f18)))
    (l18 : K.lookup f18 = some ⟨oc18, od18, .func (PySem.W.fnOf "believed_chain" "believed_chain" (defArgs s_believed_chain) (defBody s_believed_chain) (defScope s_believed_chain) .none kV18 dc18 pm18 an18 cd18 ct18), sl18⟩)
    (c18 : PySem.W.codeIn K cd18 "believed_chain" = true)
    (k18 : PySem.W.keepIn K (.ref f18) = true)
    (a19 : PySem.W.nsIn K mainGlobals "neighbours" = some (some (.ref f19)))
    (l19 : K.lookup f19 = some ⟨oc19, od19, .func (PySem.W.fnOf "neighbours" "neighbours" (defArgs s_neighbours) (defBody s_neighbours) (defScope s_neighbours) .none kV19 dc19 pm19 an19 cd19 ct19), sl19⟩)
    (c19 : PySem.W.codeIn K cd19 "neighbours" = true)
    (k19 : PySem.W.keepIn K (.ref f19) = true)
    (a20 : PySem.W.nsIn K mainGlobals "is_gap" = some (some (.ref f20)))
    (l20 : K.lookup f20 = some ⟨oc20, od20, .func (PySem.W.fnOf "is_gap" "is_gap" (defArgs s_is_gap) (defBody s_is_gap) (defScope s_is_gap) .none kV20 dc20 pm20 an20 cd20 ct20), sl20⟩)
    (c20 : PySem.W.codeIn K cd20 "is_gap" = true)
    (k20 : PySem.W.keepIn K (.ref f20) = true)
    (a21 : PySem.W.nsIn K mainGlobals "gaps" = some (some (.ref f21)))
    (l21 : K.lookup f21 = some ⟨oc21, od21, .func (PySem.W.fnOf "gaps" "gaps" (defArgs s_gaps) (defBody s_gaps) (defScope s_gaps) .none kV21 dc21 pm21 an21 cd21 ct21), sl21⟩)
    (c21 : PySem.W.codeIn K cd21 "gaps" = true)
    (k21 : PySem.W.keepIn K (.ref f21) = true)
    (a22 : PySem.W.nsIn K mainGlobals "cost" = some (some (.ref f22)))
    (l22 : K.lookup f22 = some ⟨oc22, od22, .func (PySem.W.fnOf "cost" "cost" (defArgs s_cost) (defBody s_cost) (defScope s_cost) .none kV22 dc22 pm22 an22 cd22 ct22), sl22⟩)
    (c22 : PySem.W.codeIn K cd22 "cost" = true)
    (k22 : PySem.W.keepIn K (.ref f22) = true)
    (a23 : PySem.W.nsIn K mainGlobals "law" = some (some (.ref f23)))
    (l23 : K.lookup f23 = some ⟨oc23, od23, .func (PySem.W.fnOf "law" "law" (defArgs s_law) (defBody s_law) (defScope s_law) .none kV23 dc23 pm23 an23 (.ref cW) ct23), sl23⟩)
    (c23 : PySem.W.codeIn K (.ref cW) "law" = true)
    (k23 : PySem.W.keepIn K (.ref f23) = true)
    (z0 : PySem.W.nsIn K mainGlobals "DAY" = some (some (.int (1) tk0)))
    (z1 : PySem.W.nsIn K mainGlobals "HERE" = some (some (.int (2) tk1)))
    (z2 : PySem.W.nsIn K mainGlobals "NUMBER" = some (some (.int (0) tk2)))
    (z3 : PySem.W.nsIn K mainGlobals "THERE" = some (some (.int (3) tk3)))
    (z4 : PySem.W.nsIn K mainGlobals "all" = some none)
    (z5 : PySem.W.nsIn K mainGlobals "len" = some none)
    (z6 : PySem.W.nsIn K mainGlobals "list" = some none)
    (z7 : PySem.W.nsIn K mainGlobals "max" = some none)
    (z8 : PySem.W.nsIn K mainGlobals "min" = some none)
    (z9 : PySem.W.nsIn K mainGlobals "range" = some none)
    (z10 : PySem.W.nsIn K mainGlobals "sorted" = some none)
    (z11 : PySem.W.nsIn K mainGlobals "zip" = some none)
    (z12 : PySem.W.nsIn K mainGlobals "isinstance" = some none)
    (z13 : PySem.W.nsIn K mainGlobals "ValueError" = some none)
    (aR : PySem.W.nsIn K mainGlobals "_law_refused" = some (some (.ref fR)))
    (lR : K.lookup fR = some ⟨ocR, odR, .func (PySem.W.fnOf "_law_refused" "_law_refused" (defArgs s__law_refused) (defBody s__law_refused) (defScope s__law_refused) .none kVR dcR pmR anR cdR ctR), slR⟩)
    (cR : PySem.W.codeIn K cdR "_law_refused" = true)
    (kR : PySem.W.keepIn K (.ref fR) = true)
    (aC0 : PySem.W.nsIn K mainGlobals "BadStory" = some (some (.ref C0)))
    (aC1 : PySem.W.nsIn K mainGlobals "HouseError" = some (some (.ref C1)))
    (aC2 : PySem.W.nsIn K mainGlobals "NoPaper" = some (some (.ref C2)))
    (aC3 : PySem.W.nsIn K mainGlobals "BadRow" = some (some (.ref C3)))
    (aC4 : PySem.W.nsIn K mainGlobals "Twice" = some (some (.ref C4)))
    (aC5 : PySem.W.nsIn K mainGlobals "BadCount" = some (some (.ref C5)))
    (ex : excIn K C0 C1 = true)
    (hx : PySem.W.exmOne K (.ref C0) (.ref C1) = some true)
    (x0 : PySem.W.findIn K (.ref C0) "__getattribute__" = some (some (.builtin "BaseException.__getattribute__")))
    (x1 : PySem.W.findIn K (.ref C0) "__getattr__" = some none)
    (x2 : PySem.W.hasDictIn K C0 = true)
    (x3 : PySem.W.findIn K (.ref C0) "__class__" = some (some (.builtin "object.__class__")))
    (x4 : PySem.W.specialIn K (.builtin "object.__class__") "__get__" = some (some (.builtin "getset_descriptor.__get__")))
    (x5 : PySem.W.takesIn K (.builtin "object.__class__") = some true)
    (x6 : PySem.W.mroIn K C0 (.type "object") = some true)
    (x7 : PySem.W.mroIn K C0 (.type "BaseException") = some true)
    (i1 : PySem.W.kitOne K (.ref C0) (.ref C0) = some true)
    (i2 : PySem.W.kitOne K (.ref C0) (.type "ValueError") = some true)
    (i3 : PySem.W.kitAny K (.ref C0) [.ref C2, .ref C3, .ref C4, .ref C5] = some false) :
    ∃ c : Addr, PySem.W.codeHdIn K c Pt = true ∧ ∃ fd : FuncData, (∀ (s : Shared) (v : Value), BindsTo s fd ⟨[v], []⟩ [("_law_script", v)]) ∧ ∀ base : Heap, K.In base → base.Ns mainGlobals mg → BMain mg base → FnOk l.prog w K mg base CX0 7 fa fd ["_law_script"] (LiftP K (spLawT Pt "law.<locals>.<lambda>")) := by
  have e := hfa.symm.trans (PySem.W.mg_of X G a23)
  cases e
  have g0 := PySem.W.mg_of X G z0
  have g1 := PySem.W.mg_of X G z1
  have g2 := PySem.W.mg_of X G z2
  have g3 := PySem.W.mg_of X G z3
  have g4 := PySem.W.mg_none_of X G z4
  have g5 := PySem.W.mg_none_of X G z5
  have g6 := PySem.W.mg_none_of X G z6
  have g7 := PySem.W.mg_none_of X G z7
  have g8 := PySem.W.mg_none_of X G z8
  have g9 := PySem.W.mg_none_of X G z9
  have g10 := PySem.W.mg_none_of X G z10
  have g11 := PySem.W.mg_none_of X G z11
  have g12 := PySem.W.mg_none_of X G z12
  have g13 := PySem.W.mg_none_of X G z13
  have F0 := fun_mk (st := s__law_box) l0 c0 k0
  have b0 := F0.binds (ps := P__law_box) fun _ _ _ _ _ _ => us1 fun _ => rfl
  have F1 := fun_mk (st := s__law_mixed) l1 c1 k1
  have b1 := F1.binds (ps := P__law_mixed) fun _ _ _ _ _ _ => us2 fun _ _ => rfl
  have F2 := fun_mk (st := s__law_take) l2 c2 k2
  have b2 := F2.binds (ps := P__law_take) fun _ _ _ _ _ _ => us2 fun _ _ => rfl
  have F3 := fun_mk (st := s__law_letters) l3 c3 k3
  have b3 := F3.binds (ps := P__law_letters) fun _ _ _ _ _ _ => us0 rfl
  have F4 := fun_mk (st := s__law_named) l4 c4 k4
  have b4 := F4.binds (ps := P__law_named) fun _ _ _ _ _ _ => us1 fun _ => rfl
  have F5 := fun_mk (st := s__law_places) l5 c5 k5
  have b5 := F5.binds (ps := P__law_places) fun _ _ _ _ _ _ => us1 fun _ => rfl
  have F6 := fun_mk (st := s__law_day) l6 c6 k6
  have b6 := F6.binds (ps := P__law_day) fun _ _ _ _ _ _ => us1 fun _ => rfl
  have F7 := fun_mk (st := s__law_home) l7 c7 k7
  have b7 := F7.binds (ps := P__law_home) fun _ _ _ _ _ _ => us2 fun _ _ => rfl
  have F8 := fun_mk (st := s__law_deal) l8 c8 k8
  have b8 := F8.binds (ps := P__law_deal) fun _ _ _ _ _ _ => us3 fun _ _ _ => rfl
  have F9 := fun_mk (st := s__law_grade) l9 c9 k9
  have b9 := F9.binds (ps := P__law_grade) fun _ _ _ _ _ _ => us2 fun _ _ => rfl
  have F10 := fun_mk (st := s__law_papers) l10 c10 k10
  have b10 := F10.binds (ps := P__law_papers) fun _ _ _ _ _ _ => us4 fun _ _ _ _ => rfl
  have F11 := fun_mk (st := s__law_count) l11 c11 k11
  have b11 := F11.binds (ps := P__law_count) fun _ _ _ _ _ _ => us3 fun _ _ _ => rfl
  have F12 := fun_mk (st := s__law_prices) l12 c12 k12
  have b12 := F12.binds (ps := P__law_prices) fun _ _ _ _ _ _ => us1 fun _ => rfl
  have F13 := fun_mk (st := s__law_spoilt) l13 c13 k13
  have b13 := F13.binds (ps := P__law_spoilt) fun _ _ _ _ _ _ => us3 fun _ _ _ => rfl
  have F14 := fun_mk (st := s__law_by_day) l14 c14 k14
  have b14 := F14.binds (ps := P__law_by_day) fun _ _ _ _ _ _ => us1 fun _ => rfl
  have F15 := fun_mk (st := s__law_drawn_story) l15 c15 k15
  have b15 := F15.binds (ps := P__law_drawn_story) fun _ _ _ _ _ _ => us2 fun _ _ => rfl
  have F16 := fun_mk (st := s__law_is_story) l16 c16 k16
  have b16 := F16.binds (ps := P__law_is_story) fun _ _ _ _ _ _ => us2 fun _ _ => rfl
  have F17 := fun_mk (st := s_home_paper) l17 c17 k17
  have b17 := F17.binds (ps := P_home_paper) fun _ _ _ _ _ _ => us1 fun _ => rfl
  have F18 := fun_mk (st := s_believed_chain) l18 c18 k18
  have b18 := F18.binds (ps := P_believed_chain) fun _ _ _ _ _ _ => us3 fun _ _ _ => rfl
  have F19 := fun_mk (st := s_neighbours) l19 c19 k19
  have b19 := F19.binds (ps := P_neighbours) fun _ _ _ _ _ _ => us1 fun _ => rfl
  have F20 := fun_mk (st := s_is_gap) l20 c20 k20
  have b20 := F20.binds (ps := P_is_gap) fun _ _ _ _ _ _ => us2 fun _ _ => rfl
  have F21 := fun_mk (st := s_gaps) l21 c21 k21
  have b21 := F21.binds (ps := P_gaps) fun _ _ _ _ _ _ => us3 fun _ _ _ => rfl
  have F22 := fun_mk (st := s_cost) l22 c22 k22
  have b22 := F22.binds (ps := P_cost) fun _ _ _ _ _ _ => us4 fun _ _ _ _ => rfl
  have F23 := fun_mk (st := s_law) l23 c23 k23
  refine ⟨cW, hCW, PySem.W.fnOf "law" "law" (defArgs s_law) (defBody s_law) (defScope s_law) .none kV23 dc23 pm23 an23 (.ref cW) ct23, fun s v => .of_eq rfl, fun base kb _ hbm => ?_⟩
  have hC := PySem.W.codeHd_of_K kb hCW
  have h0 : Cal l.prog w K mg base "_law_box" 1 sp__law_box := F0.cal (ok__law_box F0 g6 len__law_box rd__law_box) (PySem.W.mg_of X G a0) b0
  have h1 : Cal l.prog w K mg base "_law_mixed" 1 sp__law_mixed := F1.cal (ok__law_mixed F1 len__law_mixed rd__law_mixed) (PySem.W.mg_of X G a1) b1
  have h2 : Cal l.prog w K mg base "_law_take" 2 sp__law_take := F2.cal (ok__law_take F2 h1 g5 len__law_take rd__law_take) (PySem.W.mg_of X G a2) b2
  have h3 : Cal l.prog w K mg base "_law_letters" 1 sp__law_letters := F3.cal (ok__law_letters F3 len__law_letters rd__law_letters) (PySem.W.mg_of X G a3) b3
  have h4 : Cal l.prog w K mg base "_law_named" 3 sp__law_named := F4.cal (ok__law_named F4 h2 h3 g9 len__law_named rd__law_named) (PySem.W.mg_of X G a4) b4
  have h5 : Cal l.prog w K mg base "_law_places" 4 sp__law_places := F5.cal (ok__law_places F5 h2 h4 g9 len__law_places rd__law_places) (PySem.W.mg_of X G a5) b5
  have h6 : Cal l.prog w K mg base "_law_day" 3 sp__law_day := F6.cal (ok__law_day F6 h2 len__law_day rd__law_day) (PySem.W.mg_of X G a6) b6
  have h7 : Cal l.prog w K mg base "_law_home" 4 sp__law_home := F7.cal (ok__law_home F7 h2 h6 g5 len__law_home rd__law_home) (PySem.W.mg_of X G a7) b7
  have h8 : Cal l.prog w K mg base "_law_deal" 3 sp__law_deal := F8.cal (ok__law_deal F8 h2 g5 len__law_deal rd__law_deal) (PySem.W.mg_of X G a8) b8
  have h9 : Cal l.prog w K mg base "_law_grade" 3 sp__law_grade := F9.cal (ok__law_grade F9 h2 g8 len__law_grade rd__law_grade) (PySem.W.mg_of X G a9) b9
  have h10 : Cal l.prog w K mg base "_law_papers" 4 sp__law_papers := F10.cal (ok__law_papers F10 h8 h2 h9 g5 g6 g9 len__law_papers rd__law_papers) (PySem.W.mg_of X G a10) b10
  have h11 : Cal l.prog w K mg base "_law_count" 3 sp__law_count := F11.cal (ok__law_count F11 h2 len__law_count rd__law_count) (PySem.W.mg_of X G a11) b11
  have h12 : Cal l.prog w K mg base "_law_prices" 3 sp__law_prices := F12.cal (ok__law_prices F12 h2 len__law_prices rd__law_prices) (PySem.W.mg_of X G a12) b12
  have h13 : Cal l.prog w K mg base "_law_spoilt" 3 sp__law_spoilt := F13.cal (ok__law_spoilt F13 h2 g5 g6 g7 len__law_spoilt rd__law_spoilt) (PySem.W.mg_of X G a13) b13
  have h14 : Cal l.prog w K mg base "_law_by_day" 1 sp__law_by_day := F14.cal (ok__law_by_day F14 len__law_by_day rd__law_by_day) (PySem.W.mg_of X G a14) b14
  have h15 : Cal l.prog w K mg base "_law_drawn_story" 3 sp__law_drawn_story := F15.cal (ok__law_drawn_story F15 h14 h2 g10 len__law_drawn_story rd__law_drawn_story) (PySem.W.mg_of X G a15) b15
  have h16 : Cal l.prog w K mg base "_law_is_story" 1 sp__law_is_story2 := F16.cal (ok__law_is_story F16 g4 g5 g11 len__law_is_story2 rd__law_is_story2) (PySem.W.mg_of X G a16) b16
  have h17 : Cal l.prog w K mg base "home_paper" 1 sp_home_paper := F17.cal (ok_home_paper F17 len_home_paper rd_home_paper) (PySem.W.mg_of X G a17) b17
  have h18 : Cal l.prog w K mg base "believed_chain" 2 sp_believed_chain := F18.cal (ok_believed_chain F18 h17 g0 g2 len_believed_chain rd_believed_chain) (PySem.W.mg_of X G a18) b18
  have h19 : Cal l.prog w K mg base "neighbours" 1 sp_neighbours := F19.cal (ok_neighbours F19 g6 g11 len_neighbours rd_neighbours) (PySem.W.mg_of X G a19) b19
  have h20 : Cal l.prog w K mg base "is_gap" 1 sp_is_gap := F20.cal (ok_is_gap F20 g1 g3 len_is_gap rd_is_gap) (PySem.W.mg_of X G a20) b20
  have h21 : Cal l.prog w K mg base "gaps" 3 sp_gaps := F21.cal (ok_gaps F21 h18 h19 h20 g1 g2 g3 len_gaps rd_gaps) (PySem.W.mg_of X G a21) b21
  have h22 : Cal l.prog w K mg base "cost" 4 sp_cost := F22.cal (ok_cost F22 h21 g5 len_cost rd_cost) (PySem.W.mg_of X G a22) b22
  have gC0 := PySem.W.mg_of X G aC0
  have gC1 := PySem.W.mg_of X G aC1
  have gC2 := PySem.W.mg_of X G aC2
  have gC3 := PySem.W.mg_of X G aC3
  have gC4 := PySem.W.mg_of X G aC4
  have gC5 := PySem.W.mg_of X G aC5
  have hexc := excC_of kb ex
  have b_believed_chain : CalB C0 l.prog w K mg base "believed_chain" 2 spB_believed_chain := F18.calB (okB_believed_chain F18 hexc gC0 h17 g0 g2 lenB_believed_chain rdB_believed_chain) (PySem.W.mg_of X G a18) b18
  have b_gaps : CalB C0 l.prog w K mg base "gaps" 3 spB_gaps := F21.calB (okB_gaps F21 hexc gC0 b_believed_chain lenB_gaps rdB_gaps) (PySem.W.mg_of X G a21) b21
  have b_cost : CalB C0 l.prog w K mg base "cost" 4 spB_cost := F22.calB (okB_cost F22 hexc gC0 b_gaps g5 lenB_cost rdB_cost) (PySem.W.mg_of X G a22) b22
  have FR := fun_mk (st := s__law_refused) lR cR kR
  have bR := FR.binds (ps := P__law_refused) fun _ _ _ _ _ _ => us1 fun _ => rfl
  have hR : CalR l.prog w K mg base C0 "_law_refused" 6 4 [.str "let"] [.bl true, .bl true, .bl false] := FR.calR (okR FR gC0 gC1 gC2 gC3 gC4 gC5 g12 g13 hx ⟨x0, x1, x2, x3, x4, x5, x6, x7⟩ i1 i2 i3) (PySem.W.mg_of X G aR) bR
  exact ok_law (sp := spLawT Pt "law.<locals>.<lambda>") (funC_mk (st := s_law) l23 c23) hC hbm b_cost b_gaps hR h0 h5 h7 h10 h11 h12 h13 h15 h16 h22 h21 g6 len_law rd_law
theorem walk {l : PySem.W.OpenLaw} {q : Program} {loose : List Str} {XP : (Str → Option Value) → Heap → Prop} {YP : World → Heap → Prop} {d : DefRec} {K : Params → PySem.W.Frag} {Pt : Addr} (hn : l.most = some 63) (hdf : d.params.defaults = [])
    (hY : ∀ (w : World) (h : Heap), YP w h → (K w.params).In h ∧ h.get? Pt = some (PySem.W.tabObj #[]))
    (F : ∀ (w : World) (mg : Str → Option Value) (fa : Addr) (h : Heap), (K w.params).In h → h.Ns mainGlobals mg → mg d.name = some (.ref fa) →
      ∃ c : Addr, PySem.W.codeHdIn (K w.params) c Pt = true ∧ ∃ fd : FuncData, (∀ (s : Shared) (u : Value), BindsTo s fd ⟨[u], []⟩ [("_law_script", u)]) ∧ ∀ base : Heap, (K w.params).In base → base.Ns mainGlobals mg → BMain mg base → FnOk l.prog w (K w.params) mg base CX0 7 fa fd ["_law_script"] (LiftP (K w.params) (spLawT Pt "law.<locals>.<lambda>")))
    (hKt : ∀ w : World, PySem.W.noTabs (K w.params) = true) :
    PySem.W.WalkO q loose XP YP l.row.toRowW d [] (fun f vs => PySem.call f vs) := by
  refine Att.attach_call hn hdf fun w s₀ s₁ mg mb fa o pm cd doc a vs ns G Y ho hd hcd hmg hobj hints hlen hg => ?_
  obtain ⟨KX, hPt⟩ := hY w _ Y
  obtain ⟨c, hC, fd, hb, hF⟩ := F w mg fa _ KX G.T.g hmg
  obtain ⟨bm, ob, b1, b2, b3, b4, b5, b6⟩ := G.T.bmain
  exact law_callT (CX := CX0) (k := 7) KX G.T.g G.T.b G.T.builtins G.T.nolimit hg ⟨bm, ob, b1, b2, b3, b4, b5, b6⟩ hPt (PySem.W.codeHd_of_K KX hC) (hKt w) hobj hints (Nat.le_trans hlen (by decide)) ⟨rfl, by decide, by decide⟩ hF hb (fun H hS hT => law_inT hlen hS hT) fun H e s' z => z
end V15
open PySem PySem.W PyProof.Rows
set_option maxRecDepth 100000 in
set_option maxHeartbeats 0 in
theorem PySem.Challenge.cw_vitrine_k02_no_story_holds : PySem.Challenge.rw_vitrine_k02_no_story.Holds := by
  w_on; o_law; k_head; (case hw => w_witness2)
  k_fill
  refine V15.walk (l := PySem.Challenge.rw_vitrine_k02_no_story) rfl rfl (fun w h Y => ⟨PySem.W.km_in_of Y, PySem.W.km_tabs_of Y _ (List.Mem.head _)⟩) ?F ?hKt
  case F =>
    intro w mg fa h KX G hmg
    refine' V15.all_mk ?hCW KX G hmg ?a0 ?l0 ?c0 ?k0 ?a1 ?l1 ?c1 ?k1 ?a2 ?l2 ?c2 ?k2 ?a3 ?l3 ?c3 ?k3 ?a4 ?l4 ?c4 ?k4 ?a5 ?l5 ?c5 ?k5 ?a6 ?l6 ?c6 ?k6 ?a7 ?l7 ?c7 ?k7 ?a8 ?l8 ?c8 ?k8 ?a9 ?l9 ?c9 ?k9 ?a10 ?l10 ?c10 ?k10 ?a11 ?l11 ?c11 ?k11 ?a12 ?l12 ?c12 ?k12 ?a13 ?l13 ?c13 ?k13 ?a14 ?l14 ?c14 ?k14 ?a15 ?l15 ?c15 ?k15 ?a16 ?l16 ?c16 ?k16 ?a17 ?l17 ?c17 ?k17 ?a18 ?l18 ?c18 ?k18 ?a19 ?l19 ?c19 ?k19 ?a20 ?l20 ?c20 ?k20 ?a21 ?l21 ?c21 ?k21 ?a22 ?l22 ?c22 ?k22 ?a23 ?l23 ?c23 ?k23 ?z0 ?z1 ?z2 ?z3 ?z4 ?z5 ?z6 ?z7 ?z8 ?z9 ?z10 ?z11 ?z12 ?z13 ?aR ?lR ?cR ?kR ?aC0 ?aC1 ?aC2 ?aC3 ?aC4 ?aC5 ?ex ?hx ?x0 ?x1 ?x2 ?x3 ?x4 ?x5 ?x6 ?x7 ?i1 ?i2 ?i3
    (case a0 => k_is)
    (case l0 => k_is)
    (case c0 => k_is)
    (case k0 => k_is)
    (case a1 => k_is)
    (case l1 => k_is)
    (case c1 => k_is)
    (case k1 => k_is)
    (case a2 => k_is)
    (case l2 => k_is)
    (case c2 => k_is)
    (case k2 => k_is)
    (case a3 => k_is)
    (case l3 => k_is)
    (case c3 => k_is)
    (case k3 => k_is)
    (case a4 => k_is)
    (case l4 => k_is)
    (case c4 => k_is)
    (case k4 => k_is)
    (case a5 => k_is)
    (case l5 => k_is)
    (case c5 => k_is)
    (case k5 => k_is)
    (case a6 => k_is)
    (case l6 => k_is)
    (case c6 => k_is)
    (case k6 => k_is)
    (case a7 => k_is)
    (case l7 => k_is)
    (case c7 => k_is)
    (case k7 => k_is)
    (case a8 => k_is)
    (case l8 => k_is)
    (case c8 => k_is)
    (case k8 => k_is)
    (case a9 => k_is)
    (case l9 => k_is)
    (case c9 => k_is)
    (case k9 => k_is)
    (case a10 => k_is)
    (case l10 => k_is)
    (case c10 => k_is)
    (case k10 => k_is)
    (case a11 => k_is)
    (case l11 => k_is)
    (case c11 => k_is)
    (case k11 => k_is)
    (case a12 => k_is)
    (case l12 => k_is)
    (case c12 => k_is)
    (case k12 => k_is)
    (case a13 => k_is)
    (case l13 => k_is)
    (case c13 => k_is)
    (case k13 => k_is)
    (case a14 => k_is)
    (case l14 => k_is)
    (case c14 => k_is)
    (case k14 => k_is)
    (case a15 => k_is)
    (case l15 => k_is)
    (case c15 => k_is)
    (case k15 => k_is)
    (case a16 => k_is)
    (case l16 => k_is)
    (case c16 => k_is)
    (case k16 => k_is)
    (case a17 => k_is)
    (case l17 => k_is)
    (case c17 => k_is)
    (case k17 => k_is)
    (case a18 => k_is)
    (case l18 => k_is)
    (case c18 => k_is)
    (case k18 => k_is)
    (case a19 => k_is)
    (case l19 => k_is)
    (case c19 => k_is)
    (case k19 => k_is)
    (case a20 => k_is)
    (case l20 => k_is)
    (case c20 => k_is)
    (case k20 => k_is)
    (case a21 => k_is)
    (case l21 => k_is)
    (case c21 => k_is)
    (case k21 => k_is)
    (case a22 => k_is)
    (case l22 => k_is)
    (case c22 => k_is)
    (case k22 => k_is)
    (case a23 => k_is)
    (case l23 => k_is)
    (case c23 => k_is)
    (case k23 => k_is)
    (case z0 => k_is)
    (case z1 => k_is)
    (case z2 => k_is)
    (case z3 => k_is)
    (case z4 => k_is)
    (case z5 => k_is)
    (case z6 => k_is)
    (case z7 => k_is)
    (case z8 => k_is)
    (case z9 => k_is)
    (case z10 => k_is)
    (case z11 => k_is)
    (case z12 => k_is)
    (case z13 => k_is)
    (case aR => k_is)
    (case lR => k_is)
    (case cR => k_is)
    (case kR => k_is)
    (case aC0 => k_is)
    (case aC1 => k_is)
    (case aC2 => k_is)
    (case aC3 => k_is)
    (case aC4 => k_is)
    (case aC5 => k_is)
    (case ex => kernel_rfl)
    (case hx => kernel_rfl)
    (case x0 => kernel_rfl)
    (case x1 => kernel_rfl)
    (case x2 => kernel_rfl)
    (case x3 => kernel_rfl)
    (case x4 => kernel_rfl)
    (case x5 => kernel_rfl)
    (case x6 => kernel_rfl)
    (case x7 => kernel_rfl)
    (case i1 => kernel_rfl)
    (case i2 => kernel_rfl)
    (case i3 => kernel_rfl)
    (case hCW => kernel_rfl)
  case hKt => exact fun w => by kernel_rfl
