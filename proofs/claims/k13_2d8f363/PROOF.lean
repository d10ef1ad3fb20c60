import PyProof.Rows.All
import Wide.All
import OpenK.AllK
import Wide.FinOn
import Lean
import PyProof.EqAt
import PyProof.EqKinds
import PyProof.TupleCall
import PySem.Challenge.RW_vitrine_k13_whole_one_place_a_day
set_option Elab.async false
set_option linter.all false
set_option maxRecDepth 100000
set_option maxHeartbeats 8000000
set_option bootstrap.genMatcherCode false
set_option compiler.extract_closed false
abbrev ZVP := PySem.Value -> PySem.Shared -> Prop
abbrev ZPO := List (PySem.Addr × PySem.Obj)
open Or renaming inl → uA, inr → x3
open List renaming length_map → uB, length_append → uE, getElem?_eq_getElem → uG, size_toArray → uJ, replicate → uK, mem_append_right → uL, getElem?_map → uO, mem_cons_of_mem → uQ, mem_cons → uU, getElem?_eq_some_iff → uY, getD_eq_getElem?_getD → ua, length_cons → ub, mem_singleton → uc, length_take → ud, map_cons → uf, mem_cons_self → ug, append_assoc → uh, length_singleton → ui, mem_append → uj, map_append → uk, length_drop → uo, not_mem_nil → ur, range → uv, take_of_length_le → uw, take_append_drop → uz, take_add_one → u1, getElem?_append_right → u2, getElem?_append_left → u4, flatten_cons → u7, perm_append_comm → u8, getElem_mem → xB, replicate_succ → xC, length_replicate → xE, getElem?_eq_none → xF, take_length → xG, pairwise_append → xH, mem_map → xI, pairwise_iff_getElem → xR, mem_of_getElem? → xT, find?_cons → xU, zipWith → xW, lookup_cons → xX, mem_iff_getElem → xh, getElem?_range → xi, countP_cons → xj, getElem?_replicate → xm, getElem?_drop → xn, getElem?_set_self → xo, any_cons → xt, length → xy, mem_append_left → x8, getElem?_set_ne → x9, drop_length → yA, nodup_cons → yD, lookup_append → yG, getElem?_take → yH, pairwise_cons → yJ, mem_range → yL, take_sublist → yM
open PySem.W renaming Frag → uC, nsIn → uN, keepIn → uS, codeIn → uT, fnOf → uW, mg_of → uX, mg_none_of → ut, kia_one → uy, kla_obj → xV, tabObj → xZ, cellsFrom_some → xq
open PySem.Heap renaming get?_push_of_some → uD, lt_size → uH, get?_push_size → uP, get?_update_self → uu, size_push → u3, get?_update_other → u5, SameBut → xk, get?_push_ne → yN
open Bool renaming false_ne_true → uF, false_eq_true → uM, and_eq_true → xA, beq_eq_decide_eq → xO, false_xor → xY, eq_iff_iff → yC
open Nat renaming le_refl → uI, lt_of_lt_of_le → uV, ne_of_lt → uZ, zero_le → ue, lt_irrefl → uq, le_of_ble_eq_true → u0, le_trans → xD, lt_succ_of_lt → xJ, ne_of_gt → xM, le_add_right → xP, zero_add → xa, add_zero → xb, add_assoc → xx, le_of_lt → x6, lt_of_le_of_lt → yF
open Array renaming length_toList → uR, getElem?_eq_none → u6, getElem?_toList → xQ, getElem?_eq_getElem → xS, mem_toList_iff → xg, size_push → xw, getElem_mem → xz, getD_eq_getD_getElem? → x4, perm_iff_toList_perm → yB, toList_push → yO
open Int renaming le_refl → ul, toNat_natCast → xK, le_of_lt → xN, emod_lt_of_pos → yI
open PyProof.Rows renaming callWith_type1 → um, kindOf → xL
open PySem.F renaming plain_extend_loop → ux, entry_extend_loop → xc, slot_zip_next → x0, slot_range_reversed → x5, plainAttrs_list → yK
open Option renaming map_some → xu, isSome_iff_exists → yE
namespace L2
open PySem PySem.Spec PyProof.Rows
noncomputable abbrev Key := Sum Int Str
noncomputable def w4 : Key -> Value -> Bool
 | .inl k, v => Value.isInt k v
 | .inr x, v => Value.isStrOf x v
noncomputable def qbw (w : World) : Key -> Int
 | .inl k => hashInt k
 | .inr x => hashStr w x
theorem Xo : ∀ {k : Key} {v : Value}, w4 k v = true -> (∃ i t, k = Sum.inl i /\ v = Value.int i t) \/ (∃ x t, k = Sum.inr x /\ v = Value.str x t)
 | .inl i, v, h => by
  obtain ⟨t, e⟩ := Value.isInt_shape (k := i) (v := v) h
  exact .inl ⟨i, t, rfl, e⟩
 | .inr x, v, h => by
  obtain ⟨t, e⟩ := Value.isStrOf_shape (x := x) (v := v) h
  exact .inr ⟨x, t, rfl, e⟩
theorem ZaX (i : Int) (t : Tok) : w4 (.inl i) (.int i t) = true := by simp [w4, Value.isInt]
theorem jaS (x : Str) (t : Tok) : w4 (.inr x) (.str x t) = true := by simp [w4, Value.isStrOf]
theorem Xbn (a b : Int) : decide ((Sum.inl a : Key) = Sum.inl b) = (a == b) := by
 by_cases e : a = b
 ·subst e; simp
 ·have h : ¬ (Sum.inl a : Key) = Sum.inl b := fun q => e (Sum.inl.inj q)
  rw [decide_eq_false h]
  exact (beq_eq_false_iff_ne.mpr e).symm
theorem jbi (a b : Str) : decide ((Sum.inr a : Key) = Sum.inr b) = decide (a = b) := by
 by_cases e : a = b
 ·subst e; simp
 ·have h : ¬ (Sum.inr a : Key) = Sum.inr b := fun q => e (Sum.inr.inj q)
  rw [decide_eq_false h, decide_eq_false e]
theorem Ybo (a : Int) (b : Str) : decide ((Sum.inl a : Key) = Sum.inr b) = false := decide_eq_false (fun q => nomatch q)
theorem qbj (a : Str) (b : Int) : decide ((Sum.inr a : Key) = Sum.inl b) = false := decide_eq_false (fun q => nomatch q)
noncomputable def Wq (prog : Program) (w : World) : PySem.KeyKind prog w Key where
 is := w4
 hash := qbw w
 inj := fun v a b ha hb => by
  rcases Xo ha with ⟨i, t, rfl, rfl⟩ | ⟨x, t, rfl, rfl⟩
  ·rcases Xo hb with ⟨j, u, rfl, e⟩ | ⟨y, u, rfl, e⟩
   ·injection e with e1 _; rw [e1]
   ·exact nomatch e
  ·rcases Xo hb with ⟨j, u, rfl, e⟩ | ⟨y, u, rfl, e⟩
   ·exact nomatch e
   ·injection e with e1 _; rw [e1]
 byValue := fun k v h => by
  rcases Xo h with ⟨i, t, rfl, rfl⟩ | ⟨x, t, rfl, rfl⟩ <;> rfl
 pyHash := fun hv h => by
  rcases Xo hv with ⟨i, t, rfl, rfl⟩ | ⟨x, t, rfl, rfl⟩
  ·exact wpAny_pyHash_int h
  ·exact wpAny_pyHash_str h
 eqBool := fun hu hv h => by
  rcases Xo hu with ⟨i, t, rfl, rfl⟩ | ⟨x, t, rfl, rfl⟩
  ·rcases Xo hv with ⟨j, u, rfl, rfl⟩ | ⟨y, u, rfl, rfl⟩
   ·rw [Xbn] at h; exact wpAny_eqBool_int h
   ·rw [Ybo] at h; exact SeqAt.EqAt.int_str i t y u _ _ _ _ h
  ·rcases Xo hv with ⟨j, u, rfl, rfl⟩ | ⟨y, u, rfl, rfl⟩
   ·rw [qbj] at h; exact SeqAt.EqAt.str_int x t j u _ _ _ _ h
   ·rw [jbi] at h; exact wpAny_eqBool_str h
 «strs» := fun k x t v h => by
  rcases Xo h with ⟨i, u, rfl, e⟩ | ⟨y, u, rfl, e⟩
  ·exact nomatch e
  ·injection e with e1 _
   subst e1
   cases v <;> rfl
theorem XaG (prog : Program) (w : World) (i : Int) (t : Tok) : (Wq prog w).is (.inl i) (.int i t) = true := ZaX i t
theorem ZaH (prog : Program) (w : World) (x : Str) (t : Tok) : (Wq prog w).is (.inr x) (.str x t) = true := jaS x t
inductive V where
 | non | bl (b : Bool) | int (i : Int) | str (x : Str) | byt (b : Array UInt8) | flt (b : UInt64) | ref (a : Addr) | ty (n : String)
 deriving DecidableEq
def RelV : V -> Value -> Prop
 | .non, u => u = Value.none
 | .bl b, u => u = Value.bool b
 | .int i, u => ∃ t, u = Value.int i t
 | .str x, u => ∃ t, u = Value.str x t
 | .byt b, u => ∃ t, u = Value.bytes b t
 | .flt b, u => ∃ t, u = Value.float b t
 | .ref a, u => u = Value.ref a
 | .ty n, u => u = Value.type n
abbrev Vals : List V -> List Value -> Prop := Paired RelV
theorem Vals.length {xs : List V} {us : List Value} (r : Vals xs us) : xs.length = us.length := Paired.length r
theorem Vals.get : ∀ {xs : List V} {us : List Value} {i : Nat} {x : V}, Vals xs us -> xs[i]? = some x -> ∃ u, us[i]? = some u /\ RelV x u
 | _, _, _, _, .nil, e => by simp at e
 | _, _, 0, _, .cons r _, e => by simp at e; subst e; exact ⟨_, rfl, r⟩
 | _, _, i + 1, x, .cons _ t, e => by
  obtain ⟨u, h1, h2⟩ := Vals.get (i := i) (x := x) t (by simpa using e)
  exact ⟨u, by simpa using h1, h2⟩
theorem Vals.set {x : V} {u : Value} (r : RelV x u) : ∀ {xs : List V} {us : List Value} (i : Nat), Vals xs us -> Vals (xs.set i x) (us.set i u)
 | _, _, _, .nil => .nil
 | _, _, 0, .cons _ t => .cons r t
 | _, _, i + 1, .cons q t => .cons q (Vals.set r i t)
theorem Vals.append : ∀ {xs ys : List V} {us ws : List Value}, Vals xs us -> Vals ys ws -> Vals (xs ++ ys) (us ++ ws)
 | _, _, _, _, .nil, s => s
 | _, _, _, _, .cons r t, s => .cons r (Vals.append t s)
theorem Vals.take : ∀ {xs : List V} {us : List Value} (n : Nat), Vals xs us -> Vals (xs.take n) (us.take n)
 | _, _, 0, _ => .nil
 | _, _, _ + 1, .nil => .nil
 | _, _, n + 1, .cons r t => .cons r (Vals.take n t)
theorem Vals.drop : ∀ {xs : List V} {us : List Value} (n : Nat), Vals xs us -> Vals (xs.drop n) (us.drop n)
 | _, _, 0, r => r
 | _, _, _ + 1, .nil => .nil
 | _, _, n + 1, .cons _ t => Vals.drop n t
def RelO : Option V -> Option Value -> Prop
 | some v, some u => RelV v u
 | none, none => True
 | _, _ => False
def KV {κ : Type} : List (κ × V) -> List (κ × Value) -> Prop := Paired fun (p : κ × V) (q : κ × Value) => p.1 = q.1 /\ RelV p.2 q.2
noncomputable def kV : Key -> V
 | .inl i => .int i
 | .inr x => .str x
inductive HO where
 /-- a list -/
 | lst (xs : List V)
 /-- a tuple (never changes) -/
 | tup (xs : List V)
 /-- a dict whose keys are ints and texts; one whose keys are tuples of ints and texts (the empty one is both) -/
 | dK (kvs : List (Key × V)) | dT (kvs : List (List Key × V))
 /-- a set of ints: its members, its size -/
 | set (S : Int -> Bool) (n : Nat)
 /-- an instance of the class at C, its dict at dx, its attributes -/
 | ins (C dx : Addr) (fs : List (Str × V))
 /-- the dict of the instance at x -/
 | own (x : Addr)
 /-- the dict of an exception -/
 | xd (fs : List (Str × V))
 /-- a bound method, f of x -/
 | met (f x : Addr)
 /-- a range object lo, lo + 1, .. below hi -/
 | rng (lo hi : Int)
 /-- a thing that is known to the object (the script; a dict while a loop walks it): read, never written while it is so -/
 | frz (o : Obj) (u : HO)
 /-- a code object's table -/
 | tbl (ps : Array Value)
 /-- any other thing, by what is true of its one object (a def of one's own: SetO a S n := HO.ext fun h => ..) -/
 | ext (φ : Heap -> Prop)
noncomputable abbrev Hp := Addr -> Option HO
noncomputable def upd (H : Hp) (a : Addr) (o : HO) : Hp := fun b => if b = a then some o else H b
theorem wf {H : Hp} {a : Addr} {o : HO} : upd H a o a = some o := by unfold upd; rw [if_pos rfl]
theorem jc {H : Hp} {a b : Addr} {o : HO} (h : b ≠ a) : upd H a o b = H b := by unfold upd; rw [if_neg h]
theorem vc {H : Hp} {a b : Addr} {o : HO} (h : H a = some o) (h' : H b = none) : a ≠ b := by
 intro e; subst e; rw [h] at h'; cases h'
section
variable (P : Program) (w : World)
def ObjOk (H : Hp) (h : Heap) (a : Addr) : HO -> Prop
 | .lst xs => xs.length <= sizeLine /\ ∃ (its : List Value) (n : Nat), Vals xs its /\ h.get? a = some { cls := .type "list", data := .seq its.toArray n }
 | .tup xs => xs.length <= sizeLine /\ ∃ its : List Value, Vals xs its /\ IsTup h a its.toArray
 | .dK kvs => kvs.length <= sizeLine /\ (a == sysModules) = false /\ ∃ vs, KV kvs vs /\ h.DictOf (Wq P w) a vs
 | .dT kvs => kvs.length <= sizeLine /\ (a == sysModules) = false /\ ∃ xs : List (List Key × Addr × Value),
   Paired (fun (p : List Key × V) (q : List Key × Addr × Value) => p.1 = q.1 /\ H q.2.1 = some (.tup (p.1.map kV)) /\ RelV p.2 q.2.2) kvs xs ∧
   ∃ o es ep, h.get? a = some o /\ o.ExactDict /\ o.data = .dict es ep /\ es.toList = xs.map (entryOfKey (tupleKind (Wq P w))) /\ (xs.map (·.1)).Nodup
 | .set S n => h.SetOf (intKind P w) a S n
 | .ins C dx fs => H dx = some (.own a) /\ fs.length <= 1000 /\ dx ≠ a /\ h.get? a = some (PySem.W.instObj C dx) ∧
   ∃ mA, h.Ns1 dx mA /\ (∀ f, RelO (fs.lookup f) (mA f)) /\ PySem.Within mA (fs.map (·.1))
 | .own _ => ∃ o, h.get? a = some o
 | .xd fs => ∃ mA, h.Ns1 a mA /\ ∀ f, RelO (fs.lookup f) (mA f)
 | .rng lo hi => ∃ t u v, h.get? a = some { cls := .type "range", data := .fields #[.int lo t, .int hi u, .int 1 v] }
 | .frz o u => h.get? a = some o /\ ObjOk H h a u
 | .tbl ps => h.get? a = some { cls := .none, data := .fields ps }
 | .met f x => h.get? a = some (PySem.W.methodObj (.ref f) (.ref x))
 | .ext φ => φ h /\ (∃ o, h.get? a = some o) /\ ∀ h1 h2 : Heap, φ h1 -> (∀ o, h1.get? a = some o -> h2.get? a = some o) -> φ h2
def HOk (H : Hp) (h : Heap) : Prop := ∀ a o, H a = some o -> ObjOk P w H h a o
end
section
variable {P : Program} {w : World} {H H' : Hp} {h h' : Heap} {a : Addr} {o : HO}
theorem ObjOk.lt (x : ObjOk P w H h a o) : a < h.objs.size := by
 cases o with
 | lst xs => obtain ⟨_, _, _, _, e⟩ := x; exact uH e
 | tup xs => obtain ⟨_, _, _, p⟩ := x; exact p.lt
 | dK kvs => obtain ⟨_, _, _, _, o, _, _, e, _⟩ := x; exact uH e
 | dT kvs => obtain ⟨_, _, _, _, o, _, _, e, _⟩ := x; exact uH e
 | set S n => obtain ⟨o, _, _, _, e, _⟩ := x; exact uH e
 | ins C dx fs => obtain ⟨_, _, _, e, _⟩ := x; exact uH e
 | own y => obtain ⟨_, e⟩ := x; exact uH e
 | xd fs => obtain ⟨_, ⟨_, _, _, e, _⟩, _⟩ := x; exact uH e
 | rng lo hi => obtain ⟨_, _, _, e⟩ := x; exact uH e
 | frz ob u => obtain ⟨e, _⟩ := x; exact uH e
 | tbl ps => exact uH (show h.get? a = some _ from x)
 | met f y => exact uH (show h.get? a = some _ from x)
 | ext φ => obtain ⟨_, ⟨_, e⟩, _⟩ := x; exact uH e
theorem Paired.mapP {α β : Type} {F G : α -> β -> Prop} : ∀ {l₁ : List α} {l₂ : List β}, Paired F l₁ l₂ -> (∀ a b, F a b -> G a b) -> Paired G l₁ l₂
 | _, _, .nil, _ => .nil
 | _, _, .cons r t, f => .cons (f _ _ r) (Paired.mapP t f)
theorem ObjOk.stay (x : ObjOk P w H h a o) (k : ∀ b u, (b = a \/ H b = some (.own a)) -> h.get? b = some u -> h'.get? b = some u)
  (ho : ∀ b, H b = some (.own a) -> H' b = some (.own a)) (ht : ∀ b xs, H b = some (.tup xs) -> H' b = some (.tup xs)) : ObjOk P w H' h' a o := by
 induction o with
 | lst xs => obtain ⟨z, its, n, r, e⟩ := x; exact ⟨z, its, n, r, k _ _ (.inl rfl) e⟩
 | tup xs => obtain ⟨z, its, r, ob, e, c⟩ := x; exact ⟨z, its, r, ob, k _ _ (.inl rfl) e, c⟩
 | dK kvs => obtain ⟨z, y, vs, r, ob, es, ep, e, c⟩ := x; exact ⟨z, y, vs, r, ob, es, ep, k _ _ (.inl rfl) e, c⟩
 | dT kvs =>
  obtain ⟨z, y, xs, r, ob, es, ep, e, c⟩ := x
  exact ⟨z, y, xs, Paired.mapP r fun p q z => ⟨z.1, ht _ _ z.2.1, z.2.2⟩, ob, es, ep, k _ _ (.inl rfl) e, c⟩
 | set S n => obtain ⟨ob, es, ep, t, e, c⟩ := x; exact ⟨ob, es, ep, t, k _ _ (.inl rfl) e, c⟩
 | ins C dx fs =>
  obtain ⟨d, z, ne, e, mA, ⟨od, es, ep, e2, c⟩, r⟩ := x
  exact ⟨ho _ d, z, ne, k _ _ (.inl rfl) e, mA, ⟨od, es, ep, k _ _ (.inr d) e2, c⟩, r⟩
 | own y => obtain ⟨ob, e⟩ := x; exact ⟨ob, k _ _ (.inl rfl) e⟩
 | xd fs => obtain ⟨mA, ⟨od, es, ep, e, c⟩, r⟩ := x; exact ⟨mA, ⟨od, es, ep, k _ _ (.inl rfl) e, c⟩, r⟩
 | rng lo hi => obtain ⟨t, u, v, e⟩ := x; exact ⟨t, u, v, k _ _ (.inl rfl) e⟩
 | frz ob u ih => obtain ⟨e, q⟩ := x; exact ⟨k _ _ (.inl rfl) e, ih q⟩
 | tbl ps =>
  have e : h.get? a = some { cls := .none, data := .fields ps } := x
  show h'.get? a = some { cls := .none, data := .fields ps }
  exact k a _ (.inl rfl) e
 | met f y =>
  have e : h.get? a = some (PySem.W.methodObj (.ref f) (.ref y)) := x
  show h'.get? a = some (PySem.W.methodObj (.ref f) (.ref y))
  exact k a _ (.inl rfl) e
 | ext φ => obtain ⟨p, ⟨o, e⟩, st⟩ := x; exact ⟨st _ _ p fun o q => k _ _ (.inl rfl) q, ⟨o, k _ _ (.inl rfl) e⟩, st⟩
theorem HOk.lt (x : HOk P w H h) (e : H a = some o) : a < h.objs.size := (x a o e).lt
theorem HOk.fresh (x : HOk P w H h) (e : h.objs.size <= a) : H a = none := by
 cases q : H a with
 | none => rfl
 | some u => exact absurd (uV (x.lt q) e) (uq _)
theorem HOk.kept (x : HOk P w H h) (k : ∀ b u, h.get? b = some u -> h'.get? b = some u) : HOk P w H h' := fun a o e =>
 (x a o e).stay (fun b u _ q => k b u q) (fun _ q => q) fun _ _ q => q
theorem HOk.laid (x : HOk P w H h) (k : ∀ b u, h.get? b = some u -> h'.get? b = some u) (hp : h.objs.size <= a) (new : ObjOk P w (upd H a o) h' a o) : HOk P w (upd H a o) h' := fun b u e => by
 have hn := x.fresh hp
 by_cases hb : b = a
 ·subst hb; rw [wf] at e; cases e; exact new
 ·rw [jc hb] at e
  exact (x b u e).stay (fun c v _ q => k c v q) (fun c q => by rw [jc (vc q hn)]; exact q) fun c xs q => by rw [jc (vc q hn)]; exact q
end
def Rd (H : Hp) (a : Addr) (u : HO) : Prop := H a = some u \/ ∃ o, H a = some (.frz o u)
theorem Rd.ok {P : Program} {w : World} {H : Hp} {h : Heap} {a : Addr} {u : HO} (r : Rd H a u) (x : HOk P w H h) : ObjOk P w H h a u := by
 rcases r with r | ⟨o, r⟩
 ·exact x a u r
 ·obtain ⟨_, q⟩ := x a _ r
  exact q
def Mut : Option HO -> Prop
 | some (.lst _) => True
 | some (.dK _) => True
 | some (.dT _) => True
 | some (.set _ _) => True
 | some (.ins _ _ _) => True
 | some (.ext _) => True
 | _ => False
section
variable {P : Program} {w : World} {H : Hp} {h h' : Heap} {x e : Addr} {o' : HO}
theorem HOk.write (ok : HOk P w H h) (mu : Mut (H x)) (he : e = x \/ H e = some (.own x)) (k : ∀ b u, b ≠ e -> h.get? b = some u -> h'.get? b = some u) (heo : ∃ u, h'.get? e = some u)
  (new : ObjOk P w (upd H x o') h' x o') : HOk P w (upd H x o') h' := fun b u q => by
 have nown : ∀ c y, H c = some (.own y) -> c ≠ x := fun c y r z => by subst z; rw [r] at mu; exact mu
 have ntup : ∀ c xs, H c = some (.tup xs) -> c ≠ x := fun c xs r z => by subst z; rw [r] at mu; exact mu
 by_cases hb : b = x
 ·subst hb; rw [wf] at q; cases q; exact new
 ·rw [jc hb] at q
  by_cases hbe : b = e
  ·have q' : H b = some (.own x) := by
    rcases he with z | z
    ·exact absurd (hbe.trans z) hb
    ·rw [hbe]; exact z
   rw [q] at q'; cases q'
   obtain ⟨v, hv⟩ := heo
   exact ⟨v, by rw [hbe]; exact hv⟩
  ·refine (ok b u q).stay (fun c v hc r => k c v ?_ r) (fun c r => by rw [jc (nown c b r)]; exact r) fun c xs r => by rw [jc (ntup c xs r)]; exact r
   rcases hc with rfl | hc
   ·exact hbe
   ·rintro rfl
    rcases he with z | z
    ·exact nown c b hc z
    ·rw [hc] at z; cases z; exact hb rfl
end
structure Un (fs ex : List Addr) (H H' : Hp) (h h' : Heap) : Prop where
 keep : ∀ b o, h.get? b = some o -> H b = none -> b ∉ fs -> b ∉ ex -> h'.get? b = some o
 slot : ∀ b o, h.get? b = some o -> H b = none -> b ∈ fs -> b ∉ ex -> ∃ sl, h'.get? b = some { o with slots := sl }
 free : ∀ b o, h.get? b = some o -> H b = none -> b ∉ ex -> H' b = none
 there : ∀ b o, h.get? b = some o -> b ∉ ex -> ∃ o', h'.get? b = some o'
 tups : ∀ b xs, H b = some (.tup xs) -> H' b = some (.tup xs)
 frzs : ∀ b o u, H b = some (.frz o u) -> H' b = some (.frz o u)
 tbls : ∀ b ps, H b = some (.tbl ps) -> ∃ more, H' b = some (.tbl (ps ++ more))
section
variable {fs fs' ex ex' : List Addr} {H H1 H2 : Hp} {h h1 h2 h' : Heap} {a x e : Addr} {o : HO}
theorem Un.any (u : Un fs ex H H1 h h1) {b : Addr} {ob : Obj} (q : h.get? b = some ob) (n : H b = none) (hx : b ∉ ex) : ∃ sl, h1.get? b = some { ob with slots := sl } := by
 by_cases hb : b ∈ fs
 ·exact u.slot b ob q n hb hx
 ·exact ⟨ob.slots, u.keep b ob q n hb hx⟩
theorem Un.kept (k : ∀ b u, h.get? b = some u -> h'.get? b = some u) : Un fs ex H H h h' :=
 ⟨fun b ob q _ _ _ => k b ob q, fun b ob q _ _ _ => ⟨ob.slots, k b ob q⟩, fun _ _ _ n _ => n, fun b ob q _ => ⟨ob, k b ob q⟩, fun _ _ q => q, fun _ _ _ q => q, fun _ ps q => ⟨#[], by rw [q]; simp⟩⟩
theorem Un.refl : Un fs ex H H h h := Un.kept fun _ _ q => q
theorem Un.laid (k : ∀ b u, h.get? b = some u -> h'.get? b = some u) (hp : h.objs.size <= a) (hn : H a = none) : Un fs ex H (upd H a o) h h' where
 keep := fun b u q _ _ _ => k b u q
 slot := fun b u q _ _ _ => ⟨u.slots, k b u q⟩
 free := fun b u q n _ => by rw [jc (uZ (uV (uH q) hp))]; exact n
 there := fun b u q _ => ⟨u, k b u q⟩
 tups := fun b xs q => by rw [jc (vc q hn)]; exact q
 frzs := fun b u xs q => by rw [jc (vc q hn)]; exact q
 tbls := fun b ps q => ⟨#[], by rw [jc (vc q hn), q]; simp⟩
theorem Un.write (mu : Mut (H x)) (he : e = x \/ H e = some (.own x)) (k : ∀ b u, b ≠ e -> h.get? b = some u -> h'.get? b = some u) (heo : ∃ u, h'.get? e = some u) : Un fs ex H (upd H x o) h h' := by
 have hx : ∀ b, H b = none -> b ≠ x := fun b n z => by subst z; rw [n] at mu; exact mu
 have hb : ∀ b, H b = none -> b ≠ e := fun b n z => by
  subst z
  rcases he with r | r
  ·exact hx b n r
  ·rw [n] at r; cases r
 have hm : ∀ b u, H b = some u -> ¬ Mut (some u) -> b ≠ x := fun b u q nm z => by subst z; rw [q] at mu; exact nm mu
 refine ⟨fun b u q n _ _ => k b u (hb b n) q, fun b u q n _ _ => ⟨u.slots, k b u (hb b n) q⟩, fun b u q n _ => by rw [jc (hx b n)]; exact n, fun b u q _ => ?_,
  fun b xs q => by rw [jc (hm b _ q fun z => z)]; exact q, fun b u xs q => by rw [jc (hm b _ q fun z => z)]; exact q, fun b ps q => ⟨#[], by rw [jc (hm b _ q fun z => z), q]; simp⟩⟩
 by_cases hbe : b = e
 ·subst hbe; exact heo
 ·exact ⟨u, k b u hbe q⟩
end
noncomputable def trk (h : Heap) (H : Hp) : List Addr := (uv h.objs.size).filter fun a => (H a).isSome
noncomputable def vP (h : Heap) (H : Hp) : Heap := PySem.W.hideAll h (trk h H)
theorem YaV (h : Heap) (H : Hp) : (vP h H).objs.size = h.objs.size := PySem.W.hideAll_size _ _
theorem Xa4 {h : Heap} {H : Hp} {b : Addr} {o : Obj} (e : h.get? b = some o) (n : H b = none) : (vP h H).get? b = some o :=
 PySem.W.hideAll_get _ e fun hm => by
  have q : (H b).isSome = true := (List.mem_filter.mp hm).2
  rw [n] at q; simp at q
theorem wba {h : Heap} {H : Hp} {b : Addr} {o : Obj} (e : (vP h H).get? b = some o) : h.get? b = some o /\ H b = none := by
 have e' : h.get? b = some o := PySem.W.of_hideAll (trk h H) e
 refine ⟨e', ?_⟩
 cases q : H b with
 | none => rfl
 | some x =>
  have hm : b ∈ trk h H := List.mem_filter.mpr ⟨yL.mpr (uH e'), by simp [q]⟩
  have z : (vP h H).get? b = none := PySem.W.hideAll_none (trk h H) hm
  rw [z] at e; cases e
noncomputable def Zbc (g h : Heap) (L : Addr) : ZPO := (uv h.objs.size).filterMap fun a => if a = L \/ (g.get? a).isSome = true then none else (h.get? a).map fun o => (a, o)
noncomputable def rest (g h : Heap) (L d : Addr) : ZPO := (Zbc g h L).filter fun p => decide (p.1 ≠ d)
structure Mod (K : uC) (mg : Str -> Option Value) (base : Heap) : Prop where
 kin : K.In base
 glob : base.Ns mainGlobals mg
 blt : ∃ mb, base.Ns builtinsNs mb /\ ∀ x : Str, x ≠ "__name__" -> mb x = bootBuiltins x
 nolimit : base.NoLimit
structure Cx where
 prog : Program
 w : World
 K : uC
 mg : Str -> Option Value
 base : Heap
 A : Around
 N : List Str
 s₀ : Shared
 H₀ : Hp
 env : Env
 outer : List Env
 stack : List Env
 ex : List Addr
 fn : Str -> Bool
 calm : Bool
 pn : ZPO
 xe : ZVP
noncomputable def frs (l : List Env) : List Addr := l.filterMap (·.frame)
noncomputable abbrev Cx.fs (X : Cx) : List Addr := frs X.outer
def Vis (sc : Scope) (x : Str) : Prop := sc.names.lookup x = some .local \/ sc.names.lookup x = some .cell \/ sc.names.lookup x = some .free
def Loc (sc : Scope) (x : Str) : Prop := sc.names.lookup x = some .local \/ sc.names.lookup x = some .cell
def kbw (env : Env) (h : Heap) (m : Str -> Option Value) (x : Str) (u : Value) : Prop :=
 (env.kindOf x = some .local /\ m x = some u) \/ ((env.kindOf x = some .cell \/ env.kindOf x = some .free) /\ ∃ c, env.cells.lookup x = some c /\ h.IsCell c (some u))
structure Cx.Ok (X : Cx) : Prop where
 mod : Mod X.K X.mg X.base
 kind : X.env.scope.kind = .function
 glob : X.env.globals = mainGlobals
 blt : X.env.builtins = builtinsNs
 above : X.s₀.heap.objs.size <= X.env.locals
 inj : ∀ x y c, X.env.cells.lookup x = some c -> X.env.cells.lookup y = some c -> x = y
 has : ∀ x, (X.env.kindOf x = some .cell \/ X.env.kindOf x = some .free) -> ∃ c, X.env.cells.lookup x = some c
 cab : ∀ x c, X.fn x = true -> X.env.cells.lookup x = some c -> X.s₀.heap.objs.size <= c
 hd : X.calm = true -> X.A.handled = none
 frames : X.A.frames = some X.stack
 stk : X.stack = X.outer \/ (X.stack = X.env :: X.outer /\ X.env.frame = some X.env.locals)
 exf : ∀ b ∈ X.ex, b ≠ X.env.locals /\ ∀ x c, X.env.cells.lookup x = some c -> c ≠ b
 bs : ∀ b o, X.base.get? b = some o -> X.s₀.heap.get? b = some o /\ X.H₀ b = none
 bsz : X.base.objs.size <= X.s₀.heap.objs.size
 noex : ∀ b o, X.base.get? b = some o -> b ∉ X.ex
 exfs : ∀ b ∈ X.ex, b ∉ X.fs
 funs : X.s₀.heap.FunFrames X.base X.outer
 frf : ∀ b ∈ X.fs, X.H₀ b = none
structure Inv (X : Cx) (pins : ZPO) (σ : List (Option V)) (H : Hp) (s : Shared) : Prop where
 ok : X.Ok
 os : s.os = X.s₀.os
 bare : AllBare s.gens
 base : Un X.fs X.ex X.H₀ H X.s₀.heap s.heap
 loc : ∃ m, s.heap.Ns X.env.locals m /\ ∀ (i : Nat) (x : Str) (v : V), X.N[i]? = some x -> σ[i]? = some (some v) -> Vis X.env.scope x -> ∃ u, RelV v u /\ kbw X.env s.heap m x u
 cell : ∀ x c, X.env.cells.lookup x = some c -> ∃ v, s.heap.IsCell c v
 free : H X.env.locals = none
 freeC : ∀ x c, X.env.cells.lookup x = some c -> H c = none
 pin : ∀ p ∈ X.pn ++ pins, s.heap.get? p.1 = some p.2 /\ H p.1 = none /\ p.1 ≠ X.env.locals /\ p.1 ∉ X.fs /\ ∀ v, p.2.data ≠ .cell v
 hok : HOk X.prog X.w H s.heap
 len : σ.length = X.N.length
section
variable {X : Cx} {pins : ZPO} {σ : List (Option V)} {H H' : Hp} {s : Shared} {h' : Heap}
theorem Cx.Ok.nofr (ok : X.Ok) {b : Addr} {o : Obj} (e : X.base.get? b = some o) : b ∉ X.fs := fun hb => by
 have := (ok.funs.mem hb).1
 rw [e] at this; cases this
theorem Inv.bs (I : Inv X pins σ H s) : ∀ b o, X.base.get? b = some o -> s.heap.get? b = some o /\ H b = none := fun b o e =>
 ⟨I.base.keep b o (I.ok.bs b o e).1 (I.ok.bs b o e).2 (I.ok.nofr e) (I.ok.noex b o e), I.base.free b o (I.ok.bs b o e).1 (I.ok.bs b o e).2 (I.ok.noex b o e)⟩
theorem Inv.bk (I : Inv X pins σ H s) : ∀ b o, X.base.get? b = some o -> s.heap.get? b = some o := fun b o e => (I.bs b o e).1
theorem Inv.mod (I : Inv X pins σ H s) : Mod X.K X.mg X.base := I.ok.mod
theorem Inv.kIn (I : Inv X pins σ H s) : X.K.In s.heap := I.ok.mod.kin.keeps I.bk
theorem Inv.lt (I : Inv X pins σ H s) : X.env.locals < s.heap.objs.size := let ⟨_, hn, _⟩ := I.loc; hn.lt
theorem Inv.sz (I : Inv X pins σ H s) : X.s₀.heap.objs.size <= s.heap.objs.size := xD I.ok.above (x6 I.lt)
theorem Inv.nofs (I : Inv X pins σ H s) {a : Addr} (h : s.heap.objs.size <= a) : a ∉ X.fs := fun hb => by
 obtain ⟨_, o, ho, _⟩ := I.ok.funs.mem hb
 exact absurd (uV (uH ho) (xD I.sz h)) (uq _)
theorem Inv.cne (I : Inv X pins σ H s) : ∀ x c, X.env.cells.lookup x = some c -> c ≠ X.env.locals := fun x c e z => by
 obtain ⟨v, o, ho, hd⟩ := I.cell x c e
 obtain ⟨m, ⟨o', es, ep, ho', hd', _⟩, _⟩ := I.loc
 rw [z, ho'] at ho; cases ho; rw [hd'] at hd; cases hd
theorem Inv.funs (I : Inv X pins σ H s) : s.heap.FunFrames X.base X.outer := by
 have all : ∀ (l : List Env), (∀ b ∈ frs l, b ∈ X.fs) -> X.s₀.heap.FunFrames X.base l -> s.heap.FunFrames X.base l := by
  intro l
  induction l with
  | nil => intro _ _; trivial
  | cons env r ih =>
   intro hs hl
   obtain ⟨hk, ⟨L, o, hf, hn, ho, hd⟩, hr⟩ := hl
   have hL : L ∈ X.fs := hs L (by unfold frs; rw [List.filterMap_cons, hf]; exact ug)
   obtain ⟨sl, e⟩ := I.base.slot L o ho (I.ok.frf L hL) hL fun z => I.ok.exfs L z hL
   exact ⟨hk, ⟨L, _, hf, hn, e, hd⟩, ih (fun b hb => hs b (by unfold frs; rw [List.filterMap_cons, hf]; exact uQ _ hb)) hr⟩
 exact all X.outer (fun _ hb => hb) I.ok.funs
theorem Inv.stack (I : Inv X pins σ H s) : s.heap.FunFrames X.base X.stack := by
 rcases I.ok.stk with e | ⟨e, hf⟩
 ·rw [e]; exact I.funs
 ·rw [e]
  obtain ⟨m, hn, _⟩ := I.loc
  refine .cons (by rw [I.ok.kind]; decide) hf hn ?_ I.funs
  exact Heap.get?_none_of_le (xD I.ok.bsz I.ok.above)
theorem Inv.stkSub (I : Inv X pins σ H s) : ∀ b ∈ frs X.stack, b ∈ X.env.locals :: X.fs := fun b hb => by
 rcases I.ok.stk with e | ⟨e, hf⟩
 ·rw [e] at hb; exact uQ _ hb
 ·rw [e] at hb
  unfold frs at hb
  rw [List.filterMap_cons, hf] at hb
  exact hb
theorem Inv.stkFree (I : Inv X pins σ H s) : ∀ b ∈ frs X.stack, H b = none := fun b hb => by
 rcases uU.mp (I.stkSub b hb) with e | hb
 ·rw [e]; exact I.free
 ·obtain ⟨_, o, ho, _⟩ := I.ok.funs.mem hb
  exact I.base.free b o ho (I.ok.frf b hb) fun z => I.ok.exfs b z hb
theorem Inv.step {g' : Array GenState} {t' : Nat} {d' : Drawn} {ch : List Addr} (I : Inv X pins σ H s)
  (hch : ∀ b ∈ ch, (b ∈ X.ex \/ X.s₀.heap.objs.size <= b) /\ b ≠ X.env.locals /\ (∀ x c, X.env.cells.lookup x = some c -> c ≠ b) /\ ∀ p ∈ X.pn ++ pins, p.1 ≠ b)
  (keep : ∀ b o, b ≠ X.env.locals -> b ∉ X.fs -> b ∉ ch -> s.heap.get? b = some o -> H b = none -> h'.get? b = some o)
  (slot : ∀ b o, b ≠ X.env.locals -> b ∈ X.fs -> b ∉ ch -> s.heap.get? b = some o -> H b = none -> ∃ sl, h'.get? b = some { o with slots := sl }) (free : ∀ b o, b ∉ ch -> s.heap.get? b = some o -> H b = none -> H' b = none)
  (there : ∀ b o, b ∉ ch -> s.heap.get? b = some o -> ∃ o', h'.get? b = some o')
  (tups : ∀ b xs, H b = some (.tup xs) -> H' b = some (.tup xs)) (frzs : ∀ b o u, H b = some (.frz o u) -> H' b = some (.frz o u)) (tbls : ∀ b ps, H b = some (.tbl ps) -> ∃ more, H' b = some (.tbl (ps ++ more)))
  (ns : ∀ m, s.heap.Ns X.env.locals m -> h'.Ns X.env.locals m) (hok : HOk X.prog X.w H' h') (hg : AllBare g') :
  Inv X pins σ H' { s with heap := h', gens := g', drawn := d', toks := t' } := by
 have neL : ∀ b o, X.s₀.heap.get? b = some o -> b ≠ X.env.locals := fun b o e => uZ (uV (uH e) I.ok.above)
 have neC : ∀ b o, X.s₀.heap.get? b = some o -> b ∉ X.ex -> b ∉ ch := fun b o e hx hb => by
  rcases (hch b hb).1 with z | z
  ·exact hx z
  ·exact absurd (uV (uH e) z) (uq _)
 have cellK : ∀ x c, X.env.cells.lookup x = some c -> ∀ v, s.heap.IsCell c v -> h'.IsCell c v := fun x c e v w1_ => w1_.elim fun o z_ => z_.elim fun ho hd => by
  have nch : c ∉ ch := fun z => (hch c z).2.2.1 x c e rfl
  by_cases hc : c ∈ X.fs
  ·obtain ⟨sl, q⟩ := slot c o (I.cne x c e) hc nch ho (I.freeC x c e)
   exact ⟨_, q, hd⟩
  ·exact ⟨o, keep c o (I.cne x c e) hc nch ho (I.freeC x c e), hd⟩
 refine ⟨I.ok, I.os, hg, ⟨fun b o e n hb hx => ?_, fun b o e n hb hx => ?_, fun b o e n hx => ?_, fun b o e hx => ?_, fun b xs e => tups b xs (I.base.tups b xs e), fun b o xs e => frzs b o xs (I.base.frzs b o xs e), fun b ps e => ?_⟩, ?_, fun x c e => ?_, ?_, fun x c e => ?_, fun p hp => ?_, hok, I.len⟩
 ·exact keep b o (neL b o e) hb (neC b o e hx) (I.base.keep b o e n hb hx) (I.base.free b o e n hx)
 ·obtain ⟨sl, e1⟩ := I.base.slot b o e n hb hx
  obtain ⟨sl', e2⟩ := slot b _ (neL b o e) hb (neC b o e hx) e1 (I.base.free b o e n hx)
  exact ⟨sl', e2⟩
 ·obtain ⟨o', e1⟩ := I.base.there b o e hx
  exact free b o' (neC b o e hx) e1 (I.base.free b o e n hx)
 ·obtain ⟨o', e1⟩ := I.base.there b o e hx
  exact there b o' (neC b o e hx) e1
 ·obtain ⟨m1, e1⟩ := I.base.tbls b ps e
  obtain ⟨m2, e2⟩ := tbls b _ e1
  exact ⟨m1 ++ m2, by rw [e2, Array.append_assoc]⟩
 ·obtain ⟨m, hn, hl⟩ := I.loc
  refine ⟨m, ns m hn, fun i x v e1 e2 e3 => ?_⟩
  obtain ⟨u, r, l⟩ := hl i x v e1 e2 e3
  refine ⟨u, r, ?_⟩
  rcases l with l | ⟨k, c, e, z⟩
  ·exact .inl l
  ·exact .inr ⟨k, c, e, cellK x c e _ z⟩
 ·obtain ⟨v, z⟩ := I.cell x c e
  exact ⟨v, cellK x c e v z⟩
 ·obtain ⟨m, ⟨o, _, _, ho, _⟩, _⟩ := I.loc
  exact free _ o (fun z => (hch _ z).2.1 rfl) ho I.free
 ·obtain ⟨v, o, ho, hd⟩ := I.cell x c e
  exact free c o (fun z => (hch c z).2.2.1 x c e rfl) ho (I.freeC x c e)
 ·obtain ⟨e, n, ne, nf, d⟩ := I.pin p hp
  have nch : p.1 ∉ ch := fun z => (hch p.1 z).2.2.2 p hp rfl
  exact ⟨keep p.1 p.2 ne nf nch e n, free p.1 p.2 nch e n, ne, nf, d⟩
theorem Inv.un {t' : Nat} (I : Inv X pins σ H s) (u : Un X.fs [] H H' s.heap h') (hok : HOk X.prog X.w H' h') : Inv X pins σ H' { s with heap := h', toks := t' } := by
 obtain ⟨m, ⟨o, es, ep, ho, r⟩, _⟩ := id I.loc
 obtain ⟨sl, hL⟩ := u.any ho I.free (by simp)
 exact I.step (g' := s.gens) (d' := s.drawn) (ch := []) (fun _ z => nomatch z) (fun b o _ hb _ e n => u.keep b o e n hb (by simp)) (fun b o _ hb _ e n => u.slot b o e n hb (by simp)) (fun b o _ e n => u.free b o e n (by simp)) (fun b o _ e => u.there b o e (by simp)) u.tups u.frzs u.tbls (fun m' hm => by
  obtain ⟨o', es', ep', ho', r'⟩ := hm
  rw [ho] at ho'; cases ho'
  exact ⟨_, es', ep', hL, r'⟩) hok I.bare
theorem Inv.call {g' : Array GenState} {t' : Nat} {d' : Drawn} {ch : List Addr} (I : Inv X pins σ H s) (u : Un (frs X.stack) ch H H' s.heap h') (hok : HOk X.prog X.w H' h') (hg : AllBare g')
  (hch : ∀ b ∈ ch, (b ∈ X.ex \/ X.s₀.heap.objs.size <= b) /\ b ≠ X.env.locals /\ (∀ x c, X.env.cells.lookup x = some c -> c ≠ b) /\ ∀ p ∈ X.pn ++ pins, p.1 ≠ b) :
  Inv X pins σ H' { s with heap := h', gens := g', drawn := d', toks := t' } := by
 obtain ⟨m, ⟨o, es, ep, ho, r⟩, _⟩ := id I.loc
 obtain ⟨sl, hL⟩ := u.any ho I.free fun z => (hch _ z).2.1 rfl
 exact I.step (ch := ch) hch (fun b o hL hb hc e n => u.keep b o e n (fun z => (uU.mp (I.stkSub b z)).elim hL hb) hc) (fun b o _ _ hc e n => u.any e n hc) (fun b o hc e n => u.free b o e n hc) (fun b o hc e => u.there b o e hc) u.tups u.frzs u.tbls (fun m' hm => by
  obtain ⟨o', es', ep', ho', r'⟩ := hm
  rw [ho] at ho'; cases ho'
  exact ⟨_, es', ep', hL, r'⟩) hok hg
theorem Inv.turned {t' : Nat} {it : Addr} (I : Inv X pins σ H s) (k : ∀ b o, b ≠ it -> s.heap.get? b = some o -> h'.get? b = some o) (hn : H it = none) (hL : it ≠ X.env.locals)
  (h1 : it ∈ X.ex \/ X.s₀.heap.objs.size <= it) (h2 : ∀ x c, X.env.cells.lookup x = some c -> c ≠ it) (h3 : ∀ p ∈ X.pn ++ pins, p.1 ≠ it) : Inv X pins σ H { s with heap := h', toks := t' } := by
 have nit : ∀ b u, H b = some u -> b ≠ it := fun b u e z => by rw [z, hn] at e; cases e
 refine I.step (g' := s.gens) (d' := s.drawn) (ch := [it]) (fun b hb => ?_) (fun b o _ _ hc e _ => k b o (fun z => hc (by simp [z])) e) (fun b o _ _ hc e _ => ⟨o.slots, k b o (fun z => hc (by simp [z])) e⟩) (fun _ _ _ _ n => n)
  (fun b o hc e => ⟨o, k b o (fun z => hc (by simp [z])) e⟩) (fun _ _ e => e) (fun _ _ _ e => e) (fun b ps e => ⟨#[], by rw [e]; simp⟩) (fun m hm => ?_) (fun b u e => ?_) I.bare
 ·have e : b = it := by simpa using hb
  subst e
  exact ⟨h1, hL, h2, h3⟩
 ·obtain ⟨o, es, ep, ho, r⟩ := hm
  exact ⟨o, es, ep, k _ o (Ne.symm hL) ho, r⟩
 ·refine (I.hok b u e).stay (fun c v hc q => k c v ?_ q) (fun _ q => q) fun _ _ q => q
  rcases hc with z | z
  ·rw [z]; exact nit b u e
  ·exact nit c _ z
theorem Inv.tok (I : Inv X pins σ H s) (t : Nat) : Inv X pins σ H { s with toks := t } := I.un (h' := s.heap) (t' := t) Un.refl I.hok
theorem Inv.kept {t' : Nat} (I : Inv X pins σ H s) (k : ∀ b u, s.heap.get? b = some u -> h'.get? b = some u) : Inv X pins σ H { s with heap := h', toks := t' } := I.un (Un.kept k) (I.hok.kept k)
theorem Inv.laid {a : Addr} {o : HO} {t' : Nat} (I : Inv X pins σ H s) (k : ∀ b u, s.heap.get? b = some u -> h'.get? b = some u) (hp : s.heap.objs.size <= a) (new : ObjOk X.prog X.w (upd H a o) h' a o) :
  Inv X pins σ (upd H a o) { s with heap := h', toks := t' } := I.un (Un.laid k hp (I.hok.fresh hp)) (I.hok.laid k hp new)
theorem Inv.write {x e : Addr} {o : HO} {t' : Nat} (I : Inv X pins σ H s) (mu : Mut (H x)) (he : e = x \/ H e = some (.own x)) (k : ∀ b u, b ≠ e -> s.heap.get? b = some u -> h'.get? b = some u) (heo : ∃ u, h'.get? e = some u)
  (new : ObjOk X.prog X.w (upd H x o) h' x o) : Inv X pins σ (upd H x o) { s with heap := h', toks := t' } := I.un (Un.write mu he k heo) (I.hok.write mu he k heo new)
theorem Inv.pins_of {pins' : ZPO} (I : Inv X pins σ H s) (h : ∀ p ∈ pins', s.heap.get? p.1 = some p.2 /\ H p.1 = none /\ p.1 ≠ X.env.locals /\ p.1 ∉ X.fs /\ ∀ v, p.2.data ≠ .cell v) : Inv X pins' σ H s :=
 ⟨I.ok, I.os, I.bare, I.base, I.loc, I.cell, I.free, I.freeC, fun p hp => (uj.mp hp).elim (fun z => I.pin p (x8 _ z)) (h p), I.hok, I.len⟩
theorem ZaB {N : List Str} (hN : N.Nodup) {i j : Nat} {x : Str} (a : N[i]? = some x) (b : N[j]? = some x) : i = j := by
 obtain ⟨h1, e1⟩ := uY.mp a
 obtain ⟨h2, e2⟩ := uY.mp b
 exact (List.getElem_inj hN).mp (e1.trans e2.symm)
theorem waY {M : Model} {A : Around} {E : ZVP} {i : Nat} {x : Str} {v : V} {u : Value} {Q : Unit -> Shared -> Prop} (I : Inv X pins σ H s) (hN : X.N.Nodup) (hi : X.N[i]? = some x) (hx : Loc X.env.scope x) (r : RelV v u)
  (h : ∀ s', Inv X pins (σ.set i (some v)) H s' -> (∃ a, xk a s.heap s'.heap /\ (a = X.env.locals \/ X.env.cells.lookup x = some a)) -> Q () s') (hf : X.fn x = true \/ X.env.scope.names.lookup x = some .local := by first | exact .inl rfl | exact .inr rfl | assumption) : wpAny M A (storeName X.env x u) Q E s := by
 obtain ⟨m, hn, hl⟩ := id I.loc
 have hcls : (X.env.scope.kind == .class || (X.env.scope.kind == .module && X.env.locals != X.env.globals)) = false := by rw [I.ok.kind]; rfl
 have hiσ : i < σ.length := by rw [I.len]; exact (uY.mp hi).1
 have cne := I.cne
 have tracked : ∀ {a : Addr} {h' : Heap}, (∃ o, s.heap.get? a = some o /\ H a = none) -> xk a s.heap h' -> HOk X.prog X.w H h' := fun {a h'} ha hs b ob e => by
  obtain ⟨_, _, hfree⟩ := ha
  refine (I.hok b ob e).stay (fun c w' hc q => (hs.2 c ?_).trans q) (fun _ q => q) fun _ _ q => q
  rintro rfl
  rcases hc with rfl | hc
  ·rw [hfree] at e; cases e
  ·rw [hfree] at hc; cases hc
 rcases hx with hk | hk
 ·refine wpAny_storeName_local hk hn (fun h' hn' hs => ?_) hcls
  obtain ⟨oL, _, _, hoL, _⟩ := id hn
  refine h _ ⟨I.ok, I.os, I.bare, ⟨fun b o e n hb hx => ?_, fun b o e n hb hx => ?_, I.base.free, fun b o e hx => ?_, I.base.tups, I.base.frzs, I.base.tbls⟩, ⟨_, hn', fun j y v' e1 e2 e3 => ?_⟩, fun y c e => ?_, I.free, I.freeC, fun p hp => ?_, tracked ⟨oL, hoL, I.free⟩ hs, by simpa using I.len⟩ ⟨_, hs, .inl rfl⟩
  ·exact (hs.2 b (uZ (uV (uH e) I.ok.above))).trans (I.base.keep b o e n hb hx)
  ·obtain ⟨sl, e1⟩ := I.base.slot b o e n hb hx
   exact ⟨sl, (hs.2 b (uZ (uV (uH e) I.ok.above))).trans e1⟩
  ·obtain ⟨o', e1⟩ := I.base.there b o e hx
   exact ⟨o', (hs.2 b (uZ (uV (uH e) I.ok.above))).trans e1⟩
  ·by_cases hj : j = i
   ·subst hj
    rw [hi] at e1; cases e1
    rw [xo hiσ] at e2
    cases e2
    exact ⟨u, r, .inl ⟨hk, by simp⟩⟩
   ·rw [x9 (Ne.symm hj)] at e2
    obtain ⟨u', r', q⟩ := hl j y v' e1 e2 e3
    refine ⟨u', r', ?_⟩
    rcases q with ⟨k, e⟩ | ⟨k, c, e, z⟩
    ·refine .inl ⟨k, ?_⟩
     have : y ≠ x := fun e => hj (ZaB hN e1 (e ▸ hi))
     simp [this, e]
    ·exact .inr ⟨k, c, e, z.sameBut hs (cne y c e)⟩
  ·obtain ⟨w', z⟩ := I.cell y c e
   exact ⟨w', z.sameBut hs (cne y c e)⟩
  ·obtain ⟨e, n, ne, nf, d⟩ := I.pin p hp
   exact ⟨(hs.2 p.1 ne).trans e, n, ne, nf, d⟩
 ·have hfn : X.fn x = true := by
   rcases hf with z | z
   ·exact z
   ·rw [z] at hk; cases hk
  obtain ⟨c, hc⟩ := I.ok.has x (.inl hk)
  obtain ⟨w', z⟩ := I.cell x c hc
  refine wpAny_storeName_cell I.ok.kind hk hc z (fun h' hc' hs => ?_)
  obtain ⟨oc, hoc, hocd⟩ := id z
  refine h { s with heap := h' } ⟨I.ok, I.os, I.bare, ⟨fun b o e n hb hx => ?_, fun b o e n hb hx => ?_, I.base.free, fun b o e hx => ?_, I.base.tups, I.base.frzs, I.base.tbls⟩, ⟨m, hn.sameBut hs (Ne.symm (cne x c hc)), fun j y v' e1 e2 e3 => ?_⟩, fun y c' e => ?_, I.free, I.freeC, fun p hp => ?_, tracked ⟨oc, hoc, I.freeC x c hc⟩ hs, by simpa using I.len⟩ ⟨c, hs, .inr hc⟩
  ·exact (hs.2 b (uZ (uV (uH e) (I.ok.cab x c hfn hc)))).trans (I.base.keep b o e n hb hx)
  ·obtain ⟨sl, e1⟩ := I.base.slot b o e n hb hx
   exact ⟨sl, (hs.2 b (uZ (uV (uH e) (I.ok.cab x c hfn hc)))).trans e1⟩
  ·obtain ⟨o', e1⟩ := I.base.there b o e hx
   exact ⟨o', (hs.2 b (uZ (uV (uH e) (I.ok.cab x c hfn hc)))).trans e1⟩
  ·by_cases hj : j = i
   ·subst hj
    rw [hi] at e1; cases e1
    rw [xo hiσ] at e2
    cases e2
    exact ⟨u, r, .inr ⟨.inl hk, c, hc, hc'⟩⟩
   ·rw [x9 (Ne.symm hj)] at e2
    obtain ⟨u', r', q⟩ := hl j y v' e1 e2 e3
    refine ⟨u', r', ?_⟩
    rcases q with q | ⟨k, c', e, z'⟩
    ·exact .inl q
    ·refine .inr ⟨k, c', e, z'.sameBut hs ?_⟩
     rintro rfl
     exact hj (ZaB hN e1 (I.ok.inj _ _ _ e hc ▸ hi))
  ·by_cases hcc : c' = c
   ·subst hcc; exact ⟨_, hc'⟩
   ·obtain ⟨w2, z2⟩ := I.cell y c' e
    exact ⟨w2, z2.sameBut hs hcc⟩
  ·obtain ⟨e, n, ne, nf, d⟩ := I.pin p hp
   refine ⟨(hs.2 p.1 ?_).trans e, n, ne, nf, d⟩
   intro q
   rw [q, hoc] at e
   have q' : oc = p.2 := Option.some.inj e
   exact d w' (by rw [← q']; exact hocd)
theorem wT {M : Model} {A : Around} {E : ZVP} {i : Nat} {x : Str} {v : V} {u : Value} {Q : Unit -> Shared -> Prop} (I : Inv X pins σ H s) (hN : X.N.Nodup) (hi : X.N[i]? = some x) (hx : Loc X.env.scope x) (r : RelV v u)
  (h : ∀ s', Inv X pins (σ.set i (some v)) H s' -> Q () s') (hf : X.fn x = true \/ X.env.scope.names.lookup x = some .local := by first | exact .inl rfl | exact .inr rfl | assumption) : wpAny M A (storeName X.env x u) Q E s :=
 waY I hN hi hx r (fun s' I' _ => h s' I') hf
theorem Inv.call' {s' : Shared} {ch : List Addr} (I : Inv X pins σ H s) (ho : s'.os = s.os) (u : Un (frs X.stack) ch H H' s.heap s'.heap) (hok : HOk X.prog X.w H' s'.heap) (hg : AllBare s'.gens)
  (hch : ∀ b ∈ ch, (b ∈ X.ex \/ X.s₀.heap.objs.size <= b) /\ b ≠ X.env.locals /\ (∀ x c, X.env.cells.lookup x = some c -> c ≠ b) /\ ∀ p ∈ X.pn ++ pins, p.1 ≠ b) : Inv X pins σ H' s' := by
 obtain ⟨h', g', d', t', o'⟩ := s'
 have e : o' = s.os := ho
 subst e
 exact I.call (g' := g') (t' := t') (d' := d') u hok hg hch
end
noncomputable abbrev XK := Value -> Option Addr -> Hp -> Prop
noncomputable abbrev St := List (Option V)
noncomputable abbrev VK := V -> Hp -> Prop
noncomputable abbrev TE := St -> Hp -> VK -> Prop
noncomputable abbrev TT := St -> Hp -> (Bool -> Hp -> Prop) -> Prop
noncomputable abbrev TA := St -> Hp -> (List V -> Hp -> Prop) -> Prop
structure XU where
 nx : St -> Hp -> Prop
 rt : VK
 bk : St -> Hp -> Prop := fun _ _ => False
 ct : St -> Hp -> Prop := fun _ _ => False
noncomputable abbrev TS := XU -> St -> Hp -> Prop
def EP (X : Cx) (pins : ZPO) (σ : St) (Q : VK) (u : Value) (s' : Shared) : Prop := ∃ v H', Inv X pins σ H' s' /\ RelV v u /\ Q v H'
def TP (X : Cx) (pins : ZPO) (σ : St) (Q : Bool -> Hp -> Prop) (b : Bool) (s' : Shared) : Prop := ∃ H', Inv X pins σ H' s' /\ Q b H'
def AP (X : Cx) (pins : ZPO) (σ : St) (Q : List V -> Hp -> Prop) (us : List Value) (s' : Shared) : Prop := ∃ vs H', Inv X pins σ H' s' /\ Vals vs us /\ Q vs H'
def SP (X : Cx) (pins : ZPO) (D : XU) (f : Flow) (s' : Shared) : Prop :=
 match f with
 | .next => ∃ σ' H', Inv X pins σ' H' s' /\ D.nx σ' H'
 | .brk => ∃ σ' H', Inv X pins σ' H' s' /\ D.bk σ' H'
 | .cont => ∃ σ' H', Inv X pins σ' H' s' /\ D.ct σ' H'
 | .ret u => ∃ v σ' H', Inv X pins σ' H' s' /\ RelV v u /\ D.rt v H'
def PE (X : Cx) (e : Expr) (t : TE) : Prop :=
 ∀ (pins : ZPO) (s : Shared) (σ : St) (H : Hp) (Q : VK), Inv X pins σ H s -> t σ H Q -> wpAny (model X.prog X.w) X.A (eval e X.env) (EP X pins σ Q) X.xe s
def PT (X : Cx) (e : Expr) (t : TT) : Prop :=
 ∀ (pins : ZPO) (s : Shared) (σ : St) (H : Hp) (Q : Bool -> Hp -> Prop), Inv X pins σ H s -> t σ H Q -> wpAny (model X.prog X.w) X.A (isTrue e X.env (eval e X.env)) (TP X pins σ Q) X.xe s
def PW (X : Cx) (e : Expr) (t : TT) : Prop :=
 ∀ (whole : Sem Value) (pins : ZPO) (s : Shared) (σ : St) (H : Hp) (Q : Bool -> Hp -> Prop), Inv X pins σ H s -> t σ H Q -> wpAny (model X.prog X.w) X.A (isTrue e X.env whole) (TP X pins σ Q) X.xe s
theorem PW.pt {X : Cx} {e : Expr} {t : TT} (h : PW X e t) : PT X e t := h _
def PA (X : Cx) (es : List Expr) (t : TA) : Prop :=
 ∀ (pos : Pos) (pins : ZPO) (s : Shared) (σ : St) (H : Hp) (Q : List V -> Hp -> Prop), Inv X pins σ H s -> t σ H Q -> wpAny (model X.prog X.w) X.A (spliced (backTo pos (starEach es X.env))) (AP X pins σ Q) X.xe s
def PS (X : Cx) (st : Stmt) (t : TS) : Prop :=
 ∀ (pins : ZPO) (s : Shared) (σ : St) (H : Hp) (D : XU), Inv X pins σ H s -> t D σ H -> wpAny (model X.prog X.w) X.A (exec st X.env) (SP X pins D) X.xe s
def PSs (X : Cx) (st : List Stmt) (t : TS) : Prop :=
 ∀ (pins : ZPO) (s : Shared) (σ : St) (H : Hp) (D : XU), Inv X pins σ H s -> t D σ H -> wpAny (model X.prog X.w) X.A (execs st X.env) (SP X pins D) X.xe s
theorem thn {α : Type} {t : Sem α} {Q Q' : α -> Shared -> Prop} {M : Model} {A : Around} {E : ZVP} {s : Shared} (h : wpAny M A t Q E s) (hQ : ∀ a s, Q a s -> Q' a s) : wpAny M A t Q' E s := wpAny_mono h hQ fun _ _ x => x
theorem Xv {t : Sem Value} {X : Cx} {pins : ZPO} {σ : St} {Q : VK} {Q' : ZVP} {M : Model} {A : Around} {E : ZVP} {s : Shared} (h : wpAny M A t (EP X pins σ Q) E s) (k : ∀ u s' v H', Inv X pins σ H' s' -> RelV v u -> Q v H' -> Q' u s') : wpAny M A t Q' E s := thn h fun u s' z => by obtain ⟨v, H', a, b, c⟩ := z; exact k u s' v H' a b c
theorem XaP {t : Sem Bool} {X : Cx} {pins : ZPO} {σ : St} {Q : Bool -> Hp -> Prop} {Q' : Bool -> Shared -> Prop} {M : Model} {A : Around} {E : ZVP} {s : Shared} (h : wpAny M A t (TP X pins σ Q) E s) (k : ∀ u s' H', Inv X pins σ H' s' -> Q u H' -> Q' u s') : wpAny M A t Q' E s := thn h fun u s' z => by obtain ⟨H', a, c⟩ := z; exact k u s' H' a c
theorem vaa {t : Sem (List Value)} {X : Cx} {pins : ZPO} {σ : St} {Q : List V -> Hp -> Prop} {Q' : List Value -> Shared -> Prop} {M : Model} {A : Around} {E : ZVP} {s : Shared} (h : wpAny M A t (AP X pins σ Q) E s) (k : ∀ u s' v H', Inv X pins σ H' s' -> Vals v u -> Q v H' -> Q' u s') : wpAny M A t Q' E s := thn h fun u s' z => by obtain ⟨v, H', a, b, c⟩ := z; exact k u s' v H' a b c
section
variable {X : Cx}
def Wby (i : Nat) : TE := fun σ H Q => ∃ v, σ[i]? = some (some v) /\ Q v H
def tC (v : V) : TE := fun _ H Q => Q v H
theorem Wbl {i : Nat} {x : Str} {pos : Pos} (hN : X.N[i]? = some x) (hv : Vis X.env.scope x) (hd : (x == ("__debug__" : Str)) = false := by decide) (hcd : (x == ("__classdict__" : Str)) = false := by decide) : PE X (.Name x pos) (Wby i) := by
 intro pins s σ H Q I h
 obtain ⟨v, e, h⟩ := h
 obtain ⟨m, hn, hl⟩ := I.loc
 obtain ⟨u, r, l⟩ := hl i x v hN e hv
 have fin : EP X pins σ Q u s := ⟨v, H, I, r, h⟩
 rcases l with ⟨hk, hm⟩ | ⟨hk, c, hc, hcell⟩
 ·exact wpAny_Name (wpAny_loadName_local I.ok.kind hk hn hm fin) hd
 ·rcases hk with hk | hk
  ·exact wpAny_Name (wpAny_loadName_cell I.ok.kind hk hc hcell fin) hd
  ·exact wpAny_Name (wpAny_loadName_free I.ok.kind hk hc hcell fin hcd) hd
theorem vbq {i j pos} : PE X (.Constant (.int i) j pos) (tC (.int i)) := fun _ _ _ H _ I h => wpAny_Constant_int ⟨.int i, H, I.tok _, ⟨_, rfl⟩, h⟩
theorem qbs {b j pos} : PE X (.Constant (.bool b) j pos) (tC (.bl b)) := fun _ _ _ H _ I h => Constant_bool ⟨.bl b, H, I, rfl, h⟩
theorem Wbj {j pos} : PE X (.Constant .none j pos) (tC .non) := fun _ _ _ H _ I h => Constant_none ⟨.non, H, I, rfl, h⟩
theorem Xbp {x j pos} : PE X (.Constant (.str x) j pos) (tC (.str x)) := fun _ _ _ H _ I h => Calls.Constant_str ⟨.str x, H, I.tok _, ⟨_, rfl⟩, h⟩
def Gl (X : Cx) (x : Str) : Prop := X.env.kindOf x = some .globalImplicit
theorem qak {E : ZVP} {pins : ZPO} {s : Shared} {σ : St} {H : Hp} {x : Str} {u : Value} {pos : Pos} {Q : ZVP} (I : Inv X pins σ H s) (hg : Gl X x) (hm : X.mg x = some u) (h : Q u s)
  (hd : (x == ("__debug__" : Str)) = false := by decide) : wpAny (model X.prog X.w) X.A (eval (.Name x pos) X.env) Q E s :=
 Calls.Name_function_global I.ok.kind hg (Calls.loadGlobal_global (by rw [I.ok.glob]; exact I.mod.glob.keeps I.bk) hm h) hd
theorem kq {E : ZVP} {pins : ZPO} {s : Shared} {σ : St} {H : Hp} {x : Str} {u : Value} {pos : Pos} {Q : ZVP} (I : Inv X pins σ H s) (hg : Gl X x) (hm : X.mg x = none) (hv : bootBuiltins x = some u) (h : Q u s)
  (hn : x ≠ "__name__" := by decide) (hd : (x == ("__debug__" : Str)) = false := by decide) : wpAny (model X.prog X.w) X.A (eval (.Name x pos) X.env) Q E s := by
 obtain ⟨mb, h1, h2⟩ := I.mod.blt
 exact Calls.Name_function_global I.ok.kind hg (Calls.loadGlobal_builtin (by rw [I.ok.glob]; exact I.mod.glob.keeps I.bk) hm (by rw [I.ok.blt]; exact h1.keeps I.bk) ((h2 x hn).trans hv) h) hd
theorem kaI {x : Str} {v : V} {u : Value} {pos : Pos} (hg : Gl X x) (hm : X.mg x = some u) (r : RelV v u) (hd : (x == ("__debug__" : Str)) = false := by decide) : PE X (.Name x pos) (tC v) :=
 fun _ _ _ H _ I h => qak I hg hm ⟨v, H, I, r, h⟩ hd
theorem kbh {x : Str} {v : V} {u : Value} {pos : Pos} (hg : Gl X x) (hm : X.mg x = none) (hv : bootBuiltins x = some u) (r : RelV v u) (hn : x ≠ "__name__" := by decide) (hd : (x == ("__debug__" : Str)) = false := by decide) : PE X (.Name x pos) (tC v) :=
 fun _ _ _ H _ I h => kq I hg hm hv ⟨v, H, I, r, h⟩ hn hd
variable {a b : Expr} {ta tb : TE} {pos : Pos}
def PC (X : Cx) (op : CmpOp) (a b : Expr) (t : TE) : Prop :=
 ∀ (pins : ZPO) (s : Shared) (σ : St) (H : Hp) (Q : VK), Inv X pins σ H s -> t σ H Q →
  wpAny (model X.prog X.w) X.A (eval a X.env) (fun v s₁ => wpAny (model X.prog X.w) X.A (eval b X.env) (fun u s₂ => wpAny (model X.prog X.w) X.A (compareOp op v u) (EP X pins σ Q) X.xe s₂) X.xe s₁) X.xe s
def tB (t : TE) : TT := fun σ H Q => t σ H fun x H1 => ∃ c, x = .bl c /\ Q c H1
theorem Xbr {op : CmpOp} {t : TE} (h : PC X op a b t) (h1 : behindInMarks op b = false := by first | exact nobehind _ (by decide) (by decide) | rfl) : PT X (.Compare a [op] [b] pos) (tB t) := by
 intro pins s σ H Q I hw
 refine wpAny_isTrue_Compare1 (thn (h pins s σ H _ I hw) fun v s1 h1 => thn h1 fun u s2 h2 => Xv h2 fun c s3 x H1 I1 r1 q1 => ?_) h1
 obtain ⟨d, rfl, q⟩ := q1
 cases r1
 exact wpAny_truthy_bool ⟨H1, I1, q⟩
variable {tA tB' : TT} {rest : List Expr}
def Xbw (t u : TT) : TT := fun σ H Q => t σ H fun c H1 => if c = true then u σ H1 Q else Q false H1
def tOr (t u : TT) : TT := fun σ H Q => t σ H fun c H1 => if c = true then Q true H1 else u σ H1 Q
def jbx (t : TT) : TT := fun σ H Q => t σ H fun c H1 => Q (!c) H1
theorem qbi (ha : PT X a tA) : PW X (.BoolOp .And [a] pos) tA := by
 intro wh pins s σ H Q I h
 refine isTrue_and (thn (ha pins s σ H Q I h) fun c s1 e => ?_)
 cases c with
 | true => exact isTrue_and_nil e
 | false => exact e
theorem wbp (ha : PT X a tA) : PW X (.BoolOp .Or [a] pos) tA := by
 intro wh pins s σ H Q I h
 refine isTrue_or (thn (ha pins s σ H Q I h) fun c s1 e => ?_)
 cases c with
 | false => exact isTrue_or_nil e
 | true => exact e
theorem qbq (ha : PT X a tA) (hb : PW X (.BoolOp .And (b :: rest) pos) tB') : PW X (.BoolOp .And (a :: b :: rest) pos) (Xbw tA tB') := by
 intro wh pins s σ H Q I h
 refine isTrue_and (XaP (ha pins s σ H _ I h) fun c s1 H1 I1 q1 => ?_)
 cases c with
 | true => exact hb wh pins s1 σ H1 Q I1 q1
 | false => exact ⟨H1, I1, q1⟩
theorem jbu (ha : PT X a tA) (hb : PW X (.BoolOp .Or (b :: rest) pos) tB') : PW X (.BoolOp .Or (a :: b :: rest) pos) (tOr tA tB') := by
 intro wh pins s σ H Q I h
 refine isTrue_or (XaP (ha pins s σ H _ I h) fun c s1 H1 I1 q1 => ?_)
 cases c with
 | true => exact ⟨H1, I1, q1⟩
 | false => exact hb wh pins s1 σ H1 Q I1 q1
theorem Zbk (ha : PT X a tA) : PT X (.UnaryOp .Not a pos) (jbx tA) := by
 intro pins s σ H Q I h
 exact isTrue_not (ha pins s σ H (fun c H1 => Q (!c) H1) I h)
def kbs (ta tb : TE) : TE := fun σ H Q => ta σ H fun x H1 => ∃ c, x = .bl c /\ if c = true then tb σ H1 Q else Q (.bl false) H1
def Xbt (ta : TE) : TE := fun σ H Q => ta σ H fun x H1 => ∃ c, x = .bl c /\ Q (.bl (!c)) H1
theorem jbn {op} {t : TE} (h : PE X a t) : PE X (.BoolOp op [a] pos) t := fun pins s σ H Q I hw => BoolOp_one (h pins s σ H Q I hw)
theorem jbk (ha : PE X a ta) (hb : PE X (.BoolOp .And (b :: rest) pos) tb) : PE X (.BoolOp .And (a :: b :: rest) pos) (kbs ta tb) := by
 intro pins s σ H Q I h
 refine BoolOp_and (Xv (ha pins s σ H _ I h) fun v s1 x H1 I1 r1 q1 => ?_)
 obtain ⟨c, rfl, q1⟩ := q1
 cases r1
 refine wpAny_truthy_bool ?_
 cases c with
 | true => exact hb pins s1 σ H1 Q I1 q1
 | false => exact ⟨.bl false, H1, I1, rfl, q1⟩
theorem Ybq (ha : PE X a ta) : PE X (.UnaryOp .Not a pos) (Xbt ta) := by
 intro pins s σ H Q I h
 refine UnaryOp_ (Xv (ha pins s σ H _ I h) fun v s1 x H1 I1 r1 q1 => ?_)
 obtain ⟨c, rfl, q1⟩ := q1
 cases r1
 exact not_of (wpAny_truthy_bool ⟨.bl (!c), H1, I1, rfl, q1⟩)
def tIf (t : TT) (ta tb : TE) : TE := fun σ H Q => t σ H fun c H1 => if c = true then ta σ H1 Q else tb σ H1 Q
theorem Wa7 {c : Expr} (hc : PT X c tA) (ha : PE X a ta) (hb : PE X b tb) : PE X (.IfExp c a b pos) (tIf tA ta tb) := by
 intro pins s σ H Q I h
 refine wpAny_IfExp (XaP (hc pins s σ H _ I h) fun d s1 H1 I1 q1 => ?_)
 cases d with
 | true => exact ha pins s1 σ H1 Q I1 q1
 | false => exact hb pins s1 σ H1 Q I1 q1
end
def SqL (K : uC) (H : Hp) (a : Addr) (xs : List V) : Prop :=
 Rd H a (.lst xs) \/
  ∃ (o : Obj) (its : Array Value) (n : Nat), K.lookup a = some o /\ o.cls = .type "list" /\ o.dict = none /\ o.data = .seq its n /\ its.size <= sizeLine /\ Vals xs its.toList
def SqT (K : uC) (H : Hp) (a : Addr) (xs : List V) : Prop :=
 Rd H a (.tup xs) \/
  ∃ (o : Obj) (its : Array Value) (n : Nat), K.lookup a = some o /\ o.cls = .type "tuple" /\ o.data = .seq its n /\ its.size <= sizeLine /\ Vals xs its.toList
noncomputable def Zby : Value -> Option V
 | .none => some .non
 | .bool b => some (.bl b)
 | .int i _ => some (.int i)
 | .str x _ => some (.str x)
 | .bytes b _ => some (.byt b)
 | .float b _ => some (.flt b)
 | .ref a => some (.ref a)
 | .type n => some (.ty n)
 | _ => none
theorem RelV.abs {x : V} {u : Value} (r : RelV x u) : Zby u = some x := by
 cases x with
 | non => cases r; rfl
 | bl _ => cases r; rfl
 | int _ => obtain ⟨t, rfl⟩ := r; rfl
 | str _ => obtain ⟨t, rfl⟩ := r; rfl
 | byt _ => obtain ⟨t, rfl⟩ := r; rfl
 | flt _ => obtain ⟨t, rfl⟩ := r; rfl
 | ref _ => cases r; rfl
 | ty _ => cases r; rfl
theorem RelV.inj {x y : V} {u : Value} (r : RelV x u) (q : RelV y u) : x = y := Option.some.inj (r.abs.symm.trans q.abs)
theorem Vals.inj : ∀ {xs ys : List V} {us : List Value}, Vals xs us -> Vals ys us -> xs = ys
 | _, _, _, .nil, .nil => rfl
 | _, _, _, .cons r t, .cons r' t' => by rw [r.inj r', Vals.inj t t']
section
variable {X : Cx} {pins : ZPO} {σ : St} {H : Hp} {s : Shared} {a : Addr} {xs ys : List V}
theorem Inv.list (I : Inv X pins σ H s) (h : SqL X.K H a xs) : ∃ its : List Value, Vals xs its /\ PlainL s.heap a its.toArray /\ xs.length <= sizeLine := by
 rcases h with h | ⟨o, its, n, hk, hc, hd, hs, hz, r⟩
 ·obtain ⟨z, its, n, r, e⟩ := h.ok I.hok
  exact ⟨its, r, ⟨_, n, e, rfl, rfl, rfl⟩, z⟩
 ·refine ⟨its.toList, r, ⟨o, n, I.kIn a o hk, hc, hd, by simpa using hs⟩, ?_⟩
  have e := r.length
  simp only [uR] at e
  lia
theorem Inv.tuple (I : Inv X pins σ H s) (h : SqT X.K H a xs) : ∃ its : List Value, Vals xs its /\ IsTup s.heap a its.toArray /\ xs.length <= sizeLine := by
 rcases h with h | ⟨o, its, n, hk, hc, hs, hz, r⟩
 ·obtain ⟨z, its, r, p⟩ := h.ok I.hok
  exact ⟨its, r, p, z⟩
 ·refine ⟨its.toList, r, ⟨o, I.kIn a o hk, hc, n, by simpa using hs⟩, ?_⟩
  have e := r.length
  simp only [uR] at e
  lia
theorem Inv.list_inj (I : Inv X pins σ H s) (h : SqL X.K H a xs) (h' : SqL X.K H a ys) : xs = ys := by
 obtain ⟨its, r, ⟨o, n, e, _, _, d⟩, _⟩ := I.list h
 obtain ⟨its', r', ⟨o', n', e', _, _, d'⟩, _⟩ := I.list h'
 rw [e] at e'; cases e'
 rw [d] at d'
 injection d' with d1 _
 have : its = its' := by simpa using congrArg Array.toList d1
 subst this
 exact r.inj r'
theorem Inv.tuple_inj (I : Inv X pins σ H s) (h : SqT X.K H a xs) (h' : SqT X.K H a ys) : xs = ys := by
 obtain ⟨its, r, ⟨o, e, _, n, d⟩, _⟩ := I.tuple h
 obtain ⟨its', r', ⟨o', e', _, n', d'⟩, _⟩ := I.tuple h'
 rw [e] at e'; cases e'
 rw [d] at d'
 injection d' with d1 _
 have : its = its' := by simpa using congrArg Array.toList d1
 subst this
 exact r.inj r'
end
noncomputable abbrev Cx.wish (X : Cx) (E : ZVP) : Cx := { X with xe := E }
noncomputable abbrev Cx.nox (X : Cx) : Cx := X.wish fun _ _ => False
theorem Cx.Ok.wish {X : Cx} (ok : X.Ok) (E : ZVP) : (X.wish E).Ok :=
 ⟨ok.mod, ok.kind, ok.glob, ok.blt, ok.above, ok.inj, ok.has, ok.cab, ok.hd, ok.frames, ok.stk, ok.exf, ok.bs, ok.bsz, ok.noex, ok.exfs, ok.funs, ok.frf⟩
theorem Cx.Ok.unwish {X : Cx} {E : ZVP} (ok : (X.wish E).Ok) : X.Ok :=
 ⟨ok.mod, ok.kind, ok.glob, ok.blt, ok.above, ok.inj, ok.has, ok.cab, ok.hd, ok.frames, ok.stk, ok.exf, ok.bs, ok.bsz, ok.noex, ok.exfs, ok.funs, ok.frf⟩
section
variable {X : Cx} {pins : ZPO} {σ : St} {H : Hp} {s : Shared} {E : ZVP}
theorem Inv.wish (I : Inv X pins σ H s) (E : ZVP) : Inv (X.wish E) pins σ H s := ⟨I.ok.wish E, I.os, I.bare, I.base, I.loc, I.cell, I.free, I.freeC, I.pin, I.hok, I.len⟩
theorem Inv.unwish (I : Inv (X.wish E) pins σ H s) : Inv X pins σ H s := ⟨I.ok.unwish, I.os, I.bare, I.base, I.loc, I.cell, I.free, I.freeC, I.pin, I.hok, I.len⟩
theorem SP.unwish {D : XU} {f : Flow} {s' : Shared} (h : SP (X.wish E) pins D f s') : SP X pins D f s' := by
 cases f with
 | next => obtain ⟨σ', H', I, q⟩ := h; exact ⟨σ', H', I.unwish, q⟩
 | brk => obtain ⟨σ', H', I, q⟩ := h; exact ⟨σ', H', I.unwish, q⟩
 | cont => obtain ⟨σ', H', I, q⟩ := h; exact ⟨σ', H', I.unwish, q⟩
 | ret u => obtain ⟨v, σ', H', I, r, q⟩ := h; exact ⟨v, σ', H', I.unwish, r, q⟩
theorem PE.nox {e : Expr} {t : TE} (h : PE X.nox e t) : PE X e t := fun pins s σ H Q I hw =>
 wpAny_mono (h pins s σ H Q (I.wish _) hw) (fun _ _ w1_ => w1_.elim fun v z_ => z_.elim fun H' z_ => z_.elim fun I' z_ => z_.elim fun r q => ⟨v, H', I'.unwish, r, q⟩) fun _ _ z => False.elim z
theorem PSs.nox {st : List Stmt} {t : TS} (h : PSs X.nox st t) : PSs X st t := fun pins s σ H D I hw =>
 wpAny_mono (h pins s σ H D (I.wish _) hw) (fun _ _ q => q.unwish) fun _ _ z => False.elim z
end
section
variable {X : Cx} {st : Stmt} {rest : List Stmt} {t u : TS} {e : Expr} {te : TE} {pos : Pos}
def jbv : TS := fun D σ H => D.nx σ H
def Xbx (t u : TS) : TS := fun D σ H => t { D with nx := u D } σ H
theorem pss_nil : PSs X [] jbv := fun _ _ σ H _ I h => wpAny_execs_nil ⟨σ, H, I, h⟩
theorem Ya5 (h1 : PS X st t) (h2 : PSs X rest u) : PSs X (st :: rest) (Xbx t u) := by
 intro pins s σ H D I h
 refine wpAny_execs_cons (thn (h1 pins s σ H { D with nx := u D } I h) fun f s1 q => ?_)
 cases f with
 | next =>
  obtain ⟨σ', H', I', q⟩ := q
  exact h2 pins s1 σ' H' D I' q
 | ret v => exact q
 | brk => exact q
 | cont => exact q
theorem Ybe (h1 : PS X st t) : PSs X [st] t := by
 intro pins s σ H D I h
 refine wpAny_execs_cons (thn (h1 pins s σ H D I h) fun f s1 q => ?_)
 cases f with
 | next => exact wpAny_execs_nil q
 | ret v => exact q
 | brk => exact q
 | cont => exact q
theorem Inv.quiet {pins : ZPO} {σ : St} {H : Hp} {s : Shared} (I : Inv X pins σ H s) : interactive X.env = false := by simp [interactive, I.ok.kind]
def vbu (te : TE) : TS := fun D σ H => te σ H fun _ H1 => D.nx σ H1
theorem Xbi (he : PE X e te) (hs : swapsWith e none pos.line X.env = pure false := by rfl) : PS X (.Expr e pos) (vbu te) := by
 intro pins s σ H D I h
 exact wpAny_Expr_any (Xv (he pins s σ H _ I h) fun v s1 x H1 I1 r1 q1 => ⟨σ, H1, I1, q1⟩) I.quiet hs
def Ybx (te : TE) : TS := fun D σ H => te σ H D.rt
theorem vbp (he : PE X e te) : PS X (.Return (some e) pos) (Ybx te) := by
 intro pins s σ H D I h
 exact wpAny_Return_some (Xv (he pins s σ H _ I h) fun v s1 x H1 I1 r1 q1 => ⟨x, σ, H1, I1, r1, q1⟩)
def wbx (c : TT) (t u : TS) : TS := fun D σ H => c σ H fun b H1 => if b = true then t D σ H1 else u D σ H1
theorem qbv {c : Expr} {a b : List Stmt} {tc : TT} (hc : PT X c tc) (ha : PSs X a t) (hb : PSs X b u) : PS X (.If c a b pos) (wbx tc t u) := by
 intro pins s σ H D I h
 refine wpAny_If (XaP (hc pins s σ H _ I h) fun d s1 H1 I1 q1 => ?_)
 cases d with
 | true => exact ha pins s1 σ H1 D I1 q1
 | false => exact hb pins s1 σ H1 D I1 q1
def qbk : TS := fun _ _ _ => False
theorem ps_never : PS X st qbk := fun _ _ _ _ _ _ h => h.elim
end
noncomputable abbrev TG := V -> St -> Hp -> (St -> Hp -> Prop) -> Prop
noncomputable abbrev TGs := List V -> St -> Hp -> (St -> Hp -> Prop) -> Prop
def PG (X : Cx) (target : Expr) (t : TG) : Prop :=
 ∀ (pins : ZPO) (s : Shared) (σ : St) (H : Hp) (v : V) (u : Value) (Q : St -> Hp -> Prop), Inv X pins σ H s -> RelV v u -> t v σ H Q →
  wpAny (model X.prog X.w) X.A (assign target X.env u) (fun _ s' => ∃ σ' H', Inv X pins σ' H' s' /\ Q σ' H') X.xe s
def PGs (X : Cx) (ts : List Expr) (t : TGs) : Prop :=
 ∀ (pins : ZPO) (s : Shared) (σ : St) (H : Hp) (vs : List V) (us : List Value) (Q : St -> Hp -> Prop), Inv X pins σ H s -> Vals vs us -> t vs σ H Q →
  wpAny (model X.prog X.w) X.A (assignInOrder ((assignEach ts X.env).map (·.2)) us) (fun _ s' => ∃ σ' H', Inv X pins σ' H' s' /\ Q σ' H') X.xe s
noncomputable abbrev wa7 := V -> V -> V -> Hp -> (Hp -> Prop) -> Prop
def kbl (X : Cx) (t : wa7) : Prop :=
 ∀ (pins : ZPO) (s : Shared) (σ : St) (H : Hp) (o i v : V) (ov iv u : Value) (Q : Hp -> Prop), Inv X pins σ H s -> RelV o ov -> RelV i iv -> RelV v u -> t o i v H Q →
  wpAny (model X.prog X.w) X.A (setItem ov iv u) (fun _ s' => ∃ H', Inv X pins σ H' s' /\ Q H') X.xe s
section
variable {X : Cx} {pos : Pos}
def j3 (i : Nat) : TG := fun v σ H Q => Q (σ.set i (some v)) H
theorem kbd {i : Nat} {x : Str} (hN : X.N.Nodup) (hi : X.N[i]? = some x) (hx : Loc X.env.scope x) (hf : X.fn x = true \/ X.env.scope.names.lookup x = some .local := by first | exact .inl rfl | exact .inr rfl | assumption) : PG X (.Name x pos) (j3 i) := by
 intro pins s σ H v u Q I r h
 exact wpAny_assign_Name (wT I hN hi hx r (fun s' I' => ⟨_, H, I', h⟩) hf)
def qby : TGs := fun vs σ H Q => vs = [] /\ Q σ H
def Ybv (t : TG) (u : TGs) : TGs := fun vs σ H Q => ∃ v r, vs = v :: r /\ t v σ H fun σ' H' => u r σ' H' Q
theorem pgs_nil : PGs X [] qby := by
 intro pins s σ H vs us Q I r h
 obtain ⟨e, h⟩ := h
 subst e
 cases r
 exact assignInOrder_nil ⟨σ, H, I, h⟩
theorem Wa2 {e : Expr} {es : List Expr} {t : TG} {u : TGs} (h1 : PG X e t) (h2 : PGs X es u)
  (hs : (assignEach (e :: es) X.env).map (·.2) = assign e X.env :: (assignEach es X.env).map (·.2) := by rfl) : PGs X (e :: es) (Ybv t u) := by
 intro pins s σ H vs us Q I r h
 obtain ⟨v, vr, e1, h⟩ := h
 subst e1
 cases r with
 | cons r rr =>
  rw [hs]
  refine assignInOrder_cons (thn (h1 pins s σ H _ _ _ I r h) fun _ s1 w1_ => w1_.elim fun σ1 z_ => z_.elim fun H1 z_ => z_.elim fun I1 q1 => ?_)
  exact h2 pins s1 σ1 H1 _ _ Q I1 rr q1
def Zbx (K : uC) (n : Nat) (t : TGs) : TG := fun v σ H Q => ∃ a xs, v = .ref a /\ SqT K H a xs /\ xs.length = n /\ t xs σ H Q
theorem wbj {es : List Expr} {k : Nat} {t : TGs} {n : Nat} (hc : X.calm = true) (h : PGs X es t)
  (hn : (assignEach es X.env).length = n := by rfl) (hst : (assignEach es X.env).findIdx? (·.1) = none := by rfl) : PG X (.Tuple es k pos) (Zbx X.K n t) := by
 intro pins s σ H v u Q I r hw
 obtain ⟨a, xs, e1, hq, hl, hw⟩ := hw
 subst e1
 cases r
 obtain ⟨its, rv, ht, hz⟩ := I.tuple hq
 refine assign_Tuple_tuple (I.ok.hd hc) ht (by simp [hn, ← hl, rv.length]) hst fun h' hx => ?_
 have I1 : Inv X pins σ H { s with heap := h' } := I.kept (t' := s.toks) fun b o e => hx b o (uZ (uH e)) e
 exact h pins _ σ H xs _ Q I1 (by simpa using rv) hw
def jby (to ti : TE) (t : wa7) : TG := fun v σ H Q => to σ H fun o H1 => ti σ H1 fun i H2 => t o i v H2 fun H3 => Q σ H3
theorem Xbo {o i : Expr} {to ti : TE} {t : wa7} (ho : PE X o to) (hi : PE X i ti) (hs : kbl X t)
  (ha : ∀ v, assign (.Subscript o i pos) X.env v = (do
   let ov ← holding [v] (eval o X.env)
   let iv ← holding [v, ov] (eval i X.env)
   standAt pos
   holding [v, ov, iv] (setItem ov iv v)
   release [v, ov, iv] []) := by intro _; rfl) : PG X (.Subscript o i pos) (jby to ti t) := by
 intro pins s σ H v u Q I r h
 rw [ha]
 refine wpAny_bind (wpAny_holding (Xv (ho pins s σ H _ I h) fun ov s1 x H1 I1 r1 q1 => ?_))
 refine wpAny_bind (wpAny_holding (Xv (hi pins s1 σ H1 _ I1 q1) fun iv s2 y H2 I2 r2 q2 => ?_))
 refine wpAny_bind (wpAny_standAt (wpAny_bind (wpAny_holding (thn (hs pins s2 σ H2 x y v ov iv u _ I2 r1 r2 r q2) fun _ s3 w1_ => w1_.elim fun H3 z_ => z_.elim fun I3 q3 => ?_))))
 exact wpAny_release ⟨σ, H3, I3, q3⟩
def XaO (te : TE) (g : TG) : TS := fun D σ H => te σ H fun x H1 => g x σ H1 D.nx
theorem qbr {tg e : Expr} {te : TE} {g : TG} (he : PE X e te) (hg : PG X tg g) (hs : swapsWithSole [tg] e pos.line X.env = pure false := by rfl) (hw : swappedStores [tg] e X.env = pure none := by rfl)
  (h1 : (assignEach [tg] X.env).map (·.2) = [assign tg X.env] := by rfl) : PS X (.Assign [tg] e pos) (XaO te g) := by
 intro pins s σ H D I h
 refine wpAny_Assign_stores (Xv (he pins s σ H _ I h) fun v s1 x H1 I1 r1 q1 => ?_) hs hw
 rw [h1]
 exact thn (hg pins s1 σ H1 x v _ I1 r1 q1) fun _ s2 q => q
theorem vbl {i : Nat} {x : Str} {e : Expr} {te : TE} {pos' : Pos} (hN : X.N.Nodup) (hi : X.N[i]? = some x) (hx : Loc X.env.scope x) (he : PE X e te) (hs : swapsWith e (some (.Name x pos')) pos.line X.env = pure false := by rfl) (hf : X.fn x = true \/ X.env.scope.names.lookup x = some .local := by first | exact .inl rfl | exact .inr rfl | assumption) :
  PS X (.Assign [.Name x pos'] e pos) (XaO te (j3 i)) := by
 intro pins s σ H D I h
 refine wpAny_Assign_Name (Xv (he pins s σ H _ I h) fun v s1 y H1 I1 r1 q1 => ?_) hs
 exact wT I1 hN hi hx r1 (fun s2 I2 => ⟨_, H1, I2, q1⟩) hf
end
structure It where
 go : Nat -> Hp -> Prop
 yld : Nat -> Hp -> V -> Hp -> Prop
 stop : Nat -> Hp -> Prop
def Xm (X : Cx) (pins : ZPO) (H : Hp) (b : Addr) : Prop :=
 H b = none /\ b ≠ X.env.locals /\ b ∉ X.fs /\ (b ∈ X.ex \/ X.s₀.heap.objs.size <= b) /\ (∀ x c, X.env.cells.lookup x = some c -> c ≠ b) /\ ∀ p ∈ X.pn ++ pins, p.1 ≠ b
theorem Inv.fpOk {X : Cx} {pins : ZPO} {σ : St} {H H' : Hp} {s : Shared} {b : Addr} (I : Inv X pins σ H s) (hb : s.heap.objs.size <= b) (hn : H' b = none) : Xm X pins H' b := by
 refine ⟨hn, xM (uV I.lt hb), I.nofs hb, .inr (xD I.sz hb), fun x c e z => ?_, fun p hp z => ?_⟩
 ·obtain ⟨v, q⟩ := I.cell x c e
  exact absurd (uV q.lt (by rw [z]; exact hb)) (uq _)
 ·exact absurd (uV (uH (I.pin p hp).1) (by rw [z]; exact hb)) (uq _)
structure Z9 (P : Program) (w : World) (K : uC) (tg : Expr) (J : It) (fp : List Addr) (it : Addr) (tn : Nat -> Heap -> Prop) : Prop where
 mem : it ∈ fp
 obj : ∀ i h, tn i h -> ∀ b ∈ fp, ∃ o, h.get? b = some o /\ ∀ v, o.data ≠ .cell v
 keep : ∀ i h h', tn i h -> (∀ b ∈ fp, ∀ o, h.get? b = some o -> h'.get? b = some o) -> tn i h'
 item : ∀ (X : Cx), X.prog = P -> X.w = w -> X.K = K -> X.calm = true -> ∀ (i : Nat) (pins : ZPO) (s : Shared) (σ : St) (H : Hp) (E : ZVP), Inv X pins σ H s -> (∀ b ∈ fp, Xm X pins H b) -> tn i s.heap -> J.go i H →
  wpAny (model P w) X.A (pyNext (.ref it)) (fun r s1 => ∃ u, r = some u ∧
   wpAny (model P w) X.A (letOwnedTupleGo tg (.ref it) u) (fun _ s2 => ∃ x H', Inv X pins σ H' s2 /\ RelV x u /\ J.yld i H x H' /\ tn (i + 1) s2.heap /\ ∀ b ∈ fp, H' b = none) E s1) E s
 done : ∀ (X : Cx), X.prog = P -> X.w = w -> X.K = K -> X.calm = true -> ∀ (i : Nat) (pins : ZPO) (s : Shared) (σ : St) (H : Hp) (E : ZVP), Inv X pins σ H s -> (∀ b ∈ fp, Xm X pins H b) -> tn i s.heap -> J.stop i H →
  wpAny (model P w) X.A (pyNext (.ref it)) (fun r s1 => r = none /\ Inv X pins σ H s1) E s
 self : ∀ (A : Around) (i : Nat) (s : Shared) (Q : ZVP) (E : ZVP), tn i s.heap -> Q (.ref it) s -> wpAny (model P w) A (pyIter (.ref it)) Q E s
noncomputable abbrev TI := St -> Hp -> (It -> Hp -> Prop) -> Prop
def PIE (X : Cx) (pins : ZPO) (σ : St) (tg : Expr) (R : It -> Hp -> Prop) (itv : Value) (s2 : Shared) : Prop :=
 ∃ (it : Addr) (fp : List Addr) (tn : Nat -> Heap -> Prop) (J : It) (H' : Hp), itv = .ref it /\ Inv X pins σ H' s2 /\ Z9 X.prog X.w X.K tg J fp it tn /\ tn 0 s2.heap /\ (∀ b ∈ fp, Xm X pins H' b) /\ R J H'
def PI (X : Cx) (tg iter : Expr) (wi : TI) : Prop :=
 ∀ (pins : ZPO) (s : Shared) (σ : St) (H : Hp) (R : It -> Hp -> Prop), Inv X pins σ H s -> wi σ H R →
  wpAny (model X.prog X.w) X.A (eval iter X.env) (fun v s1 => wpAny (model X.prog X.w) X.A (pyIter v) (PIE X pins σ tg R) X.xe s1) X.xe s
theorem vaN {M : Model} {A : Around} {E : ZVP} {s : Shared} {tg : Expr} {it : Addr} {u : Value} {o : Obj} {n : String} {vs : Array Value} {Q : Unit -> Shared -> Prop} (ho : s.heap.get? it = some o) (hc : o.cls = .type n) (hd : o.data = .fields vs)
  (hn : ["enumerate", "zip", "dict_itemiterator", "dict_reverseitemiterator", "odict_iterator", "itertools.zip_longest", "itertools.pairwise"].contains n = false) (hQ : Q () s) : wpAny M A (letOwnedTupleGo tg (.ref it) u) Q E s := by
 unfold letOwnedTupleGo
 cases tg <;> first
  | exact wpAny_pure hQ
  | (cases u <;> first
    | exact wpAny_pure hQ
    | (refine wpAny_bind (wpAny_load ho ?_); rw [hc, hd]; show wpAny M A (if (["enumerate", "zip", "dict_itemiterator", "dict_reverseitemiterator", "odict_iterator", "itertools.zip_longest", "itertools.pairwise"].contains n && vs[0]? == some (rawInt _)) = true then _ else _) Q E s; rw [if_neg (by intro h; rw [hn, Bool.false_and] at h; cases h)]; exact wpAny_pure hQ))
noncomputable def Itl (K : uC) (a : Addr) : It :=
 ⟨fun i H => ∃ xs x, SqL K H a xs /\ xs[i]? = some x, fun i H x H' => H' = H /\ ∀ xs, SqL K H a xs -> xs[i]? = some x, fun i H => ∃ xs, SqL K H a xs /\ xs.length <= i⟩
noncomputable def Itr (lo : Int) (n : Nat) : It := ⟨fun i _ => i < n, fun i H x H' => H' = H /\ x = .int (lo + i), fun i _ => n <= i⟩
theorem WaY {P : Program} {w : World} {K : uC} {tg : Expr} (a it : Addr) : Z9 P w K tg (Itl K a) [it] it (fun i h => h.IsListIter it a i) where
 mem := by simp
 obj := fun i h st b hb => by
  have e : b = it := by simpa using hb
  subst e
  obtain ⟨o, e, c, d⟩ := st
  exact ⟨o, e, fun v z => by rw [d] at z; cases z⟩
 keep := fun i h h' st k => st.at fun o e => k it (by simp) o e
 item := by
  intro X hP hw hK hc i pins s σ H E I hf st hg
  subst hP hw hK
  obtain ⟨xs, x, hq, hx⟩ := hg
  obtain ⟨its, rv, p, hz⟩ := I.list hq
  obtain ⟨u, hu, ru⟩ := rv.get hx
  obtain ⟨f0, f1, f2, f3, f4, f5⟩ := hf it (by simp)
  refine wpAny_pyNext_list_item st p.isList (x := u) (by simpa using hu) fun h' st' sb => ?_
  have I1 : Inv X pins σ H { s with heap := h' } := I.turned (t' := s.toks) (fun b o hb e => (sb.2 b hb).trans e) f0 f1 f3 f4 f5
  obtain ⟨o, e, c, d⟩ := id st'
  exact ⟨u, rfl, vaN (s := { s with heap := h' }) e c d (by decide) ⟨x, H, I1, ru, ⟨rfl, fun ys hy => by rw [I.list_inj hy hq]; exact hx⟩, st', fun b hb => (hf b hb).1⟩⟩
 done := by
  intro X hP hw hK hc i pins s σ H E I hf st hg
  subst hP hw hK
  obtain ⟨xs, hq, hx⟩ := hg
  obtain ⟨its, rv, p, hz⟩ := I.list hq
  obtain ⟨f0, f1, f2, f3, f4, f5⟩ := hf it (by simp)
  have hl := rv.length
  exact wpAny_pyNext_list_end (I.ok.hd hc) st p.isList (by simp; lia) fun h' eb => ⟨rfl, I.turned (t' := s.toks) (fun b o hb e => eb b o hb e) f0 f1 f3 f4 f5⟩
 self := fun _ _ _ _ _ st h => wpAny_pyIter_listiter st h
theorem WaN {P : Program} {w : World} {K : uC} {tg : Expr} (it : Addr) (lo : Int) (n : Nat) : Z9 P w K tg (Itr lo n) [it] it (fun i h => IsRangeIter h it (lo + (i : Nat) * 1) ((n : Int) - (i : Nat)) 1) where
 mem := by simp
 obj := fun i h st b hb => by
  have e : b = it := by simpa using hb
  subst e
  exact ⟨_, st, fun v z => by
   have z' : Data.fields _ = Data.cell v := z
   cases z'⟩
 keep := fun i h h' st k => k it (by simp) _ st
 item := by
  intro X hP hw hK hc i pins s σ H E I hf st hg
  subst hP hw hK
  obtain ⟨f0, f1, f2, f3, f4, f5⟩ := hf it (by simp)
  have W := Walks.range (prog := X.prog) (w := X.w) (I.ok.hd hc) it lo 1 n
  refine W.item i s _ _ hg st fun v h' tk hv st' kk => ?_
  obtain ⟨t, rfl⟩ := hv
  have I1 : Inv X pins σ H { s with heap := h', toks := tk } := I.turned (fun b o hb e => kk b o (by simpa using hb) e) f0 f1 f3 f4 f5
  refine ⟨_, rfl, vaN (s := { s with heap := h', toks := tk }) (n := "range_iterator") st' rfl rfl (by decide) ⟨.int (lo + i), H, I1, ⟨t, ?_⟩, ⟨rfl, rfl⟩, st', fun b hb => (hf b hb).1⟩⟩
  rw [Int.mul_one]
 done := by
  intro X hP hw hK hc i pins s σ H E I hf st hg
  subst hP hw hK
  obtain ⟨f0, f1, f2, f3, f4, f5⟩ := hf it (by simp)
  exact wpAny_pyNext_range_end (I.ok.hd hc) st (by have : n <= i := hg; lia) fun h' eb => ⟨rfl, I.turned (t' := s.toks) (fun b o hb e => eb b o hb e) f0 f1 f3 f4 f5⟩
 self := fun _ _ _ _ _ st h => wpAny_pyIter_rangeiter st h
section
variable {X : Cx} {tg : Expr}
def Zbt (K : uC) (tl : TE) : TI := fun σ H R => tl σ H fun x H1 => ∃ a, x = .ref a /\ (∃ xs, SqL K H1 a xs) /\ R (Itl K a) H1
theorem WaK {l : Expr} {tl : TE} (hl : PE X l tl) : PI X tg l (Zbt X.K tl) := by
 intro pins s σ H R I h
 refine Xv (hl pins s σ H _ I h) fun v s1 x H1 I1 r1 q1 => ?_
 obtain ⟨a, e, ⟨xs, hq⟩, q⟩ := q1
 subst e
 cases r1
 obtain ⟨its, rv, p, hz⟩ := I1.list hq
 refine wpAny_pyIter_list p.isList ?_
 refine ⟨s1.heap.objs.size, [s1.heap.objs.size], _, _, H1, rfl, I1.kept (t' := s1.toks) fun b o e => uD _ e, WaY a _, ⟨_, uP _ rfl, rfl, rfl⟩, fun b hb => ?_, q⟩
 have e : b = s1.heap.objs.size := by simpa using hb
 subst e
 exact I1.fpOk (uI _) (I1.hok.fresh (uI _))
theorem jaD {pins : ZPO} {σ : St} {H : Hp} {s : Shared} {R : It -> Hp -> Prop} {E : ZVP} {lo hi : Int} {t u v : Tok} {tk : Nat} (I : Inv X pins σ H s) (h1 : -(2 ^ 62) <= lo) (h2 : lo < 2 ^ 62) (h3 : -(2 ^ 62) <= hi) (h4 : hi < 2 ^ 62)
  (q : R (Itr lo (hi - lo).toNat) H) : wpAny (model X.prog X.w) X.A (pyIter (.ref s.heap.objs.size)) (PIE X pins σ tg R) E { s with heap := s.heap.push { cls := .type "range", data := .fields #[.int lo t, .int hi u, .int 1 v] }, toks := tk } := by
 refine wpAny_pyIter_range (IsRange.new ..) (small_one h1 h2 h3 h4) ?_
 have I1 : Inv X pins σ H { s with heap := s.heap.push { cls := .type "range", data := .fields #[.int lo t, .int hi u, .int 1 v] }, toks := tk } := I.kept fun b o e => uD _ e
 refine ⟨(s.heap.push { cls := .type "range", data := .fields #[.int lo t, .int hi u, .int 1 v] }).objs.size, [(s.heap.push { cls := .type "range", data := .fields #[.int lo t, .int hi u, .int 1 v] }).objs.size], _, _, H, rfl,
  I1.kept (t' := tk) fun b o e => uD _ e, WaN _ lo (hi - lo).toNat, ?_, fun b hb => ?_, q⟩
 ·have e1 : lo + ((0 : Nat) : Int) * 1 = lo := by simp
  have e2 : (((hi - lo).toNat : Nat) : Int) - ((0 : Nat) : Int) = Builtin.Range.rangeSize lo hi 1 := by rw [rangeSize_one]; split <;> lia
  show IsRangeIter _ _ (lo + ((0 : Nat) : Int) * 1) ((((hi - lo).toNat : Nat) : Int) - ((0 : Nat) : Int)) 1
  rw [e1, e2]
  exact uP _ rfl
 ·have e : b = (s.heap.push { cls := .type "range", data := .fields #[.int lo t, .int hi u, .int 1 v] }).objs.size := by simpa using hb
  subst e
  exact I1.fpOk (uI _) (I1.hok.fresh (uI _))
def qbt (ta : TA) : TI := fun σ H R => ta σ H fun vs H1 => ∃ j : Int, vs = [.int j] /\ -(2 ^ 62) <= j /\ j < 2 ^ 62 /\ R (Itr 0 j.toNat) H1
def Zbv (ta : TA) : TI := fun σ H R => ta σ H fun vs H1 => ∃ i j : Int, vs = [.int i, .int j] /\ (-(2 ^ 62) <= i /\ i < 2 ^ 62 /\ -(2 ^ 62) <= j /\ j < 2 ^ 62) /\ R (Itr i (j - i).toNat) H1
theorem qaZ {a : Expr} {ta : TA} {p pos : Pos} (hg : Gl X "range") (hm : X.mg "range" = none) (ha : PA X [a] ta) (hs : starEach [a] X.env = [(false, eval a X.env)] := by rfl) : PI X tg (.Call (.Name "range" p) [a] [] pos) (qbt ta) := by
 intro pins s σ H R I h
 refine Call_ (kq I hg hm boot_range (um (vaa (ha pos pins s σ H _ I h) fun us s1 vs H1 I1 r1 q1 => ?_) hs rfl))
 obtain ⟨j, e, q1, q2, q⟩ := q1
 subst e
 cases r1 with
 | cons r rr =>
  cases rr
  obtain ⟨t, rfl⟩ := r
  exact call_range_1 (jaD I1 (by lia) (by lia) q1 q2 (by simpa using q))
theorem Xa0 {a b : Expr} {ta : TA} {p pos : Pos} (hg : Gl X "range") (hm : X.mg "range" = none) (ha : PA X [a, b] ta) (hs : starEach [a, b] X.env = [(false, eval a X.env), (false, eval b X.env)] := by rfl) (hs2 : starEach [b] X.env = [(false, eval b X.env)] := by rfl) :
  PI X tg (.Call (.Name "range" p) [a, b] [] pos) (Zbv ta) := by
 intro pins s σ H R I h
 refine Call_ (kq I hg hm boot_range (um (vaa (ha pos pins s σ H _ I h) fun us s1 vs H1 I1 r1 q1 => ?_) (by rw [hs, hs2]) (by rw [hs2]; rfl)))
 obtain ⟨i, j, e, ⟨q1, q2, q3, q4⟩, q⟩ := q1
 subst e
 cases r1 with
 | cons r rr =>
  cases rr with
  | cons r' rr =>
   cases rr
   obtain ⟨t, rfl⟩ := r
   obtain ⟨t', rfl⟩ := r'
   exact call_range_2 (jaD I1 q1 q2 q3 q4 q)
def Xby (wi : TI) (g : TG) (tb : TS) : TS := fun D σ H => wi σ H fun J H1 => ∃ W : Nat -> Nat -> St -> Hp -> Prop, (∃ m, W 0 m σ H1) /\ ∀ i m σ H, W i m σ H →
 (J.stop i H /\ D.nx σ H) \/ (J.go i H /\ ∃ N : St -> Hp -> Prop, (∀ σ' H', N σ' H' -> ∃ m', m' < m /\ W (i + 1) m' σ' H') /\ ∀ x H', J.yld i H x H' -> g x σ H' fun σ2 H2 => tb { D with nx := N, ct := N, bk := D.nx } σ2 H2)
noncomputable def YS (fp : List Addr) (h : Heap) : ZPO := fp.filterMap fun b => (h.get? b).map fun o => (b, o)
theorem Wy {fp : List Addr} {h : Heap} {b : Addr} {o : Obj} (hb : b ∈ fp) (e : h.get? b = some o) : (b, o) ∈ YS fp h := List.mem_filterMap.mpr ⟨b, hb, by rw [e]; rfl⟩
theorem kaT {fp : List Addr} {h : Heap} {p : Addr × Obj} (hp : p ∈ YS fp h) : p.1 ∈ fp /\ h.get? p.1 = some p.2 := by
 obtain ⟨b, hb, e⟩ := List.mem_filterMap.mp hp
 cases q : h.get? b with
 | none => rw [q] at e; cases e
 | some o =>
  rw [q] at e
  have e' : (b, o) = p := Option.some.inj e
  subst e'
  exact ⟨hb, q⟩
theorem Inv.pinned {pins : ZPO} {σ : St} {H : Hp} {s : Shared} {fp : List Addr} (I : Inv X pins σ H s) (hf : ∀ b ∈ fp, Xm X pins H b) (ho : ∀ b ∈ fp, ∃ o, s.heap.get? b = some o /\ ∀ v, o.data ≠ .cell v) : Inv X (pins ++ YS fp s.heap) σ H s :=
 I.pins_of fun p hp => (uj.mp hp).elim (fun z => I.pin p (uL _ z)) fun z => by
  obtain ⟨hb, e⟩ := kaT z
  obtain ⟨f0, f1, f2, _⟩ := hf p.1 hb
  obtain ⟨o, e', d⟩ := ho p.1 hb
  rw [e] at e'; cases e'
  exact ⟨e, f0, f1, f2, d⟩
theorem Inv.unpinned {pins pl : ZPO} {σ : St} {H : Hp} {s : Shared} (I : Inv X (pins ++ pl) σ H s) : Inv X pins σ H s := I.pins_of fun p hp => I.pin p (uL _ (x8 _ hp))
theorem kaX {iter : Expr} {body : List Stmt} {wi : TI} {g : TG} {tb : TS} {pos : Pos} (hp : PassesOwn (model X.prog X.w) X.A X.env X.xe) (hc : X.calm = true) (hi : PI X tg iter wi) (hg : PG X tg g) (hb : PSs X body tb)
  (hs : ∀ x, foldedSetIterable iter X.env x = pure x := by intro _; rfl) : PS X (.For tg iter body [] pos) (Xby wi g tb) := by
 intro pins s σ H D I h
 refine wpAny_For (thn (hi pins s σ H _ I h) fun v s1 h1 => thn h1 fun itv s2 h2 => ?_) hs
 obtain ⟨it, fp, tn, J, H2, e, I2, T, st2, f2, W, ⟨m0, w0⟩, turn⟩ := h2
 subst e
 -- what stays true of the iterator's objects through the loop
 have stat : ∀ {H' : Hp}, (∀ b ∈ fp, H' b = none) -> ∀ b ∈ fp, Xm X pins H' b := fun hn b hb => ⟨hn b hb, (f2 b hb).2⟩
 refine codeAny_forLoop_any (fun n s' => ∃ i σ' H', Inv X pins σ' H' s' /\ tn i s'.heap /\ (∀ b ∈ fp, H' b = none) /\ W i n σ' H') ?_ m0 ⟨0, σ, H2, I2, st2, fun b hb => (f2 b hb).1, w0⟩
 rintro n s3 ⟨i, σ3, H3, I3, st3, fr3, w3⟩
 rcases turn i n σ3 H3 w3 with ⟨stop, qn⟩ | ⟨go, N, hN, step⟩
 ·refine wpAny_passesOwn hp (thn (T.done X rfl rfl rfl hc i pins s3 σ3 H3 X.xe I3 (stat fr3) st3 stop) fun r s4 w1_ => w1_.elim fun hr I4 => ?_)
  subst hr
  exact wpAny_execs_nil ⟨σ3, H3, I4, qn⟩
 ·refine wpAny_passesOwn hp (thn (T.item X rfl rfl rfl hc i pins s3 σ3 H3 X.xe I3 (stat fr3) st3 go) fun r s4 w1_ => w1_.elim fun u z_ => z_.elim fun hr h4 => ?_)
  subst hr
  refine wpAny_passesOwn hp (thn h4 fun _ s5 w1_ => w1_.elim fun x z_ => z_.elim fun H5 z_ => z_.elim fun I5 z_ => z_.elim fun r5 z_ => z_.elim fun y5 z_ => z_.elim fun st5 fr5 => ?_)
  have I5' := I5.pinned (stat fr5) (T.obj _ _ st5)
  refine wpAny_passesOwn hp (thn (hg _ s5 σ3 H5 x u _ I5' r5 (step x H5 y5)) fun _ s6 w1_ => w1_.elim fun σ6 z_ => z_.elim fun H6 z_ => z_.elim fun I6 q6 => ?_)
  refine wpAny_passesOwn hp (thn (hb _ s6 σ6 H6 _ I6 q6) fun f s7 q7 => ?_)
  have again : ∀ {σ7 : St} {H7 : Hp}, Inv X (pins ++ YS fp s5.heap) σ7 H7 s7 -> N σ7 H7 -> ∃ m, m < n /\ ∃ i σ' H', Inv X pins σ' H' s7 /\ tn i s7.heap /\ (∀ b ∈ fp, H' b = none) /\ W i m σ' H' := fun {σ7 H7} I7 n7 => by
   obtain ⟨m', hm, w7⟩ := hN σ7 H7 n7
   refine ⟨m', hm, i + 1, σ7, H7, I7.unpinned, T.keep _ _ _ st5 fun b hb o e => (I7.pin (b, o) (uL _ (uL _ (Wy hb e)))).1, fun b hb => ?_, w7⟩
   obtain ⟨o, e, d⟩ := T.obj _ _ st5 b hb
   exact (I7.pin (b, o) (uL _ (uL _ (Wy hb e)))).2.1
  cases f with
  | next => obtain ⟨σ7, H7, I7, n7⟩ := q7; exact again I7 n7
  | cont => obtain ⟨σ7, H7, I7, n7⟩ := q7; exact again I7 n7
  | brk => obtain ⟨σ7, H7, I7, q7⟩ := q7; exact ⟨σ7, H7, I7.unpinned, q7⟩
  | ret v => obtain ⟨x7, σ7, H7, I7, r7, q7⟩ := q7; exact ⟨x7, σ7, H7, I7.unpinned, r7, q7⟩
end
noncomputable abbrev R2 := V -> V -> Hp -> VK -> Prop
def OpR (X : Cx) (f : Value -> Value -> Sem Value) (r : R2) : Prop :=
 ∀ (pins : ZPO) (s : Shared) (σ : St) (H : Hp) (x y : V) (v u : Value) (Q : VK), Inv X pins σ H s -> RelV x v -> RelV y u -> r x y H Q →
  wpAny (model X.prog X.w) X.A (f v u) (EP X pins σ Q) X.xe s
def UnR (X : Cx) (f : Value -> Sem Value) (r : V -> Hp -> VK -> Prop) : Prop :=
 ∀ (pins : ZPO) (s : Shared) (σ : St) (H : Hp) (x : V) (v : Value) (Q : VK), Inv X pins σ H s -> RelV x v -> r x H Q →
  wpAny (model X.prog X.w) X.A (f v) (EP X pins σ Q) X.xe s
def CallR (X : Cx) (f : Value) (r : List V -> Hp -> VK -> Prop) : Prop :=
 ∀ (pins : ZPO) (s : Shared) (σ : St) (H : Hp) (xs : List V) (us : List Value) (Q : VK), Inv X pins σ H s -> Vals xs us -> r xs H Q →
  wpAny (model X.prog X.w) X.A (call f us) (EP X pins σ Q) X.xe s
def Ybw (X : Cx) (r : V -> Hp -> (Bool -> Hp -> Prop) -> Prop) : Prop :=
 ∀ (pins : ZPO) (s : Shared) (σ : St) (H : Hp) (x : V) (v : Value) (Q : Bool -> Hp -> Prop), Inv X pins σ H s -> RelV x v -> r x H Q →
  wpAny (model X.prog X.w) X.A (truthy v) (TP X pins σ Q) X.xe s
def tOp (r : R2) (ta tb : TE) : TE := fun σ H Q => ta σ H fun x H1 => tb σ H1 fun y H2 => r x y H2 Q
def tUn (r : V -> Hp -> VK -> Prop) (ta : TE) : TE := fun σ H Q => ta σ H fun x H1 => r x H1 Q
def rI (C : Int -> Int -> Prop) (g : Int -> Int -> V) : R2 := fun x y H Q => ∃ i j, x = .int i /\ y = .int j /\ C i j /\ Q (g i j) H
def rI0 (g : Int -> Int -> V) : R2 := fun x y H Q => ∃ i j, x = .int i /\ y = .int j /\ Q (g i j) H
def rU (g : Int -> V) : V -> Hp -> VK -> Prop := fun x H Q => ∃ i, x = .int i /\ Q (g i) H
section
variable {X : Cx} {a b c : Expr} {ta tb tc : TE} {pos : Pos}
theorem Za4 (ha : PE X a ta) (hb : PE X b tb) {pins : ZPO} {s : Shared} {σ : St} {H : Hp} {R : V -> V -> Hp -> Prop} (I : Inv X pins σ H s)
  (h : ta σ H fun x H1 => tb σ H1 fun y H2 => R x y H2) {Q : ZVP} {f : Value -> Value -> Sem Value}
  (hf : ∀ v u s2 x y H2, Inv X pins σ H2 s2 -> RelV x v -> RelV y u -> R x y H2 -> wpAny (model X.prog X.w) X.A (f v u) Q X.xe s2) :
  wpAny (model X.prog X.w) X.A (eval a X.env) (fun v s₁ => wpAny (model X.prog X.w) X.A (eval b X.env) (fun u s₂ => wpAny (model X.prog X.w) X.A (f v u) Q X.xe s₂) X.xe s₁) X.xe s := by
 refine Xv (ha pins s σ H _ I h) fun v s1 x H1 I1 r1 q1 => ?_
 refine Xv (hb pins s1 σ H1 _ I1 q1) fun u s2 y H2 I2 r2 q2 => ?_
 exact hf v u s2 x y H2 I2 r1 r2 q2
theorem Xbv {op : Operator} {r : R2} (ho : OpR X (binaryOp op) r) (ha : PE X a ta) (hb : PE X b tb) : PE X (.BinOp a op b pos) (tOp r ta tb) := by
 intro pins s σ H Q I h
 exact wpAny_BinOp (Za4 ha hb I h fun v u s2 x y H2 I2 rx ry q => ho pins s2 σ H2 x y v u Q I2 rx ry q)
theorem Ybt {op : UnaryOp} {r : V -> Hp -> VK -> Prop} (ho : UnR X (unaryOp op) r) (ha : PE X a ta) : PE X (.UnaryOp op a pos) (tUn r ta) := by
 intro pins s σ H Q I h
 exact UnaryOp_ (Xv (ha pins s σ H _ I h) fun v s1 x H1 I1 r1 q1 => ho pins s1 σ H1 x v Q I1 r1 q1)
theorem opI {f : Value -> Value -> Sem Value} {C : Int -> Int -> Prop} {g : Int -> Int -> Int}
  (rule : ∀ (i j : Int) (t u : Tok) (s : Shared) (Q : ZVP) (E : ZVP), C i j -> Q (.int (g i j) s.toks) { s with toks := s.toks + 1 } -> wpAny (model X.prog X.w) X.A (f (.int i t) (.int j u)) Q E s) :
  OpR X f (rI C fun i j => .int (g i j)) := by
 intro pins s σ H x y v u Q I rx ry h
 obtain ⟨i, j, rfl, rfl, hc, q⟩ := h
 obtain ⟨t, rfl⟩ := rx
 obtain ⟨t', rfl⟩ := ry
 exact rule i j t t' s _ _ hc ⟨.int (g i j), H, I.tok _, ⟨_, rfl⟩, q⟩
theorem kbn {f : Value -> Value -> Sem Value} {g : Int -> Int -> Int}
  (rule : ∀ (i j : Int) (t u : Tok) (s : Shared) (Q : ZVP) (E : ZVP), Q (.int (g i j) s.toks) { s with toks := s.toks + 1 } -> wpAny (model X.prog X.w) X.A (f (.int i t) (.int j u)) Q E s) :
  OpR X f (rI0 fun i j => .int (g i j)) := by
 intro pins s σ H x y v u Q I rx ry h
 obtain ⟨i, j, rfl, rfl, q⟩ := h
 obtain ⟨t, rfl⟩ := rx
 obtain ⟨t', rfl⟩ := ry
 exact rule i j t t' s _ _ ⟨.int (g i j), H, I.tok _, ⟨_, rfl⟩, q⟩
theorem XaQ {f : Value -> Value -> Sem Value} {g : Int -> Int -> Bool}
  (rule : ∀ (i j : Int) (t u : Tok) (s : Shared) (Q : ZVP) (E : ZVP), Q (.bool (g i j)) s -> wpAny (model X.prog X.w) X.A (f (.int i t) (.int j u)) Q E s) :
  OpR X f (rI0 fun i j => .bl (g i j)) := by
 intro pins s σ H x y v u Q I rx ry h
 obtain ⟨i, j, rfl, rfl, q⟩ := h
 obtain ⟨t, rfl⟩ := rx
 obtain ⟨t', rfl⟩ := ry
 exact rule i j t t' s _ _ ⟨.bl (g i j), H, I, rfl, q⟩
def va6 (i j : Int) : Prop := 0 < j /\ j < 1073741824
def Ya7 (i j : Int) : Prop := 0 <= j /\ j <= 1000000 /\ i.natAbs < 2 ^ 64
def CMul (i j : Int) : Prop := (-(2 ^ 64) < i /\ i < 2 ^ 64) \/ (-(2 ^ 64) < j /\ j < 2 ^ 64)
theorem CMul.ok {i j : Int} (h : CMul i j) : IntMulOk i j := by
 rcases h with ⟨h1, h2⟩ | ⟨h1, h2⟩
 ·exact .of_left (intBits_le_64 h1 h2)
 ·exact .of_right (intBits_le_64 h1 h2)
theorem qbm : OpR X (binaryOp .Add) (rI0 fun i j => .int (i + j)) := kbn fun _ _ _ _ _ _ _ q => add_int q
theorem Wbn : OpR X (binaryOp .Sub) (rI0 fun i j => .int (i - j)) := kbn fun _ _ _ _ _ _ _ q => sub_int q
theorem Ybp : OpR X (binaryOp .Mult) (rI CMul fun i j => .int (i * j)) := opI fun _ _ _ _ _ _ _ hc q => mul_int q hc.ok
theorem Xba : OpR X (binaryOp .FloorDiv) (rI va6 fun i j => .int (i / j)) := opI fun i j _ _ _ _ _ hc q => by
 have h1 : (0 : Int) < j := hc.1
 have h2 : j < 1073741824 := hc.2
 exact floordiv_int (by lia) (by rw [Int.fdiv_eq_ediv_of_nonneg i (by lia)]; exact q) (.inl (PyProof.noPylong_small (by lia)))
theorem Ybk : OpR X (binaryOp .Mod) (rI (fun _ j => 0 < j) fun i j => .int (i % j)) := opI fun i j _ _ _ _ _ hc q => by
 have h1 : (0 : Int) < j := hc
 exact mod_int' (by lia) (by rw [Int.fmod_eq_emod_of_nonneg i (by lia)]; exact q)
theorem wbr : OpR X (binaryOp .Pow) (rI Ya7 fun i j => .int (i ^ j.toNat)) := opI fun _ _ _ _ _ _ _ hc q => pow_int_small hc.1 hc.2.1 hc.2.2 q
theorem unI {f : Value -> Sem Value} {g : Int -> Int}
  (rule : ∀ (i : Int) (t : Tok) (s : Shared) (Q : ZVP) (E : ZVP), Q (.int (g i) s.toks) { s with toks := s.toks + 1 } -> wpAny (model X.prog X.w) X.A (f (.int i t)) Q E s) :
  UnR X f (rU fun i => .int (g i)) := by
 intro pins s σ H x v Q I rx h
 obtain ⟨i, rfl, q⟩ := h
 obtain ⟨t, rfl⟩ := rx
 exact rule i t s _ _ ⟨.int (g i), H, I.tok _, ⟨_, rfl⟩, q⟩
theorem Zbl : UnR X (unaryOp .USub) (rU fun i => .int (-i)) := unI fun _ _ _ _ _ q => neg_int q
end
noncomputable def qbp : V -> V -> Bool
 | .non, .non => true | .non, .int _ => true | .int _, .non => true | .non, .bl _ => true | .bl _, .non => true | .non, .str _ => true | .str _, .non => true
 | .int _, .int _ => true | .bl _, .bl _ => true | .str _, .str _ => true | .byt _, .byt _ => true
 | .int _, .str _ => true | .str _, .int _ => true | .bl _, .str _ => true | .str _, .bl _ => true
 | _, _ => false
def rEq : R2 := fun x y H Q => qbp x y = true /\ Q (.bl (decide (x = y))) H
def rNe : R2 := fun x y H Q => qbp x y = true /\ Q (.bl (!decide (x = y))) H
theorem kaK {i j : Int} : decide (V.int i = V.int j) = (i == j) := by
 rw [yC]
 simp
theorem YaS {i j : Bool} : decide (V.bl i = V.bl j) = (i == j) := by
 rw [yC]
 simp
theorem jaK {i j : Str} : decide (V.str i = V.str j) = (i == j) := by
 rw [yC]
 simp
theorem YaJ {i j : Array UInt8} : decide (V.byt i = V.byt j) = (i.toList == j.toList) := by
 rw [yC]
 cases i
 cases j
 simp
section
variable {X : Cx} {a b c : Expr} {ta tb tc : TE} {pos : Pos}
theorem kf {pins : ZPO} {σ : St} {H : Hp} {s : Shared} {Q : VK} {k k' : Bool} (I : Inv X pins σ H s) (q : Q (.bl k) H) (e : k = k') : EP X pins σ Q (.bool k') s := by
 subst e
 exact ⟨.bl k, H, I, rfl, q⟩
theorem jaQ : OpR X (compareOp .Eq) rEq := by
 intro pins s σ H x y v u Q I rx ry h
 obtain ⟨hs, q⟩ := h
 cases x with
 | non =>
  cases rx
  cases y with
  | non => cases ry; exact PySem.EqNone.eq_none_none (kf I q (by simp))
  | bl j => cases ry; exact PySem.EqNone.eq_none_bool (kf I q (by simp))
  | int j => obtain ⟨t', rfl⟩ := ry; exact PySem.EqNone.eq_none_int (kf I q (by simp))
  | str j => obtain ⟨t', rfl⟩ := ry; exact PySem.EqNone.eq_none_str (kf I q (by simp))
  | _ => exact absurd (show false = true from hs) uF
 | bl i =>
  cases rx
  cases y with
  | non => cases ry; exact PySem.EqNone.eq_bool_none (kf I q (by simp))
  | bl j => cases ry; exact eq_bool (kf I q YaS)
  | str j => obtain ⟨t', rfl⟩ := ry; exact PySem.EqMixed.eq_bool_str (kf I q (by simp))
  | _ => exact absurd (show false = true from hs) uF
 | int i =>
  obtain ⟨t, rfl⟩ := rx
  cases y with
  | non => cases ry; exact PySem.EqNone.eq_int_none (kf I q (by simp))
  | int j => obtain ⟨t', rfl⟩ := ry; exact eq_int (kf I q kaK)
  | str j => obtain ⟨t', rfl⟩ := ry; exact PySem.EqMixed.eq_int_str (kf I q (by simp))
  | _ => exact absurd (show false = true from hs) uF
 | str i =>
  obtain ⟨t, rfl⟩ := rx
  cases y with
  | non => cases ry; exact PySem.EqNone.eq_str_none (kf I q (by simp))
  | bl j => cases ry; exact PySem.EqMixed.eq_str_bool (kf I q (by simp))
  | int j => obtain ⟨t', rfl⟩ := ry; exact PySem.EqMixed.eq_str_int (kf I q (by simp))
  | str j => obtain ⟨t', rfl⟩ := ry; exact eq_str (kf I q jaK)
  | _ => exact absurd (show false = true from hs) uF
 | byt i =>
  obtain ⟨t, rfl⟩ := rx
  cases y with
  | byt j => obtain ⟨t', rfl⟩ := ry; exact PySem.W.eq_bytes (kf I q YaJ)
  | _ => exact absurd (show false = true from hs) uF
 | _ => cases y <;> exact absurd (show false = true from hs) uF
theorem vaQ : OpR X (compareOp .NotEq) rNe := by
 intro pins s σ H x y v u Q I rx ry h
 obtain ⟨hs, q⟩ := h
 cases x with
 | non =>
  cases rx
  cases y with
  | non => cases ry; exact PySem.EqNone.ne_none_none (kf I q (by simp))
  | bl j => cases ry; exact PySem.EqNone.ne_none_bool (kf I q (by simp))
  | int j => obtain ⟨t', rfl⟩ := ry; exact PySem.EqNone.ne_none_int (kf I q (by simp))
  | str j => obtain ⟨t', rfl⟩ := ry; exact PySem.EqNone.ne_none_str (kf I q (by simp))
  | _ => exact absurd (show false = true from hs) uF
 | bl i =>
  cases rx
  cases y with
  | non => cases ry; exact PySem.EqNone.ne_bool_none (kf I q (by simp))
  | bl j => cases ry; exact ne_bool (kf I q (congrArg not YaS))
  | str j => obtain ⟨t', rfl⟩ := ry; exact PySem.EqMixed.ne_bool_str (kf I q (by simp))
  | _ => exact absurd (show false = true from hs) uF
 | int i =>
  obtain ⟨t, rfl⟩ := rx
  cases y with
  | non => cases ry; exact PySem.EqNone.ne_int_none (kf I q (by simp))
  | int j => obtain ⟨t', rfl⟩ := ry; exact ne_int (kf I q (congrArg not kaK))
  | str j => obtain ⟨t', rfl⟩ := ry; exact PySem.EqMixed.ne_int_str (kf I q (by simp))
  | _ => exact absurd (show false = true from hs) uF
 | str i =>
  obtain ⟨t, rfl⟩ := rx
  cases y with
  | non => cases ry; exact PySem.EqNone.ne_str_none (kf I q (by simp))
  | bl j => cases ry; exact PySem.EqMixed.ne_str_bool (kf I q (by simp))
  | int j => obtain ⟨t', rfl⟩ := ry; exact PySem.EqMixed.ne_str_int (kf I q (by simp))
  | str j => obtain ⟨t', rfl⟩ := ry; exact ne_str (kf I q (congrArg not jaK))
  | _ => exact absurd (show false = true from hs) uF
 | byt i =>
  obtain ⟨t, rfl⟩ := rx
  cases y with
  | byt j => obtain ⟨t', rfl⟩ := ry; exact PySem.W.ne_bytes (kf I q (congrArg not YaJ))
  | _ => exact absurd (show false = true from hs) uF
 | _ => cases y <;> exact absurd (show false = true from hs) uF
theorem Wbt : OpR X (compareOp .Lt) (rI0 fun i j => .bl (decide (i < j))) := XaQ fun _ _ _ _ _ _ _ q => lt_int q
theorem kbu : OpR X (compareOp .LtE) (rI0 fun i j => .bl (decide (i <= j))) := XaQ fun _ _ _ _ _ _ _ q => le_int q
theorem Ybs : OpR X (compareOp .Gt) (rI0 fun i j => .bl (decide (j < i))) := XaQ fun _ _ _ _ _ _ _ q => gt_int q
theorem Xbs : OpR X (compareOp .GtE) (rI0 fun i j => .bl (decide (j <= i))) := XaQ fun _ _ _ _ _ _ _ q => ge_int q
theorem Zbj : OpR X (compareOp .Is) (fun x y H Q => y = .non /\ Q (.bl (decide (x = .non))) H) := by
 intro pins s σ H x y v u Q I rx ry h
 obtain ⟨rfl, q⟩ := h
 cases ry
 refine is_none_gen (kf I q ?_)
 cases x <;> first
  | (cases rx; rfl)
  | (obtain ⟨t, rfl⟩ := rx; rfl)
theorem Zbi : OpR X (compareOp .IsNot) (fun x y H Q => y = .non /\ Q (.bl (!decide (x = .non))) H) := by
 intro pins s σ H x y v u Q I rx ry h
 obtain ⟨rfl, q⟩ := h
 cases ry
 refine isnot_none_gen (kf I q ?_)
 cases x <;> first
  | (cases rx; rfl)
  | (obtain ⟨t, rfl⟩ := rx; rfl)
theorem XaT (b : Expr) {op : CmpOp} (h : op ≠ .In := by decide) (h2 : op ≠ .NotIn := by decide) : behindInMarks op b = false := by
 have e1 : (op == CmpOp.In) = false := by cases op <;> first | rfl | exact absurd rfl h
 have e2 : (op == CmpOp.NotIn) = false := by cases op <;> first | rfl | exact absurd rfl h2
 cases b <;> simp [behindInMarks, e1, e2]
theorem vba {op : CmpOp} {r : R2} (ho : OpR X (compareOp op) r) (ha : PE X a ta) (hb : PE X b tb) (hm : behindInMarks op b = false) : PE X (.Compare a [op] [b] pos) (tOp r ta tb) := by
 intro pins s σ H Q I h
 exact wpAny_Compare1 (Za4 ha hb I h fun v u s2 x y H2 I2 rx ry q => ho pins s2 σ H2 x y v u Q I2 rx ry q) hm
def Wbs (t : TE) : TT := fun σ H Q => t σ H fun x H' => ∃ k, x = .bl k /\ Q k H'
theorem qbc {op : CmpOp} {r : R2} (ho : OpR X (compareOp op) r) (ha : PE X a ta) (hb : PE X b tb) (hm : behindInMarks op b = false) : PT X (.Compare a [op] [b] pos) (Wbs (tOp r ta tb)) := by
 intro pins s σ H Q I h
 refine wpAny_isTrue_Compare1 (Xv (ha pins s σ H _ I h) fun v s1 x H1 I1 r1 q1 => Xv (hb pins s1 σ H1 _ I1 q1) fun u s2 y H2 I2 r2 q2 =>
  thn (ho pins s2 σ H2 x y v u _ I2 r1 r2 q2) fun c s3 w1_ => w1_.elim fun z z_ => z_.elim fun H3 z_ => z_.elim fun I3 z_ => z_.elim fun r3 z_ => z_.elim fun k z_ => z_.elim fun e q3 => ?_) hm
 subst e
 cases r3
 exact wpAny_truthy_bool ⟨H3, I3, q3⟩
def kbm (K : uC) (x : V) (H : Hp) (k : Bool) : Prop :=
 match x with
 | .non => k = false
 | .bl b => k = b
 | .int i => k = (i != 0)
 | .str y => y.length <= sizeLine /\ k = ((y.length : Int) != 0)
 | .byt y => y.size <= sizeLine /\ k = ((y.size : Int) != 0)
 | .ref p => (∃ xs, SqL K H p xs /\ k = !xs.isEmpty) \/ (∃ xs, SqT K H p xs /\ k = !xs.isEmpty) \/ ∃ kvs, H p = some (.dK kvs) /\ k = !kvs.isEmpty
 | _ => False
theorem kaO {κ : Type} {kvs : List (κ × V)} {vs : List (κ × Value)} (r : KV kvs vs) : (!vs.isEmpty) = !kvs.isEmpty := by
 cases r <;> rfl
theorem Yae {xs : List V} {its : List Value} (r : Vals xs its) : (!its.toArray.isEmpty) = !xs.isEmpty := by
 cases r <;> simp
theorem kN : (sizeLine : Nat) < 2 ^ 63 := by rw [sizeLine_eq]; decide
theorem kbk : Ybw X (fun x H Q => ∃ k, kbm X.K x H k /\ Q k H) := by
 intro pins s σ H x v Q I rx h
 obtain ⟨k, e, q⟩ := h
 have hl := kN
 have hs : sizeLine = 16777216 := sizeLine_eq
 cases x with
 | non =>
  cases rx
  have e' : k = false := e
  subst e'
  exact truthy_none ⟨H, I, q⟩
 | bl b =>
  cases rx
  have e' : k = b := e
  subst e'
  exact wpAny_truthy_bool ⟨H, I, q⟩
 | int i =>
  obtain ⟨t, rfl⟩ := rx
  have e' : k = (i != 0) := e
  subst e'
  exact PySem.P.truthy_int ⟨H, I, q⟩
 | str y =>
  obtain ⟨t, rfl⟩ := rx
  obtain ⟨hy, e'⟩ : y.length <= sizeLine /\ k = ((y.length : Int) != 0) := e
  subst e'
  exact PySem.P.truthy_str (by lia) ⟨H, I.tok _, q⟩
 | byt y =>
  obtain ⟨t, rfl⟩ := rx
  obtain ⟨hy, e'⟩ : y.size <= sizeLine /\ k = ((y.size : Int) != 0) := e
  subst e'
  exact PySem.W.truthy_bytes (by lia) ⟨H, I.tok _, q⟩
 | ref p =>
  cases rx
  have e' : (∃ xs, SqL X.K H p xs /\ k = !xs.isEmpty) \/ (∃ xs, SqT X.K H p xs /\ k = !xs.isEmpty) \/ ∃ kvs, H p = some (.dK kvs) /\ k = !kvs.isEmpty := e
  rcases e' with ⟨xs, hx, e'⟩ | ⟨xs, hx, e'⟩ | ⟨kvs, hx, e'⟩
  ·subst e'
   obtain ⟨its, r, pl, hz⟩ := I.list hx
   have hlen := r.length
   exact wpAny_truthy_list pl.isList (by simp only [uJ]; lia) ⟨H, I.tok _, by rw [Yae r]; exact q⟩
  ·subst e'
   obtain ⟨its, r, pl, hz⟩ := I.tuple hx
   have hlen := r.length
   exact truthy_tuple pl (by simp only [uJ]; lia) ⟨H, I.tok _, by rw [Yae r]; exact q⟩
  ·subst e'
   obtain ⟨hz, hS, vs, r, m⟩ : kvs.length <= sizeLine /\ (p == sysModules) = false /\ ∃ vs, KV kvs vs /\ s.heap.DictOf (Wq X.prog X.w) p vs := I.hok p _ hx
   have hlen : kvs.length = vs.length := Paired.length r
   exact wpAny_truthy_dict hS m (by lia) ⟨H, I.tok _, by rw [kaO r]; exact q⟩
 | _ => exact (show False from e).elim
theorem Xa5 (ha : PE X a ta) (he : ∀ whole, isTrue a X.env whole = (do let v ← whole; standAt a.pos; holding [v] (truthy v))) :
  PT X a (fun σ H Q => ta σ H fun x H' => ∃ k, kbm X.K x H' k /\ Q k H') := by
 intro pins s σ H Q I h
 exact isTrue_plain (Xv (ha pins s σ H _ I h) fun v s1 x H1 I1 r1 q1 => kbk pins s1 σ H1 x v Q I1 r1 q1) (he _)
theorem XO {x : V} {us : List Value} (r : Vals [x] us) : ∃ u, us = [u] /\ RelV x u := by
 cases r with
 | cons r1 r2 => cases r2; exact ⟨_, rfl, r1⟩
theorem wa8 {x y : V} {us : List Value} (r : Vals [x, y] us) : ∃ u w', us = [u, w'] /\ RelV x u /\ RelV y w' := by
 cases r with
 | cons r1 r2 =>
  cases r2 with
  | cons r3 r4 => cases r4; exact ⟨_, _, rfl, r1, r3⟩
theorem waX (hc : X.calm = true) : CallR X (.builtin "min") (fun xs H Q => ∃ i j, xs = [.int i, .int j] /\ Q (.int (if j < i then j else i)) H) := by
 intro pins s σ H xs us Q I r h
 obtain ⟨i, j, rfl, q⟩ := h
 obtain ⟨u, w', rfl, ⟨t, rfl⟩, ⟨t', rfl⟩⟩ := wa8 r
 refine min_two_ints (I.ok.hd hc) fun h' tk k => ⟨_, H, I.kept k, ?_, q⟩
 by_cases hj : j < i
 ·rw [if_pos hj, if_pos hj]; exact ⟨_, rfl⟩
 ·rw [if_neg hj, if_neg hj]; exact ⟨_, rfl⟩
theorem call_int1 : CallR X (.type "int") (fun xs H Q => (∃ i, xs = [.int i] /\ Q (.int i) H) \/ ∃ k, xs = [.bl k] /\ Q (.int (if k then 1 else 0)) H) := by
 intro pins s σ H xs us Q I r h
 rcases h with ⟨i, rfl, q⟩ | ⟨k, rfl, q⟩
 ·obtain ⟨u, rfl, t, rfl⟩ := XO r
  exact call_int_int ⟨.int i, H, I, ⟨_, rfl⟩, q⟩
 ·obtain ⟨u, rfl, r1⟩ := XO r
  cases r1
  exact call_int_bool ⟨.int (if k then 1 else 0), H, I.tok _, ⟨_, rfl⟩, q⟩
end
structure ObjM (h : Heap) (x dx C : Addr) (mA : Str -> Option Value) : Prop where
 obj : h.get? x = some (PySem.W.instObj C dx)
 ns : h.Ns1 dx mA
 ne : dx ≠ x
theorem XaY {h : Heap} {dx : Addr} {mA : Str -> Option Value} (n : h.Ns1 dx mA) : ∃ od, h.get? dx = some od /\ ∀ name, PySem.W.lookIn name od = some (mA name) := by
 obtain ⟨o, es, ep, ho, hd, hk, _, hm⟩ := n
 refine ⟨o, ho, fun name => ?_⟩
 have e := hm name
 unfold nsFind findBy at e
 rw [← Array.find?_toList] at e
 unfold PySem.W.lookIn
 rw [hd]
 dsimp only
 split
 ·rename_i y q
  rw [q] at e
  exact congrArg some e
 ·rename_i q
  rw [q] at e
  have a : es.toList.any (·.refKey) = false := by
   rw [List.any_eq_false]
   intro y hy
   obtain ⟨z, t, hkey⟩ := hk y (xg.mp hy)
   simp [DictEntry.refKey, hkey]
  have a' : ¬ es.toList.any (·.refKey) = true := by rw [a]; exact uF
  rw [if_neg a']
  exact congrArg some e
theorem ObjM.look {h : Heap} {x dx C : Addr} {mA : Str -> Option Value} (I : ObjM h x dx C mA) : ∃ od, PySem.W.InstAt h x (PySem.W.instObj C dx) C (some od) /\ ∀ name, PySem.W.lookIn name od = some (mA name) :=
 let ⟨od, ho, hl⟩ := XaY I.ns
 ⟨od, ⟨I.obj, rfl, rfl, ho⟩, hl⟩
theorem RelO.some_of {v : V} {o : Option Value} (r : RelO (some v) o) : ∃ u, o = some u /\ RelV v u := by
 cases o with
 | none => exact (show False from r).elim
 | some u => exact ⟨u, rfl, r⟩
section
variable {P : Program} {w : World} {H H' : Hp} {h h' : Heap} {a C dx : Addr} {fs fs' : List (Str × V)}
theorem Ybf (hok : HOk P w H h) (e : H a = some (.ins C dx fs)) : ∃ mA, ObjM h a dx C mA /\ (∀ f, RelO (fs.lookup f) (mA f)) /\ PySem.Within mA (fs.map (·.1)) /\ fs.length <= 1000 /\ H dx = some (.own a) := by
 obtain ⟨d, z, ne, ob, mA, n, r, q⟩ := (show ObjOk P w H h a (.ins C dx fs) from hok a _ e)
 exact ⟨mA, ⟨ob, n, ne⟩, r, q, z, d⟩
end
structure Cls (K : uC) (C : Addr) : Prop where
 pg : PySem.W.plainGet K C Str.empty = true
 hd : PySem.W.hasDictIn K C = true
 po : PySem.W.plainOver K C = true
 sa : PySem.W.findIn K (.ref C) "__setattr__" = some (some (.builtin "object.__setattr__"))
theorem Cls.get {K : uC} {C : Addr} (c : Cls K C) (f : Str) : PySem.W.plainGet K C f = true := c.pg
section
variable {X : Cx} {pins : ZPO} {σ : St} {H : Hp} {s : Shared} {A : Around} {E : ZVP} {Q : ZVP} {c : Value} {b : Bool}
inductive wI (K : uC) (H : Hp) : V -> Value -> Prop where
 | non : wI K H .non (.type "NoneType")
 | bl (x : Bool) : wI K H (.bl x) (.type "bool")
 | int (i : Int) : wI K H (.int i) (.type "int")
 | str (x : Str) : wI K H (.str x) (.type "str")
 | flt (x : UInt64) : wI K H (.flt x) (.type "float")
 | lst {a : Addr} {xs : List V} (e : H a = some (.lst xs)) : wI K H (.ref a) (.type "list")
 | frz {a : Addr} {o : Obj} {xs : List V} (e : H a = some (.frz o (.lst xs))) : wI K H (.ref a) (.type "list")
 | tup {a : Addr} {xs : List V} (e : H a = some (.tup xs)) : wI K H (.ref a) (.type "tuple")
 | dK {a : Addr} {kvs : List (Key × V)} (e : H a = some (.dK kvs)) : wI K H (.ref a) (.type "dict")
 | dT {a : Addr} {kvs : List (List Key × V)} (e : H a = some (.dT kvs)) : wI K H (.ref a) (.type "dict")
 | ins {a C dx : Addr} {fs : List (Str × V)} (e : H a = some (.ins C dx fs)) (cl : Cls K C) (ha : PySem.W.findIn K (.ref C) "__class__" = some (some (.builtin "object.__class__")))
   (hn : PySem.W.specialIn K (.builtin "object.__class__") "__get__" = some (some (.builtin "getset_descriptor.__get__"))) (htk : PySem.W.takesIn K (.builtin "object.__class__") = some true)
   (hm : PySem.W.mroIn K C (.type "object") = some true) : wI K H (.ref a) (.ref C)
theorem vO {x : V} {u t : Value} (I : Inv X pins σ H s) (rx : RelV x u) (ty : wI X.K H x t) (e : PySem.W.kitOne X.K t c = some b) (h : ∀ tk, Q (.bool b) { s with toks := tk }) :
  wpAny (model X.prog X.w) A (call (.builtin "isinstance") [u, c]) Q E s := by
 cases ty with
 | non => cases (show u = Value.none from rx); exact uy PySem.W.kitx_none I.kIn True.intro e (fun z => nomatch z) h
 | bl y => cases (show u = Value.bool y from rx); exact uy PySem.W.kitx_bool I.kIn True.intro e (fun z => nomatch z) h
 | int i => obtain ⟨t, q⟩ := (show ∃ t, u = Value.int i t from rx); cases q; exact uy PySem.W.kitx_int I.kIn True.intro e (fun z => nomatch z) h
 | str y => obtain ⟨t, q⟩ := (show ∃ t, u = Value.str y t from rx); cases q; exact uy PySem.W.kitx_str I.kIn True.intro e (fun z => nomatch z) h
 | flt y => obtain ⟨t, q⟩ := (show ∃ t, u = Value.float y t from rx); cases q; exact uy PySem.W.kitx_float I.kIn True.intro e (fun z => nomatch z) h
 | @lst a xs ea =>
  cases (show u = Value.ref a from rx)
  obtain ⟨_, _, n, _, h1⟩ := (show ObjOk X.prog X.w H s.heap a (.lst xs) from I.hok a _ ea)
  exact uy PySem.W.kitx_list I.kIn ⟨_, h1, rfl⟩ e (fun z => nomatch z) h
 | @frz a ob xs ea =>
  cases (show u = Value.ref a from rx)
  obtain ⟨_, _, _, n, _, h1⟩ := (show ObjOk X.prog X.w H s.heap a (.frz ob (.lst xs)) from I.hok a _ ea)
  exact uy PySem.W.kitx_list I.kIn ⟨_, h1, rfl⟩ e (fun z => nomatch z) h
 | @tup a xs ea =>
  cases (show u = Value.ref a from rx)
  obtain ⟨_, _, _, p⟩ := (show ObjOk X.prog X.w H s.heap a (.tup xs) from I.hok a _ ea)
  obtain ⟨o, h1, h2, _⟩ := p
  exact uy PySem.W.kitx_tuple I.kIn ⟨o, h1, h2⟩ e (fun z => nomatch z) h
 | @dK a kvs ea =>
  cases (show u = Value.ref a from rx)
  obtain ⟨_, _, vs, _, p⟩ := (show ObjOk X.prog X.w H s.heap a (.dK kvs) from I.hok a _ ea)
  obtain ⟨o, es, ep, h1, h2, _⟩ := p
  exact uy PySem.W.kitx_dict I.kIn ⟨o, h1, h2.1⟩ e (fun z => nomatch z) h
 | @dT a kvs ea =>
  cases (show u = Value.ref a from rx)
  obtain ⟨_, _, xs, _, o, es, ep, h1, h2, _⟩ := (show ObjOk X.prog X.w H s.heap a (.dT kvs) from I.hok a _ ea)
  exact uy PySem.W.kitx_dict I.kIn ⟨o, h1, h2.1⟩ e (fun z => nomatch z) h
 | @ins a C dx fs ea cl ha hn htk hm =>
  cases (show u = Value.ref a from rx)
  obtain ⟨mA, O, _⟩ := Ybf I.hok ea
  obtain ⟨od, J, _⟩ := O.look
  exact uy (PySem.W.kitx_own (cl.get _) cl.hd ha hn htk hm) I.kIn J e (fun z => nomatch z) h
end
structure Room (k : Nat) (A : Around) : Prop where
 hd : A.handled = none
 dp : A.depth + 3 * k + 5 < recursionLimit
 un : A.units + 16 * k + 200 < cLine
theorem Room.mono {j k : Nat} {A : Around} (r : Room k A) (h : j <= k) : Room j A := ⟨r.hd, by have := r.dp; lia, by have := r.un; lia⟩
theorem Room.deeper {k : Nat} {A : Around} (r : Room (k + 1) A) (env : Env) : Room k (A.deeper env) :=
 ⟨r.hd, by have := r.dp; show A.depth + 1 + 3 * k + 5 < _; lia, by have := r.un; show A.units + 3 + 16 * k + 200 < _; lia⟩
theorem Room.depth {k : Nat} {A : Around} (r : Room k A) : A.depth < recursionLimit := by have := r.dp; lia
theorem Room.units {k : Nat} {A : Around} (r : Room k A) : A.units + 64 < cLine := by have := r.un; lia
def jaM : TA := fun _ H Q => Q [] H
def kaM (ta : TE) (tr : TA) : TA := fun σ H Q => ta σ H fun x H1 => tr σ H1 fun xs H2 => Q (x :: xs) H2
section
variable {X : Cx} {e : Expr} {es : List Expr} {te : TE} {t : TA} {pos : Pos}
theorem pa_nil : PA X [] jaM := fun _ _ _ _ H Q I h => Calls.spliced_nil ⟨[], H, I, .nil, h⟩
theorem wB (ha : PE X e te) (hr : PA X es t) (hs : starEach (e :: es) X.env = (false, eval e X.env) :: starEach es X.env := by rfl) : PA X (e :: es) (kaM te t) := by
 intro pos pins s σ H Q I h
 rw [hs]
 show wpAny _ _ (spliced ((false, eval e X.env) :: backTo pos (starEach es X.env))) _ _ s
 refine Calls.spliced_cons (Xv (ha pins s σ H _ I h) fun u s1 x H1 I1 r1 q1 => ?_)
 exact vaa (hr pos pins s1 σ H1 _ I1 q1) fun us s2 xs H2 I2 r2 q2 => ⟨x :: xs, H2, I2, .cons r1 r2, q2⟩
def kbx (t : TA) : TE := fun σ H Q => t σ H fun xs H1 => xs.length <= sizeLine /\ ∀ p, H1 p = none -> Q (.ref p) (upd H1 p (.tup xs))
def vbx (t : TA) : TE := fun σ H Q => t σ H fun xs H1 => xs.length <= sizeLine /\ ∀ p, H1 p = none -> Q (.ref p) (upd H1 p (.lst xs))
theorem vbn {x1} (h : PA X es t) : PE X (.Tuple es x1 pos) (kbx t) := by
 intro pins s σ H Q I hq
 refine wpAny_Tuple_spliced (thn (h pos pins s σ H _ I hq) fun us s1 w1_ => w1_.elim fun xs z_ => z_.elim fun H1 z_ => z_.elim fun I1 z_ => z_.elim fun r z_ => z_.elim fun z q => ⟨by rw [← r.length]; exact z, ?_⟩)
 have hf : H1 s1.heap.objs.size = none := I1.hok.fresh (uI _)
 refine ⟨.ref s1.heap.objs.size, upd H1 s1.heap.objs.size (.tup xs), I1.laid (t' := s1.toks) (fun b u e => uD _ e) (uI _) ?_, rfl, q _ hf⟩
 exact ⟨z, us, r, ⟨_, uP _ rfl, rfl, _, rfl⟩⟩
theorem vbm (h : PA X es t) : PE X (.List es pos) (vbx t) := by
 intro pins s σ H Q I hq
 refine wpAny_List_spliced (thn (h pos pins s σ H _ I hq) fun us s1 w1_ => w1_.elim fun xs z_ => z_.elim fun H1 z_ => z_.elim fun I1 z_ => z_.elim fun r z_ => z_.elim fun z q => ⟨by rw [← r.length]; exact z, ?_⟩)
 have hf : H1 s1.heap.objs.size = none := I1.hok.fresh (uI _)
 refine ⟨.ref s1.heap.objs.size, upd H1 s1.heap.objs.size (.lst xs), I1.laid (t' := s1.toks) (fun b u e => uD _ e) (uI _) ?_, rfl, q _ hf⟩
 exact ⟨z, us, 0, r, uP _ rfl⟩
end
noncomputable abbrev Sp := List V -> Hp -> VK -> XK -> Prop
noncomputable abbrev CXT := List Env -> Hp -> Shared -> XK -> Value -> Shared -> Prop
structure Env0 (P : Program) (w : World) (K : uC) (mg : Str -> Option Value) (base : Heap) (A : Around) (outer : List Env) (s : Shared) (H : Hp) : Prop where
 frames : A.frames = some outer
 mod : Mod K mg base
 bs : ∀ b o, base.get? b = some o -> s.heap.get? b = some o /\ H b = none
 bsz : base.objs.size <= s.heap.objs.size
 funs : s.heap.FunFrames base outer
 frf : ∀ b ∈ frs outer, H b = none
 hok : HOk P w H s.heap
 bare : AllBare s.gens
def CE (outer : List Env) (P : Program) (w : World) (H : Hp) (s : Shared) (Q : VK) (u : Value) (s' : Shared) : Prop :=
 ∃ v H', s'.os = s.os /\ AllBare s'.gens /\ Un (frs outer) [] H H' s.heap s'.heap /\ HOk P w H' s'.heap /\ RelV v u /\ Q v H'
def CR (CX : CXT) (outer : List Env) (P : Program) (w : World) (H : Hp) (s : Shared) (Q : VK) (E : XK) (r : Result) (s' : Shared) : Prop :=
 match r with
 | .ok (.ret u) => CE outer P w H s Q u s'
 | .ok _ => False
 | .error e => CX outer H s E e s'
structure qh (P : Program) (w : World) (K : uC) (mg : Str -> Option Value) (base : Heap) (CX : CXT) (k : Nat) (f : Addr) (fd : FuncData) (ps : List Str) (sp : Sp) : Prop where
 len : ∀ vs H Q E, sp vs H Q E -> vs.length = ps.length
 run : ∀ (A : Around) (outer : List Env) (s : Shared) (H : Hp) (args : Args) (us : List Value) (vs : List V) (Q : VK) (E : XK), Room k A -> Env0 P w K mg base A outer s H -> BindsTo s fd args (ps.zip us) -> Vals vs us -> sp vs H Q E →
  codeAny (model P w) A (.call (.ref f) args) (CR CX outer P w H s Q E) s
theorem Env0.in1 {P : Program} {w : World} {K : uC} {mg : Str -> Option Value} {base : Heap} {A : Around} {outer : List Env} {s : Shared} {H : Hp} (e : Env0 P w K mg base A outer s H) :
  Env0 P w K mg base A.in1 outer s H := ⟨e.frames, e.mod, e.bs, e.bsz, e.funs, e.frf, e.hok, e.bare⟩
section
variable {X : Cx} {pins : ZPO} {σ : St} {H : Hp} {s s' : Shared}
theorem Inv.env0 (I : Inv X pins σ H s) : Env0 X.prog X.w X.K X.mg X.base X.A X.stack s H :=
 ⟨I.ok.frames, I.ok.mod, I.bs, xD I.ok.bsz I.sz, I.stack, I.stkFree, I.hok, I.bare⟩
theorem Inv.after {Q : VK} {u : Value} (I : Inv X pins σ H s) (h : CE X.stack X.prog X.w H s Q u s') : EP X pins σ Q u s' := by
 obtain ⟨v, H', os, bare, un, hok, r, q⟩ := h
 obtain ⟨hh, g, d, t, os'⟩ := s'
 obtain rfl : os' = s.os := os
 exact ⟨v, H', I.call (h' := hh) (g' := g) (d' := d) (t' := t) (ch := []) un hok bare (fun b z => absurd z (by simp)), r, q⟩
end
def ZaR (sp : Sp) (dvs : List V) (E : XK) (t : TA) : TE := fun σ H Q => t σ H fun vs H1 => sp (vs ++ dvs) H1 Q E
def Binds (K : uC) (fd : FuncData) (ps : List Str) (ds : List Value) : Prop :=
 ∀ (s : Shared) (us : List Value), K.In s.heap -> (us ++ ds).length = ps.length -> BindsTo s fd ⟨us, []⟩ (ps.zip (us ++ ds))
theorem Binds.all {K : uC} {fd : FuncData} {ps : List Str} (h : ∀ us : List Value, us.length = ps.length -> bindArgs fd ⟨us, []⟩ = pure (ps.zip us)) : Binds K fd ps [] := fun s us _ hl => by
 rw [List.append_nil] at hl ⊢
 exact .of_eq (h us hl)
def Xag (CX : CXT) (X : Cx) (E : XK) : Prop := ∀ (pins : ZPO) (σ : St) (H : Hp) (s : Shared) (e : Value) (s' : Shared), Inv X pins σ H s -> CX X.stack H s E e s' -> X.xe e s'
section
variable {X : Cx} {CX : CXT} {k : Nat} {f C : Addr} {fd : FuncData} {ps : List Str} {sp : Sp} {dvs : List V} {ds : List Value} {E : XK} {x m : Str} {p pos apos : Pos} {e o : Expr} {es : List Expr} {ta : TE} {t : TA}
theorem qaT {pins : ZPO} {σ : St} {H : Hp} {s : Shared} {Q : VK} {us : List Value} {vs : List V} (F : qh X.prog X.w X.K X.mg X.base CX k f fd ps sp) (hr : Room k X.A) (hb : Binds X.K fd ps ds) (hd : Vals dvs ds) (hx : Xag CX X E)
  (I : Inv X pins σ H s) (r : Vals vs us) (h : sp (vs ++ dvs) H Q E) : wpAny (model X.prog X.w) X.A (call (.ref f) us) (EP X pins σ Q) X.xe s := by
 have r2 : Vals (vs ++ dvs) (us ++ ds) := r.append hd
 have hl : (us ++ ds).length = ps.length := by rw [← r2.length]; exact F.len _ _ _ _ h
 refine wpAny_call (codeAny_mono (F.run X.A X.stack s H ⟨us, []⟩ (us ++ ds) (vs ++ dvs) Q E hr I.env0 (hb s us I.kIn hl) r2 h) fun r s' hq => ?_)
 cases r with
 | error e => exact hx pins σ H s e s' I hq
 | ok fl =>
  cases fl with
  | ret u => exact I.after hq
  | next => exact False.elim hq
  | brk => exact False.elim hq
  | cont => exact False.elim hq
theorem Wbb (F : qh X.prog X.w X.K X.mg X.base CX k f fd ps sp) (hr : Room k X.A) (hg : Gl X x) (hm : X.mg x = some (.ref f)) (hk : uS X.K (.ref f) = true) (hb : Binds X.K fd ps ds) (hd : Vals dvs ds) (hx : Xag CX X E)
  (ha : PA X (e :: es) t) (hdb : (x == ("__debug__" : Str)) = false := by decide) (he : starEach (e :: es) X.env = (false, eval e X.env) :: starEach es X.env := by rfl) (hpl : (backTo pos (starEach es X.env)).any (·.1) = false := by rfl) :
  PE X (.Call (.Name x p) (e :: es) [] pos) (ZaR sp dvs E t) := by
 intro pins s σ H Q I h
 refine wpAny_Call_Name_kw (qak I hg hm ?_ hdb)
 refine PySem.W.callWith_K (h₀ := X.base) I.ok.mod.kin hk (vaa (ha pos pins s σ H _ I h) fun us s1 vs H1 I1 r q => ⟨I1.kIn, ?_⟩) he hpl
 exact qaT F hr hb hd hx I1 r q
theorem va3 (F : qh X.prog X.w X.K X.mg X.base CX k f fd ps sp) (hr : Room k X.A) (hg : Gl X x) (hm : X.mg x = some (.ref f)) (hk : uS X.K (.ref f) = true) (hb : Binds X.K fd ps ds) (hd : Vals dvs ds) (hx : Xag CX X E)
  (hdb : (x == ("__debug__" : Str)) = false := by decide) : PE X (.Call (.Name x p) [] [] pos) (ZaR sp dvs E jaM) := by
 intro pins s σ H Q I h
 refine wpAny_Call_Name_kw (qak I hg hm ?_ hdb)
 exact PySem.W.callWith_K0 I.kIn hk (qaT (us := []) F hr hb hd hx I .nil h)
end
structure qe (N P : List Str) (sc : Scope) : Prop where
 kind : sc.kind = .function
 co : sc.isCoroutine = false
 gen : sc.isGenerator = false
 nd : N.Nodup
 pre : N.take P.length = P
 par : ∀ x ∈ P, sc.names.lookup x = some .local \/ sc.names.lookup x = some .cell
 nofree : ∀ y ∈ sc.names, y.2 ≠ .free
theorem kap {kindOf : Str -> Option NameKind} {x : Str} : ∀ {binds : List (Str × Value)} {m : Str -> Option Value}, (∀ v, (x, v) ∉ binds) -> bindL kindOf binds m x = m x
 | [], _, _ => rfl
 | (n, v) :: r, m, h => by
  unfold bindL
  rw [kap fun w hw => h w (uQ _ hw)]
  split
  ·have : x ≠ n := by rintro rfl; exact h v ug
   simp [this]
  ·rfl
theorem Yao {kindOf : Str -> Option NameKind} {x : Str} : ∀ {binds : List (Str × Value)} {m : Str -> Option Value}, (∀ v, (x, v) ∉ binds) -> bindC kindOf binds m x = m x
 | [], _, _ => rfl
 | (n, v) :: r, m, h => by
  unfold bindC
  rw [Yao fun w hw => h w (uQ _ hw)]
  split
  ·rfl
  ·have : x ≠ n := by rintro rfl; exact h v ug
   simp [this]
theorem Wao {kindOf : Str -> Option NameKind} {x : Str} {v : Value} : ∀ {P : List Str} {vs : List Value} {i : Nat} {m : Str -> Option Value}, P.Nodup -> P[i]? = some x -> vs[i]? = some v -> kindOf x = some .local →
  bindL kindOf (P.zip vs) m x = some v
 | [], _, _, _, _, h, _, _ => by simp at h
 | _ :: _, [], _, _, _, _, h, _ => by simp at h
 | p :: P, w :: vs, 0, m, nd, h1, h2, hk => by
  simp at h1 h2; subst h1; subst h2
  show bindL kindOf ((p, w) :: P.zip vs) m p = _
  unfold bindL
  rw [kap fun v hv => (yD.mp nd).1 (List.of_mem_zip hv).1, if_pos hk]
  simp
 | p :: P, w :: vs, i + 1, m, nd, h1, h2, hk => by
  show bindL kindOf ((p, w) :: P.zip vs) m x = _
  unfold bindL
  exact Wao (i := i) (yD.mp nd).2 (by simpa using h1) (by simpa using h2) hk
theorem waq {kindOf : Str -> Option NameKind} {x : Str} {v : Value} : ∀ {P : List Str} {vs : List Value} {i : Nat} {m : Str -> Option Value}, P.Nodup -> P[i]? = some x -> vs[i]? = some v -> kindOf x ≠ some .local →
  bindC kindOf (P.zip vs) m x = some v
 | [], _, _, _, _, h, _, _ => by simp at h
 | _ :: _, [], _, _, _, _, h, _ => by simp at h
 | p :: P, w :: vs, 0, m, nd, h1, h2, hk => by
  simp at h1 h2; subst h1; subst h2
  show bindC kindOf ((p, w) :: P.zip vs) m p = _
  unfold bindC
  rw [Yao fun v hv => (yD.mp nd).1 (List.of_mem_zip hv).1, if_neg hk]
  simp
 | p :: P, w :: vs, i + 1, m, nd, h1, h2, hk => by
  show bindC kindOf ((p, w) :: P.zip vs) m x = _
  unfold bindC
  exact waq (i := i) (yD.mp nd).2 (by simpa using h1) (by simpa using h2) hk
noncomputable def start (N : List Str) (vs : List V) : St := vs.map some ++ uK (N.length - vs.length) none
noncomputable def XN (CX : CXT) (P : Program) (w : World) (K : uC) (mg : Str -> Option Value) (base : Heap) (N : List Str) (qual : Str) (scope : Scope) (f : Addr) (cd : Value) (A : Around) (outer : List Env) (s : Shared) (H : Hp) (E : XK) : Cx where
 prog := P
 w := w
 K := K
 mg := mg
 base := base
 A := A.deeper (envOfC qual scope s.heap.objs.size f cd)
 N := N
 s₀ := s
 H₀ := H
 env := envOfC qual scope s.heap.objs.size f cd
 outer := outer
 stack := envOfC qual scope s.heap.objs.size f cd :: outer
 ex := []
 calm := true
 fn := fun _ => true
 pn := []
 xe := fun e s' => wpAny (model P w) (A.deeper (envOfC qual scope s.heap.objs.size f cd)) (leaving (envOfC qual scope s.heap.objs.size f cd) e) (fun _ s'' => CX outer H s E e s'') (fun e' s'' => CX outer H s E e' s'') s'
theorem vaF {sc : Scope} {n : Nat} {x : Str} (h : sc.names.lookup x = some .cell) : ∃ c, (cellsFrom n sc.names []).lookup x = some c := by
 have q := xq sc.names n [] (.inl h)
 exact yE.mp q
theorem Xap {CX : CXT} {P : Program} {w : World} {K : uC} {mg : Str -> Option Value} {base : Heap} {N ps : List Str} {qual : Str} {scope : Scope} {f : Addr} {cd : Value} {A : Around} {outer : List Env} {s s1 : Shared} {H : Hp} {E : XK} {us : List Value} {vs : List V}
  (S : qe N ps scope) (hd : A.handled = none) (e0 : Env0 P w K mg base A outer s H) (hl : vs.length = ps.length) (r : Vals vs us)
  (x : InCallC s s.heap.objs.size (bindL (envOfC qual scope s.heap.objs.size f cd).kindOf (ps.zip us) fun _ => none) (cellsFrom (s.heap.objs.size + 1) scope.names []) (bindC (envOfC qual scope s.heap.objs.size f cd).kindOf (ps.zip us) fun _ => none) s1) :
  Inv (XN CX P w K mg base N qual scope f cd A outer s H E) [] (start N vs) H s1 := by
 have hpl : ps.length <= N.length := by have := congrArg xy S.pre; rw [ud] at this; lia
 obtain ⟨h1, tk, rfl, hk⟩ := x.done
 have noA : ∀ b : Addr, b ∉ (XN CX P w K mg base N qual scope f cd A outer s H E).ex := fun b z => absurd (show b ∈ ([] : List Addr) from z) (by simp)
 refine ⟨⟨e0.mod, S.kind, rfl, rfl, uI _, fun y z c h1 h2 => ?_, fun y hy => ?_, fun y c _ h => ?_, fun _ => hd, Around.frames_deeper e0.frames, .inr ⟨rfl, rfl⟩, fun b z => absurd z (noA b), e0.bs, e0.bsz, fun b _ _ => noA b, fun b z => absurd z (noA b), e0.funs, e0.frf⟩,
  rfl, e0.bare, Un.kept hk, ⟨_, x.toInCall.ns, fun i y v h1 h2 h3 => ?_⟩, fun y c h => ⟨_, x.cell y c h⟩, e0.hok.fresh (uI _), fun y c h => ?_, fun p hp => absurd (show p ∈ ([] : ZPO) from hp) (by simp), e0.hok.kept hk, ?_⟩
 ·exact name_of_addr x.apart (PySem.mem_of_lookup h1) (PySem.mem_of_lookup h2)
 ·have hy : scope.names.lookup y = some .cell \/ scope.names.lookup y = some .free := hy
  rcases hy with hy | hy
  ·exact vaF hy
  ·exact absurd rfl (S.nofree _ (PySem.mem_of_lookup hy))
 ·exact x6 (x.above y c (PySem.mem_of_lookup h))
 ·have hi : i < vs.length := by
   unfold start at h2
   by_cases hi : i < vs.length
   ·exact hi
   ·rw [u2 (by simpa using hi)] at h2
    rw [xm] at h2
    split at h2 <;> cases h2
  have ha : vs[i]? = some v := by
   unfold start at h2
   rw [u4 (by simpa using hi), uO] at h2
   cases e : vs[i]? with
   | none => rw [e] at h2; cases h2
   | some a => rw [e] at h2; cases h2; rfl
  obtain ⟨u, hu, rv⟩ := r.get ha
  have hp : ps[i]? = some y := by
   rw [← S.pre, List.getElem?_take_of_lt (by lia)]; exact h1
  have ndP : ps.Nodup := by rw [← S.pre]; exact S.nd.sublist (yM _ _)
  refine ⟨u, rv, ?_⟩
  rcases S.par y (xT hp) with k | k
  ·exact .inl ⟨k, Wao ndP hp hu k⟩
  ·obtain ⟨c, e⟩ := vaF (n := s.heap.objs.size + 1) k
   refine .inr ⟨.inl k, c, e, ?_⟩
   have q := x.cell y c e
   rw [waq ndP hp hu (by show scope.names.lookup y ≠ _; rw [k]; decide)] at q
   exact q
 ·exact e0.hok.fresh (x6 (x.above y c (PySem.mem_of_lookup h)))
 ·unfold start
  show _ = N.length
  rw [uE, uB, xE]
  lia
theorem ka9 {CX : CXT} {P : Program} {w : World} {K : uC} {mg : Str -> Option Value} {base : Heap} {k : Nat} {f : Addr} {name qual : Str} {params : Arguments} {body : List Stmt} {scope : Scope} {dV kV doc pm cdv ct oc : Value} {an od : Option Addr}
  {osl : Array (Option Value)} {N ps : List Str} {sp : Sp} (lk : K.lookup f = some ⟨oc, od, .func (uW name qual params body scope dV kV doc pm an cdv ct), osl⟩) (hcd : uT K cdv qual = true) (S : qe N ps scope)
  (len : ∀ vs H Q E, sp vs H Q E -> vs.length = ps.length)
  (hbody : ∀ (A : Around) (outer : List Env) (s : Shared) (H : Hp) (vs : List V) (Q : VK) (E : XK), Room k (A.deeper (envOfC qual scope s.heap.objs.size f cdv)) -> sp vs H Q E →
   ∃ t, PSs (XN CX P w K mg base N qual scope f cdv A outer s H E) body t /\ t { nx := fun _ H' => Q .non H', rt := Q } (start N vs) H) :
  qh P w K mg base CX (k + 1) f (uW name qual params body scope dV kV doc pm an cdv ct) ps sp := by
 refine ⟨len, fun A outer s H args us vs Q E hr e0 hb r hsp => ?_⟩
 have hl := len _ _ _ _ hsp
 have KX : K.In s.heap := e0.mod.kin.keeps fun b o e => (e0.bs b o e).1
 have lim : s.heap.NoLimit := e0.mod.nolimit.keeps fun b o e => (e0.bs b o e).1
 have hkind : ∀ y ∈ ps.zip us, scope.names.lookup y.1 = some .local \/ (scope.names.lookup y.1 = some .cell /\ ((cellsFrom (s.heap.objs.size + 1) scope.names []).lookup y.1).isSome = true) := fun ⟨n, v⟩ hy => by
  rcases S.par n (List.of_mem_zip hy).1 with q | q
  ·exact .inl q
  ·exact .inr ⟨q, xq _ _ _ (.inl q)⟩
 refine codeAny_call_function hr.depth (KX _ _ lk) rfl S.co S.gen rfl (PySem.W.codeRec_of KX hcd) (hb _ _ _ _ ?_)
 refine wpAny_newFunctionEnv_cells S.kind hkind fun env he s1 x => ?_
 subst he
 refine ⟨lim.keeps x.toInCall.keep, codeAny_func ?_⟩
 obtain ⟨t, ht, hq⟩ := hbody A outer s H vs Q E (hr.deeper _) hsp
 have I : Inv (XN CX P w K mg base N qual scope f cdv A outer s H E) [] (start N vs) H s1 := Xap S hr.hd e0 hl r x
 refine wpAny_mono (ht [] s1 (start N vs) H _ I hq) (fun fl s' hs => ?_) fun e s' hs => hs
 have fin : ∀ {σ' : St} {H' : Hp} {v : V} {u : Value}, Inv (XN CX P w K mg base N qual scope f cdv A outer s H E) [] σ' H' s' -> RelV v u -> Q v H' -> CE outer P w H s Q u s' :=
  fun {σ' H' v u} J rv q => ⟨v, H', J.os, J.bare, J.base, J.hok, rv, q⟩
 cases fl with
 | ret u =>
  obtain ⟨v, σ', H', J, rv, q⟩ := hs
  exact fin J rv q
 | next =>
  obtain ⟨σ', H', J, q⟩ := hs
  exact fin (v := V.non) (u := Value.none) J rfl q
 | brk =>
  obtain ⟨_, _, _, q⟩ := hs
  exact False.elim q
 | cont =>
  obtain ⟨_, _, _, q⟩ := hs
  exact False.elim q
section
variable {X : Cx} {x : Str} {p pos : Pos} {e : Expr} {es : List Expr} {t : TA} {id T : String} {r : List V -> Hp -> VK -> Prop}
def tCB (r : List V -> Hp -> VK -> Prop) (t : TA) : TE := fun σ H Q => t σ H fun vs H1 => r vs H1 Q
theorem wa0 (hc : CallR X (.builtin id) r) (hg : Gl X x) (hm : X.mg x = none) (hv : bootBuiltins x = some (.builtin id)) (ha : PA X (e :: es) t) (hn : x ≠ "__name__" := by decide) (hdb : (x == ("__debug__" : Str)) = false := by decide)
  (he : starEach (e :: es) X.env = (false, eval e X.env) :: starEach es X.env := by rfl) (hpl : (backTo pos (starEach es X.env)).any (·.1) = false := by rfl) : PE X (.Call (.Name x p) (e :: es) [] pos) (tCB r t) := by
 intro pins s σ H Q I h
 refine wpAny_Call_Name_kw (kq I hg hm hv ?_ hn hdb)
 exact PyProof.Rows.callWith_builtin1 (vaa (ha pos pins s σ H _ I h) fun us s1 vs H1 I1 r1 q1 => hc pins s1 σ H1 vs us Q I1 r1 q1) he hpl
theorem ZaU (hc : CallR X (.type T) r) (hg : Gl X x) (hm : X.mg x = none) (hv : bootBuiltins x = some (.type T)) (ha : PA X (e :: es) t) (hn : x ≠ "__name__" := by decide) (hdb : (x == ("__debug__" : Str)) = false := by decide)
  (he : starEach (e :: es) X.env = (false, eval e X.env) :: starEach es X.env := by rfl) (hpl : (backTo pos (starEach es X.env)).any (·.1) = false := by rfl) : PE X (.Call (.Name x p) (e :: es) [] pos) (tCB r t) := by
 intro pins s σ H Q I h
 refine wpAny_Call_Name_kw (kq I hg hm hv ?_ hn hdb)
 exact um (vaa (ha pos pins s σ H _ I h) fun us s1 vs H1 I1 r1 q1 => hc pins s1 σ H1 vs us Q I1 r1 q1) he hpl
end
end L2
namespace HT
open PySem PyProof.Rows
section
variable {prog : Program} {w : World} {A : Around} {E : ZVP} {s : Shared}
noncomputable def sIx (n d : Nat) : Option Int -> Nat
 | none => d
 | some v => if v < 0 then (v + (n : Int)).toNat else min v.toNat n
end
end HT
namespace L2
open PySem PySem.Spec PyProof.Rows
noncomputable abbrev TO := St -> Hp -> (Option Int -> Hp -> Prop) -> Prop
def PO (X : Cx) (e : Option Expr) (t : TO) : Prop :=
 ∀ (pins : ZPO) (s : Shared) (σ : St) (H : Hp) (Q : Option Int -> Hp -> Prop), Inv X pins σ H s -> t σ H Q →
  wpAny (model X.prog X.w) X.A (evalPart e X.env) (fun u s' => ∃ o H', Inv X pins σ H' s' /\ IsPart u o /\ Q o H') X.xe s
def jbe : TO := fun _ H Q => Q none H
def Zbu (t : TE) : TO := fun σ H Q => t σ H fun x H1 => ∃ i, x = .int i /\ Q (some i) H1
section
variable {X : Cx} {e : Expr} {te : TE} {lo hi : Option Expr} {tl th : TO} {pos p2 : Pos}
theorem po_none : PO X none jbe := by
 intro pins s σ H Q I h
 rw [evalPart_none]
 exact wpAny_pure ⟨none, H, I, .none, h⟩
theorem vbh (h : PE X e te) : PO X (some e) (Zbu te) := by
 intro pins s σ H Q I hw
 rw [evalPart_some]
 refine Xv (h pins s σ H _ I hw) fun u s1 x H1 I1 r1 q1 => ?_
 obtain ⟨i, rfl, q⟩ := q1
 obtain ⟨t, rfl⟩ := r1
 exact ⟨some i, H1, I1, .int i t, q⟩
def SlR (X : Cx) (r : V -> Option Int -> Option Int -> Hp -> VK -> Prop) : Prop :=
 ∀ (pins : ZPO) (s : Shared) (σ : St) (H : Hp) (x : V) (v vl vu : Value) (lo hi : Option Int) (sl : Addr) (Q : VK), Inv X pins σ H s -> RelV x v -> s.heap.IsSliceOf sl vl vu .none -> IsPart vl lo -> IsPart vu hi -> r x lo hi H Q →
  ∃ T id, typeLookup (.type T) "__getitem__" = pure (some (.builtin id)) /\ s.TypeIs v T /\ wpAny (model X.prog X.w) X.A (getItem v (.ref sl)) (EP X pins σ Q) X.xe s
def tSl (r : V -> Option Int -> Option Int -> Hp -> VK -> Prop) (te : TE) (tl th : TO) : TE := fun σ H Q => te σ H fun x H1 => tl σ H1 fun l H2 => th σ H2 fun u H3 => r x l u H3 Q
theorem wa1 {r : V -> Option Int -> Option Int -> Hp -> VK -> Prop} (hr : SlR X r) (he : PE X e te) (hl : PO X lo tl) (hu : PO X hi th) : PE X (.Subscript e (.Slice lo hi none p2) pos) (tSl r te tl th) := by
 intro pins s σ H Q I h
 refine Subscript_ (Xv (he pins s σ H _ I h) fun v s1 x H1 I1 r1 q1 => ?_)
 refine wpAny_Slice (thn (hl pins s1 σ H1 _ I1 q1) fun vl s2 w1_ => w1_.elim fun l z_ => z_.elim fun H2 z_ => z_.elim fun I2 z_ => z_.elim fun pl q2 => thn (hu pins s2 σ H2 _ I2 q2) fun vu s3 w1_ => w1_.elim fun u z_ => z_.elim fun H3 z_ => z_.elim fun I3 z_ => z_.elim fun pu q3 => ?_)
 rw [evalPart_none]
 refine wpAny_pure ?_
 have I4 : Inv X pins σ H3 { s3 with heap := s3.heap.push { cls := .type "slice", data := .fields #[vl, vu, .none] } } := I3.kept (t' := s3.toks) fun b ob q => uD _ q
 obtain ⟨T, id, hT, ht, hg⟩ := hr pins { s3 with heap := s3.heap.push { cls := .type "slice", data := .fields #[vl, vu, .none] } } σ H3 x v vl vu l u s3.heap.objs.size Q I4 r1 (Heap.IsSliceOf.new ..) pl pu q3
 show wpAny (model X.prog X.w) X.A (subscriptTail e (.Slice lo hi none p2) v (.ref s3.heap.objs.size)) (EP X pins σ Q) X.xe { s3 with heap := s3.heap.push { cls := .type "slice", data := .fields #[vl, vu, .none] } }
 exact tail_any (ops := [.ref s3.heap.objs.size, v]) ht hT hg (by with_unfolding_all rfl)
noncomputable def vak (xs : List V) (lo hi : Option Int) : List V := (xs.drop (HT.sIx xs.length 0 lo)).take (HT.sIx xs.length xs.length hi - HT.sIx xs.length 0 lo)
theorem waH (xs : List V) (lo hi : Option Int) : (vak xs lo hi).length <= xs.length := by
 unfold vak
 rw [ud, uo]
 lia
end
noncomputable def ixN (n : Nat) (i : Int) : Option Nat := if 0 <= i then (if i < n then some i.toNat else none) else if -(n : Int) <= i then some (i + n).toNat else none
noncomputable def atI {α : Type} (xs : List α) (i : Int) : Option α := (ixN xs.length i).bind fun j => xs[j]?
theorem vaL {n : Nat} {i : Int} {j : Nat} (h : ixN n i = some j) : seqIndex? i n = some j /\ j < n /\ -(n : Int) <= i /\ i < n := by
 unfold ixN at h
 by_cases h0 : 0 <= i
 ·rw [if_pos h0] at h
  by_cases h1 : i < n
  ·rw [if_pos h1] at h
   have e : i.toNat = j := Option.some.inj h
   exact ⟨by rw [seqIndex_of h0 h1, e], by lia, by lia, h1⟩
  ·rw [if_neg h1] at h; cases h
 ·rw [if_neg h0] at h
  by_cases h1 : -(n : Int) <= i
  ·rw [if_pos h1] at h
   have e : (i + n).toNat = j := Option.some.inj h
   exact ⟨by rw [seqIndex_neg (by lia) h1, e], by lia, h1, by lia⟩
  ·rw [if_neg h1] at h; cases h
theorem jah {α : Type} {xs : List α} {i : Int} {v : α} (h : atI xs i = some v) : ∃ j, seqIndex? i xs.length = some j /\ xs[j]? = some v /\ j < xs.length /\ -(xs.length : Int) <= i /\ i < xs.length := by
 unfold atI at h
 cases e : ixN xs.length i with
 | none => rw [e] at h; cases h
 | some j =>
  rw [e] at h
  obtain ⟨h1, h2, h3, h4⟩ := vaL e
  exact ⟨j, h1, h, h2, h3, h4⟩
theorem wR {α : Type} {xs : List α} {j : Nat} {v : α} (h : xs[j]? = some v) : atI xs (j : Int) = some v := by
 have hj : j < xs.length := (uY.mp h).1
 have e : ixN xs.length (j : Int) = some j := by
  unfold ixN
  rw [if_pos (by lia), if_pos (by lia)]; simp
 unfold atI; rw [e]; exact h
theorem qU {α : Type} (xs : List α) (v : α) : atI (xs ++ [v]) (-1) = some v := by
 have hl : (xs ++ [v]).length = xs.length + 1 := by simp
 have e : ixN (xs ++ [v]).length (-1) = some xs.length := by
  unfold ixN
  rw [hl, if_neg (by decide), if_pos (by lia)]
  congr 1
  lia
 unfold atI
 rw [e]
 show (xs ++ [v])[xs.length]? = some v
 simp
def jam (b : Expr) : Prop := ∀ o i, subscripted b false o i = operate [o, i] (getItem o i)
def IxR (X : Cx) (r : R2) : Prop :=
 ∀ (value slice : Expr) (pins : ZPO) (s : Shared) (σ : St) (H : Hp) (x y : V) (v u : Value) (Q : VK), Inv X pins σ H s -> RelV x v -> RelV y u -> r x y H Q →
  subscripted slice false v u = operate [v, u] (getItem v u) -> wpAny (model X.prog X.w) X.A (subscriptTail value slice v u) (EP X pins σ Q) X.xe s
def MtR (X : Cx) (id : String) (r : V -> List V -> Hp -> VK -> Prop) : Prop :=
 ∀ (pins : ZPO) (s : Shared) (σ : St) (H : Hp) (x : V) (xs : List V) (v : Value) (us : List Value) (Q : VK), Inv X pins σ H s -> RelV x v -> Vals xs us -> r x xs H Q →
  wpAny (model X.prog X.w) X.A (call (.builtin id) (v :: us)) (EP X pins σ Q) X.xe s
section
variable {X : Cx} {a b : Expr} {ta tb : TE} {pos : Pos}
theorem IxR.or {r r' : R2} (h : IxR X r) (h' : IxR X r') : IxR X (fun x y H Q => r x y H Q \/ r' x y H Q) := by
 intro value slice pins s σ H x y v u Q I rx ry q hs
 rcases q with q | q
 ·exact h value slice pins s σ H x y v u Q I rx ry q hs
 ·exact h' value slice pins s σ H x y v u Q I rx ry q hs
theorem va8 {r : R2} (hr : IxR X r) (ha : PE X a ta) (hb : PE X b tb) (hs : jam b) : PE X (.Subscript a b pos) (tOp r ta tb) := by
 intro pins s σ H Q I h
 exact Subscript_ (Za4 ha hb I h fun v u s2 x y H2 I2 rx ry q => hr a b pins s2 σ H2 x y v u Q I2 rx ry q (hs _ _))
def wbv (K : uC) : R2 := fun x y H Q => ∃ p xs i v, x = .ref p /\ y = .int i /\ SqL K H p xs /\ atI xs i = some v /\ Q v H
def Wbw (K : uC) : R2 := fun x y H Q => ∃ p xs i v, x = .ref p /\ y = .int i /\ SqT K H p xs /\ atI xs i = some v /\ Q v H
def Yby : R2 := fun x y H Q => ∃ z i c, x = .str z /\ y = .int i /\ z.length <= sizeLine /\ atI z.cps.toList i = some c /\ Q (.str ⟨#[c]⟩) H
theorem ix_list : IxR X (wbv X.K) := by
 intro value slice pins s σ H x y v u Q I rx ry h hs
 obtain ⟨p, xs, i, z, rfl, rfl, hq, he, q⟩ := h
 cases rx
 obtain ⟨t, rfl⟩ := ry
 obtain ⟨its, r, pl, hz⟩ := I.list hq
 obtain ⟨j, h1, h2, h3, h4, h5⟩ := jah he
 obtain ⟨w, ew, rw'⟩ := r.get h2
 have hl := r.length
 have hn := kN
 have fin : EP X pins σ Q w s := ⟨z, H, I, rw', q⟩
 by_cases h0 : 0 <= i
 ·have hj : i.toNat = j := by
   rw [seqIndex_of h0 h5] at h1
   exact Option.some.inj h1
  exact item_listR pl.isList h0 (by lia) (by rw [hj]; simpa using ew) fin hs
 ·have hj : (i + (its.toArray.size : Int)).toNat = j := by
   rw [seqIndex_neg (by lia) h4] at h1
   rw [uJ, ← hl]
   exact Option.some.inj h1
  exact subscriptTail_builtinR (x := w) pl.isList.typeIs slot_list_getitem.lookup
   (wpAny_getItem_list_neg (Q := fun r s' => r = w /\ EP X pins σ Q r s') pl.isList (by lia) (by rw [uJ] <;> lia) (by lia) (by rw [hj]; simpa using ew) ⟨rfl, fin⟩) hs
theorem jbq : IxR X (Wbw X.K) := by
 intro value slice pins s σ H x y v u Q I rx ry h hs
 obtain ⟨p, xs, i, z, rfl, rfl, hq, he, q⟩ := h
 cases rx
 obtain ⟨t, rfl⟩ := ry
 obtain ⟨its, r, pl, hz⟩ := I.tuple hq
 obtain ⟨j, h1, h2, h3, h4, h5⟩ := jah he
 obtain ⟨w, ew, rw'⟩ := r.get h2
 have hl := r.length
 have hn := kN
 have fin : EP X pins σ Q w s := ⟨z, H, I, rw', q⟩
 exact subscriptTail_builtinR (x := w) pl.typeIs slot_tuple_getitem.lookup
  (getItem_tuple (j := j) (Q := fun r s' => r = w /\ EP X pins σ Q r s') pl (by lia) (by lia) (by rw [uJ, ← hl]; exact h1) (by simpa using ew) ⟨rfl, fin⟩) hs
theorem Ybn : IxR X Yby := by
 intro value slice pins s σ H x y v u Q I rx ry h hs
 obtain ⟨z, i, c, rfl, rfl, hz, he, q⟩ := h
 obtain ⟨t, rfl⟩ := rx
 obtain ⟨t', rfl⟩ := ry
 obtain ⟨j, h1, h2, h3, h4, h5⟩ := jah he
 have hl : z.cps.toList.length = z.length := by simp [Str.length]
 rw [hl] at h1 h4 h5
 have hn := kN
 exact tail_any (typeIs_str s z t) slot_str_getitem.lookup (getItem_str (c := c) (by
  have e1 : decide (i < -(2 ^ 63 : Int)) = false := decide_eq_false (by lia)
  have e2 : decide (i ≥ 2 ^ 63) = false := decide_eq_false (by lia)
  rw [e1, e2, Bool.or_false]) (by rw [h1]; simpa using h2) ⟨.str ⟨#[c]⟩, H, I.tok _, ⟨_, rfl⟩, q⟩) hs
theorem qaO (its : List Value) (n j : Nat) (u : Value) : Obj.mapSeq (·.setIfInBounds j u) { cls := .type "list", data := .seq its.toArray n } = { cls := .type "list", data := .seq (its.set j u).toArray n } := by
 simp [Obj.mapSeq]
theorem Inv.lst {pins : ZPO} {σ : St} {H : Hp} {s : Shared} {p : Addr} {xs : List V} (I : Inv X pins σ H s) (h : H p = some (.lst xs)) :
  ∃ (its : List Value) (n : Nat), Vals xs its /\ s.heap.get? p = some { cls := .type "list", data := .seq its.toArray n } /\ xs.length <= sizeLine := by
 obtain ⟨z, its, n, r, e⟩ := I.hok p _ h
 exact ⟨its, n, r, e, z⟩
theorem Inv.lstUpd {pins : ZPO} {σ : St} {H : Hp} {s : Shared} {p : Addr} {xs ys : List V} {its its' : List Value} {n n' : Nat} {f : Obj -> Obj} (I : Inv X pins σ H s) (h : H p = some (.lst xs))
  (ho : s.heap.get? p = some { cls := .type "list", data := .seq its.toArray n }) (hf : f { cls := .type "list", data := .seq its.toArray n } = { cls := .type "list", data := .seq its'.toArray n' }) (r : Vals ys its') (hz : ys.length <= sizeLine) (t : Nat) :
  Inv X pins σ (upd H p (.lst ys)) { s with heap := s.heap.update p f, toks := t } := by
 have e : (s.heap.update p f).get? p = some { cls := .type "list", data := .seq its'.toArray n' } := by
  rw [uu f ho (by rw [hf] <;> rfl), hf]
 refine I.write (x := p) (e := p) (by rw [h]; trivial) (.inl rfl) (fun b u hb q => (u5 _ _ (Ne.symm hb)).trans q) ⟨_, e⟩ ?_
 exact ⟨hz, its', n', r, e⟩
def jbt : V -> V -> V -> Hp -> (Hp -> Prop) -> Prop := fun o i v H Q => ∃ p xs k j, o = .ref p /\ i = .int k /\ H p = some (.lst xs) /\ ixN xs.length k = some j /\ Q (upd H p (.lst (xs.set j v)))
theorem Ya1 : kbl X jbt := by
 intro pins s σ H o i v ov iv u Q I ro ri rv h
 obtain ⟨p, xs, k, j, rfl, rfl, hp, hj, q⟩ := h
 cases ro
 obtain ⟨t, rfl⟩ := ri
 obtain ⟨its, n, r, ho, hz⟩ := I.lst hp
 obtain ⟨h1, h2, h3, h4⟩ := vaL hj
 have hl := r.length
 have hn := kN
 have I' : Inv X pins σ (upd H p (.lst (xs.set j v))) { s with heap := s.heap.update p (Obj.mapSeq (·.setIfInBounds j u)) } :=
  I.lstUpd hp ho (qaO its n j u) (r.set rv j) (by rw [List.length_set]; exact hz) s.toks
 by_cases h0 : 0 <= k
 ·have hk : k.toNat = j := by
   rw [seqIndex_of h0 h4] at h1
   exact Option.some.inj h1
  exact PySem.W.ki_setAt ho h0 (by lia) (by rw [uJ, ← hl]; exact h4) (by rw [hk]; exact ⟨_, I', q⟩)
 ·have hk : (k + (its.toArray.size : Int)).toNat = j := by
   rw [seqIndex_neg (by lia) h3] at h1
   rw [uJ, ← hl]
   exact Option.some.inj h1
  exact PySem.W.ki_setBack ho (by lia) (by rw [uJ, ← hl]; exact h3) (by lia) (by rw [hk]; exact ⟨_, I', q⟩)
theorem ZaD (lo hi : Option Int) (n : Nat) : (sliceBounds lo hi none n).1 = ((HT.sIx n 0 lo : Nat) : Int) /\ (sliceBounds lo hi none n).2.1 = ((HT.sIx n n hi : Nat) : Int) /\ (sliceBounds lo hi none n).2.2 = 1 := by
 refine ⟨?_, ?_, rfl⟩
 ·cases lo with
  | none => simp [sliceBounds, HT.sIx]
  | some i =>
   simp only [sliceBounds, HT.sIx, Option.getD_none, show (1 : Int) > 0 by decide, if_true]
   by_cases h : i < 0
   ·simp only [h, if_true] <;> lia
   ·simp only [h, if_false] <;> lia
 ·cases hi with
  | none => simp [sliceBounds, HT.sIx]
  | some i =>
   simp only [sliceBounds, HT.sIx, Option.getD_none, show (1 : Int) > 0 by decide, if_true]
   by_cases h : i < 0
   ·simp only [h, if_true] <;> lia
   ·simp only [h, if_false] <;> lia
theorem war (its : List Value) (lo hi : Option Int) : slicePick its.toArray lo hi none = ((its.drop (HT.sIx its.length 0 lo)).take (HT.sIx its.length its.length hi - HT.sIx its.length 0 lo)).toArray := by
 obtain ⟨h1, h2, h3⟩ := ZaD lo hi its.toArray.size
 unfold slicePick
 rw [h1, h2, h3]
 simp only [sliceRange_one, pick_run, uJ] <;> rfl
def wbw (K : uC) : V -> Option Int -> Option Int -> Hp -> VK -> Prop := fun x lo hi H Q => ∃ a xs, x = .ref a /\ SqL K H a xs /\ ∀ p, H p = none -> Q (.ref p) (upd H p (.lst (vak xs lo hi)))
theorem Ybg : SlR X (wbw X.K) := by
 intro pins s σ H x v vl vu lo hi sl Q I rx hs pl pu h
 obtain ⟨a, xs, rfl, hx, q⟩ := h
 cases rx
 obtain ⟨its, r, ht, hz⟩ := I.list hx
 have hlen := r.length
 refine ⟨"list", _, slot_list_getitem.lookup, ht.isList.typeIs, ?_⟩
 refine wpAny_getItem_list_slice ht.isList hs pl pu .none (by simp) ?_ (by rw [uJ] <;> lia)
 rw [war, ← hlen]
 refine ⟨.ref s.heap.objs.size, _, I.laid (t' := s.toks) (o := .lst (vak xs lo hi)) (fun b ob q => uD _ q) (uI _) ?_, rfl, q _ (I.hok.fresh (uI _))⟩
 exact ⟨xD (waH xs lo hi) hz, _, 0, (r.drop (HT.sIx xs.length 0 lo)).take (HT.sIx xs.length xs.length hi - HT.sIx xs.length 0 lo), uP _ rfl⟩
noncomputable def WH : V -> Bool
 | .non => true
 | .bl _ => true
 | .int _ => true
 | .str _ => true
 | _ => false
noncomputable def eqV : V -> V -> Bool
 | .non, .non => true
 | .bl a, .bl b => a == b
 | .bl a, .int b => (if a then 1 else 0) == b
 | .int a, .bl b => a == (if b then 1 else 0)
 | .int a, .int b => a == b
 | .str a, .str b => a == b
 | _, _ => false
theorem vX {A : Around} {s : Shared} {y x : V} {u v : Value} (ry : RelV y u) (rx : RelV x v) (fy : WH y = true) (fx : WH x = true) : SeqAt.EqAt A s u v (eqV y x) := by
 cases y with
 | non =>
  cases ry
  cases x with
  | non => cases rx; exact SeqAt.EqAt.same _
  | bl b => cases rx; exact SeqAt.EqAt.none_bool b
  | int b => obtain ⟨t, rfl⟩ := rx; exact SeqAt.EqAt.none_int b t
  | str b => obtain ⟨t, rfl⟩ := rx; exact SeqAt.EqAt.none_str b t
  | _ => exact absurd (show false = true from fx) uF
 | bl a =>
  cases ry
  cases x with
  | non => cases rx; exact SeqAt.EqAt.bool_none a
  | bl b => cases rx; exact SeqAt.EqAt.bool_bool a b
  | int b => obtain ⟨t, rfl⟩ := rx; exact SeqAt.EqAt.bool_int a b t
  | str b => obtain ⟨t, rfl⟩ := rx; exact SeqAt.EqAt.bool_str a b t
  | _ => exact absurd (show false = true from fx) uF
 | int a =>
  obtain ⟨t', rfl⟩ := ry
  cases x with
  | non => cases rx; exact SeqAt.EqAt.int_none a t'
  | bl b => cases rx; exact SeqAt.EqAt.int_bool a t' b
  | int b => obtain ⟨t, rfl⟩ := rx; exact SeqAt.EqAt.int_int a t' b t
  | str b => obtain ⟨t, rfl⟩ := rx; exact SeqAt.EqAt.int_str a t' b t
  | _ => exact absurd (show false = true from fx) uF
 | str a =>
  obtain ⟨t', rfl⟩ := ry
  cases x with
  | non => cases rx; exact SeqAt.EqAt.str_none a t'
  | bl b => cases rx; exact SeqAt.EqAt.str_bool a t' b
  | int b => obtain ⟨t, rfl⟩ := rx; exact SeqAt.EqAt.str_int a t' b t
  | str b => obtain ⟨t, rfl⟩ := rx; exact SeqAt.EqAt.str_str a t' b t
  | _ => exact absurd (show false = true from fx) uF
 | _ => exact absurd (show false = true from fy) uF
noncomputable def eqU (x : V) (u : Value) : Bool := match u with
 | .none => eqV .non x
 | .bool b => eqV (.bl b) x
 | .int i _ => eqV (.int i) x
 | .str z _ => eqV (.str z) x
 | _ => false
theorem qaY {x y : V} {u : Value} (r : RelV y u) (f : WH y = true) : eqU x u = eqV y x := by
 cases y with
 | non => cases r; rfl
 | bl b => cases r; rfl
 | int i => obtain ⟨t, rfl⟩ := r; rfl
 | str z => obtain ⟨t, rfl⟩ := r; rfl
 | _ => exact absurd (show false = true from f) uF
theorem jak {x : V} : ∀ {xs : List V} {us : List Value}, Vals xs us -> xs.all WH = true -> us.any (eqU x) = xs.any fun y => eqV y x
 | _, _, .nil, _ => rfl
 | y :: xs, u :: us, .cons r t, f => by
  rw [List.all_cons, xA] at f
  rw [xt, xt, qaY r f.1, jak t f.2]
theorem qac {A : Around} {s : Shared} {x : V} {v : Value} (rx : RelV x v) (fx : WH x = true) : ∀ {xs : List V} {us : List Value}, Vals xs us -> xs.all WH = true -> ∀ u ∈ us, SeqAt.EqAt A s u v (eqU x u)
 | _, _, .nil, _ => fun u hu => by cases hu
 | y :: xs, u :: us, .cons r t, f => fun u' hu => by
  rw [List.all_cons, xA] at f
  rcases uU.mp hu with rfl | hu
  ·rw [qaY r f.1]; exact vX r rx f.1 fx
  ·exact qac rx fx t f.2 u' hu
noncomputable def inV (x : V) (xs : List V) : Bool := xs.any fun y => eqV y x
def rIn (K : uC) (neg : Bool) : R2 := fun x y H Q => ∃ p xs, y = .ref p /\ (SqL K H p xs \/ SqT K H p xs) /\ WH x = true /\ xs.all WH = true /\ Q (.bl (if neg then !inV x xs else inV x xs)) H
theorem wax : OpR X (compareOp .NotIn) (rIn X.K true) := by
 intro pins s σ H x y v u Q I rx ry h
 obtain ⟨p, xs, rfl, hq, fx, fs, q⟩ := h
 cases ry
 rcases hq with hq | hq
 ·obtain ⟨its, r, pl, hz⟩ := I.list hq
  refine SeqAt.notIn_listAt (eqU x) pl.isList (fun w hw => qac rx fx r fs w (by simpa using hw)) ⟨.bl _, H, I, rfl, ?_⟩
  rw [show its.toArray.any (eqU x) = its.any (eqU x) by simp, jak r fs]
  exact q
 ·obtain ⟨its, r, pl, hz⟩ := I.tuple hq
  refine SeqAt.notIn_tupleAt (eqU x) pl (fun w hw => qac rx fx r fs w (by simpa using hw)) ⟨.bl _, H, I, rfl, ?_⟩
  rw [show its.toArray.any (eqU x) = its.any (eqU x) by simp, jak r fs]
  exact q
theorem call_len_seq : CallR X (.builtin "len") (fun xs H Q => ∃ p ys, xs = [.ref p] /\ (SqL X.K H p ys \/ SqT X.K H p ys) /\ Q (.int ys.length) H) := by
 intro pins s σ H xs us Q I r h
 obtain ⟨p, ys, rfl, hq, q⟩ := h
 obtain ⟨u, rfl, rx⟩ := XO r
 cases rx
 have hn := kN
 rcases hq with hq | hq
 ·obtain ⟨its, r', pl, hz⟩ := I.list hq
  have hlen := r'.length
  exact Calls.call_len_list pl.isList (by simp only [uJ] <;> lia) ⟨.int ys.length, H, I.tok _, ⟨s.toks + 1, by rw [uJ, hlen]⟩, q⟩
 ·obtain ⟨its, r', pl, hz⟩ := I.tuple hq
  have hlen := r'.length
  exact len_tuple pl (by simp only [uJ] <;> lia) ⟨.int ys.length, H, I.tok _, ⟨s.toks + 1, by rw [uJ, hlen]⟩, q⟩
theorem call_list_of : CallR X (.type "list") (fun xs H Q => ∃ p ys, xs = [.ref p] /\ (SqL X.K H p ys \/ SqT X.K H p ys) /\ ∀ l, H l = none -> Q (.ref l) (upd H l (.lst ys))) := by
 intro pins s σ H xs us Q I r h
 obtain ⟨p, ys, rfl, hq, q⟩ := h
 obtain ⟨u, rfl, rx⟩ := XO r
 cases rx
 have fin : ∀ (its : List Value), Vals ys its -> ys.length <= sizeLine -> ∀ (h' : Heap) (c' : Nat), (∀ b o', s.heap.get? b = some o' -> h'.get? b = some o') →
   h'.get? s.heap.objs.size = some { cls := .type "list", dict := none, data := .seq its.toArray c', slots := #[] } -> EP X pins σ Q (.ref s.heap.objs.size) { s with heap := h' } := fun its r' hz h' c' kp e =>
  ⟨.ref s.heap.objs.size, _, I.laid (t' := s.toks) kp (uI _) (show ObjOk X.prog X.w _ h' _ (.lst ys) from ⟨hz, its, c', r', e⟩), rfl, q _ (I.hok.fresh (uI _))⟩
 rcases hq with hq | hq
 ·obtain ⟨its, r', pl, hz⟩ := I.list hq
  have hlen := r'.length
  obtain ⟨o, ho, hc, n, hd⟩ := pl.isList
  exact call_list_seq p (.inl rfl) ho hc hd (fun h' c' kp e => fin its r' hz h' c' kp e) (by simp only [uJ] <;> lia)
 ·obtain ⟨its, r', pl, hz⟩ := I.tuple hq
  have hlen := r'.length
  obtain ⟨o, ho, hc, n, hd⟩ := pl
  exact call_list_seq p (.inr rfl) ho hc hd (fun h' c' kp e => fin its r' hz h' c' kp e) (by simp only [uJ] <;> lia)
def tyV (K : uC) (T : String) (x : V) (H : Hp) : Prop := match x with
 | .str _ => T = "str"
 | .int _ => T = "int"
 | .ref p => (T = "list" /\ ∃ xs, SqL K H p xs) \/ (T = "tuple" /\ ∃ o, K.lookup p = some o /\ o.cls = .type "tuple" /\ o.dict = none) \/
   (T = "dict" /\ ((∃ kvs, H p = some (.dK kvs)) \/ ∃ kvs, H p = some (.dT kvs))) \/ (T = "set" /\ ∃ S n, H p = some (.set S n))
 | _ => False
theorem wbn {pins : ZPO} {σ : St} {H : Hp} {s : Shared} {T : String} {x : V} {v : Value} (I : Inv X pins σ H s) (r : RelV x v) (ty : tyV X.K T x H) :
  s.TypeIs v T /\ ∀ a, v = .ref a -> ∃ ob, s.heap.get? a = some ob /\ ob.dict = none := by
 cases x with
 | str z =>
  obtain ⟨t, rfl⟩ := r
  cases (show T = "str" from ty)
  exact ⟨typeIs_str s z t, fun _ e => nomatch e⟩
 | int i =>
  obtain ⟨t, rfl⟩ := r
  cases (show T = "int" from ty)
  exact ⟨typeIs_int s i t, fun _ e => nomatch e⟩
 | ref p =>
  cases r
  rcases ty with ⟨rfl, xs, hq⟩ | ⟨rfl, o, hk, hc, hd⟩ | ⟨rfl, hk⟩ | ⟨rfl, S, n, hk⟩
  ·obtain ⟨its, _, pl, _⟩ := I.list hq
   refine ⟨pl.isList.typeIs, fun a e => ?_⟩
   cases e
   obtain ⟨o, n, e, c, hd, _⟩ := pl
   exact ⟨o, e, hd⟩
  ·refine ⟨⟨o, I.kIn p o hk, hc⟩, fun a e => ?_⟩
   cases e
   exact ⟨o, I.kIn _ o hk, hd⟩
  ·have z : ∃ o, s.heap.get? p = some o /\ o.ExactDict := by
    rcases hk with ⟨kvs, hk⟩ | ⟨kvs, hk⟩
    ·obtain ⟨_, _, _, _, o, _, _, e, ex, _⟩ := I.hok p _ hk
     exact ⟨o, e, ex⟩
    ·obtain ⟨_, _, _, _, o, _, _, e, ex, _⟩ := I.hok p _ hk
     exact ⟨o, e, ex⟩
   obtain ⟨o, e, ex⟩ := z
   refine ⟨⟨o, e, ex.1⟩, fun a e2 => ?_⟩
   cases e2
   exact ⟨o, e, ex.2.1⟩
  ·obtain ⟨o, _, _, _, e, ex, _⟩ := I.hok p _ hk
   refine ⟨⟨o, e, ex.1⟩, fun a e2 => ?_⟩
   cases e2
   exact ⟨o, e, ex.2.1⟩
 | _ => exact False.elim ty
def tBM (K : uC) (T : String) (r : V -> List V -> Hp -> VK -> Prop) (to : TE) (t : TA) : TE := fun σ H Q => to σ H fun x H1 => tyV K T x H1 /\ t σ H1 fun xs H2 => r x xs H2 Q
variable {o e : Expr} {es : List Expr} {to : TE} {t : TA} {name : Str} {apos cpos : Pos} {T id : String} {r : V -> List V -> Hp -> VK -> Prop}
theorem Xav (pa : PlainAttrs T) (slot : Slot T name id) (hty : typeOf (.builtin id) = pure (.type "method_descriptor")) (hm : MtR X id r) (ho : PE X o to) (ha : PA X (e :: es) t)
  (hbase : attributeBase o name X.env (eval o X.env) = eval o X.env := by rfl)
  (hfew : ((backTo cpos (starEach (e :: es) X.env)).all (fun x => !x.1) && (backToKw cpos (keywordEach [] X.env)).all (fun x => x.1.isSome)
   && decide ((e :: es).length + ([] : List Keyword).length + (if ([] : List Keyword).isEmpty then 0 else 1) < 30)) = true := by rfl)
  (hline : (apos.endLine == cpos.line) = true := by rfl) (hs : starEach (e :: es) X.env = (false, eval e X.env) :: starEach es X.env := by rfl) (hplain : (backTo cpos (starEach es X.env)).any (·.1) = false := by rfl) :
  PE X (.Call (.Attribute o name apos) (e :: es) [] cpos) (tBM X.K T r to t) := by
 intro pins s σ H Q I h
 refine wpAny_Call_method_late hbase hfew hline rfl (thn (ho pins s σ H _ I h) fun v s1 w1_ => w1_.elim fun x z_ => z_.elim fun H1 z_ => z_.elim fun I1 z_ => z_.elim fun r1 z_ => z_.elim fun ty q1 => ?_)
 obtain ⟨h1, h2⟩ := wbn I1 r1 ty
 refine ⟨T, id, pa, slot, hty, h1, h2, ?_⟩
 have hA := ha cpos pins s1 σ H1 _ I1 q1
 rw [hs] at hA ⊢
 refine Calls.callWith_builtin (by show (false || (backTo cpos (starEach es X.env)).any (·.1)) = false; rw [hplain] <;> rfl) (Calls.evalArgs_plain ?_)
 exact vaa hA fun us s2 vs H2 I2 r2 q2 => hm pins s2 σ H2 x vs v us Q I2 r1 r2 q2
end
def MtM (X : Cx) (id : String) (r : V -> List V -> Hp -> VK -> Prop) : Prop :=
 ∀ (pins : ZPO) (s : Shared) (σ : St) (H : Hp) (x : V) (xs : List V) (v : Value) (us : List Value) (Q : VK), Inv X pins σ H s -> RelV x v -> Vals xs us -> r x xs H Q →
  wpAny (model X.prog X.w) X.A (call (.builtin id) (v :: us)) (EP X pins σ Q) X.xe s
theorem Vals.one : ∀ {x : V} {us : List Value}, Vals [x] us -> ∃ u, us = [u] /\ RelV x u
 | _, _, .cons r .nil => ⟨_, rfl, r⟩
theorem Vals.rep {xs : List V} {us : List Value} (h : Vals xs us) : ∀ k : Nat, Vals (uK k xs).flatten (uK k us).flatten
 | 0 => .nil
 | k + 1 => by
  rw [xC, xC, u7, u7]
  exact Vals.append h (Vals.rep h k)
theorem qan (its : List Value) : ∀ (k : Nat) (acc : List Value),
  List.foldl (fun x1 x2 => x1 ++ x2) acc.toArray (uK k its.toArray) = (acc ++ (uK k its).flatten).toArray
 | 0, acc => by simp
 | k + 1, acc => by
  have e : acc.toArray ++ its.toArray = (acc ++ its).toArray := by simp
  have e2 : (acc ++ its) ++ (uK k its).flatten = acc ++ (uK (k + 1) its).flatten := by
   rw [xC, u7, uh]
  rw [← e2, ← qan its k (acc ++ its), ← e, xC, List.foldl_cons]
section
variable {X : Cx} {pins : ZPO} {σ : St} {H : Hp} {s : Shared} {l b : Addr} {xs ys zs : List V}
theorem Inv.lset {its its' : List Value} {n : Nat} {f : Array Value -> Array Value} {t' : Nat} (I : Inv X pins σ H s) (hH : H l = some (.lst xs))
  (e : s.heap.get? l = some { cls := .type "list", data := .seq its.toArray n }) (hf : f its.toArray = its'.toArray) (hv : Vals ys its') (hz : ys.length <= sizeLine) :
  Inv X pins σ (upd H l (.lst ys)) { s with heap := s.heap.update l (Obj.mapSeq f), toks := t' } := by
 have q := PySem.IsL.update e f
 rw [hf] at q
 refine I.write (x := l) (e := l) (by rw [hH]; exact trivial) (.inl rfl) (fun b' u hb hu => (u5 s.heap (Obj.mapSeq f) (Ne.symm hb)).trans hu) ⟨_, q⟩ ?_
 exact ⟨hz, its', _, hv, q⟩
theorem Inv.lnew {its : List Value} {t' : Nat} (I : Inv X pins σ H s) (hv : Vals ys its) (hz : ys.length <= sizeLine) :
  Inv X pins σ (upd H s.heap.objs.size (.lst ys)) { s with heap := s.heap.push { cls := .type "list", data := .seq its.toArray }, toks := t' } :=
 I.laid (fun _ _ q => uD _ q) (uI _) ⟨hz, its, 0, hv, uP _ rfl⟩
theorem Inv.fresh (I : Inv X pins σ H s) : H s.heap.objs.size = none := I.hok.fresh (uI _)
theorem Inv.lstM (I : Inv X pins σ H s) (hH : H l = some (.lst xs)) : xs.length <= sizeLine /\ ∃ (its : List Value) (n : Nat), Vals xs its /\ xs.length = its.length /\ s.heap.get? l = some { cls := .type "list", data := .seq its.toArray n } := by
 obtain ⟨z, its, n, r, e⟩ := I.hok l _ hH
 exact ⟨z, its, n, r, r.length, e⟩
theorem WaA {n : Nat} (h : n <= sizeLine) : Builtin.List.listTooLong n = false := by
 unfold Builtin.List.listTooLong
 exact decide_eq_false (by lia)
end
section
variable {X : Cx}
def XaK : V -> List V -> Hp -> VK -> Prop := fun x vs H Q => ∃ l xs y, x = .ref l /\ vs = [y] /\ H l = some (.lst xs) /\ xs.length < sizeLine /\ Q .non (upd H l (.lst (xs ++ [y])))
theorem qao : MtM X "list.append" XaK := by
 intro pins s σ H x vs v us Q I rx rv h
 obtain ⟨l, xs, y, rfl, rfl, hH, hz, q⟩ := h
 cases rx
 obtain ⟨u, rfl, ru⟩ := rv.one
 obtain ⟨z, its, n, r, hl, e⟩ := I.lstM hH
 refine call_meets F.slot_list_append ⟨_, e, rfl⟩ F.entry_list_append (F.args_list_append_2 _ _) (PySem.list_append l its.toArray n u (by rw [uJ]; lia)) ⟨e, ?_⟩
 refine ⟨.non, _, I.lset (its' := its ++ [u]) hH e (by simp) (r.append (.cons ru .nil)) ?_, rfl, q⟩
 rw [uE, ui]
 lia
def YaL : V -> List V -> Hp -> VK -> Prop := fun x vs H Q => ∃ l b xs zs, x = .ref l /\ vs = [.ref b] /\ H l = some (.lst xs) /\ H b = some (.lst zs) /\ xs.length + zs.length <= sizeLine /\ Q .non (upd H l (.lst (xs ++ zs)))
theorem vaW : MtM X "list.extend" YaL := by
 intro pins s σ H x vs v us Q I rx rv h
 obtain ⟨l, b, xs, zs, rfl, rfl, hH, hB, hz, q⟩ := h
 cases rx
 obtain ⟨u, rfl, ru⟩ := rv.one
 cases ru
 obtain ⟨z, its, n, r, hl, e⟩ := I.lstM hH
 obtain ⟨z2, its2, n2, r2, hl2, e2⟩ := I.lstM hB
 have hsz : its.toArray.size + its2.toArray.size <= sizeLine := by rw [uJ, uJ]; lia
 have hlong : ¬ (!its.toArray.isEmpty && Builtin.List.listTooLong (its.toArray.size + its2.toArray.size)) = true := by
  rw [WaA hsz, Bool.and_false]
  exact uF
 refine call_meets F.slot_list_extend ⟨_, e, rfl⟩ F.entry_list_extend (F.args_list_extend_2 _ _)
  (AutoSeq1.list_extend_list_list_0 l its.toArray n b its2.toArray n2 hlong (by rw [uJ]; lia) (by lia)) ⟨e, e2, ?_⟩
 refine ⟨.non, _, I.lset (its' := its ++ its2) hH e (by simp) (r.append r2) ?_, rfl, q⟩
 rw [uE]
 lia
def vby : R2 := fun x y H Q => ∃ l k xs, x = .ref l /\ y = .int k /\ H l = some (.lst xs) /\ -(2 ^ 63) <= k /\ k < 2 ^ 63 /\ xs.length * k.toNat <= sizeLine ∧
 ∀ p, H p = none -> Q (.ref p) (upd H p (.lst (uK k.toNat xs).flatten))
theorem jba {α : Type} (xs : List α) (k : Nat) : (uK k xs).flatten.length = k * xs.length := by
 induction k with
 | zero => simp
 | succ k ih => rw [xC, u7, uE, ih, Nat.succ_mul, Nat.add_comm]
theorem kbr : OpR X (binaryOp .Mult) vby := by
 intro pins s σ H x y v u Q I rx ry h
 obtain ⟨l, k, xs, rfl, rfl, hH, h1, h2, hz, q⟩ := h
 cases rx
 obtain ⟨t, rfl⟩ := ry
 obtain ⟨z, its, n, r, hl, e⟩ := I.lstM hH
 have hlen : its.toArray.size * k.toNat <= sizeLine := by rw [uJ, ← hl]; exact hz
 have hcap : ¬ its.toArray.size * k.toNat > (2 ^ 63 - 1) / 8 := by
  have : (sizeLine : Nat) <= (2 ^ 63 - 1) / 8 := by decide
  lia
 have hfit : ¬ (!Builtin.List.listFitsIndex k) = true := by
  rw [fitsIndex_both h1 h2]
  exact uF
 have hlong : ¬ Builtin.List.listTooLong (its.toArray.size * k.toNat) = true := by
  rw [WaA hlen]
  exact uF
 have hnew : List.foldl (fun x1 x2 => x1 ++ x2) #[] (uK (if its.toArray.isEmpty = true then 0 else k.toNat) its.toArray) = (uK k.toNat its).flatten.toArray := by
  have f0 : ∀ m : Nat, List.foldl (fun x1 x2 => x1 ++ x2) #[] (uK m its.toArray) = (uK m its).flatten.toArray := fun m => by
   have := qan its m []
   rw [List.nil_append] at this
   exact this
  rw [f0]
  cases its with
  | nil => simp
  | cons a r' => rw [if_neg (by simp)]
 refine wpAny_binaryOp_repeat_ref (T := "list") (U := "int") (by decide) ⟨_, e, rfl⟩ (fun s' => typeIs_int s' k t) noFill_list_mul F.fills_int_mul F.slot_int_rmul repeat_list F.slot_int_index.lookup
  (call_meets F.slot_int_rmul (typeIs_int s k t) F.entry_int_rmul (F.args_int_rmul_2 _ _) (int___rmul___int_list k t l its.toArray n)
   ⟨e, rfl, ⟨_, e, rfl⟩, call_meets F.slot_list_mul ⟨_, e, rfl⟩ F.entry_list_mul (F.args_list_mul_2 _ _) (AutoListH.list___mul___list_int_3 l its.toArray n k t hfit hcap hlong) ⟨e, ?_⟩⟩)
 rw [hnew]
 exact ⟨.ref _, _, I.lnew (t' := s.toks) (r.rep k.toNat) (by rw [jba, Nat.mul_comm]; exact hz), rfl, q _ I.fresh⟩
end
end L2
namespace Att
open PySem PySem.W PySem.Calls PyProof.Rows
theorem vac {P : Params} {h : Heap} : ∀ (ns : List Int) (vs : List Value), WellAll P h vs (ns.map WData.int) -> IntsAre vs ns := by
 intro ns
 induction ns with
 | nil =>
  intro vs w
  rw [List.map_nil] at w
  cases w
  exact .nil
 | cons n ns ih =>
  intro vs w
  rw [uf] at w
  cases w with
  | cons a b =>
   cases a
   exact .cons _ _ (ih _ b)
theorem YaX {l : OpenLaw} {n : Nat} (hn : l.most = some n) {P : Params} {h : Heap} {args : List WData} {vals : List Value}
  (hpre : l.row.toRowW.claim.pre args = true) (hwl : WellAll P h vals args) :
  ∃ a vs ns, vals = [Value.ref a] /\ args = [WData.list (ns.map WData.int)] /\ h.get? a = some { cls := .type "list", data := .seq vs.toArray } /\ IntsAre vs ns /\ ns.length <= n := by
 have hsh : WShape.hasAll [] args [.list .int] = true := (pre_splitW hpre).1
 have hc : l.pre.holds [] { args := args } = true := (pre_splitW hpre).2
 obtain ⟨d, r, rfl, h1, h2⟩ := hasAllW_cons hsh
 obtain rfl := hasAllW_nil h2
 obtain ⟨xs, rfl, h3⟩ := hasW_list h1
 obtain ⟨ns, rfl⟩ := items_int h3
 have hlen : ns.length <= n := by
  unfold OpenLaw.pre at hc
  have h4 : (WTm.not (.lt (.lit (.int (n : Int))) (.len (.arg 0)))).holds [] { args := [.list (ns.map .int)] } = true := by
   have h4 := (holds_andW hc).1
   rw [hn] at h4
   exact h4
  have h5 := condW_of h4 (w_not (w_lt w_lit (w_len_list (w_arg rfl))))
  rw [uB] at h5
  refine Nat.le_of_not_lt fun q => ?_
  have q' : (n : Int) < ((ns.length : Nat) : Int) := by lia
  first
   | (rw [decide_eq_true q'] at h5; exact absurd h5 (by decide))
   | (simp at h5; lia)
 cases hwl with
 | cons w1 w2 =>
  cases w2
  cases w1 with
  | list ho hall => exact ⟨_, _, ns, rfl, rfl, ho, vac ns _ hall, hlen⟩
theorem vaZ (l : OpenLaw) (args : List WData) : l.row.toRowW.claim.post args (.bool true) args = true :=
 postW_of (r := l.row.toRowW) (X := (true == true))
  (show WShape.has [] (.bool true) .bool = true by first | rfl | decide | simp [WShape.has, WShape.arms, WShape.armsAll])
  (show (WTm.eq .res (.lit (.bool true))).value [] { args := args, res := some (.bool true), after := args } = some (.bool (true == true)) from w_eq_bool (w_res rfl) w_lit) rfl
theorem attach_call {l : OpenLaw} {n : Nat} {q : Program} {loose : List Str} {XP : (Str -> Option Value) -> Heap -> Prop} {YP : World -> Heap -> Prop} {d : DefRec}
  (hn : l.most = some n) (hdf : d.params.defaults = [])
  (call : ∀ (w : World) (s₀ s₁ : Shared) (mg mb : Str -> Option Value) (fa : Addr) (o : Obj) (pm cd doc : Value) (a : Addr) (vs : List Value) (ns : List Int),
   Ground q loose [] XP w s₀ mg mb s₁.heap -> YP w s₁.heap →
   s₁.heap.get? fa = some o -> o.data = .func (docDef d.name d.params d.body d.scope pm cd doc) -> s₁.heap.CodeRec cd d.name -> mg d.name = some (.ref fa) →
   s₁.heap.get? a = some { cls := .type "list", data := .seq vs.toArray } -> IntsAre vs ns -> ns.length <= n -> s₁.gens = #[] →
   codeAny (model l.prog w) callerA (.call (.ref fa) ⟨[.ref a], []⟩) (fun r s' => r = .ok (.ret (.bool true)) /\ OldK s₁.heap s'.heap /\ s'.os = s₁.os /\ AllBare s'.gens) s₁) :
  WalkO q loose XP YP l.row.toRowW d [] (fun f vs => PySem.call f vs) := by
 intro w s₀ s₁ mg mb G Y fa o pm cd doc dV kV ho hd hcd hD hmg hg args vals as hpre hlay hrd hwl hlo
 obtain rfl : dV = .none := Dflts.none hD hdf
 obtain rfl : kV = .none := Dflts.noKw hD
 obtain ⟨a, vs, ns, rfl, rfl, hobj, hints, hlen⟩ := YaX hn hpre hwl
 refine enter_call (codeAny_mono (call w s₀ s₁ mg mb fa o pm cd doc a vs ns G Y ho (fd_plain hd) hcd hmg hobj hints hlen hg) fun r s' hq => ?_)
 obtain ⟨rfl, h2, h3, h4⟩ := hq
 exact ⟨.inl ⟨.bool true, .bool true, [], rfl, fun _ => rfl, .bool true, vaZ l _, fun _ => ⟨List.Pairwise.nil, fun _ hm => (nomatch hm)⟩⟩, h2, h3, h4⟩
end Att
namespace L2
open PySem PySem.Spec PyProof.Rows
theorem qap : ∀ {vs : List Value} {ns : List Int}, IntsAre vs ns -> Vals (ns.map V.int) vs
 | _, _, .nil => .nil
 | _, _, .cons n t h => .cons ⟨t, rfl⟩ (qap h)
noncomputable def Xe (s : Stmt) : Arguments := match s with
 | .FunctionDef _ a _ _ _ _ _ _ _ _ => a
 | _ => { posonlyargs := [], args := [], vararg := none, kwonlyargs := [], kw_defaults := [], kwarg := none, defaults := [] }
noncomputable def jd (s : Stmt) : List Stmt := match s with
 | .FunctionDef _ _ b _ _ _ _ _ _ _ => b
 | _ => []
noncomputable def Wb (s : Stmt) : Scope := match s with
 | .FunctionDef _ _ _ _ _ _ sc _ _ _ => sc
 | _ => { kind := .function, names := [], isGenerator := false, isCoroutine := false }
abbrev CX0 : CXT := fun _ _ _ _ _ _ => False
abbrev E0 : XK := fun _ _ _ => False
theorem Ya9 {X : Cx} : Xag CX0 X E0 := fun _ _ _ _ _ _ _ h => h.elim
structure Fun (K : uC) (x qual : Str) (st : Stmt) (f : Addr) (fd : FuncData) : Prop where
 ex : ∃ (oc : Value) (od : Option Addr) (kV doc pm : Value) (an : Option Addr) (cdv ct : Value) (osl : Array (Option Value)),
  fd = uW x qual (Xe st) (jd st) (Wb st) .none kV doc pm an cdv ct /\ K.lookup f = some ⟨oc, od, .func fd, osl⟩ /\ uT K cdv qual = true
 kp : uS K (.ref f) = true
section
variable {P : Program} {w : World} {K : uC} {mg : Str -> Option Value} {base : Heap}
theorem Fun.ok {x qual : Str} {st : Stmt} {f : Addr} {fd : FuncData} {N ps : List Str} {k : Nat} {sp : Sp} (F : Fun K x qual st f fd) (S : qe N ps (Wb st)) (len : ∀ vs H Q E, sp vs H Q E -> vs.length = ps.length)
  (hbody : ∀ (cdv : Value) (A : Around) (outer : List Env) (s : Shared) (H : Hp) (vs : List V) (Q : VK) (E : XK), Room k (A.deeper (envOfC qual (Wb st) s.heap.objs.size f cdv)) -> sp vs H Q E →
   ∃ t, PSs (XN CX0 P w K mg base N qual (Wb st) f cdv A outer s H E).nox (jd st) t /\ t { nx := fun _ H' => Q .non H', rt := Q } (start N vs) H) : qh P w K mg base CX0 (k + 1) f fd ps sp := by
 obtain ⟨oc, od, kV, doc, pm, an, cdv, ct, osl, rfl, lk, hcd⟩ := F.ex
 refine ka9 lk hcd S len fun A outer s H vs Q E hr hsp => ?_
 obtain ⟨t, h, q⟩ := hbody cdv A outer s H vs Q E hr hsp
 exact ⟨t, h.nox, q⟩
theorem Fun.binds {x qual : Str} {st : Stmt} {f : Addr} {fd : FuncData} {ps : List Str} (F : Fun K x qual st f fd)
  (h : ∀ (kV doc pm : Value) (an : Option Addr) (cdv ct : Value) (us : List Value), us.length = ps.length -> bindArgs (uW x qual (Xe st) (jd st) (Wb st) .none kV doc pm an cdv ct) ⟨us, []⟩ = pure (ps.zip us)) : Binds K fd ps [] := by
 obtain ⟨oc, od, kV, doc, pm, an, cdv, ct, osl, rfl, lk, hcd⟩ := F.ex
 exact .all (h kV doc pm an cdv ct)
theorem Yg {x qual : Str} {st : Stmt} {f : Addr} {oc : Value} {od an : Option Addr} {osl : Array (Option Value)} {kV doc pm cdv ct : Value} (l : K.lookup f = some ⟨oc, od, .func (uW x qual (Xe st) (jd st) (Wb st) .none kV doc pm an cdv ct), osl⟩)
  (c : uT K cdv qual = true) (k : uS K (.ref f) = true) : Fun K x qual st f (uW x qual (Xe st) (jd st) (Wb st) .none kV doc pm an cdv ct) := ⟨⟨oc, od, kV, doc, pm, an, cdv, ct, osl, rfl, l, c⟩, k⟩
end
theorem WaT {n : Nat} (h : n <= 1000) : n < sizeLine := yF h (by decide)
section
variable {κ : Type} [DecidableEq κ]
noncomputable def wD (kvs : List (κ × V)) (k : κ) : Option V := (kvs.find? fun kv => decide (kv.1 = k)).map (·.2)
noncomputable def wL (kvs : List (κ × V)) (k : κ) (v : V) : List (κ × V) :=
 if (kvs.any fun kv => decide (kv.1 = k)) = true then kvs.map (fun kv => if kv.1 = k then (kv.1, v) else kv) else kvs ++ [(k, v)]
theorem w8 {p : κ × V} {r : List (κ × V)} {k : κ} (e : p.1 = k) : wD (p :: r) k = some p.2 := by simp [wD, xU, e]
theorem qab {p : κ × V} {r : List (κ × V)} {k : κ} (e : ¬ p.1 = k) : wD (p :: r) k = wD r k := by simp [wD, xU, e]
theorem Y8 (kvs : List (κ × V)) (k : κ) (v : V) : (wL kvs k v).length <= kvs.length + 1 := by
 unfold wL
 split
 ·rw [uB]; lia
 ·rw [uE, ub, List.length_nil]; lia
theorem RelO.isSome_eq {o : Option V} {u : Option Value} (r : RelO o u) : o.isSome = u.isSome := by
 cases o with
 | none => cases u with
  | none => rfl
  | some _ => exact (show False from r).elim
 | some _ => cases u with
  | none => exact (show False from r).elim
  | some _ => rfl
theorem KV.val {kvs : List (κ × V)} {vs : List (κ × Value)} (r : KV kvs vs) (k : κ) : RelO (wD kvs k) (valueAt vs k) := by
 unfold KV at r
 induction r with
 | nil => exact True.intro
 | @cons p q ps qs h t ih =>
  obtain ⟨h1, h2⟩ := h
  by_cases e : p.1 = k
  ·have e' : q.1 = k := h1.symm.trans e
   have b : valueAt (q :: qs) k = some q.2 := by simp [valueAt, xU, e']
   rw [w8 e, b]; exact h2
  ·have e' : ¬ q.1 = k := fun z => e (h1.trans z)
   have b : valueAt (q :: qs) k = valueAt qs k := by simp [valueAt, xU, e']
   rw [qab e, b]; exact ih
theorem KV.any {kvs : List (κ × V)} {vs : List (κ × Value)} (r : KV kvs vs) (k : κ) : (kvs.any fun kv => decide (kv.1 = k)) = vs.any fun kv => decide (kv.1 = k) := by
 unfold KV at r
 induction r with
 | nil => rfl
 | cons h t ih => rw [xt, xt, ih, h.1]
theorem KV.repl {kvs : List (κ × V)} {vs : List (κ × Value)} (r : KV kvs vs) (k : κ) {y : V} {u : Value} (ry : RelV y u) :
  KV (kvs.map fun kv => if kv.1 = k then (kv.1, y) else kv) (vs.map fun kv => if kv.1 = k then (kv.1, u) else kv) := by
 unfold KV at r ⊢
 induction r with
 | nil => exact .nil
 | @cons p q ps qs h t ih =>
  rw [uf, uf]
  refine .cons ?_ ih
  obtain ⟨h1, h2⟩ := h
  by_cases e : p.1 = k
  ·rw [if_pos e, if_pos (h1.symm.trans e)]; exact ⟨h1, ry⟩
  ·rw [if_neg e, if_neg (fun z => e (h1.trans z))]; exact ⟨h1, h2⟩
theorem KV.put {kvs : List (κ × V)} {vs : List (κ × Value)} (r : KV kvs vs) (k : κ) {y : V} {u : Value} (ry : RelV y u) : KV (wL kvs k y) (stored vs k u) := by
 unfold wL stored
 rw [r.any k]
 by_cases e : (vs.any fun kv => decide (kv.1 = k)) = true
 ·rw [if_pos e, if_pos e]; exact r.repl k ry
 ·rw [if_neg e, if_neg e]; exact Paired.snoc r ⟨rfl, ry⟩
theorem KV.length {kvs : List (κ × V)} {vs : List (κ × Value)} (r : KV kvs vs) : kvs.length = vs.length := Paired.length r
end
theorem waf {P : Program} {w : World} {k : Key} {u : Value} (r : RelV (kV k) u) : (Wq P w).is k u = true := by
 cases k with
 | inl i => obtain ⟨t, e⟩ := (show ∃ t, u = Value.int i t from r); subst e; exact XaG P w i t
 | inr x => obtain ⟨t, e⟩ := (show ∃ t, u = Value.str x t from r); subst e; exact ZaH P w x t
theorem jaq {P : Program} {w : World} : ∀ {ks : List Key} {us : List Value}, Vals (ks.map kV) us -> ItemsAre (Wq P w) ks us
 | [], _, r => by rw [List.map_nil] at r; cases r; exact .nil
 | k :: ks, _, r => by
  rw [uf] at r
  cases r with
  | cons h t => exact .cons (waf h) (jaq t)
abbrev KT (H : Hp) : List (List Key × V) -> List (List Key × Addr × Value) -> Prop := Paired fun p q => p.1 = q.1 /\ H q.2.1 = some (.tup (p.1.map kV)) /\ RelV p.2 q.2.2
theorem KT.val {H : Hp} {kvs : List (List Key × V)} {xs : List (List Key × Addr × Value)} (r : KT H kvs xs) (k : List Key) : RelO (wD kvs k) ((atKey xs k).map (·.2)) := by
 induction r with
 | nil => exact True.intro
 | @cons p q ps qs h t ih =>
  obtain ⟨h1, _, h2⟩ := h
  by_cases e : p.1 = k
  ·have e' : q.1 = k := h1.symm.trans e
   have b : atKey (q :: qs) k = some q.2 := by simp [atKey, xU, e']
   rw [w8 e, b]; exact h2
  ·have e' : ¬ q.1 = k := fun z => e (h1.trans z)
   have b : atKey (q :: qs) k = atKey qs k := by simp [atKey, xU, e']
   rw [qab e, b]; exact ih
section
variable {P : Program} {w : World} {H : Hp} {h : Heap} {a : Addr}
theorem Xa9 {u : HO} (ok : HOk P w H h) (e : Rd H a u) : ObjOk P w H h a u := e.ok ok
theorem vaf {kvs : List (Key × V)} (ok : HOk P w H h) (e : Rd H a (.dK kvs)) : kvs.length <= sizeLine /\ (a == sysModules) = false /\ ∃ vs, KV kvs vs /\ h.DictOf (Wq P w) a vs :=
 show ObjOk P w H h a (.dK kvs) from Xa9 ok e
theorem wbu {kvs : List (Key × V)} (ok : HOk P w H h) (e : H a = some (.dK kvs)) : kvs.length <= sizeLine /\ (a == sysModules) = false /\ ∃ vs, KV kvs vs /\ h.DictOf (Wq P w) a vs := vaf ok (.inl e)
theorem jaf {ks : List Key} (ok : HOk P w H h) (e : H a = some (.tup (ks.map kV))) : (tupleKind (Wq P w)).is h ks a := by
 obtain ⟨_, its, r, o, h1, h2, n, h3⟩ := (show ObjOk P w H h a (.tup (ks.map kV)) from ok a _ e)
 exact ⟨o, its.toArray, n, h1, h2, h3, by simpa using jaq r⟩
theorem qav {kvs : List (List Key × V)} (ok : HOk P w H h) (e : Rd H a (.dT kvs)) : kvs.length <= sizeLine /\ (a == sysModules) = false ∧
  ∃ xs, KT H kvs xs /\ h.DictOfH (tupleKind (Wq P w)) a xs := by
 obtain ⟨z, y, xs, r, o, es, ep, h1, h2, h3, h4, h5⟩ := (show ObjOk P w H h a (.dT kvs) from Xa9 ok e)
 refine ⟨z, y, xs, r, o, es, ep, h1, h2, h3, h4, fun x hx => ?_, h5⟩
 have all : ∀ {l : List (List Key × V)} {m : List (List Key × Addr × Value)}, KT H l m -> ∀ x ∈ m, (tupleKind (Wq P w)).is h x.1 x.2.1 := by
  intro l m q
  induction q with
  | nil => intro x hx; exact nomatch hx
  | @cons p q ps qs hq t ih =>
   intro x hx
   rcases uU.mp hx with e | hx
   ·subst e
    exact jaf ok (by rw [← hq.1]; exact hq.2.1)
   ·exact ih x hx
 exact all r x hx
end
def DGet (H : Hp) (a : Addr) (y : V) (r : Option V) : Prop :=
 (∃ kvs k, Rd H a (.dK kvs) /\ y = kV k /\ r = wD kvs k) \/ ∃ kvs k b, Rd H a (.dT kvs) /\ y = .ref b /\ H b = some (.tup (k.map kV)) /\ r = wD kvs k
theorem DGet.k {H : Hp} {a : Addr} {kvs : List (Key × V)} {k : Key} (e : H a = some (.dK kvs)) : DGet H a (kV k) (wD kvs k) := .inl ⟨kvs, k, .inl e, rfl, rfl⟩
section
variable {X : Cx} {pins : ZPO} {σ : St} {H : Hp} {s : Shared} {a : Addr} {y v : V} {u r : Value} {o : Option V} {A : Around} {E : ZVP}
theorem Inv.big (I : Inv X pins σ H s) : sysModules < s.heap.objs.size := by
 have h : mainGlobals < s.heap.objs.size := (I.mod.glob.keeps I.bk).lt
 exact Nat.lt_trans (by decide) h
theorem WaR {Q : ZVP} (hu : A.units + 1 < cLine) (I : Inv X pins σ H s) (g : DGet H a y (some v)) (ry : RelV y u) (h : ∀ w' s', Inv X pins σ H s' -> RelV v w' -> Q w' s') :
  wpAny (model X.prog X.w) A (getItem (.ref a) u) Q E s := by
 rcases g with ⟨kvs, k, e, ey, l⟩ | ⟨kvs, k, b, e, ey, eb, l⟩
 ·subst ey
  obtain ⟨z, hd, vs, rel, dd⟩ := vaf I.hok e
  obtain ⟨w', hw, rw'⟩ := RelO.some_of (v := v) (o := valueAt vs k) (by rw [l]; exact rel.val k)
  exact wpAny_getItem_of (waf ry) dd.mapOf hw (h w' _ (I.tok _) rw')
 ·subst ey
  cases (show u = Value.ref b from ry)
  obtain ⟨z, hd, xs, rel, dd⟩ := qav I.hok e
  obtain ⟨w', hw, rw'⟩ := RelO.some_of (v := v) (o := (atKey xs k).map (·.2)) (by rw [l]; exact rel.val k)
  obtain ⟨p, hp, hp2⟩ := Option.map_eq_some_iff.mp hw
  refine wpAny_getItem_heap (tupleKind_room_in1 hu) (jaf I.hok eb) dd hp ?_
  rw [hp2]
  exact h w' _ (I.tok _) rw'
theorem Wbx {Q : ZVP} (hu : A.units + 1 < cLine) (I : Inv X pins σ H s) (g : DGet H a y o) (ry : RelV y u) (h : ∀ s', Inv X pins σ H s' -> Q (.bool o.isSome) s') :
  wpAny (model X.prog X.w) A (compareOp .In u (.ref a)) Q E s := by
 rcases g with ⟨kvs, k, e, ey, l⟩ | ⟨kvs, k, b, e, ey, eb, l⟩
 ·subst ey
  obtain ⟨z, hd, vs, rel, dd⟩ := vaf I.hok e
  refine wpAny_in_of (waf ry) hd dd.mapOf ?_
  rw [← (rel.val k).isSome_eq, ← l]
  exact h _ (I.tok _)
 ·subst ey
  cases (show u = Value.ref b from ry)
  obtain ⟨z, hd, xs, rel, dd⟩ := qav I.hok e
  refine wpAny_in_heap (tupleKind_room_in1 hu) (jaf I.hok eb) hd dd ?_
  have q := (rel.val k).isSome_eq
  rw [Option.isSome_map] at q
  rw [← q, ← l]
  exact h _ (I.tok _)
theorem wbb {Q : ZVP} (hu : A.units + 1 < cLine) (I : Inv X pins σ H s) (g : DGet H a y o) (ry : RelV y u) (h : ∀ s', Inv X pins σ H s' -> Q (.bool (!o.isSome)) s') :
  wpAny (model X.prog X.w) A (compareOp .NotIn u (.ref a)) Q E s := by
 rcases g with ⟨kvs, k, e, ey, l⟩ | ⟨kvs, k, b, e, ey, eb, l⟩
 ·subst ey
  obtain ⟨z, hd, vs, rel, dd⟩ := vaf I.hok e
  refine wpAny_notIn_of (waf ry) hd dd.mapOf ?_
  rw [← (rel.val k).isSome_eq, ← l]
  exact h _ (I.tok _)
 ·subst ey
  cases (show u = Value.ref b from ry)
  obtain ⟨z, hd, xs, rel, dd⟩ := qav I.hok e
  refine wpAny_notIn_heap (tupleKind_room_in1 hu) (jaf I.hok eb) hd dd ?_
  have q := (rel.val k).isSome_eq
  rw [Option.isSome_map] at q
  rw [← q, ← l]
  exact h _ (I.tok _)
theorem kba {h' : Heap} {t' : Nat} {ob : HO} (I : Inv X pins σ H s) (mu : Mut (H a)) (hs : xk a s.heap h') (he : ∃ q, h'.get? a = some q) (new : ObjOk X.prog X.w (upd H a ob) h' a ob) :
  Inv X pins σ (upd H a ob) { s with heap := h', toks := t' } :=
 I.write (x := a) (e := a) mu (.inl rfl) (fun b q hb z => (hs.2 b hb).trans z) he new
theorem Xbk {P : Program} {w : World} {H' : Hp} {h' : Heap} {kvs : List (Key × V)} {vs : List (Key × Value)} (z : kvs.length <= sizeLine) (hd : (a == sysModules) = false) (rel : KV kvs vs) (dd : h'.DictOf (Wq P w) a vs) :
  ObjOk P w H' h' a (.dK kvs) := ⟨z, hd, vs, rel, dd⟩
end
def va5 (i : Expr) : Prop := ∀ ov iv, subscripted i false ov iv = operate [ov, iv] (getItem ov iv)
theorem jbd {prog : Program} {w : World} {A : Around} {E : ZVP} {s : Shared} {env : Env} {value slice : Expr} {pos : Pos} {T id : String} {Q : ZVP}
  (hl : typeLookup (.type T) "__getitem__" = pure (some (.builtin id))) (hs : va5 slice)
  (h : wpAny (model prog w) A (eval value env) (fun o s₁ => wpAny (model prog w) A (eval slice env) (fun i s₂ => s₂.TypeIs o T /\ wpAny (model prog w) A (getItem o i) Q E s₂) E s₁) E s) :
  wpAny (model prog w) A (eval (.Subscript value slice pos) env) Q E s := by
 refine Subscript_ (wpAny_mono h (fun o s₁ h₁ => wpAny_mono h₁ (fun i s₂ h₂ => ?_) fun _ _ x => x) fun _ _ x => x)
 obtain ⟨hT, h₂⟩ := h₂
 unfold subscriptTail
 refine wpAny_bind ?_
 rw [getitemInPython_of_ne hT.not_modules]
 refine wpAny_bind (wpAny_specialOf hT hl ?_)
 have fin : wpAny (model prog w) A (subscripted slice false o i) (fun r s₃ => wpAny (model prog w) A (letTemporaryGo value o r >>= fun _ => pure r) Q E s₃) E s₂ := by
  rw [hs o i]
  exact wpAny_operating (wpAny_mono h₂ (fun r s₃ h₃ => wpAny_bind (wpAny_letTemporaryGo (wpAny_pure h₃))) fun _ _ x => x)
 first
  | exact wpAny_pure (wpAny_bind fin)
  | exact wpAny_bind (wpAny_pure (wpAny_bind fin))
  | exact wpAny_bind fin
theorem WaH {X : Cx} {pins : ZPO} {σ : St} {H : Hp} {s : Shared} {a : Addr} {y : V} {o : Option V} (I : Inv X pins σ H s) (g : DGet H a y o) : s.TypeIs (.ref a) "dict" := by
 rcases g with ⟨kvs, k, e, _, _⟩ | ⟨kvs, k, b, e, _, _, _⟩
 ·obtain ⟨_, _, vs, _, dd⟩ := vaf I.hok e
  exact dd.typeIs
 ·obtain ⟨_, _, xs, _, dd⟩ := qav I.hok e
  exact dd.typeIs
def Xbu (td ty : TE) : TE := fun σ H Q => td σ H fun x H1 => ty σ H1 fun y H2 => ∃ a v, x = .ref a /\ DGet H2 a y (some v) /\ Q v H2
def jbw (ty td : TE) : TE := fun σ H Q => ty σ H fun y H1 => td σ H1 fun x H2 => ∃ a o, x = .ref a /\ DGet H2 a y o /\ Q (.bl o.isSome) H2
def Wbi (ty td : TE) : TE := fun σ H Q => ty σ H fun y H1 => td σ H1 fun x H2 => ∃ a o, x = .ref a /\ DGet H2 a y o /\ Q (.bl (!o.isSome)) H2
section
variable {X : Cx} {o i e value : Expr} {pos pos' tpos : Pos} {td ty tv : TE}
theorem kbf (hu : X.A.units + 1 < cLine) (ho : PE X o td) (hi : PE X i ty) (hs : va5 i) : PE X (.Subscript o i pos) (Xbu td ty) := by
 intro pins s σ H Q I h
 refine jbd PySem.F.slot_dict_getitem.lookup hs (thn (ho pins s σ H _ I h) fun u s1 w1_ => w1_.elim fun x z_ => z_.elim fun H1 z_ => z_.elim fun I1 z_ => z_.elim fun rx q1 => thn (hi pins s1 σ H1 _ I1 q1) fun iv s2 w1_ => w1_.elim fun y z_ => z_.elim fun H2 z_ => z_.elim fun I2 z_ => z_.elim fun ry z_ => z_.elim fun a z_ => z_.elim fun v z_ => z_.elim fun ex z_ => z_.elim fun g q2 => ?_)
 subst ex
 obtain rfl : u = Value.ref a := rx
 exact ⟨WaH I2 g, WaR hu I2 g ry fun w' s3 I3 rw' => ⟨v, H2, I3, rw', q2⟩⟩
theorem wbq (hu : X.A.units + 1 < cLine) (hi : PE X i ty) (ho : PE X o td) : PC X .In i o (jbw ty td) := by
 intro pins s σ H Q I h
 refine thn (hi pins s σ H _ I h) fun iv s1 w1_ => w1_.elim fun y z_ => z_.elim fun H1 z_ => z_.elim fun I1 z_ => z_.elim fun ry q1 => thn (ho pins s1 σ H1 _ I1 q1) fun u s2 w1_ => w1_.elim fun x z_ => z_.elim fun H2 z_ => z_.elim fun I2 z_ => z_.elim fun rx z_ => z_.elim fun a z_ => z_.elim fun ov z_ => z_.elim fun ex z_ => z_.elim fun g q2 => ?_
 subst ex
 obtain rfl : u = Value.ref a := rx
 exact Wbx hu I2 g ry fun s3 I3 => ⟨.bl ov.isSome, H2, I3, rfl, q2⟩
theorem ZaV (hu : X.A.units + 1 < cLine) (hi : PE X i ty) (ho : PE X o td) : PC X .NotIn i o (Wbi ty td) := by
 intro pins s σ H Q I h
 refine thn (hi pins s σ H _ I h) fun iv s1 w1_ => w1_.elim fun y z_ => z_.elim fun H1 z_ => z_.elim fun I1 z_ => z_.elim fun ry q1 => thn (ho pins s1 σ H1 _ I1 q1) fun u s2 w1_ => w1_.elim fun x z_ => z_.elim fun H2 z_ => z_.elim fun I2 z_ => z_.elim fun rx z_ => z_.elim fun a z_ => z_.elim fun ov z_ => z_.elim fun ex z_ => z_.elim fun g q2 => ?_
 subst ex
 obtain rfl : u = Value.ref a := rx
 exact wbb hu I2 g ry fun s3 I3 => ⟨.bl (!ov.isSome), H2, I3, rfl, q2⟩
end
theorem ka3 {P : Program} {w : World} {H : Hp} (h : Heap) (hb : sysModules < h.objs.size) : ObjOk P w H (h.push { cls := .type "dict", data := .dict #[] }) h.objs.size (.dK []) :=
 ⟨ue _, beq_eq_false_iff_ne.mpr (Ne.symm (uZ hb)), [], .nil, Heap.DictOf.new h⟩
section
variable {prog : Program} {w : World} {A : Around} {R : Result -> Shared -> Prop} {s : Shared}
abbrev noE : ZVP := fun _ _ => False
theorem vaE {elt target iter : Expr} {ifs : List Expr} {scope : Scope} {pos : Pos} {it acc : Value} {env : Env} (I : Nat -> Shared -> Prop)
  (turn : ∀ n s, I n s -> wpAny (model prog w) A (pyNext it) (fun r s₁ => match r with
   | none => R (.ok .next) s₁
   | some v => wpAny (model prog w) A (letOwnedTupleGo target it v) (fun _ s₁' => wpAny (model prog w) A (assign target env v) (fun _ s₂ =>
     wpAny (model prog w) A (forIn ifs true fun c r => if r = true then do let ok ← isTrue c env (eval c env); pure (ForInStep.yield ok) else pure (ForInStep.yield r)) (fun ok s₃ =>
      if ok = true then wpAny (model prog w) A (eval elt env) (fun x s₄ =>
       wpAny (model prog w) A (call (.builtin "list.append") [acc, x]) (fun _ s₅ => ∃ m, m < n /\ I m s₅) noE s₄) noE s₃
      else ∃ m, m < n /\ I m s₃) noE s₂) noE s₁') noE s₁) noE s)
  (n : Nat) (h : I n s) :
  codeAny (model prog w) A (.compLoop (.ListComp elt [⟨target, iter, ifs, 0⟩] scope pos) 0 it acc env) R s := by
 refine codeAny_loop rfl I (fun n s hI => ?_) n h
 show wpAny _ A ((compTurn (.ListComp elt [⟨target, iter, ifs, 0⟩] scope pos) 0 it acc env).onRaise (fun x => do noteFrame x env; theTreesLotGoes x)) _ _ s
 refine wpAny_noted ?_
 rw [compTurn_list]
 refine wpAny_bind (wpAny_standAt (wpAny_bind (wpAny_mono (turn n s hI) (fun r s₁ h₁ => ?_) fun _ _ h' => h'.elim)))
 cases r with
 | none => exact wpAny_pure h₁
 | some v =>
  refine wpAny_bind (wpAny_mono h₁ (fun _ s₁' h₁' => ?_) fun _ _ h' => h'.elim)
  refine wpAny_bind (wpAny_mono h₁' (fun _ s₂ h₂ => wpAny_bind (wpAny_mono h₂ (fun ok s₃ h₃ => ?_) fun _ _ h' => h'.elim)) fun _ _ h' => h'.elim)
  cases ok with
  | false => exact wpAny_pure ⟨rfl, h₃⟩
  | true =>
   exact wpAny_bind (wpAny_bind (wpAny_mono h₃ (fun x s₄ h₄ => wpAny_bind (wpAny_mono h₄ (fun _ s₅ h₅ => wpAny_pure (wpAny_pure ⟨rfl, h₅⟩)) fun _ _ h' => h'.elim)) fun _ _ h' => h'.elim))
end
def PIfs (X : Cx) (ifs : List Expr) (t : TT) : Prop :=
 ∀ (pins : ZPO) (s : Shared) (σ : St) (H : Hp) (Q : Bool -> Hp -> Prop), Inv X pins σ H s -> t σ H Q →
  wpAny (model X.prog X.w) X.A (forIn ifs true fun c r => if r = true then do let ok ← isTrue c X.env (eval c X.env); pure (ForInStep.yield ok) else pure (ForInStep.yield r)) (TP X pins σ Q) X.xe s
def qbx : TT := fun _ H Q => Q true H
theorem pifs_nil {X : Cx} : PIfs X [] qbx := fun _ _ _ H _ I h => wpAny_tests_nil ⟨H, I, h⟩
theorem wa5 {X : Cx} {c : Expr} {t : TT} (h : PT X c t) : PIfs X [c] t := fun pins s σ H Q I hw => wpAny_tests_one (h pins s σ H Q I hw)
theorem Zp : ∀ (names : List (Str × NameKind)) (n : Nat) (acc : List (Str × Addr)), cellsFrom n names acc = cellsFrom n names [] ++ acc
 | [], _, _ => rfl
 | (nm, k) :: r, n, acc => by
  unfold cellsFrom
  split
  ·rw [Zp r (n + 1) ((nm, n) :: acc), Zp r (n + 1) [(nm, n)], uh]; rfl
  ·exact Zp r n acc
noncomputable def qo (cells : List (Str × Addr)) : List (Str × NameKind) -> List (Str × Addr) -> List (Str × Addr)
 | [], acc => acc
 | (n, k) :: r, acc => if k == .free then qo cells r ((n, (cells.lookup n).getD 0) :: acc) else qo cells r acc
theorem jK {env : Env} : ∀ (names : List (Str × NameKind)) (acc : List (Str × Addr)), (∀ y ∈ names, y.2 = .free -> ∃ c, env.cells.lookup y.1 = some c) →
  (forIn names acc fun (x : Str × NameKind) cs => if x.2 == .free then do let a ← cellOf env x.1; pure (ForInStep.yield ((x.1, a) :: cs)) else pure (ForInStep.yield cs) : Sem _) = pure (qo env.cells names acc)
 | [], acc, _ => rfl
 | (n, k) :: r, acc, h => by
  rw [List.forIn_cons]
  unfold qo
  have hr := fun y hy => h y (uQ _ hy)
  by_cases hk : (k == NameKind.free) = true
  ·obtain ⟨c, hc⟩ := h (n, k) ug (by simpa using hk)
   have hc' : env.cells.lookup n = some c := hc
   simp only [hk, if_true]
   unfold cellOf
   rw [hc']
   simp only [pure_bind, Option.getD_some]
   exact jK r _ hr
  ·have hk' : (k == NameKind.free) = false := by simpa using hk
   simp only [hk', uM, if_false, pure_bind]
   exact jK r _ hr
theorem jJ {scope : Scope} {env : Env} (h : ∀ y ∈ scope.names, y.2 = .free -> ∃ c, env.cells.lookup y.1 = some c) : closureFor scope env = pure (qo env.cells scope.names []) := by
 have e := jK (env := env) scope.names [] h
 unfold closureFor
 simp only [bind_pure_comp] at e ⊢
 have e2 : (forIn scope.names ([] : List (Str × Addr)) fun (x : Str × NameKind) cs => if x.2 == .free then do let a ← cellOf env x.1; pure (ForInStep.yield ((x.1, a) :: cs)) else pure (ForInStep.yield cs) : Sem _) = pure (qo env.cells scope.names []) := jK scope.names [] h
 simp only [bind_pure_comp] at e2
 first
  | exact e2
  | (rw [e2]; rfl)
  | simpa using e2
theorem ZJ {cells : List (Str × Addr)} {x : Str} {c : Addr} : ∀ (names : List (Str × NameKind)) (acc : List (Str × Addr)), (qo cells names acc).lookup x = some c →
  acc.lookup x = some c \/ ((x, NameKind.free) ∈ names /\ c = (cells.lookup x).getD 0)
 | [], acc, h => .inl h
 | (n, k) :: r, acc, h => by
  unfold qo at h
  by_cases hk : (k == NameKind.free) = true
  ·rw [if_pos hk] at h
   rcases ZJ r _ h with h1 | ⟨h1, h2⟩
   ·rw [xX] at h1
    cases hx : x == n with
    | true =>
     rw [hx] at h1
     have hxn : x = n := by simpa using hx
     subst hxn
     cases h1
     refine .inr ⟨?_, rfl⟩
     have : k = NameKind.free := by simpa using hk
     subst this
     exact ug
    | false => rw [hx] at h1; exact .inl h1
   ·exact .inr ⟨uQ _ h1, h2⟩
  ·rw [if_neg hk] at h
   rcases ZJ r _ h with h1 | ⟨h1, h2⟩
   ·exact .inl h1
   ·exact .inr ⟨uQ _ h1, h2⟩
theorem WK {cells : List (Str × Addr)} {x : Str} : ∀ (names : List (Str × NameKind)) (acc : List (Str × Addr)), ((x, NameKind.free) ∈ names \/ (acc.lookup x).isSome = true) -> ((qo cells names acc).lookup x).isSome = true
 | [], acc, h => by rcases h with h | h; exact absurd h (by simp); exact h
 | (n, k) :: r, acc, h => by
  unfold qo
  by_cases hk : (k == NameKind.free) = true
  ·rw [if_pos hk]
   refine WK r _ ?_
   rcases h with h | h
   ·rcases uU.mp h with e | h
    ·cases e; right; simp [xX]
    ·exact .inl h
   ·right
    rw [xX]
    cases hx : x == n
    ·exact h
    ·rfl
  ·rw [if_neg hk]
   refine WK r _ ?_
   rcases h with h | h
   ·rcases uU.mp h with e | h
    ·cases e; exact absurd rfl hk
    ·exact .inl h
   ·exact .inr h
noncomputable def jx (scope : Scope) (L : Addr) (env : Env) : Env :=
 { scope := relabel scope env, locals := L, globals := env.globals, cells := cellsFrom (L + 1) scope.names (qo env.cells scope.names []), qual := env.qual, func := none, code := env.code, frame := env.frame, builtins := env.builtins }
theorem W8 {M : Model} {A : Around} {E : ZVP} {s : Shared} {scope : Scope} {globals : Addr} {cl : List (Str × Addr)} {qual : Str} {outer : Env} {Q : Env -> Shared -> Prop}
  (hQ : ∀ h', (∀ b o, s.heap.get? b = some o -> h'.get? b = some o) -> h'.Ns s.heap.objs.size (fun _ => none) -> CellsOk h' (s.heap.objs.size + 1) (cellsFrom (s.heap.objs.size + 1) scope.names []) →
   Q { scope := scope, locals := s.heap.objs.size, globals := globals, cells := cellsFrom (s.heap.objs.size + 1) scope.names cl, qual := qual, func := none, code := outer.code, frame := outer.frame, builtins := outer.builtins } { s with heap := h' }) :
  wpAny M A (newFunctionEnv scope globals cl [] qual none .none (some outer)) Q E s := by
 simp only [newFunctionEnv, Option.isSome_some, if_true]
 refine wpAny_bind (wpAny_alloc ?_)
 refine wpAny_bind (wpAny_layCells _ (fun name kind cells => by cases hkc : kind == NameKind.cell <;> simp [hkc]) _ _ _ _ ?_)
 have ok := cellsFrom_ok scope.names (s.heap.push { cls := .type "dict", data := .dict #[] }) (s.heap.objs.size + 1) [] ⟨fun _ _ hm => (nomatch hm), List.Pairwise.nil⟩ (by rw [u3]; exact uI _)
 rw [u3] at ok
 rw [show ({ s with heap := s.heap.push { cls := .type "dict", data := .dict #[] } } : Shared).heap.objs.size = s.heap.objs.size + 1 from u3 ..]
 simp only [List.forIn_nil]
 refine wpAny_bind (wpAny_pure (wpAny_pure ?_))
 exact hQ _ (fun b o e => pushCells_keeps _ _ b o (uD _ e)) ((Heap.Ns.new s.heap (.type "dict")).keeps (pushCells_keeps _ _)) ok
noncomputable def ke (X : Cx) (scope : Scope) (ts rest : List Str) (ex : List Addr) (s : Shared) (H : Hp) : Cx where
 prog := X.prog
 w := X.w
 K := X.K
 mg := X.mg
 base := X.base
 A := X.A
 N := ts ++ rest
 s₀ := s
 H₀ := H
 env := jx scope s.heap.objs.size X.env
 outer := X.stack
 stack := X.stack
 ex := ex
 calm := X.calm
 fn := fun x => ((cellsFrom (s.heap.objs.size + 1) scope.names []).lookup x).isSome
 pn := X.pn
 xe := fun _ _ => False
structure wm (X : Cx) (scope : Scope) (ts rest : List Str) : Prop where
 kind : scope.kind = .function
 own : ∀ y ∈ scope.names, y.2 = .local -> scope.names.lookup y.1 = some .local
 free : ∀ y ∈ scope.names, y.2 = .free -> X.env.kindOf y.1 = some .cell \/ X.env.kindOf y.1 = some .free
 look : ∀ y ∈ scope.names, scope.names.lookup y.1 = some y.2
 len : rest.length = X.N.length
 at_ : ∀ (i : Nat) x, rest[i]? = some x -> scope.names.lookup x = none \/ (scope.names.lookup x = some .free /\ X.N[i]? = some x) \/ (∃ k, scope.names.lookup x = some k /\ k ≠ .local /\ k ≠ .cell /\ k ≠ .free)
 nd : (ts ++ rest).Nodup
theorem qG {env : Env} {x : Str} : ∀ (names : List (Str × NameKind)),
  (names.map fun (n, k) => if (k == NameKind.free && env.scope.kind == .function && env.kindOf n == some .cell) then (n, NameKind.cell) else (n, k)).lookup x =
   (names.lookup x).map fun k => if (k == NameKind.free && env.scope.kind == .function && env.kindOf x == some .cell) then NameKind.cell else k
 | [] => rfl
 | (n, k) :: r => by
  rw [uf]
  cases hx : x == n with
  | true =>
   have e : x = n := by simpa using hx
   subst e
   by_cases hc : (k == NameKind.free && env.scope.kind == .function && env.kindOf x == some .cell) = true
   ·simp only [hc, if_true, xX, beq_self_eq_true, xu]
   ·simp only [if_neg hc, xX, beq_self_eq_true, xu]
  | false =>
   have ih := qG (env := env) (x := x) r
   by_cases hc : (k == NameKind.free && env.scope.kind == .function && env.kindOf n == some .cell) = true
   ·simp only [hc, if_true, xX, hx]; exact ih
   ·simp only [if_neg hc, xX, hx]; exact ih
section
variable {X : Cx} {scope : Scope} {ts rest : List Str} {pins : ZPO} {σ : St} {H : Hp} {s : Shared}
theorem YaO {l1 l2 : List (Str × Addr)} {x : Str} {c : Addr} (h : (l1 ++ l2).lookup x = some c) : l1.lookup x = some c \/ (l1.lookup x = none /\ l2.lookup x = some c) := by
 rw [yG] at h
 cases e : l1.lookup x with
 | none => rw [e] at h; exact .inr ⟨rfl, by simpa using h⟩
 | some d => rw [e] at h; left; simpa using h
theorem wP : ∀ {names : List (Str × NameKind)} {n : Nat} {acc : List (Str × Addr)} {x : Str} {c : Addr}, (x, c) ∈ cellsFrom n names acc -> (x, NameKind.cell) ∈ names \/ (x, c) ∈ acc
 | [], _, _, _, _, h => .inr h
 | (nm, k) :: r, n, acc, x, c, h => by
  unfold cellsFrom at h
  split at h
  ·rename_i hk
   rcases wP h with h | h
   ·exact .inl (uQ _ h)
   ·rcases uU.mp h with e | h
    ·cases e
     have : k = NameKind.cell := by simpa using hk
     subst this
     exact .inl ug
    ·exact .inr h
  ·rcases wP h with h | h
   ·exact .inl (uQ _ h)
   ·exact .inr h
theorem Waf {L : Addr} (S : wm X scope ts rest) {x : Str} {c : Addr} (h : (jx scope L X.env).cells.lookup x = some c) :
  ((cellsFrom (L + 1) scope.names []).lookup x = some c /\ scope.names.lookup x = some .cell) \/ (scope.names.lookup x = some .free /\ c = (X.env.cells.lookup x).getD 0) := by
 have h' : (cellsFrom (L + 1) scope.names (qo X.env.cells scope.names [])).lookup x = some c := h
 rw [Zp] at h'
 rcases YaO h' with h1 | ⟨_, h1⟩
 ·refine .inl ⟨h1, ?_⟩
  rcases wP (PySem.mem_of_lookup h1) with z | z
  ·exact S.look _ z
  ·exact absurd z (by simp)
 ·rcases ZJ _ _ h1 with z | ⟨z1, z2⟩
  ·exact absurd z (by simp)
  ·exact .inr ⟨S.look _ z1, z2⟩
theorem Yad (S : wm X scope ts rest) (I : Inv X pins σ H s) {fp : List Addr} {h' : Heap} (hf : ∀ b ∈ fp, Xm X pins H b) (hfl : ∀ b ∈ fp, b < s.heap.objs.size)
  (hk : ∀ b o, s.heap.get? b = some o -> h'.get? b = some o) (hn : h'.Ns s.heap.objs.size (fun _ => none)) (ck : CellsOk h' (s.heap.objs.size + 1) (cellsFrom (s.heap.objs.size + 1) scope.names [])) :
  Inv (ke X scope ts rest fp s H) pins (uK ts.length none ++ σ) H { s with heap := h' } := by
 have cell_of : ∀ x, scope.names.lookup x = some .free -> ∃ c, X.env.cells.lookup x = some c := fun x hx => I.ok.has x (S.free _ (PySem.mem_of_lookup hx) rfl)
 have below : ∀ {b : Addr} {o : Obj}, s.heap.get? b = some o -> b < s.heap.objs.size := fun e => uH e
 have cOld : ∀ x c, X.env.cells.lookup x = some c -> c < s.heap.objs.size := fun x c e => by
  obtain ⟨v, o, ho, _⟩ := I.cell x c e
  exact below ho
 -- a cell of the block
 have cases_ : ∀ x c, (jx scope s.heap.objs.size X.env).cells.lookup x = some c -> (((x, c) ∈ cellsFrom (s.heap.objs.size + 1) scope.names [] /\ h'.IsCell c none /\ s.heap.objs.size + 1 <= c) \/ (X.env.cells.lookup x = some c)) := fun x c e => by
  rcases Waf S e with ⟨z, _⟩ | ⟨z1, z2⟩
  ·exact .inl ⟨PySem.mem_of_lookup z, ck.empty x c (PySem.mem_of_lookup z)⟩
  ·obtain ⟨d, hd⟩ := cell_of x z1
   rw [hd] at z2
   exact .inr (by rw [hd, z2]; rfl)
 have I' := I
 refine ⟨⟨I.ok.mod, S.kind, I.ok.glob, I.ok.blt, uI _, fun x y c e1 e2 => ?_, fun x hx => ?_, fun x c hfn e => ?_, I.ok.hd, I.ok.frames, .inl rfl, fun b hb => ⟨uZ (hfl b hb), fun x c e => ?_⟩, I.bs, xD I.ok.bsz I.sz, fun b o e hb => ?_, fun b hb hz => ?_, I.stack, I.stkFree⟩,
  rfl, I.bare, Un.kept hk, ⟨_, hn, fun i x v e1 e2 e3 => ?_⟩, fun x c e => ?_, I.hok.fresh (uI _), fun x c e => ?_, fun p hp => ?_, I.hok.kept hk, ?_⟩
 ·rcases cases_ x c e1 with ⟨m1, _, l1⟩ | z1 <;> rcases cases_ y c e2 with ⟨m2, _, l2⟩ | z2
  ·exact name_of_addr ck.apart m1 m2
  ·exact absurd (uV (cOld y c z2) (Nat.le_of_succ_le l1)) (uq _)
  ·exact absurd (uV (cOld x c z1) (Nat.le_of_succ_le l2)) (uq _)
  ·exact I.ok.inj x y c z1 z2
 ·have hx' : (relabel scope X.env).names.lookup x = some .cell \/ (relabel scope X.env).names.lookup x = some .free := hx
  have e : (relabel scope X.env).names.lookup x = (scope.names.lookup x).map fun k => if (k == NameKind.free && X.env.scope.kind == .function && X.env.kindOf x == some .cell) then NameKind.cell else k := qG scope.names
  have hkk : scope.names.lookup x = some .cell \/ scope.names.lookup x = some .free := by
   cases q : scope.names.lookup x with
   | none => rw [e, q] at hx'; rcases hx' with z | z <;> cases z
   | some k =>
    by_cases hc : (k == NameKind.free && X.env.scope.kind == .function && X.env.kindOf x == some .cell) = true
    ·have : k = .free := by
      have := (xA _ _ ▸ hc : _ /\ _).1
      have := (xA _ _ ▸ this : _ /\ _).1
      simpa using this
     exact .inr (by rw [this])
    ·rw [e, q] at hx'
     simp only [xu, if_neg hc] at hx'
     exact hx'
  show ∃ c, (cellsFrom (s.heap.objs.size + 1) scope.names (qo X.env.cells scope.names [])).lookup x = some c
  refine yE.mp ?_
  rw [Zp, yG]
  rcases hkk with z | z
  ·have q := xq scope.names (s.heap.objs.size + 1) [] (.inl z)
   cases q2 : (cellsFrom (s.heap.objs.size + 1) scope.names []).lookup x with
   | none => rw [q2] at q; cases q
   | some c => simp
  ·have q := WK (cells := X.env.cells) (x := x) scope.names [] (.inl (PySem.mem_of_lookup z))
   cases (cellsFrom (s.heap.objs.size + 1) scope.names []).lookup x with
   | none => simpa using q
   | some c => simp
 ·have hfn' : ((cellsFrom (s.heap.objs.size + 1) scope.names []).lookup x).isSome = true := hfn
  have e' : (cellsFrom (s.heap.objs.size + 1) scope.names (qo X.env.cells scope.names [])).lookup x = some c := e
  rw [Zp, yG] at e'
  cases q2 : (cellsFrom (s.heap.objs.size + 1) scope.names []).lookup x with
  | none => rw [q2] at hfn'; cases hfn'
  | some d =>
   rw [q2] at e'
   have e2 : d = c := by simpa using e'
   subst e2
   have := (ck.empty x d (PySem.mem_of_lookup q2)).2
   show s.heap.objs.size <= d
   lia
 ·rcases cases_ x c e with ⟨_, _, l⟩ | z
  ·exact xM (uV (hfl b hb) (Nat.le_of_succ_le l))
  ·exact (hf b hb).2.2.2.2.1 x c z
 ·rcases (hf b hb).2.2.2.1 with z | z
  ·exact I.ok.noex b o e z
  ·exact absurd (uV (uH e) (xD I.ok.bsz z)) (uq _)
 ·rcases uU.mp (I.stkSub b hz) with z | z
  ·exact (hf b hb).2.1 z
  ·exact (hf b hb).2.2.1 z
 ·-- the names' values
  have e1' : (ts ++ rest)[i]? = some x := e1
  by_cases hi : i < ts.length
  ·rw [u4 (by simpa using hi), xm] at e2
   split at e2 <;> cases e2
  ·have hi' : ts.length <= i := by lia
   rw [u2 hi'] at e1'
   rw [u2 (by simpa using hi'), xE] at e2
   have e : (relabel scope X.env).names.lookup x = (scope.names.lookup x).map fun k => if (k == NameKind.free && X.env.scope.kind == .function && X.env.kindOf x == some .cell) then NameKind.cell else k := qG scope.names
   have e3' : (relabel scope X.env).names.lookup x = some .local \/ (relabel scope X.env).names.lookup x = some .cell \/ (relabel scope X.env).names.lookup x = some .free := e3
   rcases S.at_ _ x e1' with z | ⟨z, hN⟩ | ⟨k, z, k1, k2, k3⟩
   ·rw [e, z] at e3'; rcases e3' with q | q | q <;> cases q
   ·obtain ⟨m, hm, hl⟩ := I.loc
    have hkd := S.free _ (PySem.mem_of_lookup z) rfl
    have hvis : Vis X.env.scope x := by
     rcases hkd with q | q
     ·exact .inr (.inl q)
     ·exact .inr (.inr q)
    obtain ⟨u, r, l⟩ := hl _ x v hN e2 hvis
    refine ⟨u, r, .inr ⟨?_, ?_⟩⟩
    ·rcases e3' with q | q | q
     ·rw [e, z] at q
      simp only [xu] at q
      split at q <;> cases q
     ·exact .inl q
     ·exact .inr q
    ·rcases l with ⟨hk2, _⟩ | ⟨_, c, hc, hcell⟩
     ·have hk2' : X.env.kindOf x = some .local := hk2
      rcases hkd with q | q <;> (have q' : X.env.kindOf x = _ := q; rw [hk2'] at q'; cases q')
     ·refine ⟨c, ?_, hcell.keeps hk⟩
      have hh : ((jx scope s.heap.objs.size X.env).cells.lookup x).isSome = true := by
       show ((cellsFrom (s.heap.objs.size + 1) scope.names (qo X.env.cells scope.names [])).lookup x).isSome = true
       rw [Zp, yG]
       have q := WK (cells := X.env.cells) (x := x) scope.names [] (.inl (PySem.mem_of_lookup z))
       cases (cellsFrom (s.heap.objs.size + 1) scope.names []).lookup x with
       | none => simpa using q
       | some c => simp
      obtain ⟨d, hd⟩ := yE.mp hh
      rcases Waf S hd with ⟨_, z1⟩ | ⟨_, z2⟩
      ·rw [z] at z1; cases z1
      ·rw [hc] at z2
       rw [z2] at hd
       exact hd
   ·exfalso
    rw [e, z] at e3'
    simp only [xu] at e3'
    have : (k == NameKind.free) = false := by simpa using k3
    simp only [this, Bool.false_and, uM, if_false] at e3'
    rcases e3' with q | q | q <;> cases q
    ·exact k1 rfl
    ·exact k2 rfl
    ·exact k3 rfl
 ·rcases cases_ x c e with ⟨_, z, _⟩ | z
  ·exact ⟨_, z⟩
  ·obtain ⟨v, q⟩ := I.cell x c z
   exact ⟨v, q.keeps hk⟩
 ·rcases cases_ x c e with ⟨_, _, l⟩ | z
  ·exact I.hok.fresh (by lia)
  ·exact I.freeC x c z
 ·obtain ⟨e, n, ne, nf, d⟩ := I.pin p hp
  refine ⟨hk _ _ e, n, uZ (below e), fun hz => ?_, d⟩
  rcases uU.mp (I.stkSub p.1 hz) with z | z
  ·exact ne z
  ·exact nf z
 ·show _ = (ts ++ rest).length
  rw [uE, uE, xE, I.len, S.len]
theorem Z1 {fp : List Addr} {σ' : St} {H' : Hp} {s' : Shared} {h' : Heap} (I : Inv X pins σ H s) (hf : ∀ b ∈ fp, Xm X pins H b) (J : Inv (ke X scope ts rest fp s H) pins σ' H' s')
  (hb : xk s.heap.objs.size s'.heap h') : Inv X pins σ H' { s' with heap := h' } := by
 have fr : H' s.heap.objs.size = none := J.free
 have u : Un (frs X.stack) fp H H' s.heap s'.heap := J.base
 have ne : ∀ {b : Addr} {o : Obj}, s.heap.get? b = some o -> b ≠ s.heap.objs.size := fun e => uZ (uH e)
 refine I.call' (s' := { s' with heap := h' }) (ch := fp) J.os ⟨fun b o e n h1 h2 => (hb.2 b (ne e)).trans (u.keep b o e n h1 h2), fun b o e n h1 h2 => ?_, u.free, fun b o e h2 => ?_, u.tups, u.frzs, u.tbls⟩ (fun b o e => ?_) J.bare fun b hb' => ?_
 ·obtain ⟨sl, q⟩ := u.slot b o e n h1 h2
  exact ⟨sl, (hb.2 b (ne e)).trans q⟩
 ·obtain ⟨o', q⟩ := u.there b o e h2
  exact ⟨o', (hb.2 b (ne e)).trans q⟩
 ·refine (J.hok b o e).stay (fun c v hc q => (hb.2 c ?_).trans q) (fun _ q => q) fun _ _ q => q
  rintro rfl
  rcases hc with rfl | hc
  ·rw [fr] at e; cases e
  ·rw [fr] at hc; cases hc
 ·obtain ⟨_, f1, f2, f3, f4, f5⟩ := hf b hb'
  exact ⟨f3, f1, f4, f5⟩
end
def waw (n : Nat) (wi : TI) (g : TG) (tc : TT) (te : TE) : TE := fun σ H Q => wi σ H fun J H1 => ∀ D, H1 D = none -> ∃ W : Nat -> Nat -> List V -> St -> Hp -> Prop,
 (∃ m, W 0 m [] (uK n none ++ σ) (upd H1 D (.lst []))) /\ ∀ i m ys σ' H', W i m ys σ' H' →
  (J.stop i H' /\ H' D = some (.lst ys) /\ Q (.ref D) H') \/
  (J.go i H' /\ ∀ x H2, J.yld i H' x H2 -> g x σ' H2 fun σ3 H3 => tc σ3 H3 fun b H4 => if b = true then
   te σ3 H4 fun y H5 => H5 D = some (.lst ys) /\ ys.length < sizeLine /\ ∃ m', m' < m /\ W (i + 1) m' (ys ++ [y]) σ3 (upd H5 D (.lst (ys ++ [y])))
   else ∃ m', m' < m /\ W (i + 1) m' ys σ3 H4)
section
variable {X : Cx} {scope : Scope} {ts rest : List Str} {pins : ZPO} {σ : St} {elt tg iter : Expr} {ifs : List Expr} {pos : Pos} {wi : TI} {g : TG} {tc : TT} {te : TE}
theorem kae (hc : X.calm = true) (S : wm X scope ts rest)
  (hg : ∀ fp s H, PG (ke X scope ts rest fp s H) tg g) (ht : ∀ fp s H, PIfs (ke X scope ts rest fp s H) ifs tc) (he : ∀ fp s H, PE (ke X scope ts rest fp s H) elt te)
  {H1 : Hp} {s₂ : Shared} {it : Addr} {fp : List Addr} {tn : Nat -> Heap -> Prop} {J : It} (I2 : Inv X pins σ H1 s₂) (T : Z9 X.prog X.w X.K tg J fp it tn) (st2 : tn 0 s₂.heap) (f2 : ∀ b ∈ fp, Xm X pins H1 b) {Q : VK}
  (hw : ∀ D, H1 D = none -> ∃ W : Nat -> Nat -> List V -> St -> Hp -> Prop,
   (∃ m, W 0 m [] (uK ts.length none ++ σ) (upd H1 D (.lst []))) /\ ∀ i m ys σ' H', W i m ys σ' H' →
    (J.stop i H' /\ H' D = some (.lst ys) /\ Q (.ref D) H') \/
    (J.go i H' /\ ∀ x H2, J.yld i H' x H2 -> g x σ' H2 fun σ3 H3 => tc σ3 H3 fun b H4 => if b = true then
     te σ3 H4 fun y H5 => H5 D = some (.lst ys) /\ ys.length < sizeLine /\ ∃ m', m' < m /\ W (i + 1) m' (ys ++ [y]) σ3 (upd H5 D (.lst (ys ++ [y])))
     else ∃ m', m' < m /\ W (i + 1) m' ys σ3 H4))
  {RR : Value -> Addr -> Result -> Shared -> Prop} {E : ZVP}
  (hRR : ∀ D s3 H3 σ' H' s', Inv X pins σ H3 s3 -> (∀ b ∈ fp, Xm X pins H3 b) -> Inv (ke X scope ts rest fp s3 H3) pins σ' H' s' -> Q (.ref D) H' -> RR (.ref D) s3.heap.objs.size (.ok .next) s') :
  wpAny (model X.prog X.w) X.A (newList []) (fun acc s₃ => wpAny (model X.prog X.w) X.A (newFunctionEnv scope X.env.globals (qo X.env.cells scope.names []) [] X.env.qual none .none (some X.env)) (fun cenv s₄ =>
   codeAny (model X.prog X.w) X.A (.compStart (.ListComp elt [⟨tg, iter, ifs, 0⟩] scope pos) 0 (.ref it) acc { cenv with scope := relabel scope X.env }) (RR acc cenv.locals) s₄) E s₃) E s₂ := by
 obtain ⟨W, ⟨m0, w0⟩, turn⟩ := hw s₂.heap.objs.size (I2.hok.fresh (uI _))
 refine wpAny_newObj_type ?_
 generalize e3 : ({ s₂ with heap := s₂.heap.push { cls := .type "list", dict := none, data := .seq ([] : List Value).toArray } } : Shared) = s₃
 have hfl : ∀ b ∈ fp, b < s₂.heap.objs.size := fun b hb => by
  obtain ⟨o, e, _⟩ := T.obj _ _ st2 b hb
  exact uH e
 have I3 : Inv X pins σ (upd H1 s₂.heap.objs.size (.lst [])) s₃ := by
  subst e3
  exact I2.laid (t' := s₂.toks) (fun b u e => uD _ e) (uI _) ⟨ue _, [], 0, .nil, uP _ rfl⟩
 have hs3 : s₃.heap.objs.size = s₂.heap.objs.size + 1 := by subst e3; exact u3 ..
 have f3 : ∀ b ∈ fp, Xm X pins (upd H1 s₂.heap.objs.size (.lst [])) b := fun b hb => ⟨by rw [jc (uZ (hfl b hb))]; exact (f2 b hb).1, (f2 b hb).2⟩
 have st3 : tn 0 s₃.heap := by
  subst e3
  exact T.keep _ _ _ st2 fun b _ o e => uD _ e
 have hfl3 : ∀ b ∈ fp, b < s₃.heap.objs.size := fun b hb => by rw [hs3]; exact xJ (hfl b hb)
 refine W8 fun h' hk hn ck => ?_
 have I4 := Yad S I3 f3 hfl3 hk hn ck
 have st4 : tn 0 ({ s₃ with heap := h' } : Shared).heap := T.keep _ _ _ st3 fun b _ o e => hk b o e
 generalize eX : ke X scope ts rest fp s₃ (upd H1 s₂.heap.objs.size (.lst [])) = X' at I4
 have hP : X'.prog = X.prog := by subst eX; rfl
 have hw' : X'.w = X.w := by subst eX; rfl
 have hK' : X'.K = X.K := by subst eX; rfl
 have hA : X'.A = X.A := by subst eX; rfl
 have hcalm : X'.calm = true := by subst eX; exact hc
 have hxe : X'.xe = noE := by subst eX; rfl
 have henv : X'.env = jx scope s₃.heap.objs.size X.env := by subst eX; rfl
 have hg' : PG X' tg g := by subst eX; exact hg _ _ _
 have ht' : PIfs X' ifs tc := by subst eX; exact ht _ _ _
 have he' : PE X' elt te := by subst eX; exact he _ _ _
 have f4 : ∀ b ∈ fp, Xm X' pins (upd H1 s₂.heap.objs.size (.lst [])) b := fun b hb => by
  obtain ⟨z0, z1, z2, z3, z4, z5⟩ := f3 b hb
  have ok4 := I4.ok
  refine ⟨z0, ?_, ?_, .inl ?_, ?_, ?_⟩
  ·rw [henv]; exact uZ (hfl3 b hb)
  ·have := ok4.exfs b (by subst eX; exact hb)
   exact this
  ·subst eX; exact hb
  ·exact (ok4.exf b (by subst eX; exact hb)).2
  ·subst eX; exact z5
 have stat : ∀ {H' : Hp}, (∀ b ∈ fp, H' b = none) -> ∀ b ∈ fp, Xm X' pins H' b := fun hn b hb => ⟨hn b hb, (f4 b hb).2⟩
 have loop : ∀ s4 : Shared, s4 = { s₃ with heap := h' } -> codeAny (model X.prog X.w) X.A (.compLoop (.ListComp elt [⟨tg, iter, ifs, 0⟩] scope pos) 0 (.ref it) (.ref s₂.heap.objs.size) (jx scope s₃.heap.objs.size X.env))
   (RR (.ref s₂.heap.objs.size) s₃.heap.objs.size) s4 := by
  rintro s4 rfl
  refine vaE (fun n s' => ∃ i ys σ' H', Inv X' pins σ' H' s' /\ tn i s'.heap /\ (∀ b ∈ fp, H' b = none) /\ W i n ys σ' H') ?_ m0 ⟨0, [], _, _, I4, st4, fun b hb => (f4 b hb).1, w0⟩
  rintro n s5 ⟨i, ys, σ5, H5, I5, st5, fr5, w5⟩
  rw [← hP, ← hw', ← hA, ← henv, ← hxe]
  rcases turn i n ys σ5 H5 w5 with ⟨stop, eD, q⟩ | ⟨go, step⟩
  ·have z := T.done X' hP hw' hK' hcalm i pins s5 σ5 H5 X'.xe I5 (stat fr5) st5 stop
   rw [← hP, ← hw'] at z
   refine thn z fun r s6 hz => ?_
   obtain ⟨hr, I6⟩ := hz
   subst hr
   subst eX
   exact hRR _ s₃ _ σ5 H5 s6 I3 f3 I6 q
  ·have z := T.item X' hP hw' hK' hcalm i pins s5 σ5 H5 X'.xe I5 (stat fr5) st5 go
   rw [← hP, ← hw'] at z
   refine thn z fun r s6 hz => ?_
   obtain ⟨u, hr, h6⟩ := hz
   subst hr
   dsimp only
   refine thn h6 fun _ s7 w1_ => w1_.elim fun x z_ => z_.elim fun H7 z_ => z_.elim fun I7 z_ => z_.elim fun r7 z_ => z_.elim fun y7 z_ => z_.elim fun st7 fr7 => ?_
   have I7' := I7.pinned (stat fr7) (T.obj _ _ st7)
   refine thn (hg' _ s7 σ5 H7 x u _ I7' r7 (step x H7 y7)) fun _ s8 w1_ => w1_.elim fun σ8 z_ => z_.elim fun H8 z_ => z_.elim fun I8 q8 => ?_
   -- what stays of the iterator
   have back : ∀ {s9 : Shared} {σ9 : St} {H9 : Hp}, Inv X' (pins ++ YS fp s7.heap) σ9 H9 s9 -> Inv X' pins σ9 H9 s9 /\ tn (i + 1) s9.heap /\ ∀ b ∈ fp, H9 b = none := fun {s9 σ9 H9} I9 => by
    refine ⟨I9.unpinned, T.keep _ _ _ st7 fun b hb o e => (I9.pin (b, o) (uL _ (uL _ (Wy hb e)))).1, fun b hb => ?_⟩
    obtain ⟨o, e, d⟩ := T.obj _ _ st7 b hb
    exact (I9.pin (b, o) (uL _ (uL _ (Wy hb e)))).2.1
   refine thn (ht' _ s8 σ8 H8 _ I8 q8) fun ok s9 w1_ => w1_.elim fun H9 z_ => z_.elim fun I9 q9 => ?_
   cases ok with
   | false =>
    simp only [uM, if_false] at q9 ⊢
    obtain ⟨m', hm, w9⟩ := q9
    obtain ⟨a1, a2, a3⟩ := back I9
    exact ⟨m', hm, i + 1, ys, σ8, H9, a1, a2, a3, w9⟩
   | true =>
    simp only [if_true] at q9 ⊢
    refine thn (he' _ s9 σ8 H9 _ I9 q9) fun v s10 w1_ => w1_.elim fun y z_ => z_.elim fun H10 z_ => z_.elim fun I10 z_ => z_.elim fun r10 z_ => z_.elim fun eD z_ => z_.elim fun hl z_ => z_.elim fun m' z_ => z_.elim fun hm w10 => ?_
    refine thn (qao (X := X') _ s10 σ8 H10 (.ref s₂.heap.objs.size) [y] (.ref s₂.heap.objs.size) [v] (fun _ H11 => W (i + 1) m' (ys ++ [y]) σ8 H11) I10 rfl (.cons r10 .nil) ⟨_, ys, y, rfl, rfl, eD, hl, w10⟩) fun _ s11 w1_ => w1_.elim fun _ z_ => z_.elim fun H11 z_ => z_.elim fun I11 z_ => z_.elim fun _ w11 => ?_
    obtain ⟨a1, a2, a3⟩ := back I11
    exact ⟨m', hm, i + 1, _, σ8, H11, a1, a2, a3, w11⟩
 exact codeAny_compStart_list (loop _ rfl) (T.self X.A 0 _ _ _ st4 (loop _ rfl))
theorem XaL (hc : X.calm = true) (S : wm X scope ts rest) (hi : PI X tg iter wi)
  (hg : ∀ fp s H, PG (ke X scope ts rest fp s H) tg g) (ht : ∀ fp s H, PIfs (ke X scope ts rest fp s H) ifs tc) (he : ∀ fp s H, PE (ke X scope ts rest fp s H) elt te)
  (hs : ∀ x, foldedSetIterable iter X.env x = pure x := by intro _; rfl) : PE X (.ListComp elt [⟨tg, iter, ifs, 0⟩] scope pos) (waw ts.length wi g tc te) := by
 intro pins s σ H Q I h
 rw [eval_ListComp]
 refine wpAny_comprehension_free (use := none) rfl hs (jJ fun y hy hk => I.ok.has _ (S.free y hy hk)) S.kind S.own (thn (hi pins s σ H _ I h) fun x s₁ h1 => thn h1 fun itv s₂ h2 => ?_)
 obtain ⟨it, fp, tn, J, H2, e, I2, T, st2, f2, hw⟩ := h2
 subst e
 refine kae hc S hg ht he I2 T st2 f2 hw (RR := fun acc C => compPost (model X.prog X.w) X.A X.xe none (EP X pins σ Q) acc C) fun D s3 H3 σ' H' s' I3 f3 J' q => ?_
 obtain ⟨m, hn, _⟩ := J'.loc
 exact ⟨m, hn, fun h' hb => ⟨.ref D, H', Z1 I3 f3 J' hb, rfl, q⟩⟩
theorem W7 {i : Nat} {x : Str} {pos' spos : Pos} (hc : X.calm = true) (S : wm X scope ts rest) (hi : PI X tg iter wi)
  (hg : ∀ fp s H, PG (ke X scope ts rest fp s H) tg g) (ht : ∀ fp s H, PIfs (ke X scope ts rest fp s H) ifs tc) (he : ∀ fp s H, PE (ke X scope ts rest fp s H) elt te)
  (hN : X.N.Nodup) (hx : X.N[i]? = some x) (hl : Loc X.env.scope x)
  (hsw : swapsWith (.ListComp elt [⟨tg, iter, ifs, 0⟩] scope pos) (some (.Name x pos')) spos.line X.env = pure true)
  (hs : ∀ x, foldedSetIterable iter X.env x = pure x := by intro _; rfl) (hf : X.fn x = true \/ X.env.scope.names.lookup x = some .local := by first | exact .inl rfl | exact .inr rfl | assumption) :
  PS X (.Assign [.Name x pos'] (.ListComp elt [⟨tg, iter, ifs, 0⟩] scope pos) spos) (XaO (waw ts.length wi g tc te) (j3 i)) := by
 intro pins s σ H D I h
 rw [exec_Assign_Name_used _ _ _ _ hsw]
 refine wpAny_bind (wpAny_standAt (wpAny_bind ?_))
 show wpAny _ X.A (do let _ ← comprehension (.ListComp elt [⟨tg, iter, ifs, 0⟩] scope pos) scope X.env _ (newList []) false (eval iter X.env) (some (assign (.Name x pos') X.env))) _ _ s
 refine wpAny_bind (wpAny_mono (wpAny_comprehension_free (use := some (assign (.Name x pos') X.env)) (Q := fun _ s' => SP X pins D .next s') rfl hs (jJ fun y hy hk => I.ok.has _ (S.free y hy hk)) S.kind S.own
  (thn (hi pins s σ H _ I h) fun xv s₁ h1 => thn h1 fun itv s₂ h2 => ?_)) (fun _ s' hq => wpAny_pure (wpAny_pure hq)) fun _ _ e => e)
 obtain ⟨it, fp, tn, J, H2, e, I2, T, st2, f2, hw⟩ := h2
 subst e
 refine kae hc S hg ht he I2 T st2 f2 (Q := fun v H1 => j3 i v σ H1 D.nx) hw (RR := fun acc C => compPost (model X.prog X.w) X.A X.xe (some (assign (.Name x pos') X.env)) (fun _ s' => SP X pins D .next s') acc C) fun D' s3 H3 σ' H' s' I3 f3 J' q => ?_
 obtain ⟨m, hn, _⟩ := J'.loc
 have IX : Inv X pins σ H' s' := by
  have := Z1 I3 f3 J' (Heap.SameBut.refl _ _)
  exact this
 obtain ⟨o, es, ep, ho, hd, hr⟩ := id hn
 have ho' : s'.heap.get? s3.heap.objs.size = some o := ho
 have hfr : H' s3.heap.objs.size = none := J'.free
 have hne : s3.heap.objs.size ≠ X.env.locals := xM I3.lt
 have hnf : s3.heap.objs.size ∉ X.fs := I3.nofs (uI _)
 have hcl : ∀ v, o.data ≠ .cell v := fun v z => by rw [hd] at z; cases z
 have IP : Inv X (pins ++ [(s3.heap.objs.size, o)]) σ H' s' := IX.pins_of fun p hp => (uj.mp hp).elim (fun z => IX.pin p (uL _ z)) fun z => by
  have e : p = (s3.heap.objs.size, o) := by simpa using z
  subst e
  exact ⟨ho', hfr, hne, hnf, hcl⟩
 show wpAny _ X.A (assign (.Name x pos') X.env (.ref D')) _ _ _
 refine wpAny_assign_Name (wT IP hN hx hl (v := .ref D') (u := .ref D') rfl (fun s4 I4 => ?_) hf)
 have hp4 := (I4.pin (s3.heap.objs.size, o) (uL _ (uL _ ug))).1
 refine ⟨m, ⟨o, es, ep, hp4, hd, hr⟩, fun h' hb => ⟨_, H', ?_, q⟩⟩
 refine Inv.turned (it := s3.heap.objs.size) (t' := s4.toks) I4.unpinned (fun b o' hbne e => (hb.2 b hbne).trans e) hfr hne (.inr I3.sz) (fun y c e z => ?_) (fun p hp z => ?_)
 ·obtain ⟨v, o2, h2, _⟩ := I3.cell y c e
  exact absurd (uH h2) (by rw [z]; exact uq _)
 ·obtain ⟨e, _⟩ := I3.pin p hp
  exact absurd (uH e) (by rw [z]; exact uq _)
end
section
variable {prog : Program} {w : World} {A : Around} {R : Result -> Shared -> Prop} {s : Shared}
theorem Xar {kex elt target iter : Expr} {ifs : List Expr} {scope : Scope} {pos : Pos} {it : Value} {D : Addr} {env : Env} (I : Nat -> Shared -> Prop)
  (turn : ∀ n s, I n s -> wpAny (model prog w) A (pyNext it) (fun r s₁ => match r with
   | none => R (.ok .next) s₁
   | some v => wpAny (model prog w) A (letOwnedTupleGo target it v) (fun _ s₁' => wpAny (model prog w) A (assign target env v) (fun _ s₂ =>
     wpAny (model prog w) A (forIn ifs true fun c r => if r = true then do let ok ← isTrue c env (eval c env); pure (ForInStep.yield ok) else pure (ForInStep.yield r)) (fun ok s₃ =>
      if ok = true then wpAny (model prog w) A (eval kex env) (fun kv s₄ => wpAny (model prog w) A (eval elt env) (fun vv s₅ =>
       wpAny (model prog w) A (dictSet D kv vv) (fun _ s₆ => ∃ m, m < n /\ I m s₆) noE s₅) noE s₄) noE s₃
      else ∃ m, m < n /\ I m s₃) noE s₂) noE s₁') noE s₁) noE s)
  (n : Nat) (h : I n s) :
  codeAny (model prog w) A (.compLoop (.DictComp kex elt [⟨target, iter, ifs, 0⟩] scope pos) 0 it (.ref D) env) R s := by
 refine codeAny_loop rfl I (fun n s hI => ?_) n h
 show wpAny _ A ((compTurn (.DictComp kex elt [⟨target, iter, ifs, 0⟩] scope pos) 0 it (.ref D) env).onRaise (fun x => do noteFrame x env; theTreesLotGoes x)) _ _ s
 refine wpAny_noted ?_
 rw [compTurn_dict]
 refine wpAny_bind (wpAny_standAt (wpAny_bind (wpAny_mono (turn n s hI) (fun r s₁ h₁ => ?_) fun _ _ h' => h'.elim)))
 cases r with
 | none => exact wpAny_pure h₁
 | some v =>
  refine wpAny_bind (wpAny_mono h₁ (fun _ s₁' h₁' => ?_) fun _ _ h' => h'.elim)
  refine wpAny_bind (wpAny_mono h₁' (fun _ s₂ h₂ => wpAny_bind (wpAny_mono h₂ (fun ok s₃ h₃ => ?_) fun _ _ h' => h'.elim)) fun _ _ h' => h'.elim)
  cases ok with
  | false => exact wpAny_pure ⟨rfl, h₃⟩
  | true =>
   exact wpAny_bind (wpAny_bind (wpAny_mono h₃ (fun kv s₄ h₄ => wpAny_bind (wpAny_holding (wpAny_mono h₄ (fun vv s₅ h₅ => wpAny_bind (wpAny_standAt (wpAny_holding (wpAny_mono h₅ (fun _ s₆ h₆ => wpAny_pure ⟨rfl, h₆⟩) fun _ _ h' => h'.elim)))) fun _ _ h' => h'.elim))) fun _ _ h' => h'.elim))
end
def vaI (n : Nat) (wi : TI) (g : TG) (tc : TT) (tk te : TE) : TE := fun σ H Q => wi σ H fun J H1 => ∀ D, H1 D = none -> ∃ W : Nat -> Nat -> List (Key × V) -> St -> Hp -> Prop,
 (∃ m, W 0 m [] (uK n none ++ σ) (upd H1 D (.dK []))) /\ ∀ i m ys σ' H', W i m ys σ' H' →
  (J.stop i H' /\ H' D = some (.dK ys) /\ Q (.ref D) H') \/
  (J.go i H' /\ ∀ x H2, J.yld i H' x H2 -> g x σ' H2 fun σ3 H3 => tc σ3 H3 fun b H4 => if b = true then
   tk σ3 H4 fun kx H4' => te σ3 H4' fun y H5 => ∃ k, kx = kV k /\ H5 D = some (.dK ys) /\ ys.length < sizeLine /\ ∃ m', m' < m /\ W (i + 1) m' (wL ys k y) σ3 (upd H5 D (.dK (wL ys k y)))
   else ∃ m', m' < m /\ W (i + 1) m' ys σ3 H4)
section
variable {X : Cx} {scope : Scope} {ts rest : List Str} {pins : ZPO} {σ : St} {kex elt tg iter : Expr} {ifs : List Expr} {pos : Pos} {wi : TI} {g : TG} {tc : TT} {tk te : TE}
theorem waA (hc : X.calm = true) (S : wm X scope ts rest)
  (hg : ∀ fp s H, PG (ke X scope ts rest fp s H) tg g) (ht : ∀ fp s H, PIfs (ke X scope ts rest fp s H) ifs tc) (hk0 : ∀ fp s H, PE (ke X scope ts rest fp s H) kex tk) (he : ∀ fp s H, PE (ke X scope ts rest fp s H) elt te)
  {H1 : Hp} {s₂ : Shared} {it : Addr} {fp : List Addr} {tn : Nat -> Heap -> Prop} {J : It} (I2 : Inv X pins σ H1 s₂) (T : Z9 X.prog X.w X.K tg J fp it tn) (st2 : tn 0 s₂.heap) (f2 : ∀ b ∈ fp, Xm X pins H1 b) {Q : VK}
  (hw : ∀ D, H1 D = none -> ∃ W : Nat -> Nat -> List (Key × V) -> St -> Hp -> Prop,
   (∃ m, W 0 m [] (uK ts.length none ++ σ) (upd H1 D (.dK []))) /\ ∀ i m ys σ' H', W i m ys σ' H' →
    (J.stop i H' /\ H' D = some (.dK ys) /\ Q (.ref D) H') \/
    (J.go i H' /\ ∀ x H2, J.yld i H' x H2 -> g x σ' H2 fun σ3 H3 => tc σ3 H3 fun b H4 => if b = true then
     tk σ3 H4 fun kx H4' => te σ3 H4' fun y H5 => ∃ k, kx = kV k /\ H5 D = some (.dK ys) /\ ys.length < sizeLine /\ ∃ m', m' < m /\ W (i + 1) m' (wL ys k y) σ3 (upd H5 D (.dK (wL ys k y)))
     else ∃ m', m' < m /\ W (i + 1) m' ys σ3 H4))
  {RR : Value -> Addr -> Result -> Shared -> Prop} {E : ZVP}
  (hRR : ∀ D s3 H3 σ' H' s', Inv X pins σ H3 s3 -> (∀ b ∈ fp, Xm X pins H3 b) -> Inv (ke X scope ts rest fp s3 H3) pins σ' H' s' -> Q (.ref D) H' -> RR (.ref D) s3.heap.objs.size (.ok .next) s') :
  wpAny (model X.prog X.w) X.A newDict (fun acc s₃ => wpAny (model X.prog X.w) X.A (newFunctionEnv scope X.env.globals (qo X.env.cells scope.names []) [] X.env.qual none .none (some X.env)) (fun cenv s₄ =>
   codeAny (model X.prog X.w) X.A (.compStart (.DictComp kex elt [⟨tg, iter, ifs, 0⟩] scope pos) 0 (.ref it) acc { cenv with scope := relabel scope X.env }) (RR acc cenv.locals) s₄) E s₃) E s₂ := by
 obtain ⟨W, ⟨m0, w0⟩, turn⟩ := hw s₂.heap.objs.size (I2.hok.fresh (uI _))
 refine wpAny_newObj_type ?_
 generalize e3 : ({ s₂ with heap := s₂.heap.push { cls := .type "dict", dict := none, data := .dict #[] } } : Shared) = s₃
 have hfl : ∀ b ∈ fp, b < s₂.heap.objs.size := fun b hb => by
  obtain ⟨o, e, _⟩ := T.obj _ _ st2 b hb
  exact uH e
 have I3 : Inv X pins σ (upd H1 s₂.heap.objs.size (.dK [])) s₃ := by
  subst e3
  exact I2.laid (t' := s₂.toks) (fun b u e => uD _ e) (uI _) (ka3 s₂.heap I2.big)
 have hs3 : s₃.heap.objs.size = s₂.heap.objs.size + 1 := by subst e3; exact u3 ..
 have f3 : ∀ b ∈ fp, Xm X pins (upd H1 s₂.heap.objs.size (.dK [])) b := fun b hb => ⟨by rw [jc (uZ (hfl b hb))]; exact (f2 b hb).1, (f2 b hb).2⟩
 have st3 : tn 0 s₃.heap := by
  subst e3
  exact T.keep _ _ _ st2 fun b _ o e => uD _ e
 have hfl3 : ∀ b ∈ fp, b < s₃.heap.objs.size := fun b hb => by rw [hs3]; exact xJ (hfl b hb)
 refine W8 fun h' hk hn ck => ?_
 have I4 := Yad S I3 f3 hfl3 hk hn ck
 have st4 : tn 0 ({ s₃ with heap := h' } : Shared).heap := T.keep _ _ _ st3 fun b _ o e => hk b o e
 generalize eX : ke X scope ts rest fp s₃ (upd H1 s₂.heap.objs.size (.dK [])) = X' at I4
 have hP : X'.prog = X.prog := by subst eX; rfl
 have hw' : X'.w = X.w := by subst eX; rfl
 have hK' : X'.K = X.K := by subst eX; rfl
 have hA : X'.A = X.A := by subst eX; rfl
 have hcalm : X'.calm = true := by subst eX; exact hc
 have hxe : X'.xe = noE := by subst eX; rfl
 have henv : X'.env = jx scope s₃.heap.objs.size X.env := by subst eX; rfl
 have hg' : PG X' tg g := by subst eX; exact hg _ _ _
 have ht' : PIfs X' ifs tc := by subst eX; exact ht _ _ _
 have he' : PE X' elt te := by subst eX; exact he _ _ _
 have hk' : PE X' kex tk := by subst eX; exact hk0 _ _ _
 have f4 : ∀ b ∈ fp, Xm X' pins (upd H1 s₂.heap.objs.size (.dK [])) b := fun b hb => by
  obtain ⟨z0, z1, z2, z3, z4, z5⟩ := f3 b hb
  have ok4 := I4.ok
  refine ⟨z0, ?_, ?_, .inl ?_, ?_, ?_⟩
  ·rw [henv]; exact uZ (hfl3 b hb)
  ·have := ok4.exfs b (by subst eX; exact hb)
   exact this
  ·subst eX; exact hb
  ·exact (ok4.exf b (by subst eX; exact hb)).2
  ·subst eX; exact z5
 have stat : ∀ {H' : Hp}, (∀ b ∈ fp, H' b = none) -> ∀ b ∈ fp, Xm X' pins H' b := fun hn b hb => ⟨hn b hb, (f4 b hb).2⟩
 have loop : ∀ s4 : Shared, s4 = { s₃ with heap := h' } -> codeAny (model X.prog X.w) X.A (.compLoop (.DictComp kex elt [⟨tg, iter, ifs, 0⟩] scope pos) 0 (.ref it) (.ref s₂.heap.objs.size) (jx scope s₃.heap.objs.size X.env))
   (RR (.ref s₂.heap.objs.size) s₃.heap.objs.size) s4 := by
  rintro s4 rfl
  refine Xar (fun n s' => ∃ i ys σ' H', Inv X' pins σ' H' s' /\ tn i s'.heap /\ (∀ b ∈ fp, H' b = none) /\ W i n ys σ' H') ?_ m0 ⟨0, [], _, _, I4, st4, fun b hb => (f4 b hb).1, w0⟩
  rintro n s5 ⟨i, ys, σ5, H5, I5, st5, fr5, w5⟩
  rw [← hP, ← hw', ← hA, ← henv, ← hxe]
  rcases turn i n ys σ5 H5 w5 with ⟨stop, eD, q⟩ | ⟨go, step⟩
  ·have z := T.done X' hP hw' hK' hcalm i pins s5 σ5 H5 X'.xe I5 (stat fr5) st5 stop
   rw [← hP, ← hw'] at z
   refine thn z fun r s6 hz => ?_
   obtain ⟨hr, I6⟩ := hz
   subst hr
   subst eX
   exact hRR _ s₃ _ σ5 H5 s6 I3 f3 I6 q
  ·have z := T.item X' hP hw' hK' hcalm i pins s5 σ5 H5 X'.xe I5 (stat fr5) st5 go
   rw [← hP, ← hw'] at z
   refine thn z fun r s6 hz => ?_
   obtain ⟨u, hr, h6⟩ := hz
   subst hr
   dsimp only
   refine thn h6 fun _ s7 ⟨x, H7, I7, r7, y7, st7, fr7⟩ => ?_
   have I7' := I7.pinned (stat fr7) (T.obj _ _ st7)
   refine thn (hg' _ s7 σ5 H7 x u _ I7' r7 (step x H7 y7)) fun _ s8 ⟨σ8, H8, I8, q8⟩ => ?_
   -- what stays of the iterator
   have back : ∀ {s9 : Shared} {σ9 : St} {H9 : Hp}, Inv X' (pins ++ YS fp s7.heap) σ9 H9 s9 -> Inv X' pins σ9 H9 s9 /\ tn (i + 1) s9.heap /\ ∀ b ∈ fp, H9 b = none := fun {s9 σ9 H9} I9 => by
    refine ⟨I9.unpinned, T.keep _ _ _ st7 fun b hb o e => (I9.pin (b, o) (uL _ (uL _ (Wy hb e)))).1, fun b hb => ?_⟩
    obtain ⟨o, e, d⟩ := T.obj _ _ st7 b hb
    exact (I9.pin (b, o) (uL _ (uL _ (Wy hb e)))).2.1
   refine thn (ht' _ s8 σ8 H8 _ I8 q8) fun ok s9 ⟨H9, I9, q9⟩ => ?_
   cases ok with
   | false =>
    simp only [uM, if_false] at q9 ⊢
    obtain ⟨m', hm, w9⟩ := q9
    obtain ⟨a1, a2, a3⟩ := back I9
    exact ⟨m', hm, i + 1, ys, σ8, H9, a1, a2, a3, w9⟩
   | true =>
    simp only [if_true] at q9 ⊢
    refine thn (hk' _ s9 σ8 H9 _ I9 q9) fun u9 s9' ⟨kx, H9', I9', r9, q9'⟩ => ?_
    refine thn (he' _ s9' σ8 H9' _ I9' q9') fun v s10 ⟨y, H10, I10, r10, k, ek, eD, hl, m', hm, w10⟩ => ?_
    subst ek
    obtain ⟨z, hd, vs, rel, dd⟩ := wbu I10.hok eD
    have hz : vs.length <= sizeLine := by rw [← rel.length]; exact z
    have hl2 : (wL ys k y).length <= sizeLine := by have := Y8 ys k y; lia
    refine wpAny_dictSet_pairs (hsz := hz) (waf r9) dd fun h'' dd' hs' => ?_
    have hex : ∃ q, h''.get? s₂.heap.objs.size = some q := let ⟨q, _, _, hq, _⟩ := dd'; ⟨q, hq⟩
    have I11 := kba (t' := s10.toks + 1) I10 (by rw [eD]; exact True.intro) hs' hex (Xbk hl2 hd (rel.put k r10) dd')
    obtain ⟨a1, a2, a3⟩ := back I11
    exact ⟨m', hm, i + 1, _, σ8, _, a1, a2, a3, w10⟩
 exact codeAny_compStart_dict (loop _ rfl) (T.self X.A 0 _ _ _ st4 (loop _ rfl))
theorem Yau {i : Nat} {x : Str} {pos' spos : Pos} (hc : X.calm = true) (S : wm X scope ts rest) (hi : PI X tg iter wi)
  (hg : ∀ fp s H, PG (ke X scope ts rest fp s H) tg g) (ht : ∀ fp s H, PIfs (ke X scope ts rest fp s H) ifs tc) (hk0 : ∀ fp s H, PE (ke X scope ts rest fp s H) kex tk) (he : ∀ fp s H, PE (ke X scope ts rest fp s H) elt te)
  (hN : X.N.Nodup) (hx : X.N[i]? = some x) (hl : Loc X.env.scope x)
  (hsw : swapsWith (.DictComp kex elt [⟨tg, iter, ifs, 0⟩] scope pos) (some (.Name x pos')) spos.line X.env = pure true)
  (hs : ∀ x, foldedSetIterable iter X.env x = pure x := by intro _; rfl) (hf : X.fn x = true \/ X.env.scope.names.lookup x = some .local := by first | exact .inl rfl | exact .inr rfl | assumption) :
  PS X (.Assign [.Name x pos'] (.DictComp kex elt [⟨tg, iter, ifs, 0⟩] scope pos) spos) (XaO (vaI ts.length wi g tc tk te) (j3 i)) := by
 intro pins s σ H D I h
 rw [exec_Assign_Name_used _ _ _ _ hsw]
 refine wpAny_bind (wpAny_standAt (wpAny_bind ?_))
 show wpAny _ X.A (do let _ ← comprehension (.DictComp kex elt [⟨tg, iter, ifs, 0⟩] scope pos) scope X.env _ newDict false (eval iter X.env) (some (assign (.Name x pos') X.env))) _ _ s
 refine wpAny_bind (wpAny_mono (wpAny_comprehension_free (use := some (assign (.Name x pos') X.env)) (Q := fun _ s' => SP X pins D .next s') rfl hs (jJ fun y hy hk => I.ok.has _ (S.free y hy hk)) S.kind S.own
  (thn (hi pins s σ H _ I h) fun xv s₁ h1 => thn h1 fun itv s₂ h2 => ?_)) (fun _ s' hq => wpAny_pure (wpAny_pure hq)) fun _ _ e => e)
 obtain ⟨it, fp, tn, J, H2, e, I2, T, st2, f2, hw⟩ := h2
 subst e
 refine waA hc S hg ht hk0 he I2 T st2 f2 (Q := fun v H1 => j3 i v σ H1 D.nx) hw (RR := fun acc C => compPost (model X.prog X.w) X.A X.xe (some (assign (.Name x pos') X.env)) (fun _ s' => SP X pins D .next s') acc C) fun D' s3 H3 σ' H' s' I3 f3 J' q => ?_
 obtain ⟨m, hn, _⟩ := J'.loc
 have IX : Inv X pins σ H' s' := by
  have := Z1 I3 f3 J' (Heap.SameBut.refl _ _)
  exact this
 obtain ⟨o, es, ep, ho, hd, hr⟩ := id hn
 have ho' : s'.heap.get? s3.heap.objs.size = some o := ho
 have hfr : H' s3.heap.objs.size = none := J'.free
 have hne : s3.heap.objs.size ≠ X.env.locals := xM I3.lt
 have hnf : s3.heap.objs.size ∉ X.fs := I3.nofs (uI _)
 have hcl : ∀ v, o.data ≠ .cell v := fun v z => by rw [hd] at z; cases z
 have IP : Inv X (pins ++ [(s3.heap.objs.size, o)]) σ H' s' := IX.pins_of fun p hp => (uj.mp hp).elim (fun z => IX.pin p (uL _ z)) fun z => by
  have e : p = (s3.heap.objs.size, o) := by simpa using z
  subst e
  exact ⟨ho', hfr, hne, hnf, hcl⟩
 show wpAny _ X.A (assign (.Name x pos') X.env (.ref D')) _ _ _
 refine wpAny_assign_Name (wT IP hN hx hl (v := .ref D') (u := .ref D') rfl (fun s4 I4 => ?_) hf)
 have hp4 := (I4.pin (s3.heap.objs.size, o) (uL _ (uL _ ug))).1
 refine ⟨m, ⟨o, es, ep, hp4, hd, hr⟩, fun h' hb => ⟨_, H', ?_, q⟩⟩
 refine Inv.turned (it := s3.heap.objs.size) (t' := s4.toks) I4.unpinned (fun b o' hbne e => (hb.2 b hbne).trans e) hfr hne (.inr I3.sz) (fun y c e z => ?_) (fun p hp z => ?_)
 ·obtain ⟨v, o2, h2, _⟩ := I3.cell y c e
  exact absurd (uH h2) (by rw [z]; exact uq _)
 ·obtain ⟨e, _⟩ := I3.pin p hp
  exact absurd (uH e) (by rw [z]; exact uq _)
end
inductive D where
 | non | bl (b : Bool) | int (i : Int) | str (x : Str) | ref (a : Addr) | ty (n : String) | tup (ds : List D) | lst (ds : List D)
inductive OD where
 | lst (ds : List D) | dct (kvs : List (Key × D)) | tab (q : Str)
noncomputable abbrev HpD := Addr -> Option OD
noncomputable def jg (M : HpD) (a : Addr) (o : OD) : HpD := fun b => if b = a then some o else M b
noncomputable def Zr (M : HpD) (a : Addr) : HpD := fun b => if b = a then none else M b
theorem wc {M : HpD} {a : Addr} {o : OD} : jg M a o a = some o := by unfold jg; rw [if_pos rfl]
theorem ve {M : HpD} {a b : Addr} {o : OD} (h : b ≠ a) : jg M a o b = M b := by unfold jg; rw [if_neg h]
theorem XI {M : HpD} {a : Addr} : Zr M a a = none := by unfold Zr; rw [if_pos rfl]
theorem ZL {M : HpD} {a b : Addr} (h : b ≠ a) : Zr M a b = M b := by unfold Zr; rw [if_neg h]
theorem Y0 {M : HpD} {a : Addr} {o u : OD} : jg (jg M a o) a u = jg M a u := by
 funext b; unfold jg; split <;> rfl
theorem ZaT {M : HpD} {a : Addr} {o : OD} (h : M a = some o) : jg M a o = M := by
 funext b; unfold jg
 by_cases e : b = a
 ·rw [if_pos e, e, h]
 ·rw [if_neg e]
structure KF where
 K : uC
 F : Addr -> Prop
def FzL (K : KF) (H : Hp) (M : HpD) (a : Addr) (xs : List V) : Prop := (Rd H a (.lst xs) /\ M a = none /\ ¬ K.F a) \/ SqL K.K (fun _ => none) a xs
def FzT (K : KF) (H : Hp) (M : HpD) (a : Addr) (xs : List V) : Prop := (Rd H a (.tup xs) /\ M a = none /\ ¬ K.F a) \/ SqT K.K (fun _ => none) a xs
mutual
def RepD (K : KF) (H : Hp) (M : HpD) : D -> V -> Prop
 | .non, v => v = .non
 | .bl b, v => v = .bl b
 | .int i, v => v = .int i
 | .str x, v => v = .str x
 | .ref a, v => v = .ref a
 | .ty n, v => v = .ty n
 | .tup ds, v => ∃ a xs, v = .ref a /\ FzT K H M a xs /\ RepDs K H M ds xs
 | .lst ds, v => ∃ a xs, v = .ref a /\ FzL K H M a xs /\ RepDs K H M ds xs
def RepDs (K : KF) (H : Hp) (M : HpD) : List D -> List V -> Prop
 | [], xs => xs = []
 | d :: ds, xs => ∃ x r, xs = x :: r /\ RepD K H M d x /\ RepDs K H M ds r
end
def qbu (K : KF) (H : Hp) (M : HpD) (q : Str) (cv : Value) : Prop := ∃ c oc vs t, cv = .ref c /\ H c = some (.frz oc (.own c)) /\ M c = none /\ ¬ K.F c /\ oc.data = .fields vs /\ vs[1]? = some (.str q t)
def TabE (K : KF) (H : Hp) (M : HpD) (q : Str) (o : HO) : Prop := ∃ ps : Array Value, o = .tbl ps /\ TriplesOk ps.toList /\ ∀ pos cv, codeAmong pos ps.toList = some cv -> qbu K H M q cv
def RepO (K : KF) (H : Hp) (M : HpD) : OD -> HO -> Prop
 | .lst ds, o => ∃ xs, o = .lst xs /\ RepDs K H M ds xs
 | .dct kvs, o => ∃ vs : List (Key × V), o = .dK vs /\ vs.map (·.1) = kvs.map (·.1) /\ RepDs K H M (kvs.map (·.2)) (vs.map (·.2))
 | .tab q, o => TabE K H M q o
structure RepH (K : KF) (H : Hp) (M : HpD) : Prop where
 at_ : ∀ a o, M a = some o -> ∃ o', H a = some o' /\ RepO K H M o o'
 fb : ∀ a, K.F a -> (∃ o, H a = some o) /\ M a = none
def Fz (M : HpD) (H : Hp) (M' : HpD) (H' : Hp) : Prop := ∀ a o, H a = some o -> M a = none -> H' a = some o /\ M' a = none
section
variable {K : KF} {H H' H2 : Hp} {M M' M2 : HpD}
theorem Fz.refl : Fz M H M H := fun _ _ h m => ⟨h, m⟩
theorem Fz.trans (a : Fz M H M' H') (b : Fz M' H' M2 H2) : Fz M H M2 H2 := fun c o h m => b c o (a c o h m).1 (a c o h m).2
theorem Sq0 {a : Addr} {xs : List V} (h : SqL K.K (fun _ => none) a xs) (H : Hp) : SqL K.K H a xs := by
 rcases h with (h | ⟨o, h⟩) | h
 ·cases h
 ·cases h
 ·exact .inr h
theorem St0 {a : Addr} {xs : List V} (h : SqT K.K (fun _ => none) a xs) (H : Hp) : SqT K.K H a xs := by
 rcases h with (h | ⟨o, h⟩) | h
 ·cases h
 ·cases h
 ·exact .inr h
theorem FzL.sq {a : Addr} {xs : List V} (h : FzL K H M a xs) : SqL K.K H a xs := by
 rcases h with ⟨h, _⟩ | h
 ·exact .inl h
 ·exact Sq0 h H
theorem FzT.sq {a : Addr} {xs : List V} (h : FzT K H M a xs) : SqT K.K H a xs := by
 rcases h with ⟨h, _⟩ | h
 ·exact .inl h
 ·exact St0 h H
theorem Rd.fz {a : Addr} {u : HO} (h : Rd H a u) (m : M a = none) (f : Fz M H M' H') : Rd H' a u /\ M' a = none := by
 rcases h with h | ⟨o, h⟩
 ·exact ⟨.inl (f _ _ h m).1, (f _ _ h m).2⟩
 ·exact ⟨.inr ⟨o, (f _ _ h m).1⟩, (f _ _ h m).2⟩
theorem FzL.mono {a : Addr} {xs : List V} (h : FzL K H M a xs) (f : Fz M H M' H') : FzL K H' M' a xs := by
 rcases h with ⟨h, m, n⟩ | h
 ·exact .inl ⟨(h.fz m f).1, (h.fz m f).2, n⟩
 ·exact .inr h
theorem FzT.mono {a : Addr} {xs : List V} (h : FzT K H M a xs) (f : Fz M H M' H') : FzT K H' M' a xs := by
 rcases h with ⟨h, m, n⟩ | h
 ·exact .inl ⟨(h.fz m f).1, (h.fz m f).2, n⟩
 ·exact .inr h
mutual
theorem RepD.mono (f : Fz M H M' H') : ∀ {d : D} {v : V}, RepD K H M d v -> RepD K H' M' d v
 | .non, _, h => by unfold RepD at h ⊢; exact h
 | .bl _, _, h => by unfold RepD at h ⊢; exact h
 | .int _, _, h => by unfold RepD at h ⊢; exact h
 | .str _, _, h => by unfold RepD at h ⊢; exact h
 | .ref _, _, h => by unfold RepD at h ⊢; exact h
 | .ty _, _, h => by unfold RepD at h ⊢; exact h
 | .tup ds, _, h => by
  unfold RepD at h ⊢
  obtain ⟨a, xs, e, h1, h2⟩ := h
  exact ⟨a, xs, e, h1.mono f, RepDs.mono f h2⟩
 | .lst ds, _, h => by
  unfold RepD at h ⊢
  obtain ⟨a, xs, e, h1, h2⟩ := h
  exact ⟨a, xs, e, h1.mono f, RepDs.mono f h2⟩
theorem RepDs.mono (f : Fz M H M' H') : ∀ {ds : List D} {vs : List V}, RepDs K H M ds vs -> RepDs K H' M' ds vs
 | [], _, h => by unfold RepDs at h ⊢; exact h
 | d :: ds, _, h => by
  unfold RepDs at h ⊢
  obtain ⟨x, r, e, h1, h2⟩ := h
  exact ⟨x, r, e, RepD.mono f h1, RepDs.mono f h2⟩
end
theorem RepDs.length : ∀ {ds : List D} {vs : List V}, RepDs K H M ds vs -> ds.length = vs.length
 | [], _, h => by unfold RepDs at h; subst h; rfl
 | d :: ds, _, h => by
  unfold RepDs at h
  obtain ⟨x, r, e, _, h2⟩ := h
  rw [e, ub, ub, RepDs.length h2]
theorem RepDs.get : ∀ {ds : List D} {vs : List V} {i : Nat} {d : D}, RepDs K H M ds vs -> ds[i]? = some d -> ∃ v, vs[i]? = some v /\ RepD K H M d v
 | [], _, _, _, _, e => by simp at e
 | d :: ds, _, 0, d', h, e => by
  unfold RepDs at h
  obtain ⟨x, r, e1, h1, h2⟩ := h
  simp at e; subst e; subst e1
  exact ⟨x, rfl, h1⟩
 | d :: ds, _, i + 1, d', h, e => by
  unfold RepDs at h
  obtain ⟨x, r, e1, h1, h2⟩ := h
  subst e1
  obtain ⟨v, q1, q2⟩ := RepDs.get (i := i) h2 (by simpa using e)
  exact ⟨v, by simpa using q1, q2⟩
theorem RepDs.nil : RepDs K H M [] [] := by unfold RepDs; rfl
theorem RepDs.cons {d : D} {ds : List D} {v : V} {vs : List V} (h1 : RepD K H M d v) (h2 : RepDs K H M ds vs) : RepDs K H M (d :: ds) (v :: vs) := by
 unfold RepDs; exact ⟨v, vs, rfl, h1, h2⟩
theorem RepDs.append : ∀ {ds es : List D} {vs us : List V}, RepDs K H M ds vs -> RepDs K H M es us -> RepDs K H M (ds ++ es) (vs ++ us)
 | [], _, _, _, h, g => by unfold RepDs at h; rw [h]; exact g
 | d :: ds, es, _, us, h, g => by
  unfold RepDs at h
  obtain ⟨x, r, e, h1, h2⟩ := h
  rw [e]
  exact .cons h1 (RepDs.append h2 g)
theorem RepDs.take : ∀ {ds : List D} {vs : List V} (n : Nat), RepDs K H M ds vs -> RepDs K H M (ds.take n) (vs.take n)
 | _, _, 0, _ => by simp; exact .nil
 | [], _, n + 1, h => by unfold RepDs at h; rw [h]; exact .nil
 | d :: ds, _, n + 1, h => by
  unfold RepDs at h
  obtain ⟨x, r, e, h1, h2⟩ := h
  rw [e]
  exact .cons h1 (RepDs.take n h2)
theorem RepDs.drop : ∀ {ds : List D} {vs : List V} (n : Nat), RepDs K H M ds vs -> RepDs K H M (ds.drop n) (vs.drop n)
 | _, _, 0, h => h
 | [], _, n + 1, h => by unfold RepDs at h; rw [h]; exact .nil
 | d :: ds, _, n + 1, h => by
  unfold RepDs at h
  obtain ⟨x, r, e, h1, h2⟩ := h
  rw [e]
  exact RepDs.drop n h2
theorem RepDs.set : ∀ {ds : List D} {vs : List V} {d : D} {v : V} (i : Nat), RepDs K H M ds vs -> RepD K H M d v -> RepDs K H M (ds.set i d) (vs.set i v)
 | [], _, _, _, _, h, _ => by unfold RepDs at h; rw [h]; exact .nil
 | d :: ds, _, _, _, 0, h, g => by
  unfold RepDs at h
  obtain ⟨x, r, e, h1, h2⟩ := h
  rw [e]
  exact .cons g h2
 | d :: ds, _, _, _, i + 1, h, g => by
  unfold RepDs at h
  obtain ⟨x, r, e, h1, h2⟩ := h
  rw [e]
  exact .cons h1 (RepDs.set i h2 g)
theorem RepH.free {a : Addr} (h : RepH K H M) (e : H a = none) : M a = none := by
 cases q : M a with
 | none => rfl
 | some o =>
  obtain ⟨o', e', _⟩ := h.at_ a o q
  rw [e] at e'; cases e'
theorem qp {p : Addr} {o : HO} (hp : H p = none) : Fz M H M (upd H p o) := fun a u e m => ⟨by rw [jc (vc e hp)]; exact e, m⟩
theorem TabE.imp {K2 : KF} {q : Str} {o : HO} (h : TabE K H M q o) (i : ∀ c oc u, H c = some (.frz oc u) -> M c = none -> ¬ K.F c -> H' c = some (.frz oc u) /\ M' c = none /\ ¬ K2.F c) : TabE K2 H' M' q o := by
 obtain ⟨ps, e, t, a⟩ := h
 refine ⟨ps, e, t, fun pos cv z => ?_⟩
 obtain ⟨c, oc, vs, t, e1, e2, e3, e4, e5⟩ := a pos cv z
 obtain ⟨k1, k2, k3⟩ := i c oc _ e2 e3 e4
 exact ⟨c, oc, vs, t, e1, k1, k2, k3, e5⟩
theorem RepO.mono {o : OD} {u : HO} (f : Fz M H M' H') (h : RepO K H M o u) : RepO K H' M' o u := by
 cases o with
 | lst ds =>
  obtain ⟨xs, e, r⟩ := h
  exact ⟨xs, e, r.mono f⟩
 | dct kvs =>
  obtain ⟨vs, e, k, r⟩ := h
  exact ⟨vs, e, k, r.mono f⟩
 | tab q => exact TabE.imp h fun c oc u e m n => ⟨(f c _ e m).1, (f c _ e m).2, n⟩
theorem RepH.new {p : Addr} {o : HO} (h : RepH K H M) (hp : H p = none) : RepH K (upd H p o) M := ⟨fun a u e => by
 obtain ⟨o', e', r⟩ := h.at_ a u e
 exact ⟨o', by rw [jc (vc e' hp)]; exact e', r.mono (qp hp)⟩, fun a ha => by
 obtain ⟨⟨o', e'⟩, m'⟩ := h.fb a ha
 exact ⟨⟨o', by rw [jc (vc e' hp)]; exact e'⟩, m'⟩⟩
theorem RepH.nf {p : Addr} (h : RepH K H M) (hp : H p = none) : ¬ K.F p := fun z => by
 obtain ⟨⟨o, e⟩, _⟩ := h.fb p z
 rw [hp] at e; cases e
theorem RepH.nfM {p : Addr} {d : OD} (h : RepH K H M) (hp : M p = some d) : ¬ K.F p := fun z => by
 rw [(h.fb p z).2] at hp; cases hp
theorem Xal {p : Addr} {o : HO} {d : OD} (hp : H p = none) (hm : M p = none) : Fz M H (jg M p d) (upd H p o) := fun a u e m =>
 ⟨by rw [jc (vc e hp)]; exact e, by rw [ve (vc e hp)]; exact m⟩
theorem RepH.newM {p : Addr} {o : HO} {d : OD} (h : RepH K H M) (hp : H p = none) (r : RepO K H M d o) : RepH K (upd H p o) (jg M p d) := ⟨fun a u e => by
 have hm := h.free hp
 by_cases q : a = p
 ·subst q
  rw [wc] at e; cases e
  exact ⟨o, wf, r.mono (Xal hp hm)⟩
 ·rw [ve q] at e
  obtain ⟨o', e', r'⟩ := h.at_ a u e
  exact ⟨o', by rw [jc q]; exact e', r'.mono (Xal hp hm)⟩, fun a ha => by
 obtain ⟨⟨o', e'⟩, m'⟩ := h.fb a ha
 have q := vc e' hp
 exact ⟨⟨o', by rw [jc q]; exact e'⟩, by rw [ve q]; exact m'⟩⟩
theorem wA {p : Addr} {o : HO} {d d' : OD} (hm : M p = some d) : Fz M H (jg M p d') (upd H p o) := fun a u e m => by
 have q : a ≠ p := fun z => by rw [z, hm] at m; cases m
 exact ⟨by rw [jc q]; exact e, by rw [ve q]; exact m⟩
theorem RepH.write {p : Addr} {o : HO} {d d' : OD} (h : RepH K H M) (hm : M p = some d) (r : RepO K H M d' o) : RepH K (upd H p o) (jg M p d') := ⟨fun a u e => by
 by_cases q : a = p
 ·subst q
  rw [wc] at e; cases e
  exact ⟨o, wf, r.mono (wA hm)⟩
 ·rw [ve q] at e
  obtain ⟨o', e', r'⟩ := h.at_ a u e
  exact ⟨o', by rw [jc q]; exact e', r'.mono (wA hm)⟩, fun a ha => by
 obtain ⟨⟨o', e'⟩, m'⟩ := h.fb a ha
 have q : a ≠ p := fun z => by rw [z, hm] at m'; cases m'
 exact ⟨⟨o', by rw [jc q]; exact e'⟩, by rw [ve q]; exact m'⟩⟩
theorem wN {p : Addr} : Fz M H (Zr M p) H := fun a u e m => ⟨e, by unfold Zr; split <;> first | rfl | exact m⟩
theorem RepH.del {p : Addr} (h : RepH K H M) : RepH K H (Zr M p) := ⟨fun a u e => by
 have q : a ≠ p := fun z => by rw [z, XI] at e; cases e
 rw [ZL q] at e
 obtain ⟨o', e', r'⟩ := h.at_ a u e
 exact ⟨o', e', r'.mono wN⟩, fun a ha => ⟨(h.fb a ha).1, by unfold Zr; split <;> first | rfl | exact (h.fb a ha).2⟩⟩
theorem RepD.frz {p : Addr} {ds : List D} (h : RepH K H M) (e : M p = some (.lst ds)) : RepD K H (Zr M p) (.lst ds) (.ref p) := by
 obtain ⟨o', e', xs, rfl, r⟩ := h.at_ p _ e
 unfold RepD
 exact ⟨p, xs, rfl, .inl ⟨.inl e', XI, h.nfM e⟩, r.mono wN⟩
end
noncomputable abbrev SD := List (Option D)
noncomputable abbrev KD := D -> HpD -> Prop
noncomputable abbrev TDE := SD -> HpD -> KD -> Prop
noncomputable abbrev TDT := SD -> HpD -> (Bool -> HpD -> Prop) -> Prop
noncomputable abbrev TDA := SD -> HpD -> (List D -> HpD -> Prop) -> Prop
structure Yx where
 nx : SD -> HpD -> Prop
 rt : KD
 bk : SD -> HpD -> Prop := fun _ _ => False
 ct : SD -> HpD -> Prop := fun _ _ => False
noncomputable abbrev TSD := Yx -> SD -> HpD -> Prop
structure Rel (K : KF) (σD : SD) (M : HpD) (σ : St) (H : Hp) : Prop where
 len : σD.length = σ.length
 st : ∀ (i : Nat) d, σD[i]? = some (some d) -> ∃ v, σ[i]? = some (some v) /\ RepD K H M d v
 hp : RepH K H M
section
variable {K : KF} {H H' : Hp} {M M' : HpD} {σ : St} {σD : SD}
theorem Rel.mono (r : Rel K σD M σ H) (f : Fz M H M' H') (h : RepH K H' M') : Rel K σD M' σ H' :=
 ⟨r.len, fun i d e => let ⟨v, e1, e2⟩ := r.st i d e; ⟨v, e1, e2.mono f⟩, h⟩
theorem Rel.set (r : Rel K σD M σ H) {d : D} {v : V} (i : Nat) (h : RepD K H M d v) : Rel K (σD.set i (some d)) M (σ.set i (some v)) H := by
 refine ⟨by simp [r.len], fun j e q => ?_, r.hp⟩
 by_cases hj : i = j
 ·subst hj
  have hi : i < σD.length := by
   have := (uY.mp q).1
   simpa using this
  rw [xo hi] at q
  cases q
  exact ⟨v, by rw [xo (by rw [← r.len]; exact hi)], h⟩
 ·rw [x9 hj] at q
  obtain ⟨u, e1, e2⟩ := r.st j e q
  exact ⟨u, by rw [x9 hj]; exact e1, e2⟩
theorem Rel.pad (r : Rel K σD M σ H) (n : Nat) : Rel K (uK n none ++ σD) M (uK n none ++ σ) H := by
 refine ⟨by simp [r.len], fun j d q => ?_, r.hp⟩
 by_cases hj : j < n
 ·rw [u4 (by simpa using hj), xm, if_pos hj] at q
  cases q
 ·rw [u2 (by simpa using hj), xE] at q
  obtain ⟨u, e1, e2⟩ := r.st _ d q
  exact ⟨u, by rw [u2 (by simpa using hj), xE]; exact e1, e2⟩
end
def PostE (K : KF) (M : HpD) (H : Hp) (QD : KD) (Q : VK) : Prop := ∀ d M' v H', Fz M H M' H' -> RepH K H' M' -> RepD K H' M' d v -> QD d M' -> Q v H'
def kbv (K : KF) (M : HpD) (H : Hp) (QD : Bool -> HpD -> Prop) (Q : Bool -> Hp -> Prop) : Prop := ∀ b M' H', Fz M H M' H' -> RepH K H' M' -> QD b M' -> Q b H'
def vbv (K : KF) (M : HpD) (H : Hp) (QD : List D -> HpD -> Prop) (Q : List V -> Hp -> Prop) : Prop := ∀ ds M' vs H', Fz M H M' H' -> RepH K H' M' -> RepDs K H' M' ds vs -> QD ds M' -> Q vs H'
structure PostS (K : KF) (M : HpD) (H : Hp) (DD : Yx) (D' : XU) : Prop where
 nx : ∀ σD' M' σ' H', Fz M H M' H' -> Rel K σD' M' σ' H' -> DD.nx σD' M' -> D'.nx σ' H'
 rt : PostE K M H DD.rt D'.rt
 bk : ∀ σD' M' σ' H', Fz M H M' H' -> Rel K σD' M' σ' H' -> DD.bk σD' M' -> D'.bk σ' H'
 ct : ∀ σD' M' σ' H', Fz M H M' H' -> Rel K σD' M' σ' H' -> DD.ct σD' M' -> D'.ct σ' H'
def Wh (K : uC) (t : TDE) : TE := fun σ H Q => ∃ F σD M QD, Rel ⟨K, F⟩ σD M σ H /\ t σD M QD /\ PostE ⟨K, F⟩ M H QD Q
def Zy (K : uC) (t : TDT) : TT := fun σ H Q => ∃ F σD M QD, Rel ⟨K, F⟩ σD M σ H /\ t σD M QD /\ kbv ⟨K, F⟩ M H QD Q
def kaw (K : uC) (t : TDA) : TA := fun σ H Q => ∃ F σD M QD, Rel ⟨K, F⟩ σD M σ H /\ t σD M QD /\ vbv ⟨K, F⟩ M H QD Q
def wac (K : uC) (t : TSD) : TS := fun D' σ H => ∃ F σD M DD, Rel ⟨K, F⟩ σD M σ H /\ t DD σD M /\ PostS ⟨K, F⟩ M H DD D'
section
variable {K : KF} {H H' : Hp} {M M' : HpD}
theorem PostE.mono {QD : KD} {Q : VK} (p : PostE K M H QD Q) (f : Fz M H M' H') : PostE K M' H' QD Q := fun d M2 v H2 f2 r q h => p d M2 v H2 (f.trans f2) r q h
theorem PostS.mono {DD : Yx} {D' : XU} (p : PostS K M H DD D') (f : Fz M H M' H') : PostS K M' H' DD D' :=
 ⟨fun a b c d f2 r h => p.nx a b c d (f.trans f2) r h, p.rt.mono f, fun a b c d f2 r h => p.bk a b c d (f.trans f2) r h, fun a b c d f2 r h => p.ct a b c d (f.trans f2) r h⟩
end
theorem PE.wk {X : Cx} {e : Expr} {t t' : TE} (h : PE X e t) (i : ∀ σ H Q, t' σ H Q -> t σ H Q) : PE X e t' := fun pins s σ H Q I q => h pins s σ H Q I (i σ H Q q)
theorem PT.wk {X : Cx} {e : Expr} {t t' : TT} (h : PT X e t) (i : ∀ σ H Q, t' σ H Q -> t σ H Q) : PT X e t' := fun pins s σ H Q I q => h pins s σ H Q I (i σ H Q q)
theorem PW.wk {X : Cx} {e : Expr} {t t' : TT} (h : PW X e t) (i : ∀ σ H Q, t' σ H Q -> t σ H Q) : PW X e t' := fun wh pins s σ H Q I q => h wh pins s σ H Q I (i σ H Q q)
theorem PIfs.wk {X : Cx} {e : List Expr} {t t' : TT} (h : PIfs X e t) (i : ∀ σ H Q, t' σ H Q -> t σ H Q) : PIfs X e t' := fun pins s σ H Q I q => h pins s σ H Q I (i σ H Q q)
theorem PA.wk {X : Cx} {e : List Expr} {t t' : TA} (h : PA X e t) (i : ∀ σ H Q, t' σ H Q -> t σ H Q) : PA X e t' := fun pos pins s σ H Q I q => h pos pins s σ H Q I (i σ H Q q)
theorem PS.wk {X : Cx} {e : Stmt} {t t' : TS} (h : PS X e t) (i : ∀ D' σ H, t' D' σ H -> t D' σ H) : PS X e t' := fun pins s σ H D' I q => h pins s σ H D' I (i D' σ H q)
theorem PSs.wk {X : Cx} {e : List Stmt} {t t' : TS} (h : PSs X e t) (i : ∀ D' σ H, t' D' σ H -> t D' σ H) : PSs X e t' := fun pins s σ H D' I q => h pins s σ H D' I (i D' σ H q)
abbrev ED (X : Cx) (e : Expr) (t : TDE) : Prop := PE X e (Wh X.K t)
abbrev TD (X : Cx) (e : Expr) (t : TDT) : Prop := PT X e (Zy X.K t)
abbrev WD (X : Cx) (e : Expr) (t : TDT) : Prop := PW X e (Zy X.K t)
abbrev FD (X : Cx) (e : List Expr) (t : TDT) : Prop := PIfs X e (Zy X.K t)
abbrev AD (X : Cx) (e : List Expr) (t : TDA) : Prop := PA X e (kaw X.K t)
abbrev StD (X : Cx) (st : Stmt) (t : TSD) : Prop := PS X st (wac X.K t)
abbrev SsD (X : Cx) (st : List Stmt) (t : TSD) : Prop := PSs X st (wac X.K t)
section
variable {K : uC} {F : Addr -> Prop} {σ : St} {H : Hp} {σD : SD} {M : HpD}
theorem lE {ta : TDE} {QD : KD} {R : VK} (rel : Rel ⟨K, F⟩ σD M σ H) (h : ta σD M QD) (k : ∀ d M1 v H1, Fz M H M1 H1 -> Rel ⟨K, F⟩ σD M1 σ H1 -> RepD ⟨K, F⟩ H1 M1 d v -> QD d M1 -> R v H1) : Wh K ta σ H R :=
 ⟨F, σD, M, QD, rel, h, fun d M1 v H1 f rh rd q => k d M1 v H1 f (rel.mono f rh) rd q⟩
theorem lT {ta : TDT} {QD : Bool -> HpD -> Prop} {R : Bool -> Hp -> Prop} (rel : Rel ⟨K, F⟩ σD M σ H) (h : ta σD M QD) (k : ∀ b M1 H1, Fz M H M1 H1 -> Rel ⟨K, F⟩ σD M1 σ H1 -> QD b M1 -> R b H1) : Zy K ta σ H R :=
 ⟨F, σD, M, QD, rel, h, fun b M1 H1 f rh q => k b M1 H1 f (rel.mono f rh) q⟩
theorem lA {ta : TDA} {QD : List D -> HpD -> Prop} {R : List V -> Hp -> Prop} (rel : Rel ⟨K, F⟩ σD M σ H) (h : ta σD M QD) (k : ∀ d M1 v H1, Fz M H M1 H1 -> Rel ⟨K, F⟩ σD M1 σ H1 -> RepDs ⟨K, F⟩ H1 M1 d v -> QD d M1 -> R v H1) : kaw K ta σ H R :=
 ⟨F, σD, M, QD, rel, h, fun d M1 v H1 f rh rd q => k d M1 v H1 f (rel.mono f rh) rd q⟩
end
@[irreducible] def Za (i : Nat) : TDE := fun σ M Q => ∃ d, σ[i]? = some (some d) /\ Q d M
@[irreducible] def tCD (d : D) : TDE := fun _ M Q => Q d M
theorem vS {i : Nat} {σ : SD} {M : HpD} {Q : KD} {d : D} (h : σ[i]? = some (some d)) (q : Q d M) : Za i σ M Q := by unfold Za; exact ⟨d, h, q⟩
theorem vaO {σ : SD} {M : HpD} {Q : KD} {d : D} (q : Q d M) : tCD d σ M Q := by unfold tCD; exact q
section
variable {X : Cx} {pos : Pos}
theorem Xa (i : Nat) {x : Str} (hN : X.N[i]? = some x) (hv : Vis X.env.scope x) (hd : (x == ("__debug__" : Str)) = false := by decide) (hcd : (x == ("__classdict__" : Str)) = false := by decide) : ED X (.Name x pos) (Za i) := by
 refine (Wbl hN hv hd hcd).wk fun σ H Q w1_ => w1_.elim fun F z_ => z_.elim fun σD z_ => z_.elim fun M z_ => z_.elim fun QD z_ => z_.elim fun rel z_ => z_.elim fun h p => ?_
 unfold Za at h
 obtain ⟨d, e, q⟩ := h
 obtain ⟨v, e1, e2⟩ := rel.st i d e
 exact ⟨v, e1, p d M v H .refl rel.hp e2 q⟩
theorem kaa {e : Expr} {v : V} {d : D} (h : PE X e (tC v)) (r : ∀ F H M, RepD ⟨X.K, F⟩ H M d v) : ED X e (tCD d) := by
 refine h.wk fun σ H Q w1_ => w1_.elim fun F z_ => z_.elim fun σD z_ => z_.elim fun M z_ => z_.elim fun QD z_ => z_.elim fun rel z_ => z_.elim fun h p => ?_
 unfold tCD at h
 exact p d M v H .refl rel.hp (r F H M) h
theorem ka {i j} : ED X (.Constant (.int i) j pos) (tCD (.int i)) := kaa vbq fun _ _ _ => by unfold RepD; rfl
theorem ZA {b j} : ED X (.Constant (.bool b) j pos) (tCD (.bl b)) := kaa qbs fun _ _ _ => by unfold RepD; rfl
theorem j0 {j} : ED X (.Constant .none j pos) (tCD .non) := kaa Wbj fun _ _ _ => by unfold RepD; rfl
theorem YaA {x j} : ED X (.Constant (.str x) j pos) (tCD (.str x)) := kaa Xbp fun _ _ _ => by unfold RepD; rfl
theorem Yp {x : Str} {i : Int} {t : Tok} (hg : Gl X x) (hm : X.mg x = some (.int i t)) (hd : (x == ("__debug__" : Str)) = false := by decide) : ED X (.Name x pos) (tCD (.int i)) :=
 kaa (kaI (v := .int i) hg hm ⟨t, rfl⟩ hd) fun _ _ _ => by unfold RepD; rfl
theorem jaC {x : Str} {i : Str} {t : Tok} (hg : Gl X x) (hm : X.mg x = some (.str i t)) (hd : (x == ("__debug__" : Str)) = false := by decide) : ED X (.Name x pos) (tCD (.str i)) :=
 kaa (kaI (v := .str i) hg hm ⟨t, rfl⟩ hd) fun _ _ _ => by unfold RepD; rfl
theorem qS {x : Str} {n : String} (hg : Gl X x) (hm : X.mg x = none) (hv : bootBuiltins x = some (.type n)) (hn : x ≠ "__name__" := by decide) (hd : (x == ("__debug__" : Str)) = false := by decide) : ED X (.Name x pos) (tCD (.ty n)) :=
 kaa (kbh (v := .ty n) hg hm hv rfl hn hd) fun _ _ _ => by unfold RepD; rfl
end
noncomputable abbrev RD2 := D -> D -> HpD -> KD -> Prop
def ql (K : uC) (r : RD2) : R2 := fun x y H Q => ∃ F d e M QD, RepD ⟨K, F⟩ H M d x /\ RepD ⟨K, F⟩ H M e y /\ RepH ⟨K, F⟩ H M /\ r d e M QD /\ PostE ⟨K, F⟩ M H QD Q
@[irreducible] def wa (r : RD2) (ta tb : TDE) : TDE := fun σ M Q => ta σ M fun x M1 => tb σ M1 fun y M2 => r x y M2 Q
theorem waO {r : RD2} {ta tb : TDE} {σ : SD} {M : HpD} {Q : KD} (h : ta σ M fun x M1 => tb σ M1 fun y M2 => r x y M2 Q) : wa r ta tb σ M Q := by unfold wa; exact h
theorem wak {K : uC} {r : RD2} {ta tb : TDE} {σ : St} {H : Hp} {Q : VK} (h : Wh K (wa r ta tb) σ H Q) : tOp (ql K r) (Wh K ta) (Wh K tb) σ H Q := by
 obtain ⟨F, σD, M, QD, rel, h, p⟩ := h
 unfold wa at h
 refine lE rel h fun d M1 v H1 f1 rel1 r1 h1 => ?_
 refine lE rel1 h1 fun e M2 u H2 f2 rel2 r2 h2 => ?_
 exact ⟨F, d, e, M2, QD, r1.mono f2, r2, rel2.hp, h2, p.mono (f1.trans f2)⟩
theorem OpR.wk {X : Cx} {f : Value -> Value -> Sem Value} {r r' : R2} (h : OpR X f r) (i : ∀ x y H Q, r' x y H Q -> r x y H Q) : OpR X f r' := fun pins s σ H x y v u Q I rx ry q => h pins s σ H x y v u Q I rx ry (i _ _ _ _ q)
@[irreducible] def rID (C : Int -> Int -> Prop) (g : Int -> Int -> D) : RD2 := fun x y M Q => ∃ i j, x = .int i /\ y = .int j /\ C i j /\ Q (g i j) M
theorem Wad {C : Int -> Int -> Prop} {g : Int -> Int -> D} {i j : Int} {M : HpD} {Q : KD} (c : C i j) (q : Q (g i j) M) : rID C g (.int i) (.int j) M Q := by unfold rID; exact ⟨i, j, rfl, rfl, c, q⟩
@[irreducible] def rIN (g : Int -> Int -> D) : RD2 := fun x y M Q => ∃ i j, x = .int i /\ y = .int j /\ Q (g i j) M
theorem Za8 {g : Int -> Int -> D} {i j : Int} {M : HpD} {Q : KD} (q : Q (g i j) M) : rIN g (.int i) (.int j) M Q := by unfold rIN; exact ⟨i, j, rfl, rfl, q⟩
section
variable {X : Cx} {a b : Expr} {ta tb : TDE} {pos : Pos}
theorem Wd {op : Operator} {r : RD2} (ho : OpR X (binaryOp op) (ql X.K r)) (ha : ED X a ta) (hb : ED X b tb) : ED X (.BinOp a op b pos) (wa r ta tb) := (Xbv ho ha hb).wk fun _ _ _ h => wak h
theorem W3 {f : Value -> Value -> Sem Value} {C : Int -> Int -> Prop} {g : Int -> Int -> V} {gD : Int -> Int -> D} (h : OpR X f (rI C g)) (hg : ∀ i j F H M, RepD ⟨X.K, F⟩ H M (gD i j) (g i j)) : OpR X f (ql X.K (rID C gD)) := by
 refine h.wk fun x y H Q w1_ => w1_.elim fun F z_ => z_.elim fun d z_ => z_.elim fun e z_ => z_.elim fun M z_ => z_.elim fun QD z_ => z_.elim fun r1 z_ => z_.elim fun r2 z_ => z_.elim fun rh z_ => z_.elim fun hq p => ?_
 unfold rID at hq
 obtain ⟨i, j, rfl, rfl, c, q⟩ := hq
 unfold RepD at r1 r2
 exact ⟨i, j, r1, r2, c, p _ M _ H .refl rh (hg i j F H M) q⟩
theorem qL {f : Value -> Value -> Sem Value} {g : Int -> Int -> V} {gD : Int -> Int -> D} (h : OpR X f (rI0 g)) (hg : ∀ i j F H M, RepD ⟨X.K, F⟩ H M (gD i j) (g i j)) : OpR X f (ql X.K (rIN gD)) := by
 refine h.wk fun x y H Q w1_ => w1_.elim fun F z_ => z_.elim fun d z_ => z_.elim fun e z_ => z_.elim fun M z_ => z_.elim fun QD z_ => z_.elim fun r1 z_ => z_.elim fun r2 z_ => z_.elim fun rh z_ => z_.elim fun hq p => ?_
 unfold rIN at hq
 obtain ⟨i, j, rfl, rfl, q⟩ := hq
 unfold RepD at r1 r2
 exact ⟨i, j, r1, r2, p _ M _ H .refl rh (hg i j F H M) q⟩
theorem Yh : OpR X (binaryOp .Add) (ql X.K (rIN fun i j => .int (i + j))) := qL qbm fun _ _ _ _ _ => by unfold RepD; rfl
theorem qz : OpR X (binaryOp .Sub) (ql X.K (rIN fun i j => .int (i - j))) := qL Wbn fun _ _ _ _ _ => by unfold RepD; rfl
theorem qF : OpR X (binaryOp .Mult) (ql X.K (rID CMul fun i j => .int (i * j))) := W3 Ybp fun _ _ _ _ _ => by unfold RepD; rfl
theorem Wah : OpR X (binaryOp .FloorDiv) (ql X.K (rID va6 fun i j => .int (i / j))) := W3 Xba fun _ _ _ _ _ => by unfold RepD; rfl
theorem XD : OpR X (binaryOp .Mod) (ql X.K (rID (fun _ j => 0 < j) fun i j => .int (i % j))) := W3 Ybk fun _ _ _ _ _ => by unfold RepD; rfl
theorem WaZ : OpR X (binaryOp .Pow) (ql X.K (rID Ya7 fun i j => .int (i ^ j.toNat))) := W3 wbr fun _ _ _ _ _ => by unfold RepD; rfl
theorem ja9 : OpR X (compareOp .Lt) (ql X.K (rIN fun i j => .bl (decide (i < j)))) := qL Wbt fun _ _ _ _ _ => by unfold RepD; rfl
theorem Y3 : OpR X (compareOp .LtE) (ql X.K (rIN fun i j => .bl (decide (i <= j)))) := qL kbu fun _ _ _ _ _ => by unfold RepD; rfl
theorem jav : OpR X (compareOp .Gt) (ql X.K (rIN fun i j => .bl (decide (j < i)))) := qL Ybs fun _ _ _ _ _ => by unfold RepD; rfl
theorem qa9 : OpR X (compareOp .GtE) (ql X.K (rIN fun i j => .bl (decide (j <= i)))) := qL Xbs fun _ _ _ _ _ => by unfold RepD; rfl
@[irreducible] def wbi (neg : Bool) : RD2 := fun x y M Q => (∃ i j, x = .int i /\ y = .int j /\ Q (.bl (neg ^^ decide (i = j))) M) \/ (∃ i j, x = .bl i /\ y = .bl j /\ Q (.bl (neg ^^ decide (i = j))) M) \/ (∃ i j, x = .str i /\ y = .str j /\ Q (.bl (neg ^^ decide (i = j))) M)
theorem wZ {neg : Bool} {i j : Str} {M : HpD} {Q : KD} (q : Q (.bl (neg ^^ decide (i = j))) M) : wbi neg (.str i) (.str j) M Q := by unfold wbi; exact .inr (.inr ⟨i, j, rfl, rfl, q⟩)
theorem XaE {i j : Int} : decide (V.int i = V.int j) = decide (i = j) := by
 by_cases h : i = j
 ·subst h; simp
 ·have : V.int i ≠ V.int j := fun e => h (by injection e)
  simp [h, this]
theorem kaL {i j : Bool} : decide (V.bl i = V.bl j) = decide (i = j) := by cases i <;> cases j <;> rfl
theorem kaD {i j : Str} : decide (V.str i = V.str j) = decide (i = j) := by
 by_cases h : i = j
 ·subst h; simp
 ·have : V.str i ≠ V.str j := fun e => h (by injection e)
  simp [h, this]
theorem WY {op : CmpOp} {r : RD2} (ho : OpR X (compareOp op) (ql X.K r)) (ha : ED X a ta) (hb : ED X b tb) (hm : behindInMarks op b = false := by first | exact XaT _ | rfl) : ED X (.Compare a [op] [b] pos) (wa r ta tb) :=
 (vba ho ha hb hm).wk fun _ _ _ h => wak h
@[irreducible] def qd (t : TDE) : TDT := fun σ M Q => t σ M fun x M' => ∃ k, x = .bl k /\ Q k M'
theorem vaJ {t : TDE} {σ : SD} {M : HpD} {Q : Bool -> HpD -> Prop} (h : t σ M fun x M' => ∃ k, x = .bl k /\ Q k M') : qd t σ M Q := by unfold qd; exact h
theorem vf {op : CmpOp} {r : RD2} (ho : OpR X (compareOp op) (ql X.K r)) (ha : ED X a ta) (hb : ED X b tb) (hm : behindInMarks op b = false := by first | exact XaT _ | rfl) : TD X (.Compare a [op] [b] pos) (qd (wa r ta tb)) := by
 refine (qbc ho ha hb hm).wk fun σ H Q h => ?_
 obtain ⟨F, σD, M, QD, rel, h, p⟩ := h
 unfold qd wa at h
 show (tOp (ql X.K r) (Wh X.K ta) (Wh X.K tb)) σ H fun x H' => ∃ k, x = .bl k /\ Q k H'
 refine lE rel h fun d M1 v H1 f1 rel1 r1 h1 => ?_
 refine lE rel1 h1 fun e M2 u H2 f2 rel2 r2 h2 => ?_
 exact ⟨F, d, e, M2, _, r1.mono f2, r2, rel2.hp, h2, fun x M3 v3 H3 f3 rh3 r3 w1_ => w1_.elim fun k z_ => z_.elim fun e3 q3 => ⟨k, by subst e3; unfold RepD at r3; exact r3, p k M3 H3 ((f1.trans f2).trans f3) rh3 q3⟩⟩
@[irreducible] def jw : D -> HpD -> Bool -> Prop := fun d M k => match d with
 | .non => k = false
 | .bl b => k = b
 | .int i => k = (i != 0)
 | .str y => y.length <= sizeLine /\ k = ((y.length : Int) != 0)
 | .lst ds => k = !ds.isEmpty
 | .tup ds => k = !ds.isEmpty
 | .ref p => ∃ ds, M p = some (.lst ds) /\ k = !ds.isEmpty
 | _ => False
@[irreducible] def Xs (t : TDE) : TDT := fun σ M Q => t σ M fun x M' => ∃ k, jw x M' k /\ Q k M'
theorem Zbn {t : TDE} {σ : SD} {M : HpD} {Q : Bool -> HpD -> Prop} (h : t σ M fun x M' => ∃ k, jw x M' k /\ Q k M') : Xs t σ M Q := by unfold Xs; exact h
theorem vaz {K : KF} {H : Hp} {M : HpD} {ds : List D} {xs : List V} (r : RepDs K H M ds xs) : (!ds.isEmpty) = !xs.isEmpty := by
 have := r.length
 cases ds <;> cases xs <;> simp_all
theorem jv {e : Expr} {t : TDE} (h : ED X e t) (he : ∀ whole, isTrue e X.env whole = (do let v ← whole; standAt e.pos; holding [v] (truthy v)) := by intro _; rfl) : TD X e (Xs t) := by
 refine (Xa5 h he).wk fun σ H Q h => ?_
 obtain ⟨F, σD, M, QD, rel, h, p⟩ := h
 unfold Xs at h
 refine lE rel h fun d M1 v H1 f1 rel1 r1 h1 => ?_
 obtain ⟨k, tr, q⟩ := h1
 refine ⟨k, ?_, p k M1 H1 f1 rel1.hp q⟩
 unfold jw at tr
 cases d with
 | non => unfold RepD at r1; subst r1; exact tr
 | bl b => unfold RepD at r1; subst r1; exact tr
 | int b => unfold RepD at r1; subst r1; exact tr
 | str b => unfold RepD at r1; subst r1; exact tr
 | ref a =>
  unfold RepD at r1; subst r1
  obtain ⟨ds, e1, e2⟩ := tr
  obtain ⟨o', e', xs, rfl, r⟩ := rel1.hp.at_ a _ e1
  exact .inl ⟨xs, .inl (.inl e'), by rw [e2]; exact vaz r⟩
 | ty n => exact False.elim tr
 | tup ds =>
  unfold RepD at r1
  obtain ⟨a, xs, rfl, h1, h2⟩ := r1
  exact .inr (.inl ⟨xs, h1.sq, by rw [show k = _ from tr]; exact vaz h2⟩)
 | lst ds =>
  unfold RepD at r1
  obtain ⟨a, xs, rfl, h1, h2⟩ := r1
  exact .inl ⟨xs, h1.sq, by rw [show k = _ from tr]; exact vaz h2⟩
@[irreducible] def ZE (t u : TDT) : TDT := fun σ M Q => t σ M fun c M1 => if c = true then u σ M1 Q else Q false M1
@[irreducible] def ww (t u : TDT) : TDT := fun σ M Q => t σ M fun c M1 => if c = true then Q true M1 else u σ M1 Q
@[irreducible] def jD (t : TDT) : TDT := fun σ M Q => t σ M fun c M1 => Q (!c) M1
theorem vbo {t u : TDT} {σ : SD} {M : HpD} {Q : Bool -> HpD -> Prop} (h : t σ M fun c M1 => if c = true then u σ M1 Q else Q false M1) : ZE t u σ M Q := by unfold ZE; exact h
theorem wbt {t u : TDT} {σ : SD} {M : HpD} {Q : Bool -> HpD -> Prop} (h : t σ M fun c M1 => if c = true then Q true M1 else u σ M1 Q) : ww t u σ M Q := by unfold ww; exact h
theorem Xbm {t : TDT} {σ : SD} {M : HpD} {Q : Bool -> HpD -> Prop} (h : t σ M fun c M1 => Q (!c) M1) : jD t σ M Q := by unfold jD; exact h
variable {rest : List Expr} {tA tB' : TDT}
theorem YL (ha : TD X a tA) : WD X (.BoolOp .And [a] pos) tA := qbi ha
theorem kD (ha : TD X a tA) : WD X (.BoolOp .Or [a] pos) tA := wbp ha
theorem ZR (ha : TD X a tA) (hb : WD X (.BoolOp .And (b :: rest) pos) tB') : WD X (.BoolOp .And (a :: b :: rest) pos) (ZE tA tB') := by
 refine (qbq ha hb).wk fun σ H Q h => ?_
 obtain ⟨F, σD, M, QD, rel, h, p⟩ := h
 unfold ZE at h
 refine lT rel h fun c M1 H1 f1 rel1 h1 => ?_
 cases c with
 | true => simp only [if_true] at h1 ⊢; exact lT rel1 h1 fun k M2 H2 f2 rel2 h2 => p k M2 H2 (f1.trans f2) rel2.hp h2
 | false => simp only [uM, if_false] at h1 ⊢; exact p _ M1 H1 f1 rel1.hp h1
theorem YH (ha : TD X a tA) (hb : WD X (.BoolOp .Or (b :: rest) pos) tB') : WD X (.BoolOp .Or (a :: b :: rest) pos) (ww tA tB') := by
 refine (jbu ha hb).wk fun σ H Q h => ?_
 obtain ⟨F, σD, M, QD, rel, h, p⟩ := h
 unfold ww at h
 refine lT rel h fun c M1 H1 f1 rel1 h1 => ?_
 cases c with
 | true => simp only [if_true] at h1 ⊢; exact p _ M1 H1 f1 rel1.hp h1
 | false => simp only [uM, if_false] at h1 ⊢; exact lT rel1 h1 fun k M2 H2 f2 rel2 h2 => p k M2 H2 (f1.trans f2) rel2.hp h2
theorem YB (h : WD X a tA) : TD X a tA := h.pt
theorem vN (ha : TD X a tA) : TD X (.UnaryOp .Not a pos) (jD tA) := by
 refine (Zbk ha).wk fun σ H Q h => ?_
 obtain ⟨F, σD, M, QD, rel, h, p⟩ := h
 unfold jD at h
 exact lT rel h fun c M1 H1 f1 rel1 h1 => p _ M1 H1 f1 rel1.hp h1
@[irreducible] def vY (ta tb : TDE) : TDE := fun σ M Q => ta σ M fun x M1 => ∃ c, x = .bl c /\ if c = true then tb σ M1 Q else Q (.bl false) M1
@[irreducible] def qZ (ta : TDE) : TDE := fun σ M Q => ta σ M fun x M1 => ∃ c, x = .bl c /\ Q (.bl (!c)) M1
theorem wbg {ta tb : TDE} {σ : SD} {M : HpD} {Q : KD} (h : ta σ M fun x M1 => ∃ c, x = .bl c /\ if c = true then tb σ M1 Q else Q (.bl false) M1) : vY ta tb σ M Q := by unfold vY; exact h
theorem Ybh {ta : TDE} {σ : SD} {M : HpD} {Q : KD} (h : ta σ M fun x M1 => ∃ c, x = .bl c /\ Q (.bl (!c)) M1) : qZ ta σ M Q := by unfold qZ; exact h
theorem Wbm {op} {t : TDE} (h : ED X a t) : ED X (.BoolOp op [a] pos) t := jbn h
theorem kbq (ha : ED X a ta) (hb : ED X (.BoolOp .And (b :: rest) pos) tb) : ED X (.BoolOp .And (a :: b :: rest) pos) (vY ta tb) := by
 refine (jbk ha hb).wk fun σ H Q h => ?_
 obtain ⟨F, σD, M, QD, rel, h, p⟩ := h
 unfold vY at h
 refine lE rel h fun d M1 v H1 f1 rel1 r1 h1 => ?_
 obtain ⟨c, rfl, h1⟩ := h1
 unfold RepD at r1
 refine ⟨c, r1, ?_⟩
 cases c with
 | true => simp only [if_true] at h1 ⊢; exact lE rel1 h1 fun k M2 v2 H2 f2 rel2 r2 h2 => p k M2 v2 H2 (f1.trans f2) rel2.hp r2 h2
 | false => simp only [uM, if_false] at h1 ⊢; exact p _ M1 _ H1 f1 rel1.hp (by unfold RepD; rfl) h1
theorem jbp (ha : ED X a ta) : ED X (.UnaryOp .Not a pos) (qZ ta) := by
 refine (Ybq ha).wk fun σ H Q h => ?_
 obtain ⟨F, σD, M, QD, rel, h, p⟩ := h
 unfold qZ at h
 refine lE rel h fun d M1 v H1 f1 rel1 r1 h1 => ?_
 obtain ⟨c, rfl, h1⟩ := h1
 unfold RepD at r1
 exact ⟨c, r1, p _ M1 _ H1 f1 rel1.hp (by unfold RepD; rfl) h1⟩
@[irreducible] def Xae (t : TDT) (ta tb : TDE) : TDE := fun σ M Q => t σ M fun c M1 => if c = true then ta σ M1 Q else tb σ M1 Q
theorem Xbj {t : TDT} {ta tb : TDE} {σ : SD} {M : HpD} {Q : KD} (h : t σ M fun c M1 => if c = true then ta σ M1 Q else tb σ M1 Q) : Xae t ta tb σ M Q := by unfold Xae; exact h
theorem va7 {c : Expr} (hc : TD X c tA) (ha : ED X a ta) (hb : ED X b tb) : ED X (.IfExp c a b pos) (Xae tA ta tb) := by
 refine (Wa7 hc ha hb).wk fun σ H Q h => ?_
 obtain ⟨F, σD, M, QD, rel, h, p⟩ := h
 unfold Xae at h
 refine lT rel h fun c M1 H1 f1 rel1 h1 => ?_
 cases c with
 | true => simp only [if_true] at h1 ⊢; exact lE rel1 h1 fun k M2 v2 H2 f2 rel2 r2 h2 => p k M2 v2 H2 (f1.trans f2) rel2.hp r2 h2
 | false => simp only [uM, if_false] at h1 ⊢; exact lE rel1 h1 fun k M2 v2 H2 f2 rel2 r2 h2 => p k M2 v2 H2 (f1.trans f2) rel2.hp r2 h2
end
@[irreducible] def Zb : TDA := fun _ M Q => Q [] M
@[irreducible] def Ya (ta : TDE) (tr : TDA) : TDA := fun σ M Q => ta σ M fun x M1 => tr σ M1 fun xs M2 => Q (x :: xs) M2
theorem vaB {σ : SD} {M : HpD} {Q : List D -> HpD -> Prop} (h : Q [] M) : Zb σ M Q := by unfold Zb; exact h
theorem Waj {ta : TDE} {tr : TDA} {σ : SD} {M : HpD} {Q : List D -> HpD -> Prop} (h : ta σ M fun x M1 => tr σ M1 fun xs M2 => Q (x :: xs) M2) : Ya ta tr σ M Q := by unfold Ya; exact h
@[irreducible] def newL (ds : List D) (M : HpD) (Q : KD) : Prop := ds.length <= sizeLine /\ (Q (.lst ds) M \/ ∀ p, M p = none -> Q (.ref p) (jg M p (.lst ds)))
theorem vn {ds : List D} {M : HpD} {Q : KD} (h : ds.length <= sizeLine) (q : Q (.lst ds) M) : newL ds M Q := by unfold newL; exact ⟨h, .inl q⟩
theorem newM {ds : List D} {M : HpD} {Q : KD} (h : ds.length <= sizeLine) (q : ∀ p, M p = none -> Q (.ref p) (jg M p (.lst ds))) : newL ds M Q := by unfold newL; exact ⟨h, .inr q⟩
section
variable {K : KF} {H : Hp} {M : HpD}
theorem newL.post {ds : List D} {QD : KD} {Q : VK} {xs : List V} (h : newL ds M QD) (p : PostE K M H QD Q) (rh : RepH K H M) (r : RepDs K H M ds xs) : xs.length <= sizeLine /\ ∀ l, H l = none -> Q (.ref l) (upd H l (.lst xs)) := by
 unfold newL at h
 obtain ⟨hl, h⟩ := h
 refine ⟨by rw [← r.length]; exact hl, fun l e => ?_⟩
 rcases h with h | h
 ·exact p _ M _ _ (qp e) (rh.new e) (by unfold RepD; exact ⟨l, xs, rfl, .inl ⟨.inl wf, rh.free e, rh.nf e⟩, r.mono (qp e)⟩) h
 ·exact p _ (jg M l (.lst ds)) _ _ (Xal e (rh.free e)) (rh.newM e ⟨xs, rfl, r⟩) (by unfold RepD; rfl) (h l (rh.free e))
end
@[irreducible] def Yr (t : TDA) : TDE := fun σ M Q => t σ M fun ds M1 => ds.length <= sizeLine /\ Q (.tup ds) M1
@[irreducible] def Zm (t : TDA) : TDE := fun σ M Q => t σ M fun ds M1 => newL ds M1 Q
theorem kaF {t : TDA} {σ : SD} {M : HpD} {Q : KD} (h : t σ M fun ds M1 => ds.length <= sizeLine /\ Q (.tup ds) M1) : Yr t σ M Q := by unfold Yr; exact h
theorem WaS {t : TDA} {σ : SD} {M : HpD} {Q : KD} (h : t σ M fun ds M1 => newL ds M1 Q) : Zm t σ M Q := by unfold Zm; exact h
section
variable {X : Cx} {e : Expr} {es : List Expr} {te : TDE} {t : TDA} {pos : Pos}
theorem Yb : AD X [] Zb := by
 refine pa_nil.wk fun σ H Q w1_ => w1_.elim fun F z_ => z_.elim fun σD z_ => z_.elim fun M z_ => z_.elim fun QD z_ => z_.elim fun rel z_ => z_.elim fun h p => ?_
 unfold Zb at h
 exact p _ M _ H .refl rel.hp .nil h
theorem Wa (ha : ED X e te) (hr : AD X es t) (hs : starEach (e :: es) X.env = (false, eval e X.env) :: starEach es X.env := by rfl) : AD X (e :: es) (Ya te t) := by
 refine (wB ha hr hs).wk fun σ H Q w1_ => w1_.elim fun F z_ => z_.elim fun σD z_ => z_.elim fun M z_ => z_.elim fun QD z_ => z_.elim fun rel z_ => z_.elim fun h p => ?_
 unfold Ya at h
 refine lE rel h fun d M1 v H1 f1 rel1 r1 h1 => ?_
 exact lA rel1 h1 fun ds M2 vs H2 f2 rel2 r2 h2 => p _ M2 _ H2 (f1.trans f2) rel2.hp (.cons (r1.mono f2) r2) h2
theorem jz {x1} (h : AD X es t) : ED X (.Tuple es x1 pos) (Yr t) := by
 refine (vbn h).wk fun σ H Q w1_ => w1_.elim fun F z_ => z_.elim fun σD z_ => z_.elim fun M z_ => z_.elim fun QD z_ => z_.elim fun rel z_ => z_.elim fun h p => ?_
 unfold Yr at h
 refine lA rel h fun ds M1 vs H1 f1 rel1 r1 h1 => ?_
 refine ⟨by rw [← r1.length]; exact h1.1, fun l e => ?_⟩
 exact p _ M1 _ _ (f1.trans (qp e)) (rel1.hp.new e) (by unfold RepD; exact ⟨l, vs, rfl, .inl ⟨.inl wf, rel1.hp.free e, rel1.hp.nf e⟩, r1.mono (qp e)⟩) h1.2
theorem Zn (h : AD X es t) : ED X (.List es pos) (Zm t) := by
 refine (vbm h).wk fun σ H Q w1_ => w1_.elim fun F z_ => z_.elim fun σD z_ => z_.elim fun M z_ => z_.elim fun QD z_ => z_.elim fun rel z_ => z_.elim fun h p => ?_
 unfold Zm at h
 exact lA rel h fun ds M1 vs H1 f1 rel1 r1 h1 => h1.post (p.mono f1) rel1.hp r1
end
noncomputable def Wn : D -> HpD -> Option (List D)
 | .lst ds, _ => some ds
 | .tup ds, _ => some ds
 | .ref p, M => match M p with | some (.lst ds) => some ds | _ => none
 | _, _ => none
theorem kj {p : Addr} {M : HpD} {ds : List D} (h : M p = some (.lst ds)) : Wn (.ref p) M = some ds := by simp only [Wn, h]
theorem WO {K : KF} {H : Hp} {M : HpD} {d : D} {v : V} {ds : List D} (rh : RepH K H M) (r : RepD K H M d v) (e : Wn d M = some ds) : ∃ p xs, v = .ref p /\ (SqL K.K H p xs \/ SqT K.K H p xs) /\ RepDs K H M ds xs := by
 cases d with
 | lst ds' =>
  cases e
  unfold RepD at r
  obtain ⟨a, xs, rfl, h1, h2⟩ := r
  exact ⟨a, xs, rfl, .inl h1.sq, h2⟩
 | tup ds' =>
  cases e
  unfold RepD at r
  obtain ⟨a, xs, rfl, h1, h2⟩ := r
  exact ⟨a, xs, rfl, .inr h1.sq, h2⟩
 | ref p =>
  cases q : M p with
  | none => simp only [Wn, q] at e; cases e
  | some o =>
   cases o with
   | lst es =>
    simp only [Wn, q] at e; cases e
    obtain ⟨o', e', xs, rfl, h2⟩ := rh.at_ p _ q
    unfold RepD at r
    exact ⟨p, xs, r, .inl (.inl (.inl e')), h2⟩
   | dct kvs => simp only [Wn, q] at e; cases e
   | tab _ => simp only [Wn, q] at e; cases e
 | _ => cases e
theorem Xbf {K : KF} {H : Hp} {M : HpD} {ds : List D} {xs : List V} {i : Int} {d : D} (r : RepDs K H M ds xs) (e : atI ds i = some d) : ∃ v, atI xs i = some v /\ RepD K H M d v := by
 unfold atI at e ⊢
 rw [← r.length]
 cases q : ixN ds.length i with
 | none => rw [q] at e; cases e
 | some j =>
  rw [q] at e
  exact r.get e
@[irreducible] def Yd : RD2 := fun x y M Q => ∃ ds i d, y = .int i /\ Wn x M = some ds /\ atI ds i = some d /\ Q d M
theorem Yf {x : D} {i : Int} {M : HpD} {Q : KD} {ds : List D} {d : D} (h : Wn x M = some ds) (e : atI ds i = some d) (q : Q d M) : Yd x (.int i) M Q := by unfold Yd; exact ⟨ds, i, d, rfl, h, e, q⟩
theorem IxR.wk {X : Cx} {r r' : R2} (h : IxR X r) (i : ∀ x y H Q, r' x y H Q -> r x y H Q) : IxR X r' := fun va sl pins s σ H x y v u Q I rx ry q => h va sl pins s σ H x y v u Q I rx ry (i _ _ _ _ q)
section
variable {X : Cx} {a b : Expr} {ta tb : TDE} {pos : Pos}
theorem Ybu : IxR X (ql X.K Yd) := by
 refine (ix_list.or jbq).wk fun x y H Q w1_ => w1_.elim fun F z_ => z_.elim fun d z_ => z_.elim fun e z_ => z_.elim fun M z_ => z_.elim fun QD z_ => z_.elim fun r1 z_ => z_.elim fun r2 z_ => z_.elim fun rh z_ => z_.elim fun hq p => ?_
 unfold Yd at hq
 obtain ⟨ds, i, z, rfl, e1, e2, q⟩ := hq
 unfold RepD at r2
 obtain ⟨a, xs, rfl, hs, r⟩ := WO rh r1 e1
 obtain ⟨v, e3, r3⟩ := Xbf r e2
 rcases hs with hs | hs
 ·exact .inl ⟨a, xs, i, v, rfl, r2, hs, e3, p _ M _ H .refl rh r3 q⟩
 ·exact .inr ⟨a, xs, i, v, rfl, r2, hs, e3, p _ M _ H .refl rh r3 q⟩
theorem Zd (ha : ED X a ta) (hb : ED X b tb) (hs : jam b := by exact fun _ _ => rfl) : ED X (.Subscript a b pos) (wa Yd ta tb) := (va8 Ybu ha hb hs).wk fun _ _ _ h => wak h
end
noncomputable abbrev TDO := SD -> HpD -> (Option Int -> HpD -> Prop) -> Prop
def qaw (K : uC) (t : TDO) : TO := fun σ H Q => ∃ F σD M QD, Rel ⟨K, F⟩ σD M σ H /\ t σD M QD /\ ∀ b M' H', Fz M H M' H' -> RepH ⟨K, F⟩ H' M' -> QD b M' -> Q b H'
@[irreducible] def qu : TDO := fun _ M Q => Q none M
@[irreducible] def ZF (t : TDE) : TDO := fun σ M Q => t σ M fun x M1 => ∃ i, x = .int i /\ Q (some i) M1
theorem vap {σ : SD} {M : HpD} {Q : Option Int -> HpD -> Prop} (h : Q none M) : qu σ M Q := by unfold qu; exact h
theorem waI {t : TDE} {σ : SD} {M : HpD} {Q : Option Int -> HpD -> Prop} (h : t σ M fun x M1 => ∃ i, x = .int i /\ Q (some i) M1) : ZF t σ M Q := by unfold ZF; exact h
theorem PO.wk {X : Cx} {e : Option Expr} {t t' : TO} (h : PO X e t) (i : ∀ σ H Q, t' σ H Q -> t σ H Q) : PO X e t' := fun pins s σ H Q I q => h pins s σ H Q I (i σ H Q q)
noncomputable def qX (ds : List D) (lo hi : Option Int) : List D := (ds.drop (HT.sIx ds.length 0 lo)).take (HT.sIx ds.length ds.length hi - HT.sIx ds.length 0 lo)
noncomputable def Ye : D -> HpD -> Option (List D)
 | .lst ds, _ => some ds
 | .ref p, M => match M p with | some (.lst ds) => some ds | _ => none
 | _, _ => none
theorem km {p : Addr} {M : HpD} {ds : List D} (h : M p = some (.lst ds)) : Ye (.ref p) M = some ds := by simp only [Ye, h]
theorem Yo {K : KF} {H : Hp} {M : HpD} {d : D} {v : V} {ds : List D} (rh : RepH K H M) (r : RepD K H M d v) (e : Ye d M = some ds) : ∃ p xs, v = .ref p /\ SqL K.K H p xs /\ RepDs K H M ds xs := by
 cases d with
 | lst ds' =>
  cases e
  unfold RepD at r
  obtain ⟨a, xs, rfl, h1, h2⟩ := r
  exact ⟨a, xs, rfl, h1.sq, h2⟩
 | ref p =>
  cases q : M p with
  | none => simp only [Ye, q] at e; cases e
  | some o =>
   cases o with
   | lst es =>
    simp only [Ye, q] at e; cases e
    obtain ⟨o', e', xs, rfl, h2⟩ := rh.at_ p _ q
    unfold RepD at r
    exact ⟨p, xs, r, .inl (.inl e'), h2⟩
   | dct kvs => simp only [Ye, q] at e; cases e
   | tab _ => simp only [Ye, q] at e; cases e
 | _ => cases e
@[irreducible] def WU (te : TDE) (tl th : TDO) : TDE := fun σ M Q => te σ M fun x M1 => tl σ M1 fun l M2 => th σ M2 fun u M3 => ∃ ds, Ye x M3 = some ds /\ newL (qX ds l u) M3 Q
theorem Wa9 {te : TDE} {tl th : TDO} {σ : SD} {M : HpD} {Q : KD} (h : te σ M fun x M1 => tl σ M1 fun l M2 => th σ M2 fun u M3 => ∃ ds, Ye x M3 = some ds /\ newL (qX ds l u) M3 Q) : WU te tl th σ M Q := by unfold WU; exact h
section
variable {X : Cx} {e : Expr} {te : TDE} {lo hi : Option Expr} {tl th : TDO} {pos p2 : Pos}
theorem YV : PO X none (qaw X.K qu) := by
 refine po_none.wk fun σ H Q w1_ => w1_.elim fun F z_ => z_.elim fun σD z_ => z_.elim fun M z_ => z_.elim fun QD z_ => z_.elim fun rel z_ => z_.elim fun h p => ?_
 unfold qu at h
 exact p _ M H .refl rel.hp h
theorem jU (h : ED X e te) : PO X (some e) (qaw X.K (ZF te)) := by
 refine (vbh h).wk fun σ H Q w1_ => w1_.elim fun F z_ => z_.elim fun σD z_ => z_.elim fun M z_ => z_.elim fun QD z_ => z_.elim fun rel z_ => z_.elim fun h p => ?_
 unfold ZF at h
 refine lE rel h fun d M1 v H1 f1 rel1 r1 h1 => ?_
 obtain ⟨i, rfl, q⟩ := h1
 unfold RepD at r1
 exact ⟨i, r1, p _ M1 H1 f1 rel1.hp q⟩
theorem RepDs.cut {K : KF} {H : Hp} {M : HpD} {ds : List D} {xs : List V} (r : RepDs K H M ds xs) (l u : Option Int) : RepDs K H M (qX ds l u) (vak xs l u) := by
 unfold qX vak
 rw [r.length]
 exact (r.drop _).take _
theorem XV (he : ED X e te) (hl : PO X lo (qaw X.K tl)) (hu : PO X hi (qaw X.K th)) : ED X (.Subscript e (.Slice lo hi none p2) pos) (WU te tl th) := by
 refine (wa1 Ybg he hl hu).wk fun σ H Q w1_ => w1_.elim fun F z_ => z_.elim fun σD z_ => z_.elim fun M z_ => z_.elim fun QD z_ => z_.elim fun rel z_ => z_.elim fun h p => ?_
 unfold WU at h
 refine lE rel h fun d M1 v H1 f1 rel1 r1 h1 => ?_
 refine ⟨F, σD, M1, _, rel1, h1, fun l M2 H2 f2 rh2 h2 => ?_⟩
 have rel2 := rel1.mono f2 rh2
 refine ⟨F, σD, M2, _, rel2, h2, fun u M3 H3 f3 rh3 h3 => ?_⟩
 obtain ⟨ds, e1, h3⟩ := h3
 have r3 := (r1.mono f2).mono f3
 have pp := p.mono ((f1.trans f2).trans f3)
 obtain ⟨a, xs, rfl, hs, r⟩ := Yo rh3 r3 e1
 exact ⟨a, xs, rfl, hs, (h3.post pp rh3 (r.cut l u)).2⟩
end
noncomputable abbrev SpD := List D -> HpD -> KD -> Prop
def jf (K : uC) (sp : SpD) : Sp := fun vs H Q _ => ∃ F ds M QD, RepDs ⟨K, F⟩ H M ds vs /\ RepH ⟨K, F⟩ H M /\ sp ds M QD /\ PostE ⟨K, F⟩ M H QD Q
def Cal (P : Program) (w : World) (K : uC) (mg : Str -> Option Value) (base : Heap) (x : Str) (k : Nat) (sp : SpD) : Prop :=
 ∃ (f : Addr) (fd : FuncData) (ps : List Str), qh P w K mg base CX0 k f fd ps (jf K sp) /\ mg x = some (.ref f) /\ uS K (.ref f) = true /\ Binds K fd ps []
@[irreducible] def Xb (sp : SpD) (t : TDA) : TDE := fun σ M Q => t σ M fun ds M1 => sp ds M1 Q
theorem XaJ {sp : SpD} {t : TDA} {σ : SD} {M : HpD} {Q : KD} (h : t σ M fun ds M1 => sp ds M1 Q) : Xb sp t σ M Q := by unfold Xb; exact h
section
variable {X : Cx} {x : Str} {e : Expr} {es : List Expr} {t : TDA} {p pos : Pos} {sp : SpD} {k : Nat}
theorem YaU {K : uC} {σ : St} {H : Hp} {Q : VK} (h : Wh K (Xb sp t) σ H Q) : ZaR (jf K sp) [] E0 (kaw K t) σ H Q := by
 obtain ⟨F, σD, M, QD, rel, h, p⟩ := h
 unfold Xb at h
 refine lA rel h fun ds M1 vs H1 f1 rel1 r1 h1 => ?_
 rw [List.append_nil]
 exact ⟨F, ds, M1, QD, r1, rel1.hp, h1, p.mono f1⟩
theorem Yc (hc : Cal X.prog X.w X.K X.mg X.base x k sp) (hr : Room k X.A) (hg : Gl X x) (ha : AD X (e :: es) t) (hdb : (x == ("__debug__" : Str)) = false := by decide)
  (he : starEach (e :: es) X.env = (false, eval e X.env) :: starEach es X.env := by rfl) (hpl : (backTo pos (starEach es X.env)).any (·.1) = false := by rfl) : ED X (.Call (.Name x p) (e :: es) [] pos) (Xb sp t) := by
 obtain ⟨f, fd, ps, F, hm, hk, hb⟩ := hc
 exact (Wbb F hr hg hm hk hb .nil Ya9 ha hdb he hpl).wk fun _ _ _ h => YaU h
theorem qa5 (hc : Cal X.prog X.w X.K X.mg X.base x k sp) (hr : Room k X.A) (hg : Gl X x) (hdb : (x == ("__debug__" : Str)) = false := by decide) : ED X (.Call (.Name x p) [] [] pos) (Xb sp Zb) := by
 obtain ⟨f, fd, ps, F, hm, hk, hb⟩ := hc
 refine (va3 F hr hg hm hk hb .nil Ya9 hdb).wk fun σ H Q h => ?_
 obtain ⟨F, σD, M, QD, rel, h, p⟩ := h
 unfold Xb Zb at h
 exact ⟨F, [], M, QD, .nil, rel.hp, h, p⟩
noncomputable abbrev RDn := List D -> HpD -> KD -> Prop
def YK (K : uC) (r : RDn) : List V -> Hp -> VK -> Prop := fun vs H Q => ∃ F ds M QD, RepDs ⟨K, F⟩ H M ds vs /\ RepH ⟨K, F⟩ H M /\ r ds M QD /\ PostE ⟨K, F⟩ M H QD Q
theorem CallR.wk {f : Value} {r r' : List V -> Hp -> VK -> Prop} (h : CallR X f r) (i : ∀ x H Q, r' x H Q -> r x H Q) : CallR X f r' := fun pins s σ H xs us Q I rx q => h pins s σ H xs us Q I rx (i _ _ _ q)
theorem WaM {K : uC} {r : RDn} {σ : St} {H : Hp} {Q : VK} (h : Wh K (Xb r t) σ H Q) : tCB (YK K r) (kaw K t) σ H Q := by
 obtain ⟨F, σD, M, QD, rel, h, p⟩ := h
 unfold Xb at h
 refine lA rel h fun ds M1 vs H1 f1 rel1 r1 h1 => ?_
 exact ⟨F, ds, M1, QD, r1, rel1.hp, h1, p.mono f1⟩
theorem Zg {id : String} {r : RDn} (hc : CallR X (.builtin id) (YK X.K r)) (hg : Gl X x) (hm : X.mg x = none) (hv : bootBuiltins x = some (.builtin id)) (ha : AD X (e :: es) t) (hn : x ≠ "__name__" := by decide) (hdb : (x == ("__debug__" : Str)) = false := by decide)
  (he : starEach (e :: es) X.env = (false, eval e X.env) :: starEach es X.env := by rfl) (hpl : (backTo pos (starEach es X.env)).any (·.1) = false := by rfl) : ED X (.Call (.Name x p) (e :: es) [] pos) (Xb r t) :=
 (wa0 hc hg hm hv ha hn hdb he hpl).wk fun _ _ _ h => WaM h
theorem qaq {T : String} {r : RDn} (hc : CallR X (.type T) (YK X.K r)) (hg : Gl X x) (hm : X.mg x = none) (hv : bootBuiltins x = some (.type T)) (ha : AD X (e :: es) t) (hn : x ≠ "__name__" := by decide) (hdb : (x == ("__debug__" : Str)) = false := by decide)
  (he : starEach (e :: es) X.env = (false, eval e X.env) :: starEach es X.env := by rfl) (hpl : (backTo pos (starEach es X.env)).any (·.1) = false := by rfl) : ED X (.Call (.Name x p) (e :: es) [] pos) (Xb r t) :=
 (ZaU hc hg hm hv ha hn hdb he hpl).wk fun _ _ _ h => WaM h
theorem qV {K : KF} {H : Hp} {M : HpD} {d : D} {vs : List V} (r : RepDs K H M [d] vs) : ∃ v, vs = [v] /\ RepD K H M d v := by
 unfold RepDs at r
 obtain ⟨x, r', e, h1, h2⟩ := r
 unfold RepDs at h2
 subst h2 e
 exact ⟨x, rfl, h1⟩
theorem qai {K : KF} {H : Hp} {M : HpD} {d e : D} {vs : List V} (r : RepDs K H M [d, e] vs) : ∃ v u, vs = [v, u] /\ RepD K H M d v /\ RepD K H M e u := by
 unfold RepDs at r
 obtain ⟨x, r', e, h1, h2⟩ := r
 obtain ⟨u, e2, h3⟩ := qV h2
 subst e2 e
 exact ⟨x, u, rfl, h1, h3⟩
@[irreducible] def Zq : RDn := fun xs M Q => ∃ d ds, xs = [d] /\ Wn d M = some ds /\ Q (.int ds.length) M
theorem WC {d : D} {ds : List D} {M : HpD} {Q : KD} (h : Wn d M = some ds) (q : Q (.int ds.length) M) : Zq [d] M Q := by unfold Zq; exact ⟨d, ds, rfl, h, q⟩
theorem vp : CallR X (.builtin "len") (YK X.K Zq) := by
 refine call_len_seq.wk fun xs H Q w1_ => w1_.elim fun F z_ => z_.elim fun ds z_ => z_.elim fun M z_ => z_.elim fun QD z_ => z_.elim fun r z_ => z_.elim fun rh z_ => z_.elim fun hq p => ?_
 unfold Zq at hq
 obtain ⟨d, es, rfl, e1, q⟩ := hq
 obtain ⟨v, rfl, r1⟩ := qV r
 obtain ⟨a, ys, rfl, hs, r2⟩ := WO rh r1 e1
 exact ⟨a, ys, rfl, hs, p _ M _ H .refl rh (by unfold RepD; rw [r2.length]) q⟩
@[irreducible] def Wae : RDn := fun xs M Q => ∃ d ds, xs = [d] /\ Wn d M = some ds /\ newL ds M Q
theorem Ybc {d : D} {ds : List D} {M : HpD} {Q : KD} (h : Wn d M = some ds) (q : newL ds M Q) : Wae [d] M Q := by unfold Wae; exact ⟨d, ds, rfl, h, q⟩
theorem wbf : CallR X (.type "list") (YK X.K Wae) := by
 refine call_list_of.wk fun xs H Q w1_ => w1_.elim fun F z_ => z_.elim fun ds z_ => z_.elim fun M z_ => z_.elim fun QD z_ => z_.elim fun r z_ => z_.elim fun rh z_ => z_.elim fun hq p => ?_
 unfold Wae at hq
 obtain ⟨d, es, rfl, e1, q⟩ := hq
 obtain ⟨v, rfl, r1⟩ := qV r
 obtain ⟨a, ys, rfl, hs, r2⟩ := WO rh r1 e1
 exact ⟨a, ys, rfl, hs, (q.post p rh r2).2⟩
@[irreducible] def j4 : RDn := fun xs M Q => ∃ i j, xs = [.int i, .int j] /\ Q (.int (min i j)) M
theorem qbd {i j : Int} {M : HpD} {Q : KD} (q : Q (.int (min i j)) M) : j4 [.int i, .int j] M Q := by unfold j4; exact ⟨i, j, rfl, q⟩
theorem jaI (hc : X.calm = true := by rfl) : CallR X (.builtin "min") (YK X.K j4) := by
 refine (waX hc).wk fun xs H Q w1_ => w1_.elim fun F z_ => z_.elim fun ds z_ => z_.elim fun M z_ => z_.elim fun QD z_ => z_.elim fun r z_ => z_.elim fun rh z_ => z_.elim fun hq p => ?_
 unfold j4 at hq
 obtain ⟨i, j, rfl, q⟩ := hq
 obtain ⟨v, u, rfl, r1, r2⟩ := qai r
 unfold RepD at r1 r2
 subst r1 r2
 rw [← show (if j < i then j else i) = min i j by split <;> lia] at q
 exact ⟨i, j, rfl, p _ M _ H .refl rh (by unfold RepD; rfl) q⟩
end
section
variable {K : uC} {F : Addr -> Prop} {σ : St} {H : Hp} {σD : SD} {M : HpD}
theorem lS {ta : TSD} {DD : Yx} {D' : XU} (rel : Rel ⟨K, F⟩ σD M σ H) (h : ta DD σD M) (p : PostS ⟨K, F⟩ M H DD D') : wac K ta D' σ H := ⟨F, σD, M, DD, rel, h, p⟩
end
noncomputable abbrev TDG := D -> SD -> HpD -> (SD -> HpD -> Prop) -> Prop
noncomputable abbrev qQ := List D -> SD -> HpD -> (SD -> HpD -> Prop) -> Prop
def PostG (K : KF) (M : HpD) (H : Hp) (QD : SD -> HpD -> Prop) (Q : St -> Hp -> Prop) : Prop := ∀ σD' M' σ' H', Fz M H M' H' -> Rel K σD' M' σ' H' -> QD σD' M' -> Q σ' H'
theorem PostG.mono {K : KF} {H H' : Hp} {M M' : HpD} {QD : SD -> HpD -> Prop} {Q : St -> Hp -> Prop} (p : PostG K M H QD Q) (f : Fz M H M' H') : PostG K M' H' QD Q := fun a b c d f2 r h => p a b c d (f.trans f2) r h
def wJ (K : uC) (t : TDG) : TG := fun v σ H Q => ∃ F d σD M QD, Rel ⟨K, F⟩ σD M σ H /\ RepD ⟨K, F⟩ H M d v /\ t d σD M QD /\ PostG ⟨K, F⟩ M H QD Q
def kbp (K : uC) (t : qQ) : TGs := fun v σ H Q => ∃ F d σD M QD, Rel ⟨K, F⟩ σD M σ H /\ RepDs ⟨K, F⟩ H M d v /\ t d σD M QD /\ PostG ⟨K, F⟩ M H QD Q
theorem PG.wk {X : Cx} {e : Expr} {t t' : TG} (h : PG X e t) (i : ∀ v σ H Q, t' v σ H Q -> t v σ H Q) : PG X e t' := fun pins s σ H v u Q I r q => h pins s σ H v u Q I r (i v σ H Q q)
theorem PGs.wk {X : Cx} {e : List Expr} {t t' : TGs} (h : PGs X e t) (i : ∀ v σ H Q, t' v σ H Q -> t v σ H Q) : PGs X e t' := fun pins s σ H v u Q I r q => h pins s σ H v u Q I r (i v σ H Q q)
abbrev GD (X : Cx) (e : Expr) (t : TDG) : Prop := PG X e (wJ X.K t)
abbrev GsD (X : Cx) (e : List Expr) (t : qQ) : Prop := PGs X e (kbp X.K t)
@[irreducible] def qb (i : Nat) : TDG := fun d σ M Q => Q (σ.set i (some d)) M
@[irreducible] def Wx : qQ := fun ds σ M Q => ds = [] /\ Q σ M
@[irreducible] def Zh (t : TDG) (u : qQ) : qQ := fun ds σ M Q => ∃ d r, ds = d :: r /\ t d σ M fun σ' M' => u r σ' M' Q
@[irreducible] def Zx (n : Nat) (t : qQ) : TDG := fun d σ M Q => ∃ ds, d = .tup ds /\ ds.length = n /\ t ds σ M Q
theorem qB {i : Nat} {d : D} {σ : SD} {M : HpD} {Q : SD -> HpD -> Prop} (h : Q (σ.set i (some d)) M) : qb i d σ M Q := by unfold qb; exact h
theorem Wbf {σ : SD} {M : HpD} {Q : SD -> HpD -> Prop} (h : Q σ M) : Wx [] σ M Q := by unfold Wx; exact ⟨rfl, h⟩
theorem ka4 {t : TDG} {u : qQ} {d : D} {r : List D} {σ : SD} {M : HpD} {Q : SD -> HpD -> Prop} (h : t d σ M fun σ' M' => u r σ' M' Q) : Zh t u (d :: r) σ M Q := by unfold Zh; exact ⟨d, r, rfl, h⟩
theorem Ybb {n : Nat} {t : qQ} {ds : List D} {σ : SD} {M : HpD} {Q : SD -> HpD -> Prop} (hn : ds.length = n) (h : t ds σ M Q) : Zx n t (.tup ds) σ M Q := by unfold Zx; exact ⟨ds, rfl, hn, h⟩
section
variable {X : Cx} {pos : Pos}
theorem je (i : Nat) {x : Str} (hN : X.N.Nodup) (hi : X.N[i]? = some x) (hx : Loc X.env.scope x) (hf : X.fn x = true \/ X.env.scope.names.lookup x = some .local := by first | exact .inl rfl | exact .inr rfl | assumption) : GD X (.Name x pos) (qb i) := by
 refine (kbd hN hi hx hf).wk fun v σ H Q w1_ => w1_.elim fun F z_ => z_.elim fun d z_ => z_.elim fun σD z_ => z_.elim fun M z_ => z_.elim fun QD z_ => z_.elim fun rel z_ => z_.elim fun r z_ => z_.elim fun h p => ?_
 unfold qb at h
 exact p _ M _ H .refl (rel.set i r) h
theorem jI : GsD X [] Wx := by
 refine pgs_nil.wk fun v σ H Q w1_ => w1_.elim fun F z_ => z_.elim fun d z_ => z_.elim fun σD z_ => z_.elim fun M z_ => z_.elim fun QD z_ => z_.elim fun rel z_ => z_.elim fun r z_ => z_.elim fun h p => ?_
 unfold Wx at h
 obtain ⟨rfl, h⟩ := h
 unfold RepDs at r
 exact ⟨r, p _ M _ H .refl rel h⟩
theorem Wj {e : Expr} {es : List Expr} {t : TDG} {u : qQ} (h1 : GD X e t) (h2 : GsD X es u)
  (hs : (assignEach (e :: es) X.env).map (·.2) = assign e X.env :: (assignEach es X.env).map (·.2) := by rfl) : GsD X (e :: es) (Zh t u) := by
 refine (Wa2 h1 h2 hs).wk fun v σ H Q w1_ => w1_.elim fun F z_ => z_.elim fun d z_ => z_.elim fun σD z_ => z_.elim fun M z_ => z_.elim fun QD z_ => z_.elim fun rel z_ => z_.elim fun r z_ => z_.elim fun h p => ?_
 unfold Zh at h
 obtain ⟨d0, ds, rfl, h⟩ := h
 unfold RepDs at r
 obtain ⟨x, vr, rfl, r1, r2⟩ := r
 refine ⟨x, vr, rfl, F, d0, σD, M, _, rel, r1, h, fun σ1 M1 σ1' H1 f1 rel1 h1 => ?_⟩
 exact ⟨F, ds, σ1, M1, QD, rel1, r2.mono f1, h1, p.mono f1⟩
theorem kI {es : List Expr} {k : Nat} {t : qQ} {n : Nat} (h : GsD X es t) (hc : X.calm = true := by rfl)
  (hn : (assignEach es X.env).length = n := by rfl) (hst : (assignEach es X.env).findIdx? (·.1) = none := by rfl) : GD X (.Tuple es k pos) (Zx n t) := by
 refine (wbj hc h hn hst).wk fun v σ H Q w1_ => w1_.elim fun F z_ => z_.elim fun d z_ => z_.elim fun σD z_ => z_.elim fun M z_ => z_.elim fun QD z_ => z_.elim fun rel z_ => z_.elim fun r z_ => z_.elim fun h p => ?_
 unfold Zx at h
 obtain ⟨ds, rfl, hl, h⟩ := h
 unfold RepD at r
 obtain ⟨a, xs, rfl, hz, hr⟩ := r
 exact ⟨a, xs, rfl, hz.sq, by rw [← hr.length]; exact hl, F, ds, σD, M, QD, rel, hr, h, p⟩
@[irreducible] def qH (to ti : TDE) : TDG := fun v σ M Q => to σ M fun o M1 => ti σ M1 fun i M2 => ∃ p ds k j, o = .ref p /\ i = .int k /\ M2 p = some (.lst ds) /\ ixN ds.length k = some j /\ Q σ (jg M2 p (.lst (ds.set j v)))
theorem XaM {to ti : TDE} {v : D} {σ : SD} {M : HpD} {Q : SD -> HpD -> Prop} (h : to σ M fun o M1 => ti σ M1 fun i M2 => ∃ p ds k j, o = .ref p /\ i = .int k /\ M2 p = some (.lst ds) /\ ixN ds.length k = some j /\ Q σ (jg M2 p (.lst (ds.set j v)))) : qH to ti v σ M Q := by unfold qH; exact h
theorem XR {o i : Expr} {to ti : TDE} (ho : ED X o to) (hi : ED X i ti)
  (ha : ∀ v, assign (.Subscript o i pos) X.env v = (do
   let ov ← holding [v] (eval o X.env)
   let iv ← holding [v, ov] (eval i X.env)
   standAt pos
   holding [v, ov, iv] (setItem ov iv v)
   release [v, ov, iv] []) := by intro _; rfl) : GD X (.Subscript o i pos) (qH to ti) := by
 refine (Xbo ho hi Ya1 ha).wk fun v σ H Q w1_ => w1_.elim fun F z_ => z_.elim fun d z_ => z_.elim fun σD z_ => z_.elim fun M z_ => z_.elim fun QD z_ => z_.elim fun rel z_ => z_.elim fun r z_ => z_.elim fun h p => ?_
 unfold qH at h
 refine lE rel h fun od M1 ov H1 f1 rel1 r1 h1 => ?_
 refine lE rel1 h1 fun id M2 iv H2 f2 rel2 r2 h2 => ?_
 obtain ⟨a, ds, k, j, rfl, rfl, e1, e2, q⟩ := h2
 unfold RepD at r1 r2
 obtain ⟨o', e', xs, rfl, hr⟩ := rel2.hp.at_ a _ e1
 have rv := r.mono (f1.trans f2)
 have r3 : RepO ⟨X.K, F⟩ H2 M2 (.lst (ds.set j d)) (.lst (xs.set j v)) := ⟨_, rfl, hr.set j rv⟩
 exact ⟨a, xs, k, j, r1, r2, e', by rw [← hr.length]; exact e2, p _ _ _ _ ((f1.trans f2).trans (wA e1)) (rel2.mono (wA e1) (rel2.hp.write e1 r3)) q⟩
end
@[irreducible] def qf : TSD := fun DD σ M => DD.nx σ M
@[irreducible] def wb (t u : TSD) : TSD := fun DD σ M => t { DD with nx := u DD } σ M
@[irreducible] def vq (te : TDE) : TSD := fun DD σ M => te σ M fun _ M1 => DD.nx σ M1
@[irreducible] def We (te : TDE) : TSD := fun DD σ M => te σ M fun d M1 => DD.rt d M1 \/ ∃ a ds, d = .ref a /\ M1 a = some (.lst ds) /\ DD.rt (.lst ds) (Zr M1 a)
@[irreducible] def Xh (c : TDT) (t u : TSD) : TSD := fun DD σ M => c σ M fun b M1 => if b = true then t DD σ M1 else u DD σ M1
@[irreducible] def Wc (te : TDE) (g : TDG) : TSD := fun DD σ M => te σ M fun d M1 => g d σ M1 DD.nx
@[irreducible] def Y2 : TSD := fun _ _ _ => False
section
variable {DD : Yx} {σ : SD} {M : HpD}
theorem qy (h : DD.nx σ M) : qf DD σ M := by unfold qf; exact h
theorem Za0 {t u : TSD} (h : t { DD with nx := u DD } σ M) : wb t u DD σ M := by unfold wb; exact h
theorem XaI {te : TDE} (h : te σ M fun _ M1 => DD.nx σ M1) : vq te DD σ M := by unfold vq; exact h
theorem waV {te : TDE} (h : te σ M fun d M1 => DD.rt d M1 \/ ∃ a ds, d = .ref a /\ M1 a = some (.lst ds) /\ DD.rt (.lst ds) (Zr M1 a)) : We te DD σ M := by unfold We; exact h
theorem WaV {c : TDT} {t u : TSD} (h : c σ M fun b M1 => if b = true then t DD σ M1 else u DD σ M1) : Xh c t u DD σ M := by unfold Xh; exact h
theorem waW {te : TDE} {g : TDG} (h : te σ M fun d M1 => g d σ M1 DD.nx) : Wc te g DD σ M := by unfold Wc; exact h
end
section
variable {X : Cx} {pos : Pos} {st : Stmt} {rest : List Stmt} {t u : TSD} {e : Expr} {te : TDE}
theorem ji : SsD X [] qf := by
 refine pss_nil.wk fun D' σ H w1_ => w1_.elim fun F z_ => z_.elim fun σD z_ => z_.elim fun M z_ => z_.elim fun DD z_ => z_.elim fun rel z_ => z_.elim fun h p => ?_
 unfold qf at h
 exact p.nx _ M _ H .refl rel h
theorem jb (h1 : StD X st t) (h2 : SsD X rest u) : SsD X (st :: rest) (wb t u) := by
 refine (Ya5 h1 h2).wk fun D' σ H w1_ => w1_.elim fun F z_ => z_.elim fun σD z_ => z_.elim fun M z_ => z_.elim fun DD z_ => z_.elim fun rel z_ => z_.elim fun h p => ?_
 unfold wb at h
 exact lS rel h ⟨fun σD' M' σ' H' f rel' q => lS rel' q (p.mono f), p.rt, p.bk, p.ct⟩
theorem qc (h1 : StD X st t) : SsD X [st] t := Ybe h1
theorem ZC (he : ED X e te) (hs : swapsWith e none pos.line X.env = pure false := by rfl) : StD X (.Expr e pos) (vq te) := by
 refine (Xbi he hs).wk fun D' σ H w1_ => w1_.elim fun F z_ => z_.elim fun σD z_ => z_.elim fun M z_ => z_.elim fun DD z_ => z_.elim fun rel z_ => z_.elim fun h p => ?_
 unfold vq at h
 exact lE rel h fun d M1 v H1 f1 rel1 r1 h1 => p.nx _ M1 _ H1 f1 rel1 h1
theorem Ze (he : ED X e te) : StD X (.Return (some e) pos) (We te) := by
 refine (vbp he).wk fun D' σ H w1_ => w1_.elim fun F z_ => z_.elim fun σD z_ => z_.elim fun M z_ => z_.elim fun DD z_ => z_.elim fun rel z_ => z_.elim fun h p => ?_
 unfold We at h
 refine lE rel h fun d M1 v H1 f1 rel1 r1 h1 => ?_
 rcases h1 with h1 | ⟨a, ds, rfl, e1, h1⟩
 ·exact p.rt d M1 v H1 f1 rel1.hp r1 h1
 ·unfold RepD at r1
  subst r1
  exact p.rt _ _ _ H1 (f1.trans wN) rel1.hp.del (.frz rel1.hp e1) h1
theorem Xl {c : Expr} {a b : List Stmt} {tc : TDT} (hc : TD X c tc) (ha : SsD X a t) (hb : SsD X b u) : StD X (.If c a b pos) (Xh tc t u) := by
 refine (qbv hc ha hb).wk fun D' σ H w1_ => w1_.elim fun F z_ => z_.elim fun σD z_ => z_.elim fun M z_ => z_.elim fun DD z_ => z_.elim fun rel z_ => z_.elim fun h p => ?_
 unfold Xh at h
 refine lT rel h fun b M1 H1 f1 rel1 h1 => ?_
 cases b with
 | true => simp only [if_true] at h1 ⊢; exact lS rel1 h1 (p.mono f1)
 | false => simp only [uM, if_false] at h1 ⊢; exact lS rel1 h1 (p.mono f1)
theorem PostS.g {K : KF} {M : HpD} {H : Hp} {DD : Yx} {D' : XU} (p : PostS K M H DD D') : PostG K M H DD.nx D'.nx := fun a b c d f r h => p.nx a b c d f r h
theorem qD {tg : Expr} {g : TDG} (he : ED X e te) (hg : GD X tg g) (hs : swapsWithSole [tg] e pos.line X.env = pure false := by rfl) (hw : swappedStores [tg] e X.env = pure none := by rfl)
  (h1 : (assignEach [tg] X.env).map (·.2) = [assign tg X.env] := by rfl) : StD X (.Assign [tg] e pos) (Wc te g) := by
 refine (qbr he hg hs hw h1).wk fun D' σ H w1_ => w1_.elim fun F z_ => z_.elim fun σD z_ => z_.elim fun M z_ => z_.elim fun DD z_ => z_.elim fun rel z_ => z_.elim fun h p => ?_
 unfold Wc at h
 exact lE rel h fun d M1 v H1 f1 rel1 r1 h1 => ⟨F, d, σD, M1, DD.nx, rel1, r1, h1, (p.mono f1).g⟩
theorem vd (i : Nat) {x : Str} {pos' : Pos} (hN : X.N.Nodup) (hi : X.N[i]? = some x) (hx : Loc X.env.scope x) (he : ED X e te) (hs : swapsWith e (some (.Name x pos')) pos.line X.env = pure false := by rfl) (hf : X.fn x = true \/ X.env.scope.names.lookup x = some .local := by first | exact .inl rfl | exact .inr rfl | assumption) :
  StD X (.Assign [.Name x pos'] e pos) (Wc te (qb i)) := by
 refine (vbl hN hi hx he hs hf).wk fun D' σ H w1_ => w1_.elim fun F z_ => z_.elim fun σD z_ => z_.elim fun M z_ => z_.elim fun DD z_ => z_.elim fun rel z_ => z_.elim fun h p => ?_
 unfold Wc at h
 refine lE rel h fun d M1 v H1 f1 rel1 r1 h1 => ?_
 unfold qb at h1
 exact (p.mono f1).nx _ M1 _ H1 .refl (rel1.set i r1) h1
theorem WaE : StD X st Y2 := by
 refine ps_never.wk fun D' σ H w1_ => w1_.elim fun F z_ => z_.elim fun σD z_ => z_.elim fun M z_ => z_.elim fun DD z_ => z_.elim fun rel z_ => z_.elim fun h p => ?_
 unfold Y2 at h
 exact h
end
noncomputable abbrev TDI := SD -> HpD -> (List D -> HpD -> Prop) -> Prop
def kaQ (K : uC) (F : Addr -> Prop) (J : It) (ds : List D) (M : HpD) (H : Hp) : Prop :=
 ∀ F' i M' H', (∀ a, F' a -> F a \/ H a = none) -> Fz M H M' H' -> RepH ⟨K, F'⟩ H' M' -> (∀ d, ds[i]? = some d -> J.go i H' /\ ∀ x H3, J.yld i H' x H3 -> Fz M' H' M' H3 /\ RepH ⟨K, F'⟩ H3 M' /\ RepD ⟨K, F'⟩ H3 M' d x) /\ (ds.length <= i -> J.stop i H')
def Xa8 (K : uC) (t : TDI) : TI := fun σ H R => ∃ F σD M RD, Rel ⟨K, F⟩ σD M σ H /\ t σD M RD /\ ∀ ds M' H' J, Fz M H M' H' -> RepH ⟨K, F⟩ H' M' -> kaQ K F J ds M' H' -> RD ds M' -> R J H'
theorem FzL.more {K : uC} {F F' : Addr -> Prop} {H : Hp} {M : HpD} {a : Addr} {xs : List V} (h : FzL ⟨K, F⟩ H M a xs) (hf : ∀ a, F' a -> F a \/ H a = none) : FzL ⟨K, F'⟩ H M a xs := by
 rcases h with ⟨h, m, n⟩ | h
 ·refine .inl ⟨h, m, fun z => ?_⟩
  rcases hf a z with q | q
  ·exact n q
  ·rcases h with h | ⟨o, h⟩ <;> rw [q] at h <;> cases h
 ·exact .inr h
theorem FzT.more {K : uC} {F F' : Addr -> Prop} {H : Hp} {M : HpD} {a : Addr} {xs : List V} (h : FzT ⟨K, F⟩ H M a xs) (hf : ∀ a, F' a -> F a \/ H a = none) : FzT ⟨K, F'⟩ H M a xs := by
 rcases h with ⟨h, m, n⟩ | h
 ·refine .inl ⟨h, m, fun z => ?_⟩
  rcases hf a z with q | q
  ·exact n q
  ·rcases h with h | ⟨o, h⟩ <;> rw [q] at h <;> cases h
 ·exact .inr h
mutual
theorem RepD.more {K : uC} {F F' : Addr -> Prop} {H : Hp} {M : HpD} (hf : ∀ a, F' a -> F a \/ H a = none) : ∀ {d : D} {v : V}, RepD ⟨K, F⟩ H M d v -> RepD ⟨K, F'⟩ H M d v
 | .non, _, h => by unfold RepD at h ⊢; exact h
 | .bl _, _, h => by unfold RepD at h ⊢; exact h
 | .int _, _, h => by unfold RepD at h ⊢; exact h
 | .str _, _, h => by unfold RepD at h ⊢; exact h
 | .ref _, _, h => by unfold RepD at h ⊢; exact h
 | .ty _, _, h => by unfold RepD at h ⊢; exact h
 | .tup ds, _, h => by
  unfold RepD at h ⊢
  obtain ⟨a, xs, e, h1, h2⟩ := h
  exact ⟨a, xs, e, h1.more hf, RepDs.more hf h2⟩
 | .lst ds, _, h => by
  unfold RepD at h ⊢
  obtain ⟨a, xs, e, h1, h2⟩ := h
  exact ⟨a, xs, e, h1.more hf, RepDs.more hf h2⟩
theorem RepDs.more {K : uC} {F F' : Addr -> Prop} {H : Hp} {M : HpD} (hf : ∀ a, F' a -> F a \/ H a = none) : ∀ {ds : List D} {vs : List V}, RepDs ⟨K, F⟩ H M ds vs -> RepDs ⟨K, F'⟩ H M ds vs
 | [], _, h => by unfold RepDs at h ⊢; exact h
 | d :: ds, _, h => by
  unfold RepDs at h ⊢
  obtain ⟨x, r, e, h1, h2⟩ := h
  exact ⟨x, r, e, RepD.more hf h1, RepDs.more hf h2⟩
end
theorem FzL.past {K : KF} {H : Hp} {M : HpD} {a p : Addr} {o : HO} {xs : List V} (h : FzL K H M a xs) (hp : K.F p) : FzL K (upd H p o) M a xs := by
 rcases h with ⟨h, m, n⟩ | h
 ·have q : a ≠ p := fun z => n (z ▸ hp)
  refine .inl ⟨?_, m, n⟩
  rcases h with h | ⟨u, h⟩
  ·exact .inl (by rw [jc q]; exact h)
  ·exact .inr ⟨u, by rw [jc q]; exact h⟩
 ·exact .inr h
theorem FzT.past {K : KF} {H : Hp} {M : HpD} {a p : Addr} {o : HO} {xs : List V} (h : FzT K H M a xs) (hp : K.F p) : FzT K (upd H p o) M a xs := by
 rcases h with ⟨h, m, n⟩ | h
 ·have q : a ≠ p := fun z => n (z ▸ hp)
  refine .inl ⟨?_, m, n⟩
  rcases h with h | ⟨u, h⟩
  ·exact .inl (by rw [jc q]; exact h)
  ·exact .inr ⟨u, by rw [jc q]; exact h⟩
 ·exact .inr h
mutual
theorem RepD.past {K : KF} {H : Hp} {M : HpD} {p : Addr} {o : HO} (hp : K.F p) : ∀ {d : D} {v : V}, RepD K H M d v -> RepD K (upd H p o) M d v
 | .non, _, h => by unfold RepD at h ⊢; exact h
 | .bl _, _, h => by unfold RepD at h ⊢; exact h
 | .int _, _, h => by unfold RepD at h ⊢; exact h
 | .str _, _, h => by unfold RepD at h ⊢; exact h
 | .ref _, _, h => by unfold RepD at h ⊢; exact h
 | .ty _, _, h => by unfold RepD at h ⊢; exact h
 | .tup ds, _, h => by
  unfold RepD at h ⊢
  obtain ⟨a, xs, e, h1, h2⟩ := h
  exact ⟨a, xs, e, h1.past hp, RepDs.past hp h2⟩
 | .lst ds, _, h => by
  unfold RepD at h ⊢
  obtain ⟨a, xs, e, h1, h2⟩ := h
  exact ⟨a, xs, e, h1.past hp, RepDs.past hp h2⟩
theorem RepDs.past {K : KF} {H : Hp} {M : HpD} {p : Addr} {o : HO} (hp : K.F p) : ∀ {ds : List D} {vs : List V}, RepDs K H M ds vs -> RepDs K (upd H p o) M ds vs
 | [], _, h => by unfold RepDs at h ⊢; exact h
 | d :: ds, _, h => by
  unfold RepDs at h ⊢
  obtain ⟨x, r, e, h1, h2⟩ := h
  exact ⟨x, r, e, RepD.past hp h1, RepDs.past hp h2⟩
end
theorem RepO.more {K : uC} {F F' : Addr -> Prop} {H : Hp} {M : HpD} (hf : ∀ a, F' a -> F a \/ H a = none) {d : OD} {o : HO} (h : RepO ⟨K, F⟩ H M d o) : RepO ⟨K, F'⟩ H M d o := by
 cases d with
 | lst ds => obtain ⟨xs, e, r⟩ := h; exact ⟨xs, e, r.more hf⟩
 | dct kvs => obtain ⟨vs, e, k, r⟩ := h; exact ⟨vs, e, k, r.more hf⟩
 | tab q => exact TabE.imp h fun c oc u e m n => ⟨e, m, fun z => (hf c z).elim n fun y => by rw [e] at y; cases y⟩
theorem RepO.past {K : KF} {H : Hp} {M : HpD} {p : Addr} {o : HO} (hp : K.F p) {d : OD} {u : HO} (h : RepO K H M d u) : RepO K (upd H p o) M d u := by
 cases d with
 | lst ds => obtain ⟨xs, e, r⟩ := h; exact ⟨xs, e, r.past hp⟩
 | dct kvs => obtain ⟨vs, e, k, r⟩ := h; exact ⟨vs, e, k, r.past hp⟩
 | tab q => exact TabE.imp h fun c oc u e m n => ⟨by rw [jc (fun z => n (by rw [z]; exact hp))]; exact e, m, n⟩
theorem FzL.own {K : uC} {F F' : Addr -> Prop} {H : Hp} {M : HpD} {p a : Addr} {o : OD} {xs : List V} (h : FzL ⟨K, F'⟩ H M a xs) (hp : F' p) (hf : ∀ a, F a -> F' a \/ H a = none) : FzL ⟨K, F⟩ H (jg M p o) a xs := by
 rcases h with ⟨h, m, n⟩ | h
 ·refine .inl ⟨h, by rw [ve (fun (z : a = p) => n (by show F' a; rw [z]; exact hp))]; exact m, fun z => ?_⟩
  rcases hf a z with q | q
  ·exact n q
  ·rcases h with h | ⟨o, h⟩ <;> rw [q] at h <;> cases h
 ·exact .inr h
theorem FzT.own {K : uC} {F F' : Addr -> Prop} {H : Hp} {M : HpD} {p a : Addr} {o : OD} {xs : List V} (h : FzT ⟨K, F'⟩ H M a xs) (hp : F' p) (hf : ∀ a, F a -> F' a \/ H a = none) : FzT ⟨K, F⟩ H (jg M p o) a xs := by
 rcases h with ⟨h, m, n⟩ | h
 ·refine .inl ⟨h, by rw [ve (fun (z : a = p) => n (by show F' a; rw [z]; exact hp))]; exact m, fun z => ?_⟩
  rcases hf a z with q | q
  ·exact n q
  ·rcases h with h | ⟨o, h⟩ <;> rw [q] at h <;> cases h
 ·exact .inr h
mutual
theorem RepD.own {K : uC} {F F' : Addr -> Prop} {H : Hp} {M : HpD} {p : Addr} {o : OD} (hp : F' p) (hf : ∀ a, F a -> F' a \/ H a = none) : ∀ {d : D} {v : V}, RepD ⟨K, F'⟩ H M d v -> RepD ⟨K, F⟩ H (jg M p o) d v
 | .non, _, h => by unfold RepD at h ⊢; exact h
 | .bl _, _, h => by unfold RepD at h ⊢; exact h
 | .int _, _, h => by unfold RepD at h ⊢; exact h
 | .str _, _, h => by unfold RepD at h ⊢; exact h
 | .ref _, _, h => by unfold RepD at h ⊢; exact h
 | .ty _, _, h => by unfold RepD at h ⊢; exact h
 | .tup ds, _, h => by
  unfold RepD at h ⊢
  obtain ⟨a, xs, e, h1, h2⟩ := h
  exact ⟨a, xs, e, h1.own hp hf, RepDs.own hp hf h2⟩
 | .lst ds, _, h => by
  unfold RepD at h ⊢
  obtain ⟨a, xs, e, h1, h2⟩ := h
  exact ⟨a, xs, e, h1.own hp hf, RepDs.own hp hf h2⟩
theorem RepDs.own {K : uC} {F F' : Addr -> Prop} {H : Hp} {M : HpD} {p : Addr} {o : OD} (hp : F' p) (hf : ∀ a, F a -> F' a \/ H a = none) : ∀ {ds : List D} {vs : List V}, RepDs ⟨K, F'⟩ H M ds vs -> RepDs ⟨K, F⟩ H (jg M p o) ds vs
 | [], _, h => by unfold RepDs at h ⊢; exact h
 | d :: ds, _, h => by
  unfold RepDs at h ⊢
  obtain ⟨x, r, e, h1, h2⟩ := h
  exact ⟨x, r, e, RepD.own hp hf h1, RepDs.own hp hf h2⟩
end
theorem RepO.own {K : uC} {F F' : Addr -> Prop} {H : Hp} {M : HpD} {p : Addr} {o : OD} (hp : F' p) (hf : ∀ a, F a -> F' a \/ H a = none) {d : OD} {u : HO} (h : RepO ⟨K, F'⟩ H M d u) : RepO ⟨K, F⟩ H (jg M p o) d u := by
 cases d with
 | lst ds => obtain ⟨xs, e, r⟩ := h; exact ⟨xs, e, r.own hp hf⟩
 | dct kvs => obtain ⟨vs, e, k, r⟩ := h; exact ⟨vs, e, k, r.own hp hf⟩
 | tab q => exact TabE.imp h fun c oc u e m n => ⟨e, by rw [ve (fun (z : c = p) => n (by show F' c; rw [z]; exact hp))]; exact m, fun z => (hf c z).elim n fun y => by rw [e] at y; cases y⟩
theorem RepH.past {K : KF} {H : Hp} {M : HpD} {p : Addr} {o : HO} (hp : K.F p) (h : RepH K H M) : RepH K (upd H p o) M := ⟨fun a d e => by
 obtain ⟨o', e', r⟩ := h.at_ a d e
 have q : a ≠ p := fun z => by rw [z, (h.fb p hp).2] at e; cases e
 exact ⟨o', by rw [jc q]; exact e', r.past hp⟩, fun a ha => ⟨by
 by_cases q : a = p
 ·subst q; exact ⟨o, wf⟩
 ·rw [jc q]; exact (h.fb a ha).1, (h.fb a ha).2⟩⟩
theorem Rel.past {K : KF} {σD : SD} {M : HpD} {σ : St} {H : Hp} {p : Addr} {o : HO} (hp : K.F p) (h : Rel K σD M σ H) : Rel K σD M σ (upd H p o) :=
 ⟨h.len, fun i d e => let ⟨v, e1, e2⟩ := h.st i d e; ⟨v, e1, e2.past hp⟩, h.hp.past hp⟩
theorem PI.wk {X : Cx} {tg e : Expr} {t t' : TI} (h : PI X tg e t) (i : ∀ σ H Q, t' σ H Q -> t σ H Q) : PI X tg e t' := fun pins s σ H Q I q => h pins s σ H Q I (i σ H Q q)
abbrev IDD (X : Cx) (tg e : Expr) (t : TDI) : Prop := PI X tg e (Xa8 X.K t)
@[irreducible] def vae (te : TDE) : TDI := fun σ M R => te σ M fun d M1 => ∃ ds, d = .lst ds /\ R ds M1
theorem waJ {te : TDE} {σ : SD} {M : HpD} {R : List D -> HpD -> Prop} (h : te σ M fun d M1 => ∃ ds, d = .lst ds /\ R ds M1) : vae te σ M R := by unfold vae; exact h
noncomputable def Xx (lo : Int) (n : Nat) : List D := (uv n).map fun (k : Nat) => .int (lo + (k : Int))
theorem ZI {lo : Int} {n i : Nat} {d : D} (h : (Xx lo n)[i]? = some d) : i < n /\ d = .int (lo + i) := by
 unfold Xx at h
 rw [uO] at h
 by_cases hi : i < n
 ·rw [xi hi] at h
  cases h
  exact ⟨hi, rfl⟩
 ·rw [xF (by simpa using hi)] at h
  cases h
theorem Zs {lo : Int} {n : Nat} : (Xx lo n).length = n := by unfold Xx; simp
@[irreducible] def YF (ta : TDA) : TDI := fun σ M R => ta σ M fun vs M1 => ∃ j : Int, vs = [.int j] /\ -(2 ^ 62) <= j /\ j < 2 ^ 62 /\ R (Xx 0 j.toNat) M1
@[irreducible] def kR (ta : TDA) : TDI := fun σ M R => ta σ M fun vs M1 => ∃ i j : Int, vs = [.int i, .int j] /\ (-(2 ^ 62) <= i /\ i < 2 ^ 62 /\ -(2 ^ 62) <= j /\ j < 2 ^ 62) /\ R (Xx i (j - i).toNat) M1
theorem waE {ta : TDA} {σ : SD} {M : HpD} {R : List D -> HpD -> Prop} (h : ta σ M fun vs M1 => ∃ j : Int, vs = [.int j] /\ -(2 ^ 62) <= j /\ j < 2 ^ 62 /\ R (Xx 0 j.toNat) M1) : YF ta σ M R := by unfold YF; exact h
theorem waz {ta : TDA} {σ : SD} {M : HpD} {R : List D -> HpD -> Prop} (h : ta σ M fun vs M1 => ∃ i j : Int, vs = [.int i, .int j] /\ (-(2 ^ 62) <= i /\ i < 2 ^ 62 /\ -(2 ^ 62) <= j /\ j < 2 ^ 62) /\ R (Xx i (j - i).toNat) M1) : kR ta σ M R := by unfold kR; exact h
section
variable {X : Cx} {tg l : Expr} {tl : TDE} {pos p : Pos}
theorem ZaW {K : uC} {F : Addr -> Prop} {H : Hp} {M : HpD} {a : Addr} {xs : List V} {ds : List D} (h : FzL ⟨K, F⟩ H M a xs) (r : RepDs ⟨K, F⟩ H M ds xs) : kaQ K F (Itl K a) ds M H := fun F' i M' H' hf f rh => by
 have h' := ((h.more hf).mono f).sq
 have r' := (r.more hf).mono f
 refine ⟨fun d e => ?_, fun e => ⟨xs, h', by rw [← r'.length]; exact e⟩⟩
 obtain ⟨v, e1, e2⟩ := r'.get e
 refine ⟨⟨xs, v, h', e1⟩, fun x H3 y => ?_⟩
 obtain ⟨rfl, y⟩ := y
 have := y xs h'
 rw [e1] at this; cases this
 exact ⟨.refl, rh, e2⟩
theorem Xax {K : uC} {F : Addr -> Prop} {H : Hp} {M : HpD} {lo : Int} {n : Nat} : kaQ K F (Itr lo n) (Xx lo n) M H := fun F' i M' H' hf f rh => by
 refine ⟨fun d e => ?_, fun e => by rw [Zs] at e; exact e⟩
 obtain ⟨hi, rfl⟩ := ZI e
 refine ⟨hi, fun x H3 y => ?_⟩
 obtain ⟨rfl, rfl⟩ := y
 exact ⟨.refl, rh, by unfold RepD; rfl⟩
theorem vbd (hl : ED X l tl) : IDD X tg l (vae tl) := by
 refine (WaK hl).wk fun σ H R w1_ => w1_.elim fun F z_ => z_.elim fun σD z_ => z_.elim fun M z_ => z_.elim fun RD z_ => z_.elim fun rel z_ => z_.elim fun h p => ?_
 unfold vae at h
 refine lE rel h fun d M1 v H1 f1 rel1 r1 h1 => ?_
 obtain ⟨ds, rfl, q⟩ := h1
 unfold RepD at r1
 obtain ⟨a, xs, rfl, hz, hr⟩ := r1
 exact ⟨a, rfl, ⟨xs, hz.sq⟩, p ds M1 H1 _ f1 rel1.hp (ZaW hz hr) q⟩
theorem Z3 {a : Expr} {ta : TDA} (hg : Gl X "range") (hm : X.mg "range" = none) (ha : AD X [a] ta) (hs : starEach [a] X.env = [(false, eval a X.env)] := by rfl) : IDD X tg (.Call (.Name "range" p) [a] [] pos) (YF ta) := by
 refine (qaZ hg hm ha hs).wk fun σ H R w1_ => w1_.elim fun F z_ => z_.elim fun σD z_ => z_.elim fun M z_ => z_.elim fun RD z_ => z_.elim fun rel z_ => z_.elim fun h p => ?_
 unfold YF at h
 refine lA rel h fun d M1 v H1 f1 rel1 r1 h1 => ?_
 obtain ⟨j, rfl, q1, q2, q⟩ := h1
 obtain ⟨u, rfl, r2⟩ := qV r1
 unfold RepD at r2
 subst r2
 exact ⟨j, rfl, q1, q2, p _ M1 H1 _ f1 rel1.hp Xax q⟩
theorem YaM {a b : Expr} {ta : TDA} (hg : Gl X "range") (hm : X.mg "range" = none) (ha : AD X [a, b] ta) (hs : starEach [a, b] X.env = [(false, eval a X.env), (false, eval b X.env)] := by rfl) (hs2 : starEach [b] X.env = [(false, eval b X.env)] := by rfl) :
  IDD X tg (.Call (.Name "range" p) [a, b] [] pos) (kR ta) := by
 refine (Xa0 hg hm ha hs hs2).wk fun σ H R w1_ => w1_.elim fun F z_ => z_.elim fun σD z_ => z_.elim fun M z_ => z_.elim fun RD z_ => z_.elim fun rel z_ => z_.elim fun h p => ?_
 unfold kR at h
 refine lA rel h fun d M1 v H1 f1 rel1 r1 h1 => ?_
 obtain ⟨i, j, rfl, q1, q⟩ := h1
 obtain ⟨u, w', rfl, r2, r3⟩ := qai r1
 unfold RepD at r2 r3
 subst r2 r3
 exact ⟨i, j, rfl, q1, p _ M1 H1 _ f1 rel1.hp Xax q⟩
end
@[irreducible] def WE (tI : TDI) (g : TDG) (tb : TSD) : TSD := fun DD σ M => tI σ M fun ds M1 => ∃ Pv : Nat -> SD -> HpD -> Prop, Pv 0 σ M1 ∧
 (∀ i d σ M, ds[i]? = some d -> Pv i σ M -> g d σ M fun σ2 M2 => tb { DD with nx := Pv (i + 1), ct := Pv (i + 1), bk := DD.nx } σ2 M2) /\ ∀ σ M, Pv ds.length σ M -> DD.nx σ M
theorem vaY {tI : TDI} {g : TDG} {tb : TSD} {DD : Yx} {σ : SD} {M : HpD} (h : tI σ M fun ds M1 => ∃ Pv : Nat -> SD -> HpD -> Prop, Pv 0 σ M1 ∧
 (∀ i d σ M, ds[i]? = some d -> Pv i σ M -> g d σ M fun σ2 M2 => tb { DD with nx := Pv (i + 1), ct := Pv (i + 1), bk := DD.nx } σ2 M2) /\ ∀ σ M, Pv ds.length σ M -> DD.nx σ M) : WE tI g tb DD σ M := by unfold WE; exact h
@[irreducible] def qI (n : Nat) (tI : TDI) (g : TDG) (tc : TDT) (te : TDE) : TDE := fun σ M Q => tI σ M fun ds M1 => ds.length <= sizeLine /\ ∃ Pv : Nat -> List D -> SD -> HpD -> Prop, Pv 0 [] (uK n none ++ σ) M1 ∧
 (∀ i d ys σ M, ds[i]? = some d -> Pv i ys σ M -> g d σ M fun σ2 M2 => tc σ2 M2 fun b M3 => if b = true then te σ2 M3 fun y M4 => Pv (i + 1) (ys ++ [y]) σ2 M4 else Pv (i + 1) ys σ2 M3) /\ ∀ ys σ M, Pv ds.length ys σ M -> newL ys M Q
theorem Xbb {n : Nat} {tI : TDI} {g : TDG} {tc : TDT} {te : TDE} {σ : SD} {M : HpD} {Q : KD} (h : tI σ M fun ds M1 => ds.length <= sizeLine /\ ∃ Pv : Nat -> List D -> SD -> HpD -> Prop, Pv 0 [] (uK n none ++ σ) M1 ∧
 (∀ i d ys σ M, ds[i]? = some d -> Pv i ys σ M -> g d σ M fun σ2 M2 => tc σ2 M2 fun b M3 => if b = true then te σ2 M3 fun y M4 => Pv (i + 1) (ys ++ [y]) σ2 M4 else Pv (i + 1) ys σ2 M3) /\ ∀ ys σ M, Pv ds.length ys σ M -> newL ys M Q) : qI n tI g tc te σ M Q := by unfold qI; exact h
@[irreducible] def YT : TDT := fun _ M Q => Q true M
theorem jbr {σ : SD} {M : HpD} {Q : Bool -> HpD -> Prop} (h : Q true M) : YT σ M Q := by unfold YT; exact h
section
variable {X : Cx} {tg iter elt : Expr} {ifs : List Expr} {scope : Scope} {body : List Stmt} {tI : TDI} {g : TDG} {tb : TSD} {tc : TDT} {te : TDE} {ts rest : List Str} {pos : Pos}
theorem vax : FD X [] YT := by
 refine pifs_nil.wk fun σ H Q w1_ => w1_.elim fun F z_ => z_.elim fun σD z_ => z_.elim fun M z_ => z_.elim fun QD z_ => z_.elim fun rel z_ => z_.elim fun h p => ?_
 unfold YT at h
 exact p true M H .refl rel.hp h
theorem qa0 {c : Expr} (h : TD X c tc) : FD X [c] tc := wa5 h
theorem vR (hi : IDD X tg iter tI) (hg : GD X tg g) (hb : SsD X body tb) (hp : PassesOwn (model X.prog X.w) X.A X.env X.xe := by exact PassesOwn.never) (hc : X.calm = true := by rfl)
  (hs : ∀ x, foldedSetIterable iter X.env x = pure x := by intro _; rfl) : StD X (.For tg iter body [] pos) (WE tI g tb) := by
 refine (kaX hp hc hi hg hb hs).wk fun D' σ H w1_ => w1_.elim fun F z_ => z_.elim fun σD z_ => z_.elim fun M z_ => z_.elim fun DD z_ => z_.elim fun rel z_ => z_.elim fun h p => ?_
 unfold WE at h
 refine ⟨F, σD, M, _, rel, h, fun ds M1 H1 J f1 rh1 y h1 => ?_⟩
 obtain ⟨Pv, p0, step, done⟩ := h1
 refine ⟨fun i m σ' H' => m = ds.length - i /\ i <= ds.length /\ ∃ σD' M', Rel ⟨X.K, F⟩ σD' M' σ' H' /\ Fz M1 H1 M' H' /\ Pv i σD' M', ⟨ds.length, by simp, ue _, σD, M1, rel.mono f1 rh1, .refl, p0⟩, ?_⟩
 rintro i m σ' H' ⟨rfl, hi, σD', M', rel', f', pv⟩
 by_cases hlt : i < ds.length
 ·have e : ds[i]? = some ds[i] := uG hlt
  obtain ⟨go, yl⟩ := (y F i M' H' (fun _ z => .inl z) f' rel'.hp).1 _ e
  refine .inr ⟨go, fun σ2 H2 => ∃ σD2 M2, Rel ⟨X.K, F⟩ σD2 M2 σ2 H2 /\ Fz M1 H1 M2 H2 /\ Pv (i + 1) σD2 M2, fun σ2 H2 w1_ => w1_.elim fun σD2 z_ => z_.elim fun M2 z_ => z_.elim fun a1 z_ => z_.elim fun a2 a3 => ⟨ds.length - (i + 1), by lia, rfl, hlt, σD2, M2, a1, a2, a3⟩, fun x H2 yy => ?_⟩
  obtain ⟨fy, rhy, ry⟩ := yl x H2 yy
  have rel2 := rel'.mono fy rhy
  refine ⟨F, ds[i], σD', M', _, rel2, ry, step i _ σD' M' e pv, fun σD3 M3 σ3 H3 f3 rel3 h3 => ?_⟩
  have ff := (f'.trans fy).trans f3
  refine lS rel3 h3 ⟨fun a b c d f r q => ⟨a, b, r, ff.trans f, q⟩, (p.mono (f1.trans ff)).rt, fun a b c d f r q => (p.mono (f1.trans ff)).nx a b c d f r q, fun a b c d f r q => ⟨a, b, r, ff.trans f, q⟩⟩
 ·have e : i = ds.length := by lia
  subst e
  exact .inl ⟨(y F _ M' H' (fun _ z => .inl z) f' rel'.hp).2 (uI _), p.nx _ _ _ _ (f1.trans f') rel' (done _ _ pv)⟩
theorem Xan {K : uC} {n : Nat} {σ : St} {H : Hp} {Q : VK} (h : Wh K (qI n tI g tc te) σ H Q) : waw n (Xa8 K tI) (wJ K g) (Zy K tc) (Wh K te) σ H Q := by
 obtain ⟨F, σD, M, QD, rel, h, p⟩ := h
 unfold qI at h
 refine ⟨F, σD, M, _, rel, h, fun ds M1 H1 J f1 rh1 y h1 => ?_⟩
 intro D' hD
 obtain ⟨hsz, Pv, p0, step, done⟩ := h1
 have mD := rh1.free hD
 have fF : ∀ a, (F a \/ a = D') -> F a \/ H1 a = none := fun a z => z.elim .inl fun e => .inr (e ▸ hD)
 have rel1 := rel.mono f1 rh1
 -- the start: D' is forbidden
 have relS : Rel ⟨K, fun a => F a \/ a = D'⟩ (uK n none ++ σD) M1 (uK n none ++ σ) (upd H1 D' (.lst [])) := by
  have r1 : Rel ⟨K, F⟩ (uK n none ++ σD) M1 (uK n none ++ σ) H1 := rel1.pad n
  refine ⟨r1.len, fun i d e => ?_, ⟨fun a o e => ?_, fun a z => ?_⟩⟩
  ·obtain ⟨v, e1, e2⟩ := r1.st i d e
   exact ⟨v, e1, (e2.more fF).mono (qp hD)⟩
  ·obtain ⟨o', e', r⟩ := rh1.at_ a o e
   exact ⟨o', by rw [jc (vc e' hD)]; exact e', (r.more fF).mono (qp hD)⟩
  ·rcases z with z | rfl
   ·obtain ⟨⟨o', e'⟩, m'⟩ := rh1.fb a z
    exact ⟨⟨o', by rw [jc (vc e' hD)]; exact e'⟩, m'⟩
   ·exact ⟨⟨_, wf⟩, mD⟩
 refine ⟨fun i m ys σ' H' => m = ds.length - i /\ i <= ds.length /\ ys.length <= i /\ H' D' = some (.lst ys) /\ ∃ σD' M' ysD, Rel ⟨K, fun a => F a \/ a = D'⟩ σD' M' σ' H' /\ Fz M1 H1 M' H' /\ RepDs ⟨K, fun a => F a \/ a = D'⟩ H' M' ysD ys /\ Pv i ysD σD' M',
  ⟨ds.length, by simp, ue _, ue _, wf, _, M1, [], relS, qp hD, .nil, p0⟩, ?_⟩
 rintro i m ys σ' H' ⟨rfl, hi, hyl, eD, σD', M', ysD, rel', f', ry, pv⟩
 have mD' : M' D' = none := (rel'.hp.fb D' (.inr rfl)).2
 by_cases hlt : i < ds.length
 ·have e : ds[i]? = some ds[i] := uG hlt
  obtain ⟨go, yl⟩ := (y _ i M' H' fF f' rel'.hp).1 _ e
  refine .inr ⟨go, fun x H2 yy => ?_⟩
  obtain ⟨fy, rhy, rx⟩ := yl x H2 yy
  have eD2 := (fy D' _ eD mD').1
  refine ⟨_, ds[i], σD', M', _, rel'.mono fy rhy, rx, step i _ ysD σD' M' e pv, fun σD3 M3 σ3 H3 f3 rel3 h3 => ?_⟩
  refine lT rel3 h3 fun b M4 H4 f4 rel4 h4 => ?_
  have f14 : Fz M1 H1 M4 H4 := ((f'.trans fy).trans f3).trans f4
  have fD4 : Fz M' H' M4 H4 := (fy.trans f3).trans f4
  cases b with
  | false =>
   simp only [uM, if_false] at h4 ⊢
   exact ⟨ds.length - (i + 1), by lia, rfl, hlt, by lia, (fD4 D' _ eD mD').1, σD3, M4, ysD, rel4, f14, ry.mono fD4, h4⟩
  | true =>
   simp only [if_true] at h4 ⊢
   refine lE rel4 h4 fun yd M5 v H5 f5 rel5 r5 h5 => ?_
   have fD5 := fD4.trans f5
   obtain ⟨eD5, mD5⟩ := fD5 D' _ eD mD'
   have hF : (KF.mk K fun a => F a \/ a = D').F D' := .inr rfl
   refine ⟨eD5, by lia, ds.length - (i + 1), by lia, rfl, hlt, by rw [uE, ui]; lia, wf, σD3, M5, ysD ++ [yd], rel5.past hF, fun a o q z => ?_, ((ry.mono fD5).append (.cons r5 .nil)).past hF, h5⟩
   obtain ⟨q1, q2⟩ := (f14.trans f5) a o q z
   exact ⟨by rw [jc (vc q hD)]; exact q1, q2⟩
 ·have e : i = ds.length := by lia
  subst e
  refine .inl ⟨(y _ _ M' H' fF f' rel'.hp).2 (uI _), eD, ?_⟩
  -- the end: D' is jt
  have fL : ∀ a, F a -> (F a \/ a = D') \/ H' a = none := fun a z => .inl (.inl z)
  have rhE : RepH ⟨K, F⟩ H' M' := ⟨fun a o q => by
   obtain ⟨o', e', r⟩ := rel'.hp.at_ a o q
   exact ⟨o', e', r.more fL⟩, fun a z => rel'.hp.fb a (.inl z)⟩
  have hn := done ysD σD' M' pv
  unfold newL at hn
  obtain ⟨hl, hn⟩ := hn
  have nf : ¬ F D' := rh1.nf hD
  rcases hn with hn | hn
  ·exact p _ M' _ H' (f1.trans f') rhE (by unfold RepD; exact ⟨D', ys, rfl, .inl ⟨.inl eD, mD', nf⟩, ry.more fL⟩) hn
  ·refine p _ (jg M' D' (.lst ysD)) _ H' (f1.trans fun a o q z => ?_) ⟨fun a o q => ?_, fun a z => ⟨(rhE.fb a z).1, ?_⟩⟩ (by unfold RepD; rfl) (hn D' mD')
   ·obtain ⟨q1, q2⟩ := f' a o q z
    exact ⟨q1, by rw [ve (vc q hD)]; exact q2⟩
   ·by_cases qa : a = D'
    ·rw [qa, wc] at q; cases q
     rw [qa]
     refine ⟨_, eD, ys, rfl, ?_⟩
     -- what is gathered does not pass through the list itself
     exact RepDs.own (F' := fun a => F a \/ a = D') (.inr rfl) fL ry
    ·rw [ve qa] at q
     obtain ⟨o', e', r⟩ := rel'.hp.at_ a o q
     exact ⟨o', e', RepO.own (F' := fun a => F a \/ a = D') (.inr rfl) fL r⟩
   ·rw [ve (fun (z' : a = D') => nf (by rw [← z']; exact z))]; exact (rhE.fb a z).2
theorem jbf (S : wm X scope ts rest) (hi : IDD X tg iter tI)
  (hg : ∀ fp s H, GD (ke X scope ts rest fp s H) tg g) (ht : ∀ fp s H, FD (ke X scope ts rest fp s H) ifs tc) (he : ∀ fp s H, ED (ke X scope ts rest fp s H) elt te)
  (hc : X.calm = true := by rfl) (hs : ∀ x, foldedSetIterable iter X.env x = pure x := by intro _; rfl) : ED X (.ListComp elt [⟨tg, iter, ifs, 0⟩] scope pos) (qI ts.length tI g tc te) :=
 (XaL (g := wJ X.K g) (tc := Zy X.K tc) (te := Wh X.K te) hc S hi hg ht he hs).wk fun _ _ _ h => Xan h
theorem Zbe (i : Nat) {x : Str} {pos' spos : Pos} (S : wm X scope ts rest) (hi : IDD X tg iter tI)
  (hg : ∀ fp s H, GD (ke X scope ts rest fp s H) tg g) (ht : ∀ fp s H, FD (ke X scope ts rest fp s H) ifs tc) (he : ∀ fp s H, ED (ke X scope ts rest fp s H) elt te)
  (hN : X.N.Nodup) (hx : X.N[i]? = some x) (hl : Loc X.env.scope x) (hc : X.calm = true := by rfl)
  (hsw : swapsWith (.ListComp elt [⟨tg, iter, ifs, 0⟩] scope pos) (some (.Name x pos')) spos.line X.env = pure true := by rfl)
  (hs : ∀ x, foldedSetIterable iter X.env x = pure x := by intro _; rfl) (hf : X.fn x = true \/ X.env.scope.names.lookup x = some .local := by first | exact .inl rfl | exact .inr rfl | assumption) :
  StD X (.Assign [.Name x pos'] (.ListComp elt [⟨tg, iter, ifs, 0⟩] scope pos) spos) (Wc (qI ts.length tI g tc te) (qb i)) := by
 refine (W7 (g := wJ X.K g) (tc := Zy X.K tc) (te := Wh X.K te) hc S hi hg ht he hN hx hl hsw hs hf).wk fun D' σ H w1_ => w1_.elim fun F z_ => z_.elim fun σD z_ => z_.elim fun M z_ => z_.elim fun DD z_ => z_.elim fun rel z_ => z_.elim fun h p => ?_
 unfold Wc at h
 refine Xan ⟨F, σD, M, _, rel, h, fun d M1 v H1 f1 rh1 r1 h1 => ?_⟩
 unfold qb at h1
 exact (p.mono f1).nx _ M1 _ H1 .refl ((rel.mono f1 rh1).set i r1) h1
end
section
variable {X : Cx} {pins : ZPO} {σ : St} {H : Hp} {s : Shared}
theorem qaV {A : Around} {E : ZVP} {a : Addr} {xs : List V} {Q : ZVP} (I : Inv X pins σ H s) (hh : A.handled = none) (hs : SqL X.K H a xs)
  (h : ∀ (it : Addr) (its : List Value), Vals xs its -> Walks X.prog X.w A it [it, a] [it] its.toArray.size (fun i v => its.toArray[i]? = some v) (fun i h => h.IsListIter it a i /\ h.IsList a its.toArray) →
   ∀ s₂ : Shared, (∃ h2, s₂ = { s with heap := h2 } /\ ∀ b o, s.heap.get? b = some o -> h2.get? b = some o) -> (s₂.heap.IsListIter it a 0 /\ s₂.heap.IsList a its.toArray) -> s.heap.objs.size <= it -> (∀ b ∈ [it, a], b < s₂.heap.objs.size) -> Q (.ref it) s₂) : wpAny (model X.prog X.w) A (pyIter (.ref a)) Q E s := by
 obtain ⟨its, rv, p, hz⟩ := I.list hs
 obtain ⟨o, ho, _⟩ := id p.isList
 have ha : a < s.heap.objs.size := uH ho
 refine wpAny_pyIter_list p.isList ?_
 refine h s.heap.objs.size its rv (Walks.list hh _ a (uZ ha) its.toArray) _ ⟨_, rfl, fun b o e => uD _ e⟩ ⟨⟨_, uP _ rfl, rfl, rfl⟩, p.isList.at fun o e => uD _ e⟩ (uI _) fun b hb => ?_
 have hz2 : (s.heap.push { cls := .type "list_iterator", data := .fields #[.ref a, rawInt 0] }).objs.size = s.heap.objs.size + 1 := u3 ..
 rcases uU.mp hb with e | hb
 ·rw [e, u3]; exact Nat.lt_succ_self _
 ·have e : b = a := by simpa using hb
  rw [e, u3]; exact xJ ha
end
section
variable {X : Cx}
theorem qaD {K : KF} {H : Hp} {M : HpD} : ∀ {bs : List Int} {xs : List V}, RepDs K H M (bs.map D.int) xs -> xs = bs.map V.int
 | [], _, h => by unfold RepDs at h; simpa using h
 | b :: r, _, h => by
  rw [uf] at h
  unfold RepDs at h
  obtain ⟨x, r', e, h1, h2⟩ := h
  unfold RepD at h1
  rw [e, h1, qaD h2]; rfl
theorem vaA (bt : Nat -> Nat -> Bool) : ∀ k, argBest bt k <= k
 | 0 => uI _
 | k + 1 => by
  unfold argBest
  split
  ·exact uI _
  ·exact Nat.le_succ_of_le (vaA bt k)
theorem Zaz (f : Nat -> Int) : ∀ k i, i <= k -> f i <= f (argBest (fun i j => decide (f i > f j)) k)
 | 0, i, h => by
  have : i = 0 := by lia
  subst this; exact ul _
 | k + 1, i, h => by
  unfold argBest
  by_cases hb : (decide (f (k + 1) > f (argBest (fun i j => decide (f i > f j)) k))) = true
  ·rw [if_pos hb]
   have hb' : f (k + 1) > f (argBest (fun i j => decide (f i > f j)) k) := of_decide_eq_true hb
   by_cases hi : i = k + 1
   ·subst hi; exact ul _
   ·have := Zaz f k i (by lia); lia
  ·rw [if_neg hb]
   have hb' : ¬ f (k + 1) > f (argBest (fun i j => decide (f i > f j)) k) := fun z => hb (decide_eq_true z)
   by_cases hi : i = k + 1
   ·subst hi; lia
   ·exact Zaz f k i (by lia)
theorem Xac (f : Nat -> Int) : ∀ k i, i <= k -> f (argBest (fun i j => decide (f i < f j)) k) <= f i
 | 0, i, h => by
  have : i = 0 := by lia
  subst this; exact ul _
 | k + 1, i, h => by
  unfold argBest
  by_cases hb : (decide (f (k + 1) < f (argBest (fun i j => decide (f i < f j)) k))) = true
  ·rw [if_pos hb]
   have hb' : f (k + 1) < f (argBest (fun i j => decide (f i < f j)) k) := of_decide_eq_true hb
   by_cases hi : i = k + 1
   ·subst hi; exact ul _
   ·have := Xac f k i (by lia); lia
  ·rw [if_neg hb]
   have hb' : ¬ f (k + 1) < f (argBest (fun i j => decide (f i < f j)) k) := fun z => hb (decide_eq_true z)
   by_cases hi : i = k + 1
   ·subst hi; lia
   ·exact Xac f k i (by lia)
theorem w6 : ∀ {ns : List Int} {us : List Value} {i : Nat} {v : Value}, Vals (ns.map V.int) us -> us.toArray[i]? = some v -> ∃ t, v = .int (ns.getD i 0) t := fun {ns us i v} r e => by
 have hl := r.length
 have hi : i < us.length := by
  have := (Array.getElem?_eq_some_iff.mp e).1
  simpa using this
 have e1 : (ns.map V.int)[i]? = some (.int (ns.getD i 0)) := by
  rw [uB] at hl
  rw [uO, uG (by lia)]
  simp [ua, show i < ns.length by lia]
 obtain ⟨u, e2, ru⟩ := r.get e1
 have e3 : us[i]? = some v := by simpa using e
 rw [e2] at e3; cases e3
 exact ru
theorem WaJ {ns : List Int} {i : Nat} (h : i < ns.length) : ns.getD i 0 = ns[i] := by simp [ua, h]
theorem qa6 {ns : List Int} {i : Nat} (h : i < ns.length) : ns.getD i 0 ∈ ns := by rw [WaJ h]; exact xB h
variable {e d : Expr} {te td : TE} {p pos kpos : Pos}
end
section
variable {X : Cx} {e d : Expr} {te td : TDE} {p pos kpos : Pos}
@[irreducible] def vH (te : TDE) : TDE := fun σ M Q => te σ M fun x M1 => ∃ i, x = .int i /\ Q (.int (-i)) M1
theorem Wbr {te : TDE} {σ : SD} {M : HpD} {Q : KD} (h : te σ M fun x M1 => ∃ i, x = .int i /\ Q (.int (-i)) M1) : vH te σ M Q := by unfold vH; exact h
theorem XS (he : ED X e te) : ED X (.UnaryOp .USub e pos) (vH te) := by
 refine (Ybt Zbl he).wk fun σ H Q w1_ => w1_.elim fun F z_ => z_.elim fun σD z_ => z_.elim fun M z_ => z_.elim fun QD z_ => z_.elim fun rel z_ => z_.elim fun h p => ?_
 unfold vH at h
 refine lE rel h fun d M1 v H1 f1 rel1 r1 h1 => ?_
 obtain ⟨i, rfl, q⟩ := h1
 unfold RepD at r1
 exact ⟨i, r1, p _ M1 _ H1 f1 rel1.hp (by unfold RepD; rfl) q⟩
end
mutual
noncomputable def eqD : D -> D -> Bool
 | .non, .non => true
 | .bl a, .bl b => a == b
 | .int a, .int b => a == b
 | .str a, .str b => a == b
 | .tup a, .tup b => Xr a b
 | .lst a, .lst b => Xr a b
 | _, _ => false
noncomputable def Xr : List D -> List D -> Bool
 | [], [] => true
 | a :: r, b :: s => eqD a b && Xr r s
 | _, _ => false
end
mutual
noncomputable def okD : D -> D -> Bool
 | .non, .non => true
 | .non, .int _ => true
 | .int _, .non => true
 | .non, .str _ => true
 | .str _, .non => true
 | .bl _, .bl _ => true
 | .int _, .int _ => true
 | .str _, .str _ => true
 | .int _, .str _ => true
 | .str _, .int _ => true
 | .tup a, .tup b => WT a b
 | .lst a, .lst b => WT a b
 | _, _ => false
noncomputable def WT : List D -> List D -> Bool
 | a :: r, b :: s => okD a b && WT r s
 | _, _ => true
end
mutual
noncomputable def ZP : D -> Nat
 | .tup a => vC a + 1
 | .lst a => vC a + 1
 | _ => 0
noncomputable def vC : List D -> Nat
 | [] => 0
 | a :: r => max (ZP a) (vC r)
end
theorem vT : ∀ {a b : List D}, Xr a b = true -> a.length = b.length
 | [], [], _ => rfl
 | [], _ :: _, h => by unfold Xr at h; cases h
 | _ :: _, [], h => by unfold Xr at h; cases h
 | a :: r, b :: s, h => by
  unfold Xr at h
  rw [xA] at h
  rw [ub, ub, vT h.2]
theorem jM : ∀ (a b : List D), ((uv (min a.length b.length)).all (fun j => (xW eqD a b).getD j true) && a.length == b.length) = Xr a b
 | [], [] => by unfold Xr; rfl
 | [], _ :: _ => by unfold Xr; rfl
 | _ :: _, [] => by unfold Xr; rfl
 | a :: r, b :: s => by
  have ih := jM r s
  unfold Xr
  rw [← ih]
  rw [show min (a :: r).length (b :: s).length = min r.length s.length + 1 by simp only [ub]; lia, List.range_succ_eq_map, List.all_cons, List.all_map]
  simp only [List.zipWith_cons_cons, List.getD_cons_zero, Function.comp_def, List.getD_cons_succ, ub, Bool.and_assoc]
  congr 1
  congr 1
  rw [yC, beq_iff_eq, beq_iff_eq]
  lia
theorem WZ {a b : List D} (h : a.length = b.length) : ((uv a.length).all fun j => (xW eqD a b).getD j true) = Xr a b := by
 have := jM a b
 rw [← h, Nat.min_self] at this
 rw [← this]
 simp
mutual
theorem Zac : ∀ {d e : D}, okD d e = true -> ∀ {K : KF} {H : Hp} {M : HpD} {v : V}, (∀ a xs ys, SqT K.K H a xs -> SqT K.K H a ys -> xs = ys) -> (∀ a xs ys, SqL K.K H a xs -> SqL K.K H a ys -> xs = ys) -> RepD K H M d v -> RepD K H M e v -> eqD d e = true
 | .non, e, ok, K, H, M, v, i1, i2, r1, r2 => by
  cases e <;> first | (unfold okD at ok; cases ok; done) | (unfold RepD at r1 r2; rw [r1] at r2; cases r2; done) | (unfold eqD; rfl)
 | .bl a, e, ok, K, H, M, v, i1, i2, r1, r2 => by
  cases e <;> first | (unfold okD at ok; cases ok; done) | (unfold RepD at r1 r2; rw [r1] at r2; cases r2; unfold eqD; simp)
 | .int a, e, ok, K, H, M, v, i1, i2, r1, r2 => by
  cases e <;> first | (unfold okD at ok; cases ok; done) | (unfold RepD at r1 r2; rw [r1] at r2; cases r2; unfold eqD; simp) | (unfold RepD at r1 r2; rw [r1] at r2; cases r2)
 | .str a, e, ok, K, H, M, v, i1, i2, r1, r2 => by
  cases e <;> first | (unfold okD at ok; cases ok; done) | (unfold RepD at r1 r2; rw [r1] at r2; cases r2; unfold eqD; simp) | (unfold RepD at r1 r2; rw [r1] at r2; cases r2)
 | .ref a, e, ok, K, H, M, v, i1, i2, r1, r2 => by cases e <;> (unfold okD at ok; cases ok)
 | .ty a, e, ok, K, H, M, v, i1, i2, r1, r2 => by cases e <;> (unfold okD at ok; cases ok)
 | .tup a, e, ok, K, H, M, v, i1, i2, r1, r2 => by
  cases e with
  | tup b =>
   unfold okD at ok
   unfold RepD at r1 r2
   obtain ⟨p, xs, e1, h1, h2⟩ := r1
   obtain ⟨q, ys, e2, h3, h4⟩ := r2
   rw [e1] at e2; cases e2
   have := i1 p xs ys h1.sq h3.sq
   subst this
   unfold eqD
   exact W0 ok i1 i2 h2 h4
  | _ => unfold okD at ok; cases ok
 | .lst a, e, ok, K, H, M, v, i1, i2, r1, r2 => by
  cases e with
  | lst b =>
   unfold okD at ok
   unfold RepD at r1 r2
   obtain ⟨p, xs, e1, h1, h2⟩ := r1
   obtain ⟨q, ys, e2, h3, h4⟩ := r2
   rw [e1] at e2; cases e2
   have := i2 p xs ys h1.sq h3.sq
   subst this
   unfold eqD
   exact W0 ok i1 i2 h2 h4
  | _ => unfold okD at ok; cases ok
theorem W0 : ∀ {d e : List D}, WT d e = true -> ∀ {K : KF} {H : Hp} {M : HpD} {v : List V}, (∀ a xs ys, SqT K.K H a xs -> SqT K.K H a ys -> xs = ys) -> (∀ a xs ys, SqL K.K H a xs -> SqL K.K H a ys -> xs = ys) -> RepDs K H M d v -> RepDs K H M e v -> Xr d e = true
 | [], e, ok, K, H, M, v, i1, i2, r1, r2 => by
  have := r1.length.trans r2.length.symm
  cases e with
  | nil => unfold Xr; rfl
  | cons _ _ => cases this
 | a :: r, e, ok, K, H, M, v, i1, i2, r1, r2 => by
  have := r1.length.trans r2.length.symm
  cases e with
  | nil => cases this
  | cons b s =>
   unfold WT at ok
   rw [xA] at ok
   unfold RepDs at r1 r2
   obtain ⟨x, xr, e1, h1, h2⟩ := r1
   obtain ⟨y, yr, e2, h3, h4⟩ := r2
   rw [e1] at e2; cases e2
   unfold Xr
   rw [Zac ok.1 i1 i2 h1 h3, W0 ok.2 i1 i2 h2 h4]
   rfl
end
section
variable {X : Cx} {pins : ZPO} {σ : St} {H : Hp} {s : Shared} {F : Addr -> Prop} {M : HpD}
mutual
theorem vbt (I : Inv X pins σ H s) : ∀ (d e : D) {x y : V} {u v : Value} (A : Around), okD d e = true -> A.units + ZP d < cLine -> RepD ⟨X.K, F⟩ H M d x -> RepD ⟨X.K, F⟩ H M e y -> RelV x u -> RelV y v -> SeqAt.EqAt A s u v (eqD d e)
 | .non, e, x, y, u, v, A, ok, hu, r1, r2, q1, q2 => by
  unfold RepD at r1; subst r1
  cases e <;> first
   | (unfold okD at ok; cases ok; done)
   | (unfold RepD at r2; subst r2; have z := vX (A := A) (s := s) q1 q2 rfl rfl; unfold eqD; exact z)
 | .bl a, e, x, y, u, v, A, ok, hu, r1, r2, q1, q2 => by
  unfold RepD at r1; subst r1
  cases e <;> first
   | (unfold okD at ok; cases ok; done)
   | (unfold RepD at r2; subst r2; have z := vX (A := A) (s := s) q1 q2 rfl rfl; unfold eqD; exact z)
 | .int a, e, x, y, u, v, A, ok, hu, r1, r2, q1, q2 => by
  unfold RepD at r1; subst r1
  cases e <;> first
   | (unfold okD at ok; cases ok; done)
   | (unfold RepD at r2; subst r2; have z := vX (A := A) (s := s) q1 q2 rfl rfl; unfold eqD; exact z)
 | .str a, e, x, y, u, v, A, ok, hu, r1, r2, q1, q2 => by
  unfold RepD at r1; subst r1
  cases e <;> first
   | (unfold okD at ok; cases ok; done)
   | (unfold RepD at r2; subst r2; have z := vX (A := A) (s := s) q1 q2 rfl rfl; unfold eqD; exact z)
 | .ref a, e, x, y, u, v, A, ok, hu, r1, r2, q1, q2 => by cases e <;> (unfold okD at ok; cases ok)
 | .ty a, e, x, y, u, v, A, ok, hu, r1, r2, q1, q2 => by cases e <;> (unfold okD at ok; cases ok)
 | .tup a, e, x, y, u, v, A, ok, hu, r1, r2, q1, q2 => by
  cases e with
  | tup b =>
   have r1' := r1
   have r2' := r2
   unfold RepD at r1 r2
   obtain ⟨p, xs, rfl, h1, h2⟩ := r1
   obtain ⟨q, ys, rfl, h3, h4⟩ := r2
   cases q1
   cases q2
   by_cases hpq : p = q
   ·subst hpq
    rw [Zac ok (fun a xs ys => I.tuple_inj) (fun a xs ys => I.list_inj) r1' r2']
    exact SeqAt.EqAt.same _
   ·obtain ⟨i1, v1, t1, _⟩ := I.tuple h1.sq
    obtain ⟨i2, v2, t2, _⟩ := I.tuple h3.sq
    unfold okD at ok
    unfold ZP at hu
    have hu1 : A.units < cLine := by lia
    refine SeqAt.EqAt.of_refs hpq ?_
    have := SeqAt.RcAt.tuples (A := A) (s := s) (show s.heap.IsTuple p i1.toArray from t1) (show s.heap.IsTuple q i2.toArray from t2) hu1 (e := fun j => (xW eqD a b).getD j true) fun j z1 z2 =>
     kL I a b A.in1 ok (by show A.units + 1 + vC a < cLine; lia) h2 h4 v1 v2 j _ _ (by simp) (by simp)
    have l1 : i1.toArray.size = a.length := by rw [uJ, ← v1.length, h2.length]
    have l2 : i2.toArray.size = b.length := by rw [uJ, ← v2.length, h4.length]
    rw [l1, l2, jM] at this
    unfold eqD
    exact this
  | _ => unfold okD at ok; cases ok
 | .lst a, e, x, y, u, v, A, ok, hu, r1, r2, q1, q2 => by
  cases e with
  | lst b =>
   have r1' := r1
   have r2' := r2
   unfold RepD at r1 r2
   obtain ⟨p, xs, rfl, h1, h2⟩ := r1
   obtain ⟨q, ys, rfl, h3, h4⟩ := r2
   cases q1
   cases q2
   by_cases hpq : p = q
   ·subst hpq
    rw [Zac ok (fun a xs ys => I.tuple_inj) (fun a xs ys => I.list_inj) r1' r2']
    exact SeqAt.EqAt.same _
   ·obtain ⟨i1, v1, t1, _⟩ := I.list h1.sq
    obtain ⟨i2, v2, t2, _⟩ := I.list h3.sq
    unfold okD at ok
    unfold ZP at hu
    have hu1 : A.units < cLine := by lia
    have l1 : i1.toArray.size = a.length := by rw [uJ, ← v1.length, h2.length]
    have l2 : i2.toArray.size = b.length := by rw [uJ, ← v2.length, h4.length]
    refine SeqAt.EqAt.of_refs hpq ?_
    unfold eqD
    by_cases hl : a.length = b.length
    ·have := SeqAt.RcAt.lists (A := A) (s := s) t1.isList t2.isList (by rw [l1, l2]; exact hl) hu1 (e := fun j => (xW eqD a b).getD j true) fun j z1 z2 =>
      kL I a b A.in1 ok (by show A.units + 1 + vC a < cLine; lia) h2 h4 v1 v2 j _ _ (by simp) (by simp)
     rw [l1, WZ hl] at this
     exact this
    ·rw [show Xr a b = false by
      cases q : Xr a b with
      | false => rfl
      | true => exact absurd (vT q) hl]
     exact SeqAt.RcAt.lists_lengths t1.isList t2.isList (by rw [l1, l2]; simpa using hl) hu1
  | _ => unfold okD at ok; cases ok
theorem kL (I : Inv X pins σ H s) : ∀ (ds es : List D) {xs ys : List V} {us vs : List Value} (A : Around), WT ds es = true -> A.units + vC ds < cLine -> RepDs ⟨X.K, F⟩ H M ds xs -> RepDs ⟨X.K, F⟩ H M es ys -> Vals xs us -> Vals ys vs →
  ∀ (j : Nat) (u v : Value), us[j]? = some u -> vs[j]? = some v -> SeqAt.EqAt A s u v ((xW eqD ds es).getD j true)
 | [], es, xs, ys, us, vs, A, ok, hu, r1, r2, q1, q2, j, u, v, e1, e2 => by
  have := r1.length.trans q1.length
  have hj : j < us.length := (uY.mp e1).1
  rw [← this] at hj
  cases hj
 | d :: ds, [], xs, ys, us, vs, A, ok, hu, r1, r2, q1, q2, j, u, v, e1, e2 => by
  have := r2.length.trans q2.length
  have hj : j < vs.length := (uY.mp e2).1
  rw [← this] at hj
  cases hj
 | d :: ds, e :: es, xs, ys, us, vs, A, ok, hu, r1, r2, q1, q2, j, u, v, e1, e2 => by
  unfold WT at ok
  rw [xA] at ok
  unfold vC at hu
  unfold RepDs at r1 r2
  obtain ⟨x, xr, rfl, h1, h2⟩ := r1
  obtain ⟨y, yr, rfl, h3, h4⟩ := r2
  cases q1 with
  | cons a1 b1 =>
   cases q2 with
   | cons a2 b2 =>
    cases j with
    | zero =>
     simp at e1 e2
     subst e1 e2
     simp only [List.zipWith_cons_cons, List.getD_cons_zero]
     exact vbt I d e A ok.1 (by lia) h1 h3 a1 a2
    | succ j =>
     simp only [List.zipWith_cons_cons, List.getD_cons_succ]
     exact kL I ds es A ok.2 (by lia) h2 h4 b1 b2 j u v (by simpa using e1) (by simpa using e2)
end
end
noncomputable def we : D -> HpD -> D
 | .ref p, M => match M p with | some (.lst ds) => .lst ds | _ => .ref p
 | d, _ => d
noncomputable def okT : D -> D -> Bool
 | .bl _, .bl _ => true
 | .int _, .int _ => true
 | .str _, .str _ => true
 | .tup a, .tup b => WT a b
 | .lst a, .lst b => WT a b
 | _, _ => false
theorem YaD {K : KF} {H : Hp} {M : HpD} {d : D} {v : V} (rh : RepH K H M) (r : RepD K H M d v) : ∃ M', Fz M H M' H /\ RepH K H M' /\ RepD K H M' (we d M) v := by
 cases d with
 | ref p =>
  cases q : M p with
  | none => exact ⟨M, .refl, rh, by simp only [we, q]; exact r⟩
  | some o =>
   cases o with
   | lst ds =>
    refine ⟨Zr M p, wN, rh.del, ?_⟩
    simp only [we, q]
    unfold RepD at r
    subst r
    exact .frz rh q
   | dct kvs => exact ⟨M, .refl, rh, by simp only [we, q]; exact r⟩
   | tab _ => exact ⟨M, .refl, rh, by simp only [we, q]; exact r⟩
 | _ => exact ⟨M, .refl, rh, r⟩
theorem Xaq {K : KF} {H : Hp} {M : HpD} {d e : D} {v u : V} (rh : RepH K H M) (r : RepD K H M d v) (r2 : RepD K H M e u) : ∃ M', Fz M H M' H /\ RepH K H M' /\ RepD K H M' (we d M) v /\ RepD K H M' (we e M) u := by
 obtain ⟨M1, f1, rh1, r1⟩ := YaD rh r
 cases e with
 | ref q =>
  cases z : M q with
  | none => exact ⟨M1, f1, rh1, r1, by simp only [we, z]; exact r2.mono f1⟩
  | some o =>
   cases o with
   | lst es =>
    unfold RepD at r2
    subst r2
    have hv : we (.ref q) M = .lst es := by simp only [we, z]
    rw [hv]
    obtain ⟨o', e', xs, rfl, hr⟩ := rh.at_ q _ z
    refine ⟨Zr M1 q, f1.trans wN, rh1.del, r1.mono wN, ?_⟩
    unfold RepD
    exact ⟨q, xs, rfl, .inl ⟨.inl e', XI, rh.nfM z⟩, (hr.mono f1).mono wN⟩
   | dct kvs => exact ⟨M1, f1, rh1, r1, by simp only [we, z]; exact r2.mono f1⟩
   | tab _ => exact ⟨M1, f1, rh1, r1, by simp only [we, z]; exact r2.mono f1⟩
 | _ => exact ⟨M1, f1, rh1, r1, r2.mono f1⟩
@[irreducible] def jm (neg : Bool) : RD2 := fun x y M Q => okT (we x M) (we y M) = true /\ ZP (we x M) <= 60 /\ Q (.bl (neg ^^ eqD (we x M) (we y M))) M
theorem kaB {neg : Bool} {x y : D} {M : HpD} {Q : KD} (h : okT (we x M) (we y M) = true) (hd : ZP (we x M) <= 60) (q : Q (.bl (neg ^^ eqD (we x M) (we y M))) M) : jm neg x y M Q := by unfold jm; exact ⟨h, hd, q⟩
section
variable {X : Cx} {k : Nat}
theorem wv (hr : Room k X.A) : OpR X (compareOp .Eq) (ql X.K (jm false)) := by
 intro pins s σ H x y u v Q I rx ry h
 obtain ⟨F, d, e, M, QD, r1, r2, rh, hq, p⟩ := h
 unfold jm at hq
 obtain ⟨ok, hd, q⟩ := hq
 have hun := hr.units
 obtain ⟨M1, f1, rh1, r1', r2'⟩ := Xaq rh r1 r2
 have fin : ∀ b : Bool, b = eqD (we d M) (we e M) -> EP X pins σ Q (.bool b) s := fun b hb => by
  subst hb
  exact ⟨.bl _, H, I, rfl, p (.bl (false ^^ eqD (we d M) (we e M))) M _ H .refl rh (by unfold RepD; simp) q⟩
 generalize we d M = d' at *
 generalize we e M = e' at *
 cases d' <;> cases e' <;> first | (unfold okT at ok; cases ok; done) | skip
 ·rename_i a b
  unfold RepD at r1' r2'
  subst r1' r2'
  have q' : QD (.bl (decide (a = b))) M := by
   unfold eqD at q
   rw [xO] at q
   simpa using q
  exact jaQ pins s σ H _ _ u v Q I rx ry ⟨rfl, by rw [kaL]; exact p _ M _ H .refl rh (by unfold RepD; rfl) q'⟩
 ·rename_i a b
  unfold RepD at r1' r2'
  subst r1' r2'
  have q' : QD (.bl (decide (a = b))) M := by
   unfold eqD at q
   rw [xO] at q
   simpa using q
  exact jaQ pins s σ H _ _ u v Q I rx ry ⟨rfl, by rw [XaE]; exact p _ M _ H .refl rh (by unfold RepD; rfl) q'⟩
 ·rename_i a b
  unfold RepD at r1' r2'
  subst r1' r2'
  have q' : QD (.bl (decide (a = b))) M := by
   unfold eqD at q
   rw [xO] at q
   simpa using q
  exact jaQ pins s σ H _ _ u v Q I rx ry ⟨rfl, by rw [kaD]; exact p _ M _ H .refl rh (by unfold RepD; rfl) q'⟩
 ·rename_i a b
  unfold RepD at r1' r2'
  obtain ⟨pa, xs, rfl, h1, h2⟩ := r1'
  obtain ⟨pb, ys, rfl, h3, h4⟩ := r2'
  cases rx
  cases ry
  obtain ⟨i1, v1, t1, _⟩ := I.tuple h1.sq
  obtain ⟨i2, v2, t2, _⟩ := I.tuple h3.sq
  unfold okT at ok
  unfold ZP at hd
  have l1 : i1.toArray.size = a.length := by rw [uJ, ← v1.length, h2.length]
  have l2 : i2.toArray.size = b.length := by rw [uJ, ← v2.length, h4.length]
  refine SeqAt.RcAt.tuples (A := X.A) (s := s) (show s.heap.IsTuple pa i1.toArray from t1) (show s.heap.IsTuple pb i2.toArray from t2) (by lia) (e := fun j => (xW eqD a b).getD j true) (fun j z1 z2 =>
   kL I a b X.A.in1 ok (by show X.A.units + 1 + vC a < cLine; lia) h2 h4 v1 v2 j _ _ (by simp) (by simp)) X.prog X.w X.xe _ ?_
  rw [l1, l2, jM]
  exact fin _ (by unfold eqD; rfl)
 ·rename_i a b
  unfold RepD at r1' r2'
  obtain ⟨pa, xs, rfl, h1, h2⟩ := r1'
  obtain ⟨pb, ys, rfl, h3, h4⟩ := r2'
  cases rx
  cases ry
  obtain ⟨i1, v1, t1, _⟩ := I.list h1.sq
  obtain ⟨i2, v2, t2, _⟩ := I.list h3.sq
  unfold okT at ok
  unfold ZP at hd
  have l1 : i1.toArray.size = a.length := by rw [uJ, ← v1.length, h2.length]
  have l2 : i2.toArray.size = b.length := by rw [uJ, ← v2.length, h4.length]
  by_cases hl : a.length = b.length
  ·refine SeqAt.RcAt.lists (A := X.A) (s := s) t1.isList t2.isList (by rw [l1, l2]; exact hl) (by lia) (e := fun j => (xW eqD a b).getD j true) (fun j z1 z2 =>
    kL I a b X.A.in1 ok (by show X.A.units + 1 + vC a < cLine; lia) h2 h4 v1 v2 j _ _ (by simp) (by simp)) X.prog X.w X.xe _ ?_
   rw [l1, WZ hl]
   exact fin _ (by unfold eqD; rfl)
  ·refine SeqAt.RcAt.lists_lengths t1.isList t2.isList (by rw [l1, l2]; simpa using hl) (by lia) X.prog X.w X.xe _ ?_
   have : Xr a b = false := by
    cases q : Xr a b with
    | false => rfl
    | true => exact absurd (vT q) hl
   exact fin _ (by unfold eqD; rw [this] <;> rfl)
theorem jL (hr : Room k X.A) : OpR X (compareOp .NotEq) (ql X.K (jm true)) := by
 intro pins s σ H x y u v Q I rx ry h
 obtain ⟨F, d, e, M, QD, r1, r2, rh, hq, p⟩ := h
 unfold jm at hq
 obtain ⟨ok, hd, q⟩ := hq
 have hun := hr.units
 obtain ⟨M1, f1, rh1, r1', r2'⟩ := Xaq rh r1 r2
 have fin : ∀ b : Bool, b = !eqD (we d M) (we e M) -> EP X pins σ Q (.bool b) s := fun b hb => by
  subst hb
  exact ⟨.bl _, H, I, rfl, p (.bl (true ^^ eqD (we d M) (we e M))) M _ H .refl rh (by unfold RepD; simp) q⟩
 generalize we d M = d' at *
 generalize we e M = e' at *
 cases d' <;> cases e' <;> first | (unfold okT at ok; cases ok; done) | skip
 ·rename_i a b
  unfold RepD at r1' r2'
  subst r1' r2'
  have q' : QD (.bl (!decide (a = b))) M := by
   unfold eqD at q
   rw [xO] at q
   simpa using q
  exact vaQ pins s σ H _ _ u v Q I rx ry ⟨rfl, by rw [kaL]; exact p _ M _ H .refl rh (by unfold RepD; rfl) q'⟩
 ·rename_i a b
  unfold RepD at r1' r2'
  subst r1' r2'
  have q' : QD (.bl (!decide (a = b))) M := by
   unfold eqD at q
   rw [xO] at q
   simpa using q
  exact vaQ pins s σ H _ _ u v Q I rx ry ⟨rfl, by rw [XaE]; exact p _ M _ H .refl rh (by unfold RepD; rfl) q'⟩
 ·rename_i a b
  unfold RepD at r1' r2'
  subst r1' r2'
  have q' : QD (.bl (!decide (a = b))) M := by
   unfold eqD at q
   rw [xO] at q
   simpa using q
  exact vaQ pins s σ H _ _ u v Q I rx ry ⟨rfl, by rw [kaD]; exact p _ M _ H .refl rh (by unfold RepD; rfl) q'⟩
 ·rename_i a b
  unfold RepD at r1' r2'
  obtain ⟨pa, xs, rfl, h1, h2⟩ := r1'
  obtain ⟨pb, ys, rfl, h3, h4⟩ := r2'
  cases rx
  cases ry
  obtain ⟨i1, v1, t1, _⟩ := I.tuple h1.sq
  obtain ⟨i2, v2, t2, _⟩ := I.tuple h3.sq
  unfold okT at ok
  unfold ZP at hd
  have l1 : i1.toArray.size = a.length := by rw [uJ, ← v1.length, h2.length]
  have l2 : i2.toArray.size = b.length := by rw [uJ, ← v2.length, h4.length]
  refine SeqAt.RcNeAt.tuples (A := X.A) (s := s) (show s.heap.IsTuple pa i1.toArray from t1) (show s.heap.IsTuple pb i2.toArray from t2) (by lia) (e := fun j => (xW eqD a b).getD j true) (fun j z1 z2 =>
   kL I a b X.A.in1 ok (by show X.A.units + 1 + vC a < cLine; lia) h2 h4 v1 v2 j _ _ (by simp) (by simp)) X.prog X.w X.xe _ ?_
  rw [l1, l2, jM]
  exact fin _ (by unfold eqD; rfl)
 ·rename_i a b
  unfold RepD at r1' r2'
  obtain ⟨pa, xs, rfl, h1, h2⟩ := r1'
  obtain ⟨pb, ys, rfl, h3, h4⟩ := r2'
  cases rx
  cases ry
  obtain ⟨i1, v1, t1, _⟩ := I.list h1.sq
  obtain ⟨i2, v2, t2, _⟩ := I.list h3.sq
  unfold okT at ok
  unfold ZP at hd
  have l1 : i1.toArray.size = a.length := by rw [uJ, ← v1.length, h2.length]
  have l2 : i2.toArray.size = b.length := by rw [uJ, ← v2.length, h4.length]
  by_cases hl : a.length = b.length
  ·refine SeqAt.RcNeAt.lists (A := X.A) (s := s) t1.isList t2.isList (by rw [l1, l2]; exact hl) (by lia) (e := fun j => (xW eqD a b).getD j true) (fun j z1 z2 =>
    kL I a b X.A.in1 ok (by show X.A.units + 1 + vC a < cLine; lia) h2 h4 v1 v2 j _ _ (by simp) (by simp)) X.prog X.w X.xe _ ?_
   rw [l1, WZ hl]
   exact fin _ (by unfold eqD; rfl)
  ·refine SeqAt.RcNeAt.lists_lengths t1.isList t2.isList (by rw [l1, l2]; simpa using hl) (by lia) X.prog X.w X.xe _ ?_
   have : Xr a b = false := by
    cases q : Xr a b with
    | false => rfl
    | true => exact absurd (vT q) hl
   exact fin _ (by unfold eqD; rw [this] <;> rfl)
noncomputable def waU : D -> Option String
 | .non => some "NoneType"
 | .bl _ => some "bool"
 | .int _ => some "int"
 | .str _ => some "str"
 | .tup _ => some "tuple"
 | .lst _ => some "list"
 | _ => none
noncomputable def qaf (a b : String) : Bool := a == b || (a == "bool" && b == "int")
noncomputable def plainTys : List String := ["int", "bool", "str", "tuple", "list"]
theorem ZaY (K : uC) : (plainTys ++ ["NoneType"]).all (fun a => plainTys.all fun b => PySem.W.kitOne K (.type a) (.type b) == some (qaf a b)) = true := by
 first | rfl | decide +kernel | simp [plainTys, PySem.W.kitOne]
end
section
variable {X : Cx}
theorem wQ (K : uC) {a b : String} (ha : a ∈ plainTys ++ ["NoneType"]) (hb : b ∈ plainTys) : PySem.W.kitOne K (.type a) (.type b) = some (qaf a b) := by
 have h := ZaY K
 rw [List.all_eq_true] at h
 have h1 := h a ha
 rw [List.all_eq_true] at h1
 exact beq_iff_eq.mp (h1 b hb)
@[irreducible] def ZT : RDn := fun xs M Q => ∃ x n t, xs = [x, .ty n] /\ waU (we x M) = some t /\ n ∈ plainTys /\ Q (.bl (qaf t n)) M
theorem XX {x : D} {n t : String} {M : HpD} {Q : KD} (h : waU (we x M) = some t) (hn : n ∈ plainTys) (q : Q (.bl (qaf t n)) M) : ZT [x, .ty n] M Q := by unfold ZT; exact ⟨x, n, t, rfl, h, hn, q⟩
theorem X0 : CallR X (.builtin "isinstance") (YK X.K ZT) := by
 intro pins s σ H xs us Q I rx h
 obtain ⟨F, ds, M, QD, r, rh, hq, p⟩ := h
 unfold ZT at hq
 obtain ⟨d, n, t, rfl, ht, hn, q⟩ := hq
 obtain ⟨v, w', rfl, r1, r2⟩ := qai r
 unfold RepD at r2
 subst r2
 obtain ⟨u, z, rfl, ru, rz⟩ := wa8 rx
 obtain rfl : z = Value.type n := rz
 obtain ⟨M1, f1, rh1, rv⟩ := YaD rh r1
 have fin : ∀ tk, EP X pins σ Q (.bool (qaf t n)) { s with toks := tk } := fun tk => ⟨.bl _, H, I.tok tk, rfl, p _ M _ H .refl rh (by unfold RepD; rfl) q⟩
 generalize we d M = d' at *
 cases d' with
 | non => cases ht; unfold RepD at rv; subst rv; exact vO I ru .non (wQ _ (by simp [plainTys]) hn) fin
 | bl b => cases ht; unfold RepD at rv; subst rv; exact vO I ru (.bl b) (wQ _ (by simp [plainTys]) hn) fin
 | int b => cases ht; unfold RepD at rv; subst rv; exact vO I ru (.int b) (wQ _ (by simp [plainTys]) hn) fin
 | str b => cases ht; unfold RepD at rv; subst rv; exact vO I ru (.str b) (wQ _ (by simp [plainTys]) hn) fin
 | ref b => cases ht
 | ty b => cases ht
 | tup ds =>
  cases ht
  unfold RepD at rv
  obtain ⟨a, xs, rfl, h1, h2⟩ := rv
  cases (show u = Value.ref a from ru)
  obtain ⟨its, _, ⟨o, e1, e2, _⟩, _⟩ := I.tuple h1.sq
  exact uy PySem.W.kitx_tuple I.kIn ⟨o, e1, e2⟩ (wQ _ (by simp [plainTys]) hn) (fun z => nomatch z) fin
 | lst ds =>
  cases ht
  unfold RepD at rv
  obtain ⟨a, xs, rfl, h1, h2⟩ := rv
  cases (show u = Value.ref a from ru)
  obtain ⟨its, _, pl, _⟩ := I.list h1.sq
  obtain ⟨o, e1, e2, _⟩ := pl.isList
  exact uy PySem.W.kitx_list I.kIn ⟨o, e1, e2⟩ (wQ _ (by simp [plainTys]) hn) (fun z => nomatch z) fin
@[irreducible] def qA (to te : TDE) : TDE := fun σ M Q => to σ M fun x M1 => ∃ p, x = .ref p /\ (∃ ds1, M1 p = some (.lst ds1)) /\ te σ M1 fun y M2 => ∃ ds, M2 p = some (.lst ds) /\ ds.length < sizeLine /\ Q .non (jg M2 p (.lst (ds ++ [y])))
theorem wbl {to te : TDE} {σ : SD} {M : HpD} {Q : KD} (h : to σ M fun x M1 => ∃ p, x = .ref p /\ (∃ ds1, M1 p = some (.lst ds1)) /\ te σ M1 fun y M2 => ∃ ds, M2 p = some (.lst ds) /\ ds.length < sizeLine /\ Q .non (jg M2 p (.lst (ds ++ [y])))) : qA to te σ M Q := by unfold qA; exact h
variable {o e : Expr} {to te : TDE} {apos cpos : Pos}
theorem jR (ho : ED X o to) (he : ED X e te) (hbase : attributeBase o "append" X.env (eval o X.env) = eval o X.env := by rfl)
  (hfew : ((backTo cpos (starEach (e :: []) X.env)).all (fun x => !x.1) && (backToKw cpos (keywordEach [] X.env)).all (fun x => x.1.isSome)
   && decide ((e :: []).length + ([] : List Keyword).length + (if ([] : List Keyword).isEmpty then 0 else 1) < 30)) = true := by rfl)
  (hline : (apos.endLine == cpos.line) = true := by rfl) (hs : starEach (e :: []) X.env = (false, eval e X.env) :: starEach [] X.env := by rfl) (hplain : (backTo cpos (starEach [] X.env)).any (·.1) = false := by rfl) :
  ED X (.Call (.Attribute o "append" apos) [e] [] cpos) (qA to te) := by
 refine (Xav yK PySem.F.slot_list_append PySem.F.type_list_append (r := XaK) qao ho (wB he pa_nil hs) hbase hfew hline hs hplain).wk fun σ H Q h => ?_
 obtain ⟨F, σD, M, QD, rel, h, p⟩ := h
 unfold qA at h
 refine lE rel h fun d M1 v H1 f1 rel1 r1 h1 => ?_
 obtain ⟨l, rfl, ⟨ds1, e1⟩, h1⟩ := h1
 unfold RepD at r1
 subst r1
 obtain ⟨o', e', xs, rfl, hr⟩ := rel1.hp.at_ l _ e1
 refine ⟨.inl ⟨rfl, xs, .inl (.inl e')⟩, ?_⟩
 show Wh X.K te σ H1 _
 refine lE rel1 h1 fun y M2 u H2 f2 rel2 r2 h2 => ?_
 obtain ⟨ds, e2, hl, q⟩ := h2
 obtain ⟨o2, e2', ys, rfl, hr2⟩ := rel2.hp.at_ l _ e2
 have r3 : RepO ⟨X.K, F⟩ H2 M2 (.lst (ds ++ [y])) (.lst (ys ++ [u])) := ⟨_, rfl, hr2.append (.cons r2 .nil)⟩
 exact ⟨l, ys, u, rfl, rfl, e2', by rw [← hr2.length]; exact hl, p _ _ _ _ ((f1.trans f2).trans (wA e2)) (rel2.hp.write e2 r3) (by unfold RepD; rfl) q⟩
end
noncomputable def Xc (N : List Str) (ds : List D) : SD := ds.map some ++ uK (N.length - ds.length) none
theorem ZZ {K : KF} {H : Hp} {M : HpD} {N : List Str} {ds : List D} {vs : List V} (r : RepDs K H M ds vs) (rh : RepH K H M) : Rel K (Xc N ds) M (start N vs) H := by
 have hl := r.length
 refine ⟨by unfold Xc start; simp [hl], fun i d e => ?_, rh⟩
 unfold Xc at e
 by_cases hi : i < ds.length
 ·rw [u4 (by simpa using hi), uO] at e
  cases q : ds[i]? with
  | none => rw [q] at e; cases e
  | some d' =>
   rw [q] at e; cases e
   obtain ⟨v, e1, e2⟩ := r.get q
   refine ⟨v, ?_, e2⟩
   unfold start
   rw [u4 (by rw [uB, ← hl]; exact hi), uO, e1]
   rfl
 ·rw [u2 (by simpa using hi), xm] at e
  split at e <;> cases e
section
variable {P : Program} {w : World} {K : uC} {mg : Str -> Option Value} {base : Heap}
theorem Fun.okD {x qual : Str} {st : Stmt} {f : Addr} {fd : FuncData} {N ps : List Str} {k : Nat} {sp : SpD} {t : TSD} (F : Fun K x qual st f fd) (S : qe N ps (Wb st)) (len : ∀ ds M Q, sp ds M Q -> ds.length = ps.length)
  (hterm : ∀ (cdv : Value) (A : Around) (outer : List Env) (s : Shared) (H : Hp) (E : XK), Room k (A.deeper (envOfC qual (Wb st) s.heap.objs.size f cdv)) →
   SsD (XN CX0 P w K mg base N qual (Wb st) f cdv A outer s H E).nox (jd st) t)
  (hread : ∀ ds M Q, sp ds M Q -> t { nx := fun _ M' => Q .non M', rt := Q } (Xc N ds) M) : qh P w K mg base CX0 (k + 1) f fd ps (jf K sp) := by
 refine F.ok S (fun vs H Q E h => ?_) (fun cdv A outer s H vs Q E hr h => ?_)
 ·obtain ⟨F', ds, M, QD, r, rh, hsp, p⟩ := h
  rw [← r.length]
  exact len _ _ _ hsp
 ·obtain ⟨F', ds, M, QD, r, rh, hsp, p⟩ := h
  refine ⟨wac K t, hterm cdv A outer s H E hr, F', Xc N ds, M, _, ZZ r rh, hread ds M QD hsp, ⟨fun σD' M' σ' H' f rel q => p _ M' _ H' f rel.hp (by unfold RepD; rfl) q, p, fun _ _ _ _ _ _ h => h.elim, fun _ _ _ _ _ _ h => h.elim⟩⟩
theorem Fun.cal {x qual : Str} {st : Stmt} {f : Addr} {fd : FuncData} {ps : List Str} {k : Nat} {sp : SpD} (F : Fun K x qual st f fd) (ok : qh P w K mg base CX0 k f fd ps (jf K sp)) (hm : mg x = some (.ref f)) (hb : Binds K fd ps []) : Cal P w K mg base x k sp :=
 ⟨f, fd, ps, ok, hm, F.kp, hb⟩
end
noncomputable def vF (scope out : Scope) (N ts rest : List Str) : Bool :=
 scope.kind == .function && scope.names.all (fun y => scope.names.lookup y.1 == some y.2) &&
 scope.names.all (fun y => y.2 != .free || out.names.lookup y.1 == some .cell || out.names.lookup y.1 == some .free) && rest.length == N.length &&
 (rest.zip N).all (fun q => match scope.names.lookup q.1 with | none => true | some .free => q.1 == q.2 | some .local => false | some .cell => false | _ => true) && decide (ts ++ rest).Nodup
theorem kC {X : Cx} {scope out : Scope} {N ts rest : List Str} (h : vF scope out N ts rest = true) (hs : X.env.scope.names = out.names := by rfl) (hN : X.N = N := by rfl) : wm X scope ts rest := by
 unfold vF at h
 simp only [xA] at h
 obtain ⟨⟨⟨⟨⟨h1, h2⟩, h3⟩, h4⟩, h5⟩, h6⟩ := h
 rw [List.all_eq_true] at h2 h3 h5
 have look : ∀ y ∈ scope.names, scope.names.lookup y.1 = some y.2 := fun y hy => beq_iff_eq.mp (h2 y hy)
 refine ⟨beq_iff_eq.mp h1, fun y hy e => by rw [look y hy, e], fun y hy e => ?_, look, by rw [hN]; exact beq_iff_eq.mp h4, fun i x e => ?_, of_decide_eq_true h6⟩
 ·have := h3 y hy
  rw [e] at this
  simp only [bne_self_eq_false, Bool.false_or, Bool.or_eq_true, beq_iff_eq] at this
  show X.env.scope.names.lookup y.1 = _ \/ X.env.scope.names.lookup y.1 = _
  rw [hs]
  exact this
 ·have hi : i < rest.length := (uY.mp e).1
  have hl : rest.length = N.length := beq_iff_eq.mp h4
  have hz : (rest.zip N)[i]? = some (x, N[i]'(by lia)) := by
   rw [List.getElem?_zip_eq_some]
   exact ⟨e, uG (by lia)⟩
  have := h5 _ (xT hz)
  cases q : scope.names.lookup x with
  | none => exact .inl rfl
  | some k =>
   rw [show scope.names.lookup (x, N[i]'(by lia)).1 = some k from q] at this
   cases k with
   | free =>
    refine .inr (.inl ⟨rfl, ?_⟩)
    have : x = N[i]'(by lia) := beq_iff_eq.mp this
    rw [hN, uG (by lia)]
    exact congrArg some this.symm
   | «local» => cases this
   | cell => cases this
   | _ => exact .inr (.inr ⟨_, rfl, by decide, by decide, by decide⟩)
abbrev jh : RD2 := rIN fun i j => .int (i + j)
abbrev qE : RD2 := rIN fun i j => .int (i - j)
abbrev YD : RD2 := rID CMul fun i j => .int (i * j)
abbrev jaP : RD2 := rID va6 fun i j => .int (i / j)
abbrev kK : RD2 := rID (fun _ j => 0 < j) fun i j => .int (i % j)
abbrev Ya8 : RD2 := rID Ya7 fun i j => .int (i ^ j.toNat)
abbrev Ya4 : RD2 := rIN fun i j => .bl (decide (i < j))
abbrev wU : RD2 := rIN fun i j => .bl (decide (i <= j))
abbrev Waa : RD2 := rIN fun i j => .bl (decide (j < i))
abbrev ja1 : RD2 := rIN fun i j => .bl (decide (j <= i))
end L2
namespace L2
open PySem PySem.W PyProof.Rows
def okS {α : Type} (lt : Nat -> Nat -> Bool) (n : Nat) : KasT α -> (α -> Prop) -> Prop
 | .ret a, P => P a
 | .ask i j k, P => i < n /\ j < n /\ okS lt n (k (lt i j)) P
theorem wq {α : Type} {lt : Nat -> Nat -> Bool} {n : Nat} {P P' : α -> Prop} (h : ∀ a, P a -> P' a) : ∀ (t : KasT α), okS lt n t P -> okS lt n t P'
 | .ret a, z => h a z
 | .ask i j k, ⟨z1, z2, z⟩ => ⟨z1, z2, wq h (k (lt i j)) z⟩
theorem wF {α β : Type} {lt : Nat -> Nat -> Bool} {n : Nat} {f : α -> KasT β} {P : β -> Prop} : ∀ (t : KasT α), okS lt n t (fun a => okS lt n (f a) P) -> okS lt n (t.bind f) P
 | .ret _, z => z
 | .ask i j k, ⟨z1, z2, z⟩ => ⟨z1, z2, wF (k (lt i j)) z⟩
theorem kaR {α : Type} {lt : Nat -> Nat -> Bool} {n : Nat} {s : Shared} {cmp : Nat -> Nat -> (Bool -> Shared -> Prop) -> Shared -> Prop} (hc : ∀ i j, i < n -> j < n -> ∀ C : Bool -> Shared -> Prop, C (lt i j) s -> cmp i j C s) {Q : α -> Shared -> Prop} : ∀ (t : KasT α), okS lt n t (fun a => Q a s) -> t.kasWp cmp Q s
 | .ret _, z => z
 | .ask i j k, ⟨z1, z2, z⟩ => hc i j z1 z2 _ (kaR hc (k (lt i j)) z)
section
variable {r : Nat -> Int} {n : Nat}
def PermN (n : Nat) (p : Array Nat) : Prop := p.Perm (uv n).toArray
theorem PermN.size {p : Array Nat} (h : PermN n p) : p.size = n := by
 have := h.size_eq
 simpa using this
theorem PermN.lt {p : Array Nat} (h : PermN n p) {k : Nat} (hk : k < n) : p.getD k 0 < n := by
 have hs := h.size
 have hk' : k < p.size := by lia
 have e : p.getD k 0 = p[k] := by simp [Array.getD, hk']
 have m : p[k] ∈ (uv n).toArray := h.mem_iff.mp (xz hk')
 rw [e]
 simpa using m
noncomputable def rkV (r : Nat -> Int) (p : Array Nat) (k : Nat) : Int := r (p.getD k 0)
def Srt (r : Nat -> Int) (p : Array Nat) (m : Nat) : Prop := ∀ i j, i <= j -> j < m -> rkV r p i <= rkV r p j
def qaA (r : Nat -> Int) (p : Array Nat) (m : Nat) : Prop := ∀ i j, i <= j -> j < m -> rkV r p j <= rkV r p i
def Lev (r : Nat -> Int) (p : Array Nat) (a b : Nat) : Prop := ∀ k, a <= k -> k < b -> rkV r p k = rkV r p (b - 1)
theorem vQ {p q : Array Nat} {i j : Nat} (h : p[i]? = q[j]?) : p.getD i 0 = q.getD j 0 := by
 rw [x4, x4, h]
theorem Wam {p : Array Nat} {i j : Nat} (hj : j <= p.size) (k : Nat) : rkV r (kas_rev p i j) k = if i <= k /\ k < j then rkV r p (i + j - 1 - k) else rkV r p k := by
 have e := getElem?_mirror_all (i := i) hj k
 unfold rkV kas_rev
 by_cases h : i <= k /\ k < j
 ·rw [if_pos h] at e ⊢; rw [vQ e]
 ·rw [if_neg h] at e ⊢; rw [vQ e]
theorem vaj {p : Array Nat} {i j : Nat} (hj : j <= p.size) (h : Lev r p i j) (k : Nat) : rkV r (kas_rev p i j) k = rkV r p k := by
 rw [Wam hj]
 by_cases z : i <= k /\ k < j
 ·rw [if_pos z, h _ (by lia) (by lia), h k z.1 z.2]
 ·rw [if_neg z]
theorem PermN.rev {p : Array Nat} (h : PermN n p) (i j : Nat) : PermN n (kas_rev p i j) := (mirror_perm _ _ _ _).trans h
theorem jaJ {p : Array Nat} {k l : Nat} (hk : k < p.size) (hl : l <= k) (i : Nat) : rkV r (bubble p k (k - l)) i = if i = l then rkV r p k else if l < i /\ i <= k then rkV r p (i - 1) else rkV r p i := by
 have e := getElem?_bubble hk (k - l) (by lia) i
 rw [show k - (k - l) = l by lia] at e
 unfold rkV
 by_cases h : i = l
 ·rw [if_pos h] at e ⊢; rw [vQ e]
 ·rw [if_neg h] at e ⊢
  by_cases h2 : l < i /\ i <= k
  ·rw [if_pos h2] at e ⊢; rw [vQ e]
  ·rw [if_neg h2] at e ⊢; rw [vQ e]
noncomputable abbrev rlt (r : Nat -> Int) : Nat -> Nat -> Bool := fun i j => decide (r i < r j)
theorem ZaE {p : Array Nat} (hp : PermN n p) : ∀ (f m : Nat), 1 <= m -> m + f <= n -> Srt r p m -> okS (rlt r) n (kas_asc p f m) (fun m' => m <= m' /\ m' <= m + f /\ Srt r p m' /\ (m' < m + f -> rkV r p m' < rkV r p (m' - 1)))
 | 0, m, _, _, hs => ⟨uI _, uI _, hs, fun z => absurd z (by lia)⟩
 | f + 1, m, h1, h2, hs => by
  unfold kas_asc
  refine ⟨hp.lt (by lia), hp.lt (by lia), ?_⟩
  by_cases c : rkV r p m < rkV r p (m - 1)
  ·rw [show rlt r (p.getD m 0) (p.getD (m - 1) 0) = true from decide_eq_true c]; dsimp only; rw [if_pos rfl]
   exact ⟨uI _, by lia, hs, fun _ => c⟩
  ·rw [show rlt r (p.getD m 0) (p.getD (m - 1) 0) = false from decide_eq_false c]; dsimp only; rw [if_neg uF]
   refine wq ?_ _ (ZaE hp f (m + 1) (by lia) (by lia) fun i j hij hj => ?_)
   ·rintro a ⟨z1, z2, z3, z4⟩
    exact ⟨by lia, by lia, z3, fun z => z4 (by lia)⟩
   ·by_cases z : j = m
    ·subst z
     by_cases y : i = j
     ·rw [y]; exact ul _
     ·have := hs i (j - 1) (by lia) (by lia)
      lia
    ·exact hs i j hij (by lia)
theorem W2 : ∀ (f : Nat) (p : Array Nat) (m q : Nat), PermN n p -> q + 1 <= m -> m + f <= n -> qaA r p m -> Lev r p (m - (q + 1)) m -> okS (rlt r) n (kas_desc f p m q) (fun t => PermN n t.1 /\ t.2.2 + 1 <= t.2.1 /\ m <= t.2.1 /\ t.2.1 <= m + f /\ qaA r t.1 t.2.1 /\ Lev r t.1 (t.2.1 - (t.2.2 + 1)) t.2.1)
 | 0, p, m, q, hp, h1, h2, hf, hl => ⟨hp, h1, uI _, uI _, hf, hl⟩
 | f + 1, p, m, q, hp, h1, h2, hf, hl => by
  unfold kas_desc
  refine ⟨hp.lt (by lia), hp.lt (by lia), ?_⟩
  have hz := hp.size
  by_cases c : rkV r p m < rkV r p (m - 1)
  ·rw [show rlt r (p.getD m 0) (p.getD (m - 1) 0) = true from decide_eq_true c]; dsimp only; rw [if_pos rfl]
   have hf2 : qaA r p (m + 1) := fun i j hij hj => by
    by_cases z : j = m
    ·subst z
     by_cases y : i = j
     ·rw [y]; exact ul _
     ·have := hf i (j - 1) (by lia) (by lia)
      lia
    ·exact hf i j hij (by lia)
   by_cases hq : q > 0
   ·rw [if_pos hq]
    have ev := vaj (r := r) (p := p) (i := m - (q + 1)) (j := m) (by lia) hl
    refine wq ?_ _ (W2 f (kas_rev p (m - (q + 1)) m) (m + 1) 0 (hp.rev _ _) (by lia) (by lia) (fun i j hij hj => ?_) (fun k z1 z2 => ?_))
    ·rintro a ⟨z1, z2, z3, z4, z5⟩
     exact ⟨z1, z2, by lia, by lia, z5⟩
    ·rw [ev, ev]; exact hf2 i j hij hj
    ·rw [show k = m + 1 - 1 by lia]
   ·rw [if_neg hq]
    refine wq ?_ _ (W2 f p (m + 1) 0 hp (by lia) (by lia) hf2 (fun k z1 z2 => ?_))
    ·rintro a ⟨z1, z2, z3, z4, z5⟩
     exact ⟨z1, z2, by lia, by lia, z5⟩
    ·rw [show k = m + 1 - 1 by lia]
  ·rw [show rlt r (p.getD m 0) (p.getD (m - 1) 0) = false from decide_eq_false c]; dsimp only; rw [if_neg uF]
   refine ⟨hp.lt (by lia), hp.lt (by lia), ?_⟩
   by_cases d : rkV r p (m - 1) < rkV r p m
   ·rw [show rlt r (p.getD (m - 1) 0) (p.getD m 0) = true from decide_eq_true d]; dsimp only; rw [if_pos rfl]
    exact ⟨hp, h1, uI _, by show m <= m + (f + 1); lia, hf, hl⟩
   ·rw [show rlt r (p.getD (m - 1) 0) (p.getD m 0) = false from decide_eq_false d]; dsimp only; rw [if_neg uF]
    refine wq ?_ _ (W2 f p (m + 1) (q + 1) hp (by lia) (by lia) (fun i j hij hj => ?_) (fun k z1 z2 => ?_))
    ·rintro a ⟨z1, z2, z3, z4, z5⟩
     exact ⟨z1, z2, by lia, by lia, z5⟩
    ·by_cases z : j = m
     ·subst z
      by_cases y : i = j
      ·rw [y]; exact ul _
      ·have := hf i (j - 1) (by lia) (by lia)
       lia
     ·exact hf i j hij (by lia)
    ·rw [show m + 1 - 1 = m by lia]
     by_cases y : k = m
     ·rw [y]
     ·have := hl k (by lia) (by lia)
      lia
theorem XaA {p : Array Nat} (hp : PermN n p) {m : Nat} (h1 : 1 <= m) (h2 : m <= n) (hf : qaA r p m) : okS (rlt r) n (kas_tail3 m n p) (fun t => PermN n t.2 /\ t.1 <= n /\ Srt r t.2 t.1) := by
 unfold kas_tail3
 have hz := hp.size
 have hs : Srt r (kas_rev p 0 m) m := fun i j hij hj => by
  rw [Wam (by lia), Wam (by lia), if_pos (by lia), if_pos (by lia)]
  exact hf _ _ (by lia) (by lia)
 refine wF _ (wq ?_ _ (ZaE (hp.rev 0 m) (n - m) m h1 (by lia) hs))
 rintro a ⟨z1, z2, z3, _⟩
 exact ⟨hp.rev 0 m, by show a <= n; lia, z3⟩
theorem Z8 {p : Array Nat} (hp : PermN n p) {m : Nat} (h1 : 1 <= m) (h2 : m + 1 <= n) (hf : qaA r p (m + 1)) : okS (rlt r) n (kas_descPart m n p) (fun t => PermN n t.2 /\ t.1 <= n /\ Srt r t.2 t.1) := by
 unfold kas_descPart
 refine wF _ (wq ?_ _ (W2 (n - (m + 1)) p (m + 1) 0 hp (by lia) (by lia) hf (fun k z1 z2 => by rw [show k = m + 1 - 1 by lia])))
 rintro ⟨p', m', q⟩ ⟨z1, z2, z3, z4, z5, z6⟩
 dsimp only at *
 have hz := z1.size
 by_cases hq : q > 0
 ·rw [if_pos hq]
  have ev := vaj (r := r) (p := p') (i := m' - (q + 1)) (j := m') (by lia) z6
  exact XaA (z1.rev _ _) (by lia) (by lia) fun i j hij hj => by rw [ev, ev]; exact z5 i j hij hj
 ·rw [if_neg hq]
  exact XaA z1 (by lia) (by lia) z5
theorem Xa7 {p : Array Nat} (hp : PermN n p) (hn : 1 <= n) : okS (rlt r) n (kas_count n p) (fun t => PermN n t.2 /\ t.1 <= n /\ Srt r t.2 t.1) := by
 unfold kas_count
 have hz := hp.size
 refine wF _ (wq ?_ _ (ZaE hp (n - 1) 1 (uI _) (by lia) (fun i j hij hj => by rw [show i = j by lia]; exact ul _)))
 rintro m ⟨z1, z2, z3, z4⟩
 by_cases h : m = n
 ·rw [if_pos (by rw [h]; exact beq_self_eq_true n)]
  exact ⟨hp, by show m <= n; lia, z3⟩
 ·rw [if_neg (by intro z; exact h (beq_iff_eq.mp z))]
  have lt := z4 (by lia)
  by_cases h1 : m > 1
  ·rw [if_pos h1]
   refine ⟨hp.lt (by lia), hp.lt (by lia), ?_⟩
   by_cases c : rkV r p 0 < rkV r p (m - 1)
   ·rw [show rlt r (p.getD 0 0) (p.getD (m - 1) 0) = true from decide_eq_true c]; dsimp only; rw [if_pos rfl]
    exact ⟨hp, by show m <= n; lia, z3⟩
   ·rw [show rlt r (p.getD 0 0) (p.getD (m - 1) 0) = false from decide_eq_false c]; dsimp only; rw [if_neg uF]
    have hl : Lev r p 0 m := fun k y1 y2 => by
     have := z3 0 k (by lia) y2
     have := z3 k (m - 1) (by lia) (by lia)
     lia
    have ev := vaj (r := r) (p := p) (i := 0) (j := m) (by lia) hl
    refine Z8 (hp.rev _ _) (by lia) (by lia) fun i j hij hj => ?_
    rw [ev, ev]
    by_cases y : j = m
    ·by_cases y2 : i = m
     ·rw [y, y2]; exact ul _
     ·have := hl i (by lia) (by lia)
      rw [y]; lia
    ·have := hl i (by lia) (by lia)
     have := hl j (by lia) (by lia)
     lia
  ·rw [if_neg h1]
   have : m = 1 := by lia
   subst this
   refine Z8 hp (by lia) (by lia) fun i j hij hj => ?_
   by_cases y : i = j
   ·rw [y]; exact ul _
   ·rw [show j = 1 by lia, show i = 0 by lia]
    exact xN lt
theorem Xaa {p : Array Nat} (hp : PermN n p) {k : Nat} (hk : k < n) (hs : Srt r p k) : ∀ (f l u : Nat), l <= u -> u <= k -> u - l <= f -> (∀ i, i < l -> rkV r p i <= rkV r p k) -> (∀ i, u <= i -> i < k -> rkV r p k < rkV r p i) →
  okS (rlt r) n (kas_place p k f l u) (fun l' => l' <= k /\ (∀ i, i < l' -> rkV r p i <= rkV r p k) /\ ∀ i, l' <= i -> i < k -> rkV r p k < rkV r p i)
 | 0, l, u, h1, h2, h3, a, b => by
  unfold kas_place
  have : l = u := by lia
  subst this
  exact ⟨h2, a, b⟩
 | f + 1, l, u, h1, h2, h3, a, b => by
  unfold kas_place
  by_cases h : l ≥ u
  ·rw [if_pos h]
   have : l = u := by lia
   subst this
   exact ⟨h2, a, b⟩
  ·rw [if_neg h]
   refine ⟨hp.lt hk, hp.lt (by lia), ?_⟩
   by_cases c : rkV r p k < rkV r p ((l + u) / 2)
   ·rw [show rlt r (p.getD k 0) (p.getD ((l + u) / 2) 0) = true from decide_eq_true c]; dsimp only; rw [if_pos rfl]
    refine Xaa hp hk hs f l ((l + u) / 2) (by lia) (by lia) (by lia) a fun i y1 y2 => ?_
    have := hs ((l + u) / 2) i y1 y2
    lia
   ·rw [show rlt r (p.getD k 0) (p.getD ((l + u) / 2) 0) = false from decide_eq_false c]; dsimp only; rw [if_neg uF]
    refine Xaa hp hk hs f ((l + u) / 2 + 1) u (by lia) h2 (by lia) (fun i y => ?_) b
    have := hs i ((l + u) / 2) (by lia) (by lia)
    lia
theorem jaW : ∀ (f : Nat) (p : Array Nat) (k : Nat), PermN n p -> Srt r p k -> k + f = n -> okS (rlt r) n (kas_bin f p k) (fun p' => PermN n p' /\ Srt r p' n)
 | 0, p, k, hp, hs, hn => ⟨hp, by rw [show n = k by lia]; exact hs⟩
 | f + 1, p, k, hp, hs, hn => by
  unfold kas_bin
  have hz := hp.size
  refine wF _ (wq ?_ _ (Xaa hp (k := k) (by lia) hs k 0 k (ue _) (uI _) (by lia) (fun i z => absurd z (by lia)) (fun i z1 z2 => absurd z1 (by lia))))
  rintro l ⟨z1, z2, z3⟩
  refine jaW f (bubble p k (k - l)) (k + 1) ((bubble_perm _ _ _).trans hp) (fun i j hij hj => ?_) (by lia)
  rw [jaJ (by lia) z1, jaJ (by lia) z1]
  by_cases ei : i = l
  ·rw [if_pos ei]
   by_cases ej : j = l
   ·rw [if_pos ej]; exact ul _
   ·rw [if_neg ej, if_pos (by lia)]
    exact xN (z3 _ (by lia) (by lia))
  ·rw [if_neg ei]
   by_cases ej : j = l
   ·rw [if_pos ej, if_neg (by lia)]
    exact z2 _ (by lia)
   ·rw [if_neg ej]
    by_cases ci : l < i /\ i <= k
    ·rw [if_pos ci, if_pos (by lia)]
     exact hs _ _ (by lia) (by lia)
    ·rw [if_neg ci]
     by_cases cj : l < j /\ j <= k
     ·rw [if_pos cj]
      exact hs _ _ (by lia) (by lia)
     ·rw [if_neg cj]
      exact hs _ _ (by lia) (by lia)
theorem qbb (hn : 1 <= n) : okS (rlt r) n (kas_sort n) (fun p => PermN n p /\ Srt r p n) := by
 unfold kas_sort
 refine wF _ (wq ?_ _ (Xa7 (Array.Perm.refl _) hn))
 rintro ⟨m, p⟩ ⟨z1, z2, z3⟩
 dsimp only at *
 by_cases h : m < n
 ·rw [if_pos h]
  refine jaW _ _ _ z1 (fun i j hij hj => ?_) (by lia)
  by_cases y : i = j
  ·rw [y]; exact ul _
  ·exact z3 i j hij (by lia)
 ·rw [if_neg h]
  exact ⟨z1, by rw [show n = m by lia]; exact z3⟩
end
section
variable {prog : Program} {w : World} {A : Around} {E : ZVP} {s : Shared}
noncomputable def qj (vs : List Value) (p : Array Nat) : Array Value := (p.toList.map fun i => vs.getD i Value.none).toArray
theorem kU (vs : List Value) : qj vs (uv vs.length).toArray = vs.toArray := by
 unfold qj
 congr 1
 apply List.ext_getElem?
 intro i
 rw [uO]
 by_cases h : i < vs.length
 ·rw [xi h, uG h]
  simp [ua, h]
 ·rw [xF (by simp; lia), xF (by lia)]
  rfl
def wa9 (prog : Program) (w : World) (A : Around) (s : Shared) (vs ks : List Value) (a : Addr) (r : Nat -> Int) : Prop :=
 2 <= vs.length -> ∀ h' : Heap, (∀ b o, b ≠ a -> s.heap.get? b = some o -> h'.get? b = some o) -> ∃ κ : SortKind,
  (∀ (Q : SortKind -> Shared -> Prop) (E : ZVP), Q κ { s with heap := h' } -> wpAny (model prog w) A (keyKind' ks.toArray) Q E { s with heap := h' }) ∧
  ∀ i j, i < vs.length -> j < vs.length -> ∀ C : Bool -> Shared -> Prop, C (rlt r i j) { s with heap := h' } -> wpAny (model prog w) A (keyLt' κ (ks.getD i Value.none) (ks.getD j Value.none)) C (fun _ _ => False) { s with heap := h' }
end
end L2
namespace L2
open PySem PySem.Spec PyProof.Rows
theorem Waq {α : Type} (as : List α) : ∀ n : Nat, (uv n).filterMap (fun i => as[i]?) = as.take n
 | 0 => rfl
 | n + 1 => by
  rw [List.range_succ, List.filterMap_append, Waq as n, u1]
  congr 1
theorem waM {α : Type} (as : List α) : (uv as.length).filterMap (fun i => as[i]?) = as := by
 rw [Waq, xG]
section
variable {K : KF} {H : Hp} {M : HpD}
theorem Xaz {ds : List D} {xs : List V} (r : RepDs K H M ds xs) : ∀ (l : List Nat), (∀ i ∈ l, i < ds.length) -> RepDs K H M (l.filterMap fun i => ds[i]?) (l.filterMap fun i => xs[i]?)
 | [], _ => .nil
 | i :: l, h => by
  have hi := h i ug
  obtain ⟨x, e1, r1⟩ := r.get (uG hi)
  rw [List.filterMap_cons_some (uG hi), List.filterMap_cons_some e1]
  exact .cons r1 (Xaz r l fun j hj => h j (uQ _ hj))
theorem vao {xs : List V} {us : List Value} (q : Vals xs us) : ∀ (l : List Nat), (∀ i ∈ l, i < xs.length) -> Vals (l.filterMap fun i => xs[i]?) (l.map fun i => us.getD i Value.none)
 | [], _ => .nil
 | i :: l, h => by
  have hi := h i ug
  obtain ⟨u, e1, r1⟩ := q.get (uG hi)
  rw [List.filterMap_cons_some (uG hi), uf, ua, e1]
  exact .cons r1 (vao q l fun j hj => h j (uQ _ hj))
end
theorem qa4 {α : Type} (enc : α -> D) (as : List α) (l : List Nat) : (l.filterMap fun i => (as.map enc)[i]?) = (l.filterMap fun i => as[i]?).map enc := by
 rw [List.map_filterMap]
 congr 1
 funext i
 rw [uO]
noncomputable abbrev TGI := SD -> HpD -> (List D -> (HpD -> Prop) -> HpD -> Prop) -> Prop
def ZaO (K : uC) (F : Addr -> Prop) (J : It) (ds : List D) (Gd : HpD -> Prop) (M : HpD) (H : Hp) : Prop :=
 ∀ F' i M' H', (∀ a, F' a -> F a \/ H a = none) -> Fz M H M' H' -> RepH ⟨K, F'⟩ H' M' -> Gd M' -> (∀ d, ds[i]? = some d -> J.go i H' /\ ∀ x H3, J.yld i H' x H3 -> Fz M' H' M' H3 /\ RepH ⟨K, F'⟩ H3 M' /\ RepD ⟨K, F'⟩ H3 M' d x) /\ (ds.length <= i -> J.stop i H')
def XaC (K : uC) (t : TGI) : TI := fun σ H R => ∃ F σD M RD, Rel ⟨K, F⟩ σD M σ H /\ t σD M RD /\ ∀ ds Gd M' H' J, Fz M H M' H' -> RepH ⟨K, F⟩ H' M' -> ZaO K F J ds Gd M' H' -> RD ds Gd M' -> R J H'
abbrev IDG (X : Cx) (tg e : Expr) (t : TGI) : Prop := PI X tg e (XaC X.K t)
@[irreducible] def jy (tI : TGI) (g : TDG) (tb : TSD) : TSD := fun DD σ M => tI σ M fun ds Gd M1 => ∃ Pv : Nat -> SD -> HpD -> Prop, Pv 0 σ M1 /\ (∀ i σ M, Pv i σ M -> Gd M) ∧
 (∀ i d σ M, ds[i]? = some d -> Pv i σ M -> g d σ M fun σ2 M2 => tb { DD with nx := Pv (i + 1), ct := Pv (i + 1), bk := DD.nx } σ2 M2) /\ ∀ σ M, Pv ds.length σ M -> DD.nx σ M
theorem Yba {tI : TGI} {g : TDG} {tb : TSD} {DD : Yx} {σ : SD} {M : HpD} (h : tI σ M fun ds Gd M1 => ∃ Pv : Nat -> SD -> HpD -> Prop, Pv 0 σ M1 /\ (∀ i σ M, Pv i σ M -> Gd M) ∧
 (∀ i d σ M, ds[i]? = some d -> Pv i σ M -> g d σ M fun σ2 M2 => tb { DD with nx := Pv (i + 1), ct := Pv (i + 1), bk := DD.nx } σ2 M2) /\ ∀ σ M, Pv ds.length σ M -> DD.nx σ M) : jy tI g tb DD σ M := by unfold jy; exact h
@[irreducible] def wz (n : Nat) (tI : TGI) (g : TDG) (tc : TDT) (te : TDE) : TDE := fun σ M Q => tI σ M fun ds Gd M1 => ds.length <= sizeLine /\ ∃ Pv : Nat -> List D -> SD -> HpD -> Prop, Pv 0 [] (uK n none ++ σ) M1 /\ (∀ i ys σ M, Pv i ys σ M -> Gd M) ∧
 (∀ i d ys σ M, ds[i]? = some d -> Pv i ys σ M -> g d σ M fun σ2 M2 => tc σ2 M2 fun b M3 => if b = true then te σ2 M3 fun y M4 => Pv (i + 1) (ys ++ [y]) σ2 M4 else Pv (i + 1) ys σ2 M3) /\ ∀ ys σ M, Pv ds.length ys σ M -> newL ys M Q
theorem Xa3 {n : Nat} {tI : TGI} {g : TDG} {tc : TDT} {te : TDE} {σ : SD} {M : HpD} {Q : KD} (h : tI σ M fun ds Gd M1 => ds.length <= sizeLine /\ ∃ Pv : Nat -> List D -> SD -> HpD -> Prop, Pv 0 [] (uK n none ++ σ) M1 /\ (∀ i ys σ M, Pv i ys σ M -> Gd M) ∧
 (∀ i d ys σ M, ds[i]? = some d -> Pv i ys σ M -> g d σ M fun σ2 M2 => tc σ2 M2 fun b M3 => if b = true then te σ2 M3 fun y M4 => Pv (i + 1) (ys ++ [y]) σ2 M4 else Pv (i + 1) ys σ2 M3) /\ ∀ ys σ M, Pv ds.length ys σ M -> newL ys M Q) : wz n tI g tc te σ M Q := by unfold wz; exact h
section
variable {X : Cx} {tg iter elt : Expr} {ifs : List Expr} {scope : Scope} {body : List Stmt} {tI : TGI} {g : TDG} {tb : TSD} {tc : TDT} {te : TDE} {ts rest : List Str} {pos : Pos}
theorem vB (hi : IDG X tg iter tI) (hg : GD X tg g) (hb : SsD X body tb) (hp : PassesOwn (model X.prog X.w) X.A X.env X.xe := by exact PassesOwn.never) (hc : X.calm = true := by rfl)
  (hs : ∀ x, foldedSetIterable iter X.env x = pure x := by intro _; rfl) : StD X (.For tg iter body [] pos) (jy tI g tb) := by
 refine (kaX hp hc hi hg hb hs).wk fun D' σ H w1_ => w1_.elim fun F z_ => z_.elim fun σD z_ => z_.elim fun M z_ => z_.elim fun DD z_ => z_.elim fun rel z_ => z_.elim fun h p => ?_
 unfold jy at h
 refine ⟨F, σD, M, _, rel, h, fun ds Gd M1 H1 J f1 rh1 y h1 => ?_⟩
 obtain ⟨Pv, p0, gd, step, done⟩ := h1
 refine ⟨fun i m σ' H' => m = ds.length - i /\ i <= ds.length /\ ∃ σD' M', Rel ⟨X.K, F⟩ σD' M' σ' H' /\ Fz M1 H1 M' H' /\ Pv i σD' M', ⟨ds.length, by simp, ue _, σD, M1, rel.mono f1 rh1, .refl, p0⟩, ?_⟩
 rintro i m σ' H' ⟨rfl, hi, σD', M', rel', f', pv⟩
 by_cases hlt : i < ds.length
 ·have e : ds[i]? = some ds[i] := uG hlt
  obtain ⟨go, yl⟩ := (y F i M' H' (fun _ z => .inl z) f' rel'.hp (gd _ _ _ pv)).1 _ e
  refine .inr ⟨go, fun σ2 H2 => ∃ σD2 M2, Rel ⟨X.K, F⟩ σD2 M2 σ2 H2 /\ Fz M1 H1 M2 H2 /\ Pv (i + 1) σD2 M2, fun σ2 H2 w1_ => w1_.elim fun σD2 z_ => z_.elim fun M2 z_ => z_.elim fun a1 z_ => z_.elim fun a2 a3 => ⟨ds.length - (i + 1), by lia, rfl, hlt, σD2, M2, a1, a2, a3⟩, fun x H2 yy => ?_⟩
  obtain ⟨fy, rhy, ry⟩ := yl x H2 yy
  have rel2 := rel'.mono fy rhy
  refine ⟨F, ds[i], σD', M', _, rel2, ry, step i _ σD' M' e pv, fun σD3 M3 σ3 H3 f3 rel3 h3 => ?_⟩
  have ff := (f'.trans fy).trans f3
  refine lS rel3 h3 ⟨fun a b c d f r q => ⟨a, b, r, ff.trans f, q⟩, (p.mono (f1.trans ff)).rt, fun a b c d f r q => (p.mono (f1.trans ff)).nx a b c d f r q, fun a b c d f r q => ⟨a, b, r, ff.trans f, q⟩⟩
 ·have e : i = ds.length := by lia
  subst e
  exact .inl ⟨(y F _ M' H' (fun _ z => .inl z) f' rel'.hp (gd _ _ _ pv)).2 (uI _), p.nx _ _ _ _ (f1.trans f') rel' (done _ _ pv)⟩
theorem jad {K : uC} {n : Nat} {σ : St} {H : Hp} {Q : VK} (h : Wh K (wz n tI g tc te) σ H Q) : waw n (XaC K tI) (wJ K g) (Zy K tc) (Wh K te) σ H Q := by
 obtain ⟨F, σD, M, QD, rel, h, p⟩ := h
 unfold wz at h
 refine ⟨F, σD, M, _, rel, h, fun ds Gd M1 H1 J f1 rh1 y h1 => ?_⟩
 intro D' hD
 obtain ⟨hsz, Pv, p0, gd, step, done⟩ := h1
 have mD := rh1.free hD
 have fF : ∀ a, (F a \/ a = D') -> F a \/ H1 a = none := fun a z => z.elim .inl fun e => .inr (e ▸ hD)
 have rel1 := rel.mono f1 rh1
 -- the start: D' is forbidden
 have relS : Rel ⟨K, fun a => F a \/ a = D'⟩ (uK n none ++ σD) M1 (uK n none ++ σ) (upd H1 D' (.lst [])) := by
  have r1 : Rel ⟨K, F⟩ (uK n none ++ σD) M1 (uK n none ++ σ) H1 := rel1.pad n
  refine ⟨r1.len, fun i d e => ?_, ⟨fun a o e => ?_, fun a z => ?_⟩⟩
  ·obtain ⟨v, e1, e2⟩ := r1.st i d e
   exact ⟨v, e1, (e2.more fF).mono (qp hD)⟩
  ·obtain ⟨o', e', r⟩ := rh1.at_ a o e
   exact ⟨o', by rw [jc (vc e' hD)]; exact e', (r.more fF).mono (qp hD)⟩
  ·rcases z with z | rfl
   ·obtain ⟨⟨o', e'⟩, m'⟩ := rh1.fb a z
    exact ⟨⟨o', by rw [jc (vc e' hD)]; exact e'⟩, m'⟩
   ·exact ⟨⟨_, wf⟩, mD⟩
 refine ⟨fun i m ys σ' H' => m = ds.length - i /\ i <= ds.length /\ ys.length <= i /\ H' D' = some (.lst ys) /\ ∃ σD' M' ysD, Rel ⟨K, fun a => F a \/ a = D'⟩ σD' M' σ' H' /\ Fz M1 H1 M' H' /\ RepDs ⟨K, fun a => F a \/ a = D'⟩ H' M' ysD ys /\ Pv i ysD σD' M',
  ⟨ds.length, by simp, ue _, ue _, wf, _, M1, [], relS, qp hD, .nil, p0⟩, ?_⟩
 rintro i m ys σ' H' ⟨rfl, hi, hyl, eD, σD', M', ysD, rel', f', ry, pv⟩
 have mD' : M' D' = none := (rel'.hp.fb D' (.inr rfl)).2
 by_cases hlt : i < ds.length
 ·have e : ds[i]? = some ds[i] := uG hlt
  obtain ⟨go, yl⟩ := (y _ i M' H' fF f' rel'.hp (gd _ _ _ _ pv)).1 _ e
  refine .inr ⟨go, fun x H2 yy => ?_⟩
  obtain ⟨fy, rhy, rx⟩ := yl x H2 yy
  have eD2 := (fy D' _ eD mD').1
  refine ⟨_, ds[i], σD', M', _, rel'.mono fy rhy, rx, step i _ ysD σD' M' e pv, fun σD3 M3 σ3 H3 f3 rel3 h3 => ?_⟩
  refine lT rel3 h3 fun b M4 H4 f4 rel4 h4 => ?_
  have f14 : Fz M1 H1 M4 H4 := ((f'.trans fy).trans f3).trans f4
  have fD4 : Fz M' H' M4 H4 := (fy.trans f3).trans f4
  cases b with
  | false =>
   simp only [uM, if_false] at h4 ⊢
   exact ⟨ds.length - (i + 1), by lia, rfl, hlt, by lia, (fD4 D' _ eD mD').1, σD3, M4, ysD, rel4, f14, ry.mono fD4, h4⟩
  | true =>
   simp only [if_true] at h4 ⊢
   refine lE rel4 h4 fun yd M5 v H5 f5 rel5 r5 h5 => ?_
   have fD5 := fD4.trans f5
   obtain ⟨eD5, mD5⟩ := fD5 D' _ eD mD'
   have hF : (KF.mk K fun a => F a \/ a = D').F D' := .inr rfl
   refine ⟨eD5, by lia, ds.length - (i + 1), by lia, rfl, hlt, by rw [uE, ui]; lia, wf, σD3, M5, ysD ++ [yd], rel5.past hF, fun a o q z => ?_, ((ry.mono fD5).append (.cons r5 .nil)).past hF, h5⟩
   obtain ⟨q1, q2⟩ := (f14.trans f5) a o q z
   exact ⟨by rw [jc (vc q hD)]; exact q1, q2⟩
 ·have e : i = ds.length := by lia
  subst e
  refine .inl ⟨(y _ _ M' H' fF f' rel'.hp (gd _ _ _ _ pv)).2 (uI _), eD, ?_⟩
  -- the end: D' is jt
  have fL : ∀ a, F a -> (F a \/ a = D') \/ H' a = none := fun a z => .inl (.inl z)
  have rhE : RepH ⟨K, F⟩ H' M' := ⟨fun a o q => by
   obtain ⟨o', e', r⟩ := rel'.hp.at_ a o q
   exact ⟨o', e', r.more fL⟩, fun a z => rel'.hp.fb a (.inl z)⟩
  have hn := done ysD σD' M' pv
  unfold newL at hn
  obtain ⟨hl, hn⟩ := hn
  have nf : ¬ F D' := rh1.nf hD
  rcases hn with hn | hn
  ·exact p _ M' _ H' (f1.trans f') rhE (by unfold RepD; exact ⟨D', ys, rfl, .inl ⟨.inl eD, mD', nf⟩, ry.more fL⟩) hn
  ·refine p _ (jg M' D' (.lst ysD)) _ H' (f1.trans fun a o q z => ?_) ⟨fun a o q => ?_, fun a z => ⟨(rhE.fb a z).1, ?_⟩⟩ (by unfold RepD; rfl) (hn D' mD')
   ·obtain ⟨q1, q2⟩ := f' a o q z
    exact ⟨q1, by rw [ve (vc q hD)]; exact q2⟩
   ·by_cases qa : a = D'
    ·rw [qa, wc] at q; cases q
     rw [qa]
     refine ⟨_, eD, ys, rfl, ?_⟩
     -- what is gathered does not pass through the list itself
     exact RepDs.own (F' := fun a => F a \/ a = D') (.inr rfl) fL ry
    ·rw [ve qa] at q
     obtain ⟨o', e', r⟩ := rel'.hp.at_ a o q
     exact ⟨o', e', RepO.own (F' := fun a => F a \/ a = D') (.inr rfl) fL r⟩
   ·rw [ve (fun (z' : a = D') => nf (by rw [← z']; exact z))]; exact (rhE.fb a z).2
theorem Za5 (S : wm X scope ts rest) (hi : IDG X tg iter tI)
  (hg : ∀ fp s H, GD (ke X scope ts rest fp s H) tg g) (ht : ∀ fp s H, FD (ke X scope ts rest fp s H) ifs tc) (he : ∀ fp s H, ED (ke X scope ts rest fp s H) elt te)
  (hc : X.calm = true := by rfl) (hs : ∀ x, foldedSetIterable iter X.env x = pure x := by intro _; rfl) : ED X (.ListComp elt [⟨tg, iter, ifs, 0⟩] scope pos) (wz ts.length tI g tc te) :=
 (XaL (g := wJ X.K g) (tc := Zy X.K tc) (te := Wh X.K te) hc S hi hg ht he hs).wk fun _ _ _ h => jad h
theorem ja0 (i : Nat) {x : Str} {pos' spos : Pos} (S : wm X scope ts rest) (hi : IDG X tg iter tI)
  (hg : ∀ fp s H, GD (ke X scope ts rest fp s H) tg g) (ht : ∀ fp s H, FD (ke X scope ts rest fp s H) ifs tc) (he : ∀ fp s H, ED (ke X scope ts rest fp s H) elt te)
  (hN : X.N.Nodup) (hx : X.N[i]? = some x) (hl : Loc X.env.scope x) (hc : X.calm = true := by rfl)
  (hsw : swapsWith (.ListComp elt [⟨tg, iter, ifs, 0⟩] scope pos) (some (.Name x pos')) spos.line X.env = pure true := by rfl)
  (hs : ∀ x, foldedSetIterable iter X.env x = pure x := by intro _; rfl) (hf : X.fn x = true \/ X.env.scope.names.lookup x = some .local := by first | exact .inl rfl | exact .inr rfl | assumption) :
  StD X (.Assign [.Name x pos'] (.ListComp elt [⟨tg, iter, ifs, 0⟩] scope pos) spos) (Wc (wz ts.length tI g tc te) (qb i)) := by
 refine (W7 (g := wJ X.K g) (tc := Zy X.K tc) (te := Wh X.K te) hc S hi hg ht he hN hx hl hsw hs hf).wk fun D' σ H w1_ => w1_.elim fun F z_ => z_.elim fun σD z_ => z_.elim fun M z_ => z_.elim fun DD z_ => z_.elim fun rel z_ => z_.elim fun h p => ?_
 unfold Wc at h
 refine jad ⟨F, σD, M, _, rel, h, fun d M1 v H1 f1 rh1 r1 h1 => ?_⟩
 unfold qb at h1
 exact (p.mono f1).nx _ M1 _ H1 .refl ((rel.mono f1 rh1).set i r1) h1
end
@[irreducible] def js (te : TDE) : TGI := fun σ M R => te σ M fun d M1 => ∃ ds, Ye d M1 = some ds /\ R ds (fun M => Ye d M = some ds) M1
theorem ka6 {te : TDE} {σ : SD} {M : HpD} {R : List D -> (HpD -> Prop) -> HpD -> Prop} (h : te σ M fun d M1 => ∃ ds, Ye d M1 = some ds /\ R ds (fun M => Ye d M = some ds) M1) : js te σ M R := by unfold js; exact h
section
variable {X : Cx} {tg l : Expr} {tl : TDE} {pos p : Pos}
theorem vai {K : KF} {H : Hp} {M : HpD} {d : D} {a : Addr} {ds : List D} (rh : RepH K H M) (r : RepD K H M d (.ref a)) (e : Ye d M = some ds) : ∃ xs, SqL K.K H a xs /\ RepDs K H M ds xs := by
 obtain ⟨p, xs, e1, h, r'⟩ := Yo rh r e
 cases e1
 exact ⟨xs, h, r'⟩
theorem ZaP {K : uC} {F : Addr -> Prop} {H : Hp} {M : HpD} {a : Addr} {d : D} {ds : List D} (r : RepD ⟨K, F⟩ H M d (.ref a)) : ZaO K F (Itl K a) ds (fun M => Ye d M = some ds) M H := fun F' i M' H' hf f rh gd => by
 have r' : RepD ⟨K, F'⟩ H' M' d (.ref a) := (r.more hf).mono f
 obtain ⟨xs, h', rs⟩ := vai rh r' gd
 refine ⟨fun d e => ?_, fun e => ⟨xs, h', by rw [← rs.length]; exact e⟩⟩
 obtain ⟨v, e1, e2⟩ := rs.get e
 refine ⟨⟨xs, v, h', e1⟩, fun x H3 y => ?_⟩
 obtain ⟨rfl, y⟩ := y
 have := y xs h'
 rw [e1] at this; cases this
 exact ⟨.refl, rh, e2⟩
theorem Ys (hl : ED X l tl) : IDG X tg l (js tl) := by
 refine (WaK hl).wk fun σ H R w1_ => w1_.elim fun F z_ => z_.elim fun σD z_ => z_.elim fun M z_ => z_.elim fun RD z_ => z_.elim fun rel z_ => z_.elim fun h p => ?_
 unfold js at h
 refine lE rel h fun d M1 v H1 f1 rel1 r1 h1 => ?_
 obtain ⟨ds, gd, q⟩ := h1
 obtain ⟨a, xs, rfl, hz, hr⟩ := Yo rel1.hp r1 gd
 exact ⟨a, rfl, ⟨xs, hz⟩, p ds _ M1 H1 _ f1 rel1.hp (ZaP r1) q⟩
end
section
variable {X : Cx} {pins : ZPO} {σ : St} {H : Hp} {s : Shared}
theorem Inv.turnedNew {h' : Heap} {t' : Nat} {fp : List Addr} {T : Addr} {o : HO} (I : Inv X pins σ H s) (k : ∀ b u, b ∉ fp -> s.heap.get? b = some u -> h'.get? b = some u) (hf : ∀ b ∈ fp, Xm X pins H b) (hT : s.heap.objs.size <= T)
  (new : ObjOk X.prog X.w (upd H T o) h' T o) : Inv X pins σ (upd H T o) { s with heap := h', toks := t' } := by
 have hn := I.hok.fresh hT
 have nf : ∀ b u, H b = some u -> b ∉ fp := fun b u e z => by rw [(hf b z).1] at e; cases e
 have fT : Xm X pins H T := I.fpOk hT hn
 refine I.call (g' := s.gens) (d' := s.drawn) (ch := T :: fp) ⟨fun b u e n _ hc => k b u (fun z => hc (uQ _ z)) e, fun b u e n _ hc => ⟨u.slots, k b u (fun z => hc (uQ _ z)) e⟩,
  fun b u e n hc => by rw [jc (fun z => hc (by simp [z]))]; exact n, fun b u e hc => ⟨u, k b u (fun z => hc (uQ _ z)) e⟩, fun b xs e => by rw [jc (vc e hn)]; exact e,
  fun b x u e => by rw [jc (vc e hn)]; exact e, fun b ps e => ⟨#[], by rw [jc (vc e hn), e]; simp⟩⟩ (fun b u e => ?_) I.bare (fun b hb => ?_)
 ·by_cases hb : b = T
  ·subst hb; rw [wf] at e; cases e; exact new
  ·rw [jc hb] at e
   refine (I.hok b u e).stay (fun c v hc q => k c v ?_ q) (fun c q => by rw [jc (vc q hn)]; exact q) fun c xs q => by rw [jc (vc q hn)]; exact q
   rcases hc with z | z
   ·rw [z]; exact nf b u e
   ·exact nf c _ z
 ·rcases uU.mp hb with rfl | hb
  ·exact ⟨fT.2.2.2.1, fT.2.1, fT.2.2.2.2.1, fT.2.2.2.2.2⟩
  ·have z := hf b hb
   exact ⟨z.2.2.2.1, z.2.1, z.2.2.2.2.1, z.2.2.2.2.2⟩
theorem Inv.turnedL {h' : Heap} {t' : Nat} {fp : List Addr} (I : Inv X pins σ H s) (k : ∀ b u, b ∉ fp -> s.heap.get? b = some u -> h'.get? b = some u) (hf : ∀ b ∈ fp, Xm X pins H b) : Inv X pins σ H { s with heap := h', toks := t' } := by
 have nf : ∀ b u, H b = some u -> b ∉ fp := fun b u e z => by rw [(hf b z).1] at e; cases e
 refine I.call (g' := s.gens) (d' := s.drawn) (ch := fp) ⟨fun b u e n _ hc => k b u hc e, fun b u e n _ hc => ⟨u.slots, k b u hc e⟩,
  fun b u e n hc => n, fun b u e hc => ⟨u, k b u hc e⟩, fun b xs e => e, fun b x u e => e, fun b ps e => ⟨#[], by rw [e]; simp⟩⟩ (fun b u e => ?_) I.bare (fun b hb => ?_)
 ·refine (I.hok b u e).stay (fun c v hc q => k c v ?_ q) (fun c q => q) fun c xs q => q
  rcases hc with z | z
  ·rw [z]; exact nf b u e
  ·exact nf c _ z
 ·have z := hf b hb
  exact ⟨z.2.2.2.1, z.2.1, z.2.2.2.2.1, z.2.2.2.2.2⟩
end
noncomputable def Itz (K : uC) (a b : Addr) : It :=
 ⟨fun i H => ∃ xs x ys y, SqL K H a xs /\ xs[i]? = some x /\ SqL K H b ys /\ ys[i]? = some y,
  fun i H v H' => ∃ T x y, v = .ref T /\ H T = none /\ H' = upd H T (.tup [x, y]) /\ (∀ xs, SqL K H a xs -> xs[i]? = some x) /\ ∀ ys, SqL K H b ys -> ys[i]? = some y,
  fun i H => ∃ xs ys, SqL K H a xs /\ SqL K H b ys /\ (xs.length <= i \/ ys.length <= i)⟩
def ZipSt (z TI TO i1 i2 a b : Addr) (i : Nat) (h : Heap) : Prop := IsZip h z TI TO .none /\ IsPair h TI (.ref i1) (.ref i2) /\ (∃ p q, IsPair h TO p q) /\ h.IsListIter i1 a i /\ h.IsListIter i2 b i
theorem ZipSt.apart {z TI TO i1 i2 a b : Addr} {i : Nat} {h : Heap} {xs ys : Array Value} (st : ZipSt z TI TO i1 i2 a b i h) (h12 : i1 ≠ i2) (hT : TI ≠ TO) (l1 : h.IsList a xs) (l2 : h.IsList b ys) : ZipApart z TI TO i1 i2 a b := by
 obtain ⟨hz, hI, ⟨p, q, hO⟩, ⟨o1, g1, c1, d1⟩, ⟨o2, g2, c2, d2⟩⟩ := st
 obtain ⟨ol, gl, cl, _⟩ := l1
 obtain ⟨om, gm, cm, _⟩ := l2
 have ne : ∀ {x y : Addr} {ox oy : Obj} {m n : String}, h.get? x = some ox -> h.get? y = some oy -> ox.cls = .type m -> oy.cls = .type n -> m ≠ n -> x ≠ y := fun e1 e2 c1 c2 hmn z => by
  subst z
  rw [e1] at e2; cases e2
  rw [c1] at c2; cases c2
  exact hmn rfl
 exact ⟨ne hI hz rfl rfl (by decide), ne hO hz rfl rfl (by decide), ne g1 hz c1 rfl (by decide), ne g2 hz c2 rfl (by decide), hT, ne hI g1 rfl c1 (by decide), ne hI g2 rfl c2 (by decide), ne hO g1 rfl c1 (by decide), ne hO g2 rfl c2 (by decide), h12,
  ne gl hz cl rfl (by decide), ne gl hO cl rfl (by decide), ne gl g1 cl c1 (by decide), ne gl g2 cl c2 (by decide), ne gm hz cm rfl (by decide), ne gm hO cm rfl (by decide), ne gm g1 cm c1 (by decide), ne gm g2 cm c2 (by decide)⟩
theorem Za3 {P : Program} {w : World} {K : uC} {elts : List Expr} {tk : Nat} {tpos : Pos} (a b z TI TO i1 i2 : Addr) (h12 : i1 ≠ i2) (hT : TI ≠ TO) : Z9 P w K (.Tuple elts tk tpos) (Itz K a b) [z, TI, TO, i1, i2] z (ZipSt z TI TO i1 i2 a b) where
 mem := by simp
 obj := fun i h st b' hb => by
  obtain ⟨hz, hI, ⟨p, q, hO⟩, ⟨o1, g1, c1, d1⟩, ⟨o2, g2, c2, d2⟩⟩ := st
  simp only [uU, ur, or_false] at hb
  rcases hb with rfl | rfl | rfl | rfl | rfl
  ·exact ⟨_, hz, fun v e => by cases e⟩
  ·exact ⟨_, hI, fun v e => by cases e⟩
  ·exact ⟨_, hO, fun v e => by cases e⟩
  ·exact ⟨_, g1, fun v e => by rw [d1] at e; cases e⟩
  ·exact ⟨_, g2, fun v e => by rw [d2] at e; cases e⟩
 keep := fun i h h' st k => by
  obtain ⟨hz, hI, ⟨p, q, hO⟩, h1, h2⟩ := st
  exact ⟨k z (by simp) _ hz, k TI (by simp) _ hI, ⟨p, q, k TO (by simp) _ hO⟩, h1.at fun o eo => k i1 (by simp) o eo, h2.at fun o eo => k i2 (by simp) o eo⟩
 item := by
  intro X hP hw hK hc i pins s σ H E I hf st hg
  subst hP hw hK
  obtain ⟨xs, x, ys, y, hq1, hx, hq2, hy⟩ := hg
  obtain ⟨its, rv, p1, hz1⟩ := I.list hq1
  obtain ⟨jts, rw', p2, hz2⟩ := I.list hq2
  obtain ⟨u, hu, ru⟩ := rv.get hx
  obtain ⟨v, hv, rw2⟩ := rw'.get hy
  have D := st.apart h12 hT p1.isList p2.isList
  obtain ⟨hz, hI, ⟨p, q, hO⟩, h1, h2⟩ := st
  refine wpAny_pyNext_zip_item D hz hI hO h1 h2 p1.isList p2.isList (x := u) (y := v) (by simpa using hu) (by simpa using hv) fun h' a1 a2 a3 a4 a5 a6 a7 => ?_
  refine ⟨_, rfl, ?_⟩
  refine wpAny_letOwnedTupleGo_zip a1 fun h2' hz2' sb => ?_
  have zl : z < s.heap.objs.size := uH hz
  have hT2 : h2'.get? s.heap.objs.size = some { cls := .type "tuple", data := .seq #[u, v] } := (sb.2 _ (xM zl)).trans a5
  have I1 : Inv X pins σ (upd H s.heap.objs.size (.tup [x, y])) { s with heap := h2', toks := s.toks } :=
   I.turnedNew (fp := [z, TI, TO, i1, i2]) (fun c o hb e => by
    simp only [uU, ur, or_false, not_or] at hb
    exact (sb.2 c hb.1).trans (a7 c o hb.1 hb.2.2.1 hb.2.2.2.1 hb.2.2.2.2 e)) hf (uI _) (show ObjOk X.prog X.w _ h2' _ (.tup [x, y]) from ⟨by show 2 <= sizeLine; decide, [u, v], .cons ru (.cons rw2 .nil), _, hT2, rfl, _, rfl⟩)
  refine ⟨.ref s.heap.objs.size, _, I1, rfl, ⟨_, x, y, rfl, I.hok.fresh (uI _), rfl, fun zs hzs => by rw [I.list_inj hzs hq1]; exact hx, fun zs hzs => by rw [I.list_inj hzs hq2]; exact hy⟩, ⟨hz2', (sb.2 TI D.TIz).trans (a7 TI _ D.TIz D.TITO D.TIi1 D.TIi2 hI), ⟨u, v, (sb.2 TO D.TOz).trans a2⟩, a3.at fun o eo => (sb.2 i1 D.i1z).trans eo, a4.at fun o eo => (sb.2 i2 D.i2z).trans eo⟩, fun c hc' => ?_⟩
  rw [jc]
  ·exact (hf c hc').1
  ·simp only [uU, ur, or_false] at hc'
   obtain ⟨o1, g1, _⟩ := h1
   obtain ⟨o2, g2, _⟩ := h2
   rcases hc' with rfl | rfl | rfl | rfl | rfl
   ·exact uZ zl
   ·exact uZ (uH hI)
   ·exact uZ (uH hO)
   ·exact uZ (uH g1)
   ·exact uZ (uH g2)
 done := by
  intro X hP hw hK hc i pins s σ H E I hf st hg
  subst hP hw hK
  obtain ⟨xs, ys, hq1, hq2, hx⟩ := hg
  obtain ⟨its, rv, p1, hz1⟩ := I.list hq1
  obtain ⟨jts, rw', p2, hz2⟩ := I.list hq2
  have l1 := rv.length
  have l2 := rw'.length
  have D := st.apart h12 hT p1.isList p2.isList
  obtain ⟨hz, hI, ⟨p, q, hO⟩, h1, h2⟩ := st
  refine wpAny_pyNext_zip_end (I.ok.hd hc) D hz hI hO h1 h2 p1.isList p2.isList (by
   rcases hx with hx | hx
   ·exact .inl (by simp; lia)
   ·exact .inr (by simp; lia)) fun h' k => ⟨rfl, I.turnedL (t' := s.toks) (fp := [z, TI, TO, i1, i2]) (fun c o hb e => ?_) hf⟩
  simp only [uU, ur, or_false, not_or] at hb
  exact k c o hb.1 hb.2.2.1 hb.2.2.2.1 hb.2.2.2.2 e
 self := fun _ _ _ _ _ st h => wpAny_pyIter_zip st.1 h
def jbs (K : uC) (ta : TA) : TI := fun σ H R => ta σ H fun vs H1 => ∃ a b, vs = [.ref a, .ref b] /\ (∃ xs, SqL K H1 a xs) /\ (∃ ys, SqL K H1 b ys) /\ R (Itz K a b) H1
theorem qay : bootBuiltins "zip" = some (.type "zip") := by decide +kernel
theorem vbk {X : Cx} {l m : Expr} {ta : TA} {p pos : Pos} {elts : List Expr} {tk : Nat} {tpos : Pos} (hg : Gl X "zip") (hm : X.mg "zip" = none) (ha : PA X [l, m] ta) (hs : starEach [l, m] X.env = [(false, eval l X.env), (false, eval m X.env)] := by rfl) (hs2 : starEach [m] X.env = [(false, eval m X.env)] := by rfl) :
  PI X (.Tuple elts tk tpos) (.Call (.Name "zip" p) [l, m] [] pos) (jbs X.K ta) := by
 intro pins s σ H R I h
 refine Call_ (kq I hg hm qay (um (thn (ha pos pins s σ H _ I h) fun us s1 w1_ => w1_.elim fun vs z_ => z_.elim fun H1 z_ => z_.elim fun I1 z_ => z_.elim fun r1 q1 => ?_) (by rw [hs, hs2]) (by rw [hs2]; rfl)))
 obtain ⟨a, b, e, ⟨xs, hq1⟩, ⟨ys, hq2⟩, q⟩ := q1
 subst e
 cases r1 with
 | cons r rr =>
  cases rr with
  | cons r' rr =>
   cases rr
   cases r
   cases r'
   obtain ⟨its, rv, p1, hz⟩ := I1.list hq1
   obtain ⟨jts, rw', p2, hz'⟩ := I1.list hq2
   refine call_zip_2 p1.isList p2.isList fun h' a1 a2 a3 a4 a5 a6 a7 => ?_
   refine wpAny_pyIter_zip a1 ?_
   refine ⟨s1.heap.objs.size + 4, [s1.heap.objs.size + 4, s1.heap.objs.size + 2, s1.heap.objs.size + 3, s1.heap.objs.size, s1.heap.objs.size + 1], _, _, H1, rfl, I1.kept (t' := s1.toks) a7, Za3 a b _ _ _ _ _ (fun z => Nat.succ_ne_self _ z.symm) (fun z => by have : s1.heap.objs.size + 2 = s1.heap.objs.size + 3 := z; lia), ⟨a1, a2, ⟨_, _, a3⟩, a4, a5⟩, fun c hc => ?_, q⟩
   have hle : s1.heap.objs.size <= c := by
    simp only [uU, ur, or_false] at hc
    rcases hc with rfl | rfl | rfl | rfl | rfl
    ·exact xP _ _
    ·exact xP _ _
    ·exact xP _ _
    ·exact uI _
    ·exact xP _ _
   exact I1.fpOk hle (I1.hok.fresh hle)
noncomputable def XJ (ds es : List D) : List D := xW (fun d e => .tup [d, e]) ds es
@[irreducible] def W1 (ta : TDA) : TGI := fun σ M R => ta σ M fun vs M1 => ∃ d e ds es, vs = [d, e] /\ Ye d M1 = some ds /\ Ye e M1 = some es /\ R (XJ ds es) (fun M => Ye d M = some ds /\ Ye e M = some es) M1
theorem Wbe {ta : TDA} {σ : SD} {M : HpD} {R : List D -> (HpD -> Prop) -> HpD -> Prop} (h : ta σ M fun vs M1 => ∃ d e ds es, vs = [d, e] /\ Ye d M1 = some ds /\ Ye e M1 = some es /\ R (XJ ds es) (fun M => Ye d M = some ds /\ Ye e M = some es) M1) : W1 ta σ M R := by unfold W1; exact h
theorem jac {ds es : List D} {i : Nat} {d : D} (h : (XJ ds es)[i]? = some d) : ∃ x y, ds[i]? = some x /\ es[i]? = some y /\ d = .tup [x, y] := by
 unfold XJ at h
 rw [List.getElem?_zipWith] at h
 cases e1 : ds[i]? with
 | none => rw [e1] at h; cases h
 | some x =>
  cases e2 : es[i]? with
  | none => rw [e1, e2] at h; cases h
  | some y => rw [e1, e2] at h; cases h; exact ⟨x, y, rfl, rfl, rfl⟩
theorem kax {ds es : List D} : (XJ ds es).length = min ds.length es.length := by unfold XJ; simp
theorem qa1 {K : uC} {F : Addr -> Prop} {H : Hp} {M : HpD} {a b : Addr} {d e : D} {ds es : List D} (r : RepD ⟨K, F⟩ H M d (.ref a)) (r2 : RepD ⟨K, F⟩ H M e (.ref b)) : ZaO K F (Itz K a b) (XJ ds es) (fun M => Ye d M = some ds /\ Ye e M = some es) M H := fun F' i M' H' hf f rh gd => by
 obtain ⟨xs, h1, rs1⟩ := vai rh (show RepD ⟨K, F'⟩ H' M' d (.ref a) from (r.more hf).mono f) gd.1
 obtain ⟨ys, h2, rs2⟩ := vai rh (show RepD ⟨K, F'⟩ H' M' e (.ref b) from (r2.more hf).mono f) gd.2
 refine ⟨fun d e => ?_, fun e => ⟨xs, ys, h1, h2, by rw [kax] at e; rw [← rs1.length, ← rs2.length]; lia⟩⟩
 obtain ⟨d1, d2, e1, e2, rfl⟩ := jac e
 obtain ⟨v1, g1, q1⟩ := rs1.get e1
 obtain ⟨v2, g2, q2⟩ := rs2.get e2
 refine ⟨⟨xs, v1, ys, v2, h1, g1, h2, g2⟩, fun x H3 y => ?_⟩
 obtain ⟨T, y1, y2, rfl, hT, rfl, ya, yb⟩ := y
 have k1 := ya xs h1
 have k2 := yb ys h2
 rw [g1] at k1; cases k1
 rw [g2] at k2; cases k2
 refine ⟨qp hT, rh.new hT, ?_⟩
 unfold RepD
 exact ⟨T, _, rfl, .inl ⟨.inl wf, rh.free hT, rh.nf hT⟩, RepDs.mono (qp hT) (.cons q1 (.cons q2 .nil))⟩
theorem Ybj {X : Cx} {l m : Expr} {ta : TDA} {p pos : Pos} {elts : List Expr} {tk : Nat} {tpos : Pos} (hg : Gl X "zip") (hm : X.mg "zip" = none) (ha : AD X [l, m] ta) (hs : starEach [l, m] X.env = [(false, eval l X.env), (false, eval m X.env)] := by rfl) (hs2 : starEach [m] X.env = [(false, eval m X.env)] := by rfl) :
  IDG X (.Tuple elts tk tpos) (.Call (.Name "zip" p) [l, m] [] pos) (W1 ta) := by
 refine (vbk hg hm ha hs hs2).wk fun σ H R w1_ => w1_.elim fun F z_ => z_.elim fun σD z_ => z_.elim fun M z_ => z_.elim fun RD z_ => z_.elim fun rel z_ => z_.elim fun h p => ?_
 unfold W1 at h
 refine lA rel h fun d M1 v H1 f1 rel1 r1 h1 => ?_
 obtain ⟨d, e, ds, es, rfl, g1, g2, q⟩ := h1
 obtain ⟨u, v', rfl, r2, r3⟩ := qai r1
 obtain ⟨a, xs, rfl, hz, hr⟩ := Yo rel1.hp r2 g1
 obtain ⟨b, ys, rfl, hz2, hr2⟩ := Yo rel1.hp r3 g2
 exact ⟨a, b, rfl, ⟨xs, hz⟩, ⟨ys, hz2⟩, p _ _ M1 H1 _ f1 rel1.hp (qa1 r2 r3) q⟩
section
variable {X : Cx} {a b : Expr} {ta tb : TDE} {pos : Pos}
@[irreducible] def vag : RD2 := fun x y M Q => ∃ z i c, x = .str z /\ y = .int i /\ z.length <= sizeLine /\ atI z.cps.toList i = some c /\ Q (.str ⟨#[c]⟩) M
theorem kbo {z : Str} {i : Int} {c : Nat} {M : HpD} {Q : KD} (hz : z.length <= sizeLine) (e : atI z.cps.toList i = some c) (q : Q (.str ⟨#[c]⟩) M) : vag (.str z) (.int i) M Q := by unfold vag; exact ⟨z, i, c, rfl, rfl, hz, e, q⟩
theorem jbm (ha : ED X a ta) (hb : ED X b tb) (hs : jam b := by exact fun _ _ => rfl) : ED X (.Subscript a b pos) (wa vag ta tb) := by
 refine (va8 Ybn ha hb hs).wk fun σ H Q h => ?_
 obtain ⟨F, σD, M, QD, rel, h, p⟩ := h
 unfold wa at h
 refine lE rel h fun d M1 v H1 f1 rel1 r1 h1 => ?_
 refine lE rel1 h1 fun e M2 u H2 f2 rel2 r2 h2 => ?_
 unfold vag at h2
 obtain ⟨z, i, c, rfl, rfl, hz, he, q⟩ := h2
 unfold RepD at r1 r2
 exact ⟨z, i, c, r1, r2, hz, he, p _ _ _ _ (f1.trans f2) rel2.hp (by unfold RepD; rfl) q⟩
noncomputable def Yy : D -> Bool
 | .non => true
 | .bl _ => true
 | .int _ => true
 | .str _ => true
 | _ => false
theorem XaF {K : KF} {H : Hp} {M : HpD} {d : D} {v : V} (f : Yy d = true) (r : RepD K H M d v) : WH v = true := by
 cases d <;> first | (unfold Yy at f; cases f; done) | (unfold RepD at r; subst r; rfl)
theorem wbd {K : KF} {H : Hp} {M : HpD} {d e : D} {v u : V} (f : Yy d = true) (g : Yy e = true) (ok : okD d e = true) (r : RepD K H M d v) (r2 : RepD K H M e u) : eqV v u = eqD d e := by
 cases d <;> first | (unfold Yy at f; cases f; done) | skip
 all_goals (cases e <;> first | (unfold Yy at g; cases g; done) | (unfold okD at ok; cases ok; done) | skip)
 all_goals (unfold RepD at r r2; subst r r2; unfold eqD; first | rfl | (simp [eqV]))
noncomputable def inD (x : D) (ds : List D) : Bool := ds.any fun d => eqD d x
theorem qaM {K : KF} {H : Hp} {M : HpD} {x : D} {v : V} (fx : Yy x = true) (rx : RepD K H M x v) : ∀ {ds : List D} {xs : List V}, (∀ d ∈ ds, Yy d = true /\ okD d x = true) -> RepDs K H M ds xs -> xs.all WH = true /\ inV v xs = inD x ds
 | [], xs, _, r => by
  unfold RepDs at r
  subst r
  exact ⟨rfl, rfl⟩
 | d :: ds, xs, h, r => by
  unfold RepDs at r
  obtain ⟨y, yr, rfl, r1, r2⟩ := r
  obtain ⟨hd, hk⟩ := h d ug
  obtain ⟨ih1, ih2⟩ := qaM fx rx (fun d h' => h d (uQ _ h')) r2
  refine ⟨by rw [List.all_cons, XaF hd r1, ih1]; rfl, ?_⟩
  unfold inV inD at ih2 ⊢
  rw [xt, xt, wbd hd fx hk r1 rx, ih2]
@[irreducible] def qam (neg : Bool) : RD2 := fun x y M Q => ∃ ds, Wn y M = some ds /\ Yy x = true /\ (∀ d ∈ ds, Yy d = true /\ okD d x = true) /\ Q (.bl (if neg then !inD x ds else inD x ds)) M
theorem wbs {neg : Bool} {x y : D} {ds : List D} {M : HpD} {Q : KD} (h : Wn y M = some ds) (fx : Yy x = true) (fs : ∀ d ∈ ds, Yy d = true /\ okD d x = true) (q : Q (.bl (if neg then !inD x ds else inD x ds)) M) : qam neg x y M Q := by unfold qam; exact ⟨ds, h, fx, fs, q⟩
theorem Wbg {K : uC} {neg : Bool} {x y : V} {H : Hp} {Q : VK} (h : ql K (qam neg) x y H Q) : rIn K neg x y H Q := by
 obtain ⟨F, d, e, M, QD, r1, r2, rh, hq, p⟩ := h
 unfold qam at hq
 obtain ⟨ds, hd, fx, fs, q⟩ := hq
 obtain ⟨a, ys, rfl, hs, rs⟩ := WO rh r2 hd
 obtain ⟨f1, f2⟩ := qaM fx r1 fs rs
 exact ⟨a, ys, rfl, hs, XaF fx r1, f1, p _ M _ H .refl rh (by unfold RepD; rw [f2]) q⟩
theorem va0 : OpR X (compareOp .NotIn) (ql X.K (qam true)) := fun pins s σ H x y v u Q I rx ry h => wax pins s σ H x y v u Q I rx ry (Wbg h)
@[irreducible] def kH : RD2 := fun x y M Q => ∃ ds es, Ye x M = some ds /\ Ye y M = some es /\ newL (ds ++ es) M Q
theorem v0 {x y : D} {ds es : List D} {M : HpD} {Q : KD} (h1 : Ye x M = some ds) (h2 : Ye y M = some es) (q : newL (ds ++ es) M Q) : kH x y M Q := by unfold kH; exact ⟨ds, es, h1, h2, q⟩
theorem qY : OpR X (binaryOp .Add) (ql X.K kH) := by
 intro pins s σ H x y v u Q I rx ry h
 obtain ⟨F, d, e, M, QD, r1, r2, rh, hq, p⟩ := h
 unfold kH at hq
 obtain ⟨ds, es, h1, h2, q⟩ := hq
 obtain ⟨a, xs, rfl, ha, ra⟩ := Yo rh r1 h1
 obtain ⟨b, ys, rfl, hb, rb⟩ := Yo rh r2 h2
 cases rx
 cases ry
 obtain ⟨its, vi, pl, hz⟩ := I.list ha
 obtain ⟨jts, vj, pm, hz2⟩ := I.list hb
 have nl := q.post p rh (ra.append rb)
 obtain ⟨⟨cls, dd, data, sl⟩, ho, hc, n, hd⟩ := id pl.isList
 obtain ⟨⟨cls2, dd2, data2, sl2⟩, ho2, hc2, n2, hd2⟩ := id pm.isList
 simp only at hc hd hc2 hd2
 subst hc hd hc2 hd2
 have l1 := vi.length
 have l2 := vj.length
 have ln := nl.1
 rw [uE] at ln
 have e : its.toArray ++ jts.toArray = (its ++ jts).toArray := by simp
 refine concat_meets ⟨_, ho, rfl⟩ ⟨_, ho2, rfl⟩ noFill_list_add seq_list_add PySem.F.slot_list_add PySem.F.entry_list_add (PySem.F.args_list_add_2 _ _) (list_addW a b its.toArray jts.toArray n n2 dd dd2 sl sl2 (by simp only [uJ]; lia)) ⟨ho, ho2, ?_⟩
 rw [e]
 exact ⟨.ref s.heap.objs.size, _, I.lnew (t' := s.toks) (vi.append vj) nl.1, rfl, nl.2 _ I.fresh⟩
@[irreducible] def X4 : RDn := fun xs M Q => (∃ i, xs = [.int i] /\ Q (.int i) M) \/ ∃ k, xs = [.bl k] /\ Q (.int (if k then 1 else 0)) M
theorem wbc {k : Bool} {M : HpD} {Q : KD} (q : Q (.int (if k then 1 else 0)) M) : X4 [.bl k] M Q := by unfold X4; exact .inr ⟨k, rfl, q⟩
theorem vbf : CallR X (.type "int") (YK X.K X4) := by
 refine call_int1.wk fun xs H Q ⟨F, ds, M, QD, r, rh, hq, p⟩ => ?_
 unfold X4 at hq
 rcases hq with ⟨i, rfl, q⟩ | ⟨k, rfl, q⟩
 ·obtain ⟨v, rfl, r1⟩ := qV r
  unfold RepD at r1
  subst r1
  exact .inl ⟨i, rfl, p _ M _ H .refl rh (by unfold RepD; rfl) q⟩
 ·obtain ⟨v, rfl, r1⟩ := qV r
  unfold RepD at r1
  subst r1
  exact .inr ⟨k, rfl, p _ M _ H .refl rh (by unfold RepD; rfl) q⟩
end
section
variable {X : Cx} {o e e2 : Expr} {to te te2 : TDE} {apos cpos : Pos}
def XaV (K : uC) : V -> List V -> Hp -> VK -> Prop := fun x vs H Q => ∃ sep l ts, x = .str sep /\ vs = [.ref l] /\ SqL K H l (ts.map V.str) /\ JoinOk sep ts = true /\ Q (.str (Txt.join sep ts)) H
theorem jao : ∀ {ts : List Str} {us : List Value}, Vals (ts.map V.str) us -> ∃ l : List (Str × Tok), us = strValues l /\ l.map (·.1) = ts
 | [], us, h => by cases h; exact ⟨[], rfl, rfl⟩
 | t :: ts, us, h => by
  cases h with
  | cons r h =>
   obtain ⟨k, rfl⟩ := r
   obtain ⟨l, rfl, rfl⟩ := jao h
   exact ⟨(t, k) :: l, rfl, rfl⟩
theorem kbg : MtR X "str.join" (XaV X.K) := by
 intro pins s σ H x vs v us Q I rx rv h
 obtain ⟨sep, l, ts, rfl, rfl, hl, ok, q⟩ := h
 obtain ⟨t, rfl⟩ := rx
 obtain ⟨u, rfl, ru⟩ := rv.one
 cases ru
 obtain ⟨its, vi, pl, hz⟩ := I.list hl
 obtain ⟨lt, rfl, et⟩ := jao vi
 exact SC.join pl.isList et ok fun t' k => ⟨.str _, H, I.tok _, ⟨_, rfl⟩, q⟩
@[irreducible] def WX (to te : TDE) : TDE := fun σ M Q => to σ M fun x M1 => ∃ sep, x = .str sep /\ te σ M1 fun y M2 => ∃ ts, Ye y M2 = some (ts.map D.str) /\ JoinOk sep ts = true /\ Q (.str (Txt.join sep ts)) M2
theorem kbb {σ : SD} {M : HpD} {Q : KD} (h : to σ M fun x M1 => ∃ sep, x = .str sep /\ te σ M1 fun y M2 => ∃ ts, Ye y M2 = some (ts.map D.str) /\ JoinOk sep ts = true /\ Q (.str (Txt.join sep ts)) M2) : WX to te σ M Q := by unfold WX; exact h
theorem waC {K : KF} {H : Hp} {M : HpD} : ∀ {ts : List Str} {xs : List V}, RepDs K H M (ts.map D.str) xs -> xs = ts.map V.str
 | [], xs, r => by unfold RepDs at r; exact r
 | t :: ts, xs, r => by
  rw [uf] at r
  unfold RepDs at r
  obtain ⟨y, yr, rfl, r1, r2⟩ := r
  unfold RepD at r1
  subst r1
  rw [waC r2]; rfl
theorem Zbg (ho : ED X o to) (he : ED X e te) (hbase : attributeBase o "join" X.env (eval o X.env) = eval o X.env := by rfl)
  (hfew : ((backTo cpos (starEach (e :: []) X.env)).all (fun x => !x.1) && (backToKw cpos (keywordEach [] X.env)).all (fun x => x.1.isSome)
   && decide ((e :: []).length + ([] : List Keyword).length + (if ([] : List Keyword).isEmpty then 0 else 1) < 30)) = true := by rfl)
  (hline : (apos.endLine == cpos.line) = true := by rfl) (hs : starEach (e :: []) X.env = (false, eval e X.env) :: starEach [] X.env := by rfl) (hplain : (backTo cpos (starEach [] X.env)).any (·.1) = false := by rfl) :
  ED X (.Call (.Attribute o "join" apos) [e] [] cpos) (WX to te) := by
 refine (Xav PySem.F.plainAttrs_str PySem.F.slot_str_join PySem.F.type_str_join (r := XaV X.K) kbg ho (wB he pa_nil hs) hbase hfew hline hs hplain).wk fun σ H Q h => ?_
 obtain ⟨F, σD, M, QD, rel, h, p⟩ := h
 unfold WX at h
 refine lE rel h fun d M1 v H1 f1 rel1 r1 h1 => ?_
 obtain ⟨sep, rfl, h1⟩ := h1
 unfold RepD at r1
 subst r1
 refine ⟨rfl, ?_⟩
 show Wh X.K te σ H1 _
 refine lE rel1 h1 fun y M2 u H2 f2 rel2 r2 h2 => ?_
 obtain ⟨ts, hd, ok, q⟩ := h2
 obtain ⟨l, xs, rfl, hl, rs⟩ := Yo rel2.hp r2 hd
 have := waC rs
 subst this
 exact ⟨sep, l, ts, rfl, rfl, hl, ok, p _ _ _ _ (f1.trans f2) rel2.hp (by unfold RepD; rfl) q⟩
noncomputable def Xz {α : Type} (xs : List α) (k : Nat) (y : α) : List α := xs.take k ++ y :: xs.drop k
def jay : V -> List V -> Hp -> VK -> Prop := fun x vs H Q => ∃ l xs i k y, x = .ref l /\ vs = [.int i, y] /\ i = ((k : Nat) : Int) /\ H l = some (.lst xs) /\ xs.length < sizeLine /\ k <= xs.length /\ Q .non (upd H l (.lst (Xz xs k y)))
theorem Wbv {i : Int} (h0 : 0 <= i) (h : i < 2 ^ 63) : Builtin.List.listFitsIndex i = true := by
 unfold Builtin.List.listFitsIndex
 rw [xA]
 exact ⟨decide_eq_true (by lia), decide_eq_true (by lia)⟩
theorem WaW {xs : List V} {us : List Value} {y : V} {u : Value} (r : Vals xs us) (ry : RelV y u) (k : Nat) : Vals (Xz xs k y) (Xz us k u) := by
 have take : ∀ {xs : List V} {us : List Value}, Vals xs us -> ∀ k, Vals (xs.take k) (us.take k) /\ Vals (xs.drop k) (us.drop k) := by
  intro xs us r
  induction r with
  | nil => intro k; rw [List.take_nil, List.take_nil, List.drop_nil, List.drop_nil]; exact ⟨.nil, .nil⟩
  | cons r t ih =>
   intro k
   cases k with
   | zero => exact ⟨.nil, .cons r t⟩
   | succ k => exact ⟨.cons r (ih k).1, (ih k).2⟩
 exact (take r k).1.append (.cons ry (take r k).2)
theorem ka7 {α : Type} (xs : List α) (k : Nat) (y : α) : (Xz xs k y).length = xs.length + 1 := by
 unfold Xz
 rw [uE, ub, ud, uo]; lia
theorem qbf (us : List Value) (k : Nat) (u : Value) : (us.toArray.extract 0 k).push u ++ us.toArray.extract k = (Xz us k u).toArray := by
 unfold Xz
 apply Array.toList_inj.mp
 simp [List.extract_eq_drop_take]
 exact uw (by rw [uo]; lia)
theorem jaX : MtM X "list.insert" jay := by
 intro pins s σ H x vs v us Q I rx rv h
 obtain ⟨l, xs, i, k, y, rfl, rfl, hi, hH, hz, hk, q⟩ := h
 cases rx
 cases rv with
 | cons r1 rv =>
  obtain ⟨t1, rfl⟩ := r1
  obtain ⟨u, rfl, ru⟩ := XO rv
  obtain ⟨z, its, n, r, hl, e⟩ := I.lstM hH
  have sl := kN
  have hf := Wbv (i := i) (by lia) (by lia)
  refine call_meets F.slot_list_insert ⟨_, e, rfl⟩ F.entry_list_insert (F.args_list_insert_3 _ _ _) (PySem.AutoSeq1.list_insert_list_int_val_1 l _ n i t1 u (by simp [hf]) (by rw [uJ]; lia)) ⟨e, ?_⟩
  refine ⟨.non, _, I.lset (its' := Xz its k u) hH e ?_ (WaW r ru k) (by rw [ka7]; lia), rfl, q⟩
  show ((its.toArray.extract 0 (if i < 0 then (i + ((its.toArray.size : Nat) : Int)).toNat else min i.toNat its.toArray.size)).push u ++ its.toArray.extract (if i < 0 then (i + ((its.toArray.size : Nat) : Int)).toNat else min i.toNat its.toArray.size)) = _
  rw [if_neg (by lia), show min i.toNat its.toArray.size = k by rw [uJ]; lia]
  exact qbf its k u
@[irreducible] def X1 (to te te2 : TDE) : TDE := fun σ M Q => to σ M fun x M1 => ∃ p, x = .ref p /\ (∃ ds1, M1 p = some (.lst ds1)) /\ te σ M1 fun i M2 => te2 σ M2 fun y M3 => ∃ (k : Nat) (ds : List D), i = .int k /\ M3 p = some (.lst ds) /\ ds.length < sizeLine /\ k <= ds.length /\ Q .non (jg M3 p (.lst (Xz ds k y)))
theorem kbj {σ : SD} {M : HpD} {Q : KD} (h : to σ M fun x M1 => ∃ p, x = .ref p /\ (∃ ds1, M1 p = some (.lst ds1)) /\ te σ M1 fun i M2 => te2 σ M2 fun y M3 => ∃ (k : Nat) (ds : List D), i = .int k /\ M3 p = some (.lst ds) /\ ds.length < sizeLine /\ k <= ds.length /\ Q .non (jg M3 p (.lst (Xz ds k y)))) : X1 to te te2 σ M Q := by unfold X1; exact h
theorem Wa5 {K : KF} {H : Hp} {M : HpD} {ds : List D} {xs : List V} {d : D} {v : V} (r : RepDs K H M ds xs) (rv : RepD K H M d v) (k : Nat) : RepDs K H M (Xz ds k d) (Xz xs k v) := (r.take k).append (.cons rv (r.drop k))
theorem qbl (ho : ED X o to) (he : ED X e te) (he2 : ED X e2 te2) (hbase : attributeBase o "insert" X.env (eval o X.env) = eval o X.env := by rfl)
  (hfew : ((backTo cpos (starEach (e :: [e2]) X.env)).all (fun x => !x.1) && (backToKw cpos (keywordEach [] X.env)).all (fun x => x.1.isSome)
   && decide ((e :: [e2]).length + ([] : List Keyword).length + (if ([] : List Keyword).isEmpty then 0 else 1) < 30)) = true := by rfl)
  (hline : (apos.endLine == cpos.line) = true := by rfl) (hs : starEach (e :: [e2]) X.env = (false, eval e X.env) :: starEach [e2] X.env := by rfl) (hs2 : starEach (e2 :: []) X.env = (false, eval e2 X.env) :: starEach [] X.env := by rfl) (hplain : (backTo cpos (starEach [e2] X.env)).any (·.1) = false := by rfl) :
  ED X (.Call (.Attribute o "insert" apos) [e, e2] [] cpos) (X1 to te te2) := by
 refine (Xav yK PySem.F.slot_list_insert PySem.F.type_list_insert (r := jay) jaX ho (wB he (wB he2 pa_nil hs2) hs) hbase hfew hline hs hplain).wk fun σ H Q h => ?_
 obtain ⟨F, σD, M, QD, rel, h, p⟩ := h
 unfold X1 at h
 refine lE rel h fun d M1 v H1 f1 rel1 r1 h1 => ?_
 obtain ⟨l, rfl, ⟨ds1, e1⟩, h1⟩ := h1
 unfold RepD at r1
 subst r1
 obtain ⟨o', e', xs, rfl, hr⟩ := rel1.hp.at_ l _ e1
 refine ⟨.inl ⟨rfl, xs, .inl (.inl e')⟩, ?_⟩
 show Wh X.K te σ H1 _
 refine lE rel1 h1 fun i M2 u H2 f2 rel2 r2 h2 => ?_
 show Wh X.K te2 σ H2 _
 refine lE rel2 h2 fun y M3 w H3 f3 rel3 r3 h3 => ?_
 obtain ⟨k, ds, rfl, e3, hl, hk, q⟩ := h3
 unfold RepD at r2
 subst r2
 obtain ⟨o2, e3', ys, rfl, hr3⟩ := rel3.hp.at_ l _ e3
 have rO : RepO ⟨X.K, F⟩ H3 M3 (.lst (Xz ds k y)) (.lst (Xz ys k w)) := ⟨_, rfl, Wa5 hr3 r3 k⟩
 exact ⟨l, ys, _, k, w, rfl, rfl, rfl, e3', by rw [← hr3.length]; exact hl, by rw [← hr3.length]; exact hk, p _ _ _ _ (((f1.trans f2).trans f3).trans (wA e3)) (rel3.hp.write e3 rO) (by unfold RepD; rfl) q⟩
end
theorem Zaf : bootBuiltins "list" = some (.type "list") := by decide +kernel
noncomputable def WV (lo : Int) (n : Nat) : List V := (uv n).map fun (k : Nat) => .int (lo + (k : Int))
theorem Zak : ∀ {xs : List V} {us : List Value}, xs.length = us.length -> (∀ (i : Nat) (x : V) (u : Value), xs[i]? = some x -> us[i]? = some u -> RelV x u) -> Vals xs us
 | [], [], _, _ => .nil
 | [], _ :: _, h, _ => nomatch h
 | _ :: _, [], h, _ => nomatch h
 | x :: xs, u :: us, h, r => .cons (r 0 x u rfl rfl) (Zak (by simpa using h) fun i y w e1 e2 => r (i + 1) y w (by simpa using e1) (by simpa using e2))
theorem waT {K : KF} {H : Hp} {M : HpD} (lo : Int) (n : Nat) : RepDs K H M (Xx lo n) (WV lo n) := by
 unfold Xx WV
 induction uv n with
 | nil => exact .nil
 | cons a r ih => exact .cons (by unfold RepD; rfl) ih
section
variable {X : Cx} {a b : Expr} {ta : TDA} {p p2 pos pos2 : Pos}
@[irreducible] def qN (ta : TDA) : TDE := fun σ M Q => ta σ M fun vs M1 => ∃ i j : Int, vs = [.int i, .int j] /\ (-(2 ^ 62) <= i /\ i < 2 ^ 62 /\ -(2 ^ 62) <= j /\ j < 2 ^ 62) /\ (j - i).toNat <= 1000 /\ newL (Xx i (j - i).toNat) M1 Q
theorem YaZ {σ : SD} {M : HpD} {Q : KD} (h : ta σ M fun vs M1 => ∃ i j : Int, vs = [.int i, .int j] /\ (-(2 ^ 62) <= i /\ i < 2 ^ 62 /\ -(2 ^ 62) <= j /\ j < 2 ^ 62) /\ (j - i).toNat <= 1000 /\ newL (Xx i (j - i).toNat) M1 Q) : qN ta σ M Q := by unfold qN; exact h
theorem XaZ (hg : Gl X "list") (hm : X.mg "list" = none) (hg2 : Gl X "range") (hm2 : X.mg "range" = none) (ha : AD X [a, b] ta)
  (hs : starEach [a, b] X.env = [(false, eval a X.env), (false, eval b X.env)] := by rfl) (hs2 : starEach [b] X.env = [(false, eval b X.env)] := by rfl)
  (hs3 : starEach [.Call (.Name "range" p2) [a, b] [] pos2] X.env = [(false, eval (.Call (.Name "range" p2) [a, b] [] pos2) X.env)] := by rfl) (hc : X.calm = true := by rfl) :
  ED X (.Call (.Name "list" p) [.Call (.Name "range" p2) [a, b] [] pos2] [] pos) (qN ta) := by
 intro pins s σ H Q I h
 obtain ⟨F, σD, M, QD, rel, h, pp⟩ := h
 unfold qN at h
 refine Call_ (kq I hg hm Zaf (um ?_ hs3 rfl))
 rw [hs3]
 show wpAny _ _ (spliced ((false, eval (.Call (.Name "range" p2) [a, b] [] pos2) X.env) :: [])) _ _ s
 refine Calls.spliced_cons ?_
 have hA := ha pos2 pins s σ H (fun vs H1 => ∃ i j : Int, vs = [.int i, .int j] /\ (-(2 ^ 62) <= i /\ i < 2 ^ 62 /\ -(2 ^ 62) <= j /\ j < 2 ^ 62) /\ (j - i).toNat <= 1000 /\ ∀ l, H1 l = none -> Q (.ref l) (upd H1 l (.lst (WV i (j - i).toNat)))) I ?_
 ·refine Call_ (kq I hg2 hm2 boot_range (um (thn hA fun us s1 ⟨vs, H1, I1, r1, q1⟩ => ?_) (by rw [hs, hs2]) (by rw [hs2]; rfl)))
  obtain ⟨i, j, e, ⟨q1, q2, q3, q4⟩, q5, q⟩ := q1
  subst e
  cases r1 with
  | cons r rr =>
   cases rr with
   | cons r' rr =>
    cases rr
    obtain ⟨t, rfl⟩ := r
    obtain ⟨t', rfl⟩ := r'
    refine call_range_2 ?_
    refine Calls.spliced_nil ?_
    have I2 : Inv X pins σ H1 { s1 with heap := s1.heap.push { cls := .type "range", data := .fields #[.int i t, .int j t', .int 1 s1.toks] }, toks := s1.toks + 1 } := I1.kept fun b o e => uD _ e
    refine call_list_range (n := (j - i).toNat) (I1.ok.hd hc) (IsRange.new ..) (small_one q1 q2 q3 q4) (by rw [rangeSize_one]; split <;> lia) (xD q5 (by decide)) fun h' tk acc c' hk ho hi => ?_
    have hlen : (WV i (j - i).toNat).length = (j - i).toNat := by unfold WV; simp
    have sl : 1000 <= sizeLine := by rw [sizeLine_eq]; decide
    refine ⟨.ref _, _, I2.laid (t' := tk) (o := .lst (WV i (j - i).toNat)) hk (uI _) ⟨by lia, acc.toList, c', Zak (by rw [hlen, uR, hi.1]) (fun k x u e1 e2 => ?_), by simpa using ho⟩, rfl, q _ (I2.hok.fresh (uI _))⟩
    have e3 : acc[k]? = some u := by rw [← xQ]; exact e2
    obtain ⟨tt, rfl⟩ := hi.2 k u e3
    unfold WV at e1
    rw [uO] at e1
    by_cases hk' : k < (j - i).toNat
    ·rw [xi hk'] at e1
     cases e1
     exact ⟨tt, by rw [Int.mul_one]⟩
    ·rw [xF (by simpa using hk')] at e1
     cases e1
 ·refine lA rel h fun d M1 v H1 f1 rel1 r1 h1 => ?_
  obtain ⟨i, j, rfl, q1, q5, q⟩ := h1
  obtain ⟨u, w', rfl, r2, r3⟩ := qai r1
  unfold RepD at r2 r3
  subst r2 r3
  exact ⟨i, j, rfl, q1, q5, (q.post (pp.mono f1) rel1.hp (waT i _)).2⟩
end
section
variable {X : Cx} {pins : ZPO} {σ : St} {H : Hp} {s : Shared}
theorem Inv.turnedAdopt {h' : Heap} {t' : Nat} {fp : List Addr} {T : Addr} {o : HO} (I : Inv X pins σ H s) (k : ∀ b u, b ∉ fp -> b ≠ T -> s.heap.get? b = some u -> h'.get? b = some u) (hf : ∀ b ∈ fp, Xm X pins H b) (fT : Xm X pins H T)
  (new : ObjOk X.prog X.w (upd H T o) h' T o) : Inv X pins σ (upd H T o) { s with heap := h', toks := t' } := by
 have hn := fT.1
 have nf : ∀ b u, H b = some u -> b ∉ fp := fun b u e z => by rw [(hf b z).1] at e; cases e
 have k' : ∀ b u, b ∉ T :: fp -> s.heap.get? b = some u -> h'.get? b = some u := fun b u hb e => k b u (fun z => hb (uQ _ z)) (fun z => hb (by simp [z])) e
 refine I.call (g' := s.gens) (d' := s.drawn) (ch := T :: fp) ⟨fun b u e n _ hc => k' b u hc e, fun b u e n _ hc => ⟨u.slots, k' b u hc e⟩,
  fun b u e n hc => by rw [jc (fun z => hc (by simp [z]))]; exact n, fun b u e hc => ⟨u, k' b u hc e⟩, fun b xs e => by rw [jc (vc e hn)]; exact e,
  fun b x u e => by rw [jc (vc e hn)]; exact e, fun b ps e => ⟨#[], by rw [jc (vc e hn), e]; simp⟩⟩ (fun b u e => ?_) I.bare (fun b hb => ?_)
 ·by_cases hb : b = T
  ·subst hb; rw [wf] at e; cases e; exact new
  ·rw [jc hb] at e
   refine (I.hok b u e).stay (fun c v hc q => ?_) (fun c q => by rw [jc (vc q hn)]; exact q) fun c xs q => by rw [jc (vc q hn)]; exact q
   rcases hc with z | z
   ·rw [z] at q ⊢; exact k b v (nf b u e) hb q
   ·exact k c v (nf c _ z) (vc z hn) q
 ·rcases uU.mp hb with rfl | hb
  ·exact ⟨fT.2.2.2.1, fT.2.1, fT.2.2.2.2.1, fT.2.2.2.2.2⟩
  ·have z := hf b hb
   exact ⟨z.2.2.2.1, z.2.1, z.2.2.2.2.1, z.2.2.2.2.2⟩
end
def kaj (X : Cx) (pins : ZPO) (σ : St) (fv : Value) (spf : SpD) (G : Hp -> Prop) : Prop :=
 ∀ (pins' : ZPO) (s' : Shared) (H' : Hp) (xs : List V) (us : List Value) (Qk : VK), (∀ p ∈ pins, p ∈ pins') -> G H' -> Inv X pins' σ H' s' -> Vals xs us -> jf X.K spf xs H' Qk E0 →
  wpAny (model X.prog X.w) X.A.in1.in1 (call fv us) (EP X pins' σ Qk) (fun _ _ => False) s'
theorem jax {prog : Program} {w : World} {A : Around} {s : Shared} {ks : List Value} {kz : List Int} (hk : IntsAre ks kz) (i j : Nat) (hi : i < ks.length) (hj : j < ks.length) (C : Bool -> Shared -> Prop) (h : C (decide (kz.getD i 0 < kz.getD j 0)) s) :
  wpAny (model prog w) A (keyLt' oneType' (ks.getD i Value.none) (ks.getD j Value.none)) C (fun _ _ => False) s := by
 have at_ : ∀ {ks : List Value} {kz : List Int}, IntsAre ks kz -> ∀ i, i < ks.length -> ∃ t, ks.getD i Value.none = .int (kz.getD i 0) t := by
  intro ks kz hk
  induction hk with
  | nil => intro i hi; cases hi
  | cons n t r ih =>
   intro i hi
   cases i with
   | zero => exact ⟨t, rfl⟩
   | succ i => obtain ⟨t', e⟩ := ih i (by simpa using hi); exact ⟨t', by simpa using e⟩
 obtain ⟨t, e1⟩ := at_ hk i hi
 obtain ⟨u, e2⟩ := at_ hk j hj
 rw [e1, e2, keyLt'_oneType]
 exact oneLt_int h
theorem Wan {M : Model} {A : Around} {E : ZVP} {s : Shared} {ks : List Value} {kz : List Int} {Q : SortKind -> Shared -> Prop} (hk : IntsAre ks kz) (h2 : 2 <= ks.length) (h : Q oneType' s) : wpAny M A (keyKind' ks.toArray) Q E s := by
 match ks, h2, hk with
 | v₁ :: v₂ :: vs, _, hk =>
  rw [keyKind_ints hk]
  exact wpAny_pure h
theorem YaN {X : Cx} {pins : ZPO} {σ : St} {H : Hp} {s : Shared} {F : Addr -> Prop} {M : HpD} {fv : Value} {spf : SpD} {α : Type} {enc : α -> D} {key : α -> Int} {as : List α} {xs : List V} {us : List Value} {a kS : Addr} {e1 : Nat} {P : PySem.Fin -> Shared -> Prop} {E : ZVP}
  {G : Hp -> Prop} (hG : ∀ H', Fz M H M H' -> G H') (run : kaj X pins σ fv spf G) (I : Inv X pins σ H s) (rh : RepH ⟨X.K, F⟩ H M) (rd : RepDs ⟨X.K, F⟩ H M (as.map enc) xs) (vi : Vals xs us) (h64 : as.length < 64)
  (hkey : ∀ x ∈ as, ∀ Q' : KD, Q' (.int (key x)) M -> spf [enc x] M Q') (fa : Xm X pins H a) (fk : Xm X pins H kS) (hka : kS ≠ a)
  (oa : s.heap.get? a = some (seqObj "list" #[] e1)) (ok : s.heap.get? kS = some (seqObj "list" #[] 0))
  (h : ∀ (p : Array Nat) (H' : Hp) (s' : Shared), PermN as.length p -> Srt (fun i => (as.map key).getD i 0) p as.length -> RepH ⟨X.K, F⟩ H' M -> Fz M H M H' -> RepDs ⟨X.K, F⟩ H' M (as.map enc) xs →
   (∀ xs', xs'.length <= sizeLine -> Vals xs' (qj us p).toList -> Inv X pins σ (upd H' a (.lst xs')) s') -> H' a = none -> P (.done (.ret .none)) s') :
  wpAny (model X.prog X.w) X.A.in1.in1 (PyProof.Rows.ksk_rest a fv false us.toArray e1 (.ref kS)) P E s := by
 have lds : (as.map enc).length = as.length := uB _
 have l1 : xs.length = as.length := by rw [← rd.length, lds]
 have l2 : us.length = as.length := by rw [← vi.length, l1]
 have sl : 1000 <= sizeLine := by rw [sizeLine_eq]; decide
 unfold PyProof.Rows.ksk_rest
 refine wpAny_bind (wpAny_rule ?_)
 rw [List.forIn_toArray]
 refine wpAny_bind (PyProof.Rows.ksk_fold (fun i s' => ∃ H' kA e, Inv X pins σ H' s' /\ Fz M H M H' /\ RepH ⟨X.K, F⟩ H' M /\ H' a = none /\ H' kS = none /\ s'.heap.get? kS = some (seqObj "list" kA e) /\ s'.heap.get? a = some (seqObj "list" #[] e1) /\ IntsAre kA.toList ((as.map key).take i)) us 0 s
  ⟨H, #[], 0, I, .refl, rh, fa.1, fk.1, ok, oa, by simpa using IntsAre.nil⟩ ?step ?done)
 case step =>
  rintro j x s' hx ⟨H', kA, e, I', f', rh', na, nk, ok', oa', hk⟩
  simp only [xa] at hk ⊢
  have hj : j < us.length := (uY.mp hx).1
  have ej : as[j]? = some (as[j]'(by lia)) := uG (by lia)
  have ek : (as.map key).take (j + 1) = (as.map key).take j ++ [key (as[j]'(by lia))] := by rw [u1, uO, ej]; simp
  obtain ⟨xv, ex, rx⟩ := rd.get (show (as.map enc)[j]? = some (enc (as[j]'(by lia))) by rw [uO, ej]; rfl)
  obtain ⟨u, eu, ru⟩ := vi.get ex
  rw [hx] at eu; cases eu
  have hz : kA.size <= 64 := by
   have h1 := hk.length
   rw [uR, ud, uB] at h1
   lia
  have Ip : Inv X (pins ++ [(kS, seqObj "list" kA e), (a, seqObj "list" #[] e1)]) σ H' s' := I'.pins_of fun p hp => by
   rcases uj.mp hp with hp | hp
   ·exact I'.pin p (uL _ hp)
   ·rcases uU.mp hp with rfl | hp
    ·exact ⟨ok', nk, fk.2.1, fk.2.2.1, fun v z => by cases z⟩
    ·rw [uc.mp hp]
     exact ⟨oa', na, fa.2.1, fa.2.2.1, fun v z => by cases z⟩
  refine wpAny_bind (wpAny_attempt (wpAny_mono (run _ s' H' [xv] [x] (fun v H2 => v = .int (key (as[j]'(by lia))) /\ Fz M H' M H2 /\ RepH ⟨X.K, F⟩ H2 M) (fun p hp => x8 _ hp) (hG H' f') Ip (.cons ru .nil)
   ⟨F, [enc (as[j]'(by lia))], M, fun d M2 => d = .int (key (as[j]'(by lia))) /\ M2 = M, .cons (rx.mono f') .nil, rh', hkey _ (xT ej) _ ⟨rfl, rfl⟩, fun d M2 v H2 f2 rh2 r2 q2 => ?_⟩) (fun v s'' he => ?_) fun _ _ hF => hF.elim))
  ·obtain ⟨rfl, rfl⟩ := q2
   unfold RepD at r2
   exact ⟨r2, f2, rh2⟩
  ·obtain ⟨v', H2, I2, rv, rfl, f2, rh2⟩ := he
   obtain ⟨t2, rfl⟩ := rv
   have pk := I2.pin (kS, seqObj "list" kA e) (uL _ (uL _ (.head _)))
   have pa' := I2.pin (a, seqObj "list" #[] e1) (uL _ (uL _ (.tail _ (.head _))))
   have s1 := Heap.SameBut.update s''.heap kS (Obj.mapSeq (·.push (.int (key (as[j]'(by lia))) t2)))
   obtain ⟨c2, hc2⟩ : ∃ c2, (s''.heap.update kS (Obj.mapSeq (·.push (.int (key (as[j]'(by lia))) t2)))).get? kS = some (seqObj "list" (kA.push (.int (key (as[j]'(by lia))) t2)) c2) := ⟨_, get?_update_seq pk.1 _⟩
   have ea : (kA.push (Value.int (key (as[j]'(by lia))) t2)).toList = kA.toList ++ [Value.int (key (as[j]'(by lia))) t2] := by simp
   refine wpAny_bind (listUpdate_at pk.1 rfl ?_ (by lia) (xD (Nat.le_of_eq (xw ..)) (by lia)))
   refine wpAny_pure ⟨rfl, H2, kA.push (.int (key (as[j]'(by lia))) t2), c2, ?_, f'.trans f2, rh2, pa'.2.1, pk.2.1, hc2, (s1.2 a hka.symm).trans pa'.1, by rw [ea, ek]; exact PyProof.Rows.ksk_snoc hk⟩
   exact I2.unpinned.turnedL (t' := s''.toks) (fp := [kS]) (fun b u hb e => (s1.2 b (fun z => hb (by simp [z]))).trans e) (fun b hb => by
    rw [uc.mp hb]
    exact ⟨pk.2.1, fk.2⟩)
 case done =>
  rintro s' ⟨H', kA, e, I', f', rh', na, nk, ok', oa', hk⟩
  rw [xa, l2, uw (by rw [uB]; lia)] at hk
  have kl : kA.toList.length = us.length := by rw [hk.length, uB, l2]
  refine wpAny_bind (listItems_at ok' rfl ?_)
  unfold PyProof.Rows.ksk_end
  dsimp only
  rw [if_neg uF]
  have fin : ∀ (st : SortSt) (p : Array Nat), PermN as.length p -> Srt (fun i => (as.map key).getD i 0) p as.length -> (arrOf st).map (·.2) = qj us p -> failedOf st = none -> wpAny (model X.prog X.w) X.A.in1.in1 (PyProof.Rows.ksk_tail a false e1 (.ref kS) st) P E s' := by
   intro st p hp hs hout hf
   have hpz := hp.size
   have hsz : (qj us p).size = as.length := by unfold qj; rw [uJ, uB, uR, hpz]
   unfold PyProof.Rows.ksk_tail
   dsimp only
   rw [hout]
   have b1 := Heap.SameBut.update s'.heap kS (Obj.mapSeq fun _ => (#[] : Array Value))
   have kz : kA.size <= 64 := by rw [← uR, kl]; lia
   refine wpAny_bind (listUpdate_at ok' rfl ?_ (by lia) (ue _))
   refine wpAny_bind (wpAny_letGo ?_)
   have oa2 : (s'.heap.update kS (Obj.mapSeq fun _ => (#[] : Array Value))).get? a = some (seqObj "list" #[] e1) := (b1.2 a hka.symm).trans oa'
   have b2 := Heap.SameBut.update (s'.heap.update kS (Obj.mapSeq fun _ => (#[] : Array Value))) a (Obj.mapSeq fun _ => qj us p)
   obtain ⟨c3, oa3⟩ : ∃ c3, ((s'.heap.update kS (Obj.mapSeq fun _ => (#[] : Array Value))).update a (Obj.mapSeq fun _ => qj us p)).get? a = some (seqObj "list" (qj us p) c3) := ⟨_, get?_update_seq oa2 _⟩
   refine wpAny_bind (seqEpoch_at oa2 rfl ?_)
   refine wpAny_bind (listUpdate_at oa2 rfl ?_ (ue _) (by simp only [uM, if_false]; lia))
   rw [hf]
   simp only [bne_self_eq_false, uM, if_false]
   refine wpAny_pure (h p H' _ hp hs rh' f' (rd.mono f') (fun xs' hz hv => ?_) na)
   exact I'.turnedAdopt (t' := s'.toks) (fp := [kS]) (fun b u hb hT e => (b2.2 b hT).trans ((b1.2 b (fun z => hb (by simp [z]))).trans e)) (fun b hb => by
    rw [uc.mp hb]
    exact ⟨nk, fk.2⟩) ⟨na, fa.2⟩ ⟨hz, (qj us p).toList, c3, hv, by simpa using oa3⟩
  have hsz : us.toArray.size = us.length := by simp
  have hzip : (kA.zip us.toArray) = (kA.toList.toArray.zip us.toArray) := by rw [Array.toArray_toList]
  by_cases h2 : us.toArray.size < 2
  ·rw [if_pos h2, if_pos h2]
   refine wpAny_bind (wpAny_pure ?_)
   rw [StateT.run_pure]
   refine wpAny_bind (wpAny_pure ?_)
   dsimp only
   refine fin _ (uv us.length).toArray (by rw [l2]; exact Array.Perm.refl _) (fun i j hij hj => by rw [show i = j by lia]; exact ul _) ?_ rfl
   rw [kU]
   show (kA.zip us.toArray).map (·.2) = us.toArray
   apply Array.ext
   ·simp [← uR, kl]
   ·intro i _ _; simp
  ·rw [if_neg h2, if_neg h2]
   have hk2 : IntsAre kA.toList.toArray.toList (as.map key) := by simpa using hk
   have : keyKind' kA = keyKind' kA.toList.toArray := by rw [Array.toArray_toList]
   rw [this]
   refine wpAny_bind (Wan hk (by lia) ?_)
   rw [hzip]
   refine wpAny_bind (wpAny_mono (PySem.W.kat_run (ks := kA.toList) (vs := us) (Q := fun st' s2 => s2 = s' /\ ∃ p : Array Nat, PermN us.length p /\ Srt (fun i => (as.map key).getD i 0) p us.length /\ arrOf st' = p.map (PySem.W.kas_item (kA.toList.toArray.zip us.toArray)) /\ failedOf st' = none)
    (G := fun p s2 => s2 = s' /\ PermN us.length p /\ Srt (fun i => (as.map key).getD i 0) p us.length)
    kl (by lia) (by lia) (fun p st' s2 a1 a2 a3 a4 => ⟨a4.1, p, a4.2.1, a4.2.2, a2, a3⟩) (kaR (n := us.length) (lt := rlt fun i => (as.map key).getD i 0) (fun i j hi hj C hC => jax hk i j (by lia) (by lia) C hC) _ (wq (fun p z => ⟨rfl, z⟩) _ (qbb (by lia))))) ?_ fun _ _ e => e)
   rintro ⟨⟨⟩, st'⟩ s2 ⟨rfl, p, hp, hs, har, hf⟩
   dsimp only at *
   rw [l2] at hp hs
   exact fin st' p hp hs (PySem.W.kat_snds kl har) hf
theorem kaz {α : Type} {key : α -> Int} {as : List α} {p : Array Nat} (hp : PermN as.length p) (hs : Srt (fun i => (as.map key).getD i 0) p as.length) :
  (∀ i ∈ p.toList, i < as.length) /\ (p.toList.filterMap fun i => as[i]?).Perm as /\ (p.toList.filterMap fun i => as[i]?).Pairwise (fun a b => key a <= key b) := by
 have hl : p.toList.Perm (uv as.length) := by
  have := hp.toList
  simpa using this
 have hb : ∀ i ∈ p.toList, i < as.length := fun i hi => yL.mp (hl.mem_iff.mp hi)
 refine ⟨hb, ?_, ?_⟩
 ·have := hl.filterMap (fun i => as[i]?)
  rw [waM] at this
  exact this
 ·have hpw : p.toList.Pairwise fun i j => (as.map key).getD i 0 <= (as.map key).getD j 0 := by
   rw [xR]
   intro i j hi hj hij
   have hz := hp.size
   have e : ∀ k (hk : k < p.toList.length), p.toList[k] = p.getD k 0 := fun k hk => by
    have : k < p.size := by simpa using hk
    simp [Array.getD, this]
   rw [e, e]
   exact hs i j (by lia) (by rw [uR] at hj; lia)
  rw [List.pairwise_filterMap]
  refine hpw.imp_of_mem ?_
  intro i j hi hj hr a ea b eb
  rw [ua, ua, uO, uO, ea, eb] at hr
  exact hr
def jN (spf : SpD) : RDn := fun xs M Q => ∃ (α : Type) (enc : α -> D) (key : α -> Int) (as : List α) (d : D), xs = [d] /\ Ye d M = some (as.map enc) /\ as.length < 64 /\ (∀ x ∈ as, ∀ Q' : KD, Q' (.int (key x)) M -> spf [enc x] M Q') ∧
 ∀ bs : List α, bs.Perm as -> bs.Pairwise (fun a b => key a <= key b) -> newL (bs.map enc) M Q
theorem XaN {spf : SpD} {α : Type} {enc : α -> D} {key : α -> Int} {as : List α} {d : D} {M : HpD} {Q : KD} (h : Ye d M = some (as.map enc)) (h64 : as.length < 64) (hk : ∀ x ∈ as, ∀ Q' : KD, Q' (.int (key x)) M -> spf [enc x] M Q')
  (q : ∀ bs : List α, bs.Perm as -> bs.Pairwise (fun a b => key a <= key b) -> newL (bs.map enc) M Q) : jN spf [d] M Q := ⟨α, enc, key, as, d, rfl, h, h64, hk, q⟩
theorem qaC {X : Cx} {pins : ZPO} {σ : St} {H : Hp} {s : Shared} {Q : VK} {fa : Addr} {spf : SpD} {xs : List V} {us : List Value} {F : Addr -> Prop} {ds : List D} {M : HpD} {QD : KD} {G : Hp -> Prop} (run : kaj X pins σ (.ref fa) spf G) (hG : ∀ H', Fz M H M H' -> G H') (I : Inv X pins σ H s) (rx : Vals xs us) (r : RepDs ⟨X.K, F⟩ H M ds xs) (rh : RepH ⟨X.K, F⟩ H M) (hq : jN spf ds M QD) (pp : PostE ⟨X.K, F⟩ M H QD Q) :
  wpAny (model X.prog X.w) X.A (call (.builtin "sorted") us [(Str.ofString "key", .ref fa)]) (EP X pins σ Q) X.xe s := by
 obtain ⟨α, enc, key, as, d, rfl, hd, h64, hkey, q⟩ := hq
 obtain ⟨v, rfl, r1⟩ := qV r
 obtain ⟨l, ys, rfl, hs, rd⟩ := Yo rh r1 hd
 obtain ⟨u, rfl, ru⟩ := XO rx
 cases ru
 obtain ⟨its, vi, pl, hz⟩ := I.list hs
 have lds : (as.map enc).length = as.length := uB _
 have l1 : ys.length = as.length := by rw [← rd.length, lds]
 have l2 : its.length = as.length := by rw [← vi.length, l1]
 refine call_function_entry_kw kind_sorted plain_sorted entry_sorted (ksk_s1 _ _) ?_
 unfold Builtin.«sorted»
 refine wpAny_bind (m := checkCount "sorted" 1 1 _) (wpAny_pure ?_)
 refine wpAny_bind (collect_list pl.isList ?_ (by rw [sizeLine_eq]; lia))
 refine wpAny_bind (wpAny_newList ?_ (by rw [sizeLine_eq]; lia))
 have hsz : ((s.heap.push (seqObj "list" #[] 0)).update s.heap.objs.size (Obj.mapSeq (· ++ its.toArray))).objs.size = s.heap.objs.size + 1 := by
  rw [Heap.size_update, size_push']
 have hoL : (((s.heap.push (seqObj "list" #[] 0)).update s.heap.objs.size (Obj.mapSeq (· ++ its.toArray))).push (seqObj "list" its.toArray 0)).get? (s.heap.objs.size + 1) = some (seqObj "list" its.toArray 0) := by
  rw [← hsz]; exact uP _ rfl
 have keep : ∀ b o, s.heap.get? b = some o -> (((s.heap.push (seqObj "list" #[] 0)).update s.heap.objs.size (Obj.mapSeq (· ++ its.toArray))).push (seqObj "list" its.toArray 0)).get? b = some o /\ b ≠ s.heap.objs.size + 1 := fun b o q => by
  have hlt : b < s.heap.objs.size := uH q
  rw [yN _ _ _ (by rw [hsz]; exact uZ (xJ hlt)), Heap.get?_update_ne _ _ _ _ (uZ hlt), yN _ _ _ (uZ hlt)]
  exact ⟨q, uZ (xJ hlt)⟩
 show wpAny _ _ _ _ _ { s with heap := ((s.heap.push (seqObj "list" #[] 0)).update s.heap.objs.size (Obj.mapSeq (· ++ its.toArray))).push (seqObj "list" its.toArray 0) }
 rw [hsz]
 refine wpAny_bind (wpAny_holding (wpAny_call_entry_kw slot_list_sort ⟨_, hoL, rfl⟩ entry_list_sort ?body (ksk_l1 _ _)))
 case body =>
  show wpAny (model X.prog X.w) X.A.in1.in1 (Builtin.«list.sort» ⟨[.ref (s.heap.objs.size + 1)], [(Str.ofString "key", .ref fa)]⟩) _ _ _
  rw [ksk_t1]
  generalize hh0 : ((s.heap.push (seqObj "list" #[] 0)).update s.heap.objs.size (Obj.mapSeq (· ++ its.toArray))).push (seqObj "list" its.toArray 0) = h0 at *
  have hlt0 : s.heap.objs.size + 1 < h0.objs.size := uH hoL
  unfold ksk_tree
  refine wpAny_bind (listItems_at (s := { s with heap := h0 }) hoL rfl ?_)
  refine wpAny_bind (listUpdate_at (s := { s with heap := h0 }) hoL rfl ?_)
  obtain ⟨e1, ho1⟩ : ∃ e1, (h0.update (s.heap.objs.size + 1) (Obj.mapSeq fun _ => #[])).get? (s.heap.objs.size + 1) = some (seqObj "list" #[] e1) := ⟨_, get?_update_seq hoL (fun _ => #[])⟩
  refine wpAny_bind (seqEpoch_at (s := { s with heap := h0.update (s.heap.objs.size + 1) (Obj.mapSeq fun _ => #[]) }) ho1 rfl ?_)
  refine wpAny_bind (wpAny_newTuple ?_)
  refine wpAny_bind (wpAny_newList ?_)
  refine wpAny_holding ?_
  have hz2 : ((h0.update (s.heap.objs.size + 1) (Obj.mapSeq fun _ => #[])).push (seqObj "tuple" its.toArray 0)).objs.size = h0.objs.size + 1 := by rw [size_push', Heap.size_update]
  show wpAny (model X.prog X.w) X.A.in1.in1 (ksk_rest (s.heap.objs.size + 1) (.ref fa) false its.toArray e1 (.ref ((h0.update (s.heap.objs.size + 1) (Obj.mapSeq fun _ => #[])).push (seqObj "tuple" its.toArray 0)).objs.size)) _ _ { s with heap := ((h0.update (s.heap.objs.size + 1) (Obj.mapSeq fun _ => #[])).push (seqObj "tuple" its.toArray 0)).push (seqObj "list" #[] 0) }
  have I2 : Inv X pins σ H { s with heap := ((h0.update (s.heap.objs.size + 1) (Obj.mapSeq fun _ => #[])).push (seqObj "tuple" its.toArray 0)).push (seqObj "list" #[] 0) } := I.kept (t' := s.toks) fun b o e => uD _ (uD _ ((Heap.get?_update_ne _ _ _ _ (keep b o e).2).trans (keep b o e).1))
  refine YaN (H := H) (M := M) (F := F) (enc := enc) (key := key) (as := as) (xs := ys) hG run I2 rh rd vi h64 hkey (I.fpOk (Nat.le_succ _) (I.hok.fresh (Nat.le_succ _))) (I.fpOk ?_ (I.hok.fresh ?_)) ?_ (uD _ (uD _ ho1)) (uP _ rfl) ?_
  ·rw [hz2]; lia
  ·rw [hz2]; lia
  ·rw [hz2]; exact xM (by lia)
  ·intro p H' s' hp hs' rh' f' rd' mk na
   obtain ⟨hb, hperm, hpw⟩ := kaz hp hs'
   have rr : RepDs ⟨X.K, F⟩ H' M ((p.toList.filterMap fun i => as[i]?).map enc) (p.toList.filterMap fun i => ys[i]?) := by
    rw [← qa4]
    exact Xaz rd' _ fun i hi => by rw [lds]; exact hb i hi
   have rv := vao vi p.toList fun i hi => by rw [l1]; exact hb i hi
   have nl := (q _ hperm hpw).post (pp.mono f') rh' rr
   refine ⟨_, rfl, wpAny_pure ⟨_, rfl, ?_⟩⟩
   exact ⟨.ref (s.heap.objs.size + 1), _, mk _ nl.1 (by unfold qj; simpa using rv), rfl, nl.2 _ na⟩
noncomputable def YX : Key -> D
 | .inl i => .int i
 | .inr x => .str x
theorem Wak {K : KF} {H : Hp} {M : HpD} {k : Key} {v : V} (r : RepD K H M (YX k) v) : v = kV k := by
 cases k <;> (unfold YX RepD at r; exact r)
noncomputable def WG {β : Type} (kvs : List (Key × β)) (k : Key) : Option β := (kvs.find? fun kv => decide (kv.1 = k)).map (·.2)
noncomputable def Zab {β : Type} (kvs : List (Key × β)) (k : Key) (v : β) : List (Key × β) :=
 if (kvs.any fun kv => decide (kv.1 = k)) = true then kvs.map (fun kv => if kv.1 = k then (kv.1, v) else kv) else kvs ++ [(k, v)]
theorem YaB {β : Type} {p : Key × β} {r : List (Key × β)} {k : Key} (e : p.1 = k) : WG (p :: r) k = some p.2 := by simp [WG, xU, e]
theorem WaD {β : Type} {p : Key × β} {r : List (Key × β)} {k : Key} (e : ¬ p.1 = k) : WG (p :: r) k = WG r k := by simp [WG, xU, e]
structure RepKV (K : KF) (H : Hp) (M : HpD) (kvs : List (Key × D)) (vs : List (Key × V)) : Prop where
 keys : vs.map (·.1) = kvs.map (·.1)
 vals : RepDs K H M (kvs.map (·.2)) (vs.map (·.2))
section
variable {K : KF} {H : Hp} {M : HpD}
theorem RepKV.cons_inv {p : Key × D} {kvs : List (Key × D)} {vs : List (Key × V)} (h : RepKV K H M (p :: kvs) vs) : ∃ q r, vs = q :: r /\ q.1 = p.1 /\ RepD K H M p.2 q.2 /\ RepKV K H M kvs r := by
 obtain ⟨k, v⟩ := h
 cases vs with
 | nil => simp at k
 | cons q r =>
  simp only [uf, List.cons.injEq] at k
  rw [uf, uf] at v
  unfold RepDs at v
  obtain ⟨x, xr, e, r1, r2⟩ := v
  cases e
  exact ⟨q, r, rfl, k.1, r1, k.2, r2⟩
theorem RepKV.len {kvs : List (Key × D)} {vs : List (Key × V)} (h : RepKV K H M kvs vs) : kvs.length = vs.length := by
 have := congrArg xy h.keys
 simpa using this.symm
theorem RepKV.val {k : Key} : ∀ {kvs : List (Key × D)} {vs : List (Key × V)}, RepKV K H M kvs vs -> (WG kvs k = none /\ wD vs k = none) \/ ∃ d v, WG kvs k = some d /\ wD vs k = some v /\ RepD K H M d v
 | [], vs, h => by
  have : vs = [] := List.length_eq_zero_iff.mp h.len.symm
  subst this
  exact .inl ⟨rfl, rfl⟩
 | p :: kvs, vs, h => by
  obtain ⟨q, r, rfl, e, r1, h2⟩ := h.cons_inv
  by_cases z : p.1 = k
  ·exact .inr ⟨p.2, q.2, YaB z, w8 (by rw [e]; exact z), r1⟩
  ·rw [WaD z, qab (by rw [e]; exact z)]
   exact RepKV.val h2
theorem RepKV.any {k : Key} {kvs : List (Key × D)} {vs : List (Key × V)} (h : RepKV K H M kvs vs) : (vs.any fun kv => decide (kv.1 = k)) = kvs.any fun kv => decide (kv.1 = k) := by
 have e : ∀ {β : Type} (l : List (Key × β)), (l.any fun kv => decide (kv.1 = k)) = (l.map (·.1)).any fun x => decide (x = k) := fun l => by rw [List.any_map]; rfl
 rw [e, e, h.keys]
theorem RepKV.put {k : Key} {d : D} {v : V} (rv : RepD K H M d v) {kvs : List (Key × D)} {vs : List (Key × V)} (h : RepKV K H M kvs vs) : RepKV K H M (Zab kvs k d) (wL vs k v) := by
 unfold Zab wL
 rw [h.any]
 by_cases z : (kvs.any fun kv => decide (kv.1 = k)) = true
 ·rw [if_pos z, if_pos z]
  clear z
  have go : ∀ {kvs : List (Key × D)} {vs : List (Key × V)}, RepKV K H M kvs vs -> RepKV K H M (kvs.map fun kv => if kv.1 = k then (kv.1, d) else kv) (vs.map fun kv => if kv.1 = k then (kv.1, v) else kv) := by
   intro kvs
   induction kvs with
   | nil =>
    intro vs h
    have : vs = [] := List.length_eq_zero_iff.mp h.len.symm
    subst this
    exact ⟨rfl, .nil⟩
   | cons p kvs ih =>
    intro vs h
    obtain ⟨q, r, rfl, e, r1, h2⟩ := h.cons_inv
    obtain ⟨i1, i2⟩ := ih h2
    rw [uf, uf]
    by_cases z : p.1 = k
    ·rw [if_pos z, if_pos (by rw [e]; exact z)]
     exact ⟨by simp only [uf]; rw [i1, e], .cons rv i2⟩
    ·rw [if_neg z, if_neg (by rw [e]; exact z)]
     exact ⟨by simp only [uf]; rw [i1, e], .cons r1 i2⟩
  exact go h
 ·rw [if_neg z, if_neg z]
  exact ⟨by rw [uk, uk, h.keys]; rfl, by rw [uk, uk]; exact h.vals.append (.cons rv .nil)⟩
theorem RepKV.mono {M' : HpD} {H' : Hp} {kvs : List (Key × D)} {vs : List (Key × V)} (f : Fz M H M' H') (h : RepKV K H M kvs vs) : RepKV K H' M' kvs vs := ⟨h.keys, h.vals.mono f⟩
end
noncomputable def vD : D -> HpD -> Option (List (Key × D))
 | .ref p, M => match M p with | some (.dct kvs) => some kvs | _ => none
 | _, _ => none
theorem WaC {p : Addr} {M : HpD} {kvs : List (Key × D)} (h : M p = some (.dct kvs)) : vD (.ref p) M = some kvs := by simp only [vD, h]
theorem qaF {K : KF} {H : Hp} {M : HpD} {d : D} {v : V} {kvs : List (Key × D)} (rh : RepH K H M) (r : RepD K H M d v) (e : vD d M = some kvs) : ∃ p vs, d = .ref p /\ M p = some (.dct kvs) /\ v = .ref p /\ H p = some (.dK vs) /\ RepKV K H M kvs vs := by
 cases d with
 | ref p =>
  cases q : M p with
  | none => simp only [vD, q] at e; cases e
  | some o =>
   cases o with
   | lst l => simp only [vD, q] at e; cases e
   | tab _ => simp only [vD, q] at e; cases e
   | dct l =>
    simp only [vD, q] at e; cases e
    obtain ⟨o', e', vs, rfl, k, r2⟩ := rh.at_ p _ q
    unfold RepD at r
    exact ⟨p, vs, rfl, q, r, e', k, r2⟩
 | _ => cases e
section
variable {X : Cx} {o i : Expr} {td ty tv : TDE} {pos pos' : Pos} {k : Nat}
@[irreducible] def jO (neg : Bool) (ty td : TDE) : TDE := fun σ M Q => ty σ M fun y M1 => td σ M1 fun x M2 => ∃ kvs k, vD x M2 = some kvs /\ y = YX k /\ Q (.bl (neg ^^ (WG kvs k).isSome)) M2
theorem Xbq {neg : Bool} {σ : SD} {M : HpD} {Q : KD} (h : ty σ M fun y M1 => td σ M1 fun x M2 => ∃ kvs k, vD x M2 = some kvs /\ y = YX k /\ Q (.bl (neg ^^ (WG kvs k).isSome)) M2) : jO neg ty td σ M Q := by unfold jO; exact h
theorem Waz {K : uC} {neg : Bool} {σ : St} {H : Hp} {Q : VK} (h : Wh K (jO neg ty td) σ H Q) : Wh K ty σ H fun y H1 => Wh K td σ H1 fun x H2 => ∃ a ov, x = .ref a /\ DGet H2 a y ov /\ Q (.bl (neg ^^ ov.isSome)) H2 := by
 obtain ⟨F, σD, M, QD, rel, h, p⟩ := h
 unfold jO at h
 refine lE rel h fun y M1 vy H1 f1 rel1 r1 h1 => ?_
 refine lE rel1 h1 fun x M2 vx H2 f2 rel2 r2 h2 => ?_
 obtain ⟨kvs, k, hd, rfl, q⟩ := h2
 obtain ⟨a, vs, rfl, ha, rfl, hH, kv⟩ := qaF rel2.hp r2 hd
 have := Wak r1
 subst this
 refine ⟨a, wD vs k, rfl, .k hH, ?_⟩
 have e : (wD vs k).isSome = (WG kvs k).isSome := by
  rcases kv.val (k := k) with ⟨e1, e2⟩ | ⟨d, v, e1, e2, _⟩ <;> rw [e1, e2] <;> rfl
 rw [e]
 exact p _ _ _ _ (f1.trans f2) rel2.hp (by unfold RepD; rfl) q
theorem wby (hr : Room k X.A) (hi : ED X i ty) (ho : ED X o td) : PC X .In i o (Wh X.K (jO false ty td)) := fun pins s σ H Q I h => by
 refine wbq (by have := hr.un; lia) hi ho pins s σ H Q I ?_
 have := Waz h
 simp only [xY] at this
 exact this
theorem jaO (hr : Room k X.A) (hi : ED X i ty) (ho : ED X o td) : PC X .NotIn i o (Wh X.K (jO true ty td)) := fun pins s σ H Q I h => by
 refine ZaV (by have := hr.un; lia) hi ho pins s σ H Q I ?_
 have := Waz h
 simp only [Bool.true_xor] at this
 exact this
theorem qaN {K : uC} {t : TDE} {σ : St} {H : Hp} {Q : Bool -> Hp -> Prop} (h : Zy K (qd t) σ H Q) : tB (Wh K t) σ H Q := by
 obtain ⟨F, σD, M, QD, rel, h, p⟩ := h
 unfold qd at h
 refine lE rel h fun d M1 v H1 f1 rel1 r1 h1 => ?_
 obtain ⟨b, rfl, q⟩ := h1
 unfold RepD at r1
 exact ⟨b, r1, p _ _ _ f1 rel1.hp q⟩
theorem qaU (hr : Room k X.A) (hi : ED X i ty) (ho : ED X o td) (hm : behindInMarks .NotIn o = false := by rfl) : TD X (.Compare i [.NotIn] [o] pos) (qd (jO true ty td)) := (Xbr (jaO hr hi ho) hm).wk fun _ _ _ h => qaN h
@[irreducible] def YY (td ty : TDE) : TDE := fun σ M Q => td σ M fun x M1 => ty σ M1 fun y M2 => ∃ kvs k d, vD x M2 = some kvs /\ y = YX k /\ WG kvs k = some d /\ Q d M2
theorem wbh {σ : SD} {M : HpD} {Q : KD} (h : td σ M fun x M1 => ty σ M1 fun y M2 => ∃ kvs k d, vD x M2 = some kvs /\ y = YX k /\ WG kvs k = some d /\ Q d M2) : YY td ty σ M Q := by unfold YY; exact h
theorem Zbd (hr : Room k X.A) (ho : ED X o td) (hi : ED X i ty) (hs : va5 i := by exact fun _ _ => rfl) : ED X (.Subscript o i pos) (YY td ty) := by
 refine (kbf (by have := hr.un; lia) ho hi hs).wk fun σ H Q h => ?_
 obtain ⟨F, σD, M, QD, rel, h, p⟩ := h
 unfold YY at h
 refine lE rel h fun x M1 vx H1 f1 rel1 r1 h1 => ?_
 refine lE rel1 h1 fun y M2 vy H2 f2 rel2 r2 h2 => ?_
 obtain ⟨kvs, k, d, hd, rfl, hv, q⟩ := h2
 obtain ⟨a, vs, rfl, ha, rfl, hH, kv⟩ := qaF rel2.hp (r1.mono f2) hd
 have := Wak r2
 subst this
 rcases kv.val (k := k) with ⟨e1, e2⟩ | ⟨d', v, e1, e2, rv⟩
 ·rw [hv] at e1; cases e1
 ·rw [hv] at e1; cases e1
  exact ⟨a, v, rfl, e2 ▸ DGet.k hH, p _ _ _ _ (f1.trans f2) rel2.hp rv q⟩
end
@[irreducible] def jG (n : Nat) (tI : TGI) (g : TDG) (tc : TDT) (tk te : TDE) : TDE := fun σ M Q => tI σ M fun ds Gd M1 => ds.length <= sizeLine /\ ∃ Pv : Nat -> List (Key × D) -> SD -> HpD -> Prop, Pv 0 [] (uK n none ++ σ) M1 /\ (∀ i ys σ M, Pv i ys σ M -> Gd M) ∧
 (∀ i d ys σ M, ds[i]? = some d -> Pv i ys σ M -> g d σ M fun σ2 M2 => tc σ2 M2 fun b M3 => if b = true then tk σ2 M3 fun x M4 => te σ2 M4 fun y M5 => ∃ k, x = YX k /\ Pv (i + 1) (Zab ys k y) σ2 M5 else Pv (i + 1) ys σ2 M3) /\ ∀ ys σ M, Pv ds.length ys σ M -> ∀ p, M p = none -> Q (.ref p) (jg M p (.dct ys))
theorem waZ {n : Nat} {tI : TGI} {g : TDG} {tc : TDT} {tk te : TDE} {σ : SD} {M : HpD} {Q : KD} (h : tI σ M fun ds Gd M1 => ds.length <= sizeLine /\ ∃ Pv : Nat -> List (Key × D) -> SD -> HpD -> Prop, Pv 0 [] (uK n none ++ σ) M1 /\ (∀ i ys σ M, Pv i ys σ M -> Gd M) ∧
 (∀ i d ys σ M, ds[i]? = some d -> Pv i ys σ M -> g d σ M fun σ2 M2 => tc σ2 M2 fun b M3 => if b = true then tk σ2 M3 fun x M4 => te σ2 M4 fun y M5 => ∃ k, x = YX k /\ Pv (i + 1) (Zab ys k y) σ2 M5 else Pv (i + 1) ys σ2 M3) /\ ∀ ys σ M, Pv ds.length ys σ M -> ∀ p, M p = none -> Q (.ref p) (jg M p (.dct ys))) : jG n tI g tc tk te σ M Q := by unfold jG; exact h
section
variable {X : Cx} {tg iter kex elt : Expr} {ifs : List Expr} {scope : Scope} {body : List Stmt} {tI : TGI} {g : TDG} {tb : TSD} {tc : TDT} {tk te : TDE} {ts rest : List Str} {pos : Pos}
theorem jaG {K : uC} {n : Nat} {σ : St} {H : Hp} {Q : VK} (h : Wh K (jG n tI g tc tk te) σ H Q) : vaI n (XaC K tI) (wJ K g) (Zy K tc) (Wh K tk) (Wh K te) σ H Q := by
 obtain ⟨F, σD, M, QD, rel, h, p⟩ := h
 unfold jG at h
 refine ⟨F, σD, M, _, rel, h, fun ds Gd M1 H1 J f1 rh1 y h1 => ?_⟩
 intro D' hD
 obtain ⟨hsz, Pv, p0, gd, step, done⟩ := h1
 have mD := rh1.free hD
 have fF : ∀ a, (F a \/ a = D') -> F a \/ H1 a = none := fun a z => z.elim .inl fun e => .inr (e ▸ hD)
 have rel1 := rel.mono f1 rh1
 -- the start: D' is forbidden
 have relS : Rel ⟨K, fun a => F a \/ a = D'⟩ (uK n none ++ σD) M1 (uK n none ++ σ) (upd H1 D' (.dK [])) := by
  have r1 : Rel ⟨K, F⟩ (uK n none ++ σD) M1 (uK n none ++ σ) H1 := rel1.pad n
  refine ⟨r1.len, fun i d e => ?_, ⟨fun a o e => ?_, fun a z => ?_⟩⟩
  ·obtain ⟨v, e1, e2⟩ := r1.st i d e
   exact ⟨v, e1, (e2.more fF).mono (qp hD)⟩
  ·obtain ⟨o', e', r⟩ := rh1.at_ a o e
   exact ⟨o', by rw [jc (vc e' hD)]; exact e', (r.more fF).mono (qp hD)⟩
  ·rcases z with z | rfl
   ·obtain ⟨⟨o', e'⟩, m'⟩ := rh1.fb a z
    exact ⟨⟨o', by rw [jc (vc e' hD)]; exact e'⟩, m'⟩
   ·exact ⟨⟨_, wf⟩, mD⟩
 refine ⟨fun i m ys σ' H' => m = ds.length - i /\ i <= ds.length /\ ys.length <= i /\ H' D' = some (.dK ys) /\ ∃ σD' M' ysD, Rel ⟨K, fun a => F a \/ a = D'⟩ σD' M' σ' H' /\ Fz M1 H1 M' H' /\ RepKV ⟨K, fun a => F a \/ a = D'⟩ H' M' ysD ys /\ Pv i ysD σD' M',
  ⟨ds.length, by simp, ue _, ue _, wf, _, M1, [], relS, qp hD, ⟨rfl, .nil⟩, p0⟩, ?_⟩
 rintro i m ys σ' H' ⟨rfl, hi, hyl, eD, σD', M', ysD, rel', f', ry, pv⟩
 have mD' : M' D' = none := (rel'.hp.fb D' (.inr rfl)).2
 by_cases hlt : i < ds.length
 ·have e : ds[i]? = some ds[i] := uG hlt
  obtain ⟨go, yl⟩ := (y _ i M' H' fF f' rel'.hp (gd _ _ _ _ pv)).1 _ e
  refine .inr ⟨go, fun x H2 yy => ?_⟩
  obtain ⟨fy, rhy, rx⟩ := yl x H2 yy
  have eD2 := (fy D' _ eD mD').1
  refine ⟨_, ds[i], σD', M', _, rel'.mono fy rhy, rx, step i _ ysD σD' M' e pv, fun σD3 M3 σ3 H3 f3 rel3 h3 => ?_⟩
  refine lT rel3 h3 fun b M4 H4 f4 rel4 h4 => ?_
  have f14 : Fz M1 H1 M4 H4 := ((f'.trans fy).trans f3).trans f4
  have fD4 : Fz M' H' M4 H4 := (fy.trans f3).trans f4
  cases b with
  | false =>
   simp only [uM, if_false] at h4 ⊢
   exact ⟨ds.length - (i + 1), by lia, rfl, hlt, by lia, (fD4 D' _ eD mD').1, σD3, M4, ysD, rel4, f14, ry.mono fD4, h4⟩
  | true =>
   simp only [if_true] at h4 ⊢
   refine lE rel4 h4 fun kd M45 kv H45 f45 rel45 r45 h45 => ?_
   refine lE rel45 h45 fun yd M5 v H5 f5 rel5 r5 h5 => ?_
   obtain ⟨k, rfl, h5⟩ := h5
   have ek := Wak r45
   subst ek
   have fD5 := (fD4.trans f45).trans f5
   obtain ⟨eD5, mD5⟩ := fD5 D' _ eD mD'
   have hF : (KF.mk K fun a => F a \/ a = D').F D' := .inr rfl
   have lp := Y8 ys k v
   have rk := (ry.mono fD5).put (k := k) r5
   refine ⟨k, rfl, eD5, by lia, ds.length - (i + 1), by lia, rfl, hlt, by lia, wf, σD3, M5, Zab ysD k yd, rel5.past hF, fun a o q z => ?_, ⟨rk.keys, rk.vals.past hF⟩, h5⟩
   obtain ⟨q1, q2⟩ := ((f14.trans f45).trans f5) a o q z
   exact ⟨by rw [jc (vc q hD)]; exact q1, q2⟩
 ·have e : i = ds.length := by lia
  subst e
  refine .inl ⟨(y _ _ M' H' fF f' rel'.hp (gd _ _ _ _ pv)).2 (uI _), eD, ?_⟩
  -- the end: D' is jt
  have fL : ∀ a, F a -> (F a \/ a = D') \/ H' a = none := fun a z => .inl (.inl z)
  have rhE : RepH ⟨K, F⟩ H' M' := ⟨fun a o q => by
   obtain ⟨o', e', r⟩ := rel'.hp.at_ a o q
   exact ⟨o', e', r.more fL⟩, fun a z => rel'.hp.fb a (.inl z)⟩
  have hn := done ysD σD' M' pv
  have nf : ¬ F D' := rh1.nf hD
  refine p _ (jg M' D' (.dct ysD)) _ H' (f1.trans fun a o q z => ?_) ⟨fun a o q => ?_, fun a z => ⟨(rhE.fb a z).1, ?_⟩⟩ (by unfold RepD; rfl) (hn D' mD')
  ·obtain ⟨q1, q2⟩ := f' a o q z
   exact ⟨q1, by rw [ve (vc q hD)]; exact q2⟩
  ·by_cases qa : a = D'
   ·rw [qa, wc] at q; cases q
    rw [qa]
    refine ⟨_, eD, ys, rfl, ry.keys, ?_⟩
    exact RepDs.own (F' := fun a => F a \/ a = D') (.inr rfl) fL ry.vals
   ·rw [ve qa] at q
    obtain ⟨o', e', r⟩ := rel'.hp.at_ a o q
    exact ⟨o', e', RepO.own (F' := fun a => F a \/ a = D') (.inr rfl) fL r⟩
  ·rw [ve (fun (z' : a = D') => nf (by rw [← z']; exact z))]; exact (rhE.fb a z).2
theorem Wa0 (i : Nat) {x : Str} {pos' spos : Pos} (S : wm X scope ts rest) (hi : IDG X tg iter tI)
  (hg : ∀ fp s H, GD (ke X scope ts rest fp s H) tg g) (ht : ∀ fp s H, FD (ke X scope ts rest fp s H) ifs tc) (hk0 : ∀ fp s H, ED (ke X scope ts rest fp s H) kex tk) (he : ∀ fp s H, ED (ke X scope ts rest fp s H) elt te)
  (hN : X.N.Nodup) (hx : X.N[i]? = some x) (hl : Loc X.env.scope x) (hc : X.calm = true := by rfl)
  (hsw : swapsWith (.DictComp kex elt [⟨tg, iter, ifs, 0⟩] scope pos) (some (.Name x pos')) spos.line X.env = pure true := by rfl)
  (hs : ∀ x, foldedSetIterable iter X.env x = pure x := by intro _; rfl) (hf : X.fn x = true \/ X.env.scope.names.lookup x = some .local := by first | exact .inl rfl | exact .inr rfl | assumption) :
  StD X (.Assign [.Name x pos'] (.DictComp kex elt [⟨tg, iter, ifs, 0⟩] scope pos) spos) (Wc (jG ts.length tI g tc tk te) (qb i)) := by
 refine (Yau (g := wJ X.K g) (tc := Zy X.K tc) (tk := Wh X.K tk) (te := Wh X.K te) hc S hi hg ht hk0 he hN hx hl hsw hs hf).wk fun D' σ H w1_ => w1_.elim fun F z_ => z_.elim fun σD z_ => z_.elim fun M z_ => z_.elim fun DD z_ => z_.elim fun rel z_ => z_.elim fun h p => ?_
 unfold Wc at h
 refine jaG ⟨F, σD, M, _, rel, h, fun d M1 v H1 f1 rh1 r1 h1 => ?_⟩
 unfold qb at h1
 exact (p.mono f1).nx _ M1 _ H1 .refl ((rel.mono f1 rh1).set i r1) h1
end
section
variable {prog : Program} {w : World} {A : Around} {E : ZVP} {s : Shared}
theorem qaG {M : Model} {a : Addr} {o : Obj} {Q : Option Obj -> Shared -> Prop} (h : s.heap.get? a = some o) (q : Q (some o) s) : wpAny M A (loadIfAlive a) Q E s := fun Γ p hΓ => by
 show Sem.wp M Γ (.loadIfAlive a .pure) _ _ p s
 rw [Sem.wp_loadIfAlive, h]
 exact (wpAny_pure (M := M) (A := A) (E := E) q) Γ p hΓ
abbrev qx (h : Heap) (z TI TO T : Addr) (fl : Bool) : Prop :=
 h.get? z = some { cls := .type "zip", dict := none, data := .fields #[rawInt T, .bool fl, .bool false, .ref TI, .ref TO], slots := #[] }
theorem Yan {z TI TO T : Addr} {fl : Bool} {o : Obj} {Q : Bool -> Shared -> Prop} (hz : qx s.heap z TI TO T fl) (hT : s.heap.get? T = some o)
  (hQ : ∀ h', qx h' z TI TO T true -> xk z s.heap h' -> Q false { s with heap := h' }) : wpAny (model prog w) A (Builtin.SmallTypes.ownedTupleIsFree (.ref z)) Q E s := by
 unfold Builtin.SmallTypes.ownedTupleIsFree
 refine wpAny_bind (wpAny_field hz rfl (x := rawInt T) rfl ?_)
 show wpAny _ _ (loadIfAlive ((T : Int)).toNat >>= _) _ _ s
 rw [xK]
 refine wpAny_bind (qaG hT ?_)
 simp only [Option.isNone_some, uM, if_false]
 refine wpAny_bind (wpAny_field hz rfl (x := .bool fl) rfl ?_)
 cases fl with
 | true =>
  rw [if_neg (by decide)]
  exact wpAny_pure (hQ _ hz (Heap.SameBut.refl _ _))
 | false =>
  rw [if_pos (by decide)]
  refine wpAny_bind (wpAny_setField_rec hz (by simp) fun h' hz' hs' => wpAny_pure (hQ h' hz' hs'))
theorem kaV {z TI TO i1 i2 l1 l2 T : Addr} {fl : Bool} {o : Obj} {k1 k2 : Nat} {xs ys : Array Value} {x y a b : Value} {Q : ZVP} (D : ZipApart z TI TO i1 i2 l1 l2)
  (hz : qx s.heap z TI TO T fl) (hT : s.heap.get? T = some o) (hTI : IsPair s.heap TI (.ref i1) (.ref i2))
  (h1 : s.heap.IsListIter i1 l1 k1) (h2 : s.heap.IsListIter i2 l2 k2) (hl1 : s.heap.IsList l1 xs) (hl2 : s.heap.IsList l2 ys) (hx : xs[k1]? = some x) (hy : ys[k2]? = some y)
  (hQ : ∀ h', qx h' z TI TO T true -> h'.IsListIter i1 l1 (k1 + 1) -> h'.IsListIter i2 l2 (k2 + 1) -> IsPair h' s.heap.objs.size x y -> h'.objs.size = s.heap.objs.size + 1 →
   (∀ c o, c ≠ z -> c ≠ i1 -> c ≠ i2 -> s.heap.get? c = some o -> h'.get? c = some o) -> Q (.ref s.heap.objs.size) { s with heap := h' }) :
  wpAny (model prog w) A (Builtin.«zip.__next__» ⟨[.ref z], []⟩) (fun fin s' => ∃ v, fin = .done (.ret v) /\ Q v s') E s := by
 show wpAny _ _ (field (.ref z) 2 >>= _) _ _ _
 refine wpAny_bind (wpAny_field hz rfl (x := .bool false) rfl ?_)
 show wpAny _ _ (field (.ref z) 3 >>= _) _ _ _
 refine wpAny_bind (wpAny_field hz rfl (x := .ref TI) rfl ?_)
 refine wpAny_bind (wpAny_seqItems hTI rfl ?_)
 show wpAny _ _ (Builtin.SmallTypes.ownedTupleIsFree (.ref z) >>= _) _ _ _
 refine wpAny_bind (Yan hz hT fun h₁ hz₁ hs₁ => ?_)
 simp only [uM, if_false]
 refine wpAny_bind ?_
 rw [← Array.forIn_toList]
 show wpAny _ _ (forIn [Value.ref i1, Value.ref i2] _ _) _ _ _
 simp only [List.forIn_cons, List.forIn_nil]
 refine wpAny_bind (wpAny_bind (wpAny_holding ?_))
 show wpAny _ _ (Builtin.SmallTypes.nextOf (.ref i1) >>= _) _ _ _
 refine wpAny_bind (wpAny_nextOf_list_item (h1.extBut hs₁.extBut D.i1z) (hl1.extBut hs₁.extBut D.l1z) hx fun h₂ h1₂ hs₂ => wpAny_pure ?_)
 refine wpAny_pure ?_
 refine wpAny_bind (wpAny_bind (wpAny_holding ?_))
 show wpAny _ _ (Builtin.SmallTypes.nextOf (.ref i2) >>= _) _ _ _
 refine wpAny_bind (wpAny_nextOf_list_item ((h2.extBut hs₁.extBut D.i2z).extBut hs₂.extBut D.i12.symm) ((hl2.extBut hs₁.extBut D.l2z).extBut hs₂.extBut D.l2i1) hy fun h₃ h2₃ hs₃ => wpAny_pure ?_)
 refine wpAny_pure (wpAny_pure ?_)
 refine wpAny_bind (wpAny_newTuple ?_ (by show 2 <= sizeLine; decide))
 have hsz : h₃.objs.size = s.heap.objs.size := by rw [hs₃.1, hs₂.1, hs₁.1]
 have hz₃ : qx h₃ z TI TO T true := hs₃.extBut _ _ D.i2z.symm (hs₂.extBut _ _ D.i1z.symm hz₁)
 refine wpAny_pure ⟨_, rfl, ?_⟩
 show Q (.ref h₃.objs.size) { s with heap := h₃.push { cls := .type "tuple", data := .seq #[x, y] } }
 have hp : IsPair (h₃.push { cls := .type "tuple", data := .seq #[x, y] }) h₃.objs.size x y := uP _ rfl
 rw [hsz] at hp ⊢
 exact hQ _ (uD _ hz₃) ((h1₂.extBut hs₃.extBut D.i12).at fun o e => uD _ e) (h2₃.at fun o e => uD _ e) hp (by rw [u3, hsz]) fun c o c1 c3 c4 e => uD _ (hs₃.extBut _ _ c4 (hs₂.extBut _ _ c3 (hs₁.extBut _ _ c1 e)))
theorem ja4 {z TI TO i1 i2 l1 l2 T : Addr} {fl : Bool} {o : Obj} {k1 k2 : Nat} {xs ys : Array Value} {Q : PySem.Fin -> Shared -> Prop} (hh : A.handled = none) (D : ZipApart z TI TO i1 i2 l1 l2)
  (hz : qx s.heap z TI TO T fl) (hT : s.heap.get? T = some o) (hTI : IsPair s.heap TI (.ref i1) (.ref i2))
  (h1 : s.heap.IsListIter i1 l1 k1) (h2 : s.heap.IsListIter i2 l2 k2) (hl1 : s.heap.IsList l1 xs) (hl2 : s.heap.IsList l2 ys) (hend : xs[k1]? = none \/ ys[k2]? = none)
  (hE : ∀ h' e, (∀ c o, c ≠ z -> c ≠ i1 -> c ≠ i2 -> s.heap.get? c = some o -> h'.get? c = some o) -> (∃ o, h'.get? e = some o /\ o.cls = .type "StopIteration") -> E (.ref e) { s with heap := h' }) :
  wpAny (model prog w) A (Builtin.«zip.__next__» ⟨[.ref z], []⟩) Q E s := by
 show wpAny _ _ (field (.ref z) 2 >>= _) _ _ _
 refine wpAny_bind (wpAny_field hz rfl (x := .bool false) rfl ?_)
 show wpAny _ _ (field (.ref z) 3 >>= _) _ _ _
 refine wpAny_bind (wpAny_field hz rfl (x := .ref TI) rfl ?_)
 refine wpAny_bind (wpAny_seqItems hTI rfl ?_)
 show wpAny _ _ (Builtin.SmallTypes.ownedTupleIsFree (.ref z) >>= _) _ _ _
 refine wpAny_bind (Yan hz hT fun h₁ hz₁ hs₁ => ?_)
 simp only [uM, if_false]
 refine wpAny_bind ?_
 rw [← Array.forIn_toList]
 show wpAny _ _ (forIn [Value.ref i1, Value.ref i2] _ _) _ _ _
 simp only [List.forIn_cons, List.forIn_nil]
 refine wpAny_bind (wpAny_bind (wpAny_holding ?_))
 show wpAny _ _ (Builtin.SmallTypes.nextOf (.ref i1) >>= _) _ _ _
 cases hx : xs[k1]? with
 | none =>
  exact wpAny_bind (wpAny_nextOf_list_end hh (h1.extBut hs₁.extBut D.i1z) (hl1.extBut hs₁.extBut D.l1z) hx fun h₂ e hs₂ he => hE h₂ e (fun c o c1 c3 _ x => hs₂ _ _ c3 (hs₁.extBut _ _ c1 x)) he)
 | some x =>
  have hy : ys[k2]? = none := by rcases hend with h | h; rw [hx] at h; cases h; exact h
  refine wpAny_bind (wpAny_nextOf_list_item (h1.extBut hs₁.extBut D.i1z) (hl1.extBut hs₁.extBut D.l1z) hx fun h₂ h1₂ hs₂ => wpAny_pure ?_)
  refine wpAny_pure ?_
  refine wpAny_bind (wpAny_bind (wpAny_holding ?_))
  show wpAny _ _ (Builtin.SmallTypes.nextOf (.ref i2) >>= _) _ _ _
  exact wpAny_bind (wpAny_nextOf_list_end hh ((h2.extBut hs₁.extBut D.i2z).extBut hs₂.extBut D.i12.symm) ((hl2.extBut hs₁.extBut D.l2z).extBut hs₂.extBut D.l2i1) hy fun h₃ e hs₃ he => hE h₃ e (fun c o c1 c3 c4 x => hs₃ _ _ c4 (hs₂.extBut _ _ c3 (hs₁.extBut _ _ c1 x))) he)
theorem W9 {z TI TO i1 i2 l1 l2 T : Addr} {fl : Bool} {o : Obj} {k1 k2 : Nat} {xs ys : Array Value} {x y : Value} {Q : Option Value -> Shared -> Prop} (D : ZipApart z TI TO i1 i2 l1 l2)
  (hz : qx s.heap z TI TO T fl) (hT : s.heap.get? T = some o) (hTI : IsPair s.heap TI (.ref i1) (.ref i2))
  (h1 : s.heap.IsListIter i1 l1 k1) (h2 : s.heap.IsListIter i2 l2 k2) (hl1 : s.heap.IsList l1 xs) (hl2 : s.heap.IsList l2 ys) (hx : xs[k1]? = some x) (hy : ys[k2]? = some y)
  (hQ : ∀ h', qx h' z TI TO T true -> h'.IsListIter i1 l1 (k1 + 1) -> h'.IsListIter i2 l2 (k2 + 1) -> IsPair h' s.heap.objs.size x y -> h'.objs.size = s.heap.objs.size + 1 →
   (∀ c o, c ≠ z -> c ≠ i1 -> c ≠ i2 -> s.heap.get? c = some o -> h'.get? c = some o) -> Q (some (.ref s.heap.objs.size)) { s with heap := h' }) :
  wpAny (model prog w) A (pyNext (.ref z)) Q E s := by
 have hTy : s.TypeIs (.ref z) "zip" := ⟨_, hz, rfl⟩
 unfold pyNext
 exact wpAny_bind (wpAny_attempt (wpAny_callSpecial?_slot (name := Str.ofString "__next__") hTy x0
  (wpAny_call_entry x0 hTy PySem.F.entry_zip_next
   (kaV (a := .none) (b := .none) D hz hT hTI h1 h2 hl1 hl2 hx hy fun h' a1 a2 a3 a4 a5 a6 => wpAny_pure (hQ h' a1 a2 a3 a4 a5 a6)) (PySem.F.args_zip_next_1 _))))
theorem Zae {z TI TO i1 i2 l1 l2 T : Addr} {fl : Bool} {o : Obj} {k1 k2 : Nat} {xs ys : Array Value} {Q : Option Value -> Shared -> Prop} (hh : A.handled = none) (D : ZipApart z TI TO i1 i2 l1 l2)
  (hz : qx s.heap z TI TO T fl) (hT : s.heap.get? T = some o) (hTI : IsPair s.heap TI (.ref i1) (.ref i2))
  (h1 : s.heap.IsListIter i1 l1 k1) (h2 : s.heap.IsListIter i2 l2 k2) (hl1 : s.heap.IsList l1 xs) (hl2 : s.heap.IsList l2 ys) (hend : xs[k1]? = none \/ ys[k2]? = none)
  (hQ : ∀ h', (∀ c o, c ≠ z -> c ≠ i1 -> c ≠ i2 -> s.heap.get? c = some o -> h'.get? c = some o) -> Q none { s with heap := h' }) : wpAny (model prog w) A (pyNext (.ref z)) Q E s := by
 have hTy : s.TypeIs (.ref z) "zip" := ⟨_, hz, rfl⟩
 unfold pyNext
 refine wpAny_bind (wpAny_attempt (wpAny_callSpecial?_slot (name := Str.ofString "__next__") hTy x0
  (wpAny_call_entry x0 hTy PySem.F.entry_zip_next (ja4 hh D hz hT hTI h1 h2 hl1 hl2 hend fun h' e hk he => ?_) (PySem.F.args_zip_next_1 _))))
 obtain ⟨o, ho, hc⟩ := he
 refine wpAny_bind (wpAny_isInstance (T := "StopIteration") (b := true) ⟨o, ho, hc⟩ isSubtype_stop ?_)
 exact wpAny_pure (hQ _ hk)
end
theorem ZaQ : typeLookup (.type "zip") "__len__" = pure none := by rw [typeLookup_type, builtinLookup_eq_fast]; kernel_rfl
theorem ZaG : typeLookup (.type "zip") "__length_hint__" = pure none := by rw [typeLookup_type, builtinLookup_eq_fast]; kernel_rfl
def ZS (z TI TO i1 i2 a b : Addr) (i : Nat) (h : Heap) : Prop :=
 IsPair h TI (.ref i1) (.ref i2) /\ (∃ p q, IsPair h TO p q) /\ h.IsListIter i1 a i /\ h.IsListIter i2 b i /\ (IsZip h z TI TO .none \/ ∃ T fl o, qx h z TI TO T fl /\ h.get? T = some o)
theorem ZS.zobj {z TI TO i1 i2 a b : Addr} {i : Nat} {h : Heap} (st : ZS z TI TO i1 i2 a b i h) : ∃ o vs, h.get? z = some o /\ o.cls = .type "zip" /\ o.data = .fields vs := by
 obtain ⟨_, _, _, _, hz | ⟨T, fl, o, hz, _⟩⟩ := st
 ·exact ⟨_, _, hz, rfl, rfl⟩
 ·exact ⟨_, _, hz, rfl, rfl⟩
theorem ZS.apart {z TI TO i1 i2 a b : Addr} {i : Nat} {h : Heap} {xs ys : Array Value} (st : ZS z TI TO i1 i2 a b i h) (h12 : i1 ≠ i2) (hT : TI ≠ TO) (l1 : h.IsList a xs) (l2 : h.IsList b ys) : ZipApart z TI TO i1 i2 a b := by
 obtain ⟨oz, vz, gz, cz, _⟩ := st.zobj
 obtain ⟨hI, ⟨p, q, hO⟩, ⟨o1, g1, c1, d1⟩, ⟨o2, g2, c2, d2⟩, _⟩ := st
 obtain ⟨ol, gl, cl, _⟩ := l1
 obtain ⟨om, gm, cm, _⟩ := l2
 have ne : ∀ {x y : Addr} {ox oy : Obj} {m n : String}, h.get? x = some ox -> h.get? y = some oy -> ox.cls = .type m -> oy.cls = .type n -> m ≠ n -> x ≠ y := fun e1 e2 c1 c2 hmn z => by
  subst z
  rw [e1] at e2; cases e2
  rw [c1] at c2; cases c2
  exact hmn rfl
 exact ⟨ne hI gz rfl cz (by decide), ne hO gz rfl cz (by decide), ne g1 gz c1 cz (by decide), ne g2 gz c2 cz (by decide), hT, ne hI g1 rfl c1 (by decide), ne hI g2 rfl c2 (by decide), ne hO g1 rfl c1 (by decide), ne hO g2 rfl c2 (by decide), h12,
  ne gl gz cl cz (by decide), ne gl hO cl rfl (by decide), ne gl g1 cl c1 (by decide), ne gl g2 cl c2 (by decide), ne gm gz cm cz (by decide), ne gm hO cm rfl (by decide), ne gm g1 cm c1 (by decide), ne gm g2 cm c2 (by decide)⟩
theorem ZS.keep {z TI TO i1 i2 a b : Addr} {i : Nat} {h h' : Heap} (st : ZS z TI TO i1 i2 a b i h) (k : ∀ c o, h.get? c = some o -> c ∈ [z, TI, TO, i1, i2] \/ o.cls = .type "tuple" -> h'.get? c = some o) (hal : ∀ T fl o, qx h z TI TO T fl -> h.get? T = some o -> ∃ o', h'.get? T = some o') : ZS z TI TO i1 i2 a b i h' := by
 obtain ⟨hI, ⟨p, q, hO⟩, h1, h2, hz⟩ := st
 refine ⟨k _ _ hI (.inl (by simp)), ⟨p, q, k _ _ hO (.inl (by simp))⟩, h1.at fun o e => k _ o e (.inl (by simp)), h2.at fun o e => k _ o e (.inl (by simp)), ?_⟩
 rcases hz with hz | ⟨T, fl, o, hz, hT⟩
 ·exact .inl (k _ _ hz (.inl (by simp)))
 ·obtain ⟨o', e'⟩ := hal T fl o hz hT
  exact .inr ⟨T, fl, o', k _ _ hz (.inl (by simp)), e'⟩
structure ZG (H H' : Hp) (xs ys : List V) (acc : Array Value) (i : Nat) : Prop where
 old : ∀ b u, H b = some u -> H' b = some u
 size : acc.size = i
 at_ : ∀ (j : Nat) (u : Value), acc[j]? = some u -> ∃ T x y, u = .ref T /\ xs[j]? = some x /\ ys[j]? = some y /\ H' T = some (.tup [x, y]) /\ H T = none
section
variable {X : Cx} {pins : ZPO} {σ : St}
theorem Wa1 {A0 : Around} (hh : A0.handled = none) {H : Hp} {xs ys : List V} {a b z TI TO i1 i2 S : Addr} (h12 : i1 ≠ i2) (hT : TI ≠ TO) (hS : S ∉ [z, TI, TO, i1, i2]) (hn : min xs.length ys.length <= 1000) (ha : ∀ H' : Hp, (∀ b u, H b = some u -> H' b = some u) -> SqL X.K H' a xs) (hb : ∀ H' : Hp, (∀ b u, H b = some u -> H' b = some u) -> SqL X.K H' b ys)
  (fp : ∀ H' : Hp, (∀ c ∈ [S, z, TI, TO, i1, i2], H' c = none) -> ∀ c ∈ [S, z, TI, TO, i1, i2], Xm X pins H' c) {R : Result -> Shared -> Prop}
  (fin : ∀ (H' : Hp) (s' : Shared) (acc : Array Value), ZG H H' xs ys acc (min xs.length ys.length) -> H' S = none -> (∀ vs : List V, vs.length <= sizeLine -> Vals vs acc.toList -> Inv X pins σ (upd H' S (.lst vs)) s') -> R (.ok (.ret .none)) s') :
  ∀ (k i : Nat) (s : Shared) (H' : Hp) (acc : Array Value) (c : Nat), min xs.length ys.length - i = k -> i <= min xs.length ys.length -> Inv X pins σ H' s -> (∀ c ∈ [S, z, TI, TO, i1, i2], H' c = none) -> ZS z TI TO i1 i2 a b i s.heap →
   s.heap.get? S = some { cls := .type "list", dict := none, data := .seq acc c, slots := #[] } -> ZG H H' xs ys acc i -> codeAny (model X.prog X.w) A0 (.builtin "list.extend.loop" ⟨[.ref S, .ref z, .none], []⟩) R s := by
 have sl : 1000 <= sizeLine := by rw [sizeLine_eq]; decide
 intro k
 induction k with
 | zero =>
  intro i s H' acc c hk hi I nn st hSo zg
  have hin : i = min xs.length ys.length := by lia
  obtain ⟨its, v1, p1, _⟩ := I.list (ha H' zg.old)
  obtain ⟨jts, v2, p2, _⟩ := I.list (hb H' zg.old)
  have D := st.apart h12 hT p1.isList p2.isList
  have l1 := v1.length
  have l2 := v2.length
  have hend : its.toArray[i]? = none \/ jts.toArray[i]? = none := by
   rcases Nat.le_total xs.length ys.length with q | q
   ·exact .inl (by simp; lia)
   ·exact .inr (by simp; lia)
  have stop : ∀ h' : Heap, (∀ c o, c ≠ z -> c ≠ TO -> c ≠ i1 -> c ≠ i2 -> s.heap.get? c = some o -> h'.get? c = some o) -> R (.ok (.ret .none)) { s with heap := h' } := fun h' hk' => by
   refine fin H' _ acc (hin ▸ zg) (nn S (by simp)) fun vs hz hv => ?_
   have hSo' : h'.get? S = some { cls := .type "list", dict := none, data := .seq acc c, slots := #[] } := by
    simp only [uU, ur, or_false, not_or] at hS
    exact hk' S _ hS.1 hS.2.2.1 hS.2.2.2.1 hS.2.2.2.2 hSo
   refine I.turnedAdopt (t' := s.toks) (fp := [z, TI, TO, i1, i2]) (fun c' u hc' hcS e => ?_) (fun c' hc' => fp H' nn c' (uQ _ hc')) (fp H' nn S (by simp)) ⟨hz, acc.toList, c, hv, by simpa using hSo'⟩
   simp only [uU, ur, or_false, not_or] at hc'
   exact hk' c' u hc'.1 hc'.2.2.1 hc'.2.2.2.1 hc'.2.2.2.2 e
  refine codeAny_builtin xc ?_
  rw [Around.under_plainId ux _]
  show wpAny _ A0.in1 (pyNext (.ref z) >>= _) _ _ s
  obtain ⟨hI, ⟨p, q, hO⟩, h1, h2, hz⟩ := st
  rcases hz with hz | ⟨T, fl, o, hz, hTo⟩
  ·exact wpAny_bind (wpAny_pyNext_zip_end hh D hz hI hO h1 h2 p1.isList p2.isList hend fun h' hk' => wpAny_pure (stop h' hk'))
  ·exact wpAny_bind (Zae hh D hz hTo hI h1 h2 p1.isList p2.isList hend fun h' hk' => wpAny_pure (stop h' fun c o c1 _ c3 c4 e => hk' c o c1 c3 c4 e))
 | succ k ih =>
  intro i s H' acc c hk hi I nn st hSo zg
  have hlt : i < min xs.length ys.length := by lia
  obtain ⟨its, v1, p1, _⟩ := I.list (ha H' zg.old)
  obtain ⟨jts, v2, p2, _⟩ := I.list (hb H' zg.old)
  have D := st.apart h12 hT p1.isList p2.isList
  have ex : xs[i]? = some (xs[i]'(by lia)) := uG (by lia)
  have ey : ys[i]? = some (ys[i]'(by lia)) := uG (by lia)
  obtain ⟨u, eu, ru⟩ := v1.get ex
  obtain ⟨v, ev, rv⟩ := v2.get ey
  have hz' := st.zobj
  have step : ∀ (h' : Heap), IsPair h' s.heap.objs.size u v -> h'.objs.size = s.heap.objs.size + 1 -> (∀ c o, c ≠ z -> c ≠ TO -> c ≠ i1 -> c ≠ i2 -> s.heap.get? c = some o -> h'.get? c = some o) -> ZS z TI TO i1 i2 a b (i + 1) h' →
    wpAny (model X.prog X.w) A0.in1 (updateSeq S (·.push (.ref s.heap.objs.size)) >>= fun _ => again (.builtin "list.extend.loop" ⟨[.ref S, .ref z, .none], []⟩)) (fun fin s' => match fin with | .done f => R (.ok f) s' | .again c' => c'.quiet = true /\ codeAny (model X.prog X.w) A0 c' R s') (fun e s' => R (.error e) s') { s with heap := h' } := by
   intro h' hp hsz hk' st'
   have hS' := hS
   simp only [uU, ur, or_false, not_or] at hS'
   have hSo' : h'.get? S = some { cls := .type "list", dict := none, data := .seq acc c, slots := #[] } := hk' S _ hS'.1 hS'.2.2.1 hS'.2.2.2.1 hS'.2.2.2.2 hSo
   have hTn : H' s.heap.objs.size = none := I.hok.fresh (uI _)
   have hlts : ∀ c' ∈ [S, z, TI, TO, i1, i2], c' < s.heap.objs.size := by
    obtain ⟨oz, _, gz, _, _⟩ := st.zobj
    obtain ⟨gI, ⟨_, _, gO⟩, ⟨_, g1, _⟩, ⟨_, g2, _⟩, _⟩ := st
    intro c' hc'
    simp only [uU, ur, or_false] at hc'
    rcases hc' with rfl | rfl | rfl | rfl | rfl | rfl
    ·exact uH hSo
    ·exact uH gz
    ·exact uH gI
    ·exact uH gO
    ·exact uH g1
    ·exact uH g2
   have I1 : Inv X pins σ (upd H' s.heap.objs.size (.tup [xs[i]'(by lia), ys[i]'(by lia)])) { s with heap := h' } :=
    I.turnedNew (t' := s.toks) (fp := [z, TI, TO, i1, i2]) (fun c' o hc' e => by
     simp only [uU, ur, or_false, not_or] at hc'
     exact hk' c' o hc'.1 hc'.2.2.1 hc'.2.2.2.1 hc'.2.2.2.2 e) (fun c' hc' => fp H' nn c' (uQ _ hc')) (uI _) (show ObjOk X.prog X.w _ h' _ (.tup _) from ⟨by show 2 <= sizeLine; decide, [u, v], .cons ru (.cons rv .nil), _, hp, rfl, _, rfl⟩)
   have nn1 : ∀ c' ∈ [S, z, TI, TO, i1, i2], upd H' s.heap.objs.size (.tup [xs[i]'(by lia), ys[i]'(by lia)]) c' = none := fun c' hc' => by
    rw [jc (uZ (hlts c' hc'))]; exact nn c' hc'
   have sz : acc.size = i := zg.size
   refine wpAny_bind (wpAny_updateSeq (s := { s with heap := h' }) hSo' rfl ?_ (by lia) (by show (acc.push _).size <= sizeLine + 1; rw [xw]; lia))
   refine wpAny_pure ⟨plainId_quiet ux _, ?_⟩
   have sb := Heap.SameBut.update h' S (Obj.mapSeq (·.push (Value.ref s.heap.objs.size)))
   have I2 : Inv X pins σ (upd H' s.heap.objs.size (.tup [xs[i]'(by lia), ys[i]'(by lia)])) { s with heap := h'.update S (Obj.mapSeq (·.push (Value.ref s.heap.objs.size))) } :=
    Inv.turnedL (s := { s with heap := h' }) (t' := s.toks) (fp := [S]) I1 (fun c' o hc' e => (sb.2 c' (fun q => hc' (by simp [q]))).trans e) (fun c' hc' => by rw [uc.mp hc']; exact fp _ nn1 S (by simp))
   refine ih (i + 1) _ _ (acc.push (.ref s.heap.objs.size)) _ (by lia) (by lia) I2 nn1 (st'.keep (fun c' o e hc' => (sb.2 c' (fun q => ?_)).trans e) (fun T fl o hz1 hT1 => ?_)) (uu _ hSo' rfl) ⟨fun b' u' e => ?_, by rw [xw, sz], fun j u' e => ?_⟩
   ·rcases hc' with hc' | hc'
    ·exact hS (q ▸ hc')
    ·rw [q, hSo'] at e; cases e; exact absurd hc' (by simp)
   ·by_cases q : T = S
    ·exact ⟨_, by rw [q]; exact uu _ hSo' rfl⟩
    ·exact ⟨o, (sb.2 T q).trans hT1⟩
   ·rw [jc (vc (zg.old b' u' e) hTn)]; exact zg.old b' u' e
   ·rw [Array.getElem?_push] at e
    by_cases q : j = acc.size
    ·rw [if_pos q] at e; cases e
     rw [q, sz]
     refine ⟨_, _, _, rfl, ex, ey, wf, ?_⟩
     cases hh : H s.heap.objs.size with
     | none => rfl
     | some o => rw [zg.old _ _ hh] at hTn; cases hTn
    ·rw [if_neg q] at e
     obtain ⟨T, x, y, e1, e2, e3, e4, e5⟩ := zg.at_ j u' e
     exact ⟨T, x, y, e1, e2, e3, by rw [jc (vc e4 hTn)]; exact e4, e5⟩
  refine codeAny_builtin xc ?_
  rw [Around.under_plainId ux _]
  show wpAny _ A0.in1 (pyNext (.ref z) >>= _) _ _ s
  obtain ⟨hI, ⟨p, q, hO⟩, h1, h2, hz⟩ := st
  rcases hz with hz | ⟨T, fl, o, hz, hTo⟩
  ·refine wpAny_bind (wpAny_pyNext_zip_item D hz hI hO h1 h2 p1.isList p2.isList (x := u) (y := v) (by simpa using eu) (by simpa using ev) fun h' a1 a2 a3 a4 a5 a6 a7 => ?_)
   exact step h' a5 a6 a7 ⟨a7 TI _ D.TIz D.TITO D.TIi1 D.TIi2 hI, ⟨_, _, a2⟩, a3, a4, .inr ⟨s.heap.objs.size, false, _, a1, a5⟩⟩
  ·refine wpAny_bind (W9 D hz hTo hI h1 h2 p1.isList p2.isList (x := u) (y := v) (by simpa using eu) (by simpa using ev) fun h' a1 a2 a3 a4 a5 a6 => ?_)
   have hT' : ∃ o', h'.get? T = some o' := by
    by_cases q1 : T = z
    ·exact ⟨_, by rw [q1]; exact a1⟩
    ·by_cases q2 : T = i1
     ·obtain ⟨o', e', _⟩ := a2; exact ⟨o', by rw [q2]; exact e'⟩
     ·by_cases q3 : T = i2
      ·obtain ⟨o', e', _⟩ := a3; exact ⟨o', by rw [q3]; exact e'⟩
      ·exact ⟨o, a6 T o q1 q2 q3 hTo⟩
   obtain ⟨o', hT'⟩ := hT'
   exact step h' a4 a5 (fun c o c1 _ c3 c4 e => a6 c o c1 c3 c4 e) ⟨a6 TI _ D.TIz D.TIi1 D.TIi2 hI, ⟨_, _, a6 TO _ D.TOz D.TOi1 D.TOi2 hO⟩, a2, a3, .inr ⟨T, true, o', a1, hT'⟩⟩
theorem qaB {K : uC} {H H' : Hp} {a : Addr} {xs : List V} (h : SqL K H a xs) (m : ∀ b u, H b = some u -> H' b = some u) : SqL K H' a xs := by
 rcases h with (h | ⟨o, h⟩) | h
 ·exact .inl (.inl (m _ _ h))
 ·exact .inl (.inr ⟨o, m _ _ h⟩)
 ·exact .inr h
theorem jat {H : Hp} {s : Shared} {xs ys : List V} {a b z TI TO i1 i2 : Addr} {Q : ZVP} {A0 : Around} {E : ZVP} (hh : A0.handled = none) (I : Inv X pins σ H s) (h12 : i1 ≠ i2) (hT : TI ≠ TO) (hn : min xs.length ys.length <= 1000) (ha : SqL X.K H a xs) (hb : SqL X.K H b ys)
  (hf : ∀ c ∈ [z, TI, TO, i1, i2], Xm X pins H c) (hz0 : IsZip s.heap z TI TO .none) (st : ZS z TI TO i1 i2 a b 0 s.heap)
  (fin : ∀ (H' : Hp) (s' : Shared) (acc : Array Value), ZG H H' xs ys acc (min xs.length ys.length) -> H' s.heap.objs.size = none -> (∀ vs : List V, vs.length <= sizeLine -> Vals vs acc.toList -> Inv X pins σ (upd H' s.heap.objs.size (.lst vs)) s') -> Q (.ref s.heap.objs.size) s') :
  wpAny (model X.prog X.w) A0 (call (.type "list") [.ref z]) Q E s := by
 refine callType_codes (Q₁ := fun obj s₁ => obj = .ref s.heap.objs.size /\ s₁ = { s with heap := s.heap.push { cls := .type "list", data := .seq #[] } }) PySem.F.called_list (PySem.F.typeCall_list_1 _) PySem.F.entry_list_init
  (code_list_new _ ⟨rfl, rfl⟩) fun obj s₁ h₁ => ?_
 obtain ⟨rfl, rfl⟩ := h₁
 have hS : (s.heap.push { cls := .type "list", data := .seq #[] }).get? s.heap.objs.size = some { cls := .type "list", data := .seq #[] } := uP _ rfl
 have hzlt : ∀ c ∈ [z, TI, TO, i1, i2], c < s.heap.objs.size := by
  obtain ⟨oz, _, gz, _, _⟩ := st.zobj
  obtain ⟨gI, ⟨_, _, gO⟩, ⟨_, g1, _⟩, ⟨_, g2, _⟩, _⟩ := st
  intro c' hc'
  simp only [uU, ur, or_false] at hc'
  rcases hc' with rfl | rfl | rfl | rfl | rfl
  ·exact uH gz
  ·exact uH gI
  ·exact uH gO
  ·exact uH g1
  ·exact uH g2
 have hSn : s.heap.objs.size ∉ [z, TI, TO, i1, i2] := fun q => uq _ (hzlt _ q)
 have fS : Xm X pins H s.heap.objs.size := I.fpOk (uI _) (I.hok.fresh (uI _))
 have fp : ∀ H' : Hp, (∀ c ∈ [s.heap.objs.size, z, TI, TO, i1, i2], H' c = none) -> ∀ c ∈ [s.heap.objs.size, z, TI, TO, i1, i2], Xm X pins H' c := fun H' nn c hc => by
  rcases uU.mp hc with e | hc'
  ·rw [e] at hc ⊢; exact ⟨nn _ hc, fS.2⟩
  ·exact ⟨nn c hc, (hf c hc').2⟩
 have nn0 : ∀ c ∈ [s.heap.objs.size, z, TI, TO, i1, i2], H c = none := fun c hc => by
  rcases uU.mp hc with e | hc'
  ·rw [e]; exact fS.1
  ·exact (hf c hc').1
 -- the loop, from any state in which the list is empty
 have key : ∀ (h : Heap) (c₁ : Nat), (∀ b o, b ≠ s.heap.objs.size -> s.heap.get? b = some o -> h.get? b = some o) -> h.get? s.heap.objs.size = some { cls := .type "list", dict := none, data := .seq #[] c₁, slots := #[] } -> ∀ R : Result -> Shared -> Prop,
   (∀ s', (∀ Q' : Prop, (∀ (H' : Hp) (acc : Array Value), ZG H H' xs ys acc (min xs.length ys.length) -> H' s.heap.objs.size = none -> (∀ vs : List V, vs.length <= sizeLine -> Vals vs acc.toList -> Inv X pins σ (upd H' s.heap.objs.size (.lst vs)) s') -> Q') -> Q') -> R (.ok (.ret .none)) s') →
   codeAny (model X.prog X.w) A0.in1 (.builtin "list.extend.loop" ⟨[.ref s.heap.objs.size, .ref z, .none], []⟩) R { s with heap := h } := by
  intro h c₁ hk hS₁ R hR
  have I1 : Inv X pins σ H { s with heap := h } := I.turnedL (t' := s.toks) (fp := [s.heap.objs.size]) (fun b o hb' e => hk b o (fun q => hb' (by simp [q])) e) (fun c hc => by rw [uc.mp hc]; exact fS)
  refine Wa1 (A0 := A0.in1) hh h12 hT hSn hn (fun H' m => qaB ha m) (fun H' m => qaB hb m) fp (fun H' s' acc zg hSn' mk => hR s' fun Q' q => q H' acc zg hSn' mk) _ 0 { s with heap := h } H #[] c₁ rfl (ue _) I1 nn0 (st.keep (fun c o e hc => hk c o (fun q => ?_) e) fun T fl o hz1 hT1 => ?_) hS₁ ⟨fun _ _ e => e, rfl, fun j u e => by simp at e⟩
  ·exact uq _ (q ▸ uH e)
  ·exact ⟨o, hk T o (fun q => uq _ (q ▸ uH hT1)) hT1⟩
 refine ⟨⟨_, hS, rfl⟩, PySem.F.args_list_init_2 _ _, ?_⟩
 obtain ⟨oz, vz, gz, cz, dz⟩ := st.zobj
 have hSz : s.heap.objs.size ≠ z := fun q => hSn (by simp [q])
 show wpAny _ _ (do let old ← Builtin.List.listItems (.ref s.heap.objs.size); Builtin.List.listUpdate (.ref s.heap.objs.size) (fun _ => #[]); letGo old.toList.reverse; Builtin.List.listExtendWith (.ref s.heap.objs.size) (.ref z) .none) _ _ _
 refine wpAny_bind ?_
 unfold Builtin.List.listItems
 refine wpAny_bind (wpAny_seqItems hS rfl (wpAny_pure ?_))
 show wpAny _ _ (updateSeq s.heap.objs.size (fun _ => #[]) >>= fun _ => letGo (#[] : Array Value).toList.reverse >>= fun _ => Builtin.List.listExtendWith (.ref s.heap.objs.size) (.ref z) .none) _ _ _
 refine wpAny_bind (wpAny_updateSeq hS rfl ?_)
 have hS₂ := uu (Obj.mapSeq (fun _ => (#[] : Array Value))) hS rfl
 generalize hh2 : (s.heap.push { cls := .type "list", data := .seq #[] }).update s.heap.objs.size (Obj.mapSeq (fun _ => (#[] : Array Value))) = h2 at *
 have oth : ∀ b o, b ≠ s.heap.objs.size -> s.heap.get? b = some o -> h2.get? b = some o := fun b o hb' e => by
  rw [← hh2]
  exact (u5 _ _ (Ne.symm hb')).trans (uD _ e)
 refine wpAny_bind (wpAny_letGo ?_)
 unfold Builtin.List.listExtendWith
 have hTy : ({ s with heap := h2 } : Shared).TypeIs (.ref z) "zip" := ⟨oz, oth z oz (Ne.symm hSz) gz, cz⟩
 refine wpAny_bind (wpAny_typeOf hTy ?_)
 have e1 : Builtin.List.listSameRef (.ref s.heap.objs.size) (.ref z) = false := by simp [Builtin.List.listSameRef, hSz]
 have e2 : (Value.type "zip" == Value.type "list") = false := by decide
 have e3 : (Value.type "zip" == Value.type "tuple") = false := by decide
 simp only [e1, e2, e3, Bool.or_false, uM, if_false]
 have hz₂ : IsZip h2 z TI TO .none := oth z _ (Ne.symm hSz) hz0
 refine wpAny_bind (wpAny_pyIter_zip (s := { s with heap := h2 }) hz₂ ?_)
 refine wpAny_bind (wpAny_holding ?_)
 unfold Builtin.List.listLengthHint
 refine wpAny_bind (wpAny_specialOf hTy ZaQ ?_)
 show wpAny _ _ (specialOf (Value.ref z) (Str.ofString "__length_hint__") >>= _) _ _ _
 refine wpAny_bind (wpAny_specialOf hTy ZaG ?_)
 refine wpAny_pure ?_
 show wpAny _ _ (rule "list.extend.makes-room" >>= fun _ => Builtin.List.listTouch (.ref s.heap.objs.size) >>= fun _ =>
  again (.builtin "list.extend.loop" ⟨[.ref s.heap.objs.size, .ref z, .none], []⟩)) _ _ _
 refine wpAny_bind (wpAny_rule ?_)
 refine wpAny_bind ?_
 show wpAny _ _ (updateSeq s.heap.objs.size (·.push .none) >>= fun _ => updateSeq s.heap.objs.size (·.pop)) _ _ _
 refine wpAny_bind (wpAny_updateSeq hS₂ rfl ?_)
 have hS₃ := uu (Obj.mapSeq (·.push Value.none)) hS₂ rfl
 refine wpAny_updateSeq hS₃ rfl ?_
 have hS₄ := uu (Obj.mapSeq (·.pop)) hS₃ rfl
 refine wpAny_pure ⟨plainId_quiet ux _, key _ _ (fun b o hb' e => (u5 _ _ (Ne.symm hb')).trans ((u5 _ _ (Ne.symm hb')).trans (oth b o hb' e))) hS₄ _ fun s' q => ⟨rfl, q _ fun H' acc zg hn' mk => fin H' s' acc zg hn' mk⟩⟩
end
noncomputable def qbn : Value -> V
 | .ref T => .ref T
 | _ => .non
structure ZV (H H' : Hp) (xs ys : List V) (ts : List V) : Prop where
 old : ∀ b u, H b = some u -> H' b = some u
 len : ts.length = min xs.length ys.length
 at_ : ∀ (j : Nat) (t : V), ts[j]? = some t -> ∃ T x y, t = .ref T /\ xs[j]? = some x /\ ys[j]? = some y /\ H' T = some (.tup [x, y]) /\ H T = none
theorem ZG.zv {H H' : Hp} {xs ys : List V} {acc : Array Value} (h : ZG H H' xs ys acc (min xs.length ys.length)) : ZV H H' xs ys (acc.toList.map qbn) /\ Vals (acc.toList.map qbn) acc.toList := by
 refine ⟨⟨h.old, by rw [uB, uR, h.size], fun j t e => ?_⟩, Zak (uB _) fun i x u e1 e2 => ?_⟩
 ·rw [uO, xQ] at e
  cases q : acc[j]? with
  | none => rw [q] at e; cases e
  | some u =>
   rw [q] at e; cases e
   obtain ⟨T, x, y, rfl, e1, e2, e3, e4⟩ := h.at_ j u q
   exact ⟨T, x, y, rfl, e1, e2, e3, e4⟩
 ·rw [uO, e2] at e1
  cases e1
  rw [xQ] at e2
  obtain ⟨T, x, y, rfl, _⟩ := h.at_ i u e2
  rfl
theorem ZV.fz {M : HpD} {H H' : Hp} {xs ys ts : List V} (h : ZV H H' xs ys ts) : Fz M H M H' := fun a o e m => ⟨h.old a o e, m⟩
theorem ZV.hp {K : KF} {M : HpD} {H H' : Hp} {xs ys ts : List V} (h : ZV H H' xs ys ts) (rh : RepH K H M) : RepH K H' M := ⟨fun a u e => by
 obtain ⟨o', e', r⟩ := rh.at_ a u e
 exact ⟨o', h.old _ _ e', r.mono h.fz⟩, fun a ha => by
 obtain ⟨⟨o', e'⟩, m'⟩ := rh.fb a ha
 exact ⟨⟨o', h.old _ _ e'⟩, m'⟩⟩
theorem Xay {K : KF} {H : Hp} {M : HpD} : ∀ {ds : List D} {vs : List V}, ds.length = vs.length -> (∀ (i : Nat) (d : D) (v : V), ds[i]? = some d -> vs[i]? = some v -> RepD K H M d v) -> RepDs K H M ds vs
 | [], [], _, _ => .nil
 | [], _ :: _, h, _ => nomatch h
 | _ :: _, [], h, _ => nomatch h
 | d :: ds, v :: vs, h, r => .cons (r 0 d v rfl rfl) (Xay (by simpa using h) fun i y w e1 e2 => r (i + 1) y w (by simpa using e1) (by simpa using e2))
theorem ZV.rep {K : KF} {M : HpD} {H H' : Hp} {ds es : List D} {xs ys ts : List V} (h : ZV H H' xs ys ts) (rh : RepH K H M) (r1 : RepDs K H M ds xs) (r2 : RepDs K H M es ys) : RepDs K H' M (XJ ds es) ts := by
 refine Xay (by rw [kax, h.len, r1.length, r2.length]) fun i d v e1 e2 => ?_
 obtain ⟨d1, d2, g1, g2, rfl⟩ := jac e1
 obtain ⟨T, x, y, rfl, k1, k2, hT, hN⟩ := h.at_ i v e2
 obtain ⟨v1, q1, w1⟩ := r1.get g1
 obtain ⟨v2, q2, w2⟩ := r2.get g2
 rw [k1] at q1; cases q1
 rw [k2] at q2; cases q2
 unfold RepD
 exact ⟨T, _, rfl, .inl ⟨.inl hT, rh.free hN, rh.nf hN⟩, RepDs.mono h.fz (.cons w1 (.cons w2 .nil))⟩
section
variable {X : Cx} {a b : Expr} {ta : TDA} {p p2 pos pos2 : Pos}
@[irreducible] def WM (ta : TDA) : TDE := fun σ M Q => ta σ M fun vs M1 => ∃ d e ds es, vs = [d, e] /\ Ye d M1 = some ds /\ Ye e M1 = some es /\ min ds.length es.length <= 1000 /\ newL (XJ ds es) M1 Q
theorem Ya0 {σ : SD} {M : HpD} {Q : KD} (h : ta σ M fun vs M1 => ∃ d e ds es, vs = [d, e] /\ Ye d M1 = some ds /\ Ye e M1 = some es /\ min ds.length es.length <= 1000 /\ newL (XJ ds es) M1 Q) : WM ta σ M Q := by unfold WM; exact h
theorem vaT (hg : Gl X "list") (hm : X.mg "list" = none) (hg2 : Gl X "zip") (hm2 : X.mg "zip" = none) (ha : AD X [a, b] ta)
  (hs : starEach [a, b] X.env = [(false, eval a X.env), (false, eval b X.env)] := by rfl) (hs2 : starEach [b] X.env = [(false, eval b X.env)] := by rfl)
  (hs3 : starEach [.Call (.Name "zip" p2) [a, b] [] pos2] X.env = [(false, eval (.Call (.Name "zip" p2) [a, b] [] pos2) X.env)] := by rfl) (hc : X.calm = true := by rfl) :
  ED X (.Call (.Name "list" p) [.Call (.Name "zip" p2) [a, b] [] pos2] [] pos) (WM ta) := by
 intro pins s σ H Q I h
 obtain ⟨F, σD, M, QD, rel, h, pp⟩ := h
 unfold WM at h
 refine Call_ (kq I hg hm Zaf (um ?_ hs3 rfl))
 rw [hs3]
 show wpAny _ _ (spliced ((false, eval (.Call (.Name "zip" p2) [a, b] [] pos2) X.env) :: [])) _ _ s
 refine Calls.spliced_cons ?_
 have hA := ha pos2 pins s σ H (fun vs H1 => ∃ (i j : Addr) (xs ys : List V), vs = [.ref i, .ref j] /\ SqL X.K H1 i xs /\ SqL X.K H1 j ys /\ min xs.length ys.length <= 1000 /\ ∀ H' ts l, ZV H1 H' xs ys ts -> H' l = none -> Q (.ref l) (upd H' l (.lst ts))) I ?_
 ·refine Call_ (kq I hg2 hm2 qay (um (thn hA fun us s1 ⟨vs, H1, I1, r1, q1⟩ => ?_) (by rw [hs, hs2]) (by rw [hs2]; rfl)))
  obtain ⟨i, j, xs, ys, e, hq1, hq2, hn, q⟩ := q1
  subst e
  cases r1 with
  | cons r rr =>
   cases rr with
   | cons r' rr =>
    cases rr
    cases r
    cases r'
    obtain ⟨its, rv, p1, hz⟩ := I1.list hq1
    obtain ⟨jts, rw', p2, hz'⟩ := I1.list hq2
    refine call_zip_2 p1.isList p2.isList fun h' a1 a2 a3 a4 a5 a6 a7 => ?_
    refine Calls.spliced_nil ?_
    have I2 : Inv X pins σ H1 { s1 with heap := h' } := I1.kept (t' := s1.toks) a7
    refine jat (I1.ok.hd hc) I2 (i1 := s1.heap.objs.size) (i2 := s1.heap.objs.size + 1) (TI := s1.heap.objs.size + 2) (TO := s1.heap.objs.size + 3) (fun z => Nat.succ_ne_self _ z.symm) (fun z => by have : s1.heap.objs.size + 2 = s1.heap.objs.size + 3 := z; lia) hn hq1 hq2 (fun c hc => ?_) a1 ⟨a2, ⟨_, _, a3⟩, a4, a5, .inl a1⟩ fun H' s' acc zg hnone mk => ?_
    ·have hle : s1.heap.objs.size <= c := by
      simp only [uU, ur, or_false] at hc
      rcases hc with rfl | rfl | rfl | rfl | rfl
      ·exact xP _ _
      ·exact xP _ _
      ·exact xP _ _
      ·exact uI _
      ·exact xP _ _
     exact I1.fpOk hle (I1.hok.fresh hle)
    ·obtain ⟨zv, vv⟩ := zg.zv
     have sl : 1000 <= sizeLine := by rw [sizeLine_eq]; decide
     exact ⟨.ref _, _, mk _ (by rw [zv.len]; lia) vv, rfl, q _ _ _ zv hnone⟩
 ·refine lA rel h fun d M1 v H1 f1 rel1 r1 h1 => ?_
  obtain ⟨d, e, ds, es, rfl, g1, g2, hn, q⟩ := h1
  obtain ⟨u, v', rfl, r2, r3⟩ := qai r1
  obtain ⟨i, xs, rfl, hz, hr⟩ := Yo rel1.hp r2 g1
  obtain ⟨j, ys, rfl, hz2, hr2⟩ := Yo rel1.hp r3 g2
  exact ⟨i, j, xs, ys, rfl, hz, hz2, by rw [← hr.length, ← hr2.length]; exact hn, fun H' ts l zv hl => (q.post ((pp.mono f1).mono zv.fz) (zv.hp rel1.hp) (zv.rep rel1.hp hr hr2)).2 l hl⟩
end
section
variable {X : Cx} {pins : ZPO} {σ : St} {H : Hp} {s : Shared}
theorem Inv.grow {h' : Heap} {t' : Nat} {P : Addr} {ps more : Array Value} (I : Inv X pins σ H s) (hP : H P = some (.tbl ps)) (k : ∀ b u, b ≠ P -> s.heap.get? b = some u -> h'.get? b = some u) (new : h'.get? P = some (xZ (ps ++ more))) :
  Inv X pins σ (upd H P (.tbl (ps ++ more))) { s with heap := h', toks := t' } := by
 have ne : ∀ b, H b = none -> b ≠ P := fun b n z => by rw [z, hP] at n; cases n
 have ne2 : ∀ b u, H b = some u -> (∀ qs, u ≠ .tbl qs) -> b ≠ P := fun b u e n z => by rw [z, hP] at e; cases e; exact n _ rfl
 refine I.un (t' := t') ⟨fun b u q n _ _ => k b u (ne b n) q, fun b u q n _ _ => ⟨u.slots, k b u (ne b n) q⟩, fun b u q n _ => by rw [jc (ne b n)]; exact n, fun b u q _ => ?_,
  fun b xs q => by rw [jc (ne2 b _ q fun _ z => by cases z)]; exact q, fun b o u q => by rw [jc (ne2 b _ q fun _ z => by cases z)]; exact q, fun b qs q => ?_⟩ fun b u e => ?_
 ·by_cases hb : b = P
  ·rw [hb]; exact ⟨_, new⟩
  ·exact ⟨u, k b u hb q⟩
 ·by_cases hb : b = P
  ·rw [hb] at q ⊢
   rw [hP] at q; cases q
   exact ⟨more, wf⟩
  ·exact ⟨#[], by rw [jc hb, q]; simp⟩
 ·by_cases hb : b = P
  ·subst hb; rw [wf] at e; cases e; exact new
  ·rw [jc hb] at e
   refine (I.hok b u e).stay (fun c v hc q => k c v ?_ q) (fun c q => by rw [jc (ne2 c _ q fun _ z => by cases z)]; exact q) fun c xs q => by rw [jc (ne2 c _ q fun _ z => by cases z)]; exact q
   rcases hc with z | z
   ·rw [z]; exact hb
   ·exact ne2 c _ z fun _ y => by cases y
end
theorem wbe {P : Program} {w : World} {K : uC} {mg : Str -> Option Value} {base : Heap} {k : Nat} {f c' : Addr} {name qual : Str} {params : Arguments} {body : Expr} {scope : Scope} {pm ctv : Value} {N ps : List Str} {sp : SpD} {te : TDE} (S : qe N ps scope)
  (len : ∀ ds M Q, sp ds M Q -> ds.length = ps.length)
  (hterm : ∀ (A : Around) (outer : List Env) (s : Shared) (H : Hp) (E : XK), Room k (A.deeper (envOfC qual scope s.heap.objs.size f (.ref c'))) -> ED (XN CX0 P w K mg base N qual scope f (.ref c') A outer s H E).nox body te)
  (hread : ∀ ds M Q, sp ds M Q -> te (Xc N ds) M Q) {A : Around} {outer : List Env} {s : Shared} {H : Hp} {us : List Value} {vs : List V} {Q : VK} {E : XK} (hr : Room (k + 1) A) (e0 : Env0 P w K mg base A outer s H)
  (ho : s.heap.get? f = some (xV name qual params body scope [] pm c' ctv)) (hcd : s.heap.CodeRec (.ref c') qual) (hb : bindArgs (PySem.W.kla_fn name qual params body scope [] pm (.ref c') ctv) ⟨us, []⟩ = pure (ps.zip us)) (r : Vals vs us) (hsp : jf K sp vs H Q E) :
  codeAny (model P w) A (.call (.ref f) ⟨us, []⟩) (CR CX0 outer P w H s Q E) s := by
 obtain ⟨F', ds, M, QD, rd, rh, hs, pp⟩ := hsp
 have hl : vs.length = ps.length := by rw [← rd.length]; exact len _ _ _ hs
 have lim : s.heap.NoLimit := e0.mod.nolimit.keeps fun b o e => (e0.bs b o e).1
 have hkind : ∀ y ∈ ps.zip us, scope.names.lookup y.1 = some .local \/ (scope.names.lookup y.1 = some .cell /\ ((cellsFrom (s.heap.objs.size + 1) scope.names []).lookup y.1).isSome = true) := fun ⟨n, v⟩ hy => by
  rcases S.par n (List.of_mem_zip hy).1 with q | q
  ·exact .inl q
  ·exact .inr ⟨q, xq _ _ _ (.inl q)⟩
 refine PySem.W.kla_callFunE hr.depth ho rfl S.co S.gen rfl hcd ?_
 rw [hb]
 refine wpAny_pure (wpAny_newFunctionEnv_cells S.kind hkind fun env he s1 x => ?_)
 subst he
 refine ⟨lim.keeps x.toInCall.keep, PySem.W.kla_codeExpr ?_⟩
 have I : Inv (XN CX0 P w K mg base N qual scope f (.ref c') A outer s H E) [] (start N vs) H s1 := Xap S hr.hd e0 hl r x
 refine wpAny_mono ((hterm A outer s H E (hr.deeper _)).nox [] s1 (start N vs) H Q I ⟨F', Xc N ds, M, QD, ZZ rd rh, hread ds M QD hs, pp⟩) (fun v s' hz => ?_) fun e s' hz => hz
 obtain ⟨v', H', J, rv, q⟩ := hz
 exact ⟨v', H', J.os, J.bare, J.base, J.hok, rv, q⟩
theorem XaR {pos' : Pos} {c cv : Value} {a b : Int} : ∀ {l : List Value}, TriplesOk l -> codeAmong pos' (l ++ [rawInt a, rawInt b, c]) = some cv -> codeAmong pos' l = some cv \/ cv = c := by
 intro l
 fun_induction TriplesOk l with
 | case1 =>
  intro _ h
  simp only [List.nil_append, rawInt, codeAmong] at h
  split at h
  ·cases h; exact .inr rfl
  ·cases h
 | case2 a t b u x rest ih =>
  intro h1 h
  simp only [List.cons_append, codeAmong] at h ⊢
  split at h
  ·rename_i hc; rw [if_pos hc]; exact .inl h
  ·rename_i hc; rw [if_neg hc]; exact ih h1 h
 | case3 l h1 h2 => intro h; exact h.elim
def kO (mg : Str -> Option Value) (base : Heap) : Prop := ∃ bm ob, mg "__builtins__" = some (.ref bm) /\ bm ≠ builtinsNs /\ base.get? bm = some ob /\ ob.cls = .type "module" /\ ob.dict = some builtinsNs /\ ob.data = .plain
section
variable {X : Cx} {pins : ZPO} {σ : St} {H : Hp} {s : Shared} {E : ZVP}
theorem Xa1 {F : Addr -> Prop} {M : HpD} {Q : ZVP} {c P : Addr} {qual : Str} {params : Arguments} {body : Expr} {scope : Scope} {pos : Pos} (I : Inv X pins σ H s) (rh : RepH ⟨X.K, F⟩ H M) (hT : M P = some (.tab qual)) (hq : X.env.qual ++ "<lambda>" = qual)
  (hcode : X.env.code = .ref c) (C : PySem.W.CodeHd X.base c P) (hbm : kO X.mg X.base) (hdef : defaultsOf params X.env = ([], [])) (hcl : closureFor scope X.env = pure [])
  (k : ∀ f c' ctv oc vs t H' s', Inv X (pins ++ [(f, xV "<lambda>" qual params body scope [] ((X.mg "__name__").getD .none) c' ctv)]) σ H' s' -> RepH ⟨X.K, F⟩ H' M -> Fz M H M H' -> H' c' = some (.frz oc (.own c')) -> M c' = none -> oc.data = .fields vs -> vs[1]? = some (.str qual t) -> Q (.ref f) s') :
  wpAny (model X.prog X.w) X.A (eval (.Lambda params body scope pos) X.env) Q E s := by
 obtain ⟨o', hP, ps, rfl, ht, ent⟩ := rh.at_ P _ hT
 have hPh : s.heap.get? P = some (xZ ps) := I.hok P _ hP
 have hgs : s.heap.Ns mainGlobals X.mg := I.mod.glob.keeps I.bk
 have Cs := C.keeps I.bk
 obtain ⟨bm, ob, b1, b2, b3, b4, b5, b6⟩ := hbm
 have hgP : mainGlobals ≠ P := fun q => by
  obtain ⟨o, es, ep, e, hd, _⟩ := hgs
  rw [q, hPh] at e; cases e; cases hd
 have hbP : bm ≠ P := fun q => by
  have e := I.bk _ _ b3
  rw [q, hPh] at e; cases e; cases b4
 have hbG : bm ≠ mainGlobals := fun q => by
  obtain ⟨o, es, ep, e, hd, _⟩ := I.mod.glob
  rw [q, e] at b3; cases b3; rw [hd] at b6; cases b6
 refine PySem.W.kla_eval hdef ?_
 rw [hq]
 cases hf : codeAmong pos ps.toList with
 | some cv =>
  obtain ⟨c', oc, vs, t, rfl, e2, e3, e4, e5, e6⟩ := ent pos cv hf
  refine PySem.W.kla_makeFunctionHit (mg := X.mg) hcl I.ok.glob hgs hcode Cs hPh ht hf ⟨bm, ob, b1, b2, hbG, hbP, I.bk _ _ b3, b4, b5, b6⟩ fun ctv h' tk hk hsz => ?_
  have I1 : Inv X pins σ H { s with heap := h'.push (xV "<lambda>" qual params body scope [] ((X.mg "__name__").getD .none) c' ctv), toks := tk } := I.kept fun b u e => uD _ (hk b u e)
  have fp : Xm X pins H h'.objs.size := I.fpOk hsz (I.hok.fresh hsz)
  refine k h'.objs.size c' ctv oc vs t H _ (I1.pins_of fun p hp => ?_) rh .refl e2 e3 e5 e6
  rcases uj.mp hp with hp | hp
  ·exact I1.pin p (uL _ hp)
  ·rw [uc.mp hp]
   exact ⟨uP _ rfl, fp.1, fp.2.1, fp.2.2.1, fun v z => by cases z⟩
 | none =>
  refine PySem.W.kla_makeFunction (mg := X.mg) hcl I.ok.glob hgs hcode Cs hPh ht hf hgP ⟨bm, ob, b1, b2, hbG, hbP, I.bk _ _ b3, b4, b5, b6⟩ fun c' ctv h' tk hx hge hlt hrec htb => ?_
  obtain ⟨c₂, oc, vs, t, e2, hoc, hd, hv⟩ := hrec
  cases e2
  have plt : P < s.heap.objs.size := uH hPh
  have hcP : c' ≠ P := xM (uV plt hge)
  have hsz : s.heap.objs.size <= h'.objs.size := x6 (yF hge hlt)
  have hcn : H c' = none := I.hok.fresh hge
  have I1 : Inv X pins σ (upd H P (.tbl (ps ++ #[rawInt pos.line, rawInt pos.col, .ref c']))) { s with heap := h'.push (xV "<lambda>" qual params body scope [] ((X.mg "__name__").getD .none) c' ctv), toks := tk } :=
   I.grow hP (fun b u hb e => uD _ (hx b u hb e)) (uD _ htb)
  have fpc : Xm X pins (upd H P (.tbl (ps ++ #[rawInt pos.line, rawInt pos.col, .ref c']))) c' := I.fpOk hge (by rw [jc hcP]; exact hcn)
  have hoc2 : (h'.push (xV "<lambda>" qual params body scope [] ((X.mg "__name__").getD .none) c' ctv)).get? c' = some oc := uD _ hoc
  have I2 : Inv X pins σ (upd (upd H P (.tbl (ps ++ #[rawInt pos.line, rawInt pos.col, .ref c']))) c' (.frz oc (.own c'))) { s with heap := h'.push (xV "<lambda>" qual params body scope [] ((X.mg "__name__").getD .none) c' ctv), toks := tk } :=
   I1.turnedAdopt (t' := tk) (fp := []) (fun b u _ _ e => e) (fun b z => absurd z ur) fpc ⟨hoc2, _, hoc2⟩
  have comm : upd (upd H P (.tbl (ps ++ #[rawInt pos.line, rawInt pos.col, .ref c']))) c' (.frz oc (.own c')) = upd (upd H c' (.frz oc (.own c'))) P (.tbl (ps ++ #[rawInt pos.line, rawInt pos.col, .ref c'])) := by
   funext b
   unfold upd
   by_cases q1 : b = c'
   ·rw [if_pos q1, if_neg (fun z => hcP (q1.symm.trans z)), if_pos q1]
   ·rw [if_neg q1]
    by_cases q2 : b = P
    ·rw [if_pos q2, if_pos q2]
    ·rw [if_neg q2, if_neg q2, if_neg q1]
  have mc : M c' = none := rh.free hcn
  have rh1 := rh.new (o := .frz oc (.own c')) hcn
  have rh2 : RepH ⟨X.K, F⟩ (upd (upd H c' (.frz oc (.own c'))) P (.tbl (ps ++ #[rawInt pos.line, rawInt pos.col, .ref c']))) (jg M P (.tab qual)) := by
   refine rh1.write hT ⟨_, rfl, by simpa using TriplesOk_snoc pos.line pos.col (.ref c') _ ht, fun pos' cv z => ?_⟩
   have z' : codeAmong pos' (ps.toList ++ [rawInt pos.line, rawInt pos.col, .ref c']) = some cv := by simpa using z
   rcases XaR ht z' with z2 | rfl
   ·obtain ⟨d, od, ws, t2, k1, k2, k3, k4, k5⟩ := ent pos' cv z2
    exact ⟨d, od, ws, t2, k1, by rw [jc (vc k2 hcn)]; exact k2, k3, k4, k5⟩
   ·exact ⟨c', oc, vs, t, rfl, wf, mc, rh.nf hcn, hd, hv⟩
  rw [ZaT hT] at rh2
  have fpf : Xm X pins (upd (upd H P (.tbl (ps ++ #[rawInt pos.line, rawInt pos.col, .ref c']))) c' (.frz oc (.own c'))) h'.objs.size := I.fpOk hsz (by
   rw [jc (xM hlt), jc (xM (uV plt hsz))]; exact I.hok.fresh hsz)
  refine k h'.objs.size c' ctv oc vs t _ _ (I2.pins_of fun p hp => ?_) (by rw [comm]; exact rh2) (fun a o e m => ⟨?_, m⟩) wf mc hd hv
  ·rcases uj.mp hp with hp | hp
   ·exact I2.pin p (uL _ hp)
   ·rw [uc.mp hp]
    exact ⟨uP _ rfl, fpf.1, fpf.2.1, fpf.2.2.1, fun v z => by cases z⟩
  ·rw [jc (vc e hcn), jc (fun z => by rw [z, hT] at m; cases m)]; exact e
end
section
variable {X : Cx} {e body : Expr} {te tb : TDE} {p pos kpos lpos : Pos} {k : Nat} {spf : SpD} {params : Arguments} {scope : Scope} {N ps : List Str} {c P : Addr} {qual : Str}
@[irreducible] def WI (P : Addr) (qual : Str) (spf : SpD) (te : TDE) : TDE := fun σ M Q => te σ M fun d M1 => M1 P = some (.tab qual) /\ jN spf [d] M1 Q
theorem WaP {σ : SD} {M : HpD} {Q : KD} (h : te σ M fun d M1 => M1 P = some (.tab qual) /\ jN spf [d] M1 Q) : WI P qual spf te σ M Q := by unfold WI; exact h
theorem qaP (hr : Room (k + 2) X.A) (hg : Gl X "sorted") (hm : X.mg "sorted" = none) (he : ED X e te) (hq : X.env.qual ++ "<lambda>" = qual) (hcode : X.env.code = .ref c) (C : PySem.W.CodeHd X.base c P) (hbm : kO X.mg X.base)
  (S : qe N ps scope) (len : ∀ ds M Q, spf ds M Q -> ds.length = ps.length)
  (hterm : ∀ (f c' : Addr) (A : Around) (outer : List Env) (s : Shared) (H : Hp) (E : XK), Room k (A.deeper (envOfC qual scope s.heap.objs.size f (.ref c'))) -> ED (XN CX0 X.prog X.w X.K X.mg X.base N qual scope f (.ref c') A outer s H E).nox body tb)
  (hread : ∀ ds M Q, spf ds M Q -> tb (Xc N ds) M Q)
  (hb : ∀ (pm ctv : Value) (c' : Addr) (us : List Value), us.length = ps.length -> bindArgs (PySem.W.kla_fn "<lambda>" qual params body scope [] pm (.ref c') ctv) ⟨us, []⟩ = pure (ps.zip us))
  (hdef : defaultsOf params X.env = ([], []) := by rfl) (hcl : closureFor scope X.env = pure [] := by rfl)
  (hst : starEach [e] X.env = [(false, eval e X.env)] := by rfl) : ED X (.Call (.Name "sorted" p) [e] [⟨some "key", .Lambda params body scope lpos, kpos⟩] pos) (WI P qual spf te) := by
 intro pins s σ H Q I h
 obtain ⟨F0, σD, M, QD, rel, h, pp⟩ := h
 unfold WI at h
 refine wpAny_Call_Name_kw (kq I hg hm boot_sorted ?_)
 have ha : PA X [e] (kaM (Wh X.K te) jaM) := wB he pa_nil (by rw [hst]; rfl)
 refine callWith_kw ?_ (by rw [hst]; rfl) (by rw [hst]; rfl)
 refine thn (ha pos pins s σ H (fun vs H1 => ∃ v d M1, vs = [v] /\ RepD ⟨X.K, F0⟩ H1 M1 d v /\ RepH ⟨X.K, F0⟩ H1 M1 /\ M1 P = some (.tab qual) /\ jN spf [d] M1 QD /\ PostE ⟨X.K, F0⟩ M1 H1 QD Q) I ?_) fun us s1 hz => ?_
 ·refine lE rel h fun d M1 v H1 f1 rel1 r1 h1 => ?_
  exact ⟨v, d, M1, rfl, r1, rel1.hp, h1.1, h1.2, pp.mono f1⟩
 ·obtain ⟨vs, H1, I1, r1, v, d, M1, rfl, rd, rh, hT, hs, pp1⟩ := hz
  show wpAny _ _ (evalAll ((do let v ← eval (.Lambda params body scope lpos) X.env; standAt pos; pure v) :: [])) _ _ s1
  refine wpAny_evalAll_cons (wpAny_bind (Xa1 I1 rh hT hq hcode C hbm hdef hcl fun f c' ctv oc ws t H2 s2 I2 rh2 f2 hc' mc' hoc hws => ?_))
  refine wpAny_bind (wpAny_standAt (wpAny_pure ?_))
  refine wpAny_evalAll_nil ?_
  have run : kaj X (pins ++ [(f, xV "<lambda>" qual params body scope [] ((X.mg "__name__").getD .none) c' ctv)]) σ (.ref f) spf (fun H' => H' c' = some (.frz oc (.own c'))) := by
   intro pins' s' H' xs us Qk hp hG I rv hl
   have hpf := I.pin (f, xV "<lambda>" qual params body scope [] ((X.mg "__name__").getD .none) c' ctv) (uL _ (hp _ (uL _ (List.mem_singleton_self _))))
   have hcd : s'.heap.CodeRec (.ref c') qual := ⟨c', oc, ws, t, rfl, (I.hok c' _ hG).1, hoc, hws⟩
   have room : Room (k + 1) X.A.in1.in1 := ⟨hr.hd, by have := hr.dp; show X.A.depth + 3 * (k + 1) + 5 < _; lia, by have := hr.un; show X.A.units + 1 + 1 + 16 * (k + 1) + 200 < _; lia⟩
   have hlen : us.length = ps.length := by
    obtain ⟨F', ds, M', QD', rd', _, hs', _⟩ := hl
    rw [← rv.length, ← rd'.length]
    exact len _ _ _ hs'
   refine wpAny_call (codeAny_mono (wbe S len (hterm f c') hread room I.env0.in1.in1 hpf.1 hcd (hb _ _ _ us hlen) rv hl) fun r s2 hq => ?_)
   cases r with
   | error e => exact False.elim hq
   | ok fl =>
    cases fl with
    | ret u => exact I.after hq
    | next => exact False.elim hq
    | brk => exact False.elim hq
    | cont => exact False.elim hq
  refine wpAny_mono (qaC run (fun H' fz => (fz c' _ hc' mc').1) I2 r1 (.cons (rd.mono f2) .nil) rh2 hs (pp1.mono f2)) (fun u s3 hz => ?_) fun _ _ z => z
  obtain ⟨v, H3, I3, rv, q⟩ := hz
  exact ⟨v, H3, I3.unpinned, rv, q⟩
end
structure FunC (K : uC) (x qual : Str) (st : Stmt) (f : Addr) (fd : FuncData) (cdv : Value) : Prop where
 ex : ∃ (oc : Value) (od : Option Addr) (kV doc pm : Value) (an : Option Addr) (ct : Value) (osl : Array (Option Value)), fd = uW x qual (Xe st) (jd st) (Wb st) .none kV doc pm an cdv ct ∧
  K.lookup f = some ⟨oc, od, .func (uW x qual (Xe st) (jd st) (Wb st) .none kV doc pm an cdv ct), osl⟩ /\ uT K cdv qual = true
theorem vbb {K : uC} {x qual : Str} {st : Stmt} {f : Addr} {oc : Value} {od an : Option Addr} {osl : Array (Option Value)} {kV doc pm cdv ct : Value} (l : K.lookup f = some ⟨oc, od, .func (uW x qual (Xe st) (jd st) (Wb st) .none kV doc pm an cdv ct), osl⟩)
  (c : uT K cdv qual = true) : FunC K x qual st f (uW x qual (Xe st) (jd st) (Wb st) .none kV doc pm an cdv ct) cdv := ⟨oc, od, kV, doc, pm, an, ct, osl, rfl, l, c⟩
theorem FunC.okD {P : Program} {w : World} {K : uC} {mg : Str -> Option Value} {base : Heap} {x qual : Str} {st : Stmt} {f : Addr} {fd : FuncData} {cdv : Value} {N ps : List Str} {k : Nat} {sp : SpD} {t : TSD} (F : FunC K x qual st f fd cdv) (S : qe N ps (Wb st)) (len : ∀ ds M Q, sp ds M Q -> ds.length = ps.length)
  (hterm : ∀ (A : Around) (outer : List Env) (s : Shared) (H : Hp) (E : XK), Room k (A.deeper (envOfC qual (Wb st) s.heap.objs.size f cdv)) →
   SsD (XN CX0 P w K mg base N qual (Wb st) f cdv A outer s H E).nox (jd st) t)
  (hread : ∀ ds M Q, sp ds M Q -> t { nx := fun _ M' => Q .non M', rt := Q } (Xc N ds) M) : qh P w K mg base CX0 (k + 1) f fd ps (jf K sp) := by
 obtain ⟨oc, od, kV, doc, pm, an, ct, osl, rfl, lk, hcd⟩ := F.ex
 refine ka9 lk hcd S (fun vs H Q E h => ?_) fun A outer s H vs Q E hr h => ?_
 ·obtain ⟨F', ds, M, QD, r, rh, hsp, p⟩ := h
  rw [← r.length]
  exact len _ _ _ hsp
 ·obtain ⟨F', ds, M, QD, r, rh, hsp, p⟩ := h
  exact ⟨wac K t, (hterm A outer s H E hr).nox, F', Xc N ds, M, _, ZZ r rh, hread ds M QD hsp, ⟨fun σD' M' σ' H' f rel q => p _ M' _ H' f rel.hp (by unfold RepD; rfl) q, p, fun _ _ _ _ _ _ h => h.elim, fun _ _ _ _ _ _ h => h.elim⟩⟩
theorem jaV {P : Program} {w : World} {K : uC} {mg mb : Str -> Option Value} {CX : CXT} {k : Nat} {fa a Pt c : Addr} {fd : FuncData} {x : Str} {sp : Sp} {s₁ : Shared} {vs : List Value} {ns : List Int}
  (KX : K.In s₁.heap) (hns : s₁.heap.Ns mainGlobals mg) (hb : s₁.heap.Ns builtinsNs mb) (hbb : ∀ x : Str, x ≠ "__name__" -> mb x = bootBuiltins x) (hlim : s₁.heap.NoLimit) (hg : s₁.gens = #[]) (hbm : kO mg s₁.heap)
  (hPt : s₁.heap.get? Pt = some (xZ #[])) (hC : PySem.W.CodeHd s₁.heap c Pt) (hKt : PySem.W.noTabs K = true)
  (ha : s₁.heap.get? a = some { cls := .type "list", data := .seq vs.toArray }) (hi : IntsAre vs ns) (hl : ns.length <= sizeLine) (hr : Room k callerA)
  (F : ∀ base : Heap, K.In base -> base.Ns mainGlobals mg -> kO mg base -> qh P w K mg base CX k fa fd [x] sp) (hbind : ∀ (s : Shared) (u : Value), BindsTo s fd ⟨[u], []⟩ [(x, u)])
  (hsp : ∀ H : Hp, SqL K H a (ns.map V.int) -> H Pt = some (.tbl #[]) -> sp [.ref a] H (fun v _ => v = .bl true) fun _ _ _ => False)
  (hCX : ∀ H e s', CX [] H s₁ (fun _ _ _ => False) e s' -> False) :
  codeAny (model P w) callerA (.call (.ref fa) ⟨[.ref a], []⟩) (fun r s' => r = .ok (.ret (.bool true)) /\ OldK s₁.heap s'.heap /\ s'.os = s₁.os /\ AllBare s'.gens) s₁ := by
 have rv := qap hi
 have lenV := hi.length
 have hne : a ≠ Pt := fun z => by rw [z, hPt] at ha; cases ha
 have core : ∀ H : Hp, SqL K H a (ns.map V.int) -> HOk P w H s₁.heap -> (∀ b, H b = none \/ (b = a /\ ∃ o xs, H b = some (.frz o (.lst xs))) \/ (b = Pt /\ H b = some (.tbl #[]))) -> H Pt = some (.tbl #[]) -> (H a ≠ none -> K.lookup a = none) →
   codeAny (model P w) callerA (.call (.ref fa) ⟨[.ref a], []⟩) (fun r s' => r = .ok (.ret (.bool true)) /\ OldK s₁.heap s'.heap /\ s'.os = s₁.os /\ AllBare s'.gens) s₁ := by
  intro H hS hok hO hT hK
  have base_of : ∀ {b : Addr} {o : Obj}, s₁.heap.get? b = some o -> H b = none -> (vP s₁.heap H).get? b = some o := fun e n => Xa4 e n
  have no : ∀ {b : Addr} {o : Obj}, s₁.heap.get? b = some o -> o.cls ≠ .type "list" -> o ≠ xZ #[] -> H b = none := fun {b o} e n1 n2 => by
   rcases hO b with z | ⟨rfl, _⟩ | ⟨rfl, _⟩
   ·exact z
   ·rw [ha] at e; cases e; exact absurd rfl n1
   ·rw [hPt] at e; cases e; exact absurd rfl n2
  have noA : ∀ {b : Addr} {o : Obj} {es : Array DictEntry} {ep : Nat}, s₁.heap.get? b = some o -> o.data = .dict es ep -> H b = none := fun {b o es ep} e d => by
   rcases hO b with z | ⟨rfl, _⟩ | ⟨rfl, _⟩
   ·exact z
   ·rw [ha] at e; cases e
    have d' : Data.seq vs.toArray _ = Data.dict es ep := d
    cases d'
   ·rw [hPt] at e; cases e; cases d
  have nsK : ∀ {b : Addr} {m : Str -> Option Value}, s₁.heap.Ns b m -> (vP s₁.heap H).Ns b m := fun {b m} w1_ => w1_.elim fun o z_ => z_.elim fun es z_ => z_.elim fun ep z_ => z_.elim fun e z_ => z_.elim fun d r => ⟨o, es, ep, base_of e (noA e d), d, r⟩
  have hKb : K.In (vP s₁.heap H) := fun b o e => base_of (KX b o e) (by
   rcases hO b with z | ⟨rfl, o', xs, z⟩ | ⟨rfl, _⟩
   ·exact z
   ·rw [hK (by rw [z]; simp)] at e; cases e
   ·have h1 := KX _ _ e
    rw [hPt] at h1; cases h1
    have h2 := List.all_eq_true.mp hKt (_, _) (PySem.W.mem_of_lookupK e)
    exact absurd (show false = true from h2) uF)
  have hbmb : kO mg (vP s₁.heap H) := by
   obtain ⟨bm, ob, b1, b2, b3, b4, b5, b6⟩ := hbm
   exact ⟨bm, ob, b1, b2, base_of b3 (no b3 (by rw [b4]; decide) (fun z => by rw [z] at b4; cases b4)), b4, b5, b6⟩
  have hM : Mod K mg (vP s₁.heap H) := ⟨hKb, nsK hns, ⟨mb, nsK hb, hbb⟩, let ⟨mc, h1, h2⟩ := hlim; ⟨mc, nsK h1, h2⟩⟩
  have e0 : Env0 P w K mg (vP s₁.heap H) callerA [] s₁ H := ⟨rfl, hM, fun b o e => wba e, Nat.le_of_eq (YaV _ _), trivial, fun b hb => absurd (show b ∈ ([] : List Addr) from hb) (by simp), hok, .of_eq hg⟩
  refine codeAny_mono ((F _ hKb (nsK hns) hbmb).run callerA [] s₁ H ⟨[.ref a], []⟩ [.ref a] [.ref a] _ _ hr e0 (hbind s₁ (.ref a)) (.cons rfl .nil) (hsp H hS hT)) fun r s' h => ?_
  cases r with
  | error e => exact (hCX H e s' h).elim
  | ok fl =>
   cases fl with
   | next => exact False.elim h
   | brk => exact False.elim h
   | cont => exact False.elim h
   | ret u =>
    obtain ⟨v, H', os, bare, un, hok', r', q⟩ := h
    have q' : v = .bl true := q
    subst q'
    obtain rfl : u = Value.bool true := r'
    have all : ∀ b o, s₁.heap.get? b = some o -> (s'.heap.get? b = some o) \/ (b = Pt /\ o = xZ #[] /\ ∃ ps, s'.heap.get? b = some (xZ ps)) := fun b o e => by
     rcases hO b with z | ⟨rfl, ob, xs, z⟩ | ⟨rfl, z⟩
     ·exact .inl (un.keep b o e z (by intro z; exact absurd (show b ∈ ([] : List Addr) from z) (by simp)) (by simp))
     ·have z2 := un.frzs _ ob _ z
      obtain ⟨e1, _⟩ := hok _ _ z
      obtain ⟨e2, _⟩ := hok' _ _ z2
      rw [e] at e1; cases e1
      exact .inl e2
     ·obtain ⟨more, z2⟩ := un.tbls _ _ z
      have e2 : s'.heap.get? b = some (xZ (#[] ++ more)) := hok' _ _ z2
      rw [hPt] at e; cases e
      exact .inr ⟨rfl, rfl, _, e2⟩
    refine ⟨rfl, ⟨fun b o e => ?_, fun b o e => ?_⟩, os, bare⟩
    ·rcases all b o e with z | ⟨rfl, rfl, ps, z⟩
     ·exact .inl z
     ·exact .inr (.inl ⟨(hC.tab hPt).isCodeTable, rfl, #[], ps, rfl, by rw [Array.empty_append]; exact z⟩)
    ·rcases all b o e with z | ⟨_, _, ps, z⟩
     ·exact ⟨o, z⟩
     ·exact ⟨_, z⟩
 cases hk : K.lookup a with
 | some o =>
  have e := KX a o hk
  rw [ha] at e
  cases e
  refine core (fun b => if b = Pt then some (.tbl #[]) else none) (.inr ⟨_, vs.toArray, _, hk, rfl, rfl, rfl, by rw [uJ, lenV]; exact hl, by simpa using rv⟩) (fun b u z => ?_) (fun b => ?_) (if_pos rfl) fun z => absurd (if_neg hne) z
  ·by_cases hb : b = Pt
   ·have z' := (if_pos hb).symm.trans z
    cases z'
    rw [hb]; exact hPt
   ·have z' := (if_neg hb).symm.trans z
    cases z'
  ·by_cases hb : b = Pt
   ·exact .inr (.inr ⟨hb, if_pos hb⟩)
   ·exact .inl (if_neg hb)
 | none =>
  refine core (fun b => if b = a then some (.frz { cls := .type "list", data := .seq vs.toArray } (.lst (ns.map V.int))) else if b = Pt then some (.tbl #[]) else none) (.inl (.inr ⟨{ cls := .type "list", data := .seq vs.toArray }, if_pos rfl⟩)) (fun b u z => ?_) (fun b => ?_) ((if_neg (Ne.symm hne)).trans (if_pos rfl)) fun _ => hk
  ·by_cases hb : b = a
   ·have z' := (if_pos hb).symm.trans z
    cases z'
    subst hb
    exact ⟨ha, by rw [uB]; exact hl, vs, _, rv, ha⟩
   ·have z' := (if_neg hb).symm.trans z
    by_cases hb2 : b = Pt
    ·have z2 := (if_pos hb2).symm.trans z'
     cases z2
     rw [hb2]; exact hPt
    ·have z2 := (if_neg hb2).symm.trans z'
     cases z2
  ·by_cases hb : b = a
   ·exact .inr (.inl ⟨hb, _, _, if_pos hb⟩)
   ·by_cases hb2 : b = Pt
    ·exact .inr (.inr ⟨hb2, (if_neg hb).trans (if_pos hb2)⟩)
    ·exact .inl ((if_neg hb).trans (if_neg hb2))
def jS (Pt : Addr) (qual : Str) : SpD := fun ds M Q => ∃ ns : List Int, ds = [.lst (ns.map D.int)] /\ ns.length <= 63 /\ M Pt = some (.tab qual) /\ ∀ M', Q (.bl true) M'
theorem jbh {K : uC} {H : Hp} {a Pt : Addr} {qual : Str} {ns : List Int} (hl : ns.length <= 63) (hS : SqL K H a (ns.map V.int)) (hT : H Pt = some (.tbl #[])) : jf K (jS Pt qual) [.ref a] H (fun v _ => v = .bl true) fun _ _ _ => False := by
 have ri : ∀ {K : KF} {H : Hp} {M : HpD} (l : List Int), RepDs K H M (l.map D.int) (l.map V.int) := fun {K H M} l => by
  induction l with
  | nil => exact .nil
  | cons x r ih => exact .cons (by unfold RepD; rfl) ih
 refine ⟨fun _ => False, [.lst (ns.map D.int)], jg (fun _ => none) Pt (.tab qual), fun d _ => d = .bl true, .cons ?_ .nil, ⟨fun b o e => ?_, fun _ z => False.elim z⟩, ⟨ns, rfl, hl, wc, fun _ => rfl⟩, fun d M' v H' _ _ r e => ?_⟩
 ·unfold RepD
  refine ⟨a, _, rfl, ?_, ri ns⟩
  rcases hS with h | h
  ·have hne : a ≠ Pt := fun z => by
    rcases h with h | ⟨o, h⟩
    ·rw [z, hT] at h; cases h
    ·rw [z, hT] at h; cases h
   exact .inl ⟨h, by rw [ve hne], fun z => z⟩
  ·exact .inr (.inr h)
 ·by_cases q : b = Pt
  ·rw [q, wc] at e; cases e
   rw [q]
   exact ⟨_, hT, #[], rfl, trivial, fun pos cv z => by cases z⟩
  ·rw [ve q] at e; cases e
 ·subst e
  unfold RepD at r
  exact r
def vbs (N : List Str) (n : Nat) (tb : TDE) : SpD := fun ds M Q => ds.length = n /\ tb (Xc N ds) M Q
section
variable {X : Cx}
@[irreducible] def jae : RDn := fun xs M Q => ∃ (d : D) (ns : List Int), xs = [d] /\ Ye d M = some (ns.map D.int) /\ ns ≠ [] /\ ∀ m, m ∈ ns -> (∀ n ∈ ns, m <= n) -> Q (.int m) M
theorem qbe {d : D} {ns : List Int} {M : HpD} {Q : KD} (h : Ye d M = some (ns.map D.int)) (hn : ns ≠ []) (q : ∀ m, m ∈ ns -> (∀ n ∈ ns, m <= n) -> Q (.int m) M) : jae [d] M Q := by unfold jae; exact ⟨d, ns, rfl, h, hn, q⟩
theorem vbe (hc : X.calm = true := by rfl) : CallR X (.builtin "min") (YK X.K jae) := by
 intro pins s σ H xs us Q I rx h
 obtain ⟨F, ds, M, QD, r, rh, hq, pp⟩ := h
 unfold jae at hq
 obtain ⟨d, ns, rfl, hd, hn, q⟩ := hq
 obtain ⟨v, rfl, r1⟩ := qV r
 obtain ⟨a, ys, rfl, hs, hr⟩ := Yo rh r1 hd
 rw [qaD hr] at hs
 obtain ⟨u, rfl, ru⟩ := XO rx
 cases ru
 refine call_min_walk (qaV I (A := X.A.in1) (I.ok.hd hc) hs fun it its rv W s₂ hz3 st hit hlt => ?_)
 obtain ⟨h2, e2, k2⟩ := hz3
 subst e2
 have hlen : its.toArray.size = ns.length := by
  have := rv.length
  rw [uB] at this
  rw [uJ, this]
 have hpos : 0 < ns.length := List.length_pos_iff.mpr hn
 refine ⟨it, _, _, _, _, _, _, rfl, W, st, hlt, by rw [hlen]; exact hpos, CmpOf.ints_lt (fun i => ns.getD i 0) (fun i v hv => w6 rv hv), fun v h' tk hv hk' => ?_⟩
 have I3 : Inv X pins σ H { s with heap := h', toks := tk } := I.kept fun b o eo => hk' b o (fun z => by
  have : b = it := by simpa using z
  rw [this] at eo
  exact absurd (uV (uH eo) hit) (uq _)) (k2 b o eo)
 rw [hlen] at hv
 obtain ⟨t, rfl⟩ := w6 rv hv
 have hb := vaA (fun i j => decide (ns.getD i 0 < ns.getD j 0)) (ns.length - 1)
 have hlt2 : argBest (fun i j => decide (ns.getD i 0 < ns.getD j 0)) (ns.length - 1) < ns.length := by lia
 refine ⟨.int _, H, I3, ⟨t, rfl⟩, pp _ M _ H .refl rh (by unfold RepD; rfl) (q _ ?_ fun n hn' => ?_)⟩
 ·exact qa6 hlt2
 ·obtain ⟨i, hi, rfl⟩ := List.getElem_of_mem hn'
  have hbb := Xac (fun i => ns.getD i 0) (ns.length - 1) i (by lia)
  rw [← WaJ hi]
  exact hbb
@[irreducible] def Yag : RD2 := fun x y M Q => ∃ p ds k, x = .ref p /\ M p = some (.lst ds) /\ y = .int k /\ 0 <= k /\ k < 2 ^ 63 /\ ds.length * k.toNat <= sizeLine /\ newL (uK k.toNat ds).flatten M Q
theorem Ybm {p : Addr} {ds : List D} {k : Int} {M : HpD} {Q : KD} (h : M p = some (.lst ds)) (h0 : 0 <= k) (h1 : k < 2 ^ 63) (hz : ds.length * k.toNat <= sizeLine) (q : newL (uK k.toNat ds).flatten M Q) : Yag (.ref p) (.int k) M Q := by unfold Yag; exact ⟨p, ds, k, rfl, h, rfl, h0, h1, hz, q⟩
theorem qaz {K : KF} {H : Hp} {M : HpD} {ds : List D} {xs : List V} (r : RepDs K H M ds xs) : ∀ n : Nat, RepDs K H M (uK n ds).flatten (uK n xs).flatten
 | 0 => .nil
 | n + 1 => by
  rw [xC, xC, u7, u7]
  exact r.append (qaz r n)
theorem wbo : OpR X (binaryOp .Mult) (ql X.K Yag) := by
 intro pins s σ H x y v u Q I rx ry h
 obtain ⟨F, d, e, M, QD, r1, r2, rh, hq, p⟩ := h
 unfold Yag at hq
 obtain ⟨a, ds, k, rfl, hM, rfl, h0, h1, hz, q⟩ := hq
 unfold RepD at r1 r2
 subst r1 r2
 obtain ⟨o', e', xs, rfl, ra⟩ := rh.at_ a _ hM
 refine kbr pins s σ H _ _ v u Q I rx ry ⟨a, k, xs, rfl, rfl, e', by lia, h1, by rw [← ra.length]; exact hz, fun l hl => ?_⟩
 exact (q.post p rh (qaz ra k.toNat)).2 l hl
end
section
variable {prog : Program} {w : World} {A : Around} {E : ZVP} {s : Shared}
theorem wad : isSubtype (.type "range_iterator") (.type "reversed") = pure false := by rw [isSubtype_type]; kernel_rfl
noncomputable abbrev qv (j : Int) (t u v : Tok) : Obj := { cls := .type "range", data := .fields #[.int 0 t, .int j u, .int 1 v] }
noncomputable abbrev XT (j : Int) : Obj := { cls := .type "range_iterator", data := .fields #[rawInt (j - 1), rawInt j, rawInt (-1)] }
theorem kam {r : Addr} {j : Int} {t u v : Tok} {Q : ZVP} (hr : s.heap.get? r = some (qv j t u v)) (h0 : 0 <= j) (h1 : j < 2 ^ 62)
  (h : Q (.ref s.heap.objs.size) { s with heap := s.heap.push (XT j) }) : wpAny (model prog w) A (call (.builtin "range.__reversed__") [.ref r]) Q E s := by
 have hT : s.TypeIs (.ref r) "range" := ⟨_, hr, rfl⟩
 refine wpAny_call_entry x5 hT PySem.F.entry_range_reversed ?_ (PySem.F.args_range_reversed_1 _)
 unfold Builtin.«range.__reversed__»
 refine wpAny_bind (wpAny_of_eq (a := Value.ref r) rfl ?_)
 unfold Builtin.Range.rangeFields
 refine wpAny_bind (wpAny_bind (wpAny_field hr rfl (x := .int 0 t) rfl ?_))
 show wpAny _ _ (field (.ref r) 1 >>= _) _ _ _
 refine wpAny_bind (wpAny_field hr rfl (x := .int j u) rfl ?_)
 show wpAny _ _ (field (.ref r) 2 >>= _) _ _ _
 refine wpAny_bind (wpAny_field hr rfl (x := .int 1 v) rfl ?_)
 refine wpAny_pure ?_
 have hn : Builtin.Range.rangeSize 0 j 1 = j := by rw [rangeSize_one]; split <;> lia
 simp only [hn]
 have hs : (Builtin.Range.rangeFitsLong 0 && Builtin.Range.rangeFitsLong j && Builtin.Range.rangeFitsLong 1 && Builtin.Range.rangeFitsLong (-1) && Builtin.Range.rangeFitsLong (0 - 1) && Builtin.Range.rangeFitsLong j) = true := by
  simp only [Builtin.Range.rangeFitsLong, xA, decide_eq_true_eq]
  lia
 simp only [hs, Bool.not_true, uM, if_false, if_true]
 have e : (0 : Int) + (j - 1) * 1 = j - 1 := by lia
 rw [e]
 refine wpAny_bind (wpAny_newObj_type (wpAny_pure ⟨_, rfl, ?_⟩))
 exact h
theorem j6 {r : Addr} {j : Int} {t u v : Tok} {Q₁ : ZVP} (hr : s.heap.get? r = some (qv j t u v)) (h0 : 0 <= j) (h1 : j < 2 ^ 62)
  (h : Q₁ (.ref s.heap.objs.size) { s with heap := s.heap.push (XT j) }) :
  codeAny (model prog w) A (.call (.builtin "reversed.__new__") ⟨[.type "reversed", .ref r], []⟩) (wants Q₁ E) s := by
 have hT : s.TypeIs (.ref r) "range" := ⟨_, hr, rfl⟩
 refine codeAny_of_tree ?_
 show wpAny _ A.in1 (do checkBuiltinCall "reversed.__new__" ⟨[.type "reversed", .ref r], []⟩; again (.builtin "reversed.__new__" ⟨[.type "reversed", .ref r], []⟩)) _ _ s
 refine wpAny_bind (wpAny_of_eq (PySem.F.newCall_reversed_1 _) (wpAny_pure ⟨plainId_quiet PySem.F.plain_reversed_new _, codeAny_builtin PySem.F.entry_reversed_new ?_⟩))
 rw [Around.under_plainId PySem.F.plain_reversed_new _]
 unfold Builtin.«reversed.__new__»
 refine wpAny_bind (wpAny_of_eq (newClass_reversed _) ?_)
 try dsimp only
 refine wpAny_bind (wpAny_of_eq (a := ()) (by first | rfl | kernel_rfl) ?_)
 refine wpAny_bind (wpAny_of_eq (a := ()) (by first | rfl | kernel_rfl) ?_)
 try dsimp only
 refine wpAny_bind (wpAny_specialOf hT x5.lookup ?_)
 try dsimp only
 refine wpAny_bind (wpAny_of_eq (x5.bind _) ?_)
 try dsimp only
 first
 | rw [if_neg (show ¬ ((Value.builtin "range.__reversed__" == Value.none) = true) from uF)]
 | (show wpAny _ _ (if (Value.builtin "range.__reversed__" == Value.none) = true then _ else _) _ _ _; rw [if_neg (show ¬ ((Value.builtin "range.__reversed__" == Value.none) = true) from uF)])
 refine wpAny_bind (wpAny_rule ?_)
 refine wpAny_bind (m := runValue (.call (.builtin "range.__reversed__") ⟨[.ref r], []⟩)) (show wpAny _ _ (call (.builtin "range.__reversed__") [.ref r]) _ _ _ from kam hr h0 h1 ?_)
 first
 | exact wpAny_pure h
 | exact wpAny_bind (wpAny_pure (wpAny_pure h))
theorem Y6 {r : Addr} {j : Int} {t u v : Tok} {Q : ZVP} (hr : s.heap.get? r = some (qv j t u v)) (h0 : 0 <= j) (h1 : j < 2 ^ 62)
  (h : Q (.ref s.heap.objs.size) { s with heap := s.heap.push (XT j) }) : wpAny (model prog w) A (call (.type "reversed") [.ref r]) Q E s := by
 refine callType_other (U := "range_iterator") (Q₁ := fun obj s₁ => obj = .ref s.heap.objs.size /\ s₁ = { s with heap := s.heap.push (XT j) }) (by decide +kernel) PySem.F.create_reversed ⟨_, _, PySem.F.mro_reversed⟩ PySem.F.made_reversed wad (PySem.F.typeCall_reversed_1 _) (j6 hr h0 h1 ⟨rfl, rfl⟩) ?_
 rintro obj s₁ ⟨rfl, rfl⟩
 exact ⟨⟨_, uP _ rfl, rfl⟩, h⟩
end
noncomputable def Itd (n : Nat) : It := ⟨fun i _ => i < n, fun i H x H' => H' = H /\ x = .int ((n : Int) - 1 - i), fun i _ => n <= i⟩
theorem wa6 {P : Program} {w : World} {K : uC} {tg : Expr} (it : Addr) (n : Nat) : Z9 P w K tg (Itd n) [it] it (fun i h => IsRangeIter h it (((n : Int) - 1) + (i : Nat) * (-1)) ((n : Int) - (i : Nat)) (-1)) where
 mem := by simp
 obj := fun i h st b hb => by
  have e : b = it := by simpa using hb
  subst e
  exact ⟨_, st, fun v z => by
   have z' : Data.fields _ = Data.cell v := z
   cases z'⟩
 keep := fun i h h' st k => k it (by simp) _ st
 item := by
  intro X hP hw hK hc i pins s σ H E I hf st hg
  subst hP hw hK
  obtain ⟨f0, f1, f2, f3, f4, f5⟩ := hf it (by simp)
  have W := Walks.range (prog := X.prog) (w := X.w) (I.ok.hd hc) it ((n : Int) - 1) (-1) n
  refine W.item i s _ _ hg st fun v h' tk hv st' kk => ?_
  obtain ⟨t, rfl⟩ := hv
  have I1 : Inv X pins σ H { s with heap := h', toks := tk } := I.turned (fun b o hb e => kk b o (by simpa using hb) e) f0 f1 f3 f4 f5
  refine ⟨_, rfl, vaN (s := { s with heap := h', toks := tk }) (n := "range_iterator") st' rfl rfl (by decide) ⟨.int ((n : Int) - 1 - i), H, I1, ⟨t, ?_⟩, ⟨rfl, rfl⟩, st', fun b hb => (hf b hb).1⟩⟩
  congr 1
  lia
 done := by
  intro X hP hw hK hc i pins s σ H E I hf st hg
  subst hP hw hK
  obtain ⟨f0, f1, f2, f3, f4, f5⟩ := hf it (by simp)
  exact wpAny_pyNext_range_end (I.ok.hd hc) st (by have : n <= i := hg; lia) fun h' eb => ⟨rfl, I.turned (t' := s.toks) (fun b o hb e => eb b o hb e) f0 f1 f3 f4 f5⟩
 self := fun _ _ _ _ _ st h => wpAny_pyIter_rangeiter st h
def kbt (ta : TA) : TI := fun σ H R => ta σ H fun vs H1 => ∃ j : Int, vs = [.int j] /\ 0 <= j /\ j < 2 ^ 62 /\ R (Itd j.toNat) H1
section
variable {X : Cx} {tg : Expr} {p p2 pos pos2 : Pos}
theorem Wbk {a : Expr} {ta : TA} (hg : Gl X "reversed") (hm : X.mg "reversed" = none) (hg2 : Gl X "range") (hm2 : X.mg "range" = none) (ha : PA X [a] ta) (hs : starEach [a] X.env = [(false, eval a X.env)] := by rfl)
  (hs3 : starEach [.Call (.Name "range" p2) [a] [] pos2] X.env = [(false, eval (.Call (.Name "range" p2) [a] [] pos2) X.env)] := by rfl) :
  PI X tg (.Call (.Name "reversed" p) [.Call (.Name "range" p2) [a] [] pos2] [] pos) (kbt ta) := by
 intro pins s σ H R I h
 refine Call_ (kq I hg hm PyProof.Rows.boot_reversed (um ?_ hs3 rfl))
 rw [hs3]
 show wpAny _ _ (spliced ((false, eval (.Call (.Name "range" p2) [a] [] pos2) X.env) :: [])) _ _ s
 refine Calls.spliced_cons ?_
 refine Call_ (kq I hg2 hm2 boot_range (um (thn (ha pos2 pins s σ H _ I h) fun us s1 w1_ => w1_.elim fun vs z_ => z_.elim fun H1 z_ => z_.elim fun I1 z_ => z_.elim fun r1 q1 => ?_) hs rfl))
 obtain ⟨j, e, q1, q2, q⟩ := q1
 subst e
 cases r1 with
 | cons r rr =>
  cases rr
  obtain ⟨t, rfl⟩ := r
  refine call_range_1 ?_
  refine Calls.spliced_nil ?_
  refine Y6 (s := { s1 with heap := s1.heap.push (qv j s1.toks t (s1.toks + 1)), toks := s1.toks + 1 + 1 }) (r := s1.heap.objs.size) (uP _ rfl) q1 q2 ?_
  have I2 : Inv X pins σ H1 { s1 with heap := (s1.heap.push (qv j s1.toks t (s1.toks + 1))).push (XT j), toks := s1.toks + 1 + 1 } := I1.kept fun b o e => uD _ (uD _ e)
  have st : IsRangeIter ((s1.heap.push (qv j s1.toks t (s1.toks + 1))).push (XT j)) (s1.heap.push (qv j s1.toks t (s1.toks + 1))).objs.size (((j.toNat : Nat) : Int) - 1 + ((0 : Nat) : Int) * (-1)) (((j.toNat : Nat) : Int) - ((0 : Nat) : Int)) (-1) := by
   have e1 : ((j.toNat : Nat) : Int) - 1 + ((0 : Nat) : Int) * (-1) = j - 1 := by lia
   have e2 : ((j.toNat : Nat) : Int) - ((0 : Nat) : Int) = j := by lia
   rw [e1, e2]
   exact uP _ rfl
  refine wpAny_pyIter_rangeiter (s := { s1 with heap := (s1.heap.push (qv j s1.toks t (s1.toks + 1))).push (XT j), toks := s1.toks + 1 + 1 }) st ?_
  refine ⟨(s1.heap.push (qv j s1.toks t (s1.toks + 1))).objs.size, [(s1.heap.push (qv j s1.toks t (s1.toks + 1))).objs.size], _, _, H1, rfl, I2, wa6 _ j.toNat, st, fun b hb => ?_, q⟩
  have e : b = (s1.heap.push (qv j s1.toks t (s1.toks + 1))).objs.size := by simpa using hb
  subst e
  have hle : s1.heap.objs.size <= (s1.heap.push (qv j s1.toks t (s1.toks + 1))).objs.size := by rw [u3]; lia
  exact I1.fpOk hle (I1.hok.fresh hle)
noncomputable def kT (n : Nat) : List D := (uv n).map fun (k : Nat) => .int ((n : Int) - 1 - k)
theorem Wap {n : Nat} : (kT n).length = n := by unfold kT; simp
theorem Zap {n i : Nat} {d : D} (h : (kT n)[i]? = some d) : i < n /\ d = .int ((n : Int) - 1 - i) := by
 unfold kT at h
 rw [uO] at h
 by_cases hi : i < n
 ·rw [xi hi] at h
  cases h
  exact ⟨hi, rfl⟩
 ·rw [xF (by simpa using hi)] at h
  cases h
@[irreducible] def qag (ta : TDA) : TDI := fun σ M R => ta σ M fun vs M1 => ∃ j : Int, vs = [.int j] /\ 0 <= j /\ j < 2 ^ 62 /\ R (kT j.toNat) M1
theorem vbg {ta : TDA} {σ : SD} {M : HpD} {R : List D -> HpD -> Prop} (h : ta σ M fun vs M1 => ∃ j : Int, vs = [.int j] /\ 0 <= j /\ j < 2 ^ 62 /\ R (kT j.toNat) M1) : qag ta σ M R := by unfold qag; exact h
theorem Za7 {K : uC} {F : Addr -> Prop} {H : Hp} {M : HpD} {n : Nat} : kaQ K F (Itd n) (kT n) M H := fun F' i M' H' hf f rh => by
 refine ⟨fun d e => ?_, fun e => by rw [Wap] at e; exact e⟩
 obtain ⟨hi, rfl⟩ := Zap e
 refine ⟨hi, fun x H3 y => ?_⟩
 obtain ⟨rfl, rfl⟩ := y
 exact ⟨.refl, rh, by unfold RepD; rfl⟩
theorem vbj {a : Expr} {ta : TDA} (hg : Gl X "reversed") (hm : X.mg "reversed" = none) (hg2 : Gl X "range") (hm2 : X.mg "range" = none) (ha : AD X [a] ta) (hs : starEach [a] X.env = [(false, eval a X.env)] := by rfl)
  (hs3 : starEach [.Call (.Name "range" p2) [a] [] pos2] X.env = [(false, eval (.Call (.Name "range" p2) [a] [] pos2) X.env)] := by rfl) :
  IDD X tg (.Call (.Name "reversed" p) [.Call (.Name "range" p2) [a] [] pos2] [] pos) (qag ta) := by
 refine (Wbk hg hm hg2 hm2 ha hs hs3).wk fun σ H R w1_ => w1_.elim fun F z_ => z_.elim fun σD z_ => z_.elim fun M z_ => z_.elim fun RD z_ => z_.elim fun rel z_ => z_.elim fun h p => ?_
 unfold qag at h
 refine lA rel h fun d M1 v H1 f1 rel1 r1 h1 => ?_
 obtain ⟨j, rfl, q1, q2, q⟩ := h1
 obtain ⟨u, rfl, r2⟩ := qV r1
 unfold RepD at r2
 subst r2
 exact ⟨j, rfl, q1, q2, p _ M1 H1 _ f1 rel1.hp Za7 q⟩
end
section
variable {X : Cx}
noncomputable def wO : D -> Bool
 | .non => true
 | _ => false
@[irreducible] def kM (neg : Bool) : RD2 := fun x y M Q => (y = .non /\ Q (.bl (neg ^^ wO x)) M) \/ ∃ a b, x = .bl a /\ y = .bl b /\ Q (.bl (neg ^^ (a == b))) M
theorem Zbp {neg : Bool} {x : D} {M : HpD} {Q : KD} (q : Q (.bl (neg ^^ wO x)) M) : kM neg x .non M Q := by unfold kM; exact .inl ⟨rfl, q⟩
theorem vaq {K : KF} {H : Hp} {M : HpD} {d : D} {v : V} (r : RepD K H M d v) : decide (v = V.non) = wO d := by
 cases d with
 | non => unfold RepD at r; subst r; rfl
 | bl b => unfold RepD at r; subst r; rfl
 | int i => unfold RepD at r; subst r; rfl
 | str x => unfold RepD at r; subst r; rfl
 | ref a => unfold RepD at r; subst r; rfl
 | ty n => unfold RepD at r; subst r; rfl
 | tup ds => unfold RepD at r; obtain ⟨a, xs, rfl, _⟩ := r; rfl
 | lst ds => unfold RepD at r; obtain ⟨a, xs, rfl, _⟩ := r; rfl
theorem YaQ : OpR X (compareOp .Is) (ql X.K (kM false)) := by
 intro pins s σ H x y v u Q I rx ry h
 obtain ⟨F, d, e, M, QD, r1, r2, rh, hq, p⟩ := h
 unfold kM at hq
 rcases hq with ⟨rfl, q⟩ | ⟨a, b, rfl, rfl, q⟩
 ·unfold RepD at r2
  subst r2
  refine Zbj pins s σ H x .non v u Q I rx ry ⟨rfl, ?_⟩
  rw [vaq r1]
  refine p (.bl (wO d)) M _ H .refl rh (by unfold RepD; rfl) ?_
  rw [xY] at q
  exact q
 ·unfold RepD at r1 r2
  subst r1 r2
  cases rx; cases ry
  refine is_bool (kf I (p (.bl (false ^^ (a == b))) M _ H .refl rh (by unfold RepD; rfl) q) ?_)
  rw [xY]
theorem ja7 : OpR X (compareOp .IsNot) (ql X.K (kM true)) := by
 intro pins s σ H x y v u Q I rx ry h
 obtain ⟨F, d, e, M, QD, r1, r2, rh, hq, p⟩ := h
 unfold kM at hq
 rcases hq with ⟨rfl, q⟩ | ⟨a, b, rfl, rfl, q⟩
 ·unfold RepD at r2
  subst r2
  refine Zbi pins s σ H x .non v u Q I rx ry ⟨rfl, ?_⟩
  rw [vaq r1]
  refine p (.bl (!wO d)) M _ H .refl rh (by unfold RepD; rfl) ?_
  rw [Bool.true_xor] at q
  exact q
 ·unfold RepD at r1 r2
  subst r1 r2
  cases rx; cases ry
  refine isnot_bool (kf I (p (.bl (true ^^ (a == b))) M _ H .refl rh (by unfold RepD; rfl) q) ?_)
  rw [Bool.true_xor]
  rfl
end
section
variable {X : Cx} {o e : Expr} {to te : TDE} {apos cpos : Pos}
@[irreducible] def Yaf (to te : TDE) : TDE := fun σ M Q => to σ M fun x M1 => ∃ p, x = .ref p /\ (∃ ds1, M1 p = some (.lst ds1)) /\ te σ M1 fun y M2 => ∃ (ds es : List D) (b : Addr), y = .ref b /\ M2 p = some (.lst ds) /\ M2 b = some (.lst es) /\ ds.length + es.length <= sizeLine /\ Q .non (jg M2 p (.lst (ds ++ es)))
theorem kbi {σ : SD} {M : HpD} {Q : KD} (h : to σ M fun x M1 => ∃ p, x = .ref p /\ (∃ ds1, M1 p = some (.lst ds1)) /\ te σ M1 fun y M2 => ∃ (ds es : List D) (b : Addr), y = .ref b /\ M2 p = some (.lst ds) /\ M2 b = some (.lst es) /\ ds.length + es.length <= sizeLine /\ Q .non (jg M2 p (.lst (ds ++ es)))) : Yaf to te σ M Q := by unfold Yaf; exact h
theorem Xbl (ho : ED X o to) (he : ED X e te) (hbase : attributeBase o "extend" X.env (eval o X.env) = eval o X.env := by rfl)
  (hfew : ((backTo cpos (starEach (e :: []) X.env)).all (fun x => !x.1) && (backToKw cpos (keywordEach [] X.env)).all (fun x => x.1.isSome)
   && decide ((e :: []).length + ([] : List Keyword).length + (if ([] : List Keyword).isEmpty then 0 else 1) < 30)) = true := by rfl)
  (hline : (apos.endLine == cpos.line) = true := by rfl) (hs : starEach (e :: []) X.env = (false, eval e X.env) :: starEach [] X.env := by rfl) (hplain : (backTo cpos (starEach [] X.env)).any (·.1) = false := by rfl) :
  ED X (.Call (.Attribute o "extend" apos) [e] [] cpos) (Yaf to te) := by
 refine (Xav yK PySem.F.slot_list_extend PySem.F.type_list_extend (r := YaL) vaW ho (wB he pa_nil hs) hbase hfew hline hs hplain).wk fun σ H Q h => ?_
 obtain ⟨F, σD, M, QD, rel, h, p⟩ := h
 unfold Yaf at h
 refine lE rel h fun d M1 v H1 f1 rel1 r1 h1 => ?_
 obtain ⟨l, rfl, ⟨ds1, e1⟩, h1⟩ := h1
 unfold RepD at r1
 subst r1
 obtain ⟨o', e', xs, rfl, hr⟩ := rel1.hp.at_ l _ e1
 refine ⟨.inl ⟨rfl, xs, .inl (.inl e')⟩, ?_⟩
 show Wh X.K te σ H1 _
 refine lE rel1 h1 fun y M2 u H2 f2 rel2 r2 h2 => ?_
 obtain ⟨ds, es, b, rfl, e2, e3, hl, q⟩ := h2
 unfold RepD at r2
 subst r2
 obtain ⟨o2, e2', ys, rfl, hr2⟩ := rel2.hp.at_ l _ e2
 obtain ⟨o3, e3', zs, rfl, hr3⟩ := rel2.hp.at_ b _ e3
 have r3 : RepO ⟨X.K, F⟩ H2 M2 (.lst (ds ++ es)) (.lst (ys ++ zs)) := ⟨_, rfl, hr2.append hr3⟩
 exact ⟨l, b, ys, zs, rfl, rfl, e2', e3', by rw [← hr2.length, ← hr3.length]; exact hl, p _ _ _ _ ((f1.trans f2).trans (wA e2)) (rel2.hp.write e2 r3) (by unfold RepD; rfl) q⟩
end
end L2
namespace PySem
end PySem
namespace PySem
namespace F
end F
end PySem
namespace L2
open PySem PySem.Spec PyProof.Rows
end L2
namespace PySem
end PySem
namespace L2
open PySem PySem.Spec PyProof.Rows
end L2
namespace L2
open PySem PySem.W PyProof.Rows
noncomputable def ko : Bool -> Keyed -> Array Keyed -> Nat -> Nat -> Nat -> StateT SortSt Sem (Option Nat) := sortPriv% PySem.Builtin.gallop
noncomputable def qaa : Array Keyed -> Array Keyed -> StateT SortSt Sem (Array Keyed) := sortPriv% PySem.Builtin.mergeLo
noncomputable def Yab : Array Keyed -> Array Keyed -> StateT SortSt Sem (Array Keyed) := sortPriv% PySem.Builtin.mergeHi
noncomputable def wo : Nat -> StateT SortSt Sem Unit := sortPriv% PySem.Builtin.setMinGallop
theorem waP (left : Bool) (key : Keyed) (arr : Array Keyed) (base n hint : Nat) : ko left key arr base n hint = (do
 let beyond (i : Nat) : StateT SortSt Sem (Option Bool) := do
  let x ← elem' arr (base + i)
  if left then lt' x key else return (← lt' key x).map (!·)
 let mut lastofs := 0
 let mut ofs := 1
 let mut lo := 0
 let mut hi := 0
 let some right ← beyond hint | return none
 if right then
  let maxofs := n - hint
  for _ in [0:n] do
   if ofs ≥ maxofs then break
   let some more ← beyond (hint + ofs) | return none
   if !more then break
   lastofs := ofs
   ofs := 2 * ofs + 1
  lo := hint + lastofs + 1
  hi := hint + min ofs maxofs
 else
  let maxofs := hint + 1
  for _ in [0:n] do
   if ofs ≥ maxofs then break
   let some found ← beyond (hint - ofs) | return none
   if found then break
   lastofs := ofs
   ofs := 2 * ofs + 1
  lo := hint + 1 - min ofs maxofs
  hi := hint - lastofs
 for _ in [0:n] do
  if lo ≥ hi then break
  let m := lo + (hi - lo) / 2
  let some more ← beyond m | return none
  if more then lo := m + 1 else hi := m
 return some hi) := rfl
section
variable {prog : Program} {w : World} {A : Around} {E : ZVP} {s : Shared}
theorem ZaN {left : Bool} {key : Keyed} {arr : Array Keyed} {base n hint : Nat} {bey : Nat -> Bool} {st : SortSt} {Q : Option Nat -> SortSt -> Prop}
  (hb : ∀ i, i < n -> ∀ Q' : Option Bool -> SortSt -> Prop, Q' (some (bey i)) st -> wpS (model prog w) A E s (do
   let x ← elem' arr (base + i)
   if left then lt' x key else return (← lt' key x).map (!·)) Q' st)
  (mono : ∀ i j, i <= j -> j < n -> bey j = true -> bey i = true) (hh : hint < n)
  (h : ∀ k, k <= n -> (∀ i, i < k -> bey i = true) -> (∀ i, k <= i -> i < n -> bey i = false) -> Q (some k) st) : wpS (model prog w) A E s (ko left key arr base n hint) Q st := by
 have monoF : ∀ i j, i <= j -> j < n -> bey i = false -> bey j = false := fun i j hij hj z => by
  cases q : bey j with
  | false => rfl
  | true => rw [mono i j hij hj q] at z; cases z
 have fin : ∀ lo hi : Nat, lo <= hi -> hi <= n -> (∀ i, i < lo -> bey i = true) -> (∀ i, hi <= i -> i < n -> bey i = false) →
   wpS (model prog w) A E s (do
    let mut lo := lo
    let mut hi := hi
    for _ in [0:n] do
     if lo ≥ hi then break
     let m := lo + (hi - lo) / 2
     let some more ← (do
      let x ← elem' arr (base + m)
      if left then lt' x key else return (← lt' key x).map (!·)) | return none
     if more then lo := m + 1 else hi := m
    return some hi) Q st := by
  intro lo hi h1 h2 h3 h4
  dsimp only
  refine wpS_bind (wpS_mono (wpS_forRange (I := fun x c st' => st' = st /\ ∃ l u, c = (none, l, u) /\ l <= u /\ u <= n /\ (∀ i, i < l -> bey i = true) /\ (∀ i, u <= i -> i < n -> bey i = false) /\ (u - l) + x <= n)
   (Q := fun c st' => st' = st /\ ∃ l u, c = (none, l, u) /\ l = u /\ u <= n /\ (∀ i, i < l -> bey i = true) /\ (∀ i, u <= i -> i < n -> bey i = false)) ?step ?fin ⟨rfl, lo, hi, rfl, h1, h2, h3, h4, by lia⟩) ?post)
  case fin =>
   rintro c st' ⟨rfl, l, u, rfl, z1, z2, z3, z4, z5⟩
   exact ⟨rfl, l, u, rfl, by lia, z2, z3, z4⟩
  case post =>
   rintro c st' ⟨rfl, l, u, rfl, z1, z2, z3, z4⟩
   subst z1
   exact wpS_pure (h l z2 z3 z4)
  case step =>
   rintro x c st' _ hx ⟨rfl, l, u, rfl, z1, z2, z3, z4, z5⟩
   dsimp only
   by_cases c : l ≥ u
   ·rw [if_pos c]
    exact wpS_pure ⟨rfl, l, u, rfl, by lia, z2, z3, z4⟩
   ·rw [if_neg c]
    refine wpS_bind (hb _ (by lia) _ ?_)
    dsimp only
    cases e : bey (l + (u - l) / 2) with
    | true =>
     rw [if_pos rfl]
     exact wpS_pure ⟨rfl, _, u, rfl, by lia, z2, fun i hi => mono i _ (by lia) (by lia) e, z4, by lia⟩
    | false =>
     rw [if_neg uF]
     exact wpS_pure ⟨rfl, l, _, rfl, by lia, by lia, z3, fun i hi hn => monoF _ i hi hn e, by lia⟩
 rw [waP]
 dsimp only
 refine wpS_bind (hb hint hh _ ?_)
 dsimp only
 cases e0 : bey hint with
 | true =>
  rw [if_pos rfl]
  refine wpS_bind (wpS_mono (wpS_forRange (I := fun x c st' => st' = st /\ ∃ l o, c = (none, l, o) /\ l < o /\ hint + l < n /\ bey (hint + l) = true /\ x + 1 <= o)
   (Q := fun c st' => st' = st /\ ∃ l o, c = (none, l, o) /\ l < o /\ hint + l < n /\ bey (hint + l) = true /\ (n - hint <= o \/ bey (hint + o) = false)) ?step ?fin ⟨rfl, 0, 1, rfl, by lia, hh, e0, by lia⟩) ?post)
  case fin =>
   rintro c st' ⟨rfl, l, o, rfl, z1, z2, z3, z4⟩
   exact ⟨rfl, l, o, rfl, z1, z2, z3, .inl (by lia)⟩
  case post =>
   rintro c st' ⟨rfl, l, o, rfl, z1, z2, z3, z4⟩
   dsimp only
   refine fin (hint + l + 1) (hint + min o (n - hint)) (by lia) (by lia) (fun i hi => mono i _ (by lia) z2 z3) fun i hi hn => ?_
   rcases z4 with z4 | z4
   ·lia
   ·by_cases c : n - hint <= o
    ·lia
    ·exact monoF _ i (by lia) hn z4
  case step =>
   rintro x c st' _ hx ⟨rfl, l, o, rfl, z1, z2, z3, z4⟩
   dsimp only
   by_cases c : o ≥ n - hint
   ·rw [if_pos c]
    exact wpS_pure ⟨rfl, l, o, rfl, z1, z2, z3, .inl c⟩
   ·rw [if_neg c]
    refine wpS_bind (hb _ (by lia) _ ?_)
    dsimp only
    cases e : bey (hint + o) with
    | true =>
     rw [if_neg (by decide)]
     exact wpS_pure ⟨rfl, o, _, rfl, by lia, by lia, e, by lia⟩
    | false =>
     rw [if_pos (by decide)]
     exact wpS_pure ⟨rfl, l, o, rfl, z1, z2, z3, .inr e⟩
 | false =>
  rw [if_neg uF]
  refine wpS_bind (wpS_mono (wpS_forRange (I := fun x c st' => st' = st /\ ∃ l o, c = (none, l, o) /\ l < o /\ l <= hint /\ bey (hint - l) = false /\ x + 1 <= o)
   (Q := fun c st' => st' = st /\ ∃ l o, c = (none, l, o) /\ l < o /\ l <= hint /\ bey (hint - l) = false /\ (hint + 1 <= o \/ bey (hint - o) = true)) ?step ?fin ⟨rfl, 0, 1, rfl, by lia, by lia, e0, by lia⟩) ?post)
  case fin =>
   rintro c st' ⟨rfl, l, o, rfl, z1, z2, z3, z4⟩
   exact ⟨rfl, l, o, rfl, z1, z2, z3, .inl (by lia)⟩
  case post =>
   rintro c st' ⟨rfl, l, o, rfl, z1, z2, z3, z4⟩
   dsimp only
   refine fin (hint + 1 - min o (hint + 1)) (hint - l) (by lia) (by lia) (fun i hi => ?_) fun i hi hn => monoF _ i hi hn z3
   rcases z4 with z4 | z4
   ·lia
   ·exact mono i (hint - o) (by lia) (by lia) z4
  case step =>
   rintro x c st' _ hx ⟨rfl, l, o, rfl, z1, z2, z3, z4⟩
   dsimp only
   by_cases c : o ≥ hint + 1
   ·rw [if_pos c]
    exact wpS_pure ⟨rfl, l, o, rfl, z1, z2, z3, .inl c⟩
   ·rw [if_neg c]
    refine wpS_bind (hb _ (by lia) _ ?_)
    dsimp only
    cases e : bey (hint - o) with
    | true =>
     rw [if_pos rfl]
     exact wpS_pure ⟨rfl, l, o, rfl, z1, z2, z3, .inr e⟩
    | false =>
     rw [if_neg uF]
     exact wpS_pure ⟨rfl, o, _, rfl, by lia, by lia, e, by lia⟩
end
theorem ku (g : Nat) : wo g = modify (fun s => SortSt.mk' (kindOf s) (arrOf s) (pendingOf s) g (failedOf s)) := rfl
noncomputable abbrev LoC := Option (Array Keyed) × Array Keyed × Nat × Nat × Nat × Nat × Nat
noncomputable def kav (a b out : Array Keyed) (ia ib mg ac bc : Nat) : StateT SortSt Sem (ForInStep LoC) := do
 let x ← elem' a ia
 if ia + 1 + 1 == a.size then pure (.done (some (out.push x ++ b.extract ib b.size ++ a.extract (ia + 1) a.size), out.push x, ia + 1, ib, mg, ac, bc))
 else if ac < 7 && bc < 7 then pure (.done (none, out.push x, ia + 1, ib, mg, ac, bc)) else pure (.yield (none, out.push x, ia + 1, ib, mg, ac, bc))
noncomputable def vav (a b out : Array Keyed) (ia ib mg ac bc : Nat) : StateT SortSt Sem (ForInStep LoC) := do
 let y ← elem' b ib
 if ib + 1 == b.size then pure (.done (some (out.push y ++ a.extract ia a.size ++ b.extract (ib + 1) b.size), out.push y, ia, ib + 1, mg, ac, bc))
 else
  let x ← elem' a ia
  let some k ← ko true x b (ib + 1) (b.size - (ib + 1)) 0 | pure (.done (some (out.push y ++ a.extract ia a.size ++ b.extract (ib + 1) b.size), out.push y, ia, ib + 1, mg, ac, bc))
  if k > 0 then
    if ib + 1 + k == b.size then pure (.done (some (out.push y ++ b.extract (ib + 1) (ib + 1 + k) ++ a.extract ia a.size ++ b.extract (ib + 1 + k) b.size), out.push y ++ b.extract (ib + 1) (ib + 1 + k), ia, ib + 1 + k, mg, ac, k))
    else kav a b (out.push y ++ b.extract (ib + 1) (ib + 1 + k)) ia (ib + 1 + k) mg ac k
  else kav a b (out.push y) ia (ib + 1) mg ac k
noncomputable def jaw (a b out : Array Keyed) (ia ib mg ac bc : Nat) : StateT SortSt Sem (ForInStep LoC) := do
 wo mg
 let y ← elem' b ib
 let some k ← ko false y a ia (a.size - ia) 0 | pure (.done (some (out ++ a.extract ia a.size ++ b.extract ib b.size), out, ia, ib, mg, ac, bc))
 if k > 0 then
   if ia + k + 1 == a.size then pure (.done (some (out ++ a.extract ia (ia + k) ++ b.extract ib b.size ++ a.extract (ia + k) a.size), out ++ a.extract ia (ia + k), ia + k, ib, mg, k, bc))
   else if ia + k == a.size then pure (.done (some (out ++ a.extract ia (ia + k) ++ a.extract (ia + k) a.size ++ b.extract ib b.size), out ++ a.extract ia (ia + k), ia + k, ib, mg, k, bc))
   else vav a b (out ++ a.extract ia (ia + k)) (ia + k) ib mg k bc
 else vav a b out ia ib mg k bc
noncomputable abbrev LoD := Option (Array Keyed) × Array Keyed × Nat × Nat × Nat × Nat
noncomputable def va9 (a b : Array Keyed) (mg : Nat) (c : LoD) : StateT SortSt Sem (ForInStep LoD) := do
 let y ← elem' b c.2.2.2.1
 let x ← elem' a c.2.2.1
 let some bWins ← lt' y x | pure (.done (some (c.2.1 ++ a.extract c.2.2.1 a.size ++ b.extract c.2.2.2.1 b.size), c.2.1, c.2.2.1, c.2.2.2.1, c.2.2.2.2.1, c.2.2.2.2.2))
 if bWins = true then
   let y ← elem' b c.2.2.2.1
   if c.2.2.2.1 + 1 == b.size then pure (.done (some (c.2.1.push y ++ a.extract c.2.2.1 a.size ++ b.extract (c.2.2.2.1 + 1) b.size), c.2.1.push y, c.2.2.1, c.2.2.2.1 + 1, 0, c.2.2.2.2.2 + 1))
   else if c.2.2.2.2.2 + 1 ≥ mg then pure (.done (none, c.2.1.push y, c.2.2.1, c.2.2.2.1 + 1, 0, c.2.2.2.2.2 + 1)) else pure (.yield (none, c.2.1.push y, c.2.2.1, c.2.2.2.1 + 1, 0, c.2.2.2.2.2 + 1))
 else
   let x ← elem' a c.2.2.1
   if c.2.2.1 + 1 + 1 == a.size then pure (.done (some (c.2.1.push x ++ b.extract c.2.2.2.1 b.size ++ a.extract (c.2.2.1 + 1) a.size), c.2.1.push x, c.2.2.1 + 1, c.2.2.2.1, c.2.2.2.2.1 + 1, 0))
   else if c.2.2.2.2.1 + 1 ≥ mg then pure (.done (none, c.2.1.push x, c.2.2.1 + 1, c.2.2.2.1, c.2.2.2.2.1 + 1, 0)) else pure (.yield (none, c.2.1.push x, c.2.2.1 + 1, c.2.2.2.1, c.2.2.2.2.1 + 1, 0))
noncomputable abbrev LoE := Option (Array Keyed) × Array Keyed × Nat × Nat × Nat
theorem kay (a b : Array Keyed) : qaa a b = (do
 rule "list.sort.merge-lo"
 let total := a.size + b.size
 let done (out : Array Keyed) (ia ib : Nat) := out ++ a.extract ia a.size ++ b.extract ib b.size
 let lastOfA (out : Array Keyed) (ia ib : Nat) := out ++ b.extract ib b.size ++ a.extract ia a.size
 let mut out : Array Keyed := #[← elem' b 0]
 let mut ia := 0
 let mut ib := 1
 if ib == b.size then return done out ia ib
 if ia + 1 == a.size then return lastOfA out ia ib
 let mut minGallop := gallopOf (← get)
 for _ in [0:total] do
  let mut acount := 0
  let mut bcount := 0
  for _ in [0:total] do
   let some bWins ← lt' (← elem' b ib) (← elem' a ia) | return done out ia ib
   if bWins then
    out := out.push (← elem' b ib); ib := ib + 1; bcount := bcount + 1; acount := 0
    if ib == b.size then return done out ia ib
    if bcount ≥ minGallop then break
   else
    out := out.push (← elem' a ia); ia := ia + 1; acount := acount + 1; bcount := 0
    if ia + 1 == a.size then return lastOfA out ia ib
    if acount ≥ minGallop then break
  rule "list.sort.gallop"
  minGallop := minGallop + 1
  for _ in [0:total] do
   if minGallop > 1 then minGallop := minGallop - 1
   wo minGallop
   let some k ← ko false (← elem' b ib) a ia (a.size - ia) 0 | return done out ia ib
   acount := k
   if k > 0 then
    out := out ++ a.extract ia (ia + k); ia := ia + k
    if ia + 1 == a.size then return lastOfA out ia ib
    if ia == a.size then return done out ia ib
   out := out.push (← elem' b ib); ib := ib + 1
   if ib == b.size then return done out ia ib
   let some k ← ko true (← elem' a ia) b ib (b.size - ib) 0 | return done out ia ib
   bcount := k
   if k > 0 then
    out := out ++ b.extract ib (ib + k); ib := ib + k
    if ib == b.size then return done out ia ib
   out := out.push (← elem' a ia); ia := ia + 1
   if ia + 1 == a.size then return lastOfA out ia ib
   if acount < 7 && bcount < 7 then break
  minGallop := minGallop + 1
  wo minGallop
 unsupported "internal:list.sort.merge-bound") := rfl
noncomputable def ar (f : Nat -> Keyed) (p : List Nat) : Array Keyed := (p.map f).toArray
section
variable {f : Nat -> Keyed} {r : Nat -> Int}
theorem Xf (p : List Nat) : (ar f p).size = p.length := by simp [ar]
theorem Zbq {p : List Nat} {i : Nat} (h : i < p.length) : (ar f p)[i]? = some (f (p.getD i 0)) := by simp [ar, h]
theorem kB (p : List Nat) (i : Nat) : (ar f p).push (f i) = ar f (p ++ [i]) := by simp [ar]
theorem wS (p q : List Nat) : ar f p ++ ar f q = ar f (p ++ q) := by simp [ar]
theorem vaX (p : List Nat) : (ar f p).reverse = ar f p.reverse := by simp [ar]
theorem ZM (p : List Nat) (i j : Nat) : (ar f p).extract i j = ar f ((p.drop i).take (j - i)) := by
 unfold ar
 rw [List.extract_toArray, List.extract_eq_take_drop, ← List.map_drop, ← List.map_take]
theorem WaI (p : List Nat) (i : Nat) : (ar f p).extract i p.length = ar f (p.drop i) := by
 rw [ZM, uw (by simp)]
def SrtL (r : Nat -> Int) (l : List Nat) : Prop := l.Pairwise fun x y => r x <= r y
theorem SrtL.app {l m : List Nat} (h1 : SrtL r l) (h2 : SrtL r m) (h : ∀ x ∈ l, ∀ y ∈ m, r x <= r y) : SrtL r (l ++ m) := xH.mpr ⟨h1, h2, h⟩
structure MI (r : Nat -> Int) (pa pb : List Nat) (ia ib : Nat) (po : List Nat) : Prop where
 perm : po.Perm (pa.take ia ++ pb.take ib)
 srt : SrtL r po
 la : ∀ x ∈ po, ∀ y ∈ pa.drop ia, r x <= r y
 lb : ∀ x ∈ po, ∀ y ∈ pb.drop ib, r x <= r y
 ha : ia <= pa.length
 hb : ib <= pb.length
variable {pa pb po : List Nat} {ia ib : Nat}
theorem MI.len (h : MI r pa pb ia ib po) : po.length = ia + ib := by
 have := h.perm.length_eq
 have h1 := h.ha
 have h2 := h.hb
 simp at this
 lia
theorem MI.aK (h : MI r pa pb ia ib po) (sa : SrtL r pa) {k : Nat} (hk : ia + k <= pa.length) (hl : ∀ x ∈ (pa.drop ia).take k, ∀ y ∈ pb.drop ib, r x <= r y) : MI r pa pb (ia + k) ib (po ++ (pa.drop ia).take k) := by
 have sd : SrtL r (pa.drop ia) := sa.sublist (List.drop_sublist _ _)
 have e : (pa.drop ia).take k ++ pa.drop (ia + k) = pa.drop ia := by rw [← List.drop_drop]; exact uz k _
 rw [← e] at sd
 obtain ⟨s1, s2, s3⟩ := xH.mp sd
 refine ⟨?_, h.srt.app s1 fun x hx y hy => h.la x hx y (List.mem_of_mem_take hy), ?_, ?_, hk, h.hb⟩
 ·have e2 : pa.take (ia + k) = pa.take ia ++ (pa.drop ia).take k := by rw [List.take_add]
  rw [e2]
  refine (h.perm.append_right _).trans ?_
  rw [uh, uh]
  exact List.Perm.append_left _ u8
 ·intro x hx y hy
  rcases uj.mp hx with hx | hx
  ·exact h.la x hx y (by rw [← e]; exact uL _ hy)
  ·exact s3 x hx y hy
 ·intro x hx y hy
  rcases uj.mp hx with hx | hx
  ·exact h.lb x hx y hy
  ·exact hl x hx y hy
theorem MI.swap (h : MI r pa pb ia ib po) : MI r pb pa ib ia po := ⟨h.perm.trans u8, h.srt, h.lb, h.la, h.hb, h.ha⟩
theorem MI.bK (h : MI r pa pb ia ib po) (sb : SrtL r pb) {k : Nat} (hk : ib + k <= pb.length) (hl : ∀ x ∈ (pb.drop ib).take k, ∀ y ∈ pa.drop ia, r x <= r y) : MI r pa pb ia (ib + k) (po ++ (pb.drop ib).take k) := (h.swap.aK sb hk hl).swap
theorem j8 {p : List Nat} {i : Nat} (h : i < p.length) : (p.drop i).take 1 = [p.getD i 0] := by
 rw [List.drop_eq_getElem_cons h, List.take_succ_cons, List.take_zero, ua, uG h]
 rfl
theorem Yn {p : List Nat} {i : Nat} {x : Nat} (h : x ∈ p.drop i) : ∃ j, i <= j /\ j < p.length /\ x = p.getD j 0 := by
 obtain ⟨k, hk, e⟩ := xh.mp h
 rw [uo] at hk
 refine ⟨i + k, by lia, by lia, ?_⟩
 rw [List.getElem_drop] at e
 rw [← e]
 simp [show i + k < p.length by lia]
theorem SrtL.at_ {p : List Nat} (s : SrtL r p) {i j : Nat} (hij : i <= j) (hj : j < p.length) : r (p.getD i 0) <= r (p.getD j 0) := by
 have hi : i < p.length := by lia
 have e1 : p.getD i 0 = p[i] := by simp [hi]
 have e2 : p.getD j 0 = p[j] := by simp [hj]
 rw [e1, e2]
 rcases Nat.lt_or_eq_of_le hij with z | z
 ·exact xR.mp s i j hi hj z
 ·subst z; exact ul _
theorem MI.a1 (h : MI r pa pb ia ib po) (sa : SrtL r pa) (hk : ia < pa.length) (hl : ∀ y ∈ pb.drop ib, r (pa.getD ia 0) <= r y) : MI r pa pb (ia + 1) ib (po ++ [pa.getD ia 0]) := by
 have := h.aK sa (k := 1) hk (by rw [j8 hk]; intro x hx; rw [uc.mp hx]; exact hl)
 rw [j8 hk] at this
 exact this
theorem MI.b1 (h : MI r pa pb ia ib po) (sb : SrtL r pb) (hk : ib < pb.length) (hl : ∀ y ∈ pa.drop ia, r (pb.getD ib 0) <= r y) : MI r pa pb ia (ib + 1) (po ++ [pb.getD ib 0]) := (h.swap.a1 sb hk hl).swap
theorem MI.done (h : MI r pa pb ia ib po) (sa : SrtL r pa) (sb : SrtL r pb) (hl : ∀ x ∈ pa.drop ia, ∀ y ∈ pb.drop ib, r x <= r y) : (po ++ pa.drop ia ++ pb.drop ib).Perm (pa ++ pb) /\ SrtL r (po ++ pa.drop ia ++ pb.drop ib) := by
 have h1 := h.aK sa (k := pa.length - ia) (by have := h.ha; lia) (fun x hx y hy => hl x (List.mem_of_mem_take hx) y hy)
 have e : (pa.drop ia).take (pa.length - ia) = pa.drop ia := uw (by simp)
 rw [e] at h1
 have h2 := h1.bK sb (k := pb.length - ib) (by have := h.hb; lia) (fun x hx y hy => by
  rw [show ia + (pa.length - ia) = pa.length by have := h.ha; lia, yA] at hy
  cases hy)
 have e2 : (pb.drop ib).take (pb.length - ib) = pb.drop ib := uw (by simp)
 rw [e2] at h2
 refine ⟨?_, h2.srt⟩
 have := h2.perm
 rw [uw (by have := h.ha; lia), uw (by have := h.hb; lia)] at this
 exact this
end
noncomputable def way (st : SortSt) (g : Nat) : SortSt := SortSt.mk' (kindOf st) (arrOf st) (pendingOf st) g (failedOf st)
structure SameS (st st' : SortSt) : Prop where
 kind : kindOf st' = kindOf st
 arr : arrOf st' = arrOf st
 pend : pendingOf st' = pendingOf st
 fail : failedOf st' = failedOf st
theorem waQ {A : Prop} {α0 α1 α2 α3 : Type} {E B C D F : α0 -> α1 -> α2 -> α3 -> Prop} (h : A /\ ∃ a0 a1 a2 a3, E a0 a1 a2 a3 /\ B a0 a1 a2 a3 /\ C a0 a1 a2 a3 /\ D a0 a1 a2 a3 /\ F a0 a1 a2 a3) {G : Prop} (k : A -> ∀ a0 a1 a2 a3, E a0 a1 a2 a3 -> B a0 a1 a2 a3 -> C a0 a1 a2 a3 -> D a0 a1 a2 a3 -> F a0 a1 a2 a3 -> G) : G := by
 obtain ⟨z, a0, a1, a2, a3, e, b, c, d, f⟩ := h
 exact k z a0 a1 a2 a3 e b c d f
theorem Zam {A : Prop} {α0 α1 α2 α3 α4 : Type} {E B C D F : α0 -> α1 -> α2 -> α3 -> α4 -> Prop} (h : A /\ ∃ a0 a1 a2 a3 a4, E a0 a1 a2 a3 a4 /\ B a0 a1 a2 a3 a4 /\ C a0 a1 a2 a3 a4 /\ D a0 a1 a2 a3 a4 /\ F a0 a1 a2 a3 a4) {G : Prop} (k : A -> ∀ a0 a1 a2 a3 a4, E a0 a1 a2 a3 a4 -> B a0 a1 a2 a3 a4 -> C a0 a1 a2 a3 a4 -> D a0 a1 a2 a3 a4 -> F a0 a1 a2 a3 a4 -> G) : G := by
 obtain ⟨z, a0, a1, a2, a3, a4, e, b, c, d, f⟩ := h
 exact k z a0 a1 a2 a3 a4 e b c d f
theorem vaP {A : Prop} {α0 α1 α2 α3 α4 α5 : Type} {E B C D F : α0 -> α1 -> α2 -> α3 -> α4 -> α5 -> Prop} (h : A /\ ∃ a0 a1 a2 a3 a4 a5, E a0 a1 a2 a3 a4 a5 /\ B a0 a1 a2 a3 a4 a5 /\ C a0 a1 a2 a3 a4 a5 /\ D a0 a1 a2 a3 a4 a5 /\ F a0 a1 a2 a3 a4 a5) {G : Prop} (k : A -> ∀ a0 a1 a2 a3 a4 a5, E a0 a1 a2 a3 a4 a5 -> B a0 a1 a2 a3 a4 a5 -> C a0 a1 a2 a3 a4 a5 -> D a0 a1 a2 a3 a4 a5 -> F a0 a1 a2 a3 a4 a5 -> G) : G := by
 obtain ⟨z, a0, a1, a2, a3, a4, a5, e, b, c, d, f⟩ := h
 exact k z a0 a1 a2 a3 a4 a5 e b c d f
theorem SameS.refl (st : SortSt) : SameS st st := ⟨rfl, rfl, rfl, rfl⟩
theorem SameS.g {st st' : SortSt} (h : SameS st st') (g : Nat) : SameS st (way st' g) := ⟨h.kind, h.arr, h.pend, h.fail⟩
section
variable {prog : Program} {w : World} {A : Around} {E : ZVP} {s : Shared} {f : Nat -> Keyed} {r : Nat -> Int} {n : Nat} {κ : SortKind}
def XF (prog : Program) (w : World) (A : Around) (E : ZVP) (s : Shared) (f : Nat -> Keyed) (r : Nat -> Int) (n : Nat) (κ : SortKind) : Prop :=
 ∀ i j, i < n -> j < n -> ∀ (st : SortSt) (Q : Option Bool -> SortSt -> Prop), kindOf st = κ -> Q (some (decide (r i < r j))) st -> wpS (model prog w) A E s (lt' (f i) (f j)) Q st
theorem vb {α : Type} {c : Prop} [Decidable c] {x y : StateT SortSt Sem α} {st : SortSt} {Q : α -> SortSt -> Prop} (h : ¬ c) (q : wpS (model prog w) A E s y Q st) : wpS (model prog w) A E s (if c then x else y) Q st := by rw [if_neg h]; exact q
theorem Zc {α : Type} {c : Prop} [Decidable c] {x y : StateT SortSt Sem α} {st : SortSt} {Q : α -> SortSt -> Prop} (h : c) (q : wpS (model prog w) A E s x Q st) : wpS (model prog w) A E s (if c then x else y) Q st := by rw [if_pos h]; exact q
theorem qg {p : List Nat} {i : Nat} {st : SortSt} {Q : Keyed -> SortSt -> Prop} (h : i < p.length) (q : Q (f (p.getD i 0)) st) : wpS (model prog w) A E s (elem' (ar f p) i) Q st := by
 rw [elem'_eq, Zbq h]
 exact wpS_pure q
theorem vab {left : Bool} {p : List Nat} {key base m hint : Nat} {st : SortSt} {Q : Option Nat -> SortSt -> Prop} (L : XF prog w A E s f r n κ) (hk : kindOf st = κ) (hp : ∀ x ∈ p, x < n) (hkey : key < n) (sp : ∀ i j, i <= j -> j < m -> r (p.getD (base + i) 0) <= r (p.getD (base + j) 0)) (hm : base + m <= p.length) (hh : hint < m)
  (h : ∀ k, k <= m -> (∀ i, i < k -> if left then r (p.getD (base + i) 0) < r key else r (p.getD (base + i) 0) <= r key) -> (∀ i, k <= i -> i < m -> if left then r key <= r (p.getD (base + i) 0) else r key < r (p.getD (base + i) 0)) -> Q (some k) st) :
  wpS (model prog w) A E s (ko left (f key) (ar f p) base m hint) Q st := by
 have inP : ∀ i, i < m -> p.getD (base + i) 0 < n := fun i hi => hp _ (by
  have : base + i < p.length := by lia
  have e : p.getD (base + i) 0 = p[base + i] := by simp [this]
  rw [e]; exact xB this)
 refine ZaN (bey := fun i => if left then decide (r (p.getD (base + i) 0) < r key) else !decide (r key < r (p.getD (base + i) 0))) (fun i hi Q' q => ?_) (fun i j hij hj z => ?_) hh fun k k1 k2 k3 => h k k1 (fun i hi => ?_) fun i hi hi2 => ?_
 ·refine wpS_bind (qg (by lia) ?_)
  cases left with
  | true =>
   rw [if_pos rfl]
   exact L _ _ (inP i hi) hkey st Q' hk q
  | false =>
   rw [if_neg uF]
   exact wpS_bind (L _ _ hkey (inP i hi) st _ hk (wpS_pure q))
 ·have le := sp i j hij hj
  cases left with
  | true =>
   have z' : r (p.getD (base + j) 0) < r key := of_decide_eq_true z
   exact decide_eq_true (by lia : r (p.getD (base + i) 0) < r key)
  | false =>
   have z' : ¬ r key < r (p.getD (base + j) 0) := of_decide_eq_false (by simpa using z)
   have z2 : ¬ r key < r (p.getD (base + i) 0) := by lia
   show (!decide (r key < r (p.getD (base + i) 0))) = true
   rw [decide_eq_false z2]; rfl
 ·have z := k2 i hi
  cases left with
  | true => exact of_decide_eq_true z
  | false =>
   have z' : (!decide (r key < r (p.getD (base + i) 0))) = true := z
   have := of_decide_eq_false (by rw [Bool.not_eq_true'] at z'; exact z')
   exact Int.not_lt.mp this
 ·have z := k3 i hi hi2
  cases left with
  | true => exact Int.not_lt.mp (of_decide_eq_false z)
  | false =>
   have z' : (!decide (r key < r (p.getD (base + i) 0))) = false := z
   exact of_decide_eq_true (by rw [Bool.not_eq_false'] at z'; exact z')
theorem W4 {left : Bool} {p : List Nat} {key base m hint : Nat} {st : SortSt} {Q : Option Nat -> SortSt -> Prop} (L : XF prog w A E s f r n κ) (hk : kindOf st = κ) (hp : ∀ x ∈ p, x < n) (hkey : key < n) (sp : SrtL r p) (hm : base + m <= p.length) (hh : hint < m)
  (h : ∀ k, k <= m -> (∀ i, i < k -> if left then r (p.getD (base + i) 0) < r key else r (p.getD (base + i) 0) <= r key) -> (∀ i, k <= i -> i < m -> if left then r key <= r (p.getD (base + i) 0) else r key < r (p.getD (base + i) 0)) -> Q (some k) st) :
  wpS (model prog w) A E s (ko left (f key) (ar f p) base m hint) Q st := vab L hk hp hkey (fun i j hij hj => sp.at_ (by lia) (by lia)) hm hh h
theorem Yz {pa pb : List Nat} (po : List Nat) (ia ib : Nat) : ar f po ++ (ar f pa).extract ia (ar f pa).size ++ (ar f pb).extract ib (ar f pb).size = ar f (po ++ pa.drop ia ++ pb.drop ib) := by
 rw [Xf, Xf, WaI, WaI, wS, wS]
theorem kaZ {pa : List Nat} (po : List Nat) (ia k : Nat) : ar f po ++ (ar f pa).extract ia (ia + k) = ar f (po ++ (pa.drop ia).take k) := by
 rw [ZM, wS, Nat.add_sub_cancel_left]
theorem MI.last {pa pb po : List Nat} {ia ib : Nat} (h : MI r pa pb ia ib po) (sa : SrtL r pa) (sb : SrtL r pb) (hz : ∀ y ∈ pb, r y <= r (pa.getD (pa.length - 1) 0)) (hi : ia + 1 = pa.length) : (po ++ pb.drop ib ++ pa.drop ia).Perm (pa ++ pb) /\ SrtL r (po ++ pb.drop ib ++ pa.drop ia) := by
 have := h.swap.done sb sa fun x hx y hy => by
  obtain ⟨j, j1, j2, rfl⟩ := Yn hy
  rw [show j = pa.length - 1 by lia]
  exact hz x (List.mem_of_mem_drop hx)
 exact ⟨this.1.trans u8, this.2⟩
theorem MI.full {pa pb po : List Nat} {ia ib : Nat} (h : MI r pa pb ia ib po) (sa : SrtL r pa) (sb : SrtL r pb) (hi : ia = pa.length \/ ib = pb.length) : (po ++ pa.drop ia ++ pb.drop ib).Perm (pa ++ pb) /\ SrtL r (po ++ pa.drop ia ++ pb.drop ib) :=
 h.done sa sb fun x hx y hy => by
  rcases hi with z | z
  ·rw [z, yA] at hx; cases hx
  ·rw [z, yA] at hy; cases hy
def LoP (st : SortSt) (f : Nat -> Keyed) (r : Nat -> Int) (pa pb : List Nat) (x : Nat) (d : LoC) (st2 : SortSt) : Prop := SameS st st2 /\ ∃ po2 ia2 ib2 g ac bc, d = (none, ar f po2, ia2, ib2, g, ac, bc) /\ MI r pa pb ia2 ib2 po2 /\ ia2 + 1 < pa.length /\ ib2 < pb.length /\ x <= po2.length
def LoF (st : SortSt) (f : Nat -> Keyed) (r : Nat -> Int) (pa pb : List Nat) (d : Option (Array Keyed)) (st2 : SortSt) : Prop := SameS st st2 /\ ∃ po2, d = some (ar f po2) /\ po2.Perm (pa ++ pb) /\ SrtL r po2
def LoQ (st : SortSt) (f : Nat -> Keyed) (r : Nat -> Int) (pa pb : List Nat) (x : Nat) : ForInStep LoC -> SortSt -> Prop
 | .done d, st2 => LoP st f r pa pb x d st2 \/ LoF st f r pa pb d.1 st2
 | .yield d, st2 => LoP st f r pa pb x d st2
structure LoH (prog : Program) (w : World) (A : Around) (E : ZVP) (s : Shared) (f : Nat -> Keyed) (r : Nat -> Int) (n : Nat) (κ : SortKind) (pa pb : List Nat) : Prop where
 L : XF prog w A E s f r n κ
 ra : ∀ x ∈ pa, x < n
 rb : ∀ x ∈ pb, x < n
 sa : SrtL r pa
 sb : SrtL r pb
 hz : ∀ y ∈ pb, r y <= r (pa.getD (pa.length - 1) 0)
theorem Wl {p : List Nat} {i : Nat} (h : i < p.length) : p.getD i 0 ∈ p := by
 have e : p.getD i 0 = p[i] := by simp [h]
 rw [e]; exact xB h
variable {pa pb : List Nat} {st st2 : SortSt}
theorem wap (H : LoH prog w A E s f r n κ pa pb) (same : SameS st st2) {x : Nat} {po : List Nat} {ia ib mg ac bc : Nat} (mi : MI r pa pb ia ib po) (hia : ia + 1 < pa.length) (hib : ib < pb.length) (hx : x <= po.length) (hl : ∀ y ∈ pb.drop ib, r (pa.getD ia 0) <= r y) :
  wpS (model prog w) A E s (kav (ar f pa) (ar f pb) (ar f po) ia ib mg ac bc) (LoQ st f r pa pb x) st2 := by
 unfold kav
 refine wpS_bind (qg (by lia) ?_)
 have m2 := mi.a1 H.sa (by lia) hl
 rw [kB, Yz (pa := pb) (pb := pa), Xf]
 by_cases c : ia + 1 + 1 = pa.length
 ·refine Zc (by simpa using c) (wpS_pure (.inr ⟨same, _, rfl, ?_⟩))
  exact m2.last H.sa H.sb H.hz c
 ·refine vb (by simpa using c) ?_
  have P : LoP st f r pa pb x (none, ar f (po ++ [pa.getD ia 0]), ia + 1, ib, mg, ac, bc) st2 := ⟨same, _, _, _, _, _, _, rfl, m2, by lia, hib, by rw [uE]; lia⟩
  by_cases c2 : (decide (ac < 7) && decide (bc < 7)) = true
  ·exact Zc c2 (wpS_pure (.inl P))
  ·exact vb c2 (wpS_pure P)
theorem van (H : LoH prog w A E s f r n κ pa pb) (same : SameS st st2) (hk : kindOf st2 = κ) {x : Nat} {po : List Nat} {ia ib mg ac bc : Nat} (mi : MI r pa pb ia ib po) (hia : ia + 1 < pa.length) (hib : ib < pb.length) (hx : x <= po.length) (hl : ∀ y ∈ pa.drop ia, r (pb.getD ib 0) <= r y) :
  wpS (model prog w) A E s (vav (ar f pa) (ar f pb) (ar f po) ia ib mg ac bc) (LoQ st f r pa pb x) st2 := by
 unfold vav
 refine wpS_bind (qg hib ?_)
 have m2 := mi.b1 H.sb hib hl
 have hx2 : x <= (po ++ [pb.getD ib 0]).length := by rw [uE]; lia
 rw [kB]
 by_cases c : ib + 1 = pb.length
 ·refine Zc (by rw [Xf]; simpa using c) (wpS_pure (.inr ⟨same, _, ?_, m2.full H.sa H.sb (.inr c)⟩))
  rw [Yz]
 ·refine vb (by rw [Xf]; simpa using c) ?_
  refine wpS_bind (qg (by lia) ?_)
  rw [Xf]
  refine wpS_bind (W4 (left := true) (m := pb.length - (ib + 1)) H.L hk H.rb (H.ra _ (Wl (by lia))) H.sb (by lia) (by lia) fun k k1 k2 k3 => ?_)
  have ge : ∀ y ∈ pb.drop (ib + 1 + k), r (pa.getD ia 0) <= r y := fun y hy => by
   obtain ⟨j, j1, j2, rfl⟩ := Yn hy
   have := k3 (j - (ib + 1)) (by lia) (by lia)
   rw [if_pos rfl, show ib + 1 + (j - (ib + 1)) = j by lia] at this
   exact this
  dsimp only
  by_cases k0 : k > 0
  ·refine Zc k0 ?_
   have m3 := m2.bK H.sb (k := k) (by lia) fun z hz y hy => by
    obtain ⟨j, j1, j2, rfl⟩ := Yn hy
    obtain ⟨t, t1, e⟩ := xh.mp hz
    rw [ud, uo] at t1
    rw [List.getElem_take, List.getElem_drop] at e
    have a1 := k2 t (by lia)
    rw [if_pos rfl] at a1
    have e2 : pb.getD (ib + 1 + t) 0 = z := by rw [← e]; simp [show ib + 1 + t < pb.length by lia]
    rw [e2] at a1
    have a2 := H.sa.at_ (i := ia) (j := j) j1 j2
    lia
   rw [kaZ]
   by_cases c3 : ib + 1 + k = pb.length
   ·refine Zc (by simpa using c3) (wpS_pure (.inr ⟨same, _, ?_, m3.full H.sa H.sb (.inr c3)⟩))
    rw [← Xf (f := f) pb, Yz]
   ·refine vb (by simpa using c3) ?_
    exact wap H same m3 hia (by lia) (by rw [uE]; lia) ge
  ·refine vb k0 ?_
   have : k = 0 := by lia
   subst this
   exact wap H same m2 hia (by lia) hx2 ge
theorem Zan (H : LoH prog w A E s f r n κ pa pb) (same : SameS st st2) (hk : kindOf st2 = κ) {x : Nat} {po : List Nat} {ia ib mg ac bc : Nat} (mi : MI r pa pb ia ib po) (hia : ia + 1 < pa.length) (hib : ib < pb.length) (hx : x <= po.length) :
  wpS (model prog w) A E s (jaw (ar f pa) (ar f pb) (ar f po) ia ib mg ac bc) (LoQ st f r pa pb x) st2 := by
 unfold jaw
 rw [ku]
 refine wpS_bind (wpS_modify ?_)
 have same2 := same.g mg
 have hk2 : kindOf (way st2 mg) = κ := hk
 show wpS _ _ _ _ _ _ (way st2 mg)
 refine wpS_bind (qg hib ?_)
 rw [Xf]
 refine wpS_bind (W4 (left := false) (m := pa.length - ia) H.L hk2 H.ra (H.rb _ (Wl hib)) H.sa (by lia) (by lia) fun k k1 k2 k3 => ?_)
 have gt : ∀ y ∈ pa.drop (ia + k), r (pb.getD ib 0) <= r y := fun y hy => by
  obtain ⟨j, j1, j2, rfl⟩ := Yn hy
  have := k3 (j - ia) (by lia) (by lia)
  rw [if_neg uF, show ia + (j - ia) = j by lia] at this
  lia
 dsimp only
 by_cases k0 : k > 0
 ·refine Zc k0 ?_
  have m3 := mi.aK H.sa (k := k) (by lia) fun z hz y hy => by
   obtain ⟨j, j1, j2, rfl⟩ := Yn hy
   obtain ⟨t, t1, e⟩ := xh.mp hz
   rw [ud, uo] at t1
   rw [List.getElem_take, List.getElem_drop] at e
   have a1 := k2 t (by lia)
   rw [if_neg uF] at a1
   have e2 : pa.getD (ia + t) 0 = z := by rw [← e]; simp [show ia + t < pa.length by lia]
   rw [e2] at a1
   have a2 := H.sb.at_ (i := ib) (j := j) j1 j2
   lia
  rw [kaZ]
  by_cases c1 : ia + k + 1 = pa.length
  ·refine Zc (by simpa using c1) (wpS_pure (.inr ⟨same2, _, ?_, m3.last H.sa H.sb H.hz c1⟩))
   rw [← Xf (f := f) pa, Yz (pa := pb) (pb := pa)]
  ·refine vb (by simpa using c1) ?_
   by_cases c2 : ia + k = pa.length
   ·refine Zc (by simpa using c2) (wpS_pure (.inr ⟨same2, _, ?_, m3.full H.sa H.sb (.inl c2)⟩))
    rw [← Xf (f := f) pa, Yz]
   ·refine vb (by simpa using c2) ?_
    exact van H same2 hk2 m3 (by lia) hib (by rw [uE]; lia) gt
 ·refine vb k0 ?_
  have : k = 0 := by lia
  subst this
  exact van H same2 hk2 mi hia hib hx gt
def LoI (st : SortSt) (f : Nat -> Keyed) (r : Nat -> Int) (pa pb : List Nat) (x : Nat) (c : LoE) (st' : SortSt) : Prop := SameS st st' /\ ∃ po ia ib mg, c = (none, ar f po, ia, ib, mg) /\ MI r pa pb ia ib po /\ ia + 1 < pa.length /\ ib < pb.length /\ x + 1 <= po.length
def qbo (st : SortSt) (f : Nat -> Keyed) (r : Nat -> Int) (pa pb : List Nat) (x y : Nat) (d : LoD) (st2 : SortSt) : Prop := SameS st st2 /\ ∃ po2 ia2 ib2 ac bc, d = (none, ar f po2, ia2, ib2, ac, bc) /\ MI r pa pb ia2 ib2 po2 /\ ia2 + 1 < pa.length /\ ib2 < pb.length /\ x + 1 + y <= po2.length
def vbr (st : SortSt) (f : Nat -> Keyed) (r : Nat -> Int) (pa pb : List Nat) (x : Nat) (d : LoD) (st2 : SortSt) : Prop := (SameS st st2 /\ ∃ po2 ia2 ib2 ac bc, d = (none, ar f po2, ia2, ib2, ac, bc) /\ MI r pa pb ia2 ib2 po2 /\ ia2 + 1 < pa.length /\ ib2 < pb.length /\ x + 2 <= po2.length) \/ LoF st f r pa pb d.1 st2
def kby (st : SortSt) (f : Nat -> Keyed) (r : Nat -> Int) (pa pb : List Nat) (x y : Nat) : ForInStep LoD -> SortSt -> Prop
 | .done d, st2 => vbr st f r pa pb x d st2
 | .yield d, st2 => qbo st f r pa pb x (y + 1) d st2
theorem vaV (H : LoH prog w A E s f r n κ pa pb) (hk : kindOf st = κ) {x y mg ia2 ib2 ac bc : Nat} {po2 : List Nat} (same2 : SameS st st2) (mi2 : MI r pa pb ia2 ib2 po2) (hia2 : ia2 + 1 < pa.length) (hib2 : ib2 < pb.length) (hpo2 : x + 1 + y <= po2.length) :
  wpS (model prog w) A E s (va9 (ar f pa) (ar f pb) mg (none, ar f po2, ia2, ib2, ac, bc)) (kby st f r pa pb x y) st2 := by
 unfold va9
 dsimp only
 refine wpS_bind (qg hib2 (wpS_bind (qg (by lia) (wpS_bind (H.L _ _ (H.rb _ (Wl hib2)) (H.ra _ (Wl (by lia))) _ _ (same2.kind.trans hk) ?_)))))
 dsimp only
 by_cases lt : r (pb.getD ib2 0) < r (pa.getD ia2 0)
 ·refine Zc (decide_eq_true lt) (wpS_bind (qg hib2 ?_))
  have m3 := mi2.b1 H.sb hib2 fun z hz => by
   obtain ⟨j, j1, j2, rfl⟩ := Yn hz
   have := H.sa.at_ (i := ia2) (j := j) j1 j2
   lia
  rw [kB]
  by_cases c3 : ib2 + 1 = pb.length
  ·refine Zc (by rw [Xf]; simpa using c3) (wpS_pure (.inr ⟨same2, _, ?_, m3.full H.sa H.sb (.inr c3)⟩))
   rw [Yz]
  ·refine vb (by rw [Xf]; simpa using c3) ?_
   by_cases c4 : bc + 1 ≥ mg
   ·exact Zc c4 (wpS_pure (.inl ⟨same2, _, _, _, _, _, rfl, m3, hia2, by lia, by rw [uE, ui]; lia⟩))
   ·exact vb c4 (wpS_pure ⟨same2, _, _, _, _, _, rfl, m3, hia2, by lia, by rw [uE, ui]; lia⟩)
 ·refine vb (by rw [decide_eq_false lt]; exact uF) (wpS_bind (qg (by lia) ?_))
  have m3 := mi2.a1 H.sa (by lia) fun z hz => by
   obtain ⟨j, j1, j2, rfl⟩ := Yn hz
   have := H.sb.at_ (i := ib2) (j := j) j1 j2
   lia
  rw [kB]
  by_cases c3 : ia2 + 1 + 1 = pa.length
  ·refine Zc (by rw [Xf]; simpa using c3) (wpS_pure (.inr ⟨same2, _, ?_, m3.last H.sa H.sb H.hz c3⟩))
   rw [Yz (pa := pb) (pb := pa)]
  ·refine vb (by rw [Xf]; simpa using c3) ?_
   by_cases c4 : ac + 1 ≥ mg
   ·exact Zc c4 (wpS_pure (.inl ⟨same2, _, _, _, _, _, rfl, m3, by lia, hib2, by rw [uE, ui]; lia⟩))
   ·exact vb c4 (wpS_pure ⟨same2, _, _, _, _, _, rfl, m3, by lia, hib2, by rw [uE, ui]; lia⟩)
theorem YaI {Q : Array Keyed -> SortSt -> Prop} (H : LoH prog w A E s f r n κ pa pb) (hk : kindOf st = κ) (na : 0 < pa.length) (nb : 0 < pb.length) (h0 : r (pb.getD 0 0) <= r (pa.getD 0 0))
  (h : ∀ po st', po.Perm (pa ++ pb) -> SrtL r po -> SameS st st' -> Q (ar f po) st') : wpS (model prog w) A E s (qaa (ar f pa) (ar f pb)) Q st := by
 have m0 : MI r pa pb 0 0 [] := ⟨by simp, List.Pairwise.nil, fun x hx => (nomatch hx), fun x hx => (nomatch hx), ue _, ue _⟩
 have m1 : MI r pa pb 0 1 [pb.getD 0 0] := m0.b1 H.sb nb fun y hy => by
  obtain ⟨j, j1, j2, rfl⟩ := Yn hy
  have := H.sa.at_ (i := 0) (j := j) j1 j2
  lia
 rw [kay]
 refine wpS_bind (wpS_lift (wpAny_rule ⟨rfl, ?_⟩))
 refine wpS_bind (qg nb ?_)
 have e1 : #[f (pb.getD 0 0)] = ar f [pb.getD 0 0] := rfl
 rw [e1]
 by_cases c1 : 1 = pb.length
 ·refine Zc (by rw [Xf]; simpa using c1) (wpS_pure ?_)
  dsimp only
  rw [Yz]
  have := m1.full H.sa H.sb (.inr c1)
  exact h _ _ this.1 this.2 (SameS.refl _)
 refine vb (by rw [Xf]; simpa using c1) ?_
 by_cases c2 : 1 = pa.length
 ·refine Zc (by rw [Xf]; simpa using c2) (wpS_pure ?_)
  dsimp only
  rw [Yz (pa := pb) (pb := pa)]
  have := m1.last H.sa H.sb H.hz (by lia)
  exact h _ _ this.1 this.2 (SameS.refl _)
 refine vb (by rw [Xf]; simpa using c2) ?_
 refine wpS_bind (wpS_get ?_)
 refine wpS_bind (wpS_mono (wpS_forRange (I := LoI st f r pa pb)
  (Q := fun c st' => LoF st f r pa pb c.1 st') ?step ?fin ?init) ?post)
 case init => exact ⟨SameS.refl _, _, 0, 1, _, rfl, m1, by lia, by lia, by simp⟩
 case fin =>
  intro c st' hh
  refine waQ hh fun same po ia ib mg zz mi hia hib hpo => ?_
  subst zz
  have := mi.len
  rw [Xf, Xf] at hpo
  lia
 case post =>
  rintro c st' ⟨same, po, hc, pm, sr⟩
  obtain ⟨c1, c2⟩ := c
  dsimp only at hc
  subst hc
  exact wpS_pure (h po st' pm sr same)
 case step =>
  intro x c st' _ hx hh
  refine waQ hh fun same po ia ib mg zz mi hia hib hpo => ?_
  subst zz
  refine wpS_bind (wpS_mono (wpS_forRange (I := qbo st f r pa pb x) (Q := vbr st f r pa pb x) ?step1 ?fin1 ?init1) ?post1)
  case init1 => exact ⟨same, po, ia, ib, 0, 0, rfl, mi, hia, hib, by lia⟩
  case fin1 =>
   intro d st2 hh
   refine Zam hh fun same2 po2 ia2 ib2 ac bc zz mi2 hia2 hib2 hpo2 => ?_
   subst zz
   have := mi2.len
   rw [Xf, Xf] at hpo2
   lia
  case step1 =>
   intro y d st2 _ hy hh
   refine Zam hh fun same2 po2 ia2 ib2 ac bc zz mi2 hia2 hib2 hpo2 => ?_
   subst zz
   exact wpS_mono (vaV H hk same2 mi2 hia2 hib2 hpo2) fun a st4 ha => by cases a <;> exact ha
  case post1 =>
   rintro d st2 (hh | ⟨same2, po2, hd, pm, sr⟩)
   ·refine Zam hh fun same2 po2 ia2 ib2 ac bc zz mi2 hia2 hib2 hpo2 => ?_
    subst zz
    refine wpS_bind (wpS_lift (wpAny_rule ⟨rfl, ?_⟩))
    refine wpS_bind (wpS_mono (wpS_forRange (I := fun y d st2 => LoP st f r pa pb (x + 2) d st2) (Q := fun d st2 => LoP st f r pa pb (x + 2) d st2 \/ LoF st f r pa pb d.1 st2) ?step2 ?fin2 ?init2) ?post2)
    case init2 => exact ⟨same2, po2, ia2, ib2, _, ac, bc, rfl, mi2, hia2, hib2, hpo2⟩
    case fin2 => exact fun d st3 h3 => .inl h3
    case step2 =>
     intro y d st3 _ hy hh
     refine vaP hh fun same3 po3 ia3 ib3 g3 ac3 bc3 zz mi3 hia3 hib3 hpo3 => ?_
     subst zz
     show wpS _ _ _ _ (if g3 > 1 then jaw (ar f pa) (ar f pb) (ar f po3) ia3 ib3 (g3 - 1) ac3 bc3 else jaw (ar f pa) (ar f pb) (ar f po3) ia3 ib3 g3 ac3 bc3) _ _
     by_cases c : g3 > 1
     ·exact Zc c (wpS_mono (Zan H same3 (same3.kind.trans hk) mi3 hia3 hib3 hpo3) fun a st4 ha => by cases a <;> exact ha)
     ·exact vb c (wpS_mono (Zan H same3 (same3.kind.trans hk) mi3 hia3 hib3 hpo3) fun a st4 ha => by cases a <;> exact ha)
    case post2 =>
     rintro d st3 (hh | ⟨same3, po3, hd, pm, sr⟩)
     ·refine vaP hh fun same3 po3 ia3 ib3 g3 ac3 bc3 zz mi3 hia3 hib3 hpo3 => ?_
      subst zz
      refine wpS_bind ?_
      rw [ku]
      exact wpS_modify (wpS_pure ⟨same3.g _, po3, ia3, ib3, _, rfl, mi3, hia3, hib3, by lia⟩)
     ·obtain ⟨d1, d2⟩ := d
      dsimp only at hd
      subst hd
      exact wpS_pure ⟨same3, po3, rfl, pm, sr⟩
   ·obtain ⟨d1, d2⟩ := d
    dsimp only at hd
    subst hd
    exact wpS_pure ⟨same2, po2, rfl, pm, sr⟩
end
theorem YaE (a b : Array Keyed) : Yab a b = (do
 rule "list.sort.merge-hi"
 let total := a.size + b.size
 let done (out : Array Keyed) (na nb : Nat) := a.extract 0 na ++ b.extract 0 nb ++ out.reverse
 let firstOfB (out : Array Keyed) (na nb : Nat) := b.extract 0 nb ++ a.extract 0 na ++ out.reverse
 let mut na := a.size - 1
 let mut nb := b.size
 let mut out : Array Keyed := #[← elem' a na]
 if na == 0 then return done out na nb
 if nb == 1 then return firstOfB out na nb
 let mut minGallop := gallopOf (← get)
 for _ in [0:total] do
  let mut acount := 0
  let mut bcount := 0
  for _ in [0:total] do
   let some aWins ← lt' (← elem' b (nb - 1)) (← elem' a (na - 1)) | return done out na nb
   if aWins then
    na := na - 1; out := out.push (← elem' a na); acount := acount + 1; bcount := 0
    if na == 0 then return done out na nb
    if acount ≥ minGallop then break
   else
    nb := nb - 1; out := out.push (← elem' b nb); bcount := bcount + 1; acount := 0
    if nb == 1 then return firstOfB out na nb
    if bcount ≥ minGallop then break
  rule "list.sort.gallop"
  minGallop := minGallop + 1
  for _ in [0:total] do
   if minGallop > 1 then minGallop := minGallop - 1
   wo minGallop
   let some at_ ← ko false (← elem' b (nb - 1)) a 0 na (na - 1) | return done out na nb
   let k := na - at_
   acount := k
   if k > 0 then
    out := out ++ (a.extract at_ na).reverse; na := at_
    if na == 0 then return done out na nb
   nb := nb - 1; out := out.push (← elem' b nb)
   if nb == 1 then return firstOfB out na nb
   let some at_ ← ko true (← elem' a (na - 1)) b 0 nb (nb - 1) | return done out na nb
   let k := nb - at_
   bcount := k
   if k > 0 then
    out := out ++ (b.extract at_ nb).reverse; nb := at_
    if nb == 1 then return firstOfB out na nb
    if nb == 0 then return done out na nb
   na := na - 1; out := out.push (← elem' a na)
   if na == 0 then return done out na nb
   if acount < 7 && bcount < 7 then break
  minGallop := minGallop + 1
  wo minGallop
 unsupported "internal:list.sort.merge-bound") := rfl
noncomputable abbrev HiC := Option (Array Keyed) × Nat × Nat × Array Keyed × Nat × Nat × Nat
noncomputable def Wav (a b out : Array Keyed) (na nb mg ac bc : Nat) : StateT SortSt Sem (ForInStep HiC) := do
 let x ← elem' a (na - 1)
 if na - 1 == 0 then pure (.done (some (a.extract 0 (na - 1) ++ b.extract 0 nb ++ (out.push x).reverse), na - 1, nb, out.push x, mg, ac, bc))
 else if ac < 7 && bc < 7 then pure (.done (none, na - 1, nb, out.push x, mg, ac, bc)) else pure (.yield (none, na - 1, nb, out.push x, mg, ac, bc))
noncomputable def Zaw (a b out : Array Keyed) (na nb mg ac bc : Nat) : StateT SortSt Sem (ForInStep HiC) := do
 let y ← elem' b (nb - 1)
 if nb - 1 == 1 then pure (.done (some (b.extract 0 (nb - 1) ++ a.extract 0 na ++ (out.push y).reverse), na, nb - 1, out.push y, mg, ac, bc))
 else
  let x ← elem' a (na - 1)
  let some k ← ko true x b 0 (nb - 1) (nb - 1 - 1) | pure (.done (some (a.extract 0 na ++ b.extract 0 (nb - 1) ++ (out.push y).reverse), na, nb - 1, out.push y, mg, ac, bc))
  if nb - 1 - k > 0 then
   if k == 1 then pure (.done (some (b.extract 0 k ++ a.extract 0 na ++ (out.push y ++ (b.extract k (nb - 1)).reverse).reverse), na, k, out.push y ++ (b.extract k (nb - 1)).reverse, mg, ac, nb - 1 - k))
   else if k == 0 then pure (.done (some (a.extract 0 na ++ b.extract 0 k ++ (out.push y ++ (b.extract k (nb - 1)).reverse).reverse), na, k, out.push y ++ (b.extract k (nb - 1)).reverse, mg, ac, nb - 1 - k))
   else Wav a b (out.push y ++ (b.extract k (nb - 1)).reverse) na k mg ac (nb - 1 - k)
  else Wav a b (out.push y) na (nb - 1) mg ac (nb - 1 - k)
noncomputable def Yaw (a b out : Array Keyed) (na nb mg ac bc : Nat) : StateT SortSt Sem (ForInStep HiC) := do
 wo mg
 let y ← elem' b (nb - 1)
 let some k ← ko false y a 0 na (na - 1) | pure (.done (some (a.extract 0 na ++ b.extract 0 nb ++ out.reverse), na, nb, out, mg, ac, bc))
 if na - k > 0 then
  if k == 0 then pure (.done (some (a.extract 0 k ++ b.extract 0 nb ++ (out ++ (a.extract k na).reverse).reverse), k, nb, out ++ (a.extract k na).reverse, mg, na - k, bc))
  else Zaw a b (out ++ (a.extract k na).reverse) k nb mg (na - k) bc
 else Zaw a b out na nb mg (na - k) bc
noncomputable abbrev HiD := Option (Array Keyed) × Nat × Nat × Array Keyed × Nat × Nat
noncomputable def qa8 (a b : Array Keyed) (mg : Nat) (c : HiD) : StateT SortSt Sem (ForInStep HiD) := do
 let y ← elem' b (c.2.2.1 - 1)
 let x ← elem' a (c.2.1 - 1)
 let some aWins ← lt' y x | pure (.done (some (a.extract 0 c.2.1 ++ b.extract 0 c.2.2.1 ++ c.2.2.2.1.reverse), c.2.1, c.2.2.1, c.2.2.2.1, c.2.2.2.2.1, c.2.2.2.2.2))
 if aWins = true then
  let x ← elem' a (c.2.1 - 1)
  if c.2.1 - 1 == 0 then pure (.done (some (a.extract 0 (c.2.1 - 1) ++ b.extract 0 c.2.2.1 ++ (c.2.2.2.1.push x).reverse), c.2.1 - 1, c.2.2.1, c.2.2.2.1.push x, c.2.2.2.2.1 + 1, 0))
  else if c.2.2.2.2.1 + 1 ≥ mg then pure (.done (none, c.2.1 - 1, c.2.2.1, c.2.2.2.1.push x, c.2.2.2.2.1 + 1, 0)) else pure (.yield (none, c.2.1 - 1, c.2.2.1, c.2.2.2.1.push x, c.2.2.2.2.1 + 1, 0))
 else
  let y ← elem' b (c.2.2.1 - 1)
  if c.2.2.1 - 1 == 1 then pure (.done (some (b.extract 0 (c.2.2.1 - 1) ++ a.extract 0 c.2.1 ++ (c.2.2.2.1.push y).reverse), c.2.1, c.2.2.1 - 1, c.2.2.2.1.push y, 0, c.2.2.2.2.2 + 1))
  else if c.2.2.2.2.2 + 1 ≥ mg then pure (.done (none, c.2.1, c.2.2.1 - 1, c.2.2.2.1.push y, 0, c.2.2.2.2.2 + 1)) else pure (.yield (none, c.2.1, c.2.2.1 - 1, c.2.2.2.1.push y, 0, c.2.2.2.2.2 + 1))
structure MH (r : Nat -> Int) (pa pb : List Nat) (na nb : Nat) (po : List Nat) : Prop where
 perm : po.Perm (pa.drop na ++ pb.drop nb)
 srt : po.Pairwise fun x y => r y <= r x
 la : ∀ x ∈ po, ∀ y ∈ pa.take na, r y <= r x
 lb : ∀ x ∈ po, ∀ y ∈ pb.take nb, r y <= r x
 ha : na <= pa.length
 hb : nb <= pb.length
section
variable {r : Nat -> Int} {pa pb po : List Nat} {na nb : Nat}
theorem MH.len (h : MH r pa pb na nb po) : po.length = (pa.length - na) + (pb.length - nb) := by
 have := h.perm.length_eq
 simpa using this
theorem MH.swap (h : MH r pa pb na nb po) : MH r pb pa nb na po := ⟨h.perm.trans u8, h.srt, h.lb, h.la, h.hb, h.ha⟩
theorem jaF {p : List Nat} {m k : Nat} (hm : m <= k) : (p.drop m).take (k - m) = (p.take k).drop m := by rw [List.drop_take]
theorem MH.aK (h : MH r pa pb na nb po) (sa : SrtL r pa) {m : Nat} (hm : m <= na) (hl : ∀ x ∈ (pa.drop m).take (na - m), ∀ y ∈ pb.take nb, r y <= r x) : MH r pa pb m nb (po ++ ((pa.drop m).take (na - m)).reverse) := by
 have sp : SrtL r (pa.take na) := sa.sublist (yM _ _)
 have e : pa.take m ++ (pa.drop m).take (na - m) = pa.take na := by
  rw [jaF hm]
  have := uz m (pa.take na)
  rw [List.take_take, Nat.min_eq_left hm] at this
  exact this
 rw [← e] at sp
 obtain ⟨s1, s2, s3⟩ := xH.mp sp
 have e2 : pa.drop m = (pa.drop m).take (na - m) ++ pa.drop na := by
  have := uz (na - m) (pa.drop m)
  rw [List.drop_drop, show m + (na - m) = na by lia] at this
  exact this.symm
 refine ⟨?_, xH.mpr ⟨h.srt, List.pairwise_reverse.mpr s2, fun x hx y hy => ?_⟩, fun x hx y hy => ?_, fun x hx y hy => ?_, by have := h.ha; lia, h.hb⟩
 ·refine List.Perm.trans ?_ (List.Perm.of_eq (congrArg (· ++ pb.drop nb) e2.symm))
  refine (h.perm.append (List.reverse_perm _)).trans ?_
  rw [uh]
  have : (pa.drop na ++ (pb.drop nb ++ (pa.drop m).take (na - m))).Perm ((pa.drop m).take (na - m) ++ (pa.drop na ++ pb.drop nb)) := by
   rw [← uh]
   exact u8
  rw [uh]
  exact this
 ·exact h.la x hx y (by rw [← e]; exact uL _ (List.mem_reverse.mp hy))
 ·rcases uj.mp hx with hx | hx
  ·exact h.la x hx y (by rw [← e]; exact x8 _ hy)
  ·exact s3 y hy x (List.mem_reverse.mp hx)
 ·rcases uj.mp hx with hx | hx
  ·exact h.lb x hx y hy
  ·exact hl x (List.mem_reverse.mp hx) y hy
theorem MH.bK (h : MH r pa pb na nb po) (sb : SrtL r pb) {m : Nat} (hm : m <= nb) (hl : ∀ x ∈ (pb.drop m).take (nb - m), ∀ y ∈ pa.take na, r y <= r x) : MH r pa pb na m (po ++ ((pb.drop m).take (nb - m)).reverse) := (h.swap.aK sb hm hl).swap
theorem ZaJ {p : List Nat} {k : Nat} (h0 : 0 < k) (h : k <= p.length) : (p.drop (k - 1)).take (k - (k - 1)) = [p.getD (k - 1) 0] := by
 rw [show k - (k - 1) = 1 by lia]
 exact j8 (by lia)
theorem MH.a1 (h : MH r pa pb na nb po) (sa : SrtL r pa) (h0 : 0 < na) (hl : ∀ y ∈ pb.take nb, r y <= r (pa.getD (na - 1) 0)) : MH r pa pb (na - 1) nb (po ++ [pa.getD (na - 1) 0]) := by
 have := h.aK sa (m := na - 1) (by lia) (by rw [ZaJ h0 h.ha]; intro x hx; rw [uc.mp hx]; exact hl)
 rw [ZaJ h0 h.ha] at this
 exact this
theorem MH.b1 (h : MH r pa pb na nb po) (sb : SrtL r pb) (h0 : 0 < nb) (hl : ∀ y ∈ pa.take na, r y <= r (pb.getD (nb - 1) 0)) : MH r pa pb na (nb - 1) (po ++ [pb.getD (nb - 1) 0]) := (h.swap.a1 sb h0 hl).swap
theorem Xq {p : List Nat} {i : Nat} {x : Nat} (h : x ∈ p.take i) : ∃ j, j < i /\ j < p.length /\ x = p.getD j 0 := by
 obtain ⟨k, hk, e⟩ := xh.mp h
 rw [ud] at hk
 refine ⟨k, by lia, by lia, ?_⟩
 rw [List.getElem_take] at e
 rw [← e]
 simp [show k < p.length by lia]
theorem MH.done (h : MH r pa pb na nb po) (sa : SrtL r pa) (sb : SrtL r pb) (hl : ∀ x ∈ pa.take na, ∀ y ∈ pb.take nb, r x <= r y) : (pa.take na ++ pb.take nb ++ po.reverse).Perm (pa ++ pb) /\ SrtL r (pa.take na ++ pb.take nb ++ po.reverse) := by
 constructor
 ·refine (List.Perm.append_left _ ((List.reverse_perm _).trans h.perm)).trans ?_
  have : (pa.take na ++ pb.take nb ++ (pa.drop na ++ pb.drop nb)).Perm ((pa.take na ++ pa.drop na) ++ (pb.take nb ++ pb.drop nb)) := by
   rw [uh, uh]
   refine List.Perm.append_left _ ?_
   rw [← uh, ← uh]
   exact List.Perm.append_right _ u8
  rw [uz, uz] at this
  exact this
 ·refine xH.mpr ⟨xH.mpr ⟨sa.sublist (yM _ _), sb.sublist (yM _ _), hl⟩, List.pairwise_reverse.mpr h.srt, fun x hx y hy => ?_⟩
  have hy := List.mem_reverse.mp hy
  rcases uj.mp hx with hx | hx
  ·exact h.la y hy x hx
  ·exact h.lb y hy x hx
theorem MH.full (h : MH r pa pb na nb po) (sa : SrtL r pa) (sb : SrtL r pb) (hi : na = 0 \/ nb = 0) : (pa.take na ++ pb.take nb ++ po.reverse).Perm (pa ++ pb) /\ SrtL r (pa.take na ++ pb.take nb ++ po.reverse) :=
 h.done sa sb fun x hx y hy => by
  rcases hi with z | z
  ·rw [z] at hx; cases hx
  ·rw [z] at hy; cases hy
theorem MH.first (h : MH r pa pb na nb po) (sa : SrtL r pa) (sb : SrtL r pb) (hz : ∀ y ∈ pa, r (pb.getD 0 0) <= r y) (hi : nb = 1) : (pb.take nb ++ pa.take na ++ po.reverse).Perm (pa ++ pb) /\ SrtL r (pb.take nb ++ pa.take na ++ po.reverse) := by
 have := h.swap.done sb sa fun x hx y hy => by
  obtain ⟨j, j1, j2, rfl⟩ := Xq hx
  rw [show j = 0 by lia]
  exact hz y (List.mem_of_mem_take hy)
 exact ⟨this.1.trans u8, this.2⟩
end
section
variable {prog : Program} {w : World} {A : Around} {E : ZVP} {s : Shared} {f : Nat -> Keyed} {r : Nat -> Int} {n : Nat} {κ : SortKind}
theorem ju {pa pb : List Nat} (po : List Nat) (na nb : Nat) : (ar f pa).extract 0 na ++ (ar f pb).extract 0 nb ++ (ar f po).reverse = ar f (pa.take na ++ pb.take nb ++ po.reverse) := by
 rw [ZM, ZM, vaX, wS, wS]; rfl
theorem ZaK {pa : List Nat} (po : List Nat) (m k : Nat) : ar f po ++ ((ar f pa).extract m k).reverse = ar f (po ++ ((pa.drop m).take (k - m)).reverse) := by
 rw [ZM, vaX, wS]
def HiP (st : SortSt) (f : Nat -> Keyed) (r : Nat -> Int) (pa pb : List Nat) (x : Nat) (d : HiC) (st2 : SortSt) : Prop := SameS st st2 /\ ∃ po2 na2 nb2 g ac bc, d = (none, na2, nb2, ar f po2, g, ac, bc) /\ MH r pa pb na2 nb2 po2 /\ 0 < na2 /\ 1 < nb2 /\ x <= po2.length
def HiQ (st : SortSt) (f : Nat -> Keyed) (r : Nat -> Int) (pa pb : List Nat) (x : Nat) : ForInStep HiC -> SortSt -> Prop
 | .done d, st2 => HiP st f r pa pb x d st2 \/ LoF st f r pa pb d.1 st2
 | .yield d, st2 => HiP st f r pa pb x d st2
structure HiH (prog : Program) (w : World) (A : Around) (E : ZVP) (s : Shared) (f : Nat -> Keyed) (r : Nat -> Int) (n : Nat) (κ : SortKind) (pa pb : List Nat) : Prop where
 L : XF prog w A E s f r n κ
 ra : ∀ x ∈ pa, x < n
 rb : ∀ x ∈ pb, x < n
 sa : SrtL r pa
 sb : SrtL r pb
 hz : ∀ y ∈ pa, r (pb.getD 0 0) <= r y
variable {pa pb : List Nat} {st st2 : SortSt}
theorem Yar (H : HiH prog w A E s f r n κ pa pb) (same : SameS st st2) {x : Nat} {po : List Nat} {na nb mg ac bc : Nat} (mi : MH r pa pb na nb po) (hna : 0 < na) (hnb : 1 < nb) (hx : x <= po.length) (hl : ∀ y ∈ pb.take nb, r y <= r (pa.getD (na - 1) 0)) :
  wpS (model prog w) A E s (Wav (ar f pa) (ar f pb) (ar f po) na nb mg ac bc) (HiQ st f r pa pb x) st2 := by
 unfold Wav
 have ha := mi.ha
 refine wpS_bind (qg (by lia) ?_)
 have m2 := mi.a1 H.sa hna hl
 rw [kB, ju]
 by_cases c : na - 1 = 0
 ·exact Zc (by simpa using c) (wpS_pure (.inr ⟨same, _, rfl, m2.full H.sa H.sb (.inl c)⟩))
 ·refine vb (by simpa using c) ?_
  have P : HiP st f r pa pb x (none, na - 1, nb, ar f (po ++ [pa.getD (na - 1) 0]), mg, ac, bc) st2 := ⟨same, _, _, _, _, _, _, rfl, m2, by lia, hnb, by rw [uE]; lia⟩
  by_cases c2 : (decide (ac < 7) && decide (bc < 7)) = true
  ·exact Zc c2 (wpS_pure (.inl P))
  ·exact vb c2 (wpS_pure P)
theorem kan (H : HiH prog w A E s f r n κ pa pb) (same : SameS st st2) (hk : kindOf st2 = κ) {x : Nat} {po : List Nat} {na nb mg ac bc : Nat} (mi : MH r pa pb na nb po) (hna : 0 < na) (hnb : 1 < nb) (hx : x <= po.length) (hl : ∀ y ∈ pa.take na, r y <= r (pb.getD (nb - 1) 0)) :
  wpS (model prog w) A E s (Zaw (ar f pa) (ar f pb) (ar f po) na nb mg ac bc) (HiQ st f r pa pb x) st2 := by
 unfold Zaw
 have ha := mi.ha
 have hb := mi.hb
 refine wpS_bind (qg (by lia) ?_)
 have m2 := mi.b1 H.sb (by lia) hl
 have hx2 : x <= (po ++ [pb.getD (nb - 1) 0]).length := by rw [uE]; lia
 rw [kB]
 by_cases c : nb - 1 = 1
 ·refine Zc (by simpa using c) (wpS_pure (.inr ⟨same, _, ?_, m2.first H.sa H.sb H.hz c⟩))
  rw [ju]
 ·refine vb (by simpa using c) ?_
  refine wpS_bind (qg (by lia) ?_)
  refine wpS_bind (W4 (left := true) (base := 0) (m := nb - 1) H.L hk H.rb (H.ra _ (Wl (by lia))) H.sb (by lia) (by lia) fun k k1 k2 k3 => ?_)
  have ge : ∀ y ∈ pb.take k, r y <= r (pa.getD (na - 1) 0) := fun y hy => by
   obtain ⟨j, j1, j2, rfl⟩ := Xq hy
   have := k2 j j1
   rw [if_pos rfl, xa] at this
   lia
  dsimp only
  by_cases k0 : nb - 1 - k > 0
  ·refine Zc k0 ?_
   have m3 := m2.bK H.sb (m := k) (by lia) fun z hz y hy => by
    obtain ⟨j, j1, j2, rfl⟩ := Xq hy
    rw [jaF (by lia)] at hz
    obtain ⟨t, t1, t2, rfl⟩ := Yn hz
    rw [ud] at t2
    have a1 := k3 t t1 (by lia)
    rw [if_pos rfl, xa] at a1
    have e2 : (pb.take (nb - 1)).getD t 0 = pb.getD t 0 := by simp [yH, show t < nb - 1 by lia]
    rw [e2]
    have a2 := H.sa.at_ (i := j) (j := na - 1) (by lia) (by lia)
    lia
   rw [ZaK]
   by_cases c3 : k = 1
   ·refine Zc (by simpa using c3) (wpS_pure (.inr ⟨same, _, ?_, m3.first H.sa H.sb H.hz c3⟩))
    rw [ju]
   ·refine vb (by simpa using c3) ?_
    by_cases c4 : k = 0
    ·refine Zc (by simpa using c4) (wpS_pure (.inr ⟨same, _, ?_, m3.full H.sa H.sb (.inr c4)⟩))
     rw [ju]
    ·refine vb (by simpa using c4) ?_
     exact Yar H same m3 hna (by lia) (by rw [uE]; lia) ge
  ·refine vb k0 ?_
   have : k = nb - 1 := by lia
   subst this
   exact Yar H same m2 hna (by lia) hx2 ge
theorem jap (H : HiH prog w A E s f r n κ pa pb) (same : SameS st st2) (hk : kindOf st2 = κ) {x : Nat} {po : List Nat} {na nb mg ac bc : Nat} (mi : MH r pa pb na nb po) (hna : 0 < na) (hnb : 1 < nb) (hx : x <= po.length) :
  wpS (model prog w) A E s (Yaw (ar f pa) (ar f pb) (ar f po) na nb mg ac bc) (HiQ st f r pa pb x) st2 := by
 unfold Yaw
 have ha := mi.ha
 have hb := mi.hb
 rw [ku]
 refine wpS_bind (wpS_modify ?_)
 have same2 := same.g mg
 have hk2 : kindOf (way st2 mg) = κ := hk
 show wpS _ _ _ _ _ _ (way st2 mg)
 refine wpS_bind (qg (by lia) ?_)
 refine wpS_bind (W4 (left := false) (base := 0) (m := na) H.L hk2 H.ra (H.rb _ (Wl (by lia))) H.sa (by lia) (by lia) fun k k1 k2 k3 => ?_)
 have le : ∀ y ∈ pa.take k, r y <= r (pb.getD (nb - 1) 0) := fun y hy => by
  obtain ⟨j, j1, j2, rfl⟩ := Xq hy
  have := k2 j j1
  rw [if_neg uF, xa] at this
  exact this
 dsimp only
 by_cases k0 : na - k > 0
 ·refine Zc k0 ?_
  have m3 := mi.aK H.sa (m := k) (by lia) fun z hz y hy => by
   obtain ⟨j, j1, j2, rfl⟩ := Xq hy
   rw [jaF (by lia)] at hz
   obtain ⟨t, t1, t2, rfl⟩ := Yn hz
   rw [ud] at t2
   have a1 := k3 t t1 (by lia)
   rw [if_neg uF, xa] at a1
   have e2 : (pa.take na).getD t 0 = pa.getD t 0 := by simp [yH, show t < na by lia]
   rw [e2]
   have a2 := H.sb.at_ (i := j) (j := nb - 1) (by lia) (by lia)
   lia
  rw [ZaK]
  by_cases c1 : k = 0
  ·refine Zc (by simpa using c1) (wpS_pure (.inr ⟨same2, _, ?_, m3.full H.sa H.sb (.inl c1)⟩))
   rw [ju]
  ·refine vb (by simpa using c1) ?_
   exact kan H same2 hk2 m3 (by lia) hnb (by rw [uE]; lia) le
 ·refine vb k0 ?_
  have : k = na := by lia
  subst this
  exact kan H same2 hk2 mi hna hnb hx le
def HiI (st : SortSt) (f : Nat -> Keyed) (r : Nat -> Int) (pa pb : List Nat) (x : Nat) (c : Option (Array Keyed) × Nat × Nat × Array Keyed × Nat) (st' : SortSt) : Prop := SameS st st' /\ ∃ po na nb mg, c = (none, na, nb, ar f po, mg) /\ MH r pa pb na nb po /\ 0 < na /\ 1 < nb /\ x + 1 <= po.length
def Zbm (st : SortSt) (f : Nat -> Keyed) (r : Nat -> Int) (pa pb : List Nat) (x y : Nat) (d : HiD) (st2 : SortSt) : Prop := SameS st st2 /\ ∃ po2 na2 nb2 ac bc, d = (none, na2, nb2, ar f po2, ac, bc) /\ MH r pa pb na2 nb2 po2 /\ 0 < na2 /\ 1 < nb2 /\ x + 1 + y <= po2.length
def Ybr (st : SortSt) (f : Nat -> Keyed) (r : Nat -> Int) (pa pb : List Nat) (x : Nat) (d : HiD) (st2 : SortSt) : Prop := (SameS st st2 /\ ∃ po2 na2 nb2 ac bc, d = (none, na2, nb2, ar f po2, ac, bc) /\ MH r pa pb na2 nb2 po2 /\ 0 < na2 /\ 1 < nb2 /\ x + 2 <= po2.length) \/ LoF st f r pa pb d.1 st2
def vbw (st : SortSt) (f : Nat -> Keyed) (r : Nat -> Int) (pa pb : List Nat) (x y : Nat) : ForInStep HiD -> SortSt -> Prop
 | .done d, st2 => Ybr st f r pa pb x d st2
 | .yield d, st2 => Zbm st f r pa pb x (y + 1) d st2
theorem qaS (H : HiH prog w A E s f r n κ pa pb) (hk : kindOf st = κ) {x y mg na2 nb2 ac bc : Nat} {po2 : List Nat} (same2 : SameS st st2) (mi2 : MH r pa pb na2 nb2 po2) (hna2 : 0 < na2) (hnb2 : 1 < nb2) (hpo2 : x + 1 + y <= po2.length) :
  wpS (model prog w) A E s (qa8 (ar f pa) (ar f pb) mg (none, na2, nb2, ar f po2, ac, bc)) (vbw st f r pa pb x y) st2 := by
 unfold qa8
 dsimp only
 have ha2 := mi2.ha
 have hb2 := mi2.hb
 refine wpS_bind (qg (by lia) (wpS_bind (qg (by lia) (wpS_bind (H.L _ _ (H.rb _ (Wl (by lia))) (H.ra _ (Wl (by lia))) _ _ (same2.kind.trans hk) ?_)))))
 dsimp only
 by_cases lt : r (pb.getD (nb2 - 1) 0) < r (pa.getD (na2 - 1) 0)
 ·refine Zc (decide_eq_true lt) (wpS_bind (qg (by lia) ?_))
  have m3 := mi2.a1 H.sa hna2 fun z hz => by
   obtain ⟨j, j1, j2, rfl⟩ := Xq hz
   have := H.sb.at_ (i := j) (j := nb2 - 1) (by lia) (by lia)
   lia
  rw [kB]
  by_cases c3 : na2 - 1 = 0
  ·refine Zc (by simpa using c3) (wpS_pure (.inr ⟨same2, _, ?_, m3.full H.sa H.sb (.inl c3)⟩))
   rw [ju]
  ·refine vb (by simpa using c3) ?_
   by_cases c4 : ac + 1 ≥ mg
   ·exact Zc c4 (wpS_pure (.inl ⟨same2, _, _, _, _, _, rfl, m3, by lia, hnb2, by rw [uE, ui]; lia⟩))
   ·exact vb c4 (wpS_pure ⟨same2, _, _, _, _, _, rfl, m3, by lia, hnb2, by rw [uE, ui]; lia⟩)
 ·refine vb (by rw [decide_eq_false lt]; exact uF) (wpS_bind (qg (by lia) ?_))
  have m3 := mi2.b1 H.sb (by lia) fun z hz => by
   obtain ⟨j, j1, j2, rfl⟩ := Xq hz
   have := H.sa.at_ (i := j) (j := na2 - 1) (by lia) (by lia)
   lia
  rw [kB]
  by_cases c3 : nb2 - 1 = 1
  ·refine Zc (by simpa using c3) (wpS_pure (.inr ⟨same2, _, ?_, m3.first H.sa H.sb H.hz c3⟩))
   rw [ju]
  ·refine vb (by simpa using c3) ?_
   by_cases c4 : bc + 1 ≥ mg
   ·exact Zc c4 (wpS_pure (.inl ⟨same2, _, _, _, _, _, rfl, m3, hna2, by lia, by rw [uE, ui]; lia⟩))
   ·exact vb c4 (wpS_pure ⟨same2, _, _, _, _, _, rfl, m3, hna2, by lia, by rw [uE, ui]; lia⟩)
theorem waG {Q : Array Keyed -> SortSt -> Prop} (H : HiH prog w A E s f r n κ pa pb) (hk : kindOf st = κ) (ha : 0 < pa.length) (hb : 0 < pb.length) (h0 : r (pb.getD (pb.length - 1) 0) <= r (pa.getD (pa.length - 1) 0))
  (h : ∀ po st', po.Perm (pa ++ pb) -> SrtL r po -> SameS st st' -> Q (ar f po) st') : wpS (model prog w) A E s (Yab (ar f pa) (ar f pb)) Q st := by
 have m0 : MH r pa pb pa.length pb.length [] := ⟨by simp, List.Pairwise.nil, fun x hx => (nomatch hx), fun x hx => (nomatch hx), uI _, uI _⟩
 have m1 : MH r pa pb (pa.length - 1) pb.length [pa.getD (pa.length - 1) 0] := m0.a1 H.sa ha fun y hy => by
  obtain ⟨j, j1, j2, rfl⟩ := Xq hy
  have := H.sb.at_ (i := j) (j := pb.length - 1) (by lia) (by lia)
  lia
 rw [YaE]
 refine wpS_bind (wpS_lift (wpAny_rule ⟨rfl, ?_⟩))
 rw [Xf, Xf]
 refine wpS_bind (qg (by lia) ?_)
 have e1 : #[f (pa.getD (pa.length - 1) 0)] = ar f [pa.getD (pa.length - 1) 0] := rfl
 rw [e1]
 by_cases c1 : pa.length - 1 = 0
 ·refine Zc (by simpa using c1) (wpS_pure ?_)
  dsimp only
  rw [ju]
  have := m1.full H.sa H.sb (.inl c1)
  exact h _ _ this.1 this.2 (SameS.refl _)
 refine vb (by simpa using c1) ?_
 by_cases c2 : pb.length = 1
 ·refine Zc (by simpa using c2) (wpS_pure ?_)
  dsimp only
  rw [ju (pa := pb) (pb := pa)]
  have := m1.first H.sa H.sb H.hz c2
  exact h _ _ this.1 this.2 (SameS.refl _)
 refine vb (by simpa using c2) ?_
 refine wpS_bind (wpS_get ?_)
 refine wpS_bind (wpS_mono (wpS_forRange (I := HiI st f r pa pb)
  (Q := fun c st' => LoF st f r pa pb c.1 st') ?step ?fin ?init) ?post)
 case init => exact ⟨SameS.refl _, _, _, _, _, rfl, m1, by lia, by lia, by simp⟩
 case fin =>
  intro c st' hh
  refine waQ hh fun same po na nb mg zz mi hna hnb hpo => ?_
  subst zz
  have := mi.len
  have := mi.ha
  have := mi.hb
  lia
 case post =>
  rintro c st' ⟨same, po, hc, pm, sr⟩
  obtain ⟨c1, c2⟩ := c
  dsimp only at hc
  subst hc
  exact wpS_pure (h po st' pm sr same)
 case step =>
  intro x c st' _ hx hh
  refine waQ hh fun same po na nb mg zz mi hna hnb hpo => ?_
  subst zz
  refine wpS_bind (wpS_mono (wpS_forRange (I := Zbm st f r pa pb x) (Q := Ybr st f r pa pb x) ?step1 ?fin1 ?init1) ?post1)
  case init1 => exact ⟨same, po, na, nb, 0, 0, rfl, mi, hna, hnb, by lia⟩
  case fin1 =>
   intro d st2 hh
   refine Zam hh fun same2 po2 na2 nb2 ac bc zz mi2 hna2 hnb2 hpo2 => ?_
   subst zz
   have := mi2.len
   have := mi2.ha
   have := mi2.hb
   lia
  case step1 =>
   intro y d st2 _ hy hh
   refine Zam hh fun same2 po2 na2 nb2 ac bc zz mi2 hna2 hnb2 hpo2 => ?_
   subst zz
   exact wpS_mono (qaS H hk same2 mi2 hna2 hnb2 hpo2) fun a st4 ha => by cases a <;> exact ha
  case post1 =>
   rintro d st2 (hh | ⟨same2, po2, hd, pm, sr⟩)
   ·refine Zam hh fun same2 po2 na2 nb2 ac bc zz mi2 hna2 hnb2 hpo2 => ?_
    subst zz
    refine wpS_bind (wpS_lift (wpAny_rule ⟨rfl, ?_⟩))
    refine wpS_bind (wpS_mono (wpS_forRange (I := fun y d st2 => HiP st f r pa pb (x + 2) d st2) (Q := fun d st2 => HiP st f r pa pb (x + 2) d st2 \/ LoF st f r pa pb d.1 st2) ?step2 ?fin2 ?init2) ?post2)
    case init2 => exact ⟨same2, po2, na2, nb2, _, ac, bc, rfl, mi2, hna2, hnb2, hpo2⟩
    case fin2 => exact fun d st3 h3 => .inl h3
    case step2 =>
     intro y d st3 _ hy hh
     refine vaP hh fun same3 po3 na3 nb3 g3 ac3 bc3 zz mi3 hna3 hnb3 hpo3 => ?_
     subst zz
     show wpS _ _ _ _ (if g3 > 1 then Yaw (ar f pa) (ar f pb) (ar f po3) na3 nb3 (g3 - 1) ac3 bc3 else Yaw (ar f pa) (ar f pb) (ar f po3) na3 nb3 g3 ac3 bc3) _ _
     by_cases c : g3 > 1
     ·exact Zc c (wpS_mono (jap H same3 (same3.kind.trans hk) mi3 hna3 hnb3 hpo3) fun a st4 ha => by cases a <;> exact ha)
     ·exact vb c (wpS_mono (jap H same3 (same3.kind.trans hk) mi3 hna3 hnb3 hpo3) fun a st4 ha => by cases a <;> exact ha)
    case post2 =>
     rintro d st3 (hh | ⟨same3, po3, hd, pm, sr⟩)
     ·refine vaP hh fun same3 po3 na3 nb3 g3 ac3 bc3 zz mi3 hna3 hnb3 hpo3 => ?_
      subst zz
      refine wpS_bind ?_
      rw [ku]
      exact wpS_modify (wpS_pure ⟨same3.g _, po3, na3, nb3, _, rfl, mi3, hna3, hnb3, by lia⟩)
     ·obtain ⟨d1, d2⟩ := d
      dsimp only at hd
      subst hd
      exact wpS_pure ⟨same3, po3, rfl, pm, sr⟩
   ·obtain ⟨d1, d2⟩ := d
    dsimp only at hd
    subst hd
    exact wpS_pure ⟨same2, po2, rfl, pm, sr⟩
end
section
variable {prog : Program} {w : World} {A : Around} {E : ZVP} {s : Shared} {f : Nat -> Keyed} {r : Nat -> Int} {n : Nat} {κ : SortKind}
noncomputable abbrev kv (r : Nat -> Int) (p : List Nat) (k : Nat) : Int := r (p.getD k 0)
theorem Wac {a : Array Nat} {k : Nat} : a.toList.getD k 0 = (a[k]?).getD 0 := by
 rw [ua, xQ]
theorem ja8 {p : List Nat} {a : Array Keyed} {b : Array Nat} (hs : a.size = b.size) (h : ∀ k, k < a.size -> a[k]? = (b[k]?).map f) : a = ar f b.toList := by
 apply Array.ext_getElem?
 intro k
 by_cases c : k < a.size
 ·rw [h k c]; simp [ar]
 ·rw [u6 (by lia), u6 (by rw [Xf, uR]; lia)]
theorem ar_get? (p : List Nat) (k : Nat) : (ar f p)[k]? = (p.toArray[k]?).map f := by simp [ar]
theorem WaX {p : List Nat} {i j : Nat} (hj : j <= p.length) : ∃ p', mirror (ar f p) i j ((j - i) / 2) = ar f p' /\ p'.Perm p /\ ∀ k, p'.getD k 0 = if i <= k /\ k < j then p.getD (i + j - 1 - k) 0 else p.getD k 0 := by
 refine ⟨(mirror p.toArray i j ((j - i) / 2)).toList, ja8 (p := p) (by rw [mirror_size, mirror_size, Xf]; simp) fun k _ => ?_, ?_, fun k => ?_⟩
 ·rw [getElem?_mirror_all (by rw [Xf]; exact hj), getElem?_mirror_all (by simpa using hj)]
  split <;> exact ar_get? _ _
 ·have := mirror_perm p.toArray i j ((j - i) / 2)
  simpa using yB.mp this
 ·rw [Wac, getElem?_mirror_all (by simpa using hj)]
  split <;> simp [ua]
theorem XaS {p : List Nat} {src d : Nat} (hs : src < p.length) (hd : d <= src) : ∃ p', bubble (ar f p) src d = ar f p' /\ p'.Perm p /\ ∀ k, p'.getD k 0 = if k = src - d then p.getD src 0 else if src - d < k /\ k <= src then p.getD (k - 1) 0 else p.getD k 0 := by
 refine ⟨(bubble p.toArray src d).toList, ja8 (p := p) (by rw [bubble_size, bubble_size, Xf]; simp) fun k _ => ?_, ?_, fun k => ?_⟩
 ·rw [getElem?_bubble (by rw [Xf]; exact hs) d hd, getElem?_bubble (by simpa using hs) d hd]
  split
  ·exact ar_get? _ _
  ·split <;> exact ar_get? _ _
 ·have := bubble_perm p.toArray src d
  simpa using yB.mp this
 ·rw [Wac, getElem?_bubble (by simpa using hs) d hd]
  split
  ·simp [ua]
  ·split <;> simp [ua]
structure RunS (f : Nat -> Keyed) (st : SortSt) (lo : Nat) (p : List Nat) (st' : SortSt) (p' : List Nat) : Prop where
 kind : kindOf st' = kindOf st
 pend : pendingOf st' = pendingOf st
 fail : failedOf st' = failedOf st
 arr : arrOf st' = ar f p'
 perm : p'.Perm p
 pre : ∀ k, k < lo -> p'.getD k 0 = p.getD k 0
theorem RunS.len {st st' : SortSt} {lo : Nat} {p p' : List Nat} (h : RunS f st lo p st' p') : p'.length = p.length := h.perm.length_eq
theorem RunS.set {st st' : SortSt} {lo : Nat} {p p' p2 : List Nat} (h : RunS f st lo p st' p') (pm : p2.Perm p') (pr : ∀ k, k < lo -> p2.getD k 0 = p'.getD k 0) : RunS f st lo p (setArr st' (ar f p2)) p2 :=
 ⟨h.kind, h.pend, h.fail, rfl, pm.trans h.perm, fun k hk => (pr k hk).trans (h.pre k hk)⟩
theorem WS {p : List Nat} {i j : Nat} {st : SortSt} {Q : Option Bool -> SortSt -> Prop} (L : XF prog w A E s f r n κ) (hk : kindOf st = κ) (ha : arrOf st = ar f p) (hp : ∀ x ∈ p, x < n) (hi : i < p.length) (hj : j < p.length) (q : Q (some (decide (kv r p i < kv r p j))) st) :
  wpS (model prog w) A E s (ltAt' i j) Q st := by
 rw [ltAt'_eq]
 refine wpS_bind (wpS_get ?_)
 dsimp only
 rw [ha]
 exact wpS_bind (qg hi (wpS_bind (qg hj (L _ _ (hp _ (Wl hi)) (hp _ (Wl hj)) st Q hk q))))
theorem Y5 {p : List Nat} {i j : Nat} {st : SortSt} {Q : Unit -> SortSt -> Prop} (ha : arrOf st = ar f p) (hj : j <= p.length)
  (q : ∀ p', p'.Perm p -> (∀ k, p'.getD k 0 = if i <= k /\ k < j then p.getD (i + j - 1 - k) 0 else p.getD k 0) -> Q () (setArr st (ar f p'))) : wpS (model prog w) A E s (reverseSlice' i j) Q st := by
 rw [reverseSlice'_eq]
 refine wpS_modify ?_
 rw [ha]
 obtain ⟨p', e, pm, g⟩ := WaX (f := f) (i := i) hj
 rw [e]
 exact q p' pm g
def Sg (r : Nat -> Int) (p : List Nat) (lo m : Nat) : Prop := ∀ i j, i <= j -> j < m -> kv r p (lo + i) <= kv r p (lo + j)
def Fl (r : Nat -> Int) (p : List Nat) (lo m : Nat) : Prop := ∀ i j, i <= j -> j < m -> kv r p (lo + j) <= kv r p (lo + i)
def Lv (r : Nat -> Int) (p : List Nat) (lo a b : Nat) : Prop := ∀ k, a <= k -> k < b -> kv r p (lo + k) = kv r p (lo + b - 1)
theorem ZaF {p p' : List Nat} {lo a b i j : Nat} (h : Lv r p lo a b) (hi : i = lo + a) (hj : j = lo + b) (g : ∀ k, p'.getD k 0 = if i <= k /\ k < j then p.getD (i + j - 1 - k) 0 else p.getD k 0) (k : Nat) : kv r p' k = kv r p k := by
 subst hi hj
 unfold kv
 rw [g k]
 by_cases c : lo + a <= k /\ k < lo + b
 ·rw [if_pos c]
  have h1 := h (a + b - 1 - (k - lo)) (by lia) (by lia)
  have h2 := h (k - lo) (by lia) (by lia)
  unfold kv at h1 h2
  rw [show lo + a + (lo + b) - 1 - k = lo + (a + b - 1 - (k - lo)) by lia, h1, ← h2, show lo + (k - lo) = k by lia]
 ·rw [if_neg c]
theorem ZaM {p : List Nat} {lo nrem m : Nat} {st' : SortSt} {Q : Option (Option Nat) × Nat -> SortSt -> Prop} (L : XF prog w A E s f r n κ) (hk : kindOf st' = κ) (ha : arrOf st' = ar f p) (hp : ∀ x ∈ p, x < n) (hl : lo + nrem <= p.length) (h1 : 1 <= m) (hm : m <= nrem) (hs : Sg r p lo m)
  (h : ∀ m', m <= m' -> m' <= nrem -> Sg r p lo m' -> (m' < nrem -> kv r p (lo + m') < kv r p (lo + m' - 1)) -> Q (none, m') st') :
  wpS (model prog w) A E s (forIn [m:nrem] ((none, m) : Option (Option Nat) × Nat) fun _ c => do
   let some smaller ← ltAt' (lo + c.2) (lo + c.2 - 1) | pure (.done (some none, c.2))
   if smaller then pure (.done (none, c.2)) else pure (.yield (none, c.2 + 1))) Q st' := by
 refine wpS_mono (wpS_forRange (I := fun x c st2 => st2 = st' /\ c = (none, x) /\ m <= x /\ Sg r p lo x) (Q := fun c st2 => st2 = st' /\ ∃ m', c = (none, m') /\ m <= m' /\ m' <= nrem /\ Sg r p lo m' /\ (m' < nrem -> kv r p (lo + m') < kv r p (lo + m' - 1))) ?step ?fin ⟨rfl, rfl, uI _, hs⟩) ?post
 case fin =>
  rintro c st2 ⟨rfl, rfl, z1, z2⟩
  rw [Nat.max_eq_right hm] at *
  exact ⟨rfl, nrem, rfl, z1, uI _, z2, fun z => absurd z (uq _)⟩
 case post =>
  rintro c st2 ⟨rfl, m', rfl, z1, z2, z3, z4⟩
  exact h m' z1 z2 z3 z4
 case step =>
  rintro x c st2 _ hx ⟨rfl, rfl, z1, z2⟩
  refine wpS_bind (WS L hk ha hp (by show lo + x < _; lia) (by show lo + x - 1 < _; lia) ?_)
  dsimp only
  by_cases lt : kv r p (lo + x) < kv r p (lo + x - 1)
  ·exact Zc (decide_eq_true lt) (wpS_pure ⟨rfl, x, rfl, z1, by lia, z2, fun _ => lt⟩)
  ·refine vb (by rw [decide_eq_false lt]; exact uF) (wpS_pure ⟨rfl, rfl, by lia, fun i j hij hj => ?_⟩)
   by_cases c : j = x
   ·by_cases c2 : i = x
    ·rw [c, c2]; exact ul _
    ·have := z2 i (x - 1) (by lia) (by lia)
     rw [show lo + (x - 1) = lo + x - 1 by lia] at this
     rw [c]; lia
   ·exact z2 i j hij (by lia)
noncomputable def X3 (lo m nrem : Nat) : StateT SortSt Sem (Option Nat) := do
 reverseSlice' lo (lo + m)
 let c ← forIn [m:nrem] ((none, m) : Option (Option Nat) × Nat) fun _ c => do
   let some smaller ← ltAt' (lo + c.2) (lo + c.2 - 1) | pure (.done (some none, c.2))
   if smaller then pure (.done (none, c.2)) else pure (.yield (none, c.2 + 1))
 match c.1 with
 | some r => pure r
 | none => pure (some c.2)
noncomputable def Wa8 (lo : Nat) (c : Option (Option Nat) × Nat × Nat) : StateT SortSt Sem (ForInStep (Option (Option Nat) × Nat × Nat)) := do
 let some smaller ← ltAt' (lo + c.2.1) (lo + c.2.1 - 1) | pure (.done (some none, c.2.1, c.2.2))
 if smaller then
  if c.2.2 > 0 then
   reverseSlice' (lo + c.2.1 - (c.2.2 + 1)) (lo + c.2.1)
   pure (.yield (none, c.2.1 + 1, 0))
  else pure (.yield (none, c.2.1 + 1, 0))
 else
  let some larger ← ltAt' (lo + c.2.1 - 1) (lo + c.2.1) | pure (.done (some none, c.2.1, c.2.2))
  if larger then pure (.done (none, c.2.1, c.2.2)) else pure (.yield (none, c.2.1 + 1, c.2.2 + 1))
noncomputable def Z5 (lo m nrem : Nat) : StateT SortSt Sem (Option Nat) := do
 rule "list.sort.descending-run"
 let c ← forIn [m + 1:nrem] ((none, m + 1, 0) : Option (Option Nat) × Nat × Nat) fun _ c => Wa8 lo c
 match c.1 with
 | some r => pure r
 | none =>
  if c.2.2 > 0 then
   reverseSlice' (lo + c.2.1 - (c.2.2 + 1)) (lo + c.2.1)
   X3 lo c.2.1 nrem
  else X3 lo c.2.1 nrem
theorem Xao {α : Type} {x y : StateT SortSt Sem α} {st : SortSt} {Q : α -> SortSt -> Prop} (e : x = y) (h : wpS (model prog w) A E s y Q st) : wpS (model prog w) A E s x Q st := by rw [e]; exact h
section
variable {p : List Nat} {lo nrem : Nat} {st st' : SortSt} {p' : List Nat}
theorem Yaq {Q : Option Nat -> SortSt -> Prop} (L : XF prog w A E s f r n κ) (hk : kindOf st = κ) (hp : ∀ x ∈ p, x < n) (hl : lo + nrem <= p.length) (R : RunS f st lo p st' p') {m : Nat} (h1 : 1 <= m) (hm : m <= nrem) (hf : Fl r p' lo m)
  (h : ∀ m p' st', RunS f st lo p st' p' -> 1 <= m -> m <= nrem -> Sg r p' lo m -> Q (some m) st') : wpS (model prog w) A E s (X3 lo m nrem) Q st' := by
 unfold X3
 have ln := R.len
 refine wpS_bind (Y5 R.arr (by lia) fun p2 pm g => ?_)
 have R2 := R.set pm fun k hk => by rw [g k, if_neg (by lia)]
 have ln2 := R2.len
 refine wpS_bind (ZaM L (R2.kind.trans hk) R2.arr (fun x hx => hp x (R2.perm.mem_iff.mp hx)) (by lia) h1 hm (fun i j hij hj => ?_) fun m' m1 m2 sg _ => ?_)
 ·unfold kv
  rw [g, g, if_pos (by lia), if_pos (by lia)]
  have := hf (m - 1 - j) (m - 1 - i) (by lia) (by lia)
  unfold kv at this
  rw [show lo + (lo + m) - 1 - (lo + i) = lo + (m - 1 - i) by lia, show lo + (lo + m) - 1 - (lo + j) = lo + (m - 1 - j) by lia]
  exact this
 ·exact wpS_pure (h m' p2 _ R2 (by lia) m2 sg)
theorem wao {Q : Option Nat -> SortSt -> Prop} (L : XF prog w A E s f r n κ) (hk : kindOf st = κ) (hp : ∀ x ∈ p, x < n) (hl : lo + nrem <= p.length) (R : RunS f st lo p st' p') {m : Nat} (h1 : 1 <= m) (hm : m < nrem) (hf : Fl r p' lo (m + 1))
  (h : ∀ m p' st', RunS f st lo p st' p' -> 1 <= m -> m <= nrem -> Sg r p' lo m -> Q (some m) st') : wpS (model prog w) A E s (Z5 lo m nrem) Q st' := by
 unfold Z5
 refine wpS_bind (wpS_lift (wpAny_rule ⟨rfl, ?_⟩))
 refine wpS_bind (wpS_mono (wpS_forRange (I := fun x c st2 => ∃ p2 q, c = (none, x, q) /\ RunS f st lo p st2 p2 /\ q + 1 <= x /\ Fl r p2 lo x /\ Lv r p2 lo (x - (q + 1)) x)
  (Q := fun c st2 => ∃ p2 x q, c = (none, x, q) /\ RunS f st lo p st2 p2 /\ q + 1 <= x /\ x <= nrem /\ Fl r p2 lo x /\ Lv r p2 lo (x - (q + 1)) x) ?step ?fin ⟨p', 0, rfl, R, by lia, hf, fun k z1 z2 => by rw [show lo + k = lo + (m + 1) - 1 by lia]⟩) ?post)
 case fin =>
  rintro c st2 ⟨p2, q, rfl, z1, z2, z3, z4⟩
  rw [Nat.max_eq_right (by lia)] at *
  exact ⟨p2, _, q, rfl, z1, z2, uI _, z3, z4⟩
 case post =>
  rintro c st2 ⟨p2, x, q, rfl, z1, z2, z3, z4, z5⟩
  dsimp only
  have ln := z1.len
  by_cases c : q > 0
  ·refine Zc c (wpS_bind (Y5 z1.arr (by lia) fun p3 pm g => ?_))
   have ev := ZaF (r := r) z5 (by lia) rfl g
   refine Yaq L hk hp hl (z1.set pm fun k hk => by rw [g k, if_neg (by lia)]) (by lia) z3 (fun i j hij hj => ?_) h
   rw [ev, ev]; exact z4 i j hij hj
  ·exact vb c (Yaq L hk hp hl z1 (by lia) z3 z4 h)
 case step =>
  rintro x c st2 hx1 hx ⟨p2, q, rfl, z1, z2, z3, z4⟩
  have ln := z1.len
  have hp2 : ∀ y ∈ p2, y < n := fun y hy => hp y (z1.perm.mem_iff.mp hy)
  unfold Wa8
  dsimp only
  refine wpS_bind (WS L (z1.kind.trans hk) z1.arr hp2 (by lia) (by lia) ?_)
  dsimp only
  have fl1 : kv r p2 (lo + x) <= kv r p2 (lo + x - 1) -> Fl r p2 lo (x + 1) := fun le i j hij hj => by
   by_cases c : j = x
   ·by_cases c2 : i = x
    ·rw [c, c2]; exact ul _
    ·have := z3 i (x - 1) (by lia) (by lia)
     rw [show lo + (x - 1) = lo + x - 1 by lia] at this
     rw [c]; lia
   ·exact z3 i j hij (by lia)
  have lv1 : ∀ p3, Lv r p3 lo (x + 1 - (0 + 1)) (x + 1) := fun p3 k y1 y2 => by rw [show lo + k = lo + (x + 1) - 1 by lia]
  by_cases lt : kv r p2 (lo + x) < kv r p2 (lo + x - 1)
  ·refine Zc (decide_eq_true lt) ?_
   by_cases c : q > 0
   ·refine Zc c (wpS_bind (Y5 z1.arr (by lia) fun p3 pm g => ?_))
    have ev := ZaF (r := r) z4 (by lia) rfl g
    refine wpS_pure ⟨p3, 0, rfl, z1.set pm fun k hk => by rw [g k, if_neg (by lia)], by lia, fun i j hij hj => ?_, lv1 p3⟩
    rw [ev, ev]; exact fl1 (by lia) i j hij hj
   ·exact vb c (wpS_pure ⟨p2, 0, rfl, z1, by lia, fl1 (by lia), lv1 p2⟩)
  ·refine vb (by rw [decide_eq_false lt]; exact uF) ?_
   refine wpS_bind (WS L (z1.kind.trans hk) z1.arr hp2 (by lia) (by lia) ?_)
   dsimp only
   by_cases gt : kv r p2 (lo + x - 1) < kv r p2 (lo + x)
   ·exact Zc (decide_eq_true gt) (wpS_pure ⟨p2, x, q, rfl, z1, z2, by lia, z3, z4⟩)
   ·refine vb (by rw [decide_eq_false gt]; exact uF) (wpS_pure ⟨p2, q + 1, rfl, z1, by lia, fl1 (by lia), fun k y1 y2 => ?_⟩)
    rw [show lo + (x + 1) - 1 = lo + x by lia]
    by_cases y : k = x
    ·rw [y]
    ·have := z4 k (by lia) (by lia)
     lia
theorem kaN {Q : Option Nat -> SortSt -> Prop} (L : XF prog w A E s f r n κ) (hk : kindOf st = κ) (ha : arrOf st = ar f p) (hp : ∀ x ∈ p, x < n) (hl : lo + nrem <= p.length) (h1 : 1 <= nrem)
  (h : ∀ m p' st', RunS f st lo p st' p' -> 1 <= m -> m <= nrem -> Sg r p' lo m -> Q (some m) st') : wpS (model prog w) A E s (countRun' lo nrem) Q st := by
 have R0 : RunS f st lo p st p := ⟨rfl, rfl, rfl, ha, List.Perm.refl _, fun _ _ => rfl⟩
 rw [countRun'_eq]
 refine wpS_bind (ZaM (m := 1) L hk ha hp hl (uI _) h1 (fun i j hij hj => by rw [show i = j by lia]; exact ul _) fun m m1 m2 sg lt => ?_)
 dsimp only
 by_cases c : m = nrem
 ·exact Zc (by simpa using c) (wpS_pure (h m p st R0 m1 m2 sg))
 refine vb (by simpa using c) ?_
 have lt := lt (by lia)
 by_cases c1 : m > 1
 ·refine Zc c1 ?_
  refine wpS_bind (WS L hk ha hp (by lia) (by lia) ?_)
  dsimp only
  by_cases ro : kv r p lo < kv r p (lo + m - 1)
  ·exact Zc (decide_eq_true ro) (wpS_pure (h m p st R0 m1 m2 sg))
  ·refine vb (by rw [decide_eq_false ro]; exact uF) ?_
   have lv : Lv r p lo 0 m := fun k y1 y2 => by
    have a1 := sg 0 k (by lia) y2
    have a2 := sg k (m - 1) (by lia) (by lia)
    rw [show lo + (m - 1) = lo + m - 1 by lia] at a2
    rw [xb] at a1
    lia
   refine wpS_bind (Y5 ha (by lia) fun p2 pm g => ?_)
   have ev := ZaF (r := r) lv (by lia) rfl g
   refine Xao (y := Z5 lo m nrem) (by
    unfold Z5
    congr 1
    funext u
    congr 1
    funext c
    obtain ⟨c1, c2, c3⟩ := c
    cases c1 with
    | some r => rfl
    | none =>
     dsimp only
     unfold X3
     split
     ·congr 1; funext v; congr 1; funext v2; congr 1; funext c4; obtain ⟨a, b⟩ := c4; cases a <;> rfl
     ·congr 1; funext v2; congr 1; funext c4; obtain ⟨a, b⟩ := c4; cases a <;> rfl) (wao L hk hp hl (R0.set pm fun k hk => by rw [g k, if_neg (by lia)]) m1 (by lia) (fun i j hij hj => ?_) h)
   rw [ev, ev]
   by_cases y : j = m
   ·by_cases y2 : i = m
    ·rw [y, y2]; exact ul _
    ·have := lv i (by lia) (by lia)
     rw [y]; lia
   ·have a1 := lv i (by lia) (by lia)
    have a2 := lv j (by lia) (by lia)
    lia
 ·refine vb c1 ?_
  refine Xao (y := Z5 lo m nrem) (by
    unfold Z5
    congr 1
    funext u
    congr 1
    funext c
    obtain ⟨c1, c2, c3⟩ := c
    cases c1 with
    | some r => rfl
    | none =>
     dsimp only
     unfold X3
     split
     ·congr 1; funext v; congr 1; funext v2; congr 1; funext c4; obtain ⟨a, b⟩ := c4; cases a <;> rfl
     ·congr 1; funext v2; congr 1; funext c4; obtain ⟨a, b⟩ := c4; cases a <;> rfl) (wao L hk hp hl R0 m1 (by lia) (fun i j hij hj => ?_) h)
  by_cases y : i = j
  ·rw [y]; exact ul _
  ·rw [show i = 0 by lia, show j = m by lia, xb]
   rw [show lo + m - 1 = lo by lia] at lt
   exact xN lt
end
end
section
variable {prog : Program} {w : World} {A : Around} {E : ZVP} {s : Shared} {f : Nat -> Keyed} {r : Nat -> Int} {n : Nat} {κ : SortKind}
variable {p : List Nat} {lo : Nat} {st st' : SortSt} {p' : List Nat}
theorem ka1 {Q : Bool -> SortSt -> Prop} {m ok : Nat} (L : XF prog w A E s f r n κ) (hk : kindOf st = κ) (hp : ∀ x ∈ p, x < n) (hl : lo + m <= p.length) (R : RunS f st lo p st' p') (h1 : 1 <= m) (hm : ok <= m) (hs : Sg r p' lo ok)
  (h : ∀ p' st', RunS f st lo p st' p' -> Sg r p' lo m -> Q true st') : wpS (model prog w) A E s (binarySort' lo m ok) Q st' := by
 rw [binarySort'_eq]
 refine wpS_bind (wpS_mono (wpS_forRange (I := fun k c st2 => c = (none, ()) /\ ∃ p2, RunS f st lo p st2 p2 /\ Sg r p2 lo k) (Q := fun c st2 => c = (none, ()) /\ ∃ p2, RunS f st lo p st2 p2 /\ Sg r p2 lo m) ?step ?fin ⟨rfl, p', R, fun i j hij hj => ?init⟩) ?post)
 case init =>
  by_cases c : j < ok
  ·exact hs i j hij c
  ·rw [show i = j by lia]; exact ul _
 case fin =>
  rintro c st2 ⟨rfl, p2, R2, sg⟩
  rw [show max (max ok 1) m = m by lia] at sg
  exact ⟨rfl, p2, R2, sg⟩
 case post =>
  rintro c st2 ⟨rfl, p2, R2, sg⟩
  exact wpS_pure (h p2 st2 R2 sg)
 case step =>
  rintro k c st2 hk1 hk2 ⟨rfl, p2, R2, sg⟩
  have ln := R2.len
  have hp2 : ∀ y ∈ p2, y < n := fun y hy => hp y (R2.perm.mem_iff.mp hy)
  refine wpS_bind (wpS_mono (wpS_forRange (I := fun x c st3 => st3 = st2 /\ ∃ l u, c = (none, l, u) /\ l <= u /\ u <= k /\ (∀ i, i < l -> kv r p2 (lo + i) <= kv r p2 (lo + k)) /\ (∀ i, u <= i -> i < k -> kv r p2 (lo + k) < kv r p2 (lo + i)) /\ (u - l) + x <= k)
   (Q := fun c st3 => st3 = st2 /\ ∃ l u, c = (none, l, u) /\ l = u /\ u <= k /\ (∀ i, i < l -> kv r p2 (lo + i) <= kv r p2 (lo + k)) /\ (∀ i, u <= i -> i < k -> kv r p2 (lo + k) < kv r p2 (lo + i))) ?step2 ?fin2 ⟨rfl, 0, k, rfl, by lia, by lia, fun i z => absurd z (by lia), fun i z1 z2 => absurd z1 (by lia), by lia⟩) ?post2)
  case fin2 =>
   rintro c st3 ⟨rfl, l, u, rfl, z1, z2, z3, z4, z5⟩
   exact ⟨rfl, l, u, rfl, by lia, z2, z3, z4⟩
  case step2 =>
   rintro x c st3 _ hx ⟨rfl, l, u, rfl, z1, z2, z3, z4, z5⟩
   dsimp only
   by_cases c : l ≥ u
   ·exact Zc c (wpS_pure ⟨rfl, l, u, rfl, by lia, z2, z3, z4⟩)
   ·refine vb c (wpS_bind (WS L (R2.kind.trans hk) R2.arr hp2 (by lia) (by lia) ?_))
    dsimp only
    by_cases lt : kv r p2 (lo + k) < kv r p2 (lo + (l + u) / 2)
    ·refine Zc (decide_eq_true lt) (wpS_pure ⟨rfl, l, _, rfl, by lia, by lia, z3, fun i y1 y2 => ?_, by lia⟩)
     have := sg ((l + u) / 2) i y1 y2
     lia
    ·refine vb (by rw [decide_eq_false lt]; exact uF) (wpS_pure ⟨rfl, _, u, rfl, by lia, z2, fun i y => ?_, z4, by lia⟩)
     have := sg i ((l + u) / 2) (by lia) (by lia)
     lia
  case post2 =>
   rintro c st3 ⟨rfl, l, u, rfl, z1, z2, z3, z4⟩
   subst z1
   dsimp only
   rw [moveDown'_eq]
   refine wpS_bind (wpS_modify (wpS_pure ⟨rfl, ?_⟩))
   rw [R2.arr, show lo + k - (lo + l) = k - l by lia]
   obtain ⟨p3, e, pm, g⟩ := XaS (f := f) (p := p2) (src := lo + k) (d := k - l) (by lia) (by lia)
   rw [e]
   rw [show lo + k - (k - l) = lo + l by lia] at g
   refine ⟨p3, R2.set pm fun j hj => by rw [g j, if_neg (by lia), if_neg (by lia)], fun i j hij hj => ?_⟩
   have vl : ∀ i, i < l -> kv r p3 (lo + i) = kv r p2 (lo + i) := fun i hi => by
    unfold kv; rw [g, if_neg (by lia), if_neg (by lia)]
   have vm : kv r p3 (lo + l) = kv r p2 (lo + k) := by
    unfold kv; rw [g, if_pos rfl]
   have vg : ∀ i, l < i -> i <= k -> kv r p3 (lo + i) = kv r p2 (lo + (i - 1)) := fun i hi hi2 => by
    unfold kv; rw [g, if_neg (by lia), if_pos (by lia), show lo + i - 1 = lo + (i - 1) by lia]
   by_cases ci : i < l
   ·rw [vl i ci]
    by_cases cj : j < l
    ·rw [vl j cj]; exact sg i j hij (by lia)
    ·by_cases cj2 : j = l
     ·rw [cj2, vm]; exact z3 i ci
     ·rw [vg j (by lia) (by lia)]; exact sg i (j - 1) (by lia) (by lia)
   ·by_cases ci2 : i = l
    ·rw [ci2, vm]
     by_cases cj2 : j = l
     ·rw [cj2, vm]; exact ul _
     ·rw [vg j (by lia) (by lia)]; exact xN (z4 _ (by lia) (by lia))
    ·rw [vg i (by lia) (by lia), vg j (by lia) (by lia)]
     exact sg _ _ (by lia) (by lia)
end
theorem XaH (i : Nat) : mergeAt' i = (do
 let s ← get
 let (some (sa, na, power), some (sb, nb, _)) := ((pendingOf s)[i]?, (pendingOf s)[i + 1]?) | unsupported "internal:list.sort.pending"
 set (setPending s (((pendingOf s).setIfInBounds i (sa, na + nb, power)).eraseIdxIfInBounds (i + 1)))
 let some k ← ko false (← elem' (arrOf s) sb) (arrOf s) sa na 0 | return false
 let (sa, na) := (sa + k, na - k)
 if na == 0 then return true
 let some nb ← ko true (← elem' (arrOf s) (sa + na - 1)) (arrOf s) sb nb (nb - 1) | return false
 if nb == 0 then return true
 let x := (arrOf s).extract sa sb
 let y := (arrOf s).extract sb (sb + nb)
 let merged ← if na <= nb then qaa x y else Yab x y
 modify fun s => setArr s (merged.toList.zipIdx.foldl (fun a (p, j) => a.setIfInBounds (sa + j) p) (arrOf s))
 return (failedOf (← get)).isNone) := rfl
section
variable {prog : Program} {w : World} {A : Around} {E : ZVP} {s : Shared} {f : Nat -> Keyed} {r : Nat -> Int} {n : Nat} {κ : SortKind} {p : List Nat} {st : SortSt}
noncomputable abbrev sgl (p : List Nat) (lo m : Nat) : List Nat := (p.drop lo).take m
theorem YG {lo m : Nat} (h : lo + m <= p.length) : (sgl p lo m).length = m := by simp; lia
theorem wx {lo m i : Nat} (h : lo + m <= p.length) (hi : i < m) : (sgl p lo m).getD i 0 = p.getD (lo + i) 0 := by
 simp [yH, hi]
theorem WL {lo m : Nat} (h : lo + m <= p.length) : Sg r p lo m ↔ SrtL r (sgl p lo m) := by
 constructor
 ·intro sg
  refine xR.mpr fun i j hi hj hij => ?_
  rw [YG h] at hi hj
  have := sg i j (by lia) hj
  unfold kv at this
  rw [← wx h hi, ← wx h hj] at this
  simpa [hi, hj, YG h] using this
 ·intro sr i j hij hj
  unfold kv
  rw [← wx h (by lia : i < m), ← wx h hj]
  exact sr.at_ hij (by rw [YG h]; exact hj)
theorem qaW {lo a b : Nat} : sgl p lo (a + b) = sgl p lo a ++ sgl p (lo + a) b := by
 unfold sgl
 rw [List.take_add, List.drop_drop]
theorem qR {lo m x : Nat} (h : lo + m <= p.length) (hx : x ∈ sgl p lo m) : ∃ i, i < m /\ x = p.getD (lo + i) 0 := by
 obtain ⟨i, hi, e⟩ := xh.mp hx
 rw [YG h] at hi
 refine ⟨i, hi, ?_⟩
 rw [← wx h hi, ← e]
 simp [hi, YG h]
theorem jaE (q : List Nat) : ∀ (po p : List Nat) (a j : Nat), a + j + po.length <= p.length →
  ((po.map f).zipIdx j).foldl (fun (x : Array Keyed) (y : Keyed × Nat) => x.setIfInBounds (a + y.2) y.1) (ar f p) = ar f (p.take (a + j) ++ po ++ p.drop (a + j + po.length))
 | [], p, a, j, _ => by simp
 | x :: po, p, a, j, h => by
  rw [uf, List.zipIdx_cons, List.foldl_cons]
  have e : (ar f p).setIfInBounds (a + j) (f x) = ar f (p.set (a + j) x) := by
   unfold ar
   rw [List.setIfInBounds_toArray, List.map_set]
  rw [ub] at h
  dsimp only
  rw [e, jaE q po (p.set (a + j) x) a (j + 1) (by rw [List.length_set]; lia)]
  congr 1
  rw [ub, List.drop_set_of_lt (by lia), show a + (j + 1) = a + j + 1 by lia, List.take_set, show a + j + 1 + po.length = a + j + (po.length + 1) by lia]
  congr 1
  have h2 : a + j < p.length := by lia
  rw [show p.take (a + j + 1) = p.take (a + j) ++ [p[a + j]] by rw [List.take_append_getElem h2]]
  rw [List.set_append_right _ _ (by rw [ud]; lia)]
  have : a + j - (p.take (a + j)).length = 0 := by rw [ud]; lia
  rw [this]
  simp
end
section
variable {prog : Program} {w : World} {A : Around} {E : ZVP} {s : Shared} {f : Nat -> Keyed} {r : Nat -> Int} {n : Nat} {κ : SortKind} {p : List Nat} {st : SortSt}
theorem qba {st2 : SortSt} {Q : PUnit -> SortSt -> Prop} (h : Q ⟨⟩ st2) : wpS (model prog w) A E s (set st2 : StateT SortSt Sem PUnit) Q st := by
 unfold wpS; rw [StateT.run_set]; exact wpAny_pure ⟨rfl, h⟩
theorem kaG {i sa na pw nb pw2 : Nat} {Q : Bool -> SortSt -> Prop} (L : XF prog w A E s f r n κ) (hk : xL st = κ) (ha : arrOf st = ar f p) (hf : failedOf st = none) (hp : ∀ x ∈ p, x < n) (h1 : (pendingOf st)[i]? = some (sa, na, pw)) (h2 : (pendingOf st)[i + 1]? = some (sa + na, nb, pw2))
  (na0 : 0 < na) (nb0 : 0 < nb) (hl : sa + na + nb <= p.length) (s1 : Sg r p sa na) (s2 : Sg r p (sa + na) nb)
  (h : ∀ p' (st' : SortSt), xL st' = xL st -> failedOf st' = none -> pendingOf st' = ((pendingOf st).setIfInBounds i (sa, na + nb, pw)).eraseIdxIfInBounds (i + 1) -> arrOf st' = ar f p' -> p'.Perm p -> (∀ k, (k < sa \/ sa + na + nb <= k) -> p'.getD k 0 = p.getD k 0) -> Sg r p' sa (na + nb) -> Q true st') :
  wpS (model prog w) A E s (mergeAt' i) Q st := by
 rw [XaH]
 refine wpS_bind (wpS_get ?_)
 rw [h1, h2]
 dsimp only
 refine wpS_bind (qba ?_)
 rw [ha]
 generalize e1 : setPending st (((pendingOf st).setIfInBounds i (sa, na + nb, pw)).eraseIdxIfInBounds (i + 1)) = st1
 have k1 : xL st1 = xL st := by rw [← e1]
 have f1 : failedOf st1 = none := by rw [← e1]; exact hf
 have p1 : pendingOf st1 = ((pendingOf st).setIfInBounds i (sa, na + nb, pw)).eraseIdxIfInBounds (i + 1) := by rw [← e1]
 have a1 : arrOf st1 = ar f p := by rw [← e1]; exact ha
 refine wpS_bind (qg (by lia) ?_)
 refine wpS_bind (vab (left := false) L (k1.trans hk) hp (hp _ (Wl (by lia))) s1 (by lia) na0 fun k kk k2 k3 => ?_)
 have k2 : ∀ i, i < k -> kv r p (sa + i) <= kv r p (sa + na) := fun i hi => by have := k2 i hi; rw [if_neg uF] at this; exact this
 have k3 : ∀ i, k <= i -> i < na -> kv r p (sa + na) < kv r p (sa + i) := fun i hi hi2 => by have := k3 i hi hi2; rw [if_neg uF] at this; exact this
 dsimp only
 by_cases c1 : na - k = 0
 ·refine Zc (by simpa using c1) (wpS_pure (h p st1 k1 f1 p1 a1 (List.Perm.refl _) (fun _ _ => rfl) fun i j hij hj => ?_))
  by_cases cj : j < na
  ·exact s1 i j hij cj
  ·have b1 := s2 0 (j - na) (by lia) (by lia)
   rw [xb, show sa + na + (j - na) = sa + j by lia] at b1
   by_cases ci : i < na
   ·have := k2 i (by lia); lia
   ·have b2 := s2 (i - na) (j - na) (by lia) (by lia)
    rw [show sa + na + (j - na) = sa + j by lia, show sa + na + (i - na) = sa + i by lia] at b2
    exact b2
 refine vb (by simpa using c1) ?_
 refine wpS_bind (qg (by lia) ?_)
 have ek : sa + k + (na - k) - 1 = sa + (na - 1) := by lia
 rw [ek]
 refine wpS_bind (vab (left := true) L (k1.trans hk) hp (hp _ (Wl (by lia))) s2 (by lia) (by lia) fun m mm m2 m3 => ?_)
 have m2 : ∀ i, i < m -> kv r p (sa + na + i) < kv r p (sa + (na - 1)) := fun i hi => by have := m2 i hi; rw [if_pos rfl] at this; exact this
 have m3 : ∀ i, m <= i -> i < nb -> kv r p (sa + (na - 1)) <= kv r p (sa + na + i) := fun i hi hi2 => by have := m3 i hi hi2; rw [if_pos rfl] at this; exact this
 dsimp only
 by_cases c2 : m = 0
 ·have := m3 0 (by lia) nb0
  have := k3 (na - 1) (by lia) (by lia)
  rw [xb] at *
  lia
 refine vb (by simpa using c2) ?_
 rw [ZM, ZM, show sa + na - (sa + k) = na - k by lia, show sa + na + m - (sa + na) = m by lia]
 have lpa := YG (p := p) (lo := sa + k) (m := na - k) (by lia)
 have lpb := YG (p := p) (lo := sa + na) (m := m) (by lia)
 have srA : SrtL r (sgl p (sa + k) (na - k)) := (WL (by lia)).mp fun i j hij hj => by
  have := s1 (k + i) (k + j) (by lia) (by lia)
  rw [← xx, ← xx] at this
  exact this
 have srB : SrtL r (sgl p (sa + na) m) := (WL (by lia)).mp fun i j hij hj => s2 i j hij (by lia)
 have inA : ∀ x ∈ sgl p (sa + k) (na - k), ∃ i, k <= i /\ i < na /\ x = p.getD (sa + i) 0 := fun x hx => by
  obtain ⟨i, hi, e⟩ := qR (by lia) hx
  exact ⟨k + i, by lia, by lia, by rw [e, xx]⟩
 have inB : ∀ x ∈ sgl p (sa + na) m, ∃ i, i < m /\ x = p.getD (sa + na + i) 0 := fun x hx => qR (by lia) hx
 have fin : ∀ po st', po.Perm (sgl p (sa + k) (na - k) ++ sgl p (sa + na) m) -> SrtL r po -> SameS st1 st' -> wpS (model prog w) A E s (do
   modify fun s => setArr s ((ar f po).toList.zipIdx.foldl (fun a (p, j) => a.setIfInBounds (sa + k + j) p) (arrOf s))
   return (failedOf (← get)).isNone) Q st' := by
  intro po st' pm sr same
  have lpo : po.length = na - k + m := by
   have := pm.length_eq
   rw [uE, lpa, lpb] at this
   exact this
  refine wpS_bind (wpS_modify (wpS_bind (wpS_get ?_)))
  have pb := jaE (f := f) [] po p (sa + k) 0 (by lia)
  rw [xb] at pb
  have ep : (ar f po).toList.zipIdx = (po.map f).zipIdx 0 := rfl
  rw [same.arr, a1, ep, pb]
  have ef : (failedOf (setArr st' (ar f (p.take (sa + k) ++ po ++ p.drop (sa + k + po.length))))).isNone = true := by
   show (failedOf st').isNone = true
   rw [same.fail, f1]; rfl
  rw [ef]
  refine wpS_pure (h _ _ (same.kind.trans k1) (same.fail.trans f1) (same.pend.trans p1) rfl ?_ ?_ ?_)
  ·have e2 : p = p.take (sa + k) ++ (sgl p (sa + k) (na - k) ++ sgl p (sa + na) m) ++ p.drop (sa + k + po.length) := by
    have e3 : sgl p (sa + k) (na - k) ++ sgl p (sa + na) m = sgl p (sa + k) (na - k + m) := by
     rw [qaW, show sa + k + (na - k) = sa + na by lia]
    rw [e3, lpo, uh, ← List.drop_drop, uz, uz]
   conv => rhs; rw [e2]
   exact (List.Perm.append_left _ pm).append_right _
  ·intro j hj
   rcases hj with hj | hj
   ·rw [ua, uh, u4 (by rw [ud]; lia), yH, if_pos (by lia), ← ua]
   ·rw [ua, u2 (by rw [uE, ud]; lia), xn, ← ua]
    congr 1
    rw [uE, ud]
    lia
  ·have lt3 : sa + (na + nb) <= (p.take (sa + k) ++ po ++ p.drop (sa + k + po.length)).length := by
    simp only [uE, ud, uo]; lia
   rw [WL lt3]
   have e4 : sgl (p.take (sa + k) ++ po ++ p.drop (sa + k + po.length)) sa (na + nb) = sgl p sa k ++ po ++ sgl p (sa + na + m) (nb - m) := by
    unfold sgl
    rw [uh, List.drop_append_of_le_length (by rw [ud]; lia), List.drop_take, show sa + k - sa = k by lia, ← uh, List.take_append, uw (by simp only [uE, ud, uo]; lia)]
    congr 1
    simp only [uE, ud, uo]
    rw [show sa + k + po.length = sa + na + m by lia]
    congr 1
    lia
   rw [e4]
   have poLe : ∀ x ∈ po, (∃ i, k <= i /\ i < na /\ x = p.getD (sa + i) 0) \/ ∃ i, i < m /\ x = p.getD (sa + na + i) 0 := fun x hx => by
    rcases uj.mp (pm.mem_iff.mp hx) with y | y
    ·exact .inl (inA x y)
    ·exact .inr (inB x y)
   refine (SrtL.app ((WL (by lia)).mp fun i j hij hj => s1 i j hij (by lia)) sr fun x hx y hy => ?_).app ((WL (by lia)).mp fun i j hij hj => ?_) fun x hx y hy => ?_
   ·obtain ⟨i, hi, rfl⟩ := qR (by lia) hx
    rcases poLe y hy with ⟨j, j1, j2, rfl⟩ | ⟨j, j1, rfl⟩
    ·exact s1 i j (by lia) j2
    ·have b1 := k2 i hi
     have b2 := s2 0 j (by lia) (by lia)
     rw [xb] at b2
     exact Int.le_trans b1 b2
   ·have := s2 (m + i) (m + j) (by lia) (by lia)
    rw [← xx, ← xx] at this
    exact this
   ·obtain ⟨j, hj, rfl⟩ := qR (by lia) hy
    have b0 := m3 (m + j) (by lia) (by lia)
    rw [← xx] at b0
    rcases uj.mp hx with hx | hx
    ·obtain ⟨i, hi, rfl⟩ := qR (by lia) hx
     have b1 := s1 i (na - 1) (by lia) (by lia)
     exact Int.le_trans b1 b0
    ·rcases poLe x hx with ⟨i, i1, i2, rfl⟩ | ⟨i, i1, rfl⟩
     ·exact Int.le_trans (s1 i (na - 1) (by lia) (by lia)) b0
     ·exact Int.le_trans (xN (m2 i i1)) b0
 by_cases c3 : na - k <= m
 ·refine Zc c3 (wpS_bind <| YaI ⟨L, fun x hx => ?_, fun x hx => ?_, srA, srB, fun y hy => ?_⟩ (k1.trans hk) (by rw [lpa]; lia) (by rw [lpb]; lia) ?_ fin)
  ·obtain ⟨i, _, _, rfl⟩ := inA x hx; exact hp _ (Wl (by lia))
  ·obtain ⟨i, _, rfl⟩ := inB x hx; exact hp _ (Wl (by lia))
  ·obtain ⟨i, hi, rfl⟩ := inB y hy
   rw [lpa, wx (by lia) (by lia), show sa + k + (na - k - 1) = sa + (na - 1) by lia]
   exact xN (m2 i hi)
  ·rw [wx (by lia) (by lia), wx (by lia) (by lia), xb, xb]
   exact xN (k3 k (by lia) (by lia))
 ·refine vb c3 (wpS_bind <| waG ⟨L, fun x hx => ?_, fun x hx => ?_, srA, srB, fun y hy => ?_⟩ (k1.trans hk) (by rw [lpa]; lia) (by rw [lpb]; lia) ?_ fin)
  ·obtain ⟨i, _, _, rfl⟩ := inA x hx; exact hp _ (Wl (by lia))
  ·obtain ⟨i, _, rfl⟩ := inB x hx; exact hp _ (Wl (by lia))
  ·obtain ⟨i, hi, hi2, rfl⟩ := inA y hy
   rw [wx (by lia) (by lia), xb]
   exact xN (k3 i hi hi2)
  ·rw [lpa, lpb, wx (by lia) (by lia), wx (by lia) (by lia), show sa + k + (na - k - 1) = sa + (na - 1) by lia]
   exact xN (m2 (m - 1) (by lia))
end
section
variable {prog : Program} {w : World} {A : Around} {E : ZVP} {s : Shared} {f : Nat -> Keyed} {r : Nat -> Int} {n : Nat} {κ : SortKind} {p p' p0 : List Nat} {st : SortSt}
def RunsL (r : Nat -> Int) (p : List Nat) : Nat -> List (Nat × Nat × Nat) -> Nat -> Prop
 | a, [], b => a = b
 | a, x :: l, b => x.1 = a /\ 0 < x.2.1 /\ Sg r p a x.2.1 /\ RunsL r p (a + x.2.1) l b
theorem RunsL.len : ∀ {a b : Nat} {l : List (Nat × Nat × Nat)}, RunsL r p a l b -> a + l.length <= b
 | a, b, [], h => by have : a = b := h; simp; lia
 | a, b, x :: l, ⟨_, h1, _, h2⟩ => by have := h2.len; simp; lia
theorem RunsL.app : ∀ {a c : Nat} {l m : List (Nat × Nat × Nat)}, RunsL r p a (l ++ m) c ↔ ∃ b, RunsL r p a l b /\ RunsL r p b m c
 | a, c, [], m => ⟨fun h => ⟨a, rfl, h⟩, fun ⟨b, h1, h2⟩ => by have : a = b := h1; subst this; exact h2⟩
 | a, c, x :: l, m => by
  constructor
  ·rintro ⟨h1, h2, h3, h4⟩
   obtain ⟨b, h5, h6⟩ := RunsL.app.mp h4
   exact ⟨b, ⟨h1, h2, h3, h5⟩, h6⟩
  ·rintro ⟨b, ⟨h1, h2, h3, h4⟩, h5⟩
   exact ⟨h1, h2, h3, RunsL.app.mpr ⟨b, h4, h5⟩⟩
theorem Sg.congr {a m : Nat} (e : ∀ k, a <= k -> k < a + m -> p'.getD k 0 = p.getD k 0) (h : Sg r p a m) : Sg r p' a m := fun i j hij hj => by
 unfold kv
 rw [e _ (by lia) (by lia), e _ (by lia) (by lia)]
 exact h i j hij hj
theorem RunsL.congr : ∀ {a b : Nat} {l : List (Nat × Nat × Nat)}, (∀ k, a <= k -> k < b -> p'.getD k 0 = p.getD k 0) -> RunsL r p a l b -> RunsL r p' a l b
 | a, b, [], _, h => h
 | a, b, x :: l, e, ⟨h1, h2, h3, h4⟩ => by
  have := h4.len
  exact ⟨h1, h2, h3.congr fun k k1 k2 => e k k1 (by lia), h4.congr fun k k1 k2 => e k (by lia) k2⟩
structure GS (f : Nat -> Keyed) (r : Nat -> Int) (κ : SortKind) (p0 : List Nat) (lo : Nat) (st : SortSt) (p : List Nat) : Prop where
 kind : xL st = κ
 fail : failedOf st = none
 arr : arrOf st = ar f p
 perm : p.Perm p0
 runs : RunsL r p 0 (pendingOf st).toList lo
theorem GS.len {lo : Nat} (h : GS f r κ p0 lo st p) : p.length = p0.length := h.perm.length_eq
theorem kaC {α : Type} : ∀ {l : List α} {i : Nat} {x y : α}, l[i]? = some x -> l[i + 1]? = some y -> ∃ X Z, l = X ++ x :: y :: Z /\ X.length = i
 | [], i, x, y, h, _ => by simp at h
 | a :: l, 0, x, y, h, h2 => by
  have e1 : a = x := by simpa using h
  cases l with
  | nil => simp at h2
  | cons b l =>
   have e2 : b = y := by simpa using h2
   exact ⟨[], l, by rw [e1, e2]; rfl, rfl⟩
 | a :: l, i + 1, x, y, h, h2 => by
  obtain ⟨X, Z, e, hX⟩ := kaC (l := l) (i := i) (by simpa using h) (by simpa using h2)
  exact ⟨a :: X, Z, by rw [e]; rfl, by simp [hX]⟩
theorem Zad {i lo : Nat} {Q : Bool -> SortSt -> Prop} (L : XF prog w A E s f r n κ) (hp : ∀ x ∈ p0, x < n) (G : GS f r κ p0 lo st p) (hlo : lo <= p0.length) (hi : i + 1 < (pendingOf st).size)
  (h : ∀ p' st', GS f r κ p0 lo st' p' -> (pendingOf st').size + 1 = (pendingOf st).size -> (∀ k, lo <= k -> p'.getD k 0 = p.getD k 0) -> Q true st') : wpS (model prog w) A E s (mergeAt' i) Q st := by
 have hp' : ∀ x ∈ p, x < n := fun x hx => hp x (G.perm.mem_iff.mp hx)
 have gl := G.len
 obtain ⟨⟨sa, na, pw⟩, e1⟩ : ∃ x, (pendingOf st)[i]? = some x := ⟨_, getElem?_pos _ i (by lia)⟩
 obtain ⟨⟨sb, nb, pw2⟩, e2⟩ : ∃ x, (pendingOf st)[i + 1]? = some x := ⟨_, getElem?_pos _ (i + 1) hi⟩
 obtain ⟨X, Z, eL, lX⟩ := kaC (l := (pendingOf st).toList) (i := i) (by rw [xQ]; exact e1) (by rw [xQ]; exact e2)
 have R := G.runs
 rw [eL] at R
 obtain ⟨a, R1, ⟨h1, h2, h3, h4, h5, h6, R2⟩⟩ := RunsL.app.mp R
 dsimp only at h1 h2 h3 h4 h5 h6 R2
 subst h1
 subst h4
 have len2 := R2.len
 refine kaG L G.kind G.arr G.fail hp' e1 e2 h2 h5 (by lia) h3 h6 fun p' st' k' f' pd' a' pm out sg => ?_
 have eP : (pendingOf st').toList = X ++ (sa, na + nb, pw) :: Z := by
  rw [pd', Array.toList_eraseIdxIfInBounds, Array.toList_setIfInBounds, eL, ← lX, List.set_append_right _ _ (uI _), Nat.sub_self, List.set_cons_zero, List.eraseIdx_append_of_length_le (Nat.le_succ _), show X.length.succ - X.length = 1 by lia]
  rfl
 refine h p' st' ⟨k'.trans G.kind, f', a', pm.trans G.perm, ?_⟩ ?_ fun k hk => out k (.inr (by lia))
 ·rw [eP]
  refine RunsL.app.mpr ⟨sa, R1.congr fun k _ k2 => out k (.inl k2), rfl, by show 0 < na + nb; lia, sg, ?_⟩
  show RunsL r p' (sa + (na + nb)) Z lo
  rw [← xx]
  exact R2.congr fun k k1 _ => out k (.inr k1)
 ·have c1 := congrArg xy eP
  have c2 := congrArg xy eL
  rw [uE, ub, uR] at c1
  rw [uE, ub, ub, uR] at c2
  lia
theorem RunsL.mod {g : Nat × Nat × Nat -> Nat × Nat × Nat} (hg : ∀ x, (g x).1 = x.1 /\ (g x).2.1 = x.2.1) : ∀ {l : List (Nat × Nat × Nat)} {a b j : Nat}, RunsL r p a l b -> RunsL r p a (l.modify j g) b
 | [], a, b, j, h => by simpa using h
 | x :: l, a, b, 0, ⟨h1, h2, h3, h4⟩ => by
  rw [List.modify_zero_cons]
  exact ⟨(hg x).1.trans h1, by rw [(hg x).2]; exact h2, by rw [(hg x).2]; exact h3, by rw [(hg x).2]; exact h4⟩
 | x :: l, a, b, j + 1, ⟨h1, h2, h3, h4⟩ => by
  rw [List.modify_succ_cons]
  exact ⟨h1, h2, h3, RunsL.mod hg h4⟩
def SrQ (f : Nat -> Keyed) (r : Nat -> Int) (κ : SortKind) (p0 : List Nat) (x : Nat) : ForInStep (Option Unit × Nat) -> SortSt -> Prop
 | .done c, st' => ∃ p, c = (none, p0.length) /\ GS f r κ p0 p0.length st' p
 | .yield c, st' => ∃ p lo, c = (none, lo) /\ GS f r κ p0 lo st' p /\ lo <= p0.length /\ x <= lo
theorem jaU {Q : Unit -> SortSt -> Prop} (L : XF prog w A E s f r n κ) (hp : ∀ x ∈ p0, x < n) (h2 : 2 <= p0.length) (hk : xL st = κ) (hf : failedOf st = none) (hpd : pendingOf st = #[]) (ha : arrOf st = ar f p0)
  (h : ∀ p st', arrOf st' = ar f p -> failedOf st' = none -> p.Perm p0 -> SrtL r p -> Q () st') : wpS (model prog w) A E s sortRuns' Q st := by
 rw [sortRuns'_eq]
 refine wpS_bind (wpS_get ?_)
 rw [ha, Xf]
 extract_lets size mr lo0
 refine wpS_bind (wpS_mono (wpS_forRange (I := fun x c st' => ∃ p lo, c = (none, lo) /\ GS f r κ p0 lo st' p /\ lo <= p0.length /\ x <= lo)
  (Q := fun c st' => ∃ p, c = (none, p0.length) /\ GS f r κ p0 p0.length st' p) ?step ?fin ?init) ?post)
 case init => exact ⟨p0, 0, rfl, ⟨hk, hf, ha, List.Perm.refl _, by rw [hpd]; rfl⟩, ue _, ue _⟩
 case fin =>
  rintro c st' ⟨p, lo, rfl, G, hlo, hx⟩
  have : lo = p0.length := by
   have : max 0 size = p0.length := Nat.zero_max _
   lia
  subst this
  exact ⟨p, rfl, G⟩
 case step =>
  rintro x c st' _ hx ⟨p, lo, rfl, G, hlo, hxl⟩
  refine wpS_mono (Q := SrQ f r κ p0 (x + 1)) ?_ (fun a st2 h => by cases a <;> exact h)
  show wpS _ _ _ _ (if lo ≥ p0.length then _ else _) _ _
  by_cases c : lo ≥ p0.length
  ·refine Zc c (wpS_pure ?_)
   have : lo = p0.length := by lia
   subst this
   exact ⟨p, rfl, G⟩
  refine vb c ?_
  have gl := G.len
  have hp' : ∀ y ∈ p, y < n := fun y hy => hp y (G.perm.mem_iff.mp hy)
  refine wpS_bind (kaN L G.kind G.arr hp' (by show lo + (p0.length - lo) <= _; lia) (by show 1 <= p0.length - lo; lia) fun m p1 st1 R1 m1 m2 sg1 => ?_)
  have m2 : m <= p0.length - lo := m2
  dsimp -zeta only
  extract_lets m' jp force n2
  have hjp : ∀ m p2 st2, RunS f st' lo p st2 p2 -> 1 <= m -> lo + m <= p0.length -> Sg r p2 lo m -> wpS (model prog w) A E s (jp () m) (SrQ f r κ p0 (x + 1)) st2 := by
   intro m p2 st2 R2 q1 q2 sg2
   have G2 : GS f r κ p0 lo st2 p2 := ⟨R2.kind.trans G.kind, R2.fail.trans G.fail, R2.arr, R2.perm.trans G.perm, by rw [R2.pend]; exact G.runs.congr fun k _ k2 => R2.pre k k2⟩
   refine wpS_bind (wpS_get ?_)
   extract_lets lo2 jp2
   have hjp2 : ∀ p3 st3, GS f r κ p0 lo st3 p3 -> Sg r p3 lo m -> wpS (model prog w) A E s (jp2 ()) (SrQ f r κ p0 (x + 1)) st3 := by
    intro p3 st3 G3 sg3
    refine wpS_bind (wpS_modify (wpS_pure ⟨p3, _, rfl, ⟨G3.kind, G3.fail, G3.arr, G3.perm, ?_⟩, q2, by lia⟩))
    show RunsL r p3 0 ((pendingOf st3).push (lo, m, 0)).toList (lo + m)
    rw [yO]
    exact RunsL.app.mpr ⟨lo, G3.runs, rfl, q1, sg3, rfl⟩
   cases hb : (pendingOf st2).back? with
   | none => exact hjp2 p2 st2 G2 sg2
   | some b =>
    obtain ⟨s1, n1, b3⟩ := b
    dsimp -zeta only
    extract_lets pw
    refine wpS_bind (wpS_mono (wpS_forRange (I := fun y c st3 => c = (none, ()) /\ ∃ p3, GS f r κ p0 lo st3 p3 /\ Sg r p3 lo m) (Q := fun c st3 => c = (none, ()) /\ ∃ p3, GS f r κ p0 lo st3 p3 /\ Sg r p3 lo m) ?step3 (fun c st3 z => z) ⟨rfl, p2, G2, sg2⟩) ?post3)
    case step3 =>
     rintro y c st3 _ hy ⟨rfl, p3, G3, sg3⟩
     refine wpS_bind (wpS_get ?_)
     by_cases c1 : (pendingOf st3).size > 1
     ·obtain ⟨⟨o1, o2, older⟩, eo⟩ : ∃ z, (pendingOf st3)[(pendingOf st3).size - 2]? = some z := ⟨_, getElem?_pos _ _ (by lia)⟩
      extract_lets pp
      have epp : (if pp.size > 1 then pp[pp.size - 2]? else none) = some (o1, o2, older) := by
       show (if (pendingOf st3).size > 1 then (pendingOf st3)[(pendingOf st3).size - 2]? else none) = _
       rw [if_pos c1, eo]
      rw [epp]
      dsimp -zeta only
      by_cases c2 : older <= pw
      ·exact Zc c2 (wpS_pure ⟨rfl, p3, G3, sg3⟩)
      ·refine vb c2 (wpS_bind (Zad L hp G3 hlo (by show (pendingOf st3).size - 2 + 1 < _; lia) fun p4 st4 G4 _ out => ?_))
       refine vb (by simp) (wpS_pure ⟨rfl, p4, G4, sg3.congr fun k k1 k2 => out k k1⟩)
     ·extract_lets pp
      have epp : (if pp.size > 1 then pp[pp.size - 2]? else none) = none := by
       show (if (pendingOf st3).size > 1 then (pendingOf st3)[(pendingOf st3).size - 2]? else none) = _
       rw [if_neg c1]
      rw [epp]
      exact wpS_pure ⟨rfl, p3, G3, sg3⟩
    case post3 =>
     rintro c st3 ⟨rfl, p3, G3, sg3⟩
     refine wpS_bind (wpS_modify ?_)
     refine hjp2 p3 _ ⟨G3.kind, G3.fail, G3.arr, G3.perm, ?_⟩ sg3
     show RunsL r p3 0 ((pendingOf st3).modify _ _).toList lo
     rw [Array.toList_modify]
     exact RunsL.mod (g := fun x => (x.1, x.2.1, pw)) (fun z => ⟨rfl, rfl⟩) G3.runs
  by_cases c2 : m' < mr
  ·refine Zc c2 ?_
   refine wpS_bind (wpS_lift (wpAny_rule ⟨rfl, ?_⟩))
   have c2' : m < mr := c2
   have ef : force = min (p0.length - lo) mr := rfl
   refine wpS_bind (ka1 (ok := m) (m := force) L G.kind hp' (by lia) R1 (by lia) (by lia) sg1 fun p2 st2 R2 sg2 => ?_)
   refine vb (by simp) ?_
   exact hjp force p2 st2 R2 (by lia) (by lia) sg2
  ·exact vb c2 (hjp m p1 st1 R1 m1 (by lia) sg1)
 case post =>
  rintro c st' ⟨p, rfl, G⟩
  have rl := G.runs.len
  refine wpS_bind (wpS_mono (wpS_forRange (I := fun x c st2 => c = (none, ()) /\ ∃ p2, GS f r κ p0 p0.length st2 p2 /\ ((pendingOf st2).size + x <= p0.length \/ (pendingOf st2).size <= 1)) (Q := fun c st2 => c = (none, ()) /\ ∃ p2, GS f r κ p0 p0.length st2 p2 /\ (pendingOf st2).size <= 1) ?step4 ?fin4 ⟨rfl, p, G, .inl (by rw [uR] at rl; lia)⟩) ?post4)
  case fin4 =>
   rintro c st2 ⟨rfl, p2, G2, z⟩
   have : max 0 size = p0.length := Nat.zero_max _
   exact ⟨rfl, p2, G2, by lia⟩
  case step4 =>
   rintro x c st2 _ hx ⟨rfl, p2, G2, z⟩
   refine wpS_bind (wpS_get ?_)
   extract_lets pp i bef j
   by_cases c1 : (pendingOf st2).size <= 1
   ·exact Zc c1 (wpS_pure ⟨rfl, p2, G2, c1⟩)
   ·refine vb c1 ?_
    have hj : j + 1 < (pendingOf st2).size := by
     have ei : i = (pendingOf st2).size - 2 := rfl
     show (if (bef.any fun z => decide (z < (pp[i + 1]?.elim 0 fun y => y.2.1))) = true then i - 1 else i) + 1 < _
     split <;> lia
    refine wpS_bind (Zad L hp G2 (uI _) hj fun p3 st3 G3 sz _ => ?_)
    exact vb (by simp) (wpS_pure ⟨rfl, p3, G3, .inl (by lia)⟩)
  case post4 =>
   rintro c st2 ⟨rfl, p2, G2, z⟩
   have g2 := G2.len
   refine wpS_pure (h p2 st2 G2.arr G2.fail G2.perm ?_)
   have R := G2.runs
   have lz : (pendingOf st2).toList.length <= 1 := by rw [uR]; exact z
   cases e : (pendingOf st2).toList with
   | nil =>
    rw [e] at R
    have : 0 = p0.length := R
    lia
   | cons a l =>
    rw [e] at R lz
    have el : l = [] := by
     cases l with
     | nil => rfl
     | cons => simp at lz
    subst el
    obtain ⟨_, _, sg, en⟩ := R
    have en : 0 + a.2.1 = p0.length := en
    rw [show a.2.1 = p2.length by lia] at sg
    have := (WL (by lia)).mp sg
    unfold sgl at this
    rw [List.drop_zero, xG] at this
    exact this
end
section
variable {prog : Program} {w : World} {A : Around} {E : ZVP} {s : Shared}
noncomputable def WR (vs : List Value) (i : Nat) : Keyed := (vs.getD i Value.none, vs.getD i Value.none)
theorem jbo (vs : List Value) : vs.toArray.zip vs.toArray = ar (WR vs) (uv vs.length) := by
 apply Array.ext_getElem?
 intro k
 by_cases h : k < vs.length
 ·simp [ar, WR, h]
 ·rw [u6 (by simp; lia), u6 (by rw [Xf, List.length_range]; lia)]
theorem Xbd {vs : List Value} {r : Nat -> Int} {κ : SortKind} (hc : ∀ i j, i < vs.length -> j < vs.length -> ∀ C : Bool -> Shared -> Prop, C (rlt r i j) s -> wpAny (model prog w) A (keyLt' κ (vs.getD i Value.none) (vs.getD j Value.none)) C (fun _ _ => False) s) :
  XF prog w A E s (WR vs) r vs.length κ := fun i j hi hj st Q hk q => by
 rw [lt'_eq]
 refine wpS_bind (wpS_get ?_)
 rw [hk]
 refine wpS_bind (wpS_lift (wpAny_attempt (wpAny_mono (hc i j hi hj (fun b s' => s' = s /\ b = decide (r i < r j)) ⟨rfl, rfl⟩) (fun b s' z => ?_) fun _ _ z => z.elim)))
 obtain ⟨rfl, rfl⟩ := z
 exact ⟨rfl, wpS_pure q⟩
theorem vas {a : Addr} {vs : List Value} {n : Nat} {r : Nat -> Int} {P : PySem.Fin -> Shared -> Prop} (ho : s.heap.get? a = some (seqObj "list" vs.toArray n)) (h64 : vs.length <= 1000) (ask : wa9 prog w A s vs vs a r)
  (h : ∀ p : Array Nat, PermN vs.length p -> Srt r p vs.length -> P (.done (.ret .none)) { s with heap := sortedHeap s.heap a vs (qj vs p) }) :
  wpAny (model prog w) A (Builtin.«list.sort» ⟨[.ref a], []⟩) P E s := by
 rw [list_sort_plain]
 have ha : a < s.heap.objs.size := uH ho
 refine wpAny_bind (listItems_at ho rfl ?_)
 refine wpAny_bind (listUpdate_at ho rfl ?_)
 obtain ⟨e1, ho1⟩ : ∃ e1, (s.heap.update a (Obj.mapSeq fun _ => #[])).get? a = some (seqObj "list" #[] e1) := ⟨_, get?_update_seq ho (fun _ => #[])⟩
 refine wpAny_bind (seqEpoch_at ho1 rfl ?_)
 refine wpAny_bind (wpAny_newTuple ?_)
 refine wpAny_bind (wpAny_newList ?_)
 refine wpAny_holding ?_
 have ho6 : (((s.heap.update a (Obj.mapSeq fun _ => #[])).push (seqObj "tuple" vs.toArray 0)).push (seqObj "list" #[] 0)).get? a = some (seqObj "list" #[] e1) := by
  rw [yN _ _ _ (by rw [size_push', Heap.size_update]; exact uZ (xJ ha)), yN _ _ _ (by rw [Heap.size_update]; exact uZ ha)]
  exact ho1
 have keep : ∀ b o, b ≠ a -> s.heap.get? b = some o -> (((s.heap.update a (Obj.mapSeq fun _ => #[])).push (seqObj "tuple" vs.toArray 0)).push (seqObj "list" #[] 0)).get? b = some o := fun b o hb q =>
  uD _ (uD _ ((Heap.get?_update_ne _ _ _ _ hb).trans q))
 show wpAny (model prog w) A _ P E { s with heap := ((s.heap.update a (Obj.mapSeq fun _ => #[])).push (seqObj "tuple" vs.toArray 0)).push (seqObj "list" #[] 0) }
 dsimp only
 have hsz : vs.toArray.size = vs.length := by simp
 by_cases h2 : vs.toArray.size < 2
 ·rw [if_pos h2, if_pos h2]
  refine wpAny_bind (wpAny_pure ?_)
  rw [StateT.run_pure]
  refine wpAny_bind (wpAny_pure ?_)
  dsimp only
  have e2 : (arrOf (SortSt.mk' general' (vs.toArray.zip vs.toArray) #[] 7 none)).map (·.2) = qj vs (uv vs.length).toArray := by
   rw [kU]
   show (vs.toArray.zip vs.toArray).map (·.2) = vs.toArray
   apply Array.ext
   ·simp
   ·intro i _ _; simp
  rw [e2]
  refine wpAny_bind (seqEpoch_at ho6 rfl ?_)
  refine wpAny_bind (listUpdate_at ho6 rfl ?_ (hsz2 := by rw [kU, sizeLine_eq]; lia))
  simp only [bne_self_eq_false, uM, if_false]
  refine wpAny_pure (h _ (Array.Perm.refl _) ?_)
  intro i j hij hj
  rw [show i = j by lia]; exact ul _
 ·rw [if_neg h2, if_neg h2]
  obtain ⟨κ, hk, hc⟩ := ask (by lia) _ keep
  refine wpAny_bind (hk _ _ ?_)
  refine wpAny_bind (wpAny_mono (jaU (f := WR vs) (r := r) (n := vs.length) (κ := κ) (p0 := uv vs.length) (Q := fun _ st' => ∃ p, arrOf st' = ar (WR vs) p /\ failedOf st' = none /\ p.Perm (uv vs.length) /\ SrtL r p)
   (Xbd hc) (fun x hx => yL.mp hx) (by rw [List.length_range]; lia) rfl rfl rfl (jbo vs) fun p st' a1 a2 a3 a4 => ⟨p, a1, a2, a3, a4⟩) ?_ fun _ _ e => e)
  rintro ⟨⟨⟩, st'⟩ s' ⟨rfl, p', har, hf, hpm, hsr⟩
  dsimp only at *
  obtain ⟨p, rfl⟩ : ∃ p : Array Nat, p.toList = p' := ⟨p'.toArray, rfl⟩
  have hp : PermN vs.length p := by
   unfold PermN
   exact yB.mpr (by simpa using hpm)
  have hs : Srt r p vs.length := fun i j hij hj => by
   have hz := hp.size
   have := hsr.at_ (i := i) (j := j) hij (by rw [uR]; lia)
   have e : ∀ k, p.toList.getD k 0 = p.getD k 0 := fun k => by rw [Wac, x4]
   rw [e, e] at this
   exact this
  rw [show (arrOf st').map (fun x => x.2) = qj vs p from by rw [har]; unfold ar qj; simp [WR]]
  have hpz := hp.size
  refine wpAny_bind (seqEpoch_at ho6 rfl ?_)
  refine wpAny_bind (listUpdate_at ho6 rfl ?_ (hsz2 := by unfold qj; rw [uJ, uB, uR, hpz, sizeLine_eq]; lia))
  rw [hf]
  simp only [bne_self_eq_false, uM, if_false]
  exact wpAny_pure (h p hp hs)
end
end L2
namespace L2
open PySem PySem.Spec PyProof.Rows
end L2
namespace L2
open PySem PyProof.Rows
theorem ja5 {m f mv : Nat} {led plain : Bool} {hs : Array Int} {t : SetTable} {o : Array Nat} (h : SetTable.laid m f mv led plain hs = some (t, o)) : t.led = led := by
 unfold SetTable.laid at h
 cases e : SetTable.layClean m hs with
 | none => rw [e] at h; cases h
 | some ow => rw [e] at h; cases h; rfl
theorem vay (t : SetTable) (es : Array (Int × Value)) (n : Nat) : (relayAll t es n).2.1.led = t.led := by
 unfold relayAll
 split
 ·rename_i t' o h
  dsimp only
  split
  ·exact ja5 h
  ·rfl
 ·rfl
theorem jaN (t : SetTable) (es : Array (Int × Value)) (h : Int) (x : Value) : (layNew t es h x).2.1.led = t.led := by
 unfold layNew
 split
 ·dsimp only
  unfold SetTable.orStandIn
  split <;> rfl
 ·rfl
def SetI (prog : Program) (w : World) (h : Heap) (a : Addr) (P : Int -> Prop) (n : Nat) : Prop :=
 ∃ es ep t, h.get? a = some { cls := .type "set", dict := none, data := .set es ep t, slots := #[] } /\ ElemsOf (intKind prog w) es.toList /\ (∀ e ∈ es.toList, ∃ k tk, e.2 = .int k tk /\ P k) ∧
  es.size <= n /\ (0 < n -> 0 < es.size) /\ t.fits es.size = true /\ t.led = !w.params.followText "set-order"
section
variable {prog : Program} {w : World} {A : Around} {E : ZVP} {s : Shared}
theorem qaK {h : Heap} {a : Addr} {es : Array (Int × Value)} {ep : Nat} {t : SetTable} (ho : h.get? a = some { cls := .type "set", dict := none, data := .set es ep t, slots := #[] }) (es' : Array (Int × Value)) (t' : SetTable) :
  (h.update a (Obj.putSet es' t')).get? a = some { cls := .type "set", dict := none, data := .set es' (ep + 1) t', slots := #[] } := by
 have := uu (Obj.putSet es' t') ho (by rw [putSet_of es' t' rfl]; rfl)
 rw [putSet_of es' t' rfl] at this; exact this
theorem SetI.add {a : Addr} {P : Int -> Prop} {n : Nat} {k : Int} {tk : Nat} {Q : Bool -> Shared -> Prop} (hS : SetI prog w s.heap a P n) (hp : P k) (hroom : n + 1 < scanBound)
  (h : ∀ h', xk a s.heap h' -> SetI prog w h' a P (n + 1) -> ∀ b, Q b { s with heap := h' }) :
  wpAny (model prog w) A (setAddHashed a (.int k tk) ((intKind prog w).hash k)) Q E s := by
 obtain ⟨es, ep, t, ho, hel, hP, hn, hpos, hf, hled⟩ := hS
 have hkey : (intKind prog w).is k (.int k tk) = true := intKind_is _ _ _ _
 have hb : es.size < scanBound := by lia
 unfold setAddHashed setAddHashedIn
 refine wpAny_holding (wpAny_bind (wpAny_setState_of ho rfl hf ?_))
 dsimp only
 rw [byScan_of rfl hb hel]
 simp only [↓reduceIte]
 unfold setAddByScan
 refine wpAny_bind ?_
 refine wpAny_bind (wpAny_rule ?_)
 refine wpAny_bind (wpAny_setScan_of hkey ho rfl hf hel ?_)
 cases hr : List.findIdx? (fun e => (intKind prog w).is k e.2) es.toList with
 | some j =>
  dsimp only
  obtain ⟨hj, hpj, _⟩ := List.findIdx?_eq_some_iff_getElem.mp hr
  have hz : es.toList.length = es.size := uR
  exact wpAny_pure (wpAny_pure (h s.heap (Heap.SameBut.refl a s.heap) ⟨es, ep, t, ho, hel, hP, by lia, fun _ => by lia, hf, hled⟩ _))
 | none =>
  dsimp only
  have hgw : ∀ (b : Bool) {s₁ : Shared} {Q' : Unit -> Shared -> Prop}, Q' () s₁ -> wpAny (model prog w) A (match b with | true => rule "set.scan.the-table-gave-way" | false => pure ()) Q' E s₁ :=
   fun b s₁ Q' hq => by cases b <;> first | exact wpAny_pure hq | exact wpAny_rule hq
  have hperm := layNew_perm t es ((intKind prog w).hash k) (.int k tk)
  have hfits := layNew_fits t es ((intKind prog w).hash k) (.int k tk)
  have hl1 := jaN t es ((intKind prog w).hash k) (.int k tk)
  generalize hL : layNew t es ((intKind prog w).hash k) (.int k tk) = L at hperm hfits hl1 ⊢
  obtain ⟨es1, t1, wasDummy, gave⟩ := L
  dsimp only at hperm hfits hl1 ⊢
  rw [yO] at hperm
  have hel1 : ElemsOf (intKind prog w) es1.toList := (hel.push hkey rfl).perm hperm
  have hP1 : ∀ e ∈ es1.toList, ∃ k tk, e.2 = .int k tk /\ P k := fun e he => by
   rcases uj.mp (hperm.mem_iff.mp he) with q | q
   ·exact hP e q
   ·rw [uc] at q; subst q; exact ⟨k, tk, rfl, hp⟩
  have hsz1 : es1.size = es.size + 1 := by rw [← uR, hperm.length_eq, uE, uR]; rfl
  refine wpAny_bind (hgw _ ?_)
  have tail : ∀ wd : Bool, wpAny (model prog w) A (do
    storeSet a es1 t1
    if (!wd && t1.tooFull) = true then do
      (fun b : Bool => match b with | true => rule "set.scan.the-table-gave-way" | false => (pure () : Sem Unit)) (relayAll t1 es1 (SetTable.grown es1.size)).2.2
      storeSet a (relayAll t1 es1 (SetTable.grown es1.size)).1 (relayAll t1 es1 (SetTable.grown es1.size)).2.1
      pure (some true)
     else pure (some true)) (fun o s' => ∃ b, o = some b /\ Q b s') E s := by
   intro wd
   refine wpAny_bind (wpAny_storeSet_of ho rfl ?_ (fits_of_scanBound (by lia)))
   have ho1 := qaK ho es1 t1
   have hsb1 := Heap.SameBut.update s.heap a (Obj.putSet es1 t1)
   split
   ·have hp2 := relayAll_perm t1 es1 (SetTable.grown es1.size)
    have hfr := relayAll_fits t1 es1 (SetTable.grown es1.size)
    have hl2 := vay t1 es1 (SetTable.grown es1.size)
    generalize hRl : relayAll t1 es1 (SetTable.grown es1.size) = Rl at hp2 hfr hl2 ⊢
    obtain ⟨es2, t3, gave2⟩ := Rl
    dsimp only at hp2 hfr hl2 ⊢
    have hsz : es2.size = es1.size := by rw [← uR, hp2.length_eq, uR]
    refine wpAny_bind (hgw _ ?_)
    refine wpAny_bind (wpAny_storeSet_of ho1 rfl ?_ (fits_of_scanBound (by lia)))
    exact wpAny_pure ⟨_, rfl, h _ (hsb1.trans (Heap.SameBut.update _ a _)) ⟨es2, _, t3, qaK ho1 es2 t3, hel1.perm hp2, fun e he => hP1 e (hp2.mem_iff.mp he), by lia, fun _ => by lia, hfr, by rw [hl2, hl1]; exact hled⟩ _⟩
   ·exact wpAny_pure ⟨_, rfl, h _ hsb1 ⟨es1, _, t1, ho1, hel1, hP1, by lia, fun _ => by lia, hfits, by rw [hl1]; exact hled⟩ _⟩
  split
  ·rw [hashByValue_scannable 8 rfl]
   refine wpAny_bind (wpAny_pure ?_)
   simp only [plainKind, ↓reduceIte]
   refine wpAny_mono (tail wasDummy) (fun o s' z => ?_) fun _ _ z => z
   obtain ⟨b, rfl, q⟩ := z
   exact wpAny_pure q
  ·refine wpAny_bind (wpAny_pure ?_)
   simp only [↓reduceIte]
   refine wpAny_mono (tail wasDummy) (fun o s' z => ?_) fun _ _ z => z
   obtain ⟨b, rfl, q⟩ := z
   exact wpAny_pure q
end
section
variable {prog : Program} {w : World} {A : Around} {R : Result -> Shared -> Prop} {I : Addr} {fp wr : List Addr} {G : Array GenState -> Array GenState -> Prop} {n : Nat} {P : Nat -> Value -> Prop} {St : Nat -> Shared -> Prop}
theorem SetI.moved {h h' : Heap} {a : Addr} {P : Int -> Prop} {n : Nat} (q : SetI prog w h a P n) (k : ∀ o, h.get? a = some o -> h'.get? a = some o) : SetI prog w h' a P n := by
 obtain ⟨es, ep, t, ho, r⟩ := q
 exact ⟨es, ep, t, k _ ho, r⟩
theorem va2 (W : WalksS prog w A.in1 I fp wr G n P St) (S : Addr) (hSf : S ∉ fp) {PI : Int -> Prop} (hval : ∀ i v, P i v -> ∃ k t, v = .int k t /\ PI k) (hb : n + 1 < scanBound) :
  ∀ (k i : Nat) (s : Shared), n - i = k -> i <= n -> St i s -> SetI prog w s.heap S PI i →
   (∀ s', Moved (S :: wr) G s s' -> SetI prog w s'.heap S PI n -> R (.ok (.ret .none)) s') →
   codeAny (model prog w) A (.builtin "set.update.loop" ⟨[.ref S, .ref I], []⟩) R s := by
 have hSw : S ∉ wr := fun h => hSf (W.sub _ h)
 have hsub : ∀ b ∈ wr, b ∈ S :: wr := fun b hb => uQ _ hb
 intro k
 induction k with
 | zero =>
  intro i s hk hi hst hS hR
  have hin : i = n := by lia
  subst hin
  refine codeAny_builtin PyProof.Rows.F.entry_set_update_loop ?_
  rw [Around.under_plainId PyProof.Rows.F.plain_set_update_loop _]
  show wpAny _ A.in1 (pyNext (.ref I) >>= _) _ _ s
  refine wpAny_bind (W.done s _ _ hst fun s' hm => ?_)
  show wpAny _ A.in1 (ret Value.none) _ _ s'
  exact wpAny_pure (hR s' (hm.mono hsub) (hS.moved fun o e => hm.heap S _ hSw e))
 | succ k ih =>
  intro i s hk hi hst hS hR
  have hlt : i < n := by lia
  refine codeAny_builtin PyProof.Rows.F.entry_set_update_loop ?_
  rw [Around.under_plainId PyProof.Rows.F.plain_set_update_loop _]
  show wpAny _ A.in1 (pyNext (.ref I) >>= _) _ _ s
  refine wpAny_bind (W.item i s _ _ hlt hst fun v s' hP hst' hm => ?_)
  obtain ⟨kk, t, rfl, hk'⟩ := hval i v hP
  have hS' : SetI prog w s'.heap S PI i := hS.moved fun o e => hm.heap S _ hSw e
  show wpAny _ A.in1 (holding [Value.int kk t] (setAdd S (.int kk t)) >>= _) _ _ s'
  refine wpAny_bind (wpAny_holding ?_)
  unfold setAdd
  refine wpAny_holding ?_
  refine wpAny_bind ((intKind prog w).pyHash (k := kk) (intKind_is _ _ _ _) ?_)
  refine SetI.add (s := { s' with toks := s'.toks + 1 }) hS' hk' (by lia) fun h' hsb hSi b => ?_
  refine wpAny_pure ⟨plainId_quiet PyProof.Rows.F.plain_set_update_loop _, ih (i + 1) _ (by lia) hlt (W.frame _ s' _ _ hst' (Nat.le_succ _) fun b hb o e => ?_) hSi fun s'' hm'' hS'' => ?_⟩
  ·rw [hsb.2 b (fun h : b = S => hSf (by rw [← h]; exact hb))]; exact e
  ·refine hR s'' (Moved.trans W.gtrans ((hm.mono hsub).then_heap (Nat.le_succ _) fun b o hb e => ?_) hm'') hS''
   rw [hsb.2 b (fun h : b = S => hb (by rw [h]; exact ug))]; exact e
end
section
variable {prog : Program} {w : World} {A : Around} {E : ZVP} {s : Shared}
noncomputable def kt (w : World) : Obj := { cls := .type "set", dict := none, data := .set #[] 0 (.fresh 0 0 (!w.params.followText "set-order")) }
theorem vbc (a : Value) {Q₁ : ZVP}
  (h : Q₁ (.ref s.heap.objs.size) { s with heap := s.heap.push (kt w) }) :
  codeAny (model prog w) A (.call (.builtin "set.__new__") ⟨[.type "set", a], []⟩) (wants Q₁ E) s := by
 refine codeAny_of_tree ?_
 show wpAny _ A.in1 (do checkBuiltinCall "set.__new__" ⟨[.type "set", a], []⟩; again (.builtin "set.__new__" ⟨[.type "set", a], []⟩)) _ _ s
 refine wpAny_bind (wpAny_of_eq (PySem.F.newCall_set_1 a) (wpAny_pure ⟨plainId_quiet PySem.F.plain_set_new _, codeAny_builtin PySem.F.entry_set_new ?_⟩))
 rw [Around.under_plainId PySem.F.plain_set_new _]
 unfold Builtin.«set.__new__» Builtin.Frozenset.newClass
 have hsub := sub_set_self
 obtain ⟨hp, g, d, tk, os⟩ := s
 dsimp only
 wp_walk
 refine wpAny_askSetting (wpAny_pure ?_)
 dsimp only
 simp only [newObj]
 refine wpAny_bind (wpAny_alloc (wpAny_pure ?_))
 exact wpAny_pure h
theorem WaG {l : Addr} {items : Array Value} {PI : Int -> Prop} {Q : ZVP}
  (hh : A.handled = none) (hl : s.heap.IsList l items) (hi : ∀ (i : Nat) (v : Value), items[i]? = some v -> ∃ k t, v = .int k t /\ PI k) (hb : items.size + 1 < scanBound)
  (h : ∀ (h' : Heap) (tk : Nat), SetI prog w h' s.heap.objs.size PI items.size -> s.heap.objs.size < h'.objs.size →
   (∀ b o, b < s.heap.objs.size -> s.heap.get? b = some o -> h'.get? b = some o) -> Q (.ref s.heap.objs.size) { s with heap := h', toks := tk }) :
  wpAny (model prog w) A (call (.type "set") [.ref l]) Q E s := by
 obtain ⟨c, tl, hmro⟩ := PySem.F.called_set.mro
 have hmade := PySem.F.called_set.made
 have hsub := PySem.F.called_set.sub
 refine wpAny_call (codeAny_of_tree ?_)
 show wpAny _ _ (callAny (.type "set") _) _ _ _
 refine wpAny_pure ⟨Code.quiet_builtin _ (by decide +kernel), codeAny_builtin PySem.F.entry_type_call ?_⟩
 rw [Around.under_plain (weight_type_call_type "set" [.ref l] []) rfl]
 have h1 := PySem.F.called_set.notType
 have h2 := PySem.F.called_set.canCreate
 have hct := PySem.F.typeCall_set_1 (.ref l)
 repeat (any_goals (first | assumption | wp_step))
 refine codeAny_mono (vbc (.ref l) (E := E) (Q₁ := fun obj s₁ => obj = .ref s.heap.objs.size /\ s₁ = { s with heap := s.heap.push (kt w) }) ⟨rfl, rfl⟩) fun r s₁ hr => ?_
 cases r with
 | error e => exact hr
 | ok fl =>
  cases fl with
  | ret obj =>
   obtain ⟨rfl, rfl⟩ := hr
   have hS : (s.heap.push (kt w)).get? s.heap.objs.size = some (kt w) := uP _ rfl
   have hT : Shared.TypeIs { s with heap := s.heap.push (kt w) } (.ref s.heap.objs.size) "set" := ⟨_, hS, rfl⟩
   have hli := PySem.F.called_set.init.lookup
   have hbi := PySem.F.called_set.init.bind (.ref s.heap.objs.size)
   repeat (any_goals (first | assumption | wp_step))
   refine codeAny_mono (codeAny_call_builtin (R := wants (fun r s₂ => r = .none /\ ∃ h' tk, s₂ = { s with heap := h', toks := tk } ∧
     SetI prog w h' s.heap.objs.size PI items.size /\ (∀ b o, b < s.heap.objs.size -> s.heap.get? b = some o -> h'.get? b = some o)) E) PySem.F.called_set.init.plain PySem.F.entry_set_init (check_set_init_1 hT ?_)) fun r₂ s₂ hr₂ => ?_
   ·obtain ⟨ol, hol, hcl, nl, hdl⟩ := hl
    obtain ⟨ocls, odict, odata, oslots⟩ := ol
    simp only at hcl hdl
    subst hcl; subst hdl
    have hol' : (s.heap.push (kt w)).get? l = some { cls := .type "list", dict := odict, data := .seq items nl, slots := oslots } := uD _ hol
    have hsls := PySem.F.sub_list_set
    have hslf := PySem.F.sub_list_frozenset
    have hne : (Value.type "list" == Value.type "dict") = false := by decide
    have hl1 : (s.heap.push (kt w)).IsList l items := ⟨_, hol', rfl, nl, rfl⟩
    unfold kt at hS hT hol' hl1 ⊢
    unfold Builtin.«set.__init__» noKeywords Builtin.Frozenset.updateFrom
    generalize hPI : pyIter = PIt
    wp_walk
    subst hPI
    refine wpAny_pyIter_list hl1 ?_
    refine wpAny_bind (wpAny_runValue ?_)
    have hlS : l < s.heap.objs.size := uH hol
    have hh3 : A.in1.in1.in1.handled = none := by simp [hh]
    have hneI : l ≠ (s.heap.push (kt w)).objs.size := by
     rw [u3]; exact uZ (xJ hlS)
    have hSf : s.heap.objs.size ∉ [(s.heap.push (kt w)).objs.size, l] := by
     rw [u3]; simp only [uU, uc, ur, or_false, not_or]
     exact ⟨uZ (Nat.lt_succ_self _), xM hlS⟩
    refine va2 ((Walks.list hh3 _ l hneI items).toS) s.heap.objs.size
     hSf (PI := PI) (fun i v hv => hi i v hv) hb (items.size - 0) 0 _ (by lia) (ue _)
     ⟨⟨_, uP _ rfl, rfl, rfl⟩, (hl1.push _)⟩ ?hS0 ?hR
    case hS0 =>
     exact ⟨#[], 0, _, uD _ hS, fun e he => by simp at he, fun e he => by simp at he, uI _, fun z => absurd z (uq _), by rfl, rfl⟩
    case hR =>
     intro s' hm hS'
     obtain ⟨h', g', d', tk', os'⟩ := s'
     have eg : g' = s.gens := hm.gens
     have ed : d' = s.drawn := hm.drawn
     have eo : os' = s.os := hm.os
     subst eg; subst ed; subst eo
     show wpAny _ _ _ _ _ _
     refine wpAny_pure ?_
     show wpAny _ _ (ret Value.none) _ _ _
     refine wpAny_pure ⟨rfl, h', tk', rfl, hS', fun b o hb e => ?_⟩
     have hb1 : b ≠ s.heap.objs.size := uZ hb
     have hb2 : b ≠ (s.heap.push (kt w)).objs.size := by
      rw [u3]; exact uZ (xJ hb)
     exact hm.heap b o (by simp only [uU, uc, ur, or_false, not_or]; exact ⟨hb1, hb2⟩) (uD _ (uD _ e))
   ·cases r₂ with
    | error e => exact hr₂
    | ok fl₂ =>
     cases fl₂ with
     | ret r =>
      obtain ⟨rfl, h', tk, rfl, hS', hk'⟩ := hr₂
      have hlt : s.heap.objs.size < h'.objs.size := by obtain ⟨_, _, _, q, _⟩ := id hS'; exact uH q
      repeat (any_goals (first | assumption | wp_step))
      exact h _ _ hS' hlt hk'
     | _ => exact hr₂.elim
  | _ => exact hr.elim
end
theorem Wab {p : Array Nat} {sl : Nat} : ∀ (f lo hi : Nat), hi - lo <= f -> lo <= hi -> hi <= p.size -> (hi = p.size \/ ∃ j, p[hi]? = some j /\ sl <= j) →
  SetTable.below.go p sl f lo hi = p.size \/ ∃ j, p[SetTable.below.go p sl f lo hi]? = some j /\ sl <= j
 | 0, lo, hi, hf, hl, hp, h => by
  have : lo = hi := by lia
  subst this
  unfold SetTable.below.go
  exact h
 | f + 1, lo, hi, hf, hl, hp, h => by
  unfold SetTable.below.go
  by_cases hlt : lo < hi
  ·rw [if_pos hlt]
   dsimp only
   have hm : (lo + hi) / 2 < p.size := by lia
   have hg : p.getD ((lo + hi) / 2) sl = p[(lo + hi) / 2] := by simp [Array.getD, hm]
   by_cases hc : p.getD ((lo + hi) / 2) sl < sl
   ·rw [if_pos hc]
    exact Wab f _ _ (by lia) (by lia) hp h
   ·rw [if_neg hc]
    exact Wab f _ _ (by lia) (by lia) (by lia) (.inr ⟨p[(lo + hi) / 2], xS hm, by rw [← hg]; lia⟩)
  ·rw [if_neg hlt]
   have : lo = hi := by lia
   subst this
   exact h
theorem Za1 {p : Array Nat} {sl j : Nat} (h : p[SetTable.below p sl]? = some j) : sl <= j := by
 rcases Wab (p := p) (sl := sl) p.size 0 p.size (by lia) (ue _) (uI _) (.inl rfl) with e | ⟨j', e, q⟩
 ·have e' : SetTable.below p sl = p.size := e
  rw [e', u6 (uI _)] at h; cases h
 ·have e' : p[SetTable.below p sl]? = some j' := e
  rw [e'] at h; cases h; exact q
theorem ZW {p : Array Nat} : ∀ (f hi : Nat), SetTable.below.go p 0 f 0 hi = 0
 | 0, hi => by unfold SetTable.below.go; rfl
 | f + 1, hi => by
  unfold SetTable.below.go
  split
  ·dsimp only
   rw [if_neg (Nat.not_lt_zero _)]
   exact ZW f _
  ·rfl
theorem YaP (p : Array Nat) : SetTable.below p 0 = 0 := ZW _ _
noncomputable def qP (l : List Nat) (sl : Nat) : Nat := l.countP (fun x => decide (x < sl))
theorem Yap {sl sl' : Nat} (h : sl <= sl') : ∀ l, qP l sl <= qP l sl'
 | [] => uI _
 | x :: l => by
  have := Yap h l
  unfold qP at *
  rw [xj, xj]
  by_cases h1 : x < sl
  ·have h2 : x < sl' := by lia
   simp only [h1, h2, decide_true, if_true]; lia
  ·by_cases h2 : x < sl'
   ·simp only [h1, h2, decide_true, decide_false, if_true, uM, if_false]; lia
   ·simp only [h1, h2, decide_false, uM, if_false]; lia
theorem jan {sl j : Nat} (h : sl <= j) : ∀ (l : List Nat), j ∈ l -> qP l sl + 1 <= qP l (j + 1)
 | [], m => by cases m
 | x :: l, m => by
  have mo := Yap (show sl <= j + 1 by lia) l
  rcases uU.mp m with rfl | m'
  ·unfold qP at *
   rw [xj, xj]
   have h1 : ¬ j < sl := by lia
   have h2 : j < j + 1 := by lia
   simp only [h1, h2, decide_true, decide_false, if_true, uM, if_false]; lia
  ·have := jan h l m'
   unfold qP at *
   rw [xj, xj]
   by_cases h1 : x < sl
   ·have h2 : x < j + 1 := by lia
    simp only [h1, h2, decide_true, if_true]; lia
   ·by_cases h2 : x < j + 1
    ·simp only [h1, h2, decide_true, decide_false, if_true, uM, if_false]; lia
    ·simp only [h1, h2, decide_false, uM, if_false]; lia
theorem jbb (l : List Nat) (sl : Nat) : qP l sl <= l.length := List.countP_le_length
theorem vah {α : Type} {f : Nat -> Nat} {P : α -> Prop} : ∀ (n k : Nat) (left : List α) (out : Array α), n = left.length -> (∀ x ∈ left, P x) -> (∀ x ∈ out.toList, P x) →
  (pickOrder.go f n k left out).size = out.size + n /\ ∀ x ∈ (pickOrder.go f n k left out).toList, P x
 | 0, k, left, out, hn, hl, ho => by unfold pickOrder.go; exact ⟨rfl, ho⟩
 | n + 1, k, left, out, hn, hl, ho => by
  unfold pickOrder.go
  have hlt : f k % left.length < left.length := Nat.mod_lt _ (by lia)
  rw [uG hlt]
  dsimp only
  obtain ⟨a, b⟩ := vah (f := f) (P := P) n (k + 1) (left.eraseIdx (f k % left.length)) (out.push left[f k % left.length]) (by rw [List.length_eraseIdx_of_lt hlt]; lia) (fun x hx => hl x (List.mem_of_mem_eraseIdx hx)) (fun x hx => by
   rw [yO] at hx
   rcases uj.mp hx with q | q
   ·exact ho x q
   ·rw [uc] at q; rw [q]; exact hl _ (xB hlt))
  exact ⟨by rw [a, xw]; lia, b⟩
theorem kaS {α : Type} (f : Nat -> Nat) (xs : Array α) : (pickOrder f xs).size = xs.size := by
 have := (vah (f := f) (P := fun _ => True) xs.size 0 xs.toList #[] (by simp) (fun _ _ => trivial) (fun _ _ => trivial)).1
 unfold pickOrder; rw [this]; simp
theorem ja3 {α : Type} (f : Nat -> Nat) (xs : Array α) : ∀ x ∈ (pickOrder f xs).toList, x ∈ xs.toList :=
 (vah (f := f) (P := fun x => x ∈ xs.toList) xs.size 0 xs.toList #[] (by simp) (fun _ h => h) (fun _ h => by simp at h)).2
section
variable {M : Model} {A : Around} {E : ZVP} {s : Shared}
theorem XaB {src : Source} {n : Nat} {Q : Nat -> Shared -> Prop} (hn : n ≠ 0) (h : ∀ i, i < n -> ∀ d, Q i { s with drawn := d }) : wpAny M A (choose src n) Q E s := fun Γ p hΓ => by
 show Sem.wp M Γ (.choose src n .pure) _ _ p s
 rw [Sem.wp_choose]
 refine ⟨hn, ?_⟩
 have := h _ (Nat.mod_lt (M.w.draws src (s.drawn.get src)) (Nat.pos_of_ne_zero hn)) (s.drawn.bump src)
 simpa using this
theorem qO {α : Type} : ∀ (n : Nat) (xs : List α) (s : Shared) {Q : List α -> Shared -> Prop}, n = xs.length -> (∀ ys, ys.length = n -> (∀ y ∈ ys, y ∈ xs) -> ∀ d, Q ys { s with drawn := d }) -> wpAny M A (drawOrder n xs) Q E s
 | 0, xs, s, Q, hn, h => by unfold drawOrder; exact wpAny_pure (h [] rfl (fun _ q => by cases q) s.drawn)
 | n + 1, [], s, Q, hn, h => by cases hn
 | n + 1, x :: xs, s, Q, hn, h => by
  unfold drawOrder
  refine wpAny_bind (XaB (by simp) fun i hi d => ?_)
  rw [uG hi]
  dsimp only
  refine wpAny_bind (qO n _ _ (by rw [List.length_eraseIdx_of_lt hi, ← hn]; rfl) fun ys hl hm d' => wpAny_pure (h _ (by rw [ub, hl]) (fun y hy => ?_) d'))
  rcases uU.mp hy with q | q
  ·rw [q]; exact xB hi
  ·exact List.mem_of_mem_eraseIdx (hm y q)
end
theorem Wal : entryFor table "set.__iter__" = some Builtin.«frozenset.__iter__» :=
 entryFor_alias (id' := "frozenset.__iter__") (by kernel_rfl) rfl (by decide +kernel) (by kernel_rfl)
theorem slot_setiter_next : Slot "set_iterator" "__next__" "set_iterator.__next__" :=
 .of (owner := "set_iterator") (n := "__next__") (by rw [typeLookup_type, builtinLookup_eq_fast]; kernel_rfl) (by decide +kernel) (by decide +kernel) (by decide +kernel)
  (by first | exact .inl (by decide +kernel) | exact .inr (by decide +kernel)) (by rw [isSubtype_type]; kernel_rfl)
theorem XZ : entryFor table "set_iterator.__next__" = some Builtin.«set_iterator.__next__» := entryFor_of_tree (by kernel_rfl)
theorem W5 (a : Value) : argsOk "set_iterator.__next__" ⟨[a], []⟩ := by unfold argsOk; kernel_rfl
noncomputable def itO (first : Value) (i : Nat) (S : Addr) (n ep : Nat) : Obj := { cls := .type "set_iterator", data := .fields #[first, .int i 0, .ref S, .int n 0, .int ep 0] }
noncomputable def jQ (es : Array (Int × Value)) (ep : Nat) (t : SetTable) : Obj := { cls := .type "set", dict := none, data := .set es ep t, slots := #[] }
def SItr (w : World) (h : Heap) (it S : Addr) (es : Array (Int × Value)) (ep : Nat) (t : SetTable) (c m : Nat) : Prop :=
 ∃ (first : Value) (i : Nat), h.get? it = some (itO first i S es.size ep) /\ c <= es.size ∧
  ((w.params.followText "set-order" = true /\ (∃ sl : Nat, first = .int sl 0) /\ i = c /\ es.size = c + m) \/
   (w.params.followText "set-order" = false /\ ∃ (T : Addr) (ps : List Nat), first = .ref T /\ h.get? T = some { cls := .type "tuple", data := .seq (ps.map fun i : Nat => rawInt i).toArray } /\ ps.length = es.size /\ (∀ x ∈ ps, x < es.size) /\ i = c /\ es.size = c + m) \/
   (w.params.followText "set-order" = false /\ (!t.plain && decide (es.size > 1)) = false /\ ∃ sl : Nat, first = .int sl 0 /\ (c = 0 -> sl = 0) /\ c <= qP t.place.toList sl /\ es.size <= qP t.place.toList sl + m))
theorem SItr.keep {w : World} {h h' : Heap} {it S : Addr} {es : Array (Int × Value)} {ep : Nat} {t : SetTable} {c m : Nat} {L : Addr} {o : Obj} (q : SItr w h it S es ep t c m) (hL : h.get? L = some o) (hc : o.cls = .type "list") (k : ∀ b u, b ≠ L -> h.get? b = some u -> h'.get? b = some u) : SItr w h' it S es ep t c m := by
 obtain ⟨first, i, ho, hcs, r⟩ := q
 have n1 : it ≠ L := fun e => by subst e; rw [ho] at hL; cases hL; exact absurd (show Value.type "set_iterator" = Value.type "list" from hc) (by decide)
 refine ⟨first, i, k _ _ n1 ho, hcs, ?_⟩
 rcases r with r | ⟨r1, T, ps, r2, r3, r4⟩ | r
 ·exact .inl r
 ·refine .inr (.inl ⟨r1, T, ps, r2, k _ _ (fun e => ?_) r3, r4⟩)
  subst e; rw [r3] at hL; cases hL; exact absurd (show Value.type "tuple" = Value.type "list" from hc) (by decide)
 ·exact .inr (.inr r)
section
variable {prog : Program} {w : World} {A : Around} {E : ZVP} {s : Shared} {S it : Addr} {es : Array (Int × Value)} {ep : Nat} {t : SetTable}
theorem YO {Q : Bool -> Shared -> Prop} (h : Q (w.params.followText "set-order") s) : wpAny (model prog w) A setsByText Q E s := wpAny_bind (wpAny_askSetting (wpAny_pure h))
theorem vaU {sl g : Nat} {Q : Option (Value × Nat) -> Shared -> Prop} (hS : s.heap.get? S = some (jQ es ep t)) (hf : t.fits es.size = true) (hw : w.params.followText "set-order" = true)
  (h : ∀ f : Nat -> Nat, Q (((pickOrder f es)[g]?).map fun e => (e.2, sl)) s) : wpAny (model prog w) A (setNext S sl g ep) Q E s := by
 unfold setNext
 refine wpAny_bind (wpAny_setState_of hS rfl hf ?_)
 dsimp only
 refine wpAny_bind (YO ?_)
 rw [hw]
 simp only [↓reduceIte, bne_self_eq_false, uM]
 unfold setWalk
 refine wpAny_bind (wpAny_bind (wpAny_setState_of hS rfl hf ?_))
 dsimp only
 refine wpAny_bind (YO ?_)
 rw [hw]
 simp only [↓reduceIte]
 exact wpAny_bind (wpAny_askSetting (wpAny_pure (wpAny_pure (h _))))
theorem qa7 {sl g : Nat} {Q : Option (Value × Nat) -> Shared -> Prop} (hS : s.heap.get? S = some (jQ es ep t)) (hf : t.fits es.size = true) (hw : w.params.followText "set-order" = false) (hd : (!t.plain && decide (es.size > 1)) = false) (hl : t.led = true)
  (h : Q (match es[SetTable.below t.place sl]?, t.place[SetTable.below t.place sl]? with | some (_, x), some j => some (x, j + 1) | _, _ => none) s) : wpAny (model prog w) A (setNext S sl g ep) Q E s := by
 unfold setNext
 refine wpAny_bind (wpAny_setState_of hS rfl hf ?_)
 dsimp only
 refine wpAny_bind (YO ?_)
 rw [hw]
 simp only [uM, if_false]
 show wpAny _ _ (if (!t.plain && decide (es.size > 1)) = true then _ else _) _ _ s
 rw [hd]
 simp only [uM, if_false]
 refine wpAny_bind (m := (if (!t.led && !es.isEmpty) = true then unsupported "set:maker-not-led" else pure ())) ?_
 rw [hl]
 exact wpAny_pure (wpAny_pure h)
theorem WaQ {pl : Nat} {e : Int × Value} {Q : ZVP} (hS : s.heap.get? S = some (jQ es ep t)) (hf : t.fits es.size = true) (he : es[pl]? = some e) (h : Q e.2 s) : wpAny (model prog w) A (setNextDrawn S pl ep) Q E s := by
 unfold setNextDrawn
 refine wpAny_bind (wpAny_setState_of hS rfl hf ?_)
 dsimp only
 simp only [bne_self_eq_false, uM, if_false, he]
 exact wpAny_pure h
end
section
variable {prog : Program} {w : World} {A : Around} {E : ZVP} {s : Shared} {S it : Addr} {es : Array (Int × Value)} {ep : Nat} {t : SetTable}
theorem Xu {o : Obj} {vs : Array Value} {i : Nat} {x : Value} {h : Heap} (ho : h.get? it = some o) (hd : o.data = .fields vs) : (h.update it (Obj.mapFields (·.setIfInBounds i x))).get? it = some { o with data := .fields (vs.setIfInBounds i x) } := by
 have := uu (Obj.mapFields (·.setIfInBounds i x)) ho (Obj.isFreed_of_fields (Obj.data_mapFields hd _))
 rw [this]
 obtain ⟨c, d, dt, sl⟩ := o
 simp only at hd; subst hd; rfl
theorem Wba {Q : PySem.Fin -> Shared -> Prop} {E' : ZVP} (hh : A.handled = none)
  (h : ∀ (h' : Heap) (a : Addr), (∃ o1 o2, h' = (s.heap.push o1).push o2) -> Shared.TypeIs { s with heap := h' } (.ref a) "StopIteration" -> E' (.ref a) { s with heap := h' }) :
  wpAny (model prog w) A (newExc (.type "StopIteration") [] >>= raiseNew) Q E' s := by
 refine wpAny_bind ?_
 simp only [newExc, newTuple]
 refine wpAny_bind (wpAny_newObj_type ?_ (by size_fits))
 refine wpAny_bind (m := firstArgMember _ _) (wpAny_of_eq (a := Value.none) (by first | rfl | (simp only [firstArgMember]; rfl)) ?_)
 refine wpAny_newObj_type ?_ (by size_fits)
 simp only [raiseNew]
 refine wpAny_bind (wpAny_handled ?_)
 rw [hh]
 refine wpAny_bind (wpAny_pure (wpAny_throw ?_))
 exact h _ _ ⟨_, _, rfl⟩ ⟨_, uP _ rfl, rfl⟩
theorem jaA {c m : Nat} {Q : Option Value -> Shared -> Prop} (hh : A.handled = none) (hS : s.heap.get? S = some (jQ es ep t)) (hf : t.fits es.size = true) (hl : t.led = !w.params.followText "set-order") (hI : SItr w s.heap it S es ep t c m)
  (q1 : ∀ v h', (∃ e ∈ es.toList, v = e.2) -> 0 < m -> SItr w h' it S es ep t (c + 1) (m - 1) -> xk it s.heap h' -> Q (some v) { s with heap := h' })
  (q0 : ∀ h', (c = 0 -> es.size = 0) -> Heap.ExtBut it s.heap h' -> Q none { s with heap := h' }) : wpAny (model prog w) A (pyNext (.ref it)) Q E s := by
 obtain ⟨first, i, ho, hcs, r⟩ := hI
 have hT : s.TypeIs (.ref it) "set_iterator" := ⟨_, ho, rfl⟩
 have hpl : t.place.size = es.size := by unfold SetTable.fits at hf; simp at hf; exact hf.1
 unfold pyNext
 refine wpAny_bind (wpAny_attempt (wpAny_callSpecial?_slot (name := Str.ofString "__next__") hT slot_setiter_next
  (wpAny_call_entry slot_setiter_next hT XZ ?_ (W5 _))))
 unfold Builtin.«set_iterator.__next__»
 refine wpAny_bind (m := slotArgs "__next__" 0 ⟨[.ref it], []⟩) (wpAny_pure ?_)
 refine wpAny_bind (wpAny_fieldsOf ho rfl ?_)
 dsimp only
 refine wpAny_bind (wpAny_setEntries_of hS rfl hf ?_)
 simp only [bne_self_eq_false, uM, if_false]
 have fin : ∀ (h1 : Heap), xk it s.heap h1 -> (c = 0 -> es.size = 0) -> wpAny (model prog w) A.in1 (newExc (.type "StopIteration") [] >>= raiseNew : Sem PySem.Fin) (fun fin s' => match fin with | .done f => False | .again _ => False) (fun e s' => wpAny (model prog w) A (do if ← isInstance e (.type "StopIteration") then pure none else throw e) Q E s') { s with heap := h1 } := fun h1 sb hz => by
  refine Wba hh fun h' a hx hty => ?_
  obtain ⟨o1, o2, rfl⟩ := hx
  refine wpAny_bind (wpAny_isInstance (T := "StopIteration") (b := true) hty isSubtype_stop ?_)
  exact wpAny_pure (q0 _ hz ((sb.extBut.push _).push _))
 rcases r with ⟨hw, ⟨sl, rfl⟩, rfl, hm⟩ | ⟨hw, T, ps, rfl, hTp, hpz, hps, rfl, hm⟩ | ⟨hw, hd, sl, rfl, h0, hc, hm⟩
 ·dsimp only
  refine wpAny_bind (vaU (sl := (sl : Int).toNat) (g := (i : Int).toNat) hS hf hw fun f => ?_)
  rw [show (i : Int).toNat = i from xK i]
  have hz := kaS f es
  by_cases hi : i < es.size
  ·have e1 : (pickOrder f es)[i]? = some ((pickOrder f es)[i]'(by lia)) := xS (by lia)
   rw [e1]
   simp only [xu]
   refine wpAny_bind (wpAny_setField ho rfl (by simp [itO]) ?_)
   refine wpAny_bind (wpAny_setField (Xu ho rfl) rfl (by simp [itO]) ?_)
   refine wpAny_pure ⟨_, rfl, wpAny_pure (q1 _ _ ⟨_, ja3 f es _ (by rw [xg]; exact xz _), rfl⟩ (by lia) ?_ ((Heap.SameBut.update ..).trans (Heap.SameBut.update ..)))⟩
   refine ⟨_, i + 1, Xu (Xu ho rfl) rfl, hi, .inl ⟨hw, ⟨_, rfl⟩, rfl, by lia⟩⟩
  ·have e1 : (pickOrder f es)[i]? = none := u6 (by lia)
   rw [e1]
   simp only [Option.map_none]
   refine wpAny_bind (wpAny_setField ho rfl (by simp [itO]) ?_)
   refine wpAny_mono (fin _ (Heap.SameBut.update ..) (fun z => by lia)) (fun f s' z => ?_) fun _ _ z => z
   cases f <;> exact z.elim
 ·dsimp only
  refine wpAny_bind (wpAny_seqItems hTp rfl ?_)
  dsimp only
  rw [show (i : Int).toNat = i from xK i]
  by_cases hi : i < es.size
  ·have hi2 : i < ps.length := by lia
   have e1 : ((ps.map fun i : Nat => rawInt i).toArray)[i]? = some (rawInt (ps[i] : Nat)) := by simp [hi2]
   rw [e1]
   have hx := hps _ (xB hi2)
   have e2 : es[ps[i]]? = some es[ps[i]] := xS hx
   refine wpAny_bind (WaQ (pl := ((ps[i] : Nat) : Int).toNat) hS hf (by rw [xK]; exact e2) ?_)
   refine wpAny_bind (wpAny_setField ho rfl (by simp [itO]) ?_)
   refine wpAny_pure ⟨_, rfl, wpAny_pure (q1 _ _ ⟨_, by rw [xg]; exact xz hx, rfl⟩ (by lia) ?_ (Heap.SameBut.update ..))⟩
   have hne : T ≠ it := fun e => by subst e; rw [ho] at hTp; exact absurd (show Value.type "set_iterator" = Value.type "tuple" from congrArg Obj.cls (Option.some.inj hTp)) (by decide)
   refine ⟨_, i + 1, Xu ho rfl, hi, .inr (.inl ⟨hw, T, ps, rfl, ?_, hpz, hps, rfl, by lia⟩)⟩
   rw [(Heap.SameBut.update s.heap it _).2 T hne]
   exact hTp
  ·have e1 : ((ps.map fun i : Nat => rawInt i).toArray)[i]? = none := by
    rw [u6]; simp; lia
   rw [e1]
   refine wpAny_bind (wpAny_setField ho rfl (by simp [itO]) ?_)
   refine wpAny_bind (wpAny_setField (Xu ho rfl) rfl (by simp [itO]) ?_)
   refine wpAny_mono (fin _ ((Heap.SameBut.update ..).trans (Heap.SameBut.update ..)) (fun z => by lia)) (fun f s' z => ?_) fun _ _ z => z
   cases f <;> exact z.elim
 ·dsimp only
  rw [hw] at hl
  refine wpAny_bind (qa7 (sl := (sl : Int).toNat) (g := (i : Int).toNat) hS hf hw hd hl ?_)
  rw [show (sl : Int).toNat = sl from xK sl]
  by_cases hb : SetTable.below t.place sl < es.size
  ·have e1 : es[SetTable.below t.place sl]? = some es[SetTable.below t.place sl] := xS hb
   have e2 : t.place[SetTable.below t.place sl]? = some (t.place[SetTable.below t.place sl]'(by lia)) := xS (by lia)
   rw [e1, e2]
   dsimp only
   have hle := Za1 e2
   have hst := jan hle t.place.toList (by rw [xg]; exact xz (by lia))
   have hup := jbb t.place.toList (t.place[SetTable.below t.place sl]'(by lia) + 1)
   rw [uR] at hup
   refine wpAny_bind (wpAny_setField ho rfl (by simp [itO]) ?_)
   refine wpAny_bind (wpAny_setField (Xu ho rfl) rfl (by simp [itO]) ?_)
   refine wpAny_pure ⟨_, rfl, wpAny_pure (q1 _ _ ⟨_, by rw [xg]; exact xz hb, rfl⟩ (by lia) ?_ ((Heap.SameBut.update ..).trans (Heap.SameBut.update ..)))⟩
   exact ⟨_, i + 1, Xu (Xu ho rfl) rfl, by lia, .inr (.inr ⟨hw, hd, _, rfl, fun z => by lia, by lia, by lia⟩)⟩
  ·have e1 : es[SetTable.below t.place sl]? = none := u6 (by lia)
   rw [e1]
   dsimp only
   refine wpAny_bind (wpAny_setField ho rfl (by simp [itO]) ?_)
   refine wpAny_mono (fin _ (Heap.SameBut.update ..) (fun z => ?_)) (fun f s' z => ?_) fun _ _ z => z
   ·have := h0 z
    subst this
    rw [YaP] at hb
    lia
   ·cases f <;> exact z.elim
end
section
variable {prog : Program} {w : World} {A : Around} {E : ZVP} {s : Shared} {S it : Addr} {es : Array (Int × Value)} {ep : Nat} {t : SetTable}
theorem Wa4 {Q : ZVP} (hS : s.heap.get? S = some (jQ es ep t)) (hf : t.fits es.size = true) (hz : es.size < scanBound)
  (h : ∀ (h' : Heap) (it : Addr) (d : Drawn), SItr w h' it S es ep t 0 es.size -> s.heap.objs.size <= it -> (∀ b o, s.heap.get? b = some o -> h'.get? b = some o) -> Q (.ref it) { s with heap := h', drawn := d }) :
  wpAny (model prog w) A (pyIter (.ref S)) Q E s := by
 have hT : s.TypeIs (.ref S) "set" := ⟨_, hS, rfl⟩
 refine wpAny_pyIter_slot hT PySem.F.slot_set_iter (wpAny_call_entry PySem.F.slot_set_iter hT Wal ?_ (PySem.F.args_set_iter_1 _))
 unfold Builtin.«frozenset.__iter__»
 refine wpAny_bind (m := Builtin.Frozenset.slot0 "__iter__" ⟨[.ref S], []⟩) (wpAny_pure ?_)
 unfold Builtin.Frozenset.sizeOf
 refine wpAny_bind (wpAny_bind (wpAny_setEntries_of hS rfl hf (wpAny_pure ?_)))
 unfold setDrawn
 refine wpAny_bind (wpAny_bind (wpAny_setState_of hS rfl hf ?_))
 dsimp only
 refine wpAny_bind (YO (wpAny_pure ?_))
 show wpAny _ _ (if (!w.params.followText "set-order" && (!t.plain && decide (es.size > 1))) = true then _ else _) _ _ s
 by_cases hw : w.params.followText "set-order" = true
 ·rw [hw]
  simp only [Bool.not_true, Bool.false_and, uM, if_false]
  refine wpAny_bind (wpAny_pure ?_)
  refine wpAny_bind (wpAny_setEpoch_of hS rfl hf ?_)
  refine wpAny_bind (wpAny_newObj_type (wpAny_pure ⟨_, rfl, "set_iterator", _, ⟨_, uP _ rfl, rfl⟩, slot_setiter_next.lookup, ?_⟩))
  exact h _ _ s.drawn ⟨_, 0, uP _ rfl, ue _, .inl ⟨hw, ⟨0, rfl⟩, rfl, (xa _).symm⟩⟩ (uI _) fun b o e => uD _ e
 ·have hw' : w.params.followText "set-order" = false := by simpa using hw
  rw [hw']
  simp only [Bool.not_false, Bool.true_and]
  by_cases hd : (!t.plain && decide (es.size > 1)) = true
  ·rw [if_pos hd]
   refine wpAny_bind (qO es.size (uv es.size) s (by simp) fun ys hl hm d => wpAny_bind ?_)
   have hzl : es.size <= sizeLine := fits_of_scanBound hz
   refine wpAny_newTuple ?_ (by rw [uB, hl]; exact hzl)
   have hS2 : (s.heap.push { cls := .type "tuple", data := .seq (ys.map fun i : Nat => rawInt i).toArray }).get? S = some (jQ es ep t) := uD _ hS
   refine wpAny_bind (wpAny_setEpoch_of hS2 rfl hf ?_)
   refine wpAny_bind (wpAny_newObj_type (wpAny_pure ⟨_, rfl, "set_iterator", _, ⟨_, uP _ rfl, rfl⟩, slot_setiter_next.lookup, ?_⟩))
   exact h _ _ d ⟨_, 0, uP _ rfl, ue _, .inr (.inl ⟨hw', _, ys, rfl, uD _ (uP _ rfl), hl, fun x hx => yL.mp (hm x hx), rfl, (xa _).symm⟩)⟩ (by rw [size_push']; exact Nat.le_succ _) fun b o e => uD _ (uD _ e)
  ·have hd' : (!t.plain && decide (es.size > 1)) = false := by simpa using hd
   rw [hd']
   simp only [uM, if_false]
   refine wpAny_bind (wpAny_pure ?_)
   refine wpAny_bind (wpAny_setEpoch_of hS rfl hf ?_)
   refine wpAny_bind (wpAny_newObj_type (wpAny_pure ⟨_, rfl, "set_iterator", _, ⟨_, uP _ rfl, rfl⟩, slot_setiter_next.lookup, ?_⟩))
   exact h _ _ s.drawn ⟨_, 0, uP _ rfl, ue _, .inr (.inr ⟨hw', hd', 0, rfl, fun _ => rfl, ue _, Nat.le_add_left _ _⟩)⟩ (uI _) fun b o e => uD _ e
noncomputable def Xa2 (xs : Array Value) (c : Nat) : Obj := { cls := .type "list", dict := none, data := .seq xs c, slots := #[] }
theorem ka0 {R : Result -> Shared -> Prop} {L : Addr} {res : Value} (hh : A.handled = none) (hf : t.fits es.size = true) (hl : t.led = !w.params.followText "set-order") (hz : es.size < scanBound) :
  ∀ (m c : Nat) (s : Shared) (acc : Array Value) (k : Nat), s.heap.get? S = some (jQ es ep t) -> SItr w s.heap it S es ep t c m -> s.heap.get? L = some (Xa2 acc k) -> acc.size = c -> (∀ v ∈ acc.toList, ∃ e ∈ es.toList, v = e.2) →
   (∀ h' acc' k', (∀ b o, b ≠ L -> b ≠ it -> s.heap.get? b = some o -> h'.get? b = some o) -> h'.get? L = some (Xa2 acc' k') -> (∀ v ∈ acc'.toList, ∃ e ∈ es.toList, v = e.2) -> acc'.size <= es.size -> (acc'.size = 0 -> es.size = 0) -> R (.ok (.ret res)) { s with heap := h' }) →
   codeAny (model prog w) A (.builtin "list.extend.loop" ⟨[.ref L, .ref it, res], []⟩) R s := by
 intro m
 induction m with
 | zero =>
  intro c s acc k hS hI hL hc hm hR
  refine codeAny_builtin xc ?_
  rw [Around.under_plainId ux _]
  show wpAny _ A.in1 (pyNext (.ref it) >>= _) _ _ s
  have hcs : c <= es.size := by obtain ⟨_, _, _, q, _⟩ := hI; exact q
  have nI : it ≠ L := by
   obtain ⟨_, _, q, _⟩ := hI
   intro e; subst e; rw [q] at hL; exact absurd (show Value.type "set_iterator" = Value.type "list" from congrArg Obj.cls (Option.some.inj hL)) (by decide)
  refine wpAny_bind (jaA hh hS hf hl hI (fun v h' _ hpos => absurd hpos (uq _)) fun h' hz0 ext => ?_)
  exact wpAny_pure (hR h' acc k (fun b o h1 h2 e => ext b o h2 e) (ext L _ (Ne.symm nI) hL) hm (by lia) (fun z => hz0 (by lia)))
 | succ m ih =>
  intro c s acc k hS hI hL hc hm hR
  refine codeAny_builtin xc ?_
  rw [Around.under_plainId ux _]
  show wpAny _ A.in1 (pyNext (.ref it) >>= _) _ _ s
  have hcs : c <= es.size := by obtain ⟨_, _, _, q, _⟩ := hI; exact q
  have nI : it ≠ L := by
   obtain ⟨_, _, q, _⟩ := hI
   intro e; subst e; rw [q] at hL; exact absurd (show Value.type "set_iterator" = Value.type "list" from congrArg Obj.cls (Option.some.inj hL)) (by decide)
  have nS : S ≠ L := by
   intro e; subst e; rw [hS] at hL; exact absurd (show Value.type "set" = Value.type "list" from congrArg Obj.cls (Option.some.inj hL)) (by decide)
  have nSI : S ≠ it := by
   obtain ⟨_, _, q, _⟩ := hI
   intro e; subst e; rw [hS] at q; exact absurd (show Value.type "set" = Value.type "set_iterator" from congrArg Obj.cls (Option.some.inj q)) (by decide)
  refine wpAny_bind (jaA hh hS hf hl hI (fun v h' hv hpos hI' sb => ?_) fun h' hz0 ext => ?_)
  ·have hL' : h'.get? L = some (Xa2 acc k) := by rw [sb.2 L (Ne.symm nI)]; exact hL
   have hS' : h'.get? S = some (jQ es ep t) := by rw [sb.2 S nSI]; exact hS
   show wpAny _ A.in1 (updateSeq L (·.push v) >>= _) _ _ _
   refine wpAny_bind ?_
   have hcs' : c + 1 <= es.size := by obtain ⟨_, _, _, q, _⟩ := hI'; exact q
   have hzl : es.size <= sizeLine := fits_of_scanBound hz
   have hL2 := uu (Obj.mapSeq (·.push v)) hL' rfl
   have oth : ∀ b o, b ≠ L -> h'.get? b = some o -> (h'.update L (Obj.mapSeq (·.push v))).get? b = some o := fun b o hb e => (u5 _ _ (Ne.symm hb)).trans e
   refine wpAny_updateSeq hL' rfl (wpAny_pure ⟨plainId_quiet ux _, ih (c + 1) _ (acc.push v) _ (oth _ _ nS hS') (hI'.keep hL' rfl oth) hL2 (by rw [xw, hc]) (fun x hx => ?_) fun h2 acc' k' a1 a2 a3 a4 a5 => ?_⟩) (by rw [hc]; lia) (by show (acc.push v).size <= sizeLine + 1; rw [xw, hc]; lia)
   ·rw [yO] at hx
    rcases uj.mp hx with q | q
    ·exact hm x q
    ·rw [uc] at q; rw [q]; exact hv
   ·exact hR h2 acc' k' (fun b o h1 h3 e => a1 b o h1 h3 (oth b o h1 (by rw [sb.2 b h3]; exact e))) a2 a3 a4 a5
  ·exact wpAny_pure (hR h' acc k (fun b o h1 h2 e => ext b o h2 e) (ext L _ (Ne.symm nI) hL) hm (by lia) (fun z => hz0 (by lia)))
end
end L2
namespace L2
open PySem PySem.W PyProof.Rows
section
variable {prog : Program} {w : World} {A : Around} {E : ZVP} {s : Shared} {S it : Addr} {es : Array (Int × Value)} {ep : Nat} {t : SetTable}
theorem Zat : splitId "set.__len__" = some ("set", "__len__") := by kernel_rfl
theorem wa4 {Q : Bool -> Shared -> Prop} (hT : s.TypeIs (.ref S) "set") (h : Q false s) : wpAny (model prog w) A (Builtin.List.listLengthHint (.ref S)) Q E s := by
 unfold Builtin.List.listLengthHint
 refine wpAny_bind (wpAny_specialOf hT PySem.F.slot_set_len.lookup ?_)
 dsimp only
 rw [Zat]
 dsimp only
 refine wpAny_bind (wpAny_isInstance hT sub_set_self ?_)
 simp only [Bool.not_true, uM, if_false]
 exact wpAny_bind (wpAny_typeOf hT (wpAny_pure h))
theorem vaG {Q : List Value -> Shared -> Prop} (hh : A.handled = none) (hS : s.heap.get? S = some (jQ es ep t)) (hf : t.fits es.size = true) (hl : t.led = !w.params.followText "set-order") (hz : es.size < scanBound)
  (h : ∀ (vs : List Value) (h' : Heap) (d : Drawn), (∀ v ∈ vs, ∃ e ∈ es.toList, v = e.2) -> vs.length <= es.size -> (vs.length = 0 -> es.size = 0) -> s.heap.objs.size <= h'.objs.size -> (∀ b o, s.heap.get? b = some o -> h'.get? b = some o) -> Q vs { s with heap := h', drawn := d }) :
  wpAny (model prog w) A (collect (.ref S)) Q E s := by
 unfold collect
 refine wpAny_bind (wpAny_runValue (codeAny_builtin PySem.F.entry_proto_collect ?_))
 rw [Around.under_plainId PySem.F.plain_proto_collect _]
 show wpAny _ A.in1 (newList [] >>= fun l => again (.builtin "list.__iadd__" ⟨[l, .ref S], []⟩)) _ _ s
 refine wpAny_bind (wpAny_newObj_type ?_)
 refine wpAny_pure ⟨plainId_quiet PySem.F.plain_list_iadd _, codeAny_builtin PySem.F.entry_list_iadd ?_⟩
 rw [Around.under_plainId PySem.F.plain_list_iadd _]
 show wpAny _ A.in1 (Builtin.List.listExtendWith (.ref s.heap.objs.size) (.ref S) (.ref s.heap.objs.size)) _ _ _
 unfold Builtin.List.listExtendWith
 have hlt : S < s.heap.objs.size := uH hS
 have hS1 : (s.heap.push { cls := .type "list", data := .seq ([] : List Value).toArray }).get? S = some (jQ es ep t) := uD _ hS
 refine wpAny_bind (wpAny_typeOf (T := "set") ⟨_, hS1, rfl⟩ ?_)
 have h1 : Builtin.List.listSameRef (.ref s.heap.objs.size) (.ref S) = false := by simp only [Builtin.List.listSameRef]; exact beq_false_of_ne (xM hlt)
 have h2 : (Value.type "set" == Value.type "list") = false := by decide
 have h3 : (Value.type "set" == Value.type "tuple") = false := by decide
 simp only [h1, h2, h3, Bool.or_false, uM, if_false]
 refine wpAny_bind (Wa4 (s := { s with heap := s.heap.push { cls := .type "list", data := .seq ([] : List Value).toArray } }) hS1 hf hz fun h' it d hI hle kp => ?_)
 refine wpAny_bind (wpAny_holding (wa4 ⟨_, kp _ _ hS1, rfl⟩ ?_))
 show wpAny _ A.in1 (rule "list.extend.makes-room" >>= fun _ => Builtin.List.listTouch (.ref s.heap.objs.size) >>= fun _ =>
  again (.builtin "list.extend.loop" ⟨[.ref s.heap.objs.size, .ref it, .ref s.heap.objs.size], []⟩)) _ _ _
 refine wpAny_bind (wpAny_rule ?_)
 have hL1 : h'.get? s.heap.objs.size = some { cls := .type "list", data := .seq ([] : List Value).toArray } := kp _ _ (uP _ rfl)
 refine wpAny_bind ?_
 show wpAny _ A.in1 (updateSeq s.heap.objs.size (·.push .none) >>= fun _ => updateSeq s.heap.objs.size (·.pop)) _ _ _
 refine wpAny_bind (wpAny_updateSeq hL1 rfl ?_)
 have hL2 := uu (Obj.mapSeq (·.push Value.none)) hL1 rfl
 refine wpAny_updateSeq hL2 rfl ?_
 have hL3 := uu (Obj.mapSeq (·.pop)) hL2 rfl
 have oth : ∀ b o, b ≠ s.heap.objs.size -> h'.get? b = some o -> ((h'.update s.heap.objs.size (Obj.mapSeq (·.push Value.none))).update s.heap.objs.size (Obj.mapSeq (·.pop))).get? b = some o :=
  fun b o hb e => (u5 _ _ (Ne.symm hb)).trans ((u5 _ _ (Ne.symm hb)).trans e)
 refine wpAny_pure ⟨plainId_quiet ux _, ka0 (A := A) hh hf hl hz es.size 0 _ #[] _ (oth _ _ (uZ hlt) (kp _ _ hS1)) (hI.keep hL1 rfl oth) hL3 rfl (fun v hv => by simp at hv) fun h2 acc k a1 a2 a3 a4 a5 => ?_⟩
 show wpAny _ A (load s.heap.objs.size >>= _) _ _ _
 refine wpAny_bind (wpAny_load a2 ?_)
 refine wpAny_pure (h acc.toList h2 d a3 (by rw [uR]; exact a4) (fun z => a5 (by rw [uR] at z; exact z)) (x6 (uH a2)) fun b o e => ?_)
 have hb : b < s.heap.objs.size := uH e
 have hle' : s.heap.objs.size + 1 <= it := by rw [size_push'] at hle; exact hle
 exact a1 b o (uZ hb) (uZ (uV hb (Nat.le_of_succ_le hle'))) (oth b o (uZ hb) (kp _ _ (uD _ e)))
theorem vaM {P : Int -> Prop} {Q : ZVP} {n : Nat} (hh : A.handled = none) (hI : SetI prog w s.heap S P n) (hn : n <= 1000)
  (ask : ∀ (vs : List Value), (∀ v ∈ vs, ∃ k tk, v = .int k tk /\ P k) -> vs.length <= n -> 2 <= vs.length -> ∃ r : Nat -> Int, ∀ (h' : Heap) (d : Drawn), (∀ b o, s.heap.get? b = some o -> h'.get? b = some o) -> ∃ κ : SortKind,
   (∀ (Q : SortKind -> Shared -> Prop) (E : ZVP), Q κ { s with heap := h', drawn := d } -> wpAny (model prog w) A.in1.in1 (keyKind' vs.toArray) Q E { s with heap := h', drawn := d }) ∧
   ∀ i j, i < vs.length -> j < vs.length -> ∀ C : Bool -> Shared -> Prop, C (rlt r i j) { s with heap := h', drawn := d } -> wpAny (model prog w) A.in1.in1 (keyLt' κ (vs.getD i Value.none) (vs.getD j Value.none)) C (fun _ _ => False) { s with heap := h', drawn := d })
  (h : ∀ (out : Array Value) (h' : Heap) (d : Drawn) (L : Addr) (c : Nat), (∀ v ∈ out.toList, ∃ k tk, v = .int k tk /\ P k) -> out.size <= n -> (out.size = 0 -> n = 0) -> (∀ b o, s.heap.get? b = some o -> h'.get? b = some o) -> s.heap.objs.size <= L -> h'.get? L = some (seqObj "list" out c) -> Q (.ref L) { s with heap := h', drawn := d }) :
  wpAny (model prog w) A (call (.builtin "sorted") [.ref S]) Q E s := by
 obtain ⟨es, ep, t, hS, hel, hP, hsz, hpos, hf, hl⟩ := hI
 have h1000 : scanBound = 4096 := rfl
 refine Calls.call_function_entry kind_sorted plain_sorted entry_sorted (args_sorted1 _) ?_
 unfold Builtin.«sorted»
 refine wpAny_bind (m := checkCount "sorted" 1 1 _) (wpAny_pure ?_)
 refine wpAny_bind (vaG (A := A.in1) hh hS hf hl (by lia) fun vs h1 d hv hvl hv0 hge kp => ?_)
 refine wpAny_bind (wpAny_newList ?_ (by rw [sizeLine_eq]; lia))
 have hv' : ∀ v ∈ vs, ∃ k tk, v = .int k tk /\ P k := fun v q => by
  obtain ⟨e, he, rfl⟩ := hv v q
  exact hP e he
 have hoL : (h1.push (seqObj "list" vs.toArray 0)).get? h1.objs.size = some (seqObj "list" vs.toArray 0) := uP _ rfl
 have keep : ∀ b o, s.heap.get? b = some o -> (h1.push (seqObj "list" vs.toArray 0)).get? b = some o /\ b ≠ h1.objs.size := fun b o q => ⟨uD _ (kp b o q), uZ (uH (kp b o q))⟩
 show wpAny _ _ _ _ _ { s with heap := h1.push (seqObj "list" vs.toArray 0), drawn := d }
 obtain ⟨r, hr⟩ : ∃ r : Nat -> Int, wa9 prog w A.in1.in1 { s with heap := h1.push (seqObj "list" vs.toArray 0), drawn := d } vs vs h1.objs.size r := by
  by_cases h2 : 2 <= vs.length
  ·obtain ⟨r, hr⟩ := ask vs hv' (by lia) h2
   exact ⟨r, fun _ h' kp' => hr h' d fun b o q => kp' b o (keep b o q).2 (keep b o q).1⟩
  ·exact ⟨fun _ => 0, fun q => absurd q h2⟩
 refine wpAny_bind (wpAny_holding (wpAny_call_entry slot_list_sort ⟨_, hoL, rfl⟩ entry_list_sort (vas (r := r) hoL (by lia) hr fun p hp hs => ⟨_, rfl, ?_⟩) (args_list_sort _)))
 obtain ⟨c, hc⟩ := sortedHeap_at (out := qj vs p) hoL
 have hpz := hp.size
 have hoz : (qj vs p).size = vs.length := by unfold qj; rw [uJ, uB, uR, hpz]
 refine wpAny_pure ⟨_, rfl, h (qj vs p) _ d _ c (fun v hv2 => ?_) (by lia) (fun z => ?_) (fun b o q => ?_) hge hc⟩
 ·unfold qj at hv2
  rw [List.toList_toArray] at hv2
  obtain ⟨i, hi, rfl⟩ := xI.mp hv2
  have hlt : i < vs.length := by
   have := hp.toList.mem_iff.mp hi
   simpa using this
  rw [ua, uG hlt]
  exact hv' _ (xB hlt)
 ·have := hv0 (by lia)
  refine Nat.eq_zero_of_not_pos fun q => ?_
  have := hpos q
  lia
 ·rw [sortedHeap_old (keep b o q).2 (uH (keep b o q).1)]
  exact (keep b o q).1
end
end L2
namespace L2
open PySem PySem.Spec PyProof.Rows
theorem Inv.drawnW {X : Cx} {pins : ZPO} {σ : St} {H : Hp} {s : Shared} (I : Inv X pins σ H s) (d : Drawn) : Inv X pins σ H { s with drawn := d } :=
 ⟨I.ok, I.os, I.bare, I.base, I.loc, I.cell, I.free, I.freeC, I.pin, I.hok, I.len⟩
theorem Zaq {P : Int -> Prop} : ∀ {vs : List Value}, (∀ v ∈ vs, ∃ k tk, v = .int k tk /\ P k) -> ∃ ks : List Int, Vals (ks.map V.int) vs /\ ks.length = vs.length /\ ∀ k ∈ ks, P k
 | [], _ => ⟨[], .nil, rfl, fun _ q => by cases q⟩
 | v :: vs, h => by
  obtain ⟨ks, a, b, c⟩ := Zaq (vs := vs) fun v q => h v (uQ _ q)
  obtain ⟨k, tk, rfl, p⟩ := h v ug
  exact ⟨k :: ks, .cons ⟨tk, rfl⟩ a, by rw [ub, b, ub], fun x hx => by
   rcases uU.mp hx with rfl | q
   ·exact p
   ·exact c x q⟩
theorem Zao {K : KF} {H : Hp} {M : HpD} : ∀ ks : List Int, RepDs K H M (ks.map D.int) (ks.map V.int)
 | [] => .nil
 | k :: ks => .cons (by unfold RepD; rfl) (Zao ks)
theorem WaB {K : KF} {H : Hp} {M : HpD} {ks : List Int} {xs : List V} (h : RepDs K H M (ks.map D.int) xs) : xs = ks.map V.int := by
 have hl := h.length
 rw [uB] at hl
 apply List.ext_getElem?
 intro i
 by_cases hi : i < ks.length
 ·obtain ⟨v, e, r⟩ := h.get (i := i) (d := D.int ks[i]) (by rw [uO, uG hi]; rfl)
  unfold RepD at r
  rw [e, r, uO, uG hi]; rfl
 ·rw [xF (by lia), xF (by rw [uB]; lia)]
theorem Yaz {P : Int -> Prop} : ∀ {vs : List Value}, (∀ v ∈ vs, ∃ k tk, v = .int k tk /\ P k) -> ∃ kz : List Int, IntsAre vs kz
 | [], _ => ⟨[], .nil⟩
 | v :: vs, h => by
  obtain ⟨kz, a⟩ := Yaz (vs := vs) fun v q => h v (uQ _ q)
  obtain ⟨k, tk, rfl, p⟩ := h v ug
  exact ⟨k :: kz, .cons k tk a⟩
theorem va4 : bootBuiltins "set" = some (.type "set") := by decide +kernel
theorem Wax : bootBuiltins "sorted" = some (.builtin "sorted") := by decide +kernel
section
variable {X : Cx} {a : Expr} {te : TDE} {p p2 pos pos2 : Pos}
@[irreducible] def YI (te : TDE) : TDE := fun σ M Q => te σ M fun d M1 => ∃ ns : List Int, Ye d M1 = some (ns.map D.int) /\ 0 < ns.length /\ ns.length <= 1000 /\ ∀ ms : List Int, (∀ m ∈ ms, m ∈ ns) -> 0 < ms.length -> ms.length <= ns.length -> newL (ms.map D.int) M1 Q
theorem WaO {σ : SD} {M : HpD} {Q : KD} (h : te σ M fun d M1 => ∃ ns : List Int, Ye d M1 = some (ns.map D.int) /\ 0 < ns.length /\ ns.length <= 1000 /\ ∀ ms : List Int, (∀ m ∈ ms, m ∈ ns) -> 0 < ms.length -> ms.length <= ns.length -> newL (ms.map D.int) M1 Q) : YI te σ M Q := by unfold YI; exact h
theorem waN {k : Nat} (hr : Room k X.A) (hg : Gl X "sorted") (hm : X.mg "sorted" = none) (hg2 : Gl X "set") (hm2 : X.mg "set" = none) (ha : ED X a te)
  (hs : starEach [a] X.env = [(false, eval a X.env)] := by rfl)
  (hs3 : starEach [.Call (.Name "set" p2) [a] [] pos2] X.env = [(false, eval (.Call (.Name "set" p2) [a] [] pos2) X.env)] := by rfl) (hc : X.calm = true := by rfl) :
  ED X (.Call (.Name "sorted" p) [.Call (.Name "set" p2) [a] [] pos2] [] pos) (YI te) := by
 intro pins s σ H Q I h
 obtain ⟨F, σD, M, QD, rel, h, pp⟩ := h
 unfold YI at h
 refine Call_ (kq I hg hm Wax (PyProof.Rows.callWith_builtin1 ?_ hs3 rfl))
 rw [hs3]
 show wpAny _ _ (spliced ((false, eval (.Call (.Name "set" p2) [a] [] pos2) X.env) :: [])) _ _ s
 refine Calls.spliced_cons ?_
 have hpa : PA X [a] (kaM (Wh X.K te) jaM) := wB ha pa_nil (by rw [hs]; rfl)
 have hA := hpa pos2 pins s σ H (fun vs H1 => ∃ (i : Addr) (ns : List Int), vs = [.ref i] /\ SqL X.K H1 i (ns.map V.int) /\ 0 < ns.length /\ ns.length <= 1000 ∧
  ∀ ms : List Int, (∀ m ∈ ms, m ∈ ns) -> 0 < ms.length -> ms.length <= ns.length -> (ms.map V.int).length <= sizeLine /\ ∀ l, H1 l = none -> Q (.ref l) (upd H1 l (.lst (ms.map V.int)))) I ?_
 ·refine Call_ (kq I hg2 hm2 va4 (um (thn hA fun us s1 ⟨vs, H1, I1, r1, q1⟩ => ?_) hs rfl))
  obtain ⟨i, ns, e, hq1, hn0, hn, q⟩ := q1
  subst e
  obtain ⟨u, rfl, ru⟩ := XO r1
  cases ru
  obtain ⟨its, rv, p1, hz⟩ := I1.list hq1
  have l1 : ns.length = its.length := by rw [← rv.length, uB]
  have hsz : its.toArray.size = its.length := uJ
  have hsb : scanBound = 4096 := rfl
  refine WaG (A := X.A) (PI := fun k => k ∈ ns) (I1.ok.hd hc) p1.isList (fun j v hv => ?_) (by rw [uJ]; lia) fun h' tk hS hlt kp => ?_
  ·have hv' : its[j]? = some v := by simpa using hv
   have hj2 : j < ns.length := by obtain ⟨h9, _⟩ := uY.mp hv'; lia
   obtain ⟨u, hu, ru⟩ := rv.get (i := j) (x := V.int ns[j]) (by rw [uO, uG hj2]; rfl)
   rw [hv'] at hu; cases hu
   obtain ⟨t, rfl⟩ := ru
   exact ⟨_, t, rfl, xB hj2⟩
  ·refine Calls.spliced_nil ?_
   have I2 : Inv X pins σ H1 { s1 with heap := h', toks := tk } := I1.kept (t' := tk) fun b o e => kp b o (uH e) e
   refine vaM (s := { s1 with heap := h', toks := tk }) (A := X.A) (I1.ok.hd hc) hS (by lia) (fun vs hv hvn h2 => ?_) fun out h2 d L c hv hvn hv0 kp2 hL hoL => ?_
   ·obtain ⟨kz, hk⟩ := Yaz hv
    exact ⟨fun i => kz.getD i 0, fun h2' d kp' => ⟨oneType', fun Q E q => Wan hk h2 q, fun i j hi hj C hC => jax hk i j hi hj C hC⟩⟩
   ·obtain ⟨ms, w1, w2, w3⟩ := Zaq hv
    have w2' : ms.length = out.size := w2.trans uR
    have nl := q ms w3 (Nat.pos_of_ne_zero fun z => by have z2 := hv0 (w2'.symm.trans z); lia) (by lia)
    have hge : s1.heap.objs.size <= L := xD (x6 hlt) hL
    have I4 : Inv X pins σ (upd H1 L (.lst (ms.map V.int))) { s1 with heap := h2, toks := tk } := I1.laid (t' := tk) (fun b o e => kp2 b o (kp b o (uH e) e)) hge (show ObjOk X.prog X.w _ _ _ (.lst _) from ⟨nl.1, _, c, w1, by rw [Array.toArray_toList]; exact hoL⟩)
    exact ⟨.ref L, _, I4.drawnW d, rfl, nl.2 _ (I1.hok.fresh hge)⟩
 ·refine lE rel h fun d M1 v H1 f1 rel1 r1 h1 => ?_
  obtain ⟨ns, g1, hn0, hn, q⟩ := h1
  obtain ⟨i, xs, rfl, hz, hr⟩ := Yo rel1.hp r1 g1
  rw [WaB hr] at hz
  exact ⟨i, ns, rfl, hz, hn0, hn, fun ms m1 m2 m3 => (q ms m1 m2 m3).post (pp.mono f1) rel1.hp (Zao ms)⟩
end
end L2
namespace V15
open PySem PySem.Spec PyProof.Rows L2
def ZK : TSD :=
 (wb (Wc (tCD (.int 0)) (qb 1))
 (wb (WE (vae (WU (Za 0) qu (ZF (tCD (.int 63))))) (qb 2) (Wc (wa kK (wa jh (wa jh (wa YD (Za 1) (tCD (.int 31))) (Za 2)) (tCD (.int 17))) (tCD (.int 2147483647))) (qb 1)))
 (We (Zm (Ya (Xb Wae (Ya (WU (Za 0) qu (ZF (tCD (.int 63)))) Zb)) (Ya (tCD (.int 0)) (Ya (tCD (.int 0)) (Ya (tCD (.int 0)) (Ya (Za 1) Zb)))))))))
def wE : TSD :=
 (wb (Wc (wa kK (wa jh (wa jh (wa YD (Za 0) (tCD (.int 48271))) (wa YD (Za 1) (tCD (.int 69621)))) (tCD (.int 12345))) (tCD (.int 2147483647))) (qb 2))
 (wb (Wc (wa kK (wa jh (wa jh (wa YD (Za 2) (wa jh (wa kK (Za 2) (tCD (.int 65521))) (tCD (.int 7)))) (wa YD (Za 1) (tCD (.int 40692)))) (wa kK (Za 0) (tCD (.int 104729)))) (tCD (.int 998244353))) (qb 3))
 (We (wa jaP (Za 3) (tCD (.int 7))))))
def ZH (ki : SpD) : TSD :=
 (wb (Wc (wa jh (wa Yd (Za 0) (tCD (.int 3))) (tCD (.int 1))) (qH (Za 0) (tCD (.int 3))))
 (wb (Xh (qd (wa Waa (wa Yd (Za 0) (tCD (.int 2))) (tCD (.int 0)))) (wb (Wc (wa Yd (Za 0) (tCD (.int 2))) (qb 2))
 (wb (Wc (wa jaP (Za 2) (Za 1)) (qH (Za 0) (tCD (.int 2))))
 (We (wa kK (Za 2) (Za 1))))) qf)
 (wb (Xh (qd (wa ja1 (wa Yd (Za 0) (tCD (.int 1))) (Xb Zq (Ya (wa Yd (Za 0) (tCD (.int 0))) Zb)))) (We (wa kK (Xb ki (Ya (wa Yd (Za 0) (tCD (.int 4))) (Ya (wa Yd (Za 0) (tCD (.int 3))) Zb))) (Za 1))) qf)
 (wb (Wc (wa Yd (wa Yd (Za 0) (tCD (.int 0))) (wa Yd (Za 0) (tCD (.int 1)))) (qb 3))
 (wb (Wc (wa jh (wa Yd (Za 0) (tCD (.int 1))) (tCD (.int 1))) (qH (Za 0) (tCD (.int 1))))
 (wb (Xh (qd (wa Ya4 (Za 3) (wa Ya8 (tCD (.int 10)) (tCD (.int 18))))) (We (wa kK (Xb ki (Ya (Za 3) (Ya (wa Yd (Za 0) (tCD (.int 3))) Zb))) (Za 1))) qf)
 (wb (Wc (wa jaP (Za 3) (Za 1)) (qH (Za 0) (tCD (.int 2))))
 (We (wa kK (Za 3) (Za 1))))))))))
def jC (ja : SpD) : TSD :=
 (wb (Xh (qd (wa (jm false) (Xb ja (Ya (Za 0) (Ya (tCD (.int 8)) Zb))) (tCD (.int 0)))) (We (Xb ja (Ya (Za 0) (Ya (wa jh (Za 2) (tCD (.int 1))) Zb)))) qf)
 (We (Xb ja (Ya (Za 0) (Ya (wa jh (Za 1) (tCD (.int 1))) Zb)))))
theorem kc {n : Nat} (h : n <= 1000) : n <= sizeLine := x6 (WaT h)
local macro_rules | `(tactic| walk_at "r1") => `(tactic| first
 | refine Za0 ?_
 | refine waW ?_
 | refine qB ?_
 | refine waO ?_
 | refine vaO ?_
 | refine vS rfl ?_
 | refine Za8 ?_
 | refine Wad (by first | exact .inl ⟨by decide, by decide⟩ | exact .inr ⟨by decide, by decide⟩ | exact ⟨by decide, by decide⟩ | (show (0 : Int) < _; first | decide | lia) | (constructor <;> lia)) ?_
 | refine waV ?_
 | refine Waj ?_
 | refine vaB ?_
 | refine kaF ?_
 | refine WaS ?_
 | refine vaJ ?_
 | refine WaV ?_
 | refine XaJ ?_
 | refine qy ?_
 | refine XaI ?_
 | refine Wa9 ?_
 | refine vap ?_
 | refine waI ?_
 | refine waJ ?_
 | refine vaY ?_
 | refine ⟨kc (u0 rfl), ?_⟩
 | refine XaM ?_
 | refine waE ?_
 | refine waz ?_
 | refine ⟨_, rfl, ?_⟩)
local macro_rules | `(tactic| walk_at "r") => `(tactic| repeat walk_at "r1")
theorem YU {p : Prop} [Decidable p] {A B : Prop} (h1 : p -> A) (h2 : ¬ p -> B) : if decide p = true then A else B := by
 by_cases h : p
 ·rw [if_pos (decide_eq_true h)]; exact h1 h
 ·rw [if_neg (by rw [decide_eq_false h]; exact uF)]; exact h2 h
theorem Z4 {p : Prop} [Decidable p] {A B : Prop} (h1 : p -> A) (h2 : ¬ p -> B) : if (false ^^ decide p) = true then A else B := by
 rw [xY]; exact YU h1 h2
theorem qbh {α : Type} (f : α -> D) (l : List α) (lo hi : Option Int) : ∃ r : List α, L2.qX (l.map f) lo hi = r.map f /\ r.length <= l.length := by
 unfold L2.qX
 rw [← List.map_drop, ← List.map_take]
 exact ⟨_, rfl, by simp only [ud, uo]; lia⟩
theorem Wbc {neg : Bool} {i j : Int} {M : HpD} {Q : KD} (q : Q (.bl (neg ^^ decide (i = j))) M) : jm neg (.int i) (.int j) M Q := by
 refine kaB rfl (ue _) ?_
 have e : eqD (we (.int i) M) (we (.int j) M) = decide (i = j) := by
  show eqD (.int i) (.int j) = _
  unfold eqD
  by_cases z : i = j
  ·subst z; simp
  ·simp [z]
 rw [e]
 exact q
def ki : SpD := fun ds M Q => ∃ n t, ds = [.int n, .int t] /\ ∀ m, Q (.int m) M
theorem Yat (ds : List D) (M : HpD) (Q : KD) (h : ki ds M Q) : wE { nx := fun _ M' => Q .non M', rt := Q } (Xc ["_law_number", "_law_turn", "_law_one", "_law_two"] ds) M := by
 obtain ⟨n, t, rfl, h⟩ := h
 unfold wE
 walk_at "r"
 exact .inl (h _)
def vw (o : OD) : Prop := ∃ (cells : List Int) (i l c s : Int), o = .lst [.lst (cells.map D.int), .int i, .int l, .int c, .int s] /\ 0 <= i
def Fr (b : Addr) (M M' : HpD) : Prop := (∃ o, M' b = some o /\ vw o) /\ ∀ a, a ≠ b -> M' a = M a
theorem Fr.upd {b : Addr} {M : HpD} {o : OD} (h : vw o) : Fr b M (jg M b o) := ⟨⟨o, wc, h⟩, fun a z => ve z⟩
theorem Fr.trans {b : Addr} {M M1 M2 : HpD} (x : Fr b M M1) (y : Fr b M1 M2) : Fr b M M2 := ⟨y.1, fun a z => (y.2 a z).trans (x.2 a z)⟩
def Ym : SpD := fun ds M Q => ∃ ns : List Int, ds = [.lst (ns.map D.int)] /\ ns.length <= 63 /\ ∀ p M', M p = none -> Fr p M M' -> Q (.ref p) M'
theorem kaH (ds : List D) (M : HpD) (Q : KD) (h : Ym ds M Q) : ZK { nx := fun _ M' => Q .non M', rt := Q } (Xc ["_law_script", "_law_seed", "_law_cell"] ds) M := by
 obtain ⟨ns, rfl, hl, h⟩ := h
 obtain ⟨r, er, hr⟩ := qbh D.int ns none (some 63)
 unfold ZK
 walk_at "r"
 rw [er]
 refine vn (kc (by rw [uB]; lia)) ⟨_, rfl, fun i σ M' => (∃ s v, σ = [some (.lst (ns.map D.int)), some (.int s), v]) /\ M' = M, ⟨⟨_, _, rfl⟩, rfl⟩, ?_, ?_⟩
 ·rintro i d σ M' e ⟨⟨s, v, rfl⟩, rfl⟩
  rw [uO] at e
  cases q : r[i]? with
  | none => rw [q] at e; cases e
  | some z =>
   rw [q] at e; cases e
   walk_at "r"
   exact ⟨⟨_, _, rfl⟩, rfl⟩
 ·rintro σ M' ⟨⟨s, v, rfl⟩, rfl⟩
  walk_at "r"
  rw [er]
  refine vn (kc (by rw [uB]; lia)) ?_
  walk_at "r"
  refine Ybc rfl (vn (kc (by rw [uB]; lia)) ?_)
  walk_at "r"
  refine newM (kc (u0 rfl)) fun p hp => .inl (h p _ hp (.upd ⟨_, _, _, _, _, rfl, ul 0⟩))
def ja : SpD := fun ds M Q => ∃ (b : Addr) (n : Int) (o : OD), ds = [.ref b, .int n] /\ 0 < n /\ n <= 1000000 /\ M b = some o /\ vw o /\ ∀ r M', 0 <= r -> r < n -> Fr b M M' -> Q (.int r) M'
theorem ZaC (ds : List D) (M : HpD) (Q : KD) (h : ja ds M Q) : ZH ki { nx := fun _ M' => Q .non M', rt := Q } (Xc ["_law_box_here", "_law_size", "_law_left", "_law_cell"] ds) M := by
 obtain ⟨b, n, o, rfl, n0, n1, eM, ⟨cells, i, l, c, s, rfl, hi⟩, h⟩ := h
 unfold ZH
 walk_at "r"
 refine Yf (kj eM) rfl ?_
 walk_at "r"
 refine ⟨b, _, _, _, rfl, rfl, eM, rfl, ?_⟩
 walk_at "r"
 refine Yf (kj wc) rfl ?_
 walk_at "r"
 refine YU (fun hc => ?_) (fun hc => ?_)
 ·walk_at "r"
  refine Yf (kj wc) rfl ?_
  walk_at "r"
  refine ⟨b, _, _, _, rfl, rfl, wc, rfl, ?_⟩
  walk_at "r"
  refine .inl (h _ _ (Int.emod_nonneg _ (by lia)) (yI _ n0) ?_)
  rw [Y0]
  exact .upd ⟨_, _, _, _, _, rfl, hi⟩
 ·walk_at "r"
  refine Yf (kj wc) rfl ?_
  walk_at "r"
  refine Yf (kj wc) rfl ?_
  walk_at "r"
  refine WC rfl ?_
  walk_at "r"
  refine YU (fun hc2 => ?_) (fun hc2 => ?_)
  ·walk_at "r"
   refine Yf (kj wc) rfl ?_
   walk_at "r"
   refine Yf (kj wc) rfl ?_
   walk_at "r"
   refine ⟨_, _, rfl, fun m => ?_⟩
   walk_at "r"
   exact .inl (h _ _ (Int.emod_nonneg _ (by lia)) (yI _ n0) (.upd ⟨_, _, _, _, _, rfl, hi⟩))
  ·walk_at "r"
   refine Yf (kj wc) rfl ?_
   walk_at "r"
   refine Yf (kj wc) rfl ?_
   have hlt : i.toNat < cells.length := by
    rw [uB] at hc2
    lia
   have hat : atI (cells.map D.int) i = some (.int cells[i.toNat]) := by
    have := wR (xs := cells.map D.int) (j := i.toNat) (v := .int cells[i.toNat]) (by rw [uO, uG hlt]; rfl)
    rw [Int.toNat_of_nonneg hi] at this
    exact this
   refine Yf rfl hat ?_
   walk_at "r"
   refine Yf (kj wc) rfl ?_
   walk_at "r"
   refine ⟨b, _, _, _, rfl, rfl, wc, rfl, ?_⟩
   rw [Y0]
   walk_at "r"
   refine YU (fun hc3 => ?_) (fun hc3 => ?_)
   ·walk_at "r"
    refine Yf (kj wc) rfl ?_
    walk_at "r"
    refine ⟨_, _, rfl, fun m => ?_⟩
    walk_at "r"
    exact .inl (h _ _ (Int.emod_nonneg _ (by lia)) (yI _ n0) (.upd ⟨_, _, _, _, _, rfl, by lia⟩))
   ·walk_at "r"
    refine ⟨b, _, _, _, rfl, rfl, wc, rfl, ?_⟩
    rw [Y0]
    walk_at "r"
    exact .inl (h _ _ (Int.emod_nonneg _ (by lia)) (yI _ n0) (.upd ⟨_, _, _, _, _, rfl, by lia⟩))
local macro_rules | `(tactic| walk_at "sa") => `(tactic| first
 | refine Za0 ?_
 | refine waW ?_
 | refine qB ?_
 | refine waO ?_
 | refine vaO ?_
 | refine vS rfl ?_
 | refine Za8 ?_
 | refine Wad (by first | exact .inl ⟨by decide, by decide⟩ | exact .inr ⟨by decide, by decide⟩ | exact ⟨by decide, by decide⟩ | (show (0 : Int) < _; first | decide | lia) | (constructor <;> lia)) ?_
 | refine Wbc ?_
 | refine wbl ?_
 | refine waV ?_
 | refine rd_max2 ?_
 | refine qbd ?_
 | refine vbo ?_
 | refine wbt ?_
 | refine Xbm ?_
 | refine Ybb rfl ?_
 | refine ka4 ?_
 | refine Wbf ?_
 | refine Xbb ?_
 | refine jbr ?_
 | refine Wbr ?_
 | refine Zbn ?_
 | refine wbg ?_
 | refine Ybh ?_
 | refine rd_mx ?_
 | refine Waj ?_
 | refine vaB ?_
 | refine kaF ?_
 | refine WaS ?_
 | refine vaJ ?_
 | refine WaV ?_
 | refine XaJ ?_
 | refine qy ?_
 | refine XaI ?_
 | refine Wa9 ?_
 | refine vap ?_
 | refine waI ?_
 | refine waJ ?_
 | refine vaY ?_
 | refine Yba ?_
 | refine Xa3 ?_
 | refine ka6 ?_
 | refine rd_ienum ?_
 | refine Wbe ?_
 | refine kbb ?_
 | refine kbj ?_
 | refine YaZ ?_
 | refine Xbq ?_
 | refine wbh ?_
 | refine waZ ?_
 | refine rd_izts ?_
 | refine Ya0 ?_
 | refine ⟨kc (u0 rfl), ?_⟩
 | refine XaM ?_
 | refine waE ?_
 | refine waz ?_
 | refine ⟨_, rfl, ?_⟩)
local macro_rules | `(tactic| walk_at "st1") => `(tactic| walk_at "sa")
local macro_rules | `(tactic| walk_at "st") => `(tactic| repeat walk_at "st1")
def Yj : SpD := fun ds M Q => ∃ (b : Addr) (few most : Int) (o : OD), ds = [.ref b, .int few, .int most] /\ 0 <= few /\ few <= 100 /\ 0 <= most /\ most <= 100 /\ M b = some o /\ vw o /\ ∀ r M', 0 <= r -> (r <= few \/ r <= most) -> Fr b M M' -> Q (.int r) M'
theorem Xau (ds : List D) (M : HpD) (Q : KD) (h : Yj ds M Q) : jC ja { nx := fun _ M' => Q .non M', rt := Q } (Xc ["_law_box_here", "_law_few", "_law_most"] ds) M := by
 obtain ⟨b, few, most, o, rfl, f0, f1, m0, m1, eM, hb, h⟩ := h
 unfold jC
 walk_at "st"
 refine ⟨b, _, o, rfl, by decide, by decide, eM, hb, fun r M1 r0 r1 fr => ?_⟩
 obtain ⟨o1, e1, b1⟩ := id fr.1
 walk_at "st"
 refine Z4 (fun hc => ?_) (fun hc => ?_)
 ·walk_at "st"
  exact ⟨b, _, o1, rfl, by lia, by lia, e1, b1, fun r M2 r0 r1 fr2 => .inl (h _ _ r0 (.inr (by lia)) (fr.trans fr2))⟩
 ·walk_at "st"
  exact ⟨b, _, o1, rfl, by lia, by lia, e1, b1, fun r M2 r0 r1 fr2 => .inl (h _ _ r0 (.inl (by lia)) (fr.trans fr2))⟩
def Xy : TSD :=
 (We (tCD (.str "abcdefghijklmnopqrstuvwxyz")))
def XE (ja Wi : SpD) : TSD :=
 (wb (Wc (wa jh (tCD (.int 1)) (Xb ja (Ya (Za 0) (Ya (tCD (.int 8)) Zb)))) (qb 1))
 (We (WX (tCD (.str "")) (qI 1 (YF (Ya (Za 1) Zb)) (qb 0) YT (wa vag (Xb Wi Zb) (Xb ja (Ya (Za 1) (Ya (tCD (.int 26)) Zb))))))))
def WA (ja Yl : SpD) : TSD :=
 (wb (Wc (Zm Zb) (qb 1))
 (wb (WE (YF (Ya (wa Yd (Zm (Ya (tCD (.int 2)) (Ya (tCD (.int 3)) (Ya (tCD (.int 3)) (Ya (tCD (.int 4)) (Ya (tCD (.int 5)) (Ya (tCD (.int 2)) (Ya (tCD (.int 3)) (Ya (tCD (.int 12)) Zb))))))))) (Xb ja (Ya (Za 0) (Ya (tCD (.int 8)) Zb)))) Zb)) (qb 2) (wb (Wc (Xb Yl (Ya (Za 0) Zb)) (qb 3))
 (Xh (qd (wa (qam true) (Za 3) (Za 1))) (vq (qA (Za 1) (Za 3))) qf)))
 (We (Za 1))))
def vK (ja : SpD) : TSD :=
 (wb (Wc (Xb ja (Ya (Za 0) (Ya (tCD (.int 4)) Zb))) (qb 1))
 (wb (Xh (qd (wa (jm false) (Za 1) (tCD (.int 0)))) (We (tCD (.int 0))) qf)
 (wb (Xh (qd (wa (jm false) (Za 1) (tCD (.int 1)))) (We (wa qE (wa qE (wa Ya8 (tCD (.int 10)) (tCD (.int 9))) (tCD (.int 2600))) (Xb ja (Ya (Za 0) (Ya (tCD (.int 3)) Zb))))) qf)
 (wb (Xh (qd (wa (jm false) (Za 1) (tCD (.int 2)))) (We (wa YD (Xb ja (Ya (Za 0) (Ya (tCD (.int 1000000)) Zb))) (tCD (.int 900)))) qf)
 (We (Xb ja (Ya (Za 0) (Ya (tCD (.int 40)) Zb))))))))
def wH (ja Xn : SpD) : TSD :=
 (We (Yr (Ya (Xb Xn (Ya (Za 0) Zb)) (Ya (wa Yd (Za 1) (Xb ja (Ya (Za 0) (Ya (Xb Zq (Ya (Za 1) Zb)) Zb)))) (Ya (Xb ja (Ya (Za 0) (Ya (tCD (.int 10)) Zb))) Zb)))))
def XH (ja : SpD) : TSD :=
 (wb (Wc (Zm Zb) (qb 3))
 (wb (jy (js (Za 1)) (qb 4) (Xh (ww (Xs (Za 2)) (qd (wa Waa (Xb ja (Ya (Za 0) (Ya (tCD (.int 4)) Zb))) (tCD (.int 0))))) (vq (X1 (Za 3) (Xb ja (Ya (Za 0) (Ya (wa jh (Xb Zq (Ya (Za 3) Zb)) (tCD (.int 1))) Zb))) (Za 4))) qf))
 (We (Za 3))))
def jF (ja : SpD) : TSD :=
 (We (wa Yd (Zm (Ya (Za 1) (Ya (Za 1) (Ya (Xb j4 (Ya (tCD (.int 9)) (Ya (wa jh (Za 1) (Xb ja (Ya (Za 0) (Ya (tCD (.int 3)) Zb)))) Zb))) (Ya (Xb ja (Ya (Za 0) (Ya (tCD (.int 10)) Zb))) Zb))))) (Xb ja (Ya (Za 0) (Ya (tCD (.int 4)) Zb)))))
def YA (Wk ja kh : SpD) : TSD :=
 (wb (Wc (Xb Wk (Ya (Za 0) (Ya (qN (Ya (tCD (.int 1)) (Ya (wa jh (Za 3) (tCD (.int 1))) Zb))) (Ya (tCD (.bl true)) Zb)))) (qb 4))
 (wb (Wc (wa Yd (Zm (Ya (tCD (.int 1)) (Ya (tCD (.int 1)) (Ya (tCD (.int 3)) (Ya (tCD (.int 40)) Zb))))) (Xb ja (Ya (Za 0) (Ya (tCD (.int 4)) Zb)))) (qb 5))
 (wb (Wc (Za 2) (Zx 3 (Zh (qb 6) (Zh (qb 7) (Zh (qb 8) Wx)))))
 (wb (Wc (Zm Zb) (qb 9))
 (wb (jy (js (Za 4)) (qb 10) (wb (Wc (wa jh (Za 6) (wa Yd (Zm (Ya (tCD (.int 1)) (Ya (tCD (.int 1)) (Ya (tCD (.int 2)) (Ya (wa jh (tCD (.int 1)) (Xb ja (Ya (Za 0) (Ya (tCD (.int 9)) Zb)))) (Ya (wa jh (tCD (.int 1)) (Xb ja (Ya (Za 0) (Ya (tCD (.int 40)) Zb)))) Zb)))))) (Xb ja (Ya (Za 0) (Ya (tCD (.int 5)) Zb))))) (qb 6))
 (wb (Wc (Za 7) (qb 11))
 (wb (Xh (qd (wa (jm false) (Xb ja (Ya (Za 0) (Ya (tCD (.int 3)) Zb))) (tCD (.int 0)))) (Wc (wa Yd (Za 1) (Xb ja (Ya (Za 0) (Ya (Xb Zq (Ya (Za 1) Zb)) Zb)))) (qb 11)) qf)
 (wb (Wc (Za 11) (qb 12))
 (wb (Xh (qd (wa Waa (Xb ja (Ya (Za 0) (Ya (tCD (.int 4)) Zb))) (tCD (.int 0)))) (Wc (wa Yd (Za 1) (Xb ja (Ya (Za 0) (Ya (Xb Zq (Ya (Za 1) Zb)) Zb)))) (qb 12)) qf)
 (wb (Wc (Xb kh (Ya (Za 0) (Ya (Za 8) Zb))) (qb 8))
 (wb (vq (qA (Za 9) (Yr (Ya (wa YD (Za 10) (Za 5)) (Ya (Za 6) (Ya (Za 11) (Ya (Za 12) (Ya (Za 8) Zb))))))))
 (Xh (qd (wa Waa (Xb ja (Ya (Za 0) (Ya (tCD (.int 4)) Zb))) (tCD (.int 0)))) (Wc (Za 12) (qb 7)) qf)))))))))
 (We (Xb Wk (Ya (Za 0) (Ya (Za 9) (Ya (tCD (.bl true)) Zb))))))))))
def jA (ja : SpD) : TSD :=
 (wb (Wc (Xb ja (Ya (Za 0) (Ya (tCD (.int 3)) Zb))) (qb 1))
 (wb (Xh (qd (wa (jm false) (Za 1) (tCD (.int 0)))) (We (Yr (Ya (tCD (.int 1)) (Ya (tCD (.int 1)) Zb)))) qf)
 (We (Yr (Ya (wa jh (tCD (.int 1)) (Xb ja (Ya (Za 0) (Ya (tCD (.int 9)) Zb)))) (Ya (wa jh (tCD (.int 1)) (Xb ja (Ya (Za 0) (Ya (tCD (.int 9)) Zb)))) Zb))))))
theorem XG {p : Addr} {M : HpD} {ds : List D} (h : Ye (.ref p) M = some ds) : M p = some (.lst ds) := by
 cases e : M p with
 | none => simp only [Ye, e] at h; cases h
 | some o =>
  cases o with
  | lst l => simp only [Ye, e] at h; cases h; rfl
  | dct kvs => simp only [Ye, e] at h; cases h
  | tab _ => simp only [Ye, e] at h; cases h
theorem qaX {d : D} {M : HpD} {ds : List D} (h : Ye d M = some ds) : we d M = .lst ds := by
 cases d with
 | lst l => cases h; rfl
 | ref p => simp only [we, XG h]
 | _ => cases h
theorem wag {d : D} {M : HpD} {ds : List D} (h : Ye d M = some ds) : Wn d M = some ds := by
 cases d with
 | lst l => cases h; rfl
 | ref p => exact kj (XG h)
 | _ => cases h
theorem va1 {d : D} {M : HpD} {ds : List D} (h : Ye d M = some ds) : jw d M (!ds.isEmpty) := by
 cases d with
 | lst l => cases h; unfold jw; rfl
 | ref p => unfold jw; exact ⟨_, XG h, rfl⟩
 | _ => cases h
def Ya2 (x : Str) : Prop := 1 <= x.length /\ x.length <= 8 /\ ∀ c ∈ x.cps.toList, 97 <= c /\ c <= 122
noncomputable def abc : Str := "abcdefghijklmnopqrstuvwxyz"
theorem Wbq (r : Int) (h0 : 0 <= r) (h1 : r < 26) : ∃ c : Nat, atI abc.cps.toList r = some c /\ 97 <= c /\ c <= 122 := by
 have e : abc.cps.toList = (uv 26).map (· + 97) := by decide
 have hn : r.toNat < 26 := by lia
 refine ⟨r.toNat + 97, ?_, by lia, by lia⟩
 have hr : ((r.toNat : Nat) : Int) = r := by lia
 rw [← hr]
 refine wR ?_
 rw [e, uO, xK, xi hn]
 rfl
def Wi : SpD := fun ds M Q => ds = [] /\ Q (.str abc) M
theorem kad (ds : List D) (M : HpD) (Q : KD) (h : Wi ds M Q) : Xy { nx := fun _ M' => Q .non M', rt := Q } (Xc [] ds) M := by
 obtain ⟨rfl, h⟩ := h
 unfold Xy
 walk_at "st"
 exact .inl h
theorem kao : ∀ (cs : List Nat) (acc : Str), ((cs.map fun c => (⟨#[c]⟩ : Str)).foldl HAppend.hAppend acc).cps.toList = acc.cps.toList ++ cs
 | [], acc => by simp
 | c :: cs, acc => by
  rw [uf, List.foldl_cons, kao cs]
  show (acc.cps ++ #[c]).toList ++ cs = _
  simp
theorem Xab (cs : List Nat) : (Txt.join "" (cs.map fun c => (⟨#[c]⟩ : Str))).cps.toList = cs := by
 rw [show Txt.join (Str.ofString "") (cs.map fun c => (⟨#[c]⟩ : Str)) = Str.join ⟨#[]⟩ (cs.map fun c => (⟨#[c]⟩ : Str)) from StrLaws.glued_eq_join _ _]
 rw [← fold_cat_join_nil, kao]
 rfl
def Yl : SpD := fun ds M Q => ∃ (b : Addr) (o : OD), ds = [.ref b] /\ M b = some o /\ vw o /\ ∀ x M', Ya2 x -> Fr b M M' -> Q (.str x) M'
theorem Zau (ds : List D) (M : HpD) (Q : KD) (h : Yl ds M Q) : XE ja Wi { nx := fun _ M' => Q .non M', rt := Q } (Xc ["_law_box_here", "_law_size"] ds) M := by
 obtain ⟨b, o, rfl, eM, hb, h⟩ := h
 unfold XE
 walk_at "st"
 refine ⟨b, _, o, rfl, by decide, by decide, eM, hb, fun r M1 r0 r1 fr => ?_⟩
 obtain ⟨o1, e1, b1⟩ := id fr.1
 walk_at "st"
 refine ⟨by lia, by lia, kc (by rw [Zs]; lia), fun i ys σ M' => ∃ (cs : List Nat) (v : Option D), Fr b M M' /\ σ = [v, some (.ref b), some (.int (1 + r))] /\ ys = (cs.map fun c => (⟨#[c]⟩ : Str)).map D.str /\ cs.length = i /\ (∀ c ∈ cs, 97 <= c /\ c <= 122), ⟨[], _, fr, rfl, rfl, rfl, by simp⟩, ?_, ?_⟩
 ·rintro i d ys σ M' e ⟨cs, v, fr', rfl, rfl, hc, ho⟩
  obtain ⟨o2, e2, b2⟩ := id fr'.1
  walk_at "st"
  refine ⟨rfl, ?_⟩
  walk_at "st"
  refine ⟨b, _, o2, rfl, by decide, by decide, e2, b2, fun r' M2 r0' r1' fr2 => ?_⟩
  obtain ⟨c, hat, h97, h122⟩ := Wbq r' r0' r1'
  refine kbo (kc (by decide)) hat ?_
  refine ⟨cs ++ [c], _, fr'.trans fr2, rfl, by simp, by simp [hc], fun c' hm => ?_⟩
  rcases uj.mp hm with hm | hm
  ·exact ho c' hm
  ·rw [uc.mp hm]; exact ⟨h97, h122⟩
 ·rintro ys σ M' ⟨cs, v, fr', rfl, rfl, hc, ho⟩
  rw [Zs] at hc
  refine vn (kc (by rw [uB, uB]; lia)) ?_
  refine ⟨_, rfl, ?_, .inl (h _ _ ⟨?_, ?_, ?_⟩ fr')⟩
  ·unfold JoinOk
   rw [StrLaws.joinFits (B := 1) (fun y hy => ?_) (by rw [uB, show (Str.ofString "").length = 0 from rfl]; lia)]
   ·rfl
   ·obtain ⟨c, _, rfl⟩ := xI.mp hy
    exact uI _
  ·show 1 <= (Txt.join _ _).cps.size
   rw [← uR, Xab]; lia
  ·show (Txt.join _ _).cps.size <= 8
   rw [← uR, Xab]; lia
  ·rw [Xab]; exact ho
structure Gro (b p : Addr) (M M1 : HpD) (ds : List D) : Prop where
 bx : ∃ o, M1 b = some o /\ vw o
 ls : M1 p = some (.lst ds)
 fr : ∀ a, a ≠ b -> a ≠ p -> M1 a = M a
theorem Gro.step {b p : Addr} {M M1 M2 : HpD} {ds : List D} (t : Gro b p M M1 ds) (hn : p ≠ b) (f : Fr b M1 M2) : Gro b p M M2 ds :=
 ⟨f.1, (f.2 p hn).trans t.ls, fun a z1 z2 => (f.2 a z1).trans (t.fr a z1 z2)⟩
theorem Gro.upd {b p : Addr} {M M1 : HpD} {ds es : List D} (t : Gro b p M M1 ds) (hn : p ≠ b) : Gro b p M (jg M1 p (.lst es)) es :=
 ⟨by rw [ve (Ne.symm hn)]; exact t.bx, wc, fun a z1 z2 => by rw [ve z2]; exact t.fr a z1 z2⟩
theorem Gro.start {b p : Addr} {M M1 : HpD} (f : Fr b M M1) (hp : M1 p = none) (es : List D) : p ≠ b /\ Gro b p M (jg M1 p (.lst es)) es := by
 have hn : p ≠ b := fun z => by obtain ⟨o, e, _⟩ := f.1; rw [z, e] at hp; cases hp
 exact ⟨hn, by rw [ve (Ne.symm hn)]; exact f.1, wc, fun a z1 z2 => by rw [ve z2]; exact f.2 a z1⟩
theorem Gro.del {b p : Addr} {M M1 : HpD} {ds : List D} (t : Gro b p M M1 ds) (hn : p ≠ b) (hp : M p = none) : Fr b M (Zr M1 p) :=
 ⟨by rw [ZL (Ne.symm hn)]; exact t.bx, fun a z => by
  by_cases q : a = p
  ·rw [q, XI, hp]
  ·rw [ZL q]; exact t.fr a z q⟩
theorem Fr.self {b : Addr} {M : HpD} {o : OD} (e : M b = some o) (h : vw o) : Fr b M M := ⟨⟨o, e, h⟩, fun _ _ => rfl⟩
theorem ZaL {x : Str} : ∀ {ns : List Str}, inD (.str x) (ns.map D.str) = decide (x ∈ ns)
 | [] => by simp [inD]
 | y :: ns => by
  have ih := ZaL (x := x) (ns := ns)
  unfold inD at ih ⊢
  rw [uf, xt, ih]
  by_cases z : x = y
  ·subst z; simp [eqD]
  ·have z' : ¬ y = x := fun q => z q.symm
   simp [eqD, z, z']
theorem waS {x : Str} {ns : List Str} : ∀ d ∈ ns.map D.str, Yy d = true /\ okD d (.str x) = true := fun d hd => by
 obtain ⟨y, _, rfl⟩ := xI.mp hd
 exact ⟨rfl, by simp [okD]⟩
def jY (ns : List Str) : Prop := 1 <= ns.length /\ ns.length <= 12 /\ ns.Nodup /\ ∀ x ∈ ns, Ya2 x
def Zi : SpD := fun ds M Q => ∃ (b : Addr) (o : OD), ds = [.ref b] /\ M b = some o /\ vw o /\ ∀ ns M', jY ns -> Fr b M M' -> Q (.lst (ns.map D.str)) M'
theorem Xam (ds : List D) (M : HpD) (Q : KD) (h : Zi ds M Q) : WA ja Yl { nx := fun _ M' => Q .non M', rt := Q } (Xc ["_law_box_here", "_law_found", "_law_k", "_law_name"] ds) M := by
 obtain ⟨b, o, rfl, eM, hb, h⟩ := h
 unfold WA
 walk_at "st"
 refine newM (kc (ue _)) fun p hp => ?_
 obtain ⟨hpb, g0⟩ := Gro.start (Fr.self eM hb) hp []
 obtain ⟨o0, e0, b0⟩ := g0.bx
 walk_at "st"
 refine vn (kc (by show 8 <= 1000; decide)) ?_
 walk_at "st"
 refine ⟨b, _, o0, rfl, by decide, by decide, e0, b0, fun r M1 r0 r1 f1 => ?_⟩
 have g1 := g0.step hpb f1
 obtain ⟨n, hat, hn2, hn12⟩ : ∃ n : Int, atI [D.int 2, .int 3, .int 3, .int 4, .int 5, .int 2, .int 3, .int 12] r = some (.int n) /\ 2 <= n /\ n <= 12 := by
  have : r = 0 \/ r = 1 \/ r = 2 \/ r = 3 \/ r = 4 \/ r = 5 \/ r = 6 \/ r = 7 := by lia
  rcases this with rfl | rfl | rfl | rfl | rfl | rfl | rfl | rfl <;> exact ⟨_, rfl, by decide, by decide⟩
 refine Yf rfl hat ?_
 walk_at "st"
 refine ⟨by lia, by lia, fun i σ M' => ∃ (ns : List Str) (v2 v3 : Option D), Gro b p M M' (ns.map D.str) /\ σ = [some (.ref b), some (.ref p), v2, v3] /\ ns.length <= i /\ (1 <= i -> 1 <= ns.length) /\ ns.Nodup /\ ∀ x ∈ ns, Ya2 x, ⟨[], _, _, g1, rfl, uI _, fun z => absurd z (by lia), List.nodup_nil, by simp⟩, ?_, ?_⟩
 ·rintro i d σ M' e ⟨ns, v2, v3, g, rfl, hl, h1, nd, ok⟩
  obtain ⟨hi, rfl⟩ := ZI e
  obtain ⟨o2, e2, b2⟩ := g.bx
  walk_at "st"
  refine ⟨b, o2, rfl, e2, b2, fun x M2 hx f2 => ?_⟩
  have g2 := g.step hpb f2
  walk_at "st"
  refine wbs (kj g2.ls) rfl waS ?_
  rw [ZaL, if_pos rfl]
  walk_at "st"
  by_cases hm : x ∈ ns
  ·rw [decide_eq_true hm, if_neg (by decide)]
   walk_at "st"
   exact ⟨ns, _, _, g2, rfl, by lia, fun _ => List.length_pos_of_mem hm, nd, ok⟩
  ·rw [decide_eq_false hm, if_pos (by decide)]
   walk_at "st"
   refine ⟨⟨_, g2.ls⟩, ?_⟩
   walk_at "st"
   refine ⟨_, g2.ls, uV (by rw [uB]; lia) (kc (n := 100) (by decide)), ?_⟩
   refine ⟨ns ++ [x], _, _, by have := g2.upd (es := ns.map D.str ++ [.str x]) hpb; simpa using this, rfl, by simp; lia, fun _ => by simp, ?_, fun y hy => ?_⟩
   ·rw [List.nodup_append]
    exact ⟨nd, by simp, fun a ha b' hb' e => hm (by rw [uc.mp hb'] at e; rw [← e]; exact ha)⟩
   ·rcases uj.mp hy with hy | hy
    ·exact ok y hy
    ·rw [uc.mp hy]; exact hx
 ·rintro σ M' ⟨ns, v2, v3, g, rfl, hl, h1, nd, ok⟩
  rw [Zs] at hl h1
  walk_at "st"
  exact .inr ⟨p, _, rfl, g.ls, h ns _ ⟨h1 (by lia), by lia, nd, ok⟩ (g.del hpb hp)⟩
def Xn : SpD := fun ds M Q => ∃ (b : Addr) (o : OD), ds = [.ref b] /\ M b = some o /\ vw o /\ ∀ d M', 0 <= d -> d <= 999997400 -> Fr b M M' -> Q (.int d) M'
theorem jaH (ds : List D) (M : HpD) (Q : KD) (h : Xn ds M Q) : vK ja { nx := fun _ M' => Q .non M', rt := Q } (Xc ["_law_box_here", "_law_turn"] ds) M := by
 obtain ⟨b, o, rfl, eM, hb, h⟩ := h
 unfold vK
 walk_at "st"
 refine ⟨b, _, o, rfl, by decide, by decide, eM, hb, fun r M1 r0 r1 f1 => ?_⟩
 obtain ⟨o1, e1, b1⟩ := id f1.1
 walk_at "st"
 refine Z4 (fun _ => ?_) (fun _ => ?_)
 ·walk_at "st"
  exact .inl (h _ _ (by decide) (by decide) f1)
 ·walk_at "st"
  refine Z4 (fun _ => ?_) (fun _ => ?_)
  ·walk_at "st"
   refine ⟨b, _, o1, rfl, by decide, by decide, e1, b1, fun r' M2 r0' r1' f2 => ?_⟩
   walk_at "st"
   have e9 : (10 : Int) ^ (Int.toNat 9) = 1000000000 := by decide
   refine .inl (h _ _ (by rw [e9]; lia) (by rw [e9]; lia) (f1.trans f2))
  ·walk_at "st"
   refine Z4 (fun _ => ?_) (fun _ => ?_)
   ·walk_at "st"
    refine ⟨b, _, o1, rfl, by decide, by decide, e1, b1, fun r' M2 r0' r1' f2 => ?_⟩
    refine vaO (Wad (.inr ⟨by decide, by decide⟩) ?_)
    exact .inl (h _ _ (by lia) (by lia) (f1.trans f2))
   ·walk_at "st"
    refine ⟨b, _, o1, rfl, by decide, by decide, e1, b1, fun r' M2 r0' r1' f2 => ?_⟩
    exact .inl (h _ _ (by lia) (by lia) (f1.trans f2))
theorem WaF {ns : List Str} {r : Int} (h0 : 0 <= r) (h1 : r < ns.length) : ∃ x ∈ ns, atI (ns.map D.str) r = some (.str x) := by
 have hn : r.toNat < ns.length := by lia
 refine ⟨ns[r.toNat], xB hn, ?_⟩
 have e : ((r.toNat : Nat) : Int) = r := by lia
 have z := wR (xs := ns.map D.str) (j := r.toNat) (v := .str ns[r.toNat]) (by rw [uO, uG hn]; rfl)
 rw [e] at z
 exact z
noncomputable def Zo (h : Int × Str × Int) : D := .tup [.int h.1, .str h.2.1, .int h.2.2]
def OkH (ns : List Str) (h : Int × Str × Int) : Prop := 0 <= h.1 /\ h.1 <= 999997400 /\ h.2.1 ∈ ns /\ 0 <= h.2.2 /\ h.2.2 <= 9
def Xk : SpD := fun ds M Q => ∃ (b : Addr) (o : OD) (ns : List Str), ds = [.ref b, .lst (ns.map D.str)] /\ M b = some o /\ vw o /\ jY ns /\ ∀ hm M', OkH ns hm -> Fr b M M' -> Q (Zo hm) M'
theorem kaE (ds : List D) (M : HpD) (Q : KD) (h : Xk ds M Q) : wH ja Xn { nx := fun _ M' => Q .non M', rt := Q } (Xc ["_law_box_here", "_law_places_here"] ds) M := by
 obtain ⟨b, o, ns, rfl, eM, hb, gp, h⟩ := h
 unfold wH
 walk_at "st"
 refine ⟨b, o, rfl, eM, hb, fun d M1 d0 d1 f1 => ?_⟩
 obtain ⟨o1, e1, b1⟩ := id f1.1
 walk_at "st"
 refine WC rfl ?_
 walk_at "st"
 have l1 := gp.1
 have l2 := gp.2.1
 refine ⟨b, _, o1, rfl, by rw [uB]; lia, by rw [uB]; lia, e1, b1, fun r M2 r0 r1 f2 => ?_⟩
 obtain ⟨o2, e2, b2⟩ := id f2.1
 rw [uB] at r1
 obtain ⟨x, hx, hat⟩ := WaF r0 r1
 refine Yf rfl hat ?_
 walk_at "st"
 refine ⟨b, _, o2, rfl, by decide, by decide, e2, b2, fun g M3 g0 g1 f3 => ?_⟩
 walk_at "st"
 exact .inl (h (d, x, g) _ ⟨d0, d1, hx, g0, by show g <= 9; lia⟩ ((f1.trans f2).trans f3))
def kh : SpD := fun ds M Q => ∃ (b : Addr) (o : OD) (g : Int), ds = [.ref b, .int g] /\ M b = some o /\ vw o /\ 0 <= g /\ g <= 9 /\ ∀ g' M', 0 <= g' -> g' <= 9 -> Fr b M M' -> Q (.int g') M'
theorem kau (ds : List D) (M : HpD) (Q : KD) (h : kh ds M Q) : jF ja { nx := fun _ M' => Q .non M', rt := Q } (Xc ["_law_box_here", "_law_grade_here"] ds) M := by
 obtain ⟨b, o, g, rfl, eM, hb, g0, g1, h⟩ := h
 unfold jF
 walk_at "st"
 refine ⟨b, _, o, rfl, by decide, by decide, eM, hb, fun r M1 r0 r1 f1 => ?_⟩
 obtain ⟨o1, e1, b1⟩ := id f1.1
 walk_at "st"
 refine ⟨b, _, o1, rfl, by decide, by decide, e1, b1, fun r' M2 r0' r1' f2 => ?_⟩
 obtain ⟨o2, e2, b2⟩ := id f2.1
 walk_at "st"
 refine vn (kc (by show 4 <= 1000; decide)) ?_
 walk_at "st"
 refine ⟨b, _, o2, rfl, by decide, by decide, e2, b2, fun k M3 k0 k1 f3 => ?_⟩
 have : k = 0 \/ k = 1 \/ k = 2 \/ k = 3 := by lia
 have ff := (f1.trans f2).trans f3
 rcases this with rfl | rfl | rfl | rfl
 ·exact Yf rfl rfl (.inl (h _ _ g0 g1 ff))
 ·exact Yf rfl rfl (.inl (h _ _ g0 g1 ff))
 ·exact Yf rfl rfl (.inl (h _ _ (by lia) (by lia) ff))
 ·exact Yf rfl rfl (.inl (h _ _ (by lia) (by lia) ff))
def Yi : SpD := fun ds M Q => ∃ (b : Addr) (o : OD), ds = [.ref b] /\ M b = some o /\ vw o /\ ∀ d g M', 1 <= d -> d <= 9 -> 1 <= g -> g <= 9 -> Fr b M M' -> Q (.tup [.int d, .int g]) M'
theorem Yai (ds : List D) (M : HpD) (Q : KD) (h : Yi ds M Q) : jA ja { nx := fun _ M' => Q .non M', rt := Q } (Xc ["_law_box_here", "_law_turn"] ds) M := by
 obtain ⟨b, o, rfl, eM, hb, h⟩ := h
 unfold jA
 walk_at "st"
 refine ⟨b, _, o, rfl, by decide, by decide, eM, hb, fun r M1 r0 r1 f1 => ?_⟩
 obtain ⟨o1, e1, b1⟩ := id f1.1
 walk_at "st"
 refine Z4 (fun _ => ?_) (fun _ => ?_)
 ·walk_at "st"
  exact .inl (h _ _ _ (by decide) (by decide) (by decide) (by decide) f1)
 ·walk_at "st"
  refine ⟨b, _, o1, rfl, by decide, by decide, e1, b1, fun r' M2 r0' r1' f2 => ?_⟩
  obtain ⟨o2, e2, b2⟩ := id f2.1
  walk_at "st"
  refine ⟨b, _, o2, rfl, by decide, by decide, e2, b2, fun k M3 k0 k1 f3 => ?_⟩
  walk_at "st"
  exact .inl (h _ _ _ (by lia) (by lia) (by lia) (by lia) ((f1.trans f2).trans f3))
theorem vaR {α : Type} (xs : List α) (k : Nat) (y : α) : (Xz xs k y).Perm (xs ++ [y]) := by
 unfold Xz
 have : xs ++ [y] = (xs.take k ++ xs.drop k) ++ [y] := by rw [uz]
 rw [this, uh]
 exact List.Perm.append_left _ (u8 (l₁ := [y]) (l₂ := xs.drop k))
def Wbu {α : Type} (all : Bool) (ds es : List α) : Prop := ∃ l, l.Sublist ds /\ es.Perm l /\ (all = true -> l = ds)
def Wk : SpD := fun ds M Q => ∃ (b : Addr) (o : OD) (d : D) (all : Bool) (xs : List D), ds = [.ref b, d, .bl all] /\ M b = some o /\ vw o /\ Ye d M = some xs /\ (∀ p, d = .ref p -> p ≠ b) /\ xs.length <= 100 /\ ∀ es M', Wbu all xs es -> Fr b M M' -> Q (.lst es) M'
theorem Way (ds : List D) (M : HpD) (Q : KD) (h : Wk ds M Q) : XH ja { nx := fun _ M' => Q .non M', rt := Q } (Xc ["_law_box_here", "_law_some", "_law_all_of", "_law_found", "_law_one"] ds) M := by
 obtain ⟨b, o, d, all, xs, rfl, eM, hb, hd, hdb, hl, h⟩ := h
 unfold XH
 walk_at "st"
 refine newM (kc (ue _)) fun p hp => ?_
 obtain ⟨hpb, g0⟩ := Gro.start (Fr.self eM hb) hp []
 have hdp : ∀ q, d = .ref q -> q ≠ p := fun q e z => by
  subst e z
  rw [XG hd] at hp; cases hp
 have keep : ∀ {M' : HpD} {es : List D}, Gro b p M M' es -> Ye d M' = some xs := fun {M' es} g => by
  cases d with
  | lst l => exact hd
  | ref q => exact km ((g.fr q (hdb q rfl) (hdp q rfl)).trans (XG hd))
  | _ => cases hd
 walk_at "st"
 refine ⟨_, keep g0, fun i σ M' => ∃ (l es : List D) (v4 : Option D), Gro b p M M' es /\ σ = [some (.ref b), some d, some (.bl all), some (.ref p), v4] /\ l.Sublist (xs.take i) /\ es.Perm l /\ (all = true -> l = xs.take i), ⟨[], [], _, g0, rfl, by simp, List.Perm.refl _, fun _ => by simp⟩, fun i σ M' z => by obtain ⟨_, _, _, g, _⟩ := z; exact keep g, ?_, ?_⟩
 ·rintro i y σ M' e ⟨l, es, v4, g, rfl, sub, per, hall⟩
  have tk : xs.take (i + 1) = xs.take i ++ [y] := by rw [u1, e]; rfl
  have hi : i < xs.length := (uY.mp e).1
  have el : es.length <= 100 := by
   have := per.length_eq
   have := sub.length_le
   rw [ud] at this
   lia
  have put : ∀ (M1 : HpD), Gro b p M M1 es -> ∀ DD : Yx, (∀ σ M2, (∃ (l es : List D) (v4 : Option D), Gro b p M M2 es /\ σ = [some (.ref b), some d, some (.bl all), some (.ref p), v4] /\ l.Sublist (xs.take (i + 1)) /\ es.Perm l /\ (all = true -> l = xs.take (i + 1))) -> DD.nx σ M2) →
    (vq (X1 (Za 3) (Xb ja (Ya (Za 0) (Ya (wa jh (Xb Zq (Ya (Za 3) Zb)) (tCD (.int 1))) Zb))) (Za 4))) DD [some (.ref b), some d, some (.bl all), some (.ref p), some y] M1 := by
   intro M1 g1 DD hDD
   obtain ⟨o1, e1, b1⟩ := g1.bx
   walk_at "st"
   refine ⟨⟨_, g1.ls⟩, ?_⟩
   walk_at "st"
   refine WC (kj g1.ls) ?_
   walk_at "st"
   refine ⟨b, _, o1, rfl, by lia, by lia, e1, b1, fun r M2 r0 r1 f2 => ?_⟩
   have g2 := g1.step hpb f2
   walk_at "st"
   refine ⟨r.toNat, es, by rw [show ((r.toNat : Nat) : Int) = r by lia], g2.ls, uV (by lia) (kc (n := 200) (by decide)), by lia, ?_⟩
   refine hDD _ _ ⟨l ++ [y], _, _, g2.upd hpb, rfl, by rw [tk]; exact sub.append (List.Sublist.refl _), (vaR es _ y).trans (per.append_right _), fun z => by rw [tk, hall z]⟩
  walk_at "st"
  refine ⟨all, by unfold jw; rfl, ?_⟩
  cases all with
  | true =>
   rw [if_pos rfl, if_pos rfl]
   exact put M' g _ fun _ _ z => z
  | false =>
   rw [if_neg uF]
   obtain ⟨o1, e1, b1⟩ := g.bx
   walk_at "st"
   refine ⟨b, _, o1, rfl, by decide, by decide, e1, b1, fun r M2 r0 r1 f2 => ?_⟩
   have g2 := g.step hpb f2
   walk_at "st"
   refine YU (fun _ => ?_) (fun _ => ?_)
   ·exact put M2 g2 _ fun _ _ z => z
   ·refine qy ⟨l, es, _, g2, rfl, by rw [tk]; exact sub.trans (List.sublist_append_left _ _), per, fun z => by cases z⟩
 ·rintro σ M' ⟨l, es, v4, g, rfl, sub, per, hall⟩
  rw [xG] at sub hall
  walk_at "st"
  exact .inr ⟨p, _, rfl, g.ls, h es _ ⟨l, sub, per, hall⟩ (g.del hpb hp)⟩
theorem kZ {α β : Type} {f : α -> β} {es ms : List β} (h : es.Perm ms) : ∀ {l : List α}, ms = l.map f -> ∃ l' : List α, es = l'.map f /\ l'.Perm l := by
 induction h with
 | nil =>
  intro l e
  cases l with
  | nil => exact ⟨[], rfl, .refl _⟩
  | cons _ _ => cases e
 | cons x h ih =>
  intro l e
  cases l with
  | nil => cases e
  | cons y l =>
   rw [uf] at e
   injection e with e1 e2
   obtain ⟨l', rfl, p⟩ := ih e2
   exact ⟨y :: l', by rw [uf, e1], p.cons _⟩
 | swap x y l0 =>
  intro l e
  match l, e with
  | [], e => cases e
  | [_], e => cases e
  | a :: b :: l, e =>
   simp only [uf, List.cons.injEq] at e
   obtain ⟨e1, e2, e3⟩ := e
   exact ⟨b :: a :: l, by simp [e1, e2, e3], .swap _ _ _⟩
 | trans h1 h2 ih1 ih2 =>
  intro l e
  obtain ⟨l1, e1, p1⟩ := ih2 e
  obtain ⟨l2, e2, p2⟩ := ih1 e1
  exact ⟨l2, e2, p2.trans p1⟩
structure Fx (b : Addr) (M M' : HpD) : Prop where
 bx : ∃ o, M' b = some o /\ vw o
 old : ∀ a o, a ≠ b -> M a = some o -> M' a = some o
structure Pap where
 n : Int
 d : Int
 a : Str
 b : Str
 g : Int
noncomputable def Xd (p : Pap) : D := .tup [.int p.n, .int p.d, .str p.a, .str p.b, .int p.g]
structure GoodP (ns : List Str) (hm : Int × Str × Int) (n : Int) (ps : List Pap) : Prop where
 len : (ps.length : Int) = n
 num : (ps.map (·.n)).Nodup
 day : (ps.map (·.d)).Nodup
 one : ∀ p ∈ ps, 1 <= p.n /\ p.n <= 2400 /\ hm.1 < p.d /\ p.d <= hm.1 + 2500 /\ p.a ∈ ns /\ p.b ∈ ns /\ 0 <= p.g /\ p.g <= 9
theorem GoodP.perm {ns : List Str} {hm : Int × Str × Int} {n : Int} {ps qs : List Pap} (h : GoodP ns hm n ps) (p : qs.Perm ps) : GoodP ns hm n qs :=
 ⟨by rw [p.length_eq]; exact h.len, (p.map _).nodup_iff.mpr h.num, (p.map _).nodup_iff.mpr h.day, fun x hx => h.one x (p.mem_iff.mp hx)⟩
structure Born (ns : List Str) (hd : Int) (st : Int) (nums : List Int) (i : Nat) (cd : Int) (ps : List Pap) : Prop where
 num : ps.map (·.n) = (nums.take i).map (· * st)
 up : (ps.map (·.d)).Pairwise (· < ·)
 cur : hd <= cd /\ cd <= hd + 40 * i /\ ∀ p ∈ ps, p.d <= cd
 one : ∀ p ∈ ps, hd < p.d /\ p.a ∈ ns /\ p.b ∈ ns /\ 0 <= p.g /\ p.g <= 9
theorem Born.step {ns : List Str} {hd st : Int} {nums : List Int} {i : Nat} {cd cd' k : Int} {ps : List Pap} {a b : Str} {g : Int} (h : Born ns hd st nums i cd ps) (hk : nums[i]? = some k) (h1 : cd < cd') (h2 : cd' <= cd + 40) (ha : a ∈ ns) (hb : b ∈ ns) (g0 : 0 <= g) (g1 : g <= 9) :
  Born ns hd st nums (i + 1) cd' (ps ++ [⟨k * st, cd', a, b, g⟩]) := by
 obtain ⟨c1, c2, c3⟩ := h.cur
 refine ⟨?_, ?_, ⟨by lia, by push_cast; lia, fun p hp => ?_⟩, fun p hp => ?_⟩
 ·rw [uk, h.num, u1, hk, uk]; rfl
 ·rw [uk, xH]
  refine ⟨h.up, by simp, fun x hx y hy => ?_⟩
  obtain ⟨p, hp, rfl⟩ := xI.mp hx
  have : y = cd' := by simpa using hy
  have := c3 p hp
  lia
 ·rcases uj.mp hp with hp | hp
  ·have := c3 p hp; lia
  ·rw [uc.mp hp]; exact ul _
 ·rcases uj.mp hp with hp | hp
  ·exact h.one p hp
  ·rw [uc.mp hp]; exact ⟨by show hd < cd'; lia, ha, hb, g0, g1⟩
theorem Born.good {ns : List Str} {hm : Int × Str × Int} {st : Int} {nums : List Int} {n : Nat} {cd : Int} {ps : List Pap} (h : Born ns hm.1 st nums n cd ps) (hl : nums.length = n) (hn : n <= 60) (s1 : 1 <= st) (s2 : st <= 40) (nd : nums.Nodup) (hr : ∀ k ∈ nums, 1 <= k /\ k <= n) : GoodP ns hm n ps := by
 have e := h.num
 rw [uw (by lia)] at e
 have el : ps.length = n := by
  have := congrArg xy e
  rw [uB, uB] at this
  lia
 refine ⟨by rw [el], ?_, h.up.imp fun z => Int.ne_of_lt z, fun p hp => ?_⟩
 ·rw [e]
  refine List.Pairwise.map (R := (· ≠ ·)) _ (fun a b hab q => hab ?_) nd
  have q' : a * st = b * st := q
  exact Int.eq_of_mul_eq_mul_right (by lia) q'
 ·have o := h.one p hp
  have c := h.cur.2.2 p hp
  have c2 := h.cur.2.1
  have hm' : p.n ∈ ps.map (·.n) := xI.mpr ⟨p, hp, rfl⟩
  rw [e] at hm'
  obtain ⟨k, hk, ek⟩ := xI.mp hm'
  have rk := hr k hk
  refine ⟨?_, ?_, o.1, by lia, o.2.1, o.2.2.1, o.2.2.2.1, o.2.2.2.2⟩
  ·rw [← ek]; have := Int.mul_le_mul rk.1 s1 (by decide) (by lia); lia
  ·rw [← ek]; have := Int.mul_le_mul (show k <= 60 by lia) s2 (by lia) (by decide); lia
def XaU : TSD := (wb (Wc (Xb kh (Ya (Za 0) (Ya (Za 8) Zb))) (qb 8))
 (wb (vq (qA (Za 9) (Yr (Ya (wa YD (Za 10) (Za 5)) (Ya (Za 6) (Ya (Za 11) (Ya (Za 12) (Ya (Za 8) Zb))))))))
 (Xh (qd (wa Waa (Xb ja (Ya (Za 0) (Ya (tCD (.int 4)) Zb))) (tCD (.int 0)))) (Wc (Za 12) (qb 7)) qf)))
def vaS : TSD := (wb (Wc (Za 11) (qb 12))
 (wb (Xh (qd (wa Waa (Xb ja (Ya (Za 0) (Ya (tCD (.int 4)) Zb))) (tCD (.int 0)))) (Wc (wa Yd (Za 1) (Xb ja (Ya (Za 0) (Ya (Xb Zq (Ya (Za 1) Zb)) Zb)))) (qb 12)) qf)
 (wb (Wc (Xb kh (Ya (Za 0) (Ya (Za 8) Zb))) (qb 8))
 (wb (vq (qA (Za 9) (Yr (Ya (wa YD (Za 10) (Za 5)) (Ya (Za 6) (Ya (Za 11) (Ya (Za 12) (Ya (Za 8) Zb))))))))
 (Xh (qd (wa Waa (Xb ja (Ya (Za 0) (Ya (tCD (.int 4)) Zb))) (tCD (.int 0)))) (Wc (Za 12) (qb 7)) qf)))))
theorem Zbs {b p : Addr} {M M1 : HpD} {ns : List Str} {hm : Int × Str × Int} {n st cd cd' gr k : Int} {nums : List Int} {i : Nat} {ps : List Pap} {at_ here there : Str} {DD : Yx} (gp : jY ns) (hpb : p ≠ b) (g : Gro b p M M1 (ps.map Xd)) (hat_ : at_ ∈ ns) (gr0 : 0 <= gr) (gr1 : gr <= 9) (s1 : 1 <= st) (s2 : st <= 40) (hi : i < nums.length) (hn : nums.length <= 60) (hk : nums[i]? = some k) (hk2 : 1 <= k /\ k <= 60) (born : Born ns hm.1 st nums i cd ps) (h1 : cd < cd') (h2 : cd' <= cd + 40) (ha : here ∈ ns) (hb' : there ∈ ns) (hDD : ∀ σ M', (∃ (ps : List Pap) (cd : Int) (at_ : Str) (gr : Int) (v10 v11 v12 : Option D), Gro b p M M' (ps.map Xd) /\ σ = [some (.ref b), some (.lst (ns.map D.str)), some (Zo hm), some (.int n), some (.lst (nums.map D.int)), some (.int st), some (.int cd), some (.str at_), some (.int gr), some (.ref p), v10, v11, v12] /\ at_ ∈ ns /\ 0 <= gr /\ gr <= 9 /\ i + 1 <= nums.length /\ Born ns hm.1 st nums (i + 1) cd ps) -> DD.nx σ M') :
  XaU DD [some (.ref b), some (.lst (ns.map D.str)), some (Zo hm), some (.int n), some (.lst (nums.map D.int)), some (.int st), some (.int cd'), some (.str at_), some (.int gr), some (.ref p), some (.int k), some (.str here), some (.str there)] M1 := by
 obtain ⟨o2, e2, b2⟩ := g.bx
 have pl : ps.length = i := by
  have := congrArg xy born.num
  rw [uB, uB, ud] at this
  lia
 unfold XaU
 walk_at "st"
 refine ⟨b, o2, gr, rfl, e2, b2, gr0, gr1, fun gr' M2 g0 g1 f2 => ?_⟩
 have g2 := g.step hpb f2
 obtain ⟨o3, e3, b3⟩ := g2.bx
 walk_at "st"
 refine ⟨⟨_, g2.ls⟩, ?_⟩
 refine kaF (Waj (waO (vS rfl (vS rfl (Wad (show CMul k st from .inl ⟨by lia, by lia⟩) ?_)))))
 walk_at "st"
 refine ⟨_, g2.ls, uV (by rw [uB]; lia) (kc (n := 100) (by decide)), ?_⟩
 have g3 : Gro b p M (jg M2 p (.lst (ps.map Xd ++ [Xd ⟨k * st, cd', here, there, gr'⟩]))) ((ps ++ [(⟨k * st, cd', here, there, gr'⟩ : Pap)]).map Xd) := by
  have := g2.upd (es := ps.map Xd ++ [Xd ⟨k * st, cd', here, there, gr'⟩]) hpb
  rw [uk]
  exact this
 have born2 := born.step (a := here) (b := there) (g := gr') hk h1 h2 ha hb' g0 g1
 obtain ⟨o4, e4, b4⟩ := g3.bx
 walk_at "st"
 refine ⟨b, _, o4, rfl, by decide, by decide, e4, b4, fun r M3 r0 r1 f3 => ?_⟩
 have g4 := g3.step hpb f3
 walk_at "st"
 refine YU (fun _ => ?_) (fun _ => ?_)
 ·walk_at "st"
  exact hDD _ _ ⟨_, _, _, _, _, _, _, g4, rfl, hb', g0, g1, hi, born2⟩
 ·exact qy (hDD _ _ ⟨_, _, _, _, _, _, _, g4, rfl, hat_, g0, g1, hi, born2⟩)
theorem Ybl {v12 : Option D} {b p : Addr} {M M1 : HpD} {ns : List Str} {hm : Int × Str × Int} {n st cd cd' gr k : Int} {nums : List Int} {i : Nat} {ps : List Pap} {at_ here there : Str} {DD : Yx} (gp : jY ns) (hpb : p ≠ b) (g : Gro b p M M1 (ps.map Xd)) (hat_ : at_ ∈ ns) (gr0 : 0 <= gr) (gr1 : gr <= 9) (s1 : 1 <= st) (s2 : st <= 40) (hi : i < nums.length) (hn : nums.length <= 60) (hk : nums[i]? = some k) (hk2 : 1 <= k /\ k <= 60) (born : Born ns hm.1 st nums i cd ps) (h1 : cd < cd') (h2 : cd' <= cd + 40) (ha : here ∈ ns) (hDD : ∀ σ M', (∃ (ps : List Pap) (cd : Int) (at_ : Str) (gr : Int) (v10 v11 v12 : Option D), Gro b p M M' (ps.map Xd) /\ σ = [some (.ref b), some (.lst (ns.map D.str)), some (Zo hm), some (.int n), some (.lst (nums.map D.int)), some (.int st), some (.int cd), some (.str at_), some (.int gr), some (.ref p), v10, v11, v12] /\ at_ ∈ ns /\ 0 <= gr /\ gr <= 9 /\ i + 1 <= nums.length /\ Born ns hm.1 st nums (i + 1) cd ps) -> DD.nx σ M') :
  vaS DD [some (.ref b), some (.lst (ns.map D.str)), some (Zo hm), some (.int n), some (.lst (nums.map D.int)), some (.int st), some (.int cd'), some (.str at_), some (.int gr), some (.ref p), some (.int k), some (.str here), v12] M1 := by
 obtain ⟨o2, e2, b2⟩ := g.bx
 have l1 := gp.1
 have l2 := gp.2.1
 unfold vaS
 walk_at "st"
 refine ⟨b, _, o2, rfl, by decide, by decide, e2, b2, fun r M2 r0 r1 f2 => ?_⟩
 have g2 := g.step hpb f2
 obtain ⟨o3, e3, b3⟩ := g2.bx
 walk_at "st"
 refine YU (fun _ => ?_) (fun _ => ?_)
 ·walk_at "st"
  refine WC rfl ?_
  walk_at "st"
  refine ⟨b, _, o3, rfl, by rw [uB]; lia, by rw [uB]; lia, e3, b3, fun r' M3 r0' r1' f3 => ?_⟩
  have g3 := g2.step hpb f3
  rw [uB] at r1'
  obtain ⟨x, hx, hat⟩ := WaF r0' r1'
  refine Yf rfl hat (qB ?_)
  exact Zbs gp hpb g3 hat_ gr0 gr1 s1 s2 hi hn hk hk2 born h1 h2 ha hx hDD
 ·refine qy ?_
  exact Zbs gp hpb g2 hat_ gr0 gr1 s1 s2 hi hn hk hk2 born h1 h2 ha ha hDD
def vh : SpD := fun ds M Q => ∃ (b : Addr) (o : OD) (ns : List Str) (hm : Int × Str × Int) (n : Int), ds = [.ref b, .lst (ns.map D.str), Zo hm, .int n] /\ M b = some o /\ vw o /\ jY ns /\ OkH ns hm /\ 0 <= n /\ n <= 60 /\ ∀ ps M', GoodP ns hm n ps -> Fx b M M' -> Q (.lst (ps.map Xd)) M'
theorem kah (ds : List D) (M : HpD) (Q : KD) (h : vh ds M Q) : YA Wk ja kh { nx := fun _ M' => Q .non M', rt := Q } (Xc ["_law_box_here", "_law_places_here", "_law_home_here", "_law_size", "_law_numbers", "_law_step", "_law_day_here", "_law_at", "_law_grade_here", "_law_found", "_law_number", "_law_here", "_law_there"] ds) M := by
 obtain ⟨b, o, ns, hm, n, rfl, eM, hb, gp, okh, n0, n1, h⟩ := h
 have l1 := gp.1
 have l2 := gp.2.1
 unfold YA
 walk_at "st"
 refine ⟨1, n + 1, rfl, ⟨by decide, by decide, by lia, by lia⟩, by lia, vn (kc (by rw [Zs]; lia)) ?_⟩
 walk_at "st"
 refine ⟨b, o, _, true, _, rfl, eM, hb, rfl, (fun p e => by cases e), by rw [Zs]; lia, fun es M1 dl f1 => ?_⟩
 obtain ⟨nums, rfl, pn⟩ : ∃ nums : List Int, es = nums.map D.int /\ nums.Perm ((uv n.toNat).map fun (k : Nat) => (1 : Int) + k) := by
  obtain ⟨l, _, pe, ha⟩ := dl
  have := ha rfl
  subst this
  refine kZ pe ?_
  unfold Xx
  rw [show (n + 1 - 1).toNat = n.toNat by lia, List.map_map]
  rfl
 have nl : nums.length = n.toNat := by rw [pn.length_eq]; simp
 have nd : nums.Nodup := pn.nodup_iff.mpr (List.Pairwise.map (R := (· ≠ ·)) _ (fun a b hab q => hab (by have q' : (1 : Int) + a = 1 + b := q; lia)) List.nodup_range)
 have hr : ∀ k ∈ nums, 1 <= k /\ k <= (n.toNat : Int) := fun k hk => by
  obtain ⟨j, hj, rfl⟩ := xI.mp (pn.mem_iff.mp hk)
  have := yL.mp hj
  lia
 obtain ⟨o1, e1, b1⟩ := id f1.1
 walk_at "st"
 refine vn (kc (by show 4 <= 1000; decide)) ?_
 walk_at "st"
 refine ⟨b, _, o1, rfl, by decide, by decide, e1, b1, fun r M2 r0 r1 f2 => ?_⟩
 obtain ⟨st, hat, s1, s2⟩ : ∃ st : Int, atI [D.int 1, .int 1, .int 3, .int 40] r = some (.int st) /\ 1 <= st /\ st <= 40 := by
  have : r = 0 \/ r = 1 \/ r = 2 \/ r = 3 := by lia
  rcases this with rfl | rfl | rfl | rfl <;> exact ⟨_, rfl, by decide, by decide⟩
 refine Yf rfl hat ?_
 walk_at "st"
 refine newM (kc (ue _)) fun p hp => ?_
 obtain ⟨hpb, g0⟩ := Gro.start (f1.trans f2) hp []
 have hpM : M p = none := by rw [← (f1.trans f2).2 p hpb]; exact hp
 walk_at "st"
 refine ⟨fun i σ M' => ∃ (ps : List Pap) (cd : Int) (at_ : Str) (gr : Int) (v10 v11 v12 : Option D), Gro b p M M' (ps.map Xd) /\ σ = [some (.ref b), some (.lst (ns.map D.str)), some (Zo hm), some (.int n), some (.lst (nums.map D.int)), some (.int st), some (.int cd), some (.str at_), some (.int gr), some (.ref p), v10, v11, v12] /\ at_ ∈ ns /\ 0 <= gr /\ gr <= 9 /\ i <= nums.length /\ Born ns hm.1 st nums i cd ps, ⟨[], _, _, _, _, _, _, g0, rfl, okh.2.2.1, okh.2.2.2.1, okh.2.2.2.2, ue _, ⟨rfl, by simp, ⟨ul _, by lia, by simp⟩, by simp⟩⟩, fun _ _ _ _ => rfl, ?_, ?_⟩
 ·rintro i d σ M' e ⟨ps, cd, at_, gr, v10, v11, v12, g, rfl, hat_, gr0, gr1, hi, born⟩
  obtain ⟨k, hk, rfl⟩ : ∃ k, nums[i]? = some k /\ d = .int k := by
   rw [uO] at e
   cases q : nums[i]? with
   | none => rw [q] at e; cases e
   | some k => rw [q] at e; cases e; exact ⟨k, rfl, rfl⟩
  have hi2 : i < nums.length := (uY.mp hk).1
  obtain ⟨o2, e2, b2⟩ := g.bx
  walk_at "st"
  refine ⟨b, _, o2, rfl, by decide, by decide, e2, b2, fun ra M3 ra0 ra1 f3 => ?_⟩
  have g3 := g.step hpb f3
  obtain ⟨o3, e3, b3⟩ := g3.bx
  walk_at "st"
  refine ⟨b, _, o3, rfl, by decide, by decide, e3, b3, fun rb M4 rb0 rb1 f4 => ?_⟩
  have g4 := g3.step hpb f4
  obtain ⟨o4, e4, b4⟩ := g4.bx
  walk_at "st"
  refine vn (kc (by show 5 <= 1000; decide)) ?_
  walk_at "st"
  refine ⟨b, _, o4, rfl, by decide, by decide, e4, b4, fun rc M5 rc0 rc1 f5 => ?_⟩
  have g5 := g4.step hpb f5
  obtain ⟨o5, e5, b5⟩ := g5.bx
  obtain ⟨dd, hdd, dd1, dd2⟩ : ∃ dd : Int, atI [D.int 1, .int 1, .int 2, .int (1 + ra), .int (1 + rb)] rc = some (.int dd) /\ 1 <= dd /\ dd <= 40 := by
   have : rc = 0 \/ rc = 1 \/ rc = 2 \/ rc = 3 \/ rc = 4 := by lia
   rcases this with rfl | rfl | rfl | rfl | rfl <;> exact ⟨_, rfl, by lia, by lia⟩
  refine Yf rfl hdd ?_
  have kk : 1 <= k /\ k <= 60 := by have := hr k (xT hk); lia
  walk_at "st"
  refine ⟨b, _, o5, rfl, by decide, by decide, e5, b5, fun r' M6 r0' r1' f6 => ?_⟩
  have g6 := g5.step hpb f6
  obtain ⟨o6, e6, b6⟩ := g6.bx
  walk_at "st"
  refine Z4 (fun _ => ?_) (fun _ => ?_)
  ·walk_at "st"
   refine WC rfl ?_
   walk_at "st"
   refine ⟨b, _, o6, rfl, by rw [uB]; lia, by rw [uB]; lia, e6, b6, fun r2 M7 r20 r21 f7 => ?_⟩
   have g7 := g6.step hpb f7
   rw [uB] at r21
   obtain ⟨x, hx, hat2⟩ := WaF r20 r21
   refine Yf rfl hat2 (qB ?_)
   exact Ybl (there := at_) gp hpb g7 hat_ gr0 gr1 s1 s2 hi2 (by lia) hk kk born (by lia) (by lia) hx fun _ _ z => z
  ·refine qy ?_
   exact Ybl (there := at_) gp hpb g6 hat_ gr0 gr1 s1 s2 hi2 (by lia) hk kk born (by lia) (by lia) hat_ fun _ _ z => z
 ·rintro σ M' ⟨ps, cd, at_, gr, v10, v11, v12, g, rfl, hat_, gr0, gr1, hi, born⟩
  rw [uB, nl] at born
  obtain ⟨o2, e2, b2⟩ := g.bx
  have good := born.good nl (by lia) s1 s2 nd hr
  rw [show ((n.toNat : Nat) : Int) = n by lia] at good
  walk_at "st"
  refine ⟨b, o2, _, true, _, rfl, e2, b2, km g.ls, (fun q e => by cases e; exact hpb), by rw [uB]; have := good.len; lia, fun es M3 dl f3 => ?_⟩
  obtain ⟨l, _, pe, ha⟩ := dl
  have := ha rfl
  subst this
  obtain ⟨qs, rfl, pq⟩ := kZ pe rfl
  exact .inl (h qs M3 (good.perm pq) ⟨f3.1, fun a o' z e => (f3.2 a z).trans ((g.fr a z (fun q => by rw [q, hpM] at e; cases e)).trans e)⟩)
def kaf (ps qs : List Pap) : Prop := qs.Perm ps /\ qs.Pairwise (fun a b => a.d < b.d)
theorem jaz {ps qs : List Pap} (nd : (ps.map (·.d)).Nodup) (p : qs.Perm ps) (h : qs.Pairwise fun a b => a.d <= b.d) : kaf ps qs := by
 refine ⟨p, ?_⟩
 have nq : (qs.map (·.d)).Nodup := (p.map _).nodup_iff.mpr nd
 have nq' : qs.Pairwise fun a b => a.d ≠ b.d := List.pairwise_map.mp nq
 exact (h.and nq').imp fun z => by have := z.1; have := z.2; lia
theorem kaY {ps qs rs : List Pap} (nd : (ps.map (·.d)).Nodup) (h : kaf ps qs) (g : kaf ps rs) : qs = rs := by
 have inj : ∀ a ∈ ps, ∀ b ∈ ps, a.d = b.d -> a = b := fun a ha b hb e => by
  obtain ⟨i, hi, ei⟩ := List.getElem_of_mem ha
  obtain ⟨j, hj, ej⟩ := List.getElem_of_mem hb
  have : i = j := by
   rw [List.nodup_iff_pairwise_ne, xR] at nd
   rcases Nat.lt_trichotomy i j with z | z | z
   ·exact absurd (by rw [List.getElem_map, List.getElem_map, ei, ej]; exact e) (nd i j (by simpa using hi) (by simpa using hj) z)
   ·exact z
   ·exact absurd (by rw [List.getElem_map, List.getElem_map, ei, ej]; exact e.symm) (nd j i (by simpa using hj) (by simpa using hi) z)
  subst this
  rw [← ei, ← ej]
 refine List.Perm.eq_of_pairwise (le := fun a b : Pap => a.d <= b.d) (fun a b ha hb h1 h2 => inj a (h.1.mem_iff.mp ha) b (g.1.mem_iff.mp hb) (by lia)) (h.2.imp fun z => xN z) (g.2.imp fun z => xN z) (h.1.trans g.1.symm)
def YC : TSD :=
 (wb (Wc (Za 0) (Zx 3 (Zh (qb 1) (Zh (qb 2) (Zh (qb 3) Wx)))))
 (We (Yr (Ya (tCD (.int 0)) (Ya (Za 1) (Ya (Za 2) (Ya (Za 2) (Ya (Za 3) Zb))))))))
def Zv (Zf : SpD) : TSD :=
 (wb (Wc (jG 1 (js (Za 1)) (qb 0) YT (wa Yd (Za 0) (tCD (.int (0)))) (Za 0)) (qb 4))
 (wb (Wc (Zm Zb) (qb 5))
 (wb (jy (js (Za 2)) (qb 6) (wb (Xh (qd (jO true (Za 6) (Za 4))) Y2 qf)
 (wb (Wc (YY (Za 4) (Za 6)) (qb 3))
 (wb (Xh (ZE (Xs (Za 5)) (qd (wa wU (wa Yd (Za 3) (tCD (.int (1)))) (wa Yd (wa Yd (Za 5) (vH (tCD (.int 1)))) (tCD (.int (1))))))) Y2 qf)
 (vq (qA (Za 5) (Za 3)))))))
 (We (wa kH (Zm (Ya (Xb Zf (Ya (Za 0) Zb)) Zb)) (Za 5))))))
def jE : TSD :=
 (We (WM (Ya (Za 0) (Ya (WU (Za 0) (ZF (tCD (.int 1))) qu) Zb))))
def jT : TSD :=
 (We (wa (jm true) (wa Yd (Za 0) (tCD (.int (3)))) (wa Yd (Za 1) (tCD (.int (2))))))
def wC : TSD :=
 (We (vY (Xb ZT (Ya (Za 0) (Ya (tCD (.ty "int")) Zb))) (qZ (Xb ZT (Ya (Za 0) (Ya (tCD (.ty "bool")) Zb))))))
noncomputable def hmP (hm : Int × Str × Int) : Pap := ⟨0, hm.1, hm.2.1, hm.2.1, hm.2.2⟩
structure WaL (ps l : List Pap) : Prop where
 up : l.Pairwise (fun a b => a.d < b.d)
 sub : ∀ p ∈ l, p ∈ ps
 len : l.length <= ps.length
 num : (ps.map (·.n)).Nodup
 sz : ps.length <= 60
noncomputable def prs (c : List Pap) : List (Pap × Pap) := c.zip (c.drop 1)
noncomputable def wbk (z : Pap × Pap) : D := .tup [Xd z.1, Xd z.2]
theorem kbe (c : List Pap) : XJ (c.map Xd) ((c.map Xd).drop 1) = (prs c).map wbk := by
 unfold XJ prs
 rw [← List.map_drop, List.zipWith_map, List.zip_eq_zipWith, List.map_zipWith]
 rfl
noncomputable def WP (z : Pap × Pap) : Bool := decide (z.1.b ≠ z.2.a)
theorem qah {c : List Pap} : (prs c).length <= c.length := by unfold prs; simp
theorem waK (ds : List D) (h : ds ≠ []) : L2.qX ds (some 1) none = ds.drop 1 := by
 have hl : 1 <= ds.length := by cases ds with | nil => exact absurd rfl h | cons => simp
 unfold L2.qX
 have e1 : HT.sIx ds.length 0 (some 1) = 1 := by
  unfold HT.sIx; simp; lia
 have e2 : HT.sIx ds.length ds.length none = ds.length := by unfold HT.sIx; rfl
 rw [e1, e2, uw (by simp)]
theorem wZ {neg : Bool} {x y : Str} {M : HpD} {Q : KD} (q : Q (.bl (neg ^^ decide (x = y))) M) : jm neg (.str x) (.str y) M Q := by
 refine kaB rfl (ue _) ?_
 have e : eqD (we (.str x) M) (we (.str y) M) = decide (x = y) := by
  by_cases z : x = y <;> simp [we, eqD, z]
 rw [e]; exact q
def Zf : SpD := fun ds M Q => ∃ hm : Int × Str × Int, ds = [Zo hm] /\ Q (Xd (hmP hm)) M
theorem qat (ds : List D) (M : HpD) (Q : KD) (h : Zf ds M Q) : YC { nx := fun _ M' => Q .non M', rt := Q } (Xc ["home", "day", "place", "grade"] ds) M := by
 obtain ⟨hm, rfl, h⟩ := h
 unfold YC
 walk_at "st"
 exact .inl h
noncomputable def kvP (p : Pap) : Key × D := (.inl p.n, Xd p)
theorem Xbg {ps : List Pap} {p : Pap} (h : p.n ∉ ps.map (·.n)) : Zab (ps.map kvP) (.inl p.n) (Xd p) = (ps ++ [p]).map kvP := by
 unfold Zab
 rw [if_neg, uk]
 ·rfl
 ·intro z
  obtain ⟨kv, hk, e⟩ := List.any_eq_true.mp z
  obtain ⟨q, hq, rfl⟩ := xI.mp hk
  have e' : (Sum.inl q.n : Key) = .inl p.n := of_decide_eq_true e
  injection e' with e'
  exact h (xI.mpr ⟨q, hq, e'⟩)
theorem XaX : ∀ {ps : List Pap} {p : Pap}, (ps.map (·.n)).Nodup -> p ∈ ps -> WG (ps.map kvP) (.inl p.n) = some (Xd p)
 | [], p, _, h => by cases h
 | a :: ps, p, nd, h => by
  rw [uf, yD] at nd
  rcases uU.mp h with rfl | h
  ·exact YaB (p := kvP p) (r := ps.map kvP) rfl
  ·rw [uf, WaD (fun z => nd.1 ?_), XaX nd.2 h]
   have z' : (Sum.inl a.n : Key) = .inl p.n := z
   injection z' with z'
   exact xI.mpr ⟨p, h, z'.symm⟩
def Mo (M M' : HpD) : Prop := ∀ a o, M a = some o -> M' a = some o
theorem Mo.refl {M : HpD} : Mo M M := fun _ _ e => e
theorem Mo.trans {M M1 M2 : HpD} (a : Mo M M1) (b : Mo M1 M2) : Mo M M2 := fun c o e => b c o (a c o e)
theorem Mo.upd {M M1 : HpD} {p : Addr} {o : OD} (h : Mo M M1) (hp : M p = none) : Mo M (jg M1 p o) := fun a u e => by
 rw [ve (fun z => by rw [z, hp] at e; cases e)]; exact h a u e
def wg : SpD := fun ds M Q => ∃ (hm : Int × Str × Int) (ps l : List Pap), ds = [Zo hm, .lst (ps.map Xd), .lst ((l.map (·.n)).map D.int)] /\ WaL ps l /\ ∀ M', Mo M M' -> Q (.lst ((hmP hm :: l).map Xd)) M'
theorem X6 (ds : List D) (M : HpD) (Q : KD) (h : wg ds M Q) : Zv Zf { nx := fun _ M' => Q .non M', rt := Q } (Xc ["home", "papers", "story", "paper", "known", "believed", "number"] ds) M := by
 obtain ⟨hm, ps, l, rfl, ch, h⟩ := h
 have sz := ch.sz
 have ll := ch.len
 unfold Zv
 walk_at "st"
 refine ⟨kc (by rw [uB]; lia), fun j ys σ M2 => M2 = M /\ (∃ v, σ = [v, some (Zo hm), some (.lst (ps.map Xd)), some (.lst ((l.map (·.n)).map D.int)), none, none, none, none]) /\ ys = (ps.take j).map kvP, ⟨rfl, ⟨_, rfl⟩, by simp⟩, fun _ _ _ _ _ => rfl, ?_, ?_⟩
 ·rintro j d ys σ M2 e2 ⟨rfl, ⟨v, rfl⟩, rfl⟩
  rw [uO] at e2
  cases q : ps[j]? with
  | none => rw [q] at e2; cases e2
  | some z =>
   rw [q] at e2; cases e2
   have tk : ps.take (j + 1) = ps.take j ++ [z] := by rw [u1, q]; rfl
   walk_at "st"
   refine Yf rfl rfl ?_
   walk_at "st"
   refine ⟨.inl z.n, rfl, rfl, ⟨_, rfl⟩, ?_⟩
   rw [tk]
   refine Xbg fun hz => ?_
   have nd := ch.num
   have e3 : ps = ps.take j ++ z :: ps.drop (j + 1) := by
    have hj := (uY.mp q)
    obtain ⟨hj1, hj2⟩ := hj
    rw [← hj2, List.getElem_cons_drop, uz]
   rw [e3, uk, uf, List.nodup_append] at nd
   exact nd.2.2 _ hz _ ug rfl
 ·rintro ys σ M2 ⟨rfl, ⟨v, rfl⟩, rfl⟩
  rw [uB, xG]
  intro kp hkp
  walk_at "st"
  refine newM (kc (ue _)) fun bp hbp => ?_
  have hkb : kp ≠ bp := fun z => by rw [z, wc] at hbp; cases hbp
  have hbp2 : M2 bp = none := by rw [ve (Ne.symm hkb)] at hbp; exact hbp
  walk_at "st"
  refine ⟨fun i σ M' => ∃ v3 v6, σ = [some (Zo hm), some (.lst (ps.map Xd)), some (.lst ((l.map (·.n)).map D.int)), v3, some (.ref kp), some (.ref bp), v6] /\ M' kp = some (.dct (ps.map kvP)) /\ M' bp = some (.lst ((l.take i).map Xd)) /\ Mo M2 M', ⟨_, _, rfl, by rw [ve hkb]; exact wc, by simpa using wc, (Mo.refl.upd hkp).upd hbp2⟩, fun _ _ _ _ => rfl, ?_, ?_⟩
  ·rintro i d σ M' e ⟨v3, v6, rfl, hk, hb, mo⟩
   obtain ⟨p, hp, rfl⟩ : ∃ p, l[i]? = some p /\ d = .int p.n := by
    rw [uO, uO] at e
    cases q : l[i]? with
    | none => rw [q] at e; cases e
    | some k => rw [q] at e; cases e; exact ⟨k, rfl, rfl⟩
   have hv := XaX ch.num (ch.sub p (xT hp))
   walk_at "st"
   refine ⟨_, .inl p.n, WaC hk, rfl, ?_⟩
   rw [hv]
   refine ⟨_, rfl, ?_⟩
   rw [if_neg (by simp)]
   walk_at "st"
   refine ⟨_, .inl p.n, _, WaC hk, rfl, hv, ?_⟩
   walk_at "st"
   refine ⟨_, va1 (km hb), ?_⟩
   have hi : i < l.length := (uY.mp hp).1
   have fin : ∀ M3, M3 = jg M' bp (.lst ((l.take i).map Xd ++ [Xd p])) -> M3 kp = some (.dct (ps.map kvP)) /\ M3 bp = some (.lst ((l.take (i + 1)).map Xd)) /\ Mo M2 M3 := fun M3 e3 => by
    subst e3
    refine ⟨by rw [ve hkb]; exact hk, ?_, mo.upd hbp2⟩
    rw [wc, u1, hp]
    simp
   have sl : ((l.take i).map Xd).length < sizeLine := yF (show _ <= 60 by simp; lia) (uV (by decide) (kc (n := 100) (by decide)))
   cases i with
   | zero =>
    rw [if_neg (by simp)]
    rw [if_neg (by decide)]
    walk_at "st"
    refine ⟨⟨_, hb⟩, ?_⟩
    walk_at "st"
    exact ⟨_, hb, sl, _, _, rfl, fin _ rfl⟩
   | succ j =>
    obtain ⟨z, hz⟩ : ∃ z, l[j]? = some z := ⟨_, uG (by lia)⟩
    have tk : l.take (j + 1) = l.take j ++ [z] := by rw [u1, hz]; rfl
    have lt : z.d < p.d := by
     have := xR.mp ch.up j (j + 1) (by lia) hi (by lia)
     rw [(uY.mp hz).2, (uY.mp hp).2] at this
     exact this
    rw [if_pos (by rw [tk]; simp)]
    walk_at "st"
    refine Yf rfl rfl ?_
    walk_at "st"
    refine Yf (kj hb) (d := Xd z) (by rw [tk, uk]; exact qU _ _) ?_
    walk_at "st"
    refine Yf rfl rfl ?_
    walk_at "st"
    rw [if_neg (by simp; lia)]
    walk_at "st"
    refine ⟨⟨_, hb⟩, ?_⟩
    walk_at "st"
    exact ⟨_, hb, sl, _, _, rfl, fin _ rfl⟩
  ·rintro σ M' ⟨v3, v6, rfl, hk, hb, mo⟩
   rw [uB, uB, xG] at hb
   walk_at "st"
   refine vn (kc (by show 1 <= 1000; decide)) ?_
   walk_at "st"
   refine v0 rfl (km hb) (vn (kc (by simp; lia)) ?_)
   exact .inl (h _ mo)
def vk : SpD := fun ds M Q => ∃ c : List Pap, ds = [.lst (c.map Xd)] /\ c ≠ [] /\ c.length <= 61 /\ Q (.lst ((prs c).map wbk)) M
theorem wat (ds : List D) (M : HpD) (Q : KD) (h : vk ds M Q) : jE { nx := fun _ M' => Q .non M', rt := Q } (Xc ["chain"] ds) M := by
 obtain ⟨c, rfl, c0, cl, h⟩ := h
 unfold jE
 walk_at "st"
 rw [waK _ (by simpa using c0)]
 refine vn (kc (by simp; lia)) ?_
 walk_at "st"
 refine ⟨_, _, _, _, rfl, rfl, rfl, by simp; lia, ?_⟩
 rw [kbe]
 have pl := qah (c := c)
 exact vn (kc (by rw [uB]; lia)) (.inl h)
def qi : SpD := fun ds M Q => ∃ p q : Pap, ds = [Xd p, Xd q] /\ Q (.bl (WP (p, q))) M
theorem vbi (z : Pap × Pap) : (true ^^ decide (z.1.b = z.2.a)) = WP z := by
 unfold WP
 by_cases q : z.1.b = z.2.a <;> simp [q]
theorem ZaZ (ds : List D) (M : HpD) (Q : KD) (h : qi ds M Q) : jT { nx := fun _ M' => Q .non M', rt := Q } (Xc ["first", "second"] ds) M := by
 obtain ⟨p, q, rfl, h⟩ := h
 unfold jT
 walk_at "st"
 refine Yf rfl rfl ?_
 walk_at "st"
 refine Yf rfl rfl ?_
 refine wZ ?_
 rw [vbi (p, q)]
 exact .inl h
theorem jaT {ds : List D} {M : HpD} {Q Q' : KD} (h : newL ds M Q) (i : ∀ d M', Q d M' -> Q' d M') : newL ds M Q' := by
 unfold newL at h ⊢
 exact ⟨h.1, h.2.elim (fun a => .inl (i _ _ a)) fun a => .inr fun p hp => i _ _ (a p hp)⟩
def Zj : SpD := fun ds M Q => ∃ i, ds = [.int i] /\ Q (.bl true) M
theorem Zas (ds : List D) (M : HpD) (Q : KD) (h : Zj ds M Q) : wC { nx := fun _ M' => Q .non M', rt := Q } (Xc ["_law_found"] ds) M := by
 obtain ⟨i, rfl, h⟩ := h
 unfold wC
 walk_at "st"
 refine XX rfl (by decide) ?_
 refine ⟨true, rfl, ?_⟩
 rw [if_pos rfl]
 walk_at "st"
 refine XX rfl (by decide) ?_
 exact ⟨false, rfl, .inl h⟩
def XA (Pt : Addr) (Zf : SpD) : TSD :=
 (We (wa kH (Zm (Ya (Xb Zf (Ya (Za 0) Zb)) Zb)) (WI Pt "whole_chain.<locals>.<lambda>" (vbs ["paper"] 1 (wa Yd (Za 0) (tCD (.int (1))))) (Za 1))))
def jH (qi : SpD) : TSD :=
 (wb (Wc (Za 1) (Zx 2 (Zh (qb 4) (Zh (qb 5) Wx))))
 (wb (Wc (wa YD (Za 4) (wa qE (wa qE (Za 3) (Za 2)) (tCD (.int 1)))) (qb 6))
 (wb (Xh (Xs (Xb qi (Ya (wa Yd (Za 0) (Za 2)) (Ya (wa Yd (Za 0) (Za 3)) Zb)))) (We (wa jh (Za 6) (Za 5))) qf)
 (We (Za 6)))))
def qK : TSD :=
 (wb (Wc (wa Yd (Za 1) (tCD (.int 0))) (qb 3))
 (We (wa YD (Za 3) (wa qE (wa qE (Xb Zq (Ya (Za 0) Zb)) (Za 2)) (tCD (.int 1))))))
def WF (Wf Wg : SpD) : TSD :=
 (wb (Wc (qI 1 (kR (Ya (wa jh (Za 3) (tCD (.int 1))) (Ya (Xb Zq (Ya (Za 0) Zb)) Zb))) (qb 0) YT (wa jh (Xb Wf (Ya (Za 1) (Ya (Za 2) (Ya (Za 4) (Ya (Za 0) Zb))))) (wa Yd (Za 3) (Za 0)))) (qb 4))
 (We (Xb jae (Ya (wa kH (Zm (Ya (Xb Wg (Ya (Za 0) (Ya (Za 1) (Ya (Za 3) Zb)))) Zb)) (Za 4)) Zb))))
def vA (Zl : SpD) : TSD :=
 (wb (Wc (wa Yag (Zm (Ya (tCD (.int 0)) Zb)) (Xb Zq (Ya (Za 0) Zb))) (qb 2))
 (wb (WE (qag (Ya (Xb Zq (Ya (Za 0) Zb)) Zb)) (qb 3) (Wc (Xb Zl (Ya (Za 0) (Ya (Za 1) (Ya (Za 2) (Ya (Za 3) Zb))))) (qH (Za 2) (Za 3))))
 (We (Za 2))))
def ZD (Xj jj Wg Wf : SpD) : TSD :=
 (wb (Wc (Xb Xj (Ya (Za 0) (Ya (Za 1) Zb))) (qb 3))
 (wb (Wc (Xb jj (Ya (Za 3) (Ya (Za 2) Zb))) (qb 4))
 (wb (Wc (Zm Zb) (qb 5))
 (wb (Wc (tCD (.int 0)) (qb 6))
 (wb (WE (kR (Ya (tCD (.int 1)) (Ya (Xb Zq (Ya (Za 3) Zb)) Zb))) (qb 7) (wb (Wc (wa (jm false) (wa Yd (Za 4) (Za 6)) (Xb Wg (Ya (Za 3) (Ya (Za 2) (Ya (Za 6) Zb))))) (qb 8))
 (Xh (ZE (jD (Xs (Za 8))) (qd (wa (jm false) (wa Yd (Za 4) (Za 6)) (wa jh (Xb Wf (Ya (Za 3) (Ya (Za 2) (Ya (Za 6) (Ya (Za 7) Zb))))) (wa Yd (Za 4) (Za 7)))))) (wb (vq (qA (Za 5) (wa Yd (wa Yd (Za 3) (Za 7)) (tCD (.int (0))))))
 (Wc (Za 7) (qb 6))) qf)))
 (We (Za 5)))))))
noncomputable def ord (ps : List Pap) : List Pap := ps.mergeSort fun a b => decide (a.d <= b.d)
theorem kaq {ps : List Pap} (nd : (ps.map (·.d)).Nodup) : kaf ps (ord ps) := by
 refine jaz nd (List.mergeSort_perm _ _) ?_
 have := List.pairwise_mergeSort (le := fun a b : Pap => decide (a.d <= b.d)) (fun a b c h1 h2 => by simp at h1 h2 ⊢; lia) (fun a b => by simp; lia) ps
 exact this.imp fun h => by simpa using h
theorem waj {ps : List Pap} : (ord ps).length = ps.length := (List.mergeSort_perm _ _).length_eq
theorem ord_mem {ps : List Pap} {p : Pap} : p ∈ ord ps ↔ p ∈ ps := (List.mergeSort_perm _ _).mem_iff
theorem wbm {ps qs : List Pap} (nd : (ps.map (·.d)).Nodup) (h : kaf ps qs) : qs = ord ps := kaY nd h (kaq nd)
noncomputable def Yaa (a : Int) (l : List Int) : Int := l.foldl min a
theorem wan (a b : Int) (l : List Int) : Yaa a (b :: l) = Yaa (min a b) l := rfl
theorem Yac : ∀ (a : Int) (l : List Int), Yaa a l ∈ a :: l
 | a, [] => by simp [Yaa]
 | a, b :: l => by
  rw [wan]
  rcases uU.mp (Yac (min a b) l) with h | h
  ·rw [h]
   rcases Int.le_total a b with z | z
   ·rw [Int.min_eq_left z]; simp
   ·rw [Int.min_eq_right z]; simp
  ·exact uQ _ (uQ _ h)
theorem Yak : ∀ (a : Int) (l : List Int), ∀ n ∈ a :: l, Yaa a l <= n
 | a, [], n, h => by
  have : n = a := by simpa using h
  rw [this]; exact ul _
 | a, b :: l, n, h => by
  rw [wan]
  have h1 := Yak (min a b) l (min a b) ug
  rcases uU.mp h with rfl | h
  ·lia
  ·rcases uU.mp h with rfl | h
   ·lia
   ·exact Yak (min a b) l n (uQ _ h)
theorem Wa3 {m a : Int} {l : List Int} (h1 : m ∈ a :: l) (h2 : ∀ n ∈ a :: l, m <= n) : m = Yaa a l := by
 have := h2 _ (Yac a l)
 have := Yak a l m h1
 lia
section
variable (d g : Int)
noncomputable def gp (p q : Pap) : Int := if WP (p, q) = true then g else 0
noncomputable def stp (p : Pap) (r : List Pap) (vs : List Int) : List Int := (uv r.length).map fun (i : Nat) => d * (i : Int) + gp g p (r.getD i p) + vs.getD i 0
noncomputable def mw (p : Pap) (r : List Pap) (vs : List Int) : Int := Yaa (d * (r.length : Int)) (stp d g p r vs)
noncomputable def wt : List Pap -> List Int
 | [] => []
 | p :: r => mw d g p r (wt r) :: wt r
theorem kaW : ∀ c : List Pap, (wt d g c).length = c.length
 | [] => rfl
 | p :: r => by unfold wt; rw [ub, ub, kaW r]
theorem vaK : ∀ (i : Nat) (c : List Pap), (wt d g c).drop i = wt d g (c.drop i)
 | 0, c => by simp
 | i + 1, [] => by simp [wt]
 | i + 1, p :: r => by
  have : wt d g (p :: r) = mw d g p r (wt d g r) :: wt d g r := rfl
  rw [this, List.drop_succ_cons, List.drop_succ_cons]
  exact vaK i r
noncomputable def W (p : Pap) (r : List Pap) : Int := mw d g p r (wt d g r)
theorem qaL (p : Pap) (r : List Pap) : wt d g (p :: r) = W d g p r :: wt d g r := rfl
theorem wai {α : Type} {c : List α} {i : Nat} {p : α} (h : c[i]? = some p) : c.drop i = p :: c.drop (i + 1) := by
 obtain ⟨h1, h2⟩ := uY.mp h
 rw [← h2, List.getElem_cons_drop]
theorem qaQ {c : List Pap} {i : Nat} {p : Pap} (h : c[i]? = some p) : (wt d g c)[i]? = some (W d g p (c.drop (i + 1))) := by
 have e := vaK d g i c
 rw [wai h, qaL] at e
 have : ((wt d g c).drop i)[0]? = some (W d g p (c.drop (i + 1))) := by rw [e]; rfl
 rw [xn] at this
 simpa using this
theorem getD_some {α : Type} {l : List α} {i : Nat} {x y : α} (h : l[i]? = some x) : l.getD i y = x := by
 rw [ua, h]; rfl
theorem Zbo {p : Pap} {r : List Pap} : W d g p r = d * (r.length : Int) \/ ∃ (i : Nat) (q : Pap), r[i]? = some q /\ W d g p r = d * (i : Int) + gp g p q + W d g q (r.drop (i + 1)) := by
 rcases uU.mp (Yac (d * (r.length : Int)) (stp d g p r (wt d g r))) with h | h
 ·exact .inl h
 ·obtain ⟨i, hi, e⟩ := xI.mp h
  have hi' : i < r.length := by simpa using hi
  have hq : r[i]? = some r[i] := uG hi'
  rw [getD_some hq, getD_some (qaQ d g hq)] at e
  exact .inr ⟨i, r[i], hq, e.symm⟩
noncomputable def sel (p : Pap) (wp : Int) (k : Nat) : List Pap -> List Pap
 | [] => []
 | q :: r => if wp ≠ d * ((k + r.length + 1 : Nat) : Int) /\ wp = d * (k : Int) + gp g p q + W d g q r then q :: sel q (W d g q r) 0 r else sel p wp (k + 1) r
noncomputable def jt (p : Pap) (r : List Pap) : List Pap := sel d g p (W d g p r) 0 r
noncomputable def gn (p : Pap) : List Pap -> Int
 | [] => 0
 | q :: l => (if WP (p, q) = true then 1 else 0) + gn q l
noncomputable def Za9 (p : Pap) (r l : List Pap) : Int := g * gn p l + d * ((r.length : Int) - l.length)
theorem Zbr (p q : Pap) : gp g p q = g * (if WP (p, q) = true then 1 else 0) := by unfold gp; split <;> simp
theorem YaF : ∀ {r : List Pap} {p : Pap} {wp : Int} {k : Nat}, (wp = d * ((k + r.length : Nat) : Int) \/ ∃ (i : Nat) (q : Pap), r[i]? = some q /\ wp = d * ((k + i : Nat) : Int) + gp g p q + W d g q (r.drop (i + 1))) →
  (sel d g p wp k r).Sublist r /\ wp = g * gn p (sel d g p wp k r) + d * (((k + r.length : Nat) : Int) - (sel d g p wp k r).length)
 | [], p, wp, k, h => by
  rcases h with h | ⟨i, q, h1, _⟩
  ·refine ⟨List.Sublist.refl _, ?_⟩
   unfold sel gn
   simpa using h
  ·simp at h1
 | x :: r, p, wp, k, h => by
  unfold sel
  by_cases c : wp ≠ d * ((k + r.length + 1 : Nat) : Int) /\ wp = d * (k : Int) + gp g p x + W d g x r
  ·rw [if_pos c]
   obtain ⟨h1, h2⟩ := YaF (r := r) (p := x) (wp := W d g x r) (k := 0) (by
    rcases Zbo d g (p := x) (r := r) with z | ⟨i, q, z1, z2⟩
    ·exact .inl (by simpa using z)
    ·exact .inr ⟨i, q, z1, by simpa using z2⟩)
   refine ⟨h1.cons_cons x, ?_⟩
   rw [show gn p (x :: sel d g x (W d g x r) 0 r) = (if WP (p, x) = true then 1 else 0) + gn x (sel d g x (W d g x r) 0 r) from rfl]
   have c2 := c.2
   rw [Zbr] at c2
   rw [Int.mul_add, ub, ub]
   have e2 : d * (((k + (r.length + 1) : Nat) : Int) - (((sel d g x (W d g x r) 0 r).length + 1 : Nat) : Int)) = d * (k : Int) + d * (((0 + r.length : Nat) : Int) - ((sel d g x (W d g x r) 0 r).length : Int)) := by rw [← Int.mul_add]; congr 1; lia
   lia
  ·rw [if_neg c]
   have ek : ∀ n : Nat, k + (n + 1) = k + 1 + n := fun n => by lia
   obtain ⟨h1, h2⟩ := YaF (r := r) (p := p) (wp := wp) (k := k + 1) (by
    rcases h with h | ⟨i, q, z1, z2⟩
    ·rw [ub, ek] at h; exact .inl h
    ·cases i with
     | zero =>
      have : x = q := by simpa using z1
      subst this
      have z3 : wp = d * (k : Int) + gp g p x + W d g x r := by simpa using z2
      by_cases z4 : wp = d * ((k + r.length + 1 : Nat) : Int)
      ·exact .inl (by rw [z4]; congr 2; lia)
      ·exact absurd ⟨z4, z3⟩ c
     | succ i => exact .inr ⟨i, q, by simpa using z1, by rw [ek] at z2; simpa using z2⟩)
   refine ⟨h1.cons x, ?_⟩
   rw [ub, ek r.length]
   exact h2
theorem qbg {p : Pap} {r : List Pap} : (jt d g p r).Sublist r /\ W d g p r = Za9 d g p r (jt d g p r) := by
 obtain ⟨h1, h2⟩ := YaF d g (r := r) (p := p) (wp := W d g p r) (k := 0) (by
  rcases Zbo d g (p := p) (r := r) with z | ⟨i, q, z1, z2⟩
  ·exact .inl (by simpa using z)
  ·exact .inr ⟨i, q, z1, by simpa using z2⟩)
 refine ⟨h1, ?_⟩
 unfold Za9 jt
 simpa using h2
end
local macro_rules | `(tactic| walk_at "st1") => `(tactic| first
 | refine Wad (by first | exact .inl ⟨by decide, by decide⟩ | exact .inr ⟨by decide, by decide⟩ | exact ⟨by decide, by decide⟩ | (show (0 : Int) < _; first | decide | lia) | exact .inl ⟨by lia, by lia⟩ | (constructor <;> lia)) ?_
 | refine vbg ?_
 | refine WaP ?_
 | refine Xbj ?_
 | refine rd_pop ?_
 | refine kbi ?_
 | refine rd_dput ?_
 | refine Zbp ?_
 | refine rd_isB ?_
 | refine rd_gsl ?_
 | refine Yf rfl rfl ?_
 | refine WC rfl ?_
 | walk_at "sa")
noncomputable abbrev qW : Str := "whole_chain.<locals>.<lambda>"
structure ZQ (pd pg : Int) : Prop where
 d0 : 0 <= pd
 d1 : pd <= 1000
 g0 : 0 <= pg
 g1 : pg <= 1000
noncomputable def vo (pd pg : Int) : D := .tup [.int pd, .int pg]
def Xj (Pt : Addr) : SpD := fun ds M Q => ∃ (hm : Int × Str × Int) (ps : List Pap), ds = [Zo hm, .lst (ps.map Xd)] /\ M Pt = some (.tab qW) /\ ps.length <= 60 /\ (ps.map (·.d)).Nodup /\ Q (.lst ((hmP hm :: ord ps).map Xd)) M
theorem Zai {Pt : Addr} (ds : List D) (M : HpD) (Q : KD) (h : Xj Pt ds M Q) : XA Pt Zf { nx := fun _ M' => Q .non M', rt := Q } (Xc ["home", "papers"] ds) M := by
 obtain ⟨hm, ps, rfl, hT, hl, nd, h⟩ := h
 unfold XA
 walk_at "st"
 refine vn (kc (by show 1 <= 1000; decide)) ?_
 walk_at "st"
 refine ⟨hT, ?_⟩
 refine XaN (enc := Xd) (key := (·.d)) rfl (by lia) (fun x _ Q' q => ⟨rfl, ?_⟩) fun bs perm pw => ?_
 ·walk_at "st"
  exact q
 have e := wbm nd (jaz nd perm pw)
 subst e
 have ol := waj (ps := ps)
 refine vn (kc (by rw [uB]; lia)) ?_
 refine v0 rfl rfl (vn (kc (by simp; lia)) ?_)
 exact .inl h
def Wg : SpD := fun ds M Q => ∃ (c : List Pap) (pd pg : Int) (i : Nat), ds = [.lst (c.map Xd), vo pd pg, .int i] /\ ZQ pd pg /\ Q (.int (pd * ((c.length : Int) - i - 1))) M
theorem ZaI (ds : List D) (M : HpD) (Q : KD) (h : Wg ds M Q) : qK { nx := fun _ M' => Q .non M', rt := Q } (Xc ["chain", "prices", "at", "doubt"] ds) M := by
 obtain ⟨c, pd, pg, i, rfl, ⟨b1, b2, b3, b4⟩, h⟩ := h
 unfold qK
 walk_at "st"
 simp only [uB]
 exact .inl h
def Wf : SpD := fun ds M Q => ∃ (c : List Pap) (pd pg : Int) (i j : Nat) (p q : Pap), ds = [.lst (c.map Xd), vo pd pg, .int i, .int j] /\ c[i]? = some p /\ c[j]? = some q /\ ZQ pd pg /\ Q (.int (pd * ((j : Int) - i - 1) + gp pg p q)) M
theorem vaH {d : D} {M : HpD} {ds : List D} (h : Ye d M = some ds) : Wn d M = some ds := by
 cases d with
 | lst l => cases h; rfl
 | ref p => exact kj (XG h)
 | _ => cases h
theorem jbg {n j : Nat} (h : j < n) : ixN n (j : Int) = some j := by
 unfold ixN
 rw [if_pos (by lia), if_pos (by lia)]; simp
theorem YE {α : Type} {f : α -> D} {c : List α} {i : Nat} {p : α} (h : c[i]? = some p) : atI (c.map f) (i : Int) = some (f p) := wR (by rw [uO, h]; rfl)
theorem XaD (ds : List D) (M : HpD) (Q : KD) (h : Wf ds M Q) : jH qi { nx := fun _ M' => Q .non M', rt := Q } (Xc ["chain", "prices", "at", "later", "doubt", "gap", "between"] ds) M := by
 obtain ⟨c, pd, pg, i, j, p, q, rfl, hi, hj, ⟨b1, b2, b3, b4⟩, h⟩ := h
 unfold jH
 walk_at "st"
 refine Yf rfl (YE hi) ?_
 walk_at "st"
 refine Yf rfl (YE hj) ?_
 refine vaB ?_
 refine ⟨p, q, rfl, ?_⟩
 refine ⟨_, by unfold jw; rfl, ?_⟩
 unfold gp at h
 cases e : WP (p, q) with
 | true =>
  rw [e, if_pos rfl] at h
  rw [if_pos rfl]
  walk_at "st"
  exact .inl h
 | false =>
  rw [e, if_neg (by decide), Int.add_zero] at h
  rw [if_neg (by decide)]
  walk_at "st"
  exact .inl h
def Zl : SpD := fun ds M Q => ∃ (c : List Pap) (pd pg : Int) (dw : D) (ws : List Int) (i : Nat) (p : Pap), ds = [.lst (c.map Xd), vo pd pg, dw, .int i] /\ Ye dw M = some (ws.map D.int) /\ ws.length = c.length /\ c[i]? = some p /\ c.length <= 61 /\ ZQ pd pg /\ Q (.int (mw pd pg p (c.drop (i + 1)) (ws.drop (i + 1)))) M
theorem jau (ds : List D) (M : HpD) (Q : KD) (h : Zl ds M Q) : WF Wf Wg { nx := fun _ M' => Q .non M', rt := Q } (Xc ["chain", "prices", "worths", "at", "steps"] ds) M := by
 obtain ⟨c, pd, pg, dw, ws, i, p, rfl, hw, wl, hi, cl, pr, h⟩ := h
 have il := (uY.mp hi).1
 unfold WF
 walk_at "st"
 rw [uB]
 refine ⟨_, _, rfl, ⟨by lia, by lia, by lia, by lia⟩, ?_⟩
 have en : ((c.length : Int) - ((i : Int) + 1)).toNat = (c.drop (i + 1)).length := by rw [uo]; lia
 rw [en]
 have dl : (c.drop (i + 1)).length <= 60 := by rw [uo]; lia
 refine ⟨kc (by rw [Zs]; lia), fun j ys σ M2 => M2 = M /\ (∃ v, σ = [v, some (.lst (c.map Xd)), some (vo pd pg), some dw, some (.int i), none]) /\ ys = ((uv j).map fun (k : Nat) => pd * (k : Int) + gp pg p ((c.drop (i + 1)).getD k p) + (ws.drop (i + 1)).getD k 0).map D.int, ⟨rfl, ⟨_, rfl⟩, rfl⟩, ?_, ?_⟩
 ·rintro j d ys σ M2 e ⟨rfl, ⟨v, rfl⟩, rfl⟩
  obtain ⟨hj, rfl⟩ := ZI e
  have hj' : i + 1 + j < c.length := by rw [uo] at hj; lia
  obtain ⟨q, hq⟩ : ∃ q, c[i + 1 + j]? = some q := ⟨_, uG hj'⟩
  obtain ⟨w, hw'⟩ : ∃ w, ws[i + 1 + j]? = some w := ⟨_, uG (by lia)⟩
  have ej : ((i : Int) + 1 + (j : Int)) = ((i + 1 + j : Nat) : Int) := by push_cast; rfl
  rw [ej]
  walk_at "st"
  refine ⟨c, pd, pg, i, i + 1 + j, p, q, rfl, hi, hq, pr, ?_⟩
  walk_at "st"
  refine Yf (ds := ws.map D.int) (vaH hw) (YE hw') ?_
  walk_at "st"
  refine ⟨rfl, ⟨_, rfl⟩, ?_⟩
  rw [List.range_succ, uk, uk]
  congr 1
  have e1 : (c.drop (i + 1)).getD j p = q := getD_some (by rw [xn]; exact hq)
  have e2 : (ws.drop (i + 1)).getD j 0 = w := getD_some (by rw [xn]; exact hw')
  show [D.int _] = [D.int (pd * (j : Int) + gp pg p ((c.drop (i + 1)).getD j p) + (ws.drop (i + 1)).getD j 0)]
  rw [e1, e2]
  have e4 : ((i + 1 + j : Nat) : Int) - (i : Int) - 1 = (j : Int) := by lia
  rw [e4]
 ·rintro ys σ M2 ⟨rfl, ⟨v, rfl⟩, rfl⟩
  rw [Zs]
  refine vn (kc (by simp; lia)) ?_
  walk_at "st"
  refine ⟨c, pd, pg, i, rfl, pr, ?_⟩
  walk_at "st"
  refine vn (kc (by show 1 <= 1000; decide)) ?_
  walk_at "st"
  refine v0 rfl rfl (vn (kc (by simp; lia)) ?_)
  walk_at "st"
  refine qbe (ns := (pd * ((c.length : Int) - i - 1)) :: stp pd pg p (c.drop (i + 1)) (ws.drop (i + 1))) rfl (by simp) fun m hm1 hm2 => ?_
  have e3 : pd * ((c.length : Int) - i - 1) = pd * ((c.drop (i + 1)).length : Int) := by congr 1; rw [uo]; lia
  rw [Wa3 hm1 hm2, e3]
  exact .inl h
theorem waR {M : HpD} {a : Addr} {o : OD} (h : M a = some o) : jg (Zr M a) a o = M := by
 funext b; unfold jg Zr
 by_cases e : b = a
 ·rw [if_pos e, e, h]
 ·rw [if_neg e, if_neg e]
theorem Wbd {M1 : HpD} {a : Addr} {xs : List D} {Q : KD} (e : M1 a = some (.lst xs)) (h : newL xs (Zr M1 a) Q) : Q (.ref a) M1 \/ ∃ b ds, D.ref a = .ref b /\ M1 b = some (.lst ds) /\ Q (.lst ds) (Zr M1 b) := by
 unfold newL at h
 rcases h.2 with z | z
 ·exact .inr ⟨a, xs, rfl, e, z⟩
 ·have := z a XI
  rw [waR e] at this
  exact .inl this
theorem Mo.del {M M1 : HpD} {p : Addr} (h : Mo M M1) (hp : M p = none) : Mo M (Zr M1 p) := fun a u e => by
 rw [ZL (fun z => by rw [z, hp] at e; cases e)]; exact h a u e
def jj : SpD := fun ds M Q => ∃ (c : List Pap) (pd pg : Int), ds = [.lst (c.map Xd), vo pd pg] /\ c.length <= 61 /\ ZQ pd pg /\ ∀ M', Mo M M' -> Q (.lst ((wt pd pg c).map D.int)) M'
theorem jbc (n : Nat) (x : D) : (uK n [x]).flatten = uK n x := by
 induction n with
 | zero => rfl
 | succ n ih => rw [xC, u7, ih]; rfl
theorem Zaj (ds : List D) (M : HpD) (Q : KD) (h : jj ds M Q) : vA Zl { nx := fun _ M' => Q .non M', rt := Q } (Xc ["chain", "prices", "worths", "at"] ds) M := by
 obtain ⟨c, pd, pg, rfl, cl, pr, h⟩ := h
 unfold vA
 walk_at "st"
 refine newM (kc (u0 rfl)) fun a ha => ?_
 walk_at "st"
 rw [uB]
 refine Ybm wc (by lia) (by lia) (by rw [show ([D.int 0] : List D).length = 1 from rfl, Nat.one_mul]; exact kc (by lia)) ?_
 rw [xK, jbc]
 refine newM (kc (by simp; lia)) fun b hb => ?_
 have hab : b ≠ a := fun z => by rw [z, wc] at hb; cases hb
 have hbM : M b = none := by rw [ve hab] at hb; exact hb
 walk_at "st"
 rw [uB]
 refine ⟨by lia, by lia, ?_⟩
 rw [xK]
 refine ⟨fun i σ M2 => (∃ v, σ = [some (.lst (c.map Xd)), some (vo pd pg), some (.ref b), v]) /\ Mo M (Zr M2 b) /\ i <= c.length /\ M2 b = some (.lst ((uK (c.length - i) (0 : Int) ++ wt pd pg (c.drop (c.length - i))).map D.int)), ⟨⟨_, rfl⟩, ?_, by lia, ?_⟩, ?_, ?_⟩
 ·exact ((Mo.refl.upd ha).upd hbM).del hbM
 ·rw [wc, Nat.sub_zero, yA]
  simp [wt]
 ·rintro i d σ M2 e ⟨⟨v, rfl⟩, mo, hi, hb2⟩
  obtain ⟨hi2, rfl⟩ := Zap e
  have ei : ((c.length : Int) - 1 - (i : Int)) = ((c.length - 1 - i : Nat) : Int) := by lia
  rw [ei]
  obtain ⟨p, hp⟩ : ∃ p, c[c.length - 1 - i]? = some p := ⟨_, uG (by lia)⟩
  have e1 : c.length - i = c.length - 1 - i + 1 := by lia
  have e2 : c.length - (i + 1) = c.length - 1 - i := by lia
  have wl : (wt pd pg (c.drop (c.length - i))).length = i := by rw [kaW, uo]; lia
  walk_at "st"
  refine ⟨c, pd, pg, .ref b, _, c.length - 1 - i, p, rfl, km hb2, by rw [uE, xE, wl]; lia, hp, cl, pr, ?_⟩
  walk_at "st"
  refine ⟨b, _, _, c.length - 1 - i, rfl, rfl, hb2, ?_, ⟨_, rfl⟩, ?_, by lia, ?_⟩
  ·have : ixN ((uK (c.length - i) (0 : Int) ++ wt pd pg (c.drop (c.length - i))).map D.int).length ((c.length - 1 - i : Nat) : Int) = some (c.length - 1 - i) := by
    rw [uB, uE, xE, wl]
    exact jbg (by lia)
   exact this
  ·intro x o hx
   have := mo x o hx
   by_cases z : x = b
   ·rw [z, hbM] at hx; cases hx
   ·rw [ZL z] at this ⊢
    rw [ve z]; exact this
  ·rw [wc, ← List.map_set]
   congr 3
   rw [e2, e1, List.drop_left' (by simp), wai hp, qaL, List.replicate_succ', uh, List.set_append_right _ _ (by simp)]
   simp [W]
 ·rintro σ M2 ⟨⟨v, rfl⟩, mo, hi, hb2⟩
  rw [Wap] at hb2
  rw [Nat.sub_self] at hb2
  walk_at "st"
  refine .inr ⟨b, _, rfl, hb2, ?_⟩
  exact h _ mo
def qk (Pt : Addr) : SpD := fun ds M Q => ∃ (hm : Int × Str × Int) (ps : List Pap) (pd pg : Int), ds = [Zo hm, .lst (ps.map Xd), vo pd pg] /\ M Pt = some (.tab qW) /\ ps.length <= 60 /\ (ps.map (·.d)).Nodup /\ ZQ pd pg /\ ∀ M', Mo M M' -> newL (((jt pd pg (hmP hm) (ord ps)).map (·.n)).map D.int) M' Q
theorem Yas {Pt : Addr} (ds : List D) (M : HpD) (Q : KD) (h : qk Pt ds M Q) : ZD (Xj Pt) jj Wg Wf { nx := fun _ M' => Q .non M', rt := Q } (Xc ["home", "papers", "prices", "chain", "worths", "story", "at", "later", "ended"] ds) M := by
 obtain ⟨hm, ps, pd, pg, rfl, hT, hl, nd, pr, h⟩ := h
 have ol := waj (ps := ps)
 unfold ZD
 walk_at "st"
 refine ⟨hm, ps, rfl, hT, hl, nd, ?_⟩
 generalize ec : hmP hm :: ord ps = c at *
 have cl : c.length = ps.length + 1 := by rw [← ec, ub, ol]
 have c0 : c[0]? = some (hmP hm) := by rw [← ec]; rfl
 have c1 : c.drop 1 = ord ps := by rw [← ec]; rfl
 walk_at "st"
 refine ⟨c, pd, pg, rfl, by lia, pr, fun M1 mo1 => ?_⟩
 walk_at "st"
 refine newM (kc (ue _)) fun b hb => ?_
 have hbM : M b = none := by
  cases q : M b with
  | none => rfl
  | some o => rw [mo1 b o q] at hb; cases hb
 walk_at "st"
 rw [uB]
 refine ⟨_, _, rfl, ⟨by decide, by decide, by lia, by lia⟩, ?_⟩
 have en : ((c.length : Int) - 1).toNat = c.length - 1 := by lia
 rw [en]
 refine ⟨fun i σ M2 => ∃ (a : Nat) (S : List Pap) (p : Pap) (v7 v8 : Option D), σ = [some (Zo hm), some (.lst (ps.map Xd)), some (vo pd pg), some (.lst (c.map Xd)), some (.lst ((wt pd pg c).map D.int)), some (.ref b), some (.int a), v7, v8] /\ Mo M (Zr M2 b) /\ M2 b = some (.lst ((S.map (·.n)).map D.int)) /\ a <= i /\ S.length <= i /\ c[a]? = some p /\ jt pd pg (hmP hm) (ord ps) = S ++ sel pd pg p (W pd pg p (c.drop (a + 1))) (i - a) (c.drop (i + 1)), ⟨0, [], hmP hm, _, _, rfl, (mo1.upd hbM).del hbM, wc, by lia, by simp, c0, ?_⟩, ?_, ?_⟩
 ·simp only [xa, c1]; rfl
 ·rintro i d σ M2 e ⟨a, S, p, v7, v8, rfl, mo, hb2, ai, sl, hp, ht⟩
  obtain ⟨hi2, rfl⟩ := ZI e
  obtain ⟨q, hq⟩ : ∃ q, c[i + 1]? = some q := ⟨_, uG (by lia)⟩
  have ei : (1 : Int) + (i : Int) = ((i + 1 : Nat) : Int) := by lia
  rw [ei]
  have hwa := qaQ pd pg hp
  have hwq := qaQ pd pg hq
  have hd1 := wai hq
  rw [hd1] at ht
  have ea : (c.length : Int) - (a : Int) - 1 = ((i - a + (c.drop (i + 1 + 1)).length + 1 : Nat) : Int) := by rw [uo]; lia
  have ek : ((i + 1 : Nat) : Int) - (a : Int) - 1 = ((i - a : Nat) : Int) := by lia
  walk_at "st"
  refine Yf rfl (YE hwa) ?_
  walk_at "st"
  refine ⟨c, pd, pg, a, rfl, pr, ?_⟩
  rw [ea]
  walk_at "st"
  refine ⟨_, by unfold jw; rfl, ?_⟩
  rw [xY]
  have tb : ∀ M3, Mo M (Zr M3 b) -> M3 b = some (.lst ((S.map (·.n)).map D.int)) -> (¬ (W pd pg p (c.drop (a + 1)) ≠ pd * ((i - a + (c.drop (i + 1 + 1)).length + 1 : Nat) : Int) /\ W pd pg p (c.drop (a + 1)) = pd * ((i - a : Nat) : Int) + gp pg p q + W pd pg q (c.drop (i + 1 + 1)))) -> ∀ v8, ∃ (a' : Nat) (S' : List Pap) (p' : Pap) (v7' v8' : Option D), [some (Zo hm), some (.lst (ps.map Xd)), some (vo pd pg), some (.lst (c.map Xd)), some (.lst ((wt pd pg c).map D.int)), some (.ref b), some (.int a), some (.int ((i + 1 : Nat) : Int)), v8] = [some (Zo hm), some (.lst (ps.map Xd)), some (vo pd pg), some (.lst (c.map Xd)), some (.lst ((wt pd pg c).map D.int)), some (.ref b), some (.int a'), v7', v8'] /\ Mo M (Zr M3 b) /\ M3 b = some (.lst ((S'.map (·.n)).map D.int)) /\ a' <= i + 1 /\ S'.length <= i + 1 /\ c[a']? = some p' /\ jt pd pg (hmP hm) (ord ps) = S' ++ sel pd pg p' (W pd pg p' (c.drop (a' + 1))) (i + 1 - a') (c.drop (i + 1 + 1)) := by
   intro M3 m1 m2 nc v8
   refine ⟨a, S, p, _, _, rfl, m1, m2, by lia, by lia, hp, ?_⟩
   rw [ht]
   congr 1
   rw [sel, if_neg nc]
   congr 1
   lia
  by_cases z1 : W pd pg p (c.drop (a + 1)) = pd * ((i - a + (c.drop (i + 1 + 1)).length + 1 : Nat) : Int)
  ·rw [decide_eq_true z1]
   rw [if_neg (by decide)]
   rw [if_neg (by decide)]
   refine qy ?_
   exact tb M2 mo hb2 (fun z => z.1 z1) _
  ·rw [decide_eq_false z1, if_pos (by decide)]
   walk_at "st"
   refine Yf rfl (YE hwa) ?_
   walk_at "st"
   refine ⟨c, pd, pg, a, i + 1, p, q, rfl, hp, hq, pr, ?_⟩
   rw [ek]
   walk_at "st"
   refine Yf rfl (YE hwq) ?_
   walk_at "st"
   rw [xY]
   by_cases z2 : W pd pg p (c.drop (a + 1)) = pd * ((i - a : Nat) : Int) + gp pg p q + W pd pg q (c.drop (i + 1 + 1))
   ·rw [decide_eq_true z2, if_pos rfl]
    walk_at "st"
    refine ⟨⟨_, hb2⟩, ?_⟩
    walk_at "st"
    refine Yf rfl (YE hq) ?_
    walk_at "st"
    refine ⟨_, hb2, yF (show _ <= 60 by simp; lia) (uV (by decide) (kc (n := 100) (by decide))), ?_⟩
    walk_at "st"
    refine ⟨i + 1, S ++ [q], q, _, _, rfl, ?_, by rw [wc]; simp, by lia, by simp; lia, hq, ?_⟩
    ·intro x o hx
     have := mo x o hx
     by_cases z : x = b
     ·rw [z, hbM] at hx; cases hx
     ·rw [ZL z] at this ⊢
      rw [ve z]; exact this
    ·rw [ht, sel, if_pos ⟨z1, z2⟩]
     simp
   ·rw [decide_eq_false z2, if_neg (by decide)]
    refine qy ?_
    exact tb M2 mo hb2 (fun z => z2 z.2) _
 ·rintro σ M2 ⟨a, S, p, v7, v8, rfl, mo, hb2, ai, sl, hp, ht⟩
  rw [Zs] at ht
  rw [show c.length - 1 + 1 = c.length by lia, yA] at ht
  rw [show sel pd pg p (W pd pg p (c.drop (a + 1))) (c.length - 1 - a) [] = [] from rfl, List.append_nil] at ht
  walk_at "st"
  refine Wbd hb2 ?_
  rw [← ht]
  exact h _ mo
theorem Mo.fresh {M M2 : HpD} {p : Addr} (h : Mo M M2) (hp : M2 p = none) : M p = none := by
 cases q : M p with
 | none => rfl
 | some o => rw [h p o q] at hp; cases hp
structure Drawn (Pt b : Addr) (nms : List Str) (hm : Int × Str × Int) (ps : List Pap) (pd pg : Int) (M : HpD) : Prop where
 T : M Pt = some (.tab qW)
 bP : Pt ≠ b
 bx : ∃ o, M b = some o /\ vw o
 okh : OkH nms hm
 pl : ps.length <= 60
 num : (ps.map (·.n)).Nodup
 day : (ps.map (·.d)).Nodup
 one : ∀ p ∈ ps, 1 <= p.n /\ p.n <= 2400 /\ hm.1 < p.d /\ p.d <= hm.1 + 2500 /\ p.a ∈ nms /\ p.b ∈ nms /\ 0 <= p.g /\ p.g <= 9
 p1 : 1 <= pd /\ pd <= 9 /\ 1 <= pg /\ pg <= 9
theorem Drawn.pr {Pt b : Addr} {nms : List Str} {hm : Int × Str × Int} {ps : List Pap} {pd pg : Int} {M : HpD} (h : Drawn Pt b nms hm ps pd pg M) : ZQ pd pg := by
 have := h.p1
 exact ⟨by lia, by lia, by lia, by lia⟩
theorem Drawn.hday {Pt b : Addr} {nms : List Str} {hm : Int × Str × Int} {ps : List Pap} {pd pg : Int} {M : HpD} (h : Drawn Pt b nms hm ps pd pg M) : ∀ p ∈ ps, hm.1 < p.d := fun p hp => (h.one p hp).2.2.1
theorem Za2 {Pt : Addr} {few most : Int} {rest : TSD} {DD : Yx} {ns : List Int} {M : HpD} {m : Nat} (hl : ns.length <= 63) (hT : M Pt = some (.tab qW)) (hf : 0 <= few /\ few <= 60) (hmo : 0 <= most /\ most <= 60)
  (k : ∀ (b : Addr) (nms : List Str) (hm : Int × Str × Int) (ps : List Pap) (pd pg : Int) (M' : HpD), Drawn Pt b nms hm ps pd pg M' -> ((ps.length : Int) <= few \/ (ps.length : Int) <= most) -> rest DD (some (.lst (ns.map D.int)) :: some (.ref b) :: some (.lst (nms.map D.str)) :: some (Zo hm) :: some (.lst (ps.map Xd)) :: some (vo pd pg) :: uK m none) M') :
  (wb (Wc (Xb Ym (Ya (Za 0) Zb)) (qb 1))
 (wb (Wc (Xb Zi (Ya (Za 1) Zb)) (qb 2))
 (wb (Wc (Xb Xk (Ya (Za 1) (Ya (Za 2) Zb))) (qb 3))
 (wb (Wc (Xb vh (Ya (Za 1) (Ya (Za 2) (Ya (Za 3) (Ya (Xb Yj (Ya (Za 1) (Ya (tCD (.int few)) (Ya (tCD (.int most)) Zb)))) Zb))))) (qb 4))
 (wb (Wc (Xb Yi (Ya (Za 1) Zb)) (qb 5)) rest))))) DD (some (.lst (ns.map D.int)) :: none :: none :: none :: none :: none :: uK m none) M := by
 walk_at "st"
 refine ⟨hl, fun b M1 hb f1 => ?_⟩
 have bP : Pt ≠ b := fun z => by rw [← z, hT] at hb; cases hb
 have T1 : M1 Pt = some (.tab qW) := (f1.2 Pt bP).trans hT
 obtain ⟨o1, e1, b1⟩ := id f1.1
 walk_at "st"
 refine ⟨b, o1, rfl, e1, b1, fun nms M2 gp2 f2 => ?_⟩
 have T2 := (f2.2 Pt bP).trans T1
 obtain ⟨o2, e2, b2⟩ := id f2.1
 walk_at "st"
 refine ⟨b, o2, nms, rfl, e2, b2, gp2, fun hm M3 okh f3 => ?_⟩
 have T3 := (f3.2 Pt bP).trans T2
 obtain ⟨o3, e3, b3⟩ := id f3.1
 walk_at "st"
 refine ⟨b, _, _, o3, rfl, by lia, by lia, by lia, by lia, e3, b3, fun n M4 n0 n1 f4 => ?_⟩
 have T4 := (f4.2 Pt bP).trans T3
 obtain ⟨o4, e4, b4⟩ := id f4.1
 walk_at "st"
 refine ⟨b, o4, nms, hm, n, rfl, e4, b4, gp2, okh, n0, by lia, fun ps M5 good fx => ?_⟩
 have T5 := fx.old Pt _ bP T4
 obtain ⟨o5, e5, b5⟩ := fx.bx
 have pl : ps.length <= 60 := by have := good.len; lia
 walk_at "st"
 refine ⟨b, o5, rfl, e5, b5, fun pd pg M6 d1 d2 g1 g2 f6 => ?_⟩
 have T6 := (f6.2 Pt bP).trans T5
 walk_at "st"
 exact k b nms hm ps pd pg M6 ⟨T6, bP, f6.1, okh, pl, good.num, good.day, good.one, d1, d2, g1, g2⟩ (by have := good.len; lia)
def vE (wg qk : SpD) : TSD :=
 (We (Xb wg (Ya (Za 0) (Ya (Za 1) (Ya (Xb qk (Ya (Za 0) (Ya (Za 1) (Ya (Za 2) Zb)))) Zb)))))
structure Lin (hm : Int × Str × Int) (ps : List Pap) : Prop where
 pl : ps.length <= 60
 num : (ps.map (·.n)).Nodup
 day : (ps.map (·.d)).Nodup
theorem Lin.ch {hm : Int × Str × Int} {ps : List Pap} (pd pg : Int) (h : Lin hm ps) : WaL ps (jt pd pg (hmP hm) (ord ps)) := by
 obtain ⟨pm, pw⟩ := kaq h.day
 have hs := (qbg pd pg (p := hmP hm) (r := ord ps)).1
 refine ⟨pw.sublist hs, fun p hp => ord_mem.mp (hs.subset hp), ?_, h.num, h.pl⟩
 have := hs.length_le
 rw [waj] at this
 exact this
theorem Drawn.lin {Pt b : Addr} {nms : List Str} {hm : Int × Str × Int} {ps : List Pap} {pd pg : Int} {M : HpD} (h : Drawn Pt b nms hm ps pd pg M) : Lin hm ps := ⟨h.pl, h.num, h.day⟩
def jk (Pt : Addr) : SpD := fun ds M Q => ∃ (hm : Int × Str × Int) (ps : List Pap) (pd pg : Int), ds = [Zo hm, .lst (ps.map Xd), vo pd pg] /\ M Pt = some (.tab qW) /\ Lin hm ps /\ ZQ pd pg /\ ∀ M', Mo M M' -> Q (.lst ((hmP hm :: jt pd pg (hmP hm) (ord ps)).map Xd)) M'
theorem Xat {Pt : Addr} (ds : List D) (M : HpD) (Q : KD) (h : jk Pt ds M Q) : vE wg (qk Pt) { nx := fun _ M' => Q .non M', rt := Q } (Xc ["home", "papers", "prices"] ds) M := by
 obtain ⟨hm, ps, pd, pg, rfl, hT, lin, pr, h⟩ := h
 have ch := lin.ch pd pg
 have tl := ch.len
 have pl := lin.pl
 unfold vE
 walk_at "st"
 refine ⟨hm, ps, pd, pg, rfl, hT, lin.pl, lin.day, pr, fun M1 mo1 => vn (kc (by rw [uB, uB]; lia)) ?_⟩
 walk_at "st"
 refine ⟨hm, ps, _, rfl, ch, fun M2 mo2 => ?_⟩
 exact .inl (h _ (mo1.trans mo2))
def wu (qi : SpD) : TSD :=
 (wb (Wc (wa Yd (Za 0) (tCD (.int (1)))) (qb 2))
 (wb (Wc (wa qE (wa Yd (Za 1) (tCD (.int (1)))) (tCD (.int 1))) (qb 3))
 (wb (Wc (Xae (Xs (Xb qi (Ya (Za 0) (Ya (Za 1) Zb)))) (Xb j4 (Ya (Za 2) (Ya (Za 3) Zb))) (Za 3)) (qb 4))
 (wb (Wc (Zm (Ya (Yr (Ya (Za 2) (Ya (Za 4) (Ya (wa Yd (Za 0) (tCD (.int (3)))) Zb)))) (Ya (Yr (Ya (wa jh (Za 4) (tCD (.int 1))) (Ya (Za 3) (Ya (tCD (.str "")) Zb)))) Zb))) (qb 5))
 (We (wz 1 (js (Za 5)) (qb 0) (qd (wa wU (wa Yd (Za 0) (tCD (.int 0))) (wa Yd (Za 0) (tCD (.int 1))))) (Za 0)))))))
def qT : TSD :=
 (wb (Wc (Zm Zb) (qb 1))
 (wb (jy (js (Za 0)) (Zx 3 (Zh (qb 2) (Zh (qb 3) (Zh (qb 4) Wx)))) (Xh (ZE (Xs (Za 1)) (qd (wa (jm false) (wa Yd (wa Yd (Za 1) (vH (tCD (.int 1)))) (tCD (.int 2))) (Za 4)))) (Wc (Yr (Ya (wa Yd (wa Yd (Za 1) (vH (tCD (.int 1)))) (tCD (.int 0))) (Ya (Za 3) (Ya (Za 4) Zb)))) (qH (Za 1) (vH (tCD (.int 1))))) (vq (qA (Za 1) (Yr (Ya (Za 2) (Ya (Za 3) (Ya (Za 4) Zb))))))))
 (We (Za 1))))
def X2 (jk vk kg Yq : SpD) : TSD :=
 (wb (Wc (Xb jk (Ya (Za 0) (Ya (Za 1) (Ya (Za 2) Zb)))) (qb 3))
 (wb (Wc (Zm Zb) (qb 4))
 (wb (jy (js (Xb vk (Ya (Za 3) Zb))) (Zx 2 (Zh (qb 5) (Zh (qb 6) Wx))) (vq (Yaf (Za 4) (Xb kg (Ya (Za 5) (Ya (Za 6) Zb))))))
 (wb (vq (qA (Za 4) (Yr (Ya (wa Yd (wa Yd (Za 3) (vH (tCD (.int 1)))) (tCD (.int (1)))) (Ya (tCD .non) (Ya (wa Yd (wa Yd (Za 3) (vH (tCD (.int 1)))) (tCD (.int (3)))) Zb))))))
 (We (Xb Yq (Ya (Za 4) Zb)))))))
def wG : TSD :=
 (wb (Wc (Zm (Ya (wa qE (wa Yd (Za 0) (tCD (.int 0))) (tCD (.int 1))) (Ya (wa Yd (Za 0) (tCD (.int 0))) (Ya (wa jh (wa Yd (Za 0) (tCD (.int 0))) (tCD (.int 1))) Zb)))) (qb 2))
 (wb (jy (js (Za 1)) (qb 3) (Wc (wa kH (Za 2) (Zm (Ya (wa qE (wa Yd (Za 3) (tCD (.int 1))) (tCD (.int 1))) (Ya (wa Yd (Za 3) (tCD (.int 1))) (Ya (wa jh (wa Yd (Za 3) (tCD (.int 1))) (tCD (.int 1))) Zb))))) (qb 2)))
 (We (YI (Za 2)))))
def Y4 (wj : SpD) : TSD :=
 (wb (jy (js (Xb wj (Ya (Za 0) (Ya (Za 1) (Ya (Za 2) Zb))))) (Zx 3 (Zh (qb 4) (Zh (qb 5) (Zh (qb 6) Wx)))) (Xh (ZE (qd (wa wU (Za 4) (Za 3))) (ww (qd (wa (kM false) (Za 5) (tCD .non))) (qd (wa wU (Za 3) (Za 5))))) (We (Za 6)) qf))
 (We (tCD (.str ""))))
structure Sp3 where
 f : Int
 l : Option Int
 p : Str
noncomputable def wav : Option Int -> D
 | some i => .int i
 | none => .non
noncomputable def Xi (s : Sp3) : D := .tup [.int s.f, wav s.l, .str s.p]
noncomputable def pcs (z : Pap × Pap) : List Sp3 := if WP z = true then ⟨z.1.d, some z.1.d, z.1.b⟩ :: (if z.1.d + 1 <= z.2.d - 1 then [⟨z.1.d + 1, some (z.2.d - 1), ""⟩] else []) else [⟨z.1.d, some (z.2.d - 1), z.1.b⟩]
theorem qaI (z : Pap × Pap) : (pcs z).length <= 2 := by
 unfold pcs
 split
 ·split <;> simp
 ·simp
noncomputable def jnF (x : Sp3) : List Sp3 -> List Sp3
 | [] => [x]
 | y :: r => if x.p = y.p then jnF ⟨x.f, y.l, x.p⟩ r else x :: jnF y r
noncomputable def jn : List Sp3 -> List Sp3
 | [] => []
 | x :: r => jnF x r
theorem Xai : ∀ (x : Sp3) (r : List Sp3), (jnF x r).length <= r.length + 1
 | x, [] => by simp [jnF]
 | x, y :: r => by
  unfold jnF
  split
  ·have := Xai ⟨x.f, y.l, x.p⟩ r
   simp; lia
  ·have := Xai y r
   simp; lia
def kg : SpD := fun ds M Q => ∃ (p q : Pap), ds = [Xd p, Xd q] /\ p.d < q.d /\ newL ((pcs (p, q)).map Xi) M Q
theorem X5 (ds : List D) (M : HpD) (Q : KD) (h : kg ds M Q) : wu qi { nx := fun _ M' => Q .non M', rt := Q } (Xc ["first", "second", "day", "last", "known", "pieces"] ds) M := by
 obtain ⟨p, q, rfl, lt, h⟩ := h
 unfold wu
 walk_at "st"
 refine ⟨p, q, rfl, ?_⟩
 refine ⟨_, by unfold jw; rfl, ?_⟩
 -- what comes behind known
 have rest : ∀ (kn : Int), ((if p.d <= kn then [Xi ⟨p.d, some kn, p.b⟩] else []) ++ (if kn + 1 <= q.d - 1 then [Xi ⟨kn + 1, some (q.d - 1), ""⟩] else [])) = (pcs (p, q)).map Xi -> (wb (Wc (Zm (Ya (Yr (Ya (Za 2) (Ya (Za 4) (Ya (wa Yd (Za 0) (tCD (.int (3)))) Zb)))) (Ya (Yr (Ya (wa jh (Za 4) (tCD (.int 1))) (Ya (Za 3) (Ya (tCD (.str "")) Zb)))) Zb))) (qb 5))
 (We (wz 1 (js (Za 5)) (qb 0) (qd (wa wU (wa Yd (Za 0) (tCD (.int 0))) (wa Yd (Za 0) (tCD (.int 1))))) (Za 0)))) { nx := fun _ M' => Q .non M', rt := Q } [some (Xd p), some (Xd q), some (.int p.d), some (.int (q.d - 1)), some (.int kn), none] M := by
  intro kn ek
  walk_at "st"
  refine vn (kc (u0 rfl)) ?_
  walk_at "st"
  refine ⟨fun i ys σ M2 => M2 = M /\ (∃ v, σ = [v, some (Xd p), some (Xd q), some (.int p.d), some (.int (q.d - 1)), some (.int kn), some (.lst [Xi ⟨p.d, some kn, p.b⟩, Xi ⟨kn + 1, some (q.d - 1), ""⟩])]) /\ ((i = 0 /\ ys = []) \/ (i = 1 /\ ys = if p.d <= kn then [Xi ⟨p.d, some kn, p.b⟩] else []) \/ (i = 2 /\ ys = (if p.d <= kn then [Xi ⟨p.d, some kn, p.b⟩] else []) ++ (if kn + 1 <= q.d - 1 then [Xi ⟨kn + 1, some (q.d - 1), ""⟩] else []))), ⟨rfl, ⟨_, rfl⟩, .inl ⟨rfl, rfl⟩⟩, fun _ _ _ _ _ => rfl, ?_, ?_⟩
  ·rintro i d ys σ M2 e ⟨rfl, ⟨v, rfl⟩, c⟩
   rcases c with ⟨rfl, rfl⟩ | ⟨rfl, rfl⟩ | ⟨rfl, rfl⟩
   ·cases e
    walk_at "st"
    by_cases z : p.d <= kn
    ·rw [decide_eq_true z, if_pos rfl]
     walk_at "st"
     exact ⟨rfl, ⟨_, rfl⟩, .inr (.inl ⟨rfl, by rw [if_pos z]; rfl⟩)⟩
    ·rw [decide_eq_false z, if_neg (by decide)]
     exact ⟨rfl, ⟨_, rfl⟩, .inr (.inl ⟨rfl, by rw [if_neg z]⟩)⟩
   ·cases e
    walk_at "st"
    by_cases z : kn + 1 <= q.d - 1
    ·rw [decide_eq_true z, if_pos rfl]
     walk_at "st"
     exact ⟨rfl, ⟨_, rfl⟩, .inr (.inr ⟨rfl, by rw [if_pos z]; rfl⟩)⟩
    ·rw [decide_eq_false z, if_neg (by decide)]
     exact ⟨rfl, ⟨_, rfl⟩, .inr (.inr ⟨rfl, by rw [if_neg z]; simp⟩)⟩
   ·cases e
  ·rintro ys σ M2 ⟨rfl, ⟨v, rfl⟩, c⟩
   rcases c with ⟨z, _⟩ | ⟨z, _⟩ | ⟨_, rfl⟩
   ·cases z
   ·cases z
   ·rw [ek]
    exact jaT h fun d M' z => .inl z
 cases eg : WP (p, q) with
 | true =>
  rw [if_pos rfl]
  walk_at "st1"
  walk_at "st1"
  walk_at "st1"
  walk_at "st1"
  walk_at "st1"
  walk_at "st1"
  walk_at "st1"
  have em : min p.d (q.d - 1) = p.d := by lia
  rw [em]
  refine qB ?_
  refine rest p.d ?_
  unfold pcs
  rw [eg, if_pos (ul _), if_pos rfl]
  by_cases z : p.d + 1 <= q.d - 1
  ·rw [if_pos z, if_pos z]; rfl
  ·rw [if_neg z, if_neg z]; rfl
 | false =>
  rw [if_neg (by decide)]
  refine vS rfl (qB ?_)
  refine rest (q.d - 1) ?_
  unfold pcs
  rw [eg, if_pos (by lia), if_neg (by lia), if_neg (by decide)]
  rfl
theorem jaa : ∀ (r : List Sp3) (x y : Sp3), ∃ (W : List Sp3) (z : Sp3), jnF x r = W ++ [z] /\ jnF x (r ++ [y]) = if z.p = y.p then W ++ [⟨z.f, y.l, z.p⟩] else W ++ [z, y]
 | [], x, y => ⟨[], x, rfl, by simp only [List.nil_append, jnF]⟩
 | c :: r, x, y => by
  by_cases e : x.p = c.p
  ·obtain ⟨W, z, h1, h2⟩ := jaa r ⟨x.f, c.l, x.p⟩ y
   exact ⟨W, z, by rw [jnF, if_pos e, h1], by rw [List.cons_append, jnF, if_pos e, h2]⟩
  ·obtain ⟨W, z, h1, h2⟩ := jaa r c y
   refine ⟨x :: W, z, by rw [jnF, if_neg e, h1]; rfl, ?_⟩
   rw [List.cons_append, jnF, if_neg e, h2]
   split <;> rfl
theorem Zbf (r : List Sp3) (y : Sp3) (ne : r ≠ []) : ∃ (W : List Sp3) (z : Sp3), jn r = W ++ [z] /\ jn (r ++ [y]) = if z.p = y.p then W ++ [⟨z.f, y.l, z.p⟩] else W ++ [z, y] := by
 cases r with
 | nil => cases ne rfl
 | cons x r => exact jaa r x y
theorem YaW (r : List Sp3) : (jn r).length <= r.length := by
 cases r with
 | nil => exact uI _
 | cons x r => exact Xai x r
theorem Mo.lst {M M2 : HpD} {d : D} {xs : List D} (mo : Mo M M2) (h : Ye d M = some xs) : Ye d M2 = some xs := by
 cases d <;> simp only [Ye] at h ⊢ <;> try exact h
 rename_i p
 cases e : M p with
 | none => rw [e] at h; cases h
 | some o => rw [e] at h; rw [mo _ _ e]; exact h
theorem Xa6 {n : Nat} (h : n < 400) : n < sizeLine := uV h (kc (u0 rfl))
theorem ja2 (W : List Sp3) (d : D) : ixN (W.map Xi ++ [d]).length (-1) = some W.length := by
 rw [uE, uB]
 unfold ixN
 simp
 lia
theorem wa3 (W : List Sp3) (d v : D) : (W.map Xi ++ [d]).set W.length v = W.map Xi ++ [v] := by
 rw [List.set_append, if_neg (by simp)]
 simp
def Yq : SpD := fun ds M Q => ∃ (d : D) (ss : List Sp3), ds = [d] /\ Ye d M = some (ss.map Xi) /\ ss.length <= 200 /\ ∀ M' b, Mo M M' -> M b = none -> M' b = some (.lst ((jn ss).map Xi)) -> Q (.ref b) M'
theorem WaU (ds : List D) (M : HpD) (Q : KD) (h : Yq ds M Q) : qT { nx := fun _ M' => Q .non M', rt := Q } (Xc ["pieces", "whole", "first", "last", "place"] ds) M := by
 obtain ⟨d, ss, rfl, hd, ln, h⟩ := h
 unfold qT
 walk_at "st"
 refine newM (kc (ue _)) fun b hb => ?_
 walk_at "st"
 refine ⟨_, Mo.lst (Mo.refl.upd hb) hd, fun i σ M2 => ∃ v2 v3 v4, σ = [some d, some (.ref b), v2, v3, v4] /\ Mo M M2 /\ M2 b = some (.lst ((jn (ss.take i)).map Xi)), ⟨_, _, _, rfl, Mo.refl.upd hb, by simpa [jn] using wc⟩, ?_, ?_, ?_⟩
 ·rintro i σ M2 ⟨v2, v3, v4, rfl, mo, hb2⟩
  exact Mo.lst mo hd
 ·rintro i e σ M2 e2 ⟨v2, v3, v4, rfl, mo, hb2⟩
  rw [uO] at e2
  cases q : ss[i]? with
  | none => rw [q] at e2; cases e2
  | some y =>
   rw [q] at e2; cases e2
   have tk : ss.take (i + 1) = ss.take i ++ [y] := by rw [u1, q]; rfl
   have tl := List.length_take_le i ss
   have jl := YaW (ss.take i)
   walk_at "st"
   by_cases ne : ss.take i = []
   ·refine ⟨false, by unfold jw; exact ⟨_, hb2, by rw [ne]; rfl⟩, ?_⟩
    rw [if_neg (by decide), if_neg (by decide)]
    walk_at "st"
    refine ⟨⟨_, hb2⟩, ?_⟩
    walk_at "st"
    refine ⟨_, hb2, Xa6 (by rw [uB, ne]; exact Nat.zero_lt_succ _), ?_⟩
    refine ⟨_, _, _, rfl, mo.upd hb, ?_⟩
    rw [wc, tk, ne]
    rfl
   ·obtain ⟨W, z, j1, j2⟩ := Zbf (ss.take i) y ne
    have hbw : M2 b = some (.lst (W.map Xi ++ [Xi z])) := by rw [hb2, j1, uk]; rfl
    refine ⟨true, by unfold jw; exact ⟨_, hbw, by simp⟩, ?_⟩
    rw [if_pos rfl]
    walk_at "st"
    refine Yf (ds := W.map Xi ++ [Xi z]) (by simp only [Wn, hbw]) (qU _ _) ?_
    walk_at "st"
    refine wZ ?_
    refine ⟨_, rfl, ?_⟩
    rw [xY]
    have wl : W.length + 1 <= 200 := by
     have e := congrArg xy j1
     rw [uE] at e
     have := ud (i := i) (l := ss)
     simp only [ui] at e
     lia
    by_cases eq : z.p = y.p
    ·rw [decide_eq_true eq, if_pos rfl]
     walk_at "st"
     refine Yf (ds := W.map Xi ++ [Xi z]) (by simp only [Wn, hbw]) (qU _ _) ?_
     walk_at "st"
     refine ⟨b, _, -1, W.length, rfl, rfl, hbw, ja2 _ _, ?_⟩
     refine ⟨_, _, _, rfl, mo.upd hb, ?_⟩
     rw [wc, tk, j2, if_pos eq, wa3]
     rw [uk, ← eq]
     rfl
    ·rw [decide_eq_false eq, if_neg (by decide)]
     walk_at "st"
     refine ⟨⟨_, hb2⟩, ?_⟩
     walk_at "st"
     refine ⟨_, hbw, Xa6 (by simp; lia), ?_⟩
     refine ⟨_, _, _, rfl, mo.upd hb, ?_⟩
     rw [wc, tk, j2, if_neg eq]
     simp [Xi]
 ·rintro σ M2 ⟨v2, v3, v4, rfl, mo, hb2⟩
  rw [uB, xG] at hb2
  walk_at "st"
  exact .inl (h _ _ mo hb hb2)
noncomputable def vaw (c : List Pap) : List Sp3 := match c.getLast? with
 | some p => [⟨p.d, none, p.b⟩]
 | none => []
noncomputable def stL (c : List Pap) : List Sp3 := ((prs c).map pcs).flatten ++ vaw c
theorem qa2 {c : List (Pap × Pap)} {i : Nat} {z : Pap × Pap} (h : c[i]? = some z) : (((c.take (i + 1)).map pcs).flatten) = ((c.take i).map pcs).flatten ++ pcs z := by
 rw [u1, h]
 simp
theorem Z2 : ∀ (c : List (Pap × Pap)), ((c.map pcs).flatten).length <= 2 * c.length
 | [] => by simp
 | z :: c => by
  have := Z2 c
  have := qaI z
  simp only [uf, u7, uE, ub]
  lia
theorem jaZ : ∀ {c : List Pap}, c.Pairwise (fun a b => a.d < b.d) -> ∀ z ∈ prs c, z.1.d < z.2.d
 | [], _, z, h => by simp [prs] at h
 | [p], _, z, h => by simp [prs] at h
 | p :: q :: l, hp, z, h => by
  have e : prs (p :: q :: l) = (p, q) :: prs (q :: l) := by simp [prs]
  rw [e] at h
  rw [yJ] at hp
  rcases uU.mp h with rfl | h
  ·exact hp.1 q (by simp)
  ·exact jaZ hp.2 z h
theorem jaL : ∀ (l : List Pap) (p : Pap), ∃ W y, p :: l = W ++ [y]
 | [], p => ⟨[], p, rfl⟩
 | q :: l, p => by
  obtain ⟨W, y, e⟩ := jaL l q
  exact ⟨p :: W, y, by rw [e]; rfl⟩
theorem Yah (l : List Pap) (p : Pap) : ∃ y, (∀ f : Pap -> D, atI ((p :: l).map f) (-1) = some (f y)) /\ vaw (p :: l) = [⟨y.d, none, y.b⟩] := by
 obtain ⟨W, y, e⟩ := jaL l p
 refine ⟨y, fun f => ?_, ?_⟩
 ·rw [e, uk]
  exact qU _ _
 ·unfold vaw
  rw [e]
  simp
def wj (Pt : Addr) : SpD := fun ds M Q => ∃ (hm : Int × Str × Int) (ps : List Pap) (pd pg : Int), ds = [Zo hm, .lst (ps.map Xd), vo pd pg] /\ M Pt = some (.tab qW) /\ Lin hm ps /\ (∀ p ∈ ps, (hmP hm).d < p.d) /\ ZQ pd pg /\ ∀ M' b, Mo M M' -> M b = none -> M' b = some (.lst ((jn (stL (hmP hm :: jt pd pg (hmP hm) (ord ps)))).map Xi)) -> Q (.ref b) M'
theorem ka2 {Pt : Addr} (ds : List D) (M : HpD) (Q : KD) (h : wj Pt ds M Q) : X2 (jk Pt) vk kg Yq { nx := fun _ M' => Q .non M', rt := Q } (Xc ["home", "papers", "prices", "chain", "pieces", "first", "second"] ds) M := by
 obtain ⟨hm, ps, pd, pg, rfl, hT, lin, hday, pr, h⟩ := h
 have ch := lin.ch pd pg
 have sz := ch.sz
 have ll := ch.len
 unfold X2
 walk_at "st"
 refine ⟨hm, ps, pd, pg, rfl, hT, lin, pr, fun M1 mo1 => ?_⟩
 generalize eT : jt pd pg (hmP hm) (ord ps) = l at *
 have pl := qah (c := hmP hm :: l)
 have pl2 : (hmP hm :: l).length = l.length + 1 := rfl
 have up : (hmP hm :: l).Pairwise (fun a b => a.d < b.d) := yJ.mpr ⟨fun a ha => hday a (ch.sub a ha), ch.up⟩
 walk_at "st"
 refine newM (kc (ue _)) fun b hb => ?_
 have hb0 := mo1.fresh hb
 walk_at "st"
 refine ⟨by simp, by simp; lia, ?_⟩
 refine ⟨_, rfl, fun i σ M2 => ∃ v5 v6, σ = [some (Zo hm), some (.lst (ps.map Xd)), some (vo pd pg), some (.lst ((hmP hm :: l).map Xd)), some (.ref b), v5, v6] /\ Mo M M2 /\ M2 b = some (.lst ((((prs (hmP hm :: l)).take i).map pcs).flatten.map Xi)), ⟨_, _, rfl, mo1.upd hb0, by simpa using wc⟩, fun _ _ _ _ => rfl, ?_, ?_⟩
 ·rintro i e σ M2 e2 ⟨v5, v6, rfl, mo, hb2⟩
  rw [uO] at e2
  cases q : (prs (hmP hm :: l))[i]? with
  | none => rw [q] at e2; cases e2
  | some z =>
   rw [q] at e2; cases e2
   have lt := jaZ up z (xT q)
   have tot := Z2 ((prs (hmP hm :: l)).take i)
   have tkl := ud (i := i) (l := prs (hmP hm :: l))
   have pz := qaI (z.1, z.2)
   walk_at "st"
   refine ⟨⟨_, hb2⟩, ?_⟩
   walk_at "st"
   refine ⟨z.1, z.2, rfl, lt, newM (kc (by rw [uB]; lia)) fun b3 hb3 => ?_⟩
   have nb : b ≠ b3 := fun z => by rw [z, hb3] at hb2; cases hb2
   refine ⟨_, _, b3, rfl, by rw [ve nb]; exact hb2, wc, kc (by simp only [uB]; lia), ?_⟩
   walk_at "st"
   refine ⟨_, _, rfl, (mo.upd (mo.fresh hb3)).upd hb0, ?_⟩
   rw [wc, qa2 q, uk]
 ·rintro σ M2 ⟨v5, v6, rfl, mo, hb2⟩
  rw [uB, xG] at hb2
  have tot := Z2 (prs (hmP hm :: l))
  obtain ⟨y, ea, ey⟩ := Yah l (hmP hm)
  have es : stL (hmP hm :: l) = ((prs (hmP hm :: l)).map pcs).flatten ++ [⟨y.d, none, y.b⟩] := by
   unfold stL
   rw [ey]
  walk_at "st"
  refine ⟨⟨_, hb2⟩, ?_⟩
  walk_at "st"
  refine Yf rfl (ea Xd) ?_
  walk_at "st"
  refine Yf rfl (ea Xd) ?_
  walk_at "st"
  refine ⟨_, hb2, Xa6 (by rw [uB]; lia), ?_⟩
  walk_at "st"
  refine ⟨_, stL (hmP hm :: l), rfl, km (by rw [wc, es, uk]; rfl), by rw [es, uE, ui]; lia, fun M' b' mo' hb' e' => ?_⟩
  have mo3 : ∀ o, Mo M (jg M2 b o) := fun o => mo.upd hb0
  exact .inl (h _ _ ((mo3 _).trans mo') ((mo3 _).fresh hb') e')
noncomputable def kw (day : Int) (s : Sp3) : Bool := decide (s.f <= day) && (match s.l with | none => true | some e => decide (day <= e))
noncomputable def whr (day : Int) : List Sp3 -> Str
 | [] => ""
 | s :: r => if kw day s = true then s.p else whr day r
theorem ZB (day : Int) (s : Sp3) (r : List Sp3) : whr day (s :: r) = if kw day s = true then s.p else whr day r := rfl
def jP : List Sp3 -> Prop
 | [] => True
 | [x] => x.l = none
 | x :: y :: r => (∃ e, x.l = some e /\ x.f <= e /\ y.f = e + 1) /\ jP (y :: r)
theorem hit_some {day f e : Int} {p : Str} : kw day ⟨f, some e, p⟩ = true ↔ f <= day /\ day <= e := by simp [kw]
theorem hit_none {day f : Int} {p : Str} : kw day ⟨f, none, p⟩ = true ↔ f <= day := by simp [kw]
theorem Zaa (day : Int) : ∀ (r : List Sp3) (x : Sp3), jP (x :: r) -> jP (jnF x r) /\ whr day (jnF x r) = whr day (x :: r) /\ ∃ W z, jnF x r = ⟨x.f, W, x.p⟩ :: z
 | [], x, h => ⟨h, rfl, x.l, [], rfl⟩
 | y :: r, x, h => by
  obtain ⟨⟨e, h1, h2, h3⟩, h4⟩ := h
  obtain ⟨xf, xl, xp⟩ := x
  obtain ⟨yf, yl, yp⟩ := y
  dsimp only at h1 h2 h3
  subst h1 h3
  unfold jnF
  dsimp only
  by_cases hp : xp = yp
  ·subst hp
   rw [if_pos rfl]
   have hc : jP (⟨xf, yl, xp⟩ :: r) := by
    cases r with
    | nil => exact h4
    | cons z r =>
     obtain ⟨⟨e2, k1, k2, k3⟩, k4⟩ := h4
     dsimp only at k1 k2 k3
     exact ⟨⟨e2, k1, by dsimp only; lia, k3⟩, k4⟩
   obtain ⟨a, b, c⟩ := Zaa day r _ hc
   refine ⟨a, b.trans ?_, c⟩
   have hy : ∀ e2, yl = some e2 -> e + 1 <= e2 := fun e2 q => by
    cases r with
    | nil => subst q; cases h4
    | cons z r =>
     obtain ⟨⟨e3, k1, k2, k3⟩, k4⟩ := h4
     dsimp only at k1 k2 k3
     rw [q] at k1; cases k1; exact k2
   rw [ZB, ZB, ZB]
   by_cases g1 : kw day ⟨xf, some e, xp⟩ = true
   ·rw [if_pos g1, if_pos]
    rw [hit_some] at g1
    cases yl with
    | none => rw [hit_none]; lia
    | some e2 => have := hy e2 rfl; rw [hit_some]; lia
   ·rw [if_neg g1]
    rw [hit_some] at g1
    by_cases g2 : kw day ⟨e + 1, yl, xp⟩ = true
    ·rw [if_pos g2, if_pos]
     cases yl with
     | none => rw [hit_none] at g2 ⊢; lia
     | some e2 => rw [hit_some] at g2 ⊢; lia
    ·rw [if_neg g2, if_neg]
     cases yl with
     | none => rw [hit_none] at g2 ⊢; lia
     | some e2 => rw [hit_some] at g2 ⊢; lia
  ·rw [if_neg hp]
   obtain ⟨a, b, W, z, c⟩ := Zaa day r _ h4
   refine ⟨?_, ?_, some e, _, rfl⟩
   ·rw [c] at a ⊢
    exact ⟨⟨e, rfl, h2, rfl⟩, a⟩
   ·rw [ZB, ZB, b]
theorem Ybi (p q : Pap) (l : List Pap) : prs (p :: q :: l) = (p, q) :: prs (q :: l) := by simp [prs]
theorem Zbb (p : Pap) : stL [p] = [⟨p.d, none, p.b⟩] := by unfold stL vaw; simp [prs]
theorem Wbh (p q : Pap) (l : List Pap) : stL (p :: q :: l) = pcs (p, q) ++ stL (q :: l) := by
 unfold stL
 rw [Ybi, uf, u7, uh]
 congr 2
theorem waB : ∀ (l : List Pap) (p : Pap), (p :: l).Pairwise (fun a b => a.d < b.d) -> jP (stL (p :: l)) /\ ∃ L pp r, stL (p :: l) = ⟨p.d, L, pp⟩ :: r
 | [], p, _ => by rw [Zbb]; exact ⟨rfl, none, p.b, [], rfl⟩
 | q :: l, p, h => by
  rw [yJ] at h
  have lt := h.1 q (by simp)
  obtain ⟨a, L, pp, r, e⟩ := waB l q h.2
  rw [Wbh]
  unfold pcs
  dsimp only
  split
  ·split
   ·refine ⟨?_, _, _, _, rfl⟩
    rw [e] at a ⊢
    exact ⟨⟨p.d, rfl, ul _, rfl⟩, ⟨q.d - 1, rfl, by dsimp only; lia, by dsimp only; lia⟩, a⟩
   ·refine ⟨?_, _, _, _, rfl⟩
    rw [e] at a ⊢
    exact ⟨⟨p.d, rfl, ul _, by dsimp only; lia⟩, a⟩
  ·refine ⟨?_, _, _, _, rfl⟩
   rw [e] at a ⊢
   exact ⟨⟨q.d - 1, rfl, by dsimp only; lia, by dsimp only; lia⟩, a⟩
def jq (Pt : Addr) : SpD := fun ds M Q => ∃ (hm : Int × Str × Int) (ps : List Pap) (pd pg day : Int), ds = [Zo hm, .lst (ps.map Xd), vo pd pg, .int day] /\ M Pt = some (.tab qW) /\ Lin hm ps /\ (∀ p ∈ ps, (hmP hm).d < p.d) /\ ZQ pd pg /\ ∀ M', Mo M M' -> Q (.str (whr day (jn (stL (hmP hm :: jt pd pg (hmP hm) (ord ps)))))) M'
theorem qaE (day : Int) : ∀ (ss : List Sp3) (i : Nat) (s : Sp3), ss[i]? = some s -> whr day (ss.drop i) = if kw day s = true then s.p else whr day (ss.drop (i + 1))
 | [], _, _, h => by cases h
 | x :: ss, 0, s, h => by cases h; rfl
 | x :: ss, i + 1, s, h => qaE day ss i s (by simpa using h)
theorem Wa6 {Pt : Addr} (ds : List D) (M : HpD) (Q : KD) (h : jq Pt ds M Q) : Y4 (wj Pt) { nx := fun _ M' => Q .non M', rt := Q } (Xc ["home", "papers", "prices", "day", "first", "last", "place"] ds) M := by
 obtain ⟨hm, ps, pd, pg, day, rfl, hT, lin, hday, pr, h⟩ := h
 generalize eT : jn (stL (hmP hm :: jt pd pg (hmP hm) (ord ps))) = ss at *
 unfold Y4
 walk_at "st"
 refine ⟨hm, ps, pd, pg, rfl, hT, lin, hday, pr, fun M1 b mo hb hl => ?_⟩
 rw [eT] at hl
 refine ⟨_, km hl, fun i σ M2 => (∃ v4 v5 v6, σ = [some (Zo hm), some (.lst (ps.map Xd)), some (vo pd pg), some (.int day), v4, v5, v6]) /\ M2 = M1 /\ whr day (ss.drop i) = whr day ss, ⟨⟨_, _, _, rfl⟩, rfl, rfl⟩, fun _ _ _ z => by rw [z.2.1]; exact km hl, ?_, ?_⟩
 ·rintro i d σ M2 e2 ⟨⟨v4, v5, v6, rfl⟩, rfl, hd⟩
  rw [uO] at e2
  cases q : ss[i]? with
  | none => rw [q] at e2; cases e2
  | some s =>
   rw [q] at e2; cases e2
   have e3 := qaE day ss i s q
   obtain ⟨f, l, p⟩ := s
   walk_at "st"
   dsimp only
   by_cases h1 : f <= day
   ·rw [decide_eq_true h1, if_pos rfl]
    cases l with
    | none =>
     rw [if_pos (hit_none.mpr h1)] at e3
     walk_at "st"
     refine .inl ?_
     rw [show p = whr day ss from e3.symm.trans hd]
     exact h _ mo
    | some e =>
     walk_at "st"
     by_cases h2 : day <= e
     ·rw [if_pos (hit_some.mpr ⟨h1, h2⟩)] at e3
      rw [decide_eq_true h2, if_pos rfl]
      walk_at "st"
      refine .inl ?_
      rw [show p = whr day ss from e3.symm.trans hd]
      exact h _ mo
     ·rw [if_neg (fun z => h2 (hit_some.mp z).2)] at e3
      rw [decide_eq_false h2, if_neg (by decide)]
      walk_at "st"
      exact ⟨⟨_, _, _, rfl⟩, rfl, by rw [← hd, e3]⟩
   ·have hn : kw day ⟨f, l, p⟩ = false := by unfold kw; rw [decide_eq_false h1]; rfl
    rw [hn] at e3
    rw [decide_eq_false h1, if_neg (by decide)]
    walk_at "st"
    refine ⟨⟨_, _, _, rfl⟩, rfl, ?_⟩
    rw [← hd, e3, if_neg (by decide)]
 ·rintro σ M2 ⟨⟨v4, v5, v6, rfl⟩, rfl, hd⟩
  walk_at "st"
  rw [List.drop_eq_nil_of_le (by rw [uB]; exact uI _)] at hd
  refine .inl ?_
  rw [show (Str.ofString "") = whr day ss from hd]
  exact h _ mo
noncomputable def dys (x : Int) : List Int := [x - 1, x, x + 1]
def Wm : SpD := fun ds M Q => ∃ (hm : Int × Str × Int) (ps : List Pap), ds = [Zo hm, .lst (ps.map Xd)] /\ ps.length <= 60 /\ ∀ ms : List Int, (∀ m ∈ ms, m ∈ dys hm.1 ++ (ps.map fun p => dys p.d).flatten) -> 0 < ms.length -> ms.length <= 200 -> Q (.lst (ms.map D.int)) M
theorem ka5 {ps : List Pap} {i : Nat} {p : Pap} (h : ps[i]? = some p) : (((ps.take (i + 1)).map fun p => dys p.d).flatten) = ((ps.take i).map fun p => dys p.d).flatten ++ dys p.d := by
 rw [u1, h]
 simp
theorem kal : ∀ ps : List Pap, ((ps.map fun p => dys p.d).flatten).length = 3 * ps.length
 | [] => rfl
 | p :: ps => by
  rw [uf, u7, uE, kal ps]
  simp [dys]; lia
theorem qax (ds : List D) (M : HpD) (Q : KD) (h : Wm ds M Q) : wG { nx := fun _ M' => Q .non M', rt := Q } (Xc ["_law_home_here", "_law_papers_here", "_law_found", "_law_paper"] ds) M := by
 obtain ⟨hm, ps, rfl, pl, h⟩ := h
 unfold wG
 walk_at "st"
 refine vn (kc (u0 rfl)) ?_
 walk_at "st"
 refine ⟨fun i σ M2 => ∃ v3, σ = [some (Zo hm), some (.lst (ps.map Xd)), some (.lst ((dys hm.1 ++ ((ps.take i).map fun p => dys p.d).flatten).map D.int)), v3] /\ M2 = M, ⟨_, rfl, rfl⟩, fun _ _ _ _ => rfl, ?_, ?_⟩
 ·rintro i d σ M2 e2 ⟨v3, rfl, rfl⟩
  rw [uO] at e2
  cases q : ps[i]? with
  | none => rw [q] at e2; cases e2
  | some p =>
   rw [q] at e2; cases e2
   have e3 := ka5 q
   have e4 := kal (ps.take i)
   have e5 := ud (i := i) (l := ps)
   walk_at "st"
   refine vn (kc (u0 rfl)) ?_
   refine v0 rfl rfl (vn (kc ?_) ?_)
   ·rw [uE, uB, uE, e4]; simp [dys]; lia
   walk_at "st"
   refine ⟨some (Xd p), ?_, rfl⟩
   rw [e3, ← uh, uk (l₂ := dys p.d)]
   rfl
 ·rintro σ M2 ⟨v3, rfl, rfl⟩
  rw [uB, xG]
  have e4 := kal ps
  walk_at "st"
  refine WaO (vS rfl ⟨_, rfl, ?_, ?_, fun ms m1 m2 m3 => vn (kc ?_) ?_⟩)
  ·simp [dys]
  ·rw [uE, e4]; simp [dys]; lia
  ·rw [uE, e4] at m3
   have : (dys hm.1).length = 3 := rfl
   rw [uB]; lia
  ·refine .inl (h ms m1 m2 ?_)
   rw [uE, e4] at m3
   have : (dys hm.1).length = 3 := rfl
   lia
def Ws (Zj : SpD) : TSD :=
 (wb (Xh (ww (jD (Xs (Xb ZT (Ya (Za 0) (Ya (tCD (.ty "list")) Zb))))) (qd (wa (jm false) (Xb Zq (Ya (Za 0) Zb)) (tCD (.int 0))))) (We (tCD (.bl false))) qf)
 (wb (WE (YF (Ya (Xb Zq (Ya (Za 0) Zb)) Zb)) (qb 1) (wb (Wc (wa Yd (Za 0) (Za 1)) (qb 2))
 (wb (Xh (ww (jD (Xs (Xb ZT (Ya (Za 2) (Ya (tCD (.ty "tuple")) Zb))))) (qd (wa (jm true) (Xb Zq (Ya (Za 2) Zb)) (tCD (.int 3))))) (We (tCD (.bl false))) qf)
 (wb (Xh (ww (jD (Xs (Xb Zj (Ya (wa Yd (Za 2) (tCD (.int 0))) Zb)))) (jD (Xs (Xb ZT (Ya (wa Yd (Za 2) (tCD (.int 2))) (Ya (tCD (.ty "str")) Zb)))))) (We (tCD (.bl false))) qf)
 (wb (Xh (qd (wa (jm true) (wa (kM false) (wa Yd (Za 2) (tCD (.int 1))) (tCD .non)) (wa (jm false) (wa jh (Za 1) (tCD (.int 1))) (Xb Zq (Ya (Za 0) Zb))))) (We (tCD (.bl false))) qf)
 (Xh (ZE (qd (wa (kM true) (wa Yd (Za 2) (tCD (.int 1))) (tCD .non))) (jD (Xs (Xb Zj (Ya (wa Yd (Za 2) (tCD (.int 1))) Zb))))) (We (tCD (.bl false))) qf))))))
 (We (tCD (.bl true)))))
def Xaw (Ym Zi Xk vh Yj Yi wj Xg Wm ja jq : SpD) : TSD :=
 (wb (Wc (Xb Ym (Ya (Za 0) Zb)) (qb 1))
 (wb (Wc (Xb Zi (Ya (Za 1) Zb)) (qb 2))
 (wb (Wc (Xb Xk (Ya (Za 1) (Ya (Za 2) Zb))) (qb 3))
 (wb (Wc (Xb vh (Ya (Za 1) (Ya (Za 2) (Ya (Za 3) (Ya (Xb Yj (Ya (Za 1) (Ya (tCD (.int 12)) (Ya (tCD (.int 30)) Zb)))) Zb))))) (qb 4))
 (wb (Wc (Xb Yi (Ya (Za 1) Zb)) (qb 5))
 (wb (Wc (Xb wj (Ya (Za 3) (Ya (Za 4) (Ya (Za 5) Zb)))) (qb 6))
 (wb (Xh (ww (jD (Xs (Xb Xg (Ya (Za 6) Zb)))) (qd (wa (jm true) (wa Yd (wa Yd (Za 6) (tCD (.int 0))) (tCD (.int 0))) (wa Yd (Za 3) (tCD (.int 0)))))) (We (tCD (.bl false))) qf)
 (wb (jy (W1 (Ya (Za 6) (Ya (WU (Za 6) (ZF (tCD (.int 1))) qu) Zb))) (Zx 2 (Zh (qb 7) (Zh (qb 8) Wx))) (Xh (ww (qd (wa (jm true) (wa Yd (Za 8) (tCD (.int 0))) (wa jh (wa Yd (Za 7) (tCD (.int 1))) (tCD (.int 1))))) (ww (qd (wa Ya4 (wa Yd (Za 7) (tCD (.int 1))) (wa Yd (Za 7) (tCD (.int 0))))) (qd (wa (jm false) (wa Yd (Za 7) (tCD (.int 2))) (wa Yd (Za 8) (tCD (.int 2))))))) (We (tCD (.bl false))) qf))
 (wb (Wc (Xb Wm (Ya (Za 3) (Ya (Za 4) Zb))) (qb 9))
 (wb (WE (YF (Ya (tCD (.int 12)) Zb)) (qb 10) (wb (Wc (wa qE (wa jh (wa Yd (Za 9) (Xb ja (Ya (Za 1) (Ya (Xb Zq (Ya (Za 9) Zb)) Zb)))) (Xb ja (Ya (Za 1) (Ya (tCD (.int 3)) Zb)))) (tCD (.int 1))) (qb 11))
 (wb (Wc (wz 3 (js (Za 6)) (Zx 3 (Zh (qb 0) (Zh (qb 1) (Zh (qb 2) Wx)))) (ZE (qd (wa wU (Za 0) (Za 14))) (ww (qd (wa (kM false) (Za 1) (tCD .non))) (qd (wa wU (Za 14) (Za 1))))) (Za 2)) (qb 12))
 (Xh (ww (qd (wa (jm true) (Xb jq (Ya (Za 3) (Ya (Za 4) (Ya (Za 5) (Ya (Za 11) Zb))))) (wa Yd (wa kH (Za 12) (Zm (Ya (tCD (.str "")) Zb))) (tCD (.int 0))))) (qd (wa (jm true) (Xb Zq (Ya (Za 12) Zb)) (Xb X4 (Ya (wa ja1 (Za 11) (wa Yd (Za 3) (tCD (.int 0)))) Zb))))) (We (tCD (.bl false))) qf))))
 (We (tCD (.bl true)))))))))))))
theorem Y9 : ∀ (A : List Sp3) (x y : Sp3), x.l.isSome = true -> (∀ a ∈ A, a.l.isSome = true) -> y.l = none -> ∃ W z, jnF x (A ++ [y]) = W ++ [z] /\ z.l = none /\ ∀ w ∈ W, w.l.isSome = true
 | [], x, y, hx, _, hy => by
  rw [List.nil_append, jnF]
  by_cases e : x.p = y.p
  ·rw [if_pos e]; exact ⟨[], ⟨x.f, y.l, x.p⟩, rfl, hy, fun w h => nomatch h⟩
  ·rw [if_neg e]; exact ⟨[x], y, rfl, hy, fun w h => by rw [uc.mp h]; exact hx⟩
 | c :: A, x, y, hx, hA, hy => by
  rw [List.cons_append, jnF]
  by_cases e : x.p = c.p
  ·rw [if_pos e]
   exact Y9 A ⟨x.f, c.l, x.p⟩ y (hA c ug) (fun a h => hA a (uQ _ h)) hy
  ·rw [if_neg e]
   obtain ⟨W, z, h1, h2, h3⟩ := Y9 A c y (hA c ug) (fun a h => hA a (uQ _ h)) hy
   refine ⟨x :: W, z, by rw [h1]; rfl, h2, fun w h => ?_⟩
   rcases uU.mp h with rfl | h
   ·exact hx
   ·exact h3 w h
theorem Zba (A : List Sp3) (y : Sp3) (hA : ∀ a ∈ A, a.l.isSome = true) (hy : y.l = none) : ∃ W z, jn (A ++ [y]) = W ++ [z] /\ z.l = none /\ ∀ w ∈ W, w.l.isSome = true := by
 cases A with
 | nil => exact ⟨[], y, rfl, hy, fun w h => nomatch h⟩
 | cons x A => exact Y9 A x y (hA x ug) (fun a h => hA a (uQ _ h)) hy
theorem Ya3 (z : Pap × Pap) : ∀ a ∈ pcs z, a.l.isSome = true := by
 intro a h
 unfold pcs at h
 split at h
 ·rcases uU.mp h with rfl | h
  ·rfl
  ·split at h
   ·rw [uc.mp h]; rfl
   ·cases h
 ·rw [uc.mp h]; rfl
theorem wa2 (p : Pap) (l : List Pap) : ∃ W z, jn (stL (p :: l)) = W ++ [z] /\ z.l = none /\ ∀ w ∈ W, w.l.isSome = true := by
 obtain ⟨y, _, ey⟩ := Yah l p
 unfold stL
 rw [ey]
 refine Zba _ _ (fun a h => ?_) rfl
 obtain ⟨r, hr, ha⟩ := List.mem_flatten.mp h
 obtain ⟨z, _, rfl⟩ := xI.mp hr
 exact Ya3 z a ha
def Xg : SpD := fun ds M Q => ∃ (d : D) (W : List Sp3) (z : Sp3), ds = [d] /\ Ye d M = some ((W ++ [z]).map Xi) /\ W.length <= 300 /\ z.l = none /\ (∀ w ∈ W, w.l.isSome = true) /\ Q (.bl true) M
theorem Xbe {neg a b : Bool} {M : HpD} {Q : KD} (q : Q (.bl (neg ^^ (a == b))) M) : jm neg (.bl a) (.bl b) M Q := by
 refine kaB rfl (ue _) ?_
 have e : eqD (we (.bl a) M) (we (.bl b) M) = (a == b) := by
  show eqD (.bl a) (.bl b) = _
  cases a <;> cases b <;> rfl
 rw [e]; exact q
theorem wY (ds : List D) (M : HpD) (Q : KD) (h : Xg ds M Q) : Ws Zj { nx := fun _ M' => Q .non M', rt := Q } (Xc ["_law_found", "_law_at", "_law_row"] ds) M := by
 obtain ⟨d, W, z, rfl, hd, ln, hz, hW, h⟩ := h
 have hi := wag hd
 have hlen : ((W ++ [z]).map Xi).length = W.length + 1 := by simp
 unfold Ws
 walk_at "st"
 refine XX (t := "list") (by rw [qaX hd]; rfl) (by decide) ?_
 refine ⟨true, by unfold jw; rfl, ?_⟩
 rw [if_neg (by decide)]
 walk_at "st"
 refine WC hi ?_
 walk_at "st"
 rw [xY, decide_eq_false (by rw [hlen]; lia), if_neg (by decide)]
 walk_at "st"
 refine WC hi ?_
 walk_at "st"
 rw [hlen]
 refine ⟨by lia, by lia, fun i σ M' => M' = M /\ ∃ v1 v2, σ = [some d, v1, v2], ⟨rfl, _, _, rfl⟩, ?_, ?_⟩
 ·rintro i e σ M' he ⟨rfl, v1, v2, rfl⟩
  obtain ⟨hi2, rfl⟩ := ZI he
  have hi3 : i < W.length + 1 := by lia
  obtain ⟨s, q, en⟩ : ∃ s, (W ++ [z])[i]? = some s /\ wO (wav s.l) = decide ((i : Int) + 1 = ((W.length + 1 : Nat) : Int)) := by
   by_cases c : i < W.length
   ·refine ⟨W[i], by rw [u4 c]; exact uG c, ?_⟩
    rw [decide_eq_false (by lia)]
    have := hW W[i] (xB c)
    cases e : W[i].l with
    | none => rw [e] at this; cases this
    | some k => rfl
   ·have ei : i = W.length := by lia
    refine ⟨z, by rw [ei]; simp, ?_⟩
    rw [decide_eq_true (by lia), hz]; rfl
  have at1 : atI ((W ++ [z]).map Xi) (0 + (i : Int)) = some (Xi s) := by
   rw [Int.zero_add]
   exact YE q
  walk_at "st"
  refine Yf hi at1 ?_
  walk_at "st"
  refine XX (t := "tuple") rfl (by decide) ?_
  refine ⟨true, by unfold jw; rfl, ?_⟩
  rw [if_neg (by decide)]
  walk_at "st"
  refine ⟨true, by unfold jw; rfl, ?_⟩
  rw [if_neg (by decide)]
  walk_at "st"
  refine XX (t := "str") rfl (by decide) ?_
  refine ⟨true, by unfold jw; rfl, ?_⟩
  rw [if_neg (by decide)]
  walk_at "st"
  refine WC hi ?_
  walk_at "st"
  refine Xbe ?_
  rw [hlen]
  refine ⟨_, rfl, ?_⟩
  rw [if_neg (by rw [en]; simp)]
  walk_at "st"
  cases el : s.l with
  | none =>
   rw [if_neg (by simp [wav, wO])]
   walk_at "st"
   exact ⟨rfl, _, _, rfl⟩
  | some k =>
   rw [if_pos (by simp [wav, wO])]
   walk_at "st"
   refine ⟨k, by rw [el]; rfl, ?_⟩
   refine ⟨true, by unfold jw; rfl, ?_⟩
   rw [if_neg (by decide)]
   walk_at "st"
   exact ⟨rfl, _, _, rfl⟩
 ·rintro σ M' ⟨rfl, v1, v2, rfl⟩
  walk_at "st"
  exact .inl h
theorem Zbh (p : Pap) (l : List Pap) : (jn (stL (p :: l))).length <= 2 * l.length + 3 := by
 refine xD (YaW _) ?_
 obtain ⟨y, _, ey⟩ := Yah l p
 have tot := Z2 (prs (p :: l))
 have pl := qah (c := p :: l)
 unfold stL
 rw [ey, uE, ui]
 simp only [ub] at pl
 lia
def Nbs : List Sp3 -> Prop
 | x :: y :: r => x.p ≠ y.p /\ Nbs (y :: r)
 | _ => True
theorem wal : ∀ (r : List Sp3) (x : Sp3), Nbs (jnF x r) /\ ∃ L z, jnF x r = ⟨x.f, L, x.p⟩ :: z
 | [], x => ⟨trivial, x.l, [], rfl⟩
 | y :: r, x => by
  unfold jnF
  by_cases hp : x.p = y.p
  ·rw [if_pos hp]
   obtain ⟨a, L, z, e⟩ := wal r ⟨x.f, y.l, x.p⟩
   exact ⟨a, L, z, e⟩
  ·rw [if_neg hp]
   obtain ⟨a, L, z, e⟩ := wal r y
   refine ⟨?_, x.l, _, rfl⟩
   rw [e] at a ⊢
   exact ⟨hp, a⟩
theorem waL : ∀ (ss : List Sp3) (i : Nat) (x y : Sp3), jP ss -> Nbs ss -> ss[i]? = some x -> ss[i + 1]? = some y -> (∃ e, x.l = some e /\ x.f <= e /\ y.f = e + 1) /\ x.p ≠ y.p
 | [], i, x, y, _, _, h, _ => by cases h
 | [a], i, x, y, _, _, h, h2 => by simp at h2
 | a :: b :: r, 0, x, y, c, n, h, h2 => by
  cases h; cases h2
  exact ⟨c.1, n.1⟩
 | a :: b :: r, i + 1, x, y, c, n, h, h2 => waL (b :: r) i x y c.2 n.2 (by simpa using h) (by simpa using h2)
noncomputable def WB (day : Int) (ss : List Sp3) : List Str := (ss.filter (kw day)).map (·.p)
theorem Zar (day : Int) : ∀ (r : List Sp3) (x : Sp3), jP (x :: r) -> WB day (x :: r) = (if x.f <= day then [whr day (x :: r)] else []) /\ (day < x.f -> whr day (x :: r) = "")
 | [], x, c => by
  obtain ⟨f, l, p⟩ := x
  have : l = none := c
  subst this
  unfold WB
  rw [ZB, List.filter_cons]
  by_cases h : f <= day
  ·rw [if_pos (hit_none.mpr h), if_pos (hit_none.mpr h), if_pos h]
   exact ⟨rfl, fun z => by dsimp only at z; lia⟩
  ·rw [if_neg (fun z => h (hit_none.mp z)), if_neg (fun z => h (hit_none.mp z)), if_neg h]
   exact ⟨rfl, fun _ => rfl⟩
 | y :: r, x, c => by
  obtain ⟨⟨e, h1, h2, h3⟩, c2⟩ := c
  obtain ⟨f, l, p⟩ := x
  dsimp only at h1 h2 h3
  subst h1
  obtain ⟨a, b⟩ := Zar day r y c2
  have hc : WB day (⟨f, some e, p⟩ :: y :: r) = if kw day ⟨f, some e, p⟩ = true then p :: WB day (y :: r) else WB day (y :: r) := by
   unfold WB
   rw [List.filter_cons]
   split <;> rfl
  rw [hc, ZB]
  by_cases g : kw day ⟨f, some e, p⟩ = true
  ·rw [if_pos g, if_pos g, a]
   rw [hit_some] at g
   rw [if_neg (by lia), if_pos g.1]
   exact ⟨rfl, fun z => by dsimp only at z; lia⟩
  ·rw [if_neg g, if_neg g, a]
   rw [hit_some] at g
   by_cases hf : f <= day
   ·rw [if_pos (by lia), if_pos hf]
    exact ⟨rfl, fun z => by dsimp only at z; lia⟩
   ·rw [if_neg (by lia), if_neg hf]
    exact ⟨rfl, fun _ => b (by lia)⟩
theorem Ybd {p : Pap} {l : List Pap} (h : (p :: l).Pairwise (fun a b => a.d < b.d)) : ∃ L pp r, jn (stL (p :: l)) = ⟨p.d, L, pp⟩ :: r /\ jP (jn (stL (p :: l))) /\ Nbs (jn (stL (p :: l))) := by
 obtain ⟨c, L, pp, r, e⟩ := waB l p h
 rw [e] at c ⊢
 obtain ⟨a, b, W, z, e2⟩ := Zaa 0 r ⟨p.d, L, pp⟩ c
 exact ⟨W, pp, z, e2, a, (wal r ⟨p.d, L, pp⟩).1⟩
theorem Xbh {rest : TSD} {DD : Yx} {M : HpD} {fa : Addr} {ss : List Sp3} {s0 s1 s2 s3 s4 s5 v7 v8 v9 v10 v11 v12 : Option D} (hfb : M fa = some (.lst (ss.map Xi))) (ln : ss.length <= 300) (ne : ss ≠ []) (c : jP ss) (n : Nbs ss)
  (k : ∀ v7 v8, rest DD [s0, s1, s2, s3, s4, s5, some (.ref fa), v7, v8, v9, v10, v11, v12] M) :
  (wb (jy (W1 (Ya (Za 6) (Ya (WU (Za 6) (ZF (tCD (.int 1))) qu) Zb))) (Zx 2 (Zh (qb 7) (Zh (qb 8) Wx))) (Xh (ww (qd (wa (jm true) (wa Yd (Za 8) (tCD (.int 0))) (wa jh (wa Yd (Za 7) (tCD (.int 1))) (tCD (.int 1))))) (ww (qd (wa Ya4 (wa Yd (Za 7) (tCD (.int 1))) (wa Yd (Za 7) (tCD (.int 0))))) (qd (wa (jm false) (wa Yd (Za 7) (tCD (.int 2))) (wa Yd (Za 8) (tCD (.int 2))))))) (We (tCD (.bl false))) qf))
  rest) DD [s0, s1, s2, s3, s4, s5, some (.ref fa), v7, v8, v9, v10, v11, v12] M := by
 walk_at "st"
 refine ⟨_, km hfb, ?_⟩
 rw [waK _ (by simpa using ne)]
 refine vn (kc (by rw [uo, uB]; lia)) ?_
 walk_at "st"
 refine ⟨_, _, _, _, rfl, km hfb, rfl, ?_⟩
 refine ⟨fun i σ M2 => (∃ v7 v8, σ = [s0, s1, s2, s3, s4, s5, some (.ref fa), v7, v8, v9, v10, v11, v12]) /\ M2 = M, ⟨⟨_, _, rfl⟩, rfl⟩, fun _ _ _ z => by rw [z.2]; exact ⟨km hfb, rfl⟩, ?_, ?_⟩
 ·rintro i d σ M2 e ⟨⟨v7, v8, rfl⟩, rfl⟩
  obtain ⟨dx, dy, ex, ey, rfl⟩ := jac e
  rw [uO] at ex
  rw [xn, uO, Nat.add_comm] at ey
  cases q1 : ss[i]? with
  | none => rw [q1] at ex; cases ex
  | some x =>
   cases q2 : ss[i + 1]? with
   | none => rw [q2] at ey; cases ey
   | some y =>
    rw [q1] at ex; cases ex
    rw [q2] at ey; cases ey
    obtain ⟨⟨e1, h1, h2, h3⟩, h4⟩ := waL ss i x y c n q1 q2
    obtain ⟨xf, xl, xp⟩ := x
    obtain ⟨yf, yl, yp⟩ := y
    dsimp only at h1 h2 h3 h4
    subst h1
    walk_at "st"
    dsimp only
    rw [decide_eq_true h3, if_neg (by decide)]
    walk_at "st"
    rw [decide_eq_false (show ¬ e1 < xf by lia), if_neg (by decide)]
    walk_at "st"
    refine wZ ?_
    refine ⟨_, rfl, ?_⟩
    rw [decide_eq_false h4, if_neg (by decide)]
    walk_at "st"
    exact ⟨⟨_, _, rfl⟩, rfl⟩
 ·rintro σ M2 ⟨⟨v7, v8, rfl⟩, rfl⟩
  exact k _ _
theorem YaY {day : Int} {ss : List Sp3} {i : Nat} {s : Sp3} (h : ss[i]? = some s) : WB day (ss.take (i + 1)) = if kw day s = true then WB day (ss.take i) ++ [s.p] else WB day (ss.take i) := by
 unfold WB
 rw [u1, h, List.filter_append]
 by_cases g : kw day s = true
 ·rw [if_pos g]; simp [g]
 ·rw [if_neg g]; simp [g]
theorem ja6 {rest : TSD} {DD : Yx} {M : HpD} {Pt b fa : Addr} {ss : List Sp3} {hm : Int × Str × Int} {ps : List Pap} {pd pg : Int} {ms : List Int} {L : Option Int} {pp : Str} {sr : List Sp3} {o : OD} {s0 s2 v7 v8 v10 v11 v12 : Option D} (hT : M Pt = some (.tab qW)) (hb : M b = some o) (bo : vw o) (hfb : M fa = some (.lst (ss.map Xi))) (bP : Pt ≠ b) (bf : fa ≠ b)
  (lin : Lin hm ps) (hday : ∀ p ∈ ps, (hmP hm).d < p.d) (pr : ZQ pd pg) (ln : ss.length <= 300) (eT : jn (stL (hmP hm :: jt pd pg (hmP hm) (ord ps))) = ss) (es : ss = ⟨hm.1, L, pp⟩ :: sr) (c : jP ss) (ms0 : 0 < ms.length) (ms1 : ms.length <= 200)
  (k : ∀ v10 v11 v12 M', rest DD [s0, some (.ref b), s2, some (Zo hm), some (.lst (ps.map Xd)), some (vo pd pg), some (.ref fa), v7, v8, some (.lst (ms.map D.int)), v10, v11, v12] M') :
  (wb (WE (YF (Ya (tCD (.int 12)) Zb)) (qb 10) (wb (Wc (wa qE (wa jh (wa Yd (Za 9) (Xb ja (Ya (Za 1) (Ya (Xb Zq (Ya (Za 9) Zb)) Zb)))) (Xb ja (Ya (Za 1) (Ya (tCD (.int 3)) Zb)))) (tCD (.int 1))) (qb 11))
 (wb (Wc (wz 3 (js (Za 6)) (Zx 3 (Zh (qb 0) (Zh (qb 1) (Zh (qb 2) Wx)))) (ZE (qd (wa wU (Za 0) (Za 14))) (ww (qd (wa (kM false) (Za 1) (tCD .non))) (qd (wa wU (Za 14) (Za 1))))) (Za 2)) (qb 12))
 (Xh (ww (qd (wa (jm true) (Xb (jq Pt) (Ya (Za 3) (Ya (Za 4) (Ya (Za 5) (Ya (Za 11) Zb))))) (wa Yd (wa kH (Za 12) (Zm (Ya (tCD (.str "")) Zb))) (tCD (.int 0))))) (qd (wa (jm true) (Xb Zq (Ya (Za 12) Zb)) (Xb X4 (Ya (wa ja1 (Za 11) (wa Yd (Za 3) (tCD (.int 0)))) Zb))))) (We (tCD (.bl false))) qf))))
  rest) DD [s0, some (.ref b), s2, some (Zo hm), some (.lst (ps.map Xd)), some (vo pd pg), some (.ref fa), v7, v8, some (.lst (ms.map D.int)), v10, v11, v12] M := by
 walk_at "st"
 refine ⟨by decide, by decide, fun i σ M' => (∃ v10 v11 v12, σ = [s0, some (.ref b), s2, some (Zo hm), some (.lst (ps.map Xd)), some (vo pd pg), some (.ref fa), v7, v8, some (.lst (ms.map D.int)), v10, v11, v12]) /\ M' Pt = some (.tab qW) /\ (∃ o, M' b = some o /\ vw o) /\ M' fa = some (.lst (ss.map Xi)), ⟨⟨_, _, _, rfl⟩, hT, ⟨o, hb, bo⟩, hfb⟩, ?_, ?_⟩
 ·rintro i d σ M' e ⟨⟨v10, v11, v12, rfl⟩, T1, ⟨o1, b1, bo1⟩, f1⟩
  walk_at "st"
  rw [uB]
  refine ⟨b, _, o1, rfl, by lia, by lia, b1, bo1, fun r M2 r0 r1 fr2 => ?_⟩
  have T2 := (fr2.2 Pt bP).trans T1
  have f2 := (fr2.2 fa bf).trans f1
  obtain ⟨o2, b2, bo2⟩ := fr2.1
  obtain ⟨a, rfl⟩ : ∃ a : Nat, r = (a : Int) := ⟨r.toNat, by lia⟩
  obtain ⟨m, qm⟩ : ∃ m, ms[a]? = some m := ⟨_, uG (by lia)⟩
  refine Yf rfl (YE qm) ?_
  walk_at "st"
  refine ⟨b, _, o2, rfl, by lia, by lia, b2, bo2, fun r2 M3 r20 r21 fr3 => ?_⟩
  have T3 := (fr3.2 Pt bP).trans T2
  have f3 := (fr3.2 fa bf).trans f2
  obtain ⟨o3, b3, bo3⟩ := fr3.1
  walk_at "st"
  generalize m + r2 - 1 = day
  obtain ⟨hh, hw0⟩ : WB day ss = (if hm.1 <= day then [whr day ss] else []) /\ (day < hm.1 -> whr day ss = "") := by
   rw [es] at c ⊢; exact Zar day sr _ c
  refine ⟨_, km f3, kc (by rw [uB]; lia), fun i ys σ M4 => (∃ w0 w1 w2, σ = [w0, w1, w2, s0, some (.ref b), s2, some (Zo hm), some (.lst (ps.map Xd)), some (vo pd pg), some (.ref fa), v7, v8, some (.lst (ms.map D.int)), some d, some (.int day), v12]) /\ ys = (WB day (ss.take i)).map D.str /\ M4 = M3, ⟨⟨_, _, _, rfl⟩, rfl, rfl⟩, fun _ _ _ _ z => by rw [z.2.2]; exact km f3, ?_, ?_⟩
  ·rintro j e2 ys σ M4 he ⟨⟨w0, w1, w2, rfl⟩, rfl, rfl⟩
   rw [uO] at he
   cases q : ss[j]? with
   | none => rw [q] at he; cases he
   | some s =>
    rw [q] at he; cases he
    have ht := YaY (day := day) q
    obtain ⟨f, l, p⟩ := s
    walk_at "st"
    dsimp only
    by_cases h1 : f <= day
    ·rw [decide_eq_true h1, if_pos rfl]
     cases l with
     | none =>
      rw [if_pos (hit_none.mpr h1)] at ht
      walk_at "st"
      refine ⟨⟨_, _, _, rfl⟩, ?_, rfl⟩
      rw [ht, uk]; rfl
     | some e3 =>
      walk_at "st"
      by_cases h2 : day <= e3
      ·rw [if_pos (hit_some.mpr ⟨h1, h2⟩)] at ht
       rw [decide_eq_true h2, if_pos rfl]
       walk_at "st"
       refine ⟨⟨_, _, _, rfl⟩, ?_, rfl⟩
       rw [ht, uk]; rfl
      ·rw [if_neg (fun z => h2 (hit_some.mp z).2)] at ht
       rw [decide_eq_false h2, if_neg (by decide)]
       refine ⟨⟨_, _, _, rfl⟩, ?_, rfl⟩
       rw [ht]
    ·have hn : kw day ⟨f, l, p⟩ = false := by unfold kw; rw [decide_eq_false h1]; rfl
     rw [hn] at ht
     rw [decide_eq_false h1, if_neg (by decide)]
     refine ⟨⟨_, _, _, rfl⟩, ?_, rfl⟩
     rw [ht]; rfl
  ·rintro ys σ M4 ⟨_, rfl, rfl⟩
   rw [uB, xG]
   have hl : (WB day ss).length <= 1 := by rw [hh]; split <;> simp
   refine vn (kc (by rw [uB]; lia)) ?_
   walk_at "st"
   refine ⟨hm, ps, pd, pg, day, rfl, T3, lin, hday, pr, fun M6 mo6 => ?_⟩
   have T6 := mo6 _ _ T3
   have f6 := mo6 _ _ f3
   have b6 := mo6 _ _ b3
   rw [eT]
   walk_at "st"
   refine vn (kc (u0 rfl)) ?_
   refine v0 rfl rfl (vn (kc (by rw [uE, uB, ui]; lia)) ?_)
   refine vaO ?_
   refine Yf (ds := (WB day ss).map D.str ++ [D.str ""]) (d := .str (whr day ss)) rfl ?_ ?_
   ·rw [hh]
    by_cases hd : hm.1 <= day
    ·rw [if_pos hd]; rfl
    ·rw [if_neg hd, hw0 (by lia)]; rfl
   refine wZ ?_
   refine ⟨_, rfl, ?_⟩
   rw [decide_eq_true rfl, if_neg (by decide)]
   walk_at "st"
   refine wbc ?_
   walk_at "st"
   have hle : (((WB day ss).map D.str).length : Int) = if decide (day ≥ hm.1) = true then 1 else 0 := by
    rw [uB, hh]
    by_cases hd : hm.1 <= day
    ·rw [if_pos hd, decide_eq_true (show day ≥ hm.1 from hd), if_pos rfl]; rfl
    ·rw [if_neg hd, decide_eq_false (show ¬ day ≥ hm.1 from hd), if_neg (by decide)]; rfl
   rw [decide_eq_true hle, if_neg (by decide)]
   walk_at "st"
   exact ⟨⟨_, _, _, rfl⟩, T6, ⟨o3, b6, bo3⟩, f6⟩
 ·rintro σ M' ⟨⟨v10, v11, v12, rfl⟩, _⟩
  exact k _ _ _ _
theorem jbl {Pt : Addr} (ds : List D) (M : HpD) (Q : KD) (h : jS Pt qW ds M Q) : Xaw Ym Zi Xk vh Yj Yi (wj Pt) Xg Wm ja (jq Pt) { nx := fun _ M' => Q .non M', rt := Q } (Xc ["_law_script", "_law_box_here", "_law_places_here", "_law_home_here", "_law_papers_here", "_law_prices_here", "_law_found", "_law_one", "_law_later", "_law_days_here", "_law_turn", "_law_day_here", "_law_held"] ds) M := by
 obtain ⟨ns, rfl, hl, hT, h⟩ := h
 unfold Xaw
 refine Za2 (m := 7) hl hT (by decide) (by decide) fun b nms hm ps pd pg M1 dr _ => ?_
 have pl := dr.pl
 have pr := dr.pr
 have lin := dr.lin
 have ch := lin.ch pd pg
 have tl := ch.len
 have up : (hmP hm :: jt pd pg (hmP hm) (ord ps)).Pairwise (fun a b => a.d < b.d) := yJ.mpr ⟨fun a ha => dr.hday a (ch.sub a ha), ch.up⟩
 obtain ⟨W, z, eW, hz, hW⟩ := wa2 (hmP hm) (jt pd pg (hmP hm) (ord ps))
 have sl := Zbh (hmP hm) (jt pd pg (hmP hm) (ord ps))
 obtain ⟨L, pp, sr, es, hc, hn⟩ := Ybd up
 obtain ⟨o, e1, b1⟩ := dr.bx
 walk_at "st"
 refine ⟨hm, ps, pd, pg, rfl, dr.T, lin, dr.hday, pr, fun M3 fa mo3 hfa hfb => ?_⟩
 have T3 := mo3 _ _ dr.T
 have e3 := mo3 _ _ e1
 have bf : fa ≠ b := fun z => by rw [z, e1] at hfa; cases hfa
 generalize eT : jn (stL (hmP hm :: jt pd pg (hmP hm) (ord ps))) = ss at *
 have ln : ss.length <= 300 := by lia
 walk_at "st"
 refine ⟨.ref fa, W, z, rfl, km (by rw [hfb, eW]), ?_, hz, hW, ?_⟩
 ·have := congrArg xy eW
  rw [uE] at this
  lia
 refine ⟨true, by unfold jw; rfl, ?_⟩
 rw [if_neg (by decide)]
 walk_at "st"
 refine Yf (wag (km hfb)) (d := Xi ⟨hm.1, L, pp⟩) (by rw [es, uf]; exact wR (j := 0) rfl) ?_
 walk_at "st"
 dsimp only
 rw [decide_eq_true rfl, if_neg (by decide)]
 refine qy ?_
 dsimp only
 refine Xbh hfb ln (by rw [es]; simp) hc hn fun v7 v8 => ?_
 walk_at "st"
 refine ⟨hm, ps, rfl, pl, fun ms _ ms0 ms1 => ?_⟩
 refine qB ?_
 refine ja6 T3 e3 b1 hfb dr.bP bf lin dr.hday pr ln eT es hc ms0 ms1 fun v10 v11 v12 M' => ?_
 walk_at "st"
 exact .inl (h _)
theorem us0 {P : List Value -> Prop} (h : P []) (us : List Value) (hl : us.length = 0) : P us := by
 cases us with
 | nil => exact h
 | cons => cases hl
theorem us1 {P : List Value -> Prop} (h : ∀ a0, P [a0]) (us : List Value) (hl : us.length = 1) : P us := by
 obtain ⟨a0, e⟩ : ∃ a0, us = [a0] := by
  match us, hl with
  | [a0], _ => exact ⟨_, rfl⟩
 subst e; exact h _
theorem us2 {P : List Value -> Prop} (h : ∀ a0 a1, P [a0, a1]) (us : List Value) (hl : us.length = 2) : P us := by
 obtain ⟨a0, a1, e⟩ : ∃ a0 a1, us = [a0, a1] := by
  match us, hl with
  | [a0, a1], _ => exact ⟨_, _, rfl⟩
 subst e; exact h _ _
theorem us3 {P : List Value -> Prop} (h : ∀ a0 a1 a2, P [a0, a1, a2]) (us : List Value) (hl : us.length = 3) : P us := by
 obtain ⟨a0, a1, a2, e⟩ : ∃ a0 a1 a2, us = [a0, a1, a2] := by
  match us, hl with
  | [a0, a1, a2], _ => exact ⟨_, _, _, rfl⟩
 subst e; exact h _ _ _
theorem us4 {P : List Value -> Prop} (h : ∀ a0 a1 a2 a3, P [a0, a1, a2, a3]) (us : List Value) (hl : us.length = 4) : P us := by
 obtain ⟨a0, a1, a2, a3, e⟩ : ∃ a0 a1 a2 a3, us = [a0, a1, a2, a3] := by
  match us, hl with
  | [a0, a1, a2, a3], _ => exact ⟨_, _, _, _, rfl⟩
 subst e; exact h _ _ _ _
noncomputable def top (i : Nat) : Stmt := PySem.Challenge.pw_vitrine_k13_whole_one_place_a_day.main.body.getD i (.Pass ⟨0, 0, 0, 0⟩)
noncomputable abbrev Zz : Stmt := top 26
noncomputable abbrev Yt : Stmt := top 28
noncomputable abbrev qw : Stmt := top 27
noncomputable abbrev qq : Stmt := top 29
noncomputable abbrev Wo : Stmt := top 30
noncomputable abbrev Wr : Stmt := top 33
noncomputable abbrev wy : Stmt := top 35
noncomputable abbrev Yw : Stmt := top 36
noncomputable abbrev Xw : Stmt := top 32
noncomputable abbrev Zt : Stmt := top 37
noncomputable abbrev qr : Stmt := top 38
noncomputable abbrev Zu : Stmt := top 39
noncomputable abbrev kr : Stmt := top 34
noncomputable abbrev qt : Stmt := top 8
noncomputable abbrev Yk : Stmt := top 10
noncomputable abbrev Xp : Stmt := top 9
noncomputable abbrev kF : Stmt := top 12
noncomputable abbrev Ww : Stmt := top 14
noncomputable abbrev ky : Stmt := top 13
noncomputable abbrev jo : Stmt := top 15
noncomputable abbrev jr : Stmt := top 16
noncomputable abbrev Yu : Stmt := top 17
noncomputable abbrev Wt : Stmt := top 20
noncomputable abbrev Xt : Stmt := top 11
noncomputable abbrev Zk : Stmt := top 21
noncomputable abbrev vG : Stmt := top 22
noncomputable abbrev XL : Stmt := top 23
noncomputable abbrev vt : Stmt := top 31
noncomputable abbrev wn : Stmt := top 40
noncomputable abbrev Zw : Stmt := top 41
noncomputable abbrev wK : Stmt := top 24
noncomputable abbrev XC : Stmt := top 42
noncomputable abbrev Zah : List Str := ["_law_script", "_law_seed", "_law_cell"]
noncomputable abbrev wV : List Str := ["_law_script"]
theorem sc__law_box : qe Zah wV (Wb Zz) := ⟨rfl, rfl, rfl, by decide +kernel, rfl, by decide +kernel, by decide +kernel⟩
noncomputable abbrev wX : List Str := ["_law_number", "_law_turn", "_law_one", "_law_two"]
noncomputable abbrev XM : List Str := ["_law_number", "_law_turn"]
theorem sc__law_mixed : qe wX XM (Wb Yt) := ⟨rfl, rfl, rfl, by decide +kernel, rfl, by decide +kernel, by decide +kernel⟩
noncomputable abbrev Z7 : List Str := ["_law_box_here", "_law_size", "_law_left", "_law_cell"]
noncomputable abbrev YQ : List Str := ["_law_box_here", "_law_size"]
theorem sc__law_take : qe Z7 YQ (Wb qw) := ⟨rfl, rfl, rfl, by decide +kernel, rfl, by decide +kernel, by decide +kernel⟩
noncomputable abbrev YR : List Str := []
noncomputable abbrev kG : List Str := []
theorem wae : qe YR kG (Wb qq) := ⟨rfl, rfl, rfl, by decide +kernel, rfl, by decide +kernel, by decide +kernel⟩
noncomputable abbrev qC : List Str := ["_law_box_here", "_law_size"]
noncomputable abbrev YN : List Str := ["_law_box_here"]
theorem sc__law_named : qe qC YN (Wb Wo) := ⟨rfl, rfl, rfl, by decide +kernel, rfl, by decide +kernel, by decide +kernel⟩
theorem X9 : vF ({ kind := .function, names := [((".0" : Str), NameKind.«local»), (("_law_k" : Str), NameKind.«local»), (("_law_letters" : Str), NameKind.globalImplicit), (("_law_take" : Str), NameKind.globalImplicit), (("_law_box_here" : Str), NameKind.free)], isGenerator := false, isCoroutine := false, more := [] } : Scope) (Wb Wo) qC ["_law_k"] ["_law_box_here", "_law_size"] = true := by decide +kernel
theorem qae : ((["_law_k"] : List Str) ++ (["_law_box_here", "_law_size"] : List Str)).Nodup := by decide +kernel
noncomputable abbrev jW : List Str := ["_law_box_here", "_law_found", "_law_k", "_law_name"]
noncomputable abbrev vI : List Str := ["_law_box_here"]
theorem sc__law_places : qe jW vI (Wb Wr) := ⟨rfl, rfl, rfl, by decide +kernel, rfl, by decide +kernel, by decide +kernel⟩
noncomputable abbrev kag : List Str := ["_law_box_here", "_law_turn"]
noncomputable abbrev ZU : List Str := ["_law_box_here"]
theorem sc__law_day : qe kag ZU (Wb wy) := ⟨rfl, rfl, rfl, by decide +kernel, rfl, by decide +kernel, by decide +kernel⟩
noncomputable abbrev X7 : List Str := ["_law_box_here", "_law_places_here"]
noncomputable abbrev XQ : List Str := ["_law_box_here", "_law_places_here"]
theorem Zax : qe X7 XQ (Wb Yw) := ⟨rfl, rfl, rfl, by decide +kernel, rfl, by decide +kernel, by decide +kernel⟩
noncomputable abbrev Y7 : List Str := ["_law_box_here", "_law_some", "_law_all_of", "_law_found", "_law_one"]
noncomputable abbrev kQ : List Str := ["_law_box_here", "_law_some", "_law_all_of"]
theorem sc__law_deal : qe Y7 kQ (Wb Xw) := ⟨rfl, rfl, rfl, by decide +kernel, rfl, by decide +kernel, by decide +kernel⟩
noncomputable abbrev XY : List Str := ["_law_box_here", "_law_grade_here"]
noncomputable abbrev YM : List Str := ["_law_box_here", "_law_grade_here"]
theorem Zav : qe XY YM (Wb Zt) := ⟨rfl, rfl, rfl, by decide +kernel, rfl, by decide +kernel, by decide +kernel⟩
noncomputable abbrev YW : List Str := ["_law_box_here", "_law_places_here", "_law_home_here", "_law_size", "_law_numbers", "_law_step", "_law_day_here", "_law_at", "_law_grade_here", "_law_found", "_law_number", "_law_here", "_law_there"]
noncomputable abbrev YJ : List Str := ["_law_box_here", "_law_places_here", "_law_home_here", "_law_size"]
theorem sc__law_papers : qe YW YJ (Wb qr) := ⟨rfl, rfl, rfl, by decide +kernel, rfl, by decide +kernel, by decide +kernel⟩
noncomputable abbrev Y1 : List Str := ["_law_box_here", "_law_few", "_law_most"]
noncomputable abbrev vL : List Str := ["_law_box_here", "_law_few", "_law_most"]
theorem War : qe Y1 vL (Wb Zu) := ⟨rfl, rfl, rfl, by decide +kernel, rfl, by decide +kernel, by decide +kernel⟩
noncomputable abbrev kW : List Str := ["_law_box_here", "_law_turn"]
noncomputable abbrev WJ : List Str := ["_law_box_here"]
theorem sc__law_prices : qe kW WJ (Wb kr) := ⟨rfl, rfl, rfl, by decide +kernel, rfl, by decide +kernel, by decide +kernel⟩
noncomputable abbrev vZ : List Str := ["home", "day", "place", "grade"]
noncomputable abbrev vM : List Str := ["home"]
theorem sc_home_paper : qe vZ vM (Wb qt) := ⟨rfl, rfl, rfl, by decide +kernel, rfl, by decide +kernel, by decide +kernel⟩
noncomputable abbrev Wu : List Str := ["home", "papers", "story", "paper", "known", "believed", "number"]
noncomputable abbrev XB : List Str := ["home", "papers", "story"]
theorem sc_believed_chain : qe Wu XB (Wb Yk) := ⟨rfl, rfl, rfl, by decide +kernel, rfl, by decide +kernel, by decide +kernel⟩
theorem vV : vF ({ kind := .function, names := [((".0" : Str), NameKind.«local»), (("paper" : Str), NameKind.«local»), (("NUMBER" : Str), NameKind.globalImplicit)], isGenerator := false, isCoroutine := false, more := [] } : Scope) (Wb Yk) Wu ["paper"] ["home", "papers", "story", ".paper", "known", "believed", "number"] = true := by decide +kernel
theorem vW : ((["paper"] : List Str) ++ (["home", "papers", "story", ".paper", "known", "believed", "number"] : List Str)).Nodup := by decide +kernel
noncomputable abbrev WW : List Str := ["home", "papers"]
noncomputable abbrev kJ : List Str := ["home", "papers"]
theorem jal : qe WW kJ (Wb Xp) := ⟨rfl, rfl, rfl, by decide +kernel, rfl, by decide +kernel, by decide +kernel⟩
theorem Z6 : qe ["paper"] ["paper"] ({ kind := .function, names := [(("paper" : Str), NameKind.«local»), (("DAY" : Str), NameKind.globalImplicit)], isGenerator := false, isCoroutine := false, more := [] } : Scope) := ⟨rfl, rfl, rfl, by decide +kernel, rfl, by decide +kernel, by decide +kernel⟩
noncomputable abbrev waD : List Str := ["first", "second"]
noncomputable abbrev jab : List Str := ["first", "second"]
theorem XaW : qe waD jab (Wb kF) := ⟨rfl, rfl, rfl, by decide +kernel, rfl, by decide +kernel, by decide +kernel⟩
noncomputable abbrev j7 : List Str := ["chain", "prices", "at", "later", "doubt", "gap", "between"]
noncomputable abbrev kP : List Str := ["chain", "prices", "at", "later"]
theorem sc_step_cost : qe j7 kP (Wb Ww) := ⟨rfl, rfl, rfl, by decide +kernel, rfl, by decide +kernel, by decide +kernel⟩
noncomputable abbrev jag : List Str := ["chain", "prices", "at", "doubt"]
noncomputable abbrev vU : List Str := ["chain", "prices", "at"]
theorem sc_end_cost : qe jag vU (Wb ky) := ⟨rfl, rfl, rfl, by decide +kernel, rfl, by decide +kernel, by decide +kernel⟩
noncomputable abbrev kE : List Str := ["chain", "prices", "worths", "at", "steps"]
noncomputable abbrev ZO : List Str := ["chain", "prices", "worths", "at"]
theorem sc_most_worth : qe kE ZO (Wb jo) := ⟨rfl, rfl, rfl, by decide +kernel, rfl, by decide +kernel, by decide +kernel⟩
theorem wab : vF ({ kind := .function, names := [((".0" : Str), NameKind.«local»), (("later" : Str), NameKind.«local»), (("step_cost" : Str), NameKind.globalImplicit), (("at" : Str), NameKind.free), (("chain" : Str), NameKind.free), (("prices" : Str), NameKind.free), (("worths" : Str), NameKind.free)], isGenerator := false, isCoroutine := false, more := [] } : Scope) (Wb jo) kE ["later"] ["chain", "prices", "worths", "at", "steps"] = true := by decide +kernel
theorem Wag : ((["later"] : List Str) ++ (["chain", "prices", "worths", "at", "steps"] : List Str)).Nodup := by decide +kernel
noncomputable abbrev XW : List Str := ["chain", "prices", "worths", "at"]
noncomputable abbrev qJ : List Str := ["chain", "prices"]
theorem sc_full_worths : qe XW qJ (Wb jr) := ⟨rfl, rfl, rfl, by decide +kernel, rfl, by decide +kernel, by decide +kernel⟩
noncomputable abbrev YZ : List Str := ["home", "papers", "prices", "chain", "worths", "story", "at", "later", "ended"]
noncomputable abbrev wM : List Str := ["home", "papers", "prices"]
theorem sc_told_story : qe YZ wM (Wb Yu) := ⟨rfl, rfl, rfl, by decide +kernel, rfl, by decide +kernel, by decide +kernel⟩
noncomputable abbrev jZ : List Str := ["home", "papers", "prices"]
noncomputable abbrev WN : List Str := ["home", "papers", "prices"]
theorem qas : qe jZ WN (Wb Wt) := ⟨rfl, rfl, rfl, by decide +kernel, rfl, by decide +kernel, by decide +kernel⟩
noncomputable abbrev ZY : List Str := ["chain"]
noncomputable abbrev ZN : List Str := ["chain"]
theorem jar : qe ZY ZN (Wb Xt) := ⟨rfl, rfl, rfl, by decide +kernel, rfl, by decide +kernel, by decide +kernel⟩
noncomputable abbrev Yv : List Str := ["first", "second", "day", "last", "known", "pieces"]
noncomputable abbrev jB : List Str := ["first", "second"]
theorem sc_pieces_between : qe Yv jB (Wb Zk) := ⟨rfl, rfl, rfl, by decide +kernel, rfl, by decide +kernel, by decide +kernel⟩
theorem jV : vF ({ kind := .function, names := [((".0" : Str), NameKind.«local»), (("piece" : Str), NameKind.«local»)], isGenerator := false, isCoroutine := false, more := [] } : Scope) (Wb Zk) Yv ["piece"] ["first", "second", "day", "last", "known", "pieces"] = true := by decide +kernel
theorem wW : ((["piece"] : List Str) ++ (["first", "second", "day", "last", "known", "pieces"] : List Str)).Nodup := by decide +kernel
noncomputable abbrev waF : List Str := ["pieces", "whole", "first", "last", "place"]
noncomputable abbrev kab : List Str := ["pieces"]
theorem sc_joined : qe waF kab (Wb vG) := ⟨rfl, rfl, rfl, by decide +kernel, rfl, by decide +kernel, by decide +kernel⟩
noncomputable abbrev kaJ : List Str := ["home", "papers", "prices", "chain", "pieces", "first", "second"]
noncomputable abbrev Zal : List Str := ["home", "papers", "prices"]
theorem sc_stays : qe kaJ Zal (Wb XL) := ⟨rfl, rfl, rfl, by decide +kernel, rfl, by decide +kernel, by decide +kernel⟩
noncomputable abbrev kY : List Str := ["_law_found"]
noncomputable abbrev qM : List Str := ["_law_found"]
theorem was : qe kY qM (Wb vt) := ⟨rfl, rfl, rfl, by decide +kernel, rfl, by decide +kernel, by decide +kernel⟩
noncomputable abbrev vJ : List Str := ["_law_found", "_law_at", "_law_row"]
noncomputable abbrev Wz : List Str := ["_law_found"]
theorem sc__law_spans_kind : qe vJ Wz (Wb wn) := ⟨rfl, rfl, rfl, by decide +kernel, rfl, by decide +kernel, by decide +kernel⟩
noncomputable abbrev X8 : List Str := ["_law_home_here", "_law_papers_here", "_law_found", "_law_paper"]
noncomputable abbrev WQ : List Str := ["_law_home_here", "_law_papers_here"]
theorem sc__law_days : qe X8 WQ (Wb Zw) := ⟨rfl, rfl, rfl, by decide +kernel, rfl, by decide +kernel, by decide +kernel⟩
noncomputable abbrev YaK : List Str := ["home", "papers", "prices", "day", "first", "last", "place"]
noncomputable abbrev Xah : List Str := ["home", "papers", "prices", "day"]
theorem sc_where : qe YaK Xah (Wb wK) := ⟨rfl, rfl, rfl, by decide +kernel, rfl, by decide +kernel, by decide +kernel⟩
noncomputable abbrev Waw : List Str := ["_law_script", "_law_box_here", "_law_places_here", "_law_home_here", "_law_papers_here", "_law_prices_here", "_law_found", "_law_one", "_law_later", "_law_days_here", "_law_turn", "_law_day_here", "_law_held"]
noncomputable abbrev ka8 : List Str := ["_law_script"]
theorem sc_law : qe Waw ka8 (Wb XC) := ⟨rfl, rfl, rfl, by decide +kernel, rfl, by decide +kernel, by decide +kernel⟩
theorem ZaS : vF ({ kind := .function, names := [((".0" : Str), NameKind.«local»), (("_law_first" : Str), NameKind.«local»), (("_law_last" : Str), NameKind.«local»), (("_law_place" : Str), NameKind.«local»), (("_law_day_here" : Str), NameKind.free)], isGenerator := false, isCoroutine := false, more := [] } : Scope) (Wb XC) Waw ["_law_first", "_law_last", "_law_place"] ["_law_script", "_law_box_here", "_law_places_here", "_law_home_here", "_law_papers_here", "_law_prices_here", "_law_found", "_law_one", "_law_later", "_law_days_here", "_law_turn", "_law_day_here", "_law_held"] = true := by decide +kernel
theorem j9 : ((["_law_first", "_law_last", "_law_place"] : List Str) ++ (["_law_script", "_law_box_here", "_law_places_here", "_law_home_here", "_law_papers_here", "_law_prices_here", "_law_found", "_law_one", "_law_later", "_law_days_here", "_law_turn", "_law_day_here", "_law_held"] : List Str)).Nodup := by decide +kernel
theorem kbc : bootBuiltins "bool" = some (.type "bool") := by decide +kernel
theorem jaY : bootBuiltins "int" = some (.type "int") := by decide +kernel
theorem Wv : bootBuiltins "isinstance" = some (.builtin "isinstance") := by decide +kernel
theorem Wp : bootBuiltins "len" = some (.builtin "len") := by decide +kernel
theorem qaJ : bootBuiltins "list" = some (.type "list") := by decide +kernel
theorem Yax : bootBuiltins "min" = some (.builtin "min") := by decide +kernel
theorem Wbo : bootBuiltins "str" = some (.type "str") := by decide +kernel
theorem Ya6 : bootBuiltins "tuple" = some (.type "tuple") := by decide +kernel
section
variable {P : Program} {w : World} {K : uC} {mg : Str -> Option Value} {base : Heap}
theorem qaH {f : Addr} {fd : FuncData} {sp : SpD} (F : Fun K "_law_box" "_law_box" Zz f fd) (g_list : mg "list" = none) (len : ∀ ds M Q, sp ds M Q -> ds.length = 1)
  (read : ∀ ds M Q, sp ds M Q -> ZK { nx := fun _ M' => Q .non M', rt := Q } (Xc Zah ds) M) : qh P w K mg base CX0 1 f fd wV (jf K sp) :=
 F.okD (t := ZK) sc__law_box len (fun cdv A outer s H E hr => (jb (vd 1 sc__law_box.nd rfl (uA rfl) ka)
 (jb (vR (vbd (XV (Xa 0 rfl (uA rfl)) YV (jU ka))) (je 2 sc__law_box.nd rfl (uA rfl)) (qc (vd 1 sc__law_box.nd rfl (uA rfl) (Wd XD (Wd Yh (Wd Yh (Wd qF (Xa 1 rfl (uA rfl)) ka) (Xa 2 rfl (uA rfl))) ka) ka))))
 (qc (Ze (Zn (Wa (qaq wbf rfl g_list qaJ (Wa (XV (Xa 0 rfl (uA rfl)) YV (jU ka)) Yb)) (Wa ka (Wa ka (Wa ka (Wa (Xa 1 rfl (uA rfl)) Yb))))))))))) read
theorem vau {f : Addr} {fd : FuncData} {sp : SpD} (F : Fun K "_law_mixed" "_law_mixed" Yt f fd) (len : ∀ ds M Q, sp ds M Q -> ds.length = 2)
  (read : ∀ ds M Q, sp ds M Q -> wE { nx := fun _ M' => Q .non M', rt := Q } (Xc wX ds) M) : qh P w K mg base CX0 1 f fd XM (jf K sp) :=
 F.okD (t := wE) sc__law_mixed len (fun cdv A outer s H E hr => (jb (vd 2 sc__law_mixed.nd rfl (uA rfl) (Wd XD (Wd Yh (Wd Yh (Wd qF (Xa 0 rfl (uA rfl)) ka) (Wd qF (Xa 1 rfl (uA rfl)) ka)) ka) ka))
 (jb (vd 3 sc__law_mixed.nd rfl (uA rfl) (Wd XD (Wd Yh (Wd Yh (Wd qF (Xa 2 rfl (uA rfl)) (Wd Yh (Wd XD (Xa 2 rfl (uA rfl)) ka) ka)) (Wd qF (Xa 1 rfl (uA rfl)) ka)) (Wd XD (Xa 0 rfl (uA rfl)) ka)) ka))
 (qc (Ze (Wd Wah (Xa 3 rfl (uA rfl)) ka)))))) read
theorem Zay {f : Addr} {fd : FuncData} {ki : SpD} {sp : SpD} (F : Fun K "_law_take" "_law_take" qw f fd) (h__law_mixed : Cal P w K mg base "_law_mixed" 1 ki) (g_len : mg "len" = none) (len : ∀ ds M Q, sp ds M Q -> ds.length = 2)
  (read : ∀ ds M Q, sp ds M Q -> ZH ki { nx := fun _ M' => Q .non M', rt := Q } (Xc Z7 ds) M) : qh P w K mg base CX0 2 f fd YQ (jf K sp) :=
 F.okD (t := ZH ki) sc__law_take len (fun cdv A outer s H E hr => (jb (qD (Wd Yh (Zd (Xa 0 rfl (uA rfl)) ka) ka) (XR (Xa 0 rfl (uA rfl)) ka))
 (jb (Xl (vf jav (Zd (Xa 0 rfl (uA rfl)) ka) ka) (jb (vd 2 sc__law_take.nd rfl (uA rfl) (Zd (Xa 0 rfl (uA rfl)) ka))
 (jb (qD (Wd Wah (Xa 2 rfl (uA rfl)) (Xa 1 rfl (uA rfl))) (XR (Xa 0 rfl (uA rfl)) ka))
 (qc (Ze (Wd XD (Xa 2 rfl (uA rfl)) (Xa 1 rfl (uA rfl))))))) ji)
 (jb (Xl (vf qa9 (Zd (Xa 0 rfl (uA rfl)) ka) (Zg vp rfl g_len Wp (Wa (Zd (Xa 0 rfl (uA rfl)) ka) Yb))) (qc (Ze (Wd XD (Yc h__law_mixed (hr.mono (by decide)) rfl (Wa (Zd (Xa 0 rfl (uA rfl)) ka) (Wa (Zd (Xa 0 rfl (uA rfl)) ka) Yb))) (Xa 1 rfl (uA rfl))))) ji)
 (jb (vd 3 sc__law_take.nd rfl (uA rfl) (Zd (Zd (Xa 0 rfl (uA rfl)) ka) (Zd (Xa 0 rfl (uA rfl)) ka)))
 (jb (qD (Wd Yh (Zd (Xa 0 rfl (uA rfl)) ka) ka) (XR (Xa 0 rfl (uA rfl)) ka))
 (jb (Xl (vf ja9 (Xa 3 rfl (uA rfl)) (Wd WaZ ka ka)) (qc (Ze (Wd XD (Yc h__law_mixed (hr.mono (by decide)) rfl (Wa (Xa 3 rfl (uA rfl)) (Wa (Zd (Xa 0 rfl (uA rfl)) ka) Yb))) (Xa 1 rfl (uA rfl))))) ji)
 (jb (qD (Wd Wah (Xa 3 rfl (uA rfl)) (Xa 1 rfl (uA rfl))) (XR (Xa 0 rfl (uA rfl)) ka))
 (qc (Ze (Wd XD (Xa 3 rfl (uA rfl)) (Xa 1 rfl (uA rfl))))))))))))) read
theorem kac {f : Addr} {fd : FuncData} {sp : SpD} (F : Fun K "_law_letters" "_law_letters" qq f fd) (len : ∀ ds M Q, sp ds M Q -> ds.length = 0)
  (read : ∀ ds M Q, sp ds M Q -> Xy { nx := fun _ M' => Q .non M', rt := Q } (Xc YR ds) M) : qh P w K mg base CX0 1 f fd kG (jf K sp) :=
 F.okD (t := Xy) wae len (fun cdv A outer s H E hr => (qc (Ze YaA))) read
theorem kat {f : Addr} {fd : FuncData} {ja : SpD} {Wi : SpD} {sp : SpD} (F : Fun K "_law_named" "_law_named" Wo f fd) (h__law_take : Cal P w K mg base "_law_take" 2 ja) (h__law_letters : Cal P w K mg base "_law_letters" 1 Wi) (g_range : mg "range" = none) (len : ∀ ds M Q, sp ds M Q -> ds.length = 1)
  (read : ∀ ds M Q, sp ds M Q -> XE ja Wi { nx := fun _ M' => Q .non M', rt := Q } (Xc qC ds) M) : qh P w K mg base CX0 3 f fd YN (jf K sp) :=
 F.okD (t := XE ja Wi) sc__law_named len (fun cdv A outer s H E hr => (jb (vd 1 sc__law_named.nd rfl (uA rfl) (Wd Yh ka (Yc h__law_take (hr.mono (by decide)) rfl (Wa (Xa 0 rfl (x3 (uA rfl))) (Wa ka Yb)))))
 (qc (Ze (Zbg YaA (jbf (ts := ["_law_k"]) (rest := ["_law_box_here", "_law_size"]) (kC (out := (Wb Wo)) (N := qC) X9) (Z3 rfl g_range (Wa (Xa 1 rfl (uA rfl)) Yb)) (fun _ _ _ => (je 0 qae rfl (uA rfl))) (fun _ _ _ => vax) (fun _ _ _ => (jbm (qa5 h__law_letters (hr.mono (by decide)) rfl ) (Yc h__law_take (hr.mono (by decide)) rfl (Wa (Xa 1 rfl (x3 (uA rfl))) (Wa ka Yb))))))))))) read
theorem kak {f : Addr} {fd : FuncData} {ja : SpD} {Yl : SpD} {sp : SpD} (F : Fun K "_law_places" "_law_places" Wr f fd) (h__law_take : Cal P w K mg base "_law_take" 2 ja) (h__law_named : Cal P w K mg base "_law_named" 3 Yl) (g_range : mg "range" = none) (len : ∀ ds M Q, sp ds M Q -> ds.length = 1)
  (read : ∀ ds M Q, sp ds M Q -> WA ja Yl { nx := fun _ M' => Q .non M', rt := Q } (Xc jW ds) M) : qh P w K mg base CX0 4 f fd vI (jf K sp) :=
 F.okD (t := WA ja Yl) sc__law_places len (fun cdv A outer s H E hr => (jb (vd 1 sc__law_places.nd rfl (uA rfl) (Zn Yb))
 (jb (vR (Z3 rfl g_range (Wa (Zd (Zn (Wa ka (Wa ka (Wa ka (Wa ka (Wa ka (Wa ka (Wa ka (Wa ka Yb))))))))) (Yc h__law_take (hr.mono (by decide)) rfl (Wa (Xa 0 rfl (uA rfl)) (Wa ka Yb)))) Yb)) (je 2 sc__law_places.nd rfl (uA rfl)) (jb (vd 3 sc__law_places.nd rfl (uA rfl) (Yc h__law_named (hr.mono (by decide)) rfl (Wa (Xa 0 rfl (uA rfl)) Yb)))
 (qc (Xl (vf va0 (Xa 3 rfl (uA rfl)) (Xa 1 rfl (uA rfl))) (qc (ZC (jR (Xa 1 rfl (uA rfl)) (Xa 3 rfl (uA rfl))))) ji))))
 (qc (Ze (Xa 1 rfl (uA rfl))))))) read
theorem YaG {f : Addr} {fd : FuncData} {ja : SpD} {sp : SpD} (F : Fun K "_law_day" "_law_day" wy f fd) (h__law_take : Cal P w K mg base "_law_take" 2 ja) (len : ∀ ds M Q, sp ds M Q -> ds.length = 1)
  (read : ∀ ds M Q, sp ds M Q -> vK ja { nx := fun _ M' => Q .non M', rt := Q } (Xc kag ds) M) : qh P w K mg base CX0 3 f fd ZU (jf K sp) :=
 F.okD (t := vK ja) sc__law_day len (fun cdv A outer s H E hr => (jb (vd 1 sc__law_day.nd rfl (uA rfl) (Yc h__law_take (hr.mono (by decide)) rfl (Wa (Xa 0 rfl (uA rfl)) (Wa ka Yb))))
 (jb (Xl (vf (wv hr) (Xa 1 rfl (uA rfl)) ka) (qc (Ze ka)) ji)
 (jb (Xl (vf (wv hr) (Xa 1 rfl (uA rfl)) ka) (qc (Ze (Wd qz (Wd qz (Wd WaZ ka ka) ka) (Yc h__law_take (hr.mono (by decide)) rfl (Wa (Xa 0 rfl (uA rfl)) (Wa ka Yb)))))) ji)
 (jb (Xl (vf (wv hr) (Xa 1 rfl (uA rfl)) ka) (qc (Ze (Wd qF (Yc h__law_take (hr.mono (by decide)) rfl (Wa (Xa 0 rfl (uA rfl)) (Wa ka Yb))) ka))) ji)
 (qc (Ze (Yc h__law_take (hr.mono (by decide)) rfl (Wa (Xa 0 rfl (uA rfl)) (Wa ka Yb)))))))))) read
theorem Yay {f : Addr} {fd : FuncData} {ja : SpD} {Xn : SpD} {sp : SpD} (F : Fun K "_law_home" "_law_home" Yw f fd) (h__law_take : Cal P w K mg base "_law_take" 2 ja) (h__law_day : Cal P w K mg base "_law_day" 3 Xn) (g_len : mg "len" = none) (len : ∀ ds M Q, sp ds M Q -> ds.length = 2)
  (read : ∀ ds M Q, sp ds M Q -> wH ja Xn { nx := fun _ M' => Q .non M', rt := Q } (Xc X7 ds) M) : qh P w K mg base CX0 4 f fd XQ (jf K sp) :=
 F.okD (t := wH ja Xn) Zax len (fun cdv A outer s H E hr => (qc (Ze (jz (Wa (Yc h__law_day (hr.mono (by decide)) rfl (Wa (Xa 0 rfl (uA rfl)) Yb)) (Wa (Zd (Xa 1 rfl (uA rfl)) (Yc h__law_take (hr.mono (by decide)) rfl (Wa (Xa 0 rfl (uA rfl)) (Wa (Zg vp rfl g_len Wp (Wa (Xa 1 rfl (uA rfl)) Yb)) Yb)))) (Wa (Yc h__law_take (hr.mono (by decide)) rfl (Wa (Xa 0 rfl (uA rfl)) (Wa ka Yb))) Yb))))))) read
theorem vaD {f : Addr} {fd : FuncData} {ja : SpD} {sp : SpD} (F : Fun K "_law_deal" "_law_deal" Xw f fd) (h__law_take : Cal P w K mg base "_law_take" 2 ja) (g_len : mg "len" = none) (len : ∀ ds M Q, sp ds M Q -> ds.length = 3)
  (read : ∀ ds M Q, sp ds M Q -> XH ja { nx := fun _ M' => Q .non M', rt := Q } (Xc Y7 ds) M) : qh P w K mg base CX0 3 f fd kQ (jf K sp) :=
 F.okD (t := XH ja) sc__law_deal len (fun cdv A outer s H E hr => (jb (vd 3 sc__law_deal.nd rfl (uA rfl) (Zn Yb))
 (jb (vB (Ys (Xa 1 rfl (uA rfl))) (je 4 sc__law_deal.nd rfl (uA rfl)) (qc (Xl (YB (YH (jv (Xa 2 rfl (uA rfl))) (kD (vf jav (Yc h__law_take (hr.mono (by decide)) rfl (Wa (Xa 0 rfl (uA rfl)) (Wa ka Yb))) ka)))) (qc (ZC (qbl (Xa 3 rfl (uA rfl)) (Yc h__law_take (hr.mono (by decide)) rfl (Wa (Xa 0 rfl (uA rfl)) (Wa (Wd Yh (Zg vp rfl g_len Wp (Wa (Xa 3 rfl (uA rfl)) Yb)) ka) Yb))) (Xa 4 rfl (uA rfl))))) ji)))
 (qc (Ze (Xa 3 rfl (uA rfl))))))) read
theorem Xas {f : Addr} {fd : FuncData} {ja : SpD} {sp : SpD} (F : Fun K "_law_grade" "_law_grade" Zt f fd) (h__law_take : Cal P w K mg base "_law_take" 2 ja) (g_min : mg "min" = none) (len : ∀ ds M Q, sp ds M Q -> ds.length = 2)
  (read : ∀ ds M Q, sp ds M Q -> jF ja { nx := fun _ M' => Q .non M', rt := Q } (Xc XY ds) M) : qh P w K mg base CX0 3 f fd YM (jf K sp) :=
 F.okD (t := jF ja) Zav len (fun cdv A outer s H E hr => (qc (Ze (Zd (Zn (Wa (Xa 1 rfl (uA rfl)) (Wa (Xa 1 rfl (uA rfl)) (Wa (Zg jaI rfl g_min Yax (Wa ka (Wa (Wd Yh (Xa 1 rfl (uA rfl)) (Yc h__law_take (hr.mono (by decide)) rfl (Wa (Xa 0 rfl (uA rfl)) (Wa ka Yb)))) Yb))) (Wa (Yc h__law_take (hr.mono (by decide)) rfl (Wa (Xa 0 rfl (uA rfl)) (Wa ka Yb))) Yb))))) (Yc h__law_take (hr.mono (by decide)) rfl (Wa (Xa 0 rfl (uA rfl)) (Wa ka Yb))))))) read
theorem kai {f : Addr} {fd : FuncData} {Wk : SpD} {ja : SpD} {kh : SpD} {sp : SpD} (F : Fun K "_law_papers" "_law_papers" qr f fd) (h__law_deal : Cal P w K mg base "_law_deal" 3 Wk) (h__law_take : Cal P w K mg base "_law_take" 2 ja) (h__law_grade : Cal P w K mg base "_law_grade" 3 kh) (g_len : mg "len" = none) (g_list : mg "list" = none) (g_range : mg "range" = none) (len : ∀ ds M Q, sp ds M Q -> ds.length = 4)
  (read : ∀ ds M Q, sp ds M Q -> YA Wk ja kh { nx := fun _ M' => Q .non M', rt := Q } (Xc YW ds) M) : qh P w K mg base CX0 4 f fd YJ (jf K sp) :=
 F.okD (t := YA Wk ja kh) sc__law_papers len (fun cdv A outer s H E hr => (jb (vd 4 sc__law_papers.nd rfl (uA rfl) (Yc h__law_deal (hr.mono (by decide)) rfl (Wa (Xa 0 rfl (uA rfl)) (Wa (XaZ rfl g_list rfl g_range (Wa ka (Wa (Wd Yh (Xa 3 rfl (uA rfl)) ka) Yb))) (Wa ZA Yb)))))
 (jb (vd 5 sc__law_papers.nd rfl (uA rfl) (Zd (Zn (Wa ka (Wa ka (Wa ka (Wa ka Yb))))) (Yc h__law_take (hr.mono (by decide)) rfl (Wa (Xa 0 rfl (uA rfl)) (Wa ka Yb)))))
 (jb (qD (Xa 2 rfl (uA rfl)) (kI (Wj (je 6 sc__law_papers.nd rfl (uA rfl)) (Wj (je 7 sc__law_papers.nd rfl (uA rfl)) (Wj (je 8 sc__law_papers.nd rfl (uA rfl)) jI)))))
 (jb (vd 9 sc__law_papers.nd rfl (uA rfl) (Zn Yb))
 (jb (vB (Ys (Xa 4 rfl (uA rfl))) (je 10 sc__law_papers.nd rfl (uA rfl)) (jb (vd 6 sc__law_papers.nd rfl (uA rfl) (Wd Yh (Xa 6 rfl (uA rfl)) (Zd (Zn (Wa ka (Wa ka (Wa ka (Wa (Wd Yh ka (Yc h__law_take (hr.mono (by decide)) rfl (Wa (Xa 0 rfl (uA rfl)) (Wa ka Yb)))) (Wa (Wd Yh ka (Yc h__law_take (hr.mono (by decide)) rfl (Wa (Xa 0 rfl (uA rfl)) (Wa ka Yb)))) Yb)))))) (Yc h__law_take (hr.mono (by decide)) rfl (Wa (Xa 0 rfl (uA rfl)) (Wa ka Yb))))))
 (jb (vd 11 sc__law_papers.nd rfl (uA rfl) (Xa 7 rfl (uA rfl)))
 (jb (Xl (vf (wv hr) (Yc h__law_take (hr.mono (by decide)) rfl (Wa (Xa 0 rfl (uA rfl)) (Wa ka Yb))) ka) (qc (vd 11 sc__law_papers.nd rfl (uA rfl) (Zd (Xa 1 rfl (uA rfl)) (Yc h__law_take (hr.mono (by decide)) rfl (Wa (Xa 0 rfl (uA rfl)) (Wa (Zg vp rfl g_len Wp (Wa (Xa 1 rfl (uA rfl)) Yb)) Yb)))))) ji)
 (jb (vd 12 sc__law_papers.nd rfl (uA rfl) (Xa 11 rfl (uA rfl)))
 (jb (Xl (vf jav (Yc h__law_take (hr.mono (by decide)) rfl (Wa (Xa 0 rfl (uA rfl)) (Wa ka Yb))) ka) (qc (vd 12 sc__law_papers.nd rfl (uA rfl) (Zd (Xa 1 rfl (uA rfl)) (Yc h__law_take (hr.mono (by decide)) rfl (Wa (Xa 0 rfl (uA rfl)) (Wa (Zg vp rfl g_len Wp (Wa (Xa 1 rfl (uA rfl)) Yb)) Yb)))))) ji)
 (jb (vd 8 sc__law_papers.nd rfl (uA rfl) (Yc h__law_grade (hr.mono (by decide)) rfl (Wa (Xa 0 rfl (uA rfl)) (Wa (Xa 8 rfl (uA rfl)) Yb))))
 (jb (ZC (jR (Xa 9 rfl (uA rfl)) (jz (Wa (Wd qF (Xa 10 rfl (uA rfl)) (Xa 5 rfl (uA rfl))) (Wa (Xa 6 rfl (uA rfl)) (Wa (Xa 11 rfl (uA rfl)) (Wa (Xa 12 rfl (uA rfl)) (Wa (Xa 8 rfl (uA rfl)) Yb))))))))
 (qc (Xl (vf jav (Yc h__law_take (hr.mono (by decide)) rfl (Wa (Xa 0 rfl (uA rfl)) (Wa ka Yb))) ka) (qc (vd 7 sc__law_papers.nd rfl (uA rfl) (Xa 12 rfl (uA rfl)))) ji))))))))))
 (qc (Ze (Yc h__law_deal (hr.mono (by decide)) rfl (Wa (Xa 0 rfl (uA rfl)) (Wa (Xa 9 rfl (uA rfl)) (Wa ZA Yb)))))))))))) read
theorem Wat {f : Addr} {fd : FuncData} {ja : SpD} {sp : SpD} (F : Fun K "_law_count" "_law_count" Zu f fd) (h__law_take : Cal P w K mg base "_law_take" 2 ja) (len : ∀ ds M Q, sp ds M Q -> ds.length = 3)
  (read : ∀ ds M Q, sp ds M Q -> jC ja { nx := fun _ M' => Q .non M', rt := Q } (Xc Y1 ds) M) : qh P w K mg base CX0 3 f fd vL (jf K sp) :=
 F.okD (t := jC ja) War len (fun cdv A outer s H E hr => (jb (Xl (vf (wv hr) (Yc h__law_take (hr.mono (by decide)) rfl (Wa (Xa 0 rfl (uA rfl)) (Wa ka Yb))) ka) (qc (Ze (Yc h__law_take (hr.mono (by decide)) rfl (Wa (Xa 0 rfl (uA rfl)) (Wa (Wd Yh (Xa 2 rfl (uA rfl)) ka) Yb))))) ji)
 (qc (Ze (Yc h__law_take (hr.mono (by decide)) rfl (Wa (Xa 0 rfl (uA rfl)) (Wa (Wd Yh (Xa 1 rfl (uA rfl)) ka) Yb))))))) read
theorem Yal {f : Addr} {fd : FuncData} {ja : SpD} {sp : SpD} (F : Fun K "_law_prices" "_law_prices" kr f fd) (h__law_take : Cal P w K mg base "_law_take" 2 ja) (len : ∀ ds M Q, sp ds M Q -> ds.length = 1)
  (read : ∀ ds M Q, sp ds M Q -> jA ja { nx := fun _ M' => Q .non M', rt := Q } (Xc kW ds) M) : qh P w K mg base CX0 3 f fd WJ (jf K sp) :=
 F.okD (t := jA ja) sc__law_prices len (fun cdv A outer s H E hr => (jb (vd 1 sc__law_prices.nd rfl (uA rfl) (Yc h__law_take (hr.mono (by decide)) rfl (Wa (Xa 0 rfl (uA rfl)) (Wa ka Yb))))
 (jb (Xl (vf (wv hr) (Xa 1 rfl (uA rfl)) ka) (qc (Ze (jz (Wa ka (Wa ka Yb))))) ji)
 (qc (Ze (jz (Wa (Wd Yh ka (Yc h__law_take (hr.mono (by decide)) rfl (Wa (Xa 0 rfl (uA rfl)) (Wa ka Yb)))) (Wa (Wd Yh ka (Yc h__law_take (hr.mono (by decide)) rfl (Wa (Xa 0 rfl (uA rfl)) (Wa ka Yb)))) Yb)))))))) read
theorem var {f : Addr} {fd : FuncData} {sp : SpD} (F : Fun K "home_paper" "home_paper" qt f fd) (len : ∀ ds M Q, sp ds M Q -> ds.length = 1)
  (read : ∀ ds M Q, sp ds M Q -> YC { nx := fun _ M' => Q .non M', rt := Q } (Xc vZ ds) M) : qh P w K mg base CX0 1 f fd vM (jf K sp) :=
 F.okD (t := YC) sc_home_paper len (fun cdv A outer s H E hr => (jb (qD (Xa 0 rfl (uA rfl)) (kI (Wj (je 1 sc_home_paper.nd rfl (uA rfl)) (Wj (je 2 sc_home_paper.nd rfl (uA rfl)) (Wj (je 3 sc_home_paper.nd rfl (uA rfl)) jI)))))
 (qc (Ze (jz (Wa ka (Wa (Xa 1 rfl (uA rfl)) (Wa (Xa 2 rfl (uA rfl)) (Wa (Xa 2 rfl (uA rfl)) (Wa (Xa 3 rfl (uA rfl)) Yb)))))))))) read
theorem W6 {f : Addr} {fd : FuncData} {tk_DAY : Tok} {tk_NUMBER : Tok} {Zf : SpD} {sp : SpD} (F : Fun K "believed_chain" "believed_chain" Yk f fd) (h_home_paper : Cal P w K mg base "home_paper" 1 Zf) (g_DAY : mg "DAY" = some (.int (1) tk_DAY)) (g_NUMBER : mg "NUMBER" = some (.int (0) tk_NUMBER)) (len : ∀ ds M Q, sp ds M Q -> ds.length = 3)
  (read : ∀ ds M Q, sp ds M Q -> Zv Zf { nx := fun _ M' => Q .non M', rt := Q } (Xc Wu ds) M) : qh P w K mg base CX0 2 f fd XB (jf K sp) :=
 F.okD (t := Zv Zf) sc_believed_chain len (fun cdv A outer s H E hr => (jb (Wa0 4 (ts := ["paper"]) (rest := ["home", "papers", "story", ".paper", "known", "believed", "number"]) (kC (out := (Wb Yk)) (N := Wu) vV) (Ys (Xa 1 rfl (uA rfl))) (fun _ _ _ => (je 0 vW rfl (uA rfl))) (fun _ _ _ => vax) (fun _ _ _ => (Zd (Xa 0 rfl (uA rfl)) (Yp rfl g_NUMBER))) (fun _ _ _ => (Xa 0 rfl (uA rfl))) sc_believed_chain.nd rfl (uA rfl))
 (jb (vd 5 sc_believed_chain.nd rfl (uA rfl) (Zn Yb))
 (jb (vB (Ys (Xa 2 rfl (uA rfl))) (je 6 sc_believed_chain.nd rfl (uA rfl)) (jb (Xl (qaU hr (Xa 6 rfl (uA rfl)) (Xa 4 rfl (uA rfl))) (qc WaE) ji)
 (jb (vd 3 sc_believed_chain.nd rfl (uA rfl) (Zbd hr (Xa 4 rfl (uA rfl)) (Xa 6 rfl (uA rfl))))
 (jb (Xl (YB (ZR (jv (Xa 5 rfl (uA rfl))) (YL (vf Y3 (Zd (Xa 3 rfl (uA rfl)) (Yp rfl g_DAY)) (Zd (Zd (Xa 5 rfl (uA rfl)) (XS ka)) (Yp rfl g_DAY)))))) (qc WaE) ji)
 (qc (ZC (jR (Xa 5 rfl (uA rfl)) (Xa 3 rfl (uA rfl)))))))))
 (qc (Ze (Wd qY (Zn (Wa (Yc h_home_paper (hr.mono (by decide)) rfl (Wa (Xa 0 rfl (uA rfl)) Yb)) Yb)) (Xa 5 rfl (uA rfl))))))))) read
theorem Xaj {f : Addr} {fd : FuncData} {c Pt : Addr} {tk_DAY : Tok} {Zf : SpD} {sp : SpD} (F : FunC K "whole_chain" "whole_chain" Xp f fd (.ref c)) (hC : PySem.W.CodeHd base c Pt) (hbm : kO mg base) (h_home_paper : Cal P w K mg base "home_paper" 1 Zf) (g_DAY : mg "DAY" = some (.int (1) tk_DAY)) (g_sorted : mg "sorted" = none) (len : ∀ ds M Q, sp ds M Q -> ds.length = 2)
  (read : ∀ ds M Q, sp ds M Q -> XA Pt Zf { nx := fun _ M' => Q .non M', rt := Q } (Xc WW ds) M) : qh P w K mg base CX0 3 f fd kJ (jf K sp) :=
 F.okD (t := XA Pt Zf) jal len (fun A outer s H E hr => (qc (Ze (Wd qY (Zn (Wa (Yc h_home_paper (hr.mono (by decide)) rfl (Wa (Xa 0 rfl (uA rfl)) Yb)) Yb)) (qaP (k := 0) (hr.mono (by decide)) rfl g_sorted (Xa 1 rfl (uA rfl)) rfl rfl hC hbm Z6 (fun _ _ _ h => h.1) (fun f c' A outer s H E hr => (Zd (Xa 0 rfl (uA rfl)) (Yp rfl g_DAY))) (fun _ _ _ h => h.2) (fun _ _ _ => us1 fun _ => rfl)))))) read
theorem jaR {f : Addr} {fd : FuncData} {tk_HERE : Tok} {tk_THERE : Tok} {sp : SpD} (F : Fun K "is_gap" "is_gap" kF f fd) (g_HERE : mg "HERE" = some (.int (2) tk_HERE)) (g_THERE : mg "THERE" = some (.int (3) tk_THERE)) (len : ∀ ds M Q, sp ds M Q -> ds.length = 2)
  (read : ∀ ds M Q, sp ds M Q -> jT { nx := fun _ M' => Q .non M', rt := Q } (Xc waD ds) M) : qh P w K mg base CX0 1 f fd jab (jf K sp) :=
 F.okD (t := jT) XaW len (fun cdv A outer s H E hr => (qc (Ze (WY (jL hr) (Zd (Xa 0 rfl (uA rfl)) (Yp rfl g_THERE)) (Zd (Xa 1 rfl (uA rfl)) (Yp rfl g_HERE)))))) read
theorem YaC {f : Addr} {fd : FuncData} {qi : SpD} {sp : SpD} (F : Fun K "step_cost" "step_cost" Ww f fd) (h_is_gap : Cal P w K mg base "is_gap" 1 qi) (len : ∀ ds M Q, sp ds M Q -> ds.length = 4)
  (read : ∀ ds M Q, sp ds M Q -> jH qi { nx := fun _ M' => Q .non M', rt := Q } (Xc j7 ds) M) : qh P w K mg base CX0 2 f fd kP (jf K sp) :=
 F.okD (t := jH qi) sc_step_cost len (fun cdv A outer s H E hr => (jb (qD (Xa 1 rfl (uA rfl)) (kI (Wj (je 4 sc_step_cost.nd rfl (uA rfl)) (Wj (je 5 sc_step_cost.nd rfl (uA rfl)) jI))))
 (jb (vd 6 sc_step_cost.nd rfl (uA rfl) (Wd qF (Xa 4 rfl (uA rfl)) (Wd qz (Wd qz (Xa 3 rfl (uA rfl)) (Xa 2 rfl (uA rfl))) ka)))
 (jb (Xl (jv (Yc h_is_gap (hr.mono (by decide)) rfl (Wa (Zd (Xa 0 rfl (uA rfl)) (Xa 2 rfl (uA rfl))) (Wa (Zd (Xa 0 rfl (uA rfl)) (Xa 3 rfl (uA rfl))) Yb)))) (qc (Ze (Wd Yh (Xa 6 rfl (uA rfl)) (Xa 5 rfl (uA rfl))))) ji)
 (qc (Ze (Xa 6 rfl (uA rfl)))))))) read
theorem YaH {f : Addr} {fd : FuncData} {sp : SpD} (F : Fun K "end_cost" "end_cost" ky f fd) (g_len : mg "len" = none) (len : ∀ ds M Q, sp ds M Q -> ds.length = 3)
  (read : ∀ ds M Q, sp ds M Q -> qK { nx := fun _ M' => Q .non M', rt := Q } (Xc jag ds) M) : qh P w K mg base CX0 1 f fd vU (jf K sp) :=
 F.okD (t := qK) sc_end_cost len (fun cdv A outer s H E hr => (jb (vd 3 sc_end_cost.nd rfl (uA rfl) (Zd (Xa 1 rfl (uA rfl)) ka))
 (qc (Ze (Wd qF (Xa 3 rfl (uA rfl)) (Wd qz (Wd qz (Zg vp rfl g_len Wp (Wa (Xa 0 rfl (uA rfl)) Yb)) (Xa 2 rfl (uA rfl))) ka)))))) read
theorem vat {f : Addr} {fd : FuncData} {Wf : SpD} {Wg : SpD} {sp : SpD} (F : Fun K "most_worth" "most_worth" jo f fd) (h_step_cost : Cal P w K mg base "step_cost" 2 Wf) (h_end_cost : Cal P w K mg base "end_cost" 1 Wg) (g_len : mg "len" = none) (g_min : mg "min" = none) (g_range : mg "range" = none) (len : ∀ ds M Q, sp ds M Q -> ds.length = 4)
  (read : ∀ ds M Q, sp ds M Q -> WF Wf Wg { nx := fun _ M' => Q .non M', rt := Q } (Xc kE ds) M) : qh P w K mg base CX0 3 f fd ZO (jf K sp) :=
 F.okD (t := WF Wf Wg) sc_most_worth len (fun cdv A outer s H E hr => (jb (Zbe 4 (ts := ["later"]) (rest := ["chain", "prices", "worths", "at", "steps"]) (kC (out := (Wb jo)) (N := kE) wab) (YaM rfl g_range (Wa (Wd Yh (Xa 3 rfl (x3 (uA rfl))) ka) (Wa (Zg vp rfl g_len Wp (Wa (Xa 0 rfl (x3 (uA rfl))) Yb)) Yb))) (fun _ _ _ => (je 0 Wag rfl (uA rfl))) (fun _ _ _ => vax) (fun _ _ _ => (Wd Yh (Yc h_step_cost (hr.mono (by decide)) rfl (Wa (Xa 1 rfl (x3 (uA rfl))) (Wa (Xa 2 rfl (x3 (uA rfl))) (Wa (Xa 4 rfl (x3 (uA rfl))) (Wa (Xa 0 rfl (uA rfl)) Yb))))) (Zd (Xa 3 rfl (x3 (uA rfl))) (Xa 0 rfl (uA rfl))))) sc_most_worth.nd rfl (uA rfl))
 (qc (Ze (Zg vbe rfl g_min Yax (Wa (Wd qY (Zn (Wa (Yc h_end_cost (hr.mono (by decide)) rfl (Wa (Xa 0 rfl (x3 (uA rfl))) (Wa (Xa 1 rfl (x3 (uA rfl))) (Wa (Xa 3 rfl (x3 (uA rfl))) Yb)))) Yb)) (Xa 4 rfl (uA rfl))) Yb)))))) read
theorem Wai {f : Addr} {fd : FuncData} {Zl : SpD} {sp : SpD} (F : Fun K "full_worths" "full_worths" jr f fd) (h_most_worth : Cal P w K mg base "most_worth" 3 Zl) (g_len : mg "len" = none) (g_range : mg "range" = none) (g_reversed : mg "reversed" = none) (len : ∀ ds M Q, sp ds M Q -> ds.length = 2)
  (read : ∀ ds M Q, sp ds M Q -> vA Zl { nx := fun _ M' => Q .non M', rt := Q } (Xc XW ds) M) : qh P w K mg base CX0 4 f fd qJ (jf K sp) :=
 F.okD (t := vA Zl) sc_full_worths len (fun cdv A outer s H E hr => (jb (vd 2 sc_full_worths.nd rfl (uA rfl) (Wd wbo (Zn (Wa ka Yb)) (Zg vp rfl g_len Wp (Wa (Xa 0 rfl (uA rfl)) Yb))))
 (jb (vR (vbj rfl g_reversed rfl g_range (Wa (Zg vp rfl g_len Wp (Wa (Xa 0 rfl (uA rfl)) Yb)) Yb)) (je 3 sc_full_worths.nd rfl (uA rfl)) (qc (qD (Yc h_most_worth (hr.mono (by decide)) rfl (Wa (Xa 0 rfl (uA rfl)) (Wa (Xa 1 rfl (uA rfl)) (Wa (Xa 2 rfl (uA rfl)) (Wa (Xa 3 rfl (uA rfl)) Yb))))) (XR (Xa 2 rfl (uA rfl)) (Xa 3 rfl (uA rfl))))))
 (qc (Ze (Xa 2 rfl (uA rfl))))))) read
theorem Yav {f : Addr} {fd : FuncData} {tk_NUMBER : Tok} {Xj : SpD} {jj : SpD} {Wg : SpD} {Wf : SpD} {sp : SpD} (F : Fun K "told_story" "told_story" Yu f fd) (h_whole_chain : Cal P w K mg base "whole_chain" 3 Xj) (h_full_worths : Cal P w K mg base "full_worths" 4 jj) (h_end_cost : Cal P w K mg base "end_cost" 1 Wg) (h_step_cost : Cal P w K mg base "step_cost" 2 Wf) (g_NUMBER : mg "NUMBER" = some (.int (0) tk_NUMBER)) (g_len : mg "len" = none) (g_range : mg "range" = none) (len : ∀ ds M Q, sp ds M Q -> ds.length = 3)
  (read : ∀ ds M Q, sp ds M Q -> ZD Xj jj Wg Wf { nx := fun _ M' => Q .non M', rt := Q } (Xc YZ ds) M) : qh P w K mg base CX0 5 f fd wM (jf K sp) :=
 F.okD (t := ZD Xj jj Wg Wf) sc_told_story len (fun cdv A outer s H E hr => (jb (vd 3 sc_told_story.nd rfl (uA rfl) (Yc h_whole_chain (hr.mono (by decide)) rfl (Wa (Xa 0 rfl (uA rfl)) (Wa (Xa 1 rfl (uA rfl)) Yb))))
 (jb (vd 4 sc_told_story.nd rfl (uA rfl) (Yc h_full_worths (hr.mono (by decide)) rfl (Wa (Xa 3 rfl (uA rfl)) (Wa (Xa 2 rfl (uA rfl)) Yb))))
 (jb (vd 5 sc_told_story.nd rfl (uA rfl) (Zn Yb))
 (jb (vd 6 sc_told_story.nd rfl (uA rfl) ka)
 (jb (vR (YaM rfl g_range (Wa ka (Wa (Zg vp rfl g_len Wp (Wa (Xa 3 rfl (uA rfl)) Yb)) Yb))) (je 7 sc_told_story.nd rfl (uA rfl)) (jb (vd 8 sc_told_story.nd rfl (uA rfl) (WY (wv hr) (Zd (Xa 4 rfl (uA rfl)) (Xa 6 rfl (uA rfl))) (Yc h_end_cost (hr.mono (by decide)) rfl (Wa (Xa 3 rfl (uA rfl)) (Wa (Xa 2 rfl (uA rfl)) (Wa (Xa 6 rfl (uA rfl)) Yb))))))
 (qc (Xl (YB (ZR (vN (jv (Xa 8 rfl (uA rfl)))) (YL (vf (wv hr) (Zd (Xa 4 rfl (uA rfl)) (Xa 6 rfl (uA rfl))) (Wd Yh (Yc h_step_cost (hr.mono (by decide)) rfl (Wa (Xa 3 rfl (uA rfl)) (Wa (Xa 2 rfl (uA rfl)) (Wa (Xa 6 rfl (uA rfl)) (Wa (Xa 7 rfl (uA rfl)) Yb))))) (Zd (Xa 4 rfl (uA rfl)) (Xa 7 rfl (uA rfl)))))))) (jb (ZC (jR (Xa 5 rfl (uA rfl)) (Zd (Zd (Xa 3 rfl (uA rfl)) (Xa 7 rfl (uA rfl))) (Yp rfl g_NUMBER))))
 (qc (vd 6 sc_told_story.nd rfl (uA rfl) (Xa 7 rfl (uA rfl))))) ji))))
 (qc (Ze (Xa 5 rfl (uA rfl)))))))))) read
theorem wau {f : Addr} {fd : FuncData} {wg : SpD} {qk : SpD} {sp : SpD} (F : Fun K "told_chain" "told_chain" Wt f fd) (h_believed_chain : Cal P w K mg base "believed_chain" 2 wg) (h_told_story : Cal P w K mg base "told_story" 5 qk) (len : ∀ ds M Q, sp ds M Q -> ds.length = 3)
  (read : ∀ ds M Q, sp ds M Q -> vE wg qk { nx := fun _ M' => Q .non M', rt := Q } (Xc jZ ds) M) : qh P w K mg base CX0 6 f fd WN (jf K sp) :=
 F.okD (t := vE wg qk) qas len (fun cdv A outer s H E hr => (qc (Ze (Yc h_believed_chain (hr.mono (by decide)) rfl (Wa (Xa 0 rfl (uA rfl)) (Wa (Xa 1 rfl (uA rfl)) (Wa (Yc h_told_story (hr.mono (by decide)) rfl (Wa (Xa 0 rfl (uA rfl)) (Wa (Xa 1 rfl (uA rfl)) (Wa (Xa 2 rfl (uA rfl)) Yb)))) Yb))))))) read
theorem qau {f : Addr} {fd : FuncData} {sp : SpD} (F : Fun K "neighbours" "neighbours" Xt f fd) (g_list : mg "list" = none) (g_zip : mg "zip" = none) (len : ∀ ds M Q, sp ds M Q -> ds.length = 1)
  (read : ∀ ds M Q, sp ds M Q -> jE { nx := fun _ M' => Q .non M', rt := Q } (Xc ZY ds) M) : qh P w K mg base CX0 1 f fd ZN (jf K sp) :=
 F.okD (t := jE) jar len (fun cdv A outer s H E hr => (qc (Ze (vaT rfl g_list rfl g_zip (Wa (Xa 0 rfl (uA rfl)) (Wa (XV (Xa 0 rfl (uA rfl)) (jU ka) YV) Yb)))))) read
theorem j5 {f : Addr} {fd : FuncData} {tk_DAY : Tok} {tk_THERE : Tok} {tk_UNKNOWN : Tok} {qi : SpD} {sp : SpD} (F : Fun K "pieces_between" "pieces_between" Zk f fd) (h_is_gap : Cal P w K mg base "is_gap" 1 qi) (g_DAY : mg "DAY" = some (.int (1) tk_DAY)) (g_THERE : mg "THERE" = some (.int (3) tk_THERE)) (g_UNKNOWN : mg "UNKNOWN" = some (.str "" tk_UNKNOWN)) (g_min : mg "min" = none) (len : ∀ ds M Q, sp ds M Q -> ds.length = 2)
  (read : ∀ ds M Q, sp ds M Q -> wu qi { nx := fun _ M' => Q .non M', rt := Q } (Xc Yv ds) M) : qh P w K mg base CX0 2 f fd jB (jf K sp) :=
 F.okD (t := wu qi) sc_pieces_between len (fun cdv A outer s H E hr => (jb (vd 2 sc_pieces_between.nd rfl (uA rfl) (Zd (Xa 0 rfl (uA rfl)) (Yp rfl g_DAY)))
 (jb (vd 3 sc_pieces_between.nd rfl (uA rfl) (Wd qz (Zd (Xa 1 rfl (uA rfl)) (Yp rfl g_DAY)) ka))
 (jb (vd 4 sc_pieces_between.nd rfl (uA rfl) (va7 (jv (Yc h_is_gap (hr.mono (by decide)) rfl (Wa (Xa 0 rfl (uA rfl)) (Wa (Xa 1 rfl (uA rfl)) Yb)))) (Zg jaI rfl g_min Yax (Wa (Xa 2 rfl (uA rfl)) (Wa (Xa 3 rfl (uA rfl)) Yb))) (Xa 3 rfl (uA rfl))))
 (jb (vd 5 sc_pieces_between.nd rfl (uA rfl) (Zn (Wa (jz (Wa (Xa 2 rfl (uA rfl)) (Wa (Xa 4 rfl (uA rfl)) (Wa (Zd (Xa 0 rfl (uA rfl)) (Yp rfl g_THERE)) Yb)))) (Wa (jz (Wa (Wd Yh (Xa 4 rfl (uA rfl)) ka) (Wa (Xa 3 rfl (uA rfl)) (Wa (jaC rfl g_UNKNOWN) Yb)))) Yb))))
 (qc (Ze (Za5 (ts := ["piece"]) (rest := ["first", "second", "day", "last", "known", "pieces"]) (kC (out := (Wb Zk)) (N := Yv) jV) (Ys (Xa 5 rfl (uA rfl))) (fun _ _ _ => (je 0 wW rfl (uA rfl))) (fun _ _ _ => (qa0 (vf Y3 (Zd (Xa 0 rfl (uA rfl)) ka) (Zd (Xa 0 rfl (uA rfl)) ka)))) (fun _ _ _ => (Xa 0 rfl (uA rfl))))))))))) read
theorem YaT {f : Addr} {fd : FuncData} {sp : SpD} (F : Fun K "joined" "joined" vG f fd) (len : ∀ ds M Q, sp ds M Q -> ds.length = 1)
  (read : ∀ ds M Q, sp ds M Q -> qT { nx := fun _ M' => Q .non M', rt := Q } (Xc waF ds) M) : qh P w K mg base CX0 1 f fd kab (jf K sp) :=
 F.okD (t := qT) sc_joined len (fun cdv A outer s H E hr => (jb (vd 1 sc_joined.nd rfl (uA rfl) (Zn Yb))
 (jb (vB (Ys (Xa 0 rfl (uA rfl))) (kI (Wj (je 2 sc_joined.nd rfl (uA rfl)) (Wj (je 3 sc_joined.nd rfl (uA rfl)) (Wj (je 4 sc_joined.nd rfl (uA rfl)) jI)))) (qc (Xl (YB (ZR (jv (Xa 1 rfl (uA rfl))) (YL (vf (wv hr) (Zd (Zd (Xa 1 rfl (uA rfl)) (XS ka)) ka) (Xa 4 rfl (uA rfl)))))) (qc (qD (jz (Wa (Zd (Zd (Xa 1 rfl (uA rfl)) (XS ka)) ka) (Wa (Xa 3 rfl (uA rfl)) (Wa (Xa 4 rfl (uA rfl)) Yb)))) (XR (Xa 1 rfl (uA rfl)) (XS ka)))) (qc (ZC (jR (Xa 1 rfl (uA rfl)) (jz (Wa (Xa 2 rfl (uA rfl)) (Wa (Xa 3 rfl (uA rfl)) (Wa (Xa 4 rfl (uA rfl)) Yb))))))))))
 (qc (Ze (Xa 1 rfl (uA rfl))))))) read
theorem qa3 {f : Addr} {fd : FuncData} {tk_DAY : Tok} {tk_THERE : Tok} {jk : SpD} {vk : SpD} {kg : SpD} {Yq : SpD} {sp : SpD} (F : Fun K "stays" "stays" XL f fd) (h_told_chain : Cal P w K mg base "told_chain" 6 jk) (h_neighbours : Cal P w K mg base "neighbours" 1 vk) (h_pieces_between : Cal P w K mg base "pieces_between" 2 kg) (h_joined : Cal P w K mg base "joined" 1 Yq) (g_DAY : mg "DAY" = some (.int (1) tk_DAY)) (g_THERE : mg "THERE" = some (.int (3) tk_THERE)) (len : ∀ ds M Q, sp ds M Q -> ds.length = 3)
  (read : ∀ ds M Q, sp ds M Q -> X2 jk vk kg Yq { nx := fun _ M' => Q .non M', rt := Q } (Xc kaJ ds) M) : qh P w K mg base CX0 7 f fd Zal (jf K sp) :=
 F.okD (t := X2 jk vk kg Yq) sc_stays len (fun cdv A outer s H E hr => (jb (vd 3 sc_stays.nd rfl (uA rfl) (Yc h_told_chain (hr.mono (by decide)) rfl (Wa (Xa 0 rfl (uA rfl)) (Wa (Xa 1 rfl (uA rfl)) (Wa (Xa 2 rfl (uA rfl)) Yb)))))
 (jb (vd 4 sc_stays.nd rfl (uA rfl) (Zn Yb))
 (jb (vB (Ys (Yc h_neighbours (hr.mono (by decide)) rfl (Wa (Xa 3 rfl (uA rfl)) Yb))) (kI (Wj (je 5 sc_stays.nd rfl (uA rfl)) (Wj (je 6 sc_stays.nd rfl (uA rfl)) jI))) (qc (ZC (Xbl (Xa 4 rfl (uA rfl)) (Yc h_pieces_between (hr.mono (by decide)) rfl (Wa (Xa 5 rfl (uA rfl)) (Wa (Xa 6 rfl (uA rfl)) Yb)))))))
 (jb (ZC (jR (Xa 4 rfl (uA rfl)) (jz (Wa (Zd (Zd (Xa 3 rfl (uA rfl)) (XS ka)) (Yp rfl g_DAY)) (Wa j0 (Wa (Zd (Zd (Xa 3 rfl (uA rfl)) (XS ka)) (Yp rfl g_THERE)) Yb))))))
 (qc (Ze (Yc h_joined (hr.mono (by decide)) rfl (Wa (Xa 4 rfl (uA rfl)) Yb))))))))) read
theorem qar {f : Addr} {fd : FuncData} {sp : SpD} (F : Fun K "_law_whole" "_law_whole" vt f fd) (g_bool : mg "bool" = none) (g_int : mg "int" = none) (g_isinstance : mg "isinstance" = none) (len : ∀ ds M Q, sp ds M Q -> ds.length = 1)
  (read : ∀ ds M Q, sp ds M Q -> wC { nx := fun _ M' => Q .non M', rt := Q } (Xc kY ds) M) : qh P w K mg base CX0 1 f fd qM (jf K sp) :=
 F.okD (t := wC) was len (fun cdv A outer s H E hr => (qc (Ze (kbq (Zg X0 rfl g_isinstance Wv (Wa (Xa 0 rfl (uA rfl)) (Wa (qS rfl g_int jaY) Yb))) (Wbm (jbp (Zg X0 rfl g_isinstance Wv (Wa (Xa 0 rfl (uA rfl)) (Wa (qS rfl g_bool kbc) Yb))))))))) read
theorem Z0 {f : Addr} {fd : FuncData} {Zj : SpD} {sp : SpD} (F : Fun K "_law_spans_kind" "_law_spans_kind" wn f fd) (h__law_whole : Cal P w K mg base "_law_whole" 1 Zj) (g_isinstance : mg "isinstance" = none) (g_len : mg "len" = none) (g_list : mg "list" = none) (g_range : mg "range" = none) (g_str : mg "str" = none) (g_tuple : mg "tuple" = none) (len : ∀ ds M Q, sp ds M Q -> ds.length = 1)
  (read : ∀ ds M Q, sp ds M Q -> Ws Zj { nx := fun _ M' => Q .non M', rt := Q } (Xc vJ ds) M) : qh P w K mg base CX0 2 f fd Wz (jf K sp) :=
 F.okD (t := Ws Zj) sc__law_spans_kind len (fun cdv A outer s H E hr => (jb (Xl (YB (YH (vN (jv (Zg X0 rfl g_isinstance Wv (Wa (Xa 0 rfl (uA rfl)) (Wa (qS rfl g_list qaJ) Yb))))) (kD (vf (wv hr) (Zg vp rfl g_len Wp (Wa (Xa 0 rfl (uA rfl)) Yb)) ka)))) (qc (Ze ZA)) ji)
 (jb (vR (Z3 rfl g_range (Wa (Zg vp rfl g_len Wp (Wa (Xa 0 rfl (uA rfl)) Yb)) Yb)) (je 1 sc__law_spans_kind.nd rfl (uA rfl)) (jb (vd 2 sc__law_spans_kind.nd rfl (uA rfl) (Zd (Xa 0 rfl (uA rfl)) (Xa 1 rfl (uA rfl))))
 (jb (Xl (YB (YH (vN (jv (Zg X0 rfl g_isinstance Wv (Wa (Xa 2 rfl (uA rfl)) (Wa (qS rfl g_tuple Ya6) Yb))))) (kD (vf (jL hr) (Zg vp rfl g_len Wp (Wa (Xa 2 rfl (uA rfl)) Yb)) ka)))) (qc (Ze ZA)) ji)
 (jb (Xl (YB (YH (vN (jv (Yc h__law_whole (hr.mono (by decide)) rfl (Wa (Zd (Xa 2 rfl (uA rfl)) ka) Yb)))) (kD (vN (jv (Zg X0 rfl g_isinstance Wv (Wa (Zd (Xa 2 rfl (uA rfl)) ka) (Wa (qS rfl g_str Wbo) Yb)))))))) (qc (Ze ZA)) ji)
 (jb (Xl (vf (jL hr) (WY YaQ (Zd (Xa 2 rfl (uA rfl)) ka) j0) (WY (wv hr) (Wd Yh (Xa 1 rfl (uA rfl)) ka) (Zg vp rfl g_len Wp (Wa (Xa 0 rfl (uA rfl)) Yb)))) (qc (Ze ZA)) ji)
 (qc (Xl (YB (ZR (vf ja7 (Zd (Xa 2 rfl (uA rfl)) ka) j0) (YL (vN (jv (Yc h__law_whole (hr.mono (by decide)) rfl (Wa (Zd (Xa 2 rfl (uA rfl)) ka) Yb))))))) (qc (Ze ZA)) ji)))))))
 (qc (Ze ZA))))) read
theorem vaC {f : Addr} {fd : FuncData} {sp : SpD} (F : Fun K "_law_days" "_law_days" Zw f fd) (g_set : mg "set" = none) (g_sorted : mg "sorted" = none) (len : ∀ ds M Q, sp ds M Q -> ds.length = 2)
  (read : ∀ ds M Q, sp ds M Q -> wG { nx := fun _ M' => Q .non M', rt := Q } (Xc X8 ds) M) : qh P w K mg base CX0 1 f fd WQ (jf K sp) :=
 F.okD (t := wG) sc__law_days len (fun cdv A outer s H E hr => (jb (vd 2 sc__law_days.nd rfl (uA rfl) (Zn (Wa (Wd qz (Zd (Xa 0 rfl (uA rfl)) ka) ka) (Wa (Zd (Xa 0 rfl (uA rfl)) ka) (Wa (Wd Yh (Zd (Xa 0 rfl (uA rfl)) ka) ka) Yb)))))
 (jb (vB (Ys (Xa 1 rfl (uA rfl))) (je 3 sc__law_days.nd rfl (uA rfl)) (qc (vd 2 sc__law_days.nd rfl (uA rfl) (Wd qY (Xa 2 rfl (uA rfl)) (Zn (Wa (Wd qz (Zd (Xa 3 rfl (uA rfl)) ka) ka) (Wa (Zd (Xa 3 rfl (uA rfl)) ka) (Wa (Wd Yh (Zd (Xa 3 rfl (uA rfl)) ka) ka) Yb))))))))
 (qc (Ze (waN hr rfl g_sorted rfl g_set (Xa 2 rfl (uA rfl)))))))) read
theorem Za6 {f : Addr} {fd : FuncData} {tk_UNKNOWN : Tok} {wj : SpD} {sp : SpD} (F : Fun K "where" "where" wK f fd) (h_stays : Cal P w K mg base "stays" 7 wj) (g_UNKNOWN : mg "UNKNOWN" = some (.str "" tk_UNKNOWN)) (len : ∀ ds M Q, sp ds M Q -> ds.length = 4)
  (read : ∀ ds M Q, sp ds M Q -> Y4 wj { nx := fun _ M' => Q .non M', rt := Q } (Xc YaK ds) M) : qh P w K mg base CX0 8 f fd Xah (jf K sp) :=
 F.okD (t := Y4 wj) sc_where len (fun cdv A outer s H E hr => (jb (vB (Ys (Yc h_stays (hr.mono (by decide)) rfl (Wa (Xa 0 rfl (uA rfl)) (Wa (Xa 1 rfl (uA rfl)) (Wa (Xa 2 rfl (uA rfl)) Yb))))) (kI (Wj (je 4 sc_where.nd rfl (uA rfl)) (Wj (je 5 sc_where.nd rfl (uA rfl)) (Wj (je 6 sc_where.nd rfl (uA rfl)) jI)))) (qc (Xl (YB (ZR (vf Y3 (Xa 4 rfl (uA rfl)) (Xa 3 rfl (uA rfl))) (YL (YB (YH (vf YaQ (Xa 5 rfl (uA rfl)) j0) (kD (vf Y3 (Xa 3 rfl (uA rfl)) (Xa 5 rfl (uA rfl))))))))) (qc (Ze (Xa 6 rfl (uA rfl)))) ji)))
 (qc (Ze (jaC rfl g_UNKNOWN))))) read
theorem jbj {f : Addr} {fd : FuncData} {Ym : SpD} {Zi : SpD} {Xk : SpD} {vh : SpD} {Yj : SpD} {Yi : SpD} {wj : SpD} {Xg : SpD} {Wm : SpD} {ja : SpD} {jq : SpD} {sp : SpD} (F : Fun K "law" "law" XC f fd) (h__law_box : Cal P w K mg base "_law_box" 1 Ym) (h__law_places : Cal P w K mg base "_law_places" 4 Zi) (h__law_home : Cal P w K mg base "_law_home" 4 Xk) (h__law_papers : Cal P w K mg base "_law_papers" 4 vh) (h__law_count : Cal P w K mg base "_law_count" 3 Yj) (h__law_prices : Cal P w K mg base "_law_prices" 3 Yi) (h_stays : Cal P w K mg base "stays" 7 wj) (h__law_spans_kind : Cal P w K mg base "_law_spans_kind" 2 Xg) (h__law_days : Cal P w K mg base "_law_days" 1 Wm) (h__law_take : Cal P w K mg base "_law_take" 2 ja) (h_where : Cal P w K mg base "where" 8 jq) (g_int : mg "int" = none) (g_len : mg "len" = none) (g_range : mg "range" = none) (g_zip : mg "zip" = none) (len : ∀ ds M Q, sp ds M Q -> ds.length = 1)
  (read : ∀ ds M Q, sp ds M Q -> Xaw Ym Zi Xk vh Yj Yi wj Xg Wm ja jq { nx := fun _ M' => Q .non M', rt := Q } (Xc Waw ds) M) : qh P w K mg base CX0 9 f fd ka8 (jf K sp) :=
 F.okD (t := Xaw Ym Zi Xk vh Yj Yi wj Xg Wm ja jq) sc_law len (fun cdv A outer s H E hr => (jb (vd 1 sc_law.nd rfl (uA rfl) (Yc h__law_box (hr.mono (by decide)) rfl (Wa (Xa 0 rfl (uA rfl)) Yb)))
 (jb (vd 2 sc_law.nd rfl (uA rfl) (Yc h__law_places (hr.mono (by decide)) rfl (Wa (Xa 1 rfl (uA rfl)) Yb)))
 (jb (vd 3 sc_law.nd rfl (uA rfl) (Yc h__law_home (hr.mono (by decide)) rfl (Wa (Xa 1 rfl (uA rfl)) (Wa (Xa 2 rfl (uA rfl)) Yb))))
 (jb (vd 4 sc_law.nd rfl (uA rfl) (Yc h__law_papers (hr.mono (by decide)) rfl (Wa (Xa 1 rfl (uA rfl)) (Wa (Xa 2 rfl (uA rfl)) (Wa (Xa 3 rfl (uA rfl)) (Wa (Yc h__law_count (hr.mono (by decide)) rfl (Wa (Xa 1 rfl (uA rfl)) (Wa ka (Wa ka Yb)))) Yb))))))
 (jb (vd 5 sc_law.nd rfl (uA rfl) (Yc h__law_prices (hr.mono (by decide)) rfl (Wa (Xa 1 rfl (uA rfl)) Yb)))
 (jb (vd 6 sc_law.nd rfl (uA rfl) (Yc h_stays (hr.mono (by decide)) rfl (Wa (Xa 3 rfl (uA rfl)) (Wa (Xa 4 rfl (uA rfl)) (Wa (Xa 5 rfl (uA rfl)) Yb)))))
 (jb (Xl (YB (YH (vN (jv (Yc h__law_spans_kind (hr.mono (by decide)) rfl (Wa (Xa 6 rfl (uA rfl)) Yb)))) (kD (vf (jL hr) (Zd (Zd (Xa 6 rfl (uA rfl)) ka) ka) (Zd (Xa 3 rfl (uA rfl)) ka))))) (qc (Ze ZA)) ji)
 (jb (vB (Ybj rfl g_zip (Wa (Xa 6 rfl (uA rfl)) (Wa (XV (Xa 6 rfl (uA rfl)) (jU ka) YV) Yb))) (kI (Wj (je 7 sc_law.nd rfl (uA rfl)) (Wj (je 8 sc_law.nd rfl (uA rfl)) jI))) (qc (Xl (YB (YH (vf (jL hr) (Zd (Xa 8 rfl (uA rfl)) ka) (Wd Yh (Zd (Xa 7 rfl (uA rfl)) ka) ka)) (YH (vf ja9 (Zd (Xa 7 rfl (uA rfl)) ka) (Zd (Xa 7 rfl (uA rfl)) ka)) (kD (vf (wv hr) (Zd (Xa 7 rfl (uA rfl)) ka) (Zd (Xa 8 rfl (uA rfl)) ka)))))) (qc (Ze ZA)) ji)))
 (jb (vd 9 sc_law.nd rfl (uA rfl) (Yc h__law_days (hr.mono (by decide)) rfl (Wa (Xa 3 rfl (uA rfl)) (Wa (Xa 4 rfl (uA rfl)) Yb))))
 (jb (vR (Z3 rfl g_range (Wa ka Yb)) (je 10 sc_law.nd rfl (uA rfl)) (jb (vd 11 sc_law.nd rfl (x3 rfl) (Wd qz (Wd Yh (Zd (Xa 9 rfl (uA rfl)) (Yc h__law_take (hr.mono (by decide)) rfl (Wa (Xa 1 rfl (uA rfl)) (Wa (Zg vp rfl g_len Wp (Wa (Xa 9 rfl (uA rfl)) Yb)) Yb)))) (Yc h__law_take (hr.mono (by decide)) rfl (Wa (Xa 1 rfl (uA rfl)) (Wa ka Yb)))) ka))
 (jb (ja0 12 (ts := ["_law_first", "_law_last", "_law_place"]) (rest := ["_law_script", "_law_box_here", "_law_places_here", "_law_home_here", "_law_papers_here", "_law_prices_here", "_law_found", "_law_one", "_law_later", "_law_days_here", "_law_turn", "_law_day_here", "_law_held"]) (kC (out := (Wb XC)) (N := Waw) ZaS) (Ys (Xa 6 rfl (uA rfl))) (fun _ _ _ => (kI (Wj (je 0 j9 rfl (uA rfl)) (Wj (je 1 j9 rfl (uA rfl)) (Wj (je 2 j9 rfl (uA rfl)) jI))))) (fun _ _ _ => (qa0 (YB (ZR (vf Y3 (Xa 0 rfl (uA rfl)) (Xa 14 rfl (x3 (uA rfl)))) (YL (YB (YH (vf YaQ (Xa 1 rfl (uA rfl)) j0) (kD (vf Y3 (Xa 14 rfl (x3 (uA rfl))) (Xa 1 rfl (uA rfl))))))))))) (fun _ _ _ => (Xa 2 rfl (uA rfl))) sc_law.nd rfl (uA rfl))
 (qc (Xl (YB (YH (vf (jL hr) (Yc h_where (hr.mono (by decide)) rfl (Wa (Xa 3 rfl (uA rfl)) (Wa (Xa 4 rfl (uA rfl)) (Wa (Xa 5 rfl (uA rfl)) (Wa (Xa 11 rfl (x3 (uA rfl))) Yb))))) (Zd (Wd qY (Xa 12 rfl (uA rfl)) (Zn (Wa YaA Yb))) ka)) (kD (vf (jL hr) (Zg vp rfl g_len Wp (Wa (Xa 12 rfl (uA rfl)) Yb)) (qaq vbf rfl g_int jaY (Wa (WY qa9 (Xa 11 rfl (x3 (uA rfl))) (Zd (Xa 3 rfl (uA rfl)) ka)) Yb)))))) (qc (Ze ZA)) ji)))))
 (qc (Ze ZA))))))))))))) read
end
theorem Xak (ds : List D) (M : HpD) (Q : KD) (h : ki ds M Q) : ds.length = 2 := by obtain ⟨_, _, rfl, _⟩ := h; rfl
theorem jaB (ds : List D) (M : HpD) (Q : KD) (h : Ym ds M Q) : ds.length = 1 := by obtain ⟨_, rfl, _⟩ := h; rfl
theorem kar (ds : List D) (M : HpD) (Q : KD) (h : ja ds M Q) : ds.length = 2 := by obtain ⟨_, _, _, rfl, _⟩ := h; rfl
theorem jaj (ds : List D) (M : HpD) (Q : KD) (h : Yj ds M Q) : ds.length = 3 := by obtain ⟨_, _, _, _, rfl, _⟩ := h; rfl
theorem waa (ds : List D) (M : HpD) (Q : KD) (h : Wi ds M Q) : ds.length = 0 := by obtain ⟨rfl, _⟩ := h; rfl
theorem vam (ds : List D) (M : HpD) (Q : KD) (h : Yl ds M Q) : ds.length = 1 := by obtain ⟨_, _, rfl, _⟩ := h; rfl
theorem qad (ds : List D) (M : HpD) (Q : KD) (h : Zi ds M Q) : ds.length = 1 := by obtain ⟨_, _, rfl, _⟩ := h; rfl
theorem ZaA (ds : List D) (M : HpD) (Q : KD) (h : Xn ds M Q) : ds.length = 1 := by obtain ⟨_, _, rfl, _⟩ := h; rfl
theorem jas (ds : List D) (M : HpD) (Q : KD) (h : Xk ds M Q) : ds.length = 2 := by obtain ⟨_, _, _, rfl, _⟩ := h; rfl
theorem wam (ds : List D) (M : HpD) (Q : KD) (h : kh ds M Q) : ds.length = 2 := by obtain ⟨_, _, _, rfl, _⟩ := h; rfl
theorem vad (ds : List D) (M : HpD) (Q : KD) (h : Yi ds M Q) : ds.length = 1 := by obtain ⟨_, _, rfl, _⟩ := h; rfl
theorem Was (ds : List D) (M : HpD) (Q : KD) (h : Wk ds M Q) : ds.length = 3 := by obtain ⟨_, _, _, _, _, rfl, _⟩ := h; rfl
theorem Zag (ds : List D) (M : HpD) (Q : KD) (h : vh ds M Q) : ds.length = 4 := by obtain ⟨_, _, _, _, _, rfl, _⟩ := h; rfl
theorem jai (ds : List D) (M : HpD) (Q : KD) (h : Zf ds M Q) : ds.length = 1 := by obtain ⟨_, rfl, _⟩ := h; rfl
theorem jX (ds : List D) (M : HpD) (Q : KD) (h : wg ds M Q) : ds.length = 3 := by obtain ⟨_, _, _, rfl, _⟩ := h; rfl
theorem Yam (ds : List D) (M : HpD) (Q : KD) (h : vk ds M Q) : ds.length = 1 := by obtain ⟨_, rfl, _⟩ := h; rfl
theorem kaP (ds : List D) (M : HpD) (Q : KD) (h : qi ds M Q) : ds.length = 2 := by obtain ⟨_, _, rfl, _⟩ := h; rfl
theorem wah (ds : List D) (M : HpD) (Q : KD) (h : Zj ds M Q) : ds.length = 1 := by obtain ⟨_, rfl, _⟩ := h; rfl
theorem Xaf {Pt : Addr} (ds : List D) (M : HpD) (Q : KD) (h : Xj Pt ds M Q) : ds.length = 2 := by obtain ⟨_, _, rfl, _⟩ := h; rfl
theorem kaA (ds : List D) (M : HpD) (Q : KD) (h : Wg ds M Q) : ds.length = 3 := by obtain ⟨_, _, _, _, rfl, _⟩ := h; rfl
theorem Wau (ds : List D) (M : HpD) (Q : KD) (h : Wf ds M Q) : ds.length = 4 := by obtain ⟨_, _, _, _, _, _, _, rfl, _⟩ := h; rfl
theorem qal (ds : List D) (M : HpD) (Q : KD) (h : Zl ds M Q) : ds.length = 4 := by obtain ⟨_, _, _, _, _, _, _, rfl, _⟩ := h; rfl
theorem Xad (ds : List D) (M : HpD) (Q : KD) (h : jj ds M Q) : ds.length = 2 := by obtain ⟨_, _, _, rfl, _⟩ := h; rfl
theorem qaj {Pt : Addr} (ds : List D) (M : HpD) (Q : KD) (h : qk Pt ds M Q) : ds.length = 3 := by obtain ⟨_, _, _, _, rfl, _⟩ := h; rfl
theorem Yaj {Pt : Addr} (ds : List D) (M : HpD) (Q : KD) (h : jk Pt ds M Q) : ds.length = 3 := by obtain ⟨_, _, _, _, rfl, _⟩ := h; rfl
theorem kX (ds : List D) (M : HpD) (Q : KD) (h : kg ds M Q) : ds.length = 2 := by obtain ⟨_, _, rfl, _⟩ := h; rfl
theorem YaR (ds : List D) (M : HpD) (Q : KD) (h : Yq ds M Q) : ds.length = 1 := by obtain ⟨_, _, rfl, _⟩ := h; rfl
theorem kaU {Pt : Addr} (ds : List D) (M : HpD) (Q : KD) (h : wj Pt ds M Q) : ds.length = 3 := by obtain ⟨_, _, _, _, rfl, _⟩ := h; rfl
theorem qaR {Pt : Addr} (ds : List D) (M : HpD) (Q : KD) (h : jq Pt ds M Q) : ds.length = 4 := by obtain ⟨_, _, _, _, _, rfl, _⟩ := h; rfl
theorem kas (ds : List D) (M : HpD) (Q : KD) (h : Wm ds M Q) : ds.length = 2 := by obtain ⟨_, _, rfl, _⟩ := h; rfl
theorem ZX (ds : List D) (M : HpD) (Q : KD) (h : Xg ds M Q) : ds.length = 1 := by obtain ⟨_, _, _, rfl, _⟩ := h; rfl
theorem Xbc {Pt : Addr} {q : Str} (ds : List D) (M : HpD) (Q : KD) (h : jS Pt q ds M Q) : ds.length = 1 := by obtain ⟨_, rfl, _⟩ := h; rfl
theorem Wbp {l : PySem.W.OpenLaw} {w : World} {K : uC} {h : Heap} {mg : Str -> Option Value} {fa f0 f1 f2 f3 f4 f5 f6 f7 f8 f9 f10 f11 f12 f13 f14 f15 f16 f17 f18 f19 f20 f21 f22 f23 f24 f25 f26 f27 f28 f29 f30 f31 cW Pt : Addr} (hCW : PySem.W.codeHdIn K cW Pt = true) (X : K.In h) (G : h.Ns mainGlobals mg) (hfa : mg "law" = some (.ref fa))
  {od0 an0 : Option Addr} {sl0 : Array (Option Value)} {oc0 kV0 dc0 pm0 ct0 cd0 : Value}
  {od1 an1 : Option Addr} {sl1 : Array (Option Value)} {oc1 kV1 dc1 pm1 ct1 cd1 : Value}
  {od2 an2 : Option Addr} {sl2 : Array (Option Value)} {oc2 kV2 dc2 pm2 ct2 cd2 : Value}
  {od3 an3 : Option Addr} {sl3 : Array (Option Value)} {oc3 kV3 dc3 pm3 ct3 cd3 : Value}
  {od4 an4 : Option Addr} {sl4 : Array (Option Value)} {oc4 kV4 dc4 pm4 ct4 cd4 : Value}
  {od5 an5 : Option Addr} {sl5 : Array (Option Value)} {oc5 kV5 dc5 pm5 ct5 cd5 : Value}
  {od6 an6 : Option Addr} {sl6 : Array (Option Value)} {oc6 kV6 dc6 pm6 ct6 cd6 : Value}
  {od7 an7 : Option Addr} {sl7 : Array (Option Value)} {oc7 kV7 dc7 pm7 ct7 cd7 : Value}
  {od8 an8 : Option Addr} {sl8 : Array (Option Value)} {oc8 kV8 dc8 pm8 ct8 cd8 : Value}
  {od9 an9 : Option Addr} {sl9 : Array (Option Value)} {oc9 kV9 dc9 pm9 ct9 cd9 : Value}
  {od10 an10 : Option Addr} {sl10 : Array (Option Value)} {oc10 kV10 dc10 pm10 ct10 cd10 : Value}
  {od11 an11 : Option Addr} {sl11 : Array (Option Value)} {oc11 kV11 dc11 pm11 ct11 cd11 : Value}
  {od12 an12 : Option Addr} {sl12 : Array (Option Value)} {oc12 kV12 dc12 pm12 ct12 cd12 : Value}
  {od13 an13 : Option Addr} {sl13 : Array (Option Value)} {oc13 kV13 dc13 pm13 ct13 cd13 : Value}
  {od14 an14 : Option Addr} {sl14 : Array (Option Value)} {oc14 kV14 dc14 pm14 ct14 cd14 : Value}
  {od15 an15 : Option Addr} {sl15 : Array (Option Value)} {oc15 kV15 dc15 pm15 ct15 : Value}
  {od16 an16 : Option Addr} {sl16 : Array (Option Value)} {oc16 kV16 dc16 pm16 ct16 cd16 : Value}
  {od17 an17 : Option Addr} {sl17 : Array (Option Value)} {oc17 kV17 dc17 pm17 ct17 cd17 : Value}
  {od18 an18 : Option Addr} {sl18 : Array (Option Value)} {oc18 kV18 dc18 pm18 ct18 cd18 : Value}
  {od19 an19 : Option Addr} {sl19 : Array (Option Value)} {oc19 kV19 dc19 pm19 ct19 cd19 : Value}
  {od20 an20 : Option Addr} {sl20 : Array (Option Value)} {oc20 kV20 dc20 pm20 ct20 cd20 : Value}
  {od21 an21 : Option Addr} {sl21 : Array (Option Value)} {oc21 kV21 dc21 pm21 ct21 cd21 : Value}
  {od22 an22 : Option Addr} {sl22 : Array (Option Value)} {oc22 kV22 dc22 pm22 ct22 cd22 : Value}
  {od23 an23 : Option Addr} {sl23 : Array (Option Value)} {oc23 kV23 dc23 pm23 ct23 cd23 : Value}
  {od24 an24 : Option Addr} {sl24 : Array (Option Value)} {oc24 kV24 dc24 pm24 ct24 cd24 : Value}
  {od25 an25 : Option Addr} {sl25 : Array (Option Value)} {oc25 kV25 dc25 pm25 ct25 cd25 : Value}
  {od26 an26 : Option Addr} {sl26 : Array (Option Value)} {oc26 kV26 dc26 pm26 ct26 cd26 : Value}
  {od27 an27 : Option Addr} {sl27 : Array (Option Value)} {oc27 kV27 dc27 pm27 ct27 cd27 : Value}
  {od28 an28 : Option Addr} {sl28 : Array (Option Value)} {oc28 kV28 dc28 pm28 ct28 cd28 : Value}
  {od29 an29 : Option Addr} {sl29 : Array (Option Value)} {oc29 kV29 dc29 pm29 ct29 cd29 : Value}
  {od30 an30 : Option Addr} {sl30 : Array (Option Value)} {oc30 kV30 dc30 pm30 ct30 cd30 : Value}
  {od31 an31 : Option Addr} {sl31 : Array (Option Value)} {oc31 kV31 dc31 pm31 ct31 cd31 : Value}
  {tk0 : Tok}
  {tk1 : Tok}
  {tk2 : Tok}
  {tk3 : Tok}
  {tk4 : Tok}
  (a0 : uN K mainGlobals "_law_box" = some (some (.ref f0)))
  (l0 : K.lookup f0 = some ⟨oc0, od0, .func (uW "_law_box" "_law_box" (Xe Zz) (jd Zz) (Wb Zz) .none kV0 dc0 pm0 an0 cd0 ct0), sl0⟩)
  (c0 : uT K cd0 "_law_box" = true)
  (k0 : uS K (.ref f0) = true)
  (a1 : uN K mainGlobals "_law_mixed" = some (some (.ref f1)))
  (l1 : K.lookup f1 = some ⟨oc1, od1, .func (uW "_law_mixed" "_law_mixed" (Xe Yt) (jd Yt) (Wb Yt) .none kV1 dc1 pm1 an1 cd1 ct1), sl1⟩)
  (c1 : uT K cd1 "_law_mixed" = true)
  (k1 : uS K (.ref f1) = true)
  (a2 : uN K mainGlobals "_law_take" = some (some (.ref f2)))
  (l2 : K.lookup f2 = some ⟨oc2, od2, .func (uW "_law_take" "_law_take" (Xe qw) (jd qw) (Wb qw) .none kV2 dc2 pm2 an2 cd2 ct2), sl2⟩)
  (c2 : uT K cd2 "_law_take" = true)
  (k2 : uS K (.ref f2) = true)
  (a3 : uN K mainGlobals "_law_letters" = some (some (.ref f3)))
  (l3 : K.lookup f3 = some ⟨oc3, od3, .func (uW "_law_letters" "_law_letters" (Xe qq) (jd qq) (Wb qq) .none kV3 dc3 pm3 an3 cd3 ct3), sl3⟩)
  (c3 : uT K cd3 "_law_letters" = true)
  (k3 : uS K (.ref f3) = true)
  (a4 : uN K mainGlobals "_law_named" = some (some (.ref f4)))
  (l4 : K.lookup f4 = some ⟨oc4, od4, .func (uW "_law_named" "_law_named" (Xe Wo) (jd Wo) (Wb Wo) .none kV4 dc4 pm4 an4 cd4 ct4), sl4⟩)
  (c4 : uT K cd4 "_law_named" = true)
  (k4 : uS K (.ref f4) = true)
  (a5 : uN K mainGlobals "_law_places" = some (some (.ref f5)))
  (l5 : K.lookup f5 = some ⟨oc5, od5, .func (uW "_law_places" "_law_places" (Xe Wr) (jd Wr) (Wb Wr) .none kV5 dc5 pm5 an5 cd5 ct5), sl5⟩)
  (c5 : uT K cd5 "_law_places" = true)
  (k5 : uS K (.ref f5) = true)
  (a6 : uN K mainGlobals "_law_day" = some (some (.ref f6)))
  (l6 : K.lookup f6 = some ⟨oc6, od6, .func (uW "_law_day" "_law_day" (Xe wy) (jd wy) (Wb wy) .none kV6 dc6 pm6 an6 cd6 ct6), sl6⟩)
  (c6 : uT K cd6 "_law_day" = true)
  (k6 : uS K (.ref f6) = true)
  (a7 : uN K mainGlobals "_law_home" = some (some (.ref f7)))
  (l7 : K.lookup f7 = some ⟨oc7, od7, .func (uW "_law_home" "_law_home" (Xe Yw) (jd Yw) (Wb Yw) .none kV7 dc7 pm7 an7 cd7 ct7), sl7⟩)
  (c7 : uT K cd7 "_law_home" = true)
  (k7 : uS K (.ref f7) = true)
  (a8 : uN K mainGlobals "_law_deal" = some (some (.ref f8)))
  (l8 : K.lookup f8 = some ⟨oc8, od8, .func (uW "_law_deal" "_law_deal" (Xe Xw) (jd Xw) (Wb Xw) .none kV8 dc8 pm8 an8 cd8 ct8), sl8⟩)
  (c8 : uT K cd8 "_law_deal" = true)
  (k8 : uS K (.ref f8) = true)
  (a9 : uN K mainGlobals "_law_grade" = some (some (.ref f9)))
  (l9 : K.lookup f9 = some ⟨oc9, od9, .func (uW "_law_grade" "_law_grade" (Xe Zt) (jd Zt) (Wb Zt) .none kV9 dc9 pm9 an9 cd9 ct9), sl9⟩)
  (c9 : uT K cd9 "_law_grade" = true)
  (k9 : uS K (.ref f9) = true)
  (a10 : uN K mainGlobals "_law_papers" = some (some (.ref f10)))
  (l10 : K.lookup f10 = some ⟨oc10, od10, .func (uW "_law_papers" "_law_papers" (Xe qr) (jd qr) (Wb qr) .none kV10 dc10 pm10 an10 cd10 ct10), sl10⟩)
  (c10 : uT K cd10 "_law_papers" = true)
  (k10 : uS K (.ref f10) = true)
  (a11 : uN K mainGlobals "_law_count" = some (some (.ref f11)))
  (l11 : K.lookup f11 = some ⟨oc11, od11, .func (uW "_law_count" "_law_count" (Xe Zu) (jd Zu) (Wb Zu) .none kV11 dc11 pm11 an11 cd11 ct11), sl11⟩)
  (c11 : uT K cd11 "_law_count" = true)
  (k11 : uS K (.ref f11) = true)
  (a12 : uN K mainGlobals "_law_prices" = some (some (.ref f12)))
  (l12 : K.lookup f12 = some ⟨oc12, od12, .func (uW "_law_prices" "_law_prices" (Xe kr) (jd kr) (Wb kr) .none kV12 dc12 pm12 an12 cd12 ct12), sl12⟩)
  (c12 : uT K cd12 "_law_prices" = true)
  (k12 : uS K (.ref f12) = true)
  (a13 : uN K mainGlobals "home_paper" = some (some (.ref f13)))
  (l13 : K.lookup f13 = some ⟨oc13, od13, .func (uW "home_paper" "home_paper" (Xe qt) (jd qt) (Wb qt) .none kV13 dc13 pm13 an13 cd13 ct13), sl13⟩)
  (c13 : uT K cd13 "home_paper" = true)
  (k13 : uS K (.ref f13) = true)
  (a14 : uN K mainGlobals "believed_chain" = some (some (.ref f14)))
  (l14 : K.lookup f14 = some ⟨oc14, od14, .func (uW "believed_chain" "believed_chain" (Xe Yk) (jd Yk) (Wb Yk) .none kV14 dc14 pm14 an14 cd14 ct14), sl14⟩)
  (c14 : uT K cd14 "believed_chain" = true)
  (k14 : uS K (.ref f14) = true)
  (a15 : uN K mainGlobals "whole_chain" = some (some (.ref f15)))
  (l15 : K.lookup f15 = some ⟨oc15, od15, .func (uW "whole_chain" "whole_chain" (Xe Xp) (jd Xp) (Wb Xp) .none kV15 dc15 pm15 an15 (.ref cW) ct15), sl15⟩)
  (c15 : uT K (.ref cW) "whole_chain" = true)
  (k15 : uS K (.ref f15) = true)
  (a16 : uN K mainGlobals "is_gap" = some (some (.ref f16)))
  (l16 : K.lookup f16 = some ⟨oc16, od16, .func (uW "is_gap" "is_gap" (Xe kF) (jd kF) (Wb kF) .none kV16 dc16 pm16 an16 cd16 ct16), sl16⟩)
  (c16 : uT K cd16 "is_gap" = true)
  (k16 : uS K (.ref f16) = true)
  (a17 : uN K mainGlobals "step_cost" = some (some (.ref f17)))
  (l17 : K.lookup f17 = some ⟨oc17, od17, .func (uW "step_cost" "step_cost" (Xe Ww) (jd Ww) (Wb Ww) .none kV17 dc17 pm17 an17 cd17 ct17), sl17⟩)
  (c17 : uT K cd17 "step_cost" = true)
  (k17 : uS K (.ref f17) = true)
  (a18 : uN K mainGlobals "end_cost" = some (some (.ref f18)))
  (l18 : K.lookup f18 = some ⟨oc18, od18, .func (uW "end_cost" "end_cost" (Xe ky) (jd ky) (Wb ky) .none kV18 dc18 pm18 an18 cd18 ct18), sl18⟩)
  (c18 : uT K cd18 "end_cost" = true)
  (k18 : uS K (.ref f18) = true)
  (a19 : uN K mainGlobals "most_worth" = some (some (.ref f19)))
  (l19 : K.lookup f19 = some ⟨oc19, od19, .func (uW "most_worth" "most_worth" (Xe jo) (jd jo) (Wb jo) .none kV19 dc19 pm19 an19 cd19 ct19), sl19⟩)
  (c19 : uT K cd19 "most_worth" = true)
  (k19 : uS K (.ref f19) = true)
  (a20 : uN K mainGlobals "full_worths" = some (some (.ref f20)))
  (l20 : K.lookup f20 = some ⟨oc20, od20, .func (uW "full_worths" "full_worths" (Xe jr) (jd jr) (Wb jr) .none kV20 dc20 pm20 an20 cd20 ct20), sl20⟩)
  (c20 : uT K cd20 "full_worths" = true)
  (k20 : uS K (.ref f20) = true)
  (a21 : uN K mainGlobals "told_story" = some (some (.ref f21)))
  (l21 : K.lookup f21 = some ⟨oc21, od21, .func (uW "told_story" "told_story" (Xe Yu) (jd Yu) (Wb Yu) .none kV21 dc21 pm21 an21 cd21 ct21), sl21⟩)
  (c21 : uT K cd21 "told_story" = true)
  (k21 : uS K (.ref f21) = true)
  (a22 : uN K mainGlobals "told_chain" = some (some (.ref f22)))
  (l22 : K.lookup f22 = some ⟨oc22, od22, .func (uW "told_chain" "told_chain" (Xe Wt) (jd Wt) (Wb Wt) .none kV22 dc22 pm22 an22 cd22 ct22), sl22⟩)
  (c22 : uT K cd22 "told_chain" = true)
  (k22 : uS K (.ref f22) = true)
  (a23 : uN K mainGlobals "neighbours" = some (some (.ref f23)))
  (l23 : K.lookup f23 = some ⟨oc23, od23, .func (uW "neighbours" "neighbours" (Xe Xt) (jd Xt) (Wb Xt) .none kV23 dc23 pm23 an23 cd23 ct23), sl23⟩)
  (c23 : uT K cd23 "neighbours" = true)
  (k23 : uS K (.ref f23) = true)
  (a24 : uN K mainGlobals "pieces_between" = some (some (.ref f24)))
  (l24 : K.lookup f24 = some ⟨oc24, od24, .func (uW "pieces_between" "pieces_between" (Xe Zk) (jd Zk) (Wb Zk) .none kV24 dc24 pm24 an24 cd24 ct24), sl24⟩)
  (c24 : uT K cd24 "pieces_between" = true)
  (k24 : uS K (.ref f24) = true)
  (a25 : uN K mainGlobals "joined" = some (some (.ref f25)))
  (l25 : K.lookup f25 = some ⟨oc25, od25, .func (uW "joined" "joined" (Xe vG) (jd vG) (Wb vG) .none kV25 dc25 pm25 an25 cd25 ct25), sl25⟩)
  (c25 : uT K cd25 "joined" = true)
  (k25 : uS K (.ref f25) = true)
  (a26 : uN K mainGlobals "stays" = some (some (.ref f26)))
  (l26 : K.lookup f26 = some ⟨oc26, od26, .func (uW "stays" "stays" (Xe XL) (jd XL) (Wb XL) .none kV26 dc26 pm26 an26 cd26 ct26), sl26⟩)
  (c26 : uT K cd26 "stays" = true)
  (k26 : uS K (.ref f26) = true)
  (a27 : uN K mainGlobals "_law_whole" = some (some (.ref f27)))
  (l27 : K.lookup f27 = some ⟨oc27, od27, .func (uW "_law_whole" "_law_whole" (Xe vt) (jd vt) (Wb vt) .none kV27 dc27 pm27 an27 cd27 ct27), sl27⟩)
  (c27 : uT K cd27 "_law_whole" = true)
  (k27 : uS K (.ref f27) = true)
  (a28 : uN K mainGlobals "_law_spans_kind" = some (some (.ref f28)))
  (l28 : K.lookup f28 = some ⟨oc28, od28, .func (uW "_law_spans_kind" "_law_spans_kind" (Xe wn) (jd wn) (Wb wn) .none kV28 dc28 pm28 an28 cd28 ct28), sl28⟩)
  (c28 : uT K cd28 "_law_spans_kind" = true)
  (k28 : uS K (.ref f28) = true)
  (a29 : uN K mainGlobals "_law_days" = some (some (.ref f29)))
  (l29 : K.lookup f29 = some ⟨oc29, od29, .func (uW "_law_days" "_law_days" (Xe Zw) (jd Zw) (Wb Zw) .none kV29 dc29 pm29 an29 cd29 ct29), sl29⟩)
  (c29 : uT K cd29 "_law_days" = true)
  (k29 : uS K (.ref f29) = true)
  (a30 : uN K mainGlobals "where" = some (some (.ref f30)))
  (l30 : K.lookup f30 = some ⟨oc30, od30, .func (uW "where" "where" (Xe wK) (jd wK) (Wb wK) .none kV30 dc30 pm30 an30 cd30 ct30), sl30⟩)
  (c30 : uT K cd30 "where" = true)
  (k30 : uS K (.ref f30) = true)
  (a31 : uN K mainGlobals "law" = some (some (.ref f31)))
  (l31 : K.lookup f31 = some ⟨oc31, od31, .func (uW "law" "law" (Xe XC) (jd XC) (Wb XC) .none kV31 dc31 pm31 an31 cd31 ct31), sl31⟩)
  (c31 : uT K cd31 "law" = true)
  (k31 : uS K (.ref f31) = true)
  (z0 : uN K mainGlobals "DAY" = some (some (.int (1) tk0)))
  (z1 : uN K mainGlobals "HERE" = some (some (.int (2) tk1)))
  (z2 : uN K mainGlobals "NUMBER" = some (some (.int (0) tk2)))
  (z3 : uN K mainGlobals "THERE" = some (some (.int (3) tk3)))
  (z4 : uN K mainGlobals "UNKNOWN" = some (some (.str "" tk4)))
  (z5 : uN K mainGlobals "bool" = some none)
  (z6 : uN K mainGlobals "int" = some none)
  (z7 : uN K mainGlobals "isinstance" = some none)
  (z8 : uN K mainGlobals "len" = some none)
  (z9 : uN K mainGlobals "list" = some none)
  (z10 : uN K mainGlobals "min" = some none)
  (z11 : uN K mainGlobals "range" = some none)
  (z12 : uN K mainGlobals "reversed" = some none)
  (z13 : uN K mainGlobals "set" = some none)
  (z14 : uN K mainGlobals "sorted" = some none)
  (z15 : uN K mainGlobals "str" = some none)
  (z16 : uN K mainGlobals "tuple" = some none)
  (z17 : uN K mainGlobals "zip" = some none) :
  ∃ c : Addr, PySem.W.codeHdIn K c Pt = true /\ ∃ fd : FuncData, (∀ (s : Shared) (v : Value), BindsTo s fd ⟨[v], []⟩ [("_law_script", v)]) /\ ∀ base : Heap, K.In base -> base.Ns mainGlobals mg -> kO mg base -> qh l.prog w K mg base CX0 9 fa fd ["_law_script"] (jf K (jS Pt "whole_chain.<locals>.<lambda>")) := by
 have e := hfa.symm.trans (uX X G a31)
 cases e
 have g0 := uX X G z0
 have g1 := uX X G z1
 have g2 := uX X G z2
 have g3 := uX X G z3
 have g4 := uX X G z4
 have g5 := ut X G z5
 have g6 := ut X G z6
 have g7 := ut X G z7
 have g8 := ut X G z8
 have g9 := ut X G z9
 have g10 := ut X G z10
 have g11 := ut X G z11
 have g12 := ut X G z12
 have g13 := ut X G z13
 have g14 := ut X G z14
 have g15 := ut X G z15
 have g16 := ut X G z16
 have g17 := ut X G z17
 have F0 := Yg (st := Zz) l0 c0 k0
 have b0 := F0.binds (ps := wV) fun _ _ _ _ _ _ => us1 fun _ => rfl
 have F1 := Yg (st := Yt) l1 c1 k1
 have b1 := F1.binds (ps := XM) fun _ _ _ _ _ _ => us2 fun _ _ => rfl
 have F2 := Yg (st := qw) l2 c2 k2
 have b2 := F2.binds (ps := YQ) fun _ _ _ _ _ _ => us2 fun _ _ => rfl
 have F3 := Yg (st := qq) l3 c3 k3
 have b3 := F3.binds (ps := kG) fun _ _ _ _ _ _ => us0 rfl
 have F4 := Yg (st := Wo) l4 c4 k4
 have b4 := F4.binds (ps := YN) fun _ _ _ _ _ _ => us1 fun _ => rfl
 have F5 := Yg (st := Wr) l5 c5 k5
 have b5 := F5.binds (ps := vI) fun _ _ _ _ _ _ => us1 fun _ => rfl
 have F6 := Yg (st := wy) l6 c6 k6
 have b6 := F6.binds (ps := ZU) fun _ _ _ _ _ _ => us1 fun _ => rfl
 have F7 := Yg (st := Yw) l7 c7 k7
 have b7 := F7.binds (ps := XQ) fun _ _ _ _ _ _ => us2 fun _ _ => rfl
 have F8 := Yg (st := Xw) l8 c8 k8
 have b8 := F8.binds (ps := kQ) fun _ _ _ _ _ _ => us3 fun _ _ _ => rfl
 have F9 := Yg (st := Zt) l9 c9 k9
 have b9 := F9.binds (ps := YM) fun _ _ _ _ _ _ => us2 fun _ _ => rfl
 have F10 := Yg (st := qr) l10 c10 k10
 have b10 := F10.binds (ps := YJ) fun _ _ _ _ _ _ => us4 fun _ _ _ _ => rfl
 have F11 := Yg (st := Zu) l11 c11 k11
 have b11 := F11.binds (ps := vL) fun _ _ _ _ _ _ => us3 fun _ _ _ => rfl
 have F12 := Yg (st := kr) l12 c12 k12
 have b12 := F12.binds (ps := WJ) fun _ _ _ _ _ _ => us1 fun _ => rfl
 have F13 := Yg (st := qt) l13 c13 k13
 have b13 := F13.binds (ps := vM) fun _ _ _ _ _ _ => us1 fun _ => rfl
 have F14 := Yg (st := Yk) l14 c14 k14
 have b14 := F14.binds (ps := XB) fun _ _ _ _ _ _ => us3 fun _ _ _ => rfl
 have F15 := Yg (st := Xp) l15 c15 k15
 have b15 := F15.binds (ps := kJ) fun _ _ _ _ _ _ => us2 fun _ _ => rfl
 have F16 := Yg (st := kF) l16 c16 k16
 have b16 := F16.binds (ps := jab) fun _ _ _ _ _ _ => us2 fun _ _ => rfl
 have F17 := Yg (st := Ww) l17 c17 k17
 have b17 := F17.binds (ps := kP) fun _ _ _ _ _ _ => us4 fun _ _ _ _ => rfl
 have F18 := Yg (st := ky) l18 c18 k18
 have b18 := F18.binds (ps := vU) fun _ _ _ _ _ _ => us3 fun _ _ _ => rfl
 have F19 := Yg (st := jo) l19 c19 k19
 have b19 := F19.binds (ps := ZO) fun _ _ _ _ _ _ => us4 fun _ _ _ _ => rfl
 have F20 := Yg (st := jr) l20 c20 k20
 have b20 := F20.binds (ps := qJ) fun _ _ _ _ _ _ => us2 fun _ _ => rfl
 have F21 := Yg (st := Yu) l21 c21 k21
 have b21 := F21.binds (ps := wM) fun _ _ _ _ _ _ => us3 fun _ _ _ => rfl
 have F22 := Yg (st := Wt) l22 c22 k22
 have b22 := F22.binds (ps := WN) fun _ _ _ _ _ _ => us3 fun _ _ _ => rfl
 have F23 := Yg (st := Xt) l23 c23 k23
 have b23 := F23.binds (ps := ZN) fun _ _ _ _ _ _ => us1 fun _ => rfl
 have F24 := Yg (st := Zk) l24 c24 k24
 have b24 := F24.binds (ps := jB) fun _ _ _ _ _ _ => us2 fun _ _ => rfl
 have F25 := Yg (st := vG) l25 c25 k25
 have b25 := F25.binds (ps := kab) fun _ _ _ _ _ _ => us1 fun _ => rfl
 have F26 := Yg (st := XL) l26 c26 k26
 have b26 := F26.binds (ps := Zal) fun _ _ _ _ _ _ => us3 fun _ _ _ => rfl
 have F27 := Yg (st := vt) l27 c27 k27
 have b27 := F27.binds (ps := qM) fun _ _ _ _ _ _ => us1 fun _ => rfl
 have F28 := Yg (st := wn) l28 c28 k28
 have b28 := F28.binds (ps := Wz) fun _ _ _ _ _ _ => us1 fun _ => rfl
 have F29 := Yg (st := Zw) l29 c29 k29
 have b29 := F29.binds (ps := WQ) fun _ _ _ _ _ _ => us2 fun _ _ => rfl
 have F30 := Yg (st := wK) l30 c30 k30
 have b30 := F30.binds (ps := Xah) fun _ _ _ _ _ _ => us4 fun _ _ _ _ => rfl
 have F31 := Yg (st := XC) l31 c31 k31
 refine ⟨cW, hCW, uW "law" "law" (Xe XC) (jd XC) (Wb XC) .none kV31 dc31 pm31 an31 cd31 ct31, fun s v => .of_eq rfl, fun base kb _ hbm => ?_⟩
 have hC := PySem.W.codeHd_of_K kb hCW
 have h0 : Cal l.prog w K mg base "_law_box" 1 Ym := F0.cal (qaH F0 g9 jaB kaH) (uX X G a0) b0
 have h1 : Cal l.prog w K mg base "_law_mixed" 1 ki := F1.cal (vau F1 Xak Yat) (uX X G a1) b1
 have h2 : Cal l.prog w K mg base "_law_take" 2 ja := F2.cal (Zay F2 h1 g8 kar ZaC) (uX X G a2) b2
 have h3 : Cal l.prog w K mg base "_law_letters" 1 Wi := F3.cal (kac F3 waa kad) (uX X G a3) b3
 have h4 : Cal l.prog w K mg base "_law_named" 3 Yl := F4.cal (kat F4 h2 h3 g11 vam Zau) (uX X G a4) b4
 have h5 : Cal l.prog w K mg base "_law_places" 4 Zi := F5.cal (kak F5 h2 h4 g11 qad Xam) (uX X G a5) b5
 have h6 : Cal l.prog w K mg base "_law_day" 3 Xn := F6.cal (YaG F6 h2 ZaA jaH) (uX X G a6) b6
 have h7 : Cal l.prog w K mg base "_law_home" 4 Xk := F7.cal (Yay F7 h2 h6 g8 jas kaE) (uX X G a7) b7
 have h8 : Cal l.prog w K mg base "_law_deal" 3 Wk := F8.cal (vaD F8 h2 g8 Was Way) (uX X G a8) b8
 have h9 : Cal l.prog w K mg base "_law_grade" 3 kh := F9.cal (Xas F9 h2 g10 wam kau) (uX X G a9) b9
 have h10 : Cal l.prog w K mg base "_law_papers" 4 vh := F10.cal (kai F10 h8 h2 h9 g8 g9 g11 Zag kah) (uX X G a10) b10
 have h11 : Cal l.prog w K mg base "_law_count" 3 Yj := F11.cal (Wat F11 h2 jaj Xau) (uX X G a11) b11
 have h12 : Cal l.prog w K mg base "_law_prices" 3 Yi := F12.cal (Yal F12 h2 vad Yai) (uX X G a12) b12
 have h13 : Cal l.prog w K mg base "home_paper" 1 Zf := F13.cal (var F13 jai qat) (uX X G a13) b13
 have h14 : Cal l.prog w K mg base "believed_chain" 2 wg := F14.cal (W6 F14 h13 g0 g2 jX X6) (uX X G a14) b14
 have h15 : Cal l.prog w K mg base "whole_chain" 3 (Xj Pt) := F15.cal (Xaj (vbb (st := Xp) l15 c15) hC hbm h13 g0 g14 Xaf Zai) (uX X G a15) b15
 have h16 : Cal l.prog w K mg base "is_gap" 1 qi := F16.cal (jaR F16 g1 g3 kaP ZaZ) (uX X G a16) b16
 have h17 : Cal l.prog w K mg base "step_cost" 2 Wf := F17.cal (YaC F17 h16 Wau XaD) (uX X G a17) b17
 have h18 : Cal l.prog w K mg base "end_cost" 1 Wg := F18.cal (YaH F18 g8 kaA ZaI) (uX X G a18) b18
 have h19 : Cal l.prog w K mg base "most_worth" 3 Zl := F19.cal (vat F19 h17 h18 g8 g10 g11 qal jau) (uX X G a19) b19
 have h20 : Cal l.prog w K mg base "full_worths" 4 jj := F20.cal (Wai F20 h19 g8 g11 g12 Xad Zaj) (uX X G a20) b20
 have h21 : Cal l.prog w K mg base "told_story" 5 (qk Pt) := F21.cal (Yav F21 h15 h20 h18 h17 g2 g8 g11 qaj Yas) (uX X G a21) b21
 have h22 : Cal l.prog w K mg base "told_chain" 6 (jk Pt) := F22.cal (wau F22 h14 h21 Yaj Xat) (uX X G a22) b22
 have h23 : Cal l.prog w K mg base "neighbours" 1 vk := F23.cal (qau F23 g9 g17 Yam wat) (uX X G a23) b23
 have h24 : Cal l.prog w K mg base "pieces_between" 2 kg := F24.cal (j5 F24 h16 g0 g3 g4 g10 kX X5) (uX X G a24) b24
 have h25 : Cal l.prog w K mg base "joined" 1 Yq := F25.cal (YaT F25 YaR WaU) (uX X G a25) b25
 have h26 : Cal l.prog w K mg base "stays" 7 (wj Pt) := F26.cal (qa3 F26 h22 h23 h24 h25 g0 g3 kaU ka2) (uX X G a26) b26
 have h27 : Cal l.prog w K mg base "_law_whole" 1 Zj := F27.cal (qar F27 g5 g6 g7 wah Zas) (uX X G a27) b27
 have h28 : Cal l.prog w K mg base "_law_spans_kind" 2 Xg := F28.cal (Z0 F28 h27 g7 g8 g9 g11 g15 g16 ZX wY) (uX X G a28) b28
 have h29 : Cal l.prog w K mg base "_law_days" 1 Wm := F29.cal (vaC F29 g13 g14 kas qax) (uX X G a29) b29
 have h30 : Cal l.prog w K mg base "where" 8 (jq Pt) := F30.cal (Za6 F30 h26 g4 qaR Wa6) (uX X G a30) b30
 exact jbj (sp := jS Pt "whole_chain.<locals>.<lambda>") F31 h0 h5 h7 h10 h11 h12 h26 h28 h29 h2 h30 g6 g8 g11 g17 Xbc jbl
theorem Zbw {l : PySem.W.OpenLaw} {q : Program} {loose : List Str} {XP : (Str -> Option Value) -> Heap -> Prop} {YP : World -> Heap -> Prop} {d : DefRec} {K : Params -> uC} {Pt : Addr} (hn : l.most = some 63) (hdf : d.params.defaults = [])
  (hY : ∀ (w : World) (h : Heap), YP w h -> (K w.params).In h /\ h.get? Pt = some (xZ #[]))
  (F : ∀ (w : World) (mg : Str -> Option Value) (fa : Addr) (h : Heap), (K w.params).In h -> h.Ns mainGlobals mg -> mg d.name = some (.ref fa) →
   ∃ c : Addr, PySem.W.codeHdIn (K w.params) c Pt = true /\ ∃ fd : FuncData, (∀ (s : Shared) (u : Value), BindsTo s fd ⟨[u], []⟩ [("_law_script", u)]) /\ ∀ base : Heap, (K w.params).In base -> base.Ns mainGlobals mg -> kO mg base -> qh l.prog w (K w.params) mg base CX0 9 fa fd ["_law_script"] (jf (K w.params) (jS Pt "whole_chain.<locals>.<lambda>")))
  (hKt : ∀ w : World, PySem.W.noTabs (K w.params) = true) :
  PySem.W.WalkO q loose XP YP l.row.toRowW d [] (fun f vs => PySem.call f vs) := by
 refine Att.attach_call hn hdf fun w s₀ s₁ mg mb fa o pm cd doc a vs ns G Y ho hd hcd hmg hobj hints hlen hg => ?_
 obtain ⟨KX, hPt⟩ := hY w _ Y
 obtain ⟨c, hC, fd, hb, hF⟩ := F w mg fa _ KX G.T.g hmg
 obtain ⟨bm, ob, b1, b2, b3, b4, b5, b6⟩ := G.T.bmain
 exact jaV (CX := CX0) (k := 9) KX G.T.g G.T.b G.T.builtins G.T.nolimit hg ⟨bm, ob, b1, b2, b3, b4, b5, b6⟩ hPt (PySem.W.codeHd_of_K KX hC) (hKt w) hobj hints (xD hlen (by decide)) ⟨rfl, by decide, by decide⟩ hF hb (fun H hS hT => jbh hlen hS hT) fun H e s' z => z
end V15
open PySem PySem.W PyProof.Rows
theorem PySem.W.Fast.te15694486262382485080 : True := trivial
theorem PySem.W.Fast.tw8884628331681324404 : True := trivial
set_option maxRecDepth 100000 in
set_option maxHeartbeats 0 in
theorem PySem.Challenge.cw_vitrine_k13_whole_one_place_a_day_holds : PySem.Challenge.rw_vitrine_k13_whole_one_place_a_day.Holds := by
 w_on; o_law; k_head; (case hw => w_witness2)
 k_fill
 refine V15.Zbw (l := PySem.Challenge.rw_vitrine_k13_whole_one_place_a_day) rfl rfl (fun w h Y => ⟨PySem.W.km_in_of Y, PySem.W.km_tabs_of Y _ (List.Mem.head _)⟩) ?F ?hKt
 case F =>
  intro w mg fa h KX G hmg
  refine' V15.Wbp ?hCW KX G hmg ?a0 ?l0 ?c0 ?k0 ?a1 ?l1 ?c1 ?k1 ?a2 ?l2 ?c2 ?k2 ?a3 ?l3 ?c3 ?k3 ?a4 ?l4 ?c4 ?k4 ?a5 ?l5 ?c5 ?k5 ?a6 ?l6 ?c6 ?k6 ?a7 ?l7 ?c7 ?k7 ?a8 ?l8 ?c8 ?k8 ?a9 ?l9 ?c9 ?k9 ?a10 ?l10 ?c10 ?k10 ?a11 ?l11 ?c11 ?k11 ?a12 ?l12 ?c12 ?k12 ?a13 ?l13 ?c13 ?k13 ?a14 ?l14 ?c14 ?k14 ?a15 ?l15 ?c15 ?k15 ?a16 ?l16 ?c16 ?k16 ?a17 ?l17 ?c17 ?k17 ?a18 ?l18 ?c18 ?k18 ?a19 ?l19 ?c19 ?k19 ?a20 ?l20 ?c20 ?k20 ?a21 ?l21 ?c21 ?k21 ?a22 ?l22 ?c22 ?k22 ?a23 ?l23 ?c23 ?k23 ?a24 ?l24 ?c24 ?k24 ?a25 ?l25 ?c25 ?k25 ?a26 ?l26 ?c26 ?k26 ?a27 ?l27 ?c27 ?k27 ?a28 ?l28 ?c28 ?k28 ?a29 ?l29 ?c29 ?k29 ?a30 ?l30 ?c30 ?k30 ?a31 ?l31 ?c31 ?k31 ?z0 ?z1 ?z2 ?z3 ?z4 ?z5 ?z6 ?z7 ?z8 ?z9 ?z10 ?z11 ?z12 ?z13 ?z14 ?z15 ?z16 ?z17
  (case a0 => k_is)
  (case l0 => k_is)
  (case c0 => k_is)
  (case k0 => k_is)
  (case a1 => k_is)
  (case l1 => k_is)
  (case c1 => k_is)
  (case k1 => k_is)
  (case a2 => k_is)
  (case l2 => k_is)
  (case c2 => k_is)
  (case k2 => k_is)
  (case a3 => k_is)
  (case l3 => k_is)
  (case c3 => k_is)
  (case k3 => k_is)
  (case a4 => k_is)
  (case l4 => k_is)
  (case c4 => k_is)
  (case k4 => k_is)
  (case a5 => k_is)
  (case l5 => k_is)
  (case c5 => k_is)
  (case k5 => k_is)
  (case a6 => k_is)
  (case l6 => k_is)
  (case c6 => k_is)
  (case k6 => k_is)
  (case a7 => k_is)
  (case l7 => k_is)
  (case c7 => k_is)
  (case k7 => k_is)
  (case a8 => k_is)
  (case l8 => k_is)
  (case c8 => k_is)
  (case k8 => k_is)
  (case a9 => k_is)
  (case l9 => k_is)
  (case c9 => k_is)
  (case k9 => k_is)
  (case a10 => k_is)
  (case l10 => k_is)
  (case c10 => k_is)
  (case k10 => k_is)
  (case a11 => k_is)
  (case l11 => k_is)
  (case c11 => k_is)
  (case k11 => k_is)
  (case a12 => k_is)
  (case l12 => k_is)
  (case c12 => k_is)
  (case k12 => k_is)
  (case a13 => k_is)
  (case l13 => k_is)
  (case c13 => k_is)
  (case k13 => k_is)
  (case a14 => k_is)
  (case l14 => k_is)
  (case c14 => k_is)
  (case k14 => k_is)
  (case a15 => k_is)
  (case l15 => k_is)
  (case c15 => k_is)
  (case k15 => k_is)
  (case a16 => k_is)
  (case l16 => k_is)
  (case c16 => k_is)
  (case k16 => k_is)
  (case a17 => k_is)
  (case l17 => k_is)
  (case c17 => k_is)
  (case k17 => k_is)
  (case a18 => k_is)
  (case l18 => k_is)
  (case c18 => k_is)
  (case k18 => k_is)
  (case a19 => k_is)
  (case l19 => k_is)
  (case c19 => k_is)
  (case k19 => k_is)
  (case a20 => k_is)
  (case l20 => k_is)
  (case c20 => k_is)
  (case k20 => k_is)
  (case a21 => k_is)
  (case l21 => k_is)
  (case c21 => k_is)
  (case k21 => k_is)
  (case a22 => k_is)
  (case l22 => k_is)
  (case c22 => k_is)
  (case k22 => k_is)
  (case a23 => k_is)
  (case l23 => k_is)
  (case c23 => k_is)
  (case k23 => k_is)
  (case a24 => k_is)
  (case l24 => k_is)
  (case c24 => k_is)
  (case k24 => k_is)
  (case a25 => k_is)
  (case l25 => k_is)
  (case c25 => k_is)
  (case k25 => k_is)
  (case a26 => k_is)
  (case l26 => k_is)
  (case c26 => k_is)
  (case k26 => k_is)
  (case a27 => k_is)
  (case l27 => k_is)
  (case c27 => k_is)
  (case k27 => k_is)
  (case a28 => k_is)
  (case l28 => k_is)
  (case c28 => k_is)
  (case k28 => k_is)
  (case a29 => k_is)
  (case l29 => k_is)
  (case c29 => k_is)
  (case k29 => k_is)
  (case a30 => k_is)
  (case l30 => k_is)
  (case c30 => k_is)
  (case k30 => k_is)
  (case a31 => k_is)
  (case l31 => k_is)
  (case c31 => k_is)
  (case k31 => k_is)
  (case z0 => k_is)
  (case z1 => k_is)
  (case z2 => k_is)
  (case z3 => k_is)
  (case z4 => k_is)
  (case z5 => k_is)
  (case z6 => k_is)
  (case z7 => k_is)
  (case z8 => k_is)
  (case z9 => k_is)
  (case z10 => k_is)
  (case z11 => k_is)
  (case z12 => k_is)
  (case z13 => k_is)
  (case z14 => k_is)
  (case z15 => k_is)
  (case z16 => k_is)
  (case z17 => k_is)
  (case hCW => kernel_rfl)
 case hKt => exact fun w => by kernel_rfl
